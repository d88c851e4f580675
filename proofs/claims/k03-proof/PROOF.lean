import PyProof.Rows.All
import Wide.All
import OpenK.AllK
import Wide.FinOn
import HandS.ForMost
import HandS.Defaults
import HandS.MakeKwOnly
import HandS.Property
import HandS.Strs
import PyProof.StrWalks
import HandS.EndBits
import PyProof.ReprRoads
import HandS.ExcInit
import KE.KExcSuper
import HandS.WordsExc
import HandS.ExcValue
import HandS.ExcField
import HandS.IsInst
import KE.KExcIs
import HandS.ClsMeth
import HandS.SlotsOwn
import HandS.StrMore
import HandS.FStr
import HandS.Style
import PyProof.StrOps2
import PyProof.CallStr
import PyProof.ListStr
import HandS.Walk
import HandS.RaiseOp
import HandS.Codes
import PySem.Challenge.RW_rowgames_k03_order_of_rows
import PyProof.ReprLen
import HandS.CallSlots
import HandS.Star
import KE.GoesEnum
import PyProof.StrLawsTight
import HandS.GenList
import KE.LtData
import HandS.WordsDict
import HandS.Lambda
import PyProof.Rows.StrRev
import HandS.EndOwn
set_option Elab.async false
set_option maxRecDepth 100000
/-! Rules of my own over the hand layer: what a class of one's own says of len, [ ], in; a method called by keywords alone. -/
namespace Rg
open PySem L2 PySem.Spec PyProof.Rows
theorem rvRef (a : Addr) : RelV (.ref a) (Value.ref a) := rfl
section
variable {X : Cx} {CX : CXT} {k : Nat} {C f : Addr} {fd : FuncData} {ps : List Str} {sp : Sp} {E : XK} {pins : List (Addr × Obj)} {σ : L2.St} {H : Hp} {s : Shared}

/-- a def of the text, run one step further in -/
theorem runIn {Q : VK} {us : List Value} {vs : List V} (F : FnOk X.prog X.w X.K X.mg X.base CX k f fd ps sp) (room : Room (k + 1) X.A) (bd : Binds X.K fd ps []) (ex : Passes CX X E)
    (I : Inv X pins σ H s) (r : Vals vs us) (want : sp vs H Q E) : wpAny (model X.prog X.w) X.A.in1 (call (.ref f) us) (EP X pins σ Q) X.xe s := by
  have len : us.length = ps.length := r.length.symm.trans (F.len _ _ _ _ want)
  have bt : BindsTo s fd ⟨us, []⟩ (ps.zip us) := by
    have z := bd s us I.kIn (by rw [List.append_nil]; exact len)
    rw [List.append_nil] at z
    exact z
  refine wpAny_call (codeAny_mono (F.run X.A.in1 X.stack s H ⟨us, []⟩ us vs Q E room.in1 I.env0.in1 bt r want) fun res s' got => ?_)
  rcases res with e | fl
  · exact ex pins σ H s e s' I got
  · cases fl <;> first | exact I.after got | exact False.elim got

/-- the instance at a, as the walk's lemmas want it -/
theorem instAt {a dx : Addr} {fs : List (Str × V)} (I : Inv X pins σ H s) (e : H a = some (.ins C dx fs)) : ∃ od, PySem.W.InstAt s.heap a (PySem.W.instObj C dx) C od := by
  obtain ⟨mA, O, _⟩ := ins_get I.hok e
  obtain ⟨od, J, _⟩ := O.look
  exact ⟨od, J⟩

/-- len(o) -/
def rLen (C : Addr) (sp : Sp) (E : XK) : List V → Hp → VK → Prop := fun xs H Q => ∃ a dx fs, xs = [.ref a] ∧ H a = some (.ins C dx fs) ∧ sp [.ref a] H (fun v H' => ∃ n : Int, v = .int n ∧ 0 ≤ n ∧ n < 2 ^ 63 ∧ Q (.int n) H') E
theorem cr_len (F : FnOk X.prog X.w X.K X.mg X.base CX k f fd ps sp) (room : Room (k + 1) X.A) (bd : Binds X.K fd ps []) (ex : Passes CX X E)
    (at_ : PySem.W.findIn X.K (.ref C) "__len__" = some (some (.ref f))) (fn : PySem.W.isFn X.K (.ref f) = true) : CallR X (.builtin "len") (rLen C sp E) := by
  rintro pins s σ H xs us Q I r ⟨a, dx, fs, rfl, e, want⟩
  obtain ⟨od, J⟩ := instAt I e
  obtain ⟨m, fr⟩ := I.fr
  cases r with
  | cons r0 r1 =>
    cases r1
    cases r0
    refine PySem.W.len_K fr I.ok.mod.kin J at_ fn (thn (runIn F room bd ex I (.cons (rvRef a) .nil) want) ?_)
    rintro u s' ⟨v, H', I', rv, n, rfl, n0, n1, q⟩
    obtain ⟨t, rfl⟩ := rv
    exact ⟨⟨n0, n1⟩, .int n, H', I'.tok _, ⟨_, rfl⟩, q⟩

/-- o[i] -/
def rItem (C : Addr) (sp : Sp) (E : XK) : R2 := fun x y H Q => ∃ a dx fs, x = .ref a ∧ H a = some (.ins C dx fs) ∧ sp [x, y] H Q E
theorem pe_item {a b : Expr} {ta tb : TE} {pos : Pos} (F : FnOk X.prog X.w X.K X.mg X.base CX k f fd ps sp) (room : Room (k + 1) X.A) (bd : Binds X.K fd ps []) (ex : Passes CX X E)
    (at_ : PySem.W.findIn X.K (.ref C) "__getitem__" = some (some (.ref f))) (fi : PySem.W.fnIn X.K f = true) (fn : PySem.W.isFn X.K (.ref f) = true) (ha : PE X a ta) (hb : PE X b tb)
    (hs : ∀ o i, subscripted b true o i = runValue (.builtin "lifetime.subscript" ⟨[o, i], []⟩) := by intro _ _; with_unfolding_all rfl) : PE X (.Subscript a b pos) (tOp (rItem C sp E) ta tb) := by
  refine ⟨fun pins s σ H Q I h => Subscript_ (binT ha hb I h ?_)⟩
  rintro v u s2 x y H2 I2 rx ry ⟨o, dx, fs, rfl, e, want⟩
  obtain rfl : v = Value.ref o := rx
  obtain ⟨od, J⟩ := instAt I2 e
  obtain ⟨m, fr⟩ := I2.fr
  exact PySem.W.sub_K fr I2.ok.mod.kin J at_ fi fn (runIn F room bd ex I2 (.cons (rvRef o) (.cons ry .nil)) want) (hs _ _)

/-- x in o, x not in o -/
def rHas (neg : Bool) (C : Addr) (sp : Sp) (E : XK) : R2 := fun x y H Q => ∃ a dx fs, y = .ref a ∧ H a = some (.ins C dx fs) ∧ sp [y, x] H (fun v H' => ∃ b, v = .bl b ∧ Q (.bl (if neg then !b else b)) H') E
theorem op_has (F : FnOk X.prog X.w X.K X.mg X.base CX k f fd ps sp) (room : Room k X.A) (bd : Binds X.K fd ps []) (ex : Passes CX X E)
    (at_ : PySem.W.findIn X.K (.ref C) "__contains__" = some (some (.ref f))) (fn : PySem.W.isFn X.K (.ref f) = true) : OpR X (compareOp .In) (rHas false C sp E) := by
  rintro pins s σ H x y v u Q I rx ry ⟨a, dx, fs, rfl, e, want⟩
  obtain rfl : u = Value.ref a := ry
  obtain ⟨od, J⟩ := instAt I e
  obtain ⟨m, fr⟩ := I.fr
  refine PySem.W.in_K fr I.ok.mod.kin J at_ fn (thn (run_fn (ds := []) (dvs := []) F room bd .nil ex I (.cons (rvRef a) (.cons rx .nil)) want) ?_)
  rintro z s' ⟨v', H', I', rv, b, rfl, q⟩
  obtain rfl : z = Value.bool b := rv
  exact wpAny_truthy_bool ⟨.bl b, H', I', rfl, q⟩
theorem op_hasnt (F : FnOk X.prog X.w X.K X.mg X.base CX k f fd ps sp) (room : Room k X.A) (bd : Binds X.K fd ps []) (ex : Passes CX X E)
    (at_ : PySem.W.findIn X.K (.ref C) "__contains__" = some (some (.ref f))) (fn : PySem.W.isFn X.K (.ref f) = true) : OpR X (compareOp .NotIn) (rHas true C sp E) := by
  rintro pins s σ H x y v u Q I rx ry ⟨a, dx, fs, rfl, e, want⟩
  obtain rfl : u = Value.ref a := ry
  obtain ⟨od, J⟩ := instAt I e
  obtain ⟨m, fr⟩ := I.fr
  refine PySem.W.notIn_K fr I.ok.mod.kin J at_ fn (thn (run_fn (ds := []) (dvs := []) F room bd .nil ex I (.cons (rvRef a) (.cons rx .nil)) want) ?_)
  rintro z s' ⟨v', H', I', rv, b, rfl, q⟩
  obtain rfl : z = Value.bool b := rv
  exact wpAny_truthy_bool ⟨.bl (!b), H', I', rfl, q⟩

/-- o.m(k = v, ..), no value by place -/
def tMethK (C : Addr) (m : Str) (sp : Sp) (gV : List V → List V → List V) (n : Nat) (E : XK) (ta : TE) (tk : TA) : TE := fun σ H Q => ta σ H fun x H1 => ∃ a dx fs, x = .ref a ∧ H1 a = some (.ins C dx fs) ∧ fs.lookup m = none ∧
  tk σ H1 fun zs H2 => zs.length = n ∧ sp (gV [x] zs) H2 Q E
theorem pe_methK {pl : Sem Bool} {o : Expr} {m : Str} {kws : List Keyword} {ks : List Str} {ta : TE} {tk : TA} {pos apos : Pos} {g : List Value → List Value → List Value} {gV : List V → List V → List V}
    (he : PE X o ta) (c : Cls X.K C) (hm : Meth X.K C m f) (F : FnOk X.prog X.w X.K X.mg X.base CX k f fd ps sp) (room : Room k X.A) (kb : KBn X.K fd ps 1 ks g gV) (ex : Passes CX X E) (hk : PK X kws tk)
    (hall : (backToKw pos (keywordEach kws X.env)).all (·.1.isSome) = true := by rfl) (hks : (backToKw pos (keywordEach kws X.env)).filterMap (·.1) = ks := by rfl)
    (hpl : ((backTo pos (starEach [] X.env)).any (·.1) || (backToKw pos (keywordEach kws X.env)).any (·.1.isNone)) = false := by rfl)
    (ht : eval (.Call (.Attribute o m apos) [] kws pos) X.env = (do
      let ov ← eval o X.env
      standAt apos.atName
      let (f, first) ← holding [ov] (getMethod ov m pl)
      callWith pos f first (backTo pos (starEach [] X.env)) (backToKw pos (keywordEach kws X.env))) := by rfl) :
    PE X (.Call (.Attribute o m apos) [] kws pos) (tMethK C m sp gV ks.length E ta tk) := by
  refine ⟨fun pins s σ H Q I h => PySem.W.methodCall_KW (pl := pl) (thn (he.run pins s σ H _ I h) ?_) ht⟩
  rintro u s1 ⟨x, H1, I1, rx, a, dx, fs, rfl, e, no, q⟩
  obtain rfl : u = Value.ref a := rx
  refine getmeth_ok I1 e c hm no (PySem.W.callWith_KW0 (first := [.ref a]) (h₀ := X.base) I1.ok.mod.kin hm.kp hall (thn (hk.run pos pins s1 σ H1 _ I1 q) ?_) hpl)
  rintro ws s2 ⟨zs, H2, I2, rz, lz, want⟩
  refine ⟨I2.kIn, ?_⟩
  rw [hks]
  have lw : ws.length = ks.length := rz.length.symm.trans lz
  have rr : Vals (gV [V.ref a] zs) (g [Value.ref a] ws) := kb.rel (.cons (rvRef a) .nil) rz
  refine wpAny_call (codeAny_mono (F.run X.A X.stack s2 H2 ⟨[.ref a], ks.zip ws⟩ (g [.ref a] ws) (gV [.ref a] zs) Q E room I2.env0 (kb.to s2 [.ref a] ws I2.kIn rfl lw) rr want) fun res s' got => ?_)
  rcases res with er | fl
  · exact ex pins σ H2 s2 er s' I2 got
  · cases fl <;> first | exact I2.after got | exact False.elim got
end
end Rg
set_option Elab.async false
set_option maxRecDepth 100000
/-! len(set(text)) where no sign stands twice. -/
namespace Rg
open PySem L2 PySem.Spec PyProof.Rows
section
variable {prog : Program} {w : World} {A : Around}
/-- the signs of a text, each a text -/
def signs (x : Str) : List Str := x.cps.toList.map fun c => ⟨#[c]⟩
theorem signs_len (x : Str) : (signs x).length = x.cps.size := by unfold signs; simp
theorem signAt {x : Str} {i : Nat} {v : Value} (h : SignAt x i v) : ∃ z t, (signs x)[i]? = some z ∧ v = .str z t := by
  obtain ⟨c, u, e, rfl⟩ := h
  refine ⟨⟨#[c]⟩, u, ?_, rfl⟩
  unfold signs
  rw [List.getElem?_map, Array.getElem?_toList, e] <;> rfl
theorem take_has {zs : List Str} {i : Nat} {z : Str} (e : zs[i]? = some z) (k : Str) : ((zs.take i).any (· == k) || decide (k = z)) = (zs.take (i + 1)).any (· == k) := by
  rw [List.take_add_one, e, List.any_append]
  congr 1
  by_cases h : k = z
  · subst h; simp
  · have h' : (z == k) = false := by simpa using fun q : z = k => h q.symm
    simp [h, h']
theorem take_no {zs : List Str} {i : Nat} {z : Str} (nd : zs.Nodup) (e : zs[i]? = some z) : (zs.take i).any (· == z) = false := by
  rw [Bool.eq_false_iff]
  intro q
  obtain ⟨y, hy, ey⟩ := List.any_eq_true.mp q
  have : y = z := by simpa using ey
  subst this
  obtain ⟨j, hj, ej⟩ := List.getElem_of_mem hy
  rw [List.length_take] at hj
  obtain ⟨hi, ei⟩ := List.getElem?_eq_some_iff.mp e
  rw [List.getElem_take] at ej
  exact absurd (ej.trans ei.symm) (List.pairwise_iff_getElem.mp nd j i (by omega) hi (by omega))

/-- the loop of set(..) over a walk that hands out the texts zs -/
theorem fill {R : Result → Shared → Prop} {it S : Addr} {fp wr : List Addr} {G : Array GenState → Array GenState → Prop} {n : Nat} {P : Nat → Value → Prop} {St : Nat → Shared → Prop}
    (W : WalksS prog w A.in1 it fp wr G n P St) (far : S ∉ fp) (zs : List Str) (nd : zs.Nodup) (zn : zs.length = n) (few : n + 1 < scanBound) (val : ∀ i v, P i v → ∃ z t, zs[i]? = some z ∧ v = .str z t) (j : Nat) :
    ∀ (i : Nat) (s : Shared), i + j = n → St i s → s.heap.SetOf (PySem.strKind prog w) S (fun k => (zs.take i).any (· == k)) i →
      (∀ s', Moved (S :: wr) G s s' → s'.heap.SetOf (PySem.strKind prog w) S (fun k => (zs.take n).any (· == k)) n → R (.ok (.ret .none)) s') →
      codeAny (model prog w) A (.builtin "set.update.loop" ⟨[.ref S, .ref it], []⟩) R s := by
  have far' : S ∉ wr := fun q => far (W.sub _ q)
  have more : ∀ b ∈ wr, b ∈ S :: wr := fun _ q => List.mem_cons_of_mem _ q
  have keepS : ∀ {s s' : Shared} {f : Str → Bool} {m : Nat}, Moved wr G s s' → s.heap.SetOf (PySem.strKind prog w) S f m → s'.heap.SetOf (PySem.strKind prog w) S f m :=
    fun mv ⟨o, es, ep, t, ho, r⟩ => ⟨o, es, ep, t, mv.heap S _ far' ho, r⟩
  induction j with
  | zero =>
    intro i s hi st hS out
    obtain rfl : i = n := by omega
    refine codeAny_builtin PyProof.Rows.F.entry_set_update_loop ?_; rw [Around.under_plainId PyProof.Rows.F.plain_set_update_loop _]
    show wpAny _ A.in1 (pyNext (.ref it) >>= _) _ _ s; refine wpAny_bind (W.done s _ _ st fun s' mv => ?_)
    exact wpAny_pure (out s' (mv.mono more) (keepS mv hS))
  | succ j ih =>
    intro i s hi st hS out
    refine codeAny_builtin PyProof.Rows.F.entry_set_update_loop ?_; rw [Around.under_plainId PyProof.Rows.F.plain_set_update_loop _]
    show wpAny _ A.in1 (pyNext (.ref it) >>= _) _ _ s; refine wpAny_bind (W.item i s _ _ (by omega) st fun v s' hP st' mv => ?_)
    obtain ⟨z, t, ez, rfl⟩ := val i v hP
    have hS' := keepS mv hS
    show wpAny _ A.in1 (holding [Value.str z t] (setAdd S (.str z t)) >>= _) _ _ s'
    refine wpAny_bind (wpAny_holding ?_); unfold setAdd; refine wpAny_holding (wpAny_bind ((PySem.strKind prog w).pyHash (k := z) (strKind_is _ _ _ _) ?_))
    refine wpAny_setAddHashed_of (knd := PySem.strKind prog w) (s := { s' with toks := s'.toks + 1 }) (strKind_is _ _ _ _) rfl hS' (by omega) fun h' same new => ?_
    have new' : h'.SetOf (PySem.strKind prog w) S (fun k => (zs.take (i + 1)).any (· == k)) (i + 1) :=
      SetOf_congr new (fun k => take_has ez k) (by rw [take_no nd ez]; rfl)
    have other : ∀ b, b ≠ S → ∀ o, s'.heap.get? b = some o → h'.get? b = some o := fun b hb o e => (same.2 b hb).trans e
    refine wpAny_pure ⟨plainId_quiet PyProof.Rows.F.plain_set_update_loop _, ih (i + 1) _ (by omega) (W.frame _ s' _ _ st' (Nat.le_succ _) fun b hb o e => other b (fun q => far (q ▸ hb)) o e) new' fun s2 mv2 hS2 => ?_⟩
    exact out s2 (Moved.trans W.gtrans ((mv.mono more).then_heap (Nat.le_succ _) fun b o hb e => other b (fun q => hb (q ▸ List.mem_cons_self)) o e) mv2) hS2
end

section
variable {prog : Program} {w : World} {A : Around} {E : Value → Shared → Prop} {s : Shared}
abbrev bare (led : Bool) : Obj := { cls := .type "set", dict := none, data := .set #[] 0 (.fresh 0 0 led) }
set_option maxHeartbeats 3200000 in
theorem set_text {x : Str} {t : Tok} {Q : Value → Shared → Prop} (calm : A.handled = none) (nd : (signs x).Nodup) (few : x.cps.size + 1 < scanBound)
    (out : ∀ (h' : Heap) (tk : Nat), h'.SetOf (PySem.strKind prog w) s.heap.objs.size (fun k => ((signs x).take x.cps.size).any (· == k)) x.cps.size →
      (∀ b o, s.heap.get? b = some o → h'.get? b = some o) → Q (.ref s.heap.objs.size) { s with heap := h', toks := tk }) :
    wpAny (model prog w) A (call (.type "set") [.str x t]) Q E s := by
  obtain ⟨c, tl, hmro⟩ := PySem.F.called_set.mro
  have hmade := PySem.F.called_set.made
  have hsub := PySem.F.called_set.sub
  refine wpAny_call (codeAny_of_tree ?_); show wpAny _ _ (callAny (.type "set") _) _ _ _
  refine wpAny_pure ⟨Code.quiet_builtin _ (by decide +kernel), codeAny_builtin PySem.F.entry_type_call ?_⟩
  rw [Around.under_plain (weight_type_call_type "set" [.str x t] []) rfl]
  have h1 := PySem.F.called_set.notType
  have h2 := PySem.F.called_set.canCreate
  have hct := PySem.F.typeCall_set_1 (.str x t)
  repeat (any_goals (first | assumption | wp_step))
  refine codeAny_mono (code_set_new_1 (.str x t) (E := E) (Q₁ := fun v s1 => ∃ led : Bool, v = .ref s.heap.objs.size ∧ s1 = { s with heap := s.heap.push (bare led) }) fun led => ⟨led, rfl, rfl⟩) fun r s1 got => ?_
  rcases r with e | fl
  · exact got
  cases fl <;> first | exact got.elim | skip
  obtain ⟨led, rfl, rfl⟩ := got
  have hS : (s.heap.push (bare led)).get? s.heap.objs.size = some (bare led) := Heap.get?_push_size _ rfl
  have hT : Shared.TypeIs { s with heap := s.heap.push (bare led) } (.ref s.heap.objs.size) "set" := ⟨_, hS, rfl⟩
  have hli := PySem.F.called_set.init.lookup
  have hbi := PySem.F.called_set.init.bind (.ref s.heap.objs.size)
  repeat (any_goals (first | assumption | wp_step))
  refine codeAny_mono (codeAny_call_builtin (R := wants (fun r s2 => r = .none ∧ ∃ h' tk, s2 = { s with heap := h', toks := tk } ∧ h'.SetOf (PySem.strKind prog w) s.heap.objs.size (fun k => ((signs x).take x.cps.size).any (· == k)) x.cps.size ∧
      (∀ b o, s.heap.get? b = some o → h'.get? b = some o)) E) PySem.F.called_set.init.plain PySem.F.entry_set_init (check_set_init_1 hT ?_)) fun r2 s2 got2 => ?_
  · have e1 := PySem.F.sub_str_set
    have e2 := PySem.F.sub_str_frozenset
    unfold Builtin.«set.__init__» noKeywords Builtin.Frozenset.updateFrom
    generalize hPI : pyIter = PI
    wp_walk
    subst hPI
    refine wpAny_pyIter_str fun o St W st0 => wpAny_bind (wpAny_runValue ?_)
    have lt : s.heap.objs.size < (s.heap.push (bare led)).objs.size := by rw [Heap.size_push]; exact Nat.lt_succ_self _
    have apart : s.heap.objs.size ∉ [(s.heap.push (bare led)).objs.size] := fun q => absurd (List.mem_singleton.mp q) (Nat.ne_of_lt lt)
    refine fill ((W _ (by simp [calm])).toS) apart (signs x) nd (signs_len x) few (fun i v q => signAt q) x.cps.size 0 _ (Nat.zero_add _) st0 ?_ ?_
    · exact SetOf_congr ((setObjOf_fresh (knd := PySem.strKind prog w) led).setOf (Heap.get?_push_of_some _ hS) (by unfold scanBound; omega)) (fun _ => rfl) rfl
    · rintro ⟨h', g', d', tk', os'⟩ mv hS'
      obtain rfl : g' = s.gens := mv.gens
      obtain rfl : d' = s.drawn := mv.drawn
      obtain rfl : os' = s.os := mv.os
      refine wpAny_pure (wpAny_pure ⟨rfl, h', tk', rfl, hS', fun b o q => ?_⟩)
      have nb : b < s.heap.objs.size := Heap.lt_size q
      refine mv.heap b o ?_ (Heap.get?_push_of_some _ (Heap.get?_push_of_some _ q))
      intro m
      rcases List.mem_cons.mp m with e | m
      · exact absurd e (Nat.ne_of_lt nb)
      · exact absurd (List.mem_singleton.mp m) (Nat.ne_of_lt (Nat.lt_trans nb lt))
  · rcases r2 with e | fl2
    · exact got2
    cases fl2 <;> first | exact got2.elim | skip
    obtain ⟨rfl, h', tk, rfl, hS', keep⟩ := got2
    repeat (any_goals (first | assumption | wp_step))
    exact out _ _ hS' keep
end

section
variable {X : Cx}
/-- len(set(x)), x a text of few signs, none twice -/
def tLenSet (ta : TE) : TE := fun σ H Q => ta σ H fun v H1 => ∃ x : Str, v = .str x ∧ (signs x).Nodup ∧ x.cps.size ≤ 100 ∧ Q (.int x.cps.size) H1
theorem pe_lenSetT {a : Expr} {ta : TE} {p p2 q pos : Pos} (hc : X.calm = true) (g1 : Gl X "len") (m1 : X.mg "len" = none) (g2 : Gl X "set") (m2 : X.mg "set" = none) (ha : PE X a ta)
    (na : starEach [a] X.env = (false, eval a X.env) :: starEach [] X.env := by rfl) : PE X (.Call (.Name "len" p) [.Call (.Name "set" p2) [a] [] q] [] pos) (tLenSet ta) := by
  refine ⟨fun pins s σ H Q I h => Call_ (ld_blt I g1 m1 PySem.boot_len (callWith_builtin1 (args_cons (Call_ (ld_blt I g2 m2 boot_set (callWith_type1 (args_cons (thn (ha.run pins s σ H _ I h) ?_) na) na rfl))) rfl) rfl rfl))⟩
  rintro v s1 ⟨y, H1, I1, r1, x, rfl, nd, few, q1⟩
  obtain ⟨t, rfl⟩ := r1
  refine args_nil (set_text (I1.ok.hd hc) nd (by unfold scanBound; omega) fun h' tk hS keep => args_nil ?_)
  obtain ⟨o, es, ep, tb, ho, hex, hd, _, _, _, hf, hn⟩ := hS
  have I2 : Inv X pins σ H1 { s1 with heap := h', toks := tk } := I1.kept fun b o e => keep b o e
  exact call_len_set ho hex hd hf (by rw [hn]; omega) ⟨.int x.cps.size, H1, I2.tok _, ⟨_, by rw [hn]⟩, q1⟩
end
end Rg
set_option Elab.async false
set_option maxRecDepth 100000
/-! A def that is told that no repr runs around it; repr of data; the law's end with such a def. -/
namespace Rg
open PySem L2 PySem.Spec PyProof.Rows

/-- as FnOk, where nothing guards around the call -/
structure FnG (P : Program) (w : World) (K : PySem.W.Frag) (mg : Str → Option Value) (base : Heap) (CX : CXT) (k : Nat) (f : Addr) (fd : FuncData) (ps : List Str) (sp : Sp) : Prop where
  len : ∀ vs H Q E, sp vs H Q E → vs.length = ps.length
  run : ∀ (A : Around) (outer : List Env) (s : Shared) (H : Hp) (args : Args) (us : List Value) (vs : List V) (Q : VK) (E : XK), A.guards = some [] → Room k A → Env0 P w K mg base A outer s H → BindsTo s fd args (ps.zip us) → Vals vs us → sp vs H Q E →
    codeAny (model P w) A (.call (.ref f) args) (CR CX outer P w H s Q E) s

section
variable {P : Program} {w : World} {K : PySem.W.Frag} {mg : Str → Option Value} {base : Heap}
theorem funG {x qual : Str} {st : Stmt} {f : Addr} {fd : FuncData} {N ps : List Str} {k : Nat} {sp : Sp} (F : Fun K x qual st f fd) (S : FnScope N ps (defScope st)) (len : ∀ vs H Q E, sp vs H Q E → vs.length = ps.length)
    (body : ∀ (cdv : Value) (A : Around) (outer : List Env) (s : Shared) (H : Hp) (vs : List V) (Q : VK) (E : XK), A.guards = some [] → Room k (A.deeper (envOfC qual (defScope st) s.heap.objs.size f cdv)) → sp vs H Q E →
      ∃ t, PSs (cxOf CX0 P w K mg base N qual (defScope st) f cdv A outer s H E).nox (defBody st) t ∧ t { nx := fun _ H' => Q .non H', rt := Q } (start N vs) H) : FnG P w K mg base CX0 (k + 1) f fd ps sp := by
  obtain ⟨oc, od, kV, doc, pm, an, cdv, ct, osl, rfl, lk, hcd⟩ := F.ex
  refine ⟨len, fun A outer s H args us vs Q E hg hr e0 hb r want => ?_⟩
  have there : ∀ b o, base.get? b = some o → s.heap.get? b = some o := fun b o e => (e0.bs b o e).1
  have KX := e0.mod.kin.keeps there
  have kinds : ∀ y ∈ ps.zip us, (defScope st).names.lookup y.1 = some .local ∨ ((defScope st).names.lookup y.1 = some .cell ∧ ((cellsFrom (s.heap.objs.size + 1) (defScope st).names []).lookup y.1).isSome = true) := by
    rintro ⟨n, v⟩ hy
    rcases S.par n (List.of_mem_zip hy).1 with q | q
    · exact Or.inl q
    · exact Or.inr ⟨q, PySem.W.cellsFrom_some _ _ _ (Or.inl q)⟩
  refine codeAny_call_function hr.depth (KX _ _ lk) rfl S.co S.gen rfl (PySem.W.codeRec_of KX hcd) (hb _ _ _ _ (wpAny_newFunctionEnv_cells S.kind kinds ?_))
  intro env he s1 x
  subst he
  obtain ⟨t, ht, q⟩ := body cdv A outer s H vs Q E hg (hr.deeper _) want
  have I : Inv (cxOf CX0 P w K mg base N qual (defScope st) f cdv A outer s H E) [] (start N vs) H s1 := inv_start S hr.hd e0 (len _ _ _ _ want) r x
  refine ⟨(e0.mod.nolimit.keeps there).keeps x.toInCall.keep, codeAny_func (wpAny_mono (ht.nox.run [] s1 (start N vs) H _ I q) ?_ fun _ _ z => z)⟩
  intro fl s2 out
  cases fl with
  | ret u => obtain ⟨v, _, H2, J, rv, q2⟩ := out; exact ⟨v, H2, J.os, J.bare, J.base, J.hok, rv, q2⟩
  | next => obtain ⟨_, H2, J, q2⟩ := out; exact ⟨V.non, H2, J.os, J.bare, J.base, J.hok, rfl, q2⟩
  | brk => obtain ⟨_, _, _, q2⟩ := out; exact q2.elim
  | cont => obtain ⟨_, _, _, q2⟩ := out; exact q2.elim
end

section
variable {X : Cx} {CX : CXT} {k : Nat} {f : Addr} {fd : FuncData} {ps : List Str} {sp : Sp} {E : XK} {x : Str} {p pos : Pos} {e : Expr} {es : List Expr} {t : TA}
/-- f(e, ..), f such a def -/
theorem pe_callG (hg0 : X.A.guards = some []) (F : FnG X.prog X.w X.K X.mg X.base CX k f fd ps sp) (hr : Room k X.A) (hg : Gl X x) (hm : X.mg x = some (.ref f)) (hk : PySem.W.keepIn X.K (.ref f) = true) (bd : Binds X.K fd ps []) (ex : Passes CX X E)
    (ha : PA X (e :: es) t) (hdb : (x == ("__debug__" : Str)) = false := by decide) (he : starEach (e :: es) X.env = (false, eval e X.env) :: starEach es X.env := by rfl) (hpl : (backTo pos (starEach es X.env)).any (·.1) = false := by rfl) :
    PE X (.Call (.Name x p) (e :: es) [] pos) (tCall sp [] E t) := by
  refine ⟨fun pins s σ H Q I h => wpAny_Call_Name_kw (ld_glob I hg hm (PySem.W.callWith_K (h₀ := X.base) I.ok.mod.kin hk (thn (ha.run pos pins s σ H _ I h) ?_) he hpl) hdb)⟩
  rintro us s1 ⟨vs, H1, I1, r, want⟩
  rw [List.append_nil] at want
  refine ⟨I1.kIn, ?_⟩
  have len : us.length = ps.length := r.length.symm.trans (F.len _ _ _ _ want)
  have bt : BindsTo s1 fd ⟨us, []⟩ (ps.zip us) := by
    have z := bd s1 us I1.kIn (by rw [List.append_nil]; exact len)
    rw [List.append_nil] at z
    exact z
  refine wpAny_call (codeAny_mono (F.run X.A X.stack s1 H1 ⟨us, []⟩ us vs Q E hg0 hr I1.env0 bt r want) fun res s' got => ?_)
  rcases res with er | fl
  · exact ex pins σ H1 s1 er s' I1 got
  · cases fl <;> first | exact I1.after got | exact False.elim got
end

/-! ### repr -/
section
/-- how a value of the layer reads as data: no dict, no object of one's own -/
inductive Rp (K : PySem.W.Frag) (H : Hp) : V → PyData → Prop
  | non : Rp K H .non .none
  | bl (b) : Rp K H (.bl b) (.bool b)
  | int (i) : Rp K H (.int i) (.int i)
  | str (x) : Rp K H (.str x) (.str x)
  | lst {a xs ds} : SqL K H a xs → Paired (Rp K H) xs ds → Rp K H (.ref a) (.list ds)
  | tup {a xs ds} : SqT K H a xs → Paired (Rp K H) xs ds → Rp K H (.ref a) (.tuple ds)
variable {X : Cx} {pins : List (Addr × Obj)} {σ : L2.St} {H : Hp} {s : Shared}
mutual
theorem Rp.reads (I : Inv X pins σ H s) : ∀ {v : V} {d : PyData} {u : Value}, Rp X.K H v d → RelV v u → ∃ as, Reads s.heap u d as
  | _, _, _, .non, r => by cases r; exact ⟨_, .none⟩
  | _, _, _, .bl b, r => by cases r; exact ⟨_, .bool b⟩
  | _, _, _, .int i, r => by obtain ⟨t, rfl⟩ := r; exact ⟨_, .int i t⟩
  | _, _, _, .str x, r => by obtain ⟨t, rfl⟩ := r; exact ⟨_, .str x t⟩
  | _, _, _, .lst h all, r => by
    cases r
    obtain ⟨its, rv, ⟨o, n, eo, hc, _, hd⟩, _⟩ := I.list h
    obtain ⟨as, ra⟩ := Rp.readsAll I all rv
    exact ⟨_, .list eo hc hd ra⟩
  | _, _, _, .tup h all, r => by
    cases r
    obtain ⟨its, rv, ⟨o, eo, hc, n, hd⟩, _⟩ := I.tuple h
    obtain ⟨as, ra⟩ := Rp.readsAll I all rv
    exact ⟨_, .tuple eo hc hd ra⟩
theorem Rp.readsAll (I : Inv X pins σ H s) : ∀ {vs : List V} {ds : List PyData} {us : List Value}, Paired (Rp X.K H) vs ds → Vals vs us → ∃ as, ReadsAll s.heap us ds as
  | _, _, _, .nil, .nil => ⟨_, .nil⟩
  | _, _, _, .cons a b, .cons r t => by
    obtain ⟨as, h1⟩ := Rp.reads I a r
    obtain ⟨bs, h2⟩ := Rp.readsAll I b t
    exact ⟨_, .cons h1 h2⟩
end
/-- repr(v), v a list of data -/
def rRepr (K : PySem.W.Frag) : List V → Hp → VK → Prop := fun vs H Q => ∃ a d, vs = [.ref a] ∧ Rp K H (.ref a) d ∧ d.showable = true ∧ d.hasDict = false ∧ d.depth ≤ 20 ∧ d.shown.length ≤ sizeLine ∧ Q (.str d.shown) H
theorem cr_repr (hg : X.A.guards = some []) (hr : Room 0 X.A) : CallR X (.builtin "repr") (rRepr X.K) := by
  rintro pins s σ H xs us Q I r ⟨a, d, rfl, rd, h1, h2, h3, h4, q⟩
  cases r with
  | cons r0 r1 =>
    cases r1
    obtain ⟨as, R⟩ := Rp.reads I rd r0
    cases r0
    refine repr_of_reads' R h1 (fun z => absurd (h2.symm.trans z) Bool.false_ne_true) hg (by have := hr.un; omega) (fun _ _ e => e) (fun h' u tk keep => ?_) h4
    exact ⟨.str d.shown, H, I.kept keep, ⟨u, rfl⟩, q⟩
end

/-! ### the law's end -/
theorem lawG {P : Program} {w : World} {K : PySem.W.Frag} {mg mb : Str → Option Value} {k : Nat} {fa a : Addr} {fd : FuncData} {x : Str} {sp : Sp} {s₁ : Shared} {vs : List Value} {ns : List Int}
    (KX : K.In s₁.heap) (hns : s₁.heap.Ns mainGlobals mg) (hb : s₁.heap.Ns builtinsNs mb) (hbb : ∀ x : Str, x ≠ "__name__" → mb x = bootBuiltins x) (hlim : s₁.heap.NoLimit) (hg : s₁.gens = #[])
    (ha : s₁.heap.get? a = some { cls := .type "list", data := .seq vs.toArray }) (hi : IntsAre vs ns) (hl : ns.length ≤ sizeLine) (hr : Room k callerA)
    (F : ∀ base : Heap, K.In base → base.Ns mainGlobals mg → FnG P w K mg base CX0 k fa fd [x] sp) (bind : ∀ (s : Shared) (u : Value), BindsTo s fd ⟨[u], []⟩ [(x, u)])
    (want : ∀ H : Hp, Only H → SqL K H a (ns.map V.int) → sp [.ref a] H (fun v _ => v = .bl true) fun _ _ _ => False) :
    codeAny (model P w) callerA (.call (.ref fa) ⟨[.ref a], []⟩) (fun r s' => r = .ok (.ret (.bool true)) ∧ OldK s₁.heap s'.heap ∧ s'.os = s₁.os ∧ AllBare s'.gens) s₁ := by
  have rv := vals_ints hi
  have ln := hi.length
  -- H tracks the script at most
  have main : ∀ H : Hp, Only H → SqL K H a (ns.map V.int) → HOk P w H s₁.heap → (∀ b, H b ≠ none → b = a ∧ K.lookup a = none) →
      codeAny (model P w) callerA (.call (.ref fa) ⟨[.ref a], []⟩) (fun r s' => r = .ok (.ret (.bool true)) ∧ OldK s₁.heap s'.heap ∧ s'.os = s₁.os ∧ AllBare s'.gens) s₁ := by
    intro H only seq hok few
    have none_of : ∀ {b : Addr}, ¬ (b = a ∧ K.lookup a = none) → H b = none := fun {b} z => Decidable.by_contra fun q => z (few b q)
    have dicts : ∀ {b : Addr} {m : Str → Option Value}, s₁.heap.Ns b m → (hidT s₁.heap H).Ns b m := by
      rintro b m ⟨o, es, ep, e, d, r⟩
      refine ⟨o, es, ep, hidT_get e (none_of ?_), d, r⟩
      rintro ⟨rfl, _⟩
      cases ha.symm.trans e
      cases d
    have KB : K.In (hidT s₁.heap H) := fun b o e => hidT_get (KX b o e) (none_of (by
      rintro ⟨rfl, z⟩
      cases z.symm.trans e))
    have M : Mod K mg (hidT s₁.heap H) := ⟨KB, dicts hns, ⟨mb, dicts hb, hbb⟩, let ⟨mc, h1, h2⟩ := hlim; ⟨mc, dicts h1, h2⟩⟩
    have none0 : ∀ b, b ∉ frs ([] : List Env) := fun b => by unfold frs; simp
    have e0 : Env0 P w K mg (hidT s₁.heap H) callerA [] s₁ H := ⟨rfl, M, fun b o e => of_hidT e, Nat.le_of_eq (hidT_size _ _), trivial, fun b q => absurd q (none0 b), hok, .of_eq hg⟩
    refine codeAny_mono ((F _ KB (dicts hns)).run callerA [] s₁ H ⟨[.ref a], []⟩ [.ref a] [.ref a] _ _ rfl hr e0 (bind s₁ (.ref a)) (.cons rfl .nil) (want H only seq)) fun r s' got => ?_
    rcases r with er | fl
    · exact False.elim got
    cases fl <;> first | exact False.elim got | skip
    obtain ⟨v, H', os, bare, un, hok', r', q⟩ := got
    subst q
    cases r'
    refine ⟨rfl, OldK.of_keep fun b o e => ?_, os, bare⟩
    rcases only b with z | ⟨ob, xs, z⟩
    · exact un.keep b o e z (none0 b) (by simp)
    · obtain ⟨e1, _⟩ := hok b _ z
      obtain ⟨e2, _⟩ := hok' b _ (un.frzs b ob _ z)
      cases e1.symm.trans e
      exact e2
  cases hk : K.lookup a with
  | some o =>
    have e := KX a o hk
    cases ha.symm.trans e
    exact main (fun _ => none) (fun _ => Or.inl rfl) (Or.inr ⟨_, vs.toArray, _, hk, rfl, rfl, rfl, by rw [List.size_toArray, ln]; exact hl, by simpa using rv⟩) (fun b u z => by cases (show (none : Option HO) = some u from z)) fun b z => absurd rfl z
  | none =>
    let ob : Obj := { cls := .type "list", data := .seq vs.toArray }
    have at_ : ∀ {b : Addr} {u : HO}, (if b = a then some (HO.frz ob (.lst (ns.map V.int))) else none) = some u → b = a ∧ u = HO.frz ob (.lst (ns.map V.int)) := by
      intro b u z
      by_cases q : b = a
      · rw [if_pos q] at z; exact ⟨q, (Option.some.inj z).symm⟩
      · rw [if_neg q] at z; cases z
    refine main (fun b => if b = a then some (.frz ob (.lst (ns.map V.int))) else none) (fun b => ?_) (Or.inl (Or.inr ⟨ob, if_pos rfl⟩)) (fun b u z => ?_) (fun b z => ?_)
    · by_cases q : b = a
      · exact Or.inr ⟨_, _, if_pos q⟩
      · exact Or.inl (if_neg q)
    · obtain ⟨rfl, rfl⟩ := at_ z
      exact ⟨ha, by rw [List.length_map]; exact hl, vs, _, rv, ha⟩
    · cases q : (if b = a then some (HO.frz ob (.lst (ns.map V.int))) else none) with
      | none => exact absurd q z
      | some u => exact ⟨(at_ q).1, hk⟩
theorem walkG {l : PySem.W.OpenLaw} {n k : Nat} {q : Program} {loose : List Str} {XP : (Str → Option Value) → Heap → Prop} {YP : World → Heap → Prop} {d : DefRec} {K : Params → PySem.W.Frag} {sp : World → Sp} {x : Str}
    (hn : l.most = some n) (hn2 : n ≤ sizeLine) (hdf : d.params.defaults = []) (hr : Room k callerA) (hY : ∀ (w : World) (h : Heap), YP w h → (K w.params).In h)
    (F : ∀ (w : World) (mg : Str → Option Value) (fa : Addr) (h : Heap), (K w.params).In h → h.Ns mainGlobals mg → mg d.name = some (.ref fa) →
      ∃ fd : FuncData, (∀ (s : Shared) (u : Value), BindsTo s fd ⟨[u], []⟩ [(x, u)]) ∧ ∀ base : Heap, (K w.params).In base → base.Ns mainGlobals mg → FnG l.prog w (K w.params) mg base CX0 k fa fd [x] (sp w))
    (want : ∀ (w : World) (H : Hp) (a : Addr) (ns : List Int), ns.length ≤ n → (∀ z ∈ ns, Builtin.Int.intBits z ≤ 1048576) → Only H → SqL (K w.params) H a (ns.map V.int) → sp w [.ref a] H (fun v _ => v = .bl true) fun _ _ _ => False) :
    PySem.W.WalkO q loose XP YP l.row.toRowW d [] (fun f vs => PySem.call f vs) := by
  refine Att.attach_callB hn hdf fun w s₀ s₁ mg mb fa o pm cd doc a vs ns G Y ho hd hcd hmg hobj hints hlen hbits hg => ?_
  obtain ⟨fd, hb, hF⟩ := F w mg fa _ (hY w _ Y) G.T.g hmg
  exact lawG (hY w _ Y) G.T.g G.T.b G.T.builtins G.T.nolimit hg hobj hints (Nat.le_trans hlen hn2) hr hF hb fun H only seq => want w H a ns hlen hbits only seq
end Rg
set_option Elab.async false
set_option maxRecDepth 100000
set_option autoImplicit false
/-! An error class of the program whose __init__ hands a text to the one above and keeps its fields. -/
namespace Er
open PySem L2 PySem.Spec PyProof.Rows PySem.Calls
abbrev veInit : String := "ValueError.__init__"
section
variable {prog : Program} {w : World} {A : Around} {E : Value → Shared → Prop} {K : PySem.W.Frag} {h : Heap} {g : Array GenState} {d : Drawn} {t : Nat} {os : OsState}
variable {nm q : Str} {C N : Addr} {bs bm : List Value} {sn : List Str} {sub : List Value} {ab : Bool} {col : Option Bool} {dd : Option Addr} {k0 k1 k2 k3 k5 : Option Value}
/-- the bound wrapper is called: the args are laid, else all stays -/
theorem wrapCall {u e t0 : Addr} {rest : List Value} {Q : Value → Shared → Prop} (hC : h.get? C = some (excClassObj nm q C N bs bm true sn sub ab col dd k0 k1 k2 k3 k5 "ValueError.__new__"))
    (hu : h.get? u = some (PySem.W.kxs_mw veInit e)) (he : h.get? e = some (PySem.HandSPX.excO C t0)) (few : rest.length ≤ sizeLine)
    (go : ∀ h' t1, (∀ b o, b ≠ e → h.get? b = some o → h'.get? b = some o) → h'.get? e = some (PySem.HandSPX.excO C t1) → Q .none ⟨h', g, d, t, os⟩) : wpAny (model prog w) A (call (.ref u) rest) Q E ⟨h, g, d, t, os⟩ := by
  refine wpAny_call (codeAny_of_tree ?_)
  show wpAny (model prog w) A.in1 (callAny (.ref u) ⟨rest, []⟩) _ _ _
  simp only [callAny]
  refine wpAny_bind (wpAny_load hu ?_)
  have k1' : (Value.type "method-wrapper" == Value.type "method" || Value.type "method-wrapper" == Value.type "builtin_function_or_method" || Value.type "method-wrapper" == Value.type "method-wrapper") = true := by decide
  simp only [k1', if_true]
  refine PySem.W.KFB.if_so (by decide) (wpAny_bind ?_)
  refine PySem.W.check_bound_init PySem.F.excBase_ValueError.toExcCallFacts hC he rfl (wpAny_bind (wpAny_pure (wpAny_pure ⟨plainId_quiet PySem.F.excBase_ValueError.init.plain _, codeAny_builtin PySem.F.excBase_ValueError.initEntry ?_⟩)))
  refine PySem.W.exc_init_tree (cls := .ref C) (t0 := t0) (dv := none) (c2 := .none) (c3 := .none) (b4 := .bool false) he few fun h' a b _ => go h' _ a b
/-- what is written of such a class, and of its __init__ at fI, whose cell is at cc, whose code at cda -/
structure ErrC (prog : Program) (K : PySem.W.Frag) (C fI cc cda : Addr) : Prop where
  cls : ∃ nm q N bs bm sn sub ab col dd k0 k1 k2 k3 k5, K.lookup C = some (excClassObj nm q C N bs bm true sn sub ab col dd k0 k1 k2 k3 k5 "ValueError.__new__") ∧ PySem.HandSPX.refsVE bm = true
  sup : PySem.W.ks_superIn K C C "__init__" = some (some (.builtin veInit))
  any_ : PySem.W.nsIn K cStatics "thirdparty.any" = some none
  ve : PySem.W.subIn K (.ref C) (.type "ValueError") = some true
  self_ : PySem.W.mroIn K C (.ref C) = some true
  cell : ∃ cl cld csl, K.lookup cc = some ⟨cl, cld, .cell (some (.ref C)), csl⟩
  code : ∃ ccl cdd vs ccs file tf, K.lookup cda = some ⟨ccl, cdd, .fields vs, ccs⟩ ∧ vs[2]? = some (.str file tf) ∧ ((prog.main.file : Str) == file) = true
  top : (prog.main.scope.names.lookup ("super" : Str)).isSome = false
/-- super().__init__("..") -/
theorem superLine {fI cc cda x L t0 : Addr} {fd : FuncData} {oc : Value} {od : Option Addr} {osl : Array (Option Value)} {ar : Arg} {m mg mb : Str → Option Value} {qual msg : Str} {scope : Scope} {body : List Stmt} {j : Nat} {p0 p1 p2 p3 p4 p5 : Pos} {pl : Sem Bool} {Q : Flow → Shared → Prop}
    (T : ErrC prog K C fI cc cda) (X : K.In h) (lk : K.lookup fI = some ⟨oc, od, .func fd, osl⟩) (hp : (fd.params.posonlyargs ++ fd.params.args).head? = some ar) (hks : scope.names.lookup ("super" : Str) = some .globalImplicit) (hkc : scope.names.lookup ("__class__" : Str) = some .free)
    (hka : scope.names.lookup ar.arg = some .local) (hk : scope.kind = .function) (hns : h.Ns L m) (hself : m ar.arg = some (.ref x)) (hx : h.get? x = some (PySem.HandSPX.excO C t0)) (gl : h.Ns mainGlobals mg) (gs : mg "super" = none) (bl : h.Ns builtinsNs mb) (bb : mb "super" = bootBuiltins "super")
    (go : ∀ h' tk t1, (∀ b o, b ≠ x → h.get? b = some o → h'.get? b = some o) → h'.get? x = some (PySem.HandSPX.excO C t1) → Q .next ⟨h', g, d, tk, os⟩)
    (he : eval (.Call (.Attribute (.Call (.Name "super" p0) [] [] p1) "__init__" p2) [.Constant (.str msg) j p3] [] p4) (PySem.W.ksEnv qual scope L fI (.ref cda) cc) = (do
        let ov ← attributeBase (.Call (.Name "super" p0) [] [] p1) "__init__" (PySem.W.ksEnv qual scope L fI (.ref cda) cc) (eval (.Call (.Name "super" p0) [] [] p1) (PySem.W.ksEnv qual scope L fI (.ref cda) cc))
        standAt p2.atName
        let (f, first) ← holding [ov] (getMethod ov "__init__" pl)
        callWith p4 f first (backTo p4 (starEach [.Constant (.str msg) j p3] (PySem.W.ksEnv qual scope L fI (.ref cda) cc))) []) := by rfl)
    (hi : interactive (PySem.W.ksEnv qual scope L fI (.ref cda) cc) = false := by rfl) (hsw : swapsWith (.Call (.Attribute (.Call (.Name "super" p0) [] [] p1) "__init__" p2) [.Constant (.str msg) j p3] [] p4) none p5.line (PySem.W.ksEnv qual scope L fI (.ref cda) cc) = pure false := by rfl) :
    _root_.PySem.wpAt (model prog w) A (.func body (PySem.W.ksEnv qual scope L fI (.ref cda) cc)) (exec (.Expr (.Call (.Attribute (.Call (.Name "super" p0) [] [] p1) "__init__" p2) [.Constant (.str msg) j p3] [] p4) p5) (PySem.W.ksEnv qual scope L fI (.ref cda) cc)) Q E ⟨h, g, d, t, os⟩ := by
  obtain ⟨nm, q, N, bs, bm, sn, sub, ab, col, dd, k0, k1, k2, k3, k5, hC, hbm⟩ := T.cls
  obtain ⟨ccl, cdd, vs, ccs, file, tf, hcode, hvs, hfile⟩ := T.code
  obtain ⟨cl, cld, csl, hcell⟩ := T.cell
  have hcd : ∃ cd, PySem.W.clsIn K C = some cd ∧ PySem.W.alongIn K "__init__" ((cd.mro.dropWhile (· != .ref C)).drop 1) = some (some (.builtin veInit)) := Option.bind_eq_some_iff.mp T.sup
  obtain ⟨cd, hcd, along⟩ := hcd
  have I0 : PySem.W.InstAt h x (PySem.HandSPX.excO C t0) C none := ⟨hx, rfl, rfl, trivial⟩
  have ne : x ≠ C := PySem.W.ks_ne X I0 hcd
  refine PySem.ks_wpAt_Expr_any (PySem.ks_wpAt_MethodCall (PySem.ks_wpAt_super_base (env := PySem.W.ksEnv qual scope L fI (.ref cda) cc) hks hkc (by decide) rfl (X _ _ lk) rfl hp rfl (X _ _ hcode) rfl hvs hfile T.top ?_) he) hi hsw
  refine PySem.W.ks_loadName_global hk hks (loadGlobal_builtin (env := PySem.W.ksEnv qual scope L fI (.ref cda) cc) gl gs bl (bb.trans (by decide +kernel : bootBuiltins "super" = some (.type "super"))) ⟨rfl, ?_⟩)
  refine wpAny_loadName_free hk hkc rfl ⟨_, X _ _ hcell, rfl⟩ (wpAny_loadName_local hk hka hns hself (PySem.ks_wpAny_isType_cls (X _ _ hC) rfl ⟨rfl, ?_⟩))
  refine PySem.ks_wpAny_call_super (X _ _ hC) rfl hx rfl (fun c e => by cases e) (PySem.W.looks_mroIn X T.self_) (fun h1 hso keep => ?_)
  have X1 := X.keeps keep
  have hx1 := keep _ _ hx
  have I1 : PySem.W.InstAt h1 x (PySem.HandSPX.excO C t0) C none := ⟨hx1, rfl, rfl, trivial⟩
  refine PySem.W.kxs_getMethod PySem.W.kxs_ValueError hso (PySem.W.looks_opaque X1 T.any_) (l₀ := cd.mro) (fun A Q E s k q => wpAny_bind (PySem.W.looks_clsIn X1 hcd A _ E s k (wpAny_pure q))) rfl X1 along (I1.type.andThen (PySem.W.looks_subIn X1 T.ve)) ne (by decide) ?_
  have hu : (h1.push (PySem.W.kxs_mw veInit x)).get? h1.objs.size = some (PySem.W.kxs_mw veInit x) := by heap_get
  have k2 : ∀ b o, h1.get? b = some o → (h1.push (PySem.W.kxs_mw veInit x)).get? b = some o := fun b o e => Heap.get?_push_of_some _ e
  refine PySem.W.kxs_callWith (i := veInit) (x := x) rfl (evalArgs_plain (spliced_cons (@Constant_str _ _ _ _ _ _ j p3 _ (spliced_nil ⟨hu, ?_⟩))))
  have keep2 : ∀ b o, h.get? b = some o → (h1.push (PySem.W.kxs_mw veInit x)).get? b = some o := fun b o e => k2 b o (keep b o e)
  refine wrapCall (X.keeps keep2 _ _ hC) hu (keep2 _ _ hx) (by show 1 ≤ sizeLine; decide) fun h' t1 k3 hx' => ?_
  exact (go h' _ t1 (fun b o n e => k3 b o n (keep2 b o e)) hx')
end
end Er
set_option Elab.async false
set_option maxRecDepth 100000
set_option autoImplicit false
namespace Er
open PySem L2 PySem.Spec PyProof.Rows PySem.Calls
/-! ### such an __init__ as a def of the hand's layer -/
theorem lookup_mem {α : Type} {x : Str} {u : α} : ∀ {l : List (Str × α)}, (l.map (·.1)).Nodup → (x, u) ∈ l → l.lookup x = some u
  | [], _, h => absurd h List.not_mem_nil
  | (y, v) :: r, nd, h => by
    rw [List.map_cons, List.nodup_cons] at nd
    rcases List.mem_cons.mp h with e | h'
    · cases e
      simp [List.lookup]
    · have ne : x ≠ y := by
        rintro rfl
        exact nd.1 (List.mem_map.mpr ⟨(_, u), h', rfl⟩)
      have e : (x == y) = false := by simpa using ne
      simp only [List.lookup, e]
      exact lookup_mem nd.2 h'
theorem zip_rev {ps : List Str} {us : List Value} {i : Nat} {x : Str} {u : Value} (nd : ps.Nodup) (l : us.length = ps.length) (h1 : ps[i]? = some x) (h2 : us[i]? = some u) : (ps.zip us).reverse.lookup x = some u := by
  refine lookup_mem ?_ (List.mem_reverse.mpr ?_)
  · rw [List.map_reverse, List.map_fst_zip (by omega)]
    unfold List.Nodup
    rw [List.pairwise_reverse]
    exact nd.imp fun h => h.symm
  · refine List.mem_of_getElem? (i := i) ?_
    rw [List.getElem?_zip_eq_some]
    exact ⟨h1, h2⟩
def exX (P : Program) (w : World) (K : PySem.W.Frag) (mg : Str → Option Value) (base : Heap) (N : List Str) (qual : Str) (scope : Scope) (f cda cc : Addr) (A : Around) (outer : List Env) (s : Shared) (H : Hp) : Cx where
  prog := P
  w := w
  K := K
  mg := mg
  base := base
  A := A.deeper (PySem.W.ksEnv qual scope s.heap.objs.size f (.ref cda) cc)
  N := N
  s_0 := s
  H_0 := H
  env := PySem.W.ksEnv qual scope s.heap.objs.size f (.ref cda) cc
  outer := outer
  stack := PySem.W.ksEnv qual scope s.heap.objs.size f (.ref cda) cc :: outer
  ex := []
  calm := true
  fn := fun _ => false
  pn := []
  xe := fun _ _ => False
/-- the scope of such an __init__ -/
structure ErrS (ps : List Str) (scope : Scope) : Prop where
  kind : scope.kind = .function
  nd : ps.Nodup
  par : ∀ x ∈ ps, scope.names.lookup x = some .local
  nocell : ∀ x ∈ scope.names, x.2 ≠ .cell
  sup : scope.names.lookup ("super" : Str) = some .globalImplicit
  cls : scope.names.lookup ("__class__" : Str) = some .free
  free : ∀ x, scope.names.lookup x = some .free → x = "__class__"
  self_ : ps[0]? = some ("self" : Str)
  co : scope.isCoroutine = false
  gen : scope.isGenerator = false
section
variable {P : Program} {w : World} {K : PySem.W.Frag} {mg : Str → Option Value} {base : Heap}
theorem start_inv {ps : List Str} {qual : Str} {scope : Scope} {C f cda cc : Addr} {A : Around} {outer : List Env} {s : Shared} {H : Hp} {us : List Value} {vs : List V} {h0 : Heap} {tk : Nat} (S : ErrS ps scope) (T : ErrC P K C f cc cda) (hd : A.handled = none) (e0 : Env0 P w K mg base A outer s H)
    (hl : vs.length = ps.length) (r : Vals vs us) (hns : h0.Ns s.heap.objs.size (fun x => (ps.zip us).reverse.lookup x)) (keep : ∀ b o, s.heap.get? b = some o → h0.get? b = some o) :
    Inv (exX P w K mg base ps qual scope f cda cc A outer s H) [] (L2.start ps vs) H { s with heap := h0, toks := tk } := by
  obtain ⟨cl, cld, csl, hcell⟩ := T.cell
  have bc := e0.mod.kin _ _ hcell
  have one : ∀ {x : Str} {c : Addr}, ([(("__class__" : Str), cc)] : List (Str × Addr)).lookup x = some c → x = "__class__" ∧ c = cc := by
    intro x c e
    by_cases q : x = "__class__"
    · subst q
      have z : some cc = some c := e
      exact ⟨rfl, (Option.some.inj z).symm⟩
    · have q2 : (x == ("__class__" : Str)) = false := by simpa using q
      simp [List.lookup, q2] at e
  have noex : ∀ b : Addr, b ∉ (exX P w K mg base ps qual scope f cda cc A outer s H).ex := fun b z => absurd (show b ∈ ([] : List Addr) from z) (by simp)
  refine ⟨⟨e0.mod, S.kind, rfl, rfl, Nat.le_refl _, fun x y c h1 h2 => ?_, fun x hx => ?_, fun x c z _ => absurd (show false = true from z) Bool.false_ne_true, fun _ => hd, Around.frames_deeper e0.frames, .inr ⟨rfl, rfl⟩, fun b z => absurd z (noex b), e0.bs, e0.bsz, fun b _ _ => noex b, fun b z => absurd z (noex b), e0.funs, e0.frf⟩,
    rfl, e0.bare, Un.kept keep, ⟨_, hns, fun i x v h1 h2 h3 => ?_⟩, fun x c h => ?_, e0.hok.fresh (Nat.le_refl _), fun x c h => ?_, fun p hp => absurd (show p ∈ ([] : List (Addr × Obj)) from hp) (by simp), e0.hok.kept keep, ?_⟩
  · exact (one h1).1.trans (one h2).1.symm
  · have hx' : scope.names.lookup x = some .cell ∨ scope.names.lookup x = some .free := hx
    rcases hx' with z | z
    · exact absurd rfl (S.nocell _ (PySem.mem_of_lookup z))
    · refine ⟨cc, ?_⟩
      show ([(("__class__" : Str), cc)] : List (Str × Addr)).lookup x = some cc
      rw [S.free x z]
      rfl
  · have hi : i < vs.length := by
      have q := (List.getElem?_eq_some_iff.mp h1).1
      have q : i < ps.length := q
      omega
    have ha : vs[i]? = some v := by
      unfold L2.start at h2
      rw [List.getElem?_append_left (by simpa using hi), List.getElem?_map] at h2
      cases e : vs[i]? with
      | none => rw [e] at h2; cases h2
      | some a => rw [e] at h2; cases h2; rfl
    obtain ⟨u, hu, rv⟩ := r.get ha
    have hp : ps[i]? = some x := h1
    exact ⟨u, rv, .inl ⟨S.par x (List.mem_of_getElem? hp), zip_rev S.nd (r.length.symm.trans hl) hp hu⟩⟩
  · obtain ⟨_, rfl⟩ := one h
    exact ⟨_, _, keep _ _ (e0.bs _ _ bc).1, rfl⟩
  · obtain ⟨_, rfl⟩ := one h
    exact (e0.bs _ _ bc).2
  · unfold L2.start
    show _ = ps.length
    rw [List.length_append, List.length_map, List.length_replicate]
    omega
end
end Er
set_option Elab.async false
set_option maxRecDepth 100000
set_option autoImplicit false
namespace Er
open PySem L2 PySem.Spec PyProof.Rows PySem.Calls
section
variable {P : Program} {w : World} {K : PySem.W.Frag} {mg : Str → Option Value} {base : Heap}
theorem ok_err {ps : List Str} {name qual msg : Str} {params : Arguments} {body rest : List Stmt} {scope : Scope} {C f cda cc : Addr} {oc dV kV doc pm ct : Value} {od an : Option Addr} {osl : Array (Option Value)} {ar : Arg} {sp : Sp} {j : Nat} {p0 p1 p2 p3 p4 p5 : Pos} {pl : Sem Bool}
    (T : ErrC P K C f cc cda) (S : ErrS ps scope) (lk : K.lookup f = some ⟨oc, od, .func (PySem.W.ksFn name qual params body scope dV kV doc pm an (.ref cda) ct cc), osl⟩) (hcd : PySem.W.codeIn K (.ref cda) qual = true) (gs : mg "super" = none)
    (hp : (params.posonlyargs ++ params.args).head? = some ar) (har : ar.arg = "self") (hb : body = .Expr (.Call (.Attribute (.Call (.Name "super" p0) [] [] p1) "__init__" p2) [.Constant (.str msg) j p3] [] p4) p5 :: rest)
    (len : ∀ vs H Q E, sp vs H Q E → vs.length = ps.length) (first : ∀ vs H Q E, sp vs H Q E → ∃ a ws, vs = .ref a :: ws ∧ H a = some (exo a C none))
    (hbody : ∀ (A : Around) (outer : List Env) (s : Shared) (H : Hp) (vs : List V) (Q : VK) (E : XK), sp vs H Q E →
      ∃ t, PSs (exX P w K mg base ps qual scope f cda cc A outer s H) rest t ∧ t { nx := fun _ H' => Q .non H', rt := Q } (L2.start ps vs) H)
    (he : ∀ L, eval (.Call (.Attribute (.Call (.Name "super" p0) [] [] p1) "__init__" p2) [.Constant (.str msg) j p3] [] p4) (PySem.W.ksEnv qual scope L f (.ref cda) cc) = (do
        let ov ← attributeBase (.Call (.Name "super" p0) [] [] p1) "__init__" (PySem.W.ksEnv qual scope L f (.ref cda) cc) (eval (.Call (.Name "super" p0) [] [] p1) (PySem.W.ksEnv qual scope L f (.ref cda) cc))
        standAt p2.atName
        let (g, first) ← holding [ov] (getMethod ov "__init__" pl)
        callWith p4 g first (backTo p4 (starEach [.Constant (.str msg) j p3] (PySem.W.ksEnv qual scope L f (.ref cda) cc))) []))
    (hi : ∀ L, interactive (PySem.W.ksEnv qual scope L f (.ref cda) cc) = false) (hsw : ∀ L, swapsWith (.Call (.Attribute (.Call (.Name "super" p0) [] [] p1) "__init__" p2) [.Constant (.str msg) j p3] [] p4) none p5.line (PySem.W.ksEnv qual scope L f (.ref cda) cc) = pure false) :
    FnOk P w K mg base CX0 1 f (PySem.W.ksFn name qual params body scope dV kV doc pm an (.ref cda) ct cc) ps sp := by
  refine ⟨len, fun A outer s H args us vs Q E hr e0 hbind r hsp => ?_⟩
  obtain ⟨a, ws, ev, ea⟩ := first _ _ _ _ hsp
  have there : ∀ b o, base.get? b = some o → s.heap.get? b = some o := fun b o e => (e0.bs b o e).1
  have KX : K.In s.heap := e0.mod.kin.keeps there
  have hl := len _ _ _ _ hsp
  refine ks_codeAny_call_defAt hr.depth (KX _ _ lk) rfl (e0.mod.nolimit.keeps there) (PySem.W.codeRec_of KX hcd) rfl hbind S.nocell (fun x hx => S.par _ (List.of_mem_zip hx).1) (fun h0 hns keep => ?_) S.co S.gen S.kind
  have I0 := start_inv (w := w) (qual := qual) (tk := s.toks + (ps.zip us).length) S T hr.hd e0 hl r hns keep
  obtain ⟨t1, ho⟩ := exo_at I0.hok ea
  obtain ⟨t, ht, q⟩ := hbody A outer s H _ Q E hsp
  obtain ⟨mb, hmb, hbb⟩ := e0.mod.blt
  have old : ∀ b o, base.get? b = some o → h0.get? b = some o := fun b o e => keep b o (there b o e)
  have hs0 : (ps.zip us).reverse.lookup ar.arg = some (.ref a) := by
    rw [har]
    subst ev
    cases r with
    | cons r0 r1 =>
      obtain rfl : _ = Value.ref a := r0
      refine zip_rev (i := 0) S.nd ?_ S.self_ rfl
      rw [List.length_cons, ← r1.length]
      exact hl
  have hka : scope.names.lookup ar.arg = some .local := by
    rw [har]
    exact S.par _ (List.mem_of_getElem? S.self_)
  rw [hb]
  refine ks_wpAt_execs_cons ?_
  refine superLine T (e0.mod.kin.keeps old) lk hp S.sup S.cls hka S.kind hns hs0 ho (e0.mod.glob.keeps old) gs (hmb.keeps old) (hbb _ (by decide)) (fun h' tk t2 k3 hx => ?_) (he _) (hi _) (hsw _)
  have J := I0.write (t' := tk) (x := a) (e := a) (o := exo a C none) (by rw [ea]; exact True.intro) (.inl rfl) k3 ⟨_, hx⟩ (exo_ok hx)
  have eu : upd H a (exo a C none) = H := by
    funext b
    by_cases z : b = a
    · rw [z, upd_same, ea]
    · rw [upd_ne z]
  rw [eu] at J
  refine wpAt_of_wpAny (wpAny_mono (ht.run [] _ _ H _ J q) (fun fl s2 out => ?_) fun _ _ z => False.elim z)
  cases fl with
  | ret u => obtain ⟨v, _, H2, J2, rv, q2⟩ := out; exact ⟨v, H2, J2.os, J2.bare, J2.base, J2.hok, rv, q2⟩
  | next => obtain ⟨_, H2, J2, q2⟩ := out; exact ⟨V.non, H2, J2.os, J2.bare, J2.base, J2.hok, rfl, q2⟩
  | brk => obtain ⟨_, _, _, q2⟩ := out; exact q2.elim
  | cont => obtain ⟨_, _, _, q2⟩ := out; exact q2.elim
end
end Er
set_option Elab.async false
set_option maxRecDepth 100000
set_option autoImplicit false
namespace Er
open PySem L2 PySem.Spec PyProof.Rows PySem.Calls
/-- self.f = p behind the text -/
def spErr1 (C : Addr) (f : Str) : Sp := fun vs H Q _ => ∃ a v, vs = [.ref a, v] ∧ H a = some (exo a C none) ∧ ∀ dx, H dx = none → dx ≠ a → Q .non (upd (upd H dx (exd dx [(f, v)])) a (exo a C (some dx)))
def spErr2 (C : Addr) (f g : Str) : Sp := fun vs H Q _ => ∃ a v u, vs = [.ref a, v, u] ∧ H a = some (exo a C none) ∧ ∀ dx, H dx = none → dx ≠ a → Q .non (upd (upd (upd H dx (exd dx [(f, v)])) a (exo a C (some dx))) dx (exd dx [(g, u), (f, v)]))
section
variable {P : Program} {w : World} {K : PySem.W.Frag} {mg : Str → Option Value} {base : Heap}
theorem rest1 {p f qual : Str} {scope : Scope} {C fi cda cc : Addr} {q1 q2 q3 q4 : Pos} (S : ErrS ["self", p] scope) (O : OexC K C) (no : PySem.W.findIn K (.ref C) f = some none) (d1 : (p == ("__debug__" : Str)) = false) (d2 : (p == ("__classdict__" : Str)) = false)
    (A : Around) (outer : List Env) (s : Shared) (H : Hp) (vs : List V) (Q : VK) (E : XK) (h : spErr1 C f vs H Q E) :
    ∃ t, PSs (exX P w K mg base ["self", p] qual scope fi cda cc A outer s H) [.Assign [.Attribute (.Name "self" q1) f q2] (.Name p q3) q4] t ∧ t { nx := fun _ H' => Q .non H', rt := Q } (L2.start ["self", p] vs) H := by
  obtain ⟨a, v, rfl, ea, k⟩ := h
  refine ⟨_, pss_one (ps_ost (pe_var (i := 0) (x := "self") rfl (.inl (S.par _ (by simp)))) (pe_var (i := 1) (x := p) rfl (.inl (S.par _ (by simp))) d1 d2)), ?_⟩
  exact ⟨_, rfl, _, rfl, a, C, rfl, O, no, .inl ⟨ea, fun dx n ne => k dx n ne⟩⟩
theorem rest2 {p p' f g qual : Str} {scope : Scope} {C fi cda cc : Addr} {q1 q2 q3 q4 r1 r2 r3 r4 : Pos} (S : ErrS ["self", p, p'] scope) (O : OexC K C) (no : PySem.W.findIn K (.ref C) f = some none) (no' : PySem.W.findIn K (.ref C) g = some none) (d1 : (p == ("__debug__" : Str)) = false) (d2 : (p == ("__classdict__" : Str)) = false) (d3 : (p' == ("__debug__" : Str)) = false) (d4 : (p' == ("__classdict__" : Str)) = false)
    (A : Around) (outer : List Env) (s : Shared) (H : Hp) (vs : List V) (Q : VK) (E : XK) (h : spErr2 C f g vs H Q E) :
    ∃ t, PSs (exX P w K mg base ["self", p, p'] qual scope fi cda cc A outer s H) [.Assign [.Attribute (.Name "self" q1) f q2] (.Name p q3) q4, .Assign [.Attribute (.Name "self" r1) g r2] (.Name p' r3) r4] t ∧ t { nx := fun _ H' => Q .non H', rt := Q } (L2.start ["self", p, p'] vs) H := by
  obtain ⟨a, v, u, rfl, ea, k⟩ := h
  refine ⟨_, pss_cons (ps_ost (pe_var (i := 0) (x := "self") rfl (.inl (S.par _ (by simp)))) (pe_var (i := 1) (x := p) rfl (.inl (S.par _ (by simp))) d1 d2)) (pss_one (ps_ost (pe_var (i := 0) (x := "self") rfl (.inl (S.par _ (by simp)))) (pe_var (i := 2) (x := p') rfl (.inl (S.par _ (by simp))) d3 d4))), ?_⟩
  refine ⟨_, rfl, _, rfl, a, C, rfl, O, no, .inl ⟨ea, fun dx n ne => ?_⟩⟩
  refine ⟨_, rfl, _, rfl, a, C, rfl, O, no', .inr ⟨dx, _, upd_same, ?_, by show 1 ≤ 900; decide, k dx n ne⟩⟩
  rw [upd_ne ne, upd_same]
end

/-! ### raise C(e) -/
/-- the exception's own dict alone is left in sight -/
theorem left1 {H : Hp} {a d C : Addr} {fs gs : List (Str × V)} (na : H a = none) (o : Option Addr) : upd (del (upd (upd (upd H a (exo a C none)) d (exd d gs)) a (exo a C o)) a) d (.xd fs) = upd H d (.xd fs) := by
  funext b
  by_cases hd : b = d
  · rw [hd, upd_same, upd_same]
  rw [upd_ne hd, upd_ne hd]
  by_cases ha : b = a
  · rw [ha, del_same, na]
  · rw [del_ne ha, upd_ne ha, upd_ne hd, upd_ne ha]
def tRaise1 (C : Addr) (f : Str) (W : WX) (te : TE) : TS := fun _ σ H => te σ H fun v H1 => ∀ d, H1 d = none → W (.ref C) (some d) σ (upd H1 d (.xd [(f, v)]))
/-- a reading, closed upwards -/
def up (te : TE) : TE := fun σ H Q => ∃ R : V → Hp → Prop, te σ H R ∧ ∀ v H1, R v H1 → Q v H1
section
variable {X : Cx}
theorem pe_up {e : Expr} {te : TE} (he : PE X e te) : PE X e (up te) := ⟨fun pins s σ H Q I ⟨R, h, m⟩ => wpAny_mono (he.run pins s σ H R I h) (fun u s1 ⟨v, H1, I1, r, q⟩ => ⟨v, H1, I1, r, m v H1 q⟩) fun _ _ z => z⟩
theorem ps_raise1 {x f : Str} {C fi : Addr} {k : Nat} {fd : FuncData} {ps : List Str} {e : Expr} {te : TE} {W : WX} {p pos pos2 : Pos} (hc : X.calm = true) (tk : Takes X W) (O : OexC X.K C) (iC : PySem.W.findIn X.K (.ref C) "__init__" = some (some (.ref fi))) (tI : PySem.W.typeIn X.K (.ref fi) = some (.type "function"))
    (F : FnOk X.prog X.w X.K X.mg X.base CX0 k fi fd ps (spErr1 C f)) (hr : Room (k + 1) X.A) (hb : Binds X.K fd ps []) (hg : Gl X x) (hm : X.mg x = some (.ref C)) (he : PE X e te) (hdb : (x == ("__debug__" : Str)) = false := by decide)
    (hs : starEach [e] X.env = (false, eval e X.env) :: starEach [] X.env := by rfl) : PS X (.Raise (some (.Call (.Name x p) [e] [] pos)) none pos2) (tRaise1 C f W te) := by
  have R := ps_raise (pos := pos2) hc tk (pmk_oex (p := p) (pos := pos) O iC tI F hr hb .nil pass0 hg hm (pa_cons (pe_up he) pa_nil hs) hdb hs)
  refine ⟨fun pins s σ H D I h => R.run pins s σ H D I ?_⟩
  refine ⟨_, h, fun v H1 q => ⟨by show 1 ≤ 1000; decide, fun a na => ⟨a, v, rfl, upd_same, fun d nd ne => ⟨rfl, d, [(f, v)], upd_same, ?_, ?_, ?_⟩⟩⟩⟩
  · rw [upd_ne ne, upd_same]
  · rw [upd_ne ne] at nd; exact nd
  · rw [upd_ne ne] at nd
    rw [left1 na]
    exact q d nd
end
end Er
set_option Elab.async false
set_option maxRecDepth 100000
set_option autoImplicit false
/-! try: .. except G as n: y = n, and y is looked at behind it: the error stays in sight. -/
namespace Er
open PySem L2 PySem.Spec PyProof.Rows PySem.Calls
/-- at a: a caught error of the class cls, with the dict d -/
def keptE (cls : Value) (d : Option Addr) (a : Addr) : HO := .ext fun h => ∃ (oe : Obj) (vs : Array Value), h.get? a = some oe ∧ Zc cls d oe ∧ oe.data = .fields vs
section
variable {X : Cx} {pins : List (Addr × Obj)} {σ : L2.St} {H : Hp} {s : Shared}
theorem kept_ok {P : Program} {w : World} {G : Hp} {h : Heap} {a : Addr} {cls : Value} {d : Option Addr} {oe : Obj} {vs : Array Value} (e : h.get? a = some oe) (z : Zc cls d oe) (dd : oe.data = .fields vs) : ObjOk P w G h a (keptE cls d a) :=
  ⟨⟨oe, vs, e, z, dd⟩, ⟨oe, e⟩, fun h1 h2 ⟨o1, v1, e1, z1, d1⟩ k => ⟨o1, v1, k _ e1, z1, d1⟩⟩
/-- an object of none of the tracked ones, made behind the entry, comes into sight -/
theorem track {a : Addr} {o : HO} {ob : Obj} {vs : Array Value} (I : Inv X pins σ H s) (hx : X.ex = []) (old : X.s_0.heap.get? a = none) (na : H a = none) (nl : a ≠ X.env.locals) (ha : s.heap.get? a = some ob) (hd : ob.data = .fields vs) (np : ∀ p ∈ X.pn ++ pins, p.1 ≠ a)
    (new : ObjOk X.prog X.w (upd H a o) s.heap a o) : Inv X pins σ (upd H a o) s := by
  have off : ∀ {b : Addr} {u : HO}, H b = some u → upd H a o b = some u := fun {b u} e => by rw [upd_ne (ne_of_none e na)]; exact e
  refine ⟨I.ok, I.os, I.bare, ⟨I.base.keep, I.base.slot, fun b u e n x => ?_, I.base.there, fun b xs e => off (I.base.tups b xs e), fun b u v e => off (I.base.frzs b u v e), fun b ps e => ?_⟩, I.loc, I.cell, ?_, fun x c e => ?_, fun p hp => ?_, I.hok.laidN (fun b u e => e) na new, I.len⟩
  · have ne : b ≠ a := by
      rintro rfl
      rw [old] at e; cases e
    rw [upd_ne ne]
    exact I.base.free b u e n x
  · obtain ⟨more, q⟩ := I.base.tbls b ps e
    exact ⟨more, off q⟩
  · rw [upd_ne nl.symm]; exact I.free
  · have ne : c ≠ a := by
      rintro rfl
      obtain ⟨v, oc, e1, e2⟩ := I.cell x c e
      rw [ha] at e1
      cases e1
      rw [hd] at e2; cases e2
    rw [upd_ne ne]; exact I.freeC x c e
  · obtain ⟨q1, q2, q3⟩ := I.pin p hp
    exact ⟨q1, by rw [upd_ne (np p hp)]; exact q2, q3⟩
end
end Er
set_option Elab.async false
set_option maxRecDepth 100000
set_option autoImplicit false
namespace Er
open PySem L2 PySem.Spec PyProof.Rows PySem.Calls
/-- what 'except G as n: y = n' wishes of an error of the body: i is n's slot, j is y's -/
def wKeep (K : PySem.W.Frag) (c : Value) (i j m : Nat) (Wout : WX) (D : Ends) : WX := fun cls d σ H =>
  ∃ b, PySem.W.exmOne K cls c = some b ∧ (b = true → σ.length = m → ∀ a, H a = none → D.nx (((σ.set i (some (.ref a))).set j (some (.ref a))).set i none) (upd H a (keptE cls d a))) ∧ (b = false → Wout cls d σ H)
section
variable {X : Cx} {x n y : Str} {c : Value} {i j : Nat} {body : List Stmt} {np yp np2 sp pos pos' : Pos} {tb : WX → TS} {Wout : WX}
theorem ps_try_keep (hs : X.stack = X.env :: X.outer) (hf : X.env.frame = some X.env.locals) (hex : X.ex = []) (hN : X.N.Nodup) (hi : X.N[i]? = some n) (hj : X.N[j]? = some y) (hln : X.env.kindOf n = some .local) (hly : X.env.kindOf y = some .local) (hc : Names X x c) (tk : Takes X Wout)
    (hdn : (n == ("__debug__" : Str)) = false) (hcn : (n == ("__classdict__" : Str)) = false) (hsw : swapsWith (.Name n np2) (some (.Name y yp)) sp.line X.env = pure false)
    (hb : ∀ (W : WX) (pn : List (Addr × Obj)) (xe : Value → Shared → Prop), Takes (X.tr pn xe) W → PassesOwn (model X.prog X.w) X.A X.env xe → PSs (X.tr pn xe) body (tb W)) :
    PS X (.Try body [.ExceptHandler (some (.Name x np)) (some n) [.Assign [.Name y yp] (.Name n np2) sp] pos'] [] [] pos) (fun D σ H => tb (wKeep X.K c i j X.N.length Wout D) D σ H) := by
  constructor
  intro pins s σ H D I h
  have fine := I.ok
  have frames : X.A.frames = some (X.env :: X.outer) := fine.frames.trans (congrArg some hs)
  have run := (hb (wKeep X.K c i j X.N.length Wout D) (X.pn ++ pins) (fun e s₁ => wpAny (model X.prog X.w) X.A (noteFrame e X.env) (fun _ s₂ => wpAny (model X.prog X.w) X.A (setFlight e none) (fun _ s₃ =>
    wpAny (model X.prog X.w) X.A (handleBy e X.env [.ExceptHandler (some (.Name x np)) (some n) [.Assign [.Name y yp] (.Name n np2) sp] pos']) (SP X pins D) X.xe s₃) X.xe s₂) X.xe s₁) ?hit PassesOwn.looking).run [] s σ H D (I.toTry _) h
  case hit =>
    rintro u s' ⟨a, B, sI, pins1, σ1, H1, cls, d, rfl, J0, ground, up0, sky0, na, os, ag, b, test, yes, no⟩
    have J : Inv X pins σ1 H1 sI := J0.ofTry fine
    have sky : Sky B (X.env :: X.outer) a (Zc cls d) X.env.locals s'.heap := hs ▸ sky0
    show wpAny (model X.prog X.w) X.A (noteFrame (.ref a) X.env) _ _ _
    refine Sky.land Zc.steady frames hf sky fun g3 fly3 up3 => ?_
    have J3 : Inv X pins σ1 H1 { s' with heap := g3 } := J.landed ground fly3.1 (up0.trans up3) os ag
    obtain ⟨o3, v3, e3, z3, d3⟩ := fly3.there
    have away : a ∉ frs (X.env :: X.outer) := fun mem => by
      obtain ⟨_, o, e, no_⟩ := fly3.2.2.1.mem mem
      rw [e3] at e; cases e
      exact no_ _ d3
    have awayL : a ≠ X.env.locals := fun z => away (List.mem_filterMap.mpr ⟨X.env, List.mem_cons_self, hf.trans (congrArg some z.symm)⟩)
    have awayF : a ∉ X.fs := fun mem => by
      obtain ⟨e, m1, m2⟩ := List.mem_filterMap.mp mem
      exact away (List.mem_filterMap.mpr ⟨e, List.mem_cons_of_mem _ m1, m2⟩)
    -- the error is younger than the entry
    have young : sI.heap.get? a = none := by
      cases q : sI.heap.get? a with
      | none => rfl
      | some o =>
        have qB := ground a o q (by rw [hs]; exact away)
        rw [fly3.2.1] at qB; cases qB
    have entry : X.s_0.heap.get? a = none := by
      cases q : X.s_0.heap.get? a with
      | none => rfl
      | some o =>
        obtain ⟨o', q'⟩ := J.base.there a o q (by rw [hex]; exact List.not_mem_nil)
        rw [young] at q'; cases q'
    have apart : ∀ p ∈ X.pn ++ pins, p.1 ≠ a := fun p hp z => by
      have q := (J.pin p hp).1
      rw [z, young] at q; cases q
    have S3 := J3.suite e3 d3 na awayL awayF
    refine wpAny_handleBy_cons (codeAny_handlers_test ?_) (by intro q; cases q)
    have LT : PySem.W.Looks (model X.prog X.w) g3 (typeOf (.ref a)) cls := fun _ _ _ _ k q => wpAny_typeOf_ref (k _ _ e3) (by rw [z3.1]; exact q)
    have LM := PySem.W.exm_one (M := model X.prog X.w) J3.kIn LT test
    have named : ∀ {Q : Value → Shared → Prop} {E : Value → Shared → Prop}, Q c { s' with heap := g3 } → wpAny (model X.prog X.w) (X.A.mark (some (.ref a))) (eval (.Name x np) X.env) Q E { s' with heap := g3 } := fun {Q E} q => by
      rcases hc with ⟨hg, hdbg, hm | ⟨hm, hv, hnn⟩⟩
      · exact ld_glob (X := X.suite a ((a, o3) :: (X.pn ++ pins))) S3 hg hm q hdbg
      · exact ld_blt (X := X.suite a ((a, o3) :: (X.pn ++ pins))) S3 hg hm hv q hnn hdbg
    refine named (LM.here ?_)
    cases b with
    | true =>
      refine codeAny_handlers_suite_as (HandSPX.lands_againZ fly3 fun g4 fly4 up4 => ?_)
      have J4 : Inv X pins σ1 H1 { s' with heap := g4 } := J.landed ground fly4.1 ((up0.trans up3).trans up4) os ag
      obtain ⟨o4, v4, e4, z4, d4⟩ := fly4.there
      have S4 := J4.suite e4 d4 na awayL awayF
      refine store_ok (X := X.suite a ((a, o4) :: (X.pn ++ pins))) (v := .ref a) S4 hN hi (.inl hln) rfl (fun s5 S5 => ?_) (.inr hln)
      have il : i < σ1.length := by
        rw [S4.len]
        exact (List.getElem?_eq_some_iff.mp hi).1
      have one := pss_one (X := X.suite a ((a, o4) :: (X.pn ++ pins))) (ps_set (pos := sp) (pos' := yp) (i := j) hN hj (.inl hly) (pe_var (i := i) (pos := np2) hi (.inl hln) hdn hcn) hsw (.inr hly))
      refine wpAny_mono (one.run [] s5 _ H1 { nx := fun σ' H' => σ' = (σ1.set i (some (.ref a))).set j (some (.ref a)) ∧ H' = H1, rt := fun _ _ => False } S5 ⟨.ref a, by rw [List.getElem?_set_self il], rfl, rfl⟩) (fun fl s6 got => ?_) (fun _ _ z => False.elim z)
      cases fl with
      | next =>
        obtain ⟨_, _, S6, rfl, rfl⟩ := got
        have there := (S6.pin (a, o4) (List.mem_append_left _ List.mem_cons_self)).1
        exact gone_ok (track (S6.unsuite fine) hex entry na awayL there d4 apart (kept_ok there z4 d4)) hN hi hln fun s7 J7 => ⟨_, _, J7, yes rfl S4.len a na⟩
      | ret u => obtain ⟨_, _, _, _, _, z⟩ := got; exact z.elim
      | brk => obtain ⟨_, _, _, z⟩ := got; exact z.elim
      | cont => obtain ⟨_, _, _, z⟩ := got; exact z.elim
    | false =>
      show wpAny (model X.prog X.w) X.A (handleBy (.ref a) X.env []) _ _ _
      refine wpAny_handleBy_nil ?_
      obtain ⟨_, _, _, oe, vs, T, oT, us, q1, q2, q3, q4, q5⟩ := id fly3
      unfold PySem.passOn
      refine wpAny_bind (wpAny_field q1 q3 q4 ?_)
      rw [if_neg (by simp)]
      have out : wpAny (model X.prog X.w) X.A (setFlight (.ref a) X.env.frame) (fun _ s4 => wpAny (model X.prog X.w) X.A (throw (.ref a) : Sem Flow) (SP X pins D) X.xe s4) X.xe { s' with heap := g3 } := by
        rw [hf]
        exact HandSPX.setFlight_upZ fly3 fun g4 held up4 => wpAny_throw (tk _ _ ⟨a, B, sI, pins, σ1, H1, cls, d, rfl, J, ground, (up0.trans up3).trans up4, .inr (.inr (by rw [hs]; exact held)), na, os, ag, no rfl⟩)
      first
        | exact wpAny_bind (wpAny_pure (wpAny_bind out))
        | exact wpAny_bind out
  refine wpAny_Try_except (wpAny_mono run (fun f s1 got => ?_) fun e s1 he => he)
  cases f with
  | next => obtain ⟨σ', H', J', q⟩ := got; exact wpAny_execs_nil ⟨σ', H', J'.ofTry fine, q⟩
  | brk => obtain ⟨σ', H', J', q⟩ := got; exact ⟨σ', H', J'.ofTry fine, q⟩
  | cont => obtain ⟨σ', H', J', q⟩ := got; exact ⟨σ', H', J'.ofTry fine, q⟩
  | ret u => obtain ⟨v, σ', H', J', r, q⟩ := got; exact ⟨v, σ', H', J'.ofTry fine, r, q⟩
end
end Er
set_option Elab.async false
set_option maxRecDepth 100000
set_option autoImplicit false
namespace Er
open PySem L2 PySem.Spec PyProof.Rows PySem.Calls
/-- what is written of a class of errors, so that its errors may be asked what they are -/
structure KeptC (K : PySem.W.Frag) (C : Addr) : Prop where
  xf : XfC K C
  cls : (PySem.W.clsIn K C).isSome = true
  at_ : PySem.W.findIn K (.ref C) "__class__" = some (some (.builtin "object.__class__"))
  get : PySem.W.specialIn K (.builtin "object.__class__") "__get__" = some (some (.builtin "getset_descriptor.__get__"))
  tak : PySem.W.takesIn K (.builtin "object.__class__") = some true
  obj : PySem.W.mroIn K C (.type "object") = some true
/-- at a: such an error, its fields fs -/
def KeptAt (H : Hp) (a C d : Addr) (fs : List (Str × V)) : Prop := H a = some (keptE (.ref C) (some d) a) ∧ H d = some (.xd fs)
def rIsErr (K : PySem.W.Frag) : List V → Hp → VK → Prop := fun xs H Q => ∃ (a C d : Addr) (fs : List (Str × V)) (c : V) (cv : Value) (b : Bool), xs = [.ref a, c] ∧ KeptAt H a C d fs ∧ KeptC K C ∧ ClsV c cv ∧ PySem.W.kitOne K (.ref C) cv = some b ∧ Q (.bl b) H
section
variable {X : Cx} {pins : List (Addr × Obj)} {σ : L2.St} {H : Hp} {s : Shared}
theorem inst_of {a C d : Addr} {fs : List (Str × V)} (I : Inv X pins σ H s) (k : KeptAt H a C d fs) : ∃ (oe od : Obj) (mA : Str → Option Value), PySem.W.InstAt s.heap a oe C (some od) ∧ (∀ f, PySem.W.lookIn f od = some (mA f)) ∧ ∀ f, RelO (fs.lookup f) (mA f) := by
  have oa := I.hok a _ k.1
  obtain ⟨⟨oe, vs, ha, hz, hd⟩, _, _⟩ := oa
  have hx : ObjOk X.prog X.w H s.heap d (.xd fs) := I.hok d _ k.2
  obtain ⟨mA, hns, hr⟩ := hx
  obtain ⟨od, ho, hl⟩ := lookIn_ns hns
  exact ⟨oe, od, mA, ⟨ha, hz.1, by unfold PySem.W.notCls; rw [hd] <;> rfl, by rw [hz.2]; exact ho⟩, hl, hr⟩
theorem call_isErr : CallR X (.builtin "isinstance") (rIsErr X.K) := by
  rintro pins s σ H xs us Q I r ⟨a, C, d, fs, c, cv, b, rfl, k, T, kc, e, q⟩
  obtain ⟨u1, u2, rfl, r1, r2⟩ := vals2 r
  obtain rfl : u1 = Value.ref a := r1
  have e2 := kc.eq r2
  subst e2
  obtain ⟨oe, od, mA, J, _, _⟩ := inst_of I k
  exact PySem.W.kia_one (PySem.W.kitx_exc (ox := oe) (od := some od) T.cls T.xf.ga T.xf.gg T.xf.exC T.at_ T.get T.tak T.obj) I.kIn J e (fun z => by cases z) fun tk => ⟨.bl b, H, I.tok tk, rfl, q⟩
/-- e.f, e such an error -/
def tKf (K : PySem.W.Frag) (f : Str) (te : TE) : TE := fun σ H Q => te σ H fun x H1 => ∃ a C d fs v, x = .ref a ∧ KeptAt H1 a C d fs ∧ XfC K C ∧ PySem.W.findIn K (.ref C) f = some none ∧ fs.lookup f = some v ∧ Q v H1
theorem pe_kf {e : Expr} {te : TE} {f : Str} {pos : Pos} (he : PE X e te) (hb : attributeBase e f X.env (eval e X.env) = eval e X.env := by rfl) : PE X (.Attribute e f pos) (tKf X.K f te) := by
  refine ⟨fun pins s σ H Q I h => attr_of hb (thn (he.run pins s σ H _ I h) ?_)⟩
  rintro u s1 ⟨x, H1, I1, rx, a, C, d, fs, v, rfl, k, T, no, l, q⟩
  obtain rfl : u = Value.ref a := rx
  obtain ⟨oe, od, mA, J, look, rel⟩ := inst_of I1 k
  obtain ⟨z, hz, rz⟩ := RelO.some_of (v := v) (o := mA f) (by rw [← l]; exact rel f)
  exact HandSPX.exc_get I1.kIn J T.ga T.gg T.exC (PySem.W.findObj_own T.hdC no rfl (by rw [look, hz])) (handed_of rz) ⟨v, H1, I1.tok _, rz, q⟩
end
end Er
set_option Elab.async false
set_option maxRecDepth 100000
set_option autoImplicit false
/-! Rules: str(x) by an own __str__; x == y by an own __eq__, y anything; list(text); text * number; x is True. -/
namespace Ru
open PySem L2 PySem.Spec PyProof.Rows Rg
section
variable {prog : Program} {w : World} {A : Around} {E : Value → Shared → Prop} {s : Shared} {K : PySem.W.Frag} {x C f : Addr} {ox : Obj} {od : Option Obj}
theorem strOf_own (hu : A.units < cLine) {Q : Value → Shared → Prop} (X : K.In s.heap) (I : PySem.W.InstAt s.heap x ox C od) (hs : PySem.W.findIn K (.ref C) "__str__" = some (some (.ref f))) (hf : PySem.W.isFn K (.ref f) = true)
    (h : wpAny (model prog w) A (call (.ref f) [.ref x]) (fun r s₁ => ∃ z t, r = Value.str z t ∧ Q r s₁) E s) : wpAny (model prog w) A (Builtin.Str.strOf (.ref x)) Q E s := by
  unfold Builtin.Str.strOf
  rw [show Builtin.Str.isExactStr (.ref x) = false from rfl]
  refine wpAny_bind (m := cRoomFor _ _) (wpAny_cRoomFor hu ?_)
  refine wpAny_bind (m := callSpecial? (.ref x) (Str.ofString "__str__")) (PySem.W.special_fn X I hs (beq_iff_eq.mp hf) (wpAny_mono h (fun r s₁ h₁ => ?_) fun _ _ e => e))
  obtain ⟨z, t, rfl, hq⟩ := h₁
  exact wpAny_pure hq
theorem str_own (hu : A.units + 2 < cLine) {Q : Value → Shared → Prop} (X : K.In s.heap) (I : PySem.W.InstAt s.heap x ox C od) (hs : PySem.W.findIn K (.ref C) "__str__" = some (some (.ref f))) (hf : PySem.W.isFn K (.ref f) = true)
    (h : wpAny (model prog w) A.in1.in1 (call (.ref f) [.ref x]) (fun r s₁ => ∃ z t, r = Value.str z t ∧ Q r s₁) E s) : wpAny (model prog w) A (call (.type "str") [.ref x]) Q E s := by
  refine callType_codes (T := "str") (Bi := Builtin.«object.__init__») (Q₁ := fun r s₁ => ∃ n u, r = Value.str n u ∧ Q r s₁) PySem.F.called_str (PySem.F.typeCall_str_1 _) PySem.F.entry_object_init ?_ ?_
  · refine codeAny_of_tree ?_
    show wpAny _ A.in1.in1 (do checkBuiltinCall "str.__new__" ⟨[.type "str", .ref x], []⟩; again (.builtin "str.__new__" ⟨[.type "str", .ref x], []⟩)) _ _ s
    refine wpAny_bind (wpAny_of_eq (PySem.F.newCall_str_1 _) (wpAny_pure ⟨plainId_quiet (by decide +kernel) _, codeAny_builtin PySem.F.entry_str_new ?_⟩))
    rw [Around.under_plainId (by decide +kernel) _, str_new_tree]
    refine wpAny_bind (wpAny_pure ?_)
    refine wpAny_bind (wpAny_of_eq isSubtype_str_str ?_)
    refine wpAny_bind (strOf_own (by show A.units + 1 + 1 < cLine; omega) X I hs hf (wpAny_mono h (fun r s₁ hr => ?_) fun _ _ y => y))
    obtain ⟨n, u, rfl, hq⟩ := hr
    exact ⟨n, u, rfl, wpAny_pure ⟨n, u, rfl, hq⟩⟩
  · rintro obj s₁ ⟨n, u, rfl, hq⟩
    exact ⟨typeIs_str _ _ _, PySem.F.args_object_init_2 _ _, object_init_meets PySem.F.called_str.init.lookup PySem.F.called_str.made (by decide) prog w A.in1 _ s₁ ⟨typeIs_str _ _ _, rfl, hq⟩⟩
end
section
variable {X : Cx} {CX : CXT} {k : Nat} {C f : Addr} {fd : FuncData} {ps : List Str} {sp : Sp} {E : XK} {pins : List (Addr × Obj)} {σ : L2.St} {H : Hp} {s : Shared}
/-- a def of the text, run within A -/
theorem runAt {A : Around} {Q : VK} {us : List Value} {vs : List V} (F : FnOk X.prog X.w X.K X.mg X.base CX k f fd ps sp) (room : Room k A) (e0 : Env0 X.prog X.w X.K X.mg X.base A X.stack s H) (bd : Binds X.K fd ps []) (ex : Passes CX X E)
    (I : Inv X pins σ H s) (r : Vals vs us) (want : sp vs H Q E) : wpAny (model X.prog X.w) A (call (.ref f) us) (EP X pins σ Q) X.xe s := by
  have len : us.length = ps.length := r.length.symm.trans (F.len _ _ _ _ want)
  have bt : BindsTo s fd ⟨us, []⟩ (ps.zip us) := by
    have z := bd s us I.kIn (by rw [List.append_nil]; exact len)
    rw [List.append_nil] at z
    exact z
  refine wpAny_call (codeAny_mono (F.run A X.stack s H ⟨us, []⟩ us vs Q E room e0 bt r want) fun res s' got => ?_)
  rcases res with e | fl
  · exact ex pins σ H s e s' I got
  · cases fl <;> first | exact I.after got | exact False.elim got
/-- str(o), o an instance of the class at C -/
def rStrOwn (C : Addr) (sp : Sp) (E : XK) : List V → Hp → VK → Prop := fun xs H Q => ∃ a dx fs, xs = [.ref a] ∧ H a = some (.ins C dx fs) ∧ sp [.ref a] H (fun v H' => ∃ z : Str, v = .str z ∧ Q (.str z) H') E
theorem call_strOwn (F : FnOk X.prog X.w X.K X.mg X.base CX k f fd ps sp) (room : Room (k + 2) X.A) (bd : Binds X.K fd ps []) (ex : Passes CX X E)
    (at_ : PySem.W.findIn X.K (.ref C) "__str__" = some (some (.ref f))) (fn : PySem.W.isFn X.K (.ref f) = true) : CallR X (.type "str") (rStrOwn C sp E) := by
  rintro pins s σ H xs us Q I r ⟨a, dx, fs, rfl, e, want⟩
  obtain ⟨od, J⟩ := instAt I e
  cases r with
  | cons r0 r1 =>
    cases r1
    cases r0
    have hr2 : Room k X.A.in1.in1 := (show Room (k + 1) X.A.in1 from Room.in1 room).in1
    refine str_own (by have := room.un; omega) I.kIn J at_ fn (thn (runAt F hr2 I.env0.in1.in1 bd ex I (.cons (rvRef a) .nil) want) ?_)
    rintro u s' ⟨v, H', I', rv, z, rfl, q⟩
    obtain ⟨t, rfl⟩ := rv
    exact ⟨z, t, rfl, .str z, H', I', ⟨t, rfl⟩, q⟩
/-- o == y, y of another kind, or of the class itself -/
def rEqOwn (K : PySem.W.Frag) (C : Addr) (sp : Sp) (E : XK) : R2 := fun x y H Q => ∃ a dx fs t, x = .ref a ∧ H a = some (.ins C dx fs) ∧ TyX K H y t ∧ PySem.W.notFirst K C t = true ∧ sp [x, y] H (fun v H' => ∃ b, v = .bl b ∧ Q (.bl b) H') E
theorem op_eqOwn (F : FnOk X.prog X.w X.K X.mg X.base CX k f fd ps sp) (room : Room k X.A) (bd : Binds X.K fd ps []) (ex : Passes CX X E)
    (at_ : PySem.W.findIn X.K (.ref C) "__eq__" = some (some (.ref f))) (fn : PySem.W.isFn X.K (.ref f) = true) : OpR X (compareOp .Eq) (rEqOwn X.K C sp E) := by
  rintro pins s σ H x y v u Q I rx ry ⟨a, dx, fs, t, rfl, e, ty, nf, want⟩
  obtain rfl : v = Value.ref a := rx
  obtain ⟨od, J⟩ := instAt I e
  obtain ⟨m, hF⟩ := I.fr
  show wpAny (model X.prog X.w) X.A (richCompare .Eq (.ref a) u) (EP X pins σ Q) X.xe s
  obtain ⟨P0, kx, hp, _⟩ := kit_of I ry ty
  refine PySem.W.cmp_K (op := .Eq) (tb := t) room.units0 hF I.ok.mod.kin J (kx.ty _ _ I.kIn hp) nf at_ fn ?_
  refine thn (runAt F room I.env0 bd ex I (.cons (rvRef a) (.cons ry .nil)) want) ?_
  rintro z s' ⟨v', H', I', rv, b, rfl, q⟩
  obtain rfl : z = Value.bool b := rv
  exact ⟨.bl b, H', I', rfl, q⟩
theorem signs_at : ∀ {us : List Value} {cs : List Nat}, us.length = cs.length → (∀ (j : Nat) (v : Value), us[j]? = some v → ∃ (c : Nat) (u : Tok), cs[j]? = some c ∧ v = .str ⟨#[c]⟩ u) → Vals (cs.map fun c => V.str ⟨#[c]⟩) us
  | [], [], _, _ => .nil
  | u :: us, c :: cs, hl, h => by
    refine .cons ?_ (signs_at (by simpa using hl) fun j v e => ?_)
    · obtain ⟨c', t, h1, h2⟩ := h 0 u rfl
      cases h1
      exact ⟨t, h2⟩
    · obtain ⟨c', t, h1, h2⟩ := h (j + 1) v (by simpa using e)
      exact ⟨c', t, by simpa using h1, h2⟩
/-- list(text) -/
def rListS : List V → Hp → VK → Prop := fun xs H Q => ∃ z : Str, xs = [.str z] ∧ z.length ≤ sizeLine ∧ ∀ l, H l = none → Q (.ref l) (upd H l (.lst (z.cps.toList.map fun c => V.str ⟨#[c]⟩)))
theorem call_listS (hc : X.calm = true) : CallR X (.type "list") rListS := by
  rintro pins s σ H xs us Q I r ⟨z, rfl, few, q⟩
  obtain ⟨u, rfl, t, rfl⟩ := vals1 r
  refine call_list_str (I.ok.hd hc) z t (hn := few) fun h' tk acc c' hk hD hacc => ?_
  have hv : Vals (z.cps.toList.map fun c => V.str ⟨#[c]⟩) acc.toList := signs_at (by rw [Array.length_toList, Array.length_toList]; exact hacc.1) fun j v e => by
    obtain ⟨c, u, h1, h2⟩ := hacc.2 j v (by rw [← Array.getElem?_toList]; exact e)
    exact ⟨c, u, by rw [Array.getElem?_toList]; exact h1, h2⟩
  exact ⟨.ref s.heap.objs.size, _, I.laid (t' := tk) hk (Nat.le_refl _) (show ObjOk X.prog X.w _ _ _ (.lst (z.cps.toList.map fun c => V.str ⟨#[c]⟩)) from ⟨by simpa [Str.length] using few, acc.toList, c', hv, by rw [Array.toArray_toList]; exact hD⟩), rfl, q _ (I.hok.fresh (Nat.le_refl _))⟩
/-- text * 0, text * 1 -/
def rMul1 : R2 := fun x y H Q => ∃ (z : Str) (b : Bool), x = .str z ∧ y = .int (if b then 1 else 0) ∧ Q (.str (if b then z else Str.empty)) H
theorem op_mul1 : OpR X (binaryOp .Mult) rMul1 := by
  rintro pins s σ H x y v u Q I rx ry ⟨z, b, rfl, rfl, q⟩
  obtain ⟨t, rfl⟩ := rx
  obtain ⟨t', rfl⟩ := ry
  cases b with
  | true =>
    refine PySem.P.mul_str (by decide) (fun _ h => absurd h (by simp)) (fun _ h => absurd h (by simp)) ?_
    exact ⟨.str z, H, I, ⟨t, rfl⟩, q⟩
  | false =>
    refine PySem.P.mul_str (by decide) (fun h => absurd (by decide) h) (fun h => absurd (by decide) h) ?_
    exact ⟨by decide, .str Str.empty, H, I.tok _, ⟨_, rfl⟩, q⟩
/-- x is y, y a truth, x a truth or a text -/
def rIsBS : R2 := fun x y H Q => ∃ b, y = .bl b ∧ ((∃ a, x = .bl a) ∨ ∃ z, x = .str z) ∧ Q (.bl (decide (x = y))) H
theorem op_isBS : OpR X (compareOp .Is) rIsBS := by
  rintro pins s σ H x y v u Q I rx ry ⟨b, rfl, hx, q⟩
  obtain rfl : u = Value.bool b := ry
  rcases hx with ⟨a, rfl⟩ | ⟨z, rfl⟩
  · obtain rfl : v = Value.bool a := rx
    by_cases e : a = b
    · subst e
      exact wpAny_is_self rfl ⟨.bl true, H, I, rfl, by simpa using q⟩
    · exact wpAny_is_other rfl (fun z => e (Value.bool.inj z)) ⟨.bl false, H, I, rfl, by simpa [e] using q⟩
  · obtain ⟨t, rfl⟩ := rx
    exact wpAny_is_other rfl (fun z => nomatch z) ⟨.bl false, H, I, rfl, by simpa using q⟩
end
end Ru
set_option Elab.async false
set_option maxRecDepth 100000
namespace Kx
open PySem L2 PySem.Spec PyProof.Rows Rg
def top (i : Nat) : Stmt := PySem.Challenge.pw_rowgames_k03_order_of_rows.main.body.getD i (.Pass ⟨0, 0, 0, 0⟩)
abbrev sPen : Stmt := top 18
abbrev sDraw : Stmt := top 19
abbrev sPick : Stmt := top 20

/-! ### heaps that grow, but for the pen -/
def Ext1 (p : Addr) (H H' : Hp) : Prop := ∀ b o, b ≠ p → H b = some o → H' b = some o
theorem Ext1.refl (p : Addr) (H : Hp) : Ext1 p H H := fun _ _ _ e => e
theorem Ext1.trans {p : Addr} {H H1 H2 : Hp} (a : Ext1 p H H1) (b : Ext1 p H1 H2) : Ext1 p H H2 := fun c o n e => b c o n (a c o n e)
theorem Ext1.new {p q : Addr} {H : Hp} {o : HO} (h : H q = none) : Ext1 p H (upd H q o) := fun b u _ e => by rw [upd_ne (ne_of_none e h)]; exact e
theorem Ext1.put {p : Addr} {H : Hp} {o : HO} : Ext1 p H (upd H p o) := fun b u n e => by rw [upd_ne n]; exact e

/-- at p the pen: at most n cells were taken -/
def PenAt (c : Addr) (n : Nat) (H : Hp) (p : Addr) : Prop := ∃ (ns : List Int) (a g : Int), H p = some (.lst [.ref c, .int a, .int g]) ∧ H c = some (.lst (ns.map V.int)) ∧ c ≠ p ∧ ns.length ≤ 63 ∧ 0 ≤ a ∧ a ≤ n
theorem PenAt.mono {c : Addr} {n m : Nat} {H : Hp} {p : Addr} (h : PenAt c n H p) (l : n ≤ m) : PenAt c m H p := by
  obtain ⟨ns, a, g, h1, h2, h3, h4, h5, h6⟩ := h
  exact ⟨ns, a, g, h1, h2, h3, h4, h5, by omega⟩
theorem PenAt.ext {c : Addr} {n : Nat} {H H' : Hp} {p : Addr} (h : PenAt c n H p) (e : ∀ b o, H b = some o → H' b = some o) : PenAt c n H' p := by
  obtain ⟨ns, a, g, h1, h2, h3⟩ := h
  exact ⟨ns, a, g, e _ _ h1, e _ _ h2, h3⟩
theorem PenAt.new {c : Addr} {n : Nat} {H : Hp} {p q : Addr} {o : HO} (h : PenAt c n H p) (f : H q = none) : PenAt c n (upd H q o) p := h.ext fun b u e => by rw [upd_ne (ne_of_none e f)]; exact e

/-! ### what the built-in names are -/
structure Txt (mg : Str → Option Value) : Prop where
  len : mg "len" = none
  int : mg "int" = none
  abs : mg "abs" = none
  list : mg "list" = none
  tuple : mg "tuple" = none
  range : mg "range" = none
  repr : mg "repr" = none
  isi : mg "isinstance" = none
  all : mg "all" = none
  set : mg "set" = none

/-! ### _law_draw -/
def spDraw : Sp := fun vs H Q _ => ∃ (c p : Addr) (m : Int) (n : Nat), vs = [.ref p, .int m] ∧ 0 < m ∧ m < 1000000 ∧ n ≤ 1000000 ∧ PenAt c n H p ∧ ∀ r H', 0 ≤ r → r < m → PenAt c (n + 1) H' p → Ext1 p H H' → Q (.int r) H'

theorem dpInts (K : PySem.W.Frag) (H : Hp) : ∀ ns : List Int, DpAll K H (ns.map V.int) (ns.map PyData.int)
  | [] => .nil
  | n :: r => .cons (.int n) (dpInts K H r)
theorem layInts : ∀ ns : List Int, PyData.canLayAll0 (ns.map PyData.int) = true
  | [] => rfl
  | _ :: r => layInts r
theorem depthInts : ∀ ns : List Int, PyData.depthAll (ns.map PyData.int) = 0
  | [] => rfl
  | _ :: r => by
    show max 0 (PyData.depthAll (r.map PyData.int)) = 0
    rw [depthInts r] <;> rfl
theorem shapedInts (ns : List Int) : SeqAt.shaped (.list (ns.map PyData.int)) = true := by
  show (PyData.canLayAll0 (ns.map PyData.int) && decide (PyData.depthAll (ns.map PyData.int) + 1 ≤ 64)) = true
  rw [layInts, depthInts] <;> rfl
theorem mixed1 {z a c d n : Int} (n0 : 0 < n) (nb : n < 2 ^ 32) (c0 : 0 ≤ c) (cb : c ≤ 100000) (d0 : 0 ≤ d) (db : d ≤ 100000) (a0 : 0 ≤ a) (ab : a ≤ 1000000) : (z % n + c * a + d).natAbs < 2 ^ 64 := by
  have h1 := Int.emod_nonneg z (b := n) (by omega)
  have h2 := Int.emod_lt_of_pos z n0
  have h3 : c * a ≤ 100000 * 1000000 := Int.mul_le_mul cb ab a0 (by omega)
  have h4 : 0 ≤ c * a := Int.mul_nonneg c0 a0
  omega
theorem mixed2 {x a b c d n : Int} (x0 : 0 ≤ x) (xb : x < n) (nb : n < 2 ^ 32) (b0 : 0 ≤ b) (bb : b ≤ 100000) (c0 : 0 ≤ c) (cb : c ≤ 100000) (d0 : 0 ≤ d) (db : d ≤ 100000) (a0 : 0 ≤ a) (ab : a ≤ 1000000) : (x * (2 * a + b) + c * a * a + d).natAbs < 2 ^ 64 := by
  have h1 : x * (2 * a + b) ≤ 2 ^ 32 * 2100000 := Int.mul_le_mul (by omega) (by omega) (by omega) (by omega)
  have h2 : 0 ≤ x * (2 * a + b) := Int.mul_nonneg x0 (by omega)
  have h3 : c * a ≤ 100000 * 1000000 := Int.mul_le_mul cb ab a0 (by omega)
  have h4 : 0 ≤ c * a := Int.mul_nonneg c0 a0
  have h5 : c * a * a ≤ 100000 * 1000000 * 1000000 := Int.mul_le_mul h3 ab a0 (by omega)
  have h6 : 0 ≤ c * a * a := Int.mul_nonneg h4 a0
  omega
theorem atMod {ns : List Int} (a : Int) (pos : 0 < ns.length) : ∃ z, atI (ns.map V.int) (a % (ns.length : Int)) = some (.int z) := by
  have h1 := Int.emod_nonneg a (b := (ns.length : Int)) (by omega)
  have h2 := Int.emod_lt_of_pos a (b := (ns.length : Int)) (by omega)
  generalize a % (ns.length : Int) = j at h1 h2
  have hj : j.toNat < ns.length := by omega
  refine ⟨ns[j.toNat], ?_⟩
  have e : (j.toNat : Int) = j := by omega
  have q : atI (ns.map V.int) ((j.toNat : Nat) : Int) = some (.int ns[j.toNat]) := atI_nat (by simp [hj])
  rw [e] at q
  exact q
theorem eqv_nil (ns : List Int) : PyData.eqv (.list (ns.map PyData.int)) (.list []) = ns.isEmpty := by
  cases ns with
  | nil => rfl
  | cons a t => rfl
section
variable {P : Program} {w : World} {K : PySem.W.Frag} {mg : Str → Option Value} {base : Heap}
theorem scDraw : FnScope ["_law_pen_here", "_law_many", "_law_digit", "_law_taken", "_law_cell", "_law_great", "_law_mixed"] ["_law_pen_here", "_law_many"] (defScope sDraw) := ⟨rfl, rfl, rfl, by decide +kernel, rfl, by decide +kernel, by decide +kernel⟩
theorem bLen {X : Cx} {e : Expr} {te : TE} {p pos : Pos} (hg : Gl X "len") (m : X.mg "len" = none) (he : PE X e te) (na : starEach [e] X.env = (false, eval e X.env) :: starEach [] X.env := by rfl) : PE X (.Call (.Name "len" p) [e] [] pos) (tCB (fun xs H Q => ∃ x n, xs = [x] ∧ LenV X.K x H n ∧ Q (.int n) H) (tCons te tNil)) := pe_callB call_len hg m PySem.boot_len (pa_cons he pa_nil na) (he := na)
theorem bInt {X : Cx} {e : Expr} {te : TE} {p pos : Pos} (hg : Gl X "int") (m : X.mg "int" = none) (he : PE X e te) (na : starEach [e] X.env = (false, eval e X.env) :: starEach [] X.env := by rfl) : PE X (.Call (.Name "int" p) [e] [] pos) (tCB (fun xs H Q => (∃ i, xs = [.int i] ∧ Q (.int i) H) ∨ ∃ k, xs = [.bl k] ∧ Q (.int (if k then 1 else 0)) H) (tCons te tNil)) :=
  pe_callTy call_int1 hg m (by decide +kernel) (pa_cons he pa_nil na) (he := na)
theorem bAbs {X : Cx} {e : Expr} {te : TE} {p pos : Pos} (hg : Gl X "abs") (m : X.mg "abs" = none) (he : PE X e te) (na : starEach [e] X.env = (false, eval e X.env) :: starEach [] X.env := by rfl) : PE X (.Call (.Name "abs" p) [e] [] pos) (tCB (fun xs H Q => ∃ i, xs = [.int i] ∧ Q (.int (if i < 0 then -i else i)) H) (tCons te tNil)) :=
  pe_callB call_abs hg m (by decide +kernel) (pa_cons he pa_nil na) (he := na)
theorem bIx {X : Cx} {a b : Expr} {ta tb : TE} {pos : Pos} (ha : PE X a ta) (hb : PE X b tb) (hs : PlainIx b := by intro _ _; rfl) : PE X (.Subscript a b pos) (tOp (rIxL X.K) ta tb) := pe_ix ix_list ha hb hs
theorem ok_draw {f : Addr} {fd : FuncData} (F : Fun K "_law_draw" "_law_draw" sDraw f fd) (T : Txt mg) : FnOk P w K mg base CX0 1 f fd ["_law_pen_here", "_law_many"] spDraw := by
  refine F.ok scDraw (fun vs H Q E h => ?_) (fun cdv A outer s H vs Q E hr h => ?_)
  · obtain ⟨c, p, m, n, rfl, _⟩ := h
    rfl
  · obtain ⟨c, p, m, n, rfl, m0, mb, nb, pen, k⟩ := h
    have nd := scDraw.nd
    refine ⟨_, pss_cons (ps_if (pt_cmpR op_gt (bIx (pv 0) pe_int) pe_int (nomark _))
        (pss_cons (ps_set (i := 2) nd rfl (.inl rfl) (pe_op op_mod (bInt (by rfl) T.int (bIx (pv 0) pe_int)) (pv 1)))
          (pss_cons (ps_asg (pe_op op_fdivN (bInt (by rfl) T.int (bIx (pv 0) pe_int)) (pv 1)) (pg_sub (pv 0) pe_int set_list)) (pss_one (ps_ret (pv 2))))) pss_nil)
      (pss_cons (ps_set (i := 3) nd rfl (.inl rfl) (bIx (pv 0) pe_int))
      (pss_cons (ps_asg (pe_op op_add (pv 3) pe_int) (pg_sub (pv 0) pe_int set_list))
      (pss_cons (ps_set (i := 4) nd rfl (.inl rfl) (pe_op op_add (pe_op op_mul pe_int (pv 3)) pe_int))
      (C8.pss_cut (ps_if (pt_cmpR (op_neD hr.units) (bIx (pv 0) pe_int) (pe_lst pa_nil) (nomark _))
        (pss_one (ps_set (i := 4) nd rfl (.inl rfl) (bIx (bIx (pv 0) pe_int) (pe_op op_mod (bInt (by rfl) T.int (pv 3)) (bLen (by rfl) T.len (bIx (pv 0) pe_int)))))) pss_nil)
      (C8.pss_cut (ps_if (PW.pt (pw_and (pt_cmpR op_lt (pv 3) (bLen (by rfl) T.len (bIx (pv 0) pe_int)) (nomark _)) (pw_and1 (pt_cmpR op_ge (bAbs (by rfl) T.abs (pv 4)) (pe_op op_pow pe_int pe_int) (nomark _)))))
        (pss_cons (ps_set (i := 5) nd rfl (.inl rfl) (pe_op op_add (pe_op op_mul pe_int (pe_op op_sub (bAbs (by rfl) T.abs (pv 4)) (pe_op op_pow pe_int pe_int))) (bInt (by rfl) T.int (pe_cmpR op_lt (pv 4) pe_int (nomark _)))))
          (pss_cons (ps_asg (pe_op op_fdivN (bInt (by rfl) T.int (pv 5)) (pv 1)) (pg_sub (pv 0) pe_int set_list)) (pss_one (ps_ret (pe_op op_mod (bInt (by rfl) T.int (pv 5)) (pv 1)))))) pss_nil)
      (pss_cons (ps_set (i := 6) nd rfl (.inl rfl) (pe_op op_mod (bInt (by rfl) T.int (pe_op op_pow (pe_op op_add (pe_op op_add (pe_op op_mod (bInt (by rfl) T.int (pv 4)) pe_int) (pe_op op_mul pe_int (pv 3))) pe_int) pe_int)) pe_int))
      (pss_cons (ps_set (i := 6) nd rfl (.inl rfl) (pe_op op_mod (bInt (by rfl) T.int (pe_op op_pow (pe_op op_add (pe_op op_add (pe_op op_mul (pv 6) (pe_op op_add (pe_op op_mul pe_int (pv 3)) pe_int)) (pe_op op_mul (pe_op op_mul pe_int (pv 3)) (pv 3))) pe_int) pe_int)) pe_int))
      (pss_one (ps_ret (pe_op op_mod (pe_op op_fdivN (bInt (by rfl) T.int (pv 6)) pe_int) (pv 1))))))))))), ?_⟩
    obtain ⟨ns, a, g, hp, hc, cp, hl, a0, an⟩ := pen
    have md : ∀ x : Int, 0 ≤ x % m ∧ x % m < m := fun x => ⟨Int.emod_nonneg x (by omega), Int.emod_lt_of_pos x m0⟩
    have ms : m ≠ 0 ∧ m.natAbs < 1073741824 := ⟨by omega, by omega⟩
    refine ⟨_, rfl, p, _, 2, _, rfl, rfl, SqL.of hp, rfl, g, 0, rfl, rfl, _, rfl, ite2 (fun hg => ?_) (fun hg => ?_)⟩
    · refine ⟨_, rfl, p, _, 2, _, rfl, rfl, SqL.of hp, rfl, .inl ⟨_, rfl, _, rfl, _, _, rfl, rfl, m0, ?_⟩⟩
      refine ⟨_, rfl, p, _, 2, _, rfl, rfl, SqL.of hp, rfl, .inl ⟨_, rfl, _, rfl, _, _, rfl, rfl, ms, ?_⟩⟩
      refine ⟨_, rfl, p, _, 2, 2, rfl, rfl, hp, rfl, ?_⟩
      refine ⟨_, rfl, k _ _ (md g).1 (md g).2 ⟨ns, a, _, upd_same, ?_, cp, hl, a0, by omega⟩ Ext1.put⟩
      rw [upd_ne cp]; exact hc
    refine ⟨_, rfl, p, _, 1, _, rfl, rfl, SqL.of hp, rfl, ?_⟩
    refine ⟨_, rfl, _, _, rfl, rfl, ?_⟩
    refine ⟨_, rfl, p, _, 1, 1, rfl, rfl, hp, rfl, ?_⟩
    have mul64 : ∀ {x y : Int}, -(2 ^ 64) < x → x < 2 ^ 64 → CMul x y := fun h1 h2 => Or.inl ⟨h1, h2⟩
    generalize hH1 : upd H p (HO.lst ([V.ref c, V.int a, V.int g].set 1 (V.int (a + 1)))) = H1
    have hp1 : H1 p = some (.lst [.ref c, .int (a + 1), .int g]) := by rw [← hH1]; exact upd_same
    have hc1 : H1 c = some (.lst (ns.map V.int)) := by rw [← hH1, upd_ne cp]; exact hc
    have x1 : Ext1 p H H1 := by rw [← hH1]; exact Ext1.put
    refine ⟨_, rfl, _, _, rfl, rfl, mul64 (by decide) (by decide), _, _, rfl, rfl, ?_⟩
    refine ⟨fun σ' H' => ∃ (z : Int) (q : Addr), σ' = [some (.ref p), some (.int m), none, some (.int a), some (.int z), none, none] ∧ H1 q = none ∧ H' = upd H1 q (.lst []), ?_, ?_⟩
    · refine ⟨_, rfl, p, _, 0, _, rfl, rfl, SqL.of hp1, rfl, Nat.zero_le _, fun q hq => ?_⟩
      have cq : c ≠ q := ne_of_none hc1 hq
      have pq : p ≠ q := ne_of_none hp1 hq
      have hc2 : (upd H1 q (.lst [])) c = some (.lst (ns.map V.int)) := by rw [upd_ne cq]; exact hc1
      have hp2 : (upd H1 q (.lst [])) p = some (.lst [.ref c, .int (a + 1), .int g]) := by rw [upd_ne pq]; exact hp1
      refine ⟨.list (ns.map PyData.int), .list [], .lst (SqL.of hc2) (dpInts _ _ ns), .lst (SqL.of upd_same) .nil, shapedInts ns, rfl, _, rfl, ?_⟩
      rw [eqv_nil]
      refine ite2 (fun hne => ?_) (fun _ => ⟨_, q, rfl, hq, rfl⟩)
      have pos : 0 < ns.length := by
        cases ns with
        | nil => exact absurd hne (by decide)
        | cons _ _ => exact Nat.succ_pos _
      obtain ⟨z, hz⟩ := atMod a pos
      refine ⟨_, rfl, p, _, 0, _, rfl, rfl, SqL.of hp2, rfl, _, rfl, .inl ⟨_, rfl, _, rfl, p, _, 0, _, rfl, rfl, SqL.of hp2, rfl, _, _, rfl, .inl ⟨_, SqL.of hc2, rfl⟩, ?_⟩⟩
      refine ⟨_, _, rfl, rfl, by rw [List.length_map]; omega, c, _, _, .int z, rfl, rfl, SqL.of hc2, ?_, z, q, rfl, hq, rfl⟩
      rw [List.length_map]; exact hz
    rintro σ2 H2 ⟨z, q, rfl, hq, rfl⟩
    have cq : c ≠ q := ne_of_none hc1 hq
    have pq : p ≠ q := ne_of_none hp1 hq
    have hc2 : (upd H1 q (.lst [])) c = some (.lst (ns.map V.int)) := by rw [upd_ne cq]; exact hc1
    have hp2 : (upd H1 q (.lst [])) p = some (.lst [.ref c, .int (a + 1), .int g]) := by rw [upd_ne pq]; exact hp1
    have x2 : Ext1 p H (upd H1 q (.lst [])) := x1.trans (Ext1.new hq)
    generalize upd H1 q (.lst []) = H2 at hc2 hp2 x2 ⊢
    have done : ∀ r, 0 ≤ r → r < m → Q (.int r) H2 := fun r r0 r1 => k r H2 r0 r1 ⟨ns, a + 1, g, hp2, hc2, cp, hl, by omega, by omega⟩ x2
    have fin : ∀ y : Int, Q (.int (y % m)) H2 := fun y => done _ (md y).1 (md y).2
    have a1 : a ≤ 1000000 := by omega
    refine ⟨fun σ' H' => σ' = [some (.ref p), some (.int m), none, some (.int a), some (.int z), none, none] ∧ H' = H2, ?_, ?_⟩
    · refine ⟨_, rfl, _, rfl, p, _, 0, _, rfl, rfl, SqL.of hp2, rfl, _, _, rfl, .inl ⟨_, SqL.of hc2, rfl⟩, _, _, rfl, rfl, _, rfl, ite2 (fun _ => ?_) (fun _ => iteF ⟨rfl, rfl⟩)⟩
      refine ⟨_, rfl, z, rfl, _, _, rfl, rfl, ⟨by decide, by decide, by decide⟩, _, _, rfl, rfl, _, rfl, ite2 (fun _ => ?_) (fun _ => ⟨rfl, rfl⟩)⟩
      refine ⟨_, rfl, z, rfl, _, _, rfl, rfl, ⟨by decide, by decide, by decide⟩, _, _, rfl, rfl, _, _, rfl, rfl, mul64 (by decide) (by decide), _, rfl, _, _, rfl, rfl, .inr ⟨_, rfl, _, _, rfl, rfl, ?_⟩⟩
      refine ⟨_, rfl, .inl ⟨_, rfl, _, rfl, _, _, rfl, rfl, ms, _, rfl, p, _, 2, 2, rfl, rfl, hp2, rfl, ?_⟩⟩
      refine ⟨_, rfl, .inl ⟨_, rfl, _, rfl, _, _, rfl, rfl, m0, ?_⟩⟩
      refine k _ _ (md _).1 (md _).2 ⟨ns, a + 1, _, upd_same, ?_, cp, hl, by omega, by omega⟩ (x2.trans Ext1.put)
      rw [upd_ne cp]; exact hc2
    rintro σ3 H3 ⟨rfl, rfl⟩
    refine ⟨_, rfl, .inl ⟨_, rfl, _, _, rfl, rfl, (show (0 : Int) < 2147483629 by decide), _, rfl, _, _, rfl, rfl, mul64 (by decide) (by decide), _, _, rfl, rfl, _, _, rfl, rfl, _, _, rfl, rfl, ⟨by decide, by decide, mixed1 (by decide) (by decide) (by decide) (by decide) (by decide) (by decide) a0 a1⟩, .inl ⟨_, rfl, _, _, rfl, rfl, (show (0 : Int) < 2147483587 by decide), ?_⟩⟩⟩
    have xx : ∀ y : Int, 0 ≤ y % 2147483587 ∧ y % 2147483587 < 2147483587 := fun y => ⟨Int.emod_nonneg _ (by decide), Int.emod_lt_of_pos _ (by decide)⟩
    refine ⟨_, rfl, _, rfl, _, _, rfl, rfl, mul64 (by decide) (by decide), _, _, rfl, rfl, _, _, rfl, rfl, mul64 (Int.lt_of_lt_of_le (by decide) (xx _).1) (Int.lt_trans (xx _).2 (by decide)), _, rfl, _, _, rfl, rfl, mul64 (by decide) (by decide), _, rfl, _, _, rfl, rfl, Or.inr ⟨by omega, by omega⟩, _, _, rfl, rfl, _, _, rfl, rfl, _, _, rfl, rfl,
      ⟨by decide, by decide, mixed2 (xx _).1 (xx _).2 (by decide) (by decide) (by decide) (by decide) (by decide) (by decide) (by decide) a0 a1⟩, .inl ⟨_, rfl, _, _, rfl, rfl, (show (0 : Int) < 2147483647 by decide), ?_⟩⟩
    exact ⟨_, rfl, .inl ⟨_, rfl, _, _, rfl, rfl, ⟨by decide, by decide⟩, _, rfl, _, _, rfl, rfl, m0, fin _⟩⟩
end
end Kx



set_option Elab.async false
set_option maxRecDepth 100000
set_option autoImplicit false
namespace Kx
open PySem L2 PySem.Spec PyProof.Rows Rg Er
def abc : Str := "abcdefghijklmnopqrstuvwxyz"
theorem len_small {z : Str} (h : z.length ≤ 1000) : z.length ≤ sizeLine := Nat.le_trans h (by decide)
theorem bIsi {X : Cx} {e c : Expr} {te tc : TE} {p pos : Pos} (hg : Gl X "isinstance") (m : X.mg "isinstance" = none) (he : PE X e te) (hc : PE X c tc) (na : starEach [e, c] X.env = (false, eval e X.env) :: starEach [c] X.env := by rfl)
    (nb : starEach [c] X.env = (false, eval c X.env) :: starEach [] X.env := by rfl) (hpl : (backTo pos (starEach [c] X.env)).any (·.1) = false := by rfl) : PE X (.Call (.Name "isinstance" p) [e, c] [] pos) (tCB (rIsi X.K) (tCons te (tCons tc tNil))) :=
  pe_callB call_isi hg m boot_isinstance (pa_cons he (pa_cons hc pa_nil nb) na) (he := na) (hpl := hpl)
/-- a list or a tuple -/
def Sq (H : Hp) (a : Addr) (xs : List V) : Prop := H a = some (.lst xs) ∨ H a = some (.tup xs)
theorem Sq.same {H H' : Hp} {a : Addr} {xs : List V} (h : Sq H a xs) (e : Same H H') : Sq H' a xs := h.elim (fun q => .inl (e _ _ q)) fun q => .inr (e _ _ q)
theorem Sq.len {K : PySem.W.Frag} {H : Hp} {a : Addr} {xs : List V} (h : Sq H a xs) : LenV K (.ref a) H xs.length := h.elim (fun q => .inl ⟨_, SqL.of q, rfl⟩) fun q => .inr ⟨_, SqT.of q, rfl⟩
theorem Same.new {H : Hp} {q : Addr} {o : HO} (h : H q = none) : Same H (upd H q o) := fun b u e => by rw [upd_ne (ne_of_none e h)]; exact e
theorem Same.putNew {H H' : Hp} {q : Addr} {o : HO} (h : H q = none) (e : Same H H') : Same H (upd H' q o) := fun b u z => by rw [upd_ne (ne_of_none z h)]; exact e _ _ z
theorem PI_or {X : Cx} {tg iter : Expr} {w1 w2 : TI} (h1 : PI X tg iter w1) (h2 : PI X tg iter w2) : PI X tg iter (fun σ H R => w1 σ H R ∨ w2 σ H R) := ⟨fun pins s σ H R I h => h.elim (h1.run pins s σ H R I) (h2.run pins s σ H R I)⟩
theorem wipe1 (σ : L2.St) (v : Nat) (x : V) : wipe ((wipe σ [v]).set v (some x)) [v] = wipe σ [v] := by
  show ((σ.set v none).set v (some x)).set v none = σ.set v none
  rw [List.set_set, List.set_set]
/-- a comprehension whose elements are told by the turn, over a heap that only grows -/
theorem lcMap {J : It} {n : Nat} {G : Hp → Prop} {Y : Nat → Hp → V → Hp → Prop} (w : Walk J n G Y) {v : Nat} {te : TE} {σ : L2.St} {H1 : Hp} {D : Addr} {Qd : Hp → Prop} (f : Nat → V) (hn : n < sizeLine) (hD : H1 D = none) (hG : ∀ H', Same H1 H' → G H')
    (hY : ∀ i H' x H2, Y i H' x H2 → H2 = H')
    (el : ∀ i x H' (Q : VK), i < n → Same H1 H' → Y i H' x H' → (∀ H4, Same H' H4 → Q (f i) H4) → te ((wipe σ [v]).set v (some x)) H' Q)
    (hd : ∀ H', Same H1 H' → H' D = some (.lst ((List.range n).map f)) → Qd H') :
    ∃ W : Nat → Nat → Hp → Prop, (∃ m, W 0 m (upd H1 D (.lst []))) ∧ ∀ i m H, W i m H →
      (J.stop i H ∧ Qd H) ∨ (J.go i H ∧ ∃ Nx : Hp → Prop, (∀ H', Nx H' → ∃ m', m' < m ∧ W (i + 1) m' H') ∧ ∀ x H', J.yld i H x H' → gName v x (wipe σ [v]) H' fun σ2 H2 => wipe σ2 [v] = wipe σ [v] ∧ tYes σ2 H2 fun b H3 =>
        if b = true then te σ2 H3 fun y H4 => ∃ acc, H4 D = some (.lst acc) ∧ acc.length < sizeLine ∧ Nx (upd H4 D (.lst (acc ++ [y]))) else Nx H3) := by
  refine lc_it w (fun i H' => Same H1 H' ∧ H' D = some (.lst ((List.range i).map f))) ⟨Same.new hD, upd_same⟩ (fun i H' _ q => hG H' q.1) ?_ fun H' q => hd H' q.1 q.2
  rintro i x H' H2 hi ⟨s1, hl⟩ y
  obtain rfl := hY _ _ _ _ y
  refine ⟨wipe1 σ v x, ?_⟩
  unfold tYes
  dsimp only
  rw [if_pos rfl]
  refine el i x H2 _ hi s1 y fun H4 s4 => ⟨_, s4 _ _ hl, ?_, Same.putNew hD (s1.trans s4), ?_⟩
  · rw [List.length_map, List.length_range]; omega
  rw [upd_same, List.range_succ, List.map_append]
  rfl
theorem range_const {n : Nat} {x : V} : (List.range n).map (fun _ => x) = List.replicate n x := by
  rw [List.map_const', List.length_range]
/-- a comprehension over any walk, by an invariant of turn, heap and what is made so far -/
theorem lcGen {J : It} {n : Nat} {G : Hp → Prop} {Y : Nat → Hp → V → Hp → Prop} (w : Walk J n G Y) {v : Nat} {te : TE} {σ : L2.St} {H1 : Hp} {D : Addr} {Qd : Hp → Prop} (Iv : Nat → Hp → List V → Prop) (hn : n < sizeLine)
    (h0 : Iv 0 (upd H1 D (.lst [])) []) (hG : ∀ i H' acc, i ≤ n → Iv i H' acc → G H') (hY : ∀ i H' x H2, Y i H' x H2 → H2 = H')
    (el : ∀ i x H' acc (Q : VK), i < n → H' D = some (.lst acc) → acc.length = i → Iv i H' acc → Y i H' x H' → (∀ y H4, H4 D = some (.lst acc) → Iv (i + 1) (upd H4 D (.lst (acc ++ [y]))) (acc ++ [y]) → Q y H4) → te ((wipe σ [v]).set v (some x)) H' Q)
    (hd : ∀ H' acc, H' D = some (.lst acc) → acc.length = n → Iv n H' acc → Qd H') :
    ∃ W : Nat → Nat → Hp → Prop, (∃ m, W 0 m (upd H1 D (.lst []))) ∧ ∀ i m H, W i m H →
      (J.stop i H ∧ Qd H) ∨ (J.go i H ∧ ∃ Nx : Hp → Prop, (∀ H', Nx H' → ∃ m', m' < m ∧ W (i + 1) m' H') ∧ ∀ x H', J.yld i H x H' → gName v x (wipe σ [v]) H' fun σ2 H2 => wipe σ2 [v] = wipe σ [v] ∧ tYes σ2 H2 fun b H3 =>
        if b = true then te σ2 H3 fun y H4 => ∃ acc, H4 D = some (.lst acc) ∧ acc.length < sizeLine ∧ Nx (upd H4 D (.lst (acc ++ [y]))) else Nx H3) := by
  refine lc_it w (fun i H' => ∃ acc, H' D = some (.lst acc) ∧ acc.length = i ∧ Iv i H' acc) ⟨[], upd_same, rfl, h0⟩ (fun i H' hi ⟨acc, _, _, q⟩ => hG i H' acc hi q) ?_ fun H' ⟨acc, q1, q2, q3⟩ => hd H' acc q1 q2 q3
  rintro i x H' H2 hi ⟨acc, ha, hl, iv⟩ y
  obtain rfl := hY _ _ _ _ y
  refine ⟨wipe1 σ v x, ?_⟩
  unfold tYes
  dsimp only
  rw [if_pos rfl]
  refine el i x H2 acc _ hi ha hl iv y fun y H4 h4 i4 => ⟨acc, h4, by omega, _, upd_same, ?_, i4⟩
  rw [List.length_append, hl]
  rfl
theorem Same.ext1 {H H' : Hp} (p : Addr) (e : Same H H') : Ext1 p H H' := fun b o _ q => e b o q
/-! the pen -/
def Ink (c p : Addr) (n : Nat) (H H' : Hp) : Prop := Ext1 p H H' ∧ PenAt c n H' p
theorem PenAt.ne1 {c p q : Addr} {n : Nat} {H : Hp} (h : PenAt c n H p) (e : H q = none) : q ≠ p := by
  rintro rfl
  obtain ⟨ns, a, g, h1, _⟩ := h
  rw [h1] at e; cases e
theorem PenAt.ne2 {c p q : Addr} {n : Nat} {H : Hp} (h : PenAt c n H p) (e : H q = none) : q ≠ c := by
  rintro rfl
  obtain ⟨ns, a, g, _, h2, _⟩ := h
  rw [h2] at e; cases e
theorem PenAt.put {c p q : Addr} {n : Nat} {H : Hp} {o : HO} (h : PenAt c n H p) (n1 : q ≠ p) (n2 : q ≠ c) : PenAt c n (upd H q o) p := by
  obtain ⟨ns, a, g, h1, h2, h3⟩ := h
  exact ⟨ns, a, g, by rw [upd_ne n1.symm]; exact h1, by rw [upd_ne n2.symm]; exact h2, h3⟩
theorem Ink.start {c p : Addr} {n : Nat} {H : Hp} (h : PenAt c n H p) : Ink c p n H H := ⟨Ext1.refl p H, h⟩
theorem Ink.trans {c p : Addr} {n m : Nat} {H H1 H2 : Hp} (a : Ink c p n H H1) (b : Ink c p m H1 H2) : Ink c p m H H2 := ⟨Ext1.trans a.1 b.1, b.2⟩
theorem Ink.same {c p : Addr} {n : Nat} {H H1 H2 : Hp} (a : Ink c p n H H1) (b : Same H1 H2) : Ink c p n H H2 := ⟨Ext1.trans a.1 (Same.ext1 p b), a.2.ext b⟩
theorem Ink.new {c p q : Addr} {n : Nat} {H H1 : Hp} {o : HO} (a : Ink c p n H H1) (e : H1 q = none) : Ink c p n H (upd H1 q o) := a.same (Same.new e)
theorem Ink.mono {c p : Addr} {n m : Nat} {H H1 : Hp} (a : Ink c p n H H1) (l : n ≤ m) : Ink c p m H H1 := ⟨a.1, a.2.mono l⟩
/-- what is new to H may change: H grows all the same -/
theorem Ext1.putNew {p q : Addr} {H H1 : Hp} {o : HO} (a : Ext1 p H H1) (e : H q = none) : Ext1 p H (upd H1 q o) := fun b u n z => by rw [upd_ne (ne_of_none z e)]; exact a b u n z
theorem Ink.putNew {c p q : Addr} {n k : Nat} {H H1 : Hp} {o : HO} (a : Ink c p n H H1) (s : PenAt c k H p) (e : H q = none) : Ink c p n H (upd H1 q o) := ⟨a.1.putNew e, a.2.put (s.ne1 e) (s.ne2 e)⟩
def spPen (K : PySem.W.Frag) : Sp := fun vs H Q _ => ∃ (a : Addr) (ns : List Int), vs = [.ref a] ∧ SqL K H a (ns.map V.int) ∧ ns.length ≤ 63 ∧ ∀ c p H', Same H H' → PenAt c 0 H' p → Q (.ref p) H'
theorem bList {X : Cx} {e : Expr} {te : TE} {p pos : Pos} (hg : Gl X "list") (m : X.mg "list" = none) (he : PE X e te) (na : starEach [e] X.env = (false, eval e X.env) :: starEach [] X.env := by rfl) :
    PE X (.Call (.Name "list" p) [e] [] pos) (tCB (fun xs H Q => ∃ p ys, xs = [.ref p] ∧ (SqL X.K H p ys ∨ SqT X.K H p ys) ∧ ∀ l, H l = none → Q (.ref l) (upd H l (.lst ys))) (tCons te tNil)) :=
  pe_callTy call_list_of hg m (by decide +kernel) (pa_cons he pa_nil na) (he := na)
section
variable {P : Program} {w : World} {K : PySem.W.Frag} {mg : Str → Option Value} {base : Heap}
theorem scPen : FnScope ["_law_script"] ["_law_script"] (defScope sPen) := ⟨rfl, rfl, rfl, by decide +kernel, rfl, by decide +kernel, by decide +kernel⟩
theorem ok_pen {f : Addr} {fd : FuncData} (F : Fun K "_law_pen" "_law_pen" sPen f fd) (T : Txt mg) : FnOk P w K mg base CX0 1 f fd ["_law_script"] (spPen K) := by
  refine F.ok scPen (fun vs H Q E h => ?_) (fun cdv A outer s H vs Q E hr h => ?_)
  · obtain ⟨a, ns, rfl, _⟩ := h
    rfl
  · obtain ⟨a, ns, rfl, hs, hl, k⟩ := h
    refine ⟨_, pss_one (ps_ret (pe_lst (pa_cons (bList (by rfl) T.list (pe_slice sl_list (pv 0) po_none (po_some pe_int))) (pa_cons pe_int (pa_cons pe_int pa_nil))))), ?_⟩
    refine ⟨_, rfl, _, rfl, a, _, rfl, hs, fun q hq => ?_⟩
    have e : cutV (ns.map V.int) none (some 63) = ns.map V.int := by
      unfold cutV
      rw [show HT.sIx (ns.map V.int).length 0 none = 0 from rfl, show HT.sIx (ns.map V.int).length (ns.map V.int).length (some 63) = min 63 (ns.map V.int).length from HT.sIx_nat _ _ 63, List.drop_zero, Nat.sub_zero]
      exact List.take_of_length_le (by rw [List.length_map]; omega)
    rw [e]
    refine ⟨q, _, rfl, .inl (SqL.of upd_same), fun c hc => ⟨by show 3 ≤ sizeLine; decide, fun p hp => ?_⟩⟩
    have cp : c ≠ p := by rintro rfl; rw [upd_same] at hp; cases hp
    refine k c p _ ?_ ⟨ns, 0, 0, upd_same, by rw [upd_ne cp, upd_same], cp, hl, by decide, by decide⟩
    exact Same.trans (Same.new hq) (Same.trans (Same.new hc) (Same.new hp))
end
theorem ix_or {X : Cx} {r1 r2 : R2} (h1 : IxR X r1) (h2 : IxR X r2) : IxR X (fun x y H Q => r1 x y H Q ∨ r2 x y H Q) := fun a b pins s σ H x y v u Q I rx ry h hs => h.elim (fun h => h1 a b pins s σ H x y v u Q I rx ry h hs) (fun h => h2 a b pins s σ H x y v u Q I rx ry h hs)
def spPick : Sp := fun vs H Q _ => ∃ (c p : Addr) (n : Nat), n ≤ 1000000 ∧ PenAt c n H p ∧
  ((∃ a xs, vs = [.ref p, .ref a] ∧ a ≠ p ∧ H a = some (.lst xs) ∧ 0 < xs.length ∧ xs.length ≤ 1000 ∧ ∀ v H', v ∈ xs → PenAt c (n + 1) H' p → Ext1 p H H' → Q v H') ∨
  (∃ z : Str, vs = [.ref p, .str z] ∧ 0 < z.length ∧ z.length ≤ 1000 ∧ ∀ d H', d ∈ z.cps.toList → PenAt c (n + 1) H' p → Ext1 p H H' → Q (.str ⟨#[d]⟩) H'))
theorem atI_int {α : Type} {xs : List α} {s : Int} {v : α} (s0 : 0 ≤ s) (h : xs[s.toNat]? = some v) : atI xs s = some v := by
  have e : ((s.toNat : Nat) : Int) = s := by omega
  have q := atI_nat h
  rw [e] at q
  exact q
theorem atI_some {α : Type} {xs : List α} {i : Int} (i0 : 0 ≤ i) (i1 : i < xs.length) : ∃ v, v ∈ xs ∧ atI xs i = some v := by
  have h : i.toNat < xs.length := by omega
  exact ⟨xs[i.toNat], List.getElem_mem h, atI_int i0 (List.getElem?_eq_getElem h)⟩
section
variable {P : Program} {w : World} {K : PySem.W.Frag} {mg : Str → Option Value} {base : Heap}
theorem scPick : FnScope ["_law_pen_here", "_law_things"] ["_law_pen_here", "_law_things"] (defScope sPick) := ⟨rfl, rfl, rfl, by decide +kernel, rfl, by decide +kernel, by decide +kernel⟩
theorem ok_pick {f f1 : Addr} {fd fd1 : FuncData} (F : Fun K "_law_pick" "_law_pick" sPick f fd) (T : Txt mg) (G : FnOk P w K mg base CX0 1 f1 fd1 ["_law_pen_here", "_law_many"] spDraw) (m1 : mg "_law_draw" = some (.ref f1)) (k1 : PySem.W.keepIn K (.ref f1) = true)
    (b1 : Binds K fd1 ["_law_pen_here", "_law_many"] []) : FnOk P w K mg base CX0 2 f fd ["_law_pen_here", "_law_things"] spPick := by
  refine F.ok scPick (fun vs H Q E h => ?_) (fun cdv A outer s H vs Q E hr h => ?_)
  · obtain ⟨c, p, n, _, _, ⟨a, xs, rfl, _⟩ | ⟨z, rfl, _⟩⟩ := h <;> rfl
  · obtain ⟨c, p, n, nb, pen, h⟩ := h
    refine ⟨_, pss_one (ps_ret (pe_ix (ix_or ix_list ix_str) (pv 1) (pe_call G hr (by rfl) m1 k1 b1 .nil pass0 (pa_cons (pv 0) (pa_cons (bLen (by rfl) T.len (pv 1)) pa_nil))) (fun _ _ => rfl))), ?_⟩
    rcases h with ⟨a, xs, rfl, ap, ha, l0, l1, k⟩ | ⟨z, rfl, l0, l1, k⟩
    · refine ⟨_, rfl, _, rfl, _, rfl, _, _, rfl, Sq.len (.inl ha), c, p, _, n, rfl, by omega, by omega, nb, pen, fun r H' r0 r1 pen' x => ?_⟩
      obtain ⟨v, hv, e⟩ := atI_some r0 r1
      exact .inl ⟨a, xs, r, v, rfl, rfl, SqL.of (x _ _ ap ha), e, k v H' hv pen' x⟩
    · refine ⟨_, rfl, _, rfl, _, rfl, _, z.length, rfl, ⟨len_small l1, rfl⟩, c, p, _, n, rfl, by omega, by omega, nb, pen, fun r H' r0 r1 pen' x => ?_⟩
      obtain ⟨v, hv, e⟩ := atI_some (xs := z.cps.toList) r0 (by rw [Array.length_toList]; exact r1)
      exact .inr ⟨z, r, v, rfl, rfl, len_small l1, e, k v H' hv pen' x⟩
end
theorem joinL_one : ∀ cs : List Nat, TL.joinL [] (cs.map fun d => [d]) = cs
  | [] => rfl
  | [_] => rfl
  | a :: b :: r => by
    have e := joinL_one (b :: r)
    show [a] ++ ([] ++ TL.joinL [] ((b :: r).map fun d => [d])) = a :: b :: r
    rw [e]
    rfl
theorem join_one (cs : List Nat) : Txt.join ("" : Str) (cs.map fun d => (⟨#[d]⟩ : Str)) = ⟨cs.toArray⟩ := by
  have e := SX.join_S [] (cs.map fun d => [d])
  rw [joinL_one, List.map_map] at e
  exact e
theorem sum_one : ∀ cs : List Nat, ((cs.map fun d => (⟨#[d]⟩ : Str)).map (·.length)).sum = cs.length
  | [] => rfl
  | a :: r => by
    rw [List.map_cons, List.map_cons, List.sum_cons, sum_one r, List.length_cons]
    show 1 + r.length = _
    omega
theorem kbMk {K : PySem.W.Frag} {x qual : Str} {st : Stmt} {f : Addr} {fd : FuncData} {ps ks : List Str} {n : Nat} {g : List Value → List Value → List Value} {gV : List V → List V → List V} (F : L2.Fun K x qual st f fd)
    (h : ∀ (kV doc pm : Value) (an : Option Addr) (cdv ct : Value) (us ws : List Value), us.length = n → ws.length = ks.length → bindArgs (PySem.W.fnOf x qual (defArgs st) (defBody st) (defScope st) .none kV doc pm an cdv ct) ⟨us, ks.zip ws⟩ = pure (ps.zip (g us ws)))
    (rel : ∀ {vs : List V} {us : List Value} {zs : List V} {ws : List Value}, Vals vs us → Vals zs ws → Vals (gV vs zs) (g us ws)) : KBn K fd ps n ks g gV := by
  obtain ⟨oc, od, kV, doc, pm, an, cdv, ct, osl, rfl, lk, hcd⟩ := F.ex
  exact ⟨fun s us ws _ l1 l2 => .of_eq (h kV doc pm an cdv ct us ws l1 l2), rel⟩
theorem vapp {vs : List V} {us : List Value} {zs : List V} {ws : List Value} (a : Vals vs us) (b : Vals zs ws) : Vals (vs ++ zs) (us ++ ws) := by
  induction a with
  | nil => exact b
  | cons r _ ih => exact .cons r ih
theorem vrev {vs : List V} {us : List Value} (a : Vals vs us) : Vals vs.reverse us.reverse := by
  induction a with
  | nil => exact .nil
  | cons r _ ih => rw [List.reverse_cons, List.reverse_cons]; exact vapp ih (.cons r .nil)
structure Tame (d : PyData) (h w : Nat) : Prop where
  sh : d.showable = true
  hd : d.hasDict = false
  dp : d.depth ≤ h
  ls : d.leavesShort 13 = true
  wt : d.weight ≤ w
structure Tames (ds : List PyData) (h w : Nat) : Prop where
  sh : PyData.showableAll ds = true
  hd : PyData.hasDictAll ds = false
  dp : PyData.depthAll ds ≤ h
  ls : PyData.leavesShortAll 13 ds = true
  wt : PyData.weightAll ds ≤ w
theorem Tames.nil {h w : Nat} : Tames [] h w := ⟨rfl, rfl, Nat.zero_le _, rfl, Nat.zero_le _⟩
theorem Tames.cons {d : PyData} {ds : List PyData} {h w1 w2 w : Nat} (a : Tame d h w1) (b : Tames ds h w2) (e : w1 + 1 + w2 ≤ w) : Tames (d :: ds) h w := by
  refine ⟨?_, ?_, ?_, ?_, ?_⟩
  · simp only [PyData.showableAll, a.sh, b.sh, Bool.and_self]
  · simp only [PyData.hasDictAll, a.hd, b.hd, Bool.or_self]
  · simp only [PyData.depthAll]; exact Nat.max_le.mpr ⟨a.dp, b.dp⟩
  · simp only [PyData.leavesShortAll, a.ls, b.ls, Bool.and_self]
  · simp only [PyData.weightAll]
    have := a.wt
    have := b.wt
    omega
theorem Tames.all {h w : Nat} : ∀ {ds : List PyData} {W : Nat}, (∀ d ∈ ds, Tame d h w) → ds.length * (w + 1) ≤ W → Tames ds h W
  | [], _, _, _ => .nil
  | d :: r, W, t, e => by
    rw [List.length_cons, Nat.succ_mul] at e
    exact Tames.cons (t d List.mem_cons_self) (Tames.all (fun x hx => t x (List.mem_cons_of_mem _ hx)) (Nat.le_refl _)) (by omega)
theorem Tame.list {ds : List PyData} {h w : Nat} (a : Tames ds h w) : Tame (.list ds) (h + 1) w := ⟨by simp only [PyData.showable, a.sh], by simp only [PyData.hasDict, a.hd], by simp only [PyData.depth]; have := a.dp; omega, by simp only [PyData.leavesShort, a.ls], by simp only [PyData.weight]; exact a.wt⟩
theorem Tame.tup {ds : List PyData} {h w : Nat} (a : Tames ds h w) : Tame (.tuple ds) (h + 1) w := ⟨by simp only [PyData.showable, a.sh], by simp only [PyData.hasDict, a.hd], by simp only [PyData.depth]; have := a.dp; omega, by simp only [PyData.leavesShort, a.ls], by simp only [PyData.weight]; exact a.wt⟩
theorem Tame.mono {d : PyData} {h w h' w' : Nat} (a : Tame d h w) (e1 : h ≤ h') (e2 : w ≤ w') : Tame d h' w' := ⟨a.sh, a.hd, Nat.le_trans a.dp e1, a.ls, Nat.le_trans a.wt e2⟩
theorem Tame.bool (b : Bool) {h w : Nat} : Tame (.bool b) h w := ⟨by simp only [PyData.showable], by simp only [PyData.hasDict], by simp only [PyData.depth]; exact Nat.zero_le _, by simp only [PyData.leavesShort], by simp only [PyData.weight]; exact Nat.zero_le _⟩
theorem Tame.int {i : Int} {h w : Nat} (i0 : 0 ≤ i) (i1 : i < 1000) (e : 10 ≤ w) : Tame (.int i) h w := by
  have l : i.natAbs.log2 < 10 := by
    by_cases z : i.natAbs = 0
    · rw [z]; decide
    · exact (Nat.log2_lt z).mpr (by omega)
  refine ⟨?_, by simp only [PyData.hasDict], by simp only [PyData.depth]; exact Nat.zero_le _, ?_, ?_⟩
  · simp only [PyData.showable, decide_eq_true_eq]; omega
  · simp only [PyData.leavesShort, decide_eq_true_eq]; exact PyData.shown_int_le (by omega)
  · simp only [PyData.weight]
    split <;> omega
theorem Tame.fits {d : PyData} {h w : Nat} (a : Tame d h w) (e : w ≤ 1048576) : d.shown.length ≤ sizeLine := PyData.shown_fits (B := 13) (by decide) (by decide) a.ls (Nat.le_trans a.wt e)
theorem rRepr_of {K : PySem.W.Frag} {H : Hp} {a : Addr} {d : PyData} {h w : Nat} {Q : VK} (r : Rp K H (.ref a) d) (t : Tame d h w) (e1 : h ≤ 20) (e2 : w ≤ 1048576) (k : Q (.str d.shown) H) : rRepr K [.ref a] H Q := ⟨a, d, rfl, r, t.sh, t.hd, Nat.le_trans t.dp e1, t.fits e2, k⟩
theorem neSame (x : V) : (!decide (x = x)) = false := by rw [decide_eq_true rfl]; rfl
theorem eqSame (x : V) : decide (x = x) = true := decide_eq_true rfl
/-- a class of errors with one field, as a raise wants it -/
structure ErrB (P : Program) (w : World) (K : PySem.W.Frag) (mg : Str → Option Value) (base : Heap) (x f : Str) (C : Addr) : Prop where
  O : OexC K C
  mgC : mg x = some (.ref C)
  init : ∃ fi fd ps, PySem.W.findIn K (.ref C) "__init__" = some (some (.ref fi)) ∧ PySem.W.typeIn K (.ref fi) = some (.type "function") ∧ FnOk P w K mg base CX0 1 fi fd ps (spErr1 C f) ∧ Binds K fd ps []
def raised (C : Addr) (f : Str) (v : V) (E : XK) (H : Hp) : Prop := ∀ d, H d = none → E (.ref C) (some d) (upd H d (.xd [(f, v)]))
end Kx

set_option Elab.async false
set_option maxRecDepth 100000
set_option autoImplicit false
/-! Rules: cls(e, .., k = v), cls a local name; raise C(e, e'), two fields; no exception leaves where none is wished for. -/
namespace Ru
open PySem L2 PySem.Spec PyProof.Rows PySem.Calls Er
section
variable {X : Cx} {CX : CXT} {k n : Nat} {f C : Addr} {fd : FuncData} {ps ks : List Str} {sp : Sp} {E : XK} {x : Str} {e : Expr} {es : List Expr} {kws : List Keyword} {tf : TE} {t tk : TA} {g : List Value → List Value → List Value} {gV : List V → List V → List V} {p pos : Pos}
theorem passesF : Passes (L2.CX X.prog X.w) X (fun _ _ _ => False) := fun _ _ _ _ _ _ _ h => by
  obtain ⟨a, B, H', cls, d, _, _, _, _, _, _, _, z⟩ := h
  exact z.elim
def tMakeVK (C : Addr) (n m : Nat) (sp : Sp) (gV : List V → List V → List V) (E : XK) (tf : TE) (t tk : TA) : TE := fun σ H Q => tf σ H fun y H1 => y = V.ref C ∧ tMakeK C n m sp gV E t tk σ H1 Q
theorem pe_makeVK (M : Mk X.K C f) (F : FnOk X.prog X.w X.K X.mg X.base CX k f fd ps sp) (hr : Room (k + 1) X.A) (hb : KBn X.K fd ps (n + 1) ks g gV) (hx : Passes CX X E) (hf : PE X (.Name x p) tf) (ha : PA X (e :: es) t) (hkw : PK X kws tk)
    (hall : (backToKw pos (keywordEach kws X.env)).all (·.1.isSome) = true := by rfl) (hks : (backToKw pos (keywordEach kws X.env)).filterMap (·.1) = ks := by rfl)
    (he : starEach (e :: es) X.env = (false, eval e X.env) :: starEach es X.env := by rfl) (hpl : ((backTo pos (starEach (e :: es) X.env)).any (·.1) || (backToKw pos (keywordEach kws X.env)).any (·.1.isNone)) = false := by rfl) :
    PE X (.Call (.Name x p) (e :: es) kws pos) (tMakeVK C n ks.length sp gV E tf t tk) := by
  refine ⟨fun pins s σ H Q I h => ?_⟩
  refine wpAny_Call_Name_kw (thn (hf.run pins s σ H _ I h) fun u s0 ⟨y, H0, I0, ry, ey, q0⟩ => ?_)
  subst ey
  obtain rfl : u = Value.ref C := ry
  refine PySem.W.callWith_KW (h₀ := X.base) I0.ok.mod.kin M.kp hall (thn (ha.run pos pins s0 σ H0 _ I0 q0) fun us s1 ⟨vs, H1, I1, r, q⟩ => ?_) hpl he
  refine thn (hkw.run pos pins s1 σ H1 _ I1 q) fun ws s2 ⟨zs, H2, I2, rz, l1, l2, q2⟩ => ⟨I2.kIn, ?_⟩
  rw [hks]
  exact run_makeK M F hr hb hx I2 r rz l1 l2 q2
end
theorem left2 {H : Hp} {a d C : Addr} {fs gs hs : List (Str × V)} (na : H a = none) (o : Option Addr) : upd (del (upd (upd (upd (upd H a (exo a C none)) d (exd d gs)) a (exo a C o)) d (exd d hs)) a) d (.xd fs) = upd H d (.xd fs) := by
  funext b
  by_cases hd : b = d
  · rw [hd, upd_same, upd_same]
  rw [upd_ne hd, upd_ne hd]
  by_cases ha : b = a
  · rw [ha, del_same, na]
  · rw [del_ne ha, upd_ne hd, upd_ne ha, upd_ne hd, upd_ne ha]
def tRaise2 (C : Addr) (f g : Str) (W : WX) (te tu : TE) : TS := fun _ σ H => te σ H fun v H1 => tu σ H1 fun u H2 => ∀ d, H2 d = none → W (.ref C) (some d) σ (upd H2 d (.xd [(g, u), (f, v)]))
section
variable {X : Cx}
theorem ps_raise2 {x f g : Str} {C fi : Addr} {k : Nat} {fd : FuncData} {ps : List Str} {e e2 : Expr} {te tu : TE} {W : WX} {p pos pos2 : Pos} (hc : X.calm = true) (tk : Takes X W) (O : OexC X.K C) (iC : PySem.W.findIn X.K (.ref C) "__init__" = some (some (.ref fi))) (tI : PySem.W.typeIn X.K (.ref fi) = some (.type "function"))
    (F : FnOk X.prog X.w X.K X.mg X.base CX0 k fi fd ps (spErr2 C f g)) (hr : Room (k + 1) X.A) (hb : Binds X.K fd ps []) (hg : Gl X x) (hm : X.mg x = some (.ref C)) (he : PE X e te) (hu : PE X e2 tu) (hdb : (x == ("__debug__" : Str)) = false := by decide)
    (hs : starEach [e, e2] X.env = (false, eval e X.env) :: starEach [e2] X.env := by rfl) (hs2 : starEach [e2] X.env = (false, eval e2 X.env) :: starEach [] X.env := by rfl) (hpl : (backTo pos (starEach [e2] X.env)).any (·.1) = false := by rfl) :
    PS X (.Raise (some (.Call (.Name x p) [e, e2] [] pos)) none pos2) (tRaise2 C f g W te tu) := by
  have R := ps_raise (pos := pos2) hc tk (pmk_oex (p := p) (pos := pos) O iC tI F hr hb .nil pass0 hg hm (pa_cons (pe_up he) (pa_cons (pe_up hu) pa_nil hs2) hs) hdb hs hpl)
  refine ⟨fun pins s σ H D I h => R.run pins s σ H D I ?_⟩
  refine ⟨_, h, fun v H1 q => ⟨_, q, fun u H2 q2 => ⟨by show 2 ≤ 1000; decide, fun a na => ⟨a, v, u, rfl, upd_same, fun d nd ne => ⟨rfl, d, [(g, u), (f, v)], ?_, upd_same, ?_, ?_⟩⟩⟩⟩⟩
  · rw [upd_ne ne.symm, upd_same]
  · rw [upd_ne ne] at nd; exact nd
  · rw [upd_ne ne] at nd
    rw [left2 na]
    exact q2 d nd
end
end Ru
set_option Elab.async false
set_option maxRecDepth 100000
set_option autoImplicit false
/-! try: .. except G as n: y = e -/
namespace Er
open PySem L2 PySem.Spec PyProof.Rows PySem.Calls
/-- what 'except G as n: y = e' wishes of an error of the body: i is n's slot, j is y's -/
def wVal (K : PySem.W.Frag) (c : Value) (i j m : Nat) (te : Addr → Value → Option Addr → TE) (Wout : WX) (D : Ends) : WX := fun cls d σ H =>
  ∃ b, PySem.W.exmOne K cls c = some b ∧ (b = true → σ.length = m → ∀ a, H a = none → te a cls d (σ.set i (some (.ref a))) H (fun v H' => D.nx (((σ.set i (some (.ref a))).set j (some v)).set i none) H')) ∧ (b = false → Wout cls d σ H)
section
variable {X : Cx} {x n y : Str} {c : Value} {i j : Nat} {body : List Stmt} {e₀ : Expr} {te : Addr → Value → Option Addr → TE} {np yp sp pos pos' : Pos} {tb : WX → TS} {Wout : WX}
theorem ps_try_val (hs : X.stack = X.env :: X.outer) (hf : X.env.frame = some X.env.locals) (hex : X.ex = []) (hN : X.N.Nodup) (hi : X.N[i]? = some n) (hj : X.N[j]? = some y) (hln : X.env.kindOf n = some .local) (hly : X.env.kindOf y = some .local) (hc : Names X x c) (tk : Takes X Wout)
    (hsw : swapsWith e₀ (some (.Name y yp)) sp.line X.env = pure false)
    (he : ∀ (a : Addr) (oe : Obj) (cls : Value) (d : Option Addr) (pn : List (Addr × Obj)), Zc cls d oe → (∃ vs, oe.data = .fields vs) → PE (X.suite a ((a, oe) :: pn)) e₀ (te a cls d))
    (hb : ∀ (W : WX) (pn : List (Addr × Obj)) (xe : Value → Shared → Prop), Takes (X.tr pn xe) W → PassesOwn (model X.prog X.w) X.A X.env xe → PSs (X.tr pn xe) body (tb W)) :
    PS X (.Try body [.ExceptHandler (some (.Name x np)) (some n) [.Assign [.Name y yp] e₀ sp] pos'] [] [] pos) (fun D σ H => tb (wVal X.K c i j X.N.length te Wout D) D σ H) := by
  constructor
  intro pins s σ H D I h
  have fine := I.ok
  have frames : X.A.frames = some (X.env :: X.outer) := fine.frames.trans (congrArg some hs)
  have run := (hb (wVal X.K c i j X.N.length te Wout D) (X.pn ++ pins) (fun e s₁ => wpAny (model X.prog X.w) X.A (noteFrame e X.env) (fun _ s₂ => wpAny (model X.prog X.w) X.A (setFlight e none) (fun _ s₃ =>
    wpAny (model X.prog X.w) X.A (handleBy e X.env [.ExceptHandler (some (.Name x np)) (some n) [.Assign [.Name y yp] e₀ sp] pos']) (SP X pins D) X.xe s₃) X.xe s₂) X.xe s₁) ?hit PassesOwn.looking).run [] s σ H D (I.toTry _) h
  case hit =>
    rintro u s' ⟨a, B, sI, pins1, σ1, H1, cls, d, rfl, J0, ground, up0, sky0, na, os, ag, b, test, yes, no⟩
    have J : Inv X pins σ1 H1 sI := J0.ofTry fine
    have sky : Sky B (X.env :: X.outer) a (Zc cls d) X.env.locals s'.heap := hs ▸ sky0
    show wpAny (model X.prog X.w) X.A (noteFrame (.ref a) X.env) _ _ _
    refine Sky.land Zc.steady frames hf sky fun g3 fly3 up3 => ?_
    have J3 : Inv X pins σ1 H1 { s' with heap := g3 } := J.landed ground fly3.1 (up0.trans up3) os ag
    obtain ⟨o3, v3, e3, z3, d3⟩ := fly3.there
    have away : a ∉ frs (X.env :: X.outer) := fun mem => by
      obtain ⟨_, o, e, no_⟩ := fly3.2.2.1.mem mem
      rw [e3] at e; cases e
      exact no_ _ d3
    have awayL : a ≠ X.env.locals := fun z => away (List.mem_filterMap.mpr ⟨X.env, List.mem_cons_self, hf.trans (congrArg some z.symm)⟩)
    have awayF : a ∉ X.fs := fun mem => by
      obtain ⟨e, m1, m2⟩ := List.mem_filterMap.mp mem
      exact away (List.mem_filterMap.mpr ⟨e, List.mem_cons_of_mem _ m1, m2⟩)
    -- the error is younger than the entry
    have young : sI.heap.get? a = none := by
      cases q : sI.heap.get? a with
      | none => rfl
      | some o =>
        have qB := ground a o q (by rw [hs]; exact away)
        rw [fly3.2.1] at qB; cases qB
    have entry : X.s_0.heap.get? a = none := by
      cases q : X.s_0.heap.get? a with
      | none => rfl
      | some o =>
        obtain ⟨o', q'⟩ := J.base.there a o q (by rw [hex]; exact List.not_mem_nil)
        rw [young] at q'; cases q'
    have apart : ∀ p ∈ X.pn ++ pins, p.1 ≠ a := fun p hp z => by
      have q := (J.pin p hp).1
      rw [z, young] at q; cases q
    have S3 := J3.suite e3 d3 na awayL awayF
    refine wpAny_handleBy_cons (codeAny_handlers_test ?_) (by intro q; cases q)
    have LT : PySem.W.Looks (model X.prog X.w) g3 (typeOf (.ref a)) cls := fun _ _ _ _ k q => wpAny_typeOf_ref (k _ _ e3) (by rw [z3.1]; exact q)
    have LM := PySem.W.exm_one (M := model X.prog X.w) J3.kIn LT test
    have named : ∀ {Q : Value → Shared → Prop} {E : Value → Shared → Prop}, Q c { s' with heap := g3 } → wpAny (model X.prog X.w) (X.A.mark (some (.ref a))) (eval (.Name x np) X.env) Q E { s' with heap := g3 } := fun {Q E} q => by
      rcases hc with ⟨hg, hdbg, hm | ⟨hm, hv, hnn⟩⟩
      · exact ld_glob (X := X.suite a ((a, o3) :: (X.pn ++ pins))) S3 hg hm q hdbg
      · exact ld_blt (X := X.suite a ((a, o3) :: (X.pn ++ pins))) S3 hg hm hv q hnn hdbg
    refine named (LM.here ?_)
    cases b with
    | true =>
      refine codeAny_handlers_suite_as (HandSPX.lands_againZ fly3 fun g4 fly4 up4 => ?_)
      have J4 : Inv X pins σ1 H1 { s' with heap := g4 } := J.landed ground fly4.1 ((up0.trans up3).trans up4) os ag
      obtain ⟨o4, v4, e4, z4, d4⟩ := fly4.there
      have S4 := J4.suite e4 d4 na awayL awayF
      refine store_ok (X := X.suite a ((a, o4) :: (X.pn ++ pins))) (v := .ref a) S4 hN hi (.inl hln) rfl (fun s5 S5 => ?_) (.inr hln)
      have one := pss_one (X := X.suite a ((a, o4) :: (X.pn ++ pins))) (ps_set (pos := sp) (pos' := yp) (i := j) hN hj (.inl hly) (he a o4 cls d (X.pn ++ pins) z4 ⟨v4, d4⟩) hsw (.inr hly))
      refine wpAny_mono (one.run [] s5 _ H1 { nx := fun σ' H' => D.nx (σ'.set i none) H', rt := fun _ _ => False } S5 (yes rfl S4.len a na)) (fun fl s6 got => ?_) (fun _ _ z => False.elim z)
      cases fl with
      | next =>
        obtain ⟨_, _, S6, q6⟩ := got
        exact gone_ok (S6.unsuite fine) hN hi hln fun s7 J7 => ⟨_, _, J7, q6⟩
      | ret u => obtain ⟨_, _, _, _, _, z⟩ := got; exact z.elim
      | brk => obtain ⟨_, _, _, z⟩ := got; exact z.elim
      | cont => obtain ⟨_, _, _, z⟩ := got; exact z.elim
    | false =>
      show wpAny (model X.prog X.w) X.A (handleBy (.ref a) X.env []) _ _ _
      refine wpAny_handleBy_nil ?_
      obtain ⟨_, _, _, oe, vs, T, oT, us, q1, q2, q3, q4, q5⟩ := id fly3
      unfold PySem.passOn
      refine wpAny_bind (wpAny_field q1 q3 q4 ?_)
      rw [if_neg (by simp)]
      have out : wpAny (model X.prog X.w) X.A (setFlight (.ref a) X.env.frame) (fun _ s4 => wpAny (model X.prog X.w) X.A (throw (.ref a) : Sem Flow) (SP X pins D) X.xe s4) X.xe { s' with heap := g3 } := by
        rw [hf]
        exact HandSPX.setFlight_upZ fly3 fun g4 held up4 => wpAny_throw (tk _ _ ⟨a, B, sI, pins, σ1, H1, cls, d, rfl, J, ground, (up0.trans up3).trans up4, .inr (.inr (by rw [hs]; exact held)), na, os, ag, no rfl⟩)
      first
        | exact wpAny_bind (wpAny_pure (wpAny_bind out))
        | exact wpAny_bind out
  refine wpAny_Try_except (wpAny_mono run (fun f s1 got => ?_) fun e s1 he => he)
  cases f with
  | next => obtain ⟨σ', H', J', q⟩ := got; exact wpAny_execs_nil ⟨σ', H', J'.ofTry fine, q⟩
  | brk => obtain ⟨σ', H', J', q⟩ := got; exact ⟨σ', H', J'.ofTry fine, q⟩
  | cont => obtain ⟨σ', H', J', q⟩ := got; exact ⟨σ', H', J'.ofTry fine, q⟩
  | ret u => obtain ⟨v, σ', H', J', r, q⟩ := got; exact ⟨v, σ', H', J'.ofTry fine, r, q⟩
end
end Er
set_option Elab.async false
set_option maxRecDepth 100000
set_option autoImplicit false
/-! C.m(e, ..), m a classmethod: what is raised is wished for at the caller's slots -/
namespace Ru
open PySem L2 PySem.Spec PyProof.Rows PySem.Calls Er ClX
section
variable {X : Cx} {CX : CXT} {k : Nat} {C p g : Addr} {mc : Value} {sp : Sp} {E : L2.St → XK} {o e : Expr} {es : List Expr} {m : Str} {pos apos : Pos} {ta : TE} {t : TA} {pl : Sem Bool} {pins : List (Addr × Obj)} {σ : L2.St} {H : Hp} {s : Shared}
theorem run_cmS {q : Addr} {Q : VK} {us : List Value} {vs : List V} (F : FnR X.prog X.w X.K X.mg X.base CX k g sp) (hr : Room k X.A) (hx : PassesAt CX X σ (E σ)) (I : Inv X ((q, PySem.W.methodObj (.ref g) (.ref C)) :: pins) σ H s)
    (r : Vals vs us) (h : sp (.ref C :: vs) H Q (E σ)) : wpAny (model X.prog X.w) X.A (call (.ref q) us) (EP X pins σ Q) X.xe s := by
  have z : wpAny (model X.prog X.w) X.A (call (.ref q) us) (EP X ((q, PySem.W.methodObj (.ref g) (.ref C)) :: pins) σ Q) X.xe s := by
    refine wpAny_call (PySem.W.method_call (pin_at I) (codeAny_mono (F X.A X.stack s H (.ref C :: us) (.ref C :: vs) Q (E σ) hr I.env0 (.cons rfl r) h) fun res s' got => ?_))
    rcases res with er | fl
    · exact hx _ H s er s' I got
    · cases fl <;> first | exact I.after got | exact False.elim got
  exact thn z fun _ _ y => unpinE y
def tCMethS (C : Addr) (sp : Sp) (E : L2.St → XK) (ta : TE) (t : TA) : TE := fun σ H Q => ta σ H fun x H1 => x = .ref C ∧ t σ H1 fun vs H2 => sp (.ref C :: vs) H2 Q (E σ)
theorem pe_cmethS (he : PE X o ta) (r : CRead X.K C mc) (c : CMet X.K C mc m p g) (F : FnR X.prog X.w X.K X.mg X.base CX k g sp) (hr : Room k X.A) (hx : ∀ σ, PassesAt CX X σ (E σ)) (ha : PA X (e :: es) t)
    (hst : starEach (e :: es) X.env = (false, eval e X.env) :: starEach es X.env := by rfl) (hpl : (backTo pos (starEach es X.env)).any (·.1) = false := by rfl)
    (ht : eval (.Call (.Attribute o m apos) (e :: es) [] pos) X.env = (do
      let ov ← eval o X.env
      standAt apos.atName
      let (f, first) ← holding [ov] (getMethod ov m pl)
      callWith pos f first (backTo pos (starEach (e :: es) X.env)) (backToKw pos (keywordEach [] X.env))) := by rfl) :
    PE X (.Call (.Attribute o m apos) (e :: es) [] pos) (tCMethS C sp E ta t) := by
  refine ⟨fun pins s σ H Q I h => PySem.W.methodCall_KW (pl := pl) (thn (he.run pins s σ H _ I h) fun u s1 ⟨x, H1, I1, rx, ex, q⟩ => ?_) ht⟩
  subst ex
  obtain rfl : u = Value.ref C := rx
  refine getmethcm_ok I1 r c fun s2 I2 => callwith_cm I2 (base_none I1 (Nat.le_refl _)) c.fi (thn (ha.run pos _ s2 σ H1 _ I2 q) fun us s3 ⟨vs, H2, I3, rv, q2⟩ => ⟨⟨pin_at I3, I3.kIn⟩, ?_⟩) hst hpl
  exact run_cmS F hr (hx σ) I3 rv q2
end
end Ru
set_option Elab.async false
set_option maxRecDepth 100000
set_option autoImplicit false
/-! super().__init__(..) of a plain class of the program, as a last line. -/
namespace Er
open PySem L2 PySem.Spec PyProof.Rows PySem.Calls
/-- a promise of a def by its place, of a promise of it -/
theorem fnR_of {P : Program} {w : World} {K : PySem.W.Frag} {mg : Str → Option Value} {base : Heap} {CX : CXT} {k : Nat} {f : Addr} {fd : FuncData} {ps : List Str} {sp : Sp} (F : FnOk P w K mg base CX k f fd ps sp) (bd : Binds K fd ps []) : FnR P w K mg base CX k f sp := by
  intro A outer s H us vs Q E hr e0 r want
  have len : us.length = ps.length := r.length.symm.trans (F.len _ _ _ _ want)
  have bt : BindsTo s fd ⟨us, []⟩ (ps.zip us) := by
    have z := bd s us (e0.mod.kin.keeps fun b o e => (e0.bs b o e).1) (by rw [List.append_nil]; exact len)
    rw [List.append_nil] at z
    exact z
  exact F.run A outer s H ⟨us, []⟩ us vs Q E hr e0 bt r want
/-- what is written of the class C, of its __init__ at fI (its cell at cc, its code at cda), and of the __init__ above, at f2 -/
structure SupC (prog : Program) (K : PySem.W.Frag) (C fI cc cda f2 : Addr) : Prop where
  cls : ∃ cd oD, PySem.W.clsIn K C = some cd ∧ K.lookup C = some oD ∧ oD.data = .cls cd
  sup : PySem.W.ks_superIn K C C "__init__" = some (some (.ref f2))
  ty : PySem.W.typeIn K (.ref f2) = some (.type "function")
  fi : PySem.W.fnIn K f2 = true
  any_ : PySem.W.nsIn K cStatics "thirdparty.any" = some none
  self_ : PySem.W.mroIn K C (.ref C) = some true
  cell : ∃ cl cld csl, K.lookup cc = some ⟨cl, cld, .cell (some (.ref C)), csl⟩
  code : ∃ ccl cdd vs ccs file tf, K.lookup cda = some ⟨ccl, cdd, .fields vs, ccs⟩ ∧ vs[2]? = some (.str file tf) ∧ ((prog.main.file : Str) == file) = true
  top : (prog.main.scope.names.lookup ("super" : Str)).isSome = false
section
variable {P : Program} {w : World} {K : PySem.W.Frag} {mg : Str → Option Value} {base : Heap}
theorem start_inv2 {ps : List Str} {qual : Str} {scope : Scope} {f cda cc : Addr} {A : Around} {outer : List Env} {s : Shared} {H : Hp} {us : List Value} {vs : List V} {h0 : Heap} {tk : Nat} (S : ErrS ps scope) (hcell : ∃ cl cld C csl, K.lookup cc = some ⟨cl, cld, .cell (some (.ref C)), csl⟩) (hd : A.handled = none) (e0 : Env0 P w K mg base A outer s H)
    (hl : vs.length = ps.length) (r : Vals vs us) (hns : h0.Ns s.heap.objs.size (fun x => (ps.zip us).reverse.lookup x)) (keep : ∀ b o, s.heap.get? b = some o → h0.get? b = some o) :
    Inv (exX P w K mg base ps qual scope f cda cc A outer s H) [] (L2.start ps vs) H { s with heap := h0, toks := tk } := by
  obtain ⟨cl, cld, C, csl, hcell⟩ := hcell
  have bc := e0.mod.kin _ _ hcell
  have one : ∀ {x : Str} {c : Addr}, ([(("__class__" : Str), cc)] : List (Str × Addr)).lookup x = some c → x = "__class__" ∧ c = cc := by
    intro x c e
    by_cases q : x = "__class__"
    · subst q
      have z : some cc = some c := e
      exact ⟨rfl, (Option.some.inj z).symm⟩
    · have q2 : (x == ("__class__" : Str)) = false := by simpa using q
      simp [List.lookup, q2] at e
  have noex : ∀ b : Addr, b ∉ (exX P w K mg base ps qual scope f cda cc A outer s H).ex := fun b z => absurd (show b ∈ ([] : List Addr) from z) (by simp)
  refine ⟨⟨e0.mod, S.kind, rfl, rfl, Nat.le_refl _, fun x y c h1 h2 => ?_, fun x hx => ?_, fun x c z _ => absurd (show false = true from z) Bool.false_ne_true, fun _ => hd, Around.frames_deeper e0.frames, .inr ⟨rfl, rfl⟩, fun b z => absurd z (noex b), e0.bs, e0.bsz, fun b _ _ => noex b, fun b z => absurd z (noex b), e0.funs, e0.frf⟩,
    rfl, e0.bare, Un.kept keep, ⟨_, hns, fun i x v h1 h2 h3 => ?_⟩, fun x c h => ?_, e0.hok.fresh (Nat.le_refl _), fun x c h => ?_, fun p hp => absurd (show p ∈ ([] : List (Addr × Obj)) from hp) (by simp), e0.hok.kept keep, ?_⟩
  · exact (one h1).1.trans (one h2).1.symm
  · have hx' : scope.names.lookup x = some .cell ∨ scope.names.lookup x = some .free := hx
    rcases hx' with z | z
    · exact absurd rfl (S.nocell _ (PySem.mem_of_lookup z))
    · refine ⟨cc, ?_⟩
      show ([(("__class__" : Str), cc)] : List (Str × Addr)).lookup x = some cc
      rw [S.free x z]
      rfl
  · have hi : i < vs.length := by
      have q := (List.getElem?_eq_some_iff.mp h1).1
      have q : i < ps.length := q
      omega
    have ha : vs[i]? = some v := by
      unfold L2.start at h2
      rw [List.getElem?_append_left (by simpa using hi), List.getElem?_map] at h2
      cases e : vs[i]? with
      | none => rw [e] at h2; cases h2
      | some a => rw [e] at h2; cases h2; rfl
    obtain ⟨u, hu, rv⟩ := r.get ha
    have hp : ps[i]? = some x := h1
    exact ⟨u, rv, .inl ⟨S.par x (List.mem_of_getElem? hp), zip_rev S.nd (r.length.symm.trans hl) hp hu⟩⟩
  · obtain ⟨_, rfl⟩ := one h
    exact ⟨_, _, keep _ _ (e0.bs _ _ bc).1, rfl⟩
  · obtain ⟨_, rfl⟩ := one h
    exact (e0.bs _ _ bc).2
  · unfold L2.start
    show _ = ps.length
    rw [List.length_append, List.length_map, List.length_replicate]
    omega
/-- one statement ahead of the line -/
theorem at_cons {X : Cx} {st : Stmt} {rest body : List Stmt} {tp : TS} {pins : List (Addr × Obj)} {σ : L2.St} {H : Hp} {s : Shared} {Q : Flow → Shared → Prop} {E : Value → Shared → Prop} (hxe : X.xe = fun _ _ => False) (hp : PS X st tp) (I : Inv X pins σ H s)
    (h : tp { nx := fun σ' H' => ∀ s', Inv X pins σ' H' s' → _root_.PySem.wpAt (model X.prog X.w) X.A (.func body X.env) (execs rest X.env) Q E s', rt := fun _ _ => False } σ H) :
    _root_.PySem.wpAt (model X.prog X.w) X.A (.func body X.env) (execs (st :: rest) X.env) Q E s := by
  refine ks_wpAt_execs_cons (wpAt_of_wpAny (wpAny_mono (hp.run pins s σ H _ I h) (fun fl s1 out => ?_) fun e s1 z => ?_))
  · cases fl with
    | next => obtain ⟨σ', H', J, q⟩ := out; exact q s1 J
    | ret u => obtain ⟨_, _, _, _, _, z⟩ := out; exact z.elim
    | brk => obtain ⟨_, _, _, z⟩ := out; exact z.elim
    | cont => obtain ⟨_, _, _, z⟩ := out; exact z.elim
  · rw [hxe] at z
    exact z.elim
/-- super().__init__(e, ..), the last line -/
theorem superAt {ps : List Str} {qual : Str} {scope : Scope} {C fI cc cda f2 x dx : Addr} {A : Around} {outer : List Env} {s0 s : Shared} {H0 H : Hp} {fd : FuncData} {oc : Value} {od : Option Addr} {osl : Array (Option Value)} {ar : Arg} {fs : List (Str × V)} {body : List Stmt} {e : Expr} {es : List Expr} {t : TA} {k : Nat} {sp : Sp}
    {pins : List (Addr × Obj)} {σ : L2.St} {Qn : Hp → Prop} {Q : Flow → Shared → Prop} {E : Value → Shared → Prop} {p0 p1 p2 p4 p5 : Pos} {pl : Sem Bool} (S : ErrS ps scope) (T : SupC P K C fI cc cda f2) (lk : K.lookup fI = some ⟨oc, od, .func fd, osl⟩) (hp : (fd.params.posonlyargs ++ fd.params.args).head? = some ar) (har : ar.arg = "self") (gs : mg "super" = none)
    (F2 : FnR P w K mg base CX0 k f2 sp) (hr : Room k (exX P w K mg base ps qual scope fI cda cc A outer s0 H0).A) (ha : PA (exX P w K mg base ps qual scope fI cda cc A outer s0 H0) (e :: es) t) (hs0 : σ[0]? = some (some (.ref x))) (hx : H x = some (.ins C dx fs)) (I : Inv (exX P w K mg base ps qual scope fI cda cc A outer s0 H0) pins σ H s)
    (want : t σ H fun vs H1 => sp (.ref x :: vs) H1 (fun _ H2 => Qn H2) fun _ _ _ => False) (go : ∀ s' H', Inv (exX P w K mg base ps qual scope fI cda cc A outer s0 H0) pins σ H' s' → Qn H' → Q .next s')
    (he : eval (.Call (.Attribute (.Call (.Name "super" p0) [] [] p1) "__init__" p2) (e :: es) [] p4) (exX P w K mg base ps qual scope fI cda cc A outer s0 H0).env = (do
        let ov ← attributeBase (.Call (.Name "super" p0) [] [] p1) "__init__" (exX P w K mg base ps qual scope fI cda cc A outer s0 H0).env (eval (.Call (.Name "super" p0) [] [] p1) (exX P w K mg base ps qual scope fI cda cc A outer s0 H0).env)
        standAt p2.atName
        let (f, first) ← holding [ov] (getMethod ov "__init__" pl)
        callWith p4 f first (backTo p4 (starEach (e :: es) (exX P w K mg base ps qual scope fI cda cc A outer s0 H0).env)) []) := by rfl)
    (hi : interactive (exX P w K mg base ps qual scope fI cda cc A outer s0 H0).env = false := by rfl) (hsw : swapsWith (.Call (.Attribute (.Call (.Name "super" p0) [] [] p1) "__init__" p2) (e :: es) [] p4) none p5.line (exX P w K mg base ps qual scope fI cda cc A outer s0 H0).env = pure false := by rfl)
    (hst : starEach (e :: es) (exX P w K mg base ps qual scope fI cda cc A outer s0 H0).env = (false, eval e (exX P w K mg base ps qual scope fI cda cc A outer s0 H0).env) :: starEach es (exX P w K mg base ps qual scope fI cda cc A outer s0 H0).env := by rfl) (hpl : (backTo p4 (starEach es (exX P w K mg base ps qual scope fI cda cc A outer s0 H0).env)).any (·.1) = false := by rfl) :
    _root_.PySem.wpAt (model P w) (exX P w K mg base ps qual scope fI cda cc A outer s0 H0).A (.func body (exX P w K mg base ps qual scope fI cda cc A outer s0 H0).env) (exec (.Expr (.Call (.Attribute (.Call (.Name "super" p0) [] [] p1) "__init__" p2) (e :: es) [] p4) p5) (exX P w K mg base ps qual scope fI cda cc A outer s0 H0).env) Q E s := by
  obtain ⟨cd, oD, hcd, hD, hDd⟩ := T.cls
  obtain ⟨ccl, cdd, vs, ccs, file, tf, hcode, hvs, hfile⟩ := T.code
  obtain ⟨cl, cld, csl, hcell⟩ := T.cell
  have along : PySem.W.alongIn K "__init__" ((cd.mro.dropWhile (· != .ref C)).drop 1) = some (some (.ref f2)) := by
    obtain ⟨cd', h1, h2⟩ := Option.bind_eq_some_iff.mp T.sup
    rw [hcd] at h1
    cases h1
    exact h2
  have KX : K.In s.heap := I.kIn
  obtain ⟨od', J⟩ := Rg.instAt I hx
  have ne : x ≠ C := PySem.W.ks_ne KX J hcd
  obtain ⟨mb, hmb, hbb⟩ := I.mod.blt
  obtain ⟨m, hns, hl⟩ := I.loc
  have hloc : scope.names.lookup ("self" : Str) = some .local := S.par _ (List.mem_of_getElem? S.self_)
  have hself : m "self" = some (.ref x) := by
    obtain ⟨u, ru, look⟩ := hl 0 "self" (.ref x) S.self_ hs0 (.inl hloc)
    obtain rfl : u = Value.ref x := ru
    rcases look with ⟨_, q⟩ | ⟨hk, _⟩
    · exact q
    · exfalso
      have hk' : scope.names.lookup ("self" : Str) = some .cell ∨ scope.names.lookup ("self" : Str) = some .free := hk
      rw [hloc] at hk'
      rcases hk' with z | z <;> cases z
  have I0 := I
  obtain ⟨hh, g, d, tk, os⟩ := s
  refine PySem.ks_wpAt_Expr_any (PySem.ks_wpAt_MethodCall (PySem.ks_wpAt_super_base (env := PySem.W.ksEnv qual scope s0.heap.objs.size fI (.ref cda) cc) S.sup S.cls (by decide) rfl (KX _ _ lk) rfl hp rfl (KX _ _ hcode) rfl hvs hfile T.top ?_) he) hi hsw
  refine PySem.W.ks_loadName_global S.kind S.sup (loadGlobal_builtin (env := PySem.W.ksEnv qual scope s0.heap.objs.size fI (.ref cda) cc) (I.mod.glob.keeps I.bk) gs (hmb.keeps I.bk) ((hbb _ (by decide)).trans (by decide +kernel : bootBuiltins "super" = some (.type "super"))) ⟨rfl, ?_⟩)
  rw [har]
  refine wpAny_loadName_free S.kind S.cls rfl ⟨_, KX _ _ hcell, rfl⟩ (wpAny_loadName_local S.kind hloc hns hself (PySem.ks_wpAny_isType_cls (KX _ _ hD) hDd ⟨rfl, ?_⟩))
  refine PySem.ks_wpAny_call_super (KX _ _ hD) hDd J.at_ J.cls (fun c e => ?_) (PySem.W.looks_mroIn KX T.self_) (fun h1 hso keep => ?_)
  · have q := J.no
    unfold PySem.W.notCls at q
    rw [e] at q
    exact Bool.noConfusion q
  have X1 := KX.keeps keep
  obtain ⟨of, hof, hofc⟩ : ∃ of, h1.get? f2 = some of ∧ of.cls = .type "function" := by
    have ht' : (K.lookup f2).map (·.cls) = some (.type "function") := T.ty
    cases z : K.lookup f2 with
    | none => rw [z] at ht'; cases ht'
    | some of => rw [z] at ht'; exact ⟨of, X1 _ _ z, Option.some.inj ht'⟩
  refine PySem.ks_wpAny_getMethod_super hso (PySem.W.looks_opaque X1 T.any_) (l₀ := cd.mro) (fun A Q E s k q => wpAny_bind (PySem.W.looks_clsIn X1 hcd A _ E s k (wpAny_pure q))) rfl X1 along hof hofc ne (by decide) ?_
  have I1 := I0.kept (t' := tk) keep
  have I2 := ClX.pin_new (o := PySem.W.methodObj (.ref f2) (.ref x)) (h' := h1.push (PySem.W.methodObj (.ref f2) (.ref x))) (a := h1.objs.size) (t' := tk + 1) I1 (fun _ _ z => Heap.get?_push_of_some _ z) (Nat.le_refl _) (Heap.get?_push_size h1 rfl) (fun v z => nomatch z)
  refine ClX.callwith_cm I2 (ClX.base_none I1 (Nat.le_refl _)) T.fi (wpAny_mono (ha.run p4 _ _ σ H _ I2 want) (fun us s3 ⟨vs, H2, I3, rv, q2⟩ => ⟨⟨ClX.pin_at I3, I3.kIn⟩, ?_⟩) fun _ _ z => False.elim z) hst hpl
  exact wpAny_mono (ClX.run_cm F2 hr pass0 I3 rv q2) (fun v s' ⟨u, H', I', r, q⟩ => go s' H' I' q) fun _ _ z => False.elim z
/-- a def whose last line is super().__init__(..) -/
theorem ok_sup {k : Nat} {ps : List Str} {name qual : Str} {params : Arguments} {body : List Stmt} {scope : Scope} {C f cda cc f2 : Addr} {oc dV kV doc pm ct : Value} {od an : Option Addr} {osl : Array (Option Value)} {sp : Sp} (T : SupC P K C f cc cda f2) (S : ErrS ps scope)
    (lk : K.lookup f = some ⟨oc, od, .func (PySem.W.ksFn name qual params body scope dV kV doc pm an (.ref cda) ct cc), osl⟩) (hcd : PySem.W.codeIn K (.ref cda) qual = true) (len : ∀ vs H Q E, sp vs H Q E → vs.length = ps.length)
    (hbody : ∀ (A : Around) (outer : List Env) (s : Shared) (H : Hp) (vs : List V) (Q : VK) (E : XK), Room k (exX P w K mg base ps qual scope f cda cc A outer s H).A → sp vs H Q E → ∀ s1, Inv (exX P w K mg base ps qual scope f cda cc A outer s H) [] (L2.start ps vs) H s1 →
      _root_.PySem.wpAt (model P w) (exX P w K mg base ps qual scope f cda cc A outer s H).A (.func body (exX P w K mg base ps qual scope f cda cc A outer s H).env) (execs body (exX P w K mg base ps qual scope f cda cc A outer s H).env)
        (fun fl s2 => fl = .next ∧ ∃ σ' H2, Inv (exX P w K mg base ps qual scope f cda cc A outer s H) [] σ' H2 s2 ∧ Q .non H2) (fun _ _ => False) s1) :
    FnOk P w K mg base CX0 (k + 1) f (PySem.W.ksFn name qual params body scope dV kV doc pm an (.ref cda) ct cc) ps sp := by
  refine ⟨len, fun A outer s H args us vs Q E hr e0 hbind r hsp => ?_⟩
  have there : ∀ b o, base.get? b = some o → s.heap.get? b = some o := fun b o e => (e0.bs b o e).1
  have KX : K.In s.heap := e0.mod.kin.keeps there
  have hl := len _ _ _ _ hsp
  obtain ⟨cl, cld, csl, hcell⟩ := T.cell
  refine ks_codeAny_call_defAt hr.depth (KX _ _ lk) rfl (e0.mod.nolimit.keeps there) (PySem.W.codeRec_of KX hcd) rfl hbind S.nocell (fun x hx => S.par _ (List.of_mem_zip hx).1) (fun h0 hns keep => ?_) S.co S.gen S.kind
  have I0 := start_inv2 (w := w) (qual := qual) (f := f) (cda := cda) (tk := s.toks + (ps.zip us).length) S ⟨_, _, _, _, hcell⟩ hr.hd e0 hl r hns keep
  refine ks_wpAt_mono (hbody A outer s H vs Q E (hr.deeper _) hsp _ I0) (fun fl s2 out => ?_) fun _ _ z => False.elim z
  obtain ⟨rfl, σ', H2, J, q⟩ := out
  exact ⟨V.non, H2, J.os, J.bare, J.base, J.hok, rfl, q⟩
end
end Er
set_option Elab.async false
set_option maxRecDepth 100000
set_option autoImplicit false
/-! enumerate over a tuple -/
namespace Tn
open PySem L2 PySem.Spec PyProof.Rows PySem.Calls
open Builtin
set_option maxHeartbeats 1000000 in
theorem enumNew {v : Value} {o : Obj} {G : Heap → Prop} (B : Begins v o G) :
    Meets (Builtin.«enumerate.__new__» ⟨[.type "enumerate", v], []⟩) (fun _ R s => G s.heap ∧
      R (.ok (.ret (.ref (s.heap.push o).objs.size))) { s with heap := (s.heap.push o).push { cls := .type "enumerate", data := .fields #[.none, .bool false, .ref s.heap.objs.size, rawInt 0, .none, .none] } }) :=
  .of_wp fun prog w A R s h => by
    obtain ⟨hp, g, d, tk, os⟩ := s; obtain ⟨h1, h⟩ := h
    have hsub := sub_enumerate
    have q1 : ∀ {A' : Around} {E : Value → Shared → Prop} {Q : Value → Shared → Prop}, Q (.ref hp.objs.size) ⟨hp.push o, g, d, tk, os⟩ → wpAny (model prog w) A' (pyIter v) Q E ⟨hp, g, d, tk, os⟩ :=
      fun q => B.iter prog w _ _ ⟨hp, g, d, tk, os⟩ _ h1 q
    wp_walk using q1
    refine wpAny_stack_any fun st => wpAny_pure ?_
    split
    · rename_i c _ _ _ _ _
      cases (c == Value.type "enumerate")
      · wp_walk using q1
        exact ⟨_, rfl, h⟩
      · wp_walk using q1
        exact ⟨_, rfl, h⟩
    · wp_walk using q1
      exact ⟨_, rfl, h⟩
section
variable {prog : Program} {w : World} {A : Around} {E : Value → Shared → Prop} {s : Shared}
theorem enumBegins {v : Value} {o : Obj} {G : Heap → Prop} {Q : Value → Shared → Prop} (B : Begins v o G) (h1 : G s.heap)
    (h : ∀ h', IsEnum h' (s.heap.objs.size + 1) s.heap.objs.size 0 .none → h'.get? s.heap.objs.size = some o → h'.objs.size = s.heap.objs.size + 2 →
      (∀ b o, s.heap.get? b = some o → h'.get? b = some o) → Q (.ref (s.heap.objs.size + 1)) { s with heap := h' }) :
    wpAny (model prog w) A (call (.type "enumerate") [v]) Q E s := by
  refine callType_new F.called_enumerate (by decide) (F.typeCall_enumerate_1 _) (F.newCall_enumerate_1 _) (fun obj => F.args_object_init_2 obj _) F.entry_enumerate_new
    (enumNew B) ⟨h1, ?_⟩
  have hz : (s.heap.push o).objs.size = s.heap.objs.size + 1 := Heap.size_push ..
  show _ ∧ _
  rw [hz]
  have he : IsEnum ((s.heap.push o).push { cls := .type "enumerate", data := .fields #[.none, .bool false, .ref s.heap.objs.size, rawInt 0, .none, .none] }) (s.heap.objs.size + 1) s.heap.objs.size 0 .none := by
    have := Heap.get?_push_size (s.heap.push o) (o := { cls := .type "enumerate", data := .fields #[.none, .bool false, .ref s.heap.objs.size, rawInt 0, .none, .none] }) rfl
    rw [hz] at this; exact this
  refine ⟨⟨_, he, rfl⟩, h _ he (Heap.get?_push_of_some _ (Heap.get?_push_size _ B.free)) (by rw [Heap.size_push, hz]) fun b o x => Heap.get?_push_of_some _ (Heap.get?_push_of_some _ x)⟩
end
/-- the tuple at a, each item in a new pair -/
def Iet (K : PySem.W.Frag) (a : Addr) : It :=
  ⟨fun i H => ∃ (xs : List V) (x : V), SqT K H a xs ∧ xs[i]? = some x, fun i H v H' => ∃ T x, v = .ref T ∧ H T = none ∧ H' = upd H T (.tup [.int (i : Nat), x]) ∧ ∀ xs, SqT K H a xs → xs[i]? = some x, fun i H => ∃ xs : List V, SqT K H a xs ∧ xs.length ≤ i⟩
theorem turn_enumT {P : Program} {w : World} {K : PySem.W.Frag} {elts : List Expr} {kk : Nat} {tpos : Pos} (a e it : Addr) (hae : a ≠ it) (hae2 : e ≠ a) :
    Turn P w K (.Tuple elts kk tpos) (Iet K a) [e, it] e (fun i h => (∃ old, IsEnum h e it ((i : Nat) : Int) old) ∧ h.IsTupleIter it a i ∧ e ≠ it) where
  mem := by simp
  obj := fun i h st b hb => by
    obtain ⟨⟨old, he⟩, ⟨o, ho, hc, hd⟩, _⟩ := st
    have e' : b = e ∨ b = it := by simpa using hb
    rcases e' with z | z
    · rw [z]; exact ⟨_, he, fun v q => nomatch q⟩
    · rw [z]; exact ⟨o, ho, fun v q => by rw [hd] at q; cases q⟩
  keep := fun i h h' st k => let ⟨⟨old, he⟩, hi, hne⟩ := st; ⟨⟨old, k e (by simp) _ he⟩, hi.at fun o q => k it (by simp) o q, hne⟩
  item := by
    intro X hP hw hK hc i pins s σ H E I hf st hg
    subst hP hw hK
    obtain ⟨⟨old, he⟩, hit, hne⟩ := st
    obtain ⟨xs, x, hq, hx⟩ := hg
    obtain ⟨its, rv, p, hz⟩ := I.tuple hq
    obtain ⟨u, hu, ru⟩ := rv.get hx
    have hel : e < s.heap.objs.size := Heap.lt_size he
    have hil : it < s.heap.objs.size := by obtain ⟨_, q, _⟩ := hit; exact Heap.lt_size q
    have hT : s.heap.IsTuple a its.toArray := p
    have hlt : i < its.toArray.size := by
      have := (List.getElem?_eq_some_iff.mp hu).1
      simpa using this
    have D := Draws.tuple (prog := X.prog) (w := X.w) (A := X.A.in1) (show X.A.in1.handled = none from I.ok.hd hc) it a hae its.toArray
    refine wpAny_pyNext_enum_itemD (n := its.toArray.size) D he ⟨hit, hT⟩ hlt hne (by simp [hne, hae2]) fun y h' tk hy ho hs' hT' hsz hk => ?_
    have hyu : y = u := by
      have hy2 : its.toArray[i]? = some y := hy
      rw [List.getElem?_toArray, hu] at hy2
      exact (Option.some.inj hy2).symm
    subst hyu
    obtain ⟨hit', _⟩ := hs'
    refine ⟨_, rfl, wpAny_letOwnedTupleGo_enum (s := { s with heap := h', toks := tk + 1 }) ho fun h'' he' sb => ?_⟩
    have hT2 : h''.get? s.heap.objs.size = some { cls := .type "tuple", data := .seq #[.int i tk, y] } := (sb.2 _ (Nat.ne_of_gt hel)).trans hT'
    have new : ObjOk X.prog X.w (upd H s.heap.objs.size (.tup [.int (i : Nat), x])) h'' s.heap.objs.size (.tup [.int (i : Nat), x]) :=
      ⟨by show 2 ≤ sizeLine; decide, [.int i tk, y], .cons ⟨_, rfl⟩ (.cons ru .nil), ⟨_, hT2, rfl, _, rfl⟩⟩
    have I1 : Inv X pins σ (upd H s.heap.objs.size (.tup [.int (i : Nat), x])) { s with heap := h'', toks := tk + 1 } :=
      I.turnedNew (ch := [e, it]) (fun b ob hb q => (sb.2 b (fun z => hb (by simp [z]))).trans (hk b ob (fun z => hb (by simp [z])) (fun z => hb (by simp [z])) q)) hf (Nat.le_refl _) new
    refine ⟨.ref s.heap.objs.size, _, I1, rfl, ⟨_, x, rfl, I.hok.fresh (Nat.le_refl _), rfl, fun ys hy => by rw [I.tuple_inj hy hq]; exact hx⟩, ⟨⟨y, ?_⟩, hit'.at fun o q => (sb.2 it (Ne.symm hne)).trans q, hne⟩, fun b hb => ?_⟩
    · have e1 : ((i + 1 : Nat) : Int) = (i : Int) + 1 := by omega
      rw [e1]; exact he'
    · have hb' : b < s.heap.objs.size := by
        have e' : b = e ∨ b = it := by simpa using hb
        rcases e' with z | z
        · rw [z]; exact hel
        · rw [z]; exact hil
      rw [upd_ne (Nat.ne_of_lt hb')]
      exact (hf b hb).1
  done := by
    intro X hP hw hK hc i pins s σ H E I hf st hg
    subst hP hw hK
    obtain ⟨⟨old, he⟩, hit, hne⟩ := st
    obtain ⟨xs, hq, hx⟩ := hg
    obtain ⟨its, rv, p, hz⟩ := I.tuple hq
    obtain ⟨f0, f1, f2, f3, f4, f5⟩ := hf it (by simp)
    have hl := rv.length
    have hT : s.heap.IsTuple a its.toArray := p
    have D : Draws X.prog X.w X.A.in1 it [it, a] i (fun _ _ => False) (fun j h => j = i ∧ h.IsTupleIter it a i ∧ h.IsTuple a its.toArray) :=
      { live := fun _ _ q => let ⟨o, ho, _⟩ := q.2.1; ⟨o, ho⟩
        frame := fun j h h' q hk => ⟨q.1, q.2.1.at fun o z => hk it (by simp) o z, q.2.2.at fun o z => hk a (by simp) o z⟩
        item := fun j s Q E hj q => absurd q.1 (Nat.ne_of_lt hj)
        done := fun s Q E q hE => wpAny_nextOf_tuple_end (I.ok.hd hc) q.2.1 q.2.2 (by simp; omega) hE }
    exact wpAny_pyNext_enum_endD D he ⟨rfl, hit, hT⟩ fun h' eb => ⟨rfl, I.turned (t' := s.toks) (fun b o hb q => eb b o hb q) f0 f1 f3 f4 f5⟩
  self := fun A i s Q E st h => let ⟨⟨_, he⟩, _⟩ := st; wpAny_pyIter_enum he h
def iEnumT (K : PySem.W.Frag) (ta : TA) : TI := fun σ H R => ta σ H fun vs H1 => ∃ a xs, vs = [.ref a] ∧ SqT K H1 a xs ∧ R (Iet K a) H1
theorem pi_enumT {X : Cx} {e : Expr} {ta : TA} {p pos tpos : Pos} {elts : List Expr} {kk : Nat} (hg : Gl X "enumerate") (hm : X.mg "enumerate" = none) (ha : PA X [e] ta) (hs : starEach [e] X.env = [(false, eval e X.env)] := by rfl) :
    PI X (.Tuple elts kk tpos) (.Call (.Name "enumerate" p) [e] [] pos) (iEnumT X.K ta) := by
  refine ⟨fun pins s σ H R I h => ?_⟩
  refine Call_ (ld_blt I hg hm boot_enumerate (PyProof.Rows.callWith_type1 (thn (ha.run pos pins s σ H _ I h) fun us s1 ⟨vs, H1, I1, r1, q1⟩ => ?_) hs rfl))
  obtain ⟨a, xs, ex, hq, q⟩ := q1
  subst ex
  cases r1 with
  | cons r rr =>
    cases rr
    cases r
    obtain ⟨its, rv, p', hz⟩ := I1.tuple hq
    have hT : s1.heap.IsTuple a its.toArray := p'
    have hal : a < s1.heap.objs.size := by obtain ⟨_, q, _⟩ := hT; exact Heap.lt_size q
    refine enumBegins (begins_tuple a its.toArray) hT fun h' he hit hsz hk => wpAny_pyIter_enum he ?_
    have I2 : Inv X pins σ H1 { s1 with heap := h' } := I1.kept (t' := s1.toks) hk
    refine ⟨s1.heap.objs.size + 1, [s1.heap.objs.size + 1, s1.heap.objs.size], _, _, H1, rfl, I2, turn_enumT a (s1.heap.objs.size + 1) s1.heap.objs.size (Nat.ne_of_lt hal) (Nat.ne_of_gt (Nat.lt_succ_of_lt hal)), ⟨⟨.none, he⟩, ⟨_, hit, rfl, rfl⟩, Nat.succ_ne_self _⟩, fun b hb => ?_, q⟩
    have e' : b = s1.heap.objs.size + 1 ∨ b = s1.heap.objs.size := by simpa using hb
    have hle : s1.heap.objs.size ≤ b := by
      rcases e' with z | z
      · rw [z]; exact Nat.le_add_right _ _
      · rw [z]; exact Nat.le_refl _
    exact I1.fpOk hle (I1.hok.fresh hle)
theorem walk_enumT {K : PySem.W.Frag} {a : Addr} {xs : List V} : Walk (Iet K a) xs.length (fun H => SqT K H a xs) (YPair (fun i => some (.int (i : Nat))) (fun i => xs[i]?)) := by
  refine ⟨fun i _ hi q => ⟨xs, xs[i], q, by simp [hi]⟩, fun _ q => ⟨xs, q, Nat.le_refl _⟩, fun i H v H' _ q y => ?_⟩
  obtain ⟨T, x, h1, h2, h3, h4⟩ := y
  exact ⟨T, .int (i : Nat), x, h1, h2, h3, rfl, h4 xs q⟩
end Tn

set_option Elab.async false
set_option maxRecDepth 100000
set_option autoImplicit false
/-! cls(..), cls a local name that holds a class of the program -/
namespace Tn
open PySem L2 PySem.Spec PyProof.Rows PySem.Calls StX
section
variable {X : Cx} {CX : CXT} {k : Nat} {f C : Addr} {sp : Sp} {E : XK} {x : Str} {e : Expr} {es : List Expr} {te tf : TE} {t : TA} {p sp_ pos : Pos}
def tMakeV (C : Addr) (sp : Sp) (E : XK) (tf : TE) (t : TA) : TE := fun σ H Q => tf σ H fun y H1 => y = V.ref C ∧ tMakeR C sp E t σ H1 Q
theorem pe_makeV (M : Mk X.K C f) (F : FnR X.prog X.w X.K X.mg X.base CX k f sp) (hr : Room (k + 1) X.A) (hx : Passes CX X E) (hf : PE X (.Name x p) tf) (ha : PA X (e :: es) t)
    (he : starEach (e :: es) X.env = (false, eval e X.env) :: starEach es X.env := by rfl) (hpl : (backTo pos (starEach es X.env)).any (·.1) = false := by rfl) : PE X (.Call (.Name x p) (e :: es) [] pos) (tMakeV C sp E tf t) := by
  refine ⟨fun pins s σ H Q I h => ?_⟩
  refine wpAny_Call_Name_kw (thn (hf.run pins s σ H _ I h) fun u s1 ⟨y, H1, I1, ry, ey, q⟩ => ?_)
  subst ey
  obtain rfl : u = Value.ref C := ry
  refine PySem.W.callWith_K (h₀ := X.base) I1.ok.mod.kin M.kp (thn (ha.run pos pins s1 σ H1 _ I1 q) fun us s2 ⟨vs, H2, I2, r, q2⟩ => ⟨I2.kIn, ?_⟩) he hpl
  exact run_makeR M F hr hx I2 r q2
/-- cls(e, .., *y) -/
theorem pe_makeV2 (M : Mk X.K C f) (F : FnR X.prog X.w X.K X.mg X.base CX k f sp) (hr : Room (k + 1) X.A) (hx : Passes CX X E) (hf : PE X (.Name x p) tf) (ha : PA X (e :: es) t)
    (he : starEach (e :: es) X.env = (false, eval e X.env) :: starEach es X.env := by rfl) (hst : (backTo pos (starEach es X.env)).any (·.1) = true := by rfl) : PE X (.Call (.Name x p) (e :: es) [] pos) (tMakeV C sp E tf t) := by
  refine ⟨fun pins s σ H Q I h => ?_⟩
  refine wpAny_Call_Name_kw (thn (hf.run pins s σ H _ I h) fun u s1 ⟨y, H1, I1, ry, ey, q⟩ => ?_)
  subst ey
  obtain rfl : u = Value.ref C := ry
  refine PySem.W.callWith_S2 (h₀ := X.base) I1.ok.mod.kin M.kp (thn (ha.run pos pins s1 σ H1 _ I1 q) fun us s2 ⟨vs, H2, I2, r, q2⟩ => ⟨I2.kIn, ?_⟩) he hst
  exact run_makeR M F hr hx I2 r q2
/-- cls(*y) -/
def tMakeV1 (K : PySem.W.Frag) (C : Addr) (sp : Sp) (E : XK) (tf te : TE) : TE := fun σ H Q => tf σ H fun y H1 => y = V.ref C ∧ te σ H1 fun z H2 => ∃ a xs, z = V.ref a ∧ (SqT K H2 a xs ∨ SqL K H2 a xs) ∧ ∀ x dx, H2 x = Option.none → H2 dx = Option.none → dx ≠ x →
  sp (V.ref x :: xs) (upd (upd H2 dx (.own x)) x (.ins C dx [])) (fun v H3 => v = .non ∧ Q (.ref x) H3) E
theorem pe_makeV1 (M : Mk X.K C f) (F : FnR X.prog X.w X.K X.mg X.base CX k f sp) (hr : Room (k + 1) X.A) (hx : Passes CX X E) (hf : PE X (.Name x p) tf) (he : PE X e te)
    (hst : starEach [.Starred e sp_] X.env = [(true, eval e X.env)] := by rfl) : PE X (.Call (.Name x p) [.Starred e sp_] [] pos) (tMakeV1 X.K C sp E tf te) := by
  refine ⟨fun pins s σ H Q I h => ?_⟩
  refine wpAny_Call_Name_kw (thn (hf.run pins s σ H _ I h) fun u s1 ⟨y, H1, I1, ry, ey, q⟩ => ?_)
  subst ey
  obtain rfl : u = Value.ref C := ry
  refine PySem.W.callWith_S (h₀ := X.base) I1.ok.mod.kin M.kp (thn (he.run pins s1 σ H1 _ I1 q) fun v s2 ⟨z, H2, I2, rz, a, xs, ez, hxs, q2⟩ => ?_) hst
  subst ez
  obtain rfl : v = Value.ref a := rz
  exact star_any I2 hxs fun us s3 I3 rv => ⟨I3.kIn, run_makeR M F hr hx I3 rv q2⟩
end
end Tn

set_option Elab.async false
set_option maxRecDepth 100000
set_option autoImplicit false
/-! is_integer, is_from_to, is_letter, is_pair of any value -/
namespace Kx
open PySem L2 PySem.Spec PyProof.Rows Rg Er Ru
abbrev sFromTo : Stmt := top 8
abbrev sIsLetter : Stmt := top 9
abbrev sIsPair : Stmt := top 15
def NoOf (K : PySem.W.Frag) (T : String) (H : Hp) (x : V) : Prop := ∃ t, TyX K H x t ∧ PySem.W.kitOne K t (.type T) = some false
def lt1 (z : Str) : Bool := match z.cps.toList with
  | [c] => decide (c ∈ abc.cps.toList)
  | _ => false
/-- x is a letter, or is none -/
def LtX (K : PySem.W.Frag) (H : Hp) (x : V) (b : Bool) : Prop := (∃ z : Str, x = .str z ∧ z.length ≤ 1000 ∧ b = lt1 z) ∨ (b = false ∧ NoOf K "str" H x)
/-- x is an integer, or is none -/
def IzX (K : PySem.W.Frag) (H : Hp) (x : V) (o : Option Int) : Prop := (∃ i, x = .int i ∧ o = some i) ∨ (o = none ∧ ((∃ c, x = .bl c) ∨ NoOf K "int" H x))
def inB (lo hi : Int) : Option Int → Bool
  | some i => decide (lo ≤ i) && decide (i ≤ hi)
  | none => false
/-- x is a pair of a letter and a weight, or is none -/
def PrX (K : PySem.W.Frag) (H : Hp) (x : V) (b : Bool) : Prop := (∃ a u v b1 o2, x = .ref a ∧ H a = some (.tup [u, v]) ∧ LtX K H u b1 ∧ IzX K H v o2 ∧ b = (b1 && inB 0 9 o2)) ∨
  (b = false ∧ ((∃ a xs, x = .ref a ∧ H a = some (.tup xs) ∧ xs.length ≠ 2) ∨ NoOf K "tuple" H x))
def spFromToA (K : PySem.W.Frag) : Sp := fun vs H Q _ => ∃ x o lo hi, vs = [x, .int lo, .int hi] ∧ IzX K H x o ∧ Q (.bl (inB lo hi o)) H
def spIsLetterA (K : PySem.W.Frag) : Sp := fun vs H Q _ => ∃ x b, vs = [x] ∧ LtX K H x b ∧ Q (.bl b) H
def spIsPairA (K : PySem.W.Frag) : Sp := fun vs H Q _ => ∃ x b, vs = [x] ∧ PrX K H x b ∧ Q (.bl b) H
theorem bIxT {X : Cx} {a b : Expr} {ta tb : TE} {pos : Pos} (ha : PE X a ta) (hb : PE X b tb) (hs : PlainIx b := by intro _ _; rfl) : PE X (.Subscript a b pos) (tOp (rIxT X.K) ta tb) := pe_ix ix_tup ha hb hs
section
variable {P : Program} {w : World} {K : PySem.W.Frag} {mg : Str → Option Value} {base : Heap}
theorem scFromTo : FnScope ["value", "low", "high"] ["value", "low", "high"] (defScope sFromTo) := ⟨rfl, rfl, rfl, by decide +kernel, rfl, by decide +kernel, by decide +kernel⟩
theorem ok_fromToA {f : Addr} {fd : FuncData} (F : L2.Fun K "is_from_to" "is_from_to" sFromTo f fd) (T : Txt mg) (mB : mg "bool" = none) : FnOk P w K mg base CX0 2 f fd ["value", "low", "high"] (spFromToA K) := by
  refine F.ok scFromTo (fun vs H Q E h => ?_) (fun cdv A outer s H vs Q E hr h => ?_)
  · obtain ⟨x, o, lo, hi, rfl, _⟩ := h
    rfl
  · obtain ⟨x, o, lo, hi, rfl, how, k⟩ := h
    refine ⟨_, pss_one (ps_ret (pe_and (bIsi (by rfl) T.isi (pv 0) (pe_bltn (v := .ty "int") (by rfl) T.int (by decide +kernel) rfl)) (pe_and (pe_not (bIsi (by rfl) T.isi (pv 0) (pe_bltn (v := .ty "bool") (by rfl) mB (by decide +kernel) rfl))) (pe_one (pe_chain op_le op_le (pv 1) (pv 0) (pv 2)))))), ?_⟩
    rcases how with ⟨i, rfl, rfl⟩ | ⟨rfl, ⟨c, rfl⟩ | ⟨t, ty, no⟩⟩
    · refine ⟨_, rfl, .int i, .ty "int", _, _, true, rfl, .ty "int", .base (.int i), kit_ty (by decide +kernel), true, rfl, iteT ?_⟩
      refine ⟨_, rfl, .int i, .ty "bool", _, _, false, rfl, .ty "bool", .base (.int i), kit_ty (by decide +kernel), false, rfl, true, rfl, iteT ?_⟩
      refine ⟨_, rfl, _, rfl, lo, i, rfl, rfl, _, rfl, ?_⟩
      by_cases h : lo ≤ i
      · rw [decide_eq_true h]
        refine iteT ⟨_, rfl, i, hi, rfl, rfl, ?_⟩
        have k : Q (.bl (decide (lo ≤ i) && decide (i ≤ hi))) H := k
        rw [decide_eq_true h, Bool.true_and] at k
        exact k
      · rw [decide_eq_false h]
        have k : Q (.bl (decide (lo ≤ i) && decide (i ≤ hi))) H := k
        rw [decide_eq_false h, Bool.false_and] at k
        exact iteF k
    · refine ⟨_, rfl, .bl c, .ty "int", _, _, true, rfl, .ty "int", .base (.bl c), kit_ty (by decide +kernel), true, rfl, iteT ?_⟩
      exact ⟨_, rfl, .bl c, .ty "bool", _, _, true, rfl, .ty "bool", .base (.bl c), kit_ty (by decide +kernel), true, rfl, false, rfl, iteF k⟩
    · exact ⟨_, rfl, x, .ty "int", _, _, false, rfl, .ty "int", ty, no, false, rfl, iteF k⟩
theorem scIsLetter : FnScope ["value"] ["value"] (defScope sIsLetter) := ⟨rfl, rfl, rfl, by decide +kernel, rfl, by decide +kernel, by decide +kernel⟩
theorem ok_isLetterA {f : Addr} {fd : FuncData} (F : L2.Fun K "is_letter" "is_letter" sIsLetter f fd) (T : Txt mg) (mS : mg "str" = none) {tk : Tok} (mL : mg "LETTERS" = some (.str abc tk)) : FnOk P w K mg base CX0 1 f fd ["value"] (spIsLetterA K) := by
  refine F.ok scIsLetter (fun vs H Q E h => ?_) (fun cdv A outer s H vs Q E hr h => ?_)
  · obtain ⟨x, b, rfl, _⟩ := h
    rfl
  · obtain ⟨x, b, rfl, how, k⟩ := h
    refine ⟨_, pss_one (ps_ret (pe_and (bIsi (by rfl) T.isi (pv 0) (pe_bltn (v := .ty "str") (by rfl) mS (by decide +kernel) rfl)) (pe_and (pe_cmpR op_eq (bLen (by rfl) T.len (pv 0)) pe_int (nomark _))
      (pe_one (pe_cmpR op_in_sign (pv 0) (pe_glob (v := .str abc) (by rfl) mL ⟨_, rfl⟩) rfl))))), ?_⟩
    rcases how with ⟨z, rfl, few, rfl⟩ | ⟨rfl, t, ty, no⟩
    · refine ⟨_, rfl, .str z, .ty "str", _, _, true, rfl, .ty "str", .base (.str z), kit_ty (by decide +kernel), true, rfl, iteT ?_⟩
      refine ⟨_, rfl, _, z.length, rfl, ⟨len_small few, rfl⟩, rfl, _, rfl, ?_⟩
      obtain ⟨⟨L⟩⟩ := z
      match L, few, k with
      | [c], _, k => exact iteT ⟨_, rfl, c, abc, rfl, rfl, k⟩
      | [], _, k => exact iteF k
      | a :: b :: r, _, k =>
        rw [decide_eq_false (by intro q; injection q with q; simp [Str.length] at q; omega)]
        exact iteF k
    · exact ⟨_, rfl, x, .ty "str", _, _, false, rfl, .ty "str", ty, no, false, rfl, iteF k⟩
theorem scIsPair : FnScope ["value"] ["value"] (defScope sIsPair) := ⟨rfl, rfl, rfl, by decide +kernel, rfl, by decide +kernel, by decide +kernel⟩
theorem ok_isPairA {f f1 f2 : Addr} {fd fd1 fd2 : FuncData} (F : L2.Fun K "is_pair" "is_pair" sIsPair f fd) (T : Txt mg) (mT : mg "tuple" = none)
    (G1 : FnOk P w K mg base CX0 1 f1 fd1 ["value"] (spIsLetterA K)) (m1 : mg "is_letter" = some (.ref f1)) (k1 : PySem.W.keepIn K (.ref f1) = true) (b1 : L2.Binds K fd1 ["value"] [])
    (G2 : FnOk P w K mg base CX0 2 f2 fd2 ["value", "low", "high"] (spFromToA K)) (m2 : mg "is_from_to" = some (.ref f2)) (k2 : PySem.W.keepIn K (.ref f2) = true) (b2 : L2.Binds K fd2 ["value", "low", "high"] []) :
    FnOk P w K mg base CX0 3 f fd ["value"] (spIsPairA K) := by
  refine F.ok scIsPair (fun vs H Q E h => ?_) (fun cdv A outer s H vs Q E hr h => ?_)
  · obtain ⟨x, b, rfl, _⟩ := h
    rfl
  · obtain ⟨x, b, rfl, how, k⟩ := h
    refine ⟨_, pss_one (ps_ret (pe_and (bIsi (by rfl) T.isi (pv 0) (pe_bltn (v := .ty "tuple") (by rfl) mT (by decide +kernel) rfl)) (pe_and (pe_cmpR op_eq (bLen (by rfl) T.len (pv 0)) pe_int (nomark _))
      (pe_and (pe_call G1 (hr.mono (by decide)) (by rfl) m1 k1 b1 .nil pass0 (pa_cons (bIxT (pv 0) pe_int) pa_nil)) (pe_one (pe_call G2 hr (by rfl) m2 k2 b2 .nil pass0 (pa_cons (bIxT (pv 0) pe_int) (pa_cons pe_int (pa_cons pe_int pa_nil)))))))) ), ?_⟩
    rcases how with ⟨t, u, v, b1, o2, rfl, ht, hu, hv, rfl⟩ | ⟨rfl, ⟨t, xs, rfl, ht, l2⟩ | ⟨ty', ty, no⟩⟩
    · refine ⟨_, rfl, .ref t, .ty "tuple", _, _, true, rfl, .ty "tuple", .base (.tup ht), kit_ty (by decide +kernel), true, rfl, iteT ?_⟩
      refine ⟨_, rfl, _, 2, rfl, .inr ⟨_, SqT.of ht, rfl⟩, rfl, true, rfl, iteT ?_⟩
      refine ⟨_, rfl, t, _, 0, _, rfl, rfl, SqT.of ht, rfl, u, b1, rfl, hu, b1, rfl, ?_⟩
      cases b1 with
      | false => exact iteF k
      | true => exact iteT ⟨_, rfl, t, _, 1, _, rfl, rfl, SqT.of ht, rfl, v, o2, 0, 9, rfl, hv, by rw [Bool.true_and] at k; exact k⟩
    · refine ⟨_, rfl, .ref t, .ty "tuple", _, _, true, rfl, .ty "tuple", .base (.tup ht), kit_ty (by decide +kernel), true, rfl, iteT ?_⟩
      refine ⟨_, rfl, _, xs.length, rfl, .inr ⟨_, SqT.of ht, rfl⟩, rfl, _, rfl, ?_⟩
      rw [decide_eq_false (by intro q; injection q with q; omega)]
      exact iteF k
    · exact ⟨_, rfl, x, .ty "tuple", _, _, false, rfl, .ty "tuple", ty, no, false, rfl, iteF k⟩
end
end Kx

set_option Elab.async false
set_option maxRecDepth 100000
set_option autoImplicit false
/-! Weights.__init__ of any entries -/
namespace Kx
open PySem L2 PySem.Spec PyProof.Rows Rg Er Ru Tn
abbrev sWInit : Stmt := inClass (top 14) 0
/-- at t a pair of a letter and a weight -/
def PairAt (H : Hp) (t : Addr) (c : Nat) (n : Int) : Prop := H t = some (.tup [.str ⟨#[c]⟩, .int n]) ∧ c ∈ abc.cps.toList ∧ 0 ≤ n ∧ n ≤ 9
theorem g12 : ¬ (("_signs" : Str) = "pairs") := by decide +kernel
def wf1 (z : Str) : List (Str × V) := putF "_signs" (.str z) []
def wf (z : Str) (p : Addr) : List (Str × V) := putF "pairs" (.ref p) (wf1 z)
theorem wf_signs (z : Str) (p : Addr) : (wf z p).lookup ("_signs" : Str) = some (.str z) := by
  unfold wf wf1
  rw [lookup_putF, if_neg g12, lookup_putF, if_pos rfl]
theorem wf_pairs (z : Str) (p : Addr) : (wf z p).lookup ("pairs" : Str) = some (.ref p) := by
  unfold wf
  rw [lookup_putF, if_pos rfl]
theorem PairAt.same {H H' : Hp} {t : Addr} {c : Nat} {n : Int} (h : PairAt H t c n) (e : Same H H') : PairAt H' t c n := ⟨e _ _ h.1, h.2⟩
structure WT (K : PySem.W.Frag) (C : Addr) : Prop where
  cl : Cls K C
  n1 : NoAttr K C "_signs"
  n2 : NoAttr K C "pairs"
theorem Same.putNew' {H H' : Hp} {q : Addr} {o : HO} (h : H' q = none) (e : Same H H') : Same H (upd H' q o) := fun b u z => by rw [upd_ne (ne_of_none (e _ _ z) h)]; exact e _ _ z
/-- pairs of letters and weights -/
def PairsD (H : Hp) (xs : List V) (es : List (Nat × Int)) : Prop := xs.length = es.length ∧ ∀ (i : Nat) (e : Nat × Int), es[i]? = some e → ∃ t, xs[i]? = some (.ref t) ∧ PairAt H t e.1 e.2
theorem PairsD.mono {H H' : Hp} {xs : List V} {es : List (Nat × Int)} (h : PairsD H xs es) (e : ∀ t c n, PairAt H t c n → PairAt H' t c n) : PairsD H' xs es := ⟨h.1, fun i c q => let ⟨t, a, b⟩ := h.2 i c q; ⟨t, a, e _ _ _ b⟩⟩
def letters (es : List (Nat × Int)) : Str := ⟨(es.map (·.1)).toArray⟩
/-- at a the weights of these pairs, whose tuple holds xs -/
def Wts (C : Addr) (H : Hp) (a : Addr) (es : List (Nat × Int)) (xs : List V) : Prop := ∃ dx p, H a = some (.ins C dx (wf (letters es) p)) ∧ H p = some (.tup xs) ∧ PairsD H xs es
theorem Wts.same {C a : Addr} {H H' : Hp} {es : List (Nat × Int)} {xs : List V} (h : Wts C H a es xs) (e : Same H H') : Wts C H' a es xs := let ⟨dx, p, h1, h2, h3⟩ := h; ⟨dx, p, e _ _ h1, e _ _ h2, h3.mono fun _ _ _ q => q.same e⟩
def spStar (n : Nat) (sp : Sp) : Sp := fun vs H Q E => ∃ ws rest, vs = ws ++ rest ∧ ws.length = n ∧ rest.length ≤ sizeLine ∧ ∀ p, H p = Option.none → sp (ws ++ [V.ref p]) (upd H p (.tup rest)) Q E
/-- lists stay lists, tuples stay as they are -/
structure KeepT (H H' : Hp) : Prop where
  l : ∀ q xs, H q = some (.lst xs) → ∃ ys, H' q = some (.lst ys)
  t : ∀ q xs, H q = some (.tup xs) → H' q = some (.tup xs)
theorem Same.keepT {H H' : Hp} (e : Same H H') : KeepT H H' := ⟨fun q xs h => ⟨xs, e _ _ h⟩, fun q xs h => e _ _ h⟩
theorem KeepT.trans {H H1 H2 : Hp} (a : KeepT H H1) (b : KeepT H1 H2) : KeepT H H2 := ⟨fun q xs h => let ⟨_, h1⟩ := a.l q xs h; b.l q _ h1, fun q xs h => b.t q _ (a.t q xs h)⟩
theorem KeepT.put {H : Hp} {q : Addr} {xs ys : List V} (h : H q = some (.lst xs)) : KeepT H (upd H q (.lst ys)) := by
  refine ⟨fun r zs hr => ?_, fun r zs hr => ?_⟩
  · by_cases e : r = q
    · subst e; exact ⟨ys, upd_same⟩
    · exact ⟨zs, by rw [upd_ne e]; exact hr⟩
  · have e : r ≠ q := by rintro rfl; rw [h] at hr; cases hr
    rw [upd_ne e]; exact hr
theorem Ink.keepT {c p : Addr} {n m : Nat} {H H' : Hp} (pen : PenAt c m H p) (i : Ink c p n H H') : KeepT H H' := by
  refine ⟨fun r zs hr => ?_, fun r zs hr => ?_⟩
  · by_cases e : r = p
    · subst e
      obtain ⟨ns, x, g, h1, _⟩ := i.2
      exact ⟨_, h1⟩
    · exact ⟨zs, i.1 _ _ e hr⟩
  · have e : r ≠ p := by
      rintro rfl
      obtain ⟨ns, x, g, h1, _⟩ := pen
      rw [h1] at hr; cases hr
    exact i.1 _ _ e hr
theorem PairAt.keep {H H' : Hp} {t : Addr} {c : Nat} {n : Int} (h : PairAt H t c n) (e : KeepT H H') : PairAt H' t c n := ⟨e.t _ _ h.1, h.2⟩
/-- equal to itself wherever it stands in a list -/
def Sm (v : V) : Prop := flatB v = true ∨ ∃ c, v = .ref c
def EntX (K : PySem.W.Frag) (H : Hp) (v : V) (o : Option (Nat × Int)) : Prop := (∃ t c n, v = .ref t ∧ PairAt H t c n ∧ o = some (c, n)) ∨ (o = none ∧ Sm v ∧ ∀ H', KeepT H H' → PrX K H' v false)
theorem EntX.keep {K : PySem.W.Frag} {H H' : Hp} {v : V} {o : Option (Nat × Int)} (h : EntX K H v o) (e : KeepT H H') : EntX K H' v o := by
  rcases h with ⟨t, c, n, rfl, p, rfl⟩ | ⟨rfl, sm, p⟩
  · exact .inl ⟨t, c, n, rfl, p.keep e, rfl⟩
  · exact .inr ⟨rfl, sm, fun H2 e2 => p H2 (e.trans e2)⟩
theorem EntX.same {K : PySem.W.Frag} {H H' : Hp} {v : V} {o : Option (Nat × Int)} (h : EntX K H v o) (e : Same H H') : EntX K H' v o := h.keep (Same.keepT e)
def Ents (K : PySem.W.Frag) (H : Hp) (xs : List V) (os : List (Option (Nat × Int))) : Prop := xs.length = os.length ∧ ∀ (i : Nat) (o : Option (Nat × Int)), os[i]? = some o → ∃ v, xs[i]? = some v ∧ EntX K H v o
/-- the first entry that is refused -/
def badFrom : Nat → List Nat → List (Option (Nat × Int)) → Option Nat
  | _, _, [] => none
  | i, _, none :: _ => some i
  | i, seen, some (c, _) :: r => if c ∈ seen then some i else badFrom (i + 1) (seen ++ [c]) r
def spWInitA (K : PySem.W.Frag) (C CB : Addr) : Sp := fun vs H Q E => ∃ (a dx p : Addr) (xs : List V) (os : List (Option (Nat × Int))), vs = [.ref a, .ref p] ∧ H a = some (.ins C dx []) ∧ H p = some (.tup xs) ∧ Ents K H xs os ∧
  (¬ (1 ≤ xs.length ∧ xs.length ≤ 4) → raised CB "part" (.str "many") E H) ∧
  (1 ≤ xs.length ∧ xs.length ≤ 4 → match badFrom 0 [] os with
    | some i => ∀ H', Same H H' → raised CB "part" (.int (i : Nat)) E H'
    | none => ∀ es H', os = es.map some → Ext1 a H H' → Wts C H' a es xs → Q .non H')
section
variable {P : Program} {w : World} {K : PySem.W.Frag} {mg : Str → Option Value} {base : Heap}
theorem scWInit : FnScope ["self", "pairs", "signs", "at", "pair"] ["self", "pairs"] (defScope sWInit) := ⟨rfl, rfl, rfl, by decide +kernel, rfl, by decide +kernel, by decide +kernel⟩
theorem starOkX {x qual pv : Str} {st : Stmt} {f : Addr} {fd : FuncData} {N ps : List Str} {k : Nat} {sp : Sp} (F : L2.Fun K x qual st f fd) (S : FnScope N (ps ++ [pv]) (defScope st))
    (hb : ∀ (kV doc pm : Value) (an : Option Addr) (cdv ct : Value) (us rest : List Value), us.length = ps.length → bindArgs (PySem.W.fnOf x qual (defArgs st) (defBody st) (defScope st) .none kV doc pm an cdv ct) ⟨us ++ rest, []⟩ = (newTuple rest >>= fun t => pure (ps.zip us ++ [(pv, t)])))
    (hbody : ∀ (cdv : Value) (A : Around) (outer : List Env) (s : Shared) (H : Hp) (vs : List V) (Q : VK) (E : XK), Room k (A.deeper (envOfC qual (defScope st) s.heap.objs.size f cdv)) → sp vs H Q E →
      ∃ t, PSs (cxOf (L2.CX P w) P w K mg base N qual (defScope st) f cdv A outer s H E) (defBody st) t ∧ t { nx := fun _ H' => Q .non H', rt := Q } (L2.start N vs) H) : FnR P w K mg base (L2.CX P w) (k + 1) f (spStar ps.length sp) := by
  obtain ⟨oc, od, kV, doc, pm, an, cdv, ct, osl, rfl, lk, hcd⟩ := F.ex
  exact StX.fn_star lk hcd S StX.cxUp (hb kV doc pm an cdv ct) fun A outer s H vs Q E hr hsp => hbody cdv A outer s H vs Q E hr hsp
theorem ok_wInitA {C CB f f1 f2 : Addr} {fd fd1 fd2 : FuncData} (F : L2.Fun K "__init__" "Weights.__init__" sWInit f fd) (T : Txt mg) (M : WT K C) (R : ErrB P w K mg base "BadSigns" "part" CB) (mE : mg "enumerate" = none)
    (G1 : FnOk P w K mg base CX0 2 f1 fd1 ["value", "low", "high"] (spFromToA K)) (m1 : mg "is_from_to" = some (.ref f1)) (k1 : PySem.W.keepIn K (.ref f1) = true) (b1 : L2.Binds K fd1 ["value", "low", "high"] [])
    (G2 : FnOk P w K mg base CX0 3 f2 fd2 ["value"] (spIsPairA K)) (m2 : mg "is_pair" = some (.ref f2)) (k2 : PySem.W.keepIn K (.ref f2) = true) (b2 : L2.Binds K fd2 ["value"] []) :
    FnR P w K mg base (L2.CX P w) 4 f (spStar 1 (spWInitA K C CB)) := by
  obtain ⟨fi, fdi, psi, r1, r2, r3, r4⟩ := R.init
  refine starOkX (N := ["self", "pairs", "signs", "at", "pair"]) (ps := ["self"]) (pv := "pairs") (sp := spWInitA K C CB) F scWInit (fun kV doc pm an cdv ct => StX.bind_star1 (B := fun us => bindArgs (PySem.W.fnOf "__init__" "Weights.__init__" (defArgs sWInit) (defBody sWInit) (defScope sWInit) .none kV doc pm an cdv ct) ⟨us, []⟩) (fun a => rfl) (fun a r rs => rfl)) (fun cdv A outer s H vs Q E hr h => ?_)
  obtain ⟨a, dx, p, xs, os, rfl, ha, hp, ents, many, good⟩ := h
  have nd := scWInit.nd
  have hr2 := hr.mono (show 2 ≤ 3 by decide)
  have tk := takes_of (X := cxOf (L2.CX P w) P w K mg base ["self", "pairs", "signs", "at", "pair"] "Weights.__init__" (defScope sWInit) f cdv A outer s H E) rfl rfl rfl rfl
  refine ⟨_, pss_cons (ps_if (pt_not (pt_val (pe_call G1 hr2 (by rfl) m1 k1 b1 .nil pass0 (pa_cons (bLen (by rfl) T.len (pv 1)) (pa_cons pe_int (pa_cons pe_int pa_nil)))))) (pss_one (ps_raise1 rfl tk R.O r1 r2 r3 hr2 r4 (by rfl) R.mgC pe_str)) pss_nil)
    (pss_cons (ps_set (i := 2) nd rfl (.inl rfl) pe_str)
    (pss_cons (ps_for (passes_of (X := cxOf (L2.CX P w) P w K mg base ["self", "pairs", "signs", "at", "pair"] "Weights.__init__" (defScope sWInit) f cdv A outer s H E) rfl) rfl (pi_enumT (by rfl) mE (pa_cons (pv 1) pa_nil)) (pg_tup rfl (pgs_cons (pg_name (i := 3) nd rfl (.inl rfl)) (pgs_cons (pg_name (i := 4) nd rfl (.inl rfl)) pgs_nil)))
      (pss_cons (ps_if (PW.pt (pw_or (pt_not (pt_val (pe_call G2 hr (by rfl) m2 k2 b2 .nil pass0 (pa_cons (pv 4) pa_nil)))) (pw_or1 (pt_cmpR op_in_sign (bIxT (pv 4) pe_int) (pv 2) rfl)))) (pss_one (ps_raise1 rfl tk R.O r1 r2 r3 hr2 r4 (by rfl) R.mgC (pv 3))) pss_nil)
      (pss_one (ps_set (i := 2) nd rfl (.inl rfl) (pe_op op_add_str (pv 2) (bIxT (pv 4) pe_int))))))
    (pss_cons (ps_fld (pv 0) (pv 2) rfl) (pss_one (ps_fld (pv 0) (pv 1) rfl))))), ?_⟩
  have hl := ents.1
  refine ⟨_, rfl, _, xs.length, rfl, .inr ⟨_, SqT.of hp, rfl⟩, _, some (xs.length : Int), 1, 4, rfl, .inl ⟨_, rfl, rfl⟩, _, rfl, ?_⟩
  by_cases hc : 1 ≤ xs.length ∧ xs.length ≤ 4
  · have e : inB 1 4 (some (xs.length : Int)) = true := by
      show (decide ((1 : Int) ≤ (xs.length : Int)) && decide ((xs.length : Int) ≤ 4)) = true
      simp
      omega
    rw [e]
    refine iteF ⟨_, rfl, ?_⟩
    have good := good hc
    refine ⟨p, xs, rfl, SqT.of hp, for_it walk_enumT (fun j σ' H' => ∃ (es : List (Nat × Int)) (y1 y2 : Option V), σ' = [some (.ref a), some (.ref p), some (.str (letters es)), y1, y2] ∧ Same H H' ∧ es.length = j ∧ badFrom 0 [] os = badFrom j (es.map (·.1)) (os.drop j) ∧ ∀ (i : Nat) (e : Nat × Int), es[i]? = some e → ∃ t, xs[i]? = some (.ref t) ∧ PairAt H t e.1 e.2 ∧ os[i]? = some (some e))
      ⟨[], none, none, rfl, Same.refl H, rfl, rfl, fun i c q => by simp at q⟩ (fun j σ' H' _ ⟨_, _, _, _, q, _⟩ => SqT.of (q _ _ hp)) ?_ ?_⟩
    · rintro j x σ' H' H2 hj ⟨es, y1, y2, rfl, s0, lj, ej, prs⟩ ⟨t0, u1, u2, rfl, ht0, rfl, e1, e2⟩
      cases e1
      have hj' : j < os.length := by omega
      replace e2 : xs[j]? = some u2 := e2
      obtain ⟨o, ho⟩ : ∃ o, os[j]? = some o := ⟨_, List.getElem?_eq_getElem hj'⟩
      obtain ⟨v, hv, ev⟩ := ents.2 j o ho
      rw [e2] at hv
      cases hv
      have s1 : Same H (upd H' t0 (.tup [.int (j : Nat), u2])) := Same.putNew' ht0 s0
      refine ⟨t0, _, rfl, SqT.of upd_same, rfl, _, _, rfl, _, _, rfl, rfl, ?_⟩
      generalize upd H' t0 (.tup [.int (j : Nat), u2]) = H3 at s1 ⊢
      have ev3 := ev.same s1
      have dr : os.drop j = o :: os.drop (j + 1) := by
        rw [List.drop_eq_getElem_cons hj']
        congr 1
        rw [List.getElem?_eq_getElem hj'] at ho
        exact Option.some.inj ho
      have raise : badFrom j (es.map (·.1)) (os.drop j) = some j → raised CB "part" (.int (j : Nat)) E H3 := fun q => by
        rw [ej, q] at good
        exact good H3 s1
      rcases ev3 with ⟨t, c, n, rfl, pt, rfl⟩ | ⟨rfl, _, pr⟩
      · have lt : lt1 (⟨#[c]⟩ : Str) = true := decide_eq_true pt.2.1
        have ib : inB 0 9 (some n) = true := by
          show (decide ((0 : Int) ≤ n) && decide (n ≤ 9)) = true
          simp [pt.2.2.1, pt.2.2.2]
        refine ⟨_, rfl, .ref t, true, rfl, .inl ⟨t, _, _, true, some n, rfl, pt.1, .inl ⟨⟨#[c]⟩, rfl, by show 1 ≤ 1000; decide, lt.symm⟩, .inl ⟨n, rfl, rfl⟩, by rw [ib]; rfl⟩, true, rfl, iteF ?_⟩
        refine ⟨_, rfl, t, _, 0, _, rfl, rfl, SqT.of pt.1, rfl, _, rfl, c, _, rfl, rfl, _, rfl, ?_⟩
        have mem : (c ∈ (letters es).cps.toList) ↔ c ∈ es.map (·.1) := by unfold letters; rw [List.toList_toArray]
        by_cases hm : c ∈ es.map (·.1)
        · rw [decide_eq_true (mem.mpr hm)]
          refine iteT ⟨_, rfl, raise ?_⟩
          rw [dr]
          show (if c ∈ es.map (·.1) then some j else _) = some j
          rw [if_pos hm]
        · rw [decide_eq_false (fun q => hm (mem.mp q))]
          refine iteF ⟨_, rfl, _, rfl, t, _, 0, _, rfl, rfl, SqT.of pt.1, rfl, _, _, rfl, rfl, ?_, ?_⟩
          · show (es.map (·.1)).toArray.size + 1 ≤ sizeLine
            rw [List.size_toArray, List.length_map, sizeLine_eq]
            omega
          · refine ⟨es ++ [(c, n)], some (.int (j : Nat)), some (.ref t), ?_, s1, by rw [List.length_append, lj]; rfl, ?_, ?_⟩
            · show [some (V.ref a), some (V.ref p), some (V.str (letters es ++ (⟨#[c]⟩ : Str))), some (V.int (j : Nat)), some (V.ref t)] = _
              have ea : (letters es ++ (⟨#[c]⟩ : Str)) = letters (es ++ [(c, n)]) := by
                unfold letters
                rw [List.map_append]
                show (⟨(es.map (·.1)).toArray ++ #[c]⟩ : Str) = _
                simp
              rw [ea]
            · rw [ej, dr]
              show (if c ∈ es.map (·.1) then some j else badFrom (j + 1) (es.map (·.1) ++ [c]) (os.drop (j + 1))) = _
              rw [if_neg hm, List.map_append]
              rfl
            · intro i c' hi
              by_cases lt' : i < es.length
              · rw [List.getElem?_append_left lt'] at hi
                exact prs i c' hi
              · rw [List.getElem?_append_right (by omega)] at hi
                have i0 : i - es.length = 0 := by
                  cases z : i - es.length with
                  | zero => rfl
                  | succ m => rw [z] at hi; simp at hi
                rw [i0] at hi
                have ec : (c, n) = c' := by simpa using hi
                have ei : i = j := by omega
                subst ec ei
                rcases ev with ⟨t', c', n', e', p', q'⟩ | ⟨q', _⟩
                · cases e'
                  cases q'
                  exact ⟨t, e2, p', ho⟩
                · cases q'
      · refine ⟨_, rfl, u2, false, rfl, pr _ (Same.keepT (Same.refl _)), false, rfl, iteT ⟨_, rfl, raise ?_⟩⟩
        rw [dr]
        rfl
    · rintro σ' H' ⟨es, y1, y2, rfl, s0, lj, ej, prs⟩
      have dn : os.drop xs.length = [] := List.drop_eq_nil_of_le (by omega)
      rw [ej, dn] at good
      have good' : ∀ es' H', os = es'.map some → Ext1 a H H' → Wts C H' a es' xs → Q .non H' := good
      have ec : os = es.map some := by
        refine List.ext_getElem? fun i => ?_
        rw [List.getElem?_map]
        by_cases hi : i < es.length
        · obtain ⟨t, _, _, h3⟩ := prs i es[i] (List.getElem?_eq_getElem hi)
          rw [h3, List.getElem?_eq_getElem hi]
          rfl
        · rw [List.getElem?_eq_none (by omega), List.getElem?_eq_none (by omega)]
          rfl
      refine ⟨_, rfl, _, rfl, a, C, dx, [], rfl, s0 _ _ ha, M.cl, M.n1, by show 0 < 1000; decide, ?_⟩
      refine ⟨_, rfl, _, rfl, a, C, dx, _, rfl, upd_same, M.cl, M.n2, by show 1 < 1000; decide, ?_⟩
      have na : p ≠ a := by rintro rfl; rw [hp] at ha; cases ha
      have pl : PairsD H xs es := ⟨by omega, fun i c hi => let ⟨t, h1, h2, _⟩ := prs i c hi; ⟨t, h1, h2⟩⟩
      refine good' es _ ec (Ext1.trans (Same.ext1 a s0) (Ext1.trans Ext1.put Ext1.put)) ⟨dx, p, upd_same, ?_, pl.mono fun t c n q => ⟨?_, q.2⟩⟩
      · rw [upd_ne na, upd_ne na]; exact s0 _ _ hp
      · have nt : t ≠ a := by rintro rfl; rw [q.1] at ha; cases ha
        rw [upd_ne nt, upd_ne nt]; exact s0 _ _ q.1
  · have e : inB 1 4 (some (xs.length : Int)) = false := by
      show (decide ((1 : Int) ≤ (xs.length : Int)) && decide ((xs.length : Int) ≤ 4)) = false
      cases h1 : decide ((1 : Int) ≤ (xs.length : Int)) with
      | false => rfl
      | true =>
        have := of_decide_eq_true h1
        rw [decide_eq_false (by omega)]
        rfl
    rw [e]
    exact iteT (many hc)
end
end Kx

set_option Elab.async false
set_option maxRecDepth 100000
set_option autoImplicit false
/-! Weights.of, signs, len, in, [ ] -/
namespace Kx
open PySem L2 PySem.Spec PyProof.Rows Rg Er Ru Tn
abbrev sWOf : Stmt := inClass (top 14) 1
abbrev sWSigns : Stmt := inClass (top 14) 2
abbrev sWLen : Stmt := inClass (top 14) 3
abbrev sWHas : Stmt := inClass (top 14) 4
abbrev sWItem : Stmt := inClass (top 14) 5
theorem made_same {C x dx : Addr} {H : Hp} (hx : H x = none) (hd : H dx = none) : Same H (upd (upd H dx (.own x)) x (.ins C dx [])) := fun b o e => by
  rw [upd_ne (ne_of_none e hx), upd_ne (ne_of_none e hd)]
  exact e
theorem same_ext1 {x : Addr} {H H1 H2 : Hp} (hx : H x = none) (a : Same H H1) (b : Ext1 x H1 H2) : Same H H2 := fun c o e => b c o (ne_of_none e hx) (a c o e)
theorem Ents.keep {K : PySem.W.Frag} {H H' : Hp} {xs : List V} {os : List (Option (Nat × Int))} (h : Ents K H xs os) (e : KeepT H H') : Ents K H' xs os := ⟨h.1, fun i o q => let ⟨v, a, b⟩ := h.2 i o q; ⟨v, a, b.keep e⟩⟩
theorem Ents.same {K : PySem.W.Frag} {H H' : Hp} {xs : List V} {os : List (Option (Nat × Int))} (h : Ents K H xs os) (e : Same H H') : Ents K H' xs os := ⟨h.1, fun i o q => let ⟨v, a, b⟩ := h.2 i o q; ⟨v, a, b.same e⟩⟩
def spWOfA (K : PySem.W.Frag) (C CB : Addr) : Sp := fun vs H Q E => ∃ (l : Addr) (xs : List V) (os : List (Option (Nat × Int))), vs = [.ref C, .ref l] ∧ Sq H l xs ∧ Ents K H xs os ∧ xs.length ≤ 1000 ∧
  (¬ (1 ≤ xs.length ∧ xs.length ≤ 4) → ∀ H', Same H H' → raised CB "part" (.str "many") E H') ∧
  (1 ≤ xs.length ∧ xs.length ≤ 4 → match badFrom 0 [] os with
    | some i => ∀ H', Same H H' → raised CB "part" (.int (i : Nat)) E H'
    | none => ∀ es H' a, os = es.map some → Same H H' → Wts C H' a es xs → Q (.ref a) H')
def spWLen (C : Addr) : Sp := fun vs H Q _ => ∃ a es xs, vs = [.ref a] ∧ Wts C H a es xs ∧ Q (.int (es.length : Nat)) H
def spWHas (K : PySem.W.Frag) (C : Addr) : Sp := fun vs H Q _ => ∃ a es xs x b, vs = [.ref a, x] ∧ Wts C H a es xs ∧ LtX K H x b ∧ (b = false → Q (.bl false) H) ∧ ∀ c : Nat, x = .str ⟨#[c]⟩ → Q (.bl (decide (c ∈ es.map (·.1)))) H
theorem lt1_sign {z : Str} (h : lt1 z = true) : ∃ c, z = ⟨#[c]⟩ ∧ c ∈ abc.cps.toList := by
  obtain ⟨⟨L⟩⟩ := z
  match L, h with
  | [c], h => exact ⟨c, rfl, of_decide_eq_true h⟩
section
variable {P : Program} {w : World} {K : PySem.W.Frag} {mg : Str → Option Value} {base : Heap}
theorem scWOf : FnScope ["cls", "pairs"] ["cls", "pairs"] (defScope sWOf) := ⟨rfl, rfl, rfl, by decide +kernel, rfl, by decide +kernel, by decide +kernel⟩
theorem ok_wOfA {C CB f g : Addr} {fd : FuncData} (F : L2.Fun K "of" "Weights.of" sWOf f fd) (M : Mk K C g) (G : FnR P w K mg base (L2.CX P w) 4 g (spStar 1 (spWInitA K C CB))) : FnOk P w K mg base (L2.CX P w) 6 f fd ["cls", "pairs"] (spWOfA K C CB) := by
  refine F.okX scWOf (fun vs H Q E h => ?_) (fun cdv A outer s H vs Q E hr h => ?_)
  · obtain ⟨l, xs, os, rfl, _⟩ := h
    rfl
  · obtain ⟨l, xs, os, rfl, hl, es, few, many, good⟩ := h
    have tk := takes_of (X := cxOf (L2.CX P w) P w K mg base ["cls", "pairs"] "Weights.of" (defScope sWOf) f cdv A outer s H E) rfl rfl rfl rfl
    refine ⟨_, pss_one (ps_ret (pe_makeV1 M G hr (passes_call tk fun _ _ _ _ h => h) (pv 0) (pv 1))), ?_⟩
    refine ⟨_, rfl, rfl, _, rfl, l, xs, rfl, hl.elim (fun q => .inr (SqL.of q)) (fun q => .inl (SqT.of q)), fun x dx hx hd ne => ⟨[.ref x], xs, rfl, rfl, by rw [sizeLine_eq]; omega, fun p hp => ?_⟩⟩
    have s1 : Same H (upd (upd H dx (.own x)) x (.ins C dx [])) := made_same hx hd
    have s2 : Same H (upd (upd (upd H dx (.own x)) x (.ins C dx [])) p (.tup xs)) := Same.putNew' hp s1
    refine ⟨x, dx, p, xs, os, rfl, ?_, upd_same, es.same s2, fun h => many h _ s2, fun h => ?_⟩
    · rw [upd_ne (ne_of_none upd_same hp)]
      exact upd_same
    · have g := good h
      cases e : badFrom 0 [] os with
      | some i =>
        rw [e] at g
        exact fun H' s3 => g H' (Same.trans s2 s3)
      | none =>
        rw [e] at g
        exact fun es' H' ec e1 wt => ⟨rfl, g es' H' x ec (same_ext1 hx s2 e1) wt⟩
theorem scWSigns : FnScope ["self"] ["self"] (defScope sWSigns) := ⟨rfl, rfl, rfl, by decide +kernel, rfl, by decide +kernel, by decide +kernel⟩
theorem ok_wSigns {C f : Addr} {fd : FuncData} (F : L2.Fun K "signs" "Weights.signs" sWSigns f fd) (M : WT K C) : FnOk P w K mg base CX0 1 f fd ["self"] (getSp C "_signs") := by
  refine F.ok scWSigns (fun vs H Q E h => ?_) (fun cdv A outer s H vs Q E hr h => ?_)
  · obtain ⟨a, dx, fs, v, rfl, _⟩ := h
    rfl
  · obtain ⟨a, dx, fs, v, rfl, e, l, q⟩ := h
    exact ⟨_, pss_one (ps_ret (pe_fld (pv 0) rfl)), _, rfl, a, C, dx, fs, v, rfl, e, M.cl, M.n1, l, q⟩
theorem scWLen : FnScope ["self"] ["self"] (defScope sWLen) := ⟨rfl, rfl, rfl, by decide +kernel, rfl, by decide +kernel, by decide +kernel⟩
theorem ok_wLen {C f : Addr} {fd : FuncData} (F : L2.Fun K "__len__" "Weights.__len__" sWLen f fd) (T : Txt mg) (M : WT K C) : FnOk P w K mg base CX0 1 f fd ["self"] (spWLen C) := by
  refine F.ok scWLen (fun vs H Q E h => ?_) (fun cdv A outer s H vs Q E hr h => ?_)
  · obtain ⟨a, es, xs, rfl, _⟩ := h
    rfl
  · obtain ⟨a, es, xs, rfl, ⟨dx, p, ha, hp, ps⟩, k⟩ := h
    rw [← ps.1] at k
    exact ⟨_, pss_one (ps_ret (bLen (by rfl) T.len (pe_fld (pv 0) rfl))), _, rfl, a, C, dx, _, _, rfl, ha, M.cl, M.n2, wf_pairs _ _, _, xs.length, rfl, .inr ⟨_, SqT.of hp, rfl⟩, k⟩
theorem scWHas : FnScope ["self", "x"] ["self", "x"] (defScope sWHas) := ⟨rfl, rfl, rfl, by decide +kernel, rfl, by decide +kernel, by decide +kernel⟩
theorem ok_wHas {C f f1 ps_ gs : Addr} {fd fd1 fds : FuncData} (F : L2.Fun K "__contains__" "Weights.__contains__" sWHas f fd) (M : WT K C)
    (G1 : FnOk P w K mg base CX0 1 f1 fd1 ["value"] (spIsLetterA K)) (m1 : mg "is_letter" = some (.ref f1)) (k1 : PySem.W.keepIn K (.ref f1) = true) (b1 : L2.Binds K fd1 ["value"] [])
    (po : PropOf K C "signs" ps_ gs) (GS : FnOk P w K mg base CX0 1 gs fds ["self"] (getSp C "_signs")) (bS : L2.Binds K fds ["self"] []) : FnOk P w K mg base CX0 3 f fd ["self", "x"] (spWHas K C) := by
  refine F.ok scWHas (fun vs H Q E h => ?_) (fun cdv A outer s H vs Q E hr h => ?_)
  · obtain ⟨a, es, xs, x, b, rfl, _⟩ := h
    rfl
  · obtain ⟨a, es, xs, x, b, rfl, ⟨dx, p, ha, hp, ps⟩, hx, no, yes⟩ := h
    refine ⟨_, pss_one (ps_ret (pe_and (pe_call G1 (hr.mono (by decide)) (by rfl) m1 k1 b1 .nil pass0 (pa_cons (pv 1) pa_nil)) (pe_one (pe_cmpR op_in_sign (pv 1) (pe_prop (pv 0) M.cl po GS hr bS .nil pass0 rfl) rfl)))), ?_⟩
    refine ⟨_, rfl, x, b, rfl, hx, b, rfl, ?_⟩
    cases b with
    | false => exact iteF (no rfl)
    | true =>
      rcases hx with ⟨z, rfl, _, e⟩ | ⟨e, _⟩
      · obtain ⟨c, rfl, _⟩ := lt1_sign e.symm
        have y := yes c rfl
        refine iteT ⟨_, rfl, _, rfl, a, dx, _, rfl, ha, a, dx, _, _, rfl, ha, wf_signs _ _, c, _, rfl, rfl, ?_⟩
        rw [show (letters es).cps.toList = es.map (·.1) from by unfold letters; rw [List.toList_toArray]]
        exact y
      · cases e
theorem idx0 {cs : List Nat} {c : Nat} (h : c ∈ cs) : ∃ k, Txt.index0 (⟨cs.toArray⟩ : Str) ⟨#[c]⟩ = some k ∧ cs[k]? = some c := by
  unfold Txt.index0
  rcases StrLaws.occ_head (⟨cs.toArray⟩ : Str) ⟨#[c]⟩ 1 (Nat.le_refl 1) with ⟨_, hn⟩ | ⟨k, r, e, hat, _⟩
  · obtain ⟨k, hk, e⟩ := List.getElem_of_mem h
    exact absurd ((StrLaws.subAt_one (⟨cs.toArray⟩ : Str) c k).mpr (by simpa using (List.getElem?_eq_getElem hk).trans (congrArg some e))) (hn k)
  · have q := (StrLaws.subAt_one (⟨cs.toArray⟩ : Str) c k).mp hat
    refine ⟨k, ?_, by simpa using q⟩
    rw [e]
    rfl
def spWItem (K : PySem.W.Frag) (C CB : Addr) : Sp := fun vs H Q E => ∃ a es xs x b, vs = [.ref a, x] ∧ Wts C H a es xs ∧ LtX K H x b ∧
  (b = false → raised CB "part" x E H) ∧ ∀ c : Nat, x = .str ⟨#[c]⟩ → (c ∉ es.map (·.1) → raised CB "part" x E H) ∧ ∀ n : Int, (c, n) ∈ es → Q (.int n) H
theorem scWItem : FnScope ["self", "at"] ["self", "at"] (defScope sWItem) := ⟨rfl, rfl, rfl, by decide +kernel, rfl, by decide +kernel, by decide +kernel⟩
theorem ok_wItem {C CB f f1 ps_ gs : Addr} {fd fd1 fds : FuncData} (F : L2.Fun K "__getitem__" "Weights.__getitem__" sWItem f fd) (M : WT K C) (R : ErrB P w K mg base "BadSigns" "part" CB)
    (G1 : FnOk P w K mg base CX0 3 f1 fd1 ["self", "x"] (spWHas K C)) (b1 : L2.Binds K fd1 ["self", "x"] []) (aH : PySem.W.findIn K (.ref C) "__contains__" = some (some (.ref f1))) (nH : PySem.W.isFn K (.ref f1) = true)
    (po : PropOf K C "signs" ps_ gs) (GS : FnOk P w K mg base CX0 1 gs fds ["self"] (getSp C "_signs")) (bS : L2.Binds K fds ["self"] []) : FnOk P w K mg base (L2.CX P w) 4 f fd ["self", "at"] (spWItem K C CB) := by
  obtain ⟨fi, fdi, psi, r1, r2, r3, r4⟩ := R.init
  refine F.okX scWItem (fun vs H Q E h => ?_) (fun cdv A outer s H vs Q E hr h => ?_)
  · obtain ⟨a, es, xs, x, b, rfl, _⟩ := h
    rfl
  · obtain ⟨a, es, xs, x, b, rfl, ⟨dx, p, ha, hp, ps⟩, hx, no, yes⟩ := h
    have tk := takes_of (X := cxOf (L2.CX P w) P w K mg base ["self", "at"] "Weights.__getitem__" (defScope sWItem) f cdv A outer s H E) rfl rfl rfl rfl
    have hr2 := hr.mono (show 2 ≤ 3 by decide)
    refine ⟨_, pss_cons (ps_if (pt_cmpR (op_hasnt G1 hr b1 pass0 aH nH) (pv 1) (pv 0) rfl) (pss_one (ps_raise1 rfl tk R.O r1 r2 r3 hr2 r4 (by rfl) R.mgC (pv 1))) pss_nil)
      (pss_one (ps_ret (bIxT (pe_ix ix_tup (pe_fld (pv 0) rfl) (pe_bmS PySem.F.plainAttrs_str PySem.F.slot_str_index PySem.F.type_str_index (mt_indexX rfl tk) (pe_prop (pv 0) M.cl po GS hr2 bS .nil pass0 rfl) (pa_cons (pv 1) pa_nil)) (fun _ _ => rfl)) pe_int))), ?_⟩
    refine ⟨_, rfl, _, rfl, a, dx, _, rfl, ha, a, es, xs, x, b, rfl, ⟨dx, p, ha, hp, ps⟩, hx, fun e => ⟨false, rfl, _, rfl, iteT ⟨_, rfl, no e⟩⟩, fun c ex => ?_⟩
    obtain ⟨n1, y1⟩ := yes c ex
    by_cases hc : c ∈ es.map (·.1)
    · rw [decide_eq_true hc]
      refine ⟨true, rfl, _, rfl, iteF ?_⟩
      subst ex
      obtain ⟨k0, hk0', ck0⟩ := idx0 hc
      have hk0 : Txt.index0 (letters es) ⟨#[c]⟩ = some k0 := hk0'
      refine ⟨_, rfl, a, C, dx, _, _, rfl, ha, M.cl, M.n2, wf_pairs _ _, _, rfl, a, dx, _, rfl, ha, a, dx, _, _, rfl, ha, wf_signs _ _, rfl, _, rfl, _, _, rfl, rfl, fun k hk => ?_, fun hn => ?_⟩
      · rw [hk0] at hk
        cases hk
        obtain ⟨⟨c', n⟩, he, rfl⟩ : ∃ e, es[k0]? = some e ∧ e.1 = c := by
          rw [List.getElem?_map] at ck0
          cases z : es[k0]? with
          | none => rw [z] at ck0; cases ck0
          | some e => rw [z] at ck0; exact ⟨e, rfl, Option.some.inj ck0⟩
        obtain ⟨t, e3, pt⟩ := ps.2 k0 _ he
        refine ⟨p, xs, (k0 : Nat), .ref t, rfl, rfl, SqT.of hp, atI_int (by omega) (by rw [show ((k0 : Int)).toNat = k0 from by omega]; exact e3), ?_⟩
        exact ⟨t, _, 1, .int n, rfl, rfl, SqT.of pt.1, rfl, y1 n (List.mem_of_getElem? he)⟩
      · rw [hk0] at hn
        cases hn
    · rw [decide_eq_false hc]
      exact ⟨false, rfl, _, rfl, iteT ⟨_, rfl, n1 hc⟩⟩
end
end Kx

set_option Elab.async false
set_option maxRecDepth 100000
set_option autoImplicit false
set_option pp.maxSteps 400
set_option pp.deepTerms false
/-! weights of rows, and the rows one behind the other -/
namespace Kx
open PySem PySem.StrLaws PySem.Builtin PySem.Builtin.Str
theorem cnt_run (s : Str) (c limit : Nat) : ∀ (m cur : Nat) (st : Array Nat × Nat), st.snd ≤ cur → cur + m = s.length + 1 → st.fst.size + m ≤ limit →
    (forIn (List.range' cur m) st (occBody s ⟨#[c]⟩ s.length limit)).run.fst.size = st.fst.size + (s.cps.toList.drop cur).count c
  | 0, cur, st, h1, h2, h3 => by
    have : s.cps.toList.drop cur = [] := List.drop_eq_nil_of_le (by show s.cps.toList.length ≤ cur; rw [Array.length_toList]; show s.length ≤ cur; omega)
    rw [this]
    rfl
  | m + 1, cur, st, h1, h2, h3 => by
    rw [List.range'_succ, List.forIn_cons]
    unfold occBody
    have one : (⟨#[c]⟩ : Str).length = 1 := rfl
    split
    · rename_i hc
      have at_ := (subAt_one s c cur).mp ⟨hc.1.2, hc.2⟩
      obtain ⟨lt, e⟩ := List.getElem?_eq_some_iff.mp at_
      rw [List.drop_eq_getElem_cons lt, e, List.count_cons_self]
      have := cnt_run s c limit m (cur + 1) (st.fst.push cur, cur + (⟨#[c]⟩ : Str).length) (by rw [one]; exact Nat.le_refl _) (by omega) (by show (st.fst.push cur).size + m ≤ limit; rw [Array.size_push]; omega)
      refine this.trans ?_
      show (st.fst.push cur).size + _ = _
      rw [Array.size_push]; omega
    · rename_i hc
      have := cnt_run s c limit m (cur + 1) (st.fst, st.snd) (by show st.snd ≤ cur + 1; omega) (by omega) (by show st.fst.size + m ≤ limit; omega)
      refine this.trans ?_
      show st.fst.size + _ = _
      by_cases lt : cur < s.cps.toList.length
      · rw [List.drop_eq_getElem_cons lt, List.count_cons_of_ne]
        intro e
        have q := (subAt_one s c cur).mpr (List.getElem?_eq_some_iff.mpr ⟨lt, by first | exact e | exact e.symm⟩)
        exact hc ⟨⟨⟨by show st.fst.size < limit; omega, h1⟩, q.1⟩, q.2⟩
      · rw [List.drop_eq_nil_of_le (by omega), List.drop_eq_nil_of_le (by omega)]
theorem count_one (s : Str) (c : Nat) : Txt.count s ⟨#[c]⟩ = ((s.cps.toList.count c : Nat) : Int) := by
  unfold Txt.count
  rw [occ_eq, Array.length_toList]
  have := cnt_run s c (s.length + 1) (s.length + 1) 0 ((#[] : Array Nat), 0) (Nat.le_refl _) (by omega) (by show 0 + (s.length + 1) ≤ s.length + 1; omega)
  rw [show s.length + 1 - 0 = s.length + 1 from rfl, this, List.drop_zero]
  show ((0 + _ : Nat) : Int) = _
  rw [Nat.zero_add]
/-- the weight of a row by its signs -/
def wtC (es : List (Nat × Int)) (l : List Nat) : Int := (es.map fun e => e.2 * ((l.count e.1 : Nat) : Int)).sum
def wtS (es : List (Nat × Int)) (l : List Nat) : Int := (l.map fun c => (es.lookup c).getD 0).sum
theorem wtC_nil : ∀ (es : List (Nat × Int)), wtC es [] = 0
  | [] => rfl
  | e :: r => by
    have := wtC_nil r
    unfold wtC at this ⊢
    rw [List.map_cons, List.sum_cons, this]
    simp
theorem wtC_cons_no : ∀ {es : List (Nat × Int)} {c : Nat} {l : List Nat}, c ∉ es.map (·.1) → wtC es (c :: l) = wtC es l
  | [], _, _, _ => rfl
  | e :: r, c, l, h => by
    rw [List.map_cons, List.mem_cons] at h
    have ih := wtC_cons_no (es := r) (c := c) (l := l) fun z => h (.inr z)
    unfold wtC at ih ⊢
    rw [List.map_cons, List.sum_cons, List.map_cons, List.sum_cons, ih, List.count_cons_of_ne (fun z => h (.inl z))]
theorem wtC_cons : ∀ {es : List (Nat × Int)} {c : Nat} {l : List Nat}, (es.map (·.1)).Nodup → c ∈ es.map (·.1) → wtC es (c :: l) = (es.lookup c).getD 0 + wtC es l
  | [], _, _, _, h => by cases h
  | e :: r, c, l, nd, h => by
    rw [List.map_cons, List.nodup_cons] at nd
    by_cases q : c = e.1
    · subst q
      have ih := wtC_cons_no (es := r) (l := l) nd.1
      unfold wtC at ih ⊢
      rw [List.map_cons, List.sum_cons, List.map_cons, List.sum_cons, ih, List.count_cons_self, show (e :: r).lookup e.1 = some e.2 from by
        obtain ⟨a, b⟩ := e
        simp [List.lookup]]
      show e.2 * ((List.count e.1 l + 1 : Nat) : Int) + _ = e.2 + (e.2 * _ + _)
      rw [Int.natCast_add, Int.mul_add]
      omega
    · have h' : c ∈ r.map (·.1) := (List.mem_cons.mp h).resolve_left q
      have ih := wtC_cons (l := l) nd.2 h'
      unfold wtC at ih ⊢
      rw [List.map_cons, List.sum_cons, List.map_cons, List.sum_cons, ih, List.count_cons_of_ne (fun z => q z), show (e :: r).lookup c = r.lookup c from by
        obtain ⟨a, b⟩ := e
        have : (c == a) = false := by simpa using q
        simp [List.lookup, this]]
      omega
theorem wt_eq {es : List (Nat × Int)} (nd : (es.map (·.1)).Nodup) : ∀ {l : List Nat}, (∀ c ∈ l, c ∈ es.map (·.1)) → wtS es l = wtC es l
  | [], _ => (wtC_nil es).symm
  | c :: l, h => by
    rw [wtC_cons nd (h c List.mem_cons_self), ← wt_eq nd fun d hd => h d (List.mem_cons_of_mem _ hd)]
    rfl
/-! ### rows in order -/
/-- the row behind, its last sign first, by indexes below k -/
def sucR (k : Nat) : List Nat → Option (List Nat)
  | [] => none
  | d :: r => if d + 1 < k then some ((d + 1) :: r) else (sucR k r).map (0 :: ·)
def allR (k : Nat) : Nat → List (List Nat)
  | 0 => [[]]
  | n + 1 => (allR k n).flatMap fun r => (List.range k).map (· :: r)
/-- from x on, by f, all of L -/
inductive RunOf {α : Type} (f : α → Option α) : α → List α → Prop
  | last {x : α} : f x = none → RunOf f x [x]
  | more {x y : α} {L : List α} : f x = some y → RunOf f y L → RunOf f x (x :: L)
theorem run_block {k : Nat} {x : List Nat} {M : List (List Nat)} (h : (sucR k x = none ∧ M = []) ∨ ∃ y, sucR k x = some y ∧ RunOf (sucR k) (0 :: y) M) : ∀ (m j : Nat), j + m = k → 0 < m → RunOf (sucR k) (j :: x) ((List.range' j m).map (· :: x) ++ M)
  | 0, _, _, p => by omega
  | 1, j, e, _ => by
    have no : ¬ j + 1 < k := by omega
    rcases h with ⟨h1, rfl⟩ | ⟨y, h1, h2⟩
    · refine .last ?_
      unfold sucR
      rw [if_neg no, h1]; rfl
    · refine .more (y := 0 :: y) ?_ h2
      unfold sucR
      rw [if_neg no, h1]; rfl
  | m + 2, j, e, _ => by
    refine .more (y := (j + 1) :: x) ?_ (run_block h (m + 1) (j + 1) (by omega) (by omega))
    unfold sucR
    rw [if_pos (by omega)]
theorem run_up {k : Nat} (pos : 0 < k) {x : List Nat} {L : List (List Nat)} (h : RunOf (sucR k) x L) : RunOf (sucR k) (0 :: x) (L.flatMap fun r => (List.range k).map (· :: r)) := by
  induction h with
  | last e =>
    have := run_block (M := []) (.inl ⟨e, rfl⟩) k 0 (Nat.zero_add _) pos
    rw [List.range_eq_range']
    simpa [List.flatMap] using this
  | more e _ ih =>
    have := run_block (.inr ⟨_, e, ih⟩) k 0 (Nat.zero_add _) pos
    rw [List.flatMap_cons, List.range_eq_range']
    rw [List.range_eq_range'] at this
    exact this
theorem run_all {k : Nat} (pos : 0 < k) : ∀ n, RunOf (sucR k) (List.replicate n 0) (allR k n)
  | 0 => .last rfl
  | n + 1 => run_up pos (run_all pos n)
theorem suc_len {k : Nat} : ∀ {r r' : List Nat}, sucR k r = some r' → r'.length = r.length
  | [], _, h => by cases h
  | d :: r, r', h => by
    unfold sucR at h
    split at h
    · cases h; rfl
    · cases q : sucR k r with
      | none => rw [q] at h; cases h
      | some y =>
        rw [q] at h
        cases h
        simp [suc_len q]
theorem suc_low {k : Nat} (pos : 0 < k) : ∀ {r r' : List Nat}, sucR k r = some r' → (∀ d ∈ r, d < k) → ∀ d ∈ r', d < k
  | [], _, h, _ => by cases h
  | d :: r, r', h, l => by
    unfold sucR at h
    split at h
    · cases h
      intro e he
      rcases List.mem_cons.mp he with rfl | he
      · assumption
      · exact l e (List.mem_cons_of_mem _ he)
    · cases q : sucR k r with
      | none => rw [q] at h; cases h
      | some y =>
        rw [q] at h
        cases h
        intro e he
        rcases List.mem_cons.mp he with rfl | he
        · exact pos
        · exact suc_low pos q (fun d hd => l d (List.mem_cons_of_mem _ hd)) e he
/-- a row's text, of its indexes, the last first -/
def encR (cs r : List Nat) : Str := ⟨(r.reverse.map fun d => cs.getD d 0).toArray⟩
theorem encR_len (cs r : List Nat) : (encR cs r).length = r.length := by
  show ((r.reverse.map fun d => cs.getD d 0).toArray).size = _
  simp
/-- what stands behind the last signs that are none but the last letter -/
theorem suc_form {k : Nat} : ∀ (r : List Nat), (∀ d ∈ r, d < k) → (∃ m, r = List.replicate m (k - 1) ∧ sucR k r = none) ∨ ∃ m d r2, r = List.replicate m (k - 1) ++ d :: r2 ∧ d + 1 < k ∧ sucR k r = some (List.replicate m 0 ++ (d + 1) :: r2)
  | [], _ => .inl ⟨0, rfl, rfl⟩
  | d :: r, l => by
    have ld := l d List.mem_cons_self
    by_cases c : d + 1 < k
    · refine .inr ⟨0, d, r, rfl, c, ?_⟩
      unfold sucR
      rw [if_pos c]; rfl
    · have ed : d = k - 1 := by omega
      rcases suc_form r fun e he => l e (List.mem_cons_of_mem _ he) with ⟨m, h1, h2⟩ | ⟨m, e, r2, h1, h2, h3⟩
      · refine .inl ⟨m + 1, by rw [h1, ed]; rfl, ?_⟩
        unfold sucR
        rw [if_neg c, h2]; rfl
      · refine .inr ⟨m + 1, e, r2, by rw [h1, ed]; rfl, h2, ?_⟩
        unfold sucR
        rw [if_neg c, h3]; rfl
/-- rstrip of one sign -/
theorem rstrip_one {l : List Nat} {c m : Nat} (h : ∀ d, l.getLast? = some d → d ≠ c) : Txt.rstripChars ⟨(l ++ List.replicate m c).toArray⟩ ⟨#[c]⟩ = ⟨l.toArray⟩ := by
  have pc : ∀ d, (⟨#[c]⟩ : Str).cps.contains d = decide (d = c) := fun d => by
    show (#[c] : Array Nat).contains d = _
    simp [eq_comm]
  have run : ((l ++ List.replicate m c).reverse.takeWhile (⟨#[c]⟩ : Str).cps.contains) = List.replicate m c := by
    rw [List.reverse_append, List.reverse_replicate, List.takeWhile_append_of_pos (fun d hd => by rw [pc, List.eq_of_mem_replicate hd]; simp)]
    have : l.reverse.takeWhile (⟨#[c]⟩ : Str).cps.contains = [] := by
      cases q : l.reverse with
      | nil => rfl
      | cons d r =>
        have hd : l.getLast? = some d := by
          have : l = (d :: r).reverse := by rw [← q, List.reverse_reverse]
          rw [this]; simp
        rw [List.takeWhile_cons, pc, decide_eq_false (h d hd)]
        rfl
    rw [this, List.append_nil]
  have lo : stripLo (⟨#[c]⟩ : Str).cps.contains false ⟨(l ++ List.replicate m c).toArray⟩ = 0 := rfl
  have hi : stripHi (⟨#[c]⟩ : Str).cps.contains true ⟨(l ++ List.replicate m c).toArray⟩ 0 = l.length := by
    unfold stripHi
    rw [if_pos rfl]
    show (l ++ List.replicate m c).toArray.size - (((l ++ List.replicate m c).drop 0).reverse.takeWhile _).length = _
    rw [List.drop_zero, run, List.size_toArray, List.length_append, List.length_replicate]
    omega
  show Txt.stripBy (⟨#[c]⟩ : Str).cps.contains false true ⟨(l ++ List.replicate m c).toArray⟩ = _
  unfold Txt.stripBy stripSame stripped
  rw [lo, hi]
  split
  · rename_i q
    have e : l.length = (l ++ List.replicate m c).length := by
      have := (Bool.and_eq_true_iff.mp q).2
      have := beq_iff_eq.mp this
      exact this.trans (by show (l ++ List.replicate m c).toArray.size = _; rw [List.size_toArray])
    have m0 : m = 0 := by rw [List.length_append, List.length_replicate] at e; omega
    subst m0
    simp
  · refine TL.ext_tl ?_
    show ((l ++ List.replicate m c).toArray.extract 0 l.length).toList = l
    rw [Array.toList_extract]
    simp
end Kx
set_option Elab.async false
set_option maxRecDepth 100000
set_option autoImplicit false
set_option pp.maxSteps 400
set_option pp.deepTerms false
/-! what is a row; its weight; its place -/
namespace Kx
open PySem L2 PySem.Spec PyProof.Rows Rg Er Ru Tn
abbrev sWrong : Stmt := top 10
abbrev sCheckRow : Stmt := top 11
abbrev sWeigh : Stmt := top 12
abbrev sWCall : Stmt := inClass (top 14) 8
abbrev sWPlace : Stmt := inClass (top 14) 9
def Word (z w : Str) : Prop := ∀ c ∈ w.cps.toList, c ∈ z.cps.toList
theorem take_all (p : Nat → Bool) : ∀ l : List Nat, (∀ c ∈ l, p c = true) → l.takeWhile p = l
  | [], _ => rfl
  | c :: r, h => by
    rw [List.takeWhile_cons, h c List.mem_cons_self, if_pos rfl, take_all p r fun d hd => h d (List.mem_cons_of_mem _ hd)]
theorem strip_word {z w : Str} (h : Word z w) : Txt.lstripChars w z = Str.empty := by
  have e : w.cps.toList.takeWhile z.cps.contains = w.cps.toList := take_all _ _ fun c hc => by
    have q := h c hc
    simpa using q
  have el : w.cps.toList.length = w.length := by simp [Str.length]
  have lo : stripLo z.cps.contains true w = w.length := by unfold stripLo; simp [e, el]
  show Txt.stripBy z.cps.contains true false w = Str.empty
  unfold Txt.stripBy stripSame stripped
  rw [lo]
  have hi : stripHi z.cps.contains false w w.length = w.length := rfl
  rw [hi]
  by_cases q : w.length = 0
  · have e0 : w = Str.empty := by
      obtain ⟨a⟩ := w
      have : a = #[] := Array.eq_empty_of_size_eq_zero q
      subst this; rfl
    subst e0; rfl
  · have f : (w.length == 0) = false := by simpa using q
    rw [f, Bool.false_and, if_neg Bool.false_ne_true]
    show (⟨w.cps.extract w.length w.length⟩ : Str) = Str.empty
    have : w.cps.extract w.length w.length = #[] := by
      simp
      exact Nat.min_le_left _ _
    rw [this]; rfl
def spWrong : Sp := fun vs H Q _ => ∃ z wd : Str, vs = [.str z, .str wd] ∧ Word z wd ∧ wd.length ≤ 1000 ∧ Q .non H
abbrev W0 : WX := fun _ _ _ _ => False
theorem bIndex {X : Cx} (hc : X.calm = true) (tk : Takes X W0) {o e : Expr} {to te : TE} {apos cpos : Pos} (ho : PE X o to) (he : PE X e te) (hbase : attributeBase o "index" X.env (eval o X.env) = eval o X.env := by rfl)
    (hfew : ((backTo cpos (starEach [e] X.env)).all (fun x => !x.1) && (backToKw cpos (keywordEach [] X.env)).all (fun x => x.1.isSome) && decide ([e].length + ([] : List Keyword).length + (if ([] : List Keyword).isEmpty then 0 else 1) < 30)) = true := by rfl)
    (hline : (apos.endLine == cpos.line) = true := by rfl) (hs : starEach [e] X.env = (false, eval e X.env) :: starEach [] X.env := by rfl) (hplain : (backTo cpos (starEach [] X.env)).any (·.1) = false := by rfl) :
    PE X (.Call (.Attribute o "index" apos) [e] [] cpos) (tBMS X.K "str" (rIndexX W0) to (tCons te tNil)) :=
  pe_bmS PySem.F.plainAttrs_str PySem.F.slot_str_index PySem.F.type_str_index (mt_indexX hc tk) ho (pa_cons he pa_nil hs) hbase hfew hline hs hplain
/-- x is no row of the signs z: i is told -/
def Bad (K : PySem.W.Frag) (H : Hp) (z : Str) (x : V) (i : Int) : Prop :=
  (∃ wd : Str, x = .str wd ∧ wd.length ≤ 1000 ∧ Txt.lstripChars wd z ≠ Str.empty ∧ (Txt.lstripChars wd z).length ≤ 1000 ∧ i = (wd.length : Nat) - ((Txt.lstripChars wd z).length : Nat)) ∨ (∃ t, TyX K H x t ∧ PySem.W.kitOne K t (.type "str") = some false ∧ i = 0)
def spWrongB (K : PySem.W.Frag) : Sp := fun vs H Q _ => ∃ (z : Str) (x : V) (i : Int), vs = [.str z, x] ∧ Bad K H z x i ∧ Q (.int i) H
def spCheckB (K : PySem.W.Frag) (C : Addr) : Sp := fun vs H _ E => ∃ (z : Str) (x : V) (i : Int), vs = [.str z, x] ∧ Bad K H z x i ∧ raised C "at" (.int i) E H
section
variable {P : Program} {w : World} {K : PySem.W.Frag} {mg : Str → Option Value} {base : Heap}
theorem scWrong : FnScope ["signs", "value", "rest"] ["signs", "value"] (defScope sWrong) := ⟨rfl, rfl, rfl, by decide +kernel, rfl, by decide +kernel, by decide +kernel⟩
theorem ok_wrong {f : Addr} {fd : FuncData} (F : L2.Fun K "wrong_at" "wrong_at" sWrong f fd) (T : Txt mg) (mS : mg "str" = none) : FnOk P w K mg base CX0 1 f fd ["signs", "value"] spWrong := by
  refine F.ok scWrong (fun vs H Q E h => ?_) (fun cdv A outer s H vs Q E hr h => ?_)
  · obtain ⟨z, wd, rfl, _⟩ := h
    rfl
  · obtain ⟨z, wd, rfl, hw, hl, k⟩ := h
    have nd := scWrong.nd
    refine ⟨_, pss_cons (ps_if (pt_not (pt_val (bIsi (by rfl) T.isi (pv 1) (pe_bltn (v := .ty "str") (by rfl) mS (by decide +kernel) rfl)))) (pss_one (ps_ret pe_int)) pss_nil)
      (pss_cons (ps_set (i := 2) nd rfl (.inl rfl) (pe_bm PySem.F.plainAttrs_str PySem.F.slot_str_lstrip PySem.F.type_str_lstrip mt_lstripChars (pv 1) (pa_cons (pv 0) pa_nil)))
      (pss_cons (ps_if (pt_cmpR op_eq (pv 2) pe_str (nomark _)) (pss_one (ps_ret pe_non)) pss_nil) (pss_one ps_never))), ?_⟩
    refine ⟨_, rfl, .str wd, .ty "str", _, _, true, rfl, .ty "str", .base (.str wd), kit_ty (by decide +kernel), true, rfl, iteF ?_⟩
    refine ⟨_, rfl, rfl, _, rfl, wd, z, rfl, rfl, len_small hl, ?_⟩
    rw [strip_word hw]
    exact ⟨_, rfl, rfl, _, rfl, iteT k⟩
theorem scCheckRow : FnScope ["signs", "value", "at"] ["signs", "value"] (defScope sCheckRow) := ⟨rfl, rfl, rfl, by decide +kernel, rfl, by decide +kernel, by decide +kernel⟩
theorem ok_checkRow {f f1 : Addr} {fd fd1 : FuncData} (F : L2.Fun K "check_row" "check_row" sCheckRow f fd) (G : FnOk P w K mg base CX0 1 f1 fd1 ["signs", "value"] spWrong) (m1 : mg "wrong_at" = some (.ref f1)) (k1 : PySem.W.keepIn K (.ref f1) = true)
    (b1 : L2.Binds K fd1 ["signs", "value"] []) : FnOk P w K mg base CX0 2 f fd ["signs", "value"] spWrong := by
  refine F.ok scCheckRow (fun vs H Q E h => ?_) (fun cdv A outer s H vs Q E hr h => ?_)
  · obtain ⟨z, wd, rfl, _⟩ := h
    rfl
  · obtain ⟨z, wd, rfl, hw, hl, k⟩ := h
    have nd := scCheckRow.nd
    refine ⟨_, pss_cons (ps_set (i := 2) nd rfl (.inl rfl) (pe_call G hr (by rfl) m1 k1 b1 .nil pass0 (pa_cons (pv 0) (pa_cons (pv 1) pa_nil)))) (pss_one (ps_if (pt_cmp (pc_notN (pv 2))) (pss_one ps_never) pss_nil)), ?_⟩
    exact ⟨_, rfl, _, rfl, z, wd, rfl, hw, hl, _, rfl, _, rfl, iteF k⟩
theorem ok_wrongB {f : Addr} {fd : FuncData} (F : L2.Fun K "wrong_at" "wrong_at" sWrong f fd) (T : Txt mg) (mS : mg "str" = none) : FnOk P w K mg base CX0 1 f fd ["signs", "value"] (spWrongB K) := by
  refine F.ok scWrong (fun vs H Q E h => ?_) (fun cdv A outer s H vs Q E hr h => ?_)
  · obtain ⟨z, x, i, rfl, _⟩ := h
    rfl
  · obtain ⟨z, x, i, rfl, bad, k⟩ := h
    have nd := scWrong.nd
    refine ⟨_, pss_cons (ps_if (pt_not (pt_val (bIsi (by rfl) T.isi (pv 1) (pe_bltn (v := .ty "str") (by rfl) mS (by decide +kernel) rfl)))) (pss_one (ps_ret pe_int)) pss_nil)
      (pss_cons (ps_set (i := 2) nd rfl (.inl rfl) (pe_bm PySem.F.plainAttrs_str PySem.F.slot_str_lstrip PySem.F.type_str_lstrip mt_lstripChars (pv 1) (pa_cons (pv 0) pa_nil)))
      (pss_cons (ps_if (pt_cmpR op_eq (pv 2) pe_str (nomark _)) (pss_one (ps_ret pe_non)) pss_nil) (pss_one (ps_ret (pe_op op_sub (bLen (by rfl) T.len (pv 1)) (bLen (by rfl) T.len (pv 2))))))), ?_⟩
    rcases bad with ⟨wd, rfl, hl, ne, hl2, rfl⟩ | ⟨t, ty, no, rfl⟩
    · refine ⟨_, rfl, .str wd, .ty "str", _, _, true, rfl, .ty "str", .base (.str wd), kit_ty (by decide +kernel), true, rfl, iteF ?_⟩
      refine ⟨_, rfl, rfl, _, rfl, wd, z, rfl, rfl, len_small hl, ?_⟩
      refine ⟨_, rfl, rfl, _, rfl, ?_⟩
      have e : decide (V.str (Txt.lstripChars wd z) = V.str "") = false := decide_eq_false fun q => ne (V.str.inj q)
      rw [e]
      exact iteF ⟨_, rfl, _, wd.length, rfl, ⟨len_small hl, rfl⟩, _, rfl, _, (Txt.lstripChars wd z).length, rfl, ⟨len_small hl2, rfl⟩, _, _, rfl, rfl, k⟩
    · exact ⟨_, rfl, x, .ty "str", _, _, false, rfl, .ty "str", ty, no, _, rfl, iteT k⟩
theorem ok_checkB {f f1 C : Addr} {fd fd1 : FuncData} (F : L2.Fun K "check_row" "check_row" sCheckRow f fd) (G : FnOk P w K mg base CX0 1 f1 fd1 ["signs", "value"] (spWrongB K)) (m1 : mg "wrong_at" = some (.ref f1)) (k1 : PySem.W.keepIn K (.ref f1) = true)
    (b1 : L2.Binds K fd1 ["signs", "value"] []) (R : ErrB P w K mg base "BadRow" "at" C) : FnOk P w K mg base (L2.CX P w) 3 f fd ["signs", "value"] (spCheckB K C) := by
  obtain ⟨fi, fdi, psi, r1, r2, r3, r4⟩ := R.init
  refine F.okX scCheckRow (fun vs H Q E h => ?_) (fun cdv A outer s H vs Q E hr h => ?_)
  · obtain ⟨z, x, i, rfl, _⟩ := h
    rfl
  · obtain ⟨z, x, i, rfl, bad, k⟩ := h
    have nd := scCheckRow.nd
    have tk := takes_of (X := cxOf (L2.CX P w) P w K mg base ["signs", "value", "at"] "check_row" (defScope sCheckRow) f cdv A outer s H E) rfl rfl rfl rfl
    refine ⟨_, pss_cons (ps_set (i := 2) nd rfl (.inl rfl) (pe_call G (hr.mono (by decide)) (by rfl) m1 k1 b1 .nil pass0 (pa_cons (pv 0) (pa_cons (pv 1) pa_nil)))) (pss_one (ps_if (pt_cmp (pc_notN (pv 2))) (pss_one (ps_raise1 rfl tk R.O r1 r2 r3 hr r4 (by rfl) R.mgC (pv 2))) pss_nil)), ?_⟩
    exact ⟨_, rfl, _, rfl, z, x, i, rfl, bad, _, rfl, _, rfl, iteT ⟨_, rfl, k⟩⟩
/-- the weight of a row by the pairs -/
def spWeigh : Sp := fun vs H Q _ => ∃ (p : Addr) (xs : List V) (es : List (Nat × Int)) (wd : Str), vs = [.ref p, .str wd] ∧ H p = some (.tup xs) ∧ PairsD H xs es ∧ es.length ≤ 4 ∧ wd.length ≤ 1000 ∧ ∀ H', Same H H' → Q (.int (wtC es wd.cps.toList)) H'
theorem scWeigh : FnScope ["pairs", "row", "sign", "weight"] ["pairs", "row"] (defScope sWeigh) := ⟨rfl, rfl, rfl, by decide +kernel, rfl, by decide +kernel, by decide +kernel⟩
abbrev tCount (K : PySem.W.Frag) (a b : TE) : TE := tBM K "str" (fun x xs H Q => ∃ a b, x = .str a ∧ xs = [.str b] ∧ Q (.int (Txt.count a b)) H) a (tCons b tNil)
/-- a comprehension over pairs, for two names, whose elements are told by the turn, over a heap that only grows -/
theorem lcPairs {J : It} {n : Nat} {G : Hp → Prop} {Y : Nat → Hp → V → Hp → Prop} (w : Walk J n G Y) {i j : Nat} {te : TE} {σ : L2.St} {H1 : Hp} {D : Addr} {Qd : Hp → Prop} (f : Nat → V) (hn : n < sizeLine) (hD : H1 D = none) (hG : ∀ H', Same H1 H' → G H')
    (hY : ∀ m H' x H2, Y m H' x H2 → H2 = H') (hw : ∀ a b : V, wipe ((((wipe σ [i, j]).set i (some a)).set j (some b))) [i, j] = wipe σ [i, j])
    (el : ∀ m x H' (Q : VK), m < n → Same H1 H' → Y m H' x H' → (∀ H4, Same H' H4 → Q (f m) H4) → ∃ t a b, x = .ref t ∧ SqT K H' t [a, b] ∧ te (((wipe σ [i, j]).set i (some a)).set j (some b)) H' Q)
    (hd : ∀ H', Same H1 H' → H' D = some (.lst ((List.range n).map f)) → Qd H') :
    ∃ W : Nat → Nat → Hp → Prop, (∃ m, W 0 m (upd H1 D (.lst []))) ∧ ∀ k m H, W k m H →
      (J.stop k H ∧ Qd H) ∨ (J.go k H ∧ ∃ Nx : Hp → Prop, (∀ H', Nx H' → ∃ m', m' < m ∧ W (k + 1) m' H') ∧ ∀ x H', J.yld k H x H' → gTup K 2 (gCons (gName i) (gCons (gName j) gNil)) x (wipe σ [i, j]) H' fun σ2 H2 => wipe σ2 [i, j] = wipe σ [i, j] ∧ tYes σ2 H2 fun b H3 =>
        if b = true then te σ2 H3 fun y H4 => ∃ acc, H4 D = some (.lst acc) ∧ acc.length < sizeLine ∧ Nx (upd H4 D (.lst (acc ++ [y]))) else Nx H3) := by
  refine lc_it w (fun m H' => Same H1 H' ∧ H' D = some (.lst ((List.range m).map f))) ⟨Same.new hD, upd_same⟩ (fun m H' _ q => hG H' q.1) ?_ fun H' q => hd H' q.1 q.2
  rintro m x H' H2 hm ⟨s1, hl⟩ y
  obtain rfl := hY _ _ _ _ y
  obtain ⟨t, a, b, rfl, ht, q⟩ := el m x H2 (fun y H4 => ∃ acc, H4 D = some (.lst acc) ∧ acc.length < sizeLine ∧ (Same H1 (upd H4 D (.lst (acc ++ [y]))) ∧ upd H4 D (.lst (acc ++ [y])) D = some (.lst ((List.range (m + 1)).map f)))) hm s1 y fun H4 s4 => by
    refine ⟨_, s4 _ _ hl, ?_, Same.putNew hD (s1.trans s4), ?_⟩
    · rw [List.length_map, List.length_range]; omega
    · rw [upd_same, List.range_succ, List.map_append]
      rfl
  refine ⟨t, [a, b], rfl, ht, rfl, a, [b], rfl, b, [], rfl, rfl, hw a b, ?_⟩
  unfold tYes
  dsimp only
  rw [if_pos rfl]
  exact q
theorem map_getD {α β : Type} {f : α → β} {l : List α} {d : α} : (List.range l.length).map (fun i => f (l.getD i d)) = l.map f := by
  refine List.ext_getElem (by simp) fun i h1 h2 => ?_
  simp at h1 h2
  simp [List.getD_eq_getElem?_getD, List.getElem?_eq_getElem h2]
theorem ok_weigh {f : Addr} {fd : FuncData} (F : L2.Fun K "weigh" "weigh" sWeigh f fd) (mS : mg "sum" = none) : FnOk P w K mg base CX0 1 f fd ["pairs", "row"] spWeigh := by
  refine F.ok scWeigh (fun vs H Q E h => ?_) (fun cdv A outer s H vs Q E hr h => ?_)
  · obtain ⟨p, xs, es, wd, rfl, _⟩ := h
    rfl
  · obtain ⟨p, xs, es, wd, rfl, hp, pd, l4, hl, k⟩ := h
    have nd := scWeigh.nd
    refine ⟨_, pss_one (ps_ret (pe_callB (cr_sum rfl) (by rfl) mS (by decide +kernel) (pa_cons (pe_lc (own := [("sign", 2), ("weight", 3)]) (g := gTup K 2 (gCons (gName 2) (gCons (gName 3) gNil))) (tt := tYes) (te := tOp (rI CMul fun i j => .int (i * j)) (tVar 3) (tCount K (tVar 1) (tVar 2))) rfl nd (pi_tup (pv 0)) (blkOk_by (own := [("sign", 2), ("weight", 3)]) (N := ["pairs", "row", "sign", "weight"]) (sc := defScope sWeigh) (by decide +kernel))
      (fun _ _ _ _ _ => pg_tup rfl (pgs_cons (pg_name (i := 2) nd rfl (Or.inl rfl)) (pgs_cons (pg_name (i := 3) nd rfl (Or.inl rfl)) pgs_nil))) (fun _ _ _ _ _ => pts_nil) (fun _ _ _ _ _ => pe_op op_mul (pv 3) (pe_bm PySem.F.plainAttrs_str PySem.F.slot_str_count PySem.F.type_str_count mt_count (pv 1) (pa_cons (pv 2) pa_nil)))) pa_nil))), ?_⟩
    have al := pd.1
    refine ⟨_, rfl, p, rfl, ⟨_, SqT.of hp⟩, fun D hD => ?_⟩
    refine lcPairs (K := K) walk_tup (fun i => .int ((es.getD i (0, 0)).2 * ((wd.cps.toList.count (es.getD i (0, 0)).1 : Nat) : Int))) (by rw [sizeLine_eq]; omega) hD (fun H' s => SqT.of (s _ _ hp)) (fun _ _ _ _ y => y.1) (fun _ _ => rfl) ?_ ?_
    · rintro i x H' Q' hi s1 ⟨_, hx⟩ q
      have hi' : i < es.length := by rw [← al]; exact hi
      obtain ⟨t, et, pt⟩ := pd.2 i _ (List.getElem?_eq_getElem hi')
      rw [hx] at et
      cases et
      have eg : es.getD i (0, 0) = es[i] := by simp [List.getD_eq_getElem?_getD, List.getElem?_eq_getElem hi']
      have cl : wd.cps.toList.count es[i].1 ≤ 1000 := Nat.le_trans List.count_le_length (by rw [Array.length_toList]; exact hl)
      refine ⟨t, _, _, rfl, SqT.of (pt.same s1).1, _, rfl, _, rfl, rfl, _, rfl, wd, ⟨#[es[i].1]⟩, rfl, rfl, _, _, rfl, rfl, ?_, ?_⟩
      · rw [count_one]
        have := pt.2.2
        exact .inl ⟨by omega, by omega⟩
      · rw [count_one]
        have := q _ (Same.refl H')
        rw [eg] at this
        exact this
    intro H1 s1 hD1
    have : wtC es wd.cps.toList = ((List.range es.length).map fun i => (es.getD i (0, 0)).2 * ((wd.cps.toList.count (es.getD i (0, 0)).1 : Nat) : Int)).sum := by
      unfold wtC
      rw [map_getD (f := fun e : Nat × Int => e.2 * ((wd.cps.toList.count e.1 : Nat) : Int))]
    refine ⟨D, _, rfl, SqL.of (by rw [List.map_map]; rw [al] at hD1; exact hD1), ?_⟩
    rw [← this]
    exact k H1 s1
end
end Kx
set_option Elab.async false
set_option maxRecDepth 100000
set_option autoImplicit false
set_option pp.maxSteps 400
set_option pp.deepTerms false
/-! Weights.__call__, Weights.place -/
namespace Kx
open PySem L2 PySem.Spec PyProof.Rows Rg Er Ru Tn
def rTup (K : PySem.W.Frag) : List V → Hp → VK → Prop := fun xs H Q => ∃ p ys, xs = [.ref p] ∧ ((SqL K H p ys ∧ ∀ l, H l = none → Q (.ref l) (upd H l (.tup ys))) ∨ (SqT K H p ys ∧ Q (.ref p) H))
theorem bTup {X : Cx} {e : Expr} {te : TE} {p pos : Pos} (hg : Gl X "tuple") (m : X.mg "tuple" = none) (he : PE X e te) (na : starEach [e] X.env = (false, eval e X.env) :: starEach [] X.env := by rfl) : PE X (.Call (.Name "tuple" p) [e] [] pos) (tCB (rTup X.K) (tCons te tNil)) :=
  pe_callTy call_tuple_of hg m (by decide +kernel) (pa_cons he pa_nil na) (he := na)
/-- tuple of a list or of a tuple, over a heap that only grows -/
theorem rTup_new {K : PySem.W.Frag} {H : Hp} {a : Addr} {ys : List V} {Q : VK} (e : H a = some (.lst ys)) (k : ∀ l, H l = none → Q (.ref l) (upd H l (.tup ys))) : rTup K [.ref a] H Q := ⟨a, ys, rfl, .inl ⟨SqL.of e, k⟩⟩
section
variable {P : Program} {w : World} {K : PySem.W.Frag} {mg : Str → Option Value} {base : Heap}
theorem scWCall : FnScope ["self", "row"] ["self", "row"] (defScope sWCall) := ⟨rfl, rfl, rfl, by decide +kernel, rfl, by decide +kernel, by decide +kernel⟩
def spWCall (C : Addr) : Sp := fun vs H Q _ => ∃ (a : Addr) (xs : List V) (es : List (Nat × Int)) (wd : Str), vs = [.ref a, .str wd] ∧ Wts C H a es xs ∧ es.length ≤ 4 ∧ Word (letters es) wd ∧ wd.length ≤ 1000 ∧ ∀ H', Same H H' → Q (.int (wtC es wd.cps.toList)) H'
def spWCallB (K : PySem.W.Frag) (C CR : Addr) : Sp := fun vs H _ E => ∃ (a : Addr) (xs : List V) (es : List (Nat × Int)) (x : V) (i : Int), vs = [.ref a, x] ∧ Wts C H a es xs ∧ Bad K H (letters es) x i ∧ raised CR "at" (.int i) E H
theorem ok_wCall {C f f1 f2 ps_ gs : Addr} {fd fd1 fd2 fds : FuncData} (F : L2.Fun K "__call__" "Weights.__call__" sWCall f fd) (M : WT K C)
    (G1 : FnOk P w K mg base CX0 2 f1 fd1 ["signs", "value"] spWrong) (m1 : mg "check_row" = some (.ref f1)) (k1 : PySem.W.keepIn K (.ref f1) = true) (b1 : L2.Binds K fd1 ["signs", "value"] [])
    (G2 : FnOk P w K mg base CX0 1 f2 fd2 ["pairs", "row"] spWeigh) (m2 : mg "weigh" = some (.ref f2)) (k2 : PySem.W.keepIn K (.ref f2) = true) (b2 : L2.Binds K fd2 ["pairs", "row"] [])
    (po : PropOf K C "signs" ps_ gs) (GS : FnOk P w K mg base CX0 1 gs fds ["self"] (getSp C "_signs")) (bS : L2.Binds K fds ["self"] []) : FnOk P w K mg base CX0 3 f fd ["self", "row"] (spWCall C) := by
  refine F.ok scWCall (fun vs H Q E h => ?_) (fun cdv A outer s H vs Q E hr h => ?_)
  · obtain ⟨a, xs, es, wd, rfl, _⟩ := h
    rfl
  · obtain ⟨a, xs, es, wd, rfl, ⟨dx, p, ha, hp, pd⟩, l4, hw, hl, k⟩ := h
    have hr1 := hr.mono (show 1 ≤ 2 by decide)
    have hr2 := hr.mono (show 1 + 1 ≤ 2 by decide)
    refine ⟨_, pss_cons (ps_expr (pe_call G1 hr (by rfl) m1 k1 b1 .nil pass0 (pa_cons (pe_prop (pv 0) M.cl po GS hr2 bS .nil pass0 rfl) (pa_cons (pv 1) pa_nil)))) (pss_one (ps_ret (pe_call G2 hr1 (by rfl) m2 k2 b2 .nil pass0 (pa_cons (pe_fld (pv 0) rfl) (pa_cons (pv 1) pa_nil))))), ?_⟩
    refine ⟨_, rfl, a, dx, _, rfl, ha, a, dx, _, _, rfl, ha, wf_signs _ _, _, rfl, _, _, rfl, hw, hl, ?_⟩
    exact ⟨_, rfl, a, C, dx, _, _, rfl, ha, M.cl, M.n2, wf_pairs _ _, _, rfl, p, xs, es, wd, rfl, hp, pd, l4, hl, k⟩
theorem ok_wCallB {C CR f f1 ps_ gs : Addr} {fd fd1 fds : FuncData} (F : L2.Fun K "__call__" "Weights.__call__" sWCall f fd) (M : WT K C)
    (G1 : FnOk P w K mg base (L2.CX P w) 3 f1 fd1 ["signs", "value"] (spCheckB K CR)) (m1 : mg "check_row" = some (.ref f1)) (k1 : PySem.W.keepIn K (.ref f1) = true) (b1 : L2.Binds K fd1 ["signs", "value"] [])
    (po : PropOf K C "signs" ps_ gs) (GS : FnOk P w K mg base CX0 1 gs fds ["self"] (getSp C "_signs")) (bS : L2.Binds K fds ["self"] []) : FnOk P w K mg base (L2.CX P w) 4 f fd ["self", "row"] (spWCallB K C CR) := by
  refine F.okX scWCall (fun vs H Q E h => ?_) (fun cdv A outer s H vs Q E hr h => ?_)
  · obtain ⟨a, xs, es, x, i, rfl, _⟩ := h
    rfl
  · obtain ⟨a, xs, es, x, i, rfl, ⟨dx, p, ha, hp, pd⟩, bad, k⟩ := h
    have hr2 := hr.mono (show 1 + 1 ≤ 3 by decide)
    have tk := takes_of (X := cxOf (L2.CX P w) P w K mg base ["self", "row"] "Weights.__call__" (defScope sWCall) f cdv A outer s H E) rfl rfl rfl rfl
    refine ⟨_, pss_cons (ps_expr (pe_call G1 hr (by rfl) m1 k1 b1 .nil (passes_call tk fun _ _ _ _ h => h) (pa_cons (pe_prop (pv 0) M.cl po GS hr2 bS .nil pass0 rfl) (pa_cons (pv 1) pa_nil)))) (pss_one ps_never), ?_⟩
    exact ⟨_, rfl, a, dx, _, rfl, ha, a, dx, _, _, rfl, ha, wf_signs _ _, _, rfl, _, _, _, rfl, bad, k⟩
/-- the place of a row -/
def ixO (cs : List Nat) (l : List Nat) : List Int := l.map fun c => ((cs.idxOf c : Nat) : Int)
def spWPlace (C : Addr) : Sp := fun vs H Q _ => ∃ (a : Addr) (xs : List V) (es : List (Nat × Int)) (wd : Str), vs = [.ref a, .str wd] ∧ Wts C H a es xs ∧ es.length ≤ 4 ∧ (es.map (·.1)).Nodup ∧ Word (letters es) wd ∧ wd.length ≤ 1000 ∧
  ∀ t u H', Same H H' → H' t = some (.tup [.int (wtC es wd.cps.toList), .int wd.length, .ref u]) → H' u = some (.tup ((ixO (es.map (·.1)) wd.cps.toList).map V.int)) → Q (.ref t) H'
theorem scWPlace : FnScope ["self", "row", "sign"] ["self", "row"] (defScope sWPlace) := ⟨rfl, rfl, rfl, by decide +kernel, rfl, by decide +kernel, by decide +kernel⟩
theorem idx_of {cs : List Nat} {c : Nat} (nd : cs.Nodup) (h : c ∈ cs) : Txt.index0 (⟨cs.toArray⟩ : Str) ⟨#[c]⟩ = some (cs.idxOf c) := by
  obtain ⟨k, h1, h2⟩ := idx0 h
  rw [h1]
  obtain ⟨lt, e⟩ := List.getElem?_eq_some_iff.mp h2
  have := nd.idxOf_getElem k lt
  rw [e] at this
  rw [this]
abbrev tIndexP (K : PySem.W.Frag) (C : Addr) (o x : TE) : TE := tBMS K "str" (rIndexX W0) (tProp C (getSp C "_signs") [] E0 o) (tCons x tNil)
theorem ok_wPlace {C f f1 f2 ps_ gs : Addr} {fd fd1 fd2 fds : FuncData} (F : L2.Fun K "place" "Weights.place" sWPlace f fd) (T : Txt mg) (M : WT K C)
    (G1 : FnOk P w K mg base CX0 2 f1 fd1 ["signs", "value"] spWrong) (m1 : mg "check_row" = some (.ref f1)) (k1 : PySem.W.keepIn K (.ref f1) = true) (b1 : L2.Binds K fd1 ["signs", "value"] [])
    (G2 : FnOk P w K mg base CX0 1 f2 fd2 ["pairs", "row"] spWeigh) (m2 : mg "weigh" = some (.ref f2)) (k2 : PySem.W.keepIn K (.ref f2) = true) (b2 : L2.Binds K fd2 ["pairs", "row"] [])
    (po : PropOf K C "signs" ps_ gs) (GS : FnOk P w K mg base CX0 1 gs fds ["self"] (getSp C "_signs")) (bS : L2.Binds K fds ["self"] []) : FnOk P w K mg base CX0 3 f fd ["self", "row"] (spWPlace C) := by
  refine F.ok scWPlace (fun vs H Q E h => ?_) (fun cdv A outer s H vs Q E hr h => ?_)
  · obtain ⟨a, xs, es, wd, rfl, _⟩ := h
    rfl
  · obtain ⟨a, xs, es, wd, rfl, ⟨dx, p, ha, hp, pd⟩, l4, nd0, hw, hl, k⟩ := h
    have nd := scWPlace.nd
    have hr1 := hr.mono (show 1 ≤ 2 by decide)
    have hr2 := hr.mono (show 1 + 1 ≤ 2 by decide)
    refine ⟨_, pss_cons (ps_expr (pe_call G1 hr (by rfl) m1 k1 b1 .nil pass0 (pa_cons (pe_prop (pv 0) M.cl po GS hr2 bS .nil pass0 rfl) (pa_cons (pv 1) pa_nil)))) (pss_one (ps_ret (pe_tup (pa_cons (pe_call G2 hr1 (by rfl) m2 k2 b2 .nil pass0 (pa_cons (pe_fld (pv 0) rfl) (pa_cons (pv 1) pa_nil))) (pa_cons (bLen (by rfl) T.len (pv 1)) (pa_cons (bTup (by rfl) T.tuple (pe_lc (own := [("sign", 2)]) (g := gName 2) (tt := tYes) (te := tIndexP K C (tVar 0) (tVar 2)) rfl nd (pi_str (pv 1)) (blkOk_by (own := [("sign", 2)]) (N := ["self", "row", "sign"]) (sc := defScope sWPlace) (by decide +kernel))
      (fun _ _ _ _ _ => pg_name (i := 2) nd rfl (Or.inl rfl)) (fun _ _ _ _ _ => pts_nil) (fun _ _ _ _ _ => bIndex rfl takes0 (pe_prop (pv 0) M.cl po GS hr2 bS .nil pass0 rfl) (pv 2)))) pa_nil)))))), ?_⟩
    refine ⟨_, rfl, a, dx, _, rfl, ha, a, dx, _, _, rfl, ha, wf_signs _ _, _, rfl, _, _, rfl, hw, hl, ?_⟩
    refine ⟨_, rfl, a, C, dx, _, _, rfl, ha, M.cl, M.n2, wf_pairs _ _, _, rfl, p, xs, es, wd, rfl, hp, pd, l4, hl, fun H1 s1 => ?_⟩
    have ha1 := s1 _ _ ha
    have l2 : wd.cps.toList.length = wd.length := Array.length_toList
    refine ⟨_, rfl, _, wd.length, rfl, ⟨len_small hl, rfl⟩, _, rfl, _, rfl, fun D hD => ?_⟩
    refine lcMap walk_str (fun i => .int (((es.map (·.1)).idxOf (wd.cps.toList.getD i 0) : Nat) : Int)) (by rw [sizeLine_eq]; show wd.length < _; omega) hD (fun _ _ => trivial) (fun _ _ _ _ y => y.1) ?_ ?_
    · rintro i x H' Q' hi s2 ⟨_, c, hc, rfl⟩ q
      have hc' : wd.cps.toList[i]? = some c := by rw [Array.getElem?_toList]; exact hc
      have mem : c ∈ es.map (·.1) := by
        have := hw c (List.mem_of_getElem? hc')
        unfold letters at this
        rwa [List.toList_toArray] at this
      have ha2 := s2 _ _ ha1
      refine ⟨_, rfl, a, dx, _, rfl, ha2, a, dx, _, _, rfl, ha2, wf_signs _ _, rfl, _, rfl, _, _, rfl, rfl, fun k hk => ?_, fun z => ?_⟩
      · have e := idx_of nd0 mem
        have hk' : Txt.index0 (⟨(es.map (·.1)).toArray⟩ : Str) ⟨#[c]⟩ = some k := hk
        rw [e] at hk'
        cases hk'
        have := q _ (Same.refl H')
        rw [show wd.cps.toList.getD i 0 = c from by rw [List.getD_eq_getElem?_getD, hc']; rfl] at this
        exact this
      · have e := idx_of nd0 mem
        have z' : Txt.index0 (⟨(es.map (·.1)).toArray⟩ : Str) ⟨#[c]⟩ = none := z
        rw [e] at z'
        cases z'
    intro H2 s2 hD2
    have eD : (List.range wd.cps.size).map (fun i => V.int (((es.map (·.1)).idxOf (wd.cps.toList.getD i 0) : Nat) : Int)) = (ixO (es.map (·.1)) wd.cps.toList).map V.int := by
      rw [show wd.cps.size = wd.cps.toList.length from l2.symm, map_getD (f := fun c => V.int (((es.map (·.1)).idxOf c : Nat) : Int))]
      unfold ixO
      rw [List.map_map]
      rfl
    rw [eD] at hD2
    refine ⟨D, _, rfl, .inl ⟨SqL.of hD2, fun u hu => ⟨by show 3 ≤ sizeLine; decide, fun t ht => ?_⟩⟩⟩
    have s3 := Same.new (o := .tup ((ixO (es.map (·.1)) wd.cps.toList).map V.int)) hu
    have s4 := Same.new (o := .tup [.int (wtC es wd.cps.toList), .int wd.length, .ref u]) ht
    exact k t u _ (Same.trans s1 (Same.trans s2 (Same.trans s3 s4))) upd_same (s4 _ _ upd_same)
end
end Kx
set_option Elab.async false
set_option maxRecDepth 100000
set_option autoImplicit false
/-! generators that are drawn from item by item, by a loop that may break off: the body -/
namespace Gp
open PySem L2 PySem.Spec PyProof.Rows GenW
/-- the objects below n -/
def trunc (n : Nat) (h : Heap) : Heap := ⟨(h.objs.toList.take n).toArray, h.life⟩
theorem trunc_lt {n : Nat} {h : Heap} {b : Addr} (l : b < n) : (trunc n h).get? b = h.get? b := by
  unfold Heap.get? trunc
  simp only
  rw [List.getElem?_toArray, List.getElem?_take_of_lt l, Array.getElem?_toList]
theorem trunc_size {n : Nat} {h : Heap} : (trunc n h).objs.size ≤ n := by
  show ((h.objs.toList.take n).toArray).size ≤ n
  rw [List.size_toArray, List.length_take]
  exact Nat.min_le_left _ _
theorem trunc_some {n : Nat} {h : Heap} {b : Addr} {o : Obj} (e : (trunc n h).get? b = some o) : b < n ∧ h.get? b = some o := by
  have l := Nat.lt_of_lt_of_le (Heap.lt_size e) trunc_size
  exact ⟨l, (trunc_lt l).symm.trans e⟩
theorem trunc_ge {n : Nat} {h : Heap} (l : n ≤ h.objs.size) : (trunc n h).objs.size = n := by
  show ((h.objs.toList.take n).toArray).size = n
  rw [List.size_toArray, List.length_take, Array.length_toList]
  exact Nat.min_eq_left l
/-- the context over another beginning -/
def rb (X : Cx) (n : Nat) (Hg : Hp) (s : Shared) : Cx := { X with s_0 := { s with heap := trunc n s.heap }, H_0 := Hg }
/-- what is wanted behind a statement; the number: how many items are out -/
structure FEnds where
  nx : Nat → L2.St → Prop
  bk : Nat → L2.St → Prop := fun _ _ => False
  ct : Nat → L2.St → Prop := fun _ _ => False
def FEnds.at (D : FEnds) (Hg : Hp) (k : Nat) : Ends := { nx := fun σ H => H = Hg ∧ D.nx k σ, rt := fun _ _ => False, bk := fun σ H => H = Hg ∧ D.bk k σ, ct := fun σ H => H = Hg ∧ D.ct k σ }
abbrev TFn := FEnds → Nat → L2.St → Prop
section
variable (X : Cx) (n : Nat) (Hg : Hp) (N : Nat) (PI : Nat → V → Prop)
def FSP (s₀ : Shared) (D : FEnds) (k : Nat) (f : Flow) (s : Shared) : Prop := match f with
  | .next => ∃ σ, Inv (rb X n Hg s₀) [] σ Hg s ∧ D.nx k σ
  | .brk => ∃ σ, Inv (rb X n Hg s₀) [] σ Hg s ∧ D.bk k σ
  | .cont => ∃ σ, Inv (rb X n Hg s₀) [] σ Hg s ∧ D.ct k σ
  | .ret _ => False
def FY : Protocol := fun m s₀ v s kap => ∃ x σ, RelV x v ∧ PI (N - 1 - m) x ∧ m < N ∧ Inv (rb X n Hg s₀) [] σ Hg s ∧ (0 < m → ∀ s', Inv (rb X n Hg s') [] σ Hg s' → kap (.send .none) s')
structure FCx (A : Around) (c : Code) (fs : List Frame) (gd : Bool → Bool) : Prop where
  over : A.over c fs = X.A
  split : splitAtGen fs = none
  guard : fs.any Frame.guarded = false
  gd : gd false = false
  xe : ∀ e s, X.xe e s → False
structure FK (A : Around) (R : GenEnd) (c : Code) (fs : List Frame) (K : Flow → Sem PySem.Fin) (D : FEnds) : Prop where
  ok : ∀ (m k : Nat) (s₀ s : Shared) (f : Flow), k + m = N → 0 < m → FSP X n Hg s₀ D k f s → Seg (model X.prog X.w) A R (FY X n Hg N PI) m s₀ c (K f) fs s
structure FS (st : Stmt) (t : TFn) : Prop where
  run : ∀ (A : Around) (R : GenEnd) (m k : Nat) (s₀ : Shared) (c : Code) (fs : List Frame) (K : Flow → Sem PySem.Fin) (J : Value → Sem PySem.Fin) (gd : Bool → Bool) (lv : List Value → List Value) (s : Shared) (σ : L2.St) (D : FEnds),
    FCx X A c fs gd → k + m = N → 0 < m → FK X n Hg N PI A R c fs K D → Inv (rb X n Hg s₀) [] σ Hg s → t D k σ → Seg (model X.prog X.w) A R (FY X n Hg N PI) m s₀ c ((exec st X.env).wrap K J gd lv) fs s
structure FSs (st : List Stmt) (t : TFn) : Prop where
  run : ∀ (A : Around) (R : GenEnd) (m k : Nat) (s₀ : Shared) (c : Code) (fs : List Frame) (K : Flow → Sem PySem.Fin) (J : Value → Sem PySem.Fin) (gd : Bool → Bool) (lv : List Value → List Value) (s : Shared) (σ : L2.St) (D : FEnds),
    FCx X A c fs gd → k + m = N → 0 < m → FK X n Hg N PI A R c fs K D → Inv (rb X n Hg s₀) [] σ Hg s → t D k σ → Seg (model X.prog X.w) A R (FY X n Hg N PI) m s₀ c ((execs st X.env).wrap K J gd lv) fs s
end
section
variable {X : Cx} {n : Nat} {Hg : Hp} {N : Nat} {PI : Nat → V → Prop} {st : Stmt} {rest : List Stmt}
theorem sp_fsp {s₀ : Shared} {D : FEnds} {k : Nat} {f : Flow} {s : Shared} (h : SP (rb X n Hg s₀) [] (D.at Hg k) f s) : FSP X n Hg s₀ D k f s := by
  cases f with
  | next => obtain ⟨σ, H, I, rfl, q⟩ := h; exact ⟨σ, I, q⟩
  | brk => obtain ⟨σ, H, I, rfl, q⟩ := h; exact ⟨σ, I, q⟩
  | cont => obtain ⟨σ, H, I, rfl, q⟩ := h; exact ⟨σ, I, q⟩
  | ret u => obtain ⟨_, _, _, _, _, q⟩ := h; exact q
def tFPlain (Hg : Hp) (t : TS) : TFn := fun D k σ => t (D.at Hg k) σ Hg
theorem fs_ps {t : TS} (h : ∀ s₀, PS (rb X n Hg s₀) st t) : FS X n Hg N PI st (tFPlain Hg t) := by
  refine ⟨fun A R m k s₀ c fs K J gd lv s σ D g hn hm fk I ht => ?_⟩
  refine seg_wrap ?_
  rw [g.over]
  exact wpAny_mono ((h s₀).run [] s σ Hg (D.at Hg k) I ht) (fun f s' hs => fk.ok m k s₀ s' f hn hm (sp_fsp hs)) fun x s' hx => (g.xe x s' hx).elim
theorem fss_nil : FSs X n Hg N PI [] (fun D k σ => D.nx k σ) := by
  refine ⟨fun A R m k s₀ c fs K J gd lv s σ D g hn hm fk I ht => ?_⟩
  exact seg_execs_nil (fk.ok m k s₀ s .next hn hm ⟨σ, I, ht⟩)
def tFThen (t u : TFn) : TFn := fun D k σ => t { D with nx := fun k' σ' => u D k' σ' } k σ
theorem fss_cons {t u : TFn} (a : FS X n Hg N PI st t) (b : FSs X n Hg N PI rest u) : FSs X n Hg N PI (st :: rest) (tFThen t u) := by
  refine ⟨fun A R m k s₀ c fs K J gd lv s σ D g hn hm fk I ht => ?_⟩
  refine seg_execs_cons ?_
  refine a.run A R m k s₀ c fs _ J gd lv s σ { D with nx := fun k' σ' => u D k' σ' } g hn hm ⟨fun m' k' s₀' s' f hn' hm' hs => ?_⟩ I ht
  cases f with
  | next =>
    obtain ⟨σ', I', q⟩ := hs
    exact b.run A R m' k' s₀' c fs K J gd lv s' σ' D g hn' hm' fk I' q
  | brk => exact fk.ok m' k' s₀' s' .brk hn' hm' hs
  | cont => exact fk.ok m' k' s₀' s' .cont hn' hm' hs
  | ret u => exact hs.elim
def tFWhile (Hg : Hp) (c : TT) (tb : TFn) : TFn := fun D k σ => ∃ W : Nat → Nat → L2.St → Prop, (∃ μ, W μ k σ) ∧ ∀ μ k σ, W μ k σ →
  c σ Hg fun b H1 => H1 = Hg ∧ if b = true then ∃ M : Nat → L2.St → Prop, (∀ k' σ', M k' σ' → ∃ μ', μ' < μ ∧ W μ' k' σ') ∧ tb { D with nx := M, ct := M, bk := D.nx } k σ else D.nx k σ
theorem fcx_loop {A : Around} {c c' : Code} {fs : List Frame} {gd : Bool → Bool} {k : Result → Sem PySem.Fin} {l kp : List Value} {p : Pos} (g : FCx X A c fs gd) (hw : c'.weight = 0) (hu : c'.cUnits = 0) : FCx X A c' (.ret k none (gd false) l c p kp :: fs) id where
  over := (over_loop hw hu).trans g.over
  split := by
    show (splitAtGen fs).map _ = none
    rw [g.split]; rfl
  guard := by
    show (gd false || fs.any Frame.guarded) = false
    rw [g.gd, g.guard]; rfl
  gd := rfl
  xe := g.xe
theorem fs_while {test : Expr} {body : List Stmt} {pos : Pos} {tc : TT} {tb : TFn} (hc : ∀ s₀, PT (rb X n Hg s₀) test tc) (hb : FSs X n Hg N PI body tb) : FS X n Hg N PI (.While test body [] pos) (tFWhile Hg tc tb) := by
  refine ⟨fun A R m k s₀ c fs K J gd lv s σ D g hn hm fk I ht => ?_⟩
  obtain ⟨W, ⟨μ0, w0⟩, turn⟩ := ht
  refine seg_While fun p => ?_
  have gl := fun (kk : Result → Sem PySem.Fin) => fcx_loop (k := kk) (c' := .whileLoop test body [] X.env) (l := lv []) (kp := []) (p := p) g rfl rfl
  have loop : ∀ (μ m k : Nat) (s₀ s : Shared) (σ : L2.St), k + m = N → 0 < m → W μ k σ → Inv (rb X n Hg s₀) [] σ Hg s →
      Seg (model X.prog X.w) A R (FY X n Hg N PI) m s₀ (.whileLoop test body [] X.env) ((model X.prog X.w).den (.whileLoop test body [] X.env))
        (.ret (fun r => ((match r with | .ok f => (.pure f : Sem Flow) | .error e => .raise e).onRaise (cameBack X.env)).wrap K J gd lv) none (gd false) (lv []) c p [] :: fs) s := by
    intro μ
    induction μ using Nat.strongRecOn with
    | ind μ ih =>
      intro m k s₀ s σ hn hm w I
      refine seg_whileLoop ?_
      rw [(gl _).over]
      refine wpAny_mono ((hc s₀).run _ s σ Hg _ I (turn μ k σ w)) (fun b s' hb' => ?_) fun x s' hx => (g.xe x s' hx).elim
      obtain ⟨H2, I2, e2, q2⟩ := hb'
      subst e2
      cases b with
      | true =>
        rw [if_pos rfl] at q2
        obtain ⟨M, hM, q2⟩ := q2
        rw [if_pos rfl]
        refine hb.run A R m k s₀ _ _ _ _ id id s' σ { D with nx := M, ct := M, bk := D.nx } (gl _) hn hm ⟨fun m' k' s₀' s3 f hn' hm' hs => ?_⟩ I2 q2
        cases f with
        | next =>
          obtain ⟨σ3, I3, n3⟩ := hs
          obtain ⟨μ', hμ, w3⟩ := hM k' σ3 n3
          exact seg_again rfl (ih μ' hμ m' k' s₀' s3 σ3 hn' hm' w3 I3)
        | cont =>
          obtain ⟨σ3, I3, n3⟩ := hs
          obtain ⟨μ', hμ, w3⟩ := hM k' σ3 n3
          exact seg_again rfl (ih μ' hμ m' k' s₀' s3 σ3 hn' hm' w3 I3)
        | brk => exact seg_leaf (.ok .next) (fk.ok m' k' s₀' s3 .next hn' hm' hs)
        | ret v => exact hs.elim
      | false =>
        rw [if_neg Bool.false_ne_true] at q2
        rw [if_neg Bool.false_ne_true]
        refine seg_execs_nil ?_
        exact seg_leaf (.ok .next) (fk.ok m k s₀ s' .next hn hm ⟨σ, I2, q2⟩)
  exact loop μ0 m k s₀ s σ hn hm w0 I
def tFYield (Hg : Hp) (N : Nat) (PI : Nat → V → Prop) (te : TE) : TFn := fun D k σ => te σ Hg fun x H1 => H1 = Hg ∧ PI k x ∧ (k + 1 < N → D.nx (k + 1) σ)
theorem fs_yield {e : Expr} {yp pos : Pos} {te : TE} (he : ∀ s₀, PE (rb X n Hg s₀) e te) (hco : X.env.scope.isCoroutine = false := by rfl) (hi : interactive X.env = false := by rfl) : FS X n Hg N PI (.Expr (.Yield (some e) yp) pos) (tFYield Hg N PI te) := by
  refine ⟨fun A R m k s₀ c fs K J gd lv s σ D g hn hm fk I ht => ?_⟩
  obtain ⟨m, rfl⟩ : ∃ j, m = j + 1 := ⟨m - 1, by omega⟩
  refine seg_Expr_Yield g.split g.gd g.guard ?_ hco hi
  rw [g.over]
  refine wpAny_mono ((he s₀).run _ s σ Hg _ I ht) (fun v s' hv => ?_) fun x s' hx => (g.xe x s' hx).elim
  obtain ⟨x, H1, I1, rv, e1, pi, q⟩ := hv
  subst e1
  intro kap hk
  refine ⟨x, σ, rv, by rw [show N - 1 - m = k from by omega]; exact pi, by omega, I1, fun pos s'' I'' => hk .none s'' ?_⟩
  exact fk.ok m (k + 1) s'' s'' .next (by omega) pos ⟨σ, I'', q (by omega)⟩
end
end Gp
set_option Elab.async false
set_option maxRecDepth 100000
set_option maxHeartbeats 1000000
set_option autoImplicit false
set_option pp.maxSteps 400
set_option pp.deepTerms false
/-! generators that are drawn from item by item: the call -/
namespace Gp
open PySem L2 PySem.Spec PyProof.Rows GenW
theorem frs_cons {env : Env} {rest : List Env} {L : Addr} (hf : env.frame = some L) : frs (env :: rest) = L :: frs rest := by
  unfold frs
  rw [List.filterMap_cons, hf]
theorem trunc_funs {n : Nat} {h base : Heap} : ∀ {l : List Env}, h.FunFrames base l → (∀ b ∈ frs l, b < n) → (trunc n h).FunFrames base l
  | [], _, _ => trivial
  | env :: rest, hl, lt => by
    obtain ⟨hk, ⟨L, o, hf, hn, ho, hd⟩, hr⟩ := hl
    rw [frs_cons hf] at lt
    exact ⟨hk, ⟨L, o, hf, hn, (trunc_lt (lt L List.mem_cons_self)).trans ho, hd⟩, trunc_funs hr fun b hb => lt b (List.mem_cons_of_mem _ hb)⟩
/-- what is fixed of a generator's context: it stands from n on, it has no cells -/
structure Fixed (P : Program) (w : World) (K : PySem.W.Frag) (mg : Str → Option Value) (base : Heap) (Aw : Around) (outer : List Env) (n : Nat) (Hg : Hp) (X : Cx) : Prop where
  prog : X.prog = P
  wld : X.w = w
  frag : X.K = K
  mgl : X.mg = mg
  bas : X.base = base
  kind : X.env.scope.kind = .function
  glob : X.env.globals = mainGlobals
  blt : X.env.builtins = builtinsNs
  loc : n ≤ X.env.locals
  frame : X.env.frame = some X.env.locals
  cells : ∀ x, X.env.cells.lookup x = none
  nocell : ∀ x, X.env.kindOf x = some .cell ∨ X.env.kindOf x = some .free → False
  A : X.A = Aw.deeper X.env
  calm : X.calm = true → Aw.handled = none
  out : X.outer = outer
  stack : X.stack = X.env :: outer
  ex : X.ex = []
  bsz : base.objs.size ≤ n
  fr : ∀ b ∈ frs outer, b < n
  dom : ∀ b u, Hg b = some u → b < n
  pn : ∀ p ∈ X.pn, n ≤ p.1 ∧ p.1 ≠ X.env.locals ∧ ∀ v, p.2.data ≠ .cell v
  xe : ∀ e s, X.xe e s → False
section
variable {P : Program} {w : World} {K : PySem.W.Frag} {mg : Str → Option Value} {base : Heap} {Aw : Around} {outer : List Env} {n : Nat} {Hg : Hp} {X : Cx}
theorem Fixed.none (F : Fixed P w K mg base Aw outer n Hg X) {b : Addr} (h : n ≤ b) : Hg b = none := by
  cases q : Hg b with
  | none => rfl
  | some u => exact absurd (Nat.lt_of_lt_of_le (F.dom b u q) h) (Nat.lt_irrefl _)
theorem Fixed.ok (F : Fixed P w K mg base Aw outer n Hg X) {s : Shared} (e : Env0 P w K mg base Aw outer s Hg) (hs : n ≤ s.heap.objs.size) : (rb X n Hg s).Ok where
  mod := by
    show Mod X.K X.mg X.base
    rw [F.frag, F.mgl, F.bas]; exact e.mod
  kind := F.kind
  glob := F.glob
  blt := F.blt
  above := Nat.le_trans trunc_size F.loc
  inj := fun x y c h => by
    have h' : X.env.cells.lookup x = some c := h
    rw [F.cells] at h'; cases h'
  has := fun x h => (F.nocell x h).elim
  cab := fun x c _ h => by
    have h' : X.env.cells.lookup x = some c := h
    rw [F.cells] at h'; cases h'
  hd := fun h => by
    show X.A.handled = Option.none
    rw [F.A]; exact F.calm h
  frames := by
    show X.A.frames = some X.stack
    rw [F.A, F.stack]; exact Around.frames_deeper e.frames
  stk := .inr ⟨by
    show X.stack = X.env :: X.outer
    rw [F.stack, F.out], F.frame⟩
  exf := fun b h => by
    have h' : b ∈ X.ex := h
    rw [F.ex] at h'; cases h'
  bs := fun b o h => by
    have h' : X.base.get? b = some o := h
    rw [F.bas] at h'
    exact ⟨(trunc_lt (Nat.lt_of_lt_of_le (Heap.lt_size h') F.bsz)).trans (e.bs b o h').1, (e.bs b o h').2⟩
  bsz := by
    show X.base.objs.size ≤ (trunc n s.heap).objs.size
    rw [F.bas, trunc_ge hs]; exact F.bsz
  noex := fun b o _ h => by
    have h' : b ∈ X.ex := h
    rw [F.ex] at h'; cases h'
  exfs := fun b h => by
    have h' : b ∈ X.ex := h
    rw [F.ex] at h'; cases h'
  funs := by
    show (trunc n s.heap).FunFrames X.base X.outer
    rw [F.bas, F.out]; exact trunc_funs e.funs F.fr
  frf := fun b h => by
    have h' : b ∈ frs X.outer := h
    rw [F.out] at h'; exact e.frf b h'
/-- the frame's names, as they stand -/
def Names (X : Cx) (σ : L2.St) (s : Shared) : Prop := ∃ m, s.heap.Ns X.env.locals m ∧ ∀ (i : Nat) (x : Str) (v : V), X.N[i]? = some x → σ[i]? = some (some v) → Vis X.env.scope x → ∃ u, RelV v u ∧ X.env.kindOf x = some .local ∧ m x = some u
theorem Names.of (F : Fixed P w K mg base Aw outer n Hg X) {s₀ s : Shared} {σ : L2.St} {H : Hp} (I : Inv (rb X n Hg s₀) [] σ H s) : Names X σ s := by
  obtain ⟨m, hn, hl⟩ := I.loc
  refine ⟨m, hn, fun i x v h1 h2 h3 => ?_⟩
  obtain ⟨u, r, l⟩ := hl i x v h1 h2 h3
  refine ⟨u, r, ?_⟩
  rcases l with l | ⟨k, _⟩
  · exact l
  · exact (F.nocell x k).elim
theorem Fixed.inv (F : Fixed P w K mg base Aw outer n Hg X) {s : Shared} {σ : L2.St} (e : Env0 P w K mg base Aw outer s Hg) (nm : Names X σ s) (pin : ∀ p ∈ X.pn, s.heap.get? p.1 = some p.2) (len : σ.length = X.N.length) : Inv (rb X n Hg s) [] σ Hg s := by
  obtain ⟨m, hn, hl⟩ := nm
  have hs : n ≤ s.heap.objs.size := Nat.le_trans F.loc (Nat.le_of_lt hn.lt)
  refine ⟨F.ok e hs, rfl, e.bare, ?_, ⟨m, hn, fun i x v h1 h2 h3 => ?_⟩, fun x c h => ?_, F.none F.loc, fun x c h => ?_, fun p hp => ?_, ?_, len⟩
  · exact ⟨fun b o h _ _ _ => (trunc_some h).2, fun b o h _ _ _ => ⟨o.slots, (trunc_some h).2⟩, fun _ _ _ h _ => h, fun b o h _ => ⟨o, (trunc_some h).2⟩, fun _ _ h => h, fun _ _ _ h => h, fun b ps h => ⟨#[], by
      have h' : Hg b = some (.tbl ps) := h
      rw [h']; simp⟩⟩
  · obtain ⟨u, r, k, e⟩ := hl i x v h1 h2 h3
    exact ⟨u, r, .inl ⟨k, e⟩⟩
  · have h' : X.env.cells.lookup x = some c := h
    rw [F.cells] at h'; cases h'
  · have h' : X.env.cells.lookup x = some c := h
    rw [F.cells] at h'; cases h'
  · have hp' : p ∈ X.pn := (List.mem_append.mp hp).elim (fun z => z) fun z => by cases z
    obtain ⟨h1, h2, h3⟩ := F.pn p hp'
    refine ⟨pin p hp', F.none h1, h2, fun hb => ?_, h3⟩
    have hb' : p.1 ∈ frs X.outer := hb
    rw [F.out] at hb'
    exact absurd (Nat.lt_of_lt_of_le (F.fr _ hb') h1) (Nat.lt_irrefl _)
  · show HOk X.prog X.w Hg s.heap
    rw [F.prog, F.wld]; exact e.hok
/-- from waking to waking: what the consumer sees -/
structure After (P : Program) (w : World) (outer : List Env) (n : Nat) (Hg : Hp) (s₀ s : Shared) : Prop where
  os : s.os = s₀.os
  bare : AllBare s.gens
  un : Un (frs outer) [] Hg Hg (trunc n s₀.heap) s.heap
  hok : HOk P w Hg s.heap
  lim : s.heap.NoLimit
theorem Fixed.after (F : Fixed P w K mg base Aw outer n Hg X) {s₀ s : Shared} {σ : L2.St} (I : Inv (rb X n Hg s₀) [] σ Hg s) : After P w outer n Hg s₀ s := by
  refine ⟨I.os, I.bare, ?_, ?_, I.nolimit⟩
  · have u : Un (frs X.outer) X.ex Hg Hg (trunc n s₀.heap) s.heap := I.base
    rw [F.out, F.ex] at u; exact u
  · have h : HOk X.prog X.w Hg s.heap := I.hok
    rw [F.prog, F.wld] at h; exact h
end
/-- what is the generator's own, as it stands -/
def OwnAt (n : Nat) (B : List (Addr × Obj)) (s : Shared) : Prop := ∀ p ∈ B, s.heap.get? p.1 = some p.2 ∧ n ≤ p.1 ∧ ∀ v, p.2.data ≠ .cell v
section
variable (P : Program) (w : World) (K : PySem.W.Frag) (mg : Str → Option Value) (base : Heap) (Aw : Around) (outer : List Env) (n : Nat) (Hg : Hp) (N : Nat) (PI : Nat → V → Prop) (PE : Nat → Prop)
def CY (a : Addr) (g : Nat) : Protocol := fun m s₀ v s kap => ∃ x B, RelV x v ∧ PI (N - 1 - m) x ∧ m < N ∧ After P w outer n Hg s₀ s ∧ OwnAt n B s ∧ s.heap.IsGen a g ∧ (∃ o, (a, o) ∈ B) ∧
  (0 < m → ∀ s', Env0 P w K mg base Aw outer s' Hg → OwnAt n B s' → kap (.send .none) s')
def CEnd : GenEnd := fun m s₀ r s => ((r = .ok (.ret .none) ∨ r = .ok .next) ∧ (m ≤ N ∧ PE (N - m) ∧ After P w outer n Hg s₀ s)) ∨ ∃ e, r = .error e ∧ False
def FR (X : Cx) : GenEnd := fun m s₀ r s => (r = .ok (.ret .none) ∨ r = .ok .next) ∧ m ≤ N ∧ PE (N - m) ∧ ∃ σ, Inv (rb X n Hg s₀) [] σ Hg s
/-- what a call of a generator def gives: a generator that has not begun -/
def FMade (k : Nat) (s : Shared) (u : Value) (s' : Shared) : Prop := ∃ (a : Addr) (g : Nat) (c : Code) (B : List (Addr × Obj)), u = .ref a ∧ s'.heap.IsGen a g ∧ s'.gens[g]? = some (.fresh c) ∧ OwnAt n B s' ∧ (∃ o, (a, o) ∈ B) ∧
  s'.os = s.os ∧ AllBare s'.gens ∧ s'.heap.NoLimit ∧ (∀ b o, s.heap.get? b = some o → s'.heap.get? b = some o) ∧
  ∀ A, Room k A → ∀ s2, Env0 P w K mg base A outer s2 Hg → OwnAt n B s2 → Seg (model P w) A (CEnd P w outer n Hg N PE) (CY P w K mg base A outer n Hg N PI a g) N s2 c ((model P w).den c) [] s2
end
section
variable {P : Program} {w : World} {K : PySem.W.Frag} {mg : Str → Option Value} {base : Heap} {Aw : Around} {outer : List Env} {n : Nat} {Hg : Hp} {X : Cx} {N : Nat} {PI : Nat → V → Prop} {PE : Nat → Prop}
theorem own_of (F : Fixed P w K mg base Aw outer n Hg X) {σ : L2.St} {s : Shared} (nm : Names X σ s) (pin : ∀ p ∈ X.pn, s.heap.get? p.1 = some p.2) (len : σ.length = X.N.length) : ∃ o, OwnAt n ((X.env.locals, o) :: X.pn) s ∧
    ∀ s', Env0 P w K mg base Aw outer s' Hg → OwnAt n ((X.env.locals, o) :: X.pn) s' → Inv (rb X n Hg s') [] σ Hg s' := by
  obtain ⟨m, ⟨o, es, ep, ho, hd, r⟩, hl⟩ := nm
  refine ⟨o, fun p hp => ?_, fun s' e' own => F.inv e' ⟨m, ⟨o, es, ep, (own _ List.mem_cons_self).1, hd, r⟩, hl⟩ (fun p hp => (own p (List.mem_cons_of_mem _ hp)).1) len⟩
  rcases List.mem_cons.mp hp with rfl | hp
  · exact ⟨ho, F.loc, fun v z => by rw [hd] at z; cases z⟩
  · obtain ⟨h1, _, h3⟩ := F.pn p hp
    exact ⟨pin p hp, h1, h3⟩
theorem seg_seen (F : Fixed P w K mg base Aw outer n Hg X) {A : Around} {a : Addr} {g : Nat} (gen : ∃ o, (a, o) ∈ X.pn ∧ ∀ h : Heap, h.get? a = some o → h.IsGen a g) {m : Nat} {s₀ s : Shared} {c : Code} {t : Sem PySem.Fin} {fs : List Frame}
    (h : Seg (model P w) A (FR n Hg N PE X) (FY X n Hg N PI) m s₀ c t fs s) : Seg (model P w) A (CEnd P w outer n Hg N PE) (CY P w K mg base Aw outer n Hg N PI a g) m s₀ c t fs s := by
  refine seg_imp (fun m s₀ r s hR => ?_) (fun m s₀ v s kap kap' hk hY => ?_) m h
  · obtain ⟨h1, h2, h3, σ, I⟩ := hR
    exact .inl ⟨h1, h2, h3, F.after I⟩
  · obtain ⟨x, σ, rv, pi, lt, I, wk⟩ := hY
    have pin : ∀ p ∈ X.pn, s.heap.get? p.1 = some p.2 := fun p hp => (I.pin p (List.mem_append_left _ hp)).1
    obtain ⟨o, own, back⟩ := own_of F (Names.of F I) pin I.len
    obtain ⟨og, hg, isg⟩ := gen
    exact ⟨x, _, rv, pi, lt, F.after I, own, isg _ (pin _ hg), ⟨og, List.mem_cons_of_mem _ hg⟩, fun pos s' e' own' => hk _ _ (wk pos s' (back s' e' own'))⟩
end
abbrev SpF := List V → Hp → (Nat → V → Prop) → (Nat → Prop) → Nat → Prop
/-- the context of such a generator's body -/
def fcxOf (P : Program) (w : World) (K : PySem.W.Frag) (mg : Str → Option Value) (base : Heap) (N : List Str) (qual : Str) (scope : Scope) (f : Addr) (cd : Value) (A : Around) (outer : List Env) (s : Shared) (H : Hp) (pn : List (Addr × Obj)) : Cx :=
  { cxOf (CX P w) P w K mg base N qual scope f cd A outer s H (fun _ _ _ => False) with pn := pn, xe := fun _ _ => False }
structure FGFn (P : Program) (w : World) (K : PySem.W.Frag) (mg : Str → Option Value) (base : Heap) (k : Nat) (f : Addr) (fd : FuncData) (ps : List Str) (sp : SpF) : Prop where
  len : ∀ vs H PI PE N, sp vs H PI PE N → vs.length = ps.length
  run : ∀ (A : Around) (outer : List Env) (s : Shared) (Hg : Hp) (args : Args) (us : List Value) (vs : List V) (PI : Nat → V → Prop) (PE : Nat → Prop) (N : Nat), Room k A → Env0 P w K mg base A outer s Hg → BindsTo s fd args (ps.zip us) → Vals vs us → 0 < N → sp vs Hg PI PE N →
    codeAny (model P w) A (.call (.ref f) args) (fun r s' => match r with | .ok (.ret u) => FMade P w K mg base outer s.heap.objs.size Hg N PI PE k s u s' | _ => False) s
theorem cellsFrom_nil {n : Nat} : ∀ (names : List (Str × NameKind)), (∀ y ∈ names, y.2 ≠ .cell) → cellsFrom n names [] = []
  | [], _ => rfl
  | (x, kind) :: r, h => by
    have hk : (kind == NameKind.cell) = false := by
      have := h (x, kind) List.mem_cons_self
      cases kind <;> first | rfl | exact absurd rfl this
    unfold cellsFrom
    rw [hk, if_neg Bool.false_ne_true]
    exact cellsFrom_nil r fun y hy => h y (List.mem_cons_of_mem _ hy)
theorem fgen_of {P : Program} {w : World} {K : PySem.W.Frag} {mg : Str → Option Value} {base : Heap} {k : Nat} {f : Addr} {name qual : Str} {params : Arguments} {body : List Stmt} {scope : Scope} {dV kV doc pm cdv ct oc : Value} {an od : Option Addr}
    {osl : Array (Option Value)} {Ns ps : List Str} {sp : SpF} (lk : K.lookup f = some ⟨oc, od, .func (PySem.W.fnOf name qual params body scope dV kV doc pm an cdv ct), osl⟩) (hcd : PySem.W.codeIn K cdv qual = true) (S : GScope Ns ps scope) (nc : ∀ y ∈ scope.names, y.2 ≠ .cell ∧ y.2 ≠ .free)
    (len : ∀ vs H PI PE N, sp vs H PI PE N → vs.length = ps.length)
    (hbody : ∀ (A : Around) (outer : List Env) (s : Shared) (H : Hp) (vs : List V) (PI : Nat → V → Prop) (PE : Nat → Prop) (N : Nat) (pn : List (Addr × Obj)), Room k (A.deeper (envOfC qual scope s.heap.objs.size f cdv)) → sp vs H PI PE N →
      ∃ t, FSs (fcxOf P w K mg base Ns qual scope f cdv A outer s H pn) s.heap.objs.size H N PI body t ∧ t { nx := fun k _ => PE k } 0 (start Ns vs)) :
    FGFn P w K mg base (k + 1) f (PySem.W.fnOf name qual params body scope dV kV doc pm an cdv ct) ps sp := by
  refine ⟨len, fun A outer s Hg args us vs PI PE N hr e0 hb r pos hsp => ?_⟩
  have hl := len _ _ _ _ _ hsp
  have KX : K.In s.heap := e0.mod.kin.keeps fun b o e => (e0.bs b o e).1
  have lim : s.heap.NoLimit := e0.mod.nolimit.keeps fun b o e => (e0.bs b o e).1
  have hkind : ∀ y ∈ ps.zip us, scope.names.lookup y.1 = some .local ∨ (scope.names.lookup y.1 = some .cell ∧ ((cellsFrom (s.heap.objs.size + 1) scope.names []).lookup y.1).isSome = true) := fun ⟨n, v⟩ hy => by
    rcases S.par n (List.of_mem_zip hy).1 with q | q
    · exact .inl q
    · exact ((nc _ (PySem.mem_of_lookup q)).1 rfl).elim
  refine codeAny_call_generator hr.depth (KX _ _ lk) rfl S.co S.gen rfl (PySem.W.codeRec_of KX hcd) (hb _ _ _ _ ?_)
  refine wpAny_newFunctionEnv_cells S.kind hkind fun env he s1 x => ?_
  subst he
  have lim1 : s1.heap.NoLimit := lim.keeps x.toInCall.keep
  refine ⟨lim1, ?_⟩
  obtain ⟨h1, tk, es1, hk1⟩ := x.done
  have os1 : s1.os = s.os := by rw [es1]
  have gen1 : s1.gens = s.gens := by rw [es1]
  have lt1 : s.heap.objs.size < s1.heap.objs.size := x.toInCall.ns.lt
  have kp1 : ∀ b o, s.heap.get? b = some o → s1.heap.get? b = some o := x.toInCall.keep
  have main : ∀ (go : Obj) (nm qn : Value) (tk2 : Nat), go.cls = .type "generator" → go.data = .fields #[.int s1.gens.size 0, nm, qn] → go.slots = #[] → (∀ h : Heap, (h.push go).get? h.objs.size = some go) →
      FMade P w K mg base outer s.heap.objs.size Hg N PI PE (k + 1) s (.ref s1.heap.objs.size) { s1 with gens := s1.gens.push (.fresh (.func body (envOfC qual scope s.heap.objs.size f cdv))), toks := tk2, heap := s1.heap.push go } := by
    intro go nm qn tk2 hgc hgd0 hgs hgp
    have hgen : ∀ h : Heap, h.get? s1.heap.objs.size = some go → h.IsGen s1.heap.objs.size s1.gens.size := fun h e => ⟨go, nm, qn, e, hgc, hgd0, hgs⟩
    have hpushed : (s1.heap.push go).get? s1.heap.objs.size = some go := hgp _
    have I1 : Inv (gcxOf P w K mg base Ns qual scope f cdv A outer s Hg (fun _ _ _ => False) []) [] (start Ns vs) Hg s1 := inv_startG S hr.hd e0 hl r x
    have nocell : ∀ x, (cellsFrom (s.heap.objs.size + 1) scope.names []).lookup x = none := fun x => by rw [cellsFrom_nil _ fun y hy => (nc y hy).1]; rfl
    have nokind : ∀ x, (envOfC qual scope s.heap.objs.size f cdv).kindOf x = some .cell ∨ (envOfC qual scope s.heap.objs.size f cdv).kindOf x = some .free → False := fun x h => by
      have h' : scope.names.lookup x = some .cell ∨ scope.names.lookup x = some .free := h
      rcases h' with h' | h'
      · exact (nc _ (PySem.mem_of_lookup h')).1 rfl
      · exact (nc _ (PySem.mem_of_lookup h')).2 rfl
    have F : ∀ Aw, Aw.handled = none → Fixed P w K mg base Aw outer s.heap.objs.size Hg (fcxOf P w K mg base Ns qual scope f cdv Aw outer s Hg [(s1.heap.objs.size, go)]) := fun Aw hh =>
      { prog := rfl, wld := rfl, frag := rfl, mgl := rfl, bas := rfl, kind := S.kind, glob := rfl, blt := rfl, loc := Nat.le_refl _, frame := rfl, cells := nocell, nocell := nokind, A := rfl, calm := fun _ => hh, out := rfl, stack := rfl, ex := rfl, bsz := e0.bsz,
        fr := fun b hb => by
          obtain ⟨_, o, ho, _⟩ := e0.funs.mem hb
          exact Heap.lt_size ho
        dom := fun b u q => e0.hok.lt q
        pn := fun p hp => by
          rw [List.mem_singleton.mp hp]
          exact ⟨Nat.le_of_lt lt1, Nat.ne_of_gt lt1, fun v q => by
            have q' : go.data = .cell v := q
            rw [hgd0] at q'; cases q'⟩
        xe := fun _ _ h => h }
    have nm1 : ∀ Aw, Names (fcxOf P w K mg base Ns qual scope f cdv Aw outer s Hg [(s1.heap.objs.size, go)]) (start Ns vs) { s1 with gens := s1.gens.push (.fresh (.func body (envOfC qual scope s.heap.objs.size f cdv))), toks := tk2, heap := s1.heap.push go } := fun Aw => by
      obtain ⟨m, hn, hl⟩ := I1.loc
      refine ⟨m, hn.keeps fun b o e => Heap.get?_push_of_some _ e, fun i x v h1 h2 h3 => ?_⟩
      obtain ⟨u, r, l⟩ := hl i x v h1 h2 h3
      rcases l with l | ⟨k, _⟩
      · exact ⟨u, r, l⟩
      · exact (nokind x k).elim
    obtain ⟨o, own, back⟩ := own_of (F A hr.hd) (nm1 A) (fun p hp => by rw [List.mem_singleton.mp hp]; exact hpushed) I1.len
    refine ⟨s1.heap.objs.size, s1.gens.size, _, _, rfl, hgen _ hpushed, Array.getElem?_push_size .., own, ⟨go, List.mem_cons_of_mem _ (List.mem_singleton.mpr rfl)⟩, os1, ?_, lim1.keeps fun b o e => Heap.get?_push_of_some _ e, fun b o e => Heap.get?_push_of_some _ (kp1 b o e), ?_⟩
    · exact AllBare.push (by rw [gen1]; exact e0.bare) rfl
    intro Aw hrw s2 e2 own2
    obtain ⟨t, ht, hq⟩ := hbody Aw outer s Hg vs PI PE N [(s1.heap.objs.size, go)] (hrw.deeper _) hsp
    have I2 : Inv (rb (fcxOf P w K mg base Ns qual scope f cdv Aw outer s Hg [(s1.heap.objs.size, go)]) s.heap.objs.size Hg s2) [] (start Ns vs) Hg s2 := by
      obtain ⟨m, ⟨o', es, ep, ho', hd', r'⟩, hl'⟩ := nm1 Aw
      have eo : o' = o := Option.some.inj (ho'.symm.trans (own _ List.mem_cons_self).1)
      subst eo
      exact (F Aw hrw.hd).inv e2 ⟨m, ⟨o', es, ep, (own2 _ List.mem_cons_self).1, hd', r'⟩, hl'⟩ (fun p hp => (own2 p (List.mem_cons_of_mem _ hp)).1) I1.len
    refine seg_func ?_
    refine seg_seen (F Aw hrw.hd) ⟨go, List.mem_singleton.mpr rfl, hgen⟩ ?_
    refine ht.run Aw _ N 0 s2 _ [] _ _ id id s2 (start Ns vs) _ ⟨over_func, rfl, rfl, rfl, fun _ _ h => h⟩ (Nat.zero_add _) pos ⟨fun m k' s₀ s' fl hn hm hs => ?_⟩ I2 hq
    cases fl with
    | next =>
      obtain ⟨σ', I', q⟩ := hs
      exact seg_end (.ok (.ret .none)) ⟨.inl rfl, by omega, by rw [show N - m = k' from by omega]; exact q, σ', I'⟩
    | brk => obtain ⟨_, _, q⟩ := hs; exact q.elim
    | cont => obtain ⟨_, _, q⟩ := hs; exact q.elim
    | ret u => exact hs.elim
  exact main _ _ _ _ rfl rfl rfl fun h => Heap.get?_push_size _ rfl
end Gp
set_option Elab.async false
set_option maxRecDepth 100000
set_option autoImplicit false
set_option pp.maxSteps 400
set_option pp.deepTerms false
/-! statements behind which the generators are as they were -/
namespace Gp
open PySem L2 PySem.Spec PyProof.Rows GenW
section
structure PEg (X : Cx) (e : Expr) (t : TE) : Prop where
  run : ∀ (pins : List (Addr × Obj)) (s : Shared) (σ : L2.St) (H : Hp) (Q : VK), Inv X pins σ H s → t σ H Q → wpAny (model X.prog X.w) X.A (eval e X.env) (fun u s' => s'.gens = s.gens ∧ EP X pins σ Q u s') X.xe s
structure PTg (X : Cx) (e : Expr) (t : TT) : Prop where
  run : ∀ (pins : List (Addr × Obj)) (s : Shared) (σ : L2.St) (H : Hp) (Q : Bool → Hp → Prop), Inv X pins σ H s → t σ H Q → wpAny (model X.prog X.w) X.A (isTrue e X.env (eval e X.env)) (fun b s' => s'.gens = s.gens ∧ TP X pins σ Q b s') X.xe s
structure PAg (X : Cx) (es : List Expr) (t : TA) : Prop where
  run : ∀ (pos : Pos) (pins : List (Addr × Obj)) (s : Shared) (σ : L2.St) (H : Hp) (Q : List V → Hp → Prop), Inv X pins σ H s → t σ H Q → wpAny (model X.prog X.w) X.A (spliced (backTo pos (starEach es X.env))) (fun us s' => s'.gens = s.gens ∧ AP X pins σ Q us s') X.xe s
structure PSg (X : Cx) (st : Stmt) (t : TS) : Prop where
  run : ∀ (pins : List (Addr × Obj)) (s : Shared) (σ : L2.St) (H : Hp) (D : Ends), Inv X pins σ H s → t D σ H → wpAny (model X.prog X.w) X.A (exec st X.env) (fun f s' => s'.gens = s.gens ∧ SP X pins D f s') X.xe s
structure PSsg (X : Cx) (st : List Stmt) (t : TS) : Prop where
  run : ∀ (pins : List (Addr × Obj)) (s : Shared) (σ : L2.St) (H : Hp) (D : Ends), Inv X pins σ H s → t D σ H → wpAny (model X.prog X.w) X.A (execs st X.env) (fun f s' => s'.gens = s.gens ∧ SP X pins D f s') X.xe s
variable {X : Cx}
theorem peg_var {i : Nat} {x : Str} {pos : Pos} (hN : X.N[i]? = some x) (hv : Vis X.env.scope x) (hd : (x == ("__debug__" : Str)) = false := by decide) (hcd : (x == ("__classdict__" : Str)) = false := by decide) : PEg X (.Name x pos) (tVar i) := by
  refine ⟨fun pins s σ H Q I h => ?_⟩
  obtain ⟨v, e, h⟩ := h
  obtain ⟨m, hn, hl⟩ := I.loc
  obtain ⟨u, r, l⟩ := hl i x v hN e hv
  have fin : s.gens = s.gens ∧ EP X pins σ Q u s := ⟨rfl, v, H, I, r, h⟩
  rcases l with ⟨hk, hm⟩ | ⟨hk, c, hc, hcell⟩
  · exact wpAny_Name (wpAny_loadName_local I.ok.kind hk hn hm fin) hd
  · rcases hk with hk | hk
    · exact wpAny_Name (wpAny_loadName_cell I.ok.kind hk hc hcell fin) hd
    · exact wpAny_Name (wpAny_loadName_free I.ok.kind hk hc hcell fin hcd) hd
theorem peg_int {i : Int} {j : Nat} {pos : Pos} : PEg X (.Constant (.int i) j pos) (tC (.int i)) := ⟨fun _ _ _ H _ I h => wpAny_Constant_int ⟨rfl, .int i, H, I.tok _, ⟨_, rfl⟩, h⟩⟩
theorem pag_nil : PAg X [] tNil := ⟨fun _ _ _ _ H Q I h => Calls.spliced_nil ⟨rfl, [], H, I, .nil, h⟩⟩
theorem pag_cons {e : Expr} {es : List Expr} {te : TE} {t : TA} (ha : PEg X e te) (hr : PAg X es t) (hs : starEach (e :: es) X.env = (false, eval e X.env) :: starEach es X.env := by rfl) : PAg X (e :: es) (tCons te t) := by
  refine ⟨fun pos pins s σ H Q I h => ?_⟩
  rw [hs]
  show wpAny _ _ (spliced ((false, eval e X.env) :: backTo pos (starEach es X.env))) _ _ s
  refine Calls.spliced_cons (thn (ha.run pins s σ H _ I h) fun u s1 ⟨g1, x, H1, I1, r1, q1⟩ => ?_)
  exact thn (hr.run pos pins s1 σ H1 _ I1 q1) fun us s2 ⟨g2, xs, H2, I2, r2, q2⟩ => ⟨g2.trans g1, x :: xs, H2, I2, .cons r1 r2, q2⟩
/-- len(e), e a list -/
theorem peg_len {e : Expr} {te : TE} {p pos : Pos} (hg : Gl X "len") (hm : X.mg "len" = none) (ha : PEg X e te) (he : starEach [e] X.env = (false, eval e X.env) :: starEach [] X.env := by rfl) :
    PEg X (.Call (.Name "len" p) [e] [] pos) (tCB (fun xs H Q => ∃ p ys, xs = [.ref p] ∧ SqL X.K H p ys ∧ Q (.int ys.length) H) (tCons te tNil)) := by
  refine ⟨fun pins s σ H Q I h => ?_⟩
  refine wpAny_Call_Name_kw (ld_blt I hg hm PySem.boot_len ?_)
  refine PyProof.Rows.callWith_builtin1 (thn ((pag_cons ha pag_nil he).run pos pins s σ H _ I h) fun us s1 ⟨g1, vs, H1, I1, r1, p, ys, ev, hq, q⟩ => ?_) he rfl
  subst ev
  obtain ⟨u, rfl, rx⟩ := r1.one
  cases rx
  obtain ⟨its, r', pl, hz⟩ := I1.list hq
  have hlen := r'.length
  have hn := line63
  exact Calls.call_len_list pl.isList (by simp only [List.size_toArray] <;> omega) ⟨g1, .int ys.length, H1, I1.tok _, ⟨s1.toks + 1, by rw [List.size_toArray, hlen]⟩, q⟩
/-- l.append(e) -/
theorem peg_append {o e : Expr} {to te : TE} {apos cpos : Pos} (ho : PEg X o to) (ha : PEg X e te)
    (hbase : attributeBase o "append" X.env (eval o X.env) = eval o X.env := by rfl)
    (hfew : ((backTo cpos (starEach [e] X.env)).all (fun x => !x.1) && (backToKw cpos (keywordEach [] X.env)).all (fun x => x.1.isSome)
      && decide ([e].length + ([] : List Keyword).length + (if ([] : List Keyword).isEmpty then 0 else 1) < 30)) = true := by rfl)
    (hline : (apos.endLine == cpos.line) = true := by rfl) (hs : starEach [e] X.env = (false, eval e X.env) :: starEach [] X.env := by rfl) (hplain : (backTo cpos (starEach [] X.env)).any (·.1) = false := by rfl) :
    PEg X (.Call (.Attribute o "append" apos) [e] [] cpos) (fun σ H Q => to σ H fun x H1 => ∃ l xs, x = .ref l ∧ H1 l = some (.lst xs) ∧ tCons te tNil σ H1 fun ys H2 => ∃ y, ys = [y] ∧ H2 l = some (.lst xs) ∧ xs.length < sizeLine ∧ Q .non (upd H2 l (.lst (xs ++ [y])))) := by
  refine ⟨fun pins s σ H Q I h => ?_⟩
  refine wpAny_Call_method_late hbase hfew hline rfl (thn (ho.run pins s σ H _ I h) fun v s1 ⟨g1, x, H1, I1, r1, l, xs, ex, hH, q1⟩ => ?_)
  subst ex
  cases r1
  obtain ⟨h1, h2⟩ := tyV_is (T := "list") I1 (x := .ref l) rfl (.inl ⟨rfl, xs, SqL.of hH⟩)
  refine ⟨"list", "list.append", PySem.F.plainAttrs_list, PySem.F.slot_list_append, PySem.F.type_list_append, h1, h2, ?_⟩
  have hA := (pag_cons ha pag_nil hs).run cpos pins s1 σ H1 (fun ys H2 => ∃ y, ys = [y] ∧ H2 l = some (.lst xs) ∧ xs.length < sizeLine ∧ Q .non (upd H2 l (.lst (xs ++ [y])))) I1 q1
  rw [hs] at hA ⊢
  refine Calls.callWith_builtin (by show (false || (backTo cpos (starEach [] X.env)).any (·.1)) = false; rw [hplain] <;> rfl) (Calls.evalArgs_plain ?_)
  refine thn hA fun us s2 ⟨g2, vs, H2, I2, r2, y, ev, hH2, hz, q2⟩ => ?_
  subst ev
  obtain ⟨u, rfl, ru⟩ := r2.one
  obtain ⟨z, its, n, r, hl, e⟩ := I2.lstM hH2
  refine call_meets F.slot_list_append ⟨_, e, rfl⟩ F.entry_list_append (F.args_list_append_2 _ _) (PySem.list_append l its.toArray n u (by rw [List.size_toArray]; omega)) ⟨e, ?_⟩
  refine ⟨g2.trans g1, .non, _, I2.lset (its' := its ++ [u]) hH2 e (by simp) (r.append (.cons ru .nil)) ?_, rfl, q2⟩
  rw [List.length_append, List.length_singleton]
  omega
/-- e == i -/
theorem ptg_eqInt {a b : Expr} {ta tb : TE} {pos : Pos} (ha : PEg X a ta) (hb : PEg X b tb) (hm : behindInMarks .Eq b = false) : PTg X (.Compare a [.Eq] [b] pos) (fun σ H Q => ta σ H fun x H1 => tb σ H1 fun y H2 => ∃ i j : Int, x = .int i ∧ y = .int j ∧ Q (i == j) H2) := by
  refine ⟨fun pins s σ H Q I h => ?_⟩
  refine wpAny_isTrue_Compare1 (thn (ha.run pins s σ H _ I h) fun v s1 ⟨g1, x, H1, I1, r1, q1⟩ => thn (hb.run pins s1 σ H1 _ I1 q1) fun u s2 ⟨g2, y, H2, I2, r2, i, j, ex, ey, q2⟩ => ?_) hm
  subst ex ey
  obtain ⟨t1, rfl⟩ := r1
  obtain ⟨t2, rfl⟩ := r2
  exact PyProof.Rows.eq_int (wpAny_truthy_bool ⟨g2.trans g1, H2, I2, q2⟩)
theorem psg_expr {e : Expr} {te : TE} {pos : Pos} (he : PEg X e te) (hs : swapsWith e none pos.line X.env = pure false := by rfl) : PSg X (.Expr e pos) (tDrop te) := by
  refine ⟨fun pins s σ H D I h => ?_⟩
  exact wpAny_Expr_any (thn (he.run pins s σ H _ I h) fun v s1 ⟨g1, x, H1, I1, r1, q1⟩ => ⟨g1, σ, H1, I1, q1⟩) I.quiet hs
theorem psg_break {pos : Pos} : PSg X (.Break pos) tBreak := ⟨fun _ _ σ H _ I h => wpAny_Break ⟨rfl, σ, H, I, h⟩⟩
theorem pssg_nil : PSsg X [] tNext := ⟨fun _ _ σ H _ I h => wpAny_execs_nil ⟨rfl, σ, H, I, h⟩⟩
theorem pssg_cons {st : Stmt} {rest : List Stmt} {t u : TS} (h1 : PSg X st t) (h2 : PSsg X rest u) : PSsg X (st :: rest) (tSeq t u) := by
  refine ⟨fun pins s σ H D I h => ?_⟩
  refine wpAny_execs_cons (thn (h1.run pins s σ H { D with nx := u D } I h) fun f s1 ⟨g1, q⟩ => ?_)
  cases f with
  | next =>
    obtain ⟨σ', H', I', q⟩ := q
    exact thn (h2.run pins s1 σ' H' D I' q) fun f s2 ⟨g2, q2⟩ => ⟨g2.trans g1, q2⟩
  | ret v => exact ⟨g1, q⟩
  | brk => exact ⟨g1, q⟩
  | cont => exact ⟨g1, q⟩
theorem psg_if {c : Expr} {a b : List Stmt} {pos : Pos} {tc : TT} {t u : TS} (hc : PTg X c tc) (ha : PSsg X a t) (hb : PSsg X b u) : PSg X (.If c a b pos) (tIfS tc t u) := by
  refine ⟨fun pins s σ H D I h => ?_⟩
  refine wpAny_If (thn (hc.run pins s σ H _ I h) fun d s1 ⟨g1, H1, I1, q1⟩ => ?_)
  cases d with
  | true => exact thn (ha.run pins s1 σ H1 D I1 q1) fun f s2 ⟨g2, q2⟩ => ⟨g2.trans g1, q2⟩
  | false => exact thn (hb.run pins s1 σ H1 D I1 q1) fun f s2 ⟨g2, q2⟩ => ⟨g2.trans g1, q2⟩
end
end Gp
set_option Elab.async false
set_option maxRecDepth 100000
set_option maxHeartbeats 1000000
set_option autoImplicit false
set_option pp.maxSteps 400
set_option pp.deepTerms false
/-! for x in g(..), drawn item by item -/
namespace Gp
open PySem L2 PySem.Spec PyProof.Rows GenW
/-- Hg is a part of H that speaks of no more than itself -/
structure Small (P : Program) (w : World) (Hg H : Hp) : Prop where
  sub : ∀ b u, Hg b = some u → H b = some u
  cl : ∀ (H' : Hp) (h : Heap) b u, (∀ b u, Hg b = some u → H' b = some u) → Hg b = some u → ObjOk P w H' h b u → ObjOk P w Hg h b u
  own : ∀ c b, Hg c = some (.own b) → Hg b ≠ none
section
variable {P : Program} {w : World} {K : PySem.W.Frag} {mg : Str → Option Value} {base : Heap} {A : Around} {outer : List Env} {Hg H H' : Hp} {s : Shared}
theorem Small.mono (m : Small P w Hg H) (h : ∀ b u, Hg b = some u → H' b = some u) : Small P w Hg H' := ⟨h, m.cl, m.own⟩
theorem Small.hok (m : Small P w Hg H) {h : Heap} (k : HOk P w H h) : HOk P w Hg h := fun b u q => m.cl H h b u m.sub q (k b u (m.sub b u q))
theorem Small.env0 (m : Small P w Hg H) (e : Env0 P w K mg base A outer s H) {B : Around} (hB : B.frames = A.frames) {G : Array GenState} (hG : AllBare G) : Env0 P w K mg base B outer { s with gens := G } Hg := by
  have no : ∀ b, H b = none → Hg b = none := fun b q => by
    cases z : Hg b with
    | none => rfl
    | some u => rw [m.sub b u z] at q; cases q
  exact ⟨hB.trans e.frames, e.mod, fun b o h => ⟨(e.bs b o h).1, no b (e.bs b o h).2⟩, e.bsz, e.funs, fun b h => no b (e.frf b h), m.hok e.hok, hG⟩
end
section
variable {X : Cx}
/-- what stands since the generator was made -/
structure Since (X : Cx) (pins : List (Addr × Obj)) (n : Nat) : Prop where
  s0 : X.s_0.heap.objs.size ≤ n
  loc : X.env.locals < n
  cell : ∀ x c, X.env.cells.lookup x = some c → c < n
  pin : ∀ p ∈ X.pn ++ pins, p.1 < n
  fr : ∀ b ∈ X.fs, b < n
theorem Since.of {pins : List (Addr × Obj)} {σ : L2.St} {H : Hp} {s : Shared} (I : Inv X pins σ H s) : Since X pins s.heap.objs.size where
  s0 := I.sz
  loc := I.lt
  cell := fun x c e => by
    obtain ⟨v, o, ho, _⟩ := I.cell x c e
    exact Heap.lt_size ho
  pin := fun p hp => Heap.lt_size (I.pin p hp).1
  fr := fun b hb => by
    obtain ⟨_, o, ho, _⟩ := I.funs.mem hb
    exact Heap.lt_size ho
/-- the consumer, behind a run of the generator -/
theorem back {pins : List (Addr × Obj)} {σ : L2.St} {H Hg : Hp} {s s₀ s1 : Shared} {n : Nat} {h' : Heap} {G : Array GenState} (I : Inv X pins σ H s) (S : Since X pins n) (e0 : s₀.heap = s.heap) (eo : s₀.os = s.os) (af : After X.prog X.w X.stack n Hg s₀ s1) (sm : Small X.prog X.w Hg H) (dom : ∀ b u, H b = some u → b < n)
    (k : ∀ b o, s1.heap.get? b = some o → h'.get? b = some o) (hG : AllBare G) : Inv X pins σ H { s1 with heap := h', gens := G } := by
  have un : Un (frs X.stack) [] Hg Hg (trunc n s.heap) s1.heap := e0 ▸ af.un
  have nog : ∀ b, H b = none → Hg b = none := fun b q => by
    cases z : Hg b with
    | none => rfl
    | some u => rw [sm.sub b u z] at q; cases q
  have low : ∀ b o, b ∉ (List.range s.heap.objs.size).filter (fun b => decide (n ≤ b)) → s.heap.get? b = some o → b < n ∧ (trunc n s.heap).get? b = some o := fun b o hb e => by
    have lt := Heap.lt_size e
    have l : b < n := Nat.lt_of_not_le fun z => hb (List.mem_filter.mpr ⟨List.mem_range.mpr lt, by simpa using z⟩)
    exact ⟨l, (trunc_lt l).trans e⟩
  refine I.call' (s' := { s1 with heap := h', gens := G }) (ch := (List.range s.heap.objs.size).filter fun b => decide (n ≤ b)) (af.os.trans eo) ⟨fun b o e z hb hc => ?_, fun b o e z hb hc => ?_, fun b o e z hc => z, fun b o e hc => ?_, fun b xs z => z, fun b o u z => z, fun b ps z => ⟨#[], by rw [z]; simp⟩⟩ ?_ hG fun b hb => ?_
  · exact k _ _ (un.keep b o (low b o hc e).2 (nog b z) hb (by simp))
  · obtain ⟨sl, q⟩ := un.slot b o (low b o hc e).2 (nog b z) hb (by simp)
    exact ⟨sl, k _ _ q⟩
  · obtain ⟨o', q⟩ := un.there b o (low b o hc e).2 (by simp)
    exact ⟨o', k _ _ q⟩
  · intro b u z
    cases q : Hg b with
    | some u' =>
      have : u' = u := Option.some.inj ((sm.sub b u' q).symm.trans z)
      subst this
      exact ((af.hok b u' q).stay (fun c v _ y => k c v y) (fun c y => sm.sub c _ y) fun c xs y => sm.sub c _ y)
    | none =>
      refine (I.hok b u z).stay (fun c v hc y => k c v ?_) (fun _ y => y) fun _ _ y => y
      have hcH : H c ≠ none := by
        rcases hc with rfl | hc
        · rw [z]; exact fun y => nomatch y
        · rw [hc]; exact fun y => nomatch y
      have hcn : Hg c = none := by
        rcases hc with rfl | hc
        · exact q
        · cases y : Hg c with
          | none => rfl
          | some u2 =>
            have : u2 = .own b := Option.some.inj ((sm.sub c u2 y).symm.trans hc)
            subst this
            exact absurd q (sm.own c b y)
      have hct : c < n := by
        cases y2 : H c with
        | none => exact absurd y2 hcH
        | some u2 => exact dom c u2 y2
      refine un.keep c v ((trunc_lt hct).trans y) hcn (fun hf => hcH (I.stkFree c hf)) (by simp)
  · obtain ⟨h1, h2⟩ := List.mem_filter.mp hb
    have h2' : n ≤ b := by simpa using h2
    refine ⟨.inr (Nat.le_trans S.s0 h2'), fun z => ?_, fun x c e z => ?_, fun p hp z => ?_⟩
    · rw [z] at h2'; exact absurd (Nat.lt_of_lt_of_le S.loc h2') (Nat.lt_irrefl _)
    · rw [← z] at h2'; exact absurd (Nat.lt_of_lt_of_le (S.cell x c e) h2') (Nat.lt_irrefl _)
    · rw [← z] at h2'; exact absurd (Nat.lt_of_lt_of_le (S.pin p hp) h2') (Nat.lt_irrefl _)
/-- an expression whose value is such a generator -/
abbrev TFG := L2.St → Hp → (Hp → (Nat → V → Prop) → (Nat → Prop) → Nat → Hp → Prop) → Prop
structure PFG (X : Cx) (k : Nat) (e : Expr) (tg : TFG) : Prop where
  run : ∀ (pins : List (Addr × Obj)) (s : Shared) (σ : L2.St) (H : Hp) (R : Hp → (Nat → V → Prop) → (Nat → Prop) → Nat → Hp → Prop), Inv X pins σ H s → tg σ H R → wpAny (model X.prog X.w) X.A (eval e X.env)
    (fun u s' => ∃ Hg PI PE N H1 sc, Inv X pins σ H1 sc ∧ FMade X.prog X.w X.K X.mg X.base X.stack sc.heap.objs.size Hg N PI PE k sc u s' ∧ Small X.prog X.w Hg H1 ∧ 0 < N ∧ R Hg PI PE N H1) X.xe s
/-- the store of a local name -/
theorem assign_loc {pins : List (Addr × Obj)} {σ : L2.St} {H : Hp} {s : Shared} {i : Nat} {x : Str} {v : V} {u : Value} {pos : Pos} {E : Value → Shared → Prop} (I : Inv X pins σ H s) (hN : X.N.Nodup) (hi : X.N[i]? = some x) (hk : X.env.scope.names.lookup x = some .local) (r : RelV v u) :
    wpAny (model X.prog X.w) X.A (assign (.Name x pos) X.env u) (fun _ s' => s'.gens = s.gens ∧ Inv X pins (σ.set i (some v)) H s') E s := by
  refine wpAny_assign_Name ?_
  obtain ⟨m, hn, hl⟩ := id I.loc
  have hcls : (X.env.scope.kind == .class || (X.env.scope.kind == .module && X.env.locals != X.env.globals)) = false := by rw [I.ok.kind]; rfl
  have hiσ : i < σ.length := by rw [I.len]; exact (List.getElem?_eq_some_iff.mp hi).1
  have cne := I.cne
  have hk' : X.env.kindOf x = some .local := hk
  refine wpAny_storeName_local hk' hn (fun h' hn' hs => ?_) hcls
  obtain ⟨oL, _, _, hoL, _⟩ := id hn
  have tracked : HOk X.prog X.w H h' := fun b ob e => by
    refine (I.hok b ob e).stay (fun c w' hc q => (hs.2 c ?_).trans q) (fun _ q => q) fun _ _ q => q
    rintro rfl
    rcases hc with rfl | hc
    · rw [I.free] at e; cases e
    · rw [I.free] at hc; cases hc
  refine ⟨rfl, I.ok, I.os, I.bare, ⟨fun b o e n hb hx => ?_, fun b o e n hb hx => ?_, I.base.free, fun b o e hx => ?_, I.base.tups, I.base.frzs, I.base.tbls⟩, ⟨_, hn', fun j y v' e1 e2 e3 => ?_⟩, fun y c e => ?_, I.free, I.freeC, fun p hp => ?_, tracked, by simpa using I.len⟩
  · exact (hs.2 b (Nat.ne_of_lt (Nat.lt_of_lt_of_le (Heap.lt_size e) I.ok.above))).trans (I.base.keep b o e n hb hx)
  · obtain ⟨sl, e1⟩ := I.base.slot b o e n hb hx
    exact ⟨sl, (hs.2 b (Nat.ne_of_lt (Nat.lt_of_lt_of_le (Heap.lt_size e) I.ok.above))).trans e1⟩
  · obtain ⟨o', e1⟩ := I.base.there b o e hx
    exact ⟨o', (hs.2 b (Nat.ne_of_lt (Nat.lt_of_lt_of_le (Heap.lt_size e) I.ok.above))).trans e1⟩
  · by_cases hj : j = i
    · subst hj
      rw [hi] at e1; cases e1
      rw [List.getElem?_set_self hiσ] at e2
      cases e2
      exact ⟨u, r, .inl ⟨hk', by simp⟩⟩
    · rw [List.getElem?_set_ne (Ne.symm hj)] at e2
      obtain ⟨u', r', q⟩ := hl j y v' e1 e2 e3
      refine ⟨u', r', ?_⟩
      rcases q with ⟨k, e⟩ | ⟨k, c, e, z⟩
      · refine .inl ⟨k, ?_⟩
        have : y ≠ x := fun e => hj (nodup_ix hN e1 (e ▸ hi))
        simp [this, e]
      · exact .inr ⟨k, c, e, z.sameBut hs (cne y c e)⟩
  · obtain ⟨w', z⟩ := I.cell y c e
    exact ⟨w', z.sameBut hs (cne y c e)⟩
  · obtain ⟨e, n, ne, nf, d⟩ := I.pin p hp
    exact ⟨(hs.2 p.1 ne).trans e, n, ne, nf, d⟩
def tForG (tg : TFG) (i : Nat) (tb : TS) : TS := fun D σ H => tg σ H fun Hg PI PE N H1 => ∃ W : Nat → L2.St → Hp → Prop, W 0 σ H1 ∧ ∀ k σ' H', W k σ' H' →
  k < N ∧ (∀ b u, Hg b = some u → H' b = some u) ∧ (∀ b u, H' b = some u → H1 b ≠ none) ∧ (PE k → D.nx σ' H') ∧ ∀ x, PI k x → tb { D with nx := W (k + 1), ct := W (k + 1), bk := D.nx } (σ'.set i (some x)) H'
theorem ps_forG {iter : Expr} {body : List Stmt} {pos px : Pos} {tg : TFG} {i k : Nat} {x : Str} {tb : TS} (hp : PassesOwn (model X.prog X.w) X.A X.env X.xe) (hc : X.calm = true) (hgen : PFG X k iter tg) (hN : X.N.Nodup) (hi : X.N[i]? = some x) (hk : X.env.scope.names.lookup x = some .local) (hb : PSsg X body tb) (hr : Room (k + 1) X.A)
    (hs : ∀ x, foldedSetIterable iter X.env x = pure x := by intro _; rfl) (hown : ∀ (it v : Value), letOwnedTupleGo (.Name x px) it v = pure () := by intro _ _; rfl) : PS X (.For (.Name x px) iter body [] pos) (tForG tg i tb) := by
  refine ⟨fun pins s σ H D I h => ?_⟩
  refine wpAny_For (thn (hgen.run pins s σ H _ I h) fun u s1 hu => ?_) hs
  obtain ⟨Hg, PI, PE, N, H1, sc, I1, ⟨a, g, c, B0, eu, isg, hgs, own0, ⟨o0, mem0⟩, os1, bare1, lim1, kp, wake⟩, sm, pos0, W, w0, turn⟩ := hu
  subst eu
  refine wpAny_pyIter_gen isg ?_
  have S := Since.of I1
  have dom1 : ∀ b u, H1 b = some u → b < sc.heap.objs.size := fun b u q => I1.hok.lt q
  generalize sc.heap.objs.size = n at *
  have I1' : Inv X pins σ H1 s1 := by
    have := I1.call' (s' := s1) (ch := []) os1 (Un.kept kp) (I1.hok.kept kp) bare1 fun b z => by simp at z
    exact this
  have rm : Room k X.A.in1 := hr.in1
  have hh : X.A.handled = none := I.ok.hd hc
  have hd : X.A.depth < recursionLimit := hr.depth
  have hhi : X.A.in1.handled = none := rm.hd
  refine codeAny_forLoop_any (fun μ s' => ∃ k σ' H' gs B, k + μ = N ∧ Inv X pins σ' H' s' ∧ W k σ' H' ∧ s'.gens[g]? = some gs ∧
    gs.Goes (model X.prog X.w) X.A.in1 (CEnd X.prog X.w X.stack n Hg N PE) (CY X.prog X.w X.K X.mg X.base X.A.in1 X.stack n Hg N PI a g) μ (.send .none) (s'.setGen g .running) ∧ OwnAt n B s' ∧ s'.heap.IsGen a g ∧ ∃ o, (a, o) ∈ B) ?_ N
    ⟨0, σ, H1, .fresh c, B0, Nat.zero_add _, I1', w0, hgs, ⟨rfl, wake X.A.in1 rm _ (sm.env0 (B := X.A.in1) I1'.env0 rfl (allBare_setGen (g := g) (x := .running) bare1 rfl)) own0⟩, own0, isg, o0, mem0⟩
  rintro μ s3 ⟨k, σ3, H3, gs, B, hkm, I3, w3, hgs3, go3, own3, isg3, mem3⟩
  obtain ⟨kN, sub3, dom3, fin3, body3⟩ := turn k σ3 H3 w3
  have sm3 := sm.mono sub3
  have domH : ∀ b u, H3 b = some u → b < n := fun b u q => by
    cases z : H1 b with
    | none => exact absurd z (dom3 b u q)
    | some u1 => exact dom1 b u1 z
  have hgl : g < s3.gens.size := (Array.getElem?_eq_some_iff.mp hgs3).1
  obtain ⟨μ, rfl⟩ : ∃ j, μ = j + 1 := ⟨μ - 1, by omega⟩
  refine wpAny_passesOwn hp (wpAny_gsz (n := g + 1) hgl (next_genG (F := fun m s₀ s => m ≤ N ∧ PE (N - m) ∧ After X.prog X.w X.stack n Hg s₀ s) (Er := fun _ _ => False) hh I3.nolimit hd isg3 hgs3 go3 (fun v s₁ gs' hbare hv => ?_) (fun s₁ hq h' hk' => ?_) fun e s₁ he => he.elim))
  · intro hsz
    obtain ⟨x', B', rv, pi, lt, af, own', isg', mem', wk⟩ := hv
    have pi' : PI k x' := by
      rw [show N - 1 - (μ + 1 - 1) = k from by omega] at pi; exact pi
    have I4 : Inv X pins σ3 H3 (s₁.setGen g gs') := back (s₀ := s3.setGen g .running) (s1 := s₁) I3 S rfl rfl af sm3 domH (fun _ _ e => e) (allBare_setGen af.bare hbare)
    have I4p : Inv X (pins ++ B') σ3 H3 (s₁.setGen g gs') := I4.pins_of fun p hp => by
      rcases List.mem_append.mp hp with z | z
      · exact I4.pin p (List.mem_append_right _ z)
      · obtain ⟨h1, h2, h3⟩ := own' p z
        refine ⟨h1, ?_, fun y => ?_, fun y => ?_, h3⟩
        · cases q : H3 p.1 with
          | none => rfl
          | some u => exact absurd (Nat.lt_of_lt_of_le (domH _ u q) h2) (Nat.lt_irrefl _)
        · rw [y] at h2; exact absurd (Nat.lt_of_lt_of_le S.loc h2) (Nat.lt_irrefl _)
        · exact absurd (Nat.lt_of_lt_of_le (S.fr _ y) h2) (Nat.lt_irrefl _)
    have hsz1 : g < s₁.gens.size := by
      have q : (s₁.setGen g gs').gens.size = s₁.gens.size := setGen_size _ _ _
      have hsz' : g + 1 ≤ (s₁.setGen g gs').gens.size := hsz
      omega
    refine wpAny_of_eq (hown _ _) ?_
    refine wpAny_passesOwn hp (thn (assign_loc I4p hN hi hk rv) fun _ s5 ⟨g5, I5⟩ => ?_)
    refine wpAny_passesOwn hp (thn (hb.run (pins ++ B') s5 _ H3 _ I5 (body3 x' pi')) fun f s7 ⟨g7, q7⟩ => ?_)
    have again : ∀ {σ7 : L2.St} {H7 : Hp}, Inv X (pins ++ B') σ7 H7 s7 → W (k + 1) σ7 H7 → ∃ m, m < μ + 1 ∧ ∃ k σ' H' gs B, k + m = N ∧ Inv X pins σ' H' s7 ∧ W k σ' H' ∧ s7.gens[g]? = some gs ∧
        gs.Goes (model X.prog X.w) X.A.in1 (CEnd X.prog X.w X.stack n Hg N PE) (CY X.prog X.w X.K X.mg X.base X.A.in1 X.stack n Hg N PI a g) m (.send .none) (s7.setGen g .running) ∧ OwnAt n B s7 ∧ s7.heap.IsGen a g ∧ ∃ o, (a, o) ∈ B := fun {σ7 H7} I7 w7 => by
      obtain ⟨kN7, sub7, _, _, _⟩ := turn (k + 1) σ7 H7 w7
      have own7 : OwnAt n B' s7 := fun p hp => ⟨(I7.pin p (List.mem_append_right _ (List.mem_append_right _ hp))).1, (own' p hp).2⟩
      have I7u : Inv X pins σ7 H7 s7 := I7.pins_of fun p hp => I7.pin p (List.mem_append_right _ (List.mem_append_left _ hp))
      obtain ⟨oa, mem7⟩ := mem'
      refine ⟨μ, Nat.lt_succ_self _, k + 1, σ7, H7, gs', B', by omega, I7u, w7, ?_, wk (by omega) _ ((sm.mono sub7).env0 (B := X.A.in1) I7u.env0 rfl (allBare_setGen (g := g) (x := .running) I7u.bare rfl)) own7, own7, ?_, oa, mem7⟩
      · rw [g7, g5]; exact setGen_at hsz1
      · obtain ⟨o', nm, qn, ho', r'⟩ := isg'
        have eo : o' = oa := Option.some.inj (ho'.symm.trans (own' _ mem7).1)
        subst eo
        exact ⟨o', nm, qn, (own7 _ mem7).1, r'⟩
    cases f with
    | next => obtain ⟨σ7, H7, I7, n7⟩ := q7; exact again I7 n7
    | cont => obtain ⟨σ7, H7, I7, n7⟩ := q7; exact again I7 n7
    | brk => obtain ⟨σ7, H7, I7, n7⟩ := q7; exact ⟨σ7, H7, I7.unpinned, n7⟩
    | ret v => obtain ⟨x7, σ7, H7, I7, r7, n7⟩ := q7; exact ⟨x7, σ7, H7, I7.unpinned, r7, n7⟩
  · intro hsz
    obtain ⟨_, pe, af⟩ := hq
    have pe' : PE k := by
      rw [show N - (μ + 1) = k from by omega] at pe; exact pe
    have I4 : Inv X pins σ3 H3 { s₁.setGen g .finished with heap := h' } := back (s₀ := s3.setGen g .running) (s1 := s₁) I3 S rfl rfl af sm3 domH hk' (allBare_setGen af.bare rfl)
    exact wpAny_execs_nil ⟨σ3, H3, I4, fin3 pe'⟩
end
end Gp
set_option Elab.async false
set_option maxRecDepth 100000
set_option autoImplicit false
set_option pp.maxSteps 400
set_option pp.deepTerms false
/-! o.m(e, ..), a generator that is drawn from item by item -/
namespace Gp
open PySem L2 PySem.Spec PyProof.Rows GenW
def restr (H : Hp) (a dx : Addr) : Hp := fun b => if b = a ∨ b = dx then H b else none
theorem restr_sub {H : Hp} {a dx : Addr} (b : Addr) (u : HO) (h : restr H a dx b = some u) : H b = some u := by
  unfold restr at h
  split at h
  · exact h
  · cases h
theorem restr_at {H : Hp} {a dx : Addr} : restr H a dx a = H a := if_pos (.inl rfl)
theorem restr_dx {H : Hp} {a dx : Addr} : restr H a dx dx = H dx := if_pos (.inr rfl)
theorem small_restr {P : Program} {w : World} {H : Hp} {a C dx : Addr} {fs : List (Str × V)} (ha : H a = some (.ins C dx fs)) (hd : H dx = some (.own a)) : Small P w (restr H a dx) H := by
  refine ⟨restr_sub, fun H' h b u sub hb ok => ?_, fun c b hc => ?_⟩
  · have hb' := hb
    unfold restr at hb
    split at hb
    · rename_i q
      rcases q with rfl | rfl
      · rw [ha] at hb
        cases hb
        obtain ⟨d, r⟩ := ok
        exact ⟨restr_dx.trans hd, r⟩
      · rw [hd] at hb
        cases hb
        exact ok
    · cases hb
  · unfold restr at hc
    split at hc
    · rename_i q
      rcases q with rfl | rfl
      · rw [ha] at hc; cases hc
      · rw [hd] at hc
        cases hc
        rw [restr_at, ha]
        exact fun z => nomatch z
    · cases hc
section
variable {X : Cx} {C f : Addr} {fd : FuncData} {ps : List Str} {sp : SpF} {k : Nat} {m : Str} {o e : Expr} {es : List Expr} {ta : TE} {t : TA} {apos pos' : Pos}
def tMethFG (C : Addr) (m : Str) (sp : SpF) (ta : TE) (t : TA) : TFG := fun σ H R => ta σ H fun x H1 => ∃ a dx fs, x = .ref a ∧ H1 a = some (.ins C dx fs) ∧ fs.lookup m = none ∧ t σ H1 fun vs H2 => H2 a = some (.ins C dx fs) ∧
  (H2 dx = some (.own a) → ∃ PI PE N, 0 < N ∧ sp (x :: vs) (restr H2 a dx) PI PE N ∧ R (restr H2 a dx) PI PE N H2)
theorem pfg_meth {pl : Sem Bool} (he : PE X o ta) (c : Cls X.K C) (hm : Meth X.K C m f) (F : FGFn X.prog X.w X.K X.mg X.base k f fd ps sp) (hr : Room k X.A) (hb : Binds X.K fd ps []) (ha : PA X (e :: es) t)
    (hst : starEach (e :: es) X.env = (false, eval e X.env) :: starEach es X.env := by rfl) (hpl : (backTo pos' (starEach es X.env)).any (·.1) = false := by rfl)
    (ht : eval (.Call (.Attribute o m apos) (e :: es) [] pos') X.env = (do
      let ov ← eval o X.env
      standAt apos.atName
      let (f, first) ← holding [ov] (getMethod ov m pl)
      callWith pos' f first (backTo pos' (starEach (e :: es) X.env)) (backToKw pos' (keywordEach [] X.env))) := by rfl) :
    PFG X k (.Call (.Attribute o m apos) (e :: es) [] pos') (tMethFG C m sp ta t) := by
  refine ⟨fun pins s σ H R I h => ?_⟩
  refine PySem.W.methodCall_KW (pl := pl) (thn (he.run pins s σ H _ I h) fun u s1 ⟨x, H1, I1, rx, a, dx, fs, ex, ea, l, q⟩ => ?_) ht
  subst ex
  obtain rfl : u = Value.ref a := rx
  refine getmeth_ok I1 ea c hm l ?_
  refine PySem.W.callWith_K (first := [.ref a]) (h₀ := X.base) I.ok.mod.kin hm.kp (thn (ha.run pos' pins s1 σ H1 _ I1 q) fun us s2 ⟨vs, H2, I2, r, ea2, q2⟩ => ⟨I2.kIn, ?_⟩) hst hpl
  have hd : H2 dx = some (.own a) := by
    have ok := I2.hok a _ ea2
    exact ok.1
  obtain ⟨PI, PE, N, pos0, hsp, hR⟩ := q2 hd
  have sm : Small X.prog X.w (restr H2 a dx) H2 := small_restr ea2 hd
  have r2 : Vals (V.ref a :: vs) (Value.ref a :: us) := .cons rfl r
  have hl2 : (Value.ref a :: us).length = ps.length := by rw [← r2.length]; exact F.len _ _ _ _ _ hsp
  have bt : BindsTo s2 fd ⟨Value.ref a :: us, []⟩ (ps.zip (Value.ref a :: us)) := by
    have z := hb s2 (Value.ref a :: us) I2.kIn (by rw [List.append_nil]; exact hl2)
    rw [List.append_nil] at z
    exact z
  refine wpAny_call (codeAny_mono (F.run X.A X.stack s2 (restr H2 a dx) ⟨Value.ref a :: us, []⟩ (Value.ref a :: us) (V.ref a :: vs) PI PE N hr (sm.env0 (B := X.A) (G := s2.gens) I2.env0 rfl I2.bare) bt r2 pos0 hsp) fun r' s' hq => ?_)
  cases r' with
  | error e => exact False.elim hq
  | ok fl =>
    cases fl with
    | ret u => exact ⟨_, PI, PE, N, H2, s2, I2, hq, sm, pos0, hR⟩
    | next => exact False.elim hq
    | brk => exact False.elim hq
    | cont => exact False.elim hq
end
end Gp
set_option Elab.async false
set_option maxRecDepth 100000
set_option autoImplicit false
set_option pp.maxSteps 400
set_option pp.deepTerms false
/-! the row behind a row -/
namespace Kx
open PySem L2 PySem.Spec PyProof.Rows Rg Er Ru Tn
abbrev sBehind : Stmt := top 16
abbrev sWRows : Stmt := inClass (top 14) 10
def rept (x : Str) (n : Nat) : Str := ⟨(List.replicate n x.cps).foldl (· ++ ·) #[]⟩
theorem rept_one (x : Str) : rept x 1 = x := by
  obtain ⟨a⟩ := x
  show (⟨#[] ++ a⟩ : Str) = ⟨a⟩
  simp
def rMulS : R2 := fun x y H Q => ∃ (i : Str) (n : Int), x = .str i ∧ y = .int n ∧ 1 ≤ n ∧ n ≤ 1000 ∧ 0 < i.length ∧ i.length ≤ 1000 ∧ (rept i n.toNat).length ≤ sizeLine ∧ Q (.str (rept i n.toNat)) H
theorem op_mulS {X : Cx} : OpR X (binaryOp .Mult) rMulS := by
  rintro pins s σ H x y v u Q I rx ry ⟨i, n, rfl, rfl, n1, n2, l1, l2, l3, q⟩
  obtain ⟨t, rfl⟩ := rx
  obtain ⟨t', rfl⟩ := ry
  have nl : ¬ n < 1 := by omega
  refine PySem.P.mul_str ?_ (fun _ _ => ?_) (fun _ _ => ?_) ?_
  · rw [decide_eq_false (show ¬ n < -(2 ^ 63) by omega), decide_eq_false (show ¬ n ≥ 2 ^ 63 by omega)]
    rfl
  · have h1 : (1000 : Int) ≤ (2 ^ 63 - 1) / n := (Int.le_ediv_iff_mul_le (by omega)).mpr (by omega)
    omega
  · unfold Builtin.Str.tooLong
    refine decide_eq_false ?_
    have : i.length * n.toNat ≤ 1000 * 1000 := Nat.mul_le_mul l2 (by omega)
    rw [sizeLine_eq]
    omega
  · rw [if_neg nl]
    by_cases e : n = 1
    · subst e
      rw [if_pos (by rw [show ((1 : Int) == 1) = true from rfl, Bool.true_or])]
      rw [show (1 : Int).toNat = 1 from rfl, rept_one] at q
      exact ⟨.str i, H, I, ⟨t, rfl⟩, q⟩
    · rw [if_neg (by
        have a : (n == 1) = false := by simpa using e
        have b : (i.length == 0) = false := by simpa using Nat.ne_of_gt l1
        rw [a, b]; decide)]
      exact ⟨l3, .str (rept i n.toNat), H, I.tok _, ⟨_, rfl⟩, q⟩
def sg (d : Nat) : V := V.str ⟨#[d]⟩
theorem bIxS {X : Cx} {a b : Expr} {ta tb : TE} {pos : Pos} (ha : PE X a ta) (hb : PE X b tb) (hs : PlainIx b := by intro _ _; rfl) : PE X (.Subscript a b pos) (tOp rIxS ta tb) := pe_ix ix_str ha hb hs
theorem rept_one_sign (c : Nat) : ∀ (n : Nat) (a : Array Nat), (List.replicate n (#[c] : Array Nat)).foldl (· ++ ·) a = (a.toList ++ List.replicate n c).toArray
  | 0, a => by simp
  | n + 1, a => by
    rw [List.replicate_succ, List.foldl_cons, rept_one_sign c n]
    rw [List.replicate_succ]
    simp
/-- a sign * a number -/
def rMulC : R2 := fun x y H Q => ∃ (c n : Nat), x = .str ⟨#[c]⟩ ∧ y = .int (n : Int) ∧ n ≤ 1000 ∧ Q (.str ⟨(List.replicate n c).toArray⟩) H
theorem op_mulC {X : Cx} : OpR X (binaryOp .Mult) rMulC := by
  rintro pins s σ H x y v u Q I rx ry ⟨c, n, rfl, rfl, n1, q⟩
  by_cases z : n = 0
  · subst z
    exact op_mul1 pins s σ H _ _ v u Q I rx ry ⟨_, false, rfl, rfl, q⟩
  · have e : rept ⟨#[c]⟩ n = ⟨(List.replicate n c).toArray⟩ := by
      show (⟨(List.replicate n (#[c] : Array Nat)).foldl (· ++ ·) #[]⟩ : Str) = _
      rw [rept_one_sign]
      simp
    refine op_mulS pins s σ H _ _ v u Q I rx ry ⟨_, (n : Int), rfl, rfl, by omega, by omega, by show 0 < 1; decide, by show 1 ≤ 1000; decide, ?_, ?_⟩
    · rw [show ((n : Int)).toNat = n from rfl, e]
      show ((List.replicate n c).toArray).size ≤ _
      rw [sizeLine_eq]; simp; omega
    · rw [show ((n : Int)).toNat = n from rfl, e]; exact q
def sucV (cs r : List Nat) : V := match sucR cs.length r with
  | none => .non
  | some r' => .str (encR cs r')
def spBehind : Sp := fun vs H Q _ => ∃ (cs r : List Nat), vs = [.str ⟨cs.toArray⟩, .str (encR cs r)] ∧ 1 ≤ cs.length ∧ cs.length ≤ 1000 ∧ cs.Nodup ∧ (∀ d ∈ r, d < cs.length) ∧ r.length ≤ 1000 ∧ Q (sucV cs r) H
theorem scBehind : FnScope ["signs", "row", "head", "sign"] ["signs", "row"] (defScope sBehind) := ⟨rfl, rfl, rfl, by decide +kernel, rfl, by decide +kernel, by decide +kernel⟩
theorem encR_app (cs a b : List Nat) : encR cs (a ++ b) = ⟨(b.reverse.map (fun d => cs.getD d 0) ++ a.reverse.map fun d => cs.getD d 0).toArray⟩ := by
  unfold encR
  rw [List.reverse_append, List.map_append]
theorem atLast {l : List Nat} {c : Nat} (h : l.getLast? = some c) : atI l (-1) = some c := by
  have : l = l.dropLast ++ [c] := by
    obtain ⟨hne, e⟩ := List.getLast?_eq_some_iff.mp h |>.imp fun ys e => e
    rw [e]; simp
  rw [this]
  exact atI_last _ _
theorem cut_last (l : List Nat) (c : Nat) : cutS ⟨(l ++ [c]).toArray⟩ none (some (-1)) = ⟨l.toArray⟩ := by
  have len : (⟨(l ++ [c]).toArray⟩ : Str).length = l.length + 1 := by
    show ((l ++ [c]).toArray).size = _
    simp
  unfold cutS
  rw [len, show HT.sIx (l.length + 1) 0 none = 0 from rfl, show HT.sIx (l.length + 1) (l.length + 1) (some (-1)) = l.length from by
    unfold HT.sIx
    simp
    omega]
  simp
section
variable {P : Program} {w : World} {K : PySem.W.Frag} {mg : Str → Option Value} {base : Heap}
theorem ok_behind {f : Addr} {fd : FuncData} (F : L2.Fun K "row_behind" "row_behind" sBehind f fd) (T : Txt mg) : FnOk P w K mg base CX0 1 f fd ["signs", "row"] spBehind := by
  refine F.ok scBehind (fun vs H Q E h => ?_) (fun cdv A outer s H vs Q E hr h => ?_)
  · obtain ⟨cs, r, rfl, _⟩ := h
    rfl
  · obtain ⟨cs, r, rfl, l1, l4, nd0, low, rl, k⟩ := h
    have nd := scBehind.nd
    refine ⟨_, pss_cons (ps_set (i := 2) nd rfl (.inl rfl) (pe_bm PySem.F.plainAttrs_str PySem.F.slot_str_rstrip PySem.F.type_str_rstrip mt_rstripChars (pv 1) (pa_cons (bIxS (pv 0) (pe_un un_neg pe_int)) pa_nil)))
      (pss_cons (ps_if (pt_cmpR op_eq (pv 2) pe_str (nomark _)) (pss_one (ps_ret pe_non)) pss_nil)
      (pss_cons (ps_set (i := 3) nd rfl (.inl rfl) (bIxS (pv 0) (pe_op op_add (bIndex rfl takes0 (pv 0) (bIxS (pv 2) (pe_un un_neg pe_int))) pe_int)))
      (pss_one (ps_ret (pe_op op_add_str (pe_op op_add_str (pe_slice sl_str (pv 2) po_none (po_some (pe_un un_neg pe_int))) (pv 3)) (pe_op op_mulC (bIxS (pv 0) pe_int) (pe_op op_sub (bLen (by rfl) T.len (pv 1)) (bLen (by rfl) T.len (pv 2))))))))), ?_⟩
    have hk : cs.length - 1 < cs.length := by omega
    have hc : cs[cs.length - 1]? = some (cs.getD (cs.length - 1) 0) := by
      rw [List.getD_eq_getElem?_getD, List.getElem?_eq_getElem hk]; rfl
    have lastc : cs.getLast? = some (cs.getD (cs.length - 1) 0) := by
      rw [List.getLast?_eq_getElem?]; exact hc
    have gd : ∀ d, d < cs.length → cs[d]? = some (cs.getD d 0) := fun d h => by
      rw [List.getD_eq_getElem?_getD, List.getElem?_eq_getElem h]; rfl
    have csl : (⟨cs.toArray⟩ : Str).length ≤ sizeLine := by
      show cs.toArray.size ≤ _
      rw [sizeLine_eq]; simp; omega
    have rowl : (encR cs r).length ≤ sizeLine := len_small (by rw [encR_len]; exact rl)
    refine ⟨_, rfl, rfl, _, rfl, 1, rfl, ⟨cs.toArray⟩, -1, cs.getD (cs.length - 1) 0, rfl, rfl, csl, by
      rw [show (⟨cs.toArray⟩ : Str).cps.toList = cs from List.toList_toArray]
      exact atLast lastc, encR cs r, _, rfl, rfl, rowl, ?_⟩
    have repl : ∀ m, ((List.replicate m (cs.length - 1)).reverse.map fun d => cs.getD d 0) = List.replicate m (cs.getD (cs.length - 1) 0) := fun m => by simp
    rcases suc_form r low with ⟨m, er, es⟩ | ⟨m, d, r2, er, dk, es⟩
    · have e1 : encR cs r = ⟨([] ++ List.replicate m (cs.getD (cs.length - 1) 0)).toArray⟩ := by
        rw [er]
        show (⟨((List.replicate m (cs.length - 1)).reverse.map fun d => cs.getD d 0).toArray⟩ : Str) = _
        rw [repl]; simp
      rw [e1, rstrip_one (fun d h => by simp at h)]
      refine ⟨_, rfl, rfl, _, rfl, iteT ?_⟩
      have : sucV cs r = .non := by unfold sucV; rw [es]
      rw [this] at k
      exact k
    · have dl : d < cs.length := by omega
      have e1 : encR cs r = ⟨(((d :: r2).reverse.map fun d => cs.getD d 0) ++ List.replicate m (cs.getD (cs.length - 1) 0)).toArray⟩ := by
        rw [er, encR_app, repl]
      have el : ((d :: r2).reverse.map fun d => cs.getD d 0) = (r2.reverse.map fun d => cs.getD d 0) ++ [cs.getD d 0] := by
        rw [List.reverse_cons, List.map_append]; rfl
      have ne : cs.getD d 0 ≠ cs.getD (cs.length - 1) 0 := fun z => by
        have h1 := gd d dl
        have h2 := gd _ hk
        rw [z] at h1
        obtain ⟨a1, b1⟩ := List.getElem?_eq_some_iff.mp h1
        obtain ⟨a2, b2⟩ := List.getElem?_eq_some_iff.mp h2
        have := (List.getElem_inj nd0).mp (b1.trans b2.symm)
        omega
      rw [e1, rstrip_one (fun x h => by
        rw [el] at h
        simp at h
        rw [← h]; exact ne), el]
      have hl2 : (r2.reverse.map fun d => cs.getD d 0).length = r2.length := by simp
      have rl2 : r2.length + 1 ≤ 1000 := by
        rw [er] at rl
        simp at rl
        omega
      have ix : Txt.index0 (⟨cs.toArray⟩ : Str) ⟨#[cs.getD d 0]⟩ = some d := by
        have mem : cs.getD d 0 ∈ cs := List.mem_of_getElem? (gd d dl)
        rw [idx_of nd0 mem]
        obtain ⟨lt, e⟩ := List.getElem?_eq_some_iff.mp (gd d dl)
        have := nd0.idxOf_getElem d lt
        rw [e] at this
        rw [this]
      generalize hh : (r2.reverse.map fun d => cs.getD d 0) = hd at hl2
      have hdl : (⟨(hd ++ [cs.getD d 0]).toArray⟩ : Str).length ≤ sizeLine := by
        show ((hd ++ [cs.getD d 0]).toArray).size ≤ _
        rw [sizeLine_eq]; simp; omega
      have ht : decide (V.str ⟨(hd ++ [cs.getD d 0]).toArray⟩ = V.str "") = false := decide_eq_false fun z => by
        have := congrArg (fun s : Str => s.length) (V.str.inj z)
        have e : (⟨(hd ++ [cs.getD d 0]).toArray⟩ : Str).length = hd.length + 1 := by
          show ((hd ++ [cs.getD d 0]).toArray).size = _
          simp
        rw [e] at this
        exact absurd this (by show ¬ (hd.length + 1 = 0); omega)
      refine ⟨_, rfl, rfl, _, rfl, ?_⟩
      rw [ht]
      refine iteF ⟨_, rfl, _, rfl, rfl, _, rfl, 1, rfl, _, -1, cs.getD d 0, rfl, rfl, hdl, by
        rw [show (⟨(hd ++ [cs.getD d 0]).toArray⟩ : Str).cps.toList = hd ++ [cs.getD d 0] from List.toList_toArray]
        exact atI_last _ _, _, _, rfl, rfl, fun k1 hk1 => ?_, fun z => by
          have z' : Txt.index0 (⟨cs.toArray⟩ : Str) ⟨#[cs.getD d 0]⟩ = none := z
          rw [ix] at z'; cases z'⟩
      have hk1' : Txt.index0 (⟨cs.toArray⟩ : Str) ⟨#[cs.getD d 0]⟩ = some k1 := hk1
      rw [ix] at hk1'
      cases hk1'
      refine ⟨_, _, rfl, rfl, ⟨cs.toArray⟩, ((d + 1 : Nat) : Int), cs.getD (d + 1) 0, rfl, by simp, csl, by
        rw [show (⟨cs.toArray⟩ : Str).cps.toList = cs from List.toList_toArray]
        exact atI_nat (gd _ dk), ?_⟩
      refine ⟨_, rfl, 1, rfl, _, rfl, _, rfl, hdl, ?_⟩
      rw [cut_last]
      have hdl2 : (⟨hd.toArray⟩ : Str).length = r2.length := by
        show hd.toArray.size = _
        rw [List.size_toArray, hl2]
      have mlt : m ≤ 1000 := by
        rw [er] at rl
        simp at rl
        omega
      have len1 : (⟨(hd ++ [cs.getD d 0] ++ List.replicate m (cs.getD (cs.length - 1) 0)).toArray⟩ : Str).length = r2.length + 1 + m := by
        show ((hd ++ [cs.getD d 0] ++ List.replicate m (cs.getD (cs.length - 1) 0)).toArray).size = _
        simp [hl2]
        omega
      have len2 : (⟨(hd ++ [cs.getD d 0]).toArray⟩ : Str).length = r2.length + 1 := by
        show ((hd ++ [cs.getD d 0]).toArray).size = _
        simp [hl2]
      have len1s : r2.length + 1 + m ≤ 1000 := by
        rw [er] at rl
        simp at rl
        omega
      refine ⟨_, rfl, _, _, rfl, rfl, by rw [hdl2, sizeLine_eq]; show r2.length + 1 ≤ _; omega, ?_⟩
      refine ⟨_, rfl, ⟨cs.toArray⟩, ((0 : Nat) : Int), cs.getD 0 0, rfl, rfl, csl, by
        rw [show (⟨cs.toArray⟩ : Str).cps.toList = cs from List.toList_toArray]
        exact atI_nat (gd 0 (by omega)), ?_⟩
      refine ⟨_, rfl, _, r2.length + 1 + m, rfl, ⟨by rw [len1]; exact Nat.le_trans len1s (by decide), len1.symm⟩, _, rfl, _, r2.length + 1, rfl, ⟨by rw [len2]; exact Nat.le_trans rl2 (by decide), len2.symm⟩, _, _, rfl, rfl, ?_⟩
      refine ⟨cs.getD 0 0, m, rfl, by
        show V.int (((r2.length + 1 + m : Nat) : Int) - ((r2.length + 1 : Nat) : Int)) = V.int (m : Int)
        congr 1
        omega, mlt, ?_⟩
      refine ⟨_, _, rfl, rfl, ?_, ?_⟩
      · show (hd.toArray ++ #[cs.getD (d + 1) 0]).size + (List.replicate m (cs.getD 0 0)).toArray.size ≤ _
        rw [sizeLine_eq]; simp [hl2]; omega
      · have : sucV cs r = .str ((⟨hd.toArray⟩ : Str) ++ ⟨#[cs.getD (d + 1) 0]⟩ ++ ⟨(List.replicate m (cs.getD 0 0)).toArray⟩) := by
          unfold sucV
          rw [es]
          show V.str (encR cs (List.replicate m 0 ++ (d + 1) :: r2)) = _
          rw [encR_app, List.reverse_cons, List.map_append, hh]
          refine congrArg V.str (TL.ext_tl ?_)
          show _ = ((⟨hd.toArray⟩ : Str) ++ ⟨#[cs.getD (d + 1) 0]⟩ ++ ⟨(List.replicate m (cs.getD 0 0)).toArray⟩).cps.toList
          rw [Str.cps_append, Str.cps_append, Array.toList_append, Array.toList_append]
          show (hd ++ _ ++ _ : List Nat) = _
          simp
        rw [this] at k
        exact k
/-- rows of a length, all of them: for list(..) -/
def rowV (cs r : List Nat) : V := .str (encR cs r)
def spRowsL (C : Addr) : SpG := fun vs H Q _ => ∃ (a dx p : Addr) (es : List (Nat × Int)) (n : Nat), vs = [.ref a, .int (n : Int)] ∧ H a = some (.ins C dx (wf (letters es) p)) ∧ 1 ≤ es.length ∧ es.length ≤ 4 ∧ (es.map (·.1)).Nodup ∧ n ≤ 3 ∧ Q ((allR es.length n).map (rowV (es.map (·.1)))) H
def spRowsF (C : Addr) : Gp.SpF := fun vs H PI PE _ => ∃ (a dx p : Addr) (es : List (Nat × Int)) (n : Nat), vs = [.ref a, .int (n : Int)] ∧ H a = some (.ins C dx (wf (letters es) p)) ∧ 1 ≤ es.length ∧ es.length ≤ 4 ∧ (es.map (·.1)).Nodup ∧ n ≤ 1000 ∧
  (∀ k r, (allR es.length n)[k]? = some r → PI k (rowV (es.map (·.1)) r)) ∧ PE (allR es.length n).length
theorem gsRows : GScope ["self", "length", "row"] ["self", "length"] (defScope sWRows) := ⟨rfl, rfl, rfl, by decide +kernel, rfl, by decide +kernel, by decide +kernel⟩
theorem run_cons {α : Type} {f : α → Option α} {x : α} {L : List α} (h : RunOf f x L) : ∃ R, L = x :: R ∧ ((f x = none ∧ R = []) ∨ ∃ y, f x = some y ∧ RunOf f y R) := by
  cases h with
  | last e => exact ⟨[], rfl, .inl ⟨e, rfl⟩⟩
  | more e r => exact ⟨_, rfl, .inr ⟨_, e, r⟩⟩
theorem sum_same {β : Type} (k : Nat) : ∀ l : List β, (l.map fun _ => k).sum = l.length * k
  | [] => (Nat.zero_mul k).symm
  | b :: l => by rw [List.map_cons, List.sum_cons, sum_same k l, List.length_cons, Nat.succ_mul, Nat.add_comm]
theorem allR_len (k : Nat) : ∀ n, (allR k n).length = k ^ n
  | 0 => rfl
  | n + 1 => by
    show ((allR k n).flatMap fun r => (List.range k).map (· :: r)).length = _
    rw [List.length_flatMap, show (fun a => ((fun r => (List.range k).map (· :: r)) a).length) = (fun _ : List Nat => k) from by funext r; simp, sum_same, allR_len k n, Nat.pow_succ]
/-- the rows behind a row: what is left of all -/
theorem allR_low {k : Nat} (pos : 0 < k) : ∀ (n : Nat) (r : List Nat), r ∈ allR k n → r.length = n ∧ ∀ d ∈ r, d < k
  | 0, r, h => by
    have : r = [] := List.mem_singleton.mp h
    subst this
    exact ⟨rfl, fun d hd => by cases hd⟩
  | n + 1, r, h => by
    obtain ⟨q, hq, h2⟩ := List.mem_flatMap.mp h
    obtain ⟨d, hd, rfl⟩ := List.mem_map.mp h2
    obtain ⟨e1, e2⟩ := allR_low pos n q hq
    refine ⟨by rw [List.length_cons, e1], fun e he => ?_⟩
    rcases List.mem_cons.mp he with rfl | he
    · exact List.mem_range.mp hd
    · exact e2 e he
theorem zeros_enc (cs : List Nat) (n : Nat) : encR cs (List.replicate n 0) = ⟨(List.replicate n (cs.getD 0 0)).toArray⟩ := by
  unfold encR
  simp
theorem ok_rowsL {C f f1 ps_ gs cd : Addr} {fd1 fds : FuncData} {oc dV kV doc pm ct : Value} {an od : Option Addr} {osl : Array (Option Value)} (lk : K.lookup f = some ⟨oc, od, .func (PySem.W.fnOf "rows" "Weights.rows" (defArgs sWRows) (defBody sWRows) (defScope sWRows) dV kV doc pm an (.ref cd) ct), osl⟩) (hcd : PySem.W.codeIn K (.ref cd) "Weights.rows" = true) (M : WT K C)
    (G1 : FnOk P w K mg base CX0 1 f1 fd1 ["signs", "row"] spBehind) (m1 : mg "row_behind" = some (.ref f1)) (k1 : PySem.W.keepIn K (.ref f1) = true) (b1 : L2.Binds K fd1 ["signs", "row"] [])
    (po : PropOf K C "signs" ps_ gs) (GS : FnOk P w K mg base CX0 1 gs fds ["self"] (getSp C "_signs")) (bS : L2.Binds K fds ["self"] []) :
    GFn P w K mg base 3 f (PySem.W.fnOf "rows" "Weights.rows" (defArgs sWRows) (defBody sWRows) (defScope sWRows) dV kV doc pm an (.ref cd) ct) ["self", "length"] (spRowsL C) := by
  refine gfn_of lk hcd gsRows (fun vs H Q E h => ?_) (fun A outer s H vs Q E pn hr h => ?_)
  · obtain ⟨a, dx, p, es, n, rfl, _⟩ := h
    rfl
  · obtain ⟨a, dx, p, es, n, rfl, ha, l1, l4, nd0, n3, k⟩ := h
    have nd := gsRows.nd
    have hr1 := hr.mono (show 1 ≤ 2 by decide)
    have hr2 := hr.mono (show 1 + 1 ≤ 2 by decide)
    refine ⟨_, gss_cons (gs_ps (ps_set (i := 2) nd rfl (.inl rfl) (pe_op op_mulC (bIxS (pe_prop (pv 0) M.cl po GS hr2 bS .nil pass0 rfl) pe_int) (pv 1))))
      (gss_cons (gs_while owns_gcx (pt_cmp (pc_notN (pv 2))) (gss_cons (gs_yield (pv 2)) (gss_cons (gs_ps (ps_set (i := 2) nd rfl (.inl rfl) (pe_call G1 hr1 (by rfl) m1 k1 b1 .nil pass0 (pa_cons (pe_prop (pv 0) M.cl po GS hr2 bS .nil pass0 rfl) (pa_cons (pv 2) pa_nil))))) gss_nil))) gss_nil), ?_⟩
    have lm : (es.map (·.1)).length = es.length := by simp
    have zl : (letters es).length ≤ sizeLine := by
      unfold letters
      show ((es.map (·.1)).toArray).size ≤ _
      rw [sizeLine_eq]; simp; omega
    have c0 : (es.map (·.1))[0]? = some ((es.map (·.1)).getD 0 0) := by
      rw [List.getD_eq_getElem?_getD, List.getElem?_eq_getElem (by rw [lm]; omega)]; rfl
    have lt : (letters es).cps.toList = es.map (·.1) := by unfold letters; rw [List.toList_toArray]
    have pos : 0 < es.length := by omega
    refine ⟨_, rfl, a, dx, _, rfl, ha, a, dx, _, _, rfl, ha, wf_signs _ _, _, ((0 : Nat) : Int), (es.map (·.1)).getD 0 0, rfl, rfl, zl, by rw [lt]; exact atI_nat c0, _, rfl, _, n, rfl, rfl, by omega, ?_⟩
    rw [← zeros_enc]
    have all := run_all pos n
    have low := allR_low pos n
    have few : (allR es.length n).length ≤ 64 := by
      rw [allR_len]
      have : es.length ^ n ≤ 4 ^ n := Nat.pow_le_pow_left l4 n
      have : 4 ^ n ≤ 4 ^ 3 := Nat.pow_le_pow_right (by decide) n3
      omega
    generalize allR es.length n = AL at all low few k
    refine ⟨fun m ys σ' H' => H' = H ∧ ∃ v, σ' = [some (.ref a), some (.int (n : Int)), some v] ∧ ((v = .non ∧ m = 0 ∧ ys = AL.map (rowV (es.map (·.1)))) ∨ ∃ r L done, v = rowV (es.map (·.1)) r ∧ RunOf (sucR es.length) r L ∧ m = L.length ∧ AL = done ++ L ∧ ys = done.map (rowV (es.map (·.1)))), ⟨AL.length, rfl, _, rfl, .inr ⟨_, AL, [], rfl, all, rfl, rfl, rfl⟩⟩, ?_⟩
    rintro m ys σ' H' ⟨rfl, v, rfl, how⟩
    rcases how with ⟨rfl, rfl, rfl⟩ | ⟨r, L, done, rfl, run, rfl, eA, rfl⟩
    · refine ⟨_, rfl, _, rfl, iteF ?_⟩
      exact k
    · obtain ⟨R, rfl, nxt⟩ := run_cons run
      obtain ⟨rl, rlow⟩ := low r (by rw [eA]; exact List.mem_append_right _ List.mem_cons_self)
      have dl : done.length ≤ 64 := by rw [eA] at few; simp at few; omega
      refine ⟨_, rfl, _, rfl, iteT ?_⟩
      refine ⟨fun ys' σ' H'' => ∃ m', m' < (r :: R).length ∧ (H'' = H' ∧ ∃ v, σ' = [some (.ref a), some (.int (n : Int)), some v] ∧ ((v = .non ∧ m' = 0 ∧ ys' = AL.map (rowV (es.map (·.1)))) ∨ ∃ r L done, v = rowV (es.map (·.1)) r ∧ RunOf (sucR es.length) r L ∧ m' = L.length ∧ AL = done ++ L ∧ ys' = done.map (rowV (es.map (·.1))))), fun ys' σ' H' h => h, ?_⟩
      refine ⟨by rw [List.length_map, sizeLine_eq]; omega, _, rfl, ?_⟩
      refine ⟨_, rfl, a, dx, _, rfl, ha, a, dx, _, _, rfl, ha, wf_signs _ _, _, rfl, es.map (·.1), r, rfl, by rw [lm]; exact l1, by rw [lm]; omega, nd0, by rw [lm]; exact rlow, by omega, ?_⟩
      unfold sucV
      rw [lm]
      rcases nxt with ⟨e, rfl⟩ | ⟨y, e, run2⟩
      · rw [e]
        refine ⟨0, by simp, rfl, _, rfl, .inl ⟨rfl, rfl, ?_⟩⟩
        rw [eA, List.map_append]; rfl
      · rw [e]
        refine ⟨R.length, by simp, rfl, _, rfl, .inr ⟨y, R, done ++ [r], rfl, run2, rfl, by rw [eA, List.append_assoc]; rfl, by rw [List.map_append]; rfl⟩⟩
end
end Kx
set_option Elab.async false
set_option maxRecDepth 100000
set_option autoImplicit false
set_option pp.maxSteps 400
set_option pp.deepTerms false
/-! the rows of a length, drawn one by one -/
namespace Kx
open PySem L2 PySem.Spec PyProof.Rows Rg Er Ru Tn
section
variable {P : Program} {w : World} {K : PySem.W.Frag} {mg : Str → Option Value} {base : Heap}
theorem ok_rowsF {C f f1 ps_ gs cd : Addr} {fd1 fds : FuncData} {oc dV kV doc pm ct : Value} {an od : Option Addr} {osl : Array (Option Value)} (lk : K.lookup f = some ⟨oc, od, .func (PySem.W.fnOf "rows" "Weights.rows" (defArgs sWRows) (defBody sWRows) (defScope sWRows) dV kV doc pm an (.ref cd) ct), osl⟩) (hcd : PySem.W.codeIn K (.ref cd) "Weights.rows" = true) (M : WT K C)
    (G1 : FnOk P w K mg base CX0 1 f1 fd1 ["signs", "row"] spBehind) (m1 : mg "row_behind" = some (.ref f1)) (k1 : PySem.W.keepIn K (.ref f1) = true) (b1 : L2.Binds K fd1 ["signs", "row"] [])
    (po : PropOf K C "signs" ps_ gs) (GS : FnOk P w K mg base CX0 1 gs fds ["self"] (getSp C "_signs")) (bS : L2.Binds K fds ["self"] []) :
    Gp.FGFn P w K mg base 3 f (PySem.W.fnOf "rows" "Weights.rows" (defArgs sWRows) (defBody sWRows) (defScope sWRows) dV kV doc pm an (.ref cd) ct) ["self", "length"] (spRowsF C) := by
  refine Gp.fgen_of lk hcd gsRows (by decide +kernel) (fun vs H PI PE N h => ?_) (fun A outer s H vs PI PE N pn hr h => ?_)
  · obtain ⟨a, dx, p, es, n, rfl, _⟩ := h
    rfl
  · obtain ⟨a, dx, p, es, n, rfl, ha, l1, l4, nd0, n3, pi, pe⟩ := h
    have nd := gsRows.nd
    have hr1 := hr.mono (show 1 ≤ 2 by decide)
    have hr2 := hr.mono (show 1 + 1 ≤ 2 by decide)
    refine ⟨_, Gp.fss_cons (Gp.fs_ps fun s₀ => ps_set (i := 2) nd rfl (.inl rfl) (pe_op op_mulC (bIxS (pe_prop (pv 0) M.cl po GS hr2 bS .nil pass0 rfl) pe_int) (pv 1)))
      (Gp.fss_cons (Gp.fs_while (fun s₀ => pt_cmp (pc_notN (pv 2))) (Gp.fss_cons (Gp.fs_yield fun s₀ => pv 2) (Gp.fss_cons (Gp.fs_ps fun s₀ => ps_set (i := 2) nd rfl (.inl rfl) (pe_call G1 hr1 (by rfl) m1 k1 b1 .nil pass0 (pa_cons (pe_prop (pv 0) M.cl po GS hr2 bS .nil pass0 rfl) (pa_cons (pv 2) pa_nil)))) Gp.fss_nil))) Gp.fss_nil), ?_⟩
    have lm : (es.map (·.1)).length = es.length := by simp
    have zl : (letters es).length ≤ sizeLine := by
      unfold letters
      show ((es.map (·.1)).toArray).size ≤ _
      rw [sizeLine_eq]; simp; omega
    have c0 : (es.map (·.1))[0]? = some ((es.map (·.1)).getD 0 0) := by
      rw [List.getD_eq_getElem?_getD, List.getElem?_eq_getElem (by rw [lm]; omega)]; rfl
    have lt : (letters es).cps.toList = es.map (·.1) := by unfold letters; rw [List.toList_toArray]
    have pos : 0 < es.length := by omega
    refine ⟨_, rfl, a, dx, _, rfl, ha, a, dx, _, _, rfl, ha, wf_signs _ _, _, ((0 : Nat) : Int), (es.map (·.1)).getD 0 0, rfl, rfl, zl, by rw [lt]; exact atI_nat c0, _, rfl, _, n, rfl, rfl, by omega, rfl, ?_⟩
    rw [← zeros_enc]
    have all := run_all pos n
    have low := allR_low pos n
    generalize allR es.length n = AL at all low pi pe
    refine ⟨fun m k σ' => ∃ v, σ' = [some (.ref a), some (.int (n : Int)), some v] ∧ ((v = .non ∧ m = 0 ∧ k = AL.length) ∨ ∃ r L done, v = rowV (es.map (·.1)) r ∧ RunOf (sucR es.length) r L ∧ m = L.length ∧ AL = done ++ L ∧ k = done.length), ⟨AL.length, _, rfl, .inr ⟨_, AL, [], rfl, all, rfl, rfl, rfl⟩⟩, ?_⟩
    rintro m k σ' ⟨v, rfl, how⟩
    rcases how with ⟨rfl, rfl, rfl⟩ | ⟨r, L, done, rfl, run, rfl, eA, rfl⟩
    · exact ⟨_, rfl, _, rfl, rfl, iteF pe⟩
    · obtain ⟨R, rfl, nxt⟩ := run_cons run
      obtain ⟨rl, rlow⟩ := low r (by rw [eA]; exact List.mem_append_right _ List.mem_cons_self)
      have at_ : AL[done.length]? = some r := by rw [eA, List.getElem?_append_right (Nat.le_refl _), Nat.sub_self]; rfl
      refine ⟨_, rfl, _, rfl, rfl, iteT ?_⟩
      refine ⟨fun k' σ' => ∃ m', m' < (r :: R).length ∧ (∃ v, σ' = [some (.ref a), some (.int (n : Int)), some v] ∧ ((v = .non ∧ m' = 0 ∧ k' = AL.length) ∨ ∃ r L done, v = rowV (es.map (·.1)) r ∧ RunOf (sucR es.length) r L ∧ m' = L.length ∧ AL = done ++ L ∧ k' = done.length)), fun k' σ' h => h, ?_⟩
      refine ⟨_, rfl, rfl, pi _ _ at_, fun _ => ?_⟩
      refine ⟨_, rfl, a, dx, _, rfl, ha, a, dx, _, _, rfl, ha, wf_signs _ _, _, rfl, es.map (·.1), r, rfl, by rw [lm]; exact l1, by rw [lm]; omega, nd0, by rw [lm]; exact rlow, by omega, ?_⟩
      unfold sucV
      rw [lm]
      rcases nxt with ⟨e, rfl⟩ | ⟨y, e, run2⟩
      · rw [e]
        refine ⟨rfl, 0, by simp, _, rfl, .inl ⟨rfl, rfl, ?_⟩⟩
        rw [eA]; simp
      · rw [e]
        refine ⟨rfl, R.length, by simp, _, rfl, .inr ⟨y, R, done ++ [r], rfl, run2, rfl, by rw [eA, List.append_assoc]; rfl, by simp⟩⟩
end
end Kx
set_option Elab.async false
set_option maxRecDepth 100000
set_option autoImplicit false
set_option pp.maxSteps 400
set_option pp.deepTerms false
/-! a < b, a == b of data; drawn texts; the weight of a row by the law -/
namespace Kx
open PySem L2 PySem.Spec PyProof.Rows Rg Er Ru Tn
abbrev sText : Stmt := top 21
abbrev sWeight : Stmt := top 23
def rLtD (K : PySem.W.Frag) : R2 := fun x y H Q => ∃ d e, Rp K H x d ∧ Rp K H y e ∧ PySem.W.alike d e = true ∧ d ≠ .none ∧ d.depth ≤ 20 ∧ Q (.bl (PySem.W.dataLt d e)) H
theorem op_ltD {X : Cx} (hu : X.A.units + 64 < cLine) : OpR X (compareOp .Lt) (rLtD X.K) := by
  rintro pins s σ H x y v u Q I rx ry ⟨d, e, hd, he, al, nn, dp, q⟩
  obtain ⟨as, r1⟩ := Rp.reads I hd rx
  obtain ⟨bs, r2⟩ := Rp.reads I he ry
  exact PySem.W.rcLt_alike d e X.A s v u as bs r1 r2 al nn (by omega) X.prog X.w _ _ ⟨.bl _, H, I, rfl, q⟩
def rEqP (K : PySem.W.Frag) (neg : Bool) : R2 := fun x y H Q => ∃ d e, Rp K H x d ∧ Rp K H y e ∧ SeqAt.shaped d = true ∧ SeqAt.shaped e = true ∧ Q (.bl (if neg then !PyData.eqv d e else PyData.eqv d e)) H
theorem op_eqP {X : Cx} (hu : X.A.units + 64 < cLine) : OpR X (compareOp .Eq) (rEqP X.K false) := by
  rintro pins s σ H x y v u Q I rx ry ⟨d, e, hd, he, sd, se, q⟩
  obtain ⟨as, r1⟩ := Rp.reads I hd rx
  obtain ⟨bs, r2⟩ := Rp.reads I he ry
  exact SeqAt.compareEq_shaped r1 r2 sd se hu ⟨.bl _, H, I, rfl, q⟩
theorem op_neP {X : Cx} (hu : X.A.units + 64 < cLine) : OpR X (compareOp .NotEq) (rEqP X.K true) := by
  rintro pins s σ H x y v u Q I rx ry ⟨d, e, hd, he, sd, se, q⟩
  obtain ⟨as, r1⟩ := Rp.reads I hd rx
  obtain ⟨bs, r2⟩ := Rp.reads I he ry
  exact SeqAt.compareNe_shaped r1 r2 sd se hu ⟨.bl _, H, I, rfl, q⟩
/-! ### places -/
def intsD (xs : List Int) : List PyData := xs.map PyData.int
def placeD (w n : Int) (xs : List Int) : PyData := .tuple [.int w, .int n, .tuple (intsD xs)]
def PlaceAt (H : Hp) (t : Addr) (w n : Int) (xs : List Int) : Prop := ∃ u, H t = some (.tup [.int w, .int n, .ref u]) ∧ H u = some (.tup (xs.map V.int))
theorem PlaceAt.same {H H' : Hp} {t : Addr} {w n : Int} {xs : List Int} (h : PlaceAt H t w n xs) (s : Same H H') : PlaceAt H' t w n xs := by
  obtain ⟨u, h1, h2⟩ := h
  exact ⟨u, s _ _ h1, s _ _ h2⟩
theorem rpInts (K : PySem.W.Frag) (H : Hp) : ∀ xs : List Int, Paired (Rp K H) (xs.map V.int) (intsD xs)
  | [] => .nil
  | x :: xs => .cons (.int x) (rpInts K H xs)
theorem PlaceAt.rp {K : PySem.W.Frag} {H : Hp} {t : Addr} {w n : Int} {xs : List Int} (h : PlaceAt H t w n xs) : Rp K H (.ref t) (placeD w n xs) := by
  obtain ⟨u, h1, h2⟩ := h
  exact .tup (SqT.of h1) (.cons (.int _) (.cons (.int _) (.cons (.tup (SqT.of h2) (rpInts K H xs)) .nil)))
theorem alikeInts : ∀ xs ys : List Int, PySem.W.alikeAll (intsD xs) (intsD ys) = true
  | [], _ => by simp [intsD, PySem.W.alikeAll]
  | _ :: _, [] => by simp [intsD, PySem.W.alikeAll]
  | x :: xs, y :: ys => by
    have := alikeInts xs ys
    unfold intsD at this ⊢
    rw [List.map_cons, List.map_cons, PySem.W.alikeAll, this]
    rfl
theorem alikePlace (w n : Int) (xs : List Int) (w' n' : Int) (xs' : List Int) : PySem.W.alike (placeD w n xs) (placeD w' n' xs') = true := by
  unfold placeD
  simp [PySem.W.alike, PySem.W.alikeAll, alikeInts]
theorem beqD (x y : Int) : (x == y) = decide (x = y) := by by_cases h : x = y <;> simp [h]
theorem eqvInts : ∀ xs ys : List Int, PyData.eqvAll (intsD xs) (intsD ys) = decide (xs = ys)
  | [], [] => by simp [intsD, PyData.eqvAll]
  | [], _ :: _ => by simp [intsD, PyData.eqvAll]
  | _ :: _, [] => by simp [intsD, PyData.eqvAll]
  | x :: xs, y :: ys => by
    have := eqvInts xs ys
    unfold intsD at this ⊢
    rw [List.map_cons, List.map_cons, PyData.eqvAll, this]
    simp [PyData.eqv, beqD]
theorem eqvPlace (w n : Int) (xs : List Int) (w' n' : Int) (xs' : List Int) : PyData.eqv (placeD w n xs) (placeD w' n' xs') = decide (w = w' ∧ n = n' ∧ xs = xs') := by
  unfold placeD
  simp [PyData.eqv, PyData.eqvAll, eqvInts, beqD]
theorem shapedPlace (w n : Int) (xs : List Int) : SeqAt.shaped (placeD w n xs) = true := by
  have h1 : PyData.canLayAll0 (intsD xs) = true := layInts xs
  have h2 : PyData.depthAll (intsD xs) = 0 := depthInts xs
  unfold SeqAt.shaped placeD
  simp [PyData.canLay0, PyData.canLayAll0, PyData.depth, PyData.depthAll, h1, h2]
theorem depthPlace (w n : Int) (xs : List Int) : (placeD w n xs).depth ≤ 20 := by
  have h2 : PyData.depthAll (intsD xs) = 0 := depthInts xs
  unfold placeD
  simp [PyData.depth, PyData.depthAll, h2]
/-- the order of two lists of whole numbers -/
def ltI (xs ys : List Int) : Bool := PyProof.Rows.lexLt itemOrd (PySem.W.keyToksAll (intsD xs)) (PySem.W.keyToksAll (intsD ys))
theorem ltI_same {x : Int} {xs ys : List Int} : ltI (x :: xs) (x :: ys) = ltI xs ys :=
  PySem.W.dataLt_all_yes (by simp [PySem.W.alike]) (by simp [PyData.eqv])
theorem ltI_ne {x y : Int} {xs ys : List Int} (h : x ≠ y) : ltI (x :: xs) (y :: ys) = decide (x < y) := by
  rw [← PySem.W.dataLt_int]
  exact PySem.W.dataLt_all_no (by simp [PySem.W.alike]) (by simp [PyData.eqv]; exact h)
theorem ltI_refl (xs : List Int) : ltI xs xs = false := PyProof.Rows.lex_irrefl _
theorem ltPlace (w n : Int) (xs : List Int) (w' n' : Int) (xs' : List Int) : PySem.W.dataLt (placeD w n xs) (placeD w' n' xs') = if w ≠ w' then decide (w < w') else if n ≠ n' then decide (n < n') else ltI xs xs' := by
  unfold placeD
  rw [PySem.W.dataLt_tuple]
  by_cases h1 : w = w'
  · subst h1
    rw [if_neg (by simp), PySem.W.dataLt_all_yes (by simp [PySem.W.alike]) (by simp [PyData.eqv])]
    by_cases h2 : n = n'
    · subst h2
      rw [if_neg (by simp), PySem.W.dataLt_all_yes (by simp [PySem.W.alike]) (by simp [PyData.eqv])]
      cases e : PyData.eqv (.tuple (intsD xs)) (.tuple (intsD xs')) with
      | true =>
        rw [PySem.W.dataLt_all_yes (by simp [PySem.W.alike, alikeInts]) e]
        have : xs = xs' := by simpa [PyData.eqv, eqvInts] using e
        subst this
        rw [ltI_refl]
        exact PyProof.Rows.lex_irrefl _
      | false =>
        rw [PySem.W.dataLt_all_no (by simp [PySem.W.alike, alikeInts]) e, PySem.W.dataLt_tuple]
        rfl
    · rw [if_pos h2, PySem.W.dataLt_all_no (by simp [PySem.W.alike]) (by simp [PyData.eqv]; exact h2), PySem.W.dataLt_int]
  · rw [if_pos h1, PySem.W.dataLt_all_no (by simp [PySem.W.alike]) (by simp [PyData.eqv]; exact h1), PySem.W.dataLt_int]
/-- the first place that differs -/
theorem ltI_at : ∀ (k : Nat) (xs ys : List Int) (x y : Int), (∀ j, j < k → xs[j]? = ys[j]?) → xs[k]? = some x → ys[k]? = some y → x ≠ y → ltI xs ys = decide (x < y)
  | 0, a :: xs, b :: ys, x, y, _, h1, h2, ne => by
    cases h1; cases h2
    exact ltI_ne ne
  | k + 1, a :: xs, b :: ys, x, y, h, h1, h2, ne => by
    have e : a = b := by simpa using h 0 (Nat.succ_pos k)
    subst e
    rw [ltI_same]
    exact ltI_at k xs ys x y (fun j hj => by simpa using h (j + 1) (Nat.succ_lt_succ hj)) (by simpa using h1) (by simpa using h2) ne
  | _, [], _, _, _, _, h1, _, _ => by simp at h1
  | 0, _ :: _, [], _, _, _, _, h2, _ => by simp at h2
  | _ + 1, _ :: _, [], _, _, _, _, h2, _ => by simp at h2
/-! ### _law_text -/
def spText : Sp := fun vs H Q _ => ∃ (c p l : Addr) (n m : Nat) (cs : List Nat), vs = [.ref p, .ref l, .int (m : Int)] ∧ n ≤ 900000 ∧ m ≤ 10 ∧ PenAt c n H p ∧ l ≠ p ∧ H l = some (.lst (cs.map sg)) ∧ 0 < cs.length ∧ cs.length ≤ 30 ∧
  ∀ (ds : List Nat) H', (∀ d ∈ ds, d ∈ cs) → ds.length = m → Ink c p (n + 10) H H' → Q (.str ⟨ds.toArray⟩) H'
section
variable {P : Program} {w : World} {K : PySem.W.Frag} {mg : Str → Option Value} {base : Heap}
abbrev nText : List Str := ["_law_pen_here", "_law_signs", "_law_many", "_law_k"]
theorem scText : FnScope nText ["_law_pen_here", "_law_signs", "_law_many"] (defScope sText) := ⟨rfl, rfl, rfl, by decide +kernel, rfl, by decide +kernel, by decide +kernel⟩
theorem ok_text {f f2 : Addr} {fd fd2 : FuncData} (F : L2.Fun K "_law_text" "_law_text" sText f fd) (T : Txt mg)
    (G2 : FnOk P w K mg base CX0 2 f2 fd2 ["_law_pen_here", "_law_things"] spPick) (m2 : mg "_law_pick" = some (.ref f2)) (k2 : PySem.W.keepIn K (.ref f2) = true) (b2 : L2.Binds K fd2 ["_law_pen_here", "_law_things"] []) :
    FnOk P w K mg base CX0 3 f fd ["_law_pen_here", "_law_signs", "_law_many"] spText := by
  refine F.ok scText (fun vs H Q E h => ?_) (fun cdv A outer s H vs Q E hr h => ?_)
  · obtain ⟨c, p, l, n, m, cs, rfl, _⟩ := h
    rfl
  · obtain ⟨c, p, l, n, m, cs, rfl, nb, mb, pen, lp, hl, c0, c30, k⟩ := h
    have nd := scText.nd
    refine ⟨_, pss_one (ps_ret (pe_join pe_str (pe_lc (own := [("_law_k", 3)]) (g := gName 3) (tt := tYes) rfl nd (pi_range1 (by rfl) T.range (pa_cons (pv 2) pa_nil)) (blkOk_by (N := nText) (sc := defScope sText) (by decide +kernel))
          (fun _ _ _ _ _ => pg_name (i := 3) nd rfl (Or.inl rfl)) (fun _ _ _ _ _ => pts_nil) (fun _ _ _ _ _ => pe_call G2 hr (by rfl) m2 k2 b2 .nil pass0 (pa_cons (pv 0) (pa_cons (pv 1) pa_nil)))))), ?_⟩
    refine ⟨⟨_, rfl⟩, _, rfl, m, rfl, by omega, by omega, fun D hD => ?_⟩
    have Dp := pen.ne1 hD
    have Dl : l ≠ D := ne_of_none hl hD
    refine lcGen walk_range (fun i H' acc => Ink c p (n + i) H H' ∧ H' l = some (.lst (cs.map sg)) ∧ ∃ ds : List Nat, acc = ds.map sg ∧ ∀ d ∈ ds, d ∈ cs) (by rw [sizeLine_eq]; omega) ⟨(Ink.start pen).new hD, by rw [upd_ne Dl]; exact hl, [], rfl, fun _ h => nomatch h⟩ (fun _ _ _ _ _ => trivial) (fun _ _ _ _ y => y.1) ?_ ?_
    · rintro i x H' acc Q' hi hDl hl2 ⟨ink, hl', ds, rfl, sub⟩ y q
      have hi8 : i < m := hi
      refine ⟨_, rfl, _, rfl, c, p, n + i, by omega, ink.2, .inl ⟨l, _, rfl, lp, hl', by rw [List.length_map]; exact c0, by rw [List.length_map]; omega, fun v H4 hv pen4 x4 => ?_⟩⟩
      obtain ⟨d, hd, rfl⟩ := List.mem_map.mp hv
      refine q _ H4 (x4 _ _ Dp hDl) ⟨Ink.putNew (n := n + (i + 1)) ⟨Ext1.trans ink.1 x4, pen4⟩ pen hD, ?_, ds ++ [d], by rw [List.map_append]; rfl, ?_⟩
      · rw [upd_ne Dl]; exact x4 _ _ lp hl'
      · intro e he
        rcases List.mem_append.mp he with he | he
        · exact sub e he
        · rw [List.mem_singleton.mp he]; exact hd
    · rintro H2 acc hDl hl2 ⟨ink, _, ds, rfl, sub⟩
      have hm : ds.length = m := by rw [List.length_map] at hl2; exact hl2
      refine ⟨_, D, ds.map fun d => ⟨#[d]⟩, rfl, rfl, .inl (SqL.of (by rw [List.map_map]; exact hDl)), ?_, ?_⟩
      · rw [sum_one, List.length_map]
        show ds.length + ds.length * 0 ≤ 16777216
        omega
      · rw [join_one]
        exact k ds _ sub hm (ink.mono (by omega))
end
end Kx
set_option Elab.async false
set_option maxRecDepth 100000
set_option autoImplicit false
set_option pp.maxSteps 400
set_option pp.deepTerms false
/-! _law_weight, _law_pairs -/
namespace Kx
open PySem L2 PySem.Spec PyProof.Rows Rg Er Ru Tn
abbrev sPairs : Stmt := top 22
def ky (c : Nat) : Key := .inr ⟨#[c]⟩
theorem ky_inj {a b : Nat} (h : ky a = ky b) : a = b := by
  have h1 : (⟨#[a]⟩ : Str) = ⟨#[b]⟩ := Sum.inr.inj h
  simpa using h1
theorem abc_ix : ∀ m, m < 26 → abc.cps.toList[m]? = some (97 + m) := by decide +kernel
theorem putK_app {acc : List (Key × V)} {k : Key} {v : V} (h : ∀ kv ∈ acc, kv.1 ≠ k) : putK acc k v = acc ++ [(k, v)] := by
  unfold putK
  rw [if_neg]
  intro z
  obtain ⟨kv, m, e⟩ := List.any_eq_true.mp z
  exact h kv m (of_decide_eq_true e)
theorem merge_app : ∀ (more acc : List (Key × V)), ((acc ++ more).map (·.1)).Nodup → mergeK acc more = acc ++ more
  | [], acc, _ => by rw [List.append_nil]; rfl
  | (k, v) :: r, acc, nd => by
    have e : ∀ kv ∈ acc, kv.1 ≠ k := fun kv m z => by
      rw [List.map_append, List.map_cons] at nd
      exact (List.pairwise_append.mp nd).2.2 kv.1 (List.mem_map.mpr ⟨kv, m, rfl⟩) k List.mem_cons_self z
    show mergeK (putK acc k v) r = _
    rw [putK_app e, merge_app r (acc ++ [(k, v)]) (by rw [List.append_assoc]; exact nd), List.append_assoc]
    rfl
theorem merge_self {kvs : List (Key × V)} (nd : (kvs.map (·.1)).Nodup) : mergeK [] kvs = kvs := by rw [merge_app kvs [] (by simpa using nd)]; rfl
def kvW (es : List (Nat × Int)) : List (Key × V) := es.map fun e => (ky e.1, V.int e.2)
theorem kvW_nodup {es : List (Nat × Int)} (nd : (es.map (·.1)).Nodup) : ((kvW es).map (·.1)).Nodup := by
  unfold kvW
  rw [List.map_map, show ((fun kv : Key × V => kv.1) ∘ fun e : Nat × Int => (ky e.1, V.int e.2)) = ky ∘ (·.1) from rfl, ← List.map_map]
  rw [List.nodup_iff_pairwise_ne] at nd ⊢
  exact List.Pairwise.map _ (fun a b ne z => ne (ky_inj z)) nd
theorem kvW_get : ∀ {es : List (Nat × Int)} {c : Nat}, c ∈ es.map (·.1) → valV (kvW es) (ky c) = some (.int ((es.lookup c).getD 0))
  | [], _, h => by cases h
  | (a, n) :: r, c, h => by
    by_cases q : c = a
    · subst q
      have : (List.lookup c ((c, n) :: r)) = some n := by simp [List.lookup]
      rw [this]
      unfold valV kvW
      rw [List.map_cons, List.find?_cons_of_pos (by simp)]
      rfl
    · have h' : c ∈ r.map (·.1) := (List.mem_cons.mp h).resolve_left q
      have ih := kvW_get h'
      have e1 : (c == a) = false := by simpa using q
      have : (List.lookup c ((a, n) :: r)) = r.lookup c := by simp [List.lookup, e1]
      rw [this, ← ih]
      unfold valV kvW
      rw [List.map_cons, List.find?_cons_of_neg (by
        intro z
        exact q (ky_inj (of_decide_eq_true z)).symm)]
theorem pairs_refs {K : PySem.W.Frag} {H : Hp} : ∀ {es : List (Nat × Int)} {xs : List V}, PairsD H xs es → ∃ ps : List Addr, xs = ps.map V.ref ∧ Paired (fun p (kv : Key × V) => SqT K H p [kV kv.1, kv.2]) ps (kvW es)
  | [], xs, h => ⟨[], List.eq_nil_of_length_eq_zero h.1, .nil⟩
  | e :: r, [], h => by have := h.1; simp at this
  | e :: r, x :: xs, h => by
    obtain ⟨t, h1, h2⟩ := h.2 0 e rfl
    obtain ⟨ps, e1, e2⟩ := pairs_refs (K := K) (es := r) (xs := xs) ⟨by have := h.1; simpa using this, fun i d hd => by simpa using h.2 (i + 1) d (by simpa using hd)⟩
    have ex : x = .ref t := by simpa using h1
    exact ⟨t :: ps, by rw [ex, e1]; rfl, .cons (SqT.of h2.1) e2⟩
def spWeight : Sp := fun vs H Q _ => ∃ (L : Addr) (xs : List V) (es : List (Nat × Int)) (l : List Nat), vs = [.ref L, .str ⟨l.toArray⟩] ∧ H L = some (.lst xs) ∧ PairsD H xs es ∧ es.length ≤ 4 ∧ (es.map (·.1)).Nodup ∧ (∀ c ∈ l, c ∈ es.map (·.1)) ∧ l.length ≤ 1000 ∧
  ∀ H', Same H H' → Q (.int (wtC es l)) H'
section
variable {P : Program} {w : World} {K : PySem.W.Frag} {mg : Str → Option Value} {base : Heap}
abbrev nWeight : List Str := ["_law_pairs_here", "_law_row", "_law_weights", "_law_sign"]
theorem scWeight : FnScope nWeight ["_law_pairs_here", "_law_row"] (defScope sWeight) := ⟨rfl, rfl, rfl, by decide +kernel, rfl, by decide +kernel, by decide +kernel⟩
theorem ok_weight {f : Addr} {fd : FuncData} (F : L2.Fun K "_law_weight" "_law_weight" sWeight f fd) (mD : mg "dict" = none) (mS : mg "sum" = none) : FnOk P w K mg base CX0 1 f fd ["_law_pairs_here", "_law_row"] spWeight := by
  refine F.ok scWeight (fun vs H Q E h => ?_) (fun cdv A outer s H vs Q E hr h => ?_)
  · obtain ⟨L, xs, es, l, rfl, _⟩ := h
    rfl
  · obtain ⟨L, xs, es, l, rfl, hL, pd, l4, nd0, mem, ll, k⟩ := h
    have nd := scWeight.nd
    refine ⟨_, pss_cons (ps_set (i := 2) nd rfl (.inr rfl) (pe_callTy (call_dictP rfl) (by rfl) mD (by decide +kernel) (pa_cons (pv 0) pa_nil)))
      (pss_one (ps_ret (pe_callB (cr_sum rfl) (by rfl) mS (by decide +kernel) (pa_cons (pe_lc (own := [("_law_sign", 3)]) (g := gName 3) (tt := tYes) (te := tDGet (tVar 2) (tVar 3)) rfl nd (pi_str (pv 1)) (blkOk_by (own := [("_law_sign", 3)]) (N := nWeight) (sc := defScope sWeight) (by decide +kernel))
        (fun _ _ _ _ _ => pg_name (i := 3) nd rfl (Or.inl rfl)) (fun _ _ _ _ _ => pts_nil) (fun _ _ _ _ _ => pe_dget (hu_of hr) (pv 2) (pv 3) (fun _ _ => rfl))) pa_nil)))), ?_⟩
    obtain ⟨ps, rfl, pr⟩ := pairs_refs (K := K) pd
    refine ⟨_, rfl, L, ps, kvW es, rfl, SqL.of hL, pr, fun d hd => ?_⟩
    rw [merge_self (kvW_nodup nd0)]
    have s1 : Same H (upd H d (.dK (kvW es))) := Same.new hd
    have e1 : upd H d (.dK (kvW es)) d = some (.dK (kvW es)) := upd_same
    generalize upd H d (.dK (kvW es)) = H1 at s1 e1 ⊢
    refine ⟨_, rfl, _, rfl, fun D hD => ?_⟩
    refine lcMap walk_str (fun i => V.int ((es.lookup (l.getD i 0)).getD 0)) (by show l.toArray.size < _; rw [sizeLine_eq]; simp; omega) hD (fun _ _ => trivial) (fun _ _ _ _ y => y.1) ?_ ?_
    · rintro i x H' Q' hi s2 ⟨_, c, hc, rfl⟩ q
      have hc' : l[i]? = some c := by simpa using hc
      have g := DGet.k (k := ky c) (s2 _ _ e1)
      rw [kvW_get (mem c (List.mem_of_getElem? hc'))] at g
      refine ⟨_, rfl, _, rfl, d, _, rfl, g, ?_⟩
      have := q _ (Same.refl H')
      rw [show l.getD i 0 = c from by rw [List.getD_eq_getElem?_getD, hc']; rfl] at this
      exact this
    intro H2 s2 hD2
    have : wtC es l = ((List.range l.toArray.size).map fun i => (es.lookup (l.getD i 0)).getD 0).sum := by
      rw [← wt_eq nd0 mem, List.size_toArray, map_getD (f := fun c => (es.lookup c).getD 0)]
      rfl
    refine ⟨D, _, rfl, SqL.of (by rw [List.map_map]; exact hD2), ?_⟩
    rw [← this]
    exact k _ (Same.trans s1 s2)
/-! ### _law_pairs -/
theorem Ink.freeOf {c p q : Addr} {n : Nat} {H H' : Hp} (i : Ink c p n H H') (e : H' q = none) : H q = none := by
  cases z : H q with
  | none => rfl
  | some o =>
    rw [i.1 q o (i.2.ne1 e) z] at e
    cases e
def ltr (f s : Int) (k : Nat) : Nat := 97 + ((f + s * (k : Int)) % 26).toNat
theorem ltr_inj {f r : Int} {i j : Nat} (f0 : 0 ≤ f) (f1 : f < 26) (r0 : 0 ≤ r) (r1 : r < 6) (hi : i < 4) (hj : j < 4) (h : ltr f (2 * r + 1) i = ltr f (2 * r + 1) j) : i = j := by
  unfold ltr at h
  obtain rfl | rfl | rfl | rfl | rfl | rfl : r = 0 ∨ r = 1 ∨ r = 2 ∨ r = 3 ∨ r = 4 ∨ r = 5 := by omega
  all_goals omega
theorem ltr_nodup {f r : Int} {m : Nat} (f0 : 0 ≤ f) (f1 : f < 26) (r0 : 0 ≤ r) (r1 : r < 6) (hm : m ≤ 4) : ((List.range m).map (ltr f (2 * r + 1))).Nodup := by
  rw [List.nodup_iff_pairwise_ne, List.pairwise_map]
  refine List.Pairwise.imp_of_mem ?_ (List.nodup_iff_pairwise_ne.mp List.nodup_range)
  intro a b ha hb ne z
  exact ne (ltr_inj f0 f1 r0 r1 (by have := List.mem_range.mp ha; omega) (by have := List.mem_range.mp hb; omega) z)
theorem ltr_abc (f s : Int) (k : Nat) : ltr f s k ∈ abc.cps.toList := List.mem_of_getElem? (abc_ix _ (by omega))
theorem PairsD.keep {H H' : Hp} {xs : List V} {es : List (Nat × Int)} (h : PairsD H xs es) (e : KeepT H H') : PairsD H' xs es := h.mono fun _ _ _ q => q.keep e
theorem PairsD.push {H : Hp} {xs : List V} {es : List (Nat × Int)} {t : Addr} {c : Nat} {n : Int} (h : PairsD H xs es) (q : PairAt H t c n) : PairsD H (xs ++ [.ref t]) (es ++ [(c, n)]) := by
  refine ⟨by simp [h.1], fun i e he => ?_⟩
  have hl := h.1
  by_cases lt : i < es.length
  · rw [List.getElem?_append_left lt] at he
    rw [List.getElem?_append_left (by omega)]
    exact h.2 i e he
  · rw [List.getElem?_append_right (by omega)] at he
    obtain ⟨i0, ei⟩ := List.getElem?_eq_some_iff.mp he
    have i0' : i - es.length = 0 := by simp at i0; omega
    rw [List.getElem?_append_right (by omega), show i - xs.length = 0 by omega]
    rw [i0'] at he
    cases he
    exact ⟨t, rfl, q⟩
theorem PairsD.set {H : Hp} {xs : List V} {es : List (Nat × Int)} {t : Addr} {c : Nat} {n : Int} (h : PairsD H xs es) (j : Nat) (q : PairAt H t c n) : PairsD H (xs.set j (.ref t)) (es.set j (c, n)) := by
  refine ⟨by simp [h.1], fun i e he => ?_⟩
  have hl := h.1
  by_cases ij : j = i
  · subst ij
    rw [List.getElem?_set] at he
    rw [List.getElem?_set]
    split at he
    · rename_i lt
      split at he
      · rename_i lt'
        cases he
        rw [if_pos rfl, if_pos (by omega)]
        exact ⟨t, rfl, q⟩
      · cases he
    · exact absurd rfl ‹_›
  · rw [List.getElem?_set_ne ij] at he
    rw [List.getElem?_set_ne ij]
    exact h.2 i e he
def spPairs : Sp := fun vs H Q _ => ∃ (c p : Addr) (n : Nat), vs = [.ref p] ∧ n ≤ 800000 ∧ PenAt c n H p ∧ ∀ (L : Addr) H' xs es, L ≠ p → H' L = some (.lst xs) → PairsD H' xs es → 1 ≤ es.length → es.length ≤ 4 → (es.map (·.1)).Nodup → Ink c p (n + 20) H H' → Q (.ref L) H'
abbrev nPairs : List Str := ["_law_pen_here", "_law_letters", "_law_first", "_law_stride", "_law_many", "_law_found", "_law_k", "_law_heavy"]
theorem scPairs : FnScope nPairs ["_law_pen_here"] (defScope sPairs) := ⟨rfl, rfl, rfl, by decide +kernel, rfl, by decide +kernel, by decide +kernel⟩
theorem ok_pairs {f f1 f2 : Addr} {fd fd1 fd2 : FuncData} (F : L2.Fun K "_law_pairs" "_law_pairs" sPairs f fd) (T : Txt mg)
    (G1 : FnOk P w K mg base CX0 1 f1 fd1 ["_law_pen_here", "_law_many"] spDraw) (m1 : mg "_law_draw" = some (.ref f1)) (k1 : PySem.W.keepIn K (.ref f1) = true) (b1 : L2.Binds K fd1 ["_law_pen_here", "_law_many"] [])
    (G2 : FnOk P w K mg base CX0 2 f2 fd2 ["_law_pen_here", "_law_things"] spPick) (m2 : mg "_law_pick" = some (.ref f2)) (k2 : PySem.W.keepIn K (.ref f2) = true) (b2 : L2.Binds K fd2 ["_law_pen_here", "_law_things"] []) :
    FnOk P w K mg base CX0 3 f fd ["_law_pen_here"] spPairs := by
  refine F.ok scPairs (fun vs H Q E h => ?_) (fun cdv A outer s H vs Q E hr h => ?_)
  · obtain ⟨c, p, n, rfl, _⟩ := h
    rfl
  · obtain ⟨c, p, n, rfl, nb, pen, k⟩ := h
    have nd := scPairs.nd
    have hr1 := hr.mono (show 1 ≤ 2 by decide)
    refine ⟨_, pss_cons (ps_set (i := 1) nd rfl (.inl rfl) pe_str)
      (pss_cons (ps_par (i := 2) (j := 3) (by rfl) nd rfl rfl (by decide) rfl rfl (pa_cons (pe_call G1 hr1 (by rfl) m1 k1 b1 .nil pass0 (pa_cons (pv 0) (pa_cons pe_int pa_nil))) (pa_cons (pe_op op_add (pe_op op_mul pe_int (pe_call G1 hr1 (by rfl) m1 k1 b1 .nil pass0 (pa_cons (pv 0) (pa_cons pe_int pa_nil)))) pe_int) pa_nil)) (by rfl))
      (pss_cons (ps_set (i := 4) nd rfl (.inl rfl) (pe_call G2 hr (by rfl) m2 k2 b2 .nil pass0 (pa_cons (pv 0) (pa_cons (pe_lst (pa_cons pe_int (pa_cons pe_int (pa_cons pe_int (pa_cons pe_int (pa_cons pe_int (pa_cons pe_int pa_nil))))))) pa_nil))))
      (pss_cons (ps_set (i := 5) nd rfl (.inl rfl) (pe_lst pa_nil))
      (pss_cons (ps_for PassesOwn.never rfl (pi_range1 (by rfl) T.range (pa_cons (pv 4) pa_nil)) (pg_name (i := 6) nd rfl (Or.inl rfl))
        (pss_one (ps_expr (pe_bm PySem.F.plainAttrs_list PySem.F.slot_list_append PySem.F.type_list_append mt_append (pv 5) (pa_cons (pe_tup (pa_cons (bIxS (pv 1) (pe_op op_mod (bInt (by rfl) T.int (pe_op op_add (pv 2) (pe_op op_mul (pv 3) (pv 6)))) pe_int))
          (pa_cons (pe_call G2 hr (by rfl) m2 k2 b2 .nil pass0 (pa_cons (pv 0) (pa_cons (pe_lst (pa_cons pe_int (pa_cons pe_int (pa_cons pe_int (pa_cons pe_int (pa_cons pe_int (pa_cons pe_int pa_nil))))))) pa_nil))) pa_nil))) pa_nil)))))
      (pss_cons (ps_set (i := 7) nd rfl (.inl rfl) (pe_call G1 hr1 (by rfl) m1 k1 b1 .nil pass0 (pa_cons (pv 0) (pa_cons (pv 4) pa_nil))))
      (pss_cons (ps_if (pt_cmpR op_eq (bIxT (bIx (pv 5) (pv 7)) pe_int) pe_int (nomark _)) (pss_one (ps_asg (pe_tup (pa_cons (bIxT (bIx (pv 5) (pv 7)) pe_int) (pa_cons pe_int pa_nil))) (pg_sub (pv 5) (pv 7) set_list))) pss_nil)
      (pss_one (ps_ret (pv 5))))))))), ?_⟩
    refine ⟨_, rfl, c, p, 26, n, rfl, by decide, by decide, by omega, pen, fun ff H1 f0 f1 pen1 x1 => ?_⟩
    refine ⟨_, rfl, c, p, 6, n + 1, rfl, by decide, by decide, by omega, pen1, fun r H2 r0 r1 pen2 x2 => ⟨_, _, rfl, rfl, .inl ⟨by decide, by decide⟩, _, _, rfl, rfl, _, _, rfl, ?_⟩⟩
    refine ⟨_, rfl, by show 6 ≤ sizeLine; decide, fun l hl => ⟨c, p, n + 2, by omega, pen2.new hl, .inl ⟨l, _, rfl, pen2.ne1 hl, upd_same, by decide, by decide, fun v H3 hv pen3 x3 => ?_⟩⟩⟩
    obtain ⟨m, rfl, mlo, mhi⟩ : ∃ m : Nat, v = .int (m : Int) ∧ 1 ≤ m ∧ m ≤ 4 := by
      simp only [List.mem_cons, List.not_mem_nil, or_false] at hv
      rcases hv with rfl | rfl | rfl | rfl | rfl | rfl
      · exact ⟨2, rfl, by decide, by decide⟩
      · exact ⟨2, rfl, by decide, by decide⟩
      · exact ⟨2, rfl, by decide, by decide⟩
      · exact ⟨3, rfl, by decide, by decide⟩
      · exact ⟨4, rfl, by decide, by decide⟩
      · exact ⟨1, rfl, by decide, by decide⟩
    have i3 : Ink c p (n + 3) H H3 := ⟨Ext1.trans x1 (Ext1.trans x2 (Ext1.trans (Ext1.new hl) x3)), pen3⟩
    clear pen1 x1 pen2 x2 hl x3 pen3 hv
    refine ⟨Nat.zero_le _, fun L hL => ?_⟩
    have Lp := i3.2.ne1 hL
    have LH : H L = none := Ink.freeOf i3 hL
    refine ⟨_, rfl, m, rfl, by omega, by omega, ?_⟩
    refine for_it walk_range (fun i σ' G => ∃ y6 y7, σ' = [some (.ref p), some (.str abc), some (.int ff), some (.int (2 * r + 1)), some (.int (m : Int)), some (.ref L), y6, y7] ∧ Ink c p (n + 3 + i) H G ∧ ∃ xs es, G L = some (.lst xs) ∧ PairsD G xs es ∧ es.length = i ∧ es.map (·.1) = (List.range i).map (ltr ff (2 * r + 1)))
      ⟨_, _, rfl, i3.new hL, [], [], upd_same, ⟨rfl, fun i e h => by cases h⟩, rfl, rfl⟩ (fun _ _ _ _ _ => trivial) ?_ ?_
    · rintro i x σ' G G' hi ⟨y6, y7, rfl, ink, xs, es, gL, pd, el, em⟩ ⟨eG, ex⟩
      subst eG
      subst ex
      have hi4 : i < m := hi
      have xl := pd.1
      refine ⟨_, rfl, .inl ⟨rfl, _, SqL.of gL⟩, ?_⟩
      have mlt : ((ff + (2 * r + 1) * (i : Int)) % 26).toNat < 26 := by omega
      have ei : V.int (0 + (i : Int)) = V.int (i : Int) := by rw [Int.zero_add]
      refine ⟨_, rfl, _, rfl, _, rfl, _, rfl, _, _, rfl, ei, .inl ⟨by omega, by omega⟩, _, _, rfl, rfl, .inl ⟨_, rfl, _, _, rfl, rfl, by show (0 : Int) < 26; decide, ?_⟩⟩
      refine ⟨abc, _, ltr ff (2 * r + 1) i, rfl, rfl, len_small (by decide), atI_int (by omega) (abc_ix _ mlt), ?_⟩
      refine ⟨_, rfl, by show 6 ≤ sizeLine; decide, fun l2 hl2 => ⟨c, p, n + 3 + i, by omega, ink.2.new hl2, .inl ⟨l2, _, rfl, ink.2.ne1 hl2, upd_same, by decide, by decide, fun v G1 hv pen4 x4 => ?_⟩⟩⟩
      obtain ⟨k2, rfl, klo, khi⟩ : ∃ k2 : Int, v = .int k2 ∧ 0 ≤ k2 ∧ k2 ≤ 9 := by
        simp only [List.mem_cons, List.not_mem_nil, or_false] at hv
        rcases hv with rfl | rfl | rfl | rfl | rfl | rfl <;> exact ⟨_, rfl, by decide, by decide⟩
      refine ⟨by show 2 ≤ sizeLine; decide, fun t ht => ?_⟩
      have i4 : Ink c p (n + 3 + i + 1) G' G1 := ⟨Ext1.trans (Ext1.new hl2) x4, pen4⟩
      have i5 := i4.new (o := .tup [.str ⟨#[ltr ff (2 * r + 1) i]⟩, .int k2]) ht
      have gL5 := i5.1 _ _ Lp gL
      have pd5 := pd.keep (Ink.keepT ink.2 i5)
      have pt : PairAt (upd G1 t (.tup [.str ⟨#[ltr ff (2 * r + 1) i]⟩, .int k2])) t (ltr ff (2 * r + 1) i) k2 := ⟨upd_same, ltr_abc _ _ _, klo, khi⟩
      have ink5 : Ink c p (n + 3 + (i + 1)) H _ := Ink.trans ink i5
      generalize upd G1 t (.tup [.str ⟨#[ltr ff (2 * r + 1) i]⟩, .int k2]) = G5 at gL5 pd5 pt ink5 ⊢
      refine ⟨L, _, _, rfl, rfl, gL5, by rw [sizeLine_eq]; omega, ?_⟩
      refine ⟨_, _, rfl, Ink.putNew ink5 pen LH, xs ++ [.ref t], es ++ [(ltr ff (2 * r + 1) i, k2)], upd_same, (pd5.push pt).keep (KeepT.put gL5), by simp [el], ?_⟩
      rw [List.map_append, em, List.range_succ, List.map_append]
      rfl
    · rintro σ' G ⟨y6, y7, rfl, ink, xs, es, gL, pd, el, em⟩
      have xl := pd.1
      refine ⟨_, rfl, _, rfl, c, p, m, n + 3 + m, rfl, by omega, by omega, by omega, ink.2, fun h G1 h0 h1 pen4 x4 => ?_⟩
      have i4 : Ink c p (n + 3 + m + 1) G G1 := ⟨x4, pen4⟩
      have gL1 := x4 _ _ Lp gL
      have pd1 := pd.keep (Ink.keepT ink.2 i4)
      have ink1 : Ink c p (n + 3 + m + 1) H G1 := Ink.trans ink i4
      have hj : h.toNat < es.length := by omega
      obtain ⟨t, et, pt⟩ := pd1.2 h.toNat _ (List.getElem?_eq_getElem hj)
      have nd1 : (es.map (·.1)).Nodup := by rw [em]; exact ltr_nodup f0 f1 r0 r1 mhi
      refine ⟨_, rfl, _, rfl, L, xs, h, .ref t, rfl, rfl, SqL.of gL1, atI_int h0 et, t, _, 1, _, rfl, rfl, SqT.of pt.1, rfl, rfl, _, rfl, ?_⟩
      by_cases z : es[h.toNat].2 = 0
      · rw [decide_eq_true (show V.int es[h.toNat].2 = V.int 0 by rw [z])]
        refine iteT ?_
        refine ⟨_, rfl, _, rfl, L, xs, h, .ref t, rfl, rfl, SqL.of gL1, atI_int h0 et, t, _, 0, _, rfl, rfl, SqT.of pt.1, rfl, by show 2 ≤ sizeLine; decide, fun t2 ht2 => ?_⟩
        have i5 := ink1.new (o := .tup [.str ⟨#[es[h.toNat].1]⟩, .int 1]) ht2
        have gL5 := (Ext1.new (p := p) (o := .tup [.str ⟨#[es[h.toNat].1]⟩, .int 1]) ht2) _ _ Lp gL1
        have pd5 := pd1.keep (Same.keepT (Same.new (o := .tup [.str ⟨#[es[h.toNat].1]⟩, .int 1]) ht2))
        have pt5 : PairAt (upd G1 t2 (.tup [.str ⟨#[es[h.toNat].1]⟩, .int 1])) t2 es[h.toNat].1 1 := ⟨upd_same, pt.2.1, by decide, by decide⟩
        generalize upd G1 t2 (.tup [.str ⟨#[es[h.toNat].1]⟩, .int 1]) = G5 at i5 gL5 pd5 pt5 ⊢
        refine ⟨_, rfl, _, rfl, L, xs, h, h.toNat, rfl, rfl, gL5, ?_, ?_⟩
        · unfold ixN
          rw [if_pos h0, if_pos (by omega)]
        · refine ⟨_, rfl, k L _ (xs.set h.toNat (.ref t2)) (es.set h.toNat (es[h.toNat].1, 1)) Lp upd_same ((pd5.set _ pt5).keep (KeepT.put gL5)) (by simp; omega) (by simp; omega) ?_ ((Ink.putNew i5 pen LH).mono (by omega))⟩
          have : ((es.set h.toNat (es[h.toNat].1, 1)).map (·.1)) = es.map (·.1) := by
            rw [List.map_set]
            exact List.ext_getElem (by simp) fun j h1 h2 => by
              rw [List.getElem_set]
              split
              · rename_i q; subst q; simp
              · rfl
          rw [this]; exact nd1
      · rw [decide_eq_false (fun q => z (V.int.inj q))]
        exact iteF ⟨_, rfl, k L _ xs es Lp gL1 pd1 (by omega) (by omega) nd1 (ink1.mono (by omega))⟩
end
end Kx
set_option Elab.async false
set_option maxRecDepth 100000
set_option autoImplicit false
set_option pp.maxSteps 400
set_option pp.deepTerms false
/-! _law_ahead -/
namespace Kx
open PySem L2 PySem.Spec PyProof.Rows Rg Er Ru Tn
abbrev sAhead : Stmt := top 24
theorem bIndexL {X : Cx} {o e : Expr} {to te : TE} {apos cpos : Pos} (ho : PE X o to) (he : PE X e te) (hbase : attributeBase o "index" X.env (eval o X.env) = eval o X.env := by rfl)
    (hfew : ((backTo cpos (starEach [e] X.env)).all (fun x => !x.1) && (backToKw cpos (keywordEach [] X.env)).all (fun x => x.1.isSome) && decide ([e].length + ([] : List Keyword).length + (if ([] : List Keyword).isEmpty then 0 else 1) < 30)) = true := by rfl)
    (hline : (apos.endLine == cpos.line) = true := by rfl) (hs : starEach [e] X.env = (false, eval e X.env) :: starEach [] X.env := by rfl) (hplain : (backTo cpos (starEach [] X.env)).any (·.1) = false := by rfl) :
    PE X (.Call (.Attribute o "index" apos) [e] [] cpos) (tBM X.K "list" (rIndex X.K) to (tCons te tNil)) :=
  pe_bm PySem.F.plainAttrs_list PySem.F.slot_list_index PySem.F.type_list_index mt_index ho (pa_cons he pa_nil hs) hbase hfew hline hs hplain
theorem eqSg (a b : Nat) : eqV (sg a) (sg b) = decide (a = b) := by
  show ((⟨#[a]⟩ : Str) == ⟨#[b]⟩) = _
  by_cases h : a = b
  · subst h; simp
  · rw [decide_eq_false h]
    simpa using h
theorem flatSgs (cs : List Nat) : (cs.map sg).all flatV = true := by
  rw [List.all_map]
  exact List.all_eq_true.mpr fun _ _ => rfl
/-- the index of a letter among letters -/
theorem index_facts {cs : List Nat} {c : Nat} (nd : cs.Nodup) (mem : c ∈ cs) : (cs.map sg)[cs.idxOf c]? = some (sg c) ∧ eqV (sg c) (V.str ⟨#[c]⟩) = true ∧ ∀ (m : Nat) (z' : V), m < cs.idxOf c → (cs.map sg)[m]? = some z' → eqV z' (V.str ⟨#[c]⟩) = false := by
  have lt : cs.idxOf c < cs.length := List.idxOf_lt_length_iff.mpr mem
  have at_ : cs[cs.idxOf c]? = some c := by rw [List.getElem?_eq_getElem lt, List.getElem_idxOf lt]
  refine ⟨by rw [List.getElem?_map, at_]; rfl, ?_, ?_⟩
  · have := eqSg c c
    rw [decide_eq_true rfl] at this
    exact this
  · intro m z' hm hz
    rw [List.getElem?_map] at hz
    obtain ⟨d, hd, rfl⟩ := Option.map_eq_some_iff.mp hz
    have e := eqSg d c
    have ne : d ≠ c := by
      rintro rfl
      obtain ⟨h1, h2⟩ := List.getElem?_eq_some_iff.mp hd
      have := nd.idxOf_getElem m h1
      rw [h2] at this
      omega
    rw [decide_eq_false ne] at e
    exact e
def aheadB (es : List (Nat × Int)) (l1 l2 : List Nat) : Bool := if wtC es l1 ≠ wtC es l2 then decide (wtC es l1 < wtC es l2) else if (l1.length : Int) ≠ (l2.length : Int) then decide ((l1.length : Int) < (l2.length : Int)) else ltI (ixO (es.map (·.1)) l1) (ixO (es.map (·.1)) l2)
def spAhead : Sp := fun vs H Q _ => ∃ (L : Addr) (xs : List V) (es : List (Nat × Int)) (l1 l2 : List Nat), vs = [.ref L, .str ⟨l1.toArray⟩, .str ⟨l2.toArray⟩] ∧ H L = some (.lst xs) ∧ PairsD H xs es ∧ es.length ≤ 4 ∧ (es.map (·.1)).Nodup ∧ (∀ c ∈ l1, c ∈ es.map (·.1)) ∧ (∀ c ∈ l2, c ∈ es.map (·.1)) ∧ l1.length ≤ 1000 ∧ l2.length ≤ 1000 ∧
  ∀ H', Same H H' → Q (.bl (aheadB es l1 l2)) H'
section
variable {P : Program} {w : World} {K : PySem.W.Frag} {mg : Str → Option Value} {base : Heap}
abbrev nAhead : List Str := ["_law_pairs_here", "_law_one", "_law_other", "_law_mine", "_law_yours", "_law_signs", "_law_pair", "_law_k"]
theorem scAhead : FnScope nAhead ["_law_pairs_here", "_law_one", "_law_other"] (defScope sAhead) := ⟨rfl, rfl, rfl, by decide +kernel, rfl, by decide +kernel, by decide +kernel⟩
theorem ok_ahead {f f1 : Addr} {fd fd1 : FuncData} (F : L2.Fun K "_law_ahead" "_law_ahead" sAhead f fd) (T : Txt mg)
    (G1 : FnOk P w K mg base CX0 1 f1 fd1 ["_law_pairs_here", "_law_row"] spWeight) (m1 : mg "_law_weight" = some (.ref f1)) (k1 : PySem.W.keepIn K (.ref f1) = true) (b1 : L2.Binds K fd1 ["_law_pairs_here", "_law_row"] []) :
    FnOk P w K mg base CX0 2 f fd ["_law_pairs_here", "_law_one", "_law_other"] spAhead := by
  refine F.ok scAhead (fun vs H Q E h => ?_) (fun cdv A outer s H vs Q E hr h => ?_)
  · obtain ⟨L, xs, es, l1, l2, rfl, _⟩ := h
    rfl
  · obtain ⟨L, xs, es, l1, l2, rfl, hL, pd, l4, nd0, mem1, mem2, ll1, ll2, k⟩ := h
    have nd := scAhead.nd
    refine ⟨_, pss_cons (ps_for PassesOwn.never rfl (pi_list (pe_lst (pa_cons (pe_tup (pa_cons (pe_call G1 hr (by rfl) m1 k1 b1 .nil pass0 (pa_cons (pv 0) (pa_cons (pv 1) pa_nil))) (pa_cons (pe_call G1 hr (by rfl) m1 k1 b1 .nil pass0 (pa_cons (pv 0) (pa_cons (pv 2) pa_nil))) pa_nil)))
        (pa_cons (pe_tup (pa_cons (bLen (by rfl) T.len (pv 1)) (pa_cons (bLen (by rfl) T.len (pv 2)) pa_nil))) pa_nil)))) (pg_tup rfl (pgs_cons (pg_name (i := 3) nd rfl (Or.inl rfl)) (pgs_cons (pg_name (i := 4) nd rfl (Or.inl rfl)) pgs_nil)))
        (pss_one (ps_if (pt_cmpR op_ne (pv 3) (pv 4) (nomark _)) (pss_one (ps_ret (pe_cmpR op_lt (pv 3) (pv 4) (nomark _)))) pss_nil)))
      (pss_cons (ps_setLc (i := 5) (own := [("_law_pair", 6)]) (g := gName 6) (tt := tYes) (te := tOp (rIxT K) (tVar 6) (tC (.int 0))) rfl nd rfl rfl (sw_true rfl rfl rfl (by decide +kernel)) (pi_list (pv 0)) (blkOk_by (own := [("_law_pair", 6)]) (N := nAhead) (sc := defScope sAhead) (by decide +kernel))
        (fun _ _ _ _ _ => pg_name (i := 6) nd rfl (Or.inl rfl)) (fun _ _ _ _ _ => pts_nil) (fun _ _ _ _ _ => bIxT (pv 6) pe_int))
      (pss_cons (ps_for PassesOwn.never rfl (pi_range1 (by rfl) T.range (pa_cons (bLen (by rfl) T.len (pv 1)) pa_nil)) (pg_name (i := 7) nd rfl (Or.inl rfl))
        (pss_one (ps_if (pt_cmpR op_ne (bIxS (pv 1) (pv 7)) (bIxS (pv 2) (pv 7)) (nomark _)) (pss_one (ps_ret (pe_cmpR op_lt (bIndexL (pv 5) (bIxS (pv 1) (pv 7))) (bIndexL (pv 5) (bIxS (pv 2) (pv 7))) (nomark _)))) pss_nil)))
      (pss_one (ps_ret pe_bl)))), ?_⟩
    have len1 : (⟨l1.toArray⟩ : Str).length = l1.length := by show l1.toArray.size = _; simp
    have len2 : (⟨l2.toArray⟩ : Str).length = l2.length := by show l2.toArray.size = _; simp
    refine ⟨_, rfl, _, rfl, L, xs, es, l1, rfl, hL, pd, l4, nd0, mem1, ll1, fun H1 s1 => ?_⟩
    refine ⟨_, rfl, _, rfl, L, xs, es, l2, rfl, s1 _ _ hL, pd.mono (fun _ _ _ h => h.same s1), l4, nd0, mem2, ll2, fun H2 s2 => ⟨by show 2 ≤ sizeLine; decide, fun t1 ht1 => ?_⟩⟩
    refine ⟨_, rfl, _, l1.length, rfl, ⟨len_small (by rw [len1]; exact ll1), len1.symm⟩, _, rfl, _, l2.length, rfl, ⟨len_small (by rw [len2]; exact ll2), len2.symm⟩, by show 2 ≤ sizeLine; decide, fun t2 ht2 => ⟨by show 2 ≤ sizeLine; decide, fun l ht3 => ?_⟩⟩
    have a1 : Same H2 _ := Same.new (o := .tup [.int (wtC es l1), .int (wtC es l2)]) ht1
    have a2 : Same _ _ := Same.new (o := .tup [.int (l1.length : Int), .int (l2.length : Int)]) ht2
    have a3 : Same _ _ := Same.new (o := .lst [.ref t1, .ref t2]) ht3
    have e1 := a3 _ _ (a2 _ _ (upd_same (H := H2) (a := t1) (o := .tup [.int (wtC es l1), .int (wtC es l2)])))
    have e2 := a3 _ _ (upd_same (a := t2) (o := .tup [.int (l1.length : Int), .int (l2.length : Int)]))
    have s3 : Same H _ := Same.trans s1 (Same.trans s2 (Same.trans a1 (Same.trans a2 a3)))
    have e3 : upd (upd (upd H2 t1 (.tup [.int (wtC es l1), .int (wtC es l2)])) t2 (.tup [.int (l1.length : Int), .int (l2.length : Int)])) l (.lst [.ref t1, .ref t2]) l = some (.lst [.ref t1, .ref t2]) := upd_same
    generalize upd (upd (upd H2 t1 (.tup [.int (wtC es l1), .int (wtC es l2)])) t2 (.tup [.int (l1.length : Int), .int (l2.length : Int)])) l (.lst [.ref t1, .ref t2]) = H3 at e1 e2 e3 s3 ⊢
    clear ht1 ht2 ht3 a1 a2 a3
    have pd3 := pd.mono (fun _ _ _ h => h.same s3)
    refine ⟨l, rfl, ⟨_, SqL.of e3⟩, ?_⟩
    refine for_it walk_list (fun i σ' G => G = H3 ∧ ∃ y3 y4 y5 y6 y7, σ' = [some (.ref L), some (.str ⟨l1.toArray⟩), some (.str ⟨l2.toArray⟩), y3, y4, y5, y6, y7] ∧ (1 ≤ i → wtC es l1 = wtC es l2) ∧ (2 ≤ i → l1.length = l2.length))
      ⟨rfl, _, _, _, _, _, rfl, fun h => absurd h (by decide), fun h => absurd h (by decide)⟩ (fun j σ' G _ y => by rw [y.1]; exact SqL.of e3) ?_ ?_
    · rintro i x σ' G G' hi ⟨rfl, y3, y4, y5, y6, y7, rfl, c1, c2⟩ ⟨eG, ev⟩
      subst eG
      have hi2 : i < 2 := hi
      obtain rfl | rfl : i = 0 ∨ i = 1 := by omega
      · have ex : x = .ref t1 := (Option.some.inj ev).symm
        subst ex
        refine ⟨t1, _, rfl, SqT.of e1, rfl, _, _, rfl, _, _, rfl, rfl, ?_⟩
        refine ⟨_, rfl, _, rfl, rfl, _, rfl, ?_⟩
        by_cases q : wtC es l1 = wtC es l2
        · rw [show (!decide (V.int (wtC es l1) = V.int (wtC es l2))) = false from by rw [q, decide_eq_true rfl]; rfl]
          exact iteF ⟨rfl, _, _, _, _, _, rfl, fun _ => q, fun h => absurd h (by decide)⟩
        · rw [show (!decide (V.int (wtC es l1) = V.int (wtC es l2))) = true from by rw [decide_eq_false fun z => q (V.int.inj z)]; rfl]
          refine iteT ⟨_, rfl, _, rfl, _, _, rfl, rfl, ?_⟩
          have := k _ s3
          unfold aheadB at this
          rw [if_pos q] at this
          exact this
      · have ex : x = .ref t2 := (Option.some.inj ev).symm
        subst ex
        refine ⟨t2, _, rfl, SqT.of e2, rfl, _, _, rfl, _, _, rfl, rfl, ?_⟩
        refine ⟨_, rfl, _, rfl, rfl, _, rfl, ?_⟩
        have wq := c1 (Nat.le_refl _)
        by_cases q : l1.length = l2.length
        · rw [show (!decide (V.int (l1.length : Int) = V.int (l2.length : Int))) = false from by rw [q, decide_eq_true rfl]; rfl]
          exact iteF ⟨rfl, _, _, _, _, _, rfl, fun _ => wq, fun _ => q⟩
        · have nn : (l1.length : Int) ≠ (l2.length : Int) := by omega
          rw [show (!decide (V.int (l1.length : Int) = V.int (l2.length : Int))) = true from by rw [decide_eq_false fun z => nn (V.int.inj z)]; rfl]
          refine iteT ⟨_, rfl, _, rfl, _, _, rfl, rfl, ?_⟩
          have := k _ s3
          unfold aheadB at this
          rw [if_neg (by rw [wq]; exact fun z => z rfl), if_pos nn] at this
          exact this
    · rintro σ' G ⟨rfl, y3, y4, y5, y6, y7, rfl, c1, c2⟩
      have wq := c1 (by show 1 ≤ 2; decide)
      have nq := c2 (by show 2 ≤ 2; decide)
      have fin : ∀ (H' : Hp) (b : Bool), Same G H' → b = ltI (ixO (es.map (·.1)) l1) (ixO (es.map (·.1)) l2) → Q (.bl b) H' := fun H' b s e => by
        have := k _ (Same.trans s3 s)
        unfold aheadB at this
        rw [if_neg (by rw [wq]; exact fun z => z rfl), if_neg (by rw [nq]; exact fun z => z rfl)] at this
        rw [e]; exact this
      have gL := s3 _ _ hL
      have xl := pd.1
      refine ⟨_, rfl, L, rfl, ⟨_, SqL.of gL⟩, fun D hD => ?_⟩
      refine lcMap walk_list (fun i => sg (es.getD i (0, 0)).1) (by rw [sizeLine_eq]; omega) hD (fun H' q => SqL.of (q _ _ gL)) (fun _ _ _ _ q => q.1) ?_ ?_
      · rintro i x H' Q' hi s4 ⟨_, hx⟩ q
        have hi' : i < es.length := by omega
        obtain ⟨t, et, pt⟩ := pd3.2 i _ (List.getElem?_eq_getElem hi')
        rw [hx] at et
        cases et
        have ex : es.getD i (0, 0) = es[i] := by simp [List.getD_eq_getElem?_getD, List.getElem?_eq_getElem hi']
        have := q H' (Same.refl _)
        rw [ex] at this
        exact ⟨_, rfl, t, _, 0, _, rfl, rfl, SqT.of (pt.same s4).1, rfl, this⟩
      intro H4 s4 hD4
      have eD : (List.range xs.length).map (fun i => sg (es.getD i (0, 0)).1) = (es.map (·.1)).map sg := by
        rw [xl, List.map_map]
        exact map_getD (f := fun e : Nat × Int => sg e.1)
      rw [eD] at hD4
      refine ⟨_, rfl, _, l1.length, rfl, ⟨len_small (by rw [len1]; exact ll1), len1.symm⟩, ?_⟩
      refine ⟨l1.length, rfl, by omega, by omega, ?_⟩
      refine for_it walk_range (fun i σ' G => G = H4 ∧ ∃ y3 y4 y6 y7, σ' = [some (.ref L), some (.str ⟨l1.toArray⟩), some (.str ⟨l2.toArray⟩), y3, y4, some (.ref D), y6, y7] ∧ ∀ j, j < i → l1[j]? = l2[j]?)
        ⟨rfl, _, _, _, _, rfl, fun j h => absurd h (Nat.not_lt_zero j)⟩ (fun _ _ _ _ _ => trivial) ?_ ?_
      · rintro i x σ' G' G'' hi ⟨rfl, y3, y4, y6, y7, rfl, same⟩ ⟨eG, ex⟩
        subst eG
        subst ex
        have hi1 : i < l1.length := hi
        have hi2 : i < l2.length := by omega
        have at1 : l1[i]? = some l1[i] := List.getElem?_eq_getElem hi1
        have at2 : l2[i]? = some l2[i] := List.getElem?_eq_getElem hi2
        have ei : V.int (0 + (i : Int)) = V.int (i : Int) := by rw [Int.zero_add]
        have rd1 : ∀ Q' : VK, Q' (.str ⟨#[l1[i]]⟩) G'' → rIxS (.str ⟨l1.toArray⟩) (V.int (0 + (i : Int))) G'' Q' := fun Q' q => ⟨_, _, _, rfl, ei, len_small (by rw [len1]; exact ll1), atI_nat (by rw [List.toList_toArray]; exact at1), q⟩
        have rd2 : ∀ Q' : VK, Q' (.str ⟨#[l2[i]]⟩) G'' → rIxS (.str ⟨l2.toArray⟩) (V.int (0 + (i : Int))) G'' Q' := fun Q' q => ⟨_, _, _, rfl, ei, len_small (by rw [len2]; exact ll2), atI_nat (by rw [List.toList_toArray]; exact at2), q⟩
        refine ⟨_, rfl, _, rfl, rd1 _ ?_⟩
        refine ⟨_, rfl, _, rfl, rd2 _ ⟨rfl, _, rfl, ?_⟩⟩
        by_cases q : l1[i] = l2[i]
        · rw [show (!decide (V.str (⟨#[l1[i]]⟩ : Str) = V.str ⟨#[l2[i]]⟩)) = false from by rw [q, decide_eq_true rfl]; rfl]
          refine iteF ⟨rfl, _, _, _, _, rfl, fun j hj => ?_⟩
          by_cases z : j = i
          · subst z; rw [at1, at2, q]
          · exact same j (by omega)
        · rw [show (!decide (V.str (⟨#[l1[i]]⟩ : Str) = V.str ⟨#[l2[i]]⟩)) = true from by rw [decide_eq_false fun z => q (by simpa using V.str.inj z)]; rfl]
          have m1' := mem1 _ (List.getElem_mem hi1)
          have m2' := mem2 _ (List.getElem_mem hi2)
          obtain ⟨a1, a2, a3⟩ := index_facts nd0 m1'
          obtain ⟨b1', b2', b3'⟩ := index_facts nd0 m2'
          refine iteT ⟨_, rfl, .inl ⟨rfl, _, SqL.of hD4⟩, _, rfl, _, rfl, rd1 _ ⟨D, _, _, _, _, rfl, rfl, SqL.of hD4, rfl, flatSgs _, a1, a2, a3, ?_⟩⟩
          refine ⟨_, rfl, .inl ⟨rfl, _, SqL.of hD4⟩, _, rfl, _, rfl, rd2 _ ⟨D, _, _, _, _, rfl, rfl, SqL.of hD4, rfl, flatSgs _, b1', b2', b3', ?_⟩⟩
          refine ⟨_, _, rfl, rfl, fin _ _ s4 ?_⟩
          have ix1 : (ixO (es.map (·.1)) l1)[i]? = some (((es.map (·.1)).idxOf l1[i] : Nat) : Int) := by unfold ixO; rw [List.getElem?_map, at1]; rfl
          have ix2 : (ixO (es.map (·.1)) l2)[i]? = some (((es.map (·.1)).idxOf l2[i] : Nat) : Int) := by unfold ixO; rw [List.getElem?_map, at2]; rfl
          refine (ltI_at i _ _ _ _ (fun j hj => ?_) ix1 ix2 fun z => q ?_).symm
          · unfold ixO
            rw [List.getElem?_map, List.getElem?_map, same j hj]
          · have z' := Int.ofNat.inj z
            have g1 := List.getElem_idxOf (List.idxOf_lt_length_iff.mpr m1')
            have g2 := List.getElem_idxOf (List.idxOf_lt_length_iff.mpr m2')
            rw [← g1, ← g2]
            congr 1
      · rintro σ' G' ⟨rfl, y3, y4, y6, y7, rfl, same⟩
        have e : l1 = l2 := List.ext_getElem? fun j => by
          by_cases hj : j < l1.length
          · exact same j hj
          · rw [List.getElem?_eq_none (by omega), List.getElem?_eq_none (by omega)]
        exact fin _ _ s4 (by rw [e, ltI_refl])
end
end Kx
set_option Elab.async false
set_option maxRecDepth 100000
set_option autoImplicit false
set_option pp.maxSteps 400
set_option pp.deepTerms false
/-! _law_all -/
namespace Kx
open PySem L2 PySem.Spec PyProof.Rows Rg Er Ru Tn
abbrev sAll : Stmt := top 25
def grow (k : Nat) (r : List Nat) : List (List Nat) := (List.range k).map (· :: r)
theorem encR_cons (cs r : List Nat) (d : Nat) : encR cs r ++ (⟨#[cs.getD d 0]⟩ : Str) = encR cs (d :: r) := by
  refine TL.ext_tl ?_
  show (encR cs r ++ (⟨#[cs.getD d 0]⟩ : Str)).cps.toList = (encR cs (d :: r)).cps.toList
  rw [Str.cps_append, Array.toList_append]
  unfold encR
  simp
def rCatS : R2 := fun x y H Q => ∃ i j, x = .str i ∧ y = .str j ∧ i.length + j.length ≤ sizeLine ∧ Q (.str (i ++ j)) H
def spAll : Sp := fun vs H Q _ => ∃ (a : Addr) (cs : List Nat) (n : Nat), vs = [.ref a, .int (n : Int)] ∧ H a = some (.lst (cs.map sg)) ∧ 1 ≤ cs.length ∧ cs.length ≤ 4 ∧ n ≤ 3 ∧
  ∀ D H', Same H H' → H' D = some (.lst ((allR cs.length n).map (rowV cs))) → Q (.ref D) H'
section
variable {P : Program} {w : World} {K : PySem.W.Frag} {mg : Str → Option Value} {base : Heap}
abbrev nAll : List Str := ["_law_signs", "_law_length", "_law_found", "_law_k", "_law_longer", "_law_row", "_law_sign"]
theorem scAll : FnScope nAll ["_law_signs", "_law_length"] (defScope sAll) := ⟨rfl, rfl, rfl, by decide +kernel, rfl, by decide +kernel, by decide +kernel⟩
theorem ok_all {f : Addr} {fd : FuncData} (F : L2.Fun K "_law_all" "_law_all" sAll f fd) (T : Txt mg) : FnOk P w K mg base CX0 1 f fd ["_law_signs", "_law_length"] spAll := by
  refine F.ok scAll (fun vs H Q E h => ?_) (fun cdv A outer s H vs Q E hr h => ?_)
  · obtain ⟨a, cs, n, rfl, _⟩ := h
    rfl
  · obtain ⟨a, cs, n, rfl, ha, l1, l4, n3, k⟩ := h
    have nd := scAll.nd
    refine ⟨_, pss_cons (ps_set (i := 2) nd rfl (.inl rfl) (pe_lst (pa_cons pe_str pa_nil)))
      (pss_cons (ps_for PassesOwn.never rfl (pi_range1 (by rfl) T.range (pa_cons (pv 1) pa_nil)) (pg_name (i := 3) nd rfl (Or.inl rfl))
        (pss_cons (ps_set (i := 4) nd rfl (.inl rfl) (pe_lst pa_nil))
        (pss_cons (ps_for PassesOwn.never rfl (pi_list (pv 2)) (pg_name (i := 5) nd rfl (Or.inr rfl))
          (pss_one (ps_set (i := 4) nd rfl (.inl rfl) (pe_op op_cat (pv 4) (pe_lc (own := [("_law_sign", 6)]) (g := gName 6) (tt := tYes) (te := tOp rCatS (tVar 5) (tVar 6)) rfl nd (pi_list (pv 0)) (blkOk_by (own := [("_law_sign", 6)]) (N := nAll) (sc := defScope sAll) (by decide +kernel))
            (fun _ _ _ _ _ => pg_name (i := 6) nd rfl (Or.inl rfl)) (fun _ _ _ _ _ => pts_nil) (fun _ _ _ _ _ => pe_op op_add_str (pv 5) (pv 6)))))))
        (pss_one (ps_set (i := 2) nd rfl (.inl rfl) (pv 4))))))
      (pss_one (ps_ret (pv 2)))), ?_⟩
    refine ⟨by show 1 ≤ sizeLine; decide, fun F0 hF0 => ?_⟩
    refine ⟨_, rfl, n, rfl, by omega, by omega, ?_⟩
    refine for_it walk_range (fun i σ' G => Same H G ∧ ∃ Fa y3 y4 y5 y6, σ' = [some (.ref a), some (.int (n : Int)), some (.ref Fa), y3, y4, y5, y6] ∧ G Fa = some (.lst ((allR cs.length i).map (rowV cs))))
      ⟨Same.new hF0, _, _, _, _, _, rfl, upd_same⟩ (fun _ _ _ _ _ => trivial) ?_ ?_
    rotate_left
    · rintro σ' G ⟨s, Fa, y3, y4, y5, y6, rfl, hF⟩
      exact ⟨_, rfl, k _ _ s hF⟩
    rintro i x σ' G G' hi ⟨s0, Fa, y3, y4, y5, y6, rfl, hF⟩ ⟨eG, ex⟩
    subst eG
    subst ex
    have hi' : i < n := hi
    have few : (allR cs.length i).length ≤ 16 := by
      rw [allR_len]
      have h1 : cs.length ^ i ≤ 4 ^ i := Nat.pow_le_pow_left l4 i
      have h2 : 4 ^ i ≤ 4 ^ 2 := Nat.pow_le_pow_right (by decide) (by omega)
      omega
    have low := allR_low (k := cs.length) (by omega) i
    have up : allR cs.length (i + 1) = (allR cs.length i).flatMap (grow cs.length) := rfl
    generalize allR cs.length i = AL at hF few low up
    refine ⟨Nat.zero_le _, fun Lg hLg => ?_⟩
    have s1 : Same H (upd G' Lg (.lst [])) := Same.trans s0 (Same.new hLg)
    have hF1 := Same.new (o := .lst []) hLg _ _ hF
    refine ⟨_, rfl, Fa, rfl, ⟨_, SqL.of hF1⟩, ?_⟩
    refine for_it walk_list (fun j σ' G => Same H G ∧ G Fa = some (.lst (AL.map (rowV cs))) ∧ ∃ La y5 y6, σ' = [some (.ref a), some (.int (n : Int)), some (.ref Fa), some (.int (0 + (i : Int))), some (.ref La), y5, y6] ∧ G La = some (.lst (((AL.take j).flatMap (grow cs.length)).map (rowV cs))))
      ⟨s1, hF1, _, _, _, rfl, upd_same⟩ (fun j σ' G _ y => SqL.of y.2.1) ?_ ?_
    · rintro j v σ' G G2 hj ⟨s2, hF2, La, y5, y6, rfl, hLa⟩ ⟨eG, ev⟩
      subst eG
      have hj' : j < AL.length := by simpa using hj
      have er : AL[j]? = some AL[j] := List.getElem?_eq_getElem hj'
      have ex : v = rowV cs AL[j] := by
        rw [List.getElem?_map, er] at ev
        exact (Option.some.inj ev).symm
      subst ex
      obtain ⟨rl, rlow⟩ := low _ (List.getElem_mem hj')
      refine ⟨_, rfl, _, rfl, a, rfl, ⟨_, SqL.of (s2 _ _ ha)⟩, fun D hD => ?_⟩
      refine lcMap walk_list (fun d => rowV cs (d :: AL[j])) (by rw [List.length_map, sizeLine_eq]; omega) hD (fun H' q => SqL.of (q _ _ (s2 _ _ ha))) (fun _ _ _ _ q => q.1) ?_ ?_
      · rintro d x H' Q' hd s3 ⟨_, hx⟩ q
        have hd' : d < cs.length := by simpa using hd
        have ex : x = sg (cs.getD d 0) := by
          rw [List.getElem?_map, List.getElem?_eq_getElem hd'] at hx
          rw [List.getD_eq_getElem?_getD, List.getElem?_eq_getElem hd']
          exact (Option.some.inj hx).symm
        subst ex
        refine ⟨_, rfl, _, rfl, _, _, rfl, rfl, ?_, ?_⟩
        · rw [encR_len, rl, sizeLine_eq]
          show i + 1 ≤ _
          omega
        · rw [encR_cons]
          exact q _ (Same.refl _)
      intro H3 s3 hD3
      have lD : (List.range (cs.map sg).length).map (fun d => rowV cs (d :: AL[j])) = (grow cs.length AL[j]).map (rowV cs) := by
        unfold grow
        rw [List.length_map, List.map_map]
        rfl
      rw [lD] at hD3
      have hLa3 := s3 _ _ hLa
      have flat : ∀ l : List (List Nat), (l.flatMap (grow cs.length)).length = l.length * cs.length := fun l => by
        rw [List.length_flatMap, show (fun a => (grow cs.length a).length) = (fun _ : List Nat => cs.length) from by funext r; simp [grow], sum_same]
      refine ⟨La, D, _, _, rfl, rfl, hLa3, hD3, ?_, fun S hS => ?_⟩
      · rw [List.length_map, List.length_map, flat, List.length_take, sizeLine_eq]
        have : (grow cs.length AL[j]).length = cs.length := by simp [grow]
        rw [this]
        have : min j AL.length * cs.length ≤ 16 * 4 := Nat.mul_le_mul (by omega) l4
        omega
      · have s4 := Same.new (o := .lst ((((AL.take j).flatMap (grow cs.length)).map (rowV cs)) ++ (grow cs.length AL[j]).map (rowV cs))) hS
        refine ⟨Same.trans s2 (Same.trans s3 s4), s4 _ _ (s3 _ _ hF2), S, _, _, rfl, ?_⟩
        rw [upd_same, List.take_add_one, er, List.flatMap_append, List.map_append]
        simp
    · rintro σ' G ⟨s2, hF2, La, y5, y6, rfl, hLa⟩
      refine ⟨_, rfl, s2, La, _, _, _, _, rfl, ?_⟩
      rw [hLa, List.length_map, List.take_length, up]
end
end Kx
set_option Elab.async false
set_option maxRecDepth 100000
set_option autoImplicit false
/-! a def whose code object is known; what stays while lambdas are made -/
namespace Kx
open PySem L2 PySem.Spec PyProof.Rows Rg Er Ru LamX
/-- all but the pen and the tables of code stays -/
def Ext2 (p : Addr) (H H' : Hp) : Prop := ∀ b o, b ≠ p → (∀ ps, o ≠ .tbl ps) → H b = some o → H' b = some o
theorem Ext2.refl (p : Addr) (H : Hp) : Ext2 p H H := fun _ _ _ _ q => q
theorem Ext2.of {p : Addr} {H H' : Hp} (e : Ext1 p H H') : Ext2 p H H' := fun b o n _ q => e b o n q
theorem Ext2.trans {p : Addr} {H H1 H2 : Hp} (a : Ext2 p H H1) (b : Ext2 p H1 H2) : Ext2 p H H2 := fun c o n t e => b c o n t (a c o n t e)
theorem Ext2.ofN {p : Addr} {H H' : Hp} (e : ExtN H H') : Ext2 p H H' := fun b o _ t q => e b o q t
/-- as Rg.funG, where the def's code object is known -/
theorem fnG_of {P : Program} {w : World} {K : PySem.W.Frag} {mg : Str → Option Value} {base : Heap} {x qual : Str} {st : Stmt} {f cd : Addr} {oc kV doc pm ct : Value} {od an : Option Addr} {osl : Array (Option Value)} {N ps : List Str} {k : Nat} {sp : Sp}
    (lk : K.lookup f = some ⟨oc, od, .func (PySem.W.fnOf x qual (defArgs st) (defBody st) (defScope st) .none kV doc pm an (.ref cd) ct), osl⟩) (hcd : PySem.W.codeIn K (.ref cd) qual = true) (S : FnScope N ps (defScope st)) (len : ∀ vs H Q E, sp vs H Q E → vs.length = ps.length)
    (body : ∀ (A : Around) (outer : List Env) (s : Shared) (H : Hp) (vs : List V) (Q : VK) (E : XK), A.guards = some [] → Room k (A.deeper (envOfC qual (defScope st) s.heap.objs.size f (.ref cd))) → sp vs H Q E →
      ∃ t, PSs (cxOf CX0 P w K mg base N qual (defScope st) f (.ref cd) A outer s H E).nox (defBody st) t ∧ t { nx := fun _ H' => Q .non H', rt := Q } (L2.start N vs) H) :
    FnG P w K mg base CX0 (k + 1) f (PySem.W.fnOf x qual (defArgs st) (defBody st) (defScope st) .none kV doc pm an (.ref cd) ct) ps sp := by
  refine ⟨len, fun A outer s H args us vs Q E hg hr e0 hb r want => ?_⟩
  have there : ∀ b o, base.get? b = some o → s.heap.get? b = some o := fun b o e => (e0.bs b o e).1
  have KX := e0.mod.kin.keeps there
  have kinds : ∀ y ∈ ps.zip us, (defScope st).names.lookup y.1 = some .local ∨ ((defScope st).names.lookup y.1 = some .cell ∧ ((cellsFrom (s.heap.objs.size + 1) (defScope st).names []).lookup y.1).isSome = true) := by
    rintro ⟨n, v⟩ hy
    rcases S.par n (List.of_mem_zip hy).1 with q | q
    · exact Or.inl q
    · exact Or.inr ⟨q, PySem.W.cellsFrom_some _ _ _ (Or.inl q)⟩
  refine codeAny_call_function hr.depth (KX _ _ lk) rfl S.co S.gen rfl (PySem.W.codeRec_of KX hcd) (hb _ _ _ _ (wpAny_newFunctionEnv_cells S.kind kinds ?_))
  intro env he s1 x
  subst he
  obtain ⟨t, ht, q⟩ := body A outer s H vs Q E hg (hr.deeper _) want
  have I : Inv (cxOf CX0 P w K mg base N qual (defScope st) f (.ref cd) A outer s H E) [] (L2.start N vs) H s1 := inv_start S hr.hd e0 (len _ _ _ _ want) r x
  refine ⟨(e0.mod.nolimit.keeps there).keeps x.toInCall.keep, codeAny_func (wpAny_mono (ht.nox.run [] s1 (L2.start N vs) H _ I q) ?_ fun _ _ z => z)⟩
  intro fl s2 out
  cases fl with
  | ret u => obtain ⟨v, _, H2, J, rv, q2⟩ := out; exact ⟨v, H2, J.os, J.bare, J.base, J.hok, rv, q2⟩
  | next => obtain ⟨_, H2, J, q2⟩ := out; exact ⟨V.non, H2, J.os, J.bare, J.base, J.hok, rfl, q2⟩
  | brk => obtain ⟨_, _, _, q2⟩ := out; exact q2.elim
  | cont => obtain ⟨_, _, _, q2⟩ := out; exact q2.elim
theorem PenAt.extN {c p : Addr} {n : Nat} {H H' : Hp} (h : PenAt c n H p) (e : ExtN H H') : PenAt c n H' p := by
  obtain ⟨ns, a, g, h1, h2, h3⟩ := h
  exact ⟨ns, a, g, e _ _ h1 (fun _ z => nomatch z), e _ _ h2 (fun _ z => nomatch z), h3⟩
/-- the tables stay where all but the pen does -/
theorem tabs_ink {T : List (Addr × Str)} {c p : Addr} {n m : Nat} {H H' : Hp} (h : Tabs T H) (pen : PenAt c n H p) (i : Ink c p m H H') : Tabs T H' := fun t ht => by
  obtain ⟨ps, h1, h2, h3⟩ := h t ht
  obtain ⟨ns, a, g, q1, _⟩ := pen
  have ne : ∀ {b : Addr} {o : HO}, H b = some o → (∀ xs, o ≠ .lst xs) → b ≠ p := fun {b o} e1 k => by
    rintro rfl
    rw [q1] at e1
    exact k _ (Option.some.inj e1).symm
  refine ⟨ps, i.1 _ _ (ne h1 (fun _ z => nomatch z)) h1, h2, fun pos cv e => ?_⟩
  obtain ⟨d, e1, e2⟩ := h3 pos cv e
  exact ⟨d, e1, i.1 _ _ (ne e2 (fun _ z => by unfold CodeO at z; cases z)) e2⟩
theorem tabs_put {T : List (Addr × Str)} {G : Hp} {a : Addr} {xs : List V} {o : HO} (h : Tabs T G) (e : G a = some (.lst xs)) : Tabs T (upd G a o) := fun t ht => by
  obtain ⟨ps, h1, h2, h3⟩ := h t ht
  have ne : ∀ {b : Addr} {u : HO}, G b = some u → (∀ xs, u ≠ .lst xs) → b ≠ a := fun {b u} e1 k => by
    rintro rfl
    rw [e] at e1
    exact k _ (Option.some.inj e1).symm
  refine ⟨ps, by rw [upd_ne (ne h1 (fun _ z => nomatch z))]; exact h1, h2, fun pos cv q => ?_⟩
  obtain ⟨d, e1, e2⟩ := h3 pos cv q
  exact ⟨d, e1, by rw [upd_ne (ne e2 (fun _ z => by unfold CodeO at z; cases z))]; exact e2⟩
/-- the heap grew: the pen at p has moved, tables of code are filled, all else stands -/
structure Gr (T : List (Addr × Str)) (c p : Addr) (n : Nat) (H H' : Hp) : Prop where
  ext : Ext2 p H H'
  pen : PenAt c n H' p
  tabs : Tabs T H'
section
variable {T : List (Addr × Str)} {c p : Addr} {n m : Nat} {H H1 H2 : Hp}
theorem Gr.start (h : PenAt c n H p) (t : Tabs T H) : Gr T c p n H H := ⟨Ext2.refl p H, h, t⟩
theorem Gr.same (g : Gr T c p n H H1) (s : Same H1 H2) : Gr T c p n H H2 := ⟨g.ext.trans (Ext2.of (Same.ext1 p s)), g.pen.ext s, g.tabs.ext s⟩
theorem Gr.ink (g : Gr T c p n H H1) (i : Ink c p m H1 H2) : Gr T c p m H H2 := ⟨g.ext.trans (Ext2.of i.1), i.2, tabs_ink g.tabs g.pen i⟩
theorem Gr.extN (g : Gr T c p n H H1) (e : ExtN H1 H2) (t : Tabs T H2) : Gr T c p n H H2 := ⟨g.ext.trans (Ext2.ofN e), g.pen.extN e, t⟩
theorem Gr.trans (g : Gr T c p n H H1) (k : Gr T c p m H1 H2) : Gr T c p m H H2 := ⟨g.ext.trans k.ext, k.pen, k.tabs⟩
theorem Gr.mono (g : Gr T c p n H H1) (l : n ≤ m) : Gr T c p m H H1 := ⟨g.ext, g.pen.mono l, g.tabs⟩
theorem Gr.at_ (g : Gr T c p n H H1) {b : Addr} {o : HO} (e : H b = some o) (ne : b ≠ p) (nt : ∀ ps, o ≠ .tbl ps := by intro _ z; cases z) : H1 b = some o := g.ext b o ne nt e
/-- a list that is new since H may change -/
theorem Gr.putNew (g : Gr T c p n H H1) {q : Addr} {xs : List V} {o : HO} (new : H q = none) (e : H1 q = some (.lst xs)) (ne : q ≠ p) (nc : q ≠ c) : Gr T c p n H (upd H1 q o) :=
  ⟨fun b u n t z => by rw [upd_ne (ne_of_none z new)]; exact g.ext b u n t z, by
    obtain ⟨ns, a, k, h1, h2, h3⟩ := g.pen
    exact ⟨ns, a, k, by rw [upd_ne ne.symm]; exact h1, by rw [upd_ne nc.symm]; exact h2, h3⟩, tabs_put g.tabs e⟩
/-- what is new is neither the pen nor its cells -/
theorem Gr.freeNe (h : PenAt c n H p) {q : Addr} (new : H q = none) : q ≠ p ∧ q ≠ c := ⟨h.ne1 new, h.ne2 new⟩
theorem PenAt.neO {b : Addr} {o : HO} (h : PenAt c n H p) (e : H b = some o) (k : ∀ xs, o ≠ .lst xs) : b ≠ p := by
  rintro rfl
  obtain ⟨ns, a, g, h1, _⟩ := h
  rw [h1] at e
  exact k _ (Option.some.inj e).symm
theorem PairAt.gr (g : Gr T c p m H H1) (pen : PenAt c n H p) {t : Addr} {d : Nat} {i : Int} (h : PairAt H t d i) : PairAt H1 t d i := ⟨g.at_ h.1 (pen.neO h.1 fun _ z => nomatch z), h.2⟩
theorem PairsD.gr (g : Gr T c p m H H1) (pen : PenAt c n H p) {xs : List V} {es : List (Nat × Int)} (h : PairsD H xs es) : PairsD H1 xs es := h.mono fun _ _ _ q => q.gr g pen
theorem Wts.gr (g : Gr T c p m H H1) (pen : PenAt c n H p) {C a : Addr} {es : List (Nat × Int)} {xs : List V} (h : Wts C H a es xs) : Wts C H1 a es xs := by
  obtain ⟨dx, q, h1, h2, h3⟩ := h
  exact ⟨dx, q, g.at_ h1 (pen.neO h1 fun _ z => nomatch z), g.at_ h2 (pen.neO h2 fun _ z => nomatch z), h3.gr g pen⟩
end
end Kx

set_option Elab.async false
set_option maxRecDepth 100000
set_option autoImplicit false
set_option pp.maxSteps 400
set_option pp.deepTerms false
/-! _law_refused(lambda: ..); place refused -/
namespace Kx
open PySem L2 PySem.Spec PyProof.Rows Rg Er Ru LamX Tn ClX
abbrev sRefused : Stmt := top 26
abbrev nHeard : List Str := ["_law_asking", "_law_found", "_law_at", "error"]
theorem scHeard : FnScope nHeard ["_law_asking"] (defScope sRefused) := ⟨rfl, rfl, rfl, by decide +kernel, rfl, by decide +kernel, by decide +kernel⟩
structure HearP (K : PySem.W.Frag) (mg : Str → Option Value) (x f : Str) (C : Addr) : Prop where
  g : mg x = some (.ref C)
  xf : XfC K C
  em : PySem.W.exmOne K (.ref C) (.ref C) = some true
  no : PySem.W.findIn K (.ref C) f = some none
/-- the error that is heard: [its field] is told -/
def hears (G : Addr) (fld : Str) (Q : VK) : XK := fun cls d H' => ∃ dd v, cls = .ref G ∧ d = some dd ∧ H' dd = some (.xd [(fld, v)]) ∧ ∀ q H'', Same H' H'' → H'' q = some (.lst [v]) → Q (.ref q) H''
def TTheard (G : Addr) (fld : Str) : (XK → Hp → VK → Prop) → Hp → VK → Prop := fun tl H Q => ∀ (H1 : Hp) (Q' : VK), Same H H1 → (∀ v H', Q v H' → Q' v H') → tl (hears G fld Q) H1 Q'
theorem heard_gives {X : Cx} {g : Addr} {cdg : Value} {q : Str} {G : Addr} (T : HearP X.K X.mg "BadRow" "at" G) : GivesTo X nHeard "_law_refused" (defScope sRefused) g cdg (defBody sRefused) "_law_asking" q (TTheard G "at") := by
  intro f c' s H Q tl act hc h
  have nd := scHeard.nd
  refine ⟨_, pss_cons (ps_asg (pe_tup (pa_cons pe_non (pa_cons pe_non pa_nil))) (pg_tup rfl (pgs_cons (pg_name (i := 1) nd rfl (Or.inl rfl)) (pgs_cons (pg_name (i := 2) nd rfl (Or.inl rfl)) pgs_nil))))
    (pss_cons (ps_try_val (i := 3) (j := 2) (c := .ref G) (Wout := fun _ _ _ _ => False) (te := fun a cls d => tLst (tCons (tXf a cls d G "at" (tVar 3)) tNil))
      (tb := fun W D σ H => ∃ Ech : XK, (∀ cls d σ' H', Ech cls d H' → W cls d σ' H') ∧ σ[0]? = some (some (.ref f)) ∧ H c' = some (CodeO c' q) ∧ tl Ech H (fun v H' => D.nx (σ.set 1 (some v)) H'))
      rfl rfl rfl nd rfl rfl rfl rfl ⟨rfl, by decide, .inl T.g⟩ L2.takes0 rfl (fun a oe cls d pn hz hf => pe_lst (pa_cons (pe_xf T.xf T.no hz hf (pv 3)) pa_nil)) (fun W pn xe tk _ => ?_))
    (pss_one (ps_ret (pe_ifExp (pt_cmp (pc_isN (pv 2))) (pv 1) (pv 2))))), ?_⟩
  · refine ⟨fun pins s' σ H' D I h' => ?_⟩
    obtain ⟨Ech, hW, h1, h2, h3⟩ := h'
    exact (pss_one (ps_set (i := 1) nd rfl (.inl rfl) (act W pn xe Ech _ _ tk hW))).run pins s' σ H' D I ⟨h1, h2, h3⟩
  · refine ⟨by show 2 ≤ sizeLine; decide, fun t ht => ?_⟩
    refine ⟨t, _, rfl, SqT.of upd_same, rfl, _, _, rfl, _, _, rfl, rfl, ?_⟩
    have s1 : Same H (upd H t (.tup [.non, .non])) := Same.new ht
    generalize upd H t (.tup [.non, .non]) = H1 at s1 ⊢
    refine ⟨hears G "at" Q, ?_, rfl, s1 _ _ hc, h _ _ s1 fun v H' qv => ⟨_, rfl, true, rfl, iteT ⟨_, rfl, qv⟩⟩⟩
    rintro cls d σ' H' ⟨dd, v, rfl, rfl, hd, k⟩
    refine ⟨true, T.em, fun _ hlen a' na => ?_, fun z => nomatch z⟩
    obtain ⟨x0, x1, x2, x3, rfl⟩ : ∃ x0 x1 x2 x3, σ' = [x0, x1, x2, x3] := by
      match σ', hlen with
      | [x0, x1, x2, x3], _ => exact ⟨x0, x1, x2, x3, rfl⟩
    refine ⟨_, rfl, rfl, rfl, dd, _, v, rfl, hd, rfl, by show 1 ≤ sizeLine; decide, fun q hq => ?_⟩
    exact ⟨_, rfl, false, rfl, iteF ⟨_, rfl, k q _ (Same.new hq) upd_same⟩⟩
def lamQ (x : Str) : Str := x ++ ".<locals>." ++ "<lambda>"
section
variable {P : Program} {w : World} {K : PySem.W.Frag} {mg : Str → Option Value} {base : Heap}
/-- _law_heard(lambda: body), in a def whose code stands at cd -/
theorem pe_hear {N : List Str} {qual : Str} {sc : Scope} {A : Around} {outer : List Env} {s : Shared} {H : Hp} {E0' : XK} {f cd tab G g : Addr} {T : List (Addr × Str)} {cdg oc dV kV doc pm ct : Value} {an od : Option Addr} {osl : Array (Option Value)} {params : Arguments} {body : Expr} {scope : Scope} {t : XK → TE} {p lpos pos : Pos}
    (hr : Room 8 (A.deeper (envOfC qual sc s.heap.objs.size f (.ref cd)))) (Hc : HearP K mg "BadRow" "at" G) (hm : mg "_law_refused" = some (.ref g)) (hk : PySem.W.keepIn K (.ref g) = true)
    (lk : K.lookup g = some ⟨oc, od, .func (PySem.W.fnOf "_law_refused" "_law_refused" (defArgs sRefused) (defBody sRefused) (defScope sRefused) dV kV doc pm an cdg ct), osl⟩) (hcg : PySem.W.codeIn K cdg "_law_refused" = true) (hb : L2.Binds K (PySem.W.fnOf "_law_refused" "_law_refused" (defArgs sRefused) (defBody sRefused) (defScope sRefused) dV kV doc pm an cdg ct) ["_law_asking"] [])
    (TB : TabB base mg cd tab) (hT : (tab, lamQ qual) ∈ T) (hu : ∀ p ∈ T, p.1 = tab → p.2 = lamQ qual) (hg : Gl (cxOf CX0 P w K mg base N qual sc f (.ref cd) A outer s H E0').nox "_law_refused") (L : LamS sc scope) (hdef : defaultsOf params (envOfC qual sc s.heap.objs.size f (.ref cd)) = ([], [])) (hbind : ∀ (q : Str) (cl : List (Str × Addr)) (pm cv ctv : Value), bindArgs (PySem.W.kla_fn "<lambda>" q params body scope cl pm cv ctv) ⟨[], []⟩ = pure [])
    (hbody : ∀ (A' : Around) (outer' : List Env) (s' : Shared) (H' : Hp) (E : XK) (f' c' : Addr), Room 6 (A'.deeper (lamEnv (cxOf CX0 P w K mg base N qual sc f (.ref cd) A outer s H E0').nox scope s'.heap.objs.size f' c')) → PE (lamCx (cxOf CX0 P w K mg base N qual sc f (.ref cd) A outer s H E0').nox A' outer' s' H' E scope f' c') body (t E)) :
    PE (cxOf CX0 P w K mg base N qual sc f (.ref cd) A outer s H E0').nox (.Call (.Name "_law_refused" p) [.Lambda params body scope lpos] [] pos) (tLam T (TTheard G "at") t) :=
  pe_lamcall (X := (cxOf CX0 P w K mg base N qual sc f (.ref cd) A outer s H E0').nox) (a := "_law_asking") (k := 6) hg hm hk lk hcg hb scHeard rfl (Or.inl rfl) (heard_gives Hc) TB rfl hT hu hr L hdef hbind hbody
/-- what the law needs of _law_heard -/
structure Hd (K : PySem.W.Frag) (mg : Str → Option Value) (g : Addr) (cdg oc dV kV doc pm ct : Value) (an od : Option Addr) (osl : Array (Option Value)) : Prop where
  hm : mg "_law_refused" = some (.ref g)
  hk : PySem.W.keepIn K (.ref g) = true
  lk : K.lookup g = some ⟨oc, od, .func (PySem.W.fnOf "_law_refused" "_law_refused" (defArgs sRefused) (defBody sRefused) (defScope sRefused) dV kV doc pm an cdg ct), osl⟩
  hcg : PySem.W.codeIn K cdg "_law_refused" = true
  hb : L2.Binds K (PySem.W.fnOf "_law_refused" "_law_refused" (defArgs sRefused) (defBody sRefused) (defScope sRefused) dV kV doc pm an cdg ct) ["_law_asking"] []
theorem heard_bad {T : List (Addr × Str)} {G : Addr} {t : XK → TE} {σ : L2.St} {H : Hp} {Q : VK} {v : V} (tabs : Tabs T H) (rd : ∀ G1, ExtN H G1 → Tabs T G1 → ∀ (Qn : VK) (E : XK), (∀ G2, Same G1 G2 → raised G "at" v E G2) → t E σ G1 Qn)
    (k : ∀ G' q, ExtN H G' → Tabs T G' → G' q = some (.lst [v]) → Q (.ref q) G') : tLam T (TTheard G "at") t σ H Q :=
  ⟨tabs, fun G1 eN T1 H1 Q' s1 _ => rd H1 (ExtN.trans eN (ExtN.of s1)) (T1.ext s1) Q' _ fun G2 s2 d hd => ⟨d, v, rfl, rfl, upd_same, fun q H'' same hq =>
    k H'' q (ExtN.trans eN (ExtN.trans (ExtN.of s1) (ExtN.trans (ExtN.of s2) (ExtN.of fun b o e => same b o (by rw [upd_ne (ne_of_none e hd)]; exact e))))) (((T1.ext s1).ext s2).ext fun b o e => same b o (by rw [upd_ne (ne_of_none e hd)]; exact e)) hq⟩⟩
theorem ok_wPlaceB {C CR f f1 ps_ gs : Addr} {fd fd1 fds : FuncData} (F : L2.Fun K "place" "Weights.place" sWPlace f fd) (M : WT K C)
    (G1 : FnOk P w K mg base (L2.CX P w) 3 f1 fd1 ["signs", "value"] (spCheckB K CR)) (m1 : mg "check_row" = some (.ref f1)) (k1 : PySem.W.keepIn K (.ref f1) = true) (b1 : L2.Binds K fd1 ["signs", "value"] [])
    (po : PropOf K C "signs" ps_ gs) (GS : FnOk P w K mg base CX0 1 gs fds ["self"] (getSp C "_signs")) (bS : L2.Binds K fds ["self"] []) : FnOk P w K mg base (L2.CX P w) 4 f fd ["self", "row"] (spWCallB K C CR) := by
  refine F.okX scWPlace (fun vs H Q E h => ?_) (fun cdv A outer s H vs Q E hr h => ?_)
  · obtain ⟨a, xs, es, x, i, rfl, _⟩ := h
    rfl
  · obtain ⟨a, xs, es, x, i, rfl, ⟨dx, p, ha, hp, pd⟩, bad, k⟩ := h
    have hr2 := hr.mono (show 1 + 1 ≤ 3 by decide)
    have tk := takes_of (X := cxOf (L2.CX P w) P w K mg base ["self", "row", "sign"] "Weights.place" (defScope sWPlace) f cdv A outer s H E) rfl rfl rfl rfl
    refine ⟨_, pss_cons (ps_expr (pe_call G1 hr (by rfl) m1 k1 b1 .nil (passes_call tk fun _ _ _ _ h => h) (pa_cons (pe_prop (pv 0) M.cl po GS hr2 bS .nil pass0 rfl) (pa_cons (pv 1) pa_nil)))) (pss_one ps_never), ?_⟩
    exact ⟨_, rfl, a, dx, _, rfl, ha, a, dx, _, _, rfl, ha, wf_signs _ _, _, rfl, _, _, _, rfl, bad, k⟩
end
end Kx
set_option Elab.async false
set_option maxRecDepth 100000
set_option autoImplicit false
set_option pp.maxSteps 400
set_option pp.deepTerms false
/-! o(..), text[::-1]; _law_odd_right -/
namespace Ru
open PySem L2 PySem.Spec PyProof.Rows PySem.Calls Er GenW Rg
section
variable {X : Cx} {CX : CXT} {k : Nat} {C f : Addr} {fd : FuncData} {ps : List Str} {sp : Sp} {E : L2.St → XK} {pins : List (Addr × Obj)} {σ : L2.St} {H : Hp} {s : Shared} {a b fe e : Expr} {es : List Expr} {pos : Pos} {ta tb tf : TE} {t : TA}
/-- o(e, ..) -/
def tCallOS (C : Addr) (sp : Sp) (E : L2.St → XK) (tf : TE) (t : TA) : TE := fun σ H Q => tf σ H fun y H1 => ∃ a, y = V.ref a ∧ t σ H1 fun vs H2 => (∃ dx fs, H2 a = some (.ins C dx fs)) ∧ sp (V.ref a :: vs) H2 Q (E σ)
theorem pe_callOS (hf : PE X fe tf) (c : StX.CallO X.K C f) (F : FnOk X.prog X.w X.K X.mg X.base CX k f fd ps sp) (hr : Room k X.A) (bd : Binds X.K fd ps []) (hx : ∀ σ, PassesAt CX X σ (E σ)) (ha : PA X (e :: es) t)
    (ht : eval (.Call fe (e :: es) [] pos) X.env = (do callWith pos (← eval fe X.env) [] (backTo pos (starEach (e :: es) X.env)) (backToKw pos (keywordEach [] X.env))) := by rfl)
    (he : starEach (e :: es) X.env = (false, eval e X.env) :: starEach es X.env := by rfl) (hpl : (backTo pos (starEach es X.env)).any (·.1) = false := by rfl) : PE X (.Call fe (e :: es) [] pos) (tCallOS C sp E tf t) := by
  refine ⟨fun pins s σ H Q I h => ?_⟩
  refine Call_ (thn (hf.run pins s σ H _ I h) fun u s1 ⟨y, H1, I1, ry, a, ey, q⟩ => ?_) ht
  subst ey
  obtain rfl : u = Value.ref a := ry
  refine StX.callO_with (thn (ha.run pos pins s1 σ H1 _ I1 q) fun us s2 ⟨vs, H2, I2, r, ⟨dx, fs, hi⟩, q2⟩ => ?_) he hpl
  obtain ⟨ox, od, J, hd⟩ := StX.insC_at I2 (.inr ⟨dx, fs, hi⟩)
  refine ⟨⟨C, ox, od, J, hd⟩, ?_⟩
  have len : (Value.ref a :: us).length = ps.length := (show Vals (V.ref a :: vs) (Value.ref a :: us) from .cons rfl r).length.symm.trans (F.len _ _ _ _ q2)
  have bt : BindsTo s2 fd ⟨Value.ref a :: us, []⟩ (ps.zip (Value.ref a :: us)) := by
    have z := bd s2 (Value.ref a :: us) I2.kIn (by rw [List.append_nil]; exact len)
    rw [List.append_nil] at z
    exact z
  refine wpAny_call (PySem.W.kco_code I2.kIn J hd c.at_ c.fn c.fi (codeAny_mono (F.run X.A X.stack s2 H2 ⟨Value.ref a :: us, []⟩ (Value.ref a :: us) (V.ref a :: vs) Q (E σ) hr I2.env0 bt (.cons rfl r) q2) fun res s' got => ?_))
  rcases res with er | fl
  · exact hx σ pins H2 s2 er s' I2 got
  · cases fl <;> first | exact I2.after got | exact False.elim got
def revS (z : Str) : Str := ⟨z.cps.toList.reverse.toArray⟩
theorem rev_pick (z : Str) : ((Builtin.Str.strSliceIndices none none (-1) z.length).filterMap (z.cps[·]?)).toArray = z.cps.toList.reverse.toArray := by
  congr 1
  rw [picked_rev, PyProof.Rows.filterMap_get, List.map_map]
  · refine List.ext_getElem (by simp [Str.length]) fun i h1 h2 => ?_
    have hi : i < z.cps.size := by simpa [Str.length] using h1
    have hj : z.cps.size - 1 - i < z.cps.size := by omega
    simp [Str.length, Array.getD, hj]
  · intro i hi
    obtain ⟨k, hk, rfl⟩ := List.mem_map.mp hi
    have hk' : k < z.length := List.mem_range.mp hk
    show z.length - 1 - k < z.length
    omega
def tRevS (te : TE) : TE := fun σ H Q => te σ H fun x H1 => ∃ z : Str, x = .str z ∧ z.length ≤ sizeLine ∧ Q (.str (revS z)) H1
theorem pe_revS {e : Expr} {te : TE} {k : Nat} {p1 p2 p3 pos : Pos} (he : PE X e te) : PE X (.Subscript e (.Slice none none (some (.UnaryOp .USub (.Constant (.int 1) k p1) p2)) p3) pos) (tRevS te) := by
  refine ⟨fun pins s σ H Q I h => ?_⟩
  refine Subscript_ (thn (he.run pins s σ H _ I h) fun v s1 ⟨x, H1, I1, r1, q1⟩ => ?_)
  obtain ⟨z, ex, hz, q⟩ := q1
  subst ex
  obtain ⟨t, rfl⟩ := r1
  have hst : PO X (some (.UnaryOp .USub (.Constant (.int 1) k p1) p2)) (tPart (tUn (rU fun i => .int (-i)) (tC (.int 1)))) := po_some (pe_un un_neg pe_int)
  refine wpAny_Slice (thn (po_none.run pins s1 σ H1 (fun o H2 => o = none ∧ H2 = H1) I1 ⟨rfl, rfl⟩) fun vl s2 ⟨l, H2, I2, pl, el, e2⟩ => ?_)
  subst el e2
  refine thn (po_none.run pins s2 σ H2 (fun o H3 => o = none ∧ H3 = H2) I2 ⟨rfl, rfl⟩) fun vu s3 ⟨u, H3, I3, pu, eu, e3⟩ => ?_
  subst eu e3
  refine thn (hst.run pins s3 σ H3 (fun o H4 => o = some (-1) ∧ H4 = H3) I3 ⟨1, rfl, -1, rfl, rfl, rfl⟩) fun vs s4 ⟨o, H4, I4, ps, eo, e4⟩ => ?_
  subst eo e4
  have I5 : Inv X pins σ H4 { s4 with heap := s4.heap.push { cls := .type "slice", data := .fields #[vl, vu, vs] } } := I4.kept (t' := s4.toks) fun b ob q => Heap.get?_push_of_some _ q
  obtain ⟨l, rfl, hl⟩ := IsPart.raw pl
  obtain ⟨u, rfl, hu⟩ := IsPart.raw pu
  obtain ⟨st, rfl, hs⟩ := IsPart.raw ps
  cases l with
  | some _ => cases hl
  | none =>
  cases u with
  | some _ => cases hu
  | none =>
  show wpAny (model X.prog X.w) X.A (subscriptTail e (.Slice none none (some (.UnaryOp .USub (.Constant (.int 1) k p1) p2)) p3) (.str z t) (.ref s4.heap.objs.size)) (EP X pins σ Q) X.xe { s4 with heap := s4.heap.push { cls := .type "slice", data := .fields _ } }
  refine tail_any (ops := [.str z t, .ref s4.heap.objs.size]) (typeIs_str _ _ _) (PySem.F.slot_str_getitem.lookup) ?_ (by with_unfolding_all rfl)
  refine wpAny_getItem_str_slice (l := none) (u := none) (st := st) (Heap.IsSliceOf.new _ _ _ _) ?_ ?_
  · rw [hs]; rfl
  have pick := rev_pick z
  unfold PySem.sliceMade PySem.slicePicked
  rw [hs]
  rw [if_neg (by rw [show ((some (-1 : Int)).getD 1 == 1) = false from rfl, Bool.false_and]; exact Bool.false_ne_true)]
  show Made.post (Made.str ⟨((Builtin.Str.strSliceIndices none none (-1) z.length).filterMap (z.cps[·]?)).toArray⟩) _ _
  rw [pick]
  refine ⟨?_, .str _, _, I5.tok _, ⟨_, rfl⟩, q⟩
  show (z.cps.toList.reverse.toArray).size ≤ sizeLine
  rw [List.size_toArray, List.length_reverse, Array.length_toList]
  exact hz
end
end Ru
namespace Kx
open PySem L2 PySem.Spec PyProof.Rows Rg Er Ru LamX Tn ClX
abbrev sOdd : Stmt := top 27
theorem lstrip_odd {z a s b : Str} {c : Nat} (ha : Word z a) (hs : s.cps.toList = [c]) (hc : c ∉ z.cps.toList) : Txt.lstripChars (a ++ s ++ b) z = s ++ b := by
  have el : (a ++ s ++ b).cps.toList = a.cps.toList ++ (c :: b.cps.toList) := by
    rw [Str.cps_append, Array.toList_append, Str.cps_append, Array.toList_append, hs, List.append_assoc]
    rfl
  have pc : z.cps.contains c = false := by
    rw [Bool.eq_false_iff]
    intro q
    exact hc (by simpa using q)
  have e : (a ++ s ++ b).cps.toList.takeWhile z.cps.contains = a.cps.toList := by
    rw [el, List.takeWhile_append_of_pos (fun d hd => by have := ha d hd; simpa using this), List.takeWhile_cons, pc]
    simp
  have lo : stripLo z.cps.contains true (a ++ s ++ b) = a.cps.size := by unfold stripLo; simp [e]
  have len : (a ++ s ++ b).length = a.cps.size + (s ++ b).length := by
    show (a ++ s ++ b).cps.size = a.cps.size + (s ++ b).cps.size
    rw [Str.cps_append, Str.cps_append, Str.cps_append, Array.size_append, Array.size_append, Array.size_append, Nat.add_assoc]
  show Txt.stripBy z.cps.contains true false (a ++ s ++ b) = s ++ b
  unfold Txt.stripBy stripSame stripped
  rw [lo]
  have hi : stripHi z.cps.contains false (a ++ s ++ b) a.cps.size = (a ++ s ++ b).length := rfl
  rw [hi]
  have cut : (⟨(a ++ s ++ b).cps.extract a.cps.size (a ++ s ++ b).length⟩ : Str) = s ++ b := by
    refine TL.ext_tl ?_
    show ((a ++ s ++ b).cps.extract a.cps.size (a ++ s ++ b).length).toList = (s ++ b).cps.toList
    rw [Array.toList_extract, el, Str.cps_append, Array.toList_append, hs]
    show ((a.cps.toList ++ (c :: b.cps.toList)).drop a.cps.size).take ((a ++ s ++ b).length - a.cps.size) = [c] ++ b.cps.toList
    have l2 : (s ++ b).length = (c :: b.cps.toList).length := by
      show (s ++ b).cps.size = _
      rw [Str.cps_append, Array.size_append, ← Array.length_toList (xs := s.cps), hs, ← Array.length_toList (xs := b.cps)]
      simp
      omega
    rw [show a.cps.size = a.cps.toList.length by simp, List.drop_left, len, l2, show a.cps.size = a.cps.toList.length by simp, Nat.add_sub_cancel_left, List.take_length]
    rfl
  have pos : 0 < (s ++ b).length := by
    show 0 < (s ++ b).cps.size
    rw [Str.cps_append, Array.size_append, ← Array.length_toList (xs := s.cps), hs]
    simp
    omega
  split
  · rename_i q
    have q0 : a.cps.toList = [] := by
      have z0 : a.cps.size = 0 := by simpa using (Bool.and_eq_true_iff.mp q).1
      exact List.eq_nil_of_length_eq_zero (by simpa using z0)
    refine TL.ext_tl ?_
    show (a ++ s ++ b).cps.toList = (s ++ b).cps.toList
    rw [el, q0, Str.cps_append, Array.toList_append, hs]
    rfl
  · exact cut
/-- a comprehension with a condition, by an invariant -/
theorem lcSel {J : It} {n : Nat} {G : Hp → Prop} {Y : Nat → Hp → V → Hp → Prop} (w : Walk J n G Y) {v : Nat} {tt : TT} {te : TE} {σ : L2.St} {H1 : Hp} {D : Addr} {Qd : Hp → Prop} (Iv : Nat → Hp → List V → Prop) (hn : n < sizeLine)
    (h0 : Iv 0 (upd H1 D (.lst [])) []) (hG : ∀ i H' acc, i ≤ n → Iv i H' acc → G H') (hY : ∀ i H' x H2, Y i H' x H2 → H2 = H')
    (el : ∀ i x H' acc (Q : VK) (Qf : Hp → Prop), i < n → H' D = some (.lst acc) → acc.length ≤ i → Iv i H' acc → Y i H' x H' → (∀ y H4, H4 D = some (.lst acc) → Iv (i + 1) (upd H4 D (.lst (acc ++ [y]))) (acc ++ [y]) → Q y H4) → (∀ H3, H3 D = some (.lst acc) → Iv (i + 1) H3 acc → Qf H3) →
      tt ((wipe σ [v]).set v (some x)) H' fun b H3 => if b = true then te ((wipe σ [v]).set v (some x)) H3 Q else Qf H3)
    (hd : ∀ H' acc, H' D = some (.lst acc) → acc.length ≤ n → Iv n H' acc → Qd H') :
    ∃ W : Nat → Nat → Hp → Prop, (∃ m, W 0 m (upd H1 D (.lst []))) ∧ ∀ i m H, W i m H →
      (J.stop i H ∧ Qd H) ∨ (J.go i H ∧ ∃ Nx : Hp → Prop, (∀ H', Nx H' → ∃ m', m' < m ∧ W (i + 1) m' H') ∧ ∀ x H', J.yld i H x H' → gName v x (wipe σ [v]) H' fun σ2 H2 => wipe σ2 [v] = wipe σ [v] ∧ tt σ2 H2 fun b H3 =>
        if b = true then te σ2 H3 fun y H4 => ∃ acc, H4 D = some (.lst acc) ∧ acc.length < sizeLine ∧ Nx (upd H4 D (.lst (acc ++ [y]))) else Nx H3) := by
  refine lc_it w (fun i H' => ∃ acc, H' D = some (.lst acc) ∧ acc.length ≤ i ∧ Iv i H' acc) ⟨[], upd_same, Nat.le_refl _, h0⟩ (fun i H' hi ⟨acc, _, _, q⟩ => hG i H' acc hi q) ?_ fun H' ⟨acc, q1, q2, q3⟩ => hd H' acc q1 q2 q3
  rintro i x H' H2 hi ⟨acc, ha, hl, iv⟩ y
  obtain rfl := hY _ _ _ _ y
  refine ⟨wipe1 σ v x, ?_⟩
  exact el i x H2 acc _ _ hi ha hl iv y (fun y H4 h4 i4 => ⟨acc, h4, by omega, _, upd_same, by simp; omega, i4⟩) (fun H3 h3 i3 => ⟨acc, h3, by omega, i3⟩)
theorem inV_sg (c : Nat) (ds : List Nat) : inV (sg c) (ds.map sg) = decide (c ∈ ds) := by
  refine Bool.eq_iff_iff.mpr ?_
  unfold inV
  rw [List.any_eq_true, decide_eq_true_iff]
  constructor
  · rintro ⟨y, hy, e⟩
    obtain ⟨d, hd, rfl⟩ := List.mem_map.mp hy
    have e' : ((⟨#[d]⟩ : Str) == ⟨#[c]⟩) = true := e
    rw [beq_iff_eq] at e'
    have := congrArg (fun s : Str => s.cps.toList) e'
    have : d = c := by simpa using this
    rw [← this]; exact hd
  · intro h
    exact ⟨sg c, List.mem_map.mpr ⟨c, h, rfl⟩, by show ((⟨#[c]⟩ : Str) == ⟨#[c]⟩) = true; exact beq_self_eq_true _⟩
theorem cut_take {l : List Nat} {k : Nat} (h : k ≤ l.length) : cutS ⟨l.toArray⟩ none (some (k : Int)) = ⟨(l.take k).toArray⟩ := by
  have len : (⟨l.toArray⟩ : Str).length = l.length := by show l.toArray.size = _; simp
  unfold cutS
  rw [len, show HT.sIx l.length 0 none = 0 from rfl, HT.sIx_nat, List.drop_zero, Nat.sub_zero, Nat.min_eq_left h, List.toList_toArray]
theorem cut_drop {l : List Nat} {k : Nat} (h : k ≤ l.length) : cutS ⟨l.toArray⟩ (some (k : Int)) none = ⟨(l.drop k).toArray⟩ := by
  have len : (⟨l.toArray⟩ : Str).length = l.length := by show l.toArray.size = _; simp
  unfold cutS
  rw [len, show HT.sIx l.length l.length none = l.length from rfl, HT.sIx_nat, Nat.min_eq_left h, List.toList_toArray, List.take_of_length_le (by simp)]
theorem wf_no {m z : Str} {p : Addr} (h1 : (m == "_signs") = false) (h2 : (m == "pairs") = false) : (wf z p).lookup m = none := by
  unfold wf wf1
  simp only [lookup_putF]
  rw [if_neg (by simpa using h2), if_neg (by simpa using h1)]
  rfl
structure WK (P : Program) (w : World) (K : PySem.W.Frag) (mg : Str → Option Value) (base : Heap) (C CR : Addr) : Prop where
  M : WT K C
  gC : mg "Weights" = some (.ref C)
  hear : HearP K mg "BadRow" "at" CR
  rd : CRead K C (.type "type")
  of_ : ∃ CB p g, CMet K C (.type "type") "of" p g ∧ FnR P w K mg base (L2.CX P w) 6 g (spWOfA K C CB)
  rows : ∃ g fd, Meth K C "rows" g ∧ GFn P w K mg base 3 g fd ["self", "length"] (spRowsL C) ∧ L2.Binds K fd ["self", "length"] []
  call : ∃ g fd, StX.CallO K C g ∧ FnOk P w K mg base CX0 3 g fd ["self", "row"] (spWCall C) ∧ FnOk P w K mg base (L2.CX P w) 4 g fd ["self", "row"] (spWCallB K C CR) ∧ L2.Binds K fd ["self", "row"] []
  place : ∃ g fd, Meth K C "place" g ∧ FnOk P w K mg base CX0 3 g fd ["self", "row"] (spWPlace C) ∧ FnOk P w K mg base (L2.CX P w) 4 g fd ["self", "row"] (spWCallB K C CR) ∧ L2.Binds K fd ["self", "row"] []
/-- x is no row, here and at each heap behind -/
def BadS (K : PySem.W.Frag) (p : Addr) (H : Hp) (z : Str) (x : V) (i : Int) : Prop := ∀ H', Ext2 p H H' → Bad K H' z x i
theorem BadS.mono {K : PySem.W.Frag} {p : Addr} {H H' : Hp} {z : Str} {x : V} {i : Int} (h : BadS K p H z x i) (e : Ext2 p H H') : BadS K p H' z x i := fun H2 e2 => h H2 (e.trans e2)
/-- at v a pair of what is no row and where -/
def OddP (K : PySem.W.Frag) (p : Addr) (H : Hp) (z : Str) (v : V) : Prop := ∃ (t : Addr) (x : V) (i : Int), v = .ref t ∧ H t = some (.tup [x, .int i]) ∧ BadS K p H z x i
theorem OddP.mono {K : PySem.W.Frag} {c p : Addr} {n : Nat} {H H' : Hp} {z : Str} {v : V} (pen : PenAt c n H p) (h : OddP K p H z v) (e : Ext2 p H H') : OddP K p H' z v := by
  obtain ⟨t, x, i, rfl, ht, b⟩ := h
  exact ⟨t, x, i, rfl, e _ _ (pen.neO ht fun _ z => nomatch z) (fun _ z => nomatch z) ht, b.mono e⟩
def spOdd (T3 : List (Addr × Str)) (C : Addr) : Sp := fun vs H Q _ => ∃ (c p q l : Addr) (n : Nat) (xs : List V) (es : List (Nat × Int)) (rw_ : List Nat), vs = [.ref p, .ref q, .ref l, .str ⟨rw_.toArray⟩] ∧ n ≤ 800000 ∧ PenAt c n H p ∧ Wts C H q es xs ∧ 1 ≤ es.length ∧ es.length ≤ 4 ∧
  l ≠ p ∧ H l = some (.lst ((es.map (·.1)).map sg)) ∧ (∀ d ∈ rw_, d ∈ es.map (·.1)) ∧ rw_.length ≤ 20 ∧ Tabs T3 H ∧ ∀ H', Gr T3 c p (n + 10) H H' → Q (.bl true) H'
section
variable {P : Program} {w : World} {K : PySem.W.Frag} {mg : Str → Option Value} {base : Heap}
abbrev nOdd : List Str := ["_law_pen_here", "_law_weights", "_law_signs", "_law_row", "_law_others", "_law_letter", "_law_at", "_law_later", "_law_bent", "_law_odd", "_law_due"]
theorem scOdd : FnScope nOdd ["_law_pen_here", "_law_weights", "_law_signs", "_law_row"] (defScope sOdd) := ⟨rfl, rfl, rfl, by decide +kernel, rfl, by decide +kernel, by decide +kernel⟩
set_option maxHeartbeats 0 in
theorem ok_odd {C CR f cd tab g f1 f2 : Addr} {T3 : List (Addr × Str)} {cdg oc dV kV doc pm ct oc' kV' doc' pm' ct' : Value} {an od an' od' : Option Addr} {osl osl' : Array (Option Value)} {fd1 fd2 : FuncData} (T : Txt mg) (S : WK P w K mg base C CR) (Hh : Hd K mg g cdg oc dV kV doc pm ct an od osl)
    (lkL : K.lookup f = some ⟨oc', od', .func (PySem.W.fnOf "_law_odd_right" "_law_odd_right" (defArgs sOdd) (defBody sOdd) (defScope sOdd) .none kV' doc' pm' an' (.ref cd) ct'), osl'⟩) (hcL : PySem.W.codeIn K (.ref cd) "_law_odd_right" = true) (TB : TabB base mg cd tab)
    (hT : (tab, lamQ "_law_odd_right") ∈ T3) (hu : ∀ p ∈ T3, p.1 = tab → p.2 = lamQ "_law_odd_right")
    (G1 : FnOk P w K mg base CX0 1 f1 fd1 ["_law_pen_here", "_law_many"] spDraw) (m1 : mg "_law_draw" = some (.ref f1)) (k1 : PySem.W.keepIn K (.ref f1) = true) (b1 : L2.Binds K fd1 ["_law_pen_here", "_law_many"] [])
    (G2 : FnOk P w K mg base CX0 2 f2 fd2 ["_law_pen_here", "_law_things"] spPick) (m2 : mg "_law_pick" = some (.ref f2)) (k2 : PySem.W.keepIn K (.ref f2) = true) (b2 : L2.Binds K fd2 ["_law_pen_here", "_law_things"] []) :
    FnG P w K mg base CX0 9 f (PySem.W.fnOf "_law_odd_right" "_law_odd_right" (defArgs sOdd) (defBody sOdd) (defScope sOdd) .none kV' doc' pm' an' (.ref cd) ct') ["_law_pen_here", "_law_weights", "_law_signs", "_law_row"] (spOdd T3 C) := by
  refine fnG_of lkL hcL scOdd (fun vs H Q E h => ?_) (fun A outer s H vs Q E hg hr h => ?_)
  · obtain ⟨c, p, q, l, n, xs, es, rw_, rfl, _⟩ := h
    rfl
  · obtain ⟨c, p, q, l, n, xs, es, rw_, rfl, nb, pen, wts, l1, l4, lp, hl, mem, rl, tabs, k⟩ := h
    obtain ⟨M, gC, hear, _, _, _, ⟨gc, fdc, co, _, FcB, bc⟩, ⟨gp, fdp, mp, _, FpB, bp⟩⟩ := S
    have nd := scOdd.nd
    have hr1 := hr.mono (show 1 ≤ 8 by decide)
    have hr2 := hr.mono (show 2 ≤ 8 by decide)
    refine ⟨_, (pss_cons (ps_set (i := 4) nd rfl (.inl rfl) (pe_op op_cat (pe_lc (own := [("_law_letter", 5)]) (g := gName 5) (tt := tTest (tOp (rIn K true) (tVar 5) (tVar 2))) (te := tVar 5) rfl nd (pi_str pe_str) (blkOk_by (own := [("_law_letter", 5)]) (N := nOdd) (sc := defScope sOdd) (by decide +kernel))
        (fun _ _ _ _ _ => pg_name (i := 5) nd rfl (Or.inl rfl)) (fun _ _ _ _ _ => pts_one (pt_cmpR op_notIn_seq (pv 5) (pv 2) rfl)) (fun _ _ _ _ _ => pv 5)) (pe_lst (pa_cons pe_str (pa_cons pe_str (pa_cons pe_str (pa_cons pe_str (pa_cons pe_str pa_nil))))))))
      (pss_cons (ps_set (i := 6) nd rfl (.inl rfl) (pe_call G1 hr1 (by rfl) m1 k1 b1 .nil pass0 (pa_cons (pv 0) (pa_cons (pe_op op_add (bLen (by rfl) T.len (pv 3)) pe_int) pa_nil))))
      (pss_cons (ps_set (i := 7) nd rfl (.inl rfl) (pe_call G1 hr1 (by rfl) m1 k1 b1 .nil pass0 (pa_cons (pv 0) (pa_cons pe_int pa_nil))))
      (pss_cons (ps_set (i := 8) nd rfl (.inl rfl) (pe_op op_add_str (pe_op op_add_str (pe_op op_add_str (pe_slice sl_str (pv 3) po_none (po_some (pv 6))) (pe_call G2 hr2 (by rfl) m2 k2 b2 .nil pass0 (pa_cons (pv 0) (pa_cons (pv 4) pa_nil)))) (pe_slice sl_str (pv 3) (po_some (pv 6)) po_none))
        (pe_op op_mulC (pe_call G2 hr2 (by rfl) m2 k2 b2 .nil pass0 (pa_cons (pv 0) (pa_cons (pv 4) pa_nil))) (pv 7))))
      (pss_cons (ps_for PassesOwn.never rfl (pi_list (pe_lst (pa_cons (pe_tup (pa_cons (pv 8) (pa_cons (pv 6) pa_nil))) (pa_cons (pe_tup (pa_cons pe_non (pa_cons pe_int pa_nil))) (pa_cons (pe_tup (pa_cons (pe_lst (pa_cons (pv 3) pa_nil)) (pa_cons pe_int pa_nil)))
          (pa_cons (pe_tup (pa_cons (bTup (by rfl) T.tuple (pv 2)) (pa_cons pe_int pa_nil))) (pa_cons (pe_tup (pa_cons pe_int (pa_cons pe_int pa_nil))) (pa_cons (pe_tup (pa_cons pe_bl (pa_cons pe_int pa_nil))) (pa_cons (pe_tup (pa_cons pe_dnewK (pa_cons pe_int pa_nil))) pa_nil)))))))))
          (pg_tup rfl (pgs_cons (pg_name (i := 9) nd rfl (Or.inr rfl)) (pgs_cons (pg_name (i := 10) nd rfl (Or.inl rfl)) pgs_nil)))
        (pss_cons (ps_if (pt_cmpR (op_neP hr.units) (pe_hear (T := T3) (t := fun E => tCallOS C (spWCallB K C CR) (fun _ => E) (tVar 1) (tCons (tVar 9) tNil)) hr hear Hh.hm Hh.hk Hh.lk Hh.hcg Hh.hb TB hT hu (by rfl) (lamS_by (by decide +kernel)) rfl (fun _ _ _ _ _ => rfl)
            (fun A' outer' s' H' E f' c' hr' => pe_callOS (E := fun _ => E) (pv 1) co FcB (hr'.mono (by decide)) bc (fun σ => passAt (takes_of (E := E) rfl rfl rfl rfl) σ) (pa_cons (pv 9) pa_nil))) (pe_lst (pa_cons (pv 10) pa_nil)) (nomark _)) (pss_one ps_never) pss_nil)
        (pss_one (ps_if (pt_cmpR (op_neP hr.units) (pe_hear (T := T3) (t := fun E => tMeth C "place" (spWCallB K C CR) [] E (tVar 1) (tCons (tVar 9) tNil)) hr hear Hh.hm Hh.hk Hh.lk Hh.hcg Hh.hb TB hT hu (by rfl) (lamS_by (by decide +kernel)) rfl (fun _ _ _ _ _ => rfl)
            (fun A' outer' s' H' E f' c' hr' => pe_meth (pv 1) M.cl mp FpB (hr'.mono (by decide)) bp .nil (passes_call (takes_of (E := E) rfl rfl rfl rfl) fun _ _ _ _ h => h) (pa_cons (pv 9) pa_nil))) (pe_lst (pa_cons (pv 10) pa_nil)) (nomark _)) (pss_one ps_never) pss_nil))))
      (pss_one (ps_ret pe_bl))))))), ?_⟩
    generalize hcs : es.map (·.1) = cs at hl mem
    have csl : cs.length = es.length := by rw [← hcs]; simp
    have csabc : ∀ d ∈ cs, d ∈ abc.cps.toList := fun d hd => by
      obtain ⟨_, _, _, _, pd⟩ := wts
      rw [← hcs] at hd
      obtain ⟨e, he, rfl⟩ := List.mem_map.mp hd
      obtain ⟨i, hi, rfl⟩ := List.getElem_of_mem he
      obtain ⟨t, _, pt⟩ := pd.2 i _ (List.getElem?_eq_getElem hi)
      exact pt.2.1
    refine ⟨abc, rfl, fun D hD => ?_⟩
    refine lcSel walk_str (fun i H' acc => Same H H' ∧ ∃ ds : List Nat, acc = ds.map sg ∧ ∀ d ∈ ds, d ∉ cs) (by rw [sizeLine_eq]; decide) ⟨Same.new hD, [], rfl, fun _ h => nomatch h⟩ (fun _ _ _ _ _ => trivial) (fun _ _ _ _ y => y.1) ?_ ?_
    · rintro i x H' acc Q' Qf hi hDl hla ⟨s1, ds, rfl, no⟩ ⟨_, d, hd, rfl⟩ hq hf
      refine ⟨_, rfl, _, rfl, l, _, rfl, .inl (SqL.of (s1 _ _ hl)), rfl, flatSgs cs, _, rfl, ?_⟩
      have e : inV (V.str ⟨#[d]⟩) (cs.map sg) = decide (d ∈ cs) := inV_sg d cs
      rw [e]
      by_cases m : d ∈ cs
      · rw [decide_eq_true m]
        exact iteF (hf _ hDl ⟨s1, ds, rfl, no⟩)
      · rw [decide_eq_false m]
        refine iteT ⟨_, rfl, hq _ _ hDl ⟨Same.putNew hD s1, ds ++ [d], by rw [List.map_append]; rfl, fun e' he => ?_⟩⟩
        rcases List.mem_append.mp he with he | he
        · exact no e' he
        · rw [List.mem_singleton.mp he]; exact m
    rintro H1 acc hDl hla ⟨s1, ds, rfl, no⟩
    refine ⟨by show 5 ≤ sizeLine; decide, fun l5 h5 => ?_⟩
    have s2 := Same.trans s1 (Same.new (o := .lst [.str "A", .str "0", .str " ", .str "-", .str "~"]) h5)
    have hD2 := (Same.new (o := .lst [.str "A", .str "0", .str " ", .str "-", .str "~"]) h5) _ _ hDl
    have h52 : upd H1 l5 (.lst [.str "A", .str "0", .str " ", .str "-", .str "~"]) l5 = some (.lst ([65, 48, 32, 45, 126].map sg)) := upd_same
    generalize upd H1 l5 (.lst [.str "A", .str "0", .str " ", .str "-", .str "~"]) = H2 at s2 hD2 h52 ⊢
    refine ⟨D, l5, _, _, rfl, rfl, hD2, h52, ?_, fun O hO => ?_⟩
    · rw [List.length_map, List.length_map, sizeLine_eq]
      rw [List.length_map] at hla
      have : ds.length ≤ 26 := hla
      show ds.length + 5 ≤ _
      omega
    rw [← List.map_append]
    have dsl : ds.length ≤ 26 := by rw [List.length_map] at hla; exact hla
    have otno : ∀ d ∈ ds ++ [65, 48, 32, 45, 126], d ∉ cs := fun d hd => by
      rcases List.mem_append.mp hd with hd | hd
      · exact no d hd
      · intro z
        have := csabc d z
        revert this
        simp only [List.mem_cons, List.not_mem_nil, or_false] at hd
        rcases hd with rfl | rfl | rfl | rfl | rfl <;> decide +kernel
    have ot0 : 0 < (ds ++ [65, 48, 32, 45, 126]).length := by simp
    have otl : (ds ++ [65, 48, 32, 45, 126]).length ≤ 31 := by simp; omega
    generalize ds ++ [65, 48, 32, 45, 126] = ot at otno ot0 otl ⊢
    have s3 := Same.trans s2 (Same.new (o := .lst (ot.map sg)) hO)
    have hO3 : upd H2 O (.lst (ot.map sg)) O = some (.lst (ot.map sg)) := upd_same
    have pen3 := pen.ext s3
    have Op : O ≠ p := (pen.ext s2).ne1 hO
    generalize upd H2 O (.lst (ot.map sg)) = H3 at s3 hO3 pen3 ⊢
    clear s1 s2 hD2 h52 hO hDl h5 hla hD no dsl
    have rlen : (⟨rw_.toArray⟩ : Str).length = rw_.length := by show rw_.toArray.size = _; simp
    refine ⟨_, rfl, _, rfl, _, rw_.length, rfl, ⟨len_small (by rw [rlen]; omega), rlen.symm⟩, _, _, rfl, rfl, c, p, (rw_.length : Int) + 1, n, rfl, by omega, by omega, by omega, pen3, fun r H4 r0 r1 pen4 x4 => ?_⟩
    obtain ⟨at_, rfl⟩ := Int.eq_ofNat_of_zero_le r0
    have atl : at_ ≤ rw_.length := by omega
    refine ⟨_, rfl, c, p, 3, n + 1, rfl, by decide, by decide, by omega, pen4, fun r' H5 r0' r1' pen5 x5 => ?_⟩
    obtain ⟨lt_, rfl⟩ := Int.eq_ofNat_of_zero_le r0'
    have ltl : lt_ < 3 := by omega
    have hO5 := x5 _ _ Op (x4 _ _ Op hO3)
    refine ⟨_, rfl, _, rfl, (at_ : Int), rfl, _, rfl, len_small (by rw [rlen]; omega), ?_⟩
    rw [cut_take atl]
    refine ⟨_, rfl, _, rfl, c, p, n + 2, by omega, pen5, .inl ⟨O, _, rfl, Op, hO5, by rw [List.length_map]; exact ot0, by rw [List.length_map]; omega, fun v1 H6 hv1 pen6 x6 => ?_⟩⟩
    obtain ⟨d1, hd1, rfl⟩ := List.mem_map.mp hv1
    have tkl : (⟨(rw_.take at_).toArray⟩ : Str).length = at_ := by show (rw_.take at_).toArray.size = _; simp; omega
    have drl : (⟨(rw_.drop at_).toArray⟩ : Str).length = rw_.length - at_ := by show (rw_.drop at_).toArray.size = _; simp
    refine ⟨_, _, rfl, rfl, by rw [tkl, sizeLine_eq]; show at_ + 1 ≤ _; omega, ?_⟩
    refine ⟨_, rfl, _, rfl, (at_ : Int), rfl, _, rfl, len_small (by rw [rlen]; omega), ?_⟩
    rw [cut_drop atl]
    have ln1 : ((⟨(rw_.take at_).toArray⟩ : Str) ++ ⟨#[d1]⟩).length = at_ + 1 := by
      show ((rw_.take at_).toArray ++ #[d1]).size = _
      simp; omega
    refine ⟨_, _, rfl, rfl, by rw [ln1, drl, sizeLine_eq]; omega, ?_⟩
    have hO6 := x6 _ _ Op hO5
    refine ⟨_, rfl, _, rfl, c, p, n + 3, by omega, pen6, .inl ⟨O, _, rfl, Op, hO6, by rw [List.length_map]; exact ot0, by rw [List.length_map]; omega, fun v2 H7 hv2 pen7 x7 => ?_⟩⟩
    obtain ⟨d2, hd2, rfl⟩ := List.mem_map.mp hv2
    have ln2 : ((⟨(rw_.take at_).toArray⟩ : Str) ++ ⟨#[d1]⟩ ++ ⟨(rw_.drop at_).toArray⟩).length = rw_.length + 1 := by
      show ((rw_.take at_).toArray ++ #[d1] ++ (rw_.drop at_).toArray).size = _
      simp; omega
    refine ⟨_, rfl, d2, lt_, rfl, rfl, by omega, _, _, rfl, rfl, by rw [ln2, sizeLine_eq]; show rw_.length + 1 + (List.replicate lt_ d2).toArray.size ≤ _; simp; omega, ?_⟩
    have ez : letters es = ⟨cs.toArray⟩ := by unfold letters; rw [hcs]
    have bad0 : ∀ H', Bad K H' (letters es) (.str ((⟨(rw_.take at_).toArray⟩ : Str) ++ ⟨#[d1]⟩ ++ ⟨(rw_.drop at_).toArray⟩ ++ ⟨(List.replicate lt_ d2).toArray⟩)) (at_ : Int) := fun H' => by
      have e : (⟨(rw_.take at_).toArray⟩ : Str) ++ ⟨#[d1]⟩ ++ ⟨(rw_.drop at_).toArray⟩ ++ ⟨(List.replicate lt_ d2).toArray⟩ = (⟨(rw_.take at_).toArray⟩ : Str) ++ ⟨#[d1]⟩ ++ ((⟨(rw_.drop at_).toArray⟩ : Str) ++ ⟨(List.replicate lt_ d2).toArray⟩) := by
        refine TL.ext_tl ?_
        show ((⟨(rw_.take at_).toArray⟩ : Str) ++ ⟨#[d1]⟩ ++ ⟨(rw_.drop at_).toArray⟩ ++ ⟨(List.replicate lt_ d2).toArray⟩).cps.toList = ((⟨(rw_.take at_).toArray⟩ : Str) ++ ⟨#[d1]⟩ ++ ((⟨(rw_.drop at_).toArray⟩ : Str) ++ ⟨(List.replicate lt_ d2).toArray⟩)).cps.toList
        simp [Str.cps_append]
      have ls := lstrip_odd (z := letters es) (a := ⟨(rw_.take at_).toArray⟩) (s := ⟨#[d1]⟩) (b := (⟨(rw_.drop at_).toArray⟩ : Str) ++ ⟨(List.replicate lt_ d2).toArray⟩) (c := d1) (fun d hd => by
        rw [ez, List.toList_toArray]
        rw [List.toList_toArray] at hd
        exact mem d (List.mem_of_mem_take hd)) rfl (by rw [ez, List.toList_toArray]; exact otno d1 hd1)
      have l3 : ((⟨(rw_.take at_).toArray⟩ : Str) ++ ⟨#[d1]⟩ ++ ((⟨(rw_.drop at_).toArray⟩ : Str) ++ ⟨(List.replicate lt_ d2).toArray⟩)).length = rw_.length + 1 + lt_ := by
        show ((rw_.take at_).toArray ++ #[d1] ++ ((rw_.drop at_).toArray ++ (List.replicate lt_ d2).toArray)).size = _
        simp; omega
      have l4 : ((⟨#[d1]⟩ : Str) ++ ((⟨(rw_.drop at_).toArray⟩ : Str) ++ ⟨(List.replicate lt_ d2).toArray⟩)).length = 1 + (rw_.length - at_) + lt_ := by
        show (#[d1] ++ ((rw_.drop at_).toArray ++ (List.replicate lt_ d2).toArray)).size = _
        simp; omega
      rw [e]
      refine .inl ⟨_, rfl, by rw [l3]; omega, ?_, by rw [ls, l4]; omega, by rw [ls, l3, l4]; omega⟩
      rw [ls]
      intro z
      have := congrArg Str.length z
      rw [l4] at this
      have e0 : Str.empty.length = 0 := rfl
      omega
    generalize (⟨(rw_.take at_).toArray⟩ : Str) ++ ⟨#[d1]⟩ ++ ⟨(rw_.drop at_).toArray⟩ ++ ⟨(List.replicate lt_ d2).toArray⟩ = bent at bad0 ⊢
    have g7 : Gr T3 c p (n + 4) H H7 := ((Gr.start pen tabs).same s3).ink ⟨Ext1.trans x4 (Ext1.trans x5 (Ext1.trans x6 x7)), pen7⟩
    have hl7 := g7.at_ hl lp
    clear ln1 ln2 tkl drl hO5 hO6 hO3 pen4 pen5 pen6 pen7 x4 x5 x6 x7 s3 pen3 hd1 hd2 hv1 hv2 otno otl ot0 r0' r1' r0 r1
    refine ⟨_, rfl, _, rfl, by show 2 ≤ sizeLine; decide, fun t1 h1 => ?_⟩
    have a1 := Same.new (o := .tup [.str bent, .int (at_ : Int)]) h1
    have e1 : upd H7 t1 (.tup [.str bent, .int (at_ : Int)]) t1 = some (.tup [.str bent, .int (at_ : Int)]) := upd_same
    generalize upd H7 t1 (.tup [.str bent, .int (at_ : Int)]) = M1 at a1 e1 ⊢
    refine ⟨by show 2 ≤ sizeLine; decide, fun t2 h2 => ?_⟩
    have a2 := Same.new (o := .tup [.non, .int 0]) h2
    have e2 : upd M1 t2 (.tup [.non, .int 0]) t2 = some (.tup [.non, .int 0]) := upd_same
    generalize upd M1 t2 (.tup [.non, .int 0]) = M2 at a2 e2 ⊢
    refine ⟨_, rfl, by show 1 ≤ sizeLine; decide, fun La hLa => ⟨by show 2 ≤ sizeLine; decide, fun t3 h3 => ?_⟩⟩
    have aL := Same.new (o := .lst [.str ⟨rw_.toArray⟩]) hLa
    have eL : upd M2 La (.lst [.str ⟨rw_.toArray⟩]) La = some (.lst [.str ⟨rw_.toArray⟩]) := upd_same
    generalize upd M2 La (.lst [.str ⟨rw_.toArray⟩]) = M3 at aL eL h3 ⊢
    have a3 := Same.new (o := .tup [.ref La, .int 0]) h3
    have e3 : upd M3 t3 (.tup [.ref La, .int 0]) t3 = some (.tup [.ref La, .int 0]) := upd_same
    generalize upd M3 t3 (.tup [.ref La, .int 0]) = M4 at a3 e3 ⊢
    have s4 : Same H7 M4 := Same.trans a1 (Same.trans a2 (Same.trans aL a3))
    refine ⟨_, rfl, l, _, rfl, .inl ⟨SqL.of (s4 _ _ hl7), fun Ta hTa => ⟨by show 2 ≤ sizeLine; decide, fun t4 h4 => ?_⟩⟩⟩
    have aT := Same.new (o := .tup (cs.map sg)) hTa
    have eT : upd M4 Ta (.tup (cs.map sg)) Ta = some (.tup (cs.map sg)) := upd_same
    generalize upd M4 Ta (.tup (cs.map sg)) = M5 at aT eT h4 ⊢
    have a4 := Same.new (o := .tup [.ref Ta, .int 0]) h4
    have e4 : upd M5 t4 (.tup [.ref Ta, .int 0]) t4 = some (.tup [.ref Ta, .int 0]) := upd_same
    generalize upd M5 t4 (.tup [.ref Ta, .int 0]) = M6 at a4 e4 ⊢
    refine ⟨by show 2 ≤ sizeLine; decide, fun t5 h5 => ?_⟩
    have a5 := Same.new (o := .tup [.int 5, .int 0]) h5
    have e5 : upd M6 t5 (.tup [.int 5, .int 0]) t5 = some (.tup [.int 5, .int 0]) := upd_same
    generalize upd M6 t5 (.tup [.int 5, .int 0]) = M7 at a5 e5 ⊢
    refine ⟨by show 2 ≤ sizeLine; decide, fun t6 h6 => ?_⟩
    have a6 := Same.new (o := .tup [.bl true, .int 0]) h6
    have e6 : upd M7 t6 (.tup [.bl true, .int 0]) t6 = some (.tup [.bl true, .int 0]) := upd_same
    generalize upd M7 t6 (.tup [.bl true, .int 0]) = M8 at a6 e6 ⊢
    intro dd hdd
    refine ⟨by show 2 ≤ sizeLine; decide, fun t7 h7 => ?_⟩
    have aD := Same.new (o := .dK []) hdd
    have eD : upd M8 dd (.dK []) dd = some (.dK []) := upd_same
    generalize upd M8 dd (.dK []) = M9 at aD eD h7 ⊢
    have a7 := Same.new (o := .tup [.ref dd, .int 0]) h7
    have e7 : upd M9 t7 (.tup [.ref dd, .int 0]) t7 = some (.tup [.ref dd, .int 0]) := upd_same
    generalize upd M9 t7 (.tup [.ref dd, .int 0]) = M10 at a7 e7 ⊢
    refine ⟨by show 7 ≤ sizeLine; decide, fun L hL => ?_⟩
    have a8 := Same.new (o := .lst [.ref t1, .ref t2, .ref t3, .ref t4, .ref t5, .ref t6, .ref t7]) hL
    have e8 : upd M10 L (.lst [.ref t1, .ref t2, .ref t3, .ref t4, .ref t5, .ref t6, .ref t7]) L = some (.lst [.ref t1, .ref t2, .ref t3, .ref t4, .ref t5, .ref t6, .ref t7]) := upd_same
    have Lp : L ≠ p := by
      have s9 : Same H7 M10 := Same.trans s4 (Same.trans aT (Same.trans a4 (Same.trans a5 (Same.trans a6 (Same.trans aD a7)))))
      exact (g7.pen.ext s9).ne1 hL
    have Lap : La ≠ p := by
      have s9 : Same H7 M2 := Same.trans a1 a2
      exact (g7.pen.ext s9).ne1 hLa
    generalize upd M10 L (.lst [.ref t1, .ref t2, .ref t3, .ref t4, .ref t5, .ref t6, .ref t7]) = M at a8 e8 ⊢
    have z7 : Same M9 M := Same.trans a7 a8
    have zD : Same M8 M := Same.trans aD z7
    have z6 : Same M7 M := Same.trans a6 zD
    have z5 : Same M6 M := Same.trans a5 z6
    have z4 : Same M5 M := Same.trans a4 z5
    have zT : Same M4 M := Same.trans aT z4
    have z3 : Same M3 M := Same.trans a3 zT
    have zL : Same M2 M := Same.trans aL z3
    have z2 : Same M1 M := Same.trans a2 zL
    have z1 : Same H7 M := Same.trans a1 z2
    have gM := g7.same z1
    have bK : ∀ (x : V) (t : Value), (∀ H', Ext2 p M H' → TyX K H' x t) → PySem.W.kitOne K t (.type "str") = some false → BadS K p M (letters es) x 0 := fun x t ty no H' e => .inr ⟨t, ty H' e, no, rfl⟩
    have all : ∀ v ∈ [V.ref t1, V.ref t2, V.ref t3, V.ref t4, V.ref t5, V.ref t6, V.ref t7], OddP K p M (letters es) v := fun v hv => by
      simp only [List.mem_cons, List.not_mem_nil, or_false] at hv
      rcases hv with rfl | rfl | rfl | rfl | rfl | rfl | rfl
      · exact ⟨_, _, _, rfl, z2 _ _ e1, fun H' _ => bad0 H'⟩
      · exact ⟨_, _, _, rfl, zL _ _ e2, bK _ _ (fun _ _ => .base .non) (kit_ty (by decide +kernel))⟩
      · exact ⟨_, _, _, rfl, zT _ _ e3, bK _ _ (fun H' e => .base (.lst (e _ _ Lap (fun _ z => nomatch z) (z3 _ _ eL)))) (kit_ty (by decide +kernel))⟩
      · exact ⟨_, _, _, rfl, z5 _ _ e4, bK _ _ (fun H' e => .base (.tup (e _ _ (gM.pen.neO (z4 _ _ eT) fun _ z => nomatch z) (fun _ z => nomatch z) (z4 _ _ eT)))) (kit_ty (by decide +kernel))⟩
      · exact ⟨_, _, _, rfl, z6 _ _ e5, bK _ _ (fun _ _ => .base (.int _)) (kit_ty (by decide +kernel))⟩
      · exact ⟨_, _, _, rfl, zD _ _ e6, bK _ _ (fun _ _ => .base (.bl _)) (kit_ty (by decide +kernel))⟩
      · exact ⟨_, _, _, rfl, a8 _ _ e7, bK _ _ (fun H' e => .base (.dK (e _ _ (gM.pen.neO (z7 _ _ eD) fun _ z => nomatch z) (fun _ z => nomatch z) (z7 _ _ eD)))) (kit_ty (by decide +kernel))⟩
    have wM := wts.gr gM pen
    clear a1 a2 a3 a4 a5 a6 a7 a8 aL aT aD e1 e2 e3 e4 e5 e6 e7 eL eT eD z1 z2 z3 z4 z5 z6 z7 zD zT zL h1 h2 h3 h4 h5 h6 h7 hLa hTa hdd hL g7 hl7 s4
    refine ⟨L, rfl, ⟨_, SqL.of e8⟩, ?_⟩
    generalize [V.ref t1, V.ref t2, V.ref t3, V.ref t4, V.ref t5, V.ref t6, V.ref t7] = AA at all e8 ⊢
    refine for_it walk_list (fun j σ' G => ∃ y9 y10, σ' = [some (.ref p), some (.ref q), some (.ref l), some (.str ⟨rw_.toArray⟩), some (.ref O), none, some (.int (at_ : Int)), some (.int (lt_ : Int)), some (.str bent), y9, y10] ∧ Gr T3 c p (n + 4) M G) ⟨_, _, rfl, Gr.start gM.pen gM.tabs⟩ (fun j σ' G _ y => by obtain ⟨_, _, _, g⟩ := y; exact SqL.of (g.at_ e8 Lp)) ?_ ?_
    rotate_left
    · rintro σ' G ⟨y9, y10, rfl, g⟩
      exact k _ ((gM.trans g).mono (by omega))
    rintro j v σ' G G' hj ⟨y9, y10, rfl, g⟩ ⟨eG, ev⟩
    subst eG
    obtain ⟨t, x, i, rfl, ht, bd⟩ := (all v (List.mem_of_getElem? ev)).mono gM.pen g.ext
    refine ⟨t, _, rfl, SqT.of ht, rfl, _, _, rfl, _, _, rfl, rfl, ?_⟩
    have wG := wM.gr g gM.pen
    have shp : SeqAt.shaped (.list [.int i]) = true := rfl
    have eqr : PyData.eqv (.list [.int i]) (.list [.int i]) = true := by simp [PyData.eqv, PyData.eqvAll]
    refine heard_bad (v := .int i) g.tabs (fun G1 eN T1 Qn E r => ?_) fun G2 l1 eN T2 hl1 => ?_
    · have g1 := g.extN eN T1
      obtain ⟨dx, pp, w1, w2, w3⟩ := wG.gr (Gr.extN (Gr.start g.pen g.tabs) eN T1) g.pen
      exact ⟨_, rfl, q, rfl, _, rfl, ⟨dx, _, w1⟩, q, xs, es, x, i, rfl, ⟨dx, pp, w1, w2, w3⟩, bd G1 (Ext2.ofN eN), r G1 (Same.refl _)⟩
    have g2 := g.extN eN T2
    have bd2 := bd.mono (Ext2.ofN eN)
    refine ⟨_, rfl, by show 1 ≤ sizeLine; decide, fun l2 hl2 => ?_⟩
    refine ⟨.list [.int i], .list [.int i], .lst (SqL.of ((Same.new (o := .lst [.int i]) hl2) _ _ hl1)) (.cons (.int _) .nil), .lst (SqL.of upd_same) (.cons (.int _) .nil), shp, shp, _, rfl, ?_⟩
    have g3 := g2.same (Same.new (o := .lst [.int i]) hl2)
    have bd3 := bd2.mono (Ext2.of (Same.ext1 p (Same.new (o := .lst [.int i]) hl2)))
    generalize upd G2 l2 (.lst [.int i]) = G3 at g3 bd3 ⊢
    rw [eqr]
    refine iteF ?_
    have wG3 := wM.gr g3 gM.pen
    refine heard_bad (v := .int i) g3.tabs (fun G1 eN T1 Qn E r => ?_) fun G4 l3 eN4 T4 hl3 => ?_
    · obtain ⟨dx, pp, w1, w2, w3⟩ := wG3.gr (Gr.extN (Gr.start g3.pen g3.tabs) eN T1) g3.pen
      exact ⟨_, rfl, q, dx, _, rfl, w1, wf_no (by decide) (by decide), _, rfl, q, xs, es, x, i, rfl, ⟨dx, pp, w1, w2, w3⟩, bd3 G1 (Ext2.ofN eN), r G1 (Same.refl _)⟩
    have g4 := g3.extN eN4 T4
    refine ⟨_, rfl, by show 1 ≤ sizeLine; decide, fun l4 hl4 => ?_⟩
    refine ⟨.list [.int i], .list [.int i], .lst (SqL.of ((Same.new (o := .lst [.int i]) hl4) _ _ hl3)) (.cons (.int _) .nil), .lst (SqL.of upd_same) (.cons (.int _) .nil), shp, shp, _, rfl, ?_⟩
    rw [eqr]
    exact iteF ⟨_, _, rfl, g4.same (Same.new hl4)⟩
end
end Kx
set_option Elab.async false
set_option maxRecDepth 100000
set_option autoImplicit false
set_option pp.maxSteps 400
set_option pp.deepTerms false
/-! _law_first_right -/
namespace Kx
open PySem L2 PySem.Spec PyProof.Rows Rg Er Ru LamX Tn ClX
abbrev sFirst : Stmt := top 28
def strsD (ss : List Str) : List PyData := ss.map PyData.str
theorem rpStrs (K : PySem.W.Frag) (H : Hp) : ∀ ss : List Str, Paired (Rp K H) (ss.map V.str) (strsD ss)
  | [] => .nil
  | x :: xs => .cons (.str x) (rpStrs K H xs)
theorem strOk_of {l : List Nat} (h : ∀ c ∈ l, c ∈ abc.cps.toList) : PyData.strOk ⟨l.toArray⟩ = true := by
  have b : ∀ c ∈ abc.cps.toList, c < 0x110000 := by decide +kernel
  unfold PyData.strOk
  rw [Array.all_eq_true]
  intro i hi
  have hi' : i < l.length := by simpa using hi
  have : (l.toArray)[i] = l[i] := by simp
  show decide ((l.toArray)[i] < 0x110000) = true
  rw [this]
  exact decide_eq_true (b _ (h _ (List.getElem_mem hi')))
theorem layStrs : ∀ ss : List Str, (∀ s ∈ ss, PyData.strOk s = true) → PyData.canLayAll0 (strsD ss) = true
  | [], _ => by simp [strsD, PyData.canLayAll0]
  | n :: r, h => by
    have := layStrs r fun s hs => h s (List.mem_cons_of_mem _ hs)
    unfold strsD at this ⊢
    rw [List.map_cons, PyData.canLayAll0, this, PyData.canLay0, h n List.mem_cons_self]
    rfl
theorem depthStrs : ∀ ss : List Str, PyData.depthAll (strsD ss) = 0
  | [] => by simp [strsD, PyData.depthAll]
  | n :: r => by
    have := depthStrs r
    unfold strsD at this ⊢
    rw [List.map_cons, PyData.depthAll, this]
    simp [PyData.depth]
theorem shapedStrs {ss : List Str} (h : ∀ s ∈ ss, PyData.strOk s = true) : SeqAt.shaped (.list (strsD ss)) = true := by
  have h1 := layStrs ss h
  have h2 := depthStrs ss
  unfold SeqAt.shaped
  simp [PyData.canLay0, PyData.depth, h1, h2]
theorem eqvStrs : ∀ ss : List Str, PyData.eqvAll (strsD ss) (strsD ss) = true
  | [] => by simp [strsD, PyData.eqvAll]
  | s :: ss => by
    have := eqvStrs ss
    unfold strsD at this ⊢
    rw [List.map_cons, PyData.eqvAll, this]
    simp [PyData.eqv]
theorem eqvLists (ss : List Str) : PyData.eqv (.list (strsD ss)) (.list (strsD ss)) = true := by rw [PyData.eqv]; exact eqvStrs ss
/-- the first rows -/
def frC (cs : List Nat) (m j : Nat) : List Nat := List.replicate m (cs.getD 0 0) ++ [cs.getD j 0]
theorem row_first {cs : List Nat} (m j : Nat) : rowV cs (j :: List.replicate m 0) = V.str ⟨(frC cs m j).toArray⟩ := by
  unfold rowV encR frC
  simp
theorem allR_head {k : Nat} (pos : 0 < k) (n : Nat) : ∃ R, allR k n = List.replicate n 0 :: R := by
  obtain ⟨R, e, _⟩ := run_cons (run_all pos n)
  exact ⟨R, e⟩
theorem allR_first {k : Nat} (pos : 0 < k) (n j : Nat) (hj : j < k) : (allR k (n + 1))[j]? = some (j :: List.replicate n 0) := by
  obtain ⟨R, e⟩ := allR_head pos n
  show ((allR k n).flatMap fun r => (List.range k).map (· :: r))[j]? = _
  rw [e, List.flatMap_cons, List.getElem?_append_left (by simp; exact hj)]
  simp [hj]
theorem allR_one (n : Nat) : (allR 1 n).length = 1 := by rw [allR_len]; exact Nat.one_pow n
theorem allR_two {k : Nat} (h : 2 ≤ k) (n : Nat) : 2 ≤ (allR k (n + 1)).length := by
  rw [allR_len]
  have : 2 ^ 1 ≤ k ^ (n + 1) := Nat.le_trans (Nat.pow_le_pow_right (by decide) (by omega : 1 ≤ n + 1)) (Nat.pow_le_pow_left h (n + 1))
  simpa using this
def spFirst (C : Addr) : Sp := fun vs H Q _ => ∃ (q l : Addr) (xs : List V) (es : List (Nat × Int)), vs = [.ref q, .ref l] ∧ Wts C H q es xs ∧ 1 ≤ es.length ∧ es.length ≤ 4 ∧ (es.map (·.1)).Nodup ∧ H l = some (.lst ((es.map (·.1)).map sg)) ∧ ∀ H', Same H H' → Q (.bl true) H'
section
variable {P : Program} {w : World} {K : PySem.W.Frag} {mg : Str → Option Value} {base : Heap}
abbrev nFirst : List Str := ["_law_weights", "_law_signs", "_law_found", "_law_row", "_law_sign"]
theorem scFirst : FnScope nFirst ["_law_weights", "_law_signs"] (defScope sFirst) := ⟨rfl, rfl, rfl, by decide +kernel, rfl, by decide +kernel, by decide +kernel⟩
theorem ok_first {C f g : Addr} {fd gd : FuncData} (F : L2.Fun K "_law_first_right" "_law_first_right" sFirst f fd) (T : Txt mg) (M : WT K C) (mr : Meth K C "rows" g) (G : Gp.FGFn P w K mg base 3 g gd ["self", "length"] (spRowsF C)) (bG : L2.Binds K gd ["self", "length"] []) :
    FnOk P w K mg base CX0 5 f fd ["_law_weights", "_law_signs"] (spFirst C) := by
  refine F.ok scFirst (fun vs H Q E h => ?_) (fun cdv A outer s H vs Q E hr h => ?_)
  · obtain ⟨q, l, xs, es, rfl, _⟩ := h
    rfl
  · obtain ⟨q, l, xs, es, rfl, ⟨dx, pp, hq, hp, pd⟩, l1, l4, nd0, hl, k⟩ := h
    have nd := scFirst.nd
    refine ⟨_, pss_cons (ps_set (i := 2) nd rfl (.inl rfl) (pe_lst pa_nil))
      (pss_cons (Gp.ps_forG (k := 3) PassesOwn.never rfl (Gp.pfg_meth (pv 0) M.cl mr G (hr.mono (by decide)) bG (pa_cons pe_int pa_nil)) nd (i := 3) rfl rfl
          (Gp.pssg_cons (Gp.psg_expr (Gp.peg_append (Gp.peg_var (i := 2) rfl (.inl rfl)) (Gp.peg_var (i := 3) rfl (.inl rfl))))
          (Gp.pssg_cons (Gp.psg_if (Gp.ptg_eqInt (Gp.peg_len (by rfl) T.len (Gp.peg_var (i := 2) rfl (.inl rfl))) Gp.peg_int (nomark _)) (Gp.pssg_cons Gp.psg_break Gp.pssg_nil) Gp.pssg_nil) Gp.pssg_nil)) hr)
      (pss_one (ps_ret (pe_cmpR (op_eqP hr.units) (pv 2) (pe_lc (own := [("_law_sign", 4)]) (g := gName 4) (tt := tYes) (te := tOp rCatS (tOp rMulC (tOp (rIxL K) (tVar 1) (tC (.int 0))) (tC (.int 39))) (tVar 4)) rfl nd (pi_list (pe_slice sl_list (pv 1) po_none (po_some pe_int))) (blkOk_by (own := [("_law_sign", 4)]) (N := nFirst) (sc := defScope sFirst) (by decide +kernel))
        (fun _ _ _ _ _ => pg_name (i := 4) nd rfl (Or.inl rfl)) (fun _ _ _ _ _ => pts_nil) (fun _ _ _ _ _ => pe_op op_add_str (pe_op op_mulC (bIx (pv 1) pe_int) pe_int) (pv 4))) (nomark _))))), ?_⟩
    refine ⟨Nat.zero_le _, fun F0 hF0 => ?_⟩
    have s0 := Same.new (o := .lst []) hF0
    have hq0 := s0 _ _ hq
    have eF : upd H F0 (.lst []) F0 = some (.lst []) := upd_same
    generalize upd H F0 (.lst []) = H0 at s0 hq0 eF ⊢
    have pos : 0 < es.length := by omega
    refine ⟨_, rfl, q, dx, _, rfl, hq0, wf_no (by decide) (by decide), hq0, fun hdx => ⟨fun j x => ∃ r, (allR es.length 40)[j]? = some r ∧ x = rowV (es.map (·.1)) r, fun j => j = (allR es.length 40).length, 3, by decide, ⟨q, dx, pp, es, 40, rfl, Gp.restr_at.trans hq0, l1, l4, nd0, by decide, fun j r e => ⟨r, e, rfl⟩, rfl⟩, ?_⟩⟩
    refine ⟨fun j σ' H' => j ≤ 1 ∧ j ≤ es.length ∧ (∃ y3, σ' = [some (.ref q), some (.ref l), some (.ref F0), y3, none]) ∧ H' F0 = some (.lst ((List.range j).map fun j => V.str ⟨(frC (es.map (·.1)) 39 j).toArray⟩)) ∧ ∀ b, b ≠ F0 → H' b = H0 b, ⟨by decide, by omega, ⟨_, rfl⟩, eF, fun _ _ => rfl⟩, ?_⟩
    rintro j σ' H' ⟨j1, je, ⟨y3, rfl⟩, hF', oth⟩
    have qF : q ≠ F0 := fun z => by rw [z, eF] at hq0; cases hq0
    have dF : dx ≠ F0 := fun z => by rw [z, eF] at hdx; cases hdx
    refine ⟨by omega, fun b u e => ?_, fun b u e => ?_, fun pe => ?_, ?_⟩
    · have e' := Gp.restr_sub b u e
      unfold Gp.restr at e
      split at e
      · rename_i z
        rcases z with rfl | rfl
        · rw [oth _ qF]; exact e
        · rw [oth _ dF]; exact e
      · cases e
    · by_cases z : b = F0
      · rw [z, eF]; exact fun z => nomatch z
      · rw [← oth b z, e]; exact fun z => nomatch z
    · have pe : j = (allR es.length 40).length := pe
      obtain ⟨m, em⟩ : ∃ m, m = j := ⟨_, rfl⟩
      have hm : m = min 2 es.length := by
        by_cases h2 : 2 ≤ es.length
        · have : 2 ≤ (allR es.length 40).length := allR_two h2 39
          omega
        · have e1 : es.length = 1 := by omega
          rw [e1, allR_one] at pe
          omega
      rw [← em] at hF'
      have sH : Same H H' := fun b u e => by rw [oth b (ne_of_none e hF0)]; exact s0 b u e
      have hl' := sH _ _ hl
      refine ⟨_, rfl, _, rfl, _, rfl, l, _, rfl, SqL.of hl', fun S hS => ?_⟩
      have cut : cutV ((es.map (·.1)).map sg) none (some 2) = ((es.map (·.1)).take 2).map sg := by
        unfold cutV
        rw [show HT.sIx ((es.map (·.1)).map sg).length 0 none = 0 from rfl, show HT.sIx ((es.map (·.1)).map sg).length ((es.map (·.1)).map sg).length (some 2) = min 2 ((es.map (·.1)).map sg).length from HT.sIx_nat _ _ 2, List.drop_zero, Nat.sub_zero, List.map_take, List.take_eq_take_iff]
        omega
      rw [cut]
      have sS := Same.new (o := .lst (((es.map (·.1)).take 2).map sg)) hS
      have eS : upd H' S (.lst (((es.map (·.1)).take 2).map sg)) S = some (.lst (((es.map (·.1)).take 2).map sg)) := upd_same
      generalize upd H' S (.lst (((es.map (·.1)).take 2).map sg)) = J at sS eS ⊢
      refine ⟨S, rfl, ⟨_, SqL.of eS⟩, fun D hD => ?_⟩
      refine lcMap walk_list (fun j => V.str ⟨(frC (es.map (·.1)) 39 j).toArray⟩) (by rw [sizeLine_eq]; simp; omega) hD (fun H2 z => SqL.of (z _ _ eS)) (fun _ _ _ _ z => z.1) ?_ ?_
      · rintro j x H2 Q' hj s2 ⟨_, hx⟩ z
        have hj' : j < es.length := by simp at hj; omega
        have hj2 : j < 2 := by simp at hj; omega
        have ec : (es.map (·.1))[j]? = some ((es.map (·.1)).getD j 0) := by rw [List.getD_eq_getElem?_getD, List.getElem?_eq_getElem (by simp; exact hj')]; rfl
        have ex : x = sg ((es.map (·.1)).getD j 0) := by
          rw [List.getElem?_map, List.getElem?_take_of_lt hj2, ec] at hx
          exact (Option.some.inj hx).symm
        subst ex
        have e0 : ((es.map (·.1)).map sg)[0]? = some (sg ((es.map (·.1)).getD 0 0)) := by
          rw [List.getElem?_map, List.getD_eq_getElem?_getD, List.getElem?_eq_getElem (by simp; omega)]; rfl
        refine ⟨_, rfl, l, _, ((0 : Nat) : Int), _, rfl, rfl, SqL.of (s2 _ _ (sS _ _ hl')), atI_nat e0, (es.map (·.1)).getD 0 0, 39, rfl, rfl, by decide, _, rfl, _, _, rfl, rfl, ?_, ?_⟩
        · show (List.replicate 39 _).toArray.size + 1 ≤ _
          rw [sizeLine_eq]; simp
        · have : (⟨(List.replicate 39 ((es.map (·.1)).getD 0 0)).toArray⟩ : Str) ++ ⟨#[(es.map (·.1)).getD j 0]⟩ = ⟨(frC (es.map (·.1)) 39 j).toArray⟩ := by
            refine TL.ext_tl ?_
            show ((⟨(List.replicate 39 ((es.map (·.1)).getD 0 0)).toArray⟩ : Str) ++ ⟨#[(es.map (·.1)).getD j 0]⟩).cps.toList = _
            rw [Str.cps_append]
            unfold frC
            simp [TL.tl]
          rw [this]
          exact z _ (Same.refl _)
      intro J2 s2 hD2
      have lm : (((es.map (·.1)).take 2).map sg).length = m := by simp; omega
      rw [lm] at hD2
      have mm : (List.range m).map (fun j => V.str ⟨(frC (es.map (·.1)) 39 j).toArray⟩) = ((List.range m).map fun j => (⟨(frC (es.map (·.1)) 39 j).toArray⟩ : Str)).map V.str := by rw [List.map_map]; rfl
      rw [mm] at hD2 hF'
      have ok : ∀ s ∈ (List.range m).map (fun j => (⟨(frC (es.map (·.1)) 39 j).toArray⟩ : Str)), PyData.strOk s = true := fun s hs => by
        obtain ⟨j, hj, rfl⟩ := List.mem_map.mp hs
        have hj := List.mem_range.mp hj
        refine strOk_of fun c hc => ?_
        have at_ : ∀ i, i < es.length → (es.map (·.1)).getD i 0 ∈ abc.cps.toList := fun i hi => by
          obtain ⟨t, _, pt⟩ := pd.2 i _ (List.getElem?_eq_getElem hi)
          rw [List.getD_eq_getElem?_getD, List.getElem?_map, List.getElem?_eq_getElem hi]
          exact pt.2.1
        rcases List.mem_append.mp hc with hc | hc
        · rw [List.eq_of_mem_replicate hc]; exact at_ 0 (by omega)
        · rw [List.mem_singleton.mp hc]; exact at_ j (by omega)
      have s12 : Same H J2 := Same.trans sH (Same.trans sS s2)
      refine ⟨_, _, .lst (SqL.of (s2 _ _ (sS _ _ hF'))) (rpStrs K _ _), .lst (SqL.of hD2) (rpStrs K _ _), shapedStrs ok, shapedStrs ok, ?_⟩
      show Q (.bl (PyData.eqv _ _)) J2
      rw [eqvLists]
      exact k _ s12
    · rintro x ⟨r, er, rfl⟩
      have jl : j < es.length := by
        by_cases h2 : 2 ≤ es.length
        · omega
        · have e1 : es.length = 1 := by omega
          obtain ⟨lt, _⟩ := List.getElem?_eq_some_iff.mp er
          rw [e1, allR_one] at lt
          omega
      have er' := allR_first pos 39 j jl
      rw [er] at er'
      cases er'
      rw [row_first]
      refine ⟨_, rfl, F0, _, rfl, hF', _, rfl, _, rfl, hF', by rw [List.length_map, List.length_range, sizeLine_eq]; omega, ?_⟩
      have oth' : ∀ b, b ≠ F0 → upd H' F0 (.lst ((List.range j).map (fun j => V.str ⟨(frC (es.map (·.1)) 39 j).toArray⟩) ++ [V.str ⟨(frC (es.map (·.1)) 39 j).toArray⟩])) b = H0 b := fun b z => by rw [upd_ne z]; exact oth b z
      have hF2 : upd H' F0 (.lst ((List.range j).map (fun j => V.str ⟨(frC (es.map (·.1)) 39 j).toArray⟩) ++ [V.str ⟨(frC (es.map (·.1)) 39 j).toArray⟩])) F0 = some (.lst ((List.range (j + 1)).map fun j => V.str ⟨(frC (es.map (·.1)) 39 j).toArray⟩)) := by
        rw [upd_same, List.range_succ, List.map_append]; rfl
      generalize upd H' F0 (.lst ((List.range j).map (fun j => V.str ⟨(frC (es.map (·.1)) 39 j).toArray⟩) ++ [V.str ⟨(frC (es.map (·.1)) 39 j).toArray⟩])) = H2 at oth' hF2 ⊢
      clear hF' oth
      refine ⟨_, rfl, F0, _, rfl, SqL.of hF2, _, _, rfl, rfl, ?_⟩
      rw [List.length_map, List.length_range]
      by_cases j0 : j = 0
      · subst j0
        exact iteF ⟨by decide, by omega, ⟨_, rfl⟩, hF2, oth'⟩
      · have j1' : j = 1 := by omega
        subst j1'
        refine iteT ?_
        obtain ⟨m, em⟩ : ∃ m, m = 1 + 1 := ⟨_, rfl⟩
        have hm : m = min 2 es.length := by omega
        rw [← em] at hF2
        have hF' := hF2
        have oth := oth'
        generalize H2 = H' at hF' oth ⊢
        have sH : Same H H' := fun b u e => by rw [oth b (ne_of_none e hF0)]; exact s0 b u e
        have hl' := sH _ _ hl
        refine ⟨_, rfl, _, rfl, _, rfl, l, _, rfl, SqL.of hl', fun S hS => ?_⟩
        have cut : cutV ((es.map (·.1)).map sg) none (some 2) = ((es.map (·.1)).take 2).map sg := by
          unfold cutV
          rw [show HT.sIx ((es.map (·.1)).map sg).length 0 none = 0 from rfl, show HT.sIx ((es.map (·.1)).map sg).length ((es.map (·.1)).map sg).length (some 2) = min 2 ((es.map (·.1)).map sg).length from HT.sIx_nat _ _ 2, List.drop_zero, Nat.sub_zero, List.map_take, List.take_eq_take_iff]
          omega
        rw [cut]
        have sS := Same.new (o := .lst (((es.map (·.1)).take 2).map sg)) hS
        have eS : upd H' S (.lst (((es.map (·.1)).take 2).map sg)) S = some (.lst (((es.map (·.1)).take 2).map sg)) := upd_same
        generalize upd H' S (.lst (((es.map (·.1)).take 2).map sg)) = J at sS eS ⊢
        refine ⟨S, rfl, ⟨_, SqL.of eS⟩, fun D hD => ?_⟩
        refine lcMap walk_list (fun j => V.str ⟨(frC (es.map (·.1)) 39 j).toArray⟩) (by rw [sizeLine_eq]; simp; omega) hD (fun H2 z => SqL.of (z _ _ eS)) (fun _ _ _ _ z => z.1) ?_ ?_
        · rintro j x H2 Q' hj s2 ⟨_, hx⟩ z
          have hj' : j < es.length := by simp at hj; omega
          have hj2 : j < 2 := by simp at hj; omega
          have ec : (es.map (·.1))[j]? = some ((es.map (·.1)).getD j 0) := by rw [List.getD_eq_getElem?_getD, List.getElem?_eq_getElem (by simp; exact hj')]; rfl
          have ex : x = sg ((es.map (·.1)).getD j 0) := by
            rw [List.getElem?_map, List.getElem?_take_of_lt hj2, ec] at hx
            exact (Option.some.inj hx).symm
          subst ex
          have e0 : ((es.map (·.1)).map sg)[0]? = some (sg ((es.map (·.1)).getD 0 0)) := by
            rw [List.getElem?_map, List.getD_eq_getElem?_getD, List.getElem?_eq_getElem (by simp; omega)]; rfl
          refine ⟨_, rfl, l, _, ((0 : Nat) : Int), _, rfl, rfl, SqL.of (s2 _ _ (sS _ _ hl')), atI_nat e0, (es.map (·.1)).getD 0 0, 39, rfl, rfl, by decide, _, rfl, _, _, rfl, rfl, ?_, ?_⟩
          · show (List.replicate 39 _).toArray.size + 1 ≤ _
            rw [sizeLine_eq]; simp
          · have : (⟨(List.replicate 39 ((es.map (·.1)).getD 0 0)).toArray⟩ : Str) ++ ⟨#[(es.map (·.1)).getD j 0]⟩ = ⟨(frC (es.map (·.1)) 39 j).toArray⟩ := by
              refine TL.ext_tl ?_
              show ((⟨(List.replicate 39 ((es.map (·.1)).getD 0 0)).toArray⟩ : Str) ++ ⟨#[(es.map (·.1)).getD j 0]⟩).cps.toList = _
              rw [Str.cps_append]
              unfold frC
              simp [TL.tl]
            rw [this]
            exact z _ (Same.refl _)
        intro J2 s2 hD2
        have lm : (((es.map (·.1)).take 2).map sg).length = m := by simp; omega
        rw [lm] at hD2
        have mm : (List.range m).map (fun j => V.str ⟨(frC (es.map (·.1)) 39 j).toArray⟩) = ((List.range m).map fun j => (⟨(frC (es.map (·.1)) 39 j).toArray⟩ : Str)).map V.str := by rw [List.map_map]; rfl
        rw [mm] at hD2 hF'
        have ok : ∀ s ∈ (List.range m).map (fun j => (⟨(frC (es.map (·.1)) 39 j).toArray⟩ : Str)), PyData.strOk s = true := fun s hs => by
          obtain ⟨j, hj, rfl⟩ := List.mem_map.mp hs
          have hj := List.mem_range.mp hj
          refine strOk_of fun c hc => ?_
          have at_ : ∀ i, i < es.length → (es.map (·.1)).getD i 0 ∈ abc.cps.toList := fun i hi => by
            obtain ⟨t, _, pt⟩ := pd.2 i _ (List.getElem?_eq_getElem hi)
            rw [List.getD_eq_getElem?_getD, List.getElem?_map, List.getElem?_eq_getElem hi]
            exact pt.2.1
          rcases List.mem_append.mp hc with hc | hc
          · rw [List.eq_of_mem_replicate hc]; exact at_ 0 (by omega)
          · rw [List.mem_singleton.mp hc]; exact at_ j (by omega)
        have s12 : Same H J2 := Same.trans sH (Same.trans sS s2)
        refine ⟨_, _, .lst (SqL.of (s2 _ _ (sS _ _ hF'))) (rpStrs K _ _), .lst (SqL.of hD2) (rpStrs K _ _), shapedStrs ok, shapedStrs ok, ?_⟩
        show Q (.bl (PyData.eqv _ _)) J2
        rw [eqvLists]
        exact k _ s12
end
end Kx
set_option Elab.async false
set_option maxRecDepth 100000
set_option autoImplicit false
set_option pp.maxSteps 400
set_option pp.deepTerms false
/-! the law -/
namespace Kx
open PySem L2 PySem.Spec PyProof.Rows Rg Er Ru LamX Tn ClX GenW
abbrev sLaw : Stmt := top 29
def strV (l : List Nat) : V := V.str ⟨l.toArray⟩
abbrev nLaw : List Str := ["_law_script", "_law_pen_here", "_law_turn", "_law_pairs_here", "_law_weights", "_law_signs", "_law_pair", "_law_rows", "_law_k", "_law_row", "_law_place", "_law_sign", "_law_other", "_law_length"]
theorem scLaw : FnScope nLaw ["_law_script"] (defScope sLaw) := ⟨rfl, rfl, rfl, by decide +kernel, rfl, by decide +kernel, by decide +kernel⟩
def spLaw (K : PySem.W.Frag) (T : List (Addr × Str)) : Sp := fun vs H Q _ => ∃ (a : Addr) (ns : List Int), vs = [.ref a] ∧ SqL K H a (ns.map V.int) ∧ ns.length ≤ 63 ∧ Tabs T H ∧ ∀ H', Q (.bl true) H'
theorem bRepr1 {X : Cx} {e : Expr} {te : TE} {q pos : Pos} (hg : X.A.guards = some []) (hr : Room 0 X.A) (gl : Gl X "repr") (m : X.mg "repr" = none) (he : PE X e te) (na : starEach [e] X.env = (false, eval e X.env) :: starEach [] X.env := by rfl) :
    PE X (.Call (.Name "repr" q) [e] [] pos) (tCB (rRepr X.K) (tCons te tNil)) := pe_callB (cr_repr hg hr) gl m (by decide +kernel) (pa_cons he pa_nil na) (he := na)
theorem noStop0 {K : PySem.W.Frag} : NoStop K (fun _ _ _ => False) := fun _ _ _ h => h.elim
theorem badFrom_none : ∀ (es : List (Nat × Int)) (i : Nat) (seen : List Nat), (es.map (·.1)).Nodup → (∀ c ∈ es.map (·.1), c ∉ seen) → badFrom i seen (es.map some) = none
  | [], _, _, _, _ => rfl
  | (c, n) :: r, i, seen, nd, no => by
    rw [List.map_cons] at nd no
    rw [List.nodup_cons] at nd
    show (if c ∈ seen then some i else badFrom (i + 1) (seen ++ [c]) (r.map some)) = none
    rw [if_neg (no c List.mem_cons_self)]
    refine badFrom_none r (i + 1) (seen ++ [c]) nd.2 fun d hd hs => ?_
    rcases List.mem_append.mp hs with h | h
    · exact no d (List.mem_cons_of_mem _ hd) h
    · rw [List.mem_singleton.mp h] at hd
      exact nd.1 hd
theorem ents_of {K : PySem.W.Frag} {H : Hp} {xs : List V} {es : List (Nat × Int)} (h : PairsD H xs es) : Ents K H xs (es.map some) := ⟨by rw [h.1]; simp, fun i o ho => by
  rw [List.getElem?_map] at ho
  obtain ⟨e, he, rfl⟩ := Option.map_eq_some_iff.mp ho
  obtain ⟨t, h1, h2⟩ := h.2 i e he
  exact ⟨_, h1, .inl ⟨t, e.1, e.2, rfl, h2, rfl⟩⟩⟩
theorem some_inj {es fs : List (Nat × Int)} (h : es.map some = fs.map some) : fs = es := by
  have := congrArg (List.map fun o => o.getD (0, 0)) h
  simpa [Function.comp_def] using this.symm
theorem of_good {K : PySem.W.Frag} {C CB l : Addr} {H : Hp} {xs : List V} {es : List (Nat × Int)} {Q : VK} {E : XK} (hl : Sq H l xs) (h : PairsD H xs es) (l1 : 1 ≤ es.length) (l4 : es.length ≤ 4) (nd : (es.map (·.1)).Nodup)
    (k : ∀ a H', Same H H' → Wts C H' a es xs → Q (.ref a) H') : spWOfA K C CB [.ref C, .ref l] H Q E := by
  have al := h.1
  refine ⟨l, xs, es.map some, rfl, hl, ents_of h, by omega, fun n => absurd ⟨by omega, by omega⟩ n, fun _ => ?_⟩
  rw [badFrom_none es 0 [] nd fun _ _ h => by cases h]
  exact fun es' H' a e s w => k a H' s (by rw [some_inj e] at w; exact w)
theorem passS0 {X : Cx} : ∀ σ : L2.St, PassesAt CX0 X σ ((fun (_ : L2.St) => E0) σ) := fun σ pins H s e s' I h => pass0 pins σ H s e s' I h
theorem wtC_bounds {l : List Nat} : ∀ {es : List (Nat × Int)}, (∀ e ∈ es, 0 ≤ e.2 ∧ e.2 ≤ 9) → 0 ≤ wtC es l ∧ wtC es l ≤ 9 * (l.length : Int) * (es.length : Int)
  | [], _ => by
    unfold wtC
    simp
  | e :: r, h => by
    have ih := wtC_bounds (l := l) (es := r) fun x hx => h x (List.mem_cons_of_mem _ hx)
    have he := h e List.mem_cons_self
    have hc : ((l.count e.1 : Nat) : Int) ≤ (l.length : Int) := Int.ofNat_le.mpr List.count_le_length
    have h0 : 0 ≤ ((l.count e.1 : Nat) : Int) := Int.natCast_nonneg _
    have e1 : wtC (e :: r) l = e.2 * ((l.count e.1 : Nat) : Int) + wtC r l := by
      unfold wtC
      rw [List.map_cons, List.sum_cons]
    have p0 : 0 ≤ e.2 * ((l.count e.1 : Nat) : Int) := Int.mul_nonneg he.1 h0
    have p1 : e.2 * ((l.count e.1 : Nat) : Int) ≤ 9 * (l.length : Int) := Int.mul_le_mul he.2 hc h0 (by decide)
    have e2 : 9 * (l.length : Int) * ((e :: r).length : Int) = 9 * (l.length : Int) * (r.length : Int) + 9 * (l.length : Int) := by
      rw [List.length_cons, Int.natCast_add, Int.mul_add]
      simp
    rw [e1, e2]
    omega
theorem tame_two {w n : Int} {xs : List Int} (w0 : 0 ≤ w) (w1 : w < 1000) (n0 : 0 ≤ n) (n1 : n < 1000) (h : ∀ x ∈ xs, 0 ≤ x ∧ x < 1000) (xl : xs.length ≤ 10) : Tame (.list [.int w, placeD w n xs]) 3 400 := by
  refine Tame.list (h := 2) (w := 400) (Tames.cons (w1 := 10) (w2 := 300) (Tame.int w0 w1 (Nat.le_refl _)) (Tames.cons (w1 := 250) (w2 := 0) (Tame.tup (h := 1) (w := 250) ?_) Tames.nil (by decide)) (by decide))
  refine Tames.cons (w1 := 10) (w2 := 230) (Tame.int w0 w1 (Nat.le_refl _)) (Tames.cons (w1 := 10) (w2 := 210) (Tame.int n0 n1 (Nat.le_refl _)) (Tames.cons (w1 := 200) (w2 := 0) (Tame.tup (h := 0) (w := 200) ?_) Tames.nil (by decide)) (by decide)) (by decide)
  refine Tames.all (w := 10) (fun d hd => ?_) ?_
  · obtain ⟨x, hx, rfl⟩ := List.mem_map.mp hd
    exact Tame.int (h x hx).1 (h x hx).2 (Nat.le_refl _)
  · show (xs.map PyData.int).length * 11 ≤ 200
    rw [List.length_map]
    omega
/-- what stands through a turn -/
structure Stand (C L q Sg R : Addr) (xs : List V) (es : List (Nat × Int)) (RA : List (List Nat)) (G : Hp) : Prop where
  hL : G L = some (.lst xs)
  pd : PairsD G xs es
  w : Wts C G q es xs
  hS : G Sg = some (.lst ((es.map (·.1)).map sg))
  hR : G R = some (.lst (RA.map strV))
theorem Stand.same {C L q Sg R : Addr} {xs : List V} {es : List (Nat × Int)} {RA : List (List Nat)} {G G' : Hp} (h : Stand C L q Sg R xs es RA G) (s : Same G G') : Stand C L q Sg R xs es RA G' := by
  obtain ⟨h1, h2, ⟨dx, p, w1, w2, w3⟩, h4, h5⟩ := h
  exact ⟨s _ _ h1, h2.mono fun _ _ _ z => z.same s, ⟨dx, p, s _ _ w1, s _ _ w2, w3.mono fun _ _ _ z => z.same s⟩, s _ _ h4, s _ _ h5⟩
theorem ix_inj {cs : List Nat} : ∀ {l1 l2 : List Nat}, (∀ c ∈ l1, c ∈ cs) → (∀ c ∈ l2, c ∈ cs) → ixO cs l1 = ixO cs l2 → l1 = l2
  | [], [], _, _, _ => rfl
  | [], _ :: _, _, _, e => by simp [ixO] at e
  | _ :: _, [], _, _, e => by simp [ixO] at e
  | a :: r1, b :: r2, h1, h2, e => by
    unfold ixO at e
    rw [List.map_cons, List.map_cons, List.cons.injEq] at e
    have ea := Int.ofNat.inj e.1
    have m1 := h1 a List.mem_cons_self
    have m2 := h2 b List.mem_cons_self
    have g1 := List.getElem_idxOf (List.idxOf_lt_length_iff.mpr m1)
    have g2 := List.getElem_idxOf (List.idxOf_lt_length_iff.mpr m2)
    have eq : a = b := by
      rw [← g1, ← g2]
      congr 1
    rw [eq, ix_inj (fun c hc => h1 c (List.mem_cons_of_mem _ hc)) (fun c hc => h2 c (List.mem_cons_of_mem _ hc)) e.2]
section
variable {P : Program} {w : World} {K : PySem.W.Frag} {mg : Str → Option Value} {base : Heap}
set_option maxHeartbeats 0 in
theorem ok_law {C CR f fN fP fT fD fW fA fL fF fO : Addr} {T3 : List (Addr × Str)} {fd dN dP dT dD dW dA dL dF dO : FuncData} (F : L2.Fun K "law" "law" sLaw f fd) (T : Txt mg) (S : WK P w K mg base C CR)
    (GN : FnOk P w K mg base CX0 1 fN dN ["_law_script"] (spPen K)) (mN : mg "_law_pen" = some (.ref fN)) (kN : PySem.W.keepIn K (.ref fN) = true) (bN : L2.Binds K dN ["_law_script"] [])
    (GP : FnOk P w K mg base CX0 3 fP dP ["_law_pen_here"] spPairs) (mP : mg "_law_pairs" = some (.ref fP)) (kP : PySem.W.keepIn K (.ref fP) = true) (bP : L2.Binds K dP ["_law_pen_here"] [])
    (GT : FnOk P w K mg base CX0 3 fT dT ["_law_pen_here", "_law_signs", "_law_many"] spText) (mT : mg "_law_text" = some (.ref fT)) (kT : PySem.W.keepIn K (.ref fT) = true) (bT : L2.Binds K dT ["_law_pen_here", "_law_signs", "_law_many"] [])
    (GD : FnOk P w K mg base CX0 1 fD dD ["_law_pen_here", "_law_many"] spDraw) (mD : mg "_law_draw" = some (.ref fD)) (kD : PySem.W.keepIn K (.ref fD) = true) (bD : L2.Binds K dD ["_law_pen_here", "_law_many"] [])
    (GW : FnOk P w K mg base CX0 1 fW dW ["_law_pairs_here", "_law_row"] spWeight) (mW : mg "_law_weight" = some (.ref fW)) (kW : PySem.W.keepIn K (.ref fW) = true) (bW : L2.Binds K dW ["_law_pairs_here", "_law_row"] [])
    (GA : FnOk P w K mg base CX0 2 fA dA ["_law_pairs_here", "_law_one", "_law_other"] spAhead) (mA : mg "_law_ahead" = some (.ref fA)) (kA : PySem.W.keepIn K (.ref fA) = true) (bA : L2.Binds K dA ["_law_pairs_here", "_law_one", "_law_other"] [])
    (GL : FnOk P w K mg base CX0 1 fL dL ["_law_signs", "_law_length"] spAll) (mL : mg "_law_all" = some (.ref fL)) (kL : PySem.W.keepIn K (.ref fL) = true) (bL : L2.Binds K dL ["_law_signs", "_law_length"] [])
    (GF : FnOk P w K mg base CX0 5 fF dF ["_law_weights", "_law_signs"] (spFirst C)) (mF : mg "_law_first_right" = some (.ref fF)) (kF : PySem.W.keepIn K (.ref fF) = true) (bF : L2.Binds K dF ["_law_weights", "_law_signs"] [])
    (GO : FnG P w K mg base CX0 9 fO dO ["_law_pen_here", "_law_weights", "_law_signs", "_law_row"] (spOdd T3 C)) (mO : mg "_law_odd_right" = some (.ref fO)) (kO : PySem.W.keepIn K (.ref fO) = true) (bO : L2.Binds K dO ["_law_pen_here", "_law_weights", "_law_signs", "_law_row"] []) :
    FnG P w K mg base CX0 10 f fd ["_law_script"] (spLaw K T3) := by
  refine funG F scLaw (fun vs H Q E h => ?_) (fun cdv A outer s H vs Q E hg hr h => ?_)
  · obtain ⟨a, ns, rfl, _⟩ := h
    rfl
  · obtain ⟨a, ns, rfl, hs, hl, tabs, k⟩ := h
    obtain ⟨M, gC, hear, rd, ⟨CB, op_, og, oc1, oF⟩, ⟨gr, fdr, mr, Gr_, br⟩, ⟨gc, fdc, co, Fc, _, bc⟩, ⟨gp, fdp, mp, Fp, _, bp⟩⟩ := S
    have nd := scLaw.nd
    have hg' : (A.deeper (envOfC "law" (defScope sLaw) s.heap.objs.size f cdv)).guards = some [] := hg
    have hr0 := hr.mono (show 0 ≤ 9 by decide)
    refine ⟨_, (pss_cons (ps_set (i := 1) nd rfl (.inr rfl) (pe_call GN (hr.mono (by decide)) (by rfl) mN kN bN .nil pass0 (pa_cons (pv 0) pa_nil)))
      (pss_cons (ps_for PassesOwn.never rfl (pi_range1 (by rfl) T.range (pa_cons pe_int pa_nil)) (pg_name (i := 2) nd rfl (Or.inl rfl)) (pss_cons (ps_set (i := 3) nd rfl (.inl rfl) (pe_call GP (hr.mono (by decide)) (by rfl) mP kP bP .nil pass0 (pa_cons (pv 1) pa_nil)))
      (pss_cons (ps_set (i := 4) nd rfl (.inl rfl) (pe_cmeth (pe_glob (v := .ref C) (by rfl) gC rfl) rd oc1 oF (hr.mono (by decide)) passesF (pa_cons (pv 3) pa_nil)))
      (pss_cons (ps_set (i := 5) nd rfl (.inr rfl) (pe_lc (own := [("_law_pair", 6)]) (g := gName 6) (tt := tYes) (te := tOp (rIxT K) (tVar 6) (tC (.int 0))) rfl nd (pi_list (pv 3)) (blkOk_by (own := [("_law_pair", 6)]) (N := nLaw) (sc := defScope sLaw) (by decide +kernel)) (fun _ _ _ _ _ => pg_name (i := 6) nd rfl (Or.inl rfl)) (fun _ _ _ _ _ => pts_nil) (fun _ _ _ _ _ => bIxT (pv 6) pe_int)))
      (pss_cons (ps_set (i := 7) nd rfl (.inl rfl) (pe_op op_cat (pe_lc (own := [("_law_k", 8)]) (g := gName 8) (tt := tYes) (te := tCall spText [] E0 (tCons (tVar 1) (tCons (tVar 5) (tCons (tCall spDraw [] E0 (tCons (tVar 1) (tCons (tC (.int 10)) tNil))) tNil)))) rfl nd (pi_range1 (by rfl) T.range (pa_cons pe_int pa_nil)) (blkOk_by (own := [("_law_k", 8)]) (N := nLaw) (sc := defScope sLaw) (by decide +kernel)) (fun _ _ _ _ _ => pg_name (i := 8) nd rfl (Or.inl rfl)) (fun _ _ _ _ _ => pts_nil) (fun _ _ _ _ _ => (pe_call GT (hr.mono (by decide)) (by rfl) mT kT bT .nil pass0 (pa_cons (pv 1) (pa_cons (pv 5) (pa_cons (pe_call GD (hr.mono (by decide)) (by rfl) mD kD bD .nil pass0 (pa_cons (pv 1) (pa_cons pe_int pa_nil))) pa_nil)))))) (pe_lst (pa_cons pe_str (pa_cons (bIx (pv 5) pe_int) (pa_cons (pe_op op_mulC (bIx (pv 5) (pe_un un_neg pe_int)) pe_int) pa_nil))))))
      (pss_cons (ps_expr (pe_bm PySem.F.plainAttrs_list PySem.F.slot_list_append PySem.F.type_list_append mt_append (pv 7) (pa_cons (pe_revS (bIx (pv 7) pe_int)) pa_nil)))
      (pss_cons (ps_for PassesOwn.never rfl (pi_list (pv 7)) (pg_name (i := 9) nd rfl (Or.inl rfl)) (pss_cons (ps_set (i := 10) nd rfl (.inl rfl) (pe_tup (pa_cons (pe_call GW (hr.mono (by decide)) (by rfl) mW kW bW .nil pass0 (pa_cons (pv 3) (pa_cons (pv 9) pa_nil))) (pa_cons (bLen (by rfl) T.len (pv 9)) (pa_cons (bTup (by rfl) T.tuple (pe_lc (own := [("_law_sign", 11)]) (g := gName 11) (tt := tYes) (te := tBM K "list" (rIndex K) (tVar 5) (tCons (tVar 11) tNil)) rfl nd (pi_str (pv 9)) (blkOk_by (own := [("_law_sign", 11)]) (N := nLaw) (sc := defScope sLaw) (by decide +kernel)) (fun _ _ _ _ _ => pg_name (i := 11) nd rfl (Or.inl rfl)) (fun _ _ _ _ _ => pts_nil) (fun _ _ _ _ _ => (bIndexL (pv 5) (pv 11))))) pa_nil)))))
      (pss_cons (ps_if (pt_cmpR op_ne (bRepr1 hg' hr0 (by rfl) T.repr (pe_lst (pa_cons (pe_callOS (pv 4) co Fc (hr.mono (by decide)) bc passS0 (pa_cons (pv 9) pa_nil)) (pa_cons (pe_meth (pv 4) M.cl mp Fp (hr.mono (by decide)) bp .nil pass0 (pa_cons (pv 9) pa_nil)) pa_nil)))) (bRepr1 hg' hr0 (by rfl) T.repr (pe_lst (pa_cons (bIxT (pv 10) pe_int) (pa_cons (pv 10) pa_nil)))) (nomark _)) (pss_one ps_never) pss_nil)
      (pss_one (ps_for PassesOwn.never rfl (pi_list (pv 7)) (pg_name (i := 12) nd rfl (Or.inl rfl)) (pss_cons (ps_if (pt_cmpR op_ne (pe_cmpR (op_ltD hr.units) (pe_meth (pv 4) M.cl mp Fp (hr.mono (by decide)) bp .nil pass0 (pa_cons (pv 9) pa_nil)) (pe_meth (pv 4) M.cl mp Fp (hr.mono (by decide)) bp .nil pass0 (pa_cons (pv 12) pa_nil)) (nomark _)) (pe_call GA (hr.mono (by decide)) (by rfl) mA kA bA .nil pass0 (pa_cons (pv 3) (pa_cons (pv 9) (pa_cons (pv 12) pa_nil)))) (nomark _)) (pss_one ps_never) pss_nil)
      (pss_one (ps_if (pt_cmpR op_ne (pe_cmpR (op_eqP hr.units) (pe_meth (pv 4) M.cl mp Fp (hr.mono (by decide)) bp .nil pass0 (pa_cons (pv 9) pa_nil)) (pe_meth (pv 4) M.cl mp Fp (hr.mono (by decide)) bp .nil pass0 (pa_cons (pv 12) pa_nil)) (nomark _)) (pe_cmpR op_eq (pv 9) (pv 12) (nomark _)) (nomark _)) (pss_one ps_never) pss_nil))))))))
      (pss_cons (ps_for PassesOwn.never rfl (pi_list (pe_lst (pa_cons pe_int (pa_cons pe_int (pa_cons pe_int (pa_cons pe_int pa_nil)))))) (pg_name (i := 13) nd rfl (Or.inl rfl)) (pss_one (ps_if (pt_cmpR (op_neP hr.units) (pe_listG (pgen_meth (pv 4) M.cl mr Gr_ (hr.mono (by decide)) br .nil (pa_cons (pv 13) pa_nil)) passesF noStop0 (hr.mono (by decide)) (by rfl) T.list (by decide +kernel)) (pe_call GL (hr.mono (by decide)) (by rfl) mL kL bL .nil pass0 (pa_cons (pv 5) (pa_cons (pv 13) pa_nil))) (nomark _)) (pss_one ps_never) pss_nil)))
      (pss_cons (ps_if (pt_not (pt_val (pe_call GF (hr.mono (by decide)) (by rfl) mF kF bF .nil pass0 (pa_cons (pv 4) (pa_cons (pv 5) pa_nil))))) (pss_one ps_never) pss_nil)
      (pss_one (ps_if (pt_not (pt_val (pe_callG hg' GO (hr.mono (by decide)) (by rfl) mO kO bO pass0 (pa_cons (pv 1) (pa_cons (pv 4) (pa_cons (pv 5) (pa_cons (bIx (pv 7) pe_int) pa_nil))))))) (pss_one ps_never) pss_nil)))))))))))
      (pss_one (ps_ret pe_bl)))), ?_⟩
    refine ⟨_, rfl, a, ns, rfl, hs, hl, fun c p H1 s1 pen => ?_⟩
    have tabs1 := tabs.ext s1
    clear hs hl tabs s1
    refine ⟨4, rfl, by decide, by decide, ?_⟩
    refine for_it walk_range (fun i σ' G => ∃ y2 y3 y4 y5 y6 y7 y8 y9 y10 y11 y12 y13, σ' = [some (.ref a), some (.ref p), y2, y3, y4, y5, y6, y7, y8, y9, y10, y11, y12, y13] ∧ PenAt c (100 * i) G p ∧ Tabs T3 G) ⟨_, _, _, _, _, _, _, _, _, _, _, _, rfl, pen, tabs1⟩ (fun _ _ _ _ _ => trivial) ?_ ?_
    rotate_left
    · rintro σ' G ⟨y2, y3, y4, y5, y6, y7, y8, y9, y10, y11, y12, y13, rfl, _, _⟩
      exact k G
    rintro i x σ' G G0 hi ⟨y2, y3, y4, y5, y6, y7, y8, y9, y10, y11, y12, y13, rfl, penG, tabs0⟩ ⟨eG, ex⟩
    subst eG
    subst ex
    have hi' : i < 4 := hi
    clear pen tabs1
    refine ⟨_, rfl, c, p, 100 * i, rfl, by omega, penG, fun L G1 xs es Lp hL pd l1 l4 nd0 ink => ?_⟩
    have g1 : Gr T3 c p (100 * i + 20) G0 G1 := (Gr.start penG tabs0).ink ink
    clear ink
    refine ⟨rfl, _, rfl, ?_⟩
    dsimp only [tNil]
    refine of_good (.inl hL) pd l1 l4 nd0 fun q G2 s2 w2 => ?_
    have xl := pd.1
    have g2 := g1.same s2
    have hL2 := s2 _ _ hL
    have pd2 := pd.mono fun _ _ _ h => h.same s2
    clear hL pd g1 s2
    have csabc : ∀ d ∈ es.map (·.1), d ∈ abc.cps.toList := fun d hd => by
      obtain ⟨e, he, rfl⟩ := List.mem_map.mp hd
      obtain ⟨i, hi, rfl⟩ := List.getElem_of_mem he
      obtain ⟨t, _, pt⟩ := pd2.2 i _ (List.getElem?_eq_getElem hi)
      exact pt.2.1
    refine ⟨_, rfl, L, rfl, ⟨_, SqL.of hL2⟩, fun Sg hSg => ?_⟩
    have Sgp : Sg ≠ p := g2.pen.ne1 hSg
    refine lcMap walk_list (fun i => sg (es.getD i (0, 0)).1) (by rw [sizeLine_eq]; omega) hSg (fun H' z => SqL.of (z _ _ hL2)) (fun _ _ _ _ z => z.1) ?_ ?_
    · rintro j x H' Q' hj s4 ⟨_, hx⟩ z
      have hj' : j < es.length := by omega
      obtain ⟨t, et, pt⟩ := pd2.2 j _ (List.getElem?_eq_getElem hj')
      rw [hx] at et
      cases et
      have ex : es.getD j (0, 0) = es[j] := by simp [List.getD_eq_getElem?_getD, List.getElem?_eq_getElem hj']
      have := z H' (Same.refl _)
      rw [ex] at this
      exact ⟨_, rfl, t, _, 0, _, rfl, rfl, SqT.of (pt.same s4).1, rfl, this⟩
    intro G3 s3 hS3
    have eS : (List.range xs.length).map (fun i => sg (es.getD i (0, 0)).1) = (es.map (·.1)).map sg := by
      rw [xl, List.map_map]
      exact map_getD (f := fun e : Nat × Int => sg e.1)
    rw [eS] at hS3
    have g3 := g2.same s3
    have hL3 := s3 _ _ hL2
    have pd3 := pd2.mono fun _ _ _ h => h.same s3
    have w3 := w2.gr (Gr.same (Gr.start g2.pen g2.tabs) s3) g2.pen
    clear hL2 pd2 w2 g2 s3 hSg eS
    have csl : (es.map (·.1)).length = es.length := by simp
    refine ⟨5, rfl, by decide, by decide, fun D hD => ?_⟩
    have Dp := g3.pen.ne1 hD
    have DS : Sg ≠ D := ne_of_none hS3 hD
    refine lcGen walk_range (fun j H' acc => Ink c p (100 * i + 20 + 11 * j) G3 H' ∧ H' Sg = some (.lst ((es.map (·.1)).map sg)) ∧ ∃ RL : List (List Nat), acc = RL.map strV ∧ ∀ l ∈ RL, (∀ d ∈ l, d ∈ es.map (·.1)) ∧ l.length ≤ 9) (by rw [sizeLine_eq]; decide) ⟨(Ink.start g3.pen).new hD, by rw [upd_ne DS]; exact hS3, [], rfl, fun _ h => nomatch h⟩ (fun _ _ _ _ _ => trivial) (fun _ _ _ _ y => y.1) ?_ ?_
    · rintro j x H' acc Q' hj hDl hla ⟨ik, hS', RL, rfl, ok⟩ y z
      have hj5 : j < 5 := hj
      refine ⟨_, rfl, _, rfl, _, rfl, c, p, 10, 100 * i + 20 + 11 * j, rfl, by decide, by decide, by omega, ik.2, fun r H4 r0 r1 pen4 x4 => ?_⟩
      obtain ⟨m, rfl⟩ := Int.eq_ofNat_of_zero_le r0
      have hS4 := x4 _ _ Sgp hS'
      refine ⟨c, p, Sg, 100 * i + 20 + 11 * j + 1, m, _, rfl, by omega, by omega, pen4, Sgp, hS4, by rw [csl]; omega, by rw [csl]; omega, fun ds H5 sub dl ik5 => ?_⟩
      have ik6 : Ink c p (100 * i + 20 + 11 * (j + 1)) H' H5 := ⟨Ext1.trans x4 ik5.1, ik5.2.mono (by omega)⟩
      refine z _ H5 (ik6.1 _ _ Dp hDl) ⟨Ink.putNew (Ink.trans ik ik6) g3.pen hD, ?_, RL ++ [ds], by rw [List.map_append]; rfl, fun l hl => ?_⟩
      · rw [upd_ne DS]; exact ik6.1 _ _ Sgp hS'
      · rcases List.mem_append.mp hl with hl | hl
        · exact ok l hl
        · rw [List.mem_singleton.mp hl]; exact ⟨sub, by omega⟩
    rintro G4 acc hD4 hla ⟨ik, hS4, RL, rfl, ok⟩
    have g4 := g3.ink ik
    have hL4 := ik.1 _ _ Lp hL3
    have pd4 := pd3.keep (Ink.keepT g3.pen ik)
    have w4 := w3.gr (Gr.ink (Gr.start g3.pen g3.tabs) ik) g3.pen
    have Rl5 : RL.length = 5 := by rw [List.length_map] at hla; exact hla
    obtain ⟨c0, rest, ec⟩ : ∃ c0 rest, es.map (·.1) = c0 :: rest := by
      cases e : es.map (·.1) with
      | nil => rw [e] at csl; simp at csl; omega
      | cons c0 rest => exact ⟨c0, rest, rfl⟩
    obtain ⟨ini, cl, ecl⟩ : ∃ ini cl, es.map (·.1) = ini ++ [cl] := ⟨(es.map (·.1)).dropLast, (es.map (·.1)).getLast (by rw [ec]; exact List.cons_ne_nil _ _), (List.dropLast_concat_getLast _).symm⟩
    have m0 : c0 ∈ es.map (·.1) := by rw [ec]; exact List.mem_cons_self
    have ml : cl ∈ es.map (·.1) := by rw [ecl]; simp
    have at0 : atI ((es.map (·.1)).map sg) 0 = some (sg c0) := by
      rw [ec]
      exact atI_nat (j := 0) rfl
    have atl : atI ((es.map (·.1)).map sg) (-1) = some (sg cl) := by
      rw [ecl, List.map_append]
      exact atI_last _ _
    refine ⟨_, rfl, Sg, _, 0, _, rfl, rfl, SqL.of hS4, at0, _, rfl, 1, rfl, Sg, _, _, _, rfl, rfl, SqL.of hS4, atl, cl, 2, rfl, rfl, by decide, by show 3 ≤ sizeLine; decide, fun l3 hl3 => ?_⟩
    have s5 := Same.new (o := .lst [.str "", sg c0, .str ⟨(List.replicate 2 cl).toArray⟩]) hl3
    have e5 : upd G4 l3 (.lst [.str "", sg c0, .str ⟨(List.replicate 2 cl).toArray⟩]) l3 = some (.lst ([[], [c0], [cl, cl]].map strV)) := upd_same.trans (by rfl)
    have hD5 := s5 _ _ hD4
    have g5 := g4.same s5
    have hL5 := s5 _ _ hL4
    have hS5 := s5 _ _ hS4
    have pd5 := pd4.mono fun _ _ _ h => h.same s5
    have w5 := w4.gr (Gr.same (Gr.start g4.pen g4.tabs) s5) g4.pen
    generalize upd G4 l3 (.lst [.str "", sg c0, .str ⟨(List.replicate 2 cl).toArray⟩]) = G5 at e5 hD5 g5 hL5 hS5 pd5 w5 ⊢
    clear s5 hL4 pd4 w4 hS4 g4 hD4 ik
    refine ⟨D, l3, _, _, rfl, rfl, hD5, e5, by rw [List.length_map, List.length_map, Rl5]; show 5 + 3 ≤ sizeLine; decide, fun R hR => ?_⟩
    have Rp_ : R ≠ p := g5.pen.ne1 hR
    have Rc : R ≠ c := g5.pen.ne2 hR
    rw [← List.map_append]
    have g6 := g5.same (Same.new (o := .lst ((RL ++ [[], [c0], [cl, cl]]).map strV)) hR)
    have hR6 : upd G5 R (.lst ((RL ++ [[], [c0], [cl, cl]]).map strV)) R = some (.lst ((RL ++ [[], [c0], [cl, cl]]).map strV)) := upd_same
    have ok8 : ∀ l ∈ RL ++ [[], [c0], [cl, cl]], (∀ d ∈ l, d ∈ es.map (·.1)) ∧ l.length ≤ 9 := fun l hl => by
      rcases List.mem_append.mp hl with hl | hl
      · exact ok l hl
      · simp only [List.mem_cons, List.not_mem_nil, or_false] at hl
        rcases hl with rfl | rfl | rfl
        · exact ⟨fun _ z => (nomatch z), by decide⟩
        · exact ⟨fun d hd => by rw [List.mem_singleton.mp hd]; exact m0, by show 1 ≤ 9; decide⟩
        · refine ⟨fun d hd => ?_, by show 2 ≤ 9; decide⟩
          simp at hd
          rw [hd]; exact ml
    have R8 : (RL ++ [[], [c0], [cl, cl]]).length = 8 := by rw [List.length_append, Rl5]; rfl
    generalize hRR : RL ++ [[], [c0], [cl, cl]] = RR at g6 hR6 ok8 R8 ⊢
    obtain ⟨r0, hr0'⟩ : ∃ r0, RR[0]? = some r0 := ⟨_, List.getElem?_eq_getElem (by omega)⟩
    obtain ⟨r1, hr1'⟩ : ∃ r1, RR[1]? = some r1 := ⟨_, List.getElem?_eq_getElem (by omega)⟩
    have ok0 := ok8 r0 (List.mem_of_getElem? hr0')
    refine ⟨_, rfl, .inl ⟨rfl, _, SqL.of hR6⟩, _, rfl, R, _, ((0 : Nat) : Int), strV r0, rfl, rfl, SqL.of hR6, atI_nat (by rw [List.getElem?_map, hr0']; rfl), ⟨r0.toArray⟩, rfl, len_small (by show r0.toArray.size ≤ _; simp; omega), R, _, _, rfl, rfl, hR6, by rw [List.length_map, R8]; show 8 < sizeLine; decide, ?_⟩
    have erev : V.str (revS ⟨r0.toArray⟩) = strV r0.reverse := by unfold revS strV; rw [List.toList_toArray]
    rw [erev]
    have s56 : Same G5 (upd (upd G5 R (.lst (RR.map strV))) R (.lst (RR.map strV ++ [strV r0.reverse]))) := Same.putNew hR (Same.new hR)
    have hR7 : upd (upd G5 R (.lst (RR.map strV))) R (.lst (RR.map strV ++ [strV r0.reverse])) R = some (.lst ((RR ++ [r0.reverse]).map strV)) := upd_same.trans (by rw [List.map_append]; rfl)
    generalize upd (upd G5 R (.lst (RR.map strV))) R (.lst (RR.map strV ++ [strV r0.reverse])) = G6 at s56 hR7 ⊢
    clear g6 hR6
    have g6 := g5.same s56
    have hL6 := s56 _ _ hL5
    have hS6 := s56 _ _ hS5
    have pd6 := pd5.mono fun _ _ _ h => h.same s56
    have w6 := w5.gr (Gr.same (Gr.start g5.pen g5.tabs) s56) g5.pen
    have ok9 : ∀ l ∈ RR ++ [r0.reverse], (∀ d ∈ l, d ∈ es.map (·.1)) ∧ l.length ≤ 9 := fun l hl => by
      rcases List.mem_append.mp hl with hl | hl
      · exact ok8 l hl
      · rw [List.mem_singleton.mp hl]
        exact ⟨fun d hd => ok0.1 d (List.mem_reverse.mp hd), by rw [List.length_reverse]; exact ok0.2⟩
    have at1 : (RR ++ [r0.reverse])[1]? = some r1 := by rw [List.getElem?_append_left (by omega)]; exact hr1'
    have R9 : (RR ++ [r0.reverse]).length = 9 := by simp [R8]
    generalize RR ++ [r0.reverse] = RA at hR7 ok9 at1 R9
    clear ok0 hr0' hr1' ok8 R8 hRR hL5 hS5 pd5 w5 g5 e5 hD5 hl3 s56 erev g3 w3 pd3 hL3 hS3 hD Dp DS
    refine ⟨_, rfl, R, rfl, ⟨_, SqL.of hR7⟩, ?_⟩
    have st : Stand C L q Sg R xs es RA G6 := ⟨hL6, pd6, w6, hS6, hR7⟩
    have Rp' := Rp_
    clear hL6 pd6 w6 hS6 hR7 Rc Rp_ hR
    have wb : ∀ e ∈ es, 0 ≤ e.2 ∧ e.2 ≤ 9 := fun e he => by
      obtain ⟨j, hj, rfl⟩ := List.getElem_of_mem he
      obtain ⟨t, _, pt⟩ := st.pd.2 j _ (List.getElem?_eq_getElem hj)
      exact pt.2.2
    have word : ∀ l : List Nat, (∀ d ∈ l, d ∈ es.map (·.1)) → Word (letters es) ⟨l.toArray⟩ := fun l h d hd => by
      unfold letters
      rw [List.toList_toArray]
      exact h d hd
    refine for_it walk_list (fun j σ' G => (∃ y8 y9 y10 y11 y12, σ' = [some (.ref a), some (.ref p), some (.int (0 + (i : Int))), some (.ref L), some (.ref q), some (.ref Sg), y6, some (.ref R), y8, y9, y10, y11, y12, y13]) ∧ Same G6 G)
      ⟨⟨_, _, _, _, _, rfl⟩, Same.refl _⟩ (fun j σ' G _ y => SqL.of (y.2 _ _ st.hR)) ?_ ?_
    · rintro j v σ' G G' hj ⟨⟨y8, y9, y10, y11, y12, rfl⟩, sm⟩ ⟨eG, ev⟩
      subst eG
      rw [List.getElem?_map] at ev
      obtain ⟨l, hl, rfl⟩ := Option.map_eq_some_iff.mp ev
      obtain ⟨mem, ll⟩ := ok9 l (List.mem_of_getElem? hl)
      have st1 := st.same sm
      have lls : (⟨l.toArray⟩ : Str).length = l.length := by show l.toArray.size = _; simp
      refine ⟨_, rfl, _, rfl, L, xs, es, l, rfl, st1.hL, st1.pd, l4, nd0, mem, by omega, fun G2 s2 => ?_⟩
      have st2 := st1.same s2
      refine ⟨_, rfl, _, l.length, rfl, ⟨len_small (by rw [lls]; omega), lls.symm⟩, _, rfl, _, rfl, fun D hD => ?_⟩
      refine lcMap walk_str (fun i => .int (((es.map (·.1)).idxOf (l.getD i 0) : Nat) : Int)) (by show l.toArray.size < _; rw [sizeLine_eq]; simp; omega) hD (fun _ _ => trivial) (fun _ _ _ _ y => y.1) ?_ ?_
      · rintro j2 x H' Q' hj2 s3 ⟨_, d, hd, rfl⟩ z
        have hd' : l[j2]? = some d := by simpa using hd
        obtain ⟨a1, a2, a3⟩ := index_facts nd0 (mem d (List.mem_of_getElem? hd'))
        have hS' := s3 _ _ st2.hS
        have := z _ (Same.refl H')
        rw [show l.getD j2 0 = d from by rw [List.getD_eq_getElem?_getD, hd']; rfl] at this
        exact ⟨_, rfl, .inl ⟨rfl, _, SqL.of hS'⟩, _, rfl, Sg, _, _, _, _, rfl, rfl, SqL.of hS', rfl, flatSgs _, a1, a2, a3, this⟩
      intro G3 s3 hD3
      have eD : (List.range l.toArray.size).map (fun i => V.int (((es.map (·.1)).idxOf (l.getD i 0) : Nat) : Int)) = (ixO (es.map (·.1)) l).map V.int := by
        rw [show l.toArray.size = l.length from by simp, map_getD (f := fun c => V.int (((es.map (·.1)).idxOf c : Nat) : Int))]
        unfold ixO
        rw [List.map_map]
        rfl
      rw [eD] at hD3
      refine ⟨D, _, rfl, .inl ⟨SqL.of hD3, fun u hu => ⟨by show 3 ≤ sizeLine; decide, fun t ht => ?_⟩⟩⟩
      have s4 := Same.new (o := .tup ((ixO (es.map (·.1)) l).map V.int)) hu
      have s5 := Same.new (o := .tup [.int (wtC es l), .int (l.length : Int), .ref u]) ht
      have pl : PlaceAt (upd (upd G3 u (.tup ((ixO (es.map (·.1)) l).map V.int))) t (.tup [.int (wtC es l), .int (l.length : Int), .ref u])) t (wtC es l) (l.length : Int) (ixO (es.map (·.1)) l) := ⟨u, upd_same, s5 _ _ upd_same⟩
      have sm5 := Same.trans sm (Same.trans s2 (Same.trans s3 (Same.trans s4 s5)))
      generalize upd (upd G3 u (.tup ((ixO (es.map (·.1)) l).map V.int))) t (.tup [.int (wtC es l), .int (l.length : Int), .ref u]) = G5 at pl sm5 ⊢
      clear s2 s3 s4 s5 hD3 hD st1 st2 eD sm
      have st5 := st.same sm5
      have wbl := wtC_bounds (l := l) wb
      have wlt : wtC es l < 1000 := by
        have h1 : 9 * (l.length : Int) * (es.length : Int) ≤ 81 * 4 := Int.mul_le_mul (by omega) (by omega) (by omega) (by omega)
        omega
      have tm := tame_two (w := wtC es l) (n := (l.length : Int)) (xs := ixO (es.map (·.1)) l) wbl.1 wlt (by omega) (by omega) (fun x hx => by
        unfold ixO at hx
        obtain ⟨d, hd, rfl⟩ := List.mem_map.mp hx
        have := List.idxOf_lt_length_iff.mpr (mem d hd)
        rw [csl] at this
        omega) (by unfold ixO; rw [List.length_map]; omega)
      obtain ⟨dxq, ppq, hq, _⟩ := st5.w
      refine ⟨_, rfl, q, rfl, _, rfl, ⟨dxq, _, hq⟩, q, xs, es, ⟨l.toArray⟩, rfl, st5.w, l4, word l mem, by rw [lls]; omega, fun G6' s6 => ?_⟩
      refine ⟨_, rfl, q, dxq, _, rfl, s6 _ _ hq, wf_no (by decide) (by decide), _, rfl, q, xs, es, ⟨l.toArray⟩, rfl, (st5.same s6).w, l4, nd0, word l mem, by rw [lls]; omega, fun t7 u_ G7 s7 e_1 e_2 => ?_⟩
      have pl7 : PlaceAt G7 t7 (wtC es l) (l.length : Int) (ixO (es.map (·.1)) l) := ⟨u_, e_1, e_2⟩
      clear e_1 e_2
      refine ⟨by show 2 ≤ sizeLine; decide, fun l2 hl2 => ?_⟩
      have s8 := Same.new (o := .lst [.int (wtC es l), .ref t7]) hl2
      have e8 : upd G7 l2 (.lst [.int (wtC es l), .ref t7]) l2 = some (.lst [.int (wtC es l), .ref t7]) := upd_same
      have sm8 : Same G5 (upd G7 l2 (.lst [.int (wtC es l), .ref t7])) := Same.trans s6 (Same.trans s7 s8)
      have pl8 := pl7.same s8
      generalize upd G7 l2 (.lst [.int (wtC es l), .ref t7]) = G8 at e8 sm8 pl8 ⊢
      refine ⟨l2, _, rfl, .lst (SqL.of e8) (.cons (.int _) (.cons pl8.rp .nil)), tm.sh, tm.hd, Nat.le_trans tm.dp (by decide), tm.fits (by decide), ?_⟩
      obtain ⟨u8, pt8, pu8⟩ := pl.same sm8
      refine ⟨_, rfl, t, _, 0, _, rfl, rfl, SqT.of pt8, rfl, _, rfl, by show 2 ≤ sizeLine; decide, fun l3 hl3 => ?_⟩
      have s9 := Same.new (o := .lst [.int (wtC es l), .ref t]) hl3
      have e9 : upd G8 l3 (.lst [.int (wtC es l), .ref t]) l3 = some (.lst [.int (wtC es l), .ref t]) := upd_same
      have pl9 : PlaceAt (upd G8 l3 (.lst [.int (wtC es l), .ref t])) t (wtC es l) (l.length : Int) (ixO (es.map (·.1)) l) := ⟨u8, s9 _ _ pt8, s9 _ _ pu8⟩
      have sm9 := Same.trans sm5 (Same.trans sm8 s9)
      generalize upd G8 l3 (.lst [.int (wtC es l), .ref t]) = G9 at e9 pl9 sm9 ⊢
      refine ⟨l3, _, rfl, .lst (SqL.of e9) (.cons (.int _) (.cons pl9.rp .nil)), tm.sh, tm.hd, Nat.le_trans tm.dp (by decide), tm.fits (by decide), ?_⟩
      refine ⟨rfl, _, rfl, ?_⟩
      rw [neSame]
      refine iteF ?_
      clear s6 s7 s8 s9 e8 e9 sm8 pl8 pl7 pt8 pu8 hl2 hl3 hq st5 sm5 pl
      have st9 := st.same sm9
      refine ⟨_, rfl, R, rfl, ⟨_, SqL.of st9.hR⟩, ?_⟩
      refine for_it walk_list (fun j σ' G => (∃ y12, σ' = [some (.ref a), some (.ref p), some (.int (0 + (i : Int))), some (.ref L), some (.ref q), some (.ref Sg), y6, some (.ref R), y8, some (strV l), some (.ref t), y11, y12, y13]) ∧ Same G9 G)
        ⟨⟨_, rfl⟩, Same.refl _⟩ (fun j σ' G _ y => SqL.of (y.2 _ _ st9.hR)) ?_ ?_
      · rintro j2 v2 σ' G G' hj2 ⟨⟨y12', rfl⟩, sm⟩ ⟨eG, ev2⟩
        subst eG
        rw [List.getElem?_map] at ev2
        obtain ⟨m, hm, rfl⟩ := Option.map_eq_some_iff.mp ev2
        obtain ⟨mem2, ml2⟩ := ok9 m (List.mem_of_getElem? hm)
        have mls : (⟨m.toArray⟩ : Str).length = m.length := by show m.toArray.size = _; simp
        have stA := st9.same sm
        obtain ⟨dxq, ppq, hq, _⟩ := stA.w
        refine ⟨_, rfl, q, dxq, _, rfl, hq, wf_no (by decide) (by decide), _, rfl, q, xs, es, ⟨l.toArray⟩, rfl, stA.w, l4, nd0, word l mem, by rw [lls]; omega, fun tA u_ GA sA e_1 e_2 => ?_⟩
        have plA : PlaceAt GA tA (wtC es l) (l.length : Int) (ixO (es.map (·.1)) l) := ⟨u_, e_1, e_2⟩
        clear e_1 e_2
        refine ⟨_, rfl, q, dxq, _, rfl, sA _ _ hq, wf_no (by decide) (by decide), _, rfl, q, xs, es, ⟨m.toArray⟩, rfl, (stA.same sA).w, l4, nd0, word m mem2, by rw [mls]; omega, fun tB u_ GB sB e_1 e_2 => ?_⟩
        have plB : PlaceAt GB tB (wtC es m) (m.length : Int) (ixO (es.map (·.1)) m) := ⟨u_, e_1, e_2⟩
        clear e_1 e_2
        refine ⟨_, _, (plA.same sB).rp, plB.rp, alikePlace _ _ _ _ _ _, fun z => (nomatch z), depthPlace _ _ _, ?_⟩
        have stB := (stA.same sA).same sB
        refine ⟨_, rfl, _, rfl, _, rfl, L, xs, es, l, m, rfl, stB.hL, stB.pd, l4, nd0, mem, mem2, by omega, by omega, fun GC sC => ?_⟩
        have eqB : PySem.W.dataLt (placeD (wtC es l) (l.length : Int) (ixO (es.map (·.1)) l)) (placeD (wtC es m) (m.length : Int) (ixO (es.map (·.1)) m)) = aheadB es l m := by
          rw [ltPlace]; rfl
        rw [eqB]
        refine ⟨rfl, _, rfl, ?_⟩
        rw [neSame]
        refine iteF ?_
        have stC := stB.same sC
        have hqC := sC _ _ (sB _ _ (sA _ _ hq))
        refine ⟨_, rfl, q, dxq, _, rfl, hqC, wf_no (by decide) (by decide), _, rfl, q, xs, es, ⟨l.toArray⟩, rfl, stC.w, l4, nd0, word l mem, by rw [lls]; omega, fun tD u_ GD sD e_1 e_2 => ?_⟩
        have plD : PlaceAt GD tD (wtC es l) (l.length : Int) (ixO (es.map (·.1)) l) := ⟨u_, e_1, e_2⟩
        clear e_1 e_2
        refine ⟨_, rfl, q, dxq, _, rfl, sD _ _ hqC, wf_no (by decide) (by decide), _, rfl, q, xs, es, ⟨m.toArray⟩, rfl, (stC.same sD).w, l4, nd0, word m mem2, by rw [mls]; omega, fun tE u_ GE sE e_1 e_2 => ?_⟩
        have plE : PlaceAt GE tE (wtC es m) (m.length : Int) (ixO (es.map (·.1)) m) := ⟨u_, e_1, e_2⟩
        clear e_1 e_2
        refine ⟨_, _, (plD.same sE).rp, plE.rp, shapedPlace _ _ _, shapedPlace _ _ _, ?_⟩
        have eqE : PyData.eqv (placeD (wtC es l) (l.length : Int) (ixO (es.map (·.1)) l)) (placeD (wtC es m) (m.length : Int) (ixO (es.map (·.1)) m)) = decide (strV l = strV m) := by
          rw [eqvPlace]
          refine decide_eq_decide.mpr ⟨fun z => ?_, fun z => ?_⟩
          · rw [ix_inj mem mem2 z.2.2]
          · have e : l = m := by simpa [strV] using V.str.inj z
            subst e
            exact ⟨rfl, rfl, rfl⟩
        refine ⟨_, rfl, _, rfl, rfl, rfl, _, rfl, ?_⟩
        rw [if_neg (show ¬ (false = true) from Bool.false_ne_true), eqE, neSame]
        exact iteF ⟨⟨_, rfl⟩, Same.trans sm (Same.trans sA (Same.trans sB (Same.trans sC (Same.trans sD sE))))⟩
      · rintro σ' G ⟨⟨y12', rfl⟩, sm⟩
        exact ⟨⟨_, _, _, _, _, rfl⟩, Same.trans sm9 sm⟩
    · rintro σ' G ⟨⟨y8, y9, y10, y11, y12, rfl⟩, sm⟩
      have stG := st.same sm
      have gG := g6.same sm
      clear st g6 sm
      refine ⟨by show 4 ≤ sizeLine; decide, fun l4_ hl4 => ?_⟩
      have s1 := Same.new (o := .lst [.int 0, .int 1, .int 2, .int 3]) hl4
      have e1 : upd G l4_ (.lst [.int 0, .int 1, .int 2, .int 3]) l4_ = some (.lst [.int 0, .int 1, .int 2, .int 3]) := upd_same
      have st1 := stG.same s1
      have g1 := gG.same s1
      clear stG gG
      generalize upd G l4_ (.lst [.int 0, .int 1, .int 2, .int 3]) = G1 at e1 st1 g1 ⊢
      refine ⟨l4_, rfl, ⟨_, SqL.of e1⟩, ?_⟩
      refine for_it walk_list (fun j σ' G => (∃ y13, σ' = [some (.ref a), some (.ref p), some (.int (0 + (i : Int))), some (.ref L), some (.ref q), some (.ref Sg), y6, some (.ref R), y8, y9, y10, y11, y12, y13]) ∧ Same G1 G)
        ⟨⟨_, rfl⟩, Same.refl _⟩ (fun j σ' G _ y => SqL.of (y.2 _ _ e1)) ?_ ?_
      · rintro j v σ' G G' hj ⟨⟨y13', rfl⟩, sm⟩ ⟨eG, ev⟩
        subst eG
        obtain ⟨n, rfl, n3⟩ : ∃ n : Nat, v = .int (n : Int) ∧ n ≤ 3 := by
          have hv := List.mem_of_getElem? ev
          simp only [List.mem_cons, List.not_mem_nil, or_false] at hv
          rcases hv with rfl | rfl | rfl | rfl
          · exact ⟨0, rfl, by decide⟩
          · exact ⟨1, rfl, by decide⟩
          · exact ⟨2, rfl, by decide⟩
          · exact ⟨3, rfl, by decide⟩
        have stA := st1.same sm
        obtain ⟨dxq, ppq, hq, _⟩ := stA.w
        refine ⟨_, rfl, q, dxq, _, rfl, hq, wf_no (by decide) (by decide), _, rfl, q, dxq, ppq, es, n, rfl, hq, l1, l4, nd0, n3, fun D1 hD1 => ?_⟩
        have sD := Same.new (o := .lst ((allR es.length n).map (rowV (es.map (·.1))))) hD1
        have eD : upd G' D1 (.lst ((allR es.length n).map (rowV (es.map (·.1))))) D1 = some (.lst ((allR es.length n).map (rowV (es.map (·.1))))) := upd_same
        generalize upd G' D1 (.lst ((allR es.length n).map (rowV (es.map (·.1))))) = GA at sD eD ⊢
        refine ⟨_, rfl, _, rfl, Sg, es.map (·.1), n, rfl, (stA.same sD).hS, by rw [csl]; exact l1, by rw [csl]; exact l4, n3, fun D2 GB sB eB => ?_⟩
        rw [csl] at eB
        have mm : (allR es.length n).map (rowV (es.map (·.1))) = ((allR es.length n).map (encR (es.map (·.1)))).map V.str := by rw [List.map_map]; rfl
        have eD2 := sB _ _ eD
        rw [mm] at eB eD2
        have ok : ∀ z ∈ (allR es.length n).map (encR (es.map (·.1))), PyData.strOk z = true := fun z hz => by
          obtain ⟨r, hr_, rfl⟩ := List.mem_map.mp hz
          obtain ⟨_, low⟩ := allR_low (by omega) n r hr_
          unfold encR
          refine strOk_of fun d hd => ?_
          obtain ⟨e, he, rfl⟩ := List.mem_map.mp hd
          have := low e (List.mem_reverse.mp he)
          refine csabc _ ?_
          rw [List.getD_eq_getElem?_getD, List.getElem?_eq_getElem (by rw [csl]; exact this)]
          exact List.getElem_mem _
        refine ⟨_, _, .lst (SqL.of eD2) (rpStrs K _ _), .lst (SqL.of eB) (rpStrs K _ _), shapedStrs ok, shapedStrs ok, ?_⟩
        refine ⟨_, rfl, ?_⟩
        rw [if_pos rfl, eqvLists]
        exact iteF ⟨⟨_, rfl⟩, Same.trans sm (Same.trans sD sB)⟩
      · rintro σ' G ⟨⟨y13', rfl⟩, sm⟩
        have stA := st1.same sm
        have gA := g1.same sm
        refine ⟨_, rfl, _, rfl, q, Sg, xs, es, rfl, stA.w, l1, l4, nd0, stA.hS, fun GB sB => ?_⟩
        have stB := stA.same sB
        have gB := gA.same sB
        refine ⟨_, rfl, iteF ?_⟩
        refine ⟨_, rfl, _, rfl, _, rfl, _, rfl, R, _, ((1 : Nat) : Int), strV r1, rfl, rfl, SqL.of stB.hR, atI_nat (by rw [List.getElem?_map, at1]; rfl), ?_⟩
        obtain ⟨mem1, ml1⟩ := ok9 r1 (List.mem_of_getElem? at1)
        refine ⟨c, p, q, Sg, _, xs, es, r1, rfl, by omega, gB.pen, stB.w, l1, l4, Sgp, stB.hS, mem1, by omega, gB.tabs, fun GC gC_ => ?_⟩
        exact ⟨_, rfl, iteF ⟨_, _, _, _, _, _, _, _, _, _, _, _, rfl, gC_.pen.mono (by omega), gC_.tabs⟩⟩
end
end Kx
set_option Elab.async false
set_option maxRecDepth 100000
set_option autoImplicit false
namespace Kx
open PySem L2 PySem.Spec PyProof.Rows Rg Er Ru LamX Tn ClX
/-- in this heap nothing is tracked but the script at a and the tables ts -/
structure Bare1 (K : PySem.W.Frag) (a : Addr) (ts : List Addr) (H : Hp) : Prop where
  few : ∀ b, H b ≠ none → (b = a ∧ K.lookup a = none) ∨ b ∈ ts
  kind : ∀ b u, H b = some u → (∃ ob xs, u = .frz ob (.lst xs)) ∨ b ∈ ts
  tabs : ∀ b ∈ ts, H b = some (.tbl #[])
section
variable {P : Program} {w : World} {K : PySem.W.Frag} {mg mb : Str → Option Value} {a : Addr} {s₁ : Shared} {vs : List Value} {cs : List (Addr × Addr)} {H : Hp}
/-- what is no script and no table is not tracked -/
theorem Bare1.off {ts : List Addr} {b : Addr} (B : Bare1 K a ts H) (h1 : b = a → K.lookup a = none → False) (h2 : b ∉ ts) : H b = none := Decidable.by_contra fun q => by
  rcases B.few b q with ⟨e, n⟩ | e
  · exact h1 e n
  · exact h2 e
/-- the heap at the start -/
def start1 (K : PySem.W.Frag) (a : Addr) (ts : List Addr) (vs : List Value) (ns : List Int) : Hp := fun b =>
  if b ∈ ts then some (.tbl #[]) else if b = a ∧ K.lookup a = none then some (.frz { cls := .type "list", data := .seq vs.toArray } (.lst (ns.map V.int))) else none
theorem start1_bare {ts : List Addr} {ns : List Int} : Bare1 K a ts (start1 K a ts vs ns) := by
  refine ⟨fun b q => ?_, fun b u q => ?_, fun b hb => if_pos hb⟩
  · by_cases hb : b ∈ ts
    · exact .inr hb
    · by_cases h2 : b = a ∧ K.lookup a = none
      · exact .inl h2
      · exact absurd (by unfold start1; rw [if_neg hb, if_neg h2]) q
  · by_cases hb : b ∈ ts
    · exact .inr hb
    · unfold start1 at q
      rw [if_neg hb] at q
      split at q
      · cases q; exact .inl ⟨_, _, rfl⟩
      · cases q
theorem lawGT {k : Nat} {fa : Addr} {fd : FuncData} {x : Str} {sp : Sp} {ns : List Int}
    (KX : K.In s₁.heap) (hns : s₁.heap.Ns mainGlobals mg) (hb : s₁.heap.Ns builtinsNs mb) (hbb : ∀ x : Str, x ≠ "__name__" → mb x = bootBuiltins x) (hlim : s₁.heap.NoLimit) (hg : s₁.gens = #[])
    (tab : ∀ p ∈ cs, s₁.heap.get? p.2 = some (PySem.W.tabObj #[]) ∧ K.lookup p.2 = none ∧ PySem.W.CodeHd s₁.heap p.1 p.2)
    (bmn : ∃ (bm : Addr) (ob : Obj), mg "__builtins__" = some (.ref bm) ∧ bm ≠ builtinsNs ∧ s₁.heap.get? bm = some ob ∧ ob.cls = .type "module" ∧ ob.dict = some builtinsNs ∧ ob.data = .plain)
    (ha : s₁.heap.get? a = some { cls := .type "list", data := .seq vs.toArray }) (hi : IntsAre vs ns) (hl : ns.length ≤ sizeLine) (hr : Room k callerA)
    (F : ∀ base : Heap, K.In base → base.Ns mainGlobals mg → (∀ p ∈ cs, TabB base mg p.1 p.2) → FnG P w K mg base CX0 k fa fd [x] sp) (bind : ∀ (s : Shared) (u : Value), BindsTo s fd ⟨[u], []⟩ [(x, u)])
    (want : ∀ H : Hp, (∀ p ∈ cs, H p.2 = some (.tbl #[])) → SqL K H a (ns.map V.int) → sp [.ref a] H (fun v _ => v = .bl true) fun _ _ _ => False) :
    codeAny (model P w) callerA (.call (.ref fa) ⟨[.ref a], []⟩) (fun r s' => r = .ok (.ret (.bool true)) ∧ OldK s₁.heap s'.heap ∧ s'.os = s₁.os ∧ AllBare s'.gens) s₁ := by
  have inT : ∀ {b : Addr}, b ∈ cs.map (·.2) → ∃ p ∈ cs, p.2 = b := fun {b} hb => List.mem_map.mp hb
  have emp : ∀ {b : Addr} {o : Obj}, b ∈ cs.map (·.2) → s₁.heap.get? b = some o → o = PySem.W.tabObj #[] := fun {b o} hb e => by
    obtain ⟨p, hp, rfl⟩ := inT hb
    exact Option.some.inj (e.symm.trans (tab p hp).1)
  have isA : ∀ {o : Obj}, s₁.heap.get? a = some o → o = { cls := .type "list", data := .seq vs.toArray } := fun {o} e => Option.some.inj (e.symm.trans ha)
  have aT : a ∉ cs.map (·.2) := fun z => by cases (emp z ha)
  have B := start1_bare (K := K) (a := a) (ts := cs.map (·.2)) (vs := vs) (ns := ns)
  have hok : HOk P w (start1 K a (cs.map (·.2)) vs ns) s₁.heap := fun b u z => by
    unfold start1 at z
    split at z
    · rename_i hb
      cases z
      obtain ⟨p, hp, rfl⟩ := inT hb
      exact (tab p hp).1
    · split at z
      · rename_i hb
        obtain ⟨rfl, _⟩ := hb
        cases z
        exact ⟨ha, by rw [List.length_map]; exact hl, vs, _, vals_ints hi, ha⟩
      · cases z
  have seq : SqL K (start1 K a (cs.map (·.2)) vs ns) a (ns.map V.int) := by
    cases q : K.lookup a with
    | none => exact .inl (.inr ⟨{ cls := .type "list", data := .seq vs.toArray }, by unfold start1; rw [if_neg aT, if_pos ⟨rfl, q⟩]⟩)
    | some o =>
      cases isA (KX a o q)
      exact .inr ⟨_, vs.toArray, _, q, rfl, rfl, rfl, by rw [List.size_toArray, hi.length]; exact hl, by simpa using vals_ints hi⟩
  generalize start1 K a (cs.map (·.2)) vs ns = H at B hok seq
  have stay : ∀ {b : Addr} {o : Obj}, s₁.heap.get? b = some o → (o.cls = .type "list" → False) → (o.cls = .none → False) → (hidT s₁.heap H).get? b = some o := fun {b o} e h1 h2 => hidT_get e (B.off (fun q _ => by
    subst q
    exact h1 (by rw [isA e])) fun z => h2 (by rw [emp z e]))
  have dicts : ∀ {b : Addr} {m : Str → Option Value}, s₁.heap.Ns b m → (hidT s₁.heap H).Ns b m := by
    rintro b m ⟨o, es, ep, e, d, r⟩
    refine ⟨o, es, ep, hidT_get e (B.off (fun q _ => ?_) fun z => ?_), d, r⟩
    · subst q
      rw [isA e] at d
      cases d
    · rw [emp z e] at d
      cases d
  have KB : K.In (hidT s₁.heap H) := fun b o e => hidT_get (KX b o e) (B.off (fun q n => by
    subst q
    cases n.symm.trans e) fun z => by
    obtain ⟨p, hp, rfl⟩ := inT z
    cases (tab p hp).2.1.symm.trans e)
  have noG : ∀ {o : Obj} {b : Addr}, s₁.heap.get? b = some o → (∀ es ep, o.data ≠ .dict es ep) → mainGlobals ≠ b := fun {o b} e q z => by
    subst z
    obtain ⟨o', es, ep, e', d, _⟩ := hns
    cases e.symm.trans e'
    exact q _ _ d
  have TB : ∀ p ∈ cs, TabB (hidT s₁.heap H) mg p.1 p.2 := fun p hp => by
    obtain ⟨t1, _, t3⟩ := tab p hp
    obtain ⟨o, us, file, tf, flags, tg, inF, text, tt, e1, e2, rest⟩ := t3
    obtain ⟨bm, ob, b1, b2, b3, b4, b5, b6⟩ := bmn
    refine ⟨⟨o, us, file, tf, flags, tg, inF, text, tt, stay e1 (by rw [e2]; exact fun z => nomatch z) (by rw [e2]; exact fun z => nomatch z), e2, rest⟩, ⟨bm, ob, b1, b2, ?_, ?_, stay b3 (by rw [b4]; intro z; injection z with z; exact absurd z (by decide)) (by rw [b4]; exact fun z => nomatch z), b4, b5, b6⟩, noG t1 fun _ _ z => nomatch z⟩
    · exact fun z => noG b3 (by rw [b6]; exact fun _ _ z => nomatch z) z.symm
    · rintro rfl
      cases b3.symm.trans t1
      cases b4
  have none0 : ∀ b, b ∉ frs ([] : List Env) := fun b => by unfold frs; simp
  have M : Mod K mg (hidT s₁.heap H) := ⟨KB, dicts hns, ⟨mb, dicts hb, hbb⟩, let ⟨mc, h1, h2⟩ := hlim; ⟨mc, dicts h1, h2⟩⟩
  have e0 : Env0 P w K mg (hidT s₁.heap H) callerA [] s₁ H := ⟨rfl, M, fun b o e => of_hidT e, Nat.le_of_eq (hidT_size _ _), trivial, fun b q => absurd q (none0 b), hok, .of_eq hg⟩
  have tabs0 : ∀ p ∈ cs, H p.2 = some (.tbl #[]) := fun p hp => B.tabs _ (List.mem_map.mpr ⟨p, hp, rfl⟩)
  refine codeAny_mono ((F _ KB (dicts hns) TB).run callerA [] s₁ H ⟨[.ref a], []⟩ [.ref a] [.ref a] _ _ rfl hr e0 (bind s₁ (.ref a)) (.cons rfl .nil) (want H tabs0 seq)) fun r s' got => ?_
  rcases r with er | fl
  · exact False.elim got
  cases fl <;> first | exact False.elim got | skip
  obtain ⟨v, H', os, bare, un, hok', r', q⟩ := got
  subst q
  cases r'
  have kept : ∀ b o, b ∉ cs.map (·.2) → s₁.heap.get? b = some o → s'.heap.get? b = some o := fun b o nb e => by
    cases z : H b with
    | none => exact un.keep b o e z (none0 b) (by simp)
    | some u =>
      rcases B.kind b u z with ⟨ob, xs, rfl⟩ | m
      · obtain ⟨e1, _⟩ := hok b _ z
        obtain ⟨e2, _⟩ := hok' b _ (un.frzs b ob _ z)
        cases e1.symm.trans e
        exact e2
      · exact absurd m nb
  have more : ∀ b, b ∈ cs.map (·.2) → ∃ ps, s'.heap.get? b = some (PySem.W.tabObj ps) := fun b m => by
    obtain ⟨ps, z⟩ := un.tbls b #[] (B.tabs b m)
    exact ⟨_, hok' b _ z⟩
  refine ⟨rfl, ⟨fun b o e => ?_, fun b o e => ?_⟩, os, bare⟩
  · by_cases m : b ∈ cs.map (·.2)
    · obtain ⟨p, hp, rfl⟩ := inT m
      obtain ⟨ps, z⟩ := more _ m
      cases emp m e
      exact .inr (.inl ⟨((tab p hp).2.2.tab (tab p hp).1).isCodeTable, rfl, #[], ps, rfl, by rw [Array.empty_append]; exact z⟩)
    · exact .inl (kept b o m e)
  · by_cases m : b ∈ cs.map (·.2)
    · obtain ⟨ps, z⟩ := more _ m
      exact ⟨_, z⟩
    · exact ⟨o, kept b o m e⟩
end
/-- the tables of the codes of the defs named, as the head finds them -/
theorem walkGTs {l : PySem.W.OpenLaw} {n k : Nat} {q : Program} {loose : List Str} {XP : (Str → Option Value) → Heap → Prop} {YP : World → Heap → Prop} {d : DefRec} {K : Params → PySem.W.Frag} {sp : List (Addr × Addr) → World → Sp} {x : Str} (names : List Str)
    (hn : l.most = some n) (hn2 : n ≤ sizeLine) (hdf : d.params.defaults = []) (hr : Room k callerA) (hrec : ∀ y ∈ names, ((recsOf q).any fun e => e.name == y) = true) (hY : ∀ (w : World) (h : Heap), YP w h → (K w.params).In h)
    (F : ∀ (w : World) (mg : Str → Option Value) (fa : Addr) (h : Heap), (K w.params).In h → h.Ns mainGlobals mg → mg d.name = some (.ref fa) → (∀ y ∈ names, ∀ fy, mg y = some (.ref fy) → OwnTab (K w.params) fy h) →
      ∃ (fd : FuncData) (cs : List (Addr × Addr)), (∀ p ∈ cs, h.get? p.2 = some (PySem.W.tabObj #[]) ∧ (K w.params).lookup p.2 = none ∧ PySem.W.CodeHd h p.1 p.2) ∧ (∀ (s : Shared) (u : Value), BindsTo s fd ⟨[u], []⟩ [(x, u)]) ∧
        ∀ base : Heap, (K w.params).In base → base.Ns mainGlobals mg → (∀ p ∈ cs, TabB base mg p.1 p.2) → FnG l.prog w (K w.params) mg base CX0 k fa fd [x] (sp cs w))
    (want : ∀ (cs : List (Addr × Addr)) (w : World) (H : Hp) (a : Addr) (ns : List Int), ns.length ≤ n → (∀ z ∈ ns, Builtin.Int.intBits z ≤ 1048576) → (∀ p ∈ cs, H p.2 = some (.tbl #[])) → SqL (K w.params) H a (ns.map V.int) → sp cs w [.ref a] H (fun v _ => v = .bl true) fun _ _ _ => False) :
    PySem.W.WalkO q loose XP YP l.row.toRowW d [] (fun f vs => PySem.call f vs) := by
  refine Att.attach_callB hn hdf fun w s₀ s₁ mg mb fa o pm cd doc a vs ns G Y ho hd hcd hmg hobj hints hlen hbits hg => ?_
  have KX := hY w _ Y
  have own : ∀ y ∈ names, ∀ fy, mg y = some (.ref fy) → OwnTab (K w.params) fy s₁.heap := fun y hy fy my c T o1 f1 e dd us sl k1 k2 k3 k4 k5 => by
    obtain ⟨dL, hm, same⟩ := List.any_eq_true.mp (hrec y hy)
    obtain ⟨_, o2, f2, _, _, g1, g2, g3, g4, _, ⟨⟨_, _, g5, _, g6, g7⟩, at_⟩⟩ := G.T.tab dL hm
    rw [beq_iff_eq.mp same, my] at g1
    cases g1
    cases (KX _ _ k1).symm.trans g2
    cases k2.symm.trans g3
    cases k3.symm.trans g4
    cases (KX _ _ k4).symm.trans g5
    cases g6
    cases k5.symm.trans g7
    exact at_
  obtain ⟨fd, cs, ht, hb, hF⟩ := F w mg fa _ KX G.T.g hmg own
  exact lawGT KX G.T.g G.T.b G.T.builtins G.T.nolimit hg ht G.T.bmain hobj hints (Nat.le_trans hlen hn2) hr hF hb fun H tabs seq => want cs w H a ns hlen hbits tabs seq
/-- the tables by the names of the defs whose codes they hold -/
def tabsOf (names : List Str) (cs : List (Addr × Addr)) : List (Addr × Str) := (cs.map (·.2)).zip (names.map lamQ)
theorem tabs_of {names : List Str} {cs : List (Addr × Addr)} {H : Hp} (h : ∀ p ∈ cs, H p.2 = some (.tbl #[])) : Tabs (tabsOf names cs) H := fun t ht => by
  obtain ⟨t1, t2⟩ := t
  obtain ⟨p, hp, e⟩ := List.mem_map.mp (List.of_mem_zip ht).1
  have := h p hp
  rw [e] at this
  exact TabS.nil this
end Kx
set_option Elab.async false
set_option maxRecDepth 100000
set_option autoImplicit false
namespace Kx
open PySem L2 PySem.Spec PyProof.Rows Rg Er Ru LamX Tn ClX
theorem free_of {ns : List (Str × NameKind)} (h : ns.all (fun y => decide (y.2 ≠ .free) || y.1 == "__class__") = true) : ∀ x, ns.lookup x = some .free → x = "__class__" := by
  intro x e
  have m : (x, NameKind.free) ∈ ns := by
    induction ns with
    | nil => cases e
    | cons y r ih =>
      obtain ⟨y1, y2⟩ := y
      by_cases q : (x == y1) = true
      · simp only [List.lookup, q] at e
        rw [beq_iff_eq.mp q]
        cases e
        exact List.mem_cons_self
      · have q' : (x == y1) = false := by simpa using q
        simp only [List.lookup, q'] at e
        exact List.mem_cons_of_mem _ (ih (by
          rw [List.all_cons, Bool.and_eq_true] at h
          exact h.2) e)
  have := List.all_eq_true.mp h _ m
  simpa using this
abbrev sInit_B : Stmt := inClass (top 4) 0
theorem esB : ErrS ["self", "part"] (defScope sInit_B) := ⟨rfl, by decide +kernel, by decide +kernel, by decide +kernel, rfl, rfl, free_of (by decide +kernel), rfl, rfl, rfl⟩
section
variable {P : Program} {w : World} {K : PySem.W.Frag} {mg : Str → Option Value} {base : Heap}
theorem ok_initB {C f cda cc : Addr} {oc dV kV doc pm ct : Value} {od an : Option Addr} {osl : Array (Option Value)} (T : ErrC P K C f cc cda) (O : OexC K C) (no : PySem.W.findIn K (.ref C) "part" = some none)
    (lk : K.lookup f = some ⟨oc, od, .func (PySem.W.ksFn "__init__" "BadSigns.__init__" (defArgs sInit_B) (defBody sInit_B) (defScope sInit_B) dV kV doc pm an (.ref cda) ct cc), osl⟩) (hcd : PySem.W.codeIn K (.ref cda) "BadSigns.__init__" = true) (gs : mg "super" = none) :
    FnOk P w K mg base CX0 1 f (PySem.W.ksFn "__init__" "BadSigns.__init__" (defArgs sInit_B) (defBody sInit_B) (defScope sInit_B) dV kV doc pm an (.ref cda) ct cc) ["self", "part"] (spErr1 C "part") := by
  refine ok_err T esB lk hcd gs rfl rfl rfl (fun vs H Q E h => ?_) (fun vs H Q E h => ?_) (fun A outer s H vs Q E h => rest1 esB O no rfl rfl A outer s H vs Q E h) (fun _ => rfl) (fun _ => rfl) (fun _ => rfl)
  · obtain ⟨a, v, rfl, _⟩ := h
    rfl
  · obtain ⟨a, v, rfl, ea, _⟩ := h
    exact ⟨a, _, rfl, ea⟩
end
abbrev sInit_R : Stmt := inClass (top 5) 0
theorem esR : ErrS ["self", "at"] (defScope sInit_R) := ⟨rfl, by decide +kernel, by decide +kernel, by decide +kernel, rfl, rfl, free_of (by decide +kernel), rfl, rfl, rfl⟩
section
variable {P : Program} {w : World} {K : PySem.W.Frag} {mg : Str → Option Value} {base : Heap}
theorem ok_initR {C f cda cc : Addr} {oc dV kV doc pm ct : Value} {od an : Option Addr} {osl : Array (Option Value)} (T : ErrC P K C f cc cda) (O : OexC K C) (no : PySem.W.findIn K (.ref C) "at" = some none)
    (lk : K.lookup f = some ⟨oc, od, .func (PySem.W.ksFn "__init__" "BadRow.__init__" (defArgs sInit_R) (defBody sInit_R) (defScope sInit_R) dV kV doc pm an (.ref cda) ct cc), osl⟩) (hcd : PySem.W.codeIn K (.ref cda) "BadRow.__init__" = true) (gs : mg "super" = none) :
    FnOk P w K mg base CX0 1 f (PySem.W.ksFn "__init__" "BadRow.__init__" (defArgs sInit_R) (defBody sInit_R) (defScope sInit_R) dV kV doc pm an (.ref cda) ct cc) ["self", "at"] (spErr1 C "at") := by
  refine ok_err T esR lk hcd gs rfl rfl rfl (fun vs H Q E h => ?_) (fun vs H Q E h => ?_) (fun A outer s H vs Q E h => rest1 esR O no rfl rfl A outer s H vs Q E h) (fun _ => rfl) (fun _ => rfl) (fun _ => rfl)
  · obtain ⟨a, v, rfl, _⟩ := h
    rfl
  · obtain ⟨a, v, rfl, ea, _⟩ := h
    exact ⟨a, _, rfl, ea⟩
end
abbrev N3 : List Str := ["_law_odd_right"]
set_option maxHeartbeats 0 in
theorem all_mk {l : PySem.W.OpenLaw} {w : World} {K : PySem.W.Frag} {h : Heap} {mg : Str → Option Value} {fa C : Addr} {tk : Tok} (X : K.In h) (G : h.Ns mainGlobals mg) (hfa : mg "law" = some (.ref fa)) (own : ∀ y ∈ N3, ∀ fy, mg y = some (.ref fy) → OwnTab K fy h)
    {CB : Addr} {nm_B q_B : Str} {N_B : Addr} {bs_B bm_B : List Value} {sn_B : List Str} {sub_B : List Value} {ab_B : Bool} {col_B : Option Bool} {dd_B : Option Addr} {w0_B w1_B w2_B w3_B w5_B : Option Value} {fe_B cc_B cda_B : Addr} {oce_B kVe_B doce_B pme_B cte_B : Value} {ode_B ane_B : Option Addr} {osle_B : Array (Option Value)} {cl_B ccl_B : Value} {cld_B cdd_B : Option Addr} {csl_B ccs_B : Array (Option Value)} {vs_B : Array Value} {file_B : Str} {tf_B : Tok}
    {CR : Addr} {nm_R q_R : Str} {N_R : Addr} {bs_R bm_R : List Value} {sn_R : List Str} {sub_R : List Value} {ab_R : Bool} {col_R : Option Bool} {dd_R : Option Addr} {w0_R w1_R w2_R w3_R w5_R : Option Value} {fe_R cc_R cda_R : Addr} {oce_R kVe_R doce_R pme_R cte_R : Value} {ode_R ane_R : Option Addr} {osle_R : Array (Option Value)} {cl_R ccl_R : Value} {cld_R cdd_R : Option Addr} {csl_R ccs_R : Array (Option Value)} {vs_R : Array Value} {file_R : Str} {tf_R : Tok}
    {f_fromto : Addr} {od_fromto an_fromto : Option Addr} {sl_fromto : Array (Option Value)} {oc_fromto kV_fromto dc_fromto pm_fromto cd_fromto ct_fromto : Value}
    {f_isletr : Addr} {od_isletr an_isletr : Option Addr} {sl_isletr : Array (Option Value)} {oc_isletr kV_isletr dc_isletr pm_isletr cd_isletr ct_isletr : Value}
    {f_ispair : Addr} {od_ispair an_ispair : Option Addr} {sl_ispair : Array (Option Value)} {oc_ispair kV_ispair dc_ispair pm_ispair cd_ispair ct_ispair : Value}
    {f_wrong : Addr} {od_wrong an_wrong : Option Addr} {sl_wrong : Array (Option Value)} {oc_wrong kV_wrong dc_wrong pm_wrong cd_wrong ct_wrong : Value}
    {f_chk : Addr} {od_chk an_chk : Option Addr} {sl_chk : Array (Option Value)} {oc_chk kV_chk dc_chk pm_chk cd_chk ct_chk : Value}
    {f_weigh : Addr} {od_weigh an_weigh : Option Addr} {sl_weigh : Array (Option Value)} {oc_weigh kV_weigh dc_weigh pm_weigh cd_weigh ct_weigh : Value}
    {f_beh : Addr} {od_beh an_beh : Option Addr} {sl_beh : Array (Option Value)} {oc_beh kV_beh dc_beh pm_beh cd_beh ct_beh : Value}
    {f_pen : Addr} {od_pen an_pen : Option Addr} {sl_pen : Array (Option Value)} {oc_pen kV_pen dc_pen pm_pen cd_pen ct_pen : Value}
    {f_draw : Addr} {od_draw an_draw : Option Addr} {sl_draw : Array (Option Value)} {oc_draw kV_draw dc_draw pm_draw cd_draw ct_draw : Value}
    {f_pick : Addr} {od_pick an_pick : Option Addr} {sl_pick : Array (Option Value)} {oc_pick kV_pick dc_pick pm_pick cd_pick ct_pick : Value}
    {f_text : Addr} {od_text an_text : Option Addr} {sl_text : Array (Option Value)} {oc_text kV_text dc_text pm_text cd_text ct_text : Value}
    {f_prs : Addr} {od_prs an_prs : Option Addr} {sl_prs : Array (Option Value)} {oc_prs kV_prs dc_prs pm_prs cd_prs ct_prs : Value}
    {f_wgt : Addr} {od_wgt an_wgt : Option Addr} {sl_wgt : Array (Option Value)} {oc_wgt kV_wgt dc_wgt pm_wgt cd_wgt ct_wgt : Value}
    {f_ahd : Addr} {od_ahd an_ahd : Option Addr} {sl_ahd : Array (Option Value)} {oc_ahd kV_ahd dc_ahd pm_ahd cd_ahd ct_ahd : Value}
    {f_all : Addr} {od_all an_all : Option Addr} {sl_all : Array (Option Value)} {oc_all kV_all dc_all pm_all cd_all ct_all : Value}
    {f_rfs : Addr} {od_rfs an_rfs : Option Addr} {sl_rfs : Array (Option Value)} {oc_rfs kV_rfs dc_rfs pm_rfs cd_rfs ct_rfs : Value}
    {f_odd cd_odd tab_odd : Addr} {od_odd an_odd odt_odd : Option Addr} {sl_odd slt_odd : Array (Option Value)} {oc_odd kV_odd dc_odd pm_odd ct_odd oct_odd : Value} {vst_odd : Array Value}
    {f_fst : Addr} {od_fst an_fst : Option Addr} {sl_fst : Array (Option Value)} {oc_fst kV_fst dc_fst pm_fst cd_fst ct_fst : Value}
    {f_law : Addr} {od_law an_law : Option Addr} {sl_law : Array (Option Value)} {oc_law kV_law dc_law pm_law cd_law ct_law : Value}
    {f_winit : Addr} {od_winit an_winit : Option Addr} {sl_winit : Array (Option Value)} {oc_winit kV_winit dc_winit pm_winit cd_winit ct_winit : Value}
    {f_wof : Addr} {od_wof an_wof : Option Addr} {sl_wof : Array (Option Value)} {oc_wof kV_wof dc_wof pm_wof cd_wof ct_wof : Value}
    {p_wof : Addr} {r_wof : List Value}
    {f_wsig : Addr} {od_wsig an_wsig : Option Addr} {sl_wsig : Array (Option Value)} {oc_wsig kV_wsig dc_wsig pm_wsig cd_wsig ct_wsig : Value}
    {p_wsig : Addr} {r_wsig : List Value}
    {f_wcall : Addr} {od_wcall an_wcall : Option Addr} {sl_wcall : Array (Option Value)} {oc_wcall kV_wcall dc_wcall pm_wcall cd_wcall ct_wcall : Value}
    {f_wplc : Addr} {od_wplc an_wplc : Option Addr} {sl_wplc : Array (Option Value)} {oc_wplc kV_wplc dc_wplc pm_wplc cd_wplc ct_wplc : Value}
    {f_wrows cd_wrows : Addr} {od_wrows an_wrows : Option Addr} {sl_wrows : Array (Option Value)} {oc_wrows kV_wrows dc_wrows pm_wrows ct_wrows : Value}
    (aC : PySem.W.nsIn K mainGlobals "Weights" = some (some (.ref C)))
    (aCB : PySem.W.nsIn K mainGlobals "BadSigns" = some (some (.ref CB)))
    (xL_B : K.lookup CB = some (excClassObj nm_B q_B CB N_B bs_B bm_B true sn_B sub_B ab_B col_B dd_B w0_B w1_B w2_B w3_B w5_B "ValueError.__new__"))
    (rv_B : PySem.HandSPX.refsVE bm_B = true)
    (sa_B : PySem.W.findIn K (.ref CB) "__setattr__" = some (some (.builtin "object.__setattr__")))
    (ex_B : PySem.W.subIn K (.ref CB) (.type "BaseException") = some true)
    (ty_B : PySem.W.typeIn K (.ref CB) = some (.type "type"))
    (kC_B : PySem.W.keepIn K (.ref CB) = true)
    (ga_B : PySem.W.findIn K (.ref CB) "__getattribute__" = some (some (.builtin "BaseException.__getattribute__")))
    (gg_B : PySem.W.findIn K (.ref CB) "__getattr__" = some none)
    (hdc_B : PySem.W.hasDictIn K CB = true)
    (ini_B : PySem.W.findIn K (.ref CB) "__init__" = some (some (.ref fe_B)))
    (ti_B : PySem.W.typeIn K (.ref fe_B) = some (.type "function"))
    (le_B : K.lookup fe_B = some ⟨oce_B, ode_B, .func (PySem.W.ksFn "__init__" "BadSigns.__init__" (defArgs sInit_B) (defBody sInit_B) (defScope sInit_B) .none kVe_B doce_B pme_B ane_B (.ref cda_B) cte_B cc_B), osle_B⟩)
    (ce_B : PySem.W.codeIn K (.ref cda_B) "BadSigns.__init__" = true)
    (no_B : PySem.W.findIn K (.ref CB) "part" = some none)
    (su_B : PySem.W.ks_superIn K CB CB "__init__" = some (some (.builtin veInit)))
    (ve_B : PySem.W.subIn K (.ref CB) (.type "ValueError") = some true)
    (se_B : PySem.W.mroIn K CB (.ref CB) = some true)
    (cel_B : K.lookup cc_B = some ⟨cl_B, cld_B, .cell (some (.ref CB)), csl_B⟩)
    (cod_B : K.lookup cda_B = some ⟨ccl_B, cdd_B, .fields vs_B, ccs_B⟩)
    (v2_B : vs_B[2]? = some (.str file_B tf_B))
    (fl_B : ((l.prog.main.file : Str) == file_B) = true)
    (em_B : PySem.W.exmOne K (.ref CB) (.ref CB) = some true)
    (aCR : PySem.W.nsIn K mainGlobals "BadRow" = some (some (.ref CR)))
    (xL_R : K.lookup CR = some (excClassObj nm_R q_R CR N_R bs_R bm_R true sn_R sub_R ab_R col_R dd_R w0_R w1_R w2_R w3_R w5_R "ValueError.__new__"))
    (rv_R : PySem.HandSPX.refsVE bm_R = true)
    (sa_R : PySem.W.findIn K (.ref CR) "__setattr__" = some (some (.builtin "object.__setattr__")))
    (ex_R : PySem.W.subIn K (.ref CR) (.type "BaseException") = some true)
    (ty_R : PySem.W.typeIn K (.ref CR) = some (.type "type"))
    (kC_R : PySem.W.keepIn K (.ref CR) = true)
    (ga_R : PySem.W.findIn K (.ref CR) "__getattribute__" = some (some (.builtin "BaseException.__getattribute__")))
    (gg_R : PySem.W.findIn K (.ref CR) "__getattr__" = some none)
    (hdc_R : PySem.W.hasDictIn K CR = true)
    (ini_R : PySem.W.findIn K (.ref CR) "__init__" = some (some (.ref fe_R)))
    (ti_R : PySem.W.typeIn K (.ref fe_R) = some (.type "function"))
    (le_R : K.lookup fe_R = some ⟨oce_R, ode_R, .func (PySem.W.ksFn "__init__" "BadRow.__init__" (defArgs sInit_R) (defBody sInit_R) (defScope sInit_R) .none kVe_R doce_R pme_R ane_R (.ref cda_R) cte_R cc_R), osle_R⟩)
    (ce_R : PySem.W.codeIn K (.ref cda_R) "BadRow.__init__" = true)
    (no_R : PySem.W.findIn K (.ref CR) "at" = some none)
    (su_R : PySem.W.ks_superIn K CR CR "__init__" = some (some (.builtin veInit)))
    (ve_R : PySem.W.subIn K (.ref CR) (.type "ValueError") = some true)
    (se_R : PySem.W.mroIn K CR (.ref CR) = some true)
    (cel_R : K.lookup cc_R = some ⟨cl_R, cld_R, .cell (some (.ref CR)), csl_R⟩)
    (cod_R : K.lookup cda_R = some ⟨ccl_R, cdd_R, .fields vs_R, ccs_R⟩)
    (v2_R : vs_R[2]? = some (.str file_R tf_R))
    (fl_R : ((l.prog.main.file : Str) == file_R) = true)
    (em_R : PySem.W.exmOne K (.ref CR) (.ref CR) = some true)
    (ay : PySem.W.nsIn K cStatics "thirdparty.any" = some none)
    (tp : (l.prog.main.scope.names.lookup ("super" : Str)).isSome = false)
    (a_fromto : PySem.W.nsIn K mainGlobals "is_from_to" = some (some (.ref f_fromto)))
    (l_fromto : K.lookup f_fromto = some ⟨oc_fromto, od_fromto, .func (PySem.W.fnOf "is_from_to" "is_from_to" (defArgs sFromTo) (defBody sFromTo) (defScope sFromTo) .none kV_fromto dc_fromto pm_fromto an_fromto cd_fromto ct_fromto), sl_fromto⟩)
    (c_fromto : PySem.W.codeIn K cd_fromto "is_from_to" = true)
    (k_fromto : PySem.W.keepIn K (.ref f_fromto) = true)
    (a_isletr : PySem.W.nsIn K mainGlobals "is_letter" = some (some (.ref f_isletr)))
    (l_isletr : K.lookup f_isletr = some ⟨oc_isletr, od_isletr, .func (PySem.W.fnOf "is_letter" "is_letter" (defArgs sIsLetter) (defBody sIsLetter) (defScope sIsLetter) .none kV_isletr dc_isletr pm_isletr an_isletr cd_isletr ct_isletr), sl_isletr⟩)
    (c_isletr : PySem.W.codeIn K cd_isletr "is_letter" = true)
    (k_isletr : PySem.W.keepIn K (.ref f_isletr) = true)
    (a_ispair : PySem.W.nsIn K mainGlobals "is_pair" = some (some (.ref f_ispair)))
    (l_ispair : K.lookup f_ispair = some ⟨oc_ispair, od_ispair, .func (PySem.W.fnOf "is_pair" "is_pair" (defArgs sIsPair) (defBody sIsPair) (defScope sIsPair) .none kV_ispair dc_ispair pm_ispair an_ispair cd_ispair ct_ispair), sl_ispair⟩)
    (c_ispair : PySem.W.codeIn K cd_ispair "is_pair" = true)
    (k_ispair : PySem.W.keepIn K (.ref f_ispair) = true)
    (a_wrong : PySem.W.nsIn K mainGlobals "wrong_at" = some (some (.ref f_wrong)))
    (l_wrong : K.lookup f_wrong = some ⟨oc_wrong, od_wrong, .func (PySem.W.fnOf "wrong_at" "wrong_at" (defArgs sWrong) (defBody sWrong) (defScope sWrong) .none kV_wrong dc_wrong pm_wrong an_wrong cd_wrong ct_wrong), sl_wrong⟩)
    (c_wrong : PySem.W.codeIn K cd_wrong "wrong_at" = true)
    (k_wrong : PySem.W.keepIn K (.ref f_wrong) = true)
    (a_chk : PySem.W.nsIn K mainGlobals "check_row" = some (some (.ref f_chk)))
    (l_chk : K.lookup f_chk = some ⟨oc_chk, od_chk, .func (PySem.W.fnOf "check_row" "check_row" (defArgs sCheckRow) (defBody sCheckRow) (defScope sCheckRow) .none kV_chk dc_chk pm_chk an_chk cd_chk ct_chk), sl_chk⟩)
    (c_chk : PySem.W.codeIn K cd_chk "check_row" = true)
    (k_chk : PySem.W.keepIn K (.ref f_chk) = true)
    (a_weigh : PySem.W.nsIn K mainGlobals "weigh" = some (some (.ref f_weigh)))
    (l_weigh : K.lookup f_weigh = some ⟨oc_weigh, od_weigh, .func (PySem.W.fnOf "weigh" "weigh" (defArgs sWeigh) (defBody sWeigh) (defScope sWeigh) .none kV_weigh dc_weigh pm_weigh an_weigh cd_weigh ct_weigh), sl_weigh⟩)
    (c_weigh : PySem.W.codeIn K cd_weigh "weigh" = true)
    (k_weigh : PySem.W.keepIn K (.ref f_weigh) = true)
    (a_beh : PySem.W.nsIn K mainGlobals "row_behind" = some (some (.ref f_beh)))
    (l_beh : K.lookup f_beh = some ⟨oc_beh, od_beh, .func (PySem.W.fnOf "row_behind" "row_behind" (defArgs sBehind) (defBody sBehind) (defScope sBehind) .none kV_beh dc_beh pm_beh an_beh cd_beh ct_beh), sl_beh⟩)
    (c_beh : PySem.W.codeIn K cd_beh "row_behind" = true)
    (k_beh : PySem.W.keepIn K (.ref f_beh) = true)
    (a_pen : PySem.W.nsIn K mainGlobals "_law_pen" = some (some (.ref f_pen)))
    (l_pen : K.lookup f_pen = some ⟨oc_pen, od_pen, .func (PySem.W.fnOf "_law_pen" "_law_pen" (defArgs sPen) (defBody sPen) (defScope sPen) .none kV_pen dc_pen pm_pen an_pen cd_pen ct_pen), sl_pen⟩)
    (c_pen : PySem.W.codeIn K cd_pen "_law_pen" = true)
    (k_pen : PySem.W.keepIn K (.ref f_pen) = true)
    (a_draw : PySem.W.nsIn K mainGlobals "_law_draw" = some (some (.ref f_draw)))
    (l_draw : K.lookup f_draw = some ⟨oc_draw, od_draw, .func (PySem.W.fnOf "_law_draw" "_law_draw" (defArgs sDraw) (defBody sDraw) (defScope sDraw) .none kV_draw dc_draw pm_draw an_draw cd_draw ct_draw), sl_draw⟩)
    (c_draw : PySem.W.codeIn K cd_draw "_law_draw" = true)
    (k_draw : PySem.W.keepIn K (.ref f_draw) = true)
    (a_pick : PySem.W.nsIn K mainGlobals "_law_pick" = some (some (.ref f_pick)))
    (l_pick : K.lookup f_pick = some ⟨oc_pick, od_pick, .func (PySem.W.fnOf "_law_pick" "_law_pick" (defArgs sPick) (defBody sPick) (defScope sPick) .none kV_pick dc_pick pm_pick an_pick cd_pick ct_pick), sl_pick⟩)
    (c_pick : PySem.W.codeIn K cd_pick "_law_pick" = true)
    (k_pick : PySem.W.keepIn K (.ref f_pick) = true)
    (a_text : PySem.W.nsIn K mainGlobals "_law_text" = some (some (.ref f_text)))
    (l_text : K.lookup f_text = some ⟨oc_text, od_text, .func (PySem.W.fnOf "_law_text" "_law_text" (defArgs sText) (defBody sText) (defScope sText) .none kV_text dc_text pm_text an_text cd_text ct_text), sl_text⟩)
    (c_text : PySem.W.codeIn K cd_text "_law_text" = true)
    (k_text : PySem.W.keepIn K (.ref f_text) = true)
    (a_prs : PySem.W.nsIn K mainGlobals "_law_pairs" = some (some (.ref f_prs)))
    (l_prs : K.lookup f_prs = some ⟨oc_prs, od_prs, .func (PySem.W.fnOf "_law_pairs" "_law_pairs" (defArgs sPairs) (defBody sPairs) (defScope sPairs) .none kV_prs dc_prs pm_prs an_prs cd_prs ct_prs), sl_prs⟩)
    (c_prs : PySem.W.codeIn K cd_prs "_law_pairs" = true)
    (k_prs : PySem.W.keepIn K (.ref f_prs) = true)
    (a_wgt : PySem.W.nsIn K mainGlobals "_law_weight" = some (some (.ref f_wgt)))
    (l_wgt : K.lookup f_wgt = some ⟨oc_wgt, od_wgt, .func (PySem.W.fnOf "_law_weight" "_law_weight" (defArgs sWeight) (defBody sWeight) (defScope sWeight) .none kV_wgt dc_wgt pm_wgt an_wgt cd_wgt ct_wgt), sl_wgt⟩)
    (c_wgt : PySem.W.codeIn K cd_wgt "_law_weight" = true)
    (k_wgt : PySem.W.keepIn K (.ref f_wgt) = true)
    (a_ahd : PySem.W.nsIn K mainGlobals "_law_ahead" = some (some (.ref f_ahd)))
    (l_ahd : K.lookup f_ahd = some ⟨oc_ahd, od_ahd, .func (PySem.W.fnOf "_law_ahead" "_law_ahead" (defArgs sAhead) (defBody sAhead) (defScope sAhead) .none kV_ahd dc_ahd pm_ahd an_ahd cd_ahd ct_ahd), sl_ahd⟩)
    (c_ahd : PySem.W.codeIn K cd_ahd "_law_ahead" = true)
    (k_ahd : PySem.W.keepIn K (.ref f_ahd) = true)
    (a_all : PySem.W.nsIn K mainGlobals "_law_all" = some (some (.ref f_all)))
    (l_all : K.lookup f_all = some ⟨oc_all, od_all, .func (PySem.W.fnOf "_law_all" "_law_all" (defArgs sAll) (defBody sAll) (defScope sAll) .none kV_all dc_all pm_all an_all cd_all ct_all), sl_all⟩)
    (c_all : PySem.W.codeIn K cd_all "_law_all" = true)
    (k_all : PySem.W.keepIn K (.ref f_all) = true)
    (a_rfs : PySem.W.nsIn K mainGlobals "_law_refused" = some (some (.ref f_rfs)))
    (l_rfs : K.lookup f_rfs = some ⟨oc_rfs, od_rfs, .func (PySem.W.fnOf "_law_refused" "_law_refused" (defArgs sRefused) (defBody sRefused) (defScope sRefused) .none kV_rfs dc_rfs pm_rfs an_rfs cd_rfs ct_rfs), sl_rfs⟩)
    (c_rfs : PySem.W.codeIn K cd_rfs "_law_refused" = true)
    (k_rfs : PySem.W.keepIn K (.ref f_rfs) = true)
    (a_odd : PySem.W.nsIn K mainGlobals "_law_odd_right" = some (some (.ref f_odd)))
    (l_odd : K.lookup f_odd = some ⟨oc_odd, od_odd, .func (PySem.W.fnOf "_law_odd_right" "_law_odd_right" (defArgs sOdd) (defBody sOdd) (defScope sOdd) .none kV_odd dc_odd pm_odd an_odd (.ref cd_odd) ct_odd), sl_odd⟩)
    (c_odd : PySem.W.codeIn K (.ref cd_odd) "_law_odd_right" = true)
    (k_odd : PySem.W.keepIn K (.ref f_odd) = true)
    (lct_odd : K.lookup cd_odd = some ⟨oct_odd, odt_odd, .fields vst_odd, slt_odd⟩)
    (v11_odd : vst_odd[11]? = some (.ref tab_odd))
    (hct_odd : PySem.W.codeHdIn K cd_odd tab_odd = true)
    (ntb_odd : K.lookup tab_odd = none)
    (a_fst : PySem.W.nsIn K mainGlobals "_law_first_right" = some (some (.ref f_fst)))
    (l_fst : K.lookup f_fst = some ⟨oc_fst, od_fst, .func (PySem.W.fnOf "_law_first_right" "_law_first_right" (defArgs sFirst) (defBody sFirst) (defScope sFirst) .none kV_fst dc_fst pm_fst an_fst cd_fst ct_fst), sl_fst⟩)
    (c_fst : PySem.W.codeIn K cd_fst "_law_first_right" = true)
    (k_fst : PySem.W.keepIn K (.ref f_fst) = true)
    (a_law : PySem.W.nsIn K mainGlobals "law" = some (some (.ref f_law)))
    (l_law : K.lookup f_law = some ⟨oc_law, od_law, .func (PySem.W.fnOf "law" "law" (defArgs sLaw) (defBody sLaw) (defScope sLaw) .none kV_law dc_law pm_law an_law cd_law ct_law), sl_law⟩)
    (c_law : PySem.W.codeIn K cd_law "law" = true)
    (k_law : PySem.W.keepIn K (.ref f_law) = true)
    (a_winit : PySem.W.findIn K (.ref C) "__init__" = some (some (.ref f_winit)))
    (i_winit : PySem.W.isFn K (.ref f_winit) = true)
    (l_winit : K.lookup f_winit = some ⟨oc_winit, od_winit, .func (PySem.W.fnOf "__init__" "Weights.__init__" (defArgs sWInit) (defBody sWInit) (defScope sWInit) .none kV_winit dc_winit pm_winit an_winit cd_winit ct_winit), sl_winit⟩)
    (c_winit : PySem.W.codeIn K cd_winit "Weights.__init__" = true)
    (k_winit : PySem.W.keepIn K (.ref f_winit) = true)
    (a_wof : PySem.W.findIn K (.ref C) "of" = some (some (.ref p_wof)))
    (q_wof : PySem.W.recIn K p_wof "classmethod" = some (.ref f_wof :: r_wof))
    (fc_wof : PySem.W.findCls K (.ref C) (.type "type") "of" = some (.get (.builtin "classmethod.__get__") (.ref p_wof) .none (.ref C)))
    (fi_wof : PySem.W.fnIn K f_wof = true)
    (l_wof : K.lookup f_wof = some ⟨oc_wof, od_wof, .func (PySem.W.fnOf "of" "Weights.of" (defArgs sWOf) (defBody sWOf) (defScope sWOf) .none kV_wof dc_wof pm_wof an_wof cd_wof ct_wof), sl_wof⟩)
    (c_wof : PySem.W.codeIn K cd_wof "Weights.of" = true)
    (k_wof : PySem.W.keepIn K (.ref f_wof) = true)
    (a_wsig : PySem.W.findIn K (.ref C) "signs" = some (some (.ref p_wsig)))
    (g_wsig : PySem.W.specialIn K (.ref p_wsig) "__get__" = some (some (.builtin "property.__get__")))
    (t_wsig : PySem.W.takesIn K (.ref p_wsig) = some true)
    (q_wsig : PySem.W.recIn K p_wsig "property" = some (.ref f_wsig :: r_wsig))
    (l_wsig : K.lookup f_wsig = some ⟨oc_wsig, od_wsig, .func (PySem.W.fnOf "signs" "Weights.signs" (defArgs sWSigns) (defBody sWSigns) (defScope sWSigns) .none kV_wsig dc_wsig pm_wsig an_wsig cd_wsig ct_wsig), sl_wsig⟩)
    (c_wsig : PySem.W.codeIn K cd_wsig "Weights.signs" = true)
    (k_wsig : PySem.W.keepIn K (.ref f_wsig) = true)
    (a_wcall : PySem.W.findIn K (.ref C) "__call__" = some (some (.ref f_wcall)))
    (i_wcall : PySem.W.isFn K (.ref f_wcall) = true)
    (j_wcall : PySem.W.fnIn K f_wcall = true)
    (l_wcall : K.lookup f_wcall = some ⟨oc_wcall, od_wcall, .func (PySem.W.fnOf "__call__" "Weights.__call__" (defArgs sWCall) (defBody sWCall) (defScope sWCall) .none kV_wcall dc_wcall pm_wcall an_wcall cd_wcall ct_wcall), sl_wcall⟩)
    (c_wcall : PySem.W.codeIn K cd_wcall "Weights.__call__" = true)
    (k_wcall : PySem.W.keepIn K (.ref f_wcall) = true)
    (a_wplc : PySem.W.findIn K (.ref C) "place" = some (some (.ref f_wplc)))
    (i_wplc : PySem.W.isFn K (.ref f_wplc) = true)
    (l_wplc : K.lookup f_wplc = some ⟨oc_wplc, od_wplc, .func (PySem.W.fnOf "place" "Weights.place" (defArgs sWPlace) (defBody sWPlace) (defScope sWPlace) .none kV_wplc dc_wplc pm_wplc an_wplc cd_wplc ct_wplc), sl_wplc⟩)
    (c_wplc : PySem.W.codeIn K cd_wplc "Weights.place" = true)
    (k_wplc : PySem.W.keepIn K (.ref f_wplc) = true)
    (a_wrows : PySem.W.findIn K (.ref C) "rows" = some (some (.ref f_wrows)))
    (i_wrows : PySem.W.isFn K (.ref f_wrows) = true)
    (l_wrows : K.lookup f_wrows = some ⟨oc_wrows, od_wrows, .func (PySem.W.fnOf "rows" "Weights.rows" (defArgs sWRows) (defBody sWRows) (defScope sWRows) .none kV_wrows dc_wrows pm_wrows an_wrows (.ref cd_wrows) ct_wrows), sl_wrows⟩)
    (c_wrows : PySem.W.codeIn K (.ref cd_wrows) "Weights.rows" = true)
    (k_wrows : PySem.W.keepIn K (.ref f_wrows) = true)
    (pg : PySem.W.plainGet K C Str.empty = true)
    (hdi : PySem.W.hasDictIn K C = true)
    (po : PySem.W.plainOver K C = true)
    (sat : PySem.W.findIn K (.ref C) "__setattr__" = some (some (.builtin "object.__setattr__")))
    (mk : PySem.W.makesIn K C = true)
    (kc : PySem.W.keepIn K (.ref C) = true)
    (n__signs : PySem.W.findIn K (.ref C) "_signs" = some none)
    (n_pairs : PySem.W.findIn K (.ref C) "pairs" = some none)
    (rdC : PySem.W.readsIn K C (.type "type") = true)
    (gaC : PySem.W.specialIn K (.ref C) "__getattribute__" = some (some (.builtin "type.__getattribute__")))
    (aL : PySem.W.nsIn K mainGlobals "LETTERS" = some (some (.str "abcdefghijklmnopqrstuvwxyz" tk)))
    (z_len : PySem.W.nsIn K mainGlobals "len" = some none)
    (z_int : PySem.W.nsIn K mainGlobals "int" = some none)
    (z_abs : PySem.W.nsIn K mainGlobals "abs" = some none)
    (z_list : PySem.W.nsIn K mainGlobals "list" = some none)
    (z_tuple : PySem.W.nsIn K mainGlobals "tuple" = some none)
    (z_range : PySem.W.nsIn K mainGlobals "range" = some none)
    (z_repr : PySem.W.nsIn K mainGlobals "repr" = some none)
    (z_isinstance : PySem.W.nsIn K mainGlobals "isinstance" = some none)
    (z_all : PySem.W.nsIn K mainGlobals "all" = some none)
    (z_set : PySem.W.nsIn K mainGlobals "set" = some none)
    (z_bool : PySem.W.nsIn K mainGlobals "bool" = some none)
    (z_str : PySem.W.nsIn K mainGlobals "str" = some none)
    (z_super : PySem.W.nsIn K mainGlobals "super" = some none)
    (z_enumerate : PySem.W.nsIn K mainGlobals "enumerate" = some none)
    (z_dict : PySem.W.nsIn K mainGlobals "dict" = some none)
    (z_sum : PySem.W.nsIn K mainGlobals "sum" = some none)
    : ∃ (fd : FuncData) (cs : List (Addr × Addr)), (∀ p ∈ cs, h.get? p.2 = some (PySem.W.tabObj #[]) ∧ K.lookup p.2 = none ∧ PySem.W.CodeHd h p.1 p.2) ∧ (∀ (s : Shared) (v : Value), BindsTo s fd ⟨[v], []⟩ [("_law_script", v)]) ∧
      ∀ base : Heap, K.In base → base.Ns mainGlobals mg → (∀ p ∈ cs, TabB base mg p.1 p.2) → FnG l.prog w K mg base CX0 10 fa fd ["_law_script"] (spLaw K (tabsOf N3 cs)) := by
  have e := hfa.symm.trans (PySem.W.mg_of X G a_law)
  cases e
  have T : Txt mg := ⟨PySem.W.mg_none_of X G z_len, PySem.W.mg_none_of X G z_int, PySem.W.mg_none_of X G z_abs, PySem.W.mg_none_of X G z_list, PySem.W.mg_none_of X G z_tuple, PySem.W.mg_none_of X G z_range, PySem.W.mg_none_of X G z_repr, PySem.W.mg_none_of X G z_isinstance, PySem.W.mg_none_of X G z_all, PySem.W.mg_none_of X G z_set⟩
  have zB := PySem.W.mg_none_of X G z_bool
  have zS := PySem.W.mg_none_of X G z_str
  have zP := PySem.W.mg_none_of X G z_super
  have zE := PySem.W.mg_none_of X G z_enumerate
  have zD := PySem.W.mg_none_of X G z_dict
  have zM := PySem.W.mg_none_of X G z_sum
  have mL : mg "LETTERS" = some (.str abc tk) := PySem.W.mg_of X G aL
  have gC : mg "Weights" = some (.ref C) := PySem.W.mg_of X G aC
  have cl : Cls K C := ⟨pg, hdi, po, sat⟩
  have M : WT K C := ⟨cl, n__signs, n_pairs⟩
  have rdd : ClX.CRead K C (.type "type") := ⟨rdC, gaC⟩
  have O_B : OexC K CB := ⟨⟨_, _, _, _, _, _, _, _, _, _, _, _, _, _, _, xL_B, rv_B⟩, sa_B, ex_B, ty_B, kC_B⟩
  have R_B : ErrC l.prog K CB fe_B cc_B cda_B := ⟨⟨_, _, _, _, _, _, _, _, _, _, _, _, _, _, _, xL_B, rv_B⟩, su_B, ay, ve_B, se_B, ⟨_, _, _, cel_B⟩, ⟨_, _, _, _, _, _, cod_B, v2_B, fl_B⟩, tp⟩
  have Hp_B : HearP K mg "BadSigns" "part" CB := ⟨PySem.W.mg_of X G aCB, ⟨ga_B, gg_B, ex_B, hdc_B⟩, em_B, no_B⟩
  have O_R : OexC K CR := ⟨⟨_, _, _, _, _, _, _, _, _, _, _, _, _, _, _, xL_R, rv_R⟩, sa_R, ex_R, ty_R, kC_R⟩
  have R_R : ErrC l.prog K CR fe_R cc_R cda_R := ⟨⟨_, _, _, _, _, _, _, _, _, _, _, _, _, _, _, xL_R, rv_R⟩, su_R, ay, ve_R, se_R, ⟨_, _, _, cel_R⟩, ⟨_, _, _, _, _, _, cod_R, v2_R, fl_R⟩, tp⟩
  have Hp_R : HearP K mg "BadRow" "at" CR := ⟨PySem.W.mg_of X G aCR, ⟨ga_R, gg_R, ex_R, hdc_R⟩, em_R, no_R⟩
  have F_fromto := fun_mk (st := sFromTo) l_fromto c_fromto k_fromto
  have b_fromto := F_fromto.binds (ps := ["value", "low", "high"]) fun _ _ _ _ _ _ us hl => match us, hl with | [_, _, _], _ => rfl
  have F_isletr := fun_mk (st := sIsLetter) l_isletr c_isletr k_isletr
  have b_isletr := F_isletr.binds (ps := ["value"]) fun _ _ _ _ _ _ us hl => match us, hl with | [_], _ => rfl
  have F_ispair := fun_mk (st := sIsPair) l_ispair c_ispair k_ispair
  have b_ispair := F_ispair.binds (ps := ["value"]) fun _ _ _ _ _ _ us hl => match us, hl with | [_], _ => rfl
  have F_wrong := fun_mk (st := sWrong) l_wrong c_wrong k_wrong
  have b_wrong := F_wrong.binds (ps := ["signs", "value"]) fun _ _ _ _ _ _ us hl => match us, hl with | [_, _], _ => rfl
  have F_chk := fun_mk (st := sCheckRow) l_chk c_chk k_chk
  have b_chk := F_chk.binds (ps := ["signs", "value"]) fun _ _ _ _ _ _ us hl => match us, hl with | [_, _], _ => rfl
  have F_weigh := fun_mk (st := sWeigh) l_weigh c_weigh k_weigh
  have b_weigh := F_weigh.binds (ps := ["pairs", "row"]) fun _ _ _ _ _ _ us hl => match us, hl with | [_, _], _ => rfl
  have F_beh := fun_mk (st := sBehind) l_beh c_beh k_beh
  have b_beh := F_beh.binds (ps := ["signs", "row"]) fun _ _ _ _ _ _ us hl => match us, hl with | [_, _], _ => rfl
  have F_pen := fun_mk (st := sPen) l_pen c_pen k_pen
  have b_pen := F_pen.binds (ps := ["_law_script"]) fun _ _ _ _ _ _ us hl => match us, hl with | [_], _ => rfl
  have F_draw := fun_mk (st := sDraw) l_draw c_draw k_draw
  have b_draw := F_draw.binds (ps := ["_law_pen_here", "_law_many"]) fun _ _ _ _ _ _ us hl => match us, hl with | [_, _], _ => rfl
  have F_pick := fun_mk (st := sPick) l_pick c_pick k_pick
  have b_pick := F_pick.binds (ps := ["_law_pen_here", "_law_things"]) fun _ _ _ _ _ _ us hl => match us, hl with | [_, _], _ => rfl
  have F_text := fun_mk (st := sText) l_text c_text k_text
  have b_text := F_text.binds (ps := ["_law_pen_here", "_law_signs", "_law_many"]) fun _ _ _ _ _ _ us hl => match us, hl with | [_, _, _], _ => rfl
  have F_prs := fun_mk (st := sPairs) l_prs c_prs k_prs
  have b_prs := F_prs.binds (ps := ["_law_pen_here"]) fun _ _ _ _ _ _ us hl => match us, hl with | [_], _ => rfl
  have F_wgt := fun_mk (st := sWeight) l_wgt c_wgt k_wgt
  have b_wgt := F_wgt.binds (ps := ["_law_pairs_here", "_law_row"]) fun _ _ _ _ _ _ us hl => match us, hl with | [_, _], _ => rfl
  have F_ahd := fun_mk (st := sAhead) l_ahd c_ahd k_ahd
  have b_ahd := F_ahd.binds (ps := ["_law_pairs_here", "_law_one", "_law_other"]) fun _ _ _ _ _ _ us hl => match us, hl with | [_, _, _], _ => rfl
  have F_all := fun_mk (st := sAll) l_all c_all k_all
  have b_all := F_all.binds (ps := ["_law_signs", "_law_length"]) fun _ _ _ _ _ _ us hl => match us, hl with | [_, _], _ => rfl
  have F_rfs := fun_mk (st := sRefused) l_rfs c_rfs k_rfs
  have b_rfs := F_rfs.binds (ps := ["_law_asking"]) fun _ _ _ _ _ _ us hl => match us, hl with | [_], _ => rfl
  have F_odd := fun_mk (st := sOdd) l_odd c_odd k_odd
  have b_odd := F_odd.binds (ps := ["_law_pen_here", "_law_weights", "_law_signs", "_law_row"]) fun _ _ _ _ _ _ us hl => match us, hl with | [_, _, _, _], _ => rfl
  have F_fst := fun_mk (st := sFirst) l_fst c_fst k_fst
  have b_fst := F_fst.binds (ps := ["_law_weights", "_law_signs"]) fun _ _ _ _ _ _ us hl => match us, hl with | [_, _], _ => rfl
  have F_law := fun_mk (st := sLaw) l_law c_law k_law
  have b_law := F_law.binds (ps := ["_law_script"]) fun _ _ _ _ _ _ us hl => match us, hl with | [_], _ => rfl
  have F_winit := fun_mk (st := sWInit) l_winit c_winit k_winit
  have F_wof := fun_mk (st := sWOf) l_wof c_wof k_wof
  have b_wof := F_wof.binds (ps := ["cls", "pairs"]) fun _ _ _ _ _ _ us hl => match us, hl with | [_, _], _ => rfl
  have F_wsig := fun_mk (st := sWSigns) l_wsig c_wsig k_wsig
  have b_wsig := F_wsig.binds (ps := ["self"]) fun _ _ _ _ _ _ us hl => match us, hl with | [_], _ => rfl
  have F_wcall := fun_mk (st := sWCall) l_wcall c_wcall k_wcall
  have b_wcall := F_wcall.binds (ps := ["self", "row"]) fun _ _ _ _ _ _ us hl => match us, hl with | [_, _], _ => rfl
  have F_wplc := fun_mk (st := sWPlace) l_wplc c_wplc k_wplc
  have b_wplc := F_wplc.binds (ps := ["self", "row"]) fun _ _ _ _ _ _ us hl => match us, hl with | [_, _], _ => rfl
  have F_wrows := fun_mk (st := sWRows) l_wrows c_wrows k_wrows
  have b_wrows := F_wrows.binds (ps := ["self", "length"]) fun _ _ _ _ _ _ us hl => match us, hl with | [_, _], _ => rfl
  have m_fromto := PySem.W.mg_of X G a_fromto
  have m_isletr := PySem.W.mg_of X G a_isletr
  have m_ispair := PySem.W.mg_of X G a_ispair
  have m_wrong := PySem.W.mg_of X G a_wrong
  have m_chk := PySem.W.mg_of X G a_chk
  have m_weigh := PySem.W.mg_of X G a_weigh
  have m_beh := PySem.W.mg_of X G a_beh
  have m_pen := PySem.W.mg_of X G a_pen
  have m_draw := PySem.W.mg_of X G a_draw
  have m_pick := PySem.W.mg_of X G a_pick
  have m_text := PySem.W.mg_of X G a_text
  have m_prs := PySem.W.mg_of X G a_prs
  have m_wgt := PySem.W.mg_of X G a_wgt
  have m_ahd := PySem.W.mg_of X G a_ahd
  have m_all := PySem.W.mg_of X G a_all
  have m_rfs := PySem.W.mg_of X G a_rfs
  have m_odd := PySem.W.mg_of X G a_odd
  have m_fst := PySem.W.mg_of X G a_fst
  have m_law := PySem.W.mg_of X G a_law
  have cm : ClX.CMet K C (.type "type") "of" p_wof f_wof := ⟨fc_wof, ⟨_, q_wof⟩, fi_wof⟩
  have own' := own _ (by decide) _ m_odd _ _ _ _ _ _ _ _ l_odd rfl rfl lct_odd v11_odd
  refine ⟨PySem.W.fnOf "law" "law" (defArgs sLaw) (defBody sLaw) (defScope sLaw) .none kV_law dc_law pm_law an_law cd_law ct_law, [(cd_odd, tab_odd)], fun p hp => ?_, fun s v => .of_eq rfl, fun base _ _ TB => ?_⟩
  · simp only [List.mem_cons, List.not_mem_nil, or_false] at hp
    subst hp
    exact ⟨own', ntb_odd, PySem.W.codeHd_of_K X hct_odd⟩
  have tbO := TB (cd_odd, tab_odd) (by simp)
  show FnG _ _ _ _ _ _ _ _ _ _ (spLaw K [(tab_odd, lamQ "_law_odd_right")])
  have B_B : ErrB l.prog w K mg base "BadSigns" "part" CB := ⟨O_B, PySem.W.mg_of X G aCB, _, _, ["self", "part"], ini_B, ti_B, ok_initB R_B O_B no_B le_B ce_B zP, L2.Binds.all fun us hl => match us, hl with | [_, _], _ => rfl⟩
  have B_R : ErrB l.prog w K mg base "BadRow" "at" CR := ⟨O_R, PySem.W.mg_of X G aCR, _, _, ["self", "at"], ini_R, ti_R, ok_initR R_R O_R no_R le_R ce_R zP, L2.Binds.all fun us hl => match us, hl with | [_, _], _ => rfl⟩
  have mk' : Mk K C f_winit := ⟨mk, a_winit, i_winit, kc⟩
  have po' : PropOf K C "signs" p_wsig f_wsig := ⟨a_wsig, g_wsig, t_wsig, _, q_wsig⟩
  have G_fromto := ok_fromToA (P := l.prog) (w := w) (base := base) F_fromto T zB
  have G_isletr := ok_isLetterA (P := l.prog) (w := w) (base := base) F_isletr T zS mL
  have G_ispair := ok_isPairA F_ispair T T.tuple G_isletr m_isletr k_isletr b_isletr G_fromto m_fromto k_fromto b_fromto
  have G_winit := ok_wInitA F_winit T M B_B zE G_fromto m_fromto k_fromto b_fromto G_ispair m_ispair k_ispair b_ispair
  have G_wof := ok_wOfA F_wof mk' G_winit
  have G_wsig := ok_wSigns (P := l.prog) (w := w) (mg := mg) (base := base) F_wsig M
  have G_wrong := ok_wrong (P := l.prog) (w := w) (base := base) F_wrong T zS
  have G_wrongB := ok_wrongB (P := l.prog) (w := w) (base := base) F_wrong T zS
  have G_chk := ok_checkRow F_chk G_wrong m_wrong k_wrong b_wrong
  have G_chkB := ok_checkB F_chk G_wrongB m_wrong k_wrong b_wrong B_R
  have G_weigh := ok_weigh (P := l.prog) (w := w) (base := base) F_weigh zM
  have G_wcall := ok_wCall F_wcall M G_chk m_chk k_chk b_chk G_weigh m_weigh k_weigh b_weigh po' G_wsig b_wsig
  have G_wcallB := ok_wCallB F_wcall M G_chkB m_chk k_chk b_chk po' G_wsig b_wsig
  have G_wplc := ok_wPlace F_wplc T M G_chk m_chk k_chk b_chk G_weigh m_weigh k_weigh b_weigh po' G_wsig b_wsig
  have G_wplcB := ok_wPlaceB F_wplc M G_chkB m_chk k_chk b_chk po' G_wsig b_wsig
  have G_beh := ok_behind (P := l.prog) (w := w) (base := base) F_beh T
  have G_rowsL := ok_rowsL l_wrows c_wrows M G_beh m_beh k_beh b_beh po' G_wsig b_wsig
  have G_rowsF := ok_rowsF l_wrows c_wrows M G_beh m_beh k_beh b_beh po' G_wsig b_wsig
  have co : StX.CallO K C f_wcall := ⟨a_wcall, i_wcall, j_wcall⟩
  have mr : Meth K C "rows" f_wrows := ⟨a_wrows, i_wrows, k_wrows⟩
  have S : WK l.prog w K mg base C CR := ⟨M, gC, Hp_R, rdd, ⟨_, _, _, cm, Er.fnR_of G_wof b_wof⟩, ⟨_, _, mr, G_rowsL, b_wrows⟩, ⟨_, _, co, G_wcall, G_wcallB, b_wcall⟩, ⟨_, _, ⟨a_wplc, i_wplc, k_wplc⟩, G_wplc, G_wplcB, b_wplc⟩⟩
  have Hh : Hd K mg f_rfs cd_rfs oc_rfs .none kV_rfs dc_rfs pm_rfs ct_rfs an_rfs od_rfs sl_rfs := ⟨m_rfs, k_rfs, l_rfs, c_rfs, b_rfs⟩
  have G_draw := ok_draw (P := l.prog) (w := w) (base := base) F_draw T
  have G_pick := ok_pick F_pick T G_draw m_draw k_draw b_draw
  have G_text := ok_text F_text T G_pick m_pick k_pick b_pick
  have G_prs := ok_pairs F_prs T G_draw m_draw k_draw b_draw G_pick m_pick k_pick b_pick
  have G_wgt := ok_weight (P := l.prog) (w := w) (base := base) F_wgt zD zM
  have G_ahd := ok_ahead F_ahd T G_wgt m_wgt k_wgt b_wgt
  have G_all := ok_all (P := l.prog) (w := w) (base := base) F_all T
  have G_fst := ok_first F_fst T M mr G_rowsF b_wrows
  have G_odd := ok_odd (T3 := [(tab_odd, lamQ "_law_odd_right")]) T S Hh l_odd c_odd tbO (by simp) (fun p hp _ => by
    simp only [List.mem_cons, List.not_mem_nil, or_false] at hp
    subst hp
    rfl) G_draw m_draw k_draw b_draw G_pick m_pick k_pick b_pick
  exact ok_law F_law T S (ok_pen F_pen T) m_pen k_pen b_pen G_prs m_prs k_prs b_prs G_text m_text k_text b_text G_draw m_draw k_draw b_draw G_wgt m_wgt k_wgt b_wgt G_ahd m_ahd k_ahd b_ahd G_all m_all k_all b_all G_fst m_fst k_fst b_fst G_odd m_odd k_odd b_odd
end Kx
set_option Elab.async false
open PySem PySem.W PyProof.Rows in
set_option maxRecDepth 100000 in
set_option maxHeartbeats 0 in
theorem PySem.Challenge.cw_rowgames_k03_order_of_rows_holds : PySem.Challenge.rw_rowgames_k03_order_of_rows.Holds := by
  w_on; o_law; k_head; (case hw => w_witness2)
  k_fill
  refine Kx.walkGTs (l := PySem.Challenge.rw_rowgames_k03_order_of_rows) (n := 63) (k := 10) (x := "_law_script") (sp := fun cs w => Kx.spLaw _ (Kx.tabsOf Kx.N3 cs)) Kx.N3 rfl (by decide) rfl ⟨rfl, by decide, by decide⟩ (by decide +kernel) (fun w h Y => PySem.W.km_in_of Y) ?F (fun cs _ _ a ns hl _ tb hS => ⟨a, ns, rfl, hS, hl, Kx.tabs_of tb, fun _ => rfl⟩)
  case F =>
    intro w mg fa h KX G hmg own
    refine' Kx.all_mk KX G hmg own ?aC ?aCB ?xL_B ?rv_B ?sa_B ?ex_B ?ty_B ?kC_B ?ga_B ?gg_B ?hdc_B ?ini_B ?ti_B ?le_B ?ce_B ?no_B ?su_B ?ve_B ?se_B ?cel_B ?cod_B ?v2_B ?fl_B ?em_B ?aCR ?xL_R ?rv_R ?sa_R ?ex_R ?ty_R ?kC_R ?ga_R ?gg_R ?hdc_R ?ini_R ?ti_R ?le_R ?ce_R ?no_R ?su_R ?ve_R ?se_R ?cel_R ?cod_R ?v2_R ?fl_R ?em_R ?ay ?tp ?a_fromto ?l_fromto ?c_fromto ?k_fromto ?a_isletr ?l_isletr ?c_isletr ?k_isletr ?a_ispair ?l_ispair ?c_ispair ?k_ispair ?a_wrong ?l_wrong ?c_wrong ?k_wrong ?a_chk ?l_chk ?c_chk ?k_chk ?a_weigh ?l_weigh ?c_weigh ?k_weigh ?a_beh ?l_beh ?c_beh ?k_beh ?a_pen ?l_pen ?c_pen ?k_pen ?a_draw ?l_draw ?c_draw ?k_draw ?a_pick ?l_pick ?c_pick ?k_pick ?a_text ?l_text ?c_text ?k_text ?a_prs ?l_prs ?c_prs ?k_prs ?a_wgt ?l_wgt ?c_wgt ?k_wgt ?a_ahd ?l_ahd ?c_ahd ?k_ahd ?a_all ?l_all ?c_all ?k_all ?a_rfs ?l_rfs ?c_rfs ?k_rfs ?a_odd ?l_odd ?c_odd ?k_odd ?lct_odd ?v11_odd ?hct_odd ?ntb_odd ?a_fst ?l_fst ?c_fst ?k_fst ?a_law ?l_law ?c_law ?k_law ?a_winit ?i_winit ?l_winit ?c_winit ?k_winit ?a_wof ?q_wof ?fc_wof ?fi_wof ?l_wof ?c_wof ?k_wof ?a_wsig ?g_wsig ?t_wsig ?q_wsig ?l_wsig ?c_wsig ?k_wsig ?a_wcall ?i_wcall ?j_wcall ?l_wcall ?c_wcall ?k_wcall ?a_wplc ?i_wplc ?l_wplc ?c_wplc ?k_wplc ?a_wrows ?i_wrows ?l_wrows ?c_wrows ?k_wrows ?pg ?hdi ?po ?sat ?mk ?kc ?n__signs ?n_pairs ?rdC ?gaC ?aL ?z_len ?z_int ?z_abs ?z_list ?z_tuple ?z_range ?z_repr ?z_isinstance ?z_all ?z_set ?z_bool ?z_str ?z_super ?z_enumerate ?z_dict ?z_sum
    (case aC => k_is)
    (case aCB => k_is)
    (case xL_B => k_is)
    (case rv_B => first | rfl | decide +kernel | k_is)
    (case sa_B => k_is)
    (case ex_B => k_is)
    (case ty_B => k_is)
    (case kC_B => k_is)
    (case ga_B => k_is)
    (case gg_B => k_is)
    (case hdc_B => k_is)
    (case ini_B => k_is)
    (case ti_B => k_is)
    (case le_B => k_is)
    (case ce_B => k_is)
    (case no_B => k_is)
    (case su_B => first | kernel_rfl | decide +kernel | rfl | k_is)
    (case ve_B => k_is)
    (case se_B => first | k_is | kernel_rfl | decide +kernel)
    (case cel_B => k_is)
    (case cod_B => k_is)
    (case v2_B => first | rfl | decide +kernel | k_is)
    (case fl_B => first | rfl | decide +kernel | k_is)
    (case em_B => first | kernel_rfl | decide +kernel | rfl | k_is)
    (case aCR => k_is)
    (case xL_R => k_is)
    (case rv_R => first | rfl | decide +kernel | k_is)
    (case sa_R => k_is)
    (case ex_R => k_is)
    (case ty_R => k_is)
    (case kC_R => k_is)
    (case ga_R => k_is)
    (case gg_R => k_is)
    (case hdc_R => k_is)
    (case ini_R => k_is)
    (case ti_R => k_is)
    (case le_R => k_is)
    (case ce_R => k_is)
    (case no_R => k_is)
    (case su_R => first | kernel_rfl | decide +kernel | rfl | k_is)
    (case ve_R => k_is)
    (case se_R => first | k_is | kernel_rfl | decide +kernel)
    (case cel_R => k_is)
    (case cod_R => k_is)
    (case v2_R => first | rfl | decide +kernel | k_is)
    (case fl_R => first | rfl | decide +kernel | k_is)
    (case em_R => first | kernel_rfl | decide +kernel | rfl | k_is)
    (case ay => k_is)
    (case tp => first | rfl | decide +kernel | k_is)
    (case a_fromto => k_is)
    (case l_fromto => k_is)
    (case c_fromto => k_is)
    (case k_fromto => k_is)
    (case a_isletr => k_is)
    (case l_isletr => k_is)
    (case c_isletr => k_is)
    (case k_isletr => k_is)
    (case a_ispair => k_is)
    (case l_ispair => k_is)
    (case c_ispair => k_is)
    (case k_ispair => k_is)
    (case a_wrong => k_is)
    (case l_wrong => k_is)
    (case c_wrong => k_is)
    (case k_wrong => k_is)
    (case a_chk => k_is)
    (case l_chk => k_is)
    (case c_chk => k_is)
    (case k_chk => k_is)
    (case a_weigh => k_is)
    (case l_weigh => k_is)
    (case c_weigh => k_is)
    (case k_weigh => k_is)
    (case a_beh => k_is)
    (case l_beh => k_is)
    (case c_beh => k_is)
    (case k_beh => k_is)
    (case a_pen => k_is)
    (case l_pen => k_is)
    (case c_pen => k_is)
    (case k_pen => k_is)
    (case a_draw => k_is)
    (case l_draw => k_is)
    (case c_draw => k_is)
    (case k_draw => k_is)
    (case a_pick => k_is)
    (case l_pick => k_is)
    (case c_pick => k_is)
    (case k_pick => k_is)
    (case a_text => k_is)
    (case l_text => k_is)
    (case c_text => k_is)
    (case k_text => k_is)
    (case a_prs => k_is)
    (case l_prs => k_is)
    (case c_prs => k_is)
    (case k_prs => k_is)
    (case a_wgt => k_is)
    (case l_wgt => k_is)
    (case c_wgt => k_is)
    (case k_wgt => k_is)
    (case a_ahd => k_is)
    (case l_ahd => k_is)
    (case c_ahd => k_is)
    (case k_ahd => k_is)
    (case a_all => k_is)
    (case l_all => k_is)
    (case c_all => k_is)
    (case k_all => k_is)
    (case a_rfs => k_is)
    (case l_rfs => k_is)
    (case c_rfs => k_is)
    (case k_rfs => k_is)
    (case a_odd => k_is)
    (case l_odd => k_is)
    (case c_odd => k_is)
    (case k_odd => k_is)
    (case lct_odd => k_is)
    (case v11_odd => first | rfl | decide +kernel | k_is)
    (case hct_odd => first | kernel_rfl | decide +kernel | rfl)
    (case ntb_odd => first | kernel_rfl | decide +kernel | rfl)
    (case a_fst => k_is)
    (case l_fst => k_is)
    (case c_fst => k_is)
    (case k_fst => k_is)
    (case a_law => k_is)
    (case l_law => k_is)
    (case c_law => k_is)
    (case k_law => k_is)
    (case a_winit => k_is)
    (case i_winit => k_is)
    (case l_winit => k_is)
    (case c_winit => k_is)
    (case k_winit => k_is)
    (case a_wof => k_is)
    (case q_wof => k_is)
    (case fc_wof => first | kernel_rfl | decide +kernel | rfl | k_is)
    (case fi_wof => k_is)
    (case l_wof => k_is)
    (case c_wof => k_is)
    (case k_wof => k_is)
    (case a_wsig => k_is)
    (case g_wsig => k_is)
    (case t_wsig => k_is)
    (case q_wsig => k_is)
    (case l_wsig => k_is)
    (case c_wsig => k_is)
    (case k_wsig => k_is)
    (case a_wcall => k_is)
    (case i_wcall => k_is)
    (case j_wcall => k_is)
    (case l_wcall => k_is)
    (case c_wcall => k_is)
    (case k_wcall => k_is)
    (case a_wplc => k_is)
    (case i_wplc => k_is)
    (case l_wplc => k_is)
    (case c_wplc => k_is)
    (case k_wplc => k_is)
    (case a_wrows => k_is)
    (case i_wrows => k_is)
    (case l_wrows => k_is)
    (case c_wrows => k_is)
    (case k_wrows => k_is)
    (case pg => k_is)
    (case hdi => k_is)
    (case po => k_is)
    (case sat => k_is)
    (case mk => k_is)
    (case kc => k_is)
    (case n__signs => k_is)
    (case n_pairs => k_is)
    (case rdC => first | kernel_rfl | decide +kernel | rfl | k_is)
    (case gaC => first | k_is | kernel_rfl | decide +kernel)
    (case aL => k_is)
    (case z_len => k_is)
    (case z_int => k_is)
    (case z_abs => k_is)
    (case z_list => k_is)
    (case z_tuple => k_is)
    (case z_range => k_is)
    (case z_repr => k_is)
    (case z_isinstance => k_is)
    (case z_all => k_is)
    (case z_set => k_is)
    (case z_bool => k_is)
    (case z_str => k_is)
    (case z_super => k_is)
    (case z_enumerate => k_is)
    (case z_dict => k_is)
    (case z_sum => k_is)
#print axioms PySem.Challenge.cw_rowgames_k03_order_of_rows_holds
