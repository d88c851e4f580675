import PyProof.Rows.All
import Wide.All
import OpenK.AllK
import Wide.FinOn
import HandS.ForMost
import HandS.Defaults
import HandS.MakeKwOnly
import HandS.Property
import HandS.Strs
import PyProof.StrWalks
import HandS.EndBits
import PyProof.ReprRoads
import HandS.ExcInit
import KE.KExcSuper
import HandS.WordsExc
import HandS.ExcValue
import HandS.ExcField
import HandS.IsInst
import KE.KExcIs
import HandS.ClsMeth
import HandS.SlotsOwn
import HandS.StrMore
import HandS.FStr
import HandS.Style
import PyProof.StrOps2
import PyProof.CallStr
import PyProof.ListStr
import HandS.Walk
import HandS.RaiseOp
import HandS.Codes
import PySem.Challenge.RW_rowgames_k05_where_rules_fit
import PyProof.ReprLen
import HandS.CallSlots
import KE.KOpsOwn
import HandS.Star
import HandS.GenList
import PyProof.ListMulRight
import PyProof.Rows.StrRev
import PyProof.Rows.StrBetween
import PyProof.Rows.StrFirst
import HandS.NoneIn
import HandS.GenYield
set_option Elab.async false
set_option maxRecDepth 100000
set_option autoImplicit false
/-! for .. in a generator's body -/
namespace Gf
open PySem L2 PySem.Spec PyProof.Rows GenW
section
variable {M : Model} {A : Around} {R : GenEnd} {Y : Protocol} {n : Nat} {s₀ s : Shared} {c : Code} {fs : List Frame} {env : Env} {K : Flow → Sem PySem.Fin} {J : Value → Sem PySem.Fin} {gd : Bool → Bool} {lv : List Value → List Value}
theorem seg_For {tg iter : Expr} {body : List Stmt} {pos : Pos}
    (h : wpAny M (A.over c fs) (eval iter env) (fun x s1 => wpAny M (A.over c fs) (pyIter x) (fun itv s2 => ∀ p, Seg M A R Y n s₀ (.forLoop tg itv body [] env) (M.den (.forLoop tg itv body [] env))
      (.ret (fun r => ((match r with | .ok f => (.pure f : Sem Flow) | .error e => .raise e).onRaise (cameBack env)).wrap K J gd lv) none (gd false) (lv []) c p [] :: fs) s2) (fun x s' => Seg M A R Y n s₀ c (J x) fs s') s1) (fun x s' => Seg M A R Y n s₀ c (J x) fs s') s)
    (hs : ∀ x, foldedSetIterable iter env x = pure x := by intro _; rfl) :
    Seg M A R Y n s₀ c ((exec (.For tg iter body [] pos) env).wrap K J gd lv) fs s := by
  rw [exec_For]
  refine seg_bind_wrap (wpAny_standAt ?_)
  refine seg_bind_wrap (wpAny_mono h (fun x s1 h1 => ?_) fun _ _ h' => h')
  refine seg_bind_wrap (wpAny_of_eq (hs x) ?_)
  refine seg_bind_wrap (wpAny_standAt ?_)
  refine seg_bind_wrap (wpAny_holding (wpAny_mono h1 (fun itv s2 h2 => ?_) fun _ _ h' => h'))
  exact seg_call h2
end
section
variable {prog : Program} {w : World} {A : Around} {R : GenEnd} {Y : Protocol} {n : Nat} {s₀ : Shared} {fs : List Frame} {s : Shared} {env : Env}
abbrev fail_ (env : Env) (e : Value) : Sem PySem.Fin := (do noteFrame e env; theTreesLotGoes e : Sem Unit).wrap (fun _ => .raise e) .raise id id
theorem seg_forLoop {tg : Expr} {it : Value} {body : List Stmt}
    (h : wpAny (model prog w) (A.over (.forLoop tg it body [] env) fs) (pyNext it) (fun r s1 => match r with
        | none => Seg (model prog w) A R Y n s₀ (.forLoop tg it body [] env) (.pure (.again (.block [] env))) fs s1
        | some v => wpAny (model prog w) (A.over (.forLoop tg it body [] env) fs) (letOwnedTupleGo tg it v) (fun _ s2 => wpAny (model prog w) (A.over (.forLoop tg it body [] env) fs) (assign tg env v) (fun _ s3 =>
            Seg (model prog w) A R Y n s₀ (.forLoop tg it body [] env) ((execs body env).wrap (fun f => match f with
            | .next | .cont => .pure (.again (.forLoop tg it body [] env))
            | .brk => .pure (.done .next)
            | .ret v => .pure (.done (.ret v))) (fail_ env) id id) fs s3)
          (fun x s' => Seg (model prog w) A R Y n s₀ (.forLoop tg it body [] env) (fail_ env x) fs s') s2) (fun x s' => Seg (model prog w) A R Y n s₀ (.forLoop tg it body [] env) (fail_ env x) fs s') s1)
      (fun x s' => Seg (model prog w) A R Y n s₀ (.forLoop tg it body [] env) (fail_ env x) fs s') s) :
    Seg (model prog w) A R Y n s₀ (.forLoop tg it body [] env) ((model prog w).den (.forLoop tg it body [] env)) fs s := by
  show Seg _ A R Y n s₀ _ ((forTurn tg it body [] env).onRaise (fun x => do noteFrame x env; theTreesLotGoes x)) fs s
  have ef : (fun e => (do noteFrame e env; theTreesLotGoes e : Sem Unit).bind fun _ => (Sem.raise e : Sem PySem.Fin)) = fail_ env := by
    funext e; exact Sem.bind_eq_wrap _ _
  unfold forTurn
  rw [Sem.onRaise_eq_wrap]
  refine seg_bind_wrap (wpAny_standAt ?_)
  refine seg_bind_wrap (wpAny_onRaise (wpAny_mono h (fun r s1 h1 => ?_) fun x s' hx => wpAny_standAt ?_))
  · cases r with
    | none => exact h1
    | some v =>
      refine seg_bind_wrap (wpAny_mono h1 (fun _ s2 h2 => ?_) fun x s' hx => ?_)
      · refine seg_bind_wrap (wpAny_mono h2 (fun _ s3 h3 => ?_) fun x s' hx => ?_)
        · rw [Sem.bind_eq_wrap', Sem.wrap_wrap]
          rw [Sem.wrap_congr (execs body env) _ _ (K' := fun f => match f with
            | .next | .cont => .pure (.again (.forLoop tg it body [] env))
            | .brk => .pure (.done .next)
            | .ret v => .pure (.done (.ret v))) (H' := fail_ env)
            (fun f => by cases f <;> rfl)
            (fun e => by first | exact congrFun ef e | rfl)]
          exact h3
        · exact (congrFun ef x) ▸ hx
      · exact (congrFun ef x) ▸ hx
  · exact (congrFun ef x) ▸ hx
end
end Gf
set_option Elab.async false
set_option maxRecDepth 100000
set_option autoImplicit false
namespace Gf
open PySem L2 PySem.Spec PyProof.Rows GenW
section
variable {X : Cx}
def tGFor (wi : TI) (g : TG) (tb : TGn) : TGn := fun D ys σ H => wi σ H fun J H1 => ∃ W : Nat → Nat → List V → L2.St → Hp → Prop, (∃ m, W 0 m ys σ H1) ∧ ∀ i m ys σ H, W i m ys σ H →
  (J.stop i H ∧ D.nx ys σ H) ∨ (J.go i H ∧ ∃ N : List V → L2.St → Hp → Prop, (∀ ys' σ' H', N ys' σ' H' → ∃ m', m' < m ∧ W (i + 1) m' ys' σ' H') ∧ ∀ x H', J.yld i H x H' → g x σ H' fun σ2 H2 => tb { D with nx := N, ct := N, bk := D.nx } ys σ2 H2)
theorem gs_for {tg iter : Expr} {body : List Stmt} {pos : Pos} {wi : TI} {g : TG} {tb : TGn} (hp : PassesOwn (model X.prog X.w) X.A X.env X.xe) (hc : X.calm = true) (hi : PI X tg iter wi) (hg : PG X tg g) (hb : GSs X body tb)
    (hs : ∀ x, foldedSetIterable iter X.env x = pure x := by intro _; rfl) : GS X (.For tg iter body [] pos) (tGFor wi g tb) := by
  refine ⟨fun A S ip R n ys s₀ c fs K J gd lv s σ H D gc hn k hI ht => ?_⟩
  obtain ⟨acc, cc, r0, I⟩ := hI
  have bad : ∀ x s', X.xe x s' → Seg (model X.prog X.w) A R (GY X S) n s₀ c (J x) fs s' := fun x s' hx => k.exc n s₀ x s' hx
  refine seg_For ?_ hs
  rw [gc.over]
  refine wpAny_mono (hi.run _ s σ H _ I ht) (fun v s1 h1 => wpAny_mono h1 (fun itv s2 h2 p => ?_) bad) bad
  obtain ⟨it, fp, tn, Jt, H2, rfl, I2, T, st2, f2, W, ⟨m0, w0⟩, turn⟩ := h2
  have gl := fun (kk : Result → Sem PySem.Fin) => gc_loop (k := kk) (c' := .forLoop tg (.ref it) body [] X.env) (l := lv []) (kp := []) (p := p) gc rfl rfl
  have glb := fun (kk : Result → Sem PySem.Fin) => gc_loop (k := kk) (c' := .block [] X.env) (l := lv []) (kp := []) (p := p) gc rfl rfl
  -- what stays true of the iterator's objects
  have far : ∀ b ∈ fp, b ≠ S := fun b hb z => (f2 b hb).2.2.2.2.2 (S, lstObj acc cc) (List.mem_append_right _ List.mem_cons_self) z.symm
  have stat : ∀ {H' : Hp} {acc' : Array Value} {c' : Nat}, (∀ b ∈ fp, H' b = none) → ∀ b ∈ fp, FpOk X ((S, lstObj acc' c') :: ip) H' b := fun {H' acc' c'} hn b hb => by
    obtain ⟨_, e1, e2, e3, e4, e5⟩ := f2 b hb
    refine ⟨hn b hb, e1, e2, e3, e4, fun p hp => ?_⟩
    rcases List.mem_append.mp hp with q | q
    · exact e5 p (List.mem_append_left _ q)
    · rcases List.mem_cons.mp q with q | q
      · rw [q]; exact (far b hb).symm
      · exact e5 p (List.mem_append_right _ (List.mem_cons_of_mem _ q))
  have loop : ∀ (m i n : Nat) (ys : List V) (s₀ s : Shared) (σ : L2.St) (H : Hp), n + ys.length = sizeLine → W i m ys σ H → GI X S ip ys σ H s → tn i s.heap → (∀ b ∈ fp, H b = none) →
      Seg (model X.prog X.w) A R (GY X S) n s₀ (.forLoop tg (.ref it) body [] X.env) ((model X.prog X.w).den (.forLoop tg (.ref it) body [] X.env))
        (.ret (fun r => ((match r with | .ok f => (.pure f : Sem Flow) | .error e => .raise e).onRaise (cameBack X.env)).wrap K J gd lv) none (gd false) (lv []) c p [] :: fs) s := by
    intro m
    induction m using Nat.strongRecOn with
    | ind m ih =>
      intro i n ys s₀ s σ H hn w hI st fr
      have ee : ∀ (n : Nat) (s₀ : Shared) (x : Value) (s' : Shared), X.xe x s' → Seg (model X.prog X.w) A R (GY X S) n s₀ (.forLoop tg (.ref it) body [] X.env) (fail_ X.env x)
          (.ret (fun r => ((match r with | .ok f => (.pure f : Sem Flow) | .error e => .raise e).onRaise (cameBack X.env)).wrap K J gd lv) none (gd false) (lv []) c p [] :: fs) s' := fun n s₀ x s' hx => by
        refine seg_wrap ?_
        rw [(gl _).over]
        refine wpAny_bind (wpAny_mono (hp x s' hx) (fun _ s'' hcb => wpAny_theTreesLotGoes ?_) fun y s'' hcb => ?_)
        · exact seg_leaf (.error x) (seg_cameBack gc k hcb)
        · exact seg_leaf (.error y) (seg_cameBack gc k hcb)
      refine seg_forLoop ?_
      rw [(gl _).over]
      obtain ⟨acc, cc, r, I⟩ := hI
      rcases turn i m ys σ H w with ⟨stop, qn⟩ | ⟨go, N, hN, step⟩
      · refine wpAny_mono (T.done X rfl rfl rfl hc i _ s σ H X.xe I (stat fr) st stop) (fun r1 s4 h4 => ?_) fun x s' hx => ee n s₀ x s' hx
        obtain ⟨hr, I4⟩ := h4
        subst hr
        refine seg_again rfl ?_
        refine seg_execs_nil (env := X.env) (K := fun f => .pure (.done f)) (H := .raise) (gd := id) (lv := id) ?_
        exact seg_leaf (.ok .next) (k.ok n ys s₀ s4 .next hn ⟨σ, H, ⟨acc, cc, r, I4⟩, qn⟩)
      · refine wpAny_mono (T.item X rfl rfl rfl hc i _ s σ H X.xe I (stat fr) st go) (fun r1 s4 h4 => ?_) fun x s' hx => ee n s₀ x s' hx
        obtain ⟨u, hr, h4⟩ := h4
        subst hr
        refine wpAny_mono h4 (fun _ s5 h5 => ?_) fun x s' hx => ee n s₀ x s' hx
        obtain ⟨x, H5, I5, r5, y5, st5, fr5⟩ := h5
        have I5' := I5.pinned (stat fr5) (T.obj _ _ st5)
        refine wpAny_mono (hg.run _ s5 σ H5 x u _ I5' r5 (step x H5 y5)) (fun _ s6 h6 => ?_) fun x s' hx => ee n s₀ x s' hx
        obtain ⟨σ6, H6, I6, q6⟩ := h6
        have hip' : ∀ p ∈ ip ++ pinsAt fp s5.heap, p.1 ≠ S := fun p hp => (List.mem_append.mp hp).elim (gc.ip p) fun z => far _ (of_pinsAt z).1
        have gl' : ∀ kk, GC X S (ip ++ pinsAt fp s5.heap) A (.forLoop tg (.ref it) body [] X.env) (.ret kk none (gd false) (lv []) c p [] :: fs) id := fun kk => ⟨(gl kk).pn, hip', (gl kk).apart, (gl kk).over, (gl kk).split, (gl kk).guard, (gl kk).gd⟩
        have drop : ∀ {zs σ' H' s'}, GI X S (ip ++ pinsAt fp s5.heap) zs σ' H' s' → GI X S ip zs σ' H' s' := fun {zs σ' H' s'} ⟨a1, c1, r1, J1⟩ => ⟨a1, c1, r1, J1.pins_of fun p hp => J1.pin p (by
          rcases List.mem_cons.mp hp with q | q
          · exact List.mem_append_right _ (by rw [q]; exact List.mem_cons_self)
          · exact List.mem_append_right _ (List.mem_cons_of_mem _ (List.mem_append_left _ q)))⟩
        refine hb.run A S (ip ++ pinsAt fp s5.heap) R n ys s₀ _ _ _ _ id id s6 σ6 H6 { D with nx := N, ct := N, bk := D.nx } (gl' _) hn ⟨fun n' ys' s₀' s7 f hn' hs => ?_, fun n' s₀' x s3 hx => ee n' s₀' x s3 hx⟩ ⟨acc, cc, r, I6⟩ q6
        have again : ∀ {σ7 : L2.St} {H7 : Hp}, GI X S (ip ++ pinsAt fp s5.heap) ys' σ7 H7 s7 → N ys' σ7 H7 →
            Seg (model X.prog X.w) A R (GY X S) n' s₀' (.forLoop tg (.ref it) body [] X.env) (.pure (.again (.forLoop tg (.ref it) body [] X.env)))
              (.ret (fun r => ((match r with | .ok f => (.pure f : Sem Flow) | .error e => .raise e).onRaise (cameBack X.env)).wrap K J gd lv) none (gd false) (lv []) c p [] :: fs) s7 := fun {σ7 H7} G7 n7 => by
          obtain ⟨m', hm, w7⟩ := hN ys' σ7 H7 n7
          have pin : ∀ b ∈ fp, ∀ o, s5.heap.get? b = some o → s7.heap.get? b = some o ∧ H7 b = none := fun b hb o e => by
            obtain ⟨a1, c1, r1, J1⟩ := G7
            have z := J1.pin (b, o) (List.mem_append_right _ (List.mem_cons_of_mem _ (List.mem_append_right _ (mem_pinsAt hb e))))
            exact ⟨z.1, z.2.1⟩
          refine seg_again rfl (ih m' hm (i + 1) n' ys' s₀' s7 σ7 H7 hn' w7 (drop G7) (T.keep _ _ _ st5 fun b hb o e => (pin b hb o e).1) fun b hb => ?_)
          obtain ⟨o, e, d⟩ := T.obj _ _ st5 b hb
          exact (pin b hb o e).2
        cases f with
        | next => obtain ⟨σ7, H7, I7, n7⟩ := hs; exact again I7 n7
        | cont => obtain ⟨σ7, H7, I7, n7⟩ := hs; exact again I7 n7
        | brk => obtain ⟨σ7, H7, I7, n7⟩ := hs; exact seg_leaf (.ok .next) (k.ok n' ys' s₀' s7 .next hn' ⟨σ7, H7, drop I7, n7⟩)
        | ret v => obtain ⟨x7, σ7, H7, I7, r7, q7⟩ := hs; exact seg_leaf (.ok (.ret v)) (k.ok n' ys' s₀' s7 (.ret v) hn' ⟨x7, σ7, H7, drop I7, r7, q7⟩)
  exact loop m0 0 n ys s₀ s2 σ H2 hn w0 ⟨acc, cc, r0, I2⟩ st2 fun b hb => (f2 b hb).1
/-- over a list that the body leaves as it is -/
theorem gfor_list {K : PySem.W.Frag} {a : Addr} {xs : List V} {g : TG} {tb : TGn} {D : GEnds} {ys : List V} {σ : L2.St} {H : Hp} (Pv : Nat → List V → L2.St → Hp → Prop) (h0 : Pv 0 ys σ H) (hl : ∀ i ys σ H, i ≤ xs.length → Pv i ys σ H → SqL K H a xs)
    (hs : ∀ i x ys σ H, xs[i]? = some x → Pv i ys σ H → g x σ H fun σ2 H2 => tb { D with nx := Pv (i + 1), ct := Pv (i + 1), bk := D.nx } ys σ2 H2) (hd : ∀ ys σ H, Pv xs.length ys σ H → D.nx ys σ H) :
    ∃ W : Nat → Nat → List V → L2.St → Hp → Prop, (∃ m, W 0 m ys σ H) ∧ ∀ i m ys σ H, W i m ys σ H →
      ((Itl K a).stop i H ∧ D.nx ys σ H) ∨ ((Itl K a).go i H ∧ ∃ N : List V → L2.St → Hp → Prop, (∀ ys' σ' H', N ys' σ' H' → ∃ m', m' < m ∧ W (i + 1) m' ys' σ' H') ∧ ∀ x H', (Itl K a).yld i H x H' → g x σ H' fun σ2 H2 => tb { D with nx := N, ct := N, bk := D.nx } ys σ2 H2) := by
  refine ⟨fun i m ys σ H => m = xs.length - i ∧ i ≤ xs.length ∧ Pv i ys σ H, ⟨xs.length, by simp, Nat.zero_le _, h0⟩, ?_⟩
  rintro i m ys σ H ⟨rfl, hi, p⟩
  have q := hl i ys σ H hi p
  by_cases hlt : i < xs.length
  · refine .inr ⟨⟨xs, xs[i], q, by simp [hlt]⟩, Pv (i + 1), fun ys' σ' H' p' => ⟨xs.length - (i + 1), by omega, rfl, hlt, p'⟩, fun x H' y => ?_⟩
    obtain ⟨e, y⟩ := y
    subst e
    exact hs i x ys σ _ (y xs q) p
  · have e : i = xs.length := by omega
    subst e
    exact .inl ⟨⟨xs, q, Nat.le_refl _⟩, hd ys σ H p⟩
end
end Gf
set_option Elab.async false
set_option maxRecDepth 100000
/-! Rules of my own over the hand layer: what a class of one's own says of len, [ ], in; a method called by keywords alone. -/
namespace Rg
open PySem L2 PySem.Spec PyProof.Rows
theorem rvRef (a : Addr) : RelV (.ref a) (Value.ref a) := rfl
section
variable {X : Cx} {CX : CXT} {k : Nat} {C f : Addr} {fd : FuncData} {ps : List Str} {sp : Sp} {E : XK} {pins : List (Addr × Obj)} {σ : L2.St} {H : Hp} {s : Shared}

/-- a def of the text, run one step further in -/
theorem runIn {Q : VK} {us : List Value} {vs : List V} (F : FnOk X.prog X.w X.K X.mg X.base CX k f fd ps sp) (room : Room (k + 1) X.A) (bd : Binds X.K fd ps []) (ex : Passes CX X E)
    (I : Inv X pins σ H s) (r : Vals vs us) (want : sp vs H Q E) : wpAny (model X.prog X.w) X.A.in1 (call (.ref f) us) (EP X pins σ Q) X.xe s := by
  have len : us.length = ps.length := r.length.symm.trans (F.len _ _ _ _ want)
  have bt : BindsTo s fd ⟨us, []⟩ (ps.zip us) := by
    have z := bd s us I.kIn (by rw [List.append_nil]; exact len)
    rw [List.append_nil] at z
    exact z
  refine wpAny_call (codeAny_mono (F.run X.A.in1 X.stack s H ⟨us, []⟩ us vs Q E room.in1 I.env0.in1 bt r want) fun res s' got => ?_)
  rcases res with e | fl
  · exact ex pins σ H s e s' I got
  · cases fl <;> first | exact I.after got | exact False.elim got

/-- the instance at a, as the walk's lemmas want it -/
theorem instAt {a dx : Addr} {fs : List (Str × V)} (I : Inv X pins σ H s) (e : H a = some (.ins C dx fs)) : ∃ od, PySem.W.InstAt s.heap a (PySem.W.instObj C dx) C od := by
  obtain ⟨mA, O, _⟩ := ins_get I.hok e
  obtain ⟨od, J, _⟩ := O.look
  exact ⟨od, J⟩

/-- len(o) -/
def rLen (C : Addr) (sp : Sp) (E : XK) : List V → Hp → VK → Prop := fun xs H Q => ∃ a dx fs, xs = [.ref a] ∧ H a = some (.ins C dx fs) ∧ sp [.ref a] H (fun v H' => ∃ n : Int, v = .int n ∧ 0 ≤ n ∧ n < 2 ^ 63 ∧ Q (.int n) H') E
theorem cr_len (F : FnOk X.prog X.w X.K X.mg X.base CX k f fd ps sp) (room : Room (k + 1) X.A) (bd : Binds X.K fd ps []) (ex : Passes CX X E)
    (at_ : PySem.W.findIn X.K (.ref C) "__len__" = some (some (.ref f))) (fn : PySem.W.isFn X.K (.ref f) = true) : CallR X (.builtin "len") (rLen C sp E) := by
  rintro pins s σ H xs us Q I r ⟨a, dx, fs, rfl, e, want⟩
  obtain ⟨od, J⟩ := instAt I e
  obtain ⟨m, fr⟩ := I.fr
  cases r with
  | cons r0 r1 =>
    cases r1
    cases r0
    refine PySem.W.len_K fr I.ok.mod.kin J at_ fn (thn (runIn F room bd ex I (.cons (rvRef a) .nil) want) ?_)
    rintro u s' ⟨v, H', I', rv, n, rfl, n0, n1, q⟩
    obtain ⟨t, rfl⟩ := rv
    exact ⟨⟨n0, n1⟩, .int n, H', I'.tok _, ⟨_, rfl⟩, q⟩

/-- o[i] -/
def rItem (C : Addr) (sp : Sp) (E : XK) : R2 := fun x y H Q => ∃ a dx fs, x = .ref a ∧ H a = some (.ins C dx fs) ∧ sp [x, y] H Q E
theorem pe_item {a b : Expr} {ta tb : TE} {pos : Pos} (F : FnOk X.prog X.w X.K X.mg X.base CX k f fd ps sp) (room : Room (k + 1) X.A) (bd : Binds X.K fd ps []) (ex : Passes CX X E)
    (at_ : PySem.W.findIn X.K (.ref C) "__getitem__" = some (some (.ref f))) (fi : PySem.W.fnIn X.K f = true) (fn : PySem.W.isFn X.K (.ref f) = true) (ha : PE X a ta) (hb : PE X b tb)
    (hs : ∀ o i, subscripted b true o i = runValue (.builtin "lifetime.subscript" ⟨[o, i], []⟩) := by intro _ _; with_unfolding_all rfl) : PE X (.Subscript a b pos) (tOp (rItem C sp E) ta tb) := by
  refine ⟨fun pins s σ H Q I h => Subscript_ (binT ha hb I h ?_)⟩
  rintro v u s2 x y H2 I2 rx ry ⟨o, dx, fs, rfl, e, want⟩
  obtain rfl : v = Value.ref o := rx
  obtain ⟨od, J⟩ := instAt I2 e
  obtain ⟨m, fr⟩ := I2.fr
  exact PySem.W.sub_K fr I2.ok.mod.kin J at_ fi fn (runIn F room bd ex I2 (.cons (rvRef o) (.cons ry .nil)) want) (hs _ _)

/-- x in o, x not in o -/
def rHas (neg : Bool) (C : Addr) (sp : Sp) (E : XK) : R2 := fun x y H Q => ∃ a dx fs, y = .ref a ∧ H a = some (.ins C dx fs) ∧ sp [y, x] H (fun v H' => ∃ b, v = .bl b ∧ Q (.bl (if neg then !b else b)) H') E
theorem op_has (F : FnOk X.prog X.w X.K X.mg X.base CX k f fd ps sp) (room : Room k X.A) (bd : Binds X.K fd ps []) (ex : Passes CX X E)
    (at_ : PySem.W.findIn X.K (.ref C) "__contains__" = some (some (.ref f))) (fn : PySem.W.isFn X.K (.ref f) = true) : OpR X (compareOp .In) (rHas false C sp E) := by
  rintro pins s σ H x y v u Q I rx ry ⟨a, dx, fs, rfl, e, want⟩
  obtain rfl : u = Value.ref a := ry
  obtain ⟨od, J⟩ := instAt I e
  obtain ⟨m, fr⟩ := I.fr
  refine PySem.W.in_K fr I.ok.mod.kin J at_ fn (thn (run_fn (ds := []) (dvs := []) F room bd .nil ex I (.cons (rvRef a) (.cons rx .nil)) want) ?_)
  rintro z s' ⟨v', H', I', rv, b, rfl, q⟩
  obtain rfl : z = Value.bool b := rv
  exact wpAny_truthy_bool ⟨.bl b, H', I', rfl, q⟩
theorem op_hasnt (F : FnOk X.prog X.w X.K X.mg X.base CX k f fd ps sp) (room : Room k X.A) (bd : Binds X.K fd ps []) (ex : Passes CX X E)
    (at_ : PySem.W.findIn X.K (.ref C) "__contains__" = some (some (.ref f))) (fn : PySem.W.isFn X.K (.ref f) = true) : OpR X (compareOp .NotIn) (rHas true C sp E) := by
  rintro pins s σ H x y v u Q I rx ry ⟨a, dx, fs, rfl, e, want⟩
  obtain rfl : u = Value.ref a := ry
  obtain ⟨od, J⟩ := instAt I e
  obtain ⟨m, fr⟩ := I.fr
  refine PySem.W.notIn_K fr I.ok.mod.kin J at_ fn (thn (run_fn (ds := []) (dvs := []) F room bd .nil ex I (.cons (rvRef a) (.cons rx .nil)) want) ?_)
  rintro z s' ⟨v', H', I', rv, b, rfl, q⟩
  obtain rfl : z = Value.bool b := rv
  exact wpAny_truthy_bool ⟨.bl (!b), H', I', rfl, q⟩

/-- o.m(k = v, ..), no value by place -/
def tMethK (C : Addr) (m : Str) (sp : Sp) (gV : List V → List V → List V) (n : Nat) (E : XK) (ta : TE) (tk : TA) : TE := fun σ H Q => ta σ H fun x H1 => ∃ a dx fs, x = .ref a ∧ H1 a = some (.ins C dx fs) ∧ fs.lookup m = none ∧
  tk σ H1 fun zs H2 => zs.length = n ∧ sp (gV [x] zs) H2 Q E
theorem pe_methK {pl : Sem Bool} {o : Expr} {m : Str} {kws : List Keyword} {ks : List Str} {ta : TE} {tk : TA} {pos apos : Pos} {g : List Value → List Value → List Value} {gV : List V → List V → List V}
    (he : PE X o ta) (c : Cls X.K C) (hm : Meth X.K C m f) (F : FnOk X.prog X.w X.K X.mg X.base CX k f fd ps sp) (room : Room k X.A) (kb : KBn X.K fd ps 1 ks g gV) (ex : Passes CX X E) (hk : PK X kws tk)
    (hall : (backToKw pos (keywordEach kws X.env)).all (·.1.isSome) = true := by rfl) (hks : (backToKw pos (keywordEach kws X.env)).filterMap (·.1) = ks := by rfl)
    (hpl : ((backTo pos (starEach [] X.env)).any (·.1) || (backToKw pos (keywordEach kws X.env)).any (·.1.isNone)) = false := by rfl)
    (ht : eval (.Call (.Attribute o m apos) [] kws pos) X.env = (do
      let ov ← eval o X.env
      standAt apos.atName
      let (f, first) ← holding [ov] (getMethod ov m pl)
      callWith pos f first (backTo pos (starEach [] X.env)) (backToKw pos (keywordEach kws X.env))) := by rfl) :
    PE X (.Call (.Attribute o m apos) [] kws pos) (tMethK C m sp gV ks.length E ta tk) := by
  refine ⟨fun pins s σ H Q I h => PySem.W.methodCall_KW (pl := pl) (thn (he.run pins s σ H _ I h) ?_) ht⟩
  rintro u s1 ⟨x, H1, I1, rx, a, dx, fs, rfl, e, no, q⟩
  obtain rfl : u = Value.ref a := rx
  refine getmeth_ok I1 e c hm no (PySem.W.callWith_KW0 (first := [.ref a]) (h₀ := X.base) I1.ok.mod.kin hm.kp hall (thn (hk.run pos pins s1 σ H1 _ I1 q) ?_) hpl)
  rintro ws s2 ⟨zs, H2, I2, rz, lz, want⟩
  refine ⟨I2.kIn, ?_⟩
  rw [hks]
  have lw : ws.length = ks.length := rz.length.symm.trans lz
  have rr : Vals (gV [V.ref a] zs) (g [Value.ref a] ws) := kb.rel (.cons (rvRef a) .nil) rz
  refine wpAny_call (codeAny_mono (F.run X.A X.stack s2 H2 ⟨[.ref a], ks.zip ws⟩ (g [.ref a] ws) (gV [.ref a] zs) Q E room I2.env0 (kb.to s2 [.ref a] ws I2.kIn rfl lw) rr want) fun res s' got => ?_)
  rcases res with er | fl
  · exact ex pins σ H2 s2 er s' I2 got
  · cases fl <;> first | exact I2.after got | exact False.elim got
end
end Rg
set_option Elab.async false
set_option maxRecDepth 100000
/-! len(set(text)) where no sign stands twice. -/
namespace Rg
open PySem L2 PySem.Spec PyProof.Rows
section
variable {prog : Program} {w : World} {A : Around}
/-- the signs of a text, each a text -/
def signs (x : Str) : List Str := x.cps.toList.map fun c => ⟨#[c]⟩
theorem signs_len (x : Str) : (signs x).length = x.cps.size := by unfold signs; simp
theorem signAt {x : Str} {i : Nat} {v : Value} (h : SignAt x i v) : ∃ z t, (signs x)[i]? = some z ∧ v = .str z t := by
  obtain ⟨c, u, e, rfl⟩ := h
  refine ⟨⟨#[c]⟩, u, ?_, rfl⟩
  unfold signs
  rw [List.getElem?_map, Array.getElem?_toList, e] <;> rfl
theorem take_has {zs : List Str} {i : Nat} {z : Str} (e : zs[i]? = some z) (k : Str) : ((zs.take i).any (· == k) || decide (k = z)) = (zs.take (i + 1)).any (· == k) := by
  rw [List.take_add_one, e, List.any_append]
  congr 1
  by_cases h : k = z
  · subst h; simp
  · have h' : (z == k) = false := by simpa using fun q : z = k => h q.symm
    simp [h, h']
theorem take_no {zs : List Str} {i : Nat} {z : Str} (nd : zs.Nodup) (e : zs[i]? = some z) : (zs.take i).any (· == z) = false := by
  rw [Bool.eq_false_iff]
  intro q
  obtain ⟨y, hy, ey⟩ := List.any_eq_true.mp q
  have : y = z := by simpa using ey
  subst this
  obtain ⟨j, hj, ej⟩ := List.getElem_of_mem hy
  rw [List.length_take] at hj
  obtain ⟨hi, ei⟩ := List.getElem?_eq_some_iff.mp e
  rw [List.getElem_take] at ej
  exact absurd (ej.trans ei.symm) (List.pairwise_iff_getElem.mp nd j i (by omega) hi (by omega))

/-- the loop of set(..) over a walk that hands out the texts zs -/
theorem fill {R : Result → Shared → Prop} {it S : Addr} {fp wr : List Addr} {G : Array GenState → Array GenState → Prop} {n : Nat} {P : Nat → Value → Prop} {St : Nat → Shared → Prop}
    (W : WalksS prog w A.in1 it fp wr G n P St) (far : S ∉ fp) (zs : List Str) (nd : zs.Nodup) (zn : zs.length = n) (few : n + 1 < scanBound) (val : ∀ i v, P i v → ∃ z t, zs[i]? = some z ∧ v = .str z t) (j : Nat) :
    ∀ (i : Nat) (s : Shared), i + j = n → St i s → s.heap.SetOf (PySem.strKind prog w) S (fun k => (zs.take i).any (· == k)) i →
      (∀ s', Moved (S :: wr) G s s' → s'.heap.SetOf (PySem.strKind prog w) S (fun k => (zs.take n).any (· == k)) n → R (.ok (.ret .none)) s') →
      codeAny (model prog w) A (.builtin "set.update.loop" ⟨[.ref S, .ref it], []⟩) R s := by
  have far' : S ∉ wr := fun q => far (W.sub _ q)
  have more : ∀ b ∈ wr, b ∈ S :: wr := fun _ q => List.mem_cons_of_mem _ q
  have keepS : ∀ {s s' : Shared} {f : Str → Bool} {m : Nat}, Moved wr G s s' → s.heap.SetOf (PySem.strKind prog w) S f m → s'.heap.SetOf (PySem.strKind prog w) S f m :=
    fun mv ⟨o, es, ep, t, ho, r⟩ => ⟨o, es, ep, t, mv.heap S _ far' ho, r⟩
  induction j with
  | zero =>
    intro i s hi st hS out
    obtain rfl : i = n := by omega
    refine codeAny_builtin PyProof.Rows.F.entry_set_update_loop ?_; rw [Around.under_plainId PyProof.Rows.F.plain_set_update_loop _]
    show wpAny _ A.in1 (pyNext (.ref it) >>= _) _ _ s; refine wpAny_bind (W.done s _ _ st fun s' mv => ?_)
    exact wpAny_pure (out s' (mv.mono more) (keepS mv hS))
  | succ j ih =>
    intro i s hi st hS out
    refine codeAny_builtin PyProof.Rows.F.entry_set_update_loop ?_; rw [Around.under_plainId PyProof.Rows.F.plain_set_update_loop _]
    show wpAny _ A.in1 (pyNext (.ref it) >>= _) _ _ s; refine wpAny_bind (W.item i s _ _ (by omega) st fun v s' hP st' mv => ?_)
    obtain ⟨z, t, ez, rfl⟩ := val i v hP
    have hS' := keepS mv hS
    show wpAny _ A.in1 (holding [Value.str z t] (setAdd S (.str z t)) >>= _) _ _ s'
    refine wpAny_bind (wpAny_holding ?_); unfold setAdd; refine wpAny_holding (wpAny_bind ((PySem.strKind prog w).pyHash (k := z) (strKind_is _ _ _ _) ?_))
    refine wpAny_setAddHashed_of (knd := PySem.strKind prog w) (s := { s' with toks := s'.toks + 1 }) (strKind_is _ _ _ _) rfl hS' (by omega) fun h' same new => ?_
    have new' : h'.SetOf (PySem.strKind prog w) S (fun k => (zs.take (i + 1)).any (· == k)) (i + 1) :=
      SetOf_congr new (fun k => take_has ez k) (by rw [take_no nd ez]; rfl)
    have other : ∀ b, b ≠ S → ∀ o, s'.heap.get? b = some o → h'.get? b = some o := fun b hb o e => (same.2 b hb).trans e
    refine wpAny_pure ⟨plainId_quiet PyProof.Rows.F.plain_set_update_loop _, ih (i + 1) _ (by omega) (W.frame _ s' _ _ st' (Nat.le_succ _) fun b hb o e => other b (fun q => far (q ▸ hb)) o e) new' fun s2 mv2 hS2 => ?_⟩
    exact out s2 (Moved.trans W.gtrans ((mv.mono more).then_heap (Nat.le_succ _) fun b o hb e => other b (fun q => hb (q ▸ List.mem_cons_self)) o e) mv2) hS2
end

section
variable {prog : Program} {w : World} {A : Around} {E : Value → Shared → Prop} {s : Shared}
abbrev bare (led : Bool) : Obj := { cls := .type "set", dict := none, data := .set #[] 0 (.fresh 0 0 led) }
set_option maxHeartbeats 3200000 in
theorem set_text {x : Str} {t : Tok} {Q : Value → Shared → Prop} (calm : A.handled = none) (nd : (signs x).Nodup) (few : x.cps.size + 1 < scanBound)
    (out : ∀ (h' : Heap) (tk : Nat), h'.SetOf (PySem.strKind prog w) s.heap.objs.size (fun k => ((signs x).take x.cps.size).any (· == k)) x.cps.size →
      (∀ b o, s.heap.get? b = some o → h'.get? b = some o) → Q (.ref s.heap.objs.size) { s with heap := h', toks := tk }) :
    wpAny (model prog w) A (call (.type "set") [.str x t]) Q E s := by
  obtain ⟨c, tl, hmro⟩ := PySem.F.called_set.mro
  have hmade := PySem.F.called_set.made
  have hsub := PySem.F.called_set.sub
  refine wpAny_call (codeAny_of_tree ?_); show wpAny _ _ (callAny (.type "set") _) _ _ _
  refine wpAny_pure ⟨Code.quiet_builtin _ (by decide +kernel), codeAny_builtin PySem.F.entry_type_call ?_⟩
  rw [Around.under_plain (weight_type_call_type "set" [.str x t] []) rfl]
  have h1 := PySem.F.called_set.notType
  have h2 := PySem.F.called_set.canCreate
  have hct := PySem.F.typeCall_set_1 (.str x t)
  repeat (any_goals (first | assumption | wp_step))
  refine codeAny_mono (code_set_new_1 (.str x t) (E := E) (Q₁ := fun v s1 => ∃ led : Bool, v = .ref s.heap.objs.size ∧ s1 = { s with heap := s.heap.push (bare led) }) fun led => ⟨led, rfl, rfl⟩) fun r s1 got => ?_
  rcases r with e | fl
  · exact got
  cases fl <;> first | exact got.elim | skip
  obtain ⟨led, rfl, rfl⟩ := got
  have hS : (s.heap.push (bare led)).get? s.heap.objs.size = some (bare led) := Heap.get?_push_size _ rfl
  have hT : Shared.TypeIs { s with heap := s.heap.push (bare led) } (.ref s.heap.objs.size) "set" := ⟨_, hS, rfl⟩
  have hli := PySem.F.called_set.init.lookup
  have hbi := PySem.F.called_set.init.bind (.ref s.heap.objs.size)
  repeat (any_goals (first | assumption | wp_step))
  refine codeAny_mono (codeAny_call_builtin (R := wants (fun r s2 => r = .none ∧ ∃ h' tk, s2 = { s with heap := h', toks := tk } ∧ h'.SetOf (PySem.strKind prog w) s.heap.objs.size (fun k => ((signs x).take x.cps.size).any (· == k)) x.cps.size ∧
      (∀ b o, s.heap.get? b = some o → h'.get? b = some o)) E) PySem.F.called_set.init.plain PySem.F.entry_set_init (check_set_init_1 hT ?_)) fun r2 s2 got2 => ?_
  · have e1 := PySem.F.sub_str_set
    have e2 := PySem.F.sub_str_frozenset
    unfold Builtin.«set.__init__» noKeywords Builtin.Frozenset.updateFrom
    generalize hPI : pyIter = PI
    wp_walk
    subst hPI
    refine wpAny_pyIter_str fun o St W st0 => wpAny_bind (wpAny_runValue ?_)
    have lt : s.heap.objs.size < (s.heap.push (bare led)).objs.size := by rw [Heap.size_push]; exact Nat.lt_succ_self _
    have apart : s.heap.objs.size ∉ [(s.heap.push (bare led)).objs.size] := fun q => absurd (List.mem_singleton.mp q) (Nat.ne_of_lt lt)
    refine fill ((W _ (by simp [calm])).toS) apart (signs x) nd (signs_len x) few (fun i v q => signAt q) x.cps.size 0 _ (Nat.zero_add _) st0 ?_ ?_
    · exact SetOf_congr ((setObjOf_fresh (knd := PySem.strKind prog w) led).setOf (Heap.get?_push_of_some _ hS) (by unfold scanBound; omega)) (fun _ => rfl) rfl
    · rintro ⟨h', g', d', tk', os'⟩ mv hS'
      obtain rfl : g' = s.gens := mv.gens
      obtain rfl : d' = s.drawn := mv.drawn
      obtain rfl : os' = s.os := mv.os
      refine wpAny_pure (wpAny_pure ⟨rfl, h', tk', rfl, hS', fun b o q => ?_⟩)
      have nb : b < s.heap.objs.size := Heap.lt_size q
      refine mv.heap b o ?_ (Heap.get?_push_of_some _ (Heap.get?_push_of_some _ q))
      intro m
      rcases List.mem_cons.mp m with e | m
      · exact absurd e (Nat.ne_of_lt nb)
      · exact absurd (List.mem_singleton.mp m) (Nat.ne_of_lt (Nat.lt_trans nb lt))
  · rcases r2 with e | fl2
    · exact got2
    cases fl2 <;> first | exact got2.elim | skip
    obtain ⟨rfl, h', tk, rfl, hS', keep⟩ := got2
    repeat (any_goals (first | assumption | wp_step))
    exact out _ _ hS' keep
end

section
variable {X : Cx}
/-- len(set(x)), x a text of few signs, none twice -/
def tLenSet (ta : TE) : TE := fun σ H Q => ta σ H fun v H1 => ∃ x : Str, v = .str x ∧ (signs x).Nodup ∧ x.cps.size ≤ 100 ∧ Q (.int x.cps.size) H1
theorem pe_lenSetT {a : Expr} {ta : TE} {p p2 q pos : Pos} (hc : X.calm = true) (g1 : Gl X "len") (m1 : X.mg "len" = none) (g2 : Gl X "set") (m2 : X.mg "set" = none) (ha : PE X a ta)
    (na : starEach [a] X.env = (false, eval a X.env) :: starEach [] X.env := by rfl) : PE X (.Call (.Name "len" p) [.Call (.Name "set" p2) [a] [] q] [] pos) (tLenSet ta) := by
  refine ⟨fun pins s σ H Q I h => Call_ (ld_blt I g1 m1 PySem.boot_len (callWith_builtin1 (args_cons (Call_ (ld_blt I g2 m2 boot_set (callWith_type1 (args_cons (thn (ha.run pins s σ H _ I h) ?_) na) na rfl))) rfl) rfl rfl))⟩
  rintro v s1 ⟨y, H1, I1, r1, x, rfl, nd, few, q1⟩
  obtain ⟨t, rfl⟩ := r1
  refine args_nil (set_text (I1.ok.hd hc) nd (by unfold scanBound; omega) fun h' tk hS keep => args_nil ?_)
  obtain ⟨o, es, ep, tb, ho, hex, hd, _, _, _, hf, hn⟩ := hS
  have I2 : Inv X pins σ H1 { s1 with heap := h', toks := tk } := I1.kept fun b o e => keep b o e
  exact call_len_set ho hex hd hf (by rw [hn]; omega) ⟨.int x.cps.size, H1, I2.tok _, ⟨_, by rw [hn]⟩, q1⟩
end
end Rg
set_option Elab.async false
set_option maxRecDepth 100000
/-! A def that is told that no repr runs around it; repr of data; the law's end with such a def. -/
namespace Rg
open PySem L2 PySem.Spec PyProof.Rows

/-- as FnOk, where nothing guards around the call -/
structure FnG (P : Program) (w : World) (K : PySem.W.Frag) (mg : Str → Option Value) (base : Heap) (CX : CXT) (k : Nat) (f : Addr) (fd : FuncData) (ps : List Str) (sp : Sp) : Prop where
  len : ∀ vs H Q E, sp vs H Q E → vs.length = ps.length
  run : ∀ (A : Around) (outer : List Env) (s : Shared) (H : Hp) (args : Args) (us : List Value) (vs : List V) (Q : VK) (E : XK), A.guards = some [] → Room k A → Env0 P w K mg base A outer s H → BindsTo s fd args (ps.zip us) → Vals vs us → sp vs H Q E →
    codeAny (model P w) A (.call (.ref f) args) (CR CX outer P w H s Q E) s

section
variable {P : Program} {w : World} {K : PySem.W.Frag} {mg : Str → Option Value} {base : Heap}
theorem funG {x qual : Str} {st : Stmt} {f : Addr} {fd : FuncData} {N ps : List Str} {k : Nat} {sp : Sp} (F : Fun K x qual st f fd) (S : FnScope N ps (defScope st)) (len : ∀ vs H Q E, sp vs H Q E → vs.length = ps.length)
    (body : ∀ (cdv : Value) (A : Around) (outer : List Env) (s : Shared) (H : Hp) (vs : List V) (Q : VK) (E : XK), A.guards = some [] → Room k (A.deeper (envOfC qual (defScope st) s.heap.objs.size f cdv)) → sp vs H Q E →
      ∃ t, PSs (cxOf CX0 P w K mg base N qual (defScope st) f cdv A outer s H E).nox (defBody st) t ∧ t { nx := fun _ H' => Q .non H', rt := Q } (start N vs) H) : FnG P w K mg base CX0 (k + 1) f fd ps sp := by
  obtain ⟨oc, od, kV, doc, pm, an, cdv, ct, osl, rfl, lk, hcd⟩ := F.ex
  refine ⟨len, fun A outer s H args us vs Q E hg hr e0 hb r want => ?_⟩
  have there : ∀ b o, base.get? b = some o → s.heap.get? b = some o := fun b o e => (e0.bs b o e).1
  have KX := e0.mod.kin.keeps there
  have kinds : ∀ y ∈ ps.zip us, (defScope st).names.lookup y.1 = some .local ∨ ((defScope st).names.lookup y.1 = some .cell ∧ ((cellsFrom (s.heap.objs.size + 1) (defScope st).names []).lookup y.1).isSome = true) := by
    rintro ⟨n, v⟩ hy
    rcases S.par n (List.of_mem_zip hy).1 with q | q
    · exact Or.inl q
    · exact Or.inr ⟨q, PySem.W.cellsFrom_some _ _ _ (Or.inl q)⟩
  refine codeAny_call_function hr.depth (KX _ _ lk) rfl S.co S.gen rfl (PySem.W.codeRec_of KX hcd) (hb _ _ _ _ (wpAny_newFunctionEnv_cells S.kind kinds ?_))
  intro env he s1 x
  subst he
  obtain ⟨t, ht, q⟩ := body cdv A outer s H vs Q E hg (hr.deeper _) want
  have I : Inv (cxOf CX0 P w K mg base N qual (defScope st) f cdv A outer s H E) [] (start N vs) H s1 := inv_start S hr.hd e0 (len _ _ _ _ want) r x
  refine ⟨(e0.mod.nolimit.keeps there).keeps x.toInCall.keep, codeAny_func (wpAny_mono (ht.nox.run [] s1 (start N vs) H _ I q) ?_ fun _ _ z => z)⟩
  intro fl s2 out
  cases fl with
  | ret u => obtain ⟨v, _, H2, J, rv, q2⟩ := out; exact ⟨v, H2, J.os, J.bare, J.base, J.hok, rv, q2⟩
  | next => obtain ⟨_, H2, J, q2⟩ := out; exact ⟨V.non, H2, J.os, J.bare, J.base, J.hok, rfl, q2⟩
  | brk => obtain ⟨_, _, _, q2⟩ := out; exact q2.elim
  | cont => obtain ⟨_, _, _, q2⟩ := out; exact q2.elim
end

section
variable {X : Cx} {CX : CXT} {k : Nat} {f : Addr} {fd : FuncData} {ps : List Str} {sp : Sp} {E : XK} {x : Str} {p pos : Pos} {e : Expr} {es : List Expr} {t : TA}
/-- f(e, ..), f such a def -/
theorem pe_callG (hg0 : X.A.guards = some []) (F : FnG X.prog X.w X.K X.mg X.base CX k f fd ps sp) (hr : Room k X.A) (hg : Gl X x) (hm : X.mg x = some (.ref f)) (hk : PySem.W.keepIn X.K (.ref f) = true) (bd : Binds X.K fd ps []) (ex : Passes CX X E)
    (ha : PA X (e :: es) t) (hdb : (x == ("__debug__" : Str)) = false := by decide) (he : starEach (e :: es) X.env = (false, eval e X.env) :: starEach es X.env := by rfl) (hpl : (backTo pos (starEach es X.env)).any (·.1) = false := by rfl) :
    PE X (.Call (.Name x p) (e :: es) [] pos) (tCall sp [] E t) := by
  refine ⟨fun pins s σ H Q I h => wpAny_Call_Name_kw (ld_glob I hg hm (PySem.W.callWith_K (h₀ := X.base) I.ok.mod.kin hk (thn (ha.run pos pins s σ H _ I h) ?_) he hpl) hdb)⟩
  rintro us s1 ⟨vs, H1, I1, r, want⟩
  rw [List.append_nil] at want
  refine ⟨I1.kIn, ?_⟩
  have len : us.length = ps.length := r.length.symm.trans (F.len _ _ _ _ want)
  have bt : BindsTo s1 fd ⟨us, []⟩ (ps.zip us) := by
    have z := bd s1 us I1.kIn (by rw [List.append_nil]; exact len)
    rw [List.append_nil] at z
    exact z
  refine wpAny_call (codeAny_mono (F.run X.A X.stack s1 H1 ⟨us, []⟩ us vs Q E hg0 hr I1.env0 bt r want) fun res s' got => ?_)
  rcases res with er | fl
  · exact ex pins σ H1 s1 er s' I1 got
  · cases fl <;> first | exact I1.after got | exact False.elim got
end

/-! ### repr -/
section
/-- how a value of the layer reads as data: no dict, no object of one's own -/
inductive Rp (K : PySem.W.Frag) (H : Hp) : V → PyData → Prop
  | non : Rp K H .non .none
  | bl (b) : Rp K H (.bl b) (.bool b)
  | int (i) : Rp K H (.int i) (.int i)
  | str (x) : Rp K H (.str x) (.str x)
  | lst {a xs ds} : SqL K H a xs → Paired (Rp K H) xs ds → Rp K H (.ref a) (.list ds)
  | tup {a xs ds} : SqT K H a xs → Paired (Rp K H) xs ds → Rp K H (.ref a) (.tuple ds)
variable {X : Cx} {pins : List (Addr × Obj)} {σ : L2.St} {H : Hp} {s : Shared}
mutual
theorem Rp.reads (I : Inv X pins σ H s) : ∀ {v : V} {d : PyData} {u : Value}, Rp X.K H v d → RelV v u → ∃ as, Reads s.heap u d as
  | _, _, _, .non, r => by cases r; exact ⟨_, .none⟩
  | _, _, _, .bl b, r => by cases r; exact ⟨_, .bool b⟩
  | _, _, _, .int i, r => by obtain ⟨t, rfl⟩ := r; exact ⟨_, .int i t⟩
  | _, _, _, .str x, r => by obtain ⟨t, rfl⟩ := r; exact ⟨_, .str x t⟩
  | _, _, _, .lst h all, r => by
    cases r
    obtain ⟨its, rv, ⟨o, n, eo, hc, _, hd⟩, _⟩ := I.list h
    obtain ⟨as, ra⟩ := Rp.readsAll I all rv
    exact ⟨_, .list eo hc hd ra⟩
  | _, _, _, .tup h all, r => by
    cases r
    obtain ⟨its, rv, ⟨o, eo, hc, n, hd⟩, _⟩ := I.tuple h
    obtain ⟨as, ra⟩ := Rp.readsAll I all rv
    exact ⟨_, .tuple eo hc hd ra⟩
theorem Rp.readsAll (I : Inv X pins σ H s) : ∀ {vs : List V} {ds : List PyData} {us : List Value}, Paired (Rp X.K H) vs ds → Vals vs us → ∃ as, ReadsAll s.heap us ds as
  | _, _, _, .nil, .nil => ⟨_, .nil⟩
  | _, _, _, .cons a b, .cons r t => by
    obtain ⟨as, h1⟩ := Rp.reads I a r
    obtain ⟨bs, h2⟩ := Rp.readsAll I b t
    exact ⟨_, .cons h1 h2⟩
end
/-- repr(v), v a list of data -/
def rRepr (K : PySem.W.Frag) : List V → Hp → VK → Prop := fun vs H Q => ∃ a d, vs = [.ref a] ∧ Rp K H (.ref a) d ∧ d.showable = true ∧ d.hasDict = false ∧ d.depth ≤ 20 ∧ d.shown.length ≤ sizeLine ∧ Q (.str d.shown) H
theorem cr_repr (hg : X.A.guards = some []) (hr : Room 0 X.A) : CallR X (.builtin "repr") (rRepr X.K) := by
  rintro pins s σ H xs us Q I r ⟨a, d, rfl, rd, h1, h2, h3, h4, q⟩
  cases r with
  | cons r0 r1 =>
    cases r1
    obtain ⟨as, R⟩ := Rp.reads I rd r0
    cases r0
    refine repr_of_reads' R h1 (fun z => absurd (h2.symm.trans z) Bool.false_ne_true) hg (by have := hr.un; omega) (fun _ _ e => e) (fun h' u tk keep => ?_) h4
    exact ⟨.str d.shown, H, I.kept keep, ⟨u, rfl⟩, q⟩
end

/-! ### the law's end -/
theorem lawG {P : Program} {w : World} {K : PySem.W.Frag} {mg mb : Str → Option Value} {k : Nat} {fa a : Addr} {fd : FuncData} {x : Str} {sp : Sp} {s₁ : Shared} {vs : List Value} {ns : List Int}
    (KX : K.In s₁.heap) (hns : s₁.heap.Ns mainGlobals mg) (hb : s₁.heap.Ns builtinsNs mb) (hbb : ∀ x : Str, x ≠ "__name__" → mb x = bootBuiltins x) (hlim : s₁.heap.NoLimit) (hg : s₁.gens = #[])
    (ha : s₁.heap.get? a = some { cls := .type "list", data := .seq vs.toArray }) (hi : IntsAre vs ns) (hl : ns.length ≤ sizeLine) (hr : Room k callerA)
    (F : ∀ base : Heap, K.In base → base.Ns mainGlobals mg → FnG P w K mg base CX0 k fa fd [x] sp) (bind : ∀ (s : Shared) (u : Value), BindsTo s fd ⟨[u], []⟩ [(x, u)])
    (want : ∀ H : Hp, Only H → SqL K H a (ns.map V.int) → sp [.ref a] H (fun v _ => v = .bl true) fun _ _ _ => False) :
    codeAny (model P w) callerA (.call (.ref fa) ⟨[.ref a], []⟩) (fun r s' => r = .ok (.ret (.bool true)) ∧ OldK s₁.heap s'.heap ∧ s'.os = s₁.os ∧ AllBare s'.gens) s₁ := by
  have rv := vals_ints hi
  have ln := hi.length
  -- H tracks the script at most
  have main : ∀ H : Hp, Only H → SqL K H a (ns.map V.int) → HOk P w H s₁.heap → (∀ b, H b ≠ none → b = a ∧ K.lookup a = none) →
      codeAny (model P w) callerA (.call (.ref fa) ⟨[.ref a], []⟩) (fun r s' => r = .ok (.ret (.bool true)) ∧ OldK s₁.heap s'.heap ∧ s'.os = s₁.os ∧ AllBare s'.gens) s₁ := by
    intro H only seq hok few
    have none_of : ∀ {b : Addr}, ¬ (b = a ∧ K.lookup a = none) → H b = none := fun {b} z => Decidable.by_contra fun q => z (few b q)
    have dicts : ∀ {b : Addr} {m : Str → Option Value}, s₁.heap.Ns b m → (hidT s₁.heap H).Ns b m := by
      rintro b m ⟨o, es, ep, e, d, r⟩
      refine ⟨o, es, ep, hidT_get e (none_of ?_), d, r⟩
      rintro ⟨rfl, _⟩
      cases ha.symm.trans e
      cases d
    have KB : K.In (hidT s₁.heap H) := fun b o e => hidT_get (KX b o e) (none_of (by
      rintro ⟨rfl, z⟩
      cases z.symm.trans e))
    have M : Mod K mg (hidT s₁.heap H) := ⟨KB, dicts hns, ⟨mb, dicts hb, hbb⟩, let ⟨mc, h1, h2⟩ := hlim; ⟨mc, dicts h1, h2⟩⟩
    have none0 : ∀ b, b ∉ frs ([] : List Env) := fun b => by unfold frs; simp
    have e0 : Env0 P w K mg (hidT s₁.heap H) callerA [] s₁ H := ⟨rfl, M, fun b o e => of_hidT e, Nat.le_of_eq (hidT_size _ _), trivial, fun b q => absurd q (none0 b), hok, .of_eq hg⟩
    refine codeAny_mono ((F _ KB (dicts hns)).run callerA [] s₁ H ⟨[.ref a], []⟩ [.ref a] [.ref a] _ _ rfl hr e0 (bind s₁ (.ref a)) (.cons rfl .nil) (want H only seq)) fun r s' got => ?_
    rcases r with er | fl
    · exact False.elim got
    cases fl <;> first | exact False.elim got | skip
    obtain ⟨v, H', os, bare, un, hok', r', q⟩ := got
    subst q
    cases r'
    refine ⟨rfl, OldK.of_keep fun b o e => ?_, os, bare⟩
    rcases only b with z | ⟨ob, xs, z⟩
    · exact un.keep b o e z (none0 b) (by simp)
    · obtain ⟨e1, _⟩ := hok b _ z
      obtain ⟨e2, _⟩ := hok' b _ (un.frzs b ob _ z)
      cases e1.symm.trans e
      exact e2
  cases hk : K.lookup a with
  | some o =>
    have e := KX a o hk
    cases ha.symm.trans e
    exact main (fun _ => none) (fun _ => Or.inl rfl) (Or.inr ⟨_, vs.toArray, _, hk, rfl, rfl, rfl, by rw [List.size_toArray, ln]; exact hl, by simpa using rv⟩) (fun b u z => by cases (show (none : Option HO) = some u from z)) fun b z => absurd rfl z
  | none =>
    let ob : Obj := { cls := .type "list", data := .seq vs.toArray }
    have at_ : ∀ {b : Addr} {u : HO}, (if b = a then some (HO.frz ob (.lst (ns.map V.int))) else none) = some u → b = a ∧ u = HO.frz ob (.lst (ns.map V.int)) := by
      intro b u z
      by_cases q : b = a
      · rw [if_pos q] at z; exact ⟨q, (Option.some.inj z).symm⟩
      · rw [if_neg q] at z; cases z
    refine main (fun b => if b = a then some (.frz ob (.lst (ns.map V.int))) else none) (fun b => ?_) (Or.inl (Or.inr ⟨ob, if_pos rfl⟩)) (fun b u z => ?_) (fun b z => ?_)
    · by_cases q : b = a
      · exact Or.inr ⟨_, _, if_pos q⟩
      · exact Or.inl (if_neg q)
    · obtain ⟨rfl, rfl⟩ := at_ z
      exact ⟨ha, by rw [List.length_map]; exact hl, vs, _, rv, ha⟩
    · cases q : (if b = a then some (HO.frz ob (.lst (ns.map V.int))) else none) with
      | none => exact absurd q z
      | some u => exact ⟨(at_ q).1, hk⟩
theorem walkG {l : PySem.W.OpenLaw} {n k : Nat} {q : Program} {loose : List Str} {XP : (Str → Option Value) → Heap → Prop} {YP : World → Heap → Prop} {d : DefRec} {K : Params → PySem.W.Frag} {sp : World → Sp} {x : Str}
    (hn : l.most = some n) (hn2 : n ≤ sizeLine) (hdf : d.params.defaults = []) (hr : Room k callerA) (hY : ∀ (w : World) (h : Heap), YP w h → (K w.params).In h)
    (F : ∀ (w : World) (mg : Str → Option Value) (fa : Addr) (h : Heap), (K w.params).In h → h.Ns mainGlobals mg → mg d.name = some (.ref fa) →
      ∃ fd : FuncData, (∀ (s : Shared) (u : Value), BindsTo s fd ⟨[u], []⟩ [(x, u)]) ∧ ∀ base : Heap, (K w.params).In base → base.Ns mainGlobals mg → FnG l.prog w (K w.params) mg base CX0 k fa fd [x] (sp w))
    (want : ∀ (w : World) (H : Hp) (a : Addr) (ns : List Int), ns.length ≤ n → (∀ z ∈ ns, Builtin.Int.intBits z ≤ 1048576) → Only H → SqL (K w.params) H a (ns.map V.int) → sp w [.ref a] H (fun v _ => v = .bl true) fun _ _ _ => False) :
    PySem.W.WalkO q loose XP YP l.row.toRowW d [] (fun f vs => PySem.call f vs) := by
  refine Att.attach_callB hn hdf fun w s₀ s₁ mg mb fa o pm cd doc a vs ns G Y ho hd hcd hmg hobj hints hlen hbits hg => ?_
  obtain ⟨fd, hb, hF⟩ := F w mg fa _ (hY w _ Y) G.T.g hmg
  exact lawG (hY w _ Y) G.T.g G.T.b G.T.builtins G.T.nolimit hg hobj hints (Nat.le_trans hlen hn2) hr hF hb fun H only seq => want w H a ns hlen hbits only seq
end Rg
set_option Elab.async false
set_option maxRecDepth 100000
set_option autoImplicit false
/-! An error class of the program whose __init__ hands a text to the one above and keeps its fields. -/
namespace Er
open PySem L2 PySem.Spec PyProof.Rows PySem.Calls
abbrev veInit : String := "ValueError.__init__"
section
variable {prog : Program} {w : World} {A : Around} {E : Value → Shared → Prop} {K : PySem.W.Frag} {h : Heap} {g : Array GenState} {d : Drawn} {t : Nat} {os : OsState}
variable {nm q : Str} {C N : Addr} {bs bm : List Value} {sn : List Str} {sub : List Value} {ab : Bool} {col : Option Bool} {dd : Option Addr} {k0 k1 k2 k3 k5 : Option Value}
/-- the bound wrapper is called: the args are laid, else all stays -/
theorem wrapCall {u e t0 : Addr} {rest : List Value} {Q : Value → Shared → Prop} (hC : h.get? C = some (excClassObj nm q C N bs bm true sn sub ab col dd k0 k1 k2 k3 k5 "ValueError.__new__"))
    (hu : h.get? u = some (PySem.W.kxs_mw veInit e)) (he : h.get? e = some (PySem.HandSPX.excO C t0)) (few : rest.length ≤ sizeLine)
    (go : ∀ h' t1, (∀ b o, b ≠ e → h.get? b = some o → h'.get? b = some o) → h'.get? e = some (PySem.HandSPX.excO C t1) → Q .none ⟨h', g, d, t, os⟩) : wpAny (model prog w) A (call (.ref u) rest) Q E ⟨h, g, d, t, os⟩ := by
  refine wpAny_call (codeAny_of_tree ?_)
  show wpAny (model prog w) A.in1 (callAny (.ref u) ⟨rest, []⟩) _ _ _
  simp only [callAny]
  refine wpAny_bind (wpAny_load hu ?_)
  have k1' : (Value.type "method-wrapper" == Value.type "method" || Value.type "method-wrapper" == Value.type "builtin_function_or_method" || Value.type "method-wrapper" == Value.type "method-wrapper") = true := by decide
  simp only [k1', if_true]
  refine PySem.W.KFB.if_so (by decide) (wpAny_bind ?_)
  refine PySem.W.check_bound_init PySem.F.excBase_ValueError.toExcCallFacts hC he rfl (wpAny_bind (wpAny_pure (wpAny_pure ⟨plainId_quiet PySem.F.excBase_ValueError.init.plain _, codeAny_builtin PySem.F.excBase_ValueError.initEntry ?_⟩)))
  refine PySem.W.exc_init_tree (cls := .ref C) (t0 := t0) (dv := none) (c2 := .none) (c3 := .none) (b4 := .bool false) he few fun h' a b _ => go h' _ a b
/-- what is written of such a class, and of its __init__ at fI, whose cell is at cc, whose code at cda -/
structure ErrC (prog : Program) (K : PySem.W.Frag) (C fI cc cda : Addr) : Prop where
  cls : ∃ nm q N bs bm sn sub ab col dd k0 k1 k2 k3 k5, K.lookup C = some (excClassObj nm q C N bs bm true sn sub ab col dd k0 k1 k2 k3 k5 "ValueError.__new__") ∧ PySem.HandSPX.refsVE bm = true
  sup : PySem.W.ks_superIn K C C "__init__" = some (some (.builtin veInit))
  any_ : PySem.W.nsIn K cStatics "thirdparty.any" = some none
  ve : PySem.W.subIn K (.ref C) (.type "ValueError") = some true
  self_ : PySem.W.mroIn K C (.ref C) = some true
  cell : ∃ cl cld csl, K.lookup cc = some ⟨cl, cld, .cell (some (.ref C)), csl⟩
  code : ∃ ccl cdd vs ccs file tf, K.lookup cda = some ⟨ccl, cdd, .fields vs, ccs⟩ ∧ vs[2]? = some (.str file tf) ∧ ((prog.main.file : Str) == file) = true
  top : (prog.main.scope.names.lookup ("super" : Str)).isSome = false
/-- super().__init__("..") -/
theorem superLine {fI cc cda x L t0 : Addr} {fd : FuncData} {oc : Value} {od : Option Addr} {osl : Array (Option Value)} {ar : Arg} {m mg mb : Str → Option Value} {qual msg : Str} {scope : Scope} {body : List Stmt} {j : Nat} {p0 p1 p2 p3 p4 p5 : Pos} {pl : Sem Bool} {Q : Flow → Shared → Prop}
    (T : ErrC prog K C fI cc cda) (X : K.In h) (lk : K.lookup fI = some ⟨oc, od, .func fd, osl⟩) (hp : (fd.params.posonlyargs ++ fd.params.args).head? = some ar) (hks : scope.names.lookup ("super" : Str) = some .globalImplicit) (hkc : scope.names.lookup ("__class__" : Str) = some .free)
    (hka : scope.names.lookup ar.arg = some .local) (hk : scope.kind = .function) (hns : h.Ns L m) (hself : m ar.arg = some (.ref x)) (hx : h.get? x = some (PySem.HandSPX.excO C t0)) (gl : h.Ns mainGlobals mg) (gs : mg "super" = none) (bl : h.Ns builtinsNs mb) (bb : mb "super" = bootBuiltins "super")
    (go : ∀ h' tk t1, (∀ b o, b ≠ x → h.get? b = some o → h'.get? b = some o) → h'.get? x = some (PySem.HandSPX.excO C t1) → Q .next ⟨h', g, d, tk, os⟩)
    (he : eval (.Call (.Attribute (.Call (.Name "super" p0) [] [] p1) "__init__" p2) [.Constant (.str msg) j p3] [] p4) (PySem.W.ksEnv qual scope L fI (.ref cda) cc) = (do
        let ov ← attributeBase (.Call (.Name "super" p0) [] [] p1) "__init__" (PySem.W.ksEnv qual scope L fI (.ref cda) cc) (eval (.Call (.Name "super" p0) [] [] p1) (PySem.W.ksEnv qual scope L fI (.ref cda) cc))
        standAt p2.atName
        let (f, first) ← holding [ov] (getMethod ov "__init__" pl)
        callWith p4 f first (backTo p4 (starEach [.Constant (.str msg) j p3] (PySem.W.ksEnv qual scope L fI (.ref cda) cc))) []) := by rfl)
    (hi : interactive (PySem.W.ksEnv qual scope L fI (.ref cda) cc) = false := by rfl) (hsw : swapsWith (.Call (.Attribute (.Call (.Name "super" p0) [] [] p1) "__init__" p2) [.Constant (.str msg) j p3] [] p4) none p5.line (PySem.W.ksEnv qual scope L fI (.ref cda) cc) = pure false := by rfl) :
    _root_.PySem.wpAt (model prog w) A (.func body (PySem.W.ksEnv qual scope L fI (.ref cda) cc)) (exec (.Expr (.Call (.Attribute (.Call (.Name "super" p0) [] [] p1) "__init__" p2) [.Constant (.str msg) j p3] [] p4) p5) (PySem.W.ksEnv qual scope L fI (.ref cda) cc)) Q E ⟨h, g, d, t, os⟩ := by
  obtain ⟨nm, q, N, bs, bm, sn, sub, ab, col, dd, k0, k1, k2, k3, k5, hC, hbm⟩ := T.cls
  obtain ⟨ccl, cdd, vs, ccs, file, tf, hcode, hvs, hfile⟩ := T.code
  obtain ⟨cl, cld, csl, hcell⟩ := T.cell
  have hcd : ∃ cd, PySem.W.clsIn K C = some cd ∧ PySem.W.alongIn K "__init__" ((cd.mro.dropWhile (· != .ref C)).drop 1) = some (some (.builtin veInit)) := Option.bind_eq_some_iff.mp T.sup
  obtain ⟨cd, hcd, along⟩ := hcd
  have I0 : PySem.W.InstAt h x (PySem.HandSPX.excO C t0) C none := ⟨hx, rfl, rfl, trivial⟩
  have ne : x ≠ C := PySem.W.ks_ne X I0 hcd
  refine PySem.ks_wpAt_Expr_any (PySem.ks_wpAt_MethodCall (PySem.ks_wpAt_super_base (env := PySem.W.ksEnv qual scope L fI (.ref cda) cc) hks hkc (by decide) rfl (X _ _ lk) rfl hp rfl (X _ _ hcode) rfl hvs hfile T.top ?_) he) hi hsw
  refine PySem.W.ks_loadName_global hk hks (loadGlobal_builtin (env := PySem.W.ksEnv qual scope L fI (.ref cda) cc) gl gs bl (bb.trans (by decide +kernel : bootBuiltins "super" = some (.type "super"))) ⟨rfl, ?_⟩)
  refine wpAny_loadName_free hk hkc rfl ⟨_, X _ _ hcell, rfl⟩ (wpAny_loadName_local hk hka hns hself (PySem.ks_wpAny_isType_cls (X _ _ hC) rfl ⟨rfl, ?_⟩))
  refine PySem.ks_wpAny_call_super (X _ _ hC) rfl hx rfl (fun c e => by cases e) (PySem.W.looks_mroIn X T.self_) (fun h1 hso keep => ?_)
  have X1 := X.keeps keep
  have hx1 := keep _ _ hx
  have I1 : PySem.W.InstAt h1 x (PySem.HandSPX.excO C t0) C none := ⟨hx1, rfl, rfl, trivial⟩
  refine PySem.W.kxs_getMethod PySem.W.kxs_ValueError hso (PySem.W.looks_opaque X1 T.any_) (l₀ := cd.mro) (fun A Q E s k q => wpAny_bind (PySem.W.looks_clsIn X1 hcd A _ E s k (wpAny_pure q))) rfl X1 along (I1.type.andThen (PySem.W.looks_subIn X1 T.ve)) ne (by decide) ?_
  have hu : (h1.push (PySem.W.kxs_mw veInit x)).get? h1.objs.size = some (PySem.W.kxs_mw veInit x) := by heap_get
  have k2 : ∀ b o, h1.get? b = some o → (h1.push (PySem.W.kxs_mw veInit x)).get? b = some o := fun b o e => Heap.get?_push_of_some _ e
  refine PySem.W.kxs_callWith (i := veInit) (x := x) rfl (evalArgs_plain (spliced_cons (@Constant_str _ _ _ _ _ _ j p3 _ (spliced_nil ⟨hu, ?_⟩))))
  have keep2 : ∀ b o, h.get? b = some o → (h1.push (PySem.W.kxs_mw veInit x)).get? b = some o := fun b o e => k2 b o (keep b o e)
  refine wrapCall (X.keeps keep2 _ _ hC) hu (keep2 _ _ hx) (by show 1 ≤ sizeLine; decide) fun h' t1 k3 hx' => ?_
  exact (go h' _ t1 (fun b o n e => k3 b o n (keep2 b o e)) hx')
end
end Er
set_option Elab.async false
set_option maxRecDepth 100000
set_option autoImplicit false
namespace Er
open PySem L2 PySem.Spec PyProof.Rows PySem.Calls
/-! ### such an __init__ as a def of the hand's layer -/
theorem lookup_mem {α : Type} {x : Str} {u : α} : ∀ {l : List (Str × α)}, (l.map (·.1)).Nodup → (x, u) ∈ l → l.lookup x = some u
  | [], _, h => absurd h List.not_mem_nil
  | (y, v) :: r, nd, h => by
    rw [List.map_cons, List.nodup_cons] at nd
    rcases List.mem_cons.mp h with e | h'
    · cases e
      simp [List.lookup]
    · have ne : x ≠ y := by
        rintro rfl
        exact nd.1 (List.mem_map.mpr ⟨(_, u), h', rfl⟩)
      have e : (x == y) = false := by simpa using ne
      simp only [List.lookup, e]
      exact lookup_mem nd.2 h'
theorem zip_rev {ps : List Str} {us : List Value} {i : Nat} {x : Str} {u : Value} (nd : ps.Nodup) (l : us.length = ps.length) (h1 : ps[i]? = some x) (h2 : us[i]? = some u) : (ps.zip us).reverse.lookup x = some u := by
  refine lookup_mem ?_ (List.mem_reverse.mpr ?_)
  · rw [List.map_reverse, List.map_fst_zip (by omega)]
    unfold List.Nodup
    rw [List.pairwise_reverse]
    exact nd.imp fun h => h.symm
  · refine List.mem_of_getElem? (i := i) ?_
    rw [List.getElem?_zip_eq_some]
    exact ⟨h1, h2⟩
def exX (P : Program) (w : World) (K : PySem.W.Frag) (mg : Str → Option Value) (base : Heap) (N : List Str) (qual : Str) (scope : Scope) (f cda cc : Addr) (A : Around) (outer : List Env) (s : Shared) (H : Hp) : Cx where
  prog := P
  w := w
  K := K
  mg := mg
  base := base
  A := A.deeper (PySem.W.ksEnv qual scope s.heap.objs.size f (.ref cda) cc)
  N := N
  s_0 := s
  H_0 := H
  env := PySem.W.ksEnv qual scope s.heap.objs.size f (.ref cda) cc
  outer := outer
  stack := PySem.W.ksEnv qual scope s.heap.objs.size f (.ref cda) cc :: outer
  ex := []
  calm := true
  fn := fun _ => false
  pn := []
  xe := fun _ _ => False
/-- the scope of such an __init__ -/
structure ErrS (ps : List Str) (scope : Scope) : Prop where
  kind : scope.kind = .function
  nd : ps.Nodup
  par : ∀ x ∈ ps, scope.names.lookup x = some .local
  nocell : ∀ x ∈ scope.names, x.2 ≠ .cell
  sup : scope.names.lookup ("super" : Str) = some .globalImplicit
  cls : scope.names.lookup ("__class__" : Str) = some .free
  free : ∀ x, scope.names.lookup x = some .free → x = "__class__"
  self_ : ps[0]? = some ("self" : Str)
  co : scope.isCoroutine = false
  gen : scope.isGenerator = false
section
variable {P : Program} {w : World} {K : PySem.W.Frag} {mg : Str → Option Value} {base : Heap}
theorem start_inv {ps : List Str} {qual : Str} {scope : Scope} {C f cda cc : Addr} {A : Around} {outer : List Env} {s : Shared} {H : Hp} {us : List Value} {vs : List V} {h0 : Heap} {tk : Nat} (S : ErrS ps scope) (T : ErrC P K C f cc cda) (hd : A.handled = none) (e0 : Env0 P w K mg base A outer s H)
    (hl : vs.length = ps.length) (r : Vals vs us) (hns : h0.Ns s.heap.objs.size (fun x => (ps.zip us).reverse.lookup x)) (keep : ∀ b o, s.heap.get? b = some o → h0.get? b = some o) :
    Inv (exX P w K mg base ps qual scope f cda cc A outer s H) [] (L2.start ps vs) H { s with heap := h0, toks := tk } := by
  obtain ⟨cl, cld, csl, hcell⟩ := T.cell
  have bc := e0.mod.kin _ _ hcell
  have one : ∀ {x : Str} {c : Addr}, ([(("__class__" : Str), cc)] : List (Str × Addr)).lookup x = some c → x = "__class__" ∧ c = cc := by
    intro x c e
    by_cases q : x = "__class__"
    · subst q
      have z : some cc = some c := e
      exact ⟨rfl, (Option.some.inj z).symm⟩
    · have q2 : (x == ("__class__" : Str)) = false := by simpa using q
      simp [List.lookup, q2] at e
  have noex : ∀ b : Addr, b ∉ (exX P w K mg base ps qual scope f cda cc A outer s H).ex := fun b z => absurd (show b ∈ ([] : List Addr) from z) (by simp)
  refine ⟨⟨e0.mod, S.kind, rfl, rfl, Nat.le_refl _, fun x y c h1 h2 => ?_, fun x hx => ?_, fun x c z _ => absurd (show false = true from z) Bool.false_ne_true, fun _ => hd, Around.frames_deeper e0.frames, .inr ⟨rfl, rfl⟩, fun b z => absurd z (noex b), e0.bs, e0.bsz, fun b _ _ => noex b, fun b z => absurd z (noex b), e0.funs, e0.frf⟩,
    rfl, e0.bare, Un.kept keep, ⟨_, hns, fun i x v h1 h2 h3 => ?_⟩, fun x c h => ?_, e0.hok.fresh (Nat.le_refl _), fun x c h => ?_, fun p hp => absurd (show p ∈ ([] : List (Addr × Obj)) from hp) (by simp), e0.hok.kept keep, ?_⟩
  · exact (one h1).1.trans (one h2).1.symm
  · have hx' : scope.names.lookup x = some .cell ∨ scope.names.lookup x = some .free := hx
    rcases hx' with z | z
    · exact absurd rfl (S.nocell _ (PySem.mem_of_lookup z))
    · refine ⟨cc, ?_⟩
      show ([(("__class__" : Str), cc)] : List (Str × Addr)).lookup x = some cc
      rw [S.free x z]
      rfl
  · have hi : i < vs.length := by
      have q := (List.getElem?_eq_some_iff.mp h1).1
      have q : i < ps.length := q
      omega
    have ha : vs[i]? = some v := by
      unfold L2.start at h2
      rw [List.getElem?_append_left (by simpa using hi), List.getElem?_map] at h2
      cases e : vs[i]? with
      | none => rw [e] at h2; cases h2
      | some a => rw [e] at h2; cases h2; rfl
    obtain ⟨u, hu, rv⟩ := r.get ha
    have hp : ps[i]? = some x := h1
    exact ⟨u, rv, .inl ⟨S.par x (List.mem_of_getElem? hp), zip_rev S.nd (r.length.symm.trans hl) hp hu⟩⟩
  · obtain ⟨_, rfl⟩ := one h
    exact ⟨_, _, keep _ _ (e0.bs _ _ bc).1, rfl⟩
  · obtain ⟨_, rfl⟩ := one h
    exact (e0.bs _ _ bc).2
  · unfold L2.start
    show _ = ps.length
    rw [List.length_append, List.length_map, List.length_replicate]
    omega
end
end Er
set_option Elab.async false
set_option maxRecDepth 100000
set_option autoImplicit false
namespace Er
open PySem L2 PySem.Spec PyProof.Rows PySem.Calls
section
variable {P : Program} {w : World} {K : PySem.W.Frag} {mg : Str → Option Value} {base : Heap}
theorem ok_err {ps : List Str} {name qual msg : Str} {params : Arguments} {body rest : List Stmt} {scope : Scope} {C f cda cc : Addr} {oc dV kV doc pm ct : Value} {od an : Option Addr} {osl : Array (Option Value)} {ar : Arg} {sp : Sp} {j : Nat} {p0 p1 p2 p3 p4 p5 : Pos} {pl : Sem Bool}
    (T : ErrC P K C f cc cda) (S : ErrS ps scope) (lk : K.lookup f = some ⟨oc, od, .func (PySem.W.ksFn name qual params body scope dV kV doc pm an (.ref cda) ct cc), osl⟩) (hcd : PySem.W.codeIn K (.ref cda) qual = true) (gs : mg "super" = none)
    (hp : (params.posonlyargs ++ params.args).head? = some ar) (har : ar.arg = "self") (hb : body = .Expr (.Call (.Attribute (.Call (.Name "super" p0) [] [] p1) "__init__" p2) [.Constant (.str msg) j p3] [] p4) p5 :: rest)
    (len : ∀ vs H Q E, sp vs H Q E → vs.length = ps.length) (first : ∀ vs H Q E, sp vs H Q E → ∃ a ws, vs = .ref a :: ws ∧ H a = some (exo a C none))
    (hbody : ∀ (A : Around) (outer : List Env) (s : Shared) (H : Hp) (vs : List V) (Q : VK) (E : XK), sp vs H Q E →
      ∃ t, PSs (exX P w K mg base ps qual scope f cda cc A outer s H) rest t ∧ t { nx := fun _ H' => Q .non H', rt := Q } (L2.start ps vs) H)
    (he : ∀ L, eval (.Call (.Attribute (.Call (.Name "super" p0) [] [] p1) "__init__" p2) [.Constant (.str msg) j p3] [] p4) (PySem.W.ksEnv qual scope L f (.ref cda) cc) = (do
        let ov ← attributeBase (.Call (.Name "super" p0) [] [] p1) "__init__" (PySem.W.ksEnv qual scope L f (.ref cda) cc) (eval (.Call (.Name "super" p0) [] [] p1) (PySem.W.ksEnv qual scope L f (.ref cda) cc))
        standAt p2.atName
        let (g, first) ← holding [ov] (getMethod ov "__init__" pl)
        callWith p4 g first (backTo p4 (starEach [.Constant (.str msg) j p3] (PySem.W.ksEnv qual scope L f (.ref cda) cc))) []))
    (hi : ∀ L, interactive (PySem.W.ksEnv qual scope L f (.ref cda) cc) = false) (hsw : ∀ L, swapsWith (.Call (.Attribute (.Call (.Name "super" p0) [] [] p1) "__init__" p2) [.Constant (.str msg) j p3] [] p4) none p5.line (PySem.W.ksEnv qual scope L f (.ref cda) cc) = pure false) :
    FnOk P w K mg base CX0 1 f (PySem.W.ksFn name qual params body scope dV kV doc pm an (.ref cda) ct cc) ps sp := by
  refine ⟨len, fun A outer s H args us vs Q E hr e0 hbind r hsp => ?_⟩
  obtain ⟨a, ws, ev, ea⟩ := first _ _ _ _ hsp
  have there : ∀ b o, base.get? b = some o → s.heap.get? b = some o := fun b o e => (e0.bs b o e).1
  have KX : K.In s.heap := e0.mod.kin.keeps there
  have hl := len _ _ _ _ hsp
  refine ks_codeAny_call_defAt hr.depth (KX _ _ lk) rfl (e0.mod.nolimit.keeps there) (PySem.W.codeRec_of KX hcd) rfl hbind S.nocell (fun x hx => S.par _ (List.of_mem_zip hx).1) (fun h0 hns keep => ?_) S.co S.gen S.kind
  have I0 := start_inv (w := w) (qual := qual) (tk := s.toks + (ps.zip us).length) S T hr.hd e0 hl r hns keep
  obtain ⟨t1, ho⟩ := exo_at I0.hok ea
  obtain ⟨t, ht, q⟩ := hbody A outer s H _ Q E hsp
  obtain ⟨mb, hmb, hbb⟩ := e0.mod.blt
  have old : ∀ b o, base.get? b = some o → h0.get? b = some o := fun b o e => keep b o (there b o e)
  have hs0 : (ps.zip us).reverse.lookup ar.arg = some (.ref a) := by
    rw [har]
    subst ev
    cases r with
    | cons r0 r1 =>
      obtain rfl : _ = Value.ref a := r0
      refine zip_rev (i := 0) S.nd ?_ S.self_ rfl
      rw [List.length_cons, ← r1.length]
      exact hl
  have hka : scope.names.lookup ar.arg = some .local := by
    rw [har]
    exact S.par _ (List.mem_of_getElem? S.self_)
  rw [hb]
  refine ks_wpAt_execs_cons ?_
  refine superLine T (e0.mod.kin.keeps old) lk hp S.sup S.cls hka S.kind hns hs0 ho (e0.mod.glob.keeps old) gs (hmb.keeps old) (hbb _ (by decide)) (fun h' tk t2 k3 hx => ?_) (he _) (hi _) (hsw _)
  have J := I0.write (t' := tk) (x := a) (e := a) (o := exo a C none) (by rw [ea]; exact True.intro) (.inl rfl) k3 ⟨_, hx⟩ (exo_ok hx)
  have eu : upd H a (exo a C none) = H := by
    funext b
    by_cases z : b = a
    · rw [z, upd_same, ea]
    · rw [upd_ne z]
  rw [eu] at J
  refine wpAt_of_wpAny (wpAny_mono (ht.run [] _ _ H _ J q) (fun fl s2 out => ?_) fun _ _ z => False.elim z)
  cases fl with
  | ret u => obtain ⟨v, _, H2, J2, rv, q2⟩ := out; exact ⟨v, H2, J2.os, J2.bare, J2.base, J2.hok, rv, q2⟩
  | next => obtain ⟨_, H2, J2, q2⟩ := out; exact ⟨V.non, H2, J2.os, J2.bare, J2.base, J2.hok, rfl, q2⟩
  | brk => obtain ⟨_, _, _, q2⟩ := out; exact q2.elim
  | cont => obtain ⟨_, _, _, q2⟩ := out; exact q2.elim
end
end Er
set_option Elab.async false
set_option maxRecDepth 100000
set_option autoImplicit false
namespace Er
open PySem L2 PySem.Spec PyProof.Rows PySem.Calls
/-- self.f = p behind the text -/
def spErr1 (C : Addr) (f : Str) : Sp := fun vs H Q _ => ∃ a v, vs = [.ref a, v] ∧ H a = some (exo a C none) ∧ ∀ dx, H dx = none → dx ≠ a → Q .non (upd (upd H dx (exd dx [(f, v)])) a (exo a C (some dx)))
def spErr2 (C : Addr) (f g : Str) : Sp := fun vs H Q _ => ∃ a v u, vs = [.ref a, v, u] ∧ H a = some (exo a C none) ∧ ∀ dx, H dx = none → dx ≠ a → Q .non (upd (upd (upd H dx (exd dx [(f, v)])) a (exo a C (some dx))) dx (exd dx [(g, u), (f, v)]))
section
variable {P : Program} {w : World} {K : PySem.W.Frag} {mg : Str → Option Value} {base : Heap}
theorem rest1 {p f qual : Str} {scope : Scope} {C fi cda cc : Addr} {q1 q2 q3 q4 : Pos} (S : ErrS ["self", p] scope) (O : OexC K C) (no : PySem.W.findIn K (.ref C) f = some none) (d1 : (p == ("__debug__" : Str)) = false) (d2 : (p == ("__classdict__" : Str)) = false)
    (A : Around) (outer : List Env) (s : Shared) (H : Hp) (vs : List V) (Q : VK) (E : XK) (h : spErr1 C f vs H Q E) :
    ∃ t, PSs (exX P w K mg base ["self", p] qual scope fi cda cc A outer s H) [.Assign [.Attribute (.Name "self" q1) f q2] (.Name p q3) q4] t ∧ t { nx := fun _ H' => Q .non H', rt := Q } (L2.start ["self", p] vs) H := by
  obtain ⟨a, v, rfl, ea, k⟩ := h
  refine ⟨_, pss_one (ps_ost (pe_var (i := 0) (x := "self") rfl (.inl (S.par _ (by simp)))) (pe_var (i := 1) (x := p) rfl (.inl (S.par _ (by simp))) d1 d2)), ?_⟩
  exact ⟨_, rfl, _, rfl, a, C, rfl, O, no, .inl ⟨ea, fun dx n ne => k dx n ne⟩⟩
theorem rest2 {p p' f g qual : Str} {scope : Scope} {C fi cda cc : Addr} {q1 q2 q3 q4 r1 r2 r3 r4 : Pos} (S : ErrS ["self", p, p'] scope) (O : OexC K C) (no : PySem.W.findIn K (.ref C) f = some none) (no' : PySem.W.findIn K (.ref C) g = some none) (d1 : (p == ("__debug__" : Str)) = false) (d2 : (p == ("__classdict__" : Str)) = false) (d3 : (p' == ("__debug__" : Str)) = false) (d4 : (p' == ("__classdict__" : Str)) = false)
    (A : Around) (outer : List Env) (s : Shared) (H : Hp) (vs : List V) (Q : VK) (E : XK) (h : spErr2 C f g vs H Q E) :
    ∃ t, PSs (exX P w K mg base ["self", p, p'] qual scope fi cda cc A outer s H) [.Assign [.Attribute (.Name "self" q1) f q2] (.Name p q3) q4, .Assign [.Attribute (.Name "self" r1) g r2] (.Name p' r3) r4] t ∧ t { nx := fun _ H' => Q .non H', rt := Q } (L2.start ["self", p, p'] vs) H := by
  obtain ⟨a, v, u, rfl, ea, k⟩ := h
  refine ⟨_, pss_cons (ps_ost (pe_var (i := 0) (x := "self") rfl (.inl (S.par _ (by simp)))) (pe_var (i := 1) (x := p) rfl (.inl (S.par _ (by simp))) d1 d2)) (pss_one (ps_ost (pe_var (i := 0) (x := "self") rfl (.inl (S.par _ (by simp)))) (pe_var (i := 2) (x := p') rfl (.inl (S.par _ (by simp))) d3 d4))), ?_⟩
  refine ⟨_, rfl, _, rfl, a, C, rfl, O, no, .inl ⟨ea, fun dx n ne => ?_⟩⟩
  refine ⟨_, rfl, _, rfl, a, C, rfl, O, no', .inr ⟨dx, _, upd_same, ?_, by show 1 ≤ 900; decide, k dx n ne⟩⟩
  rw [upd_ne ne, upd_same]
end

/-! ### raise C(e) -/
/-- the exception's own dict alone is left in sight -/
theorem left1 {H : Hp} {a d C : Addr} {fs gs : List (Str × V)} (na : H a = none) (o : Option Addr) : upd (del (upd (upd (upd H a (exo a C none)) d (exd d gs)) a (exo a C o)) a) d (.xd fs) = upd H d (.xd fs) := by
  funext b
  by_cases hd : b = d
  · rw [hd, upd_same, upd_same]
  rw [upd_ne hd, upd_ne hd]
  by_cases ha : b = a
  · rw [ha, del_same, na]
  · rw [del_ne ha, upd_ne ha, upd_ne hd, upd_ne ha]
def tRaise1 (C : Addr) (f : Str) (W : WX) (te : TE) : TS := fun _ σ H => te σ H fun v H1 => ∀ d, H1 d = none → W (.ref C) (some d) σ (upd H1 d (.xd [(f, v)]))
/-- a reading, closed upwards -/
def up (te : TE) : TE := fun σ H Q => ∃ R : V → Hp → Prop, te σ H R ∧ ∀ v H1, R v H1 → Q v H1
section
variable {X : Cx}
theorem pe_up {e : Expr} {te : TE} (he : PE X e te) : PE X e (up te) := ⟨fun pins s σ H Q I ⟨R, h, m⟩ => wpAny_mono (he.run pins s σ H R I h) (fun u s1 ⟨v, H1, I1, r, q⟩ => ⟨v, H1, I1, r, m v H1 q⟩) fun _ _ z => z⟩
theorem ps_raise1 {x f : Str} {C fi : Addr} {k : Nat} {fd : FuncData} {ps : List Str} {e : Expr} {te : TE} {W : WX} {p pos pos2 : Pos} (hc : X.calm = true) (tk : Takes X W) (O : OexC X.K C) (iC : PySem.W.findIn X.K (.ref C) "__init__" = some (some (.ref fi))) (tI : PySem.W.typeIn X.K (.ref fi) = some (.type "function"))
    (F : FnOk X.prog X.w X.K X.mg X.base CX0 k fi fd ps (spErr1 C f)) (hr : Room (k + 1) X.A) (hb : Binds X.K fd ps []) (hg : Gl X x) (hm : X.mg x = some (.ref C)) (he : PE X e te) (hdb : (x == ("__debug__" : Str)) = false := by decide)
    (hs : starEach [e] X.env = (false, eval e X.env) :: starEach [] X.env := by rfl) : PS X (.Raise (some (.Call (.Name x p) [e] [] pos)) none pos2) (tRaise1 C f W te) := by
  have R := ps_raise (pos := pos2) hc tk (pmk_oex (p := p) (pos := pos) O iC tI F hr hb .nil pass0 hg hm (pa_cons (pe_up he) pa_nil hs) hdb hs)
  refine ⟨fun pins s σ H D I h => R.run pins s σ H D I ?_⟩
  refine ⟨_, h, fun v H1 q => ⟨by show 1 ≤ 1000; decide, fun a na => ⟨a, v, rfl, upd_same, fun d nd ne => ⟨rfl, d, [(f, v)], upd_same, ?_, ?_, ?_⟩⟩⟩⟩
  · rw [upd_ne ne, upd_same]
  · rw [upd_ne ne] at nd; exact nd
  · rw [upd_ne ne] at nd
    rw [left1 na]
    exact q d nd
end
end Er
set_option Elab.async false
set_option maxRecDepth 100000
set_option autoImplicit false
/-! try: .. except G as n: y = n, and y is looked at behind it: the error stays in sight. -/
namespace Er
open PySem L2 PySem.Spec PyProof.Rows PySem.Calls
/-- at a: a caught error of the class cls, with the dict d -/
def keptE (cls : Value) (d : Option Addr) (a : Addr) : HO := .ext fun h => ∃ (oe : Obj) (vs : Array Value), h.get? a = some oe ∧ Zc cls d oe ∧ oe.data = .fields vs
section
variable {X : Cx} {pins : List (Addr × Obj)} {σ : L2.St} {H : Hp} {s : Shared}
theorem kept_ok {P : Program} {w : World} {G : Hp} {h : Heap} {a : Addr} {cls : Value} {d : Option Addr} {oe : Obj} {vs : Array Value} (e : h.get? a = some oe) (z : Zc cls d oe) (dd : oe.data = .fields vs) : ObjOk P w G h a (keptE cls d a) :=
  ⟨⟨oe, vs, e, z, dd⟩, ⟨oe, e⟩, fun h1 h2 ⟨o1, v1, e1, z1, d1⟩ k => ⟨o1, v1, k _ e1, z1, d1⟩⟩
/-- an object of none of the tracked ones, made behind the entry, comes into sight -/
theorem track {a : Addr} {o : HO} {ob : Obj} {vs : Array Value} (I : Inv X pins σ H s) (hx : X.ex = []) (old : X.s_0.heap.get? a = none) (na : H a = none) (nl : a ≠ X.env.locals) (ha : s.heap.get? a = some ob) (hd : ob.data = .fields vs) (np : ∀ p ∈ X.pn ++ pins, p.1 ≠ a)
    (new : ObjOk X.prog X.w (upd H a o) s.heap a o) : Inv X pins σ (upd H a o) s := by
  have off : ∀ {b : Addr} {u : HO}, H b = some u → upd H a o b = some u := fun {b u} e => by rw [upd_ne (ne_of_none e na)]; exact e
  refine ⟨I.ok, I.os, I.bare, ⟨I.base.keep, I.base.slot, fun b u e n x => ?_, I.base.there, fun b xs e => off (I.base.tups b xs e), fun b u v e => off (I.base.frzs b u v e), fun b ps e => ?_⟩, I.loc, I.cell, ?_, fun x c e => ?_, fun p hp => ?_, I.hok.laidN (fun b u e => e) na new, I.len⟩
  · have ne : b ≠ a := by
      rintro rfl
      rw [old] at e; cases e
    rw [upd_ne ne]
    exact I.base.free b u e n x
  · obtain ⟨more, q⟩ := I.base.tbls b ps e
    exact ⟨more, off q⟩
  · rw [upd_ne nl.symm]; exact I.free
  · have ne : c ≠ a := by
      rintro rfl
      obtain ⟨v, oc, e1, e2⟩ := I.cell x c e
      rw [ha] at e1
      cases e1
      rw [hd] at e2; cases e2
    rw [upd_ne ne]; exact I.freeC x c e
  · obtain ⟨q1, q2, q3⟩ := I.pin p hp
    exact ⟨q1, by rw [upd_ne (np p hp)]; exact q2, q3⟩
end
end Er
set_option Elab.async false
set_option maxRecDepth 100000
set_option autoImplicit false
namespace Er
open PySem L2 PySem.Spec PyProof.Rows PySem.Calls
/-- what 'except G as n: y = n' wishes of an error of the body: i is n's slot, j is y's -/
def wKeep (K : PySem.W.Frag) (c : Value) (i j m : Nat) (Wout : WX) (D : Ends) : WX := fun cls d σ H =>
  ∃ b, PySem.W.exmOne K cls c = some b ∧ (b = true → σ.length = m → ∀ a, H a = none → D.nx (((σ.set i (some (.ref a))).set j (some (.ref a))).set i none) (upd H a (keptE cls d a))) ∧ (b = false → Wout cls d σ H)
section
variable {X : Cx} {x n y : Str} {c : Value} {i j : Nat} {body : List Stmt} {np yp np2 sp pos pos' : Pos} {tb : WX → TS} {Wout : WX}
theorem ps_try_keep (hs : X.stack = X.env :: X.outer) (hf : X.env.frame = some X.env.locals) (hex : X.ex = []) (hN : X.N.Nodup) (hi : X.N[i]? = some n) (hj : X.N[j]? = some y) (hln : X.env.kindOf n = some .local) (hly : X.env.kindOf y = some .local) (hc : Names X x c) (tk : Takes X Wout)
    (hdn : (n == ("__debug__" : Str)) = false) (hcn : (n == ("__classdict__" : Str)) = false) (hsw : swapsWith (.Name n np2) (some (.Name y yp)) sp.line X.env = pure false)
    (hb : ∀ (W : WX) (pn : List (Addr × Obj)) (xe : Value → Shared → Prop), Takes (X.tr pn xe) W → PassesOwn (model X.prog X.w) X.A X.env xe → PSs (X.tr pn xe) body (tb W)) :
    PS X (.Try body [.ExceptHandler (some (.Name x np)) (some n) [.Assign [.Name y yp] (.Name n np2) sp] pos'] [] [] pos) (fun D σ H => tb (wKeep X.K c i j X.N.length Wout D) D σ H) := by
  constructor
  intro pins s σ H D I h
  have fine := I.ok
  have frames : X.A.frames = some (X.env :: X.outer) := fine.frames.trans (congrArg some hs)
  have run := (hb (wKeep X.K c i j X.N.length Wout D) (X.pn ++ pins) (fun e s₁ => wpAny (model X.prog X.w) X.A (noteFrame e X.env) (fun _ s₂ => wpAny (model X.prog X.w) X.A (setFlight e none) (fun _ s₃ =>
    wpAny (model X.prog X.w) X.A (handleBy e X.env [.ExceptHandler (some (.Name x np)) (some n) [.Assign [.Name y yp] (.Name n np2) sp] pos']) (SP X pins D) X.xe s₃) X.xe s₂) X.xe s₁) ?hit PassesOwn.looking).run [] s σ H D (I.toTry _) h
  case hit =>
    rintro u s' ⟨a, B, sI, pins1, σ1, H1, cls, d, rfl, J0, ground, up0, sky0, na, os, ag, b, test, yes, no⟩
    have J : Inv X pins σ1 H1 sI := J0.ofTry fine
    have sky : Sky B (X.env :: X.outer) a (Zc cls d) X.env.locals s'.heap := hs ▸ sky0
    show wpAny (model X.prog X.w) X.A (noteFrame (.ref a) X.env) _ _ _
    refine Sky.land Zc.steady frames hf sky fun g3 fly3 up3 => ?_
    have J3 : Inv X pins σ1 H1 { s' with heap := g3 } := J.landed ground fly3.1 (up0.trans up3) os ag
    obtain ⟨o3, v3, e3, z3, d3⟩ := fly3.there
    have away : a ∉ frs (X.env :: X.outer) := fun mem => by
      obtain ⟨_, o, e, no_⟩ := fly3.2.2.1.mem mem
      rw [e3] at e; cases e
      exact no_ _ d3
    have awayL : a ≠ X.env.locals := fun z => away (List.mem_filterMap.mpr ⟨X.env, List.mem_cons_self, hf.trans (congrArg some z.symm)⟩)
    have awayF : a ∉ X.fs := fun mem => by
      obtain ⟨e, m1, m2⟩ := List.mem_filterMap.mp mem
      exact away (List.mem_filterMap.mpr ⟨e, List.mem_cons_of_mem _ m1, m2⟩)
    -- the error is younger than the entry
    have young : sI.heap.get? a = none := by
      cases q : sI.heap.get? a with
      | none => rfl
      | some o =>
        have qB := ground a o q (by rw [hs]; exact away)
        rw [fly3.2.1] at qB; cases qB
    have entry : X.s_0.heap.get? a = none := by
      cases q : X.s_0.heap.get? a with
      | none => rfl
      | some o =>
        obtain ⟨o', q'⟩ := J.base.there a o q (by rw [hex]; exact List.not_mem_nil)
        rw [young] at q'; cases q'
    have apart : ∀ p ∈ X.pn ++ pins, p.1 ≠ a := fun p hp z => by
      have q := (J.pin p hp).1
      rw [z, young] at q; cases q
    have S3 := J3.suite e3 d3 na awayL awayF
    refine wpAny_handleBy_cons (codeAny_handlers_test ?_) (by intro q; cases q)
    have LT : PySem.W.Looks (model X.prog X.w) g3 (typeOf (.ref a)) cls := fun _ _ _ _ k q => wpAny_typeOf_ref (k _ _ e3) (by rw [z3.1]; exact q)
    have LM := PySem.W.exm_one (M := model X.prog X.w) J3.kIn LT test
    have named : ∀ {Q : Value → Shared → Prop} {E : Value → Shared → Prop}, Q c { s' with heap := g3 } → wpAny (model X.prog X.w) (X.A.mark (some (.ref a))) (eval (.Name x np) X.env) Q E { s' with heap := g3 } := fun {Q E} q => by
      rcases hc with ⟨hg, hdbg, hm | ⟨hm, hv, hnn⟩⟩
      · exact ld_glob (X := X.suite a ((a, o3) :: (X.pn ++ pins))) S3 hg hm q hdbg
      · exact ld_blt (X := X.suite a ((a, o3) :: (X.pn ++ pins))) S3 hg hm hv q hnn hdbg
    refine named (LM.here ?_)
    cases b with
    | true =>
      refine codeAny_handlers_suite_as (HandSPX.lands_againZ fly3 fun g4 fly4 up4 => ?_)
      have J4 : Inv X pins σ1 H1 { s' with heap := g4 } := J.landed ground fly4.1 ((up0.trans up3).trans up4) os ag
      obtain ⟨o4, v4, e4, z4, d4⟩ := fly4.there
      have S4 := J4.suite e4 d4 na awayL awayF
      refine store_ok (X := X.suite a ((a, o4) :: (X.pn ++ pins))) (v := .ref a) S4 hN hi (.inl hln) rfl (fun s5 S5 => ?_) (.inr hln)
      have il : i < σ1.length := by
        rw [S4.len]
        exact (List.getElem?_eq_some_iff.mp hi).1
      have one := pss_one (X := X.suite a ((a, o4) :: (X.pn ++ pins))) (ps_set (pos := sp) (pos' := yp) (i := j) hN hj (.inl hly) (pe_var (i := i) (pos := np2) hi (.inl hln) hdn hcn) hsw (.inr hly))
      refine wpAny_mono (one.run [] s5 _ H1 { nx := fun σ' H' => σ' = (σ1.set i (some (.ref a))).set j (some (.ref a)) ∧ H' = H1, rt := fun _ _ => False } S5 ⟨.ref a, by rw [List.getElem?_set_self il], rfl, rfl⟩) (fun fl s6 got => ?_) (fun _ _ z => False.elim z)
      cases fl with
      | next =>
        obtain ⟨_, _, S6, rfl, rfl⟩ := got
        have there := (S6.pin (a, o4) (List.mem_append_left _ List.mem_cons_self)).1
        exact gone_ok (track (S6.unsuite fine) hex entry na awayL there d4 apart (kept_ok there z4 d4)) hN hi hln fun s7 J7 => ⟨_, _, J7, yes rfl S4.len a na⟩
      | ret u => obtain ⟨_, _, _, _, _, z⟩ := got; exact z.elim
      | brk => obtain ⟨_, _, _, z⟩ := got; exact z.elim
      | cont => obtain ⟨_, _, _, z⟩ := got; exact z.elim
    | false =>
      show wpAny (model X.prog X.w) X.A (handleBy (.ref a) X.env []) _ _ _
      refine wpAny_handleBy_nil ?_
      obtain ⟨_, _, _, oe, vs, T, oT, us, q1, q2, q3, q4, q5⟩ := id fly3
      unfold PySem.passOn
      refine wpAny_bind (wpAny_field q1 q3 q4 ?_)
      rw [if_neg (by simp)]
      have out : wpAny (model X.prog X.w) X.A (setFlight (.ref a) X.env.frame) (fun _ s4 => wpAny (model X.prog X.w) X.A (throw (.ref a) : Sem Flow) (SP X pins D) X.xe s4) X.xe { s' with heap := g3 } := by
        rw [hf]
        exact HandSPX.setFlight_upZ fly3 fun g4 held up4 => wpAny_throw (tk _ _ ⟨a, B, sI, pins, σ1, H1, cls, d, rfl, J, ground, (up0.trans up3).trans up4, .inr (.inr (by rw [hs]; exact held)), na, os, ag, no rfl⟩)
      first
        | exact wpAny_bind (wpAny_pure (wpAny_bind out))
        | exact wpAny_bind out
  refine wpAny_Try_except (wpAny_mono run (fun f s1 got => ?_) fun e s1 he => he)
  cases f with
  | next => obtain ⟨σ', H', J', q⟩ := got; exact wpAny_execs_nil ⟨σ', H', J'.ofTry fine, q⟩
  | brk => obtain ⟨σ', H', J', q⟩ := got; exact ⟨σ', H', J'.ofTry fine, q⟩
  | cont => obtain ⟨σ', H', J', q⟩ := got; exact ⟨σ', H', J'.ofTry fine, q⟩
  | ret u => obtain ⟨v, σ', H', J', r, q⟩ := got; exact ⟨v, σ', H', J'.ofTry fine, r, q⟩
end
end Er
set_option Elab.async false
set_option maxRecDepth 100000
set_option autoImplicit false
namespace Er
open PySem L2 PySem.Spec PyProof.Rows PySem.Calls
/-- what is written of a class of errors, so that its errors may be asked what they are -/
structure KeptC (K : PySem.W.Frag) (C : Addr) : Prop where
  xf : XfC K C
  cls : (PySem.W.clsIn K C).isSome = true
  at_ : PySem.W.findIn K (.ref C) "__class__" = some (some (.builtin "object.__class__"))
  get : PySem.W.specialIn K (.builtin "object.__class__") "__get__" = some (some (.builtin "getset_descriptor.__get__"))
  tak : PySem.W.takesIn K (.builtin "object.__class__") = some true
  obj : PySem.W.mroIn K C (.type "object") = some true
/-- at a: such an error, its fields fs -/
def KeptAt (H : Hp) (a C d : Addr) (fs : List (Str × V)) : Prop := H a = some (keptE (.ref C) (some d) a) ∧ H d = some (.xd fs)
def rIsErr (K : PySem.W.Frag) : List V → Hp → VK → Prop := fun xs H Q => ∃ (a C d : Addr) (fs : List (Str × V)) (c : V) (cv : Value) (b : Bool), xs = [.ref a, c] ∧ KeptAt H a C d fs ∧ KeptC K C ∧ ClsV c cv ∧ PySem.W.kitOne K (.ref C) cv = some b ∧ Q (.bl b) H
section
variable {X : Cx} {pins : List (Addr × Obj)} {σ : L2.St} {H : Hp} {s : Shared}
theorem inst_of {a C d : Addr} {fs : List (Str × V)} (I : Inv X pins σ H s) (k : KeptAt H a C d fs) : ∃ (oe od : Obj) (mA : Str → Option Value), PySem.W.InstAt s.heap a oe C (some od) ∧ (∀ f, PySem.W.lookIn f od = some (mA f)) ∧ ∀ f, RelO (fs.lookup f) (mA f) := by
  have oa := I.hok a _ k.1
  obtain ⟨⟨oe, vs, ha, hz, hd⟩, _, _⟩ := oa
  have hx : ObjOk X.prog X.w H s.heap d (.xd fs) := I.hok d _ k.2
  obtain ⟨mA, hns, hr⟩ := hx
  obtain ⟨od, ho, hl⟩ := lookIn_ns hns
  exact ⟨oe, od, mA, ⟨ha, hz.1, by unfold PySem.W.notCls; rw [hd] <;> rfl, by rw [hz.2]; exact ho⟩, hl, hr⟩
theorem call_isErr : CallR X (.builtin "isinstance") (rIsErr X.K) := by
  rintro pins s σ H xs us Q I r ⟨a, C, d, fs, c, cv, b, rfl, k, T, kc, e, q⟩
  obtain ⟨u1, u2, rfl, r1, r2⟩ := vals2 r
  obtain rfl : u1 = Value.ref a := r1
  have e2 := kc.eq r2
  subst e2
  obtain ⟨oe, od, mA, J, _, _⟩ := inst_of I k
  exact PySem.W.kia_one (PySem.W.kitx_exc (ox := oe) (od := some od) T.cls T.xf.ga T.xf.gg T.xf.exC T.at_ T.get T.tak T.obj) I.kIn J e (fun z => by cases z) fun tk => ⟨.bl b, H, I.tok tk, rfl, q⟩
/-- e.f, e such an error -/
def tKf (K : PySem.W.Frag) (f : Str) (te : TE) : TE := fun σ H Q => te σ H fun x H1 => ∃ a C d fs v, x = .ref a ∧ KeptAt H1 a C d fs ∧ XfC K C ∧ PySem.W.findIn K (.ref C) f = some none ∧ fs.lookup f = some v ∧ Q v H1
theorem pe_kf {e : Expr} {te : TE} {f : Str} {pos : Pos} (he : PE X e te) (hb : attributeBase e f X.env (eval e X.env) = eval e X.env := by rfl) : PE X (.Attribute e f pos) (tKf X.K f te) := by
  refine ⟨fun pins s σ H Q I h => attr_of hb (thn (he.run pins s σ H _ I h) ?_)⟩
  rintro u s1 ⟨x, H1, I1, rx, a, C, d, fs, v, rfl, k, T, no, l, q⟩
  obtain rfl : u = Value.ref a := rx
  obtain ⟨oe, od, mA, J, look, rel⟩ := inst_of I1 k
  obtain ⟨z, hz, rz⟩ := RelO.some_of (v := v) (o := mA f) (by rw [← l]; exact rel f)
  exact HandSPX.exc_get I1.kIn J T.ga T.gg T.exC (PySem.W.findObj_own T.hdC no rfl (by rw [look, hz])) (handed_of rz) ⟨v, H1, I1.tok _, rz, q⟩
end
end Er
set_option Elab.async false
set_option maxRecDepth 100000
set_option autoImplicit false
/-! Rules: str(x) by an own __str__; x == y by an own __eq__, y anything; list(text); text * number; x is True. -/
namespace Ru
open PySem L2 PySem.Spec PyProof.Rows Rg
section
variable {prog : Program} {w : World} {A : Around} {E : Value → Shared → Prop} {s : Shared} {K : PySem.W.Frag} {x C f : Addr} {ox : Obj} {od : Option Obj}
theorem strOf_own (hu : A.units < cLine) {Q : Value → Shared → Prop} (X : K.In s.heap) (I : PySem.W.InstAt s.heap x ox C od) (hs : PySem.W.findIn K (.ref C) "__str__" = some (some (.ref f))) (hf : PySem.W.isFn K (.ref f) = true)
    (h : wpAny (model prog w) A (call (.ref f) [.ref x]) (fun r s₁ => ∃ z t, r = Value.str z t ∧ Q r s₁) E s) : wpAny (model prog w) A (Builtin.Str.strOf (.ref x)) Q E s := by
  unfold Builtin.Str.strOf
  rw [show Builtin.Str.isExactStr (.ref x) = false from rfl]
  refine wpAny_bind (m := cRoomFor _ _) (wpAny_cRoomFor hu ?_)
  refine wpAny_bind (m := callSpecial? (.ref x) (Str.ofString "__str__")) (PySem.W.special_fn X I hs (beq_iff_eq.mp hf) (wpAny_mono h (fun r s₁ h₁ => ?_) fun _ _ e => e))
  obtain ⟨z, t, rfl, hq⟩ := h₁
  exact wpAny_pure hq
theorem str_own (hu : A.units + 2 < cLine) {Q : Value → Shared → Prop} (X : K.In s.heap) (I : PySem.W.InstAt s.heap x ox C od) (hs : PySem.W.findIn K (.ref C) "__str__" = some (some (.ref f))) (hf : PySem.W.isFn K (.ref f) = true)
    (h : wpAny (model prog w) A.in1.in1 (call (.ref f) [.ref x]) (fun r s₁ => ∃ z t, r = Value.str z t ∧ Q r s₁) E s) : wpAny (model prog w) A (call (.type "str") [.ref x]) Q E s := by
  refine callType_codes (T := "str") (Bi := Builtin.«object.__init__») (Q₁ := fun r s₁ => ∃ n u, r = Value.str n u ∧ Q r s₁) PySem.F.called_str (PySem.F.typeCall_str_1 _) PySem.F.entry_object_init ?_ ?_
  · refine codeAny_of_tree ?_
    show wpAny _ A.in1.in1 (do checkBuiltinCall "str.__new__" ⟨[.type "str", .ref x], []⟩; again (.builtin "str.__new__" ⟨[.type "str", .ref x], []⟩)) _ _ s
    refine wpAny_bind (wpAny_of_eq (PySem.F.newCall_str_1 _) (wpAny_pure ⟨plainId_quiet (by decide +kernel) _, codeAny_builtin PySem.F.entry_str_new ?_⟩))
    rw [Around.under_plainId (by decide +kernel) _, str_new_tree]
    refine wpAny_bind (wpAny_pure ?_)
    refine wpAny_bind (wpAny_of_eq isSubtype_str_str ?_)
    refine wpAny_bind (strOf_own (by show A.units + 1 + 1 < cLine; omega) X I hs hf (wpAny_mono h (fun r s₁ hr => ?_) fun _ _ y => y))
    obtain ⟨n, u, rfl, hq⟩ := hr
    exact ⟨n, u, rfl, wpAny_pure ⟨n, u, rfl, hq⟩⟩
  · rintro obj s₁ ⟨n, u, rfl, hq⟩
    exact ⟨typeIs_str _ _ _, PySem.F.args_object_init_2 _ _, object_init_meets PySem.F.called_str.init.lookup PySem.F.called_str.made (by decide) prog w A.in1 _ s₁ ⟨typeIs_str _ _ _, rfl, hq⟩⟩
end
section
variable {X : Cx} {CX : CXT} {k : Nat} {C f : Addr} {fd : FuncData} {ps : List Str} {sp : Sp} {E : XK} {pins : List (Addr × Obj)} {σ : L2.St} {H : Hp} {s : Shared}
/-- a def of the text, run within A -/
theorem runAt {A : Around} {Q : VK} {us : List Value} {vs : List V} (F : FnOk X.prog X.w X.K X.mg X.base CX k f fd ps sp) (room : Room k A) (e0 : Env0 X.prog X.w X.K X.mg X.base A X.stack s H) (bd : Binds X.K fd ps []) (ex : Passes CX X E)
    (I : Inv X pins σ H s) (r : Vals vs us) (want : sp vs H Q E) : wpAny (model X.prog X.w) A (call (.ref f) us) (EP X pins σ Q) X.xe s := by
  have len : us.length = ps.length := r.length.symm.trans (F.len _ _ _ _ want)
  have bt : BindsTo s fd ⟨us, []⟩ (ps.zip us) := by
    have z := bd s us I.kIn (by rw [List.append_nil]; exact len)
    rw [List.append_nil] at z
    exact z
  refine wpAny_call (codeAny_mono (F.run A X.stack s H ⟨us, []⟩ us vs Q E room e0 bt r want) fun res s' got => ?_)
  rcases res with e | fl
  · exact ex pins σ H s e s' I got
  · cases fl <;> first | exact I.after got | exact False.elim got
/-- str(o), o an instance of the class at C -/
def rStrOwn (C : Addr) (sp : Sp) (E : XK) : List V → Hp → VK → Prop := fun xs H Q => ∃ a dx fs, xs = [.ref a] ∧ H a = some (.ins C dx fs) ∧ sp [.ref a] H (fun v H' => ∃ z : Str, v = .str z ∧ Q (.str z) H') E
theorem call_strOwn (F : FnOk X.prog X.w X.K X.mg X.base CX k f fd ps sp) (room : Room (k + 2) X.A) (bd : Binds X.K fd ps []) (ex : Passes CX X E)
    (at_ : PySem.W.findIn X.K (.ref C) "__str__" = some (some (.ref f))) (fn : PySem.W.isFn X.K (.ref f) = true) : CallR X (.type "str") (rStrOwn C sp E) := by
  rintro pins s σ H xs us Q I r ⟨a, dx, fs, rfl, e, want⟩
  obtain ⟨od, J⟩ := instAt I e
  cases r with
  | cons r0 r1 =>
    cases r1
    cases r0
    have hr2 : Room k X.A.in1.in1 := (show Room (k + 1) X.A.in1 from Room.in1 room).in1
    refine str_own (by have := room.un; omega) I.kIn J at_ fn (thn (runAt F hr2 I.env0.in1.in1 bd ex I (.cons (rvRef a) .nil) want) ?_)
    rintro u s' ⟨v, H', I', rv, z, rfl, q⟩
    obtain ⟨t, rfl⟩ := rv
    exact ⟨z, t, rfl, .str z, H', I', ⟨t, rfl⟩, q⟩
/-- o == y, y of another kind, or of the class itself -/
def rEqOwn (K : PySem.W.Frag) (C : Addr) (sp : Sp) (E : XK) : R2 := fun x y H Q => ∃ a dx fs t, x = .ref a ∧ H a = some (.ins C dx fs) ∧ TyX K H y t ∧ PySem.W.notFirst K C t = true ∧ sp [x, y] H (fun v H' => ∃ b, v = .bl b ∧ Q (.bl b) H') E
theorem op_eqOwn (F : FnOk X.prog X.w X.K X.mg X.base CX k f fd ps sp) (room : Room k X.A) (bd : Binds X.K fd ps []) (ex : Passes CX X E)
    (at_ : PySem.W.findIn X.K (.ref C) "__eq__" = some (some (.ref f))) (fn : PySem.W.isFn X.K (.ref f) = true) : OpR X (compareOp .Eq) (rEqOwn X.K C sp E) := by
  rintro pins s σ H x y v u Q I rx ry ⟨a, dx, fs, t, rfl, e, ty, nf, want⟩
  obtain rfl : v = Value.ref a := rx
  obtain ⟨od, J⟩ := instAt I e
  obtain ⟨m, hF⟩ := I.fr
  show wpAny (model X.prog X.w) X.A (richCompare .Eq (.ref a) u) (EP X pins σ Q) X.xe s
  obtain ⟨P0, kx, hp, _⟩ := kit_of I ry ty
  refine PySem.W.cmp_K (op := .Eq) (tb := t) room.units0 hF I.ok.mod.kin J (kx.ty _ _ I.kIn hp) nf at_ fn ?_
  refine thn (runAt F room I.env0 bd ex I (.cons (rvRef a) (.cons ry .nil)) want) ?_
  rintro z s' ⟨v', H', I', rv, b, rfl, q⟩
  obtain rfl : z = Value.bool b := rv
  exact ⟨.bl b, H', I', rfl, q⟩
theorem signs_at : ∀ {us : List Value} {cs : List Nat}, us.length = cs.length → (∀ (j : Nat) (v : Value), us[j]? = some v → ∃ (c : Nat) (u : Tok), cs[j]? = some c ∧ v = .str ⟨#[c]⟩ u) → Vals (cs.map fun c => V.str ⟨#[c]⟩) us
  | [], [], _, _ => .nil
  | u :: us, c :: cs, hl, h => by
    refine .cons ?_ (signs_at (by simpa using hl) fun j v e => ?_)
    · obtain ⟨c', t, h1, h2⟩ := h 0 u rfl
      cases h1
      exact ⟨t, h2⟩
    · obtain ⟨c', t, h1, h2⟩ := h (j + 1) v (by simpa using e)
      exact ⟨c', t, by simpa using h1, h2⟩
/-- list(text) -/
def rListS : List V → Hp → VK → Prop := fun xs H Q => ∃ z : Str, xs = [.str z] ∧ z.length ≤ sizeLine ∧ ∀ l, H l = none → Q (.ref l) (upd H l (.lst (z.cps.toList.map fun c => V.str ⟨#[c]⟩)))
theorem call_listS (hc : X.calm = true) : CallR X (.type "list") rListS := by
  rintro pins s σ H xs us Q I r ⟨z, rfl, few, q⟩
  obtain ⟨u, rfl, t, rfl⟩ := vals1 r
  refine call_list_str (I.ok.hd hc) z t (hn := few) fun h' tk acc c' hk hD hacc => ?_
  have hv : Vals (z.cps.toList.map fun c => V.str ⟨#[c]⟩) acc.toList := signs_at (by rw [Array.length_toList, Array.length_toList]; exact hacc.1) fun j v e => by
    obtain ⟨c, u, h1, h2⟩ := hacc.2 j v (by rw [← Array.getElem?_toList]; exact e)
    exact ⟨c, u, by rw [Array.getElem?_toList]; exact h1, h2⟩
  exact ⟨.ref s.heap.objs.size, _, I.laid (t' := tk) hk (Nat.le_refl _) (show ObjOk X.prog X.w _ _ _ (.lst (z.cps.toList.map fun c => V.str ⟨#[c]⟩)) from ⟨by simpa [Str.length] using few, acc.toList, c', hv, by rw [Array.toArray_toList]; exact hD⟩), rfl, q _ (I.hok.fresh (Nat.le_refl _))⟩
/-- text * 0, text * 1 -/
def rMul1 : R2 := fun x y H Q => ∃ (z : Str) (b : Bool), x = .str z ∧ y = .int (if b then 1 else 0) ∧ Q (.str (if b then z else Str.empty)) H
theorem op_mul1 : OpR X (binaryOp .Mult) rMul1 := by
  rintro pins s σ H x y v u Q I rx ry ⟨z, b, rfl, rfl, q⟩
  obtain ⟨t, rfl⟩ := rx
  obtain ⟨t', rfl⟩ := ry
  cases b with
  | true =>
    refine PySem.P.mul_str (by decide) (fun _ h => absurd h (by simp)) (fun _ h => absurd h (by simp)) ?_
    exact ⟨.str z, H, I, ⟨t, rfl⟩, q⟩
  | false =>
    refine PySem.P.mul_str (by decide) (fun h => absurd (by decide) h) (fun h => absurd (by decide) h) ?_
    exact ⟨by decide, .str Str.empty, H, I.tok _, ⟨_, rfl⟩, q⟩
/-- x is y, y a truth, x a truth or a text -/
def rIsBS : R2 := fun x y H Q => ∃ b, y = .bl b ∧ ((∃ a, x = .bl a) ∨ ∃ z, x = .str z) ∧ Q (.bl (decide (x = y))) H
theorem op_isBS : OpR X (compareOp .Is) rIsBS := by
  rintro pins s σ H x y v u Q I rx ry ⟨b, rfl, hx, q⟩
  obtain rfl : u = Value.bool b := ry
  rcases hx with ⟨a, rfl⟩ | ⟨z, rfl⟩
  · obtain rfl : v = Value.bool a := rx
    by_cases e : a = b
    · subst e
      exact wpAny_is_self rfl ⟨.bl true, H, I, rfl, by simpa using q⟩
    · exact wpAny_is_other rfl (fun z => e (Value.bool.inj z)) ⟨.bl false, H, I, rfl, by simpa [e] using q⟩
  · obtain ⟨t, rfl⟩ := rx
    exact wpAny_is_other rfl (fun z => nomatch z) ⟨.bl false, H, I, rfl, by simpa using q⟩
end
end Ru
set_option Elab.async false
set_option maxRecDepth 100000
namespace Kx
open PySem L2 PySem.Spec PyProof.Rows Rg
def top (i : Nat) : Stmt := PySem.Challenge.pw_rowgames_k05_where_rules_fit.main.body.getD i (.Pass ⟨0, 0, 0, 0⟩)
abbrev sPen : Stmt := top 14
abbrev sDraw : Stmt := top 15
abbrev sPick : Stmt := top 16

/-! ### heaps that grow, but for the pen -/
def Ext1 (p : Addr) (H H' : Hp) : Prop := ∀ b o, b ≠ p → H b = some o → H' b = some o
theorem Ext1.refl (p : Addr) (H : Hp) : Ext1 p H H := fun _ _ _ e => e
theorem Ext1.trans {p : Addr} {H H1 H2 : Hp} (a : Ext1 p H H1) (b : Ext1 p H1 H2) : Ext1 p H H2 := fun c o n e => b c o n (a c o n e)
theorem Ext1.new {p q : Addr} {H : Hp} {o : HO} (h : H q = none) : Ext1 p H (upd H q o) := fun b u _ e => by rw [upd_ne (ne_of_none e h)]; exact e
theorem Ext1.put {p : Addr} {H : Hp} {o : HO} : Ext1 p H (upd H p o) := fun b u n e => by rw [upd_ne n]; exact e

/-- at p the pen: at most n cells were taken -/
def PenAt (c : Addr) (n : Nat) (H : Hp) (p : Addr) : Prop := ∃ (ns : List Int) (a g : Int), H p = some (.lst [.ref c, .int a, .int g]) ∧ H c = some (.lst (ns.map V.int)) ∧ c ≠ p ∧ ns.length ≤ 63 ∧ 0 ≤ a ∧ a ≤ n
theorem PenAt.mono {c : Addr} {n m : Nat} {H : Hp} {p : Addr} (h : PenAt c n H p) (l : n ≤ m) : PenAt c m H p := by
  obtain ⟨ns, a, g, h1, h2, h3, h4, h5, h6⟩ := h
  exact ⟨ns, a, g, h1, h2, h3, h4, h5, by omega⟩
theorem PenAt.ext {c : Addr} {n : Nat} {H H' : Hp} {p : Addr} (h : PenAt c n H p) (e : ∀ b o, H b = some o → H' b = some o) : PenAt c n H' p := by
  obtain ⟨ns, a, g, h1, h2, h3⟩ := h
  exact ⟨ns, a, g, e _ _ h1, e _ _ h2, h3⟩
theorem PenAt.new {c : Addr} {n : Nat} {H : Hp} {p q : Addr} {o : HO} (h : PenAt c n H p) (f : H q = none) : PenAt c n (upd H q o) p := h.ext fun b u e => by rw [upd_ne (ne_of_none e f)]; exact e

/-! ### what the built-in names are -/
structure Txt (mg : Str → Option Value) : Prop where
  len : mg "len" = none
  int : mg "int" = none
  abs : mg "abs" = none
  list : mg "list" = none
  tuple : mg "tuple" = none
  range : mg "range" = none
  repr : mg "repr" = none
  isi : mg "isinstance" = none
  all : mg "all" = none
  set : mg "set" = none

/-! ### _law_draw -/
def spDraw : Sp := fun vs H Q _ => ∃ (c p : Addr) (m : Int) (n : Nat), vs = [.ref p, .int m] ∧ 0 < m ∧ m < 1000000 ∧ n ≤ 1000000 ∧ PenAt c n H p ∧ ∀ r H', 0 ≤ r → r < m → PenAt c (n + 1) H' p → Ext1 p H H' → Q (.int r) H'

theorem dpInts (K : PySem.W.Frag) (H : Hp) : ∀ ns : List Int, DpAll K H (ns.map V.int) (ns.map PyData.int)
  | [] => .nil
  | n :: r => .cons (.int n) (dpInts K H r)
theorem layInts : ∀ ns : List Int, PyData.canLayAll0 (ns.map PyData.int) = true
  | [] => rfl
  | _ :: r => layInts r
theorem depthInts : ∀ ns : List Int, PyData.depthAll (ns.map PyData.int) = 0
  | [] => rfl
  | _ :: r => by
    show max 0 (PyData.depthAll (r.map PyData.int)) = 0
    rw [depthInts r] <;> rfl
theorem shapedInts (ns : List Int) : SeqAt.shaped (.list (ns.map PyData.int)) = true := by
  show (PyData.canLayAll0 (ns.map PyData.int) && decide (PyData.depthAll (ns.map PyData.int) + 1 ≤ 64)) = true
  rw [layInts, depthInts] <;> rfl
theorem mixed1 {z a c d n : Int} (n0 : 0 < n) (nb : n < 2 ^ 32) (c0 : 0 ≤ c) (cb : c ≤ 100000) (d0 : 0 ≤ d) (db : d ≤ 100000) (a0 : 0 ≤ a) (ab : a ≤ 1000000) : (z % n + c * a + d).natAbs < 2 ^ 64 := by
  have h1 := Int.emod_nonneg z (b := n) (by omega)
  have h2 := Int.emod_lt_of_pos z n0
  have h3 : c * a ≤ 100000 * 1000000 := Int.mul_le_mul cb ab a0 (by omega)
  have h4 : 0 ≤ c * a := Int.mul_nonneg c0 a0
  omega
theorem mixed2 {x a b c d n : Int} (x0 : 0 ≤ x) (xb : x < n) (nb : n < 2 ^ 32) (b0 : 0 ≤ b) (bb : b ≤ 100000) (c0 : 0 ≤ c) (cb : c ≤ 100000) (d0 : 0 ≤ d) (db : d ≤ 100000) (a0 : 0 ≤ a) (ab : a ≤ 1000000) : (x * (2 * a + b) + c * a * a + d).natAbs < 2 ^ 64 := by
  have h1 : x * (2 * a + b) ≤ 2 ^ 32 * 2100000 := Int.mul_le_mul (by omega) (by omega) (by omega) (by omega)
  have h2 : 0 ≤ x * (2 * a + b) := Int.mul_nonneg x0 (by omega)
  have h3 : c * a ≤ 100000 * 1000000 := Int.mul_le_mul cb ab a0 (by omega)
  have h4 : 0 ≤ c * a := Int.mul_nonneg c0 a0
  have h5 : c * a * a ≤ 100000 * 1000000 * 1000000 := Int.mul_le_mul h3 ab a0 (by omega)
  have h6 : 0 ≤ c * a * a := Int.mul_nonneg h4 a0
  omega
theorem atMod {ns : List Int} (a : Int) (pos : 0 < ns.length) : ∃ z, atI (ns.map V.int) (a % (ns.length : Int)) = some (.int z) := by
  have h1 := Int.emod_nonneg a (b := (ns.length : Int)) (by omega)
  have h2 := Int.emod_lt_of_pos a (b := (ns.length : Int)) (by omega)
  generalize a % (ns.length : Int) = j at h1 h2
  have hj : j.toNat < ns.length := by omega
  refine ⟨ns[j.toNat], ?_⟩
  have e : (j.toNat : Int) = j := by omega
  have q : atI (ns.map V.int) ((j.toNat : Nat) : Int) = some (.int ns[j.toNat]) := atI_nat (by simp [hj])
  rw [e] at q
  exact q
theorem eqv_nil (ns : List Int) : PyData.eqv (.list (ns.map PyData.int)) (.list []) = ns.isEmpty := by
  cases ns with
  | nil => rfl
  | cons a t => rfl
section
variable {P : Program} {w : World} {K : PySem.W.Frag} {mg : Str → Option Value} {base : Heap}
theorem scDraw : FnScope ["_law_pen_here", "_law_many_here", "_law_digit", "_law_taken", "_law_cell", "_law_great", "_law_mixed"] ["_law_pen_here", "_law_many_here"] (defScope sDraw) := ⟨rfl, rfl, rfl, by decide +kernel, rfl, by decide +kernel, by decide +kernel⟩
theorem bLen {X : Cx} {e : Expr} {te : TE} {p pos : Pos} (hg : Gl X "len") (m : X.mg "len" = none) (he : PE X e te) (na : starEach [e] X.env = (false, eval e X.env) :: starEach [] X.env := by rfl) : PE X (.Call (.Name "len" p) [e] [] pos) (tCB (fun xs H Q => ∃ x n, xs = [x] ∧ LenV X.K x H n ∧ Q (.int n) H) (tCons te tNil)) := pe_callB call_len hg m PySem.boot_len (pa_cons he pa_nil na) (he := na)
theorem bInt {X : Cx} {e : Expr} {te : TE} {p pos : Pos} (hg : Gl X "int") (m : X.mg "int" = none) (he : PE X e te) (na : starEach [e] X.env = (false, eval e X.env) :: starEach [] X.env := by rfl) : PE X (.Call (.Name "int" p) [e] [] pos) (tCB (fun xs H Q => (∃ i, xs = [.int i] ∧ Q (.int i) H) ∨ ∃ k, xs = [.bl k] ∧ Q (.int (if k then 1 else 0)) H) (tCons te tNil)) :=
  pe_callTy call_int1 hg m (by decide +kernel) (pa_cons he pa_nil na) (he := na)
theorem bAbs {X : Cx} {e : Expr} {te : TE} {p pos : Pos} (hg : Gl X "abs") (m : X.mg "abs" = none) (he : PE X e te) (na : starEach [e] X.env = (false, eval e X.env) :: starEach [] X.env := by rfl) : PE X (.Call (.Name "abs" p) [e] [] pos) (tCB (fun xs H Q => ∃ i, xs = [.int i] ∧ Q (.int (if i < 0 then -i else i)) H) (tCons te tNil)) :=
  pe_callB call_abs hg m (by decide +kernel) (pa_cons he pa_nil na) (he := na)
theorem bIx {X : Cx} {a b : Expr} {ta tb : TE} {pos : Pos} (ha : PE X a ta) (hb : PE X b tb) (hs : PlainIx b := by intro _ _; rfl) : PE X (.Subscript a b pos) (tOp (rIxL X.K) ta tb) := pe_ix ix_list ha hb hs
theorem ok_draw {f : Addr} {fd : FuncData} (F : Fun K "_law_draw" "_law_draw" sDraw f fd) (T : Txt mg) : FnOk P w K mg base CX0 1 f fd ["_law_pen_here", "_law_many_here"] spDraw := by
  refine F.ok scDraw (fun vs H Q E h => ?_) (fun cdv A outer s H vs Q E hr h => ?_)
  · obtain ⟨c, p, m, n, rfl, _⟩ := h
    rfl
  · obtain ⟨c, p, m, n, rfl, m0, mb, nb, pen, k⟩ := h
    have nd := scDraw.nd
    refine ⟨_, pss_cons (ps_if (pt_cmpR op_gt (bIx (pv 0) pe_int) pe_int (nomark _))
        (pss_cons (ps_set (i := 2) nd rfl (.inl rfl) (pe_op op_mod (bInt (by rfl) T.int (bIx (pv 0) pe_int)) (pv 1)))
          (pss_cons (ps_asg (pe_op op_fdivN (bInt (by rfl) T.int (bIx (pv 0) pe_int)) (pv 1)) (pg_sub (pv 0) pe_int set_list)) (pss_one (ps_ret (pv 2))))) pss_nil)
      (pss_cons (ps_set (i := 3) nd rfl (.inl rfl) (bIx (pv 0) pe_int))
      (pss_cons (ps_asg (pe_op op_add (pv 3) pe_int) (pg_sub (pv 0) pe_int set_list))
      (pss_cons (ps_set (i := 4) nd rfl (.inl rfl) (pe_op op_add (pe_op op_mul pe_int (pv 3)) pe_int))
      (C8.pss_cut (ps_if (pt_cmpR (op_neD hr.units) (bIx (pv 0) pe_int) (pe_lst pa_nil) (nomark _))
        (pss_one (ps_set (i := 4) nd rfl (.inl rfl) (bIx (bIx (pv 0) pe_int) (pe_op op_mod (bInt (by rfl) T.int (pv 3)) (bLen (by rfl) T.len (bIx (pv 0) pe_int)))))) pss_nil)
      (C8.pss_cut (ps_if (PW.pt (pw_and (pt_cmpR op_lt (pv 3) (bLen (by rfl) T.len (bIx (pv 0) pe_int)) (nomark _)) (pw_and1 (pt_cmpR op_ge (bAbs (by rfl) T.abs (pv 4)) (pe_op op_pow pe_int pe_int) (nomark _)))))
        (pss_cons (ps_set (i := 5) nd rfl (.inl rfl) (pe_op op_add (pe_op op_mul pe_int (pe_op op_sub (bAbs (by rfl) T.abs (pv 4)) (pe_op op_pow pe_int pe_int))) (bInt (by rfl) T.int (pe_cmpR op_lt (pv 4) pe_int (nomark _)))))
          (pss_cons (ps_asg (pe_op op_fdivN (bInt (by rfl) T.int (pv 5)) (pv 1)) (pg_sub (pv 0) pe_int set_list)) (pss_one (ps_ret (pe_op op_mod (bInt (by rfl) T.int (pv 5)) (pv 1)))))) pss_nil)
      (pss_cons (ps_set (i := 6) nd rfl (.inl rfl) (pe_op op_mod (bInt (by rfl) T.int (pe_op op_pow (pe_op op_add (pe_op op_add (pe_op op_mod (bInt (by rfl) T.int (pv 4)) pe_int) (pe_op op_mul pe_int (pv 3))) pe_int) pe_int)) pe_int))
      (pss_cons (ps_set (i := 6) nd rfl (.inl rfl) (pe_op op_mod (bInt (by rfl) T.int (pe_op op_pow (pe_op op_add (pe_op op_add (pe_op op_mul (pv 6) (pe_op op_add (pe_op op_mul pe_int (pv 3)) pe_int)) (pe_op op_mul (pe_op op_mul pe_int (pv 3)) (pv 3))) pe_int) pe_int)) pe_int))
      (pss_one (ps_ret (pe_op op_mod (pe_op op_fdivN (bInt (by rfl) T.int (pv 6)) pe_int) (pv 1))))))))))), ?_⟩
    obtain ⟨ns, a, g, hp, hc, cp, hl, a0, an⟩ := pen
    have md : ∀ x : Int, 0 ≤ x % m ∧ x % m < m := fun x => ⟨Int.emod_nonneg x (by omega), Int.emod_lt_of_pos x m0⟩
    have ms : m ≠ 0 ∧ m.natAbs < 1073741824 := ⟨by omega, by omega⟩
    refine ⟨_, rfl, p, _, 2, _, rfl, rfl, SqL.of hp, rfl, g, 0, rfl, rfl, _, rfl, ite2 (fun hg => ?_) (fun hg => ?_)⟩
    · refine ⟨_, rfl, p, _, 2, _, rfl, rfl, SqL.of hp, rfl, .inl ⟨_, rfl, _, rfl, _, _, rfl, rfl, m0, ?_⟩⟩
      refine ⟨_, rfl, p, _, 2, _, rfl, rfl, SqL.of hp, rfl, .inl ⟨_, rfl, _, rfl, _, _, rfl, rfl, ms, ?_⟩⟩
      refine ⟨_, rfl, p, _, 2, 2, rfl, rfl, hp, rfl, ?_⟩
      refine ⟨_, rfl, k _ _ (md g).1 (md g).2 ⟨ns, a, _, upd_same, ?_, cp, hl, a0, by omega⟩ Ext1.put⟩
      rw [upd_ne cp]; exact hc
    refine ⟨_, rfl, p, _, 1, _, rfl, rfl, SqL.of hp, rfl, ?_⟩
    refine ⟨_, rfl, _, _, rfl, rfl, ?_⟩
    refine ⟨_, rfl, p, _, 1, 1, rfl, rfl, hp, rfl, ?_⟩
    have mul64 : ∀ {x y : Int}, -(2 ^ 64) < x → x < 2 ^ 64 → CMul x y := fun h1 h2 => Or.inl ⟨h1, h2⟩
    generalize hH1 : upd H p (HO.lst ([V.ref c, V.int a, V.int g].set 1 (V.int (a + 1)))) = H1
    have hp1 : H1 p = some (.lst [.ref c, .int (a + 1), .int g]) := by rw [← hH1]; exact upd_same
    have hc1 : H1 c = some (.lst (ns.map V.int)) := by rw [← hH1, upd_ne cp]; exact hc
    have x1 : Ext1 p H H1 := by rw [← hH1]; exact Ext1.put
    refine ⟨_, rfl, _, _, rfl, rfl, mul64 (by decide) (by decide), _, _, rfl, rfl, ?_⟩
    refine ⟨fun σ' H' => ∃ (z : Int) (q : Addr), σ' = [some (.ref p), some (.int m), none, some (.int a), some (.int z), none, none] ∧ H1 q = none ∧ H' = upd H1 q (.lst []), ?_, ?_⟩
    · refine ⟨_, rfl, p, _, 0, _, rfl, rfl, SqL.of hp1, rfl, Nat.zero_le _, fun q hq => ?_⟩
      have cq : c ≠ q := ne_of_none hc1 hq
      have pq : p ≠ q := ne_of_none hp1 hq
      have hc2 : (upd H1 q (.lst [])) c = some (.lst (ns.map V.int)) := by rw [upd_ne cq]; exact hc1
      have hp2 : (upd H1 q (.lst [])) p = some (.lst [.ref c, .int (a + 1), .int g]) := by rw [upd_ne pq]; exact hp1
      refine ⟨.list (ns.map PyData.int), .list [], .lst (SqL.of hc2) (dpInts _ _ ns), .lst (SqL.of upd_same) .nil, shapedInts ns, rfl, _, rfl, ?_⟩
      rw [eqv_nil]
      refine ite2 (fun hne => ?_) (fun _ => ⟨_, q, rfl, hq, rfl⟩)
      have pos : 0 < ns.length := by
        cases ns with
        | nil => exact absurd hne (by decide)
        | cons _ _ => exact Nat.succ_pos _
      obtain ⟨z, hz⟩ := atMod a pos
      refine ⟨_, rfl, p, _, 0, _, rfl, rfl, SqL.of hp2, rfl, _, rfl, .inl ⟨_, rfl, _, rfl, p, _, 0, _, rfl, rfl, SqL.of hp2, rfl, _, _, rfl, .inl ⟨_, SqL.of hc2, rfl⟩, ?_⟩⟩
      refine ⟨_, _, rfl, rfl, by rw [List.length_map]; omega, c, _, _, .int z, rfl, rfl, SqL.of hc2, ?_, z, q, rfl, hq, rfl⟩
      rw [List.length_map]; exact hz
    rintro σ2 H2 ⟨z, q, rfl, hq, rfl⟩
    have cq : c ≠ q := ne_of_none hc1 hq
    have pq : p ≠ q := ne_of_none hp1 hq
    have hc2 : (upd H1 q (.lst [])) c = some (.lst (ns.map V.int)) := by rw [upd_ne cq]; exact hc1
    have hp2 : (upd H1 q (.lst [])) p = some (.lst [.ref c, .int (a + 1), .int g]) := by rw [upd_ne pq]; exact hp1
    have x2 : Ext1 p H (upd H1 q (.lst [])) := x1.trans (Ext1.new hq)
    generalize upd H1 q (.lst []) = H2 at hc2 hp2 x2 ⊢
    have done : ∀ r, 0 ≤ r → r < m → Q (.int r) H2 := fun r r0 r1 => k r H2 r0 r1 ⟨ns, a + 1, g, hp2, hc2, cp, hl, by omega, by omega⟩ x2
    have fin : ∀ y : Int, Q (.int (y % m)) H2 := fun y => done _ (md y).1 (md y).2
    have a1 : a ≤ 1000000 := by omega
    refine ⟨fun σ' H' => σ' = [some (.ref p), some (.int m), none, some (.int a), some (.int z), none, none] ∧ H' = H2, ?_, ?_⟩
    · refine ⟨_, rfl, _, rfl, p, _, 0, _, rfl, rfl, SqL.of hp2, rfl, _, _, rfl, .inl ⟨_, SqL.of hc2, rfl⟩, _, _, rfl, rfl, _, rfl, ite2 (fun _ => ?_) (fun _ => iteF ⟨rfl, rfl⟩)⟩
      refine ⟨_, rfl, z, rfl, _, _, rfl, rfl, ⟨by decide, by decide, by decide⟩, _, _, rfl, rfl, _, rfl, ite2 (fun _ => ?_) (fun _ => ⟨rfl, rfl⟩)⟩
      refine ⟨_, rfl, z, rfl, _, _, rfl, rfl, ⟨by decide, by decide, by decide⟩, _, _, rfl, rfl, _, _, rfl, rfl, mul64 (by decide) (by decide), _, rfl, _, _, rfl, rfl, .inr ⟨_, rfl, _, _, rfl, rfl, ?_⟩⟩
      refine ⟨_, rfl, .inl ⟨_, rfl, _, rfl, _, _, rfl, rfl, ms, _, rfl, p, _, 2, 2, rfl, rfl, hp2, rfl, ?_⟩⟩
      refine ⟨_, rfl, .inl ⟨_, rfl, _, rfl, _, _, rfl, rfl, m0, ?_⟩⟩
      refine k _ _ (md _).1 (md _).2 ⟨ns, a + 1, _, upd_same, ?_, cp, hl, by omega, by omega⟩ (x2.trans Ext1.put)
      rw [upd_ne cp]; exact hc2
    rintro σ3 H3 ⟨rfl, rfl⟩
    refine ⟨_, rfl, .inl ⟨_, rfl, _, _, rfl, rfl, (show (0 : Int) < 2147483629 by decide), _, rfl, _, _, rfl, rfl, mul64 (by decide) (by decide), _, _, rfl, rfl, _, _, rfl, rfl, _, _, rfl, rfl, ⟨by decide, by decide, mixed1 (by decide) (by decide) (by decide) (by decide) (by decide) (by decide) a0 a1⟩, .inl ⟨_, rfl, _, _, rfl, rfl, (show (0 : Int) < 2147483587 by decide), ?_⟩⟩⟩
    have xx : ∀ y : Int, 0 ≤ y % 2147483587 ∧ y % 2147483587 < 2147483587 := fun y => ⟨Int.emod_nonneg _ (by decide), Int.emod_lt_of_pos _ (by decide)⟩
    refine ⟨_, rfl, _, rfl, _, _, rfl, rfl, mul64 (by decide) (by decide), _, _, rfl, rfl, _, _, rfl, rfl, mul64 (Int.lt_of_lt_of_le (by decide) (xx _).1) (Int.lt_trans (xx _).2 (by decide)), _, rfl, _, _, rfl, rfl, mul64 (by decide) (by decide), _, rfl, _, _, rfl, rfl, Or.inr ⟨by omega, by omega⟩, _, _, rfl, rfl, _, _, rfl, rfl, _, _, rfl, rfl,
      ⟨by decide, by decide, mixed2 (xx _).1 (xx _).2 (by decide) (by decide) (by decide) (by decide) (by decide) (by decide) (by decide) a0 a1⟩, .inl ⟨_, rfl, _, _, rfl, rfl, (show (0 : Int) < 2147483647 by decide), ?_⟩⟩
    exact ⟨_, rfl, .inl ⟨_, rfl, _, _, rfl, rfl, ⟨by decide, by decide⟩, _, rfl, _, _, rfl, rfl, m0, fin _⟩⟩
end
end Kx


set_option Elab.async false
set_option maxRecDepth 100000
set_option autoImplicit false
namespace Kx
open PySem L2 PySem.Spec PyProof.Rows Rg Er
def abc : Str := "abcdefghijklmnopqrstuvwxyz"
theorem len_small {z : Str} (h : z.length ≤ 1000) : z.length ≤ sizeLine := Nat.le_trans h (by decide)
theorem bIsi {X : Cx} {e c : Expr} {te tc : TE} {p pos : Pos} (hg : Gl X "isinstance") (m : X.mg "isinstance" = none) (he : PE X e te) (hc : PE X c tc) (na : starEach [e, c] X.env = (false, eval e X.env) :: starEach [c] X.env := by rfl)
    (nb : starEach [c] X.env = (false, eval c X.env) :: starEach [] X.env := by rfl) (hpl : (backTo pos (starEach [c] X.env)).any (·.1) = false := by rfl) : PE X (.Call (.Name "isinstance" p) [e, c] [] pos) (tCB (rIsi X.K) (tCons te (tCons tc tNil))) :=
  pe_callB call_isi hg m boot_isinstance (pa_cons he (pa_cons hc pa_nil nb) na) (he := na) (hpl := hpl)
/-- a list or a tuple -/
def Sq (H : Hp) (a : Addr) (xs : List V) : Prop := H a = some (.lst xs) ∨ H a = some (.tup xs)
theorem Sq.same {H H' : Hp} {a : Addr} {xs : List V} (h : Sq H a xs) (e : Same H H') : Sq H' a xs := h.elim (fun q => .inl (e _ _ q)) fun q => .inr (e _ _ q)
theorem Sq.len {K : PySem.W.Frag} {H : Hp} {a : Addr} {xs : List V} (h : Sq H a xs) : LenV K (.ref a) H xs.length := h.elim (fun q => .inl ⟨_, SqL.of q, rfl⟩) fun q => .inr ⟨_, SqT.of q, rfl⟩
theorem Same.new {H : Hp} {q : Addr} {o : HO} (h : H q = none) : Same H (upd H q o) := fun b u e => by rw [upd_ne (ne_of_none e h)]; exact e
theorem Same.putNew {H H' : Hp} {q : Addr} {o : HO} (h : H q = none) (e : Same H H') : Same H (upd H' q o) := fun b u z => by rw [upd_ne (ne_of_none z h)]; exact e _ _ z
theorem PI_or {X : Cx} {tg iter : Expr} {w1 w2 : TI} (h1 : PI X tg iter w1) (h2 : PI X tg iter w2) : PI X tg iter (fun σ H R => w1 σ H R ∨ w2 σ H R) := ⟨fun pins s σ H R I h => h.elim (h1.run pins s σ H R I) (h2.run pins s σ H R I)⟩
theorem wipe1 (σ : L2.St) (v : Nat) (x : V) : wipe ((wipe σ [v]).set v (some x)) [v] = wipe σ [v] := by
  show ((σ.set v none).set v (some x)).set v none = σ.set v none
  rw [List.set_set, List.set_set]
/-- a comprehension whose elements are told by the turn, over a heap that only grows -/
theorem lcMap {J : It} {n : Nat} {G : Hp → Prop} {Y : Nat → Hp → V → Hp → Prop} (w : Walk J n G Y) {v : Nat} {te : TE} {σ : L2.St} {H1 : Hp} {D : Addr} {Qd : Hp → Prop} (f : Nat → V) (hn : n < sizeLine) (hD : H1 D = none) (hG : ∀ H', Same H1 H' → G H')
    (hY : ∀ i H' x H2, Y i H' x H2 → H2 = H')
    (el : ∀ i x H' (Q : VK), i < n → Same H1 H' → Y i H' x H' → (∀ H4, Same H' H4 → Q (f i) H4) → te ((wipe σ [v]).set v (some x)) H' Q)
    (hd : ∀ H', Same H1 H' → H' D = some (.lst ((List.range n).map f)) → Qd H') :
    ∃ W : Nat → Nat → Hp → Prop, (∃ m, W 0 m (upd H1 D (.lst []))) ∧ ∀ i m H, W i m H →
      (J.stop i H ∧ Qd H) ∨ (J.go i H ∧ ∃ Nx : Hp → Prop, (∀ H', Nx H' → ∃ m', m' < m ∧ W (i + 1) m' H') ∧ ∀ x H', J.yld i H x H' → gName v x (wipe σ [v]) H' fun σ2 H2 => wipe σ2 [v] = wipe σ [v] ∧ tYes σ2 H2 fun b H3 =>
        if b = true then te σ2 H3 fun y H4 => ∃ acc, H4 D = some (.lst acc) ∧ acc.length < sizeLine ∧ Nx (upd H4 D (.lst (acc ++ [y]))) else Nx H3) := by
  refine lc_it w (fun i H' => Same H1 H' ∧ H' D = some (.lst ((List.range i).map f))) ⟨Same.new hD, upd_same⟩ (fun i H' _ q => hG H' q.1) ?_ fun H' q => hd H' q.1 q.2
  rintro i x H' H2 hi ⟨s1, hl⟩ y
  obtain rfl := hY _ _ _ _ y
  refine ⟨wipe1 σ v x, ?_⟩
  unfold tYes
  dsimp only
  rw [if_pos rfl]
  refine el i x H2 _ hi s1 y fun H4 s4 => ⟨_, s4 _ _ hl, ?_, Same.putNew hD (s1.trans s4), ?_⟩
  · rw [List.length_map, List.length_range]; omega
  rw [upd_same, List.range_succ, List.map_append]
  rfl
theorem range_const {n : Nat} {x : V} : (List.range n).map (fun _ => x) = List.replicate n x := by
  rw [List.map_const', List.length_range]
/-- a comprehension over any walk, by an invariant of turn, heap and what is made so far -/
theorem lcGen {J : It} {n : Nat} {G : Hp → Prop} {Y : Nat → Hp → V → Hp → Prop} (w : Walk J n G Y) {v : Nat} {te : TE} {σ : L2.St} {H1 : Hp} {D : Addr} {Qd : Hp → Prop} (Iv : Nat → Hp → List V → Prop) (hn : n < sizeLine)
    (h0 : Iv 0 (upd H1 D (.lst [])) []) (hG : ∀ i H' acc, i ≤ n → Iv i H' acc → G H') (hY : ∀ i H' x H2, Y i H' x H2 → H2 = H')
    (el : ∀ i x H' acc (Q : VK), i < n → H' D = some (.lst acc) → acc.length = i → Iv i H' acc → Y i H' x H' → (∀ y H4, H4 D = some (.lst acc) → Iv (i + 1) (upd H4 D (.lst (acc ++ [y]))) (acc ++ [y]) → Q y H4) → te ((wipe σ [v]).set v (some x)) H' Q)
    (hd : ∀ H' acc, H' D = some (.lst acc) → acc.length = n → Iv n H' acc → Qd H') :
    ∃ W : Nat → Nat → Hp → Prop, (∃ m, W 0 m (upd H1 D (.lst []))) ∧ ∀ i m H, W i m H →
      (J.stop i H ∧ Qd H) ∨ (J.go i H ∧ ∃ Nx : Hp → Prop, (∀ H', Nx H' → ∃ m', m' < m ∧ W (i + 1) m' H') ∧ ∀ x H', J.yld i H x H' → gName v x (wipe σ [v]) H' fun σ2 H2 => wipe σ2 [v] = wipe σ [v] ∧ tYes σ2 H2 fun b H3 =>
        if b = true then te σ2 H3 fun y H4 => ∃ acc, H4 D = some (.lst acc) ∧ acc.length < sizeLine ∧ Nx (upd H4 D (.lst (acc ++ [y]))) else Nx H3) := by
  refine lc_it w (fun i H' => ∃ acc, H' D = some (.lst acc) ∧ acc.length = i ∧ Iv i H' acc) ⟨[], upd_same, rfl, h0⟩ (fun i H' hi ⟨acc, _, _, q⟩ => hG i H' acc hi q) ?_ fun H' ⟨acc, q1, q2, q3⟩ => hd H' acc q1 q2 q3
  rintro i x H' H2 hi ⟨acc, ha, hl, iv⟩ y
  obtain rfl := hY _ _ _ _ y
  refine ⟨wipe1 σ v x, ?_⟩
  unfold tYes
  dsimp only
  rw [if_pos rfl]
  refine el i x H2 acc _ hi ha hl iv y fun y H4 h4 i4 => ⟨acc, h4, by omega, _, upd_same, ?_, i4⟩
  rw [List.length_append, hl]
  rfl
theorem Same.ext1 {H H' : Hp} (p : Addr) (e : Same H H') : Ext1 p H H' := fun b o _ q => e b o q
/-! the pen -/
def Ink (c p : Addr) (n : Nat) (H H' : Hp) : Prop := Ext1 p H H' ∧ PenAt c n H' p
theorem PenAt.ne1 {c p q : Addr} {n : Nat} {H : Hp} (h : PenAt c n H p) (e : H q = none) : q ≠ p := by
  rintro rfl
  obtain ⟨ns, a, g, h1, _⟩ := h
  rw [h1] at e; cases e
theorem PenAt.ne2 {c p q : Addr} {n : Nat} {H : Hp} (h : PenAt c n H p) (e : H q = none) : q ≠ c := by
  rintro rfl
  obtain ⟨ns, a, g, _, h2, _⟩ := h
  rw [h2] at e; cases e
theorem PenAt.put {c p q : Addr} {n : Nat} {H : Hp} {o : HO} (h : PenAt c n H p) (n1 : q ≠ p) (n2 : q ≠ c) : PenAt c n (upd H q o) p := by
  obtain ⟨ns, a, g, h1, h2, h3⟩ := h
  exact ⟨ns, a, g, by rw [upd_ne n1.symm]; exact h1, by rw [upd_ne n2.symm]; exact h2, h3⟩
theorem Ink.start {c p : Addr} {n : Nat} {H : Hp} (h : PenAt c n H p) : Ink c p n H H := ⟨Ext1.refl p H, h⟩
theorem Ink.trans {c p : Addr} {n m : Nat} {H H1 H2 : Hp} (a : Ink c p n H H1) (b : Ink c p m H1 H2) : Ink c p m H H2 := ⟨Ext1.trans a.1 b.1, b.2⟩
theorem Ink.same {c p : Addr} {n : Nat} {H H1 H2 : Hp} (a : Ink c p n H H1) (b : Same H1 H2) : Ink c p n H H2 := ⟨Ext1.trans a.1 (Same.ext1 p b), a.2.ext b⟩
theorem Ink.new {c p q : Addr} {n : Nat} {H H1 : Hp} {o : HO} (a : Ink c p n H H1) (e : H1 q = none) : Ink c p n H (upd H1 q o) := a.same (Same.new e)
theorem Ink.mono {c p : Addr} {n m : Nat} {H H1 : Hp} (a : Ink c p n H H1) (l : n ≤ m) : Ink c p m H H1 := ⟨a.1, a.2.mono l⟩
/-- what is new to H may change: H grows all the same -/
theorem Ext1.putNew {p q : Addr} {H H1 : Hp} {o : HO} (a : Ext1 p H H1) (e : H q = none) : Ext1 p H (upd H1 q o) := fun b u n z => by rw [upd_ne (ne_of_none z e)]; exact a b u n z
theorem Ink.putNew {c p q : Addr} {n k : Nat} {H H1 : Hp} {o : HO} (a : Ink c p n H H1) (s : PenAt c k H p) (e : H q = none) : Ink c p n H (upd H1 q o) := ⟨a.1.putNew e, a.2.put (s.ne1 e) (s.ne2 e)⟩
def spPen (K : PySem.W.Frag) : Sp := fun vs H Q _ => ∃ (a : Addr) (ns : List Int), vs = [.ref a] ∧ SqL K H a (ns.map V.int) ∧ ns.length ≤ 63 ∧ ∀ c p H', Same H H' → PenAt c 0 H' p → Q (.ref p) H'
theorem bList {X : Cx} {e : Expr} {te : TE} {p pos : Pos} (hg : Gl X "list") (m : X.mg "list" = none) (he : PE X e te) (na : starEach [e] X.env = (false, eval e X.env) :: starEach [] X.env := by rfl) :
    PE X (.Call (.Name "list" p) [e] [] pos) (tCB (fun xs H Q => ∃ p ys, xs = [.ref p] ∧ (SqL X.K H p ys ∨ SqT X.K H p ys) ∧ ∀ l, H l = none → Q (.ref l) (upd H l (.lst ys))) (tCons te tNil)) :=
  pe_callTy call_list_of hg m (by decide +kernel) (pa_cons he pa_nil na) (he := na)
section
variable {P : Program} {w : World} {K : PySem.W.Frag} {mg : Str → Option Value} {base : Heap}
theorem scPen : FnScope ["_law_script"] ["_law_script"] (defScope sPen) := ⟨rfl, rfl, rfl, by decide +kernel, rfl, by decide +kernel, by decide +kernel⟩
theorem ok_pen {f : Addr} {fd : FuncData} (F : Fun K "_law_pen" "_law_pen" sPen f fd) (T : Txt mg) : FnOk P w K mg base CX0 1 f fd ["_law_script"] (spPen K) := by
  refine F.ok scPen (fun vs H Q E h => ?_) (fun cdv A outer s H vs Q E hr h => ?_)
  · obtain ⟨a, ns, rfl, _⟩ := h
    rfl
  · obtain ⟨a, ns, rfl, hs, hl, k⟩ := h
    refine ⟨_, pss_one (ps_ret (pe_lst (pa_cons (bList (by rfl) T.list (pe_slice sl_list (pv 0) po_none (po_some pe_int))) (pa_cons pe_int (pa_cons pe_int pa_nil))))), ?_⟩
    refine ⟨_, rfl, _, rfl, a, _, rfl, hs, fun q hq => ?_⟩
    have e : cutV (ns.map V.int) none (some 63) = ns.map V.int := by
      unfold cutV
      rw [show HT.sIx (ns.map V.int).length 0 none = 0 from rfl, show HT.sIx (ns.map V.int).length (ns.map V.int).length (some 63) = min 63 (ns.map V.int).length from HT.sIx_nat _ _ 63, List.drop_zero, Nat.sub_zero]
      exact List.take_of_length_le (by rw [List.length_map]; omega)
    rw [e]
    refine ⟨q, _, rfl, .inl (SqL.of upd_same), fun c hc => ⟨by show 3 ≤ sizeLine; decide, fun p hp => ?_⟩⟩
    have cp : c ≠ p := by rintro rfl; rw [upd_same] at hp; cases hp
    refine k c p _ ?_ ⟨ns, 0, 0, upd_same, by rw [upd_ne cp, upd_same], cp, hl, by decide, by decide⟩
    exact Same.trans (Same.new hq) (Same.trans (Same.new hc) (Same.new hp))
end
theorem ix_or {X : Cx} {r1 r2 : R2} (h1 : IxR X r1) (h2 : IxR X r2) : IxR X (fun x y H Q => r1 x y H Q ∨ r2 x y H Q) := fun a b pins s σ H x y v u Q I rx ry h hs => h.elim (fun h => h1 a b pins s σ H x y v u Q I rx ry h hs) (fun h => h2 a b pins s σ H x y v u Q I rx ry h hs)
def spPick : Sp := fun vs H Q _ => ∃ (c p : Addr) (n : Nat), n ≤ 1000000 ∧ PenAt c n H p ∧
  ((∃ a xs, vs = [.ref p, .ref a] ∧ a ≠ p ∧ H a = some (.lst xs) ∧ 0 < xs.length ∧ xs.length ≤ 1000 ∧ ∀ v H', v ∈ xs → PenAt c (n + 1) H' p → Ext1 p H H' → Q v H') ∨
  (∃ z : Str, vs = [.ref p, .str z] ∧ 0 < z.length ∧ z.length ≤ 1000 ∧ ∀ d H', d ∈ z.cps.toList → PenAt c (n + 1) H' p → Ext1 p H H' → Q (.str ⟨#[d]⟩) H'))
theorem atI_int {α : Type} {xs : List α} {s : Int} {v : α} (s0 : 0 ≤ s) (h : xs[s.toNat]? = some v) : atI xs s = some v := by
  have e : ((s.toNat : Nat) : Int) = s := by omega
  have q := atI_nat h
  rw [e] at q
  exact q
theorem atI_some {α : Type} {xs : List α} {i : Int} (i0 : 0 ≤ i) (i1 : i < xs.length) : ∃ v, v ∈ xs ∧ atI xs i = some v := by
  have h : i.toNat < xs.length := by omega
  exact ⟨xs[i.toNat], List.getElem_mem h, atI_int i0 (List.getElem?_eq_getElem h)⟩
section
variable {P : Program} {w : World} {K : PySem.W.Frag} {mg : Str → Option Value} {base : Heap}
theorem scPick : FnScope ["_law_pen_here", "_law_things"] ["_law_pen_here", "_law_things"] (defScope sPick) := ⟨rfl, rfl, rfl, by decide +kernel, rfl, by decide +kernel, by decide +kernel⟩
theorem ok_pick {f f1 : Addr} {fd fd1 : FuncData} (F : Fun K "_law_pick" "_law_pick" sPick f fd) (T : Txt mg) (G : FnOk P w K mg base CX0 1 f1 fd1 ["_law_pen_here", "_law_many_here"] spDraw) (m1 : mg "_law_draw" = some (.ref f1)) (k1 : PySem.W.keepIn K (.ref f1) = true)
    (b1 : Binds K fd1 ["_law_pen_here", "_law_many_here"] []) : FnOk P w K mg base CX0 2 f fd ["_law_pen_here", "_law_things"] spPick := by
  refine F.ok scPick (fun vs H Q E h => ?_) (fun cdv A outer s H vs Q E hr h => ?_)
  · obtain ⟨c, p, n, _, _, ⟨a, xs, rfl, _⟩ | ⟨z, rfl, _⟩⟩ := h <;> rfl
  · obtain ⟨c, p, n, nb, pen, h⟩ := h
    refine ⟨_, pss_one (ps_ret (pe_ix (ix_or ix_list ix_str) (pv 1) (pe_call G hr (by rfl) m1 k1 b1 .nil pass0 (pa_cons (pv 0) (pa_cons (bLen (by rfl) T.len (pv 1)) pa_nil))) (fun _ _ => rfl))), ?_⟩
    rcases h with ⟨a, xs, rfl, ap, ha, l0, l1, k⟩ | ⟨z, rfl, l0, l1, k⟩
    · refine ⟨_, rfl, _, rfl, _, rfl, _, _, rfl, Sq.len (.inl ha), c, p, _, n, rfl, by omega, by omega, nb, pen, fun r H' r0 r1 pen' x => ?_⟩
      obtain ⟨v, hv, e⟩ := atI_some r0 r1
      exact .inl ⟨a, xs, r, v, rfl, rfl, SqL.of (x _ _ ap ha), e, k v H' hv pen' x⟩
    · refine ⟨_, rfl, _, rfl, _, rfl, _, z.length, rfl, ⟨len_small l1, rfl⟩, c, p, _, n, rfl, by omega, by omega, nb, pen, fun r H' r0 r1 pen' x => ?_⟩
      obtain ⟨v, hv, e⟩ := atI_some (xs := z.cps.toList) r0 (by rw [Array.length_toList]; exact r1)
      exact .inr ⟨z, r, v, rfl, rfl, len_small l1, e, k v H' hv pen' x⟩
end
theorem joinL_one : ∀ cs : List Nat, TL.joinL [] (cs.map fun d => [d]) = cs
  | [] => rfl
  | [_] => rfl
  | a :: b :: r => by
    have e := joinL_one (b :: r)
    show [a] ++ ([] ++ TL.joinL [] ((b :: r).map fun d => [d])) = a :: b :: r
    rw [e]
    rfl
theorem join_one (cs : List Nat) : Txt.join ("" : Str) (cs.map fun d => (⟨#[d]⟩ : Str)) = ⟨cs.toArray⟩ := by
  have e := SX.join_S [] (cs.map fun d => [d])
  rw [joinL_one, List.map_map] at e
  exact e
theorem sum_one : ∀ cs : List Nat, ((cs.map fun d => (⟨#[d]⟩ : Str)).map (·.length)).sum = cs.length
  | [] => rfl
  | a :: r => by
    rw [List.map_cons, List.map_cons, List.sum_cons, sum_one r, List.length_cons]
    show 1 + r.length = _
    omega
theorem kbMk {K : PySem.W.Frag} {x qual : Str} {st : Stmt} {f : Addr} {fd : FuncData} {ps ks : List Str} {n : Nat} {g : List Value → List Value → List Value} {gV : List V → List V → List V} (F : L2.Fun K x qual st f fd)
    (h : ∀ (kV doc pm : Value) (an : Option Addr) (cdv ct : Value) (us ws : List Value), us.length = n → ws.length = ks.length → bindArgs (PySem.W.fnOf x qual (defArgs st) (defBody st) (defScope st) .none kV doc pm an cdv ct) ⟨us, ks.zip ws⟩ = pure (ps.zip (g us ws)))
    (rel : ∀ {vs : List V} {us : List Value} {zs : List V} {ws : List Value}, Vals vs us → Vals zs ws → Vals (gV vs zs) (g us ws)) : KBn K fd ps n ks g gV := by
  obtain ⟨oc, od, kV, doc, pm, an, cdv, ct, osl, rfl, lk, hcd⟩ := F.ex
  exact ⟨fun s us ws _ l1 l2 => .of_eq (h kV doc pm an cdv ct us ws l1 l2), rel⟩
theorem vapp {vs : List V} {us : List Value} {zs : List V} {ws : List Value} (a : Vals vs us) (b : Vals zs ws) : Vals (vs ++ zs) (us ++ ws) := by
  induction a with
  | nil => exact b
  | cons r _ ih => exact .cons r ih
theorem vrev {vs : List V} {us : List Value} (a : Vals vs us) : Vals vs.reverse us.reverse := by
  induction a with
  | nil => exact .nil
  | cons r _ ih => rw [List.reverse_cons, List.reverse_cons]; exact vapp ih (.cons r .nil)
structure Tame (d : PyData) (h w : Nat) : Prop where
  sh : d.showable = true
  hd : d.hasDict = false
  dp : d.depth ≤ h
  ls : d.leavesShort 13 = true
  wt : d.weight ≤ w
structure Tames (ds : List PyData) (h w : Nat) : Prop where
  sh : PyData.showableAll ds = true
  hd : PyData.hasDictAll ds = false
  dp : PyData.depthAll ds ≤ h
  ls : PyData.leavesShortAll 13 ds = true
  wt : PyData.weightAll ds ≤ w
theorem Tames.nil {h w : Nat} : Tames [] h w := ⟨rfl, rfl, Nat.zero_le _, rfl, Nat.zero_le _⟩
theorem Tames.cons {d : PyData} {ds : List PyData} {h w1 w2 w : Nat} (a : Tame d h w1) (b : Tames ds h w2) (e : w1 + 1 + w2 ≤ w) : Tames (d :: ds) h w := by
  refine ⟨?_, ?_, ?_, ?_, ?_⟩
  · simp only [PyData.showableAll, a.sh, b.sh, Bool.and_self]
  · simp only [PyData.hasDictAll, a.hd, b.hd, Bool.or_self]
  · simp only [PyData.depthAll]; exact Nat.max_le.mpr ⟨a.dp, b.dp⟩
  · simp only [PyData.leavesShortAll, a.ls, b.ls, Bool.and_self]
  · simp only [PyData.weightAll]
    have := a.wt
    have := b.wt
    omega
theorem Tames.all {h w : Nat} : ∀ {ds : List PyData} {W : Nat}, (∀ d ∈ ds, Tame d h w) → ds.length * (w + 1) ≤ W → Tames ds h W
  | [], _, _, _ => .nil
  | d :: r, W, t, e => by
    rw [List.length_cons, Nat.succ_mul] at e
    exact Tames.cons (t d List.mem_cons_self) (Tames.all (fun x hx => t x (List.mem_cons_of_mem _ hx)) (Nat.le_refl _)) (by omega)
theorem Tame.list {ds : List PyData} {h w : Nat} (a : Tames ds h w) : Tame (.list ds) (h + 1) w := ⟨by simp only [PyData.showable, a.sh], by simp only [PyData.hasDict, a.hd], by simp only [PyData.depth]; have := a.dp; omega, by simp only [PyData.leavesShort, a.ls], by simp only [PyData.weight]; exact a.wt⟩
theorem Tame.tup {ds : List PyData} {h w : Nat} (a : Tames ds h w) : Tame (.tuple ds) (h + 1) w := ⟨by simp only [PyData.showable, a.sh], by simp only [PyData.hasDict, a.hd], by simp only [PyData.depth]; have := a.dp; omega, by simp only [PyData.leavesShort, a.ls], by simp only [PyData.weight]; exact a.wt⟩
theorem Tame.mono {d : PyData} {h w h' w' : Nat} (a : Tame d h w) (e1 : h ≤ h') (e2 : w ≤ w') : Tame d h' w' := ⟨a.sh, a.hd, Nat.le_trans a.dp e1, a.ls, Nat.le_trans a.wt e2⟩
theorem Tame.bool (b : Bool) {h w : Nat} : Tame (.bool b) h w := ⟨by simp only [PyData.showable], by simp only [PyData.hasDict], by simp only [PyData.depth]; exact Nat.zero_le _, by simp only [PyData.leavesShort], by simp only [PyData.weight]; exact Nat.zero_le _⟩
theorem Tame.int {i : Int} {h w : Nat} (i0 : 0 ≤ i) (i1 : i < 1000) (e : 10 ≤ w) : Tame (.int i) h w := by
  have l : i.natAbs.log2 < 10 := by
    by_cases z : i.natAbs = 0
    · rw [z]; decide
    · exact (Nat.log2_lt z).mpr (by omega)
  refine ⟨?_, by simp only [PyData.hasDict], by simp only [PyData.depth]; exact Nat.zero_le _, ?_, ?_⟩
  · simp only [PyData.showable, decide_eq_true_eq]; omega
  · simp only [PyData.leavesShort, decide_eq_true_eq]; exact PyData.shown_int_le (by omega)
  · simp only [PyData.weight]
    split <;> omega
theorem Tame.fits {d : PyData} {h w : Nat} (a : Tame d h w) (e : w ≤ 1048576) : d.shown.length ≤ sizeLine := PyData.shown_fits (B := 13) (by decide) (by decide) a.ls (Nat.le_trans a.wt e)
theorem rRepr_of {K : PySem.W.Frag} {H : Hp} {a : Addr} {d : PyData} {h w : Nat} {Q : VK} (r : Rp K H (.ref a) d) (t : Tame d h w) (e1 : h ≤ 20) (e2 : w ≤ 1048576) (k : Q (.str d.shown) H) : rRepr K [.ref a] H Q := ⟨a, d, rfl, r, t.sh, t.hd, Nat.le_trans t.dp e1, t.fits e2, k⟩
theorem neSame (x : V) : (!decide (x = x)) = false := by rw [decide_eq_true rfl]; rfl
theorem eqSame (x : V) : decide (x = x) = true := decide_eq_true rfl
/-- a class of errors with one field, as a raise wants it -/
structure ErrB (P : Program) (w : World) (K : PySem.W.Frag) (mg : Str → Option Value) (base : Heap) (x f : Str) (C : Addr) : Prop where
  O : OexC K C
  mgC : mg x = some (.ref C)
  init : ∃ fi fd ps, PySem.W.findIn K (.ref C) "__init__" = some (some (.ref fi)) ∧ PySem.W.typeIn K (.ref fi) = some (.type "function") ∧ FnOk P w K mg base CX0 1 fi fd ps (spErr1 C f) ∧ Binds K fd ps []
def raised (C : Addr) (f : Str) (v : V) (E : XK) (H : Hp) : Prop := ∀ d, H d = none → E (.ref C) (some d) (upd H d (.xd [(f, v)]))
end Kx
set_option Elab.async false
set_option maxRecDepth 100000
set_option autoImplicit false
/-! the texts of rules, as lists of signs -/
namespace Kx
open PySem L2 PySem.Spec PyProof.Rows Rg SX
def isL (c : Nat) : Bool := decide (c ∈ abc.cps.toList)
/-- a stretch of letters -/
def lets (lo : Nat) (z : Str) : Bool := decide (lo ≤ z.length) && decide (z.length ≤ 4) && z.cps.toList.all isL
theorem takeWhile_lt (p : Nat → Bool) : ∀ l : List Nat, l.all p = false → (l.takeWhile p).length < l.length ∧ ∃ c r, l.drop (l.takeWhile p).length = c :: r ∧ p c = false
  | [], h => by simp at h
  | c :: r, h => by
    by_cases q : p c = true
    · have h2 : r.all p = false := by simpa [q] using h
      obtain ⟨a, b⟩ := takeWhile_lt p r h2
      rw [List.takeWhile_cons, q, if_pos rfl]
      exact ⟨by simpa using a, by simpa using b⟩
    · have q2 : p c = false := by simpa using q
      rw [List.takeWhile_cons, q2, if_neg (by simp)]
      exact ⟨by simp, c, r, rfl, q2⟩
theorem takeWhile_all (p : Nat → Bool) : ∀ l : List Nat, l.all p = true → l.takeWhile p = l
  | [], _ => rfl
  | c :: r, h => by
    have q : p c = true := by simp at h; exact h.1
    have h2 : r.all p = true := by simp at h ⊢; exact h.2
    rw [List.takeWhile_cons, q, if_pos rfl, takeWhile_all p r h2]
theorem isL_eq : abc.cps.contains = isL := by
  funext c
  unfold isL
  rw [← Array.contains_toList]
  simp [List.contains_iff_mem]
theorem strip_all (z : Str) (h : z.cps.toList.all isL = true) : Txt.stripChars z abc = Str.empty := by
  obtain ⟨⟨L⟩⟩ := z
  show Txt.stripBy abc.cps.contains true true ⟨⟨L⟩⟩ = Str.empty
  rw [isL_eq]
  have hl : L.takeWhile isL = L := takeWhile_all _ _ h
  unfold Txt.stripBy stripSame stripped stripLo stripHi
  simp only [if_true, hl]
  by_cases q : L = []
  · subst q; rfl
  · have e : (L.length == 0) = false := by
      cases L with
      | nil => exact absurd rfl q
      | cons a r => rfl
    rw [e, Bool.false_and, if_neg (by simp)]
    show (⟨(⟨L⟩ : Array Nat).extract L.length _⟩ : Str) = Str.empty
    have : (⟨L⟩ : Array Nat).extract L.length ((⟨⟨L⟩⟩ : Str).length - (List.takeWhile isL (List.drop L.length L).reverse).length) = #[] := by
      simp [Str.length]
    rw [this]; rfl
theorem strip_some (z : Str) (h : z.cps.toList.all isL = false) : Txt.stripChars z abc ≠ Str.empty := by
  obtain ⟨⟨L⟩⟩ := z
  show Txt.stripBy abc.cps.contains true true ⟨⟨L⟩⟩ ≠ Str.empty
  rw [isL_eq]
  obtain ⟨h1, c, r, h2, h3⟩ := takeWhile_lt isL L h
  have h4 : ((L.drop (L.takeWhile isL).length).reverse.takeWhile isL).length < (L.drop (L.takeWhile isL).length).length := by
    have := (takeWhile_lt isL (L.drop (L.takeWhile isL).length).reverse (by rw [h2]; simp [h3])).1
    rw [List.length_reverse] at this
    exact this
  rw [List.length_drop] at h4
  unfold Txt.stripBy stripSame stripped stripLo stripHi
  simp only [if_true]
  have len : (⟨⟨L⟩⟩ : Str).length = L.length := rfl
  intro z
  split at z
  · have := congrArg Str.length z
    rw [len] at this
    have e0 : Str.empty.length = 0 := rfl
    omega
  · have := congrArg Str.length z
    have e0 : Str.empty.length = 0 := rfl
    rw [e0] at this
    have e1 : ∀ i j : Nat, (Builtin.Str.strSub ⟨⟨L⟩⟩ i j).length = min j L.length - i := fun i j => by
      show ((⟨L⟩ : Array Nat).extract i j).size = _
      rw [Array.size_extract]
      rfl
    rw [e1, len] at this
    have h5 : (List.drop (List.takeWhile isL L).length L) = (L.drop (L.takeWhile isL).length) := rfl
    omega
theorem strip_iff (z : Str) : decide (Txt.stripChars z abc = Str.empty) = z.cps.toList.all isL := by
  cases h : z.cps.toList.all isL with
  | true => exact decide_eq_true (strip_all z h)
  | false => exact decide_eq_false (strip_some z h)
/-! ### the two ways to cut at the arrow -/
theorem pre62 (c : Nat) (r : List Nat) : TL.pre [62] (c :: r) = (c == 62) := by
  unfold TL.pre
  by_cases q : c = 62
  · subst q; rfl
  · have : (c == 62) = false := by simpa using q
    rw [this]
    simp [q]
theorem spl_none : ∀ (I acc : List Nat), TL.par [62] acc I = none → TL.spl [62] 0 acc I = [acc ++ I] ∧ I.all (fun c => c != 62) = true
  | [], acc, _ => by rw [TL.spl_nil, List.append_nil]; exact ⟨rfl, rfl⟩
  | c :: r, acc, h => by
    unfold TL.par at h
    rw [pre62] at h
    by_cases q : c = 62
    · subst q; simp at h
    · have q2 : (c == 62) = false := by simpa using q
      rw [q2, if_neg (by simp)] at h
      obtain ⟨a, b⟩ := spl_none r (acc ++ [c]) h
      unfold TL.spl
      rw [pre62, q2, if_neg (by simp), a]
      exact ⟨by simp, by simpa [q] using b⟩
theorem spl_some : ∀ (I acc p q : List Nat), TL.par [62] acc I = some (p, q) → TL.spl [62] 0 acc I = p :: TL.spl [62] 0 [] q
  | [], acc, _, _, h => by cases h
  | c :: r, acc, p, q, h => by
    unfold TL.par at h
    rw [pre62] at h
    by_cases e : c = 62
    · subst e
      simp at h
      obtain ⟨rfl, rfl⟩ := h
      rw [TL.spl_hit (by rw [pre62]; rfl)]
      rfl
    · have q2 : (c == 62) = false := by simpa using e
      rw [q2, if_neg (by simp)] at h
      have a := spl_some r (acc ++ [c]) p q h
      rw [show TL.spl [62] 0 acc (c :: r) = TL.spl [62] 0 (acc ++ [c]) r from by rw [TL.spl, pre62, q2, if_neg (by simp)]]
      exact a
theorem spl_pos (I acc : List Nat) : ∃ a r, TL.spl [62] 0 acc I = a :: r := by
  cases h : TL.par [62] acc I with
  | none => exact ⟨_, _, (spl_none I acc h).1⟩
  | some pq => exact ⟨_, _, spl_some I acc pq.1 pq.2 h⟩
theorem isL62 : isL 62 = false := by decide +kernel
/-- the stretches of a text between its ends, if it is a rule's -/
def rdL (I : List Nat) : Option (List Nat × List Nat) := match TL.par [62] [] I with
  | none => none
  | some (p, q) => if lets 1 (S p) && lets 0 (S q) then some (p, q) else none
theorem rdL_spl {I : List Nat} : rdL I = match TL.spl [62] 0 [] I with
    | [a, b] => if lets 1 (S a) && lets 0 (S b) then some (a, b) else none
    | _ => none := by
  unfold rdL
  cases h : TL.par [62] [] I with
  | none =>
    rw [(spl_none I [] h).1]
  | some pq =>
    obtain ⟨p, q⟩ := pq
    rw [spl_some I [] p q h]
    cases h2 : TL.par [62] [] q with
    | none =>
      rw [(spl_none q [] h2).1]
      simp
    | some pq2 =>
      obtain ⟨p2, q2⟩ := pq2
      obtain ⟨a, r, e⟩ := spl_pos q2 []
      rw [spl_some q [] p2 q2 h2, e]
      have no : lets 0 (S q) = false := by
        cases h3 : lets 0 (S q) with
        | false => rfl
        | true =>
          unfold lets at h3
          rw [Bool.and_eq_true] at h3
          have h4 : q.all isL = true := h3.2
          have h5 : ∀ (q acc : List Nat), q.all isL = true → TL.par [62] acc q = none := by
            intro q
            induction q with
            | nil => intro acc _; rfl
            | cons c r ih =>
              intro acc hq
              simp only [List.all_cons, Bool.and_eq_true] at hq
              have e : (c == 62) = false := by
                by_cases e : c = 62
                · subst e; rw [isL62] at hq; cases hq.1
                · simpa using e
              unfold TL.par
              rw [pre62, e, if_neg (by simp)]
              exact ih _ hq.2
          rw [h5 q [] h4] at h2
          cases h2
      simp [no]
end Kx
set_option Elab.async false
set_option maxRecDepth 100000
set_option autoImplicit false
/-! the marks of the ends -/
namespace Kx
open PySem L2 PySem.Spec PyProof.Rows Rg SX
def hd (z : Str) : Bool := decide (z.cps.toList.head? = some 91)
def la (z : Str) : Bool := decide (z.cps.toList.getLast? = some 93)
def bit (b : Bool) : Nat := if b then 1 else 0
/-- what stands between the marks -/
def inn (z : Str) : List Nat := (z.cps.toList.drop (bit (hd z))).take (z.cps.toList.length - bit (la z) - bit (hd z))
theorem sub0 (L : List Nat) : Builtin.Str.subAt ⟨⟨L⟩⟩ "[" 0 = decide (L.head? = some 91) := by
  cases L with
  | nil => rfl
  | cons c r =>
    show ((⟨c :: r⟩ : Array Nat).extract 0 1 == #[91]) = _
    have : (⟨c :: r⟩ : Array Nat).extract 0 1 = #[c] := by
      apply Array.ext'
      simp
    rw [this]
    by_cases q : c = 91
    · subst q; rfl
    · rw [decide_eq_false (by simpa using q)]
      simp [q]
theorem hd_pos {L : List Nat} (h : L.head? = some 91) : 1 ≤ L.length := by
  cases L with
  | nil => cases h
  | cons c r => simp
theorem la_pos {L : List Nat} (h : L.getLast? = some 93) : 1 ≤ L.length := by
  cases L with
  | nil => cases h
  | cons c r => simp
/-- both marks: two signs at least -/
theorem both {L : List Nat} (h : L.head? = some 91) (g : L.getLast? = some 93) : 2 ≤ L.length := by
  match L, h, g with
  | [c], h, g => simp at h g; omega
  | c :: d :: r, _, _ => simp
theorem starts_eq (z : Str) : Txt.startswith z "[" = hd z := by
  obtain ⟨⟨L⟩⟩ := z
  show (decide (0 + 1 ≤ L.length) && Builtin.Str.subAt ⟨⟨L⟩⟩ "[" 0) = decide (L.head? = some 91)
  rw [sub0]
  by_cases q : L.head? = some 91
  · rw [decide_eq_true q, decide_eq_true (by have := hd_pos q; omega)]; rfl
  · rw [decide_eq_false q, Bool.and_false]
theorem drop_last : ∀ (L : List Nat) (h : L ≠ []), L.drop (L.length - 1) = [L.getLast h]
  | [c], _ => rfl
  | c :: d :: r, h => by
    have := drop_last (d :: r) (by simp)
    simpa using this
theorem subE (L : List Nat) (h : 1 ≤ L.length) : Builtin.Str.subAt ⟨⟨L⟩⟩ "]" (L.length - 1) = decide (L.getLast? = some 93) := by
  show ((⟨L⟩ : Array Nat).extract (L.length - 1) (L.length - 1 + 1) == #[93]) = _
  have e : (⟨L⟩ : Array Nat).extract (L.length - 1) (L.length - 1 + 1) = ⟨[L.getLast (by intro q; subst q; simp at h)]⟩ := by
    apply Array.ext'
    simp only [Array.toList_extract, List.extract_eq_take_drop]
    rw [drop_last L (by intro q; subst q; simp at h)]
    rw [show L.length - 1 + 1 - (L.length - 1) = 1 from by omega]
    rfl
  rw [e, List.getLast?_eq_some_getLast (by intro q; subst q; simp at h)]
  by_cases q : L.getLast (by intro q; subst q; simp at h) = 93
  · rw [q]; rfl
  · rw [decide_eq_false (by simpa using q)]
    simp [q]
theorem ends_eq (z : Str) : Txt.endswith z "]" = la z := by
  obtain ⟨⟨L⟩⟩ := z
  show (decide (0 + 1 ≤ L.length) && Builtin.Str.subAt ⟨⟨L⟩⟩ "]" (L.length - 1)) = decide (L.getLast? = some 93)
  by_cases q : 1 ≤ L.length
  · rw [subE L q, decide_eq_true (by omega)]; rfl
  · have e : L = [] := by
      cases L with
      | nil => rfl
      | cons a r => simp at q
    subst e; rfl
theorem rmp (L : List Nat) : Txt.removeprefix ⟨⟨L⟩⟩ "[" = ⟨⟨L.drop (bit (decide (L.head? = some 91)))⟩⟩ := by
  unfold Txt.removeprefix
  rw [sub0]
  by_cases q : L.head? = some 91
  · rw [decide_eq_true q, if_pos rfl]
    have l := hd_pos q
    show (if (L.length - 1 == L.length) = true then _ else _) = _
    rw [if_neg (by simp; omega)]
    show (⟨(⟨L⟩ : Array Nat).extract 1 L.length⟩ : Str) = ⟨⟨L.drop 1⟩⟩
    congr 1
    apply Array.ext'
    simp
    exact List.take_of_length_le (by simp)
  · rw [decide_eq_false q, if_neg (by simp)]
    rfl
theorem rms (L : List Nat) : Txt.removesuffix ⟨⟨L⟩⟩ "]" = ⟨⟨L.take (L.length - bit (decide (L.getLast? = some 93)))⟩⟩ := by
  unfold Txt.removesuffix
  show Txt.affix ⟨⟨L⟩⟩ (if (decide (1 ≤ L.length) && Builtin.Str.subAt ⟨⟨L⟩⟩ "]" (L.length - 1)) = true then some (0, L.length - 1) else none) = _
  by_cases l : 1 ≤ L.length
  · rw [subE L l, decide_eq_true l, Bool.true_and]
    by_cases q : L.getLast? = some 93
    · rw [decide_eq_true q, if_pos rfl]
      show (if (L.length - 1 - 0 == L.length) = true then _ else _) = _
      rw [if_neg (by simp; omega)]
      show (⟨(⟨L⟩ : Array Nat).extract 0 (L.length - 1)⟩ : Str) = ⟨⟨L.take (L.length - 1)⟩⟩
      congr 1
      apply Array.ext'
      simp [List.dropLast_eq_take]
    · rw [decide_eq_false q, if_neg (by simp)]
      show (⟨⟨L⟩⟩ : Str) = ⟨⟨L.take (L.length - 0)⟩⟩
      simp
  · have e : L = [] := by
      cases L with
      | nil => rfl
      | cons a r => simp at l
    subst e; rfl
theorem inner_prog (z : Str) : Txt.removesuffix (Txt.removeprefix z "[") "]" = S (inn z) := by
  obtain ⟨⟨L⟩⟩ := z
  rw [rmp, rms]
  show (⟨⟨(L.drop (bit (decide (L.head? = some 91)))).take ((L.drop (bit (decide (L.head? = some 91)))).length - bit (decide ((L.drop (bit (decide (L.head? = some 91)))).getLast? = some 93)))⟩⟩ : Str) = ⟨⟨(L.drop (bit (decide (L.head? = some 91)))).take (L.length - bit (decide (L.getLast? = some 93)) - bit (decide (L.head? = some 91)))⟩⟩
  congr 3
  rw [List.length_drop]
  by_cases q : L.head? = some 91
  · rw [decide_eq_true q]
    show L.length - 1 - bit (decide ((L.drop 1).getLast? = some 93)) = L.length - bit (decide (L.getLast? = some 93)) - 1
    match L, q with
    | [c], q =>
      have e : c = 91 := by simpa using q
      subst e; rfl
    | c :: d :: r, q =>
      have e : (List.drop 1 (c :: d :: r)).getLast? = (c :: d :: r).getLast? := by simp
      rw [e]
      omega
  · rw [decide_eq_false q]
    show L.length - 0 - bit (decide ((L.drop 0).getLast? = some 93)) = L.length - bit (decide (L.getLast? = some 93)) - 0
    simp
theorem one_inj {c d : Nat} (z : V.str ⟨#[c]⟩ = V.str ⟨#[d]⟩) : c = d := by
  have h := congrArg (fun s : Str => s.cps.toList) (V.str.inj z)
  exact (List.cons.inj h).1
theorem cut_hd (z : Str) : decide (V.str (cutS z none (some 1)) = V.str "[") = hd z := by
  obtain ⟨⟨L⟩⟩ := z
  unfold cutS hd
  rw [show HT.sIx (⟨⟨L⟩⟩ : Str).length 0 none = 0 from rfl, show HT.sIx (⟨⟨L⟩⟩ : Str).length (⟨⟨L⟩⟩ : Str).length (some 1) = min 1 L.length from HT.sIx_nat _ _ 1]
  show decide (V.str ⟨((L.drop 0).take (min 1 L.length - 0)).toArray⟩ = V.str "[") = decide (L.head? = some 91)
  cases L with
  | nil => rfl
  | cons c r =>
    rw [show min 1 (c :: r).length - 0 = 1 from by simp]
    show decide (V.str ⟨#[c]⟩ = V.str "[") = _
    by_cases q : c = 91
    · subst q; rfl
    · rw [show decide ((c :: r).head? = some 91) = false from decide_eq_false (by simpa using q)]
      exact decide_eq_false fun z => q (one_inj z)
theorem cut_la (z : Str) : decide (V.str (cutS z (some (-1)) none) = V.str "]") = la z := by
  obtain ⟨⟨L⟩⟩ := z
  unfold cutS la
  rw [show HT.sIx (⟨⟨L⟩⟩ : Str).length (⟨⟨L⟩⟩ : Str).length none = L.length from rfl, show HT.sIx (⟨⟨L⟩⟩ : Str).length 0 (some (-1)) = L.length - 1 from by
    unfold HT.sIx
    dsimp only
    rw [if_pos (by decide)]
    show ((-1 : Int) + (L.length : Int)).toNat = _
    omega]
  show decide (V.str ⟨((L.drop (L.length - 1)).take (L.length - (L.length - 1))).toArray⟩ = V.str "]") = decide (L.getLast? = some 93)
  by_cases l : L = []
  · subst l; rfl
  · rw [drop_last L l, List.getLast?_eq_some_getLast l]
    have l1 : 1 ≤ L.length := by
      cases L with
      | nil => exact absurd rfl l
      | cons a r => simp
    rw [show L.length - (L.length - 1) = 1 from by omega]
    show decide (V.str ⟨#[L.getLast l]⟩ = V.str "]") = _
    by_cases q : L.getLast l = 93
    · rw [q]; rfl
    · rw [show decide (some (L.getLast l) = some 93) = false from decide_eq_false (by simpa using q)]
      exact decide_eq_false fun z => q (one_inj z)
theorem cut_inn (z : Str) : cutS z (some (bit (hd z) : Nat)) (some ((z.length : Int) - (bit (la z) : Nat))) = S (inn z) := by
  obtain ⟨⟨L⟩⟩ := z
  unfold cutS inn
  have e : ((⟨⟨L⟩⟩ : Str).length : Int) - (bit (la ⟨⟨L⟩⟩) : Nat) = ((L.length - bit (la ⟨⟨L⟩⟩) : Nat) : Int) := by
    show (L.length : Int) - _ = _
    have : bit (la ⟨⟨L⟩⟩) ≤ L.length := by
      unfold la bit
      show (if decide (L.getLast? = some 93) = true then 1 else 0) ≤ L.length
      by_cases q : L.getLast? = some 93
      · rw [if_pos (by simpa using q)]; exact la_pos q
      · rw [if_neg (by simpa using q)]; exact Nat.zero_le _
    omega
  rw [e, HT.sIx_nat, HT.sIx_nat]
  show (⟨((L.drop (min (bit (hd ⟨⟨L⟩⟩)) L.length)).take (min (L.length - bit (la ⟨⟨L⟩⟩)) L.length - min (bit (hd ⟨⟨L⟩⟩)) L.length)).toArray⟩ : Str) = ⟨⟨_⟩⟩
  have h1 : min (bit (hd ⟨⟨L⟩⟩)) L.length = bit (hd ⟨⟨L⟩⟩) := by
    unfold hd bit
    show min (if decide (L.head? = some 91) = true then 1 else 0) L.length = (if decide (L.head? = some 91) = true then 1 else 0)
    by_cases q : L.head? = some 91
    · rw [if_pos (by simpa using q)]; have := hd_pos q; omega
    · rw [if_neg (by simpa using q)]; omega
  rw [h1, show min (L.length - bit (la ⟨⟨L⟩⟩)) L.length = L.length - bit (la ⟨⟨L⟩⟩) from by omega]
end Kx
set_option Elab.async false
set_option maxRecDepth 100000
set_option autoImplicit false
/-! are_letters of any value; Rule.__init__ -/
namespace Kx
open PySem L2 PySem.Spec PyProof.Rows Rg Er Ru
abbrev sAreLetters : Stmt := top 8
abbrev sRInit : Stmt := inClass (top 10) 1
def NoStr (K : PySem.W.Frag) (H : Hp) (x : V) : Prop := ∃ t, TyX K H x t ∧ PySem.W.kitOne K t (.type "str") = some false
/-- x is a text that is a stretch or not, or no text -/
def Tx (K : PySem.W.Frag) (lo : Nat) (H : Hp) (x : V) (b : Bool) : Prop := (∃ wd : Str, x = .str wd ∧ wd.length ≤ 1000 ∧ b = lets lo wd) ∨ (b = false ∧ NoStr K H x)
/-- x is a truth, or is none -/
def Tb (K : PySem.W.Frag) (H : Hp) (x : V) (b : Bool) : Prop := ∃ t, TyX K H x t ∧ PySem.W.kitOne K t (.type "bool") = some b
def spAreLetters (K : PySem.W.Frag) : Sp := fun vs H Q _ => ∃ (x : V) (lo : Nat) (b : Bool), vs = [x, .int lo, .int 4] ∧ Tx K lo H x b ∧ Q (.bl b) H
theorem eqEmpty (x : Str) : decide (V.str x = V.str "") = decide (x = Str.empty) := by
  by_cases q : x = Str.empty
  · rw [q] <;> rfl
  · rw [decide_eq_false q]
    exact decide_eq_false fun z : V.str x = V.str "" => q (V.str.inj z)
section
variable {P : Program} {w : World} {K : PySem.W.Frag} {mg : Str → Option Value} {base : Heap}
theorem scAreLetters : FnScope ["value", "least", "most"] ["value", "least", "most"] (defScope sAreLetters) := ⟨rfl, rfl, rfl, by decide +kernel, rfl, by decide +kernel, by decide +kernel⟩
theorem ok_areLetters {f : Addr} {fd : FuncData} (F : L2.Fun K "are_letters" "are_letters" sAreLetters f fd) (T : Txt mg) (mS : mg "str" = none) {tk : Tok} (mL : mg "LETTERS" = some (.str abc tk)) : FnOk P w K mg base CX0 1 f fd ["value", "least", "most"] (spAreLetters K) := by
  refine F.ok scAreLetters (fun vs H Q E h => ?_) (fun cdv A outer s H vs Q E hr h => ?_)
  · obtain ⟨x, lo, b, rfl, _⟩ := h
    rfl
  · obtain ⟨x, lo, b, rfl, how, k⟩ := h
    refine ⟨_, pss_one (ps_ret (pe_and (bIsi (by rfl) T.isi (pv 0) (pe_bltn (v := .ty "str") (by rfl) mS (by decide +kernel) rfl)) (pe_and (pe_chain op_le op_le (pv 1) (bLen (by rfl) T.len (pv 0)) (pv 2))
      (pe_one (pe_cmpR op_eq (pe_bm PySem.F.plainAttrs_str PySem.F.slot_str_strip PySem.F.type_str_strip mt_stripChars (pv 0) (pa_cons (pe_glob (v := .str abc) (by rfl) mL ⟨_, rfl⟩) pa_nil)) pe_str (nomark _)))))), ?_⟩
    rcases how with ⟨wd, rfl, few, rfl⟩ | ⟨rfl, t, ty, no⟩
    · refine ⟨_, rfl, .str wd, .ty "str", _, _, true, rfl, .ty "str", .base (.str wd), kit_ty (by decide +kernel), true, rfl, iteT ?_⟩
      refine ⟨_, rfl, _, rfl, _, wd.length, rfl, ⟨len_small (by omega), rfl⟩, _, _, rfl, rfl, _, rfl, ?_⟩
      unfold lets at k
      by_cases h1 : lo ≤ wd.length
      · rw [if_pos (decide_eq_true (by omega))]
        refine ⟨_, rfl, _, _, rfl, rfl, _, rfl, ?_⟩
        rw [decide_eq_true h1, Bool.true_and] at k
        by_cases h2 : wd.length ≤ 4
        · rw [if_pos (decide_eq_true (by omega))]
          refine ⟨_, rfl, rfl, wd, abc, rfl, rfl, len_small (by omega), ?_⟩
          refine ⟨rfl, ?_⟩
          rw [decide_eq_true h2, Bool.true_and] at k
          rw [eqEmpty, strip_iff]
          exact k
        · rw [decide_eq_false h2, Bool.false_and] at k
          have e : decide ((wd.length : Int) ≤ 4) = false := decide_eq_false (by omega)
          rw [e]
          exact iteF k
      · rw [decide_eq_false h1, Bool.false_and, Bool.false_and] at k
        have e : decide ((lo : Int) ≤ (wd.length : Int)) = false := decide_eq_false (by omega)
        rw [e]
        exact iteF ⟨_, rfl, iteF k⟩
    · exact ⟨_, rfl, x, .ty "str", _, _, false, rfl, .ty "str", ty, no, false, rfl, iteF k⟩
end
/-! ### rules -/
def rf1 (o : V) : List (Str × V) := putF "old" o []
def rf2 (o n : V) : List (Str × V) := putF "new" n (rf1 o)
def rf3 (o n l : V) : List (Str × V) := putF "left" l (rf2 o n)
def rf (o n l r : V) : List (Str × V) := putF "right" r (rf3 o n l)
theorem rf_lookups (o n l r : V) : (rf o n l r).lookup ("old" : Str) = some o ∧ (rf o n l r).lookup ("new" : Str) = some n ∧ (rf o n l r).lookup ("left" : Str) = some l ∧ (rf o n l r).lookup ("right" : Str) = some r := by
  unfold rf rf3 rf2 rf1
  refine ⟨?_, ?_, ?_, ?_⟩ <;> simp only [lookup_putF] <;> simp (config := { decide := true })
/-- at a the rule -/
def Rl (C : Addr) (H : Hp) (a : Addr) (o n : Str) (l r : Bool) : Prop := ∃ dx, H a = some (.ins C dx (rf (.str o) (.str n) (.bl l) (.bl r)))
theorem Rl.same {C a : Addr} {H H' : Hp} {o n : Str} {l r : Bool} (h : Rl C H a o n l r) (e : Same H H') : Rl C H' a o n l r := h.imp fun _ q => e _ _ q
/-- what is written of the class -/
structure RT (K : PySem.W.Frag) (mg : Str → Option Value) (C : Addr) : Prop where
  cl : Cls K C
  n1 : NoAttr K C "old"
  n2 : NoAttr K C "new"
  n3 : NoAttr K C "left"
  n4 : NoAttr K C "right"
  mgC : mg "Rule" = some (.ref C)
  rd : ∃ mc u, ClX.CRead K C mc ∧ ClX.CVal K C mc "LONGEST" (.int 4) u
/-- the first part that is wrong -/
def bad4 (a b c d : Bool) : Option Str := if a = false then some "old" else if b = false then some "new" else if c = false then some "left" else if d = false then some "right" else none
def spRInit (K : PySem.W.Frag) (C CR : Addr) : Sp := fun vs H Q E => ∃ (p dx : Addr) (x y u v : V) (a b c d : Bool), vs = [.ref p, x, y, u, v] ∧ H p = some (.ins C dx []) ∧ Tx K 1 H x a ∧ Tx K 0 H y b ∧ Tb K H u c ∧ Tb K H v d ∧
  match bad4 a b c d with
  | some part => raised CR "part" (.str part) E H
  | none => ∀ H', Ext1 p H H' → H' p = some (.ins C dx (rf x y u v)) → Q .non H'
section
variable {P : Program} {w : World} {K : PySem.W.Frag} {mg : Str → Option Value} {base : Heap}
abbrev nInit : List Str := ["self", "old", "new", "left", "right"]
theorem scRInit : FnScope nInit nInit (defScope sRInit) := ⟨rfl, rfl, rfl, by decide +kernel, rfl, by decide +kernel, by decide +kernel⟩
theorem ok_rInit {C CR f f1 : Addr} {fd fd1 : FuncData} {kws : List (Str × V)} (F : FunD K "__init__" "Rule.__init__" (defArgs sRInit) (defBody sRInit) (defScope sRInit) [] kws f fd) (T : Txt mg) (M : RT K mg C) (R : ErrB P w K mg base "BadRule" "part" CR) (mB : mg "bool" = none)
    (G : FnOk P w K mg base CX0 1 f1 fd1 ["value", "least", "most"] (spAreLetters K)) (m1 : mg "are_letters" = some (.ref f1)) (k1 : PySem.W.keepIn K (.ref f1) = true) (b1 : L2.Binds K fd1 ["value", "least", "most"] []) :
    FnOk P w K mg base (L2.CX P w) 3 f fd nInit (spRInit K C CR) := by
  obtain ⟨fi, fdi, psi, r1, r2, r3, r4⟩ := R.init
  obtain ⟨mc, lu, rd, cv⟩ := M.rd
  refine F.ok scRInit (fun vs H Q E h => ?_) (fun cdv A outer s H vs Q E hr h => ?_)
  · obtain ⟨p, dx, x, y, u, v, a, b, c, d, rfl, _⟩ := h
    rfl
  · obtain ⟨p, dx, x, y, u, v, a, b, c, d, rfl, hp, hx, hy, hu, hv, k⟩ := h
    have tk := takes_of (X := cxOf (L2.CX P w) P w K mg base nInit "Rule.__init__" (defScope sRInit) f cdv A outer s H E) rfl rfl rfl rfl
    have hr1 := hr.mono (show 1 ≤ 2 by decide)
    refine ⟨_, pss_cons (ps_if (pt_not (pt_val (pe_call G hr1 (by rfl) m1 k1 b1 .nil pass0 (pa_cons (pv 1) (pa_cons pe_int (pa_cons (ClX.pe_cval (pe_glob (v := .ref C) (by rfl) M.mgC rfl)) pa_nil)))))) (pss_one (ps_raise1 rfl tk R.O r1 r2 r3 hr r4 (by rfl) R.mgC pe_str)) pss_nil)
      (pss_cons (ps_if (pt_not (pt_val (pe_call G hr1 (by rfl) m1 k1 b1 .nil pass0 (pa_cons (pv 2) (pa_cons pe_int (pa_cons (ClX.pe_cval (pe_glob (v := .ref C) (by rfl) M.mgC rfl)) pa_nil)))))) (pss_one (ps_raise1 rfl tk R.O r1 r2 r3 hr r4 (by rfl) R.mgC pe_str)) pss_nil)
      (pss_cons (ps_if (pt_not (pt_val (bIsi (by rfl) T.isi (pv 3) (pe_bltn (v := .ty "bool") (by rfl) mB (by decide +kernel) rfl)))) (pss_one (ps_raise1 rfl tk R.O r1 r2 r3 hr r4 (by rfl) R.mgC pe_str)) pss_nil)
      (pss_cons (ps_if (pt_not (pt_val (bIsi (by rfl) T.isi (pv 4) (pe_bltn (v := .ty "bool") (by rfl) mB (by decide +kernel) rfl)))) (pss_one (ps_raise1 rfl tk R.O r1 r2 r3 hr r4 (by rfl) R.mgC pe_str)) pss_nil)
      (pss_cons (ps_fld (pv 0) (pv 1) rfl) (pss_cons (ps_fld (pv 0) (pv 2) rfl) (pss_cons (ps_fld (pv 0) (pv 3) rfl) (pss_one (ps_fld (pv 0) (pv 4) rfl)))))))), ?_⟩
    refine ⟨_, rfl, C, mc, _, lu, rfl, rd, cv, x, 1, a, rfl, hx, a, rfl, ?_⟩
    cases a with
    | false => exact iteT k
    | true =>
    refine iteF ⟨_, rfl, C, mc, _, lu, rfl, rd, cv, y, 0, b, rfl, hy, b, rfl, ?_⟩
    cases b with
    | false => exact iteT k
    | true =>
    obtain ⟨tu, tyu, ku⟩ := hu
    refine iteF ⟨_, rfl, u, .ty "bool", _, _, c, rfl, .ty "bool", tyu, ku, c, rfl, ?_⟩
    cases c with
    | false => exact iteT k
    | true =>
    obtain ⟨tv, tyv, kv⟩ := hv
    refine iteF ⟨_, rfl, v, .ty "bool", _, _, d, rfl, .ty "bool", tyv, kv, d, rfl, ?_⟩
    cases d with
    | false => exact iteT k
    | true =>
    refine iteF ?_
    refine ⟨_, rfl, _, rfl, p, C, dx, [], rfl, hp, M.cl, M.n1, by show 0 < 1000; decide, ?_⟩
    refine ⟨_, rfl, _, rfl, p, C, dx, _, rfl, upd_same, M.cl, M.n2, by show 1 < 1000; decide, ?_⟩
    refine ⟨_, rfl, _, rfl, p, C, dx, _, rfl, upd_same, M.cl, M.n3, by show 2 < 1000; decide, ?_⟩
    refine ⟨_, rfl, _, rfl, p, C, dx, _, rfl, upd_same, M.cl, M.n4, by show 3 < 1000; decide, ?_⟩
    exact k _ (Ext1.trans Ext1.put (Ext1.trans Ext1.put (Ext1.trans Ext1.put Ext1.put))) upd_same
end
end Kx
set_option Elab.async false
set_option maxRecDepth 100000
set_option autoImplicit false
/-! Rules: cls(e, .., k = v), cls a local name; raise C(e, e'), two fields; no exception leaves where none is wished for. -/
namespace Ru
open PySem L2 PySem.Spec PyProof.Rows PySem.Calls Er
section
variable {X : Cx} {CX : CXT} {k n : Nat} {f C : Addr} {fd : FuncData} {ps ks : List Str} {sp : Sp} {E : XK} {x : Str} {e : Expr} {es : List Expr} {kws : List Keyword} {tf : TE} {t tk : TA} {g : List Value → List Value → List Value} {gV : List V → List V → List V} {p pos : Pos}
theorem passesF : Passes (L2.CX X.prog X.w) X (fun _ _ _ => False) := fun _ _ _ _ _ _ _ h => by
  obtain ⟨a, B, H', cls, d, _, _, _, _, _, _, _, z⟩ := h
  exact z.elim
def tMakeVK (C : Addr) (n m : Nat) (sp : Sp) (gV : List V → List V → List V) (E : XK) (tf : TE) (t tk : TA) : TE := fun σ H Q => tf σ H fun y H1 => y = V.ref C ∧ tMakeK C n m sp gV E t tk σ H1 Q
theorem pe_makeVK (M : Mk X.K C f) (F : FnOk X.prog X.w X.K X.mg X.base CX k f fd ps sp) (hr : Room (k + 1) X.A) (hb : KBn X.K fd ps (n + 1) ks g gV) (hx : Passes CX X E) (hf : PE X (.Name x p) tf) (ha : PA X (e :: es) t) (hkw : PK X kws tk)
    (hall : (backToKw pos (keywordEach kws X.env)).all (·.1.isSome) = true := by rfl) (hks : (backToKw pos (keywordEach kws X.env)).filterMap (·.1) = ks := by rfl)
    (he : starEach (e :: es) X.env = (false, eval e X.env) :: starEach es X.env := by rfl) (hpl : ((backTo pos (starEach (e :: es) X.env)).any (·.1) || (backToKw pos (keywordEach kws X.env)).any (·.1.isNone)) = false := by rfl) :
    PE X (.Call (.Name x p) (e :: es) kws pos) (tMakeVK C n ks.length sp gV E tf t tk) := by
  refine ⟨fun pins s σ H Q I h => ?_⟩
  refine wpAny_Call_Name_kw (thn (hf.run pins s σ H _ I h) fun u s0 ⟨y, H0, I0, ry, ey, q0⟩ => ?_)
  subst ey
  obtain rfl : u = Value.ref C := ry
  refine PySem.W.callWith_KW (h₀ := X.base) I0.ok.mod.kin M.kp hall (thn (ha.run pos pins s0 σ H0 _ I0 q0) fun us s1 ⟨vs, H1, I1, r, q⟩ => ?_) hpl he
  refine thn (hkw.run pos pins s1 σ H1 _ I1 q) fun ws s2 ⟨zs, H2, I2, rz, l1, l2, q2⟩ => ⟨I2.kIn, ?_⟩
  rw [hks]
  exact run_makeK M F hr hb hx I2 r rz l1 l2 q2
end
theorem left2 {H : Hp} {a d C : Addr} {fs gs hs : List (Str × V)} (na : H a = none) (o : Option Addr) : upd (del (upd (upd (upd (upd H a (exo a C none)) d (exd d gs)) a (exo a C o)) d (exd d hs)) a) d (.xd fs) = upd H d (.xd fs) := by
  funext b
  by_cases hd : b = d
  · rw [hd, upd_same, upd_same]
  rw [upd_ne hd, upd_ne hd]
  by_cases ha : b = a
  · rw [ha, del_same, na]
  · rw [del_ne ha, upd_ne hd, upd_ne ha, upd_ne hd, upd_ne ha]
def tRaise2 (C : Addr) (f g : Str) (W : WX) (te tu : TE) : TS := fun _ σ H => te σ H fun v H1 => tu σ H1 fun u H2 => ∀ d, H2 d = none → W (.ref C) (some d) σ (upd H2 d (.xd [(g, u), (f, v)]))
section
variable {X : Cx}
theorem ps_raise2 {x f g : Str} {C fi : Addr} {k : Nat} {fd : FuncData} {ps : List Str} {e e2 : Expr} {te tu : TE} {W : WX} {p pos pos2 : Pos} (hc : X.calm = true) (tk : Takes X W) (O : OexC X.K C) (iC : PySem.W.findIn X.K (.ref C) "__init__" = some (some (.ref fi))) (tI : PySem.W.typeIn X.K (.ref fi) = some (.type "function"))
    (F : FnOk X.prog X.w X.K X.mg X.base CX0 k fi fd ps (spErr2 C f g)) (hr : Room (k + 1) X.A) (hb : Binds X.K fd ps []) (hg : Gl X x) (hm : X.mg x = some (.ref C)) (he : PE X e te) (hu : PE X e2 tu) (hdb : (x == ("__debug__" : Str)) = false := by decide)
    (hs : starEach [e, e2] X.env = (false, eval e X.env) :: starEach [e2] X.env := by rfl) (hs2 : starEach [e2] X.env = (false, eval e2 X.env) :: starEach [] X.env := by rfl) (hpl : (backTo pos (starEach [e2] X.env)).any (·.1) = false := by rfl) :
    PS X (.Raise (some (.Call (.Name x p) [e, e2] [] pos)) none pos2) (tRaise2 C f g W te tu) := by
  have R := ps_raise (pos := pos2) hc tk (pmk_oex (p := p) (pos := pos) O iC tI F hr hb .nil pass0 hg hm (pa_cons (pe_up he) (pa_cons (pe_up hu) pa_nil hs2) hs) hdb hs hpl)
  refine ⟨fun pins s σ H D I h => R.run pins s σ H D I ?_⟩
  refine ⟨_, h, fun v H1 q => ⟨_, q, fun u H2 q2 => ⟨by show 2 ≤ 1000; decide, fun a na => ⟨a, v, u, rfl, upd_same, fun d nd ne => ⟨rfl, d, [(g, u), (f, v)], ?_, upd_same, ?_, ?_⟩⟩⟩⟩⟩
  · rw [upd_ne ne.symm, upd_same]
  · rw [upd_ne ne] at nd; exact nd
  · rw [upd_ne ne] at nd
    rw [left2 na]
    exact q2 d nd
end
end Ru
set_option Elab.async false
set_option maxRecDepth 100000
set_option autoImplicit false
/-! try: .. except G as n: y = e -/
namespace Er
open PySem L2 PySem.Spec PyProof.Rows PySem.Calls
/-- what 'except G as n: y = e' wishes of an error of the body: i is n's slot, j is y's -/
def wVal (K : PySem.W.Frag) (c : Value) (i j m : Nat) (te : Addr → Value → Option Addr → TE) (Wout : WX) (D : Ends) : WX := fun cls d σ H =>
  ∃ b, PySem.W.exmOne K cls c = some b ∧ (b = true → σ.length = m → ∀ a, H a = none → te a cls d (σ.set i (some (.ref a))) H (fun v H' => D.nx (((σ.set i (some (.ref a))).set j (some v)).set i none) H')) ∧ (b = false → Wout cls d σ H)
section
variable {X : Cx} {x n y : Str} {c : Value} {i j : Nat} {body : List Stmt} {e₀ : Expr} {te : Addr → Value → Option Addr → TE} {np yp sp pos pos' : Pos} {tb : WX → TS} {Wout : WX}
theorem ps_try_val (hs : X.stack = X.env :: X.outer) (hf : X.env.frame = some X.env.locals) (hex : X.ex = []) (hN : X.N.Nodup) (hi : X.N[i]? = some n) (hj : X.N[j]? = some y) (hln : X.env.kindOf n = some .local) (hly : X.env.kindOf y = some .local) (hc : Names X x c) (tk : Takes X Wout)
    (hsw : swapsWith e₀ (some (.Name y yp)) sp.line X.env = pure false)
    (he : ∀ (a : Addr) (oe : Obj) (cls : Value) (d : Option Addr) (pn : List (Addr × Obj)), Zc cls d oe → (∃ vs, oe.data = .fields vs) → PE (X.suite a ((a, oe) :: pn)) e₀ (te a cls d))
    (hb : ∀ (W : WX) (pn : List (Addr × Obj)) (xe : Value → Shared → Prop), Takes (X.tr pn xe) W → PassesOwn (model X.prog X.w) X.A X.env xe → PSs (X.tr pn xe) body (tb W)) :
    PS X (.Try body [.ExceptHandler (some (.Name x np)) (some n) [.Assign [.Name y yp] e₀ sp] pos'] [] [] pos) (fun D σ H => tb (wVal X.K c i j X.N.length te Wout D) D σ H) := by
  constructor
  intro pins s σ H D I h
  have fine := I.ok
  have frames : X.A.frames = some (X.env :: X.outer) := fine.frames.trans (congrArg some hs)
  have run := (hb (wVal X.K c i j X.N.length te Wout D) (X.pn ++ pins) (fun e s₁ => wpAny (model X.prog X.w) X.A (noteFrame e X.env) (fun _ s₂ => wpAny (model X.prog X.w) X.A (setFlight e none) (fun _ s₃ =>
    wpAny (model X.prog X.w) X.A (handleBy e X.env [.ExceptHandler (some (.Name x np)) (some n) [.Assign [.Name y yp] e₀ sp] pos']) (SP X pins D) X.xe s₃) X.xe s₂) X.xe s₁) ?hit PassesOwn.looking).run [] s σ H D (I.toTry _) h
  case hit =>
    rintro u s' ⟨a, B, sI, pins1, σ1, H1, cls, d, rfl, J0, ground, up0, sky0, na, os, ag, b, test, yes, no⟩
    have J : Inv X pins σ1 H1 sI := J0.ofTry fine
    have sky : Sky B (X.env :: X.outer) a (Zc cls d) X.env.locals s'.heap := hs ▸ sky0
    show wpAny (model X.prog X.w) X.A (noteFrame (.ref a) X.env) _ _ _
    refine Sky.land Zc.steady frames hf sky fun g3 fly3 up3 => ?_
    have J3 : Inv X pins σ1 H1 { s' with heap := g3 } := J.landed ground fly3.1 (up0.trans up3) os ag
    obtain ⟨o3, v3, e3, z3, d3⟩ := fly3.there
    have away : a ∉ frs (X.env :: X.outer) := fun mem => by
      obtain ⟨_, o, e, no_⟩ := fly3.2.2.1.mem mem
      rw [e3] at e; cases e
      exact no_ _ d3
    have awayL : a ≠ X.env.locals := fun z => away (List.mem_filterMap.mpr ⟨X.env, List.mem_cons_self, hf.trans (congrArg some z.symm)⟩)
    have awayF : a ∉ X.fs := fun mem => by
      obtain ⟨e, m1, m2⟩ := List.mem_filterMap.mp mem
      exact away (List.mem_filterMap.mpr ⟨e, List.mem_cons_of_mem _ m1, m2⟩)
    -- the error is younger than the entry
    have young : sI.heap.get? a = none := by
      cases q : sI.heap.get? a with
      | none => rfl
      | some o =>
        have qB := ground a o q (by rw [hs]; exact away)
        rw [fly3.2.1] at qB; cases qB
    have entry : X.s_0.heap.get? a = none := by
      cases q : X.s_0.heap.get? a with
      | none => rfl
      | some o =>
        obtain ⟨o', q'⟩ := J.base.there a o q (by rw [hex]; exact List.not_mem_nil)
        rw [young] at q'; cases q'
    have apart : ∀ p ∈ X.pn ++ pins, p.1 ≠ a := fun p hp z => by
      have q := (J.pin p hp).1
      rw [z, young] at q; cases q
    have S3 := J3.suite e3 d3 na awayL awayF
    refine wpAny_handleBy_cons (codeAny_handlers_test ?_) (by intro q; cases q)
    have LT : PySem.W.Looks (model X.prog X.w) g3 (typeOf (.ref a)) cls := fun _ _ _ _ k q => wpAny_typeOf_ref (k _ _ e3) (by rw [z3.1]; exact q)
    have LM := PySem.W.exm_one (M := model X.prog X.w) J3.kIn LT test
    have named : ∀ {Q : Value → Shared → Prop} {E : Value → Shared → Prop}, Q c { s' with heap := g3 } → wpAny (model X.prog X.w) (X.A.mark (some (.ref a))) (eval (.Name x np) X.env) Q E { s' with heap := g3 } := fun {Q E} q => by
      rcases hc with ⟨hg, hdbg, hm | ⟨hm, hv, hnn⟩⟩
      · exact ld_glob (X := X.suite a ((a, o3) :: (X.pn ++ pins))) S3 hg hm q hdbg
      · exact ld_blt (X := X.suite a ((a, o3) :: (X.pn ++ pins))) S3 hg hm hv q hnn hdbg
    refine named (LM.here ?_)
    cases b with
    | true =>
      refine codeAny_handlers_suite_as (HandSPX.lands_againZ fly3 fun g4 fly4 up4 => ?_)
      have J4 : Inv X pins σ1 H1 { s' with heap := g4 } := J.landed ground fly4.1 ((up0.trans up3).trans up4) os ag
      obtain ⟨o4, v4, e4, z4, d4⟩ := fly4.there
      have S4 := J4.suite e4 d4 na awayL awayF
      refine store_ok (X := X.suite a ((a, o4) :: (X.pn ++ pins))) (v := .ref a) S4 hN hi (.inl hln) rfl (fun s5 S5 => ?_) (.inr hln)
      have one := pss_one (X := X.suite a ((a, o4) :: (X.pn ++ pins))) (ps_set (pos := sp) (pos' := yp) (i := j) hN hj (.inl hly) (he a o4 cls d (X.pn ++ pins) z4 ⟨v4, d4⟩) hsw (.inr hly))
      refine wpAny_mono (one.run [] s5 _ H1 { nx := fun σ' H' => D.nx (σ'.set i none) H', rt := fun _ _ => False } S5 (yes rfl S4.len a na)) (fun fl s6 got => ?_) (fun _ _ z => False.elim z)
      cases fl with
      | next =>
        obtain ⟨_, _, S6, q6⟩ := got
        exact gone_ok (S6.unsuite fine) hN hi hln fun s7 J7 => ⟨_, _, J7, q6⟩
      | ret u => obtain ⟨_, _, _, _, _, z⟩ := got; exact z.elim
      | brk => obtain ⟨_, _, _, z⟩ := got; exact z.elim
      | cont => obtain ⟨_, _, _, z⟩ := got; exact z.elim
    | false =>
      show wpAny (model X.prog X.w) X.A (handleBy (.ref a) X.env []) _ _ _
      refine wpAny_handleBy_nil ?_
      obtain ⟨_, _, _, oe, vs, T, oT, us, q1, q2, q3, q4, q5⟩ := id fly3
      unfold PySem.passOn
      refine wpAny_bind (wpAny_field q1 q3 q4 ?_)
      rw [if_neg (by simp)]
      have out : wpAny (model X.prog X.w) X.A (setFlight (.ref a) X.env.frame) (fun _ s4 => wpAny (model X.prog X.w) X.A (throw (.ref a) : Sem Flow) (SP X pins D) X.xe s4) X.xe { s' with heap := g3 } := by
        rw [hf]
        exact HandSPX.setFlight_upZ fly3 fun g4 held up4 => wpAny_throw (tk _ _ ⟨a, B, sI, pins, σ1, H1, cls, d, rfl, J, ground, (up0.trans up3).trans up4, .inr (.inr (by rw [hs]; exact held)), na, os, ag, no rfl⟩)
      first
        | exact wpAny_bind (wpAny_pure (wpAny_bind out))
        | exact wpAny_bind out
  refine wpAny_Try_except (wpAny_mono run (fun f s1 got => ?_) fun e s1 he => he)
  cases f with
  | next => obtain ⟨σ', H', J', q⟩ := got; exact wpAny_execs_nil ⟨σ', H', J'.ofTry fine, q⟩
  | brk => obtain ⟨σ', H', J', q⟩ := got; exact ⟨σ', H', J'.ofTry fine, q⟩
  | cont => obtain ⟨σ', H', J', q⟩ := got; exact ⟨σ', H', J'.ofTry fine, q⟩
  | ret u => obtain ⟨v, σ', H', J', r, q⟩ := got; exact ⟨v, σ', H', J'.ofTry fine, r, q⟩
end
end Er
set_option Elab.async false
set_option maxRecDepth 100000
set_option autoImplicit false
/-! C.m(e, ..), m a classmethod: what is raised is wished for at the caller's slots -/
namespace Ru
open PySem L2 PySem.Spec PyProof.Rows PySem.Calls Er ClX
section
variable {X : Cx} {CX : CXT} {k : Nat} {C p g : Addr} {mc : Value} {sp : Sp} {E : L2.St → XK} {o e : Expr} {es : List Expr} {m : Str} {pos apos : Pos} {ta : TE} {t : TA} {pl : Sem Bool} {pins : List (Addr × Obj)} {σ : L2.St} {H : Hp} {s : Shared}
theorem run_cmS {q : Addr} {Q : VK} {us : List Value} {vs : List V} (F : FnR X.prog X.w X.K X.mg X.base CX k g sp) (hr : Room k X.A) (hx : PassesAt CX X σ (E σ)) (I : Inv X ((q, PySem.W.methodObj (.ref g) (.ref C)) :: pins) σ H s)
    (r : Vals vs us) (h : sp (.ref C :: vs) H Q (E σ)) : wpAny (model X.prog X.w) X.A (call (.ref q) us) (EP X pins σ Q) X.xe s := by
  have z : wpAny (model X.prog X.w) X.A (call (.ref q) us) (EP X ((q, PySem.W.methodObj (.ref g) (.ref C)) :: pins) σ Q) X.xe s := by
    refine wpAny_call (PySem.W.method_call (pin_at I) (codeAny_mono (F X.A X.stack s H (.ref C :: us) (.ref C :: vs) Q (E σ) hr I.env0 (.cons rfl r) h) fun res s' got => ?_))
    rcases res with er | fl
    · exact hx _ H s er s' I got
    · cases fl <;> first | exact I.after got | exact False.elim got
  exact thn z fun _ _ y => unpinE y
def tCMethS (C : Addr) (sp : Sp) (E : L2.St → XK) (ta : TE) (t : TA) : TE := fun σ H Q => ta σ H fun x H1 => x = .ref C ∧ t σ H1 fun vs H2 => sp (.ref C :: vs) H2 Q (E σ)
theorem pe_cmethS (he : PE X o ta) (r : CRead X.K C mc) (c : CMet X.K C mc m p g) (F : FnR X.prog X.w X.K X.mg X.base CX k g sp) (hr : Room k X.A) (hx : ∀ σ, PassesAt CX X σ (E σ)) (ha : PA X (e :: es) t)
    (hst : starEach (e :: es) X.env = (false, eval e X.env) :: starEach es X.env := by rfl) (hpl : (backTo pos (starEach es X.env)).any (·.1) = false := by rfl)
    (ht : eval (.Call (.Attribute o m apos) (e :: es) [] pos) X.env = (do
      let ov ← eval o X.env
      standAt apos.atName
      let (f, first) ← holding [ov] (getMethod ov m pl)
      callWith pos f first (backTo pos (starEach (e :: es) X.env)) (backToKw pos (keywordEach [] X.env))) := by rfl) :
    PE X (.Call (.Attribute o m apos) (e :: es) [] pos) (tCMethS C sp E ta t) := by
  refine ⟨fun pins s σ H Q I h => PySem.W.methodCall_KW (pl := pl) (thn (he.run pins s σ H _ I h) fun u s1 ⟨x, H1, I1, rx, ex, q⟩ => ?_) ht⟩
  subst ex
  obtain rfl : u = Value.ref C := rx
  refine getmethcm_ok I1 r c fun s2 I2 => callwith_cm I2 (base_none I1 (Nat.le_refl _)) c.fi (thn (ha.run pos _ s2 σ H1 _ I2 q) fun us s3 ⟨vs, H2, I3, rv, q2⟩ => ⟨⟨pin_at I3, I3.kIn⟩, ?_⟩) hst hpl
  exact run_cmS F hr (hx σ) I3 rv q2
end
end Ru
set_option Elab.async false
set_option maxRecDepth 100000
set_option autoImplicit false
/-! Rules: -o, o * i, i * o by own methods (what is raised is wished at the caller's slots); o(..); if in a generator; text[::-1]. -/
namespace Ru
open PySem L2 PySem.Spec PyProof.Rows PySem.Calls Er GenW Rg
section
variable {prog : Program} {w : World} {A : Around} {E : Value → Shared → Prop} {s : Shared} {K : PySem.W.Frag} {x C L f g : Addr} {h₀ : Heap} {m : Str → Option Value} {ox : Obj} {od : Option Obj}
theorem int_mul_plain (a : Int) (t : Tok) (l : Addr) (c : Value) (d : Option Addr) (sl : Array (Option Value)) :
    Meets (Builtin.«int.__mul__» ⟨[.int a t, .ref l], []⟩) (fun _ R s => s.heap.get? l = some { cls := c, dict := d, data := .plain, slots := sl } ∧ R (.ok (.ret Value.notImplemented)) s) :=
  .of_wp fun prog w A R s h => by obtain ⟨hp, g, d, tk, os⟩ := s; obtain ⟨hl, h⟩ := h; wp_walk; exact ⟨_, rfl, h⟩
open PySem.W in
theorem int_mul_own {Q : Value → Shared → Prop} {a : Int} {u : Tok} (I : InstAt s.heap x ox C od) (hd : ox.data = .plain) (h : Q .notImplemented s) : wpAny (model prog w) A (call (.builtin "int.__mul__") [.int a u, .ref x]) Q E s := by
  obtain ⟨c, d, dt, sl⟩ := ox
  cases hd
  exact call_meets PySem.F.slot_int_mul (typeIs_int s a u) PySem.F.entry_int_mul (PySem.F.args_int_mul_2 _ _) (int_mul_plain a u x _ _ _) ⟨I.at_, h⟩
open PySem.W in
theorem own_right {M : Model} {nm T id : String} {a : Value} {Q : Option Value → Shared → Prop} (ha : s.TypeIs a T) (hT : fillsNumberSlot (.type T) nm = pure true) (L1 : Looks M s.heap (typeOf (.ref x)) (.ref C)) (L3 : Looks M s.heap (fillsNumberSlot (.ref C) nm) true)
    (L5 : Looks M s.heap (isSubtype (.ref C) (.type T)) false) (h : Slot T (PySem.dunder nm) id)
    (hc : wpAny M A (call (.builtin id) [a, .ref x]) (fun v s' => v = .notImplemented ∧ wpAny M A (tryMethod (.ref x) (dunderR nm) a) (fun r s'' => ∃ v, r = some v ∧ Q (some v) s'') E s') E s) : wpAny M A (binaryOp1 nm a (.ref x)) Q E s := by
  have hne : (Value.type T == Value.ref C) = false := Bool.eq_false_iff.mpr fun q => by cases beq_iff_eq.mp q
  unfold binaryOp1
  refine wpAny_bind (wpAny_typeOf ha (wpAny_bind (L1.here (wpAny_bind (wpAny_of_eq hT ?_)))))
  simp only [hne, Bool.false_eq_true, if_false]
  refine wpAny_bind (L3.here ?_)
  simp only [Bool.and_self, if_true]
  refine wpAny_bind (L5.here ?_)
  rw [if_neg Bool.false_ne_true]
  simp only [Bool.not_false, Bool.and_self, if_true]
  refine wpAny_bind (m := numberSlotInPython (.type T) nm) ?_
  refine wpAny_pure (a := false) ?_
  rw [if_neg Bool.false_ne_true]
  refine wpAny_bind (wpAny_tryMethod_declines ha h (wpAny_mono hc (fun v s' h' => ⟨h'.1, ?_⟩) fun _ _ e => e))
  rw [if_neg Bool.false_ne_true]
  refine wpAny_bind (wpAny_mono h'.2 (fun r s'' hr' => ?_) fun _ _ e => e)
  obtain ⟨v, rfl, hq⟩ := hr'
  exact wpAny_bind (wpAny_rule (wpAny_pure hq))
open PySem.W in
theorem rmul_K {Q : Value → Shared → Prop} {a : Int} {u : Tok} (F : Fr h₀ L s.heap m) (X₀ : K.In h₀) (I : InstAt s.heap x ox C od) (hd : ox.data = .plain) (hc : selfFirst K C = true)
    (hs : findIn K (.ref C) "__mul__" = some (some (.ref f))) (hr : findIn K (.ref C) "__rmul__" = some (some (.ref g))) (hg : isFn K (.ref g) = true) (hsub : subIn K (.ref C) (.type "int") = some false)
    (h : wpAny (model prog w) A (call (.ref g) [.ref x, .int a u]) (PySem.W.CmpBack Q) E s) : wpAny (model prog w) A (binaryOp .Mult (.int a u) (.ref x)) Q E s := by
  have X := X₀.keeps F.keep
  obtain ⟨cd, rest, hcd, hm⟩ := ksp_first hc
  have one := ksp_try (name := "__rmul__") X I hr hg h
  unfold binaryOp
  refine wpAny_holding (wpAny_bind ?_)
  refine own_right (nm := "mul") (typeIs_int s a u) PySem.F.fills_int_mul I.type (fills_K X hcd hm hs) (looks_subIn X hsub) PySem.F.slot_int_mul (int_mul_own I hd ⟨rfl, wpAny_mono one (fun r s' hr' => ?_) fun _ _ e => e⟩)
  obtain ⟨v, rfl, hq⟩ := hr'
  exact ⟨v, rfl, wpAny_pure hq⟩
end
section
variable {X : Cx} {test : Expr} {body orelse : List Stmt} {pos : Pos} {tc : TT} {t u : TGn}
/-- if in a generator -/
def tGIf (c : TT) (t u : TGn) : TGn := fun D ys σ H => c σ H fun b H1 => if b = true then t D ys σ H1 else u D ys σ H1
theorem gs_if (hc : PT X test tc) (ha : GSs X body t) (hb : GSs X orelse u) : GS X (.If test body orelse pos) (tGIf tc t u) := by
  refine ⟨fun A S ip R n ys s₀ c fs K J gd lv s σ H D g hn k hI ht => ?_⟩
  obtain ⟨acc, cc, r, I⟩ := hI
  show Seg _ A R _ n s₀ c (.at pos fun _ => ((isTrue test X.env (eval test X.env) >>= fun b => if b = true then execs body X.env else execs orelse X.env).wrap K J gd lv)) fs s
  refine seg_at ?_
  rw [Sem.bind_eq_wrap', Sem.wrap_wrap]
  refine seg_wrap ?_
  rw [g.over]
  refine wpAny_mono (hc.run _ s σ H _ I ht) (fun b s' hb' => ?_) fun x s' hx => k.exc n s₀ x s' hx
  obtain ⟨H2, I2, q2⟩ := hb'
  cases b with
  | true => exact ha.run A S ip R n ys s₀ c fs K J gd lv s' σ H2 D g hn k ⟨acc, cc, r, I2⟩ q2
  | false => exact hb.run A S ip R n ys s₀ c fs K J gd lv s' σ H2 D g hn k ⟨acc, cc, r, I2⟩ q2
end
section
variable {X : Cx} {CX : CXT} {k : Nat} {C f : Addr} {fd : FuncData} {ps : List Str} {sp : Sp} {E : L2.St → XK} {pins : List (Addr × Obj)} {σ : L2.St} {H : Hp} {s : Shared} {a b fe e : Expr} {es : List Expr} {pos : Pos} {ta tb tf : TE} {t : TA}
/-- an operation that looks at the slots -/
def OpRS (X : Cx) (f : Value → Value → Sem Value) (r : L2.St → R2) : Prop :=
  ∀ (pins : List (Addr × Obj)) (s : Shared) (σ : L2.St) (H : Hp) (x y : V) (v u : Value) (Q : VK), Inv X pins σ H s → RelV x v → RelV y u → r σ x y H Q →
    wpAny (model X.prog X.w) X.A (f v u) (EP X pins σ Q) X.xe s
def tOpS (r : L2.St → R2) (ta tb : TE) : TE := fun σ H Q => ta σ H fun x H1 => tb σ H1 fun y H2 => r σ x y H2 Q
theorem pe_opS {op : Operator} {r : L2.St → R2} (ho : OpRS X (binaryOp op) r) (ha : PE X a ta) (hb : PE X b tb) : PE X (.BinOp a op b pos) (tOpS r ta tb) := by
  refine ⟨fun pins s σ H Q I h => ?_⟩
  exact wpAny_BinOp (binT ha hb I h fun v u s2 x y H2 I2 rx ry q => ho pins s2 σ H2 x y v u Q I2 rx ry q)
theorem runAtS {A : Around} {Q : VK} {us : List Value} {vs : List V} (F : FnOk X.prog X.w X.K X.mg X.base CX k f fd ps sp) (room : Room k A) (e0 : Env0 X.prog X.w X.K X.mg X.base A X.stack s H) (bd : Binds X.K fd ps []) (ex : PassesAt CX X σ (E σ))
    (I : Inv X pins σ H s) (r : Vals vs us) (want : sp vs H Q (E σ)) : wpAny (model X.prog X.w) A (call (.ref f) us) (EP X pins σ Q) X.xe s := by
  have len : us.length = ps.length := r.length.symm.trans (F.len _ _ _ _ want)
  have bt : BindsTo s fd ⟨us, []⟩ (ps.zip us) := by
    have z := bd s us I.kIn (by rw [List.append_nil]; exact len)
    rw [List.append_nil] at z
    exact z
  refine wpAny_call (codeAny_mono (F.run A X.stack s H ⟨us, []⟩ us vs Q (E σ) room e0 bt r want) fun res s' got => ?_)
  rcases res with e | fl
  · exact ex pins H s e s' I got
  · cases fl <;> first | exact I.after got | exact False.elim got
/-- -o -/
def rNegOwn (C : Addr) (sp : Sp) (E : XK) : V → Hp → VK → Prop := fun x H Q => ∃ a dx fs, x = .ref a ∧ H a = some (.ins C dx fs) ∧ sp [.ref a] H Q E
theorem un_negOwn {E : XK} (F : FnOk X.prog X.w X.K X.mg X.base CX k f fd ps sp) (room : Room k X.A) (bd : Binds X.K fd ps []) (ex : Passes CX X E)
    (at_ : PySem.W.findIn X.K (.ref C) "__neg__" = some (some (.ref f))) (fn : PySem.W.isFn X.K (.ref f) = true) : UnR X (unaryOp .USub) (rNegOwn C sp E) := by
  rintro pins s σ H x v Q I rx ⟨a, dx, fs, rfl, e, want⟩
  obtain rfl : v = Value.ref a := rx
  obtain ⟨od, J⟩ := instAt I e
  obtain ⟨m, hF⟩ := I.fr
  exact PySem.W.ksp_neg hF I.ok.mod.kin J at_ fn (runAt F room I.env0 bd ex I (.cons (rvRef a) .nil) want)
/-- what is written of a class for o * i and i * o -/
structure MulC (K : PySem.W.Frag) (C f g : Addr) : Prop where
  first : PySem.W.selfFirst K C = true
  mul : PySem.W.findIn K (.ref C) "__mul__" = some (some (.ref f))
  rmul : PySem.W.findIn K (.ref C) "__rmul__" = some (some (.ref g))
  fn : PySem.W.isFn K (.ref f) = true
  gn : PySem.W.isFn K (.ref g) = true
  im : ∃ fo, PySem.W.findIn K (.type "int") "__mul__" = some fo
  ir : ∃ ro, PySem.W.findIn K (.type "int") "__rmul__" = some ro
  sub : PySem.W.subIn K (.type "int") (.ref C) = some false
  sub2 : PySem.W.subIn K (.ref C) (.type "int") = some false
def rMulOwn (C : Addr) (sp : Sp) (E : L2.St → XK) : L2.St → R2 := fun σ x y H Q => ∃ a dx fs i, x = .ref a ∧ y = .int i ∧ H a = some (.ins C dx fs) ∧ sp [.ref a, .int i] H (fun v H' => (∃ b, v = .ref b) ∧ Q v H') (E σ)
theorem op_mulOwn {g : Addr} (c : MulC X.K C f g) (F : FnOk X.prog X.w X.K X.mg X.base CX k f fd ps sp) (room : Room k X.A) (bd : Binds X.K fd ps []) (ex : ∀ σ, PassesAt CX X σ (E σ)) : OpRS X (binaryOp .Mult) (rMulOwn C sp E) := by
  rintro pins s σ H x y v u Q I rx ry ⟨a, dx, fs, i, rfl, rfl, e, want⟩
  obtain rfl : v = Value.ref a := rx
  obtain ⟨ti, rfl⟩ := ry
  obtain ⟨od, J⟩ := instAt I e
  obtain ⟨m, hF⟩ := I.fr
  obtain ⟨fo, h1⟩ := c.im
  obtain ⟨ro, h2⟩ := c.ir
  refine PySem.W.ksp_binT (op := .Mult) hF I.ok.mod.kin J rfl c.first c.mul c.fn c.rmul (.inr ⟨_, rfl⟩) h1 h2 c.sub ?_
  refine thn (runAtS F room I.env0 bd (ex σ) I (.cons (rvRef a) (.cons (show RelV (V.int i) (Value.int i ti) from ⟨ti, rfl⟩) .nil)) want) ?_
  rintro z s' ⟨v', H', I', rv, ⟨b, rfl⟩, q⟩
  obtain rfl : z = Value.ref b := rv
  exact ⟨.ref b, H', I', rfl, q⟩
/-- o(e, ..) -/
def tCallOS (C : Addr) (sp : Sp) (E : L2.St → XK) (tf : TE) (t : TA) : TE := fun σ H Q => tf σ H fun y H1 => ∃ a, y = V.ref a ∧ t σ H1 fun vs H2 => (∃ dx fs, H2 a = some (.ins C dx fs)) ∧ sp (V.ref a :: vs) H2 Q (E σ)
def rRMulOwn (C : Addr) (sp : Sp) (E : L2.St → XK) : L2.St → R2 := fun σ x y H Q => ∃ a dx fs i, x = .int i ∧ y = .ref a ∧ H a = some (.ins C dx fs) ∧ sp [.ref a, .int i] H (fun v H' => (∃ b, v = .ref b) ∧ Q v H') (E σ)
theorem op_rmulOwn {g : Addr} (c : MulC X.K C g f) (F : FnOk X.prog X.w X.K X.mg X.base CX k f fd ps sp) (room : Room k X.A) (bd : Binds X.K fd ps []) (ex : ∀ σ, PassesAt CX X σ (E σ)) : OpRS X (binaryOp .Mult) (rRMulOwn C sp E) := by
  rintro pins s σ H x y v u Q I rx ry ⟨a, dx, fs, i, rfl, rfl, e, want⟩
  obtain rfl : u = Value.ref a := ry
  obtain ⟨ti, rfl⟩ := rx
  obtain ⟨ox, od, J, hd⟩ := StX.insC_at I (.inr ⟨dx, fs, e⟩)
  obtain ⟨m, hF⟩ := I.fr
  refine rmul_K hF I.ok.mod.kin J hd c.first c.mul c.rmul c.gn c.sub2 ?_
  refine thn (runAtS F room I.env0 bd (ex σ) I (.cons (rvRef a) (.cons (show RelV (V.int i) (Value.int i ti) from ⟨ti, rfl⟩) .nil)) want) ?_
  rintro z s' ⟨v', H', I', rv, ⟨b, rfl⟩, q⟩
  obtain rfl : z = Value.ref b := rv
  exact ⟨.ref b, H', I', rfl, q⟩
theorem pe_callOS (hf : PE X fe tf) (c : StX.CallO X.K C f) (F : FnOk X.prog X.w X.K X.mg X.base CX k f fd ps sp) (hr : Room k X.A) (bd : Binds X.K fd ps []) (hx : ∀ σ, PassesAt CX X σ (E σ)) (ha : PA X (e :: es) t)
    (ht : eval (.Call fe (e :: es) [] pos) X.env = (do callWith pos (← eval fe X.env) [] (backTo pos (starEach (e :: es) X.env)) (backToKw pos (keywordEach [] X.env))) := by rfl)
    (he : starEach (e :: es) X.env = (false, eval e X.env) :: starEach es X.env := by rfl) (hpl : (backTo pos (starEach es X.env)).any (·.1) = false := by rfl) : PE X (.Call fe (e :: es) [] pos) (tCallOS C sp E tf t) := by
  refine ⟨fun pins s σ H Q I h => ?_⟩
  refine Call_ (thn (hf.run pins s σ H _ I h) fun u s1 ⟨y, H1, I1, ry, a, ey, q⟩ => ?_) ht
  subst ey
  obtain rfl : u = Value.ref a := ry
  refine StX.callO_with (thn (ha.run pos pins s1 σ H1 _ I1 q) fun us s2 ⟨vs, H2, I2, r, ⟨dx, fs, hi⟩, q2⟩ => ?_) he hpl
  obtain ⟨ox, od, J, hd⟩ := StX.insC_at I2 (.inr ⟨dx, fs, hi⟩)
  refine ⟨⟨C, ox, od, J, hd⟩, ?_⟩
  have len : (Value.ref a :: us).length = ps.length := (show Vals (V.ref a :: vs) (Value.ref a :: us) from .cons rfl r).length.symm.trans (F.len _ _ _ _ q2)
  have bt : BindsTo s2 fd ⟨Value.ref a :: us, []⟩ (ps.zip (Value.ref a :: us)) := by
    have z := bd s2 (Value.ref a :: us) I2.kIn (by rw [List.append_nil]; exact len)
    rw [List.append_nil] at z
    exact z
  refine wpAny_call (PySem.W.kco_code I2.kIn J hd c.at_ c.fn c.fi (codeAny_mono (F.run X.A X.stack s2 H2 ⟨Value.ref a :: us, []⟩ (Value.ref a :: us) (V.ref a :: vs) Q (E σ) hr I2.env0 bt (.cons rfl r) q2) fun res s' got => ?_))
  rcases res with er | fl
  · exact hx σ pins H2 s2 er s' I2 got
  · cases fl <;> first | exact I2.after got | exact False.elim got
/-! ### text[::-1] -/
def revS (z : Str) : Str := ⟨z.cps.toList.reverse.toArray⟩
theorem rev_pick (z : Str) : ((Builtin.Str.strSliceIndices none none (-1) z.length).filterMap (z.cps[·]?)).toArray = z.cps.toList.reverse.toArray := by
  congr 1
  rw [picked_rev, PyProof.Rows.filterMap_get, List.map_map]
  · refine List.ext_getElem (by simp [Str.length]) fun i h1 h2 => ?_
    have hi : i < z.cps.size := by simpa [Str.length] using h1
    have hj : z.cps.size - 1 - i < z.cps.size := by omega
    simp [Str.length, Array.getD, hj]
  · intro i hi
    obtain ⟨k, hk, rfl⟩ := List.mem_map.mp hi
    have hk' : k < z.length := List.mem_range.mp hk
    show z.length - 1 - k < z.length
    omega
def tRevS (te : TE) : TE := fun σ H Q => te σ H fun x H1 => ∃ z : Str, x = .str z ∧ z.length ≤ sizeLine ∧ Q (.str (revS z)) H1
theorem pe_revS {e : Expr} {te : TE} {k : Nat} {p1 p2 p3 pos : Pos} (he : PE X e te) : PE X (.Subscript e (.Slice none none (some (.UnaryOp .USub (.Constant (.int 1) k p1) p2)) p3) pos) (tRevS te) := by
  refine ⟨fun pins s σ H Q I h => ?_⟩
  refine Subscript_ (thn (he.run pins s σ H _ I h) fun v s1 ⟨x, H1, I1, r1, q1⟩ => ?_)
  obtain ⟨z, ex, hz, q⟩ := q1
  subst ex
  obtain ⟨t, rfl⟩ := r1
  have hst : PO X (some (.UnaryOp .USub (.Constant (.int 1) k p1) p2)) (tPart (tUn (rU fun i => .int (-i)) (tC (.int 1)))) := po_some (pe_un un_neg pe_int)
  refine wpAny_Slice (thn (po_none.run pins s1 σ H1 (fun o H2 => o = none ∧ H2 = H1) I1 ⟨rfl, rfl⟩) fun vl s2 ⟨l, H2, I2, pl, el, e2⟩ => ?_)
  subst el e2
  refine thn (po_none.run pins s2 σ H2 (fun o H3 => o = none ∧ H3 = H2) I2 ⟨rfl, rfl⟩) fun vu s3 ⟨u, H3, I3, pu, eu, e3⟩ => ?_
  subst eu e3
  refine thn (hst.run pins s3 σ H3 (fun o H4 => o = some (-1) ∧ H4 = H3) I3 ⟨1, rfl, -1, rfl, rfl, rfl⟩) fun vs s4 ⟨o, H4, I4, ps, eo, e4⟩ => ?_
  subst eo e4
  have I5 : Inv X pins σ H4 { s4 with heap := s4.heap.push { cls := .type "slice", data := .fields #[vl, vu, vs] } } := I4.kept (t' := s4.toks) fun b ob q => Heap.get?_push_of_some _ q
  obtain ⟨l, rfl, hl⟩ := IsPart.raw pl
  obtain ⟨u, rfl, hu⟩ := IsPart.raw pu
  obtain ⟨st, rfl, hs⟩ := IsPart.raw ps
  cases l with
  | some _ => cases hl
  | none =>
  cases u with
  | some _ => cases hu
  | none =>
  show wpAny (model X.prog X.w) X.A (subscriptTail e (.Slice none none (some (.UnaryOp .USub (.Constant (.int 1) k p1) p2)) p3) (.str z t) (.ref s4.heap.objs.size)) (EP X pins σ Q) X.xe { s4 with heap := s4.heap.push { cls := .type "slice", data := .fields _ } }
  refine tail_any (ops := [.str z t, .ref s4.heap.objs.size]) (typeIs_str _ _ _) (PySem.F.slot_str_getitem.lookup) ?_ (by with_unfolding_all rfl)
  refine wpAny_getItem_str_slice (l := none) (u := none) (st := st) (Heap.IsSliceOf.new _ _ _ _) ?_ ?_
  · rw [hs]; rfl
  have pick := rev_pick z
  unfold PySem.sliceMade PySem.slicePicked
  rw [hs]
  rw [if_neg (by rw [show ((some (-1 : Int)).getD 1 == 1) = false from rfl, Bool.false_and]; exact Bool.false_ne_true)]
  show Made.post (Made.str ⟨((Builtin.Str.strSliceIndices none none (-1) z.length).filterMap (z.cps[·]?)).toArray⟩) _ _
  rw [pick]
  refine ⟨?_, .str _, _, I5.tok _, ⟨_, rfl⟩, q⟩
  show (z.cps.toList.reverse.toArray).size ≤ sizeLine
  rw [List.size_toArray, List.length_reverse, Array.length_toList]
  exact hz
end
end Ru
set_option Elab.async false
set_option maxRecDepth 100000
set_option autoImplicit false
/-! where a stretch fits in a text -/
namespace Kx
open PySem L2 PySem.Spec PyProof.Rows Ru
abbrev AtS (o z : Str) (i : Nat) : Prop := StrLaws.At z o z.length i
def atB (o z : Str) (i : Nat) : Bool := decide (i + o.length ≤ z.length) && Builtin.Str.subAt z o i
theorem atB_iff (o z : Str) (i : Nat) : atB o z i = true ↔ AtS o z i := by
  unfold atB
  rw [Bool.and_eq_true, decide_eq_true_eq]
  exact Iff.rfl
theorem atB_no {o z : Str} {i : Nat} (h : ¬ AtS o z i) : atB o z i = false := by
  cases q : atB o z i with
  | false => rfl
  | true => exact absurd ((atB_iff o z i).mp q) h
theorem find3_spec (z o : Str) (p : Nat) : (Txt.find3 z o (p : Int) = -1 ∧ ∀ i, p ≤ i → ¬ AtS o z i) ∨ ∃ i : Nat, Txt.find3 z o (p : Int) = (i : Int) ∧ p ≤ i ∧ AtS o z i ∧ ∀ k, p ≤ k → k < i → ¬ AtS o z k := by
  have e : fromIndex z.length (p : Int) = p := by unfold fromIndex; rw [if_neg (by omega)]; omega
  unfold Txt.find3
  rw [e, StrLaws.occ_eq]
  rcases StrLaws.occ_first z o z.length 1 (Nat.le_refl 1) (List.range' p (z.length + 1 - p)) p (fun i hi => by rw [List.mem_range'] at hi; omega) with ⟨h0, hn⟩ | ⟨pre, a, post, es, h0, ha, hn⟩
  · refine .inl ⟨by rw [h0], fun i pi hi => hn i ?_ hi⟩
    have := hi.1
    rw [List.mem_range'_1]
    omega
  · have hl : ∃ r, (forIn (List.range' p (z.length + 1 - p)) ((#[] : Array Nat), p) (StrLaws.occBody z o z.length 1)).run.fst.toList = a :: r := by
      generalize (forIn (List.range' p (z.length + 1 - p)) ((#[] : Array Nat), p) (StrLaws.occBody z o z.length 1)).run.fst = arr at h0
      obtain ⟨l⟩ := arr
      cases l with
      | nil => simp at h0
      | cons b r => simp at h0; exact ⟨r, by rw [h0]⟩
    obtain ⟨r, hr⟩ := hl
    have hlen := congrArg List.length es
    rw [List.length_range', List.length_append, List.length_cons] at hlen
    have hA : a = p + pre.length := by
      have h1 : (List.range' p (z.length + 1 - p))[pre.length]? = some a := by rw [es]; simp
      rw [List.getElem?_range' (by omega)] at h1
      simp at h1
      omega
    refine .inr ⟨a, by rw [hr], by omega, ha, fun k pk ka => hn k ?_⟩
    have h2 : (List.range' p (z.length + 1 - p))[k - p]? = some k := by rw [List.getElem?_range' (by omega)]; simp; omega
    rw [es, List.getElem?_append_left (by omega)] at h2
    exact List.mem_of_getElem? h2
theorem at_iff (o z : Str) (i : Nat) : AtS o z i ↔ i + o.length ≤ z.length ∧ ∀ k, k < o.length → z.cps.toList[i + k]? = o.cps.toList[k]? := by
  have hz : z.cps.toList.length = z.length := by simp [Str.length]
  have ho : o.cps.toList.length = o.length := by simp [Str.length]
  show (i + o.length ≤ z.length ∧ Builtin.Str.subAt z o i = true) ↔ _
  rw [StrLaws.subAt_eq, beq_iff_eq]
  refine and_congr_right fun le => ?_
  constructor
  · intro e k hk
    rw [← e, List.getElem?_take_of_lt hk, List.getElem?_drop]
  · intro h
    refine List.ext_getElem? fun k => ?_
    by_cases hk : k < o.length
    · rw [List.getElem?_take_of_lt hk, List.getElem?_drop]; exact h k hk
    · rw [List.getElem?_eq_none (by rw [List.length_take]; omega), List.getElem?_eq_none (by omega)]
theorem sIx_nn (n i : Nat) (d : Nat) : HT.sIx n d (some (i : Int)) = min i n := by
  unfold HT.sIx
  simp
  omega
theorem cut_eq (o z : Str) (i : Nat) (h1 : 1 ≤ o.length) : decide (V.str (cutS z (some (i : Int)) (some ((i : Int) + (o.length : Int)))) = V.str o) = atB o z i := by
  have hz : z.cps.toList.length = z.length := by simp [Str.length]
  have ho : o.cps.toList.length = o.length := by simp [Str.length]
  have e : ((i : Int) + (o.length : Int)) = ((i + o.length : Nat) : Int) := by omega
  refine Bool.eq_iff_iff.mpr ?_
  rw [decide_eq_true_iff, atB_iff]
  refine ⟨fun q => ?_, fun q => ?_⟩
  · have q2 := congrArg (fun s : Str => s.cps.toList) (V.str.inj q)
    simp only [cutS, e, sIx_nn] at q2
    rw [List.toList_toArray] at q2
    have ql := congrArg List.length q2
    rw [List.length_take, List.length_drop] at ql
    have le : i + o.length ≤ z.length := by omega
    rw [show min i z.length = i from by omega, show min (i + o.length) z.length - i = o.length from by omega] at q2
    exact ⟨le, by rw [StrLaws.subAt_eq, q2, beq_self_eq_true]⟩
  · obtain ⟨le, q2⟩ := q
    rw [StrLaws.subAt_eq, beq_iff_eq] at q2
    congr 1
    apply Str.ext'
    apply Array.toList_inj.mp
    show ((z.cps.toList.drop (HT.sIx z.length 0 (some (i : Int)))).take (HT.sIx z.length z.length (some ((i : Int) + (o.length : Int))) - HT.sIx z.length 0 (some (i : Int)))).toArray.toList = _
    rw [e, sIx_nn, sIx_nn, List.toList_toArray, show min i z.length = i from by omega, show min (i + o.length) z.length - i = o.length from by omega]
    exact q2
/-- the rule fits at i -/
def fitB (o : Str) (l r : Bool) (z : Str) (i : Int) : Bool := decide (0 ≤ i) && atB o z i.toNat && (!l || decide (i = 0)) && (!r || decide (i + (o.length : Int) = (z.length : Int)))
theorem filt_ext {f : Nat → Bool} {p q : Nat} (le : p ≤ q) (h : ∀ k, p ≤ k → k < q → f k = false) : (List.range q).filter f = (List.range p).filter f := by
  obtain ⟨d, rfl⟩ := Nat.exists_eq_add_of_le le
  clear le
  induction d with
  | zero => rfl
  | succ d ih =>
    rw [← Nat.add_assoc, List.range_succ, List.filter_append, List.filter_cons_of_neg (by rw [h (p + d) (by omega) (by omega)]; simp), List.filter_nil, List.append_nil]
    exact ih fun k a b => h k a (by omega)
theorem filt_succ {f : Nat → Bool} {p : Nat} : (List.range (p + 1)).filter f = (List.range p).filter f ++ (if f p = true then [p] else []) := by
  rw [List.range_succ, List.filter_append]
  congr 1
  by_cases h : f p = true
  · rw [List.filter_cons_of_pos h, if_pos h]; rfl
  · rw [List.filter_cons_of_neg h, if_neg h]; rfl
def fitsN (o : Str) (l r : Bool) (z : Str) : List Nat := (List.range (z.length + 1)).filter fun j => fitB o l r z (j : Int)
theorem fit_no {o z : Str} {l r : Bool} {i : Nat} (h : ¬ AtS o z i) : fitB o l r z (i : Int) = false := by
  unfold fitB
  rw [show ((i : Int)).toNat = i from by omega, atB_no h]
  simp
theorem fit_bounds {o z : Str} {l r : Bool} {i : Int} (h : fitB o l r z i = true) : 0 ≤ i ∧ i.toNat + o.length ≤ z.length := by
  unfold fitB at h
  simp only [Bool.and_eq_true, decide_eq_true_eq] at h
  exact ⟨h.1.1.1, ((atB_iff _ _ _).mp h.1.1.2).1⟩
/-- the places from -2 on -/
def spots (n : Nat) : List Int := (List.range (n + 5)).map fun (j : Nat) => (j : Int) - 2
theorem due_eq (o z : Str) (l r : Bool) : (spots z.length).filter (fitB o l r z) = (fitsN o l r z).map fun (j : Nat) => (j : Int) := by
  have h0 : fitB o l r z (-2) = false := by unfold fitB; simp
  have h1 : fitB o l r z (-1) = false := by unfold fitB; simp
  have big : ∀ i : Nat, z.length < i → fitB o l r z (i : Int) = false := fun i hi => fit_no fun q => by have := q.1; omega
  have e2 : spots z.length = [-2, -1] ++ (List.range (z.length + 3)).map fun (j : Nat) => (j : Int) := by
    unfold spots
    rw [show z.length + 5 = 2 + (z.length + 3) from by omega, List.range_add, List.map_append, List.map_map]
    congr 1
    refine List.map_congr_left fun j _ => ?_
    show ((2 + j : Nat) : Int) - 2 = j
    omega
  rw [e2, List.filter_append, List.filter_cons_of_neg (by rw [h0]; simp), List.filter_cons_of_neg (by rw [h1]; simp), List.filter_nil, List.nil_append, List.filter_map]
  congr 1
  exact filt_ext (by omega) fun k a b => big k (by omega)
theorem revS_len (z : Str) : (revS z).length = z.length := by simp [revS, Str.length]
theorem rev_at (o z : Str) (i : Nat) (le : i + o.length ≤ z.length) : atB (revS o) (revS z) (z.length - i - o.length) = atB o z i := by
  have hz : z.cps.toList.length = z.length := by simp [Str.length]
  have ho : o.cps.toList.length = o.length := by simp [Str.length]
  refine Bool.eq_iff_iff.mpr ?_
  rw [atB_iff, atB_iff, at_iff, at_iff, revS_len, revS_len]
  refine and_congr ⟨fun _ => le, fun _ => by omega⟩ ⟨fun h k hk => ?_, fun h k hk => ?_⟩
  · have q := h (o.length - 1 - k) (by omega)
    simp only [revS, List.toList_toArray] at q
    rw [List.getElem?_reverse (by omega), List.getElem?_reverse (by omega), hz, ho] at q
    rw [show z.length - 1 - (z.length - i - o.length + (o.length - 1 - k)) = i + k from by omega, show o.length - 1 - (o.length - 1 - k) = k from by omega] at q
    exact q
  · have q := h (o.length - 1 - k) (by omega)
    simp only [revS, List.toList_toArray]
    rw [List.getElem?_reverse (by omega), List.getElem?_reverse (by omega), hz, ho]
    rw [show z.length - 1 - (z.length - i - o.length + k) = i + (o.length - 1 - k) from by omega]
    exact q
theorem rev_fit (o z : Str) (l r : Bool) (i : Int) : fitB (revS o) r l (revS z) ((z.length : Int) - i - (o.length : Int)) = fitB o l r z i := by
  by_cases h0 : 0 ≤ i
  · by_cases h1 : i.toNat + o.length ≤ z.length
    · unfold fitB
      rw [revS_len, revS_len, show ((z.length : Int) - i - (o.length : Int)).toNat = z.length - i.toNat - o.length from by omega, rev_at o z i.toNat h1, decide_eq_true h0, decide_eq_true (show (0 : Int) ≤ (z.length : Int) - i - (o.length : Int) by omega)]
      rw [show decide ((z.length : Int) - i - (o.length : Int) = 0) = decide (i + (o.length : Int) = (z.length : Int)) from decide_eq_decide.mpr (by omega), show decide ((z.length : Int) - i - (o.length : Int) + (o.length : Int) = (z.length : Int)) = decide (i = 0) from decide_eq_decide.mpr (by omega)]
      simp only [Bool.true_and, Bool.and_assoc]
      rw [Bool.and_comm (!r || _)]
    · unfold fitB
      rw [atB_no (fun q => h1 q.1), decide_eq_false (show ¬ (0 : Int) ≤ (z.length : Int) - i - (o.length : Int) by omega)]
      simp
  · unfold fitB
    rw [decide_eq_false h0, atB_no (o := revS o) (z := revS z) (fun q => by have := q.1; rw [revS_len, revS_len] at this; omega)]
    simp
end Kx
set_option Elab.async false
set_option maxRecDepth 100000
set_option autoImplicit false
/-! Rule.fits, __call__ -/
namespace Kx
open PySem L2 PySem.Spec PyProof.Rows Rg Er Ru
abbrev sFits : Stmt := inClass (top 10) 5
abbrev sPlaces : Stmt := inClass (top 10) 6
abbrev sCall : Stmt := inClass (top 10) 9
abbrev sNeg : Stmt := inClass (top 10) 10
abbrev sMul : Stmt := inClass (top 10) 11
abbrev sRmul : Stmt := inClass (top 10) 12
theorem dStr (x y : Str) : decide (V.str x = V.str y) = decide (x = y) := by
  by_cases q : x = y
  · rw [q, decide_eq_true rfl, decide_eq_true rfl]
  · rw [decide_eq_false q]
    exact decide_eq_false fun z => q (V.str.inj z)
theorem dInt (x y : Int) : decide (V.int x = V.int y) = decide (x = y) := by
  by_cases q : x = y
  · rw [q, decide_eq_true rfl, decide_eq_true rfl]
  · rw [decide_eq_false q]
    exact decide_eq_false fun z => q (V.int.inj z)
def spFits (C : Addr) : Sp := fun vs H Q _ => ∃ a o n l r z i, vs = [.ref a, .str z, .int i] ∧ Rl C H a o n l r ∧ 1 ≤ o.length ∧ o.length ≤ 4 ∧ z.length ≤ 1000 ∧ Q (.bl (fitB o l r z i)) H
section
variable {P : Program} {w : World} {K : PySem.W.Frag} {mg : Str → Option Value} {base : Heap}
theorem scFits : FnScope ["self", "row", "place", "end"] ["self", "row", "place"] (defScope sFits) := ⟨rfl, rfl, rfl, by decide +kernel, rfl, by decide +kernel, by decide +kernel⟩
theorem ok_fits {C f : Addr} {fd : FuncData} (F : L2.Fun K "fits" "Rule.fits" sFits f fd) (T : Txt mg) (M : RT K mg C) : FnOk P w K mg base CX0 1 f fd ["self", "row", "place"] (spFits C) := by
  refine F.ok scFits (fun vs H Q E h => ?_) (fun cdv A outer s H vs Q E hr h => ?_)
  · obtain ⟨a, o, n, l, r, z, i, rfl, _⟩ := h
    rfl
  · obtain ⟨a, o, n, l, r, z, i, rfl, ⟨dx, ha⟩, o1, o4, z1, k⟩ := h
    have nd := scFits.nd
    obtain ⟨e1, e2, e3, e4⟩ := rf_lookups (.str o) (.str n) (.bl l) (.bl r)
    refine ⟨_, pss_cons (ps_set (i := 3) nd rfl (.inl rfl) (pe_op op_add (pv 2) (bLen (by rfl) T.len (pe_fld (pv 0) rfl))))
      (pss_cons (ps_if (PW.pt (pw_or (pt_cmpR op_lt (pv 2) pe_int (nomark _)) (pw_or1 (pt_cmpR op_ne (pe_slice sl_str (pv 1) (po_some (pv 2)) (po_some (pv 3))) (pe_fld (pv 0) rfl) (nomark _))))) (pss_one (ps_ret pe_bl)) pss_nil)
      (pss_one (ps_ret (pe_and (pe_or (pe_not (pe_fld (pv 0) rfl)) (pe_one (pe_cmpR op_eq (pv 2) pe_int (nomark _)))) (pe_one (pe_or (pe_not (pe_fld (pv 0) rfl)) (pe_one (pe_cmpR op_eq (pv 3) (bLen (by rfl) T.len (pv 1)) (nomark _))))))))), ?_⟩
    refine ⟨_, rfl, _, rfl, a, C, dx, _, _, rfl, ha, M.cl, M.n1, e1, _, o.length, rfl, ⟨len_small (by omega), rfl⟩, i, _, rfl, rfl, ?_⟩
    by_cases h0 : i < 0
    · have k' : Q (.bl false) H := by
        unfold fitB at k
        rw [decide_eq_false (by omega)] at k
        simpa using k
      refine ⟨_, rfl, i, 0, rfl, rfl, _, rfl, ?_⟩
      rw [decide_eq_true h0]
      exact iteT (iteT k')
    · obtain ⟨j, rfl⟩ : ∃ j : Nat, i = (j : Int) := ⟨i.toNat, by omega⟩
      refine ⟨_, rfl, (j : Int), 0, rfl, rfl, _, rfl, ?_⟩
      rw [decide_eq_false h0]
      refine iteF ⟨_, rfl, _, rfl, _, rfl, _, rfl, _, rfl, z, rfl, len_small (by omega), _, rfl, a, C, dx, _, _, rfl, ha, M.cl, M.n1, e1, rfl, _, rfl, ?_⟩
      rw [cut_eq o z j o1]
      unfold fitB at k
      rw [decide_eq_true (show (0 : Int) ≤ (j : Int) by omega), Bool.true_and, show ((j : Int)).toNat = j from by omega] at k
      cases hat : atB o z j with
      | false =>
        rw [hat] at k
        exact iteT (show Q (.bl false) H by simpa using k)
      | true =>
        rw [hat, Bool.true_and] at k
        refine iteF ?_
        cases l with
        | false =>
          cases r with
          | false =>
            refine ⟨_, rfl, a, C, dx, _, _, rfl, ha, M.cl, M.n3, e3, false, rfl, true, rfl, iteT ⟨true, rfl, iteT ?_⟩⟩
            refine ⟨_, rfl, a, C, dx, _, _, rfl, ha, M.cl, M.n4, e4, false, rfl, true, rfl, iteT ?_⟩
            simpa using k
          | true =>
            refine ⟨_, rfl, a, C, dx, _, _, rfl, ha, M.cl, M.n3, e3, false, rfl, true, rfl, iteT ⟨true, rfl, iteT ?_⟩⟩
            refine ⟨_, rfl, a, C, dx, _, _, rfl, ha, M.cl, M.n4, e4, true, rfl, false, rfl, iteF ⟨_, rfl, _, rfl, _, z.length, rfl, ⟨len_small (by omega), rfl⟩, rfl, ?_⟩⟩
            rw [dInt]
            simpa using k
        | true =>
          cases r with
          | false =>
            refine ⟨_, rfl, a, C, dx, _, _, rfl, ha, M.cl, M.n3, e3, true, rfl, false, rfl, iteF ⟨_, rfl, rfl, _, rfl, ?_⟩⟩
            rw [dInt]
            cases q0 : decide ((j : Int) = 0) with
            | false =>
              rw [q0] at k
              exact iteF (by simpa using k)
            | true =>
            rw [q0] at k
            refine iteT ?_
            refine ⟨_, rfl, a, C, dx, _, _, rfl, ha, M.cl, M.n4, e4, false, rfl, true, rfl, iteT ?_⟩
            simpa using k
          | true =>
            refine ⟨_, rfl, a, C, dx, _, _, rfl, ha, M.cl, M.n3, e3, true, rfl, false, rfl, iteF ⟨_, rfl, rfl, _, rfl, ?_⟩⟩
            rw [dInt]
            cases q0 : decide ((j : Int) = 0) with
            | false =>
              rw [q0] at k
              exact iteF (by simpa using k)
            | true =>
            rw [q0] at k
            refine iteT ?_
            refine ⟨_, rfl, a, C, dx, _, _, rfl, ha, M.cl, M.n4, e4, true, rfl, false, rfl, iteF ⟨_, rfl, _, rfl, _, z.length, rfl, ⟨len_small (by omega), rfl⟩, rfl, ?_⟩⟩
            rw [dInt]
            simpa using k
end
end Kx
set_option Elab.async false
set_option maxRecDepth 100000
set_option autoImplicit false
/-! Rule.__call__, places, -rule, rule * n, n * rule -/
namespace Kx
open PySem L2 PySem.Spec PyProof.Rows Rg Er Ru GenW
theorem made_same {C x dx : Addr} {H : Hp} (hx : H x = none) (hd : H dx = none) : Same H (upd (upd H dx (.own x)) x (.ins C dx [])) := fun b o e => by
  rw [upd_ne (ne_of_none e hx), upd_ne (ne_of_none e hd)]
  exact e
theorem same_ext1 {x : Addr} {H H1 H2 : Hp} (hx : H x = none) (a : Same H H1) (b : Ext1 x H1 H2) : Same H H2 := fun c o e => b c o (ne_of_none e hx) (a c o e)
def gKw : List Value → List Value → List Value := fun us ws => us ++ ws
def gKwV : List V → List V → List V := fun us ws => us ++ ws
def rept (x : Str) (n : Nat) : Str := ⟨(List.replicate n x.cps).foldl (· ++ ·) #[]⟩
theorem rept_one (x : Str) : rept x 1 = x := by
  obtain ⟨a⟩ := x
  show (⟨#[] ++ a⟩ : Str) = ⟨a⟩
  simp
theorem rf_no {m : Str} {o n l r : V} (h1 : (m == "old") = false) (h2 : (m == "new") = false) (h3 : (m == "left") = false) (h4 : (m == "right") = false) : (rf o n l r).lookup m = none := by
  unfold rf rf3 rf2 rf1
  simp only [lookup_putF]
  rw [if_neg (by simpa using h4), if_neg (by simpa using h3), if_neg (by simpa using h2), if_neg (by simpa using h1)]
  rfl
/-- row[:i] + new + row[i + len(old):] -/
def ledS (o n z : Str) (i : Int) : Str := cutS z none (some i) ++ n ++ cutS z (some (i + (o.length : Int))) none
theorem app_len' (x y : Str) : (x ++ y).length = x.length + y.length := by
  obtain ⟨⟨a⟩⟩ := x
  obtain ⟨⟨b⟩⟩ := y
  show (⟨a⟩ ++ ⟨b⟩ : Array Nat).size = a.length + b.length
  simp
def spCall (C CM : Addr) : Sp := fun vs H Q E => ∃ a o n l r z i, vs = [.ref a, .str z, .int i] ∧ Rl C H a o n l r ∧ 1 ≤ o.length ∧ o.length ≤ 4 ∧ n.length ≤ 4 ∧ z.length ≤ 1000 ∧
  (fitB o l r z i = true → Q (.str (ledS o n z i)) H) ∧ (fitB o l r z i = false → raised CM "part" (.str "place") E H)
section
variable {P : Program} {w : World} {K : PySem.W.Frag} {mg : Str → Option Value} {base : Heap}
abbrev nFits : List Str := ["self", "row", "place"]
theorem scCall : FnScope nFits nFits (defScope sCall) := ⟨rfl, rfl, rfl, by decide +kernel, rfl, by decide +kernel, by decide +kernel⟩
theorem ok_rCall {C CM f g : Addr} {fd gd : FuncData} (F : L2.Fun K "__call__" "Rule.__call__" sCall f fd) (T : Txt mg) (M : RT K mg C) (R : ErrB P w K mg base "BadMove" "part" CM)
    (mf : Meth K C "fits" g) (G : FnOk P w K mg base CX0 1 g gd nFits (spFits C)) (b : L2.Binds K gd nFits []) : FnOk P w K mg base (L2.CX P w) 3 f fd nFits (spCall C CM) := by
  obtain ⟨fi, fdi, psi, r1, r2, r3, r4⟩ := R.init
  refine F.okX scCall (fun vs H Q E h => ?_) (fun cdv A outer s H vs Q E hr h => ?_)
  · obtain ⟨a, o, n, l, r, z, i, rfl, _⟩ := h
    rfl
  · obtain ⟨a, o, n, l, r, z, i, rfl, ⟨dx, ha⟩, o1, o4, n4, z1, yes, no⟩ := h
    have tk := takes_of (X := cxOf (L2.CX P w) P w K mg base nFits "Rule.__call__" (defScope sCall) f cdv A outer s H E) rfl rfl rfl rfl
    have hr1 := hr.mono (show 1 ≤ 2 by decide)
    obtain ⟨e1, e2, e3, e4⟩ := rf_lookups (.str o) (.str n) (.bl l) (.bl r)
    refine ⟨_, pss_cons (ps_if (pt_not (pt_val (pe_meth (pv 0) M.cl mf G hr1 b .nil pass0 (pa_cons (pv 1) (pa_cons (pv 2) pa_nil))))) (pss_one (ps_raise1 rfl tk R.O r1 r2 r3 hr r4 (by rfl) R.mgC pe_str)) pss_nil)
      (pss_one (ps_ret (pe_op op_add_str (pe_op op_add_str (pe_slice sl_str (pv 1) po_none (po_some (pv 2))) (pe_fld (pv 0) rfl)) (pe_slice sl_str (pv 1) (po_some (pe_op op_add (pv 2) (bLen (by rfl) T.len (pe_fld (pv 0) rfl)))) po_none)))), ?_⟩
    refine ⟨_, rfl, a, dx, _, rfl, ha, rf_no rfl rfl rfl rfl, _, rfl, _, rfl, a, o, n, l, r, z, i, rfl, ⟨dx, ha⟩, o1, o4, z1, _, rfl, ?_⟩
    cases e : fitB o l r z i with
    | false => exact iteT (no e)
    | true =>
      refine iteF ⟨_, rfl, _, rfl, _, rfl, z, rfl, len_small (by omega), _, rfl, a, C, dx, _, _, rfl, ha, M.cl, M.n2, e2, cutS z none (some i), n, rfl, rfl, ?_, ?_⟩
      · have := cutS_length z none (some i)
        rw [sizeLine_eq]; omega
      refine ⟨_, rfl, _, rfl, _, rfl, a, C, dx, _, _, rfl, ha, M.cl, M.n1, e1, _, o.length, rfl, ⟨len_small (by omega), rfl⟩, i, _, rfl, rfl, _, rfl, z, rfl, len_small (by omega), _, _, rfl, rfl, ?_, yes e⟩
      have h1 := cutS_length z none (some i)
      have h2 := cutS_length z (some (i + (o.length : Int))) none
      rw [app_len', sizeLine_eq]; omega
abbrev sAllP : Stmt := inClass (top 10) 7
abbrev sFirstP : Stmt := inClass (top 10) 8
theorem filt_none {f : Nat → Bool} {n : Nat} (h : ∀ k, f k = false) : (List.range n).filter f = [] := List.filter_eq_nil_iff.mpr fun k _ => by rw [h k]; exact Bool.false_ne_true
theorem filt_one {f : Nat → Bool} {n j : Nat} (hj : j < n) (h : ∀ k, k ≠ j → f k = false) (e : f j = true) : (List.range n).filter f = [j] := by
  rw [filt_ext (p := j + 1) (by omega) fun k a _ => h k (by omega), filt_succ, if_pos e, filt_ext (p := 0) (by omega) fun k _ b => h k (by omega)]
  rfl
def fN (o : Str) (l r : Bool) (z : Str) (j : Nat) : Bool := fitB o l r z (j : Int)
theorem fN_eq (o z : Str) (l r : Bool) (j : Nat) : fN o l r z j = (atB o z j && (!l || decide (j = 0)) && (!r || decide (j + o.length = z.length))) := by
  unfold fN fitB
  rw [decide_eq_true (show (0 : Int) ≤ (j : Int) by omega), Bool.true_and, show ((j : Int)).toNat = j from by omega]
  rw [show decide ((j : Int) = 0) = decide (j = 0) from decide_eq_decide.mpr (by omega), show decide ((j : Int) + (o.length : Int) = (z.length : Int)) = decide (j + o.length = z.length) from decide_eq_decide.mpr (by omega)]
theorem fits_left {o z : Str} {r : Bool} : fitsN o true r z = if (atB o z 0 && (!r || decide (o.length = z.length))) = true then [0] else [] := by
  have other : ∀ k, k ≠ 0 → fN o true r z k = false := fun k hk => by rw [fN_eq, decide_eq_false hk]; simp
  have zero : fN o true r z 0 = (atB o z 0 && (!r || decide (o.length = z.length))) := by rw [fN_eq, Nat.zero_add]; simp
  by_cases h : (atB o z 0 && (!r || decide (o.length = z.length))) = true
  · rw [if_pos h]
    exact filt_one (Nat.succ_pos _) other (zero.trans h)
  · rw [if_neg h]
    refine filt_none fun k => ?_
    by_cases hk : k = 0
    · subst hk
      exact zero.trans (by simpa using h)
    · exact other k hk
theorem fits_right {o z : Str} : fitsN o false true z = if (decide (o.length ≤ z.length) && atB o z (z.length - o.length)) = true then [z.length - o.length] else [] := by
  have other : ∀ k, k + o.length ≠ z.length → fN o false true z k = false := fun k hk => by rw [fN_eq, decide_eq_false hk]; simp
  by_cases h : (decide (o.length ≤ z.length) && atB o z (z.length - o.length)) = true
  · rw [if_pos h]
    rw [Bool.and_eq_true, decide_eq_true_eq] at h
    refine filt_one (by omega) (fun k hk => other k (by omega)) ?_
    show fN o false true z _ = true
    rw [fN_eq, h.2, decide_eq_true (show z.length - o.length + o.length = z.length by omega)]; rfl
  · rw [if_neg h]
    refine filt_none fun k => ?_
    by_cases hk : k + o.length = z.length
    · have ek : k = z.length - o.length := by omega
      subst ek
      show fN o false true z _ = false
      rw [fN_eq]
      have h' : atB o z (z.length - o.length) = false := by
        simp only [Bool.and_eq_true, decide_eq_true_eq, not_and, Bool.not_eq_true] at h
        exact h (by omega)
      rw [h']; rfl
    · exact other k hk
theorem starts_at (o z : Str) : Txt.startswith z o = atB o z 0 := rfl
theorem ends_at (o z : Str) : Txt.endswith z o = (decide (o.length ≤ z.length) && atB o z (z.length - o.length)) := by
  unfold Txt.endswith atB
  by_cases h : o.length ≤ z.length
  · rw [decide_eq_true (show 0 + o.length ≤ z.length by omega), decide_eq_true h, decide_eq_true (show z.length - o.length + o.length ≤ z.length by omega)]; rfl
  · rw [decide_eq_false (show ¬ 0 + o.length ≤ z.length by omega), decide_eq_false h]; rfl
theorem same_at (o z : Str) : decide (z = o) = (atB o z 0 && decide (o.length = z.length)) := by
  refine Bool.eq_iff_iff.mpr ?_
  rw [decide_eq_true_iff, Bool.and_eq_true, decide_eq_true_iff, atB_iff, at_iff]
  constructor
  · rintro rfl
    exact ⟨⟨by omega, fun k _ => by rw [Nat.zero_add]⟩, rfl⟩
  · rintro ⟨⟨_, h⟩, e⟩
    apply Str.ext'
    apply Array.toList_inj.mp
    have hz : z.cps.toList.length = z.length := by simp [Str.length]
    have ho : o.cps.toList.length = o.length := by simp [Str.length]
    refine List.ext_getElem? fun k => ?_
    by_cases hk : k < o.length
    · have := h k hk
      rw [Nat.zero_add] at this
      exact this
    · rw [List.getElem?_eq_none (by omega), List.getElem?_eq_none (by omega)]
def spFirstP (C : Addr) : Sp := fun vs H Q _ => ∃ a o n l r z, vs = [.ref a, .str z] ∧ Rl C H a o n l r ∧ 1 ≤ o.length ∧ o.length ≤ 4 ∧ z.length ≤ 1000 ∧ (l || r) = true ∧ (fitsN o l r z = [] → Q (.int (-1)) H) ∧ ∀ j : Nat, fitsN o l r z = [j] → Q (.int j) H
theorem scFirstP : FnScope ["self", "row", "there"] ["self", "row"] (defScope sFirstP) := ⟨rfl, rfl, rfl, by decide +kernel, rfl, by decide +kernel, by decide +kernel⟩
theorem ok_firstP {C f : Addr} {fd : FuncData} (F : L2.Fun K "first_place" "Rule.first_place" sFirstP f fd) (T : Txt mg) (M : RT K mg C) : FnOk P w K mg base CX0 1 f fd ["self", "row"] (spFirstP C) := by
  refine F.ok scFirstP (fun vs H Q E h => ?_) (fun cdv A outer s H vs Q E hr h => ?_)
  · obtain ⟨a, o, n, l, r, z, rfl, _⟩ := h
    rfl
  · obtain ⟨a, o, n, l, r, z, rfl, ⟨dx, ha⟩, o1, o4, z1, lr, k0, k1⟩ := h
    have nd := scFirstP.nd
    obtain ⟨e1, e2, e3, e4⟩ := rf_lookups (.str o) (.str n) (.bl l) (.bl r)
    refine ⟨_, pss_cons (ps_if (pt_val (pe_fld (pv 0) rfl)) (pss_cons (ps_set (i := 2) nd rfl (.inl rfl) (pe_ifExp (pt_val (pe_fld (pv 0) rfl)) (pe_cmpR op_eq (pv 1) (pe_fld (pv 0) rfl) (nomark _))
        (pe_bm PySem.F.plainAttrs_str PySem.F.slot_str_startswith PySem.F.type_str_startswith mt_startswith (pv 1) (pa_cons (pe_fld (pv 0) rfl) pa_nil))))
        (pss_one (ps_ret (pe_ifExp (pt_val (pv 2)) pe_int (pe_un un_neg pe_int))))) pss_nil)
      (pss_cons (ps_if (pt_val (pe_fld (pv 0) rfl)) (pss_one (ps_ret (pe_ifExp (pt_val (pe_bm PySem.F.plainAttrs_str PySem.F.slot_str_endswith PySem.F.type_str_endswith mt_endswith (pv 1) (pa_cons (pe_fld (pv 0) rfl) pa_nil)))
        (pe_op op_sub (bLen (by rfl) T.len (pv 1)) (bLen (by rfl) T.len (pe_fld (pv 0) rfl))) (pe_un un_neg pe_int)))) pss_nil)
      (pss_one (ps_ret (pe_bm PySem.F.plainAttrs_str PySem.F.slot_str_find PySem.F.type_str_find mt_find (pv 1) (pa_cons (pe_fld (pv 0) rfl) pa_nil))))), ?_⟩
    refine ⟨_, rfl, a, C, dx, _, _, rfl, ha, M.cl, M.n3, e3, l, rfl, ?_⟩
    cases l with
    | true =>
      have fin : ∀ b : Bool, b = (atB o z 0 && (!r || decide (o.length = z.length))) → (tIf (tB (tVar 2)) (tC (.int 0)) (tUn (fun x H Q => ∃ i : Int, x = .int i ∧ Q (.int (-i)) H) (tC (.int 1)))) [some (.ref a), some (.str z), some (.bl b)] H Q := fun b eb => by
        rw [fits_left, ← eb] at k0 k1
        refine ⟨_, rfl, b, rfl, ?_⟩
        cases b with
        | true => exact iteT (k1 0 rfl)
        | false => exact iteF ⟨_, rfl, k0 rfl⟩
      refine iteT ⟨_, rfl, a, C, dx, _, _, rfl, ha, M.cl, M.n4, e4, r, rfl, ?_⟩
      cases r with
      | true =>
        refine iteT ⟨_, rfl, _, rfl, a, C, dx, _, _, rfl, ha, M.cl, M.n1, e1, rfl, ?_⟩
        exact fin _ (by rw [dStr, same_at]; simp)
      | false =>
        refine iteF ⟨_, rfl, rfl, _, rfl, a, C, dx, _, _, rfl, ha, M.cl, M.n1, e1, z, o, rfl, rfl, ?_⟩
        exact fin _ (by rw [starts_at]; simp)
    | false =>
      obtain rfl : r = true := by simpa using lr
      refine iteF ⟨_, rfl, a, C, dx, _, _, rfl, ha, M.cl, M.n4, e4, true, rfl, iteT ?_⟩
      refine ⟨_, rfl, rfl, _, rfl, a, C, dx, _, _, rfl, ha, M.cl, M.n1, e1, z, o, rfl, rfl, _, rfl, ?_⟩
      rw [ends_at]
      rw [fits_right] at k0 k1
      by_cases h : (decide (o.length ≤ z.length) && atB o z (z.length - o.length)) = true
      · rw [if_pos h] at k1
        have le : o.length ≤ z.length := by
          rw [Bool.and_eq_true, decide_eq_true_eq] at h
          exact h.1
        have k1' := k1 _ rfl
        rw [Int.ofNat_sub le] at k1'
        rw [h]
        exact iteT ⟨_, rfl, _, z.length, rfl, ⟨len_small (by omega), rfl⟩, _, rfl, a, C, dx, _, _, rfl, ha, M.cl, M.n1, e1, _, o.length, rfl, ⟨len_small (by omega), rfl⟩, _, _, rfl, rfl, k1'⟩
      · rw [if_neg h] at k0
        rw [Bool.not_eq_true] at h
        rw [h]
        exact iteF ⟨_, rfl, k0 rfl⟩
theorem fitsN_past {o z : Str} {l r : Bool} {p : Nat} (le : p ≤ z.length + 1) (h : ∀ i, p ≤ i → ¬ AtS o z i) : fitsN o l r z = (List.range p).filter (fN o l r z) := filt_ext le fun i a _ => fit_no (h i a)
theorem fitsN_few (o z : Str) (l r : Bool) : (fitsN o l r z).length ≤ z.length + 1 := by
  have := List.length_filter_le (fN o l r z) (List.range (z.length + 1))
  rw [List.length_range] at this
  exact this
def spAllP (C : Addr) : Sp := fun vs H Q _ => ∃ a o n l r z, vs = [.ref a, .str z] ∧ Rl C H a o n l r ∧ 1 ≤ o.length ∧ o.length ≤ 4 ∧ z.length ≤ 1000 ∧ ∀ q H', Same H H' → H' q = some (.lst ((fitsN o l r z).map fun (j : Nat) => V.int (j : Int))) → Q (.ref q) H'
theorem scAllP : FnScope ["self", "row", "place", "found"] ["self", "row"] (defScope sAllP) := ⟨rfl, rfl, rfl, by decide +kernel, rfl, by decide +kernel, by decide +kernel⟩
def wAllP (a q : Addr) (z o : Str) (H : Hp) : Nat → L2.St → Hp → Prop := fun m σ' H' => ∃ (p : Int) (xs : List V), σ' = [some (.ref a), some (.str z), some (.int p), some (.ref q)] ∧ H' = upd H q (.lst xs) ∧
  ((p = -1 ∧ xs = (fitsN o false false z).map fun (j : Nat) => V.int (j : Int)) ∨ ∃ j : Nat, p = (j : Int) ∧ AtS o z j ∧ xs = ((List.range j).filter (fN o false false z)).map (fun (j : Nat) => V.int (j : Int)) ∧ m = z.length + 2 - j)
theorem ok_allP {C f g : Addr} {fd gd : FuncData} (F : L2.Fun K "all_places" "Rule.all_places" sAllP f fd) (M : RT K mg C) (mf : Meth K C "first_place" g) (G : FnOk P w K mg base CX0 1 g gd ["self", "row"] (spFirstP C)) (b : L2.Binds K gd ["self", "row"] []) :
    FnOk P w K mg base CX0 2 f fd ["self", "row"] (spAllP C) := by
  refine F.ok scAllP (fun vs H Q E h => ?_) (fun cdv A outer s H vs Q E hr h => ?_)
  · obtain ⟨a, o, n, l, r, z, rfl, _⟩ := h
    rfl
  · obtain ⟨a, o, n, l, r, z, rfl, ⟨dx, ha⟩, o1, o4, z1, k⟩ := h
    have nd := scAllP.nd
    obtain ⟨e1, e2, e3, e4⟩ := rf_lookups (.str o) (.str n) (.bl l) (.bl r)
    refine ⟨_, pss_cons (ps_if (PW.pt (pw_or (pt_val (pe_fld (pv 0) rfl)) (pw_or1 (pt_val (pe_fld (pv 0) rfl))))) (pss_cons (ps_set (i := 2) nd rfl (.inl rfl) (pe_meth (pv 0) M.cl mf G hr b .nil pass0 (pa_cons (pv 1) pa_nil)))
        (pss_one (ps_ret (pe_ifExp (pt_cmpR op_ge (pv 2) pe_int (nomark _)) (pe_lst (pa_cons (pv 2) pa_nil)) (pe_lst pa_nil))))) pss_nil)
      (pss_cons (ps_set (i := 3) nd rfl (.inl rfl) (pe_lst pa_nil))
      (pss_cons (ps_set (i := 2) nd rfl (.inl rfl) (pe_bm PySem.F.plainAttrs_str PySem.F.slot_str_find PySem.F.type_str_find mt_find (pv 1) (pa_cons (pe_fld (pv 0) rfl) pa_nil)))
      (pss_cons (ps_while PassesOwn.never (pt_cmpR op_ge (pv 2) pe_int (nomark _))
        (pss_cons (ps_expr (pe_bm PySem.F.plainAttrs_list PySem.F.slot_list_append PySem.F.type_list_append mt_append (pv 3) (pa_cons (pv 2) pa_nil)))
        (pss_one (ps_set (i := 2) nd rfl (.inl rfl) (pe_bm PySem.F.plainAttrs_str PySem.F.slot_str_find PySem.F.type_str_find mt_find3 (pv 1) (pa_cons (pe_fld (pv 0) rfl) (pa_cons (pe_op op_add (pv 2) pe_int) pa_nil)))))))
      (pss_one (ps_ret (pv 3)))))), ?_⟩
    refine ⟨_, rfl, a, C, dx, _, _, rfl, ha, M.cl, M.n3, e3, l, rfl, ?_⟩
    by_cases lr : (l || r) = true
    · have two : fitsN o l r z = [] ∨ ∃ j, fitsN o l r z = [j] := by
        cases l with
        | true =>
          rw [fits_left]
          split
          · exact .inr ⟨_, rfl⟩
          · exact .inl rfl
        | false =>
          obtain rfl : r = true := by simpa using lr
          rw [fits_right]
          split
          · exact .inr ⟨_, rfl⟩
          · exact .inl rfl
      rcases (show l = true ∨ (l = false ∧ r = true) from by cases l <;> simp_all) with rfl | ⟨rfl, rfl⟩
      · refine iteT (iteT ?_)
        refine ⟨_, rfl, a, dx, _, rfl, ha, rf_no rfl rfl rfl rfl, _, rfl, a, o, n, true, r, z, rfl, ⟨dx, ha⟩, o1, o4, z1, lr, fun e => ?_, fun j e => ?_⟩
        · refine ⟨_, rfl, -1, 0, rfl, rfl, _, rfl, ?_⟩
          exact iteF ⟨Nat.zero_le _, fun q hq => k q _ (Same.new hq) (by rw [upd_same, e]; rfl)⟩
        · refine ⟨_, rfl, (j : Int), 0, rfl, rfl, _, rfl, ?_⟩
          rw [decide_eq_true (show (0 : Int) ≤ (j : Int) by omega)]
          exact iteT ⟨_, rfl, by show 1 ≤ sizeLine; decide, fun q hq => k q _ (Same.new hq) (by rw [upd_same, e]; rfl)⟩
      · refine iteF ⟨_, rfl, a, C, dx, _, _, rfl, ha, M.cl, M.n4, e4, true, rfl, iteT ?_⟩
        refine ⟨_, rfl, a, dx, _, rfl, ha, rf_no rfl rfl rfl rfl, _, rfl, a, o, n, false, true, z, rfl, ⟨dx, ha⟩, o1, o4, z1, lr, fun e => ?_, fun j e => ?_⟩
        · refine ⟨_, rfl, -1, 0, rfl, rfl, _, rfl, ?_⟩
          exact iteF ⟨Nat.zero_le _, fun q hq => k q _ (Same.new hq) (by rw [upd_same, e]; rfl)⟩
        · refine ⟨_, rfl, (j : Int), 0, rfl, rfl, _, rfl, ?_⟩
          rw [decide_eq_true (show (0 : Int) ≤ (j : Int) by omega)]
          exact iteT ⟨_, rfl, by show 1 ≤ sizeLine; decide, fun q hq => k q _ (Same.new hq) (by rw [upd_same, e]; rfl)⟩
    · obtain ⟨rfl, rfl⟩ : l = false ∧ r = false := by
        cases l <;> cases r <;> simp_all
      refine iteF ⟨_, rfl, a, C, dx, _, _, rfl, ha, M.cl, M.n4, e4, false, rfl, iteF ⟨Nat.zero_le _, fun q hq => ?_⟩⟩
      have qa : a ≠ q := ne_of_none ha hq
      have ha' : ∀ xs, upd H q (.lst xs) a = some (.ins C dx (rf (.str o) (.str n) (.bl false) (.bl false))) := fun xs => by rw [upd_ne qa]; exact ha
      refine ⟨_, rfl, rfl, _, rfl, a, C, dx, _, _, rfl, ha' _, M.cl, M.n1, e1, z, o, rfl, rfl, ?_⟩
      refine ⟨wAllP a q z o H, ?_, ?_⟩
      · rw [find_is_find3]
        rcases find3_spec z o 0 with ⟨e, hn⟩ | ⟨j, e, _, hj, hn⟩
        · refine ⟨0, -1, [], ?_, rfl, .inl ⟨rfl, ?_⟩⟩
          · rw [show (0 : Int) = ((0 : Nat) : Int) from rfl, e]; rfl
          · rw [fitsN_past (p := 0) (Nat.zero_le _) fun i _ => hn i (Nat.zero_le _)]; rfl
        · refine ⟨_, (j : Int), [], ?_, rfl, .inr ⟨j, rfl, hj, ?_, rfl⟩⟩
          · rw [show (0 : Int) = ((0 : Nat) : Int) from rfl, e]; rfl
          · rw [filt_ext (p := 0) (q := j) (Nat.zero_le _) fun i _ hi => show fN o false false z i = false from fit_no (hn i (Nat.zero_le _) hi)]; rfl
      · rintro m σ' H' ⟨p, xs, rfl, rfl, hp⟩
        refine ⟨_, rfl, p, 0, rfl, rfl, _, rfl, ?_⟩
        rcases hp with ⟨rfl, rfl⟩ | ⟨j, rfl, hj, rfl, rfl⟩
        · exact iteF ⟨_, rfl, k q _ (Same.new hq) upd_same⟩
        · rw [decide_eq_true (show (0 : Int) ≤ (j : Int) by omega)]
          have jz := hj.1
          have len1 : (((List.range j).filter (fN o false false z)).map fun (j : Nat) => V.int (j : Int)).length ≤ j := by
            rw [List.length_map]
            have := List.length_filter_le (fN o false false z) (List.range j)
            rw [List.length_range] at this
            exact this
          refine iteT ⟨fun σ' H2 => ∃ m', m' < z.length + 2 - j ∧ wAllP a q z o H m' σ' H2, fun _ _ h => h, ?_⟩
          refine ⟨_, rfl, .inl ⟨rfl, _, SqL.of upd_same⟩, _, rfl, q, _, _, rfl, rfl, upd_same, by rw [sizeLine_eq]; omega, ?_⟩
          rw [upd_upd]
          refine ⟨_, rfl, rfl, _, rfl, a, C, dx, _, _, rfl, ha' _, M.cl, M.n1, e1, _, rfl, _, _, rfl, rfl, z, o, _, rfl, rfl, ?_⟩
          have hfj : fN o false false z j = true := by rw [fN_eq, (atB_iff o z j).mpr hj]; rfl
          have nxt : ((List.range j).filter (fN o false false z)).map (fun (j : Nat) => V.int (j : Int)) ++ [V.int (j : Int)] = ((List.range (j + 1)).filter (fN o false false z)).map (fun (j : Nat) => V.int (j : Int)) := by
            rw [filt_succ, if_pos hfj, List.map_append]; rfl
          rw [nxt]
          rcases find3_spec z o (j + 1) with ⟨e, hn⟩ | ⟨i, e, hi, hat, hn⟩
          · rw [show (((j + 1 : Nat)) : Int) = (j : Int) + 1 from by omega] at e
            exact ⟨0, by omega, -1, _, by rw [e]; rfl, rfl, .inl ⟨rfl, by rw [fitsN_past (p := j + 1) (by omega) fun i hi => hn i hi]⟩⟩
          · rw [show (((j + 1 : Nat)) : Int) = (j : Int) + 1 from by omega] at e
            have qz := hat.1
            exact ⟨z.length + 2 - i, by omega, (i : Int), _, by rw [e]; rfl, rfl, .inr ⟨i, rfl, hat, by rw [filt_ext (p := j + 1) (q := i) hi fun u a b => show fN o false false z u = false from fit_no (hn u a b)], rfl⟩⟩
theorem scPlaces : GScope ["self", "row", "place"] ["self", "row"] (defScope sPlaces) := ⟨rfl, rfl, rfl, by decide +kernel, rfl, by decide +kernel, by decide +kernel⟩
def spPlaces (C : Addr) : SpG := fun vs H Q _ => ∃ a o n l r z, vs = [.ref a, .str z] ∧ Rl C H a o n l r ∧ 1 ≤ o.length ∧ o.length ≤ 4 ∧ z.length ≤ 1000 ∧ ∀ H', Same H H' → Q ((fitsN o l r z).map fun (j : Nat) => V.int (j : Int)) H'
theorem ok_places {C f g : Addr} {gd : FuncData} {dV kV doc pm cdv ct oc : Value} {an od : Option Addr} {osl : Array (Option Value)}
    (lk : K.lookup f = some ⟨oc, od, .func (PySem.W.fnOf "places" "Rule.places" (defArgs sPlaces) (defBody sPlaces) (defScope sPlaces) dV kV doc pm an cdv ct), osl⟩) (hcd : PySem.W.codeIn K cdv "Rule.places" = true)
    (M : RT K mg C) (ma : Meth K C "all_places" g) (G : FnOk P w K mg base CX0 2 g gd ["self", "row"] (spAllP C)) (b : L2.Binds K gd ["self", "row"] []) :
    GFn P w K mg base 3 f (PySem.W.fnOf "places" "Rule.places" (defArgs sPlaces) (defBody sPlaces) (defScope sPlaces) dV kV doc pm an cdv ct) ["self", "row"] (spPlaces C) := by
  refine gfn_of lk hcd scPlaces (fun vs H Q E h => ?_) (fun A outer s H vs Q E pn hr h => ?_)
  · obtain ⟨a, o, n, l, r, z, rfl, _⟩ := h
    rfl
  · obtain ⟨a, o, n, l, r, z, rfl, ⟨dx, ha⟩, o1, o4, z1, k⟩ := h
    have nd := scPlaces.nd
    refine ⟨_, gss_cons (Gf.gs_for owns_gcx rfl (pi_list (pe_meth (pv 0) M.cl ma G hr b .nil pass0 (pa_cons (pv 1) pa_nil))) (pg_name (i := 2) nd rfl (Or.inl rfl)) (gss_cons (gs_yield (pv 2)) gss_nil)) gss_nil, ?_⟩
    refine ⟨_, rfl, a, dx, _, rfl, ha, rf_no rfl rfl rfl rfl, _, rfl, a, o, n, l, r, z, rfl, ⟨dx, ha⟩, o1, o4, z1, fun q H1 s1 hq => ?_⟩
    have few := fitsN_few o z l r
    refine ⟨q, rfl, ⟨_, SqL.of hq⟩, ?_⟩
    refine Gf.gfor_list (xs := (fitsN o l r z).map fun (j : Nat) => V.int (j : Int)) (fun i ys σ H' => H' = H1 ∧ ys = ((fitsN o l r z).map fun (j : Nat) => V.int (j : Int)).take i ∧ ∃ y, σ = [some (.ref a), some (.str z), y]) ⟨rfl, rfl, _, rfl⟩ ?_ ?_ ?_
    · rintro i ys σ H' _ ⟨rfl, _⟩
      exact SqL.of hq
    · rintro i x ys σ H' hx ⟨rfl, rfl, y, rfl⟩
      refine ⟨?_, _, rfl, rfl, ?_, _, rfl⟩
      · have : (((fitsN o l r z).map fun (j : Nat) => V.int (j : Int)).take i).length ≤ (fitsN o l r z).length := by
          rw [List.length_take, List.length_map]; exact Nat.min_le_right _ _
        rw [sizeLine_eq]; omega
      · rw [List.take_add_one, hx]; rfl
    · rintro ys σ H' ⟨rfl, rfl, _⟩
      rw [List.take_length]
      exact k _ s1
def spNeg (C : Addr) : Sp := fun vs H Q _ => ∃ a o n l r, vs = [.ref a] ∧ Rl C H a o n l r ∧ lets 1 o = true ∧ lets 0 n = true ∧ ∀ b H', Same H H' → Rl C H' b (revS o) (revS n) r l → Q (.ref b) H'
theorem scNeg : FnScope ["self"] ["self"] (defScope sNeg) := ⟨rfl, rfl, rfl, by decide +kernel, rfl, by decide +kernel, by decide +kernel⟩
theorem lets_rev {lo : Nat} {z : Str} (h : lets lo z = true) : lets lo (revS z) = true := by
  unfold lets at h ⊢
  rw [revS_len]
  simp only [Bool.and_eq_true, List.all_eq_true] at h ⊢
  refine ⟨h.1, fun x hx => h.2 x ?_⟩
  simpa [revS] using hx
theorem lets_le {lo : Nat} {z : Str} (h : lets lo z = true) : lo ≤ z.length ∧ z.length ≤ 4 := by
  unfold lets at h
  simp only [Bool.and_eq_true, decide_eq_true_eq] at h
  exact ⟨h.1.1, h.1.2⟩
theorem ok_neg {C CR f fi : Addr} {fd fdi : FuncData} (F : L2.Fun K "__neg__" "Rule.__neg__" sNeg f fd) (M : RT K mg C) (mk_ : Mk K C fi) (GI : FnOk P w K mg base (L2.CX P w) 3 fi fdi nInit (spRInit K C CR)) (kb : KBn K fdi nInit 3 ["left", "right"] gKw gKwV) :
    FnOk P w K mg base CX0 5 f fd ["self"] (spNeg C) := by
  refine F.ok scNeg (fun vs H Q E h => ?_) (fun cdv A outer s H vs Q E hr h => ?_)
  · obtain ⟨a, o, n, l, r, rfl, _⟩ := h
    rfl
  · obtain ⟨a, o, n, l, r, rfl, ⟨dx, ha⟩, lo, ln, k⟩ := h
    obtain ⟨e1, e2, e3, e4⟩ := rf_lookups (.str o) (.str n) (.bl l) (.bl r)
    have lo' := lets_le lo
    have ln' := lets_le ln
    refine ⟨_, pss_one (ps_ret (pe_makeK mk_ GI hr (by rfl) M.mgC kb passesF (pa_cons (pe_revS (pe_fld (pv 0) rfl)) (pa_cons (pe_revS (pe_fld (pv 0) rfl)) pa_nil)) (pk_cons (pe_fld (pv 0) rfl) (pk_cons (pe_fld (pv 0) rfl) pk_nil)))), ?_⟩
    refine ⟨_, rfl, a, C, dx, _, _, rfl, ha, M.cl, M.n1, e1, o, rfl, len_small (by omega), _, rfl, a, C, dx, _, _, rfl, ha, M.cl, M.n2, e2, n, rfl, len_small (by omega), _, rfl, a, C, dx, _, _, rfl, ha, M.cl, M.n4, e4, _, rfl, a, C, dx, _, _, rfl, ha, M.cl, M.n3, e3, rfl, rfl, fun q dq hq hdq ne => ?_⟩
    refine ⟨q, dq, .str (revS o), .str (revS n), .bl r, .bl l, true, true, true, true, rfl, upd_same, .inl ⟨_, rfl, by rw [revS_len]; omega, (lets_rev lo).symm⟩, .inl ⟨_, rfl, by rw [revS_len]; omega, (lets_rev ln).symm⟩, ⟨_, .base (.bl r), kit_ty (by decide +kernel)⟩, ⟨_, .base (.bl l), kit_ty (by decide +kernel)⟩, ?_⟩
    exact fun H' e1 h' => ⟨rfl, k q H' (same_ext1 hq (made_same hq hdq) e1) ⟨_, h'⟩⟩
theorem fold_list (a : Array Nat) : ∀ (k : Nat) (b : Array Nat), ((List.replicate k a).foldl (· ++ ·) b).toList = b.toList ++ (List.replicate k a.toList).flatten
  | 0, b => by simp
  | k + 1, b => by
    rw [List.replicate_succ, List.foldl_cons, fold_list a k, List.replicate_succ, List.flatten_cons, Array.toList_append, List.append_assoc]
theorem rept_list (x : Str) (k : Nat) : (rept x k).cps.toList = (List.replicate k x.cps.toList).flatten := by
  unfold rept
  rw [fold_list]
  rfl
theorem rept_len (x : Str) (k : Nat) : (rept x k).length = x.length * k := by
  show (rept x k).cps.size = _
  rw [← Array.length_toList, rept_list, List.length_flatten, List.map_replicate, List.sum_replicate_nat, Array.length_toList, Nat.mul_comm]
  rfl
theorem lets_rept {lo : Nat} {x : Str} {k : Nat} (h : lets lo x = true) (k1 : 1 ≤ k) (le : x.length * k ≤ 4) : lets lo (rept x k) = true := by
  have q := lets_le h
  have big : x.length ≤ x.length * k := Nat.le_mul_of_pos_right _ k1
  unfold lets at h ⊢
  rw [rept_len, rept_list]
  simp only [Bool.and_eq_true, List.all_eq_true, decide_eq_true_eq] at h ⊢
  refine ⟨⟨by omega, le⟩, fun c hc => ?_⟩
  obtain ⟨l, hl, hc⟩ := List.mem_flatten.mp hc
  rw [List.eq_of_mem_replicate hl] at hc
  exact h.2 c hc
theorem no_rept {lo : Nat} {x : Str} {k : Nat} (lt : 4 < x.length * k) : lets lo (rept x k) = false := by
  unfold lets
  rw [rept_len, decide_eq_false (show ¬ x.length * k ≤ 4 by omega)]
  simp
def rMulT : R2 := fun x y H Q => ∃ (i : Str) (n : Int), x = .str i ∧ y = .int n ∧ 1 ≤ n ∧ n ≤ 1000 ∧ i.length ≤ 1000 ∧ Q (.str (rept i n.toNat)) H
theorem op_mulT {X : Cx} : OpR X (binaryOp .Mult) rMulT := by
  rintro pins s σ H x y v u Q I rx ry ⟨i, n, rfl, rfl, n1, n2, l2, q⟩
  obtain ⟨t, rfl⟩ := rx
  obtain ⟨t', rfl⟩ := ry
  have nl : ¬ n < 1 := by omega
  refine PySem.P.mul_str ?_ (fun _ _ => ?_) (fun _ _ => ?_) ?_
  · rw [decide_eq_false (show ¬ n < -(2 ^ 63) by omega), decide_eq_false (show ¬ n ≥ 2 ^ 63 by omega)]
    rfl
  · have h1 : (1000 : Int) ≤ (2 ^ 63 - 1) / n := (Int.le_ediv_iff_mul_le (by omega)).mpr (by omega)
    omega
  · unfold Builtin.Str.tooLong
    refine decide_eq_false ?_
    have : i.length * n.toNat ≤ 1000 * 1000 := Nat.mul_le_mul l2 (by omega)
    rw [sizeLine_eq]
    omega
  · rw [if_neg nl]
    by_cases e : n = 1 ∨ i.length = 0
    · rw [if_pos (by rw [Bool.or_eq_true, beq_iff_eq, beq_iff_eq]; exact e)]
      have e2 : rept i n.toNat = i := by
        rcases e with rfl | e
        · exact rept_one i
        · apply Str.ext'
          apply Array.toList_inj.mp
          have z : i.cps.toList = [] := List.length_eq_zero_iff.mp (by rw [Array.length_toList]; exact e)
          rw [rept_list, z]
          simp
      rw [e2] at q
      exact ⟨.str i, H, I, ⟨t, rfl⟩, q⟩
    · rw [if_neg (by rw [Bool.or_eq_true, beq_iff_eq, beq_iff_eq]; exact e)]
      refine ⟨?_, .str (rept i n.toNat), H, I.tok _, ⟨_, rfl⟩, q⟩
      show (rept i n.toNat).length ≤ sizeLine
      rw [rept_len, sizeLine_eq]
      have : i.length * n.toNat ≤ 1000 * 1000 := Nat.mul_le_mul l2 (by omega)
      omega
def spMul (C CR : Addr) : Sp := fun vs H Q E => ∃ (a : Addr) (o n : Str) (l r : Bool) (k : Nat), vs = [.ref a, .int (k : Int)] ∧ Rl C H a o n l r ∧ lets 1 o = true ∧ lets 0 n = true ∧ 1 ≤ k ∧ k ≤ 99 ∧
  (4 < o.length * k → raised CR "part" (.str "old") E H) ∧ (o.length * k ≤ 4 → 4 < n.length * k → ∀ H', Same H H' → raised CR "part" (.str "new") E H') ∧
  (o.length * k ≤ 4 → n.length * k ≤ 4 → ∀ b H', Same H H' → Rl C H' b (rept o k) (rept n k) l r → Q (.ref b) H')
theorem scMul : FnScope ["self", "other"] ["self", "other"] (defScope sMul) := ⟨rfl, rfl, rfl, by decide +kernel, rfl, by decide +kernel, by decide +kernel⟩
theorem ok_mul {C CR f fi : Addr} {fd fdi : FuncData} (F : L2.Fun K "__mul__" "Rule.__mul__" sMul f fd) (T : Txt mg) (M : RT K mg C) (R : ErrB P w K mg base "BadRule" "part" CR) (mk_ : Mk K C fi) (GI : FnOk P w K mg base (L2.CX P w) 3 fi fdi nInit (spRInit K C CR)) (kb : KBn K fdi nInit 3 ["left", "right"] gKw gKwV) :
    FnOk P w K mg base (L2.CX P w) 5 f fd ["self", "other"] (spMul C CR) := by
  obtain ⟨ft, fdt, pst, r1, r2, r3, r4⟩ := R.init
  obtain ⟨mc, lu, rd, cv⟩ := M.rd
  refine F.okX scMul (fun vs H Q E h => ?_) (fun cdv A outer s H vs Q E hr h => ?_)
  · obtain ⟨a, o, n, l, r, k, rfl, _⟩ := h
    rfl
  · obtain ⟨a, o, n, l, r, k, rfl, ⟨dx, ha⟩, lo, ln, k1, k99, bo, bn, ok⟩ := h
    have tk := takes_of (X := cxOf (L2.CX P w) P w K mg base ["self", "other"] "Rule.__mul__" (defScope sMul) f cdv A outer s H E) rfl rfl rfl rfl
    obtain ⟨e1, e2, e3, e4⟩ := rf_lookups (.str o) (.str n) (.bl l) (.bl r)
    have lo' := lets_le lo
    have ln' := lets_le ln
    have hr2 := hr.mono (show 2 ≤ 4 by decide)
    have hb : o.length * k ≤ 4 * 99 := Nat.mul_le_mul lo'.2 k99
    have hb2 : n.length * k ≤ 4 * 99 := Nat.mul_le_mul ln'.2 k99
    refine ⟨_, pss_cons (ps_if (pt_cmpR op_gt (pe_op op_mul (bLen (by rfl) T.len (pe_fld (pv 0) rfl)) (pv 1)) (ClX.pe_cval (pe_glob (v := .ref C) (by rfl) M.mgC rfl)) (nomark _)) (pss_one (ps_raise1 rfl tk R.O r1 r2 r3 hr2 r4 (by rfl) R.mgC pe_str)) pss_nil)
      (pss_one (ps_ret (pe_makeK mk_ GI hr (by rfl) M.mgC kb (passes_call tk fun _ _ _ _ h => h) (pa_cons (pe_op op_mulT (pe_fld (pv 0) rfl) (pv 1)) (pa_cons (pe_op op_mulT (pe_fld (pv 0) rfl) (pv 1)) pa_nil)) (pk_cons (pe_fld (pv 0) rfl) (pk_cons (pe_fld (pv 0) rfl) pk_nil))))), ?_⟩
    refine ⟨_, rfl, a, C, dx, _, _, rfl, ha, M.cl, M.n1, e1, _, o.length, rfl, ⟨len_small (by omega), rfl⟩, _, rfl, _, _, rfl, rfl, .inl ⟨by omega, by omega⟩, C, mc, _, lu, rfl, rd, cv, _, _, rfl, rfl, _, rfl, ?_⟩
    have cast : ((o.length : Int) * (k : Int)) = ((o.length * k : Nat) : Int) := by simp
    rw [cast]
    by_cases h4 : 4 < o.length * k
    · rw [decide_eq_true (show (4 : Int) < ((o.length * k : Nat) : Int) by omega)]
      exact iteT (bo h4)
    · rw [decide_eq_false (show ¬ (4 : Int) < ((o.length * k : Nat) : Int) by omega)]
      have tn : ((k : Int)).toNat = k := by omega
      refine iteF ⟨_, rfl, a, C, dx, _, _, rfl, ha, M.cl, M.n1, e1, _, rfl, o, (k : Int), rfl, rfl, by omega, by omega, by omega, _, rfl, a, C, dx, _, _, rfl, ha, M.cl, M.n2, e2, _, rfl, n, (k : Int), rfl, rfl, by omega, by omega, by omega, _, rfl, a, C, dx, _, _, rfl, ha, M.cl, M.n3, e3, _, rfl, a, C, dx, _, _, rfl, ha, M.cl, M.n4, e4, rfl, rfl, fun q dq hq hdq ne => ?_⟩
      rw [tn]
      refine ⟨q, dq, .str (rept o k), .str (rept n k), .bl l, .bl r, true, lets 0 (rept n k), true, true, rfl, upd_same, .inl ⟨_, rfl, by rw [rept_len]; omega, (lets_rept lo k1 (by omega)).symm⟩, .inl ⟨_, rfl, by rw [rept_len]; omega, rfl⟩, ⟨_, .base (.bl l), kit_ty (by decide +kernel)⟩, ⟨_, .base (.bl r), kit_ty (by decide +kernel)⟩, ?_⟩
      by_cases h5 : 4 < n.length * k
      · rw [no_rept h5]
        exact bn (by omega) h5 _ (made_same hq hdq)
      · rw [lets_rept ln k1 (by omega)]
        exact fun H' x1 h' => ⟨rfl, ok (by omega) (by omega) q H' (same_ext1 hq (made_same hq hdq) x1) ⟨_, h'⟩⟩
theorem scRmul : FnScope ["self", "other"] ["self", "other"] (defScope sRmul) := ⟨rfl, rfl, rfl, by decide +kernel, rfl, by decide +kernel, by decide +kernel⟩
theorem ok_rmul {C CR f g h : Addr} {fd gd : FuncData} (F : L2.Fun K "__rmul__" "Rule.__rmul__" sRmul f fd) (c : MulC K C g h) (G : FnOk P w K mg base (L2.CX P w) 5 g gd ["self", "other"] (spMul C CR)) (b : L2.Binds K gd ["self", "other"] []) :
    FnOk P w K mg base (L2.CX P w) 6 f fd ["self", "other"] (spMul C CR) := by
  refine F.okX scRmul (fun vs H Q E h => ?_) (fun cdv A outer s H vs Q E hr h => ?_)
  · obtain ⟨a, o, n, l, r, k, rfl, _⟩ := h
    rfl
  · obtain ⟨a, o, n, l, r, k, rfl, ⟨dx, ha⟩, lo, ln, k1, k99, bo, bn, ok⟩ := h
    have tk := takes_of (X := cxOf (L2.CX P w) P w K mg base ["self", "other"] "Rule.__rmul__" (defScope sRmul) f cdv A outer s H E) rfl rfl rfl rfl
    refine ⟨_, pss_one (ps_ret (pe_opS (op_mulOwn c G hr b fun σ => passAt tk σ) (pv 0) (pv 1))), ?_⟩
    exact ⟨_, rfl, _, rfl, a, dx, _, (k : Int), rfl, rfl, ha, a, o, n, l, r, k, rfl, ⟨dx, ha⟩, lo, ln, k1, k99, bo, bn, fun x y b H' s1 r1 => ⟨⟨b, rfl⟩, ok x y b H' s1 r1⟩⟩
end
end Kx
set_option Elab.async false
set_option maxRecDepth 100000
set_option autoImplicit false
/-! _law_text, _law_drawn, _law_row -/
namespace Kx
open PySem L2 PySem.Spec PyProof.Rows Rg Er Ru SX
abbrev sText : Stmt := top 17
abbrev sDrawn : Stmt := top 18
abbrev sRow : Stmt := top 19
theorem bListS {X : Cx} {e : Expr} {te : TE} {p pos : Pos} (hc : X.calm = true) (hg : Gl X "list") (m : X.mg "list" = none) (he : PE X e te) (na : starEach [e] X.env = (false, eval e X.env) :: starEach [] X.env := by rfl) :
    PE X (.Call (.Name "list" p) [e] [] pos) (tCB rListS (tCons te tNil)) :=
  pe_callTy (call_listS hc) hg m (by decide +kernel) (pa_cons he pa_nil na) (he := na)
def sg (d : Nat) : V := V.str ⟨#[d]⟩
theorem lets_of {lo : Nat} {z : Str} (h : z.cps.toList.all isL = true) (h1 : lo ≤ z.length) (h2 : z.length ≤ 4) : lets lo z = true := by
  unfold lets
  rw [h, decide_eq_true h1, decide_eq_true h2]
  rfl
theorem Ink.freeOf {c p q : Addr} {n : Nat} {H H' : Hp} (i : Ink c p n H H') (e : H' q = none) : H q = none := by
  cases z : H q with
  | none => rfl
  | some o =>
    rw [i.1 q o (i.2.ne1 e) z] at e
    cases e
/-- a comprehension with a condition, by an invariant -/
theorem lcSel {J : It} {n : Nat} {G : Hp → Prop} {Y : Nat → Hp → V → Hp → Prop} (w : Walk J n G Y) {v : Nat} {tt : TT} {te : TE} {σ : L2.St} {H1 : Hp} {D : Addr} {Qd : Hp → Prop} (Iv : Nat → Hp → List V → Prop) (hn : n < sizeLine)
    (h0 : Iv 0 (upd H1 D (.lst [])) []) (hG : ∀ i H' acc, i ≤ n → Iv i H' acc → G H') (hY : ∀ i H' x H2, Y i H' x H2 → H2 = H')
    (el : ∀ i x H' acc (Q : VK) (Qf : Hp → Prop), i < n → H' D = some (.lst acc) → acc.length ≤ i → Iv i H' acc → Y i H' x H' → (∀ y H4, H4 D = some (.lst acc) → Iv (i + 1) (upd H4 D (.lst (acc ++ [y]))) (acc ++ [y]) → Q y H4) → (∀ H3, H3 D = some (.lst acc) → Iv (i + 1) H3 acc → Qf H3) →
      tt ((wipe σ [v]).set v (some x)) H' fun b H3 => if b = true then te ((wipe σ [v]).set v (some x)) H3 Q else Qf H3)
    (hd : ∀ H' acc, H' D = some (.lst acc) → acc.length ≤ n → Iv n H' acc → Qd H') :
    ∃ W : Nat → Nat → Hp → Prop, (∃ m, W 0 m (upd H1 D (.lst []))) ∧ ∀ i m H, W i m H →
      (J.stop i H ∧ Qd H) ∨ (J.go i H ∧ ∃ Nx : Hp → Prop, (∀ H', Nx H' → ∃ m', m' < m ∧ W (i + 1) m' H') ∧ ∀ x H', J.yld i H x H' → gName v x (wipe σ [v]) H' fun σ2 H2 => wipe σ2 [v] = wipe σ [v] ∧ tt σ2 H2 fun b H3 =>
        if b = true then te σ2 H3 fun y H4 => ∃ acc, H4 D = some (.lst acc) ∧ acc.length < sizeLine ∧ Nx (upd H4 D (.lst (acc ++ [y]))) else Nx H3) := by
  refine lc_it w (fun i H' => ∃ acc, H' D = some (.lst acc) ∧ acc.length ≤ i ∧ Iv i H' acc) ⟨[], upd_same, Nat.le_refl _, h0⟩ (fun i H' hi ⟨acc, _, _, q⟩ => hG i H' acc hi q) ?_ fun H' ⟨acc, q1, q2, q3⟩ => hd H' acc q1 q2 q3
  rintro i x H' H2 hi ⟨acc, ha, hl, iv⟩ y
  obtain rfl := hY _ _ _ _ y
  refine ⟨wipe1 σ v x, ?_⟩
  exact el i x H2 acc _ _ hi ha hl iv y (fun y H4 h4 i4 => ⟨acc, h4, by omega, _, upd_same, by simp; omega, i4⟩) (fun H3 h3 i3 => ⟨acc, h3, by omega, i3⟩)

def spText : Sp := fun vs H Q _ => ∃ (c p l : Addr) (n m : Nat) (cs : List Nat), vs = [.ref p, .ref l, .int (m : Int)] ∧ n ≤ 900000 ∧ m ≤ 8 ∧ PenAt c n H p ∧ l ≠ p ∧ H l = some (.lst (cs.map sg)) ∧ 0 < cs.length ∧ cs.length ≤ 30 ∧ cs.all isL = true ∧
  ∀ (z : Str) H', z.cps.toList.all isL = true → z.length = m → Ink c p (n + 8) H H' → Q (.str z) H'
/-- what _law_drawn gives: at a, the letters at t -/
def Parts (H : Hp) (a t : Addr) (o n : Str) (l r : Bool) (cs : List Nat) : Prop := H a = some (.lst [.str o, .str n, .bl l, .bl r, .ref t]) ∧ H t = some (.lst (cs.map sg)) ∧ lets 1 o = true ∧ lets 0 n = true ∧ 0 < cs.length ∧ cs.length ≤ 8 ∧ cs.all isL = true
def spDrawn : Sp := fun vs H Q _ => ∃ (c p : Addr) (n : Nat), vs = [.ref p] ∧ n ≤ 800000 ∧ PenAt c n H p ∧ ∀ (a t : Addr) H' (o nw : Str) (l r : Bool) (cs : List Nat), H a = none → H t = none → Parts H' a t o nw l r cs → Ink c p (n + 40) H H' → Q (.ref a) H'
def spRow : Sp := fun vs H Q _ => ∃ (c p t : Addr) (n : Nat) (o : Str) (cs : List Nat), vs = [.ref p, .str o, .ref t] ∧ n ≤ 800000 ∧ PenAt c n H p ∧ o.length ≤ 4 ∧ t ≠ p ∧ H t = some (.lst (cs.map sg)) ∧ 0 < cs.length ∧ cs.length ≤ 8 ∧ cs.all isL = true ∧
  ∀ (z : Str) H', z.length ≤ 14 → Ink c p (n + 40) H H' → Q (.str z) H'
section
variable {P : Program} {w : World} {K : PySem.W.Frag} {mg : Str → Option Value} {base : Heap}
abbrev nText : List Str := ["_law_pen_here", "_law_signs", "_law_many_here", "_law_k"]
theorem scText : FnScope nText ["_law_pen_here", "_law_signs", "_law_many_here"] (defScope sText) := ⟨rfl, rfl, rfl, by decide +kernel, rfl, by decide +kernel, by decide +kernel⟩
theorem ok_text {f f2 : Addr} {fd fd2 : FuncData} (F : L2.Fun K "_law_text" "_law_text" sText f fd) (T : Txt mg)
    (G2 : FnOk P w K mg base CX0 2 f2 fd2 ["_law_pen_here", "_law_things"] spPick) (m2 : mg "_law_pick" = some (.ref f2)) (k2 : PySem.W.keepIn K (.ref f2) = true) (b2 : L2.Binds K fd2 ["_law_pen_here", "_law_things"] []) :
    FnOk P w K mg base CX0 3 f fd ["_law_pen_here", "_law_signs", "_law_many_here"] spText := by
  refine F.ok scText (fun vs H Q E h => ?_) (fun cdv A outer s H vs Q E hr h => ?_)
  · obtain ⟨c, p, l, n, m, cs, rfl, _⟩ := h
    rfl
  · obtain ⟨c, p, l, n, m, cs, rfl, nb, mb, pen, lp, hl, c0, c30, al, k⟩ := h
    have nd := scText.nd
    refine ⟨_, pss_one (ps_ret (pe_join pe_str (pe_lc (own := [("_law_k", 3)]) (g := gName 3) (tt := tYes) rfl nd (pi_range1 (by rfl) T.range (pa_cons (pv 2) pa_nil)) (blkOk_by (N := nText) (sc := defScope sText) (by decide +kernel))
          (fun _ _ _ _ _ => pg_name (i := 3) nd rfl (Or.inl rfl)) (fun _ _ _ _ _ => pts_nil) (fun _ _ _ _ _ => pe_call G2 hr (by rfl) m2 k2 b2 .nil pass0 (pa_cons (pv 0) (pa_cons (pv 1) pa_nil)))))), ?_⟩
    refine ⟨⟨_, rfl⟩, _, rfl, m, rfl, by omega, by omega, fun D hD => ?_⟩
    have Dp := pen.ne1 hD
    have Dl : l ≠ D := ne_of_none hl hD
    refine lcGen walk_range (fun i H' acc => Ink c p (n + i) H H' ∧ H' l = some (.lst (cs.map sg)) ∧ ∃ ds : List Nat, acc = ds.map sg ∧ ds.all isL = true) (by rw [sizeLine_eq]; omega) ⟨(Ink.start pen).new hD, by rw [upd_ne Dl]; exact hl, [], rfl, rfl⟩ (fun _ _ _ _ _ => trivial) (fun _ _ _ _ y => y.1) ?_ ?_
    · rintro i x H' acc Q' hi hDl hl2 ⟨ink, hl', ds, rfl, sub⟩ y q
      have hi8 : i < m := hi
      refine ⟨_, rfl, _, rfl, c, p, n + i, by omega, ink.2, .inl ⟨l, _, rfl, lp, hl', by rw [List.length_map]; exact c0, by rw [List.length_map]; omega, fun v H4 hv pen4 x4 => ?_⟩⟩
      obtain ⟨d, hd, rfl⟩ := List.mem_map.mp hv
      refine q _ H4 (x4 _ _ Dp hDl) ⟨Ink.putNew (n := n + (i + 1)) ⟨Ext1.trans ink.1 x4, pen4⟩ pen hD, ?_, ds ++ [d], by rw [List.map_append]; rfl, ?_⟩
      · rw [upd_ne Dl]; exact x4 _ _ lp hl'
      · rw [List.all_append, sub]; simp; exact List.all_eq_true.mp al d hd
    · rintro H2 acc hDl hl2 ⟨ink, _, ds, rfl, sub⟩
      have hm : ds.length = m := by rw [List.length_map] at hl2; exact hl2
      refine ⟨_, D, ds.map fun d => ⟨#[d]⟩, rfl, rfl, .inl (SqL.of (by rw [List.map_map]; exact hDl)), ?_, ?_⟩
      · rw [sum_one, List.length_map]
        show ds.length + ds.length * 0 ≤ 16777216
        omega
      · rw [join_one]
        exact k _ _ (by simpa using sub) (by show ds.toArray.size = m; rw [List.size_toArray]; exact hm) (ink.mono (by omega))
abbrev nDrawn : List Str := ["_law_pen_here", "_law_letters", "_law_old", "_law_new", "_law_k"]
theorem scDrawn : FnScope nDrawn ["_law_pen_here"] (defScope sDrawn) := ⟨rfl, rfl, rfl, by decide +kernel, rfl, by decide +kernel, by decide +kernel⟩
theorem ok_drawn {f f1 f2 f3 : Addr} {fd fd1 fd2 fd3 : FuncData} (F : L2.Fun K "_law_drawn" "_law_drawn" sDrawn f fd) (T : Txt mg)
    (G1 : FnOk P w K mg base CX0 1 f1 fd1 ["_law_pen_here", "_law_many_here"] spDraw) (m1 : mg "_law_draw" = some (.ref f1)) (k1 : PySem.W.keepIn K (.ref f1) = true) (b1 : L2.Binds K fd1 ["_law_pen_here", "_law_many_here"] [])
    (G2 : FnOk P w K mg base CX0 2 f2 fd2 ["_law_pen_here", "_law_things"] spPick) (m2 : mg "_law_pick" = some (.ref f2)) (k2 : PySem.W.keepIn K (.ref f2) = true) (b2 : L2.Binds K fd2 ["_law_pen_here", "_law_things"] [])
    (G3 : FnOk P w K mg base CX0 3 f3 fd3 ["_law_pen_here", "_law_signs", "_law_many_here"] spText) (m3 : mg "_law_text" = some (.ref f3)) (k3 : PySem.W.keepIn K (.ref f3) = true) (b3 : L2.Binds K fd3 ["_law_pen_here", "_law_signs", "_law_many_here"] []) :
    FnOk P w K mg base CX0 4 f fd ["_law_pen_here"] spDrawn := by
  refine F.ok scDrawn (fun vs H Q E h => ?_) (fun cdv A outer s H vs Q E hr h => ?_)
  · obtain ⟨c, p, n, rfl, _⟩ := h
    rfl
  · obtain ⟨c, p, n, rfl, nb, pen, k⟩ := h
    have nd := scDrawn.nd
    have hr1 := hr.mono (show 1 ≤ 3 by decide)
    have hr2 := hr.mono (show 2 ≤ 3 by decide)
    refine ⟨_, pss_cons (ps_setLc (i := 1) (own := [("_law_k", 4)]) (g := gName 4) (tt := tYes) (te := tCall spPick [] E0 (tCons (tVar 0) (tCons (tCB rListS (tCons (tC (.str abc)) tNil)) tNil))) rfl nd rfl rfl rfl (pi_range1 (by rfl) T.range (pa_cons pe_int pa_nil)) (blkOk_by (N := nDrawn) (sc := defScope sDrawn) (by decide +kernel))
          (fun _ _ _ _ _ => pg_name (i := 4) nd rfl (Or.inl rfl)) (fun _ _ _ _ _ => pts_nil) (fun _ _ _ _ _ => pe_call G2 hr2 (by rfl) m2 k2 b2 .nil pass0 (pa_cons (pv 0) (pa_cons (bListS rfl (by rfl) T.list pe_str) pa_nil))))
      (pss_cons (ps_set (i := 2) nd rfl (.inl rfl) (pe_call G3 hr (by rfl) m3 k3 b3 .nil pass0 (pa_cons (pv 0) (pa_cons (pv 1) (pa_cons (pe_call G2 hr2 (by rfl) m2 k2 b2 .nil pass0 (pa_cons (pv 0) (pa_cons (pe_lst (pa_cons pe_int (pa_cons pe_int (pa_cons pe_int (pa_cons pe_int (pa_cons pe_int pa_nil)))))) pa_nil))) pa_nil)))))
      (pss_cons (ps_set (i := 3) nd rfl (.inl rfl) (pe_call G3 hr (by rfl) m3 k3 b3 .nil pass0 (pa_cons (pv 0) (pa_cons (pe_op op_cat (pv 1) (pe_lst (pa_cons pe_str pa_nil))) (pa_cons (pe_call G2 hr2 (by rfl) m2 k2 b2 .nil pass0 (pa_cons (pv 0) (pa_cons (pe_lst (pa_cons pe_int (pa_cons pe_int (pa_cons pe_int (pa_cons pe_int (pa_cons pe_int (pa_cons pe_int pa_nil))))))) pa_nil))) pa_nil)))))
      (pss_one (ps_ret (pe_lst (pa_cons (pv 2) (pa_cons (pv 3) (pa_cons (pe_cmpR op_eq (pe_call G1 hr1 (by rfl) m1 k1 b1 .nil pass0 (pa_cons (pv 0) (pa_cons pe_int pa_nil))) pe_int (nomark _)) (pa_cons (pe_cmpR op_eq (pe_call G1 hr1 (by rfl) m1 k1 b1 .nil pass0 (pa_cons (pv 0) (pa_cons pe_int pa_nil))) pe_int (nomark _)) (pa_cons (pv 1) pa_nil)))))))))), ?_⟩
    refine ⟨2, rfl, by decide, by decide, fun D hD => ?_⟩
    have Dp := pen.ne1 hD
    refine lcGen walk_range (fun i H' acc => Ink c p (n + i) H H' ∧ ∃ cs : List Nat, acc = cs.map sg ∧ cs.all isL = true) (by rw [sizeLine_eq]; decide) ⟨(Ink.start pen).new hD, [], rfl, rfl⟩ (fun _ _ _ _ _ => trivial) (fun _ _ _ _ y => y.1) ?_ ?_
    · rintro i x H' acc Q' hi hDl hl ⟨ink, cs, rfl, sub⟩ y q
      have hi3 : i < 2 := hi
      refine ⟨_, rfl, abc, rfl, len_small (by decide), fun l hl => ⟨c, p, n + i, by omega, ink.2.new hl, .inl ⟨l, _, rfl, ink.2.ne1 hl, upd_same, by decide, by decide, fun v H4 hv pen4 x4 => ?_⟩⟩⟩
      obtain ⟨d, hd, rfl⟩ := List.mem_map.mp hv
      have hD4 : H4 D = some (.lst (cs.map sg)) := x4 _ _ Dp (by rw [upd_ne (ne_of_none hDl hl)]; exact hDl)
      refine q _ H4 hD4 ⟨Ink.putNew (n := n + (i + 1)) ⟨Ext1.trans ink.1 (Ext1.trans (Ext1.new hl) x4), pen4⟩ pen hD, cs ++ [d], by rw [List.map_append]; rfl, ?_⟩
      rw [List.all_append, sub]
      simp [isL, hd]
    · rintro H1 acc hDl hl ⟨ink, cs, rfl, sub⟩
      have hn2 : cs.length = 2 := by rw [List.length_map] at hl; exact hl
      refine ⟨_, rfl, _, rfl, _, rfl, by show 5 ≤ sizeLine; decide, fun q hq => ?_⟩
      have i1 := ink.new (o := .lst [.int 1, .int 1, .int 2, .int 3, .int 4]) hq
      have hD1 : upd H1 q (.lst [.int 1, .int 1, .int 2, .int 3, .int 4]) D = some (.lst (cs.map sg)) := by rw [upd_ne (ne_of_none hDl hq)]; exact hDl
      refine ⟨c, p, n + 2, by omega, i1.2, .inl ⟨q, _, rfl, ink.2.ne1 hq, upd_same, by show 0 < 5; decide, by show 5 ≤ 1000; decide, fun v H2 hv pen2 x2 => ?_⟩⟩
      obtain ⟨m, rfl, m1, m4⟩ : ∃ m : Nat, v = .int (m : Int) ∧ 1 ≤ m ∧ m ≤ 4 := by
        simp only [List.mem_cons, List.not_mem_nil, or_false] at hv
        rcases hv with rfl | rfl | rfl | rfl | rfl
        · exact ⟨1, rfl, by decide, by decide⟩
        · exact ⟨1, rfl, by decide, by decide⟩
        · exact ⟨2, rfl, by decide, by decide⟩
        · exact ⟨3, rfl, by decide, by decide⟩
        · exact ⟨4, rfl, by decide, by decide⟩
      have i2 : Ink c p (n + 3) H H2 := ⟨Ext1.trans i1.1 x2, pen2⟩
      have hD2 := x2 _ _ Dp hD1
      refine ⟨c, p, D, n + 3, m, cs, rfl, by omega, by omega, pen2, Dp, hD2, by omega, by omega, sub, fun z1 H3 a1 l1 j3 => ?_⟩
      have i3 := Ink.trans i2 j3
      have hD3 := j3.1 _ _ Dp hD2
      refine ⟨_, rfl, _, rfl, by show 1 ≤ sizeLine; decide, fun l hl => ?_⟩
      have j4 := i3.new (o := .lst [.str "k"]) hl
      refine ⟨D, l, _, _, rfl, rfl, by rw [upd_ne (ne_of_none hD3 hl)]; exact hD3, upd_same, by rw [List.length_map, hn2]; show 2 + 1 ≤ sizeLine; decide, fun q2 hq2 => ?_⟩
      rw [show cs.map sg ++ [V.str "k"] = (cs ++ [107]).map sg from by rw [List.map_append]; rfl]
      have j5 := j4.new (o := .lst ((cs ++ [107]).map sg)) hq2
      have hD5 : upd (upd H3 l (.lst [.str "k"])) q2 (.lst ((cs ++ [107]).map sg)) D = some (.lst (cs.map sg)) := by
        have e : (upd H3 l (.lst [.str "k"])) D = some (.lst (cs.map sg)) := by rw [upd_ne (ne_of_none hD3 hl)]; exact hD3
        rw [upd_ne (ne_of_none e hq2)]; exact e
      have hQ5 : upd (upd H3 l (.lst [.str "k"])) q2 (.lst ((cs ++ [107]).map sg)) q2 = some (.lst ((cs ++ [107]).map sg)) := upd_same
      have q2p : q2 ≠ p := j4.2.ne1 hq2
      generalize upd (upd H3 l (.lst [.str "k"])) q2 (.lst ((cs ++ [107]).map sg)) = H5 at j5 hD5 hQ5 ⊢
      refine ⟨_, rfl, by show 6 ≤ sizeLine; decide, fun q3 hq3 => ?_⟩
      have j6 := j5.new (o := .lst [.int 0, .int 0, .int 1, .int 2, .int 3, .int 4]) hq3
      refine ⟨c, p, n + 11, by omega, j6.2, .inl ⟨q3, _, rfl, j5.2.ne1 hq3, upd_same, by show 0 < 6; decide, by show 6 ≤ 1000; decide, fun v H6 hv pen6 x6 => ?_⟩⟩
      obtain ⟨m', rfl, m5⟩ : ∃ m : Nat, v = .int (m : Int) ∧ m ≤ 4 := by
        simp only [List.mem_cons, List.not_mem_nil, or_false] at hv
        rcases hv with rfl | rfl | rfl | rfl | rfl | rfl
        · exact ⟨0, rfl, by decide⟩
        · exact ⟨0, rfl, by decide⟩
        · exact ⟨1, rfl, by decide⟩
        · exact ⟨2, rfl, by decide⟩
        · exact ⟨3, rfl, by decide⟩
        · exact ⟨4, rfl, by decide⟩
      have i6 : Ink c p (n + 12) H H6 := ⟨Ext1.trans j6.1 x6, pen6⟩
      have hQ6 : H6 q2 = some (.lst ((cs ++ [107]).map sg)) := x6 _ _ q2p (by rw [upd_ne (ne_of_none hQ5 hq3)]; exact hQ5)
      have hD6 : H6 D = some (.lst (cs.map sg)) := x6 _ _ Dp (by rw [upd_ne (ne_of_none hD5 hq3)]; exact hD5)
      refine ⟨c, p, q2, n + 12, m', cs ++ [107], rfl, by omega, by omega, pen6, q2p, hQ6, by simp, by simp; omega, by rw [List.all_append, sub]; decide +kernel, fun z2 H7 a2 l2 j7 => ?_⟩
      have i7 := Ink.trans i6 j7
      have hD7 := j7.1 _ _ Dp hD6
      refine ⟨_, rfl, _, rfl, _, rfl, c, p, 3, n + 20, rfl, by decide, by decide, by omega, i7.2, fun r5 H8 _ _ pen8 x8 => ?_⟩
      refine ⟨rfl, _, rfl, c, p, 3, n + 21, rfl, by decide, by decide, by omega, pen8, fun r6 H9 _ _ pen9 x9 => ?_⟩
      have i9 : Ink c p (n + 22) H H9 := ⟨Ext1.trans i7.1 (Ext1.trans x8 x9), pen9⟩
      have hD9 : H9 D = some (.lst (cs.map sg)) := x9 _ _ Dp (x8 _ _ Dp hD7)
      refine ⟨rfl, _, rfl, by show 5 ≤ sizeLine; decide, fun a ha => ?_⟩
      exact k a D _ z1 z2 _ _ cs (i9.freeOf ha) hD ⟨upd_same, by rw [upd_ne (ne_of_none hD9 ha)]; exact hD9, lets_of a1 (by omega) (by omega), lets_of a2 (by omega) (by omega), by omega, by omega, sub⟩ ((i9.new ha).mono (by omega))
theorem cut_sum (z : Str) {e : Nat} (le : e ≤ z.length) : (cutS z none (some (e : Int))).length = e ∧ (cutS z (some (e : Int)) none).length = z.length - e := by
  have hz : z.cps.toList.length = z.length := by simp [Str.length]
  have n0 : ∀ d, HT.sIx z.length d none = d := fun _ => rfl
  constructor
  · show (((z.cps.toList.drop (HT.sIx z.length 0 none)).take (HT.sIx z.length z.length (some (e : Int)) - HT.sIx z.length 0 none)).toArray).size = _
    rw [List.size_toArray, List.length_take, List.length_drop, n0, sIx_nn]
    omega
  · show (((z.cps.toList.drop (HT.sIx z.length 0 (some (e : Int)))).take (HT.sIx z.length z.length none - HT.sIx z.length 0 (some (e : Int)))).toArray).size = _
    rw [List.size_toArray, List.length_take, List.length_drop, n0, sIx_nn]
    omega
abbrev nRow : List Str := ["_law_pen_here", "_law_old", "_law_letters", "_law_there", "_law_turn", "_law_at"]
theorem scRow : FnScope nRow ["_law_pen_here", "_law_old", "_law_letters"] (defScope sRow) := ⟨rfl, rfl, rfl, by decide +kernel, rfl, by decide +kernel, by decide +kernel⟩
theorem ok_row {f f1 f2 f3 : Addr} {fd fd1 fd2 fd3 : FuncData} (F : L2.Fun K "_law_row" "_law_row" sRow f fd) (T : Txt mg)
    (G1 : FnOk P w K mg base CX0 1 f1 fd1 ["_law_pen_here", "_law_many_here"] spDraw) (m1 : mg "_law_draw" = some (.ref f1)) (k1 : PySem.W.keepIn K (.ref f1) = true) (b1 : L2.Binds K fd1 ["_law_pen_here", "_law_many_here"] [])
    (G2 : FnOk P w K mg base CX0 2 f2 fd2 ["_law_pen_here", "_law_things"] spPick) (m2 : mg "_law_pick" = some (.ref f2)) (k2 : PySem.W.keepIn K (.ref f2) = true) (b2 : L2.Binds K fd2 ["_law_pen_here", "_law_things"] [])
    (G3 : FnOk P w K mg base CX0 3 f3 fd3 ["_law_pen_here", "_law_signs", "_law_many_here"] spText) (m3 : mg "_law_text" = some (.ref f3)) (k3 : PySem.W.keepIn K (.ref f3) = true) (b3 : L2.Binds K fd3 ["_law_pen_here", "_law_signs", "_law_many_here"] []) :
    FnOk P w K mg base CX0 4 f fd ["_law_pen_here", "_law_old", "_law_letters"] spRow := by
  refine F.ok scRow (fun vs H Q E h => ?_) (fun cdv A outer s H vs Q E hr h => ?_)
  · obtain ⟨c, p, t, n, o, cs, rfl, _⟩ := h
    rfl
  · obtain ⟨c, p, t, n, o, cs, rfl, nb, pen, o4, tp, ht, c0, c8, al, k⟩ := h
    have nd := scRow.nd
    have hr1 := hr.mono (show 1 ≤ 3 by decide)
    have hr2 := hr.mono (show 2 ≤ 3 by decide)
    refine ⟨_, pss_cons (ps_set (i := 3) nd rfl (.inl rfl) (pe_call G3 hr (by rfl) m3 k3 b3 .nil pass0 (pa_cons (pv 0) (pa_cons (pv 2) (pa_cons (pe_call G1 hr1 (by rfl) m1 k1 b1 .nil pass0 (pa_cons (pv 0) (pa_cons pe_int pa_nil))) pa_nil)))))
      (pss_cons (ps_for PassesOwn.never rfl (pi_range1 (by rfl) T.range (pa_cons (pe_call G1 hr1 (by rfl) m1 k1 b1 .nil pass0 (pa_cons (pv 0) (pa_cons pe_int pa_nil))) pa_nil)) (pg_name (i := 4) nd rfl (Or.inl rfl))
        (pss_cons (ps_set (i := 5) nd rfl (.inl rfl) (pe_call G2 hr2 (by rfl) m2 k2 b2 .nil pass0 (pa_cons (pv 0) (pa_cons (pe_lst (pa_cons pe_int (pa_cons (bLen (by rfl) T.len (pv 3)) (pa_cons (pe_call G1 hr1 (by rfl) m1 k1 b1 .nil pass0 (pa_cons (pv 0) (pa_cons (pe_op op_add (bLen (by rfl) T.len (pv 3)) pe_int) pa_nil))) pa_nil)))) pa_nil))))
        (pss_one (ps_set (i := 3) nd rfl (.inl rfl) (pe_op op_add_str (pe_op op_add_str (pe_slice sl_str (pv 3) po_none (po_some (pv 5))) (pv 1)) (pe_slice sl_str (pv 3) (po_some (pv 5)) po_none))))))
      (pss_one (ps_ret (pe_call G2 hr2 (by rfl) m2 k2 b2 .nil pass0 (pa_cons (pv 0) (pa_cons (pe_lst (pa_cons (pv 3) (pa_cons (pv 3) (pa_cons (pv 3) (pa_cons (pv 1) (pa_cons pe_str pa_nil)))))) pa_nil)))))), ?_⟩
    refine ⟨_, rfl, _, rfl, _, rfl, c, p, 7, n, rfl, by decide, by decide, by omega, pen, fun r H1 r0 r7 pen1 x1 => ?_⟩
    have i1 : Ink c p (n + 1) H H1 := ⟨x1, pen1⟩
    refine ⟨c, p, t, n + 1, r.toNat, cs, by rw [show (r.toNat : Int) = r from by omega]; rfl, by omega, by omega, pen1, tp, x1 _ _ tp ht, c0, by omega, al, fun z0 H2 a0 l0 j2 => ?_⟩
    have i2 := Ink.trans i1 j2
    refine ⟨_, rfl, c, p, 3, n + 9, rfl, by decide, by decide, by omega, i2.2, fun r' H3 q0 q3 pen3 x3 => ?_⟩
    have i3 : Ink c p (n + 10) H H3 := ⟨Ext1.trans i2.1 x3, pen3⟩
    refine ⟨r', rfl, by omega, by omega, for_it walk_range (fun i σ' H' => ∃ (y4 y5 : Option V) (z : Str), σ' = [some (.ref p), some (.str o), some (.ref t), some (.str z), y4, y5] ∧ z.length ≤ 6 + 4 * i ∧ Ink c p (n + 10 + 2 * i) H H')
      ⟨none, none, z0, rfl, by omega, i3⟩ (fun _ _ _ _ _ => trivial) ?_ ?_⟩
    · rintro i xx σ' H' H'' hi ⟨y4, y5, z, rfl, zl, ink⟩ yy
      obtain ⟨e6, ex⟩ := yy
      subst e6
      subst ex
      have hi2 : i < 2 := by omega
      refine ⟨_, rfl, _, rfl, _, z.length, rfl, ⟨len_small (by omega), rfl⟩, _, rfl, _, rfl, _, z.length, rfl, ⟨len_small (by omega), rfl⟩, _, _, rfl, rfl, c, p, _, n + 10 + 2 * i, rfl, by omega, by omega, by omega, ink.2, fun d H4 d0 d1 pen4 x4 => ?_⟩
      refine ⟨by show 3 ≤ sizeLine; decide, fun q hq => ?_⟩
      have i4 : Ink c p (n + 10 + 2 * i + 1) H H4 := ⟨Ext1.trans ink.1 x4, pen4⟩
      have i5 := i4.new (o := .lst [.int 0, .int (z.length : Int), .int d]) hq
      refine ⟨c, p, n + 10 + 2 * i + 1, by omega, i5.2, .inl ⟨q, _, rfl, i4.2.ne1 hq, upd_same, by show 0 < 3; decide, by show 3 ≤ 1000; decide, fun v H5 hv pen5 x5 => ?_⟩⟩
      obtain ⟨e, rfl, el⟩ : ∃ e : Nat, v = .int (e : Int) ∧ e ≤ z.length := by
        simp only [List.mem_cons, List.not_mem_nil, or_false] at hv
        rcases hv with rfl | rfl | rfl
        · exact ⟨0, rfl, Nat.zero_le _⟩
        · exact ⟨z.length, rfl, Nat.le_refl _⟩
        · exact ⟨d.toNat, by rw [show ((d.toNat : Nat) : Int) = d from by omega], by omega⟩
      obtain ⟨c1, c2⟩ := cut_sum z el
      refine ⟨_, rfl, _, rfl, _, rfl, z, rfl, len_small (by omega), _, rfl, _, _, rfl, rfl, by rw [sizeLine_eq]; omega, _, rfl, _, rfl, _, rfl, z, rfl, len_small (by omega), _, _, rfl, rfl, by rw [app_len', sizeLine_eq]; omega, ?_⟩
      exact ⟨_, _, _, rfl, by rw [app_len', app_len']; omega, ⟨Ext1.trans i5.1 x5, pen5.mono (by omega)⟩⟩
    · rintro σ' H' ⟨y4, y5, z, rfl, zl, ink⟩
      refine ⟨_, rfl, _, rfl, _, rfl, _, rfl, _, rfl, by show 5 ≤ sizeLine; decide, fun q hq => ?_⟩
      have i5 := ink.new (o := .lst [.str z, .str z, .str z, .str o, .str ""]) hq
      have r2 : r'.toNat ≤ 2 := by omega
      refine ⟨c, p, n + 14, by omega, i5.2.mono (by omega), .inl ⟨q, _, rfl, ink.2.ne1 hq, upd_same, by show 0 < 5; decide, by show 5 ≤ 1000; decide, fun v H6 hv pen6 x6 => ?_⟩⟩
      obtain ⟨z', rfl, l'⟩ : ∃ z' : Str, v = .str z' ∧ z'.length ≤ 14 := by
        simp only [List.mem_cons, List.not_mem_nil, or_false] at hv
        rcases hv with rfl | rfl | rfl | rfl | rfl
        · exact ⟨z, rfl, by omega⟩
        · exact ⟨z, rfl, by omega⟩
        · exact ⟨z, rfl, by omega⟩
        · exact ⟨o, rfl, by omega⟩
        · exact ⟨_, rfl, by decide⟩
      exact k z' H6 l' ⟨Ext1.trans i5.1 x6, pen6.mono (by omega)⟩
end
end Kx
set_option Elab.async false
set_option maxRecDepth 100000
set_option autoImplicit false
/-! _law_fits -/
namespace Kx
open PySem L2 PySem.Spec PyProof.Rows Rg Er Ru SX
abbrev sFitsL : Stmt := top 20
def mis (o z : Str) (i k : Nat) : Bool := !decide (z.cps.toList[i + k]? = o.cps.toList[k]?)
theorem mis_none (o z : Str) (i : Nat) (le : i + o.length ≤ z.length) : ((List.range o.length).filter (mis o z i)).isEmpty = atB o z i := by
  refine Bool.eq_iff_iff.mpr ?_
  rw [List.isEmpty_iff, atB_iff, at_iff, List.filter_eq_nil_iff]
  constructor
  · intro h
    refine ⟨le, fun k hk => ?_⟩
    have := h k (List.mem_range.mpr hk)
    simpa [mis] using this
  · intro h k hk
    have := h.2 k (List.mem_range.mp hk)
    simp [mis, this]
def spFitsL : Sp := fun vs H Q _ => ∃ (a : Addr) (o n : Str) (l r : Bool) (y : V) (z : Str) (i : Int), vs = [.ref a, .str z, .int i] ∧ H a = some (.lst [.str o, .str n, .bl l, .bl r, y]) ∧ 1 ≤ o.length ∧ o.length ≤ 4 ∧ z.length ≤ 1000 ∧ ∀ H', Same H H' → Q (.bl (fitB o l r z i)) H'
theorem bIxS {X : Cx} {a b : Expr} {ta tb : TE} {pos : Pos} (ha : PE X a ta) (hb : PE X b tb) (hs : PlainIx b := by intro _ _; rfl) : PE X (.Subscript a b pos) (tOp rIxS ta tb) := pe_ix ix_str ha hb hs
section
variable {P : Program} {w : World} {K : PySem.W.Frag} {mg : Str → Option Value} {base : Heap}
abbrev nFitsL : List Str := ["_law_parts", "_law_there", "_law_spot", "_law_end", "_law_k"]
theorem scFitsL : FnScope nFitsL ["_law_parts", "_law_there", "_law_spot"] (defScope sFitsL) := ⟨rfl, rfl, rfl, by decide +kernel, rfl, by decide +kernel, by decide +kernel⟩
theorem ok_fitsL {f : Addr} {fd : FuncData} (F : L2.Fun K "_law_fits" "_law_fits" sFitsL f fd) (T : Txt mg) : FnOk P w K mg base CX0 1 f fd ["_law_parts", "_law_there", "_law_spot"] spFitsL := by
  refine F.ok scFitsL (fun vs H Q E h => ?_) (fun cdv A outer s H vs Q E hr h => ?_)
  · obtain ⟨a, o, n, l, r, y, z, i, rfl, _⟩ := h
    rfl
  · obtain ⟨a, o, n, l, r, y, z, i, rfl, ha, o1, o4, z1, k⟩ := h
    have nd := scFitsL.nd
    refine ⟨_, pss_cons (ps_set (i := 3) nd rfl (.inl rfl) (pe_op op_add (pv 2) (bLen (by rfl) T.len (bIx (pv 0) pe_int))))
      (pss_cons (ps_if (PW.pt (pw_or (pt_cmpR op_lt (pv 2) pe_int (nomark _)) (pw_or1 (pt_cmpR op_gt (pv 3) (bLen (by rfl) T.len (pv 1)) (nomark _))))) (pss_one (ps_ret pe_bl)) pss_nil)
      (pss_cons (ps_if (pt_cmpR (op_neD hr.units) (pe_lc (own := [("_law_k", 4)]) (g := gName 4) (te := tVar 4) (tt := tTest (tOp rNe (tOp rIxS (tVar 1) (tOp (rI0 fun i j => .int (i + j)) (tVar 2) (tVar 4))) (tOp rIxS (tOp (rIxL K) (tVar 0) (tC (.int 0))) (tVar 4)))) rfl nd (pi_range1 (by rfl) T.range (pa_cons (bLen (by rfl) T.len (bIx (pv 0) pe_int)) pa_nil)) (blkOk_by (N := nFitsL) (sc := defScope sFitsL) (by decide +kernel))
          (fun _ _ _ _ _ => pg_name (i := 4) nd rfl (Or.inl rfl)) (fun _ _ _ _ _ => pts_one (pt_cmpR op_ne (bIxS (pv 1) (pe_op op_add (pv 2) (pv 4))) (bIxS (bIx (pv 0) pe_int) (pv 4)) (nomark _))) (fun _ _ _ _ _ => pv 4)) (pe_lst pa_nil) (nomark _)) (pss_one (ps_ret pe_bl)) pss_nil)
      (pss_one (ps_ret (pe_and (pe_or (pe_cmpR op_eq (pv 2) pe_int (nomark _)) (pe_one (pe_not (bIx (pv 0) pe_int)))) (pe_one (pe_or (pe_cmpR op_eq (pv 3) (bLen (by rfl) T.len (pv 1)) (nomark _)) (pe_one (pe_not (bIx (pv 0) pe_int)))))))))), ?_⟩
    refine ⟨_, rfl, _, rfl, a, _, 0, _, rfl, rfl, SqL.of ha, rfl, _, o.length, rfl, ⟨len_small (by omega), rfl⟩, i, _, rfl, rfl, ?_⟩
    by_cases h0 : i < 0
    · have k' : Q (.bl false) H := by
        have k := k H (Same.refl H)
        unfold fitB at k
        rw [decide_eq_false (by omega)] at k
        simpa using k
      refine ⟨_, rfl, i, 0, rfl, rfl, _, rfl, ?_⟩
      rw [decide_eq_true h0]
      exact iteT (iteT k')
    · obtain ⟨j, rfl⟩ : ∃ j : Nat, i = (j : Int) := ⟨i.toNat, by omega⟩
      refine ⟨_, rfl, (j : Int), 0, rfl, rfl, _, rfl, ?_⟩
      rw [decide_eq_false h0]
      refine iteF ⟨_, rfl, _, rfl, _, z.length, rfl, ⟨len_small (by omega), rfl⟩, _, _, rfl, rfl, _, rfl, ?_⟩
      by_cases hz : z.length < j + o.length
      · have k' : Q (.bl false) H := by
          have k := k H (Same.refl H)
          rw [fit_no (fun q => by have := q.1; omega)] at k
          exact k
        rw [decide_eq_true (show ((z.length : Int) < (j : Int) + (o.length : Int)) by omega)]
        exact iteT k'
      · rw [decide_eq_false (show ¬ ((z.length : Int) < (j : Int) + (o.length : Int)) by omega)]
        refine iteF ?_
        have le : j + o.length ≤ z.length := by omega
        have zl : z.cps.toList.length = z.length := by simp [Str.length]
        have ol : o.cps.toList.length = o.length := by simp [Str.length]
        refine ⟨_, rfl, a, _, 0, _, rfl, rfl, SqL.of ha, rfl, _, o.length, rfl, ⟨len_small (by omega), rfl⟩, (o.length : Int), rfl, by omega, by omega, fun D hD => ?_⟩
        have aD : a ≠ D := ne_of_none ha hD
        refine lcSel walk_range (fun i' H' acc => Same H H' ∧ acc = ((List.range i').filter (mis o z j)).map fun (k : Nat) => V.int (0 + (k : Int))) (by rw [sizeLine_eq]; omega) ⟨Same.new hD, rfl⟩ (fun _ _ _ _ _ => trivial) (fun _ _ _ _ y => y.1) ?_ ?_
        · rintro i' x H' acc Q' Qf hi hDl hl ⟨s1, rfl⟩ yy q qf
          obtain ⟨_, ex⟩ := yy
          subst ex
          have hi2 : i' < o.length := by simpa using hi
          obtain ⟨c1, hc1⟩ : ∃ c1, z.cps.toList[j + i']? = some c1 := ⟨_, List.getElem?_eq_getElem (by omega)⟩
          obtain ⟨c2, hc2⟩ : ∃ c2, o.cps.toList[i']? = some c2 := ⟨_, List.getElem?_eq_getElem (by omega)⟩
          have ea : H' a = some (.lst [.str o, .str n, .bl l, .bl r, y]) := s1 _ _ ha
          refine ⟨_, rfl, _, rfl, _, rfl, _, _, rfl, rfl, z, _, c1, rfl, rfl, len_small (by omega), atI_int (by omega) (by rw [show ((j : Int) + (0 + (i' : Int))).toNat = j + i' from by omega]; exact hc1), ?_⟩
          refine ⟨_, rfl, a, _, 0, _, rfl, rfl, SqL.of ea, rfl, _, rfl, o, _, c2, rfl, rfl, len_small (by omega), atI_int (by omega) (by rw [show (0 + (i' : Int)).toNat = i' from by omega]; exact hc2), rfl, _, rfl, ?_⟩
          have em : mis o z j i' = !decide (V.str ⟨#[c1]⟩ = V.str ⟨#[c2]⟩) := by
            unfold mis
            rw [hc1, hc2]
            congr 1
            refine decide_eq_decide.mpr ⟨fun q => by cases q; rfl, fun q => ?_⟩
            cases q
            rfl
          rw [← em]
          cases e : mis o z j i' with
          | true =>
            refine iteT ⟨_, rfl, q _ _ hDl ⟨Same.putNew hD s1, ?_⟩⟩
            rw [filt_succ, if_pos e, List.map_append]
            rfl
          | false =>
            refine iteF (qf _ hDl ⟨s1, ?_⟩)
            rw [filt_succ, if_neg (by rw [e]; simp), List.append_nil]
        · rintro H1 acc hDl hl ⟨s1, rfl⟩
          refine ⟨Nat.zero_le _, fun q hq => ?_⟩
          have s2 : Same H1 (upd H1 q (.lst [])) := Same.new hq
          have s3 : Same H (upd H1 q (.lst [])) := Same.trans s1 s2
          have ea := s3 _ _ ha
          have dl := s2 _ _ hDl
          have ef : upd H1 q (.lst []) q = some (.lst []) := upd_same
          generalize upd H1 q (.lst []) = H2 at s3 ea dl ef ⊢
          have tn : ((o.length : Int)).toNat = o.length := by omega
          rw [tn] at dl
          have em : ∀ (L : List Nat), (L.map fun (k : Nat) => V.int (0 + (k : Int))) = (L.map fun (k : Nat) => (0 + (k : Int))).map V.int := fun L => by rw [List.map_map]; rfl
          rw [em] at dl
          refine ⟨_, .list [], .lst (SqL.of dl) (dpInts _ _ _), .lst (SqL.of ef) .nil, shapedInts _, rfl, _, rfl, ?_⟩
          rw [eqv_nil, List.isEmpty_map, mis_none o z j le]
          have kk := k H2 s3
          unfold fitB at kk
          rw [decide_eq_true (show (0 : Int) ≤ (j : Int) by omega), Bool.true_and, show ((j : Int)).toNat = j from by omega] at kk
          cases hat : atB o z j with
          | false =>
            rw [hat] at kk
            exact iteT (show Q (.bl false) H2 by simpa using kk)
          | true =>
            rw [hat, Bool.true_and] at kk
            refine iteF ?_
            refine ⟨_, rfl, rfl, _, rfl, ?_⟩
            rw [dInt]
            cases q0 : decide ((j : Int) = 0) with
            | true =>
              rw [q0] at kk
              refine iteT ⟨true, rfl, iteT ?_⟩
              refine ⟨_, rfl, _, rfl, _, z.length, rfl, ⟨len_small (by omega), rfl⟩, rfl, _, rfl, ?_⟩
              rw [dInt]
              cases q1 : decide ((j : Int) + (o.length : Int) = (z.length : Int)) with
              | true =>
                rw [q1] at kk
                exact iteT (by simpa using kk)
              | false =>
                rw [q1] at kk
                refine iteF ⟨_, rfl, a, _, 3, _, rfl, rfl, SqL.of ea, rfl, r, rfl, ?_⟩
                simpa using kk
            | false =>
              rw [q0] at kk
              refine iteF ⟨_, rfl, a, _, 2, _, rfl, rfl, SqL.of ea, rfl, l, rfl, !l, rfl, ?_⟩
              cases l with
              | false =>
                refine iteT ?_
                refine ⟨_, rfl, _, rfl, _, z.length, rfl, ⟨len_small (by omega), rfl⟩, rfl, _, rfl, ?_⟩
                rw [dInt]
                cases q1 : decide ((j : Int) + (o.length : Int) = (z.length : Int)) with
                | true =>
                  rw [q1] at kk
                  exact iteT (by simpa using kk)
                | false =>
                  rw [q1] at kk
                  refine iteF ⟨_, rfl, a, _, 3, _, rfl, rfl, SqL.of ea, rfl, r, rfl, ?_⟩
                  simpa using kk
              | true => exact iteF (show Q (.bl false) H2 by simpa using kk)
end
end Kx
set_option Elab.async false
set_option maxRecDepth 100000
set_option autoImplicit false
/-! _law_led, _law_many -/
namespace Kx
open PySem L2 PySem.Spec PyProof.Rows Rg Er Ru SX
structure HearP (K : PySem.W.Frag) (mg : Str → Option Value) (x : Str) (C : Addr) : Prop where
  g : mg x = some (.ref C)
  xf : XfC K C
  em : PySem.W.exmOne K (.ref C) (.ref C) = some true
abbrev sLed : Stmt := top 21
abbrev sMany : Stmt := top 22
def spLedL (C : Addr) : Sp := fun vs H Q _ => ∃ (a : Addr) (o n : Str) (l r : Bool) (z : Str) (i : Int), vs = [.ref a, .str z, .int i] ∧ Rl C H a o n l r ∧ 1 ≤ o.length ∧ o.length ≤ 4 ∧ n.length ≤ 4 ∧ z.length ≤ 1000 ∧
  (fitB o l r z i = true → ∀ H', Same H H' → Q (.str (ledS o n z i)) H') ∧ (fitB o l r z i = false → ∀ q H', Same H H' → H' q = some (.lst [.str "place"]) → Q (.ref q) H')
def spManyL (C : Addr) : Sp := fun vs H Q _ => ∃ (a : Addr) (o n : Str) (l r t : Bool) (k : Nat), vs = [.ref a, .int (k : Int), .bl t] ∧ Rl C H a o n l r ∧ lets 1 o = true ∧ lets 0 n = true ∧ 1 ≤ k ∧ k ≤ 99 ∧
  (4 < o.length * k → ∀ H', Same H H' → Q (.str "old") H') ∧ (o.length * k ≤ 4 → 4 < n.length * k → ∀ H', Same H H' → Q (.str "new") H') ∧
  (o.length * k ≤ 4 → n.length * k ≤ 4 → ∀ q H', Same H H' → H' q = some (.lst [.str (rept o k), .str (rept n k), .bl l, .bl r]) → Q (.ref q) H')
section
variable {P : Program} {w : World} {K : PySem.W.Frag} {mg : Str → Option Value} {base : Heap}
abbrev nLed : List Str := ["_law_rule", "_law_there", "_law_spot", "_law_found", "_law_part", "error"]
theorem scLed : FnScope nLed ["_law_rule", "_law_there", "_law_spot"] (defScope sLed) := ⟨rfl, rfl, rfl, by decide +kernel, rfl, by decide +kernel, by decide +kernel⟩
theorem ok_led {C CM f g : Addr} {fd gd : FuncData} (F : L2.Fun K "_law_led" "_law_led" sLed f fd) (Hp_ : HearP K mg "BadMove" CM) (no : PySem.W.findIn K (.ref CM) "part" = some none)
    (co : StX.CallO K C g) (G : FnOk P w K mg base (L2.CX P w) 3 g gd nFits (spCall C CM)) (b : L2.Binds K gd nFits []) : FnOk P w K mg base CX0 4 f fd ["_law_rule", "_law_there", "_law_spot"] (spLedL C) := by
  refine F.ok scLed (fun vs H Q E h => ?_) (fun cdv A outer s H vs Q E hr h => ?_)
  · obtain ⟨a, o, n, l, r, z, i, rfl, _⟩ := h
    rfl
  · obtain ⟨a, o, n, l, r, z, i, rfl, rl, o1, o4, n4, z1, yes, no_⟩ := h
    have nd := scLed.nd
    refine ⟨_, pss_cons (ps_asg (pe_tup (pa_cons pe_non (pa_cons pe_non pa_nil))) (pg_tup rfl (pgs_cons (pg_name (i := 3) nd rfl (Or.inl rfl)) (pgs_cons (pg_name (i := 4) nd rfl (Or.inl rfl)) pgs_nil))))
      (pss_cons (ps_try_val (i := 5) (j := 4) (c := .ref CM) (Wout := fun _ _ _ _ => False) (te := fun a cls d => tLst (tCons (tXf a cls d CM "part" (tVar 5)) tNil))
        (tb := fun W => tAsg (tCallOS C (spCall C CM) (WE W) (tVar 0) (tCons (tVar 1) (tCons (tVar 2) tNil))) (gName 3))
        rfl rfl rfl nd rfl rfl rfl rfl ⟨rfl, by decide, .inl Hp_.g⟩ L2.takes0 rfl (fun a oe cls d pn hz hf => pe_lst (pa_cons (pe_xf Hp_.xf no hz hf (pv 5)) pa_nil))
        (fun W pn xe tk _ => pss_one (ps_set (i := 3) nd rfl (.inl rfl) (pe_callOS (pv 0) co G hr b (fun σ => passAt tk σ) (pa_cons (pv 1) (pa_cons (pv 2) pa_nil))))))
      (pss_one (ps_ret (pe_ifExp (pt_cmp (pc_isN (pv 4))) (pv 3) (pv 4))))), ?_⟩
    refine ⟨by show 2 ≤ sizeLine; decide, fun t ht => ?_⟩
    have s1 : Same H (upd H t (.tup [.non, .non])) := Same.new ht
    refine ⟨t, _, rfl, SqT.of upd_same, rfl, _, _, rfl, _, _, rfl, rfl, ?_⟩
    generalize upd H t (.tup [.non, .non]) = H1 at s1 ⊢
    have rl1 := rl.same s1
    have ea := rl1
    obtain ⟨dx, ea⟩ := ea
    refine ⟨_, rfl, a, rfl, _, rfl, _, rfl, ⟨dx, _, ea⟩, a, o, n, l, r, z, i, rfl, rl1, o1, o4, n4, z1, fun e => ?_, fun e => ?_⟩
    · exact ⟨_, rfl, true, rfl, iteT ⟨_, rfl, yes e H1 s1⟩⟩
    · intro dd hdd
      refine ⟨true, Hp_.em, fun _ hlen a' na => ?_, fun z => nomatch z⟩
      refine ⟨_, rfl, rfl, rfl, dd, _, .str "place", rfl, upd_same, rfl, by show 1 ≤ sizeLine; decide, fun q hq => ?_⟩
      exact ⟨_, rfl, false, rfl, iteF ⟨_, rfl, no_ e q _ (Same.trans s1 (Same.trans (Same.new hdd) (Same.new hq))) upd_same⟩⟩
abbrev nMany : List Str := ["_law_rule", "_law_many_here", "_law_is_turned", "_law_found", "_law_part", "error"]
theorem scMany : FnScope nMany ["_law_rule", "_law_many_here", "_law_is_turned"] (defScope sMany) := ⟨rfl, rfl, rfl, by decide +kernel, rfl, by decide +kernel, by decide +kernel⟩
theorem ok_many {C CR f g h : Addr} {fd gd hd : FuncData} (F : L2.Fun K "_law_many" "_law_many" sMany f fd) (M : RT K mg C) (Hp_ : HearP K mg "BadRule" CR) (no : PySem.W.findIn K (.ref CR) "part" = some none) (c : MulC K C g h)
    (G : FnOk P w K mg base (L2.CX P w) 5 g gd ["self", "other"] (spMul C CR)) (b : L2.Binds K gd ["self", "other"] []) (G2 : FnOk P w K mg base (L2.CX P w) 6 h hd ["self", "other"] (spMul C CR)) (b2 : L2.Binds K hd ["self", "other"] []) :
    FnOk P w K mg base CX0 7 f fd ["_law_rule", "_law_many_here", "_law_is_turned"] (spManyL C) := by
  refine F.ok scMany (fun vs H Q E h => ?_) (fun cdv A outer s H vs Q E hr hh => ?_)
  · obtain ⟨a, o, n, l, r, t, k, rfl, _⟩ := h
    rfl
  · obtain ⟨a, o, n, l, r, t, k, rfl, rl, lo, ln, k1, k99, bo, bn, ok⟩ := hh
    have nd := scMany.nd
    refine ⟨_, pss_cons (ps_asg (pe_tup (pa_cons pe_non (pa_cons pe_non pa_nil))) (pg_tup rfl (pgs_cons (pg_name (i := 3) nd rfl (Or.inl rfl)) (pgs_cons (pg_name (i := 4) nd rfl (Or.inl rfl)) pgs_nil))))
      (pss_cons (ps_try_val (i := 5) (j := 4) (c := .ref CR) (Wout := fun _ _ _ _ => False) (te := fun a cls d => tXf a cls d CR "part" (tVar 5))
        (tb := fun W => tAsg (tIf (tB (tVar 2)) (tOpS (rRMulOwn C (spMul C CR) (WE W)) (tVar 1) (tVar 0)) (tOpS (rMulOwn C (spMul C CR) (WE W)) (tVar 0) (tVar 1))) (gName 3))
        rfl rfl rfl nd rfl rfl rfl rfl ⟨rfl, by decide, .inl Hp_.g⟩ L2.takes0 rfl (fun a oe cls d pn hz hf => pe_xf Hp_.xf no hz hf (pv 5))
        (fun W pn xe tk _ => pss_one (ps_set (i := 3) nd rfl (.inl rfl) (pe_ifExp (pt_val (pv 2)) (pe_opS (op_rmulOwn c G2 hr b2 fun σ => passAt tk σ) (pv 1) (pv 0)) (pe_opS (op_mulOwn c G (hr.mono (by decide)) b fun σ => passAt tk σ) (pv 0) (pv 1))))))
      (pss_one (ps_ret (pe_ifExp (pt_cmp (pc_isN (pv 3))) (pv 4) (pe_lst (pa_cons (pe_fld (pv 3) rfl) (pa_cons (pe_fld (pv 3) rfl) (pa_cons (pe_fld (pv 3) rfl) (pa_cons (pe_fld (pv 3) rfl) pa_nil))))))))), ?_⟩
    refine ⟨by show 2 ≤ sizeLine; decide, fun t' ht => ?_⟩
    have s1 : Same H (upd H t' (.tup [.non, .non])) := Same.new ht
    refine ⟨t', _, rfl, SqT.of upd_same, rfl, _, _, rfl, _, _, rfl, rfl, ?_⟩
    generalize upd H t' (.tup [.non, .non]) = H1 at s1 ⊢
    have rl1 := rl.same s1
    have ea := rl1
    obtain ⟨dx, ea⟩ := ea
    refine ⟨_, rfl, t, rfl, ?_⟩
    cases t with
    | true =>
      refine iteT ⟨_, rfl, _, rfl, a, dx, _, (k : Int), rfl, rfl, ea, a, o, n, l, r, k, rfl, rl1, lo, ln, k1, k99, fun e dd hdd => ?_, fun e1 e2 H2 s2 dd hdd => ?_, fun e1 e2 q H2 s2 r2 => ⟨⟨q, rfl⟩, ?_⟩⟩
      · refine ⟨true, Hp_.em, fun _ hlen a' na => ?_, fun z => nomatch z⟩
        exact ⟨_, rfl, rfl, rfl, dd, _, _, rfl, upd_same, rfl, _, rfl, true, rfl, iteT ⟨_, rfl, bo e _ (Same.trans s1 (Same.new hdd))⟩⟩
      · refine ⟨true, Hp_.em, fun _ hlen a' na => ?_, fun z => nomatch z⟩
        exact ⟨_, rfl, rfl, rfl, dd, _, _, rfl, upd_same, rfl, _, rfl, true, rfl, iteT ⟨_, rfl, bn e1 e2 _ (Same.trans s1 (Same.trans s2 (Same.new hdd)))⟩⟩
      · obtain ⟨dq, hq⟩ := r2
        obtain ⟨d1, d2, d3, d4⟩ := rf_lookups (.str (rept o k)) (.str (rept n k)) (.bl l) (.bl r)
        refine ⟨_, rfl, false, rfl, iteF ⟨_, rfl, q, C, dq, _, _, rfl, hq, M.cl, M.n1, d1, _, rfl, q, C, dq, _, _, rfl, hq, M.cl, M.n2, d2, _, rfl, q, C, dq, _, _, rfl, hq, M.cl, M.n3, d3, _, rfl, q, C, dq, _, _, rfl, hq, M.cl, M.n4, d4, by show 4 ≤ sizeLine; decide, fun R hR => ?_⟩⟩
        exact ok e1 e2 R _ (Same.trans s1 (Same.trans s2 (Same.new hR))) upd_same
    | false =>
      refine iteF ⟨_, rfl, _, rfl, a, dx, _, (k : Int), rfl, rfl, ea, a, o, n, l, r, k, rfl, rl1, lo, ln, k1, k99, fun e dd hdd => ?_, fun e1 e2 H2 s2 dd hdd => ?_, fun e1 e2 q H2 s2 r2 => ⟨⟨q, rfl⟩, ?_⟩⟩
      · refine ⟨true, Hp_.em, fun _ hlen a' na => ?_, fun z => nomatch z⟩
        exact ⟨_, rfl, rfl, rfl, dd, _, _, rfl, upd_same, rfl, _, rfl, true, rfl, iteT ⟨_, rfl, bo e _ (Same.trans s1 (Same.new hdd))⟩⟩
      · refine ⟨true, Hp_.em, fun _ hlen a' na => ?_, fun z => nomatch z⟩
        exact ⟨_, rfl, rfl, rfl, dd, _, _, rfl, upd_same, rfl, _, rfl, true, rfl, iteT ⟨_, rfl, bn e1 e2 _ (Same.trans s1 (Same.trans s2 (Same.new hdd)))⟩⟩
      · obtain ⟨dq, hq⟩ := r2
        obtain ⟨d1, d2, d3, d4⟩ := rf_lookups (.str (rept o k)) (.str (rept n k)) (.bl l) (.bl r)
        refine ⟨_, rfl, false, rfl, iteF ⟨_, rfl, q, C, dq, _, _, rfl, hq, M.cl, M.n1, d1, _, rfl, q, C, dq, _, _, rfl, hq, M.cl, M.n2, d2, _, rfl, q, C, dq, _, _, rfl, hq, M.cl, M.n3, d3, _, rfl, q, C, dq, _, _, rfl, hq, M.cl, M.n4, d4, by show 4 ≤ sizeLine; decide, fun R hR => ?_⟩⟩
        exact ok e1 e2 R _ (Same.trans s1 (Same.trans s2 (Same.new hR))) upd_same
end
end Kx
set_option Elab.async false
set_option maxRecDepth 100000
set_option autoImplicit false
/-! the law -/
namespace Kx
open PySem L2 PySem.Spec PyProof.Rows Rg Er Ru SX
abbrev sLaw : Stmt := top 23
theorem okIff (z : Str) : PyData.strOk z = true ↔ ∀ c ∈ z.cps.toList, c < 0x110000 := by
  unfold PyData.strOk
  rw [← Array.all_toList, List.all_eq_true]
  exact ⟨fun h c hc => of_decide_eq_true (h c hc), fun h c hc => decide_eq_true (h c hc)⟩
theorem abc_small : abc.cps.toList.all (fun c => decide (c < 123) && decide (96 < c)) = true := by decide +kernel
theorem isL_lt {c : Nat} (h : isL c = true) : c < 123 ∧ 96 < c := by
  unfold isL at h
  have := List.all_eq_true.mp abc_small c (of_decide_eq_true h)
  simpa using this
theorem all_lt {L : List Nat} (h : L.all isL = true) : ∀ c ∈ L, c < 123 ∧ 96 < c := fun c hc => isL_lt (List.all_eq_true.mp h c hc)
theorem lets_ok {lo : Nat} {z : Str} (h : lets lo z = true) : lo ≤ z.length ∧ z.length ≤ 4 ∧ z.cps.toList.all isL = true ∧ PyData.strOk z = true := by
  unfold lets at h
  simp only [Bool.and_eq_true, decide_eq_true_eq] at h
  exact ⟨h.1.1, h.1.2, h.2, (okIff z).mpr fun c hc => by have := all_lt h.2 c hc; omega⟩
def D4 (o n : Str) (l r : Bool) : PyData := .list [.str o, .str n, .bool l, .bool r]
theorem dp4 {K : PySem.W.Frag} {H : Hp} {a : Addr} {o n : Str} {l r : Bool} (h : H a = some (.lst [.str o, .str n, .bl l, .bl r])) : Dp K H (.ref a) (D4 o n l r) := .lst (SqL.of h) (.cons (.str _) (.cons (.str _) (.cons (.bl _) (.cons (.bl _) .nil))))
theorem rp4 {K : PySem.W.Frag} {H : Hp} {a : Addr} {o n : Str} {l r : Bool} (h : H a = some (.lst [.str o, .str n, .bl l, .bl r])) : Rp K H (.ref a) (D4 o n l r) := .lst (SqL.of h) (.cons (.str _) (.cons (.str _) (.cons (.bl _) (.cons (.bl _) .nil))))
theorem shaped4 {o n : Str} {l r : Bool} (ho : PyData.strOk o = true) (hn : PyData.strOk n = true) : SeqAt.shaped (D4 o n l r) = true := by
  unfold D4 SeqAt.shaped
  simp [PyData.canLay0, PyData.canLayAll0, PyData.depth, PyData.depthAll, ho, hn]
theorem beqStr (x y : Str) : (x == y) = decide (x = y) := by
  by_cases q : x = y
  · subst q; simp
  · rw [decide_eq_false q]; simpa using q
theorem eqv4 {o n o' n' : Str} {l r l' r' : Bool} : PyData.eqv (D4 o n l r) (D4 o' n' l' r') = (decide (o = o') && decide (n = n') && decide (l = l') && decide (r = r')) := by
  unfold D4
  have hb : ∀ a b : Bool, (a == b) = decide (a = b) := fun a b => by cases a <;> cases b <;> rfl
  simp only [PyData.eqv, PyData.eqvAll, beqStr, hb, Bool.and_true, Bool.and_assoc]
theorem tameStr {z : Str} (h : z.length ≤ 4) (o : PyData.strOk z = true) : Tame (.str z) 0 4 := by
  refine ⟨by simp only [PyData.showable], by simp only [PyData.hasDict], by simp only [PyData.depth]; exact Nat.zero_le _, ?_, by simp only [PyData.weight]; exact h⟩
  simp only [PyData.leavesShort, List.all_eq_true, decide_eq_true_eq]
  intro c hc
  have := (okIff z).mp o c hc
  omega
theorem tame4 {o n : Str} {l r : Bool} (h1 : o.length ≤ 4) (h2 : n.length ≤ 4) (o1 : PyData.strOk o = true) (o2 : PyData.strOk n = true) : Tame (D4 o n l r) 1 100 :=
  .list (.cons (w1 := 4) (w2 := 50) (tameStr h1 o1) (.cons (w1 := 4) (w2 := 20) (tameStr h2 o2) (.cons (w1 := 0) (w2 := 5) (.bool l) (.cons (w1 := 0) (w2 := 0) (.bool r) .nil (by decide)) (by decide)) (by decide)) (by decide))
theorem bRepr1 {X : Cx} {e : Expr} {te : TE} {q pos : Pos} (hg : X.A.guards = some []) (hr : Room 0 X.A) (gl : Gl X "repr") (m : X.mg "repr" = none) (he : PE X e te) (na : starEach [e] X.env = (false, eval e X.env) :: starEach [] X.env := by rfl) :
    PE X (.Call (.Name "repr" q) [e] [] pos) (tCB (rRepr X.K) (tCons te tNil)) :=
  pe_callB (cr_repr hg hr) gl m (by decide +kernel) (pa_cons he pa_nil na) (he := na)
theorem Rl.ink {C c p a : Addr} {n m : Nat} {H H' : Hp} {o nw : Str} {l r : Bool} (h : Rl C H a o nw l r) (pen : PenAt c m H p) (i : Ink c p n H H') : Rl C H' a o nw l r := by
  obtain ⟨dx, e⟩ := h
  refine ⟨dx, i.1 _ _ ?_ e⟩
  rintro rfl
  obtain ⟨ns, x, g, h1, _⟩ := pen
  rw [h1] at e; cases e
def spLaw (K : PySem.W.Frag) : Sp := fun vs H Q _ => ∃ (a : Addr) (ns : List Int), vs = [.ref a] ∧ SqL K H a (ns.map V.int) ∧ ns.length ≤ 63 ∧ ∀ H', Q (.bl true) H'
theorem eqv4_self {o n : Str} {l r : Bool} : PyData.eqv (D4 o n l r) (D4 o n l r) = true := by rw [eqv4]; simp
theorem op_or {X : Cx} {f : Value → Value → Sem Value} {r1 r2 : R2} (h1 : OpR X f r1) (h2 : OpR X f r2) : OpR X f (fun x y H Q => r1 x y H Q ∨ r2 x y H Q) := fun pins s σ H x y v u Q I rx ry h => h.elim (fun q => h1 pins s σ H x y v u Q I rx ry q) fun q => h2 pins s σ H x y v u Q I rx ry q
theorem passesFS {X : Cx} : ∀ σ : L2.St, PassesAt (L2.CX X.prog X.w) X σ ((fun (_ : L2.St) => (fun _ _ _ => False : XK)) σ) := fun σ pins H s e s' I h => passesF pins σ H s e s' I h
theorem noStop0 {K : PySem.W.Frag} : NoStop K (fun _ _ _ => False) := fun _ _ _ h => h.elim
theorem eqvInts : ∀ ns : List Int, PyData.eqv (.list (ns.map PyData.int)) (.list (ns.map PyData.int)) = true
  | [] => rfl
  | n :: r => by
    have := eqvInts r
    simp only [List.map_cons, PyData.eqv, PyData.eqvAll] at this ⊢
    simpa using this
theorem in_due (o z : Str) (l r : Bool) (i : Int) : inV (.int i) (((fitsN o l r z).map fun (j : Nat) => (j : Int)).map V.int) = fitB o l r z i := by
  refine Bool.eq_iff_iff.mpr ?_
  unfold inV
  rw [List.any_eq_true]
  constructor
  · rintro ⟨v, hv, e⟩
    obtain ⟨x, hx, rfl⟩ := List.mem_map.mp hv
    obtain ⟨j, hj, rfl⟩ := List.mem_map.mp hx
    have q : fitB o l r z (j : Int) = true := (List.mem_filter.mp hj).2
    have ej : (j : Int) = i := by simpa [eqV] using e
    rw [← ej]; exact q
  · intro h
    obtain ⟨h0, h1⟩ := fit_bounds h
    refine ⟨V.int i, List.mem_map.mpr ⟨i, List.mem_map.mpr ⟨i.toNat, List.mem_filter.mpr ⟨List.mem_range.mpr (by omega), by rw [show ((i.toNat : Nat) : Int) = i from by omega]; exact h⟩, by omega⟩, rfl⟩, ?_⟩
    simp [eqV]
/-- what stands through a turn -/
structure Inn (C A t q b c p : Addr) (o nw : Str) (l r : Bool) (cs : List Nat) (n : Nat) (H : Hp) : Prop where
  pen : PenAt c n H p
  pa : Parts H A t o nw l r cs
  rq : Rl C H q o nw l r
  rb : Rl C H b (revS o) (revS nw) r l
  Ap : A ≠ p
  tp : t ≠ p
theorem Inn.ink {C A t q b c p : Addr} {o nw : Str} {l r : Bool} {cs : List Nat} {n m : Nat} {H H' : Hp} (h : Inn C A t q b c p o nw l r cs n H) (i : Ink c p m H H') : Inn C A t q b c p o nw l r cs m H' :=
  ⟨i.2, ⟨i.1 _ _ h.Ap h.pa.1, i.1 _ _ h.tp h.pa.2.1, h.pa.2.2⟩, h.rq.ink h.pen i, h.rb.ink h.pen i, h.Ap, h.tp⟩
theorem Inn.same {C A t q b c p : Addr} {o nw : Str} {l r : Bool} {cs : List Nat} {n : Nat} {H H' : Hp} (h : Inn C A t q b c p o nw l r cs n H) (s : Same H H') : Inn C A t q b c p o nw l r cs n H' := h.ink ((Ink.start h.pen).same s)
theorem spots_eq (n : Nat) : ((List.range (n + 5)).map fun (k : Nat) => -2 + (k : Int)) = spots n := List.map_congr_left fun k _ => by omega
theorem neBl (x : Bool) : (!decide (V.bl x = V.bl x)) = false := neSame _
def dueL (o z : Str) (l r : Bool) : List V := ((fitsN o l r z).map fun (j : Nat) => (j : Int)).map V.int
theorem flatInts (ns : List Int) : (ns.map V.int).all flatV = true := by
  rw [List.all_map, List.all_eq_true]
  intro x _
  rfl
theorem cut_take (z : Str) {e : Nat} (le : e ≤ z.length) : (cutS z none (some (e : Int))).cps.toList = z.cps.toList.take e := by
  have hz : z.cps.toList.length = z.length := by simp [Str.length]
  show (((z.cps.toList.drop (HT.sIx z.length 0 none)).take (HT.sIx z.length z.length (some (e : Int)) - HT.sIx z.length 0 none)).toArray).toList = _
  rw [sIx_nn, show HT.sIx z.length 0 none = 0 from rfl, List.toList_toArray, List.drop_zero, show min e z.length - 0 = e from by omega]
theorem cut_drop (z : Str) {e : Nat} (le : e ≤ z.length) : (cutS z (some (e : Int)) none).cps.toList = z.cps.toList.drop e := by
  have hz : z.cps.toList.length = z.length := by simp [Str.length]
  show (((z.cps.toList.drop (HT.sIx z.length 0 (some (e : Int)))).take (HT.sIx z.length z.length none - HT.sIx z.length 0 (some (e : Int)))).toArray).toList = _
  rw [sIx_nn, show HT.sIx z.length z.length none = z.length from rfl, List.toList_toArray, show min e z.length = e from by omega, List.take_of_length_le (by rw [List.length_drop]; omega)]
theorem led_list (o n z : Str) {i : Nat} (le : i + o.length ≤ z.length) : (ledS o n z (i : Int)).cps.toList = z.cps.toList.take i ++ n.cps.toList ++ z.cps.toList.drop (i + o.length) := by
  have e : ∀ x y : Str, (x ++ y).cps.toList = x.cps.toList ++ y.cps.toList := fun x y => by
    show (x.cps ++ y.cps).toList = _
    simp
  unfold ledS
  rw [e, e, cut_take z (by omega), show ((i : Int) + (o.length : Int)) = ((i + o.length : Nat) : Int) from by omega, cut_drop z le]
theorem led_rev {o n z : Str} {l r : Bool} {i : Int} (h : fitB o l r z i = true) : ledS (revS o) (revS n) (revS z) ((z.length : Int) - i - (o.length : Int)) = revS (ledS o n z i) := by
  obtain ⟨h0, h1⟩ := fit_bounds h
  have hz : z.cps.toList.length = z.length := by simp [Str.length]
  obtain ⟨j, rfl⟩ : ∃ j : Nat, i = (j : Int) := ⟨i.toNat, by omega⟩
  rw [show ((j : Int)).toNat = j from by omega] at h1
  apply Str.ext'
  apply Array.toList_inj.mp
  rw [show ((z.length : Int) - (j : Int) - (o.length : Int)) = ((z.length - j - o.length : Nat) : Int) from by omega, led_list _ _ _ (by rw [revS_len, revS_len]; omega), revS_len]
  show _ = (ledS o n z (j : Int)).cps.toList.reverse.toArray.toList
  rw [List.toList_toArray, led_list _ _ _ h1]
  simp only [revS, List.toList_toArray, List.reverse_append]
  rw [List.take_reverse, List.drop_reverse, hz, show z.length - (z.length - j - o.length) = j + o.length from by omega, show z.length - (z.length - j - o.length + o.length) = j from by omega, List.append_assoc]
section
variable {P : Program} {w : World} {K : PySem.W.Frag} {mg : Str → Option Value} {base : Heap}
abbrev nLaw : List Str := ["_law_script", "_law_pen_here", "_law_turn", "_law_parts", "_law_old", "_law_new", "_law_begins", "_law_ends", "_law_letters", "_law_rule", "_law_turned", "_law_k", "_law_there", "_law_due", "_law_spot", "_law_led_here", "_law_back", "_law_many_here"]
theorem scLaw : FnScope nLaw ["_law_script"] (defScope sLaw) := ⟨rfl, rfl, rfl, by decide +kernel, rfl, by decide +kernel, by decide +kernel⟩
theorem ok_law {C CR CM f fi f1 f4 f5 f7 f8 f9 gF gP gC gN : Addr} {fd fdi d1 d4 d5 d7 d8 d9 dF dP dC dN : FuncData} (F : L2.Fun K "law" "law" sLaw f fd) (T : Txt mg) (M : RT K mg C)
    (mk_ : Mk K C fi) (GI : FnOk P w K mg base (L2.CX P w) 3 fi fdi nInit (spRInit K C CR)) (kb : KBn K fdi nInit 3 ["left", "right"] gKw gKwV)
    (G1 : FnOk P w K mg base CX0 1 f1 d1 ["_law_script"] (spPen K)) (m1 : mg "_law_pen" = some (.ref f1)) (k1 : PySem.W.keepIn K (.ref f1) = true) (b1 : L2.Binds K d1 ["_law_script"] [])
    (GD : FnOk P w K mg base CX0 4 f4 d4 ["_law_pen_here"] spDrawn) (m4 : mg "_law_drawn" = some (.ref f4)) (k4 : PySem.W.keepIn K (.ref f4) = true) (b4 : L2.Binds K d4 ["_law_pen_here"] [])
    (GR : FnOk P w K mg base CX0 4 f5 d5 ["_law_pen_here", "_law_old", "_law_letters"] spRow) (m5 : mg "_law_row" = some (.ref f5)) (k5 : PySem.W.keepIn K (.ref f5) = true) (b5 : L2.Binds K d5 ["_law_pen_here", "_law_old", "_law_letters"] [])
    (GS : FnOk P w K mg base CX0 1 f7 d7 ["_law_parts", "_law_there", "_law_spot"] spFitsL) (m7 : mg "_law_fits" = some (.ref f7)) (k7 : PySem.W.keepIn K (.ref f7) = true) (b7 : L2.Binds K d7 ["_law_parts", "_law_there", "_law_spot"] [])
    (GL : FnOk P w K mg base CX0 4 f8 d8 ["_law_rule", "_law_there", "_law_spot"] (spLedL C)) (m8 : mg "_law_led" = some (.ref f8)) (k8 : PySem.W.keepIn K (.ref f8) = true) (b8 : L2.Binds K d8 ["_law_rule", "_law_there", "_law_spot"] [])
    (GM : FnOk P w K mg base CX0 7 f9 d9 ["_law_rule", "_law_many_here", "_law_is_turned"] (spManyL C)) (m9 : mg "_law_many" = some (.ref f9)) (k9 : PySem.W.keepIn K (.ref f9) = true) (b9 : L2.Binds K d9 ["_law_rule", "_law_many_here", "_law_is_turned"] [])
    (mf : Meth K C "fits" gF) (GF : FnOk P w K mg base CX0 1 gF dF nFits (spFits C)) (bF : L2.Binds K dF nFits []) (kbF : KBn K dF nFits 1 ["row", "place"] gKw gKwV)
    (mp : Meth K C "places" gP) (GP : GFn P w K mg base 3 gP dP ["self", "row"] (spPlaces C)) (bP : L2.Binds K dP ["self", "row"] [])
    (co : StX.CallO K C gC) (GC : FnOk P w K mg base (L2.CX P w) 3 gC dC nFits (spCall C CM)) (bC : L2.Binds K dC nFits [])
    (GN : FnOk P w K mg base CX0 5 gN dN ["self"] (spNeg C)) (bN : L2.Binds K dN ["self"] []) (aN : PySem.W.findIn K (.ref C) "__neg__" = some (some (.ref gN))) (nN : PySem.W.isFn K (.ref gN) = true) :
    FnG P w K mg base CX0 8 f fd ["_law_script"] (spLaw K) := by
  refine funG F scLaw (fun vs H Q E h => ?_) (fun cdv A outer s H vs Q E hg hr h => ?_)
  · obtain ⟨a, ns, rfl, _⟩ := h
    rfl
  · obtain ⟨a, ns, rfl, hs, hl, k⟩ := h
    have nd := scLaw.nd
    have hg' : (A.deeper (envOfC "law" (defScope sLaw) s.heap.objs.size f cdv)).guards = some [] := hg
    have hr0 := hr.mono (show 0 ≤ 7 by decide)
    have hr1 := hr.mono (show 1 ≤ 7 by decide)
    have hr2 := hr.mono (show 2 ≤ 7 by decide)
    have hr3 := hr.mono (show 3 ≤ 7 by decide)
    have hr4 := hr.mono (show 4 ≤ 7 by decide)
    have hr5 := hr.mono (show 5 ≤ 7 by decide)
    refine ⟨_, pss_cons (ps_set (i := 1) nd rfl (.inl rfl) (pe_call G1 hr1 (by rfl) m1 k1 b1 .nil pass0 (pa_cons (pv 0) pa_nil)))
        (pss_cons (ps_for PassesOwn.never rfl (pi_range1 (by rfl) T.range (pa_cons pe_int pa_nil)) (pg_name (i := 2) nd rfl (Or.inl rfl)) (pss_cons (ps_set (i := 3) nd rfl (.inr rfl) (pe_call GD hr4 (by rfl) m4 k4 b4 .nil pass0 (pa_cons (pv 1) pa_nil)))
        (pss_cons (ps_asg (pv 3) (pg_unl rfl (pgs_cons (pg_name (i := 4) nd rfl (Or.inl rfl)) (pgs_cons (pg_name (i := 5) nd rfl (Or.inl rfl)) (pgs_cons (pg_name (i := 6) nd rfl (Or.inl rfl)) (pgs_cons (pg_name (i := 7) nd rfl (Or.inl rfl)) (pgs_cons (pg_name (i := 8) nd rfl (Or.inl rfl)) pgs_nil)))))))
        (pss_cons (ps_set (i := 9) nd rfl (.inl rfl) (pe_makeK mk_ GI hr4 (by rfl) M.mgC kb passesF (pa_cons (pv 4) (pa_cons (pv 5) pa_nil)) (pk_cons (pv 6) (pk_cons (pv 7) pk_nil))))
        (pss_cons (ps_set (i := 10) nd rfl (.inl rfl) (pe_un (un_negOwn GN hr5 bN pass0 aN nN) (pv 9)))
        (pss_cons (ps_if (pt_cmpR op_ne (bRepr1 hg' hr0 (by rfl) T.repr (pe_lst (pa_cons (pe_fld (pv 10) rfl) (pa_cons (pe_fld (pv 10) rfl) (pa_cons (pe_fld (pv 10) rfl) (pa_cons (pe_fld (pv 10) rfl) pa_nil)))))) (bRepr1 hg' hr0 (by rfl) T.repr (pe_lst (pa_cons (pe_revS (pv 4)) (pa_cons (pe_revS (pv 5)) (pa_cons (pv 7) (pa_cons (pv 6) pa_nil)))))) (nomark _)) (pss_one (ps_ret (pe_bl))) pss_nil)
        (pss_cons (ps_for PassesOwn.never rfl (pi_range1 (by rfl) T.range (pa_cons pe_int pa_nil)) (pg_name (i := 11) nd rfl (Or.inl rfl)) (pss_cons (ps_set (i := 12) nd rfl (.inr rfl) (pe_call GR hr4 (by rfl) m5 k5 b5 .nil pass0 (pa_cons (pv 1) (pa_cons (pv 4) (pa_cons (pv 8) pa_nil)))))
        (pss_cons (ps_setLc (i := 13) (own := [("_law_spot", 14)]) (g := gName 14) (te := tVar 14) (tt := tB (tCall spFitsL [] E0 (tCons (tVar 3) (tCons (tVar 12) (tCons (tVar 14) tNil))))) rfl nd rfl rfl rfl (pi_range2 (by rfl) T.range (pa_cons (pe_un un_neg pe_int) (pa_cons (pe_op op_add (bLen (by rfl) T.len (pv 12)) pe_int) pa_nil))) (blkOk_by (N := nLaw) (sc := defScope sLaw) (by decide +kernel)) (fun _ _ _ _ _ => pg_name (i := 14) nd rfl (Or.inl rfl)) (fun _ _ _ _ _ => pts_one (pt_val (pe_call GS hr1 (by rfl) m7 k7 b7 .nil pass0 (pa_cons (pv 3) (pa_cons (pv 12) (pa_cons (pv 14) pa_nil)))))) (fun _ _ _ _ _ => pv 14))
        (pss_cons (ps_if (pt_cmpR (op_neD hr.units) (pe_listG (pgen_meth (pv 9) M.cl mp GP hr3 bP .nil (pa_cons (pv 12) pa_nil)) passesF noStop0 (hr.mono (show 6 ≤ 7 by decide)) (by rfl) T.list (by decide +kernel)) (pv 13) (nomark _)) (pss_one (ps_ret (pe_bl))) pss_nil)
        (pss_one (ps_for PassesOwn.never rfl (pi_range2 (by rfl) T.range (pa_cons (pe_un un_neg pe_int) (pa_cons (pe_op op_add (bLen (by rfl) T.len (pv 12)) pe_int) pa_nil))) (pg_name (i := 14) nd rfl (Or.inl rfl)) (pss_cons (ps_set (i := 15) nd rfl (.inl rfl) (pe_ifExp (pt_cmpR op_in_seq (pv 14) (pv 13) rfl) (pe_op op_add_str (pe_op op_add_str (pe_slice sl_str (pv 12) po_none (po_some (pv 14))) (pv 5)) (pe_slice sl_str (pv 12) (po_some (pe_op op_add (pv 14) (bLen (by rfl) T.len (pv 4)))) po_none)) (pe_lst (pa_cons (pe_str) pa_nil))))
        (pss_cons (ps_if (PW.pt (pw_or (pt_cmpR op_ne (pe_methK (pv 9) M.cl mf GF hr1 kbF pass0 (pk_cons (pv 12) (pk_cons (pv 14) pk_nil))) (pe_cmpR op_in_seq (pv 14) (pv 13) rfl) (nomark _)) (pw_or1 (pt_cmpR (op_or op_ne (op_neD hr.units)) (pe_call GL hr4 (by rfl) m8 k8 b8 .nil pass0 (pa_cons (pv 9) (pa_cons (pv 12) (pa_cons (pv 14) pa_nil)))) (pv 15) (nomark _))))) (pss_one (ps_ret (pe_bl))) pss_nil)
        (pss_cons (ps_set (i := 16) nd rfl (.inl rfl) (pe_op op_sub (pe_op op_sub (bLen (by rfl) T.len (pv 12)) (pv 14)) (bLen (by rfl) T.len (pv 4))))
        (pss_cons (ps_if (pt_cmpR op_ne (pe_meth (pv 10) M.cl mf GF hr1 bF .nil pass0 (pa_cons (pe_revS (pv 12)) (pa_cons (pv 16) pa_nil))) (pe_cmpR op_in_seq (pv 14) (pv 13) rfl) (nomark _)) (pss_one (ps_ret (pe_bl))) pss_nil)
        (pss_one (ps_if (PW.pt (pw_and (pt_cmpR op_in_seq (pv 14) (pv 13) rfl) (pw_and1 (pt_cmpR op_ne (pe_callOS (pv 10) co GC hr3 bC passesFS (pa_cons (pe_revS (pv 12)) (pa_cons (pv 16) pa_nil))) (pe_revS (pv 15)) (nomark _))))) (pss_one (ps_ret (pe_bl))) pss_nil))))))))))))
        (pss_cons (ps_for PassesOwn.never rfl (pi_list (pe_lst (pa_cons (pe_int) (pa_cons (pe_int) (pa_cons (pe_int) (pa_cons (pe_int) (pa_cons (pe_int) (pa_cons (pe_int) pa_nil)))))))) (pg_name (i := 17) nd rfl (Or.inl rfl)) (pss_cons (ps_set (i := 13) nd rfl (.inl rfl) (pe_lst (pa_cons (pe_op op_mulT (pv 4) (pv 17)) (pa_cons (pe_op op_mulT (pv 5) (pv 17)) (pa_cons (pv 6) (pa_cons (pv 7) pa_nil))))))
        (C8.pss_cut (ps_if (pt_cmpR op_gt (pe_op op_mul (bLen (by rfl) T.len (pv 5)) (pv 17)) (pe_int) (nomark _)) (pss_one (ps_set (i := 13) nd rfl (.inl rfl) (pe_str))) pss_nil)
        (C8.pss_cut (ps_if (pt_cmpR op_gt (pe_op op_mul (bLen (by rfl) T.len (pv 4)) (pv 17)) (pe_int) (nomark _)) (pss_one (ps_set (i := 13) nd rfl (.inl rfl) (pe_str))) pss_nil)
        (pss_one (ps_if (PW.pt (pw_or (pt_cmpR (op_or op_ne (op_neD hr.units)) (pe_call GM hr (by rfl) m9 k9 b9 .nil pass0 (pa_cons (pv 9) (pa_cons (pv 17) (pa_cons (pe_bl) pa_nil)))) (pv 13) (nomark _)) (pw_or1 (pt_cmpR (op_or op_ne (op_neD hr.units)) (pe_call GM hr (by rfl) m9 k9 b9 .nil pass0 (pa_cons (pv 9) (pa_cons (pv 17) (pa_cons (pe_bl) pa_nil)))) (pv 13) (nomark _))))) (pss_one (ps_ret (pe_bl))) pss_nil))))))
        (pss_one (ps_if (pt_cmpR op_ne (bRepr1 hg' hr0 (by rfl) T.repr (pe_lst (pa_cons (pe_fld (pv 9) rfl) (pa_cons (pe_fld (pv 9) rfl) (pa_cons (pe_fld (pv 9) rfl) (pa_cons (pe_fld (pv 9) rfl) pa_nil)))))) (bRepr1 hg' hr0 (by rfl) T.repr (pe_slice sl_list (pv 3) po_none (po_some pe_int))) (nomark _)) (pss_one (ps_ret (pe_bl))) pss_nil))))))))))
        (pss_one (ps_ret pe_bl))), ?_⟩
    refine ⟨_, rfl, a, ns, rfl, hs, hl, fun c p H1 s1 pen => ?_⟩
    refine ⟨5, rfl, by decide, by decide, for_it walk_range (fun i σ' H' => ∃ y2 y3 y4 y5 y6 y7 y8 y9 y10 y11 y12 y13 y14 y15 y16 y17, σ' = [some (.ref a), some (.ref p), y2, y3, y4, y5, y6, y7, y8, y9, y10, y11, y12, y13, y14, y15, y16, y17] ∧ PenAt c (200 * i) H' p)
      ⟨none, none, none, none, none, none, none, none, none, none, none, none, none, none, none, none, rfl, pen⟩ (fun _ _ _ _ _ => trivial) ?_ ?_⟩
    · rintro i xx σ' H' H'' hi ⟨y2, y3, y4, y5, y6, y7, y8, y9, y10, y11, y12, y13, y14, y15, y16, y17, rfl, pen⟩ yy
      obtain ⟨e6, ex⟩ := yy
      subst e6
      subst ex
      have hi5 : i < 5 := hi
      refine ⟨_, rfl, c, p, 200 * i, rfl, by omega, pen, fun A t H1 o nw l r cs hA ht pa iA => ?_⟩
      obtain ⟨o1, o4, o5, ook⟩ := lets_ok pa.2.2.1
      obtain ⟨n1, n4, n5, nok⟩ := lets_ok pa.2.2.2.1
      have Ap : A ≠ p := pen.ne1 hA
      have tp : t ≠ p := pen.ne1 ht
      refine ⟨_, rfl, A, _, rfl, SqL.of pa.1, rfl, _, _, rfl, _, _, rfl, _, _, rfl, _, _, rfl, _, _, rfl, rfl, ?_⟩
      refine ⟨_, rfl, _, rfl, _, rfl, _, rfl, rfl, rfl, fun q dx hq hdx ne => ?_⟩
      refine ⟨q, dx, _, _, _, _, true, true, true, true, rfl, upd_same, .inl ⟨_, rfl, by omega, pa.2.2.1.symm⟩, .inl ⟨_, rfl, by omega, pa.2.2.2.1.symm⟩, ⟨_, .base (.bl l), kit_ty (by decide +kernel)⟩, ⟨_, .base (.bl r), kit_ty (by decide +kernel)⟩, fun H3 x3 hq3 => ⟨rfl, ?_⟩⟩
      have s23 : Same H1 H3 := same_ext1 hq (made_same hq hdx) x3
      have i3 := iA.same s23
      have pa3 : Parts H3 A t o nw l r cs := ⟨s23 _ _ pa.1, s23 _ _ pa.2.1, pa.2.2⟩
      refine ⟨_, rfl, q, dx, _, rfl, hq3, q, o, nw, l, r, rfl, ⟨dx, hq3⟩, pa.2.2.1, pa.2.2.2.1, fun b H4 s4 rb => ?_⟩
      have inn : Inn C A t q b c p o nw l r cs (200 * i + 40) H4 := ⟨(i3.same s4).2, ⟨s4 _ _ pa3.1, s4 _ _ pa3.2.1, pa3.2.2⟩, ⟨dx, s4 _ _ hq3⟩, rb, Ap, tp⟩
      have ink4 := i3.same s4
      clear pa3 i3 s23 x3 hq3 hq hdx iA pa s4 rb
      obtain ⟨db, hb⟩ := inn.rb
      obtain ⟨g1, g2, g3, g4⟩ := rf_lookups (.str (revS o)) (.str (revS nw)) (.bl r) (.bl l)
      refine ⟨_, rfl, b, C, db, _, _, rfl, hb, M.cl, M.n1, g1, _, rfl, b, C, db, _, _, rfl, hb, M.cl, M.n2, g2, _, rfl, b, C, db, _, _, rfl, hb, M.cl, M.n3, g3, _, rfl, b, C, db, _, _, rfl, hb, M.cl, M.n4, g4, by show 4 ≤ sizeLine; decide, fun L1 hL1 => ?_⟩
      have s5 : Same H4 (upd H4 L1 (.lst [.str (revS o), .str (revS nw), .bl r, .bl l])) := Same.new hL1
      have e5 : upd H4 L1 (.lst [.str (revS o), .str (revS nw), .bl r, .bl l]) L1 = some (.lst [.str (revS o), .str (revS nw), .bl r, .bl l]) := upd_same
      dsimp only [tNil]
      generalize upd H4 L1 (.lst [.str (revS o), .str (revS nw), .bl r, .bl l]) = H5 at s5 e5 ⊢
      have rook := (lets_ok (lets_rev inn.pa.2.2.1)).2.2.2
      have rnok := (lets_ok (lets_rev inn.pa.2.2.2.1)).2.2.2
      refine rRepr_of (rp4 e5) (tame4 (l := r) (r := l) (by rw [revS_len]; exact o4) (by rw [revS_len]; exact n4) rook rnok) (by decide) (by decide) ?_
      refine ⟨_, rfl, o, rfl, len_small (by omega), _, rfl, nw, rfl, len_small (by omega), _, rfl, _, rfl, by show 4 ≤ sizeLine; decide, fun L2 hL2 => ?_⟩
      have s6 : Same H5 (upd H5 L2 (.lst [.str (revS o), .str (revS nw), .bl r, .bl l])) := Same.new hL2
      have e6 : upd H5 L2 (.lst [.str (revS o), .str (revS nw), .bl r, .bl l]) L2 = some (.lst [.str (revS o), .str (revS nw), .bl r, .bl l]) := upd_same
      dsimp only [tNil]
      generalize upd H5 L2 (.lst [.str (revS o), .str (revS nw), .bl r, .bl l]) = H6 at s6 e6 ⊢
      refine rRepr_of (rp4 e6) (tame4 (l := r) (r := l) (by rw [revS_len]; exact o4) (by rw [revS_len]; exact n4) rook rnok) (by decide) (by decide) ?_
      refine ⟨rfl, _, rfl, ?_⟩
      rw [neSame]
      refine iteF ?_
      have inn6 := inn.same (Same.trans s5 s6)
      clear inn hb e5 e6 s5 s6 ink4
      refine ⟨3, rfl, by decide, by decide, for_it walk_range (fun j σ' H' => ∃ x2 y11 y12 y13 y14 y15 y16 y17, σ' = [some (.ref a), some (.ref p), x2, some (.ref A), some (.str o), some (.str nw), some (.bl l), some (.bl r), some (.ref t), some (.ref q), some (.ref b), y11, y12, y13, y14, y15, y16, y17] ∧ Inn C A t q b c p o nw l r cs (200 * i + 40 + 40 * j) H')
        ⟨_, _, _, _, _, _, _, _, rfl, inn6⟩ (fun _ _ _ _ _ => trivial) ?_ ?_⟩
      · rintro j xx σ' H' H'' hj ⟨x2, y11, y12, y13, y14, y15, y16, y17, rfl, inn⟩ yy
        obtain ⟨e7, ex⟩ := yy
        subst e7
        subst ex
        have hj3 : j < 3 := hj
        refine ⟨_, rfl, _, rfl, _, rfl, c, p, t, _, o, cs, rfl, by omega, inn.pen, by omega, tp, inn.pa.2.1, inn.pa.2.2.2.2.1, inn.pa.2.2.2.2.2.1, inn.pa.2.2.2.2.2.2, fun z H7 zl ink7 => ?_⟩
        have inn7 := inn.ink ink7
        refine ⟨2, rfl, _, rfl, _, z.length, rfl, ⟨len_small (by omega), rfl⟩, _, _, rfl, rfl, -2, _, rfl, ⟨by decide, by decide, by omega, by omega⟩, fun D hD => ?_⟩
        have Dp := inn7.pen.ne1 hD
        have cnt : ((z.length : Int) + 3 - -2).toNat = z.length + 5 := by omega
        rw [cnt]
        refine lcSel walk_range (fun i' H' acc => Same H7 H' ∧ acc = (((List.range i').map fun (k : Nat) => -2 + (k : Int)).filter (fitB o l r z)).map V.int) (by rw [sizeLine_eq]; omega) ⟨Same.new hD, rfl⟩ (fun _ _ _ _ _ => trivial) (fun _ _ _ _ y => y.1) ?_ ?_
        · rintro i' x H8 acc Q' Qf hi' hDl hl' ⟨s8, rfl⟩ yy qq qf
          obtain ⟨_, ex⟩ := yy
          subst ex
          refine ⟨_, rfl, _, rfl, _, rfl, A, o, nw, l, r, .ref t, z, _, rfl, s8 _ _ inn7.pa.1, o1, o4, by omega, fun H9 s9 => ⟨_, rfl, ?_⟩⟩
          cases e : fitB o l r z (-2 + (i' : Int)) with
          | true =>
            refine iteT ⟨_, rfl, qq _ H9 (s9 _ _ hDl) ⟨Same.putNew hD (Same.trans s8 s9), ?_⟩⟩
            rw [List.range_succ, List.map_append, List.filter_append, List.map_append]
            simp [e]
          | false =>
            refine iteF (qf H9 (s9 _ _ hDl) ⟨Same.trans s8 s9, ?_⟩)
            rw [List.range_succ, List.map_append, List.filter_append, List.map_append]
            simp [e]
        · rintro H8 acc hDl hl' ⟨s8, rfl⟩
          rw [spots_eq, due_eq] at hDl
          have inn8 := inn7.same s8
          have hD8 : H8 D = some (.lst (dueL o z l r)) := hDl
          clear hDl hl' s8 inn7 ink7 inn hD
          obtain ⟨dq, hq⟩ := inn8.rq
          refine ⟨_, rfl, q, dq, _, rfl, hq, rf_no rfl rfl rfl rfl, _, rfl, q, o, nw, l, r, z, rfl, ⟨dq, hq⟩, o1, o4, by omega, fun H8' s8' P hP => ?_⟩
          have s9 : Same H8 (upd H8' P (.lst ((fitsN o l r z).map fun (j : Nat) => V.int (j : Int)))) := Same.trans s8' (Same.new hP)
          have e9 : upd H8' P (.lst ((fitsN o l r z).map fun (j : Nat) => V.int (j : Int))) P = some (.lst (dueL o z l r)) := by
            rw [upd_same]
            unfold dueL
            rw [List.map_map]
            rfl
          generalize upd H8' P (.lst ((fitsN o l r z).map fun (j : Nat) => V.int (j : Int))) = H9 at s9 e9 ⊢
          have inn9 := inn8.same s9
          have hD9 := s9 _ _ hD8
          refine ⟨_, rfl, _, _, .lst (SqL.of e9) (dpInts _ _ _), .lst (SqL.of hD9) (dpInts _ _ _), shapedInts _, shapedInts _, _, rfl, ?_⟩
          rw [eqvInts]
          refine iteF ?_
          clear inn8 hD8 s9 e9 hP hq s8'
          refine ⟨2, rfl, _, rfl, _, z.length, rfl, ⟨len_small (by omega), rfl⟩, _, _, rfl, rfl, -2, _, rfl, ⟨by decide, by decide, by omega, by omega⟩, ?_⟩
          rw [cnt]
          refine for_it walk_range (fun m σ' H' => ∃ y11 y14 y15 y16, σ' = [some (.ref a), some (.ref p), x2, some (.ref A), some (.str o), some (.str nw), some (.bl l), some (.bl r), some (.ref t), some (.ref q), some (.ref b), y11, some (.str z), some (.ref D), y14, y15, y16, y17] ∧ Inn C A t q b c p o nw l r cs (200 * i + 40 + 40 * j + 40) H' ∧ H' D = some (.lst (dueL o z l r)))
            ⟨_, _, _, _, rfl, inn9, hD9⟩ (fun _ _ _ _ _ => trivial) ?_ ?_
          · rintro m xx σ' H' H'' hm ⟨y11, y14, y15, y16, rfl, inn, hD⟩ yy
            obtain ⟨e10, ex⟩ := yy
            subst e10
            subst ex
            clear inn9 hD9
            obtain ⟨dq, hq⟩ := inn.rq
            obtain ⟨db, hb⟩ := inn.rb
            have ind : inV (.int (-2 + (m : Int))) (dueL o z l r) = fitB o l r z (-2 + (m : Int)) := in_due o z l r _
            have back := rev_fit o z l r (-2 + (m : Int))
            have l16 : z.length ≤ 1000 := by omega
            have rz : (revS z).length ≤ 1000 := by rw [revS_len]; omega
            have ro1 : 1 ≤ (revS o).length := by rw [revS_len]; omega
            have ro4 : (revS o).length ≤ 4 := by rw [revS_len]; omega
            have rn4 : (revS nw).length ≤ 4 := by rw [revS_len]; omega
            have neq1 : (!decide (V.bl (fitB o l r z (-2 + (m : Int))) = V.bl (inV (.int (-2 + (m : Int))) (dueL o z l r)))) = false := by rw [ind]; exact neSame _
            have neq2 : (!decide (V.bl (fitB (revS o) r l (revS z) ((z.length : Int) - (-2 + (m : Int)) - (o.length : Int))) = V.bl (inV (.int (-2 + (m : Int))) (dueL o z l r)))) = false := by rw [ind, back]; exact neSame _
            cases e : fitB o l r z (-2 + (m : Int)) with
            | true =>
              refine ⟨_, rfl, _, rfl, D, _, rfl, .inl (SqL.of hD), rfl, flatInts _, true, congrArg V.bl (ind.trans e), iteT ?_⟩
              refine ⟨_, rfl, _, rfl, _, rfl, z, rfl, len_small l16, _, rfl, _, _, rfl, rfl, ?_, _, rfl, _, rfl, _, rfl, _, o.length, rfl, ⟨len_small (by omega), rfl⟩, _, _, rfl, rfl, _, rfl, z, rfl, len_small l16, _, _, rfl, rfl, ?_, ?_⟩
              · have := cutS_length z none (some (-2 + (m : Int)))
                rw [sizeLine_eq]; omega
              · have h1 := cutS_length z none (some (-2 + (m : Int)))
                have h2 := cutS_length z (some ((-2 + (m : Int)) + (o.length : Int))) none
                rw [app_len', sizeLine_eq]; omega
              refine ⟨_, rfl, q, dq, _, rfl, hq, rf_no rfl rfl rfl rfl, _, rfl, _, rfl, rfl, q, o, nw, l, r, z, _, rfl, ⟨dq, hq⟩, o1, o4, l16, _, rfl, _, rfl, D, _, rfl, .inl (SqL.of hD), rfl, flatInts _, rfl, false, congrArg V.bl neq1, iteF ?_⟩
              refine ⟨_, rfl, _, rfl, _, rfl, q, o, nw, l, r, z, _, rfl, inn.rq, o1, o4, n4, l16, fun _ H5 s5 => ?_, fun e' => absurd ((show fitB o l r z (-2 + (m : Int)) = false from e').symm.trans e) (by simp)⟩
              have inn5 := inn.same s5
              have hD5 := s5 _ _ hD
              have hb5 := s5 _ _ hb
              refine ⟨_, rfl, .inl ⟨rfl, false, congrArg V.bl (neSame (V.str (ledS o nw z (-2 + (m : Int))))), iteF ?_⟩⟩
              refine ⟨_, rfl, _, z.length, rfl, ⟨len_small l16, rfl⟩, _, rfl, _, _, rfl, rfl, _, rfl, _, o.length, rfl, ⟨len_small (by omega), rfl⟩, _, _, rfl, rfl, ?_⟩
              refine ⟨_, rfl, b, db, _, rfl, hb5, rf_no rfl rfl rfl rfl, _, rfl, z, rfl, len_small l16, _, rfl, b, revS o, revS nw, r, l, revS z, _, rfl, ⟨db, hb5⟩, ro1, ro4, rz, _, rfl, _, rfl, D, _, rfl, .inl (SqL.of hD5), rfl, flatInts _, rfl, false, congrArg V.bl neq2, iteF ?_⟩
              refine ⟨_, rfl, _, rfl, D, _, rfl, .inl (SqL.of hD5), rfl, flatInts _, true, congrArg V.bl (ind.trans e), iteT ?_⟩
              refine ⟨_, rfl, b, rfl, _, rfl, z, rfl, len_small l16, _, rfl, ⟨db, _, hb5⟩, b, revS o, revS nw, r, l, revS z, _, rfl, ⟨db, hb5⟩, ro1, ro4, rn4, rz, fun _ => ?_, fun e' => ?_⟩
              · refine ⟨_, rfl, ledS o nw z (-2 + (m : Int)), rfl, ?_, rfl, false, congrArg V.bl ?_, iteF ?_⟩
                · unfold ledS
                  have h1 := cutS_length z none (some (-2 + (m : Int)))
                  have h2 := cutS_length z (some ((-2 + (m : Int)) + (o.length : Int))) none
                  rw [app_len', app_len', sizeLine_eq]; omega
                · show (!decide (V.str (ledS (revS o) (revS nw) (revS z) ((z.length : Int) - (-2 + (m : Int)) - (o.length : Int))) = V.str (revS (ledS o nw z (-2 + (m : Int)))))) = false
                  rw [led_rev e]
                  exact neSame _
                · exact ⟨_, _, _, _, rfl, inn5, hD5⟩
              · have e2 : fitB (revS o) r l (revS z) ((z.length : Int) - (-2 + (m : Int)) - (o.length : Int)) = false := e'
                rw [back, e] at e2
                cases e2
            | false =>
              refine ⟨_, rfl, _, rfl, D, _, rfl, .inl (SqL.of hD), rfl, flatInts _, false, congrArg V.bl (ind.trans e), iteF ⟨by show 1 ≤ sizeLine; decide, fun L hL => ?_⟩⟩
              have s4 : Same H'' (upd H'' L (.lst [.str "place"])) := Same.new hL
              have eL : upd H'' L (.lst [.str "place"]) L = some (.lst [.str "place"]) := upd_same
              generalize upd H'' L (.lst [.str "place"]) = H4 at s4 eL ⊢
              have inn4 := inn.same s4
              have hD4 := s4 _ _ hD
              have hq4 := s4 _ _ hq
              refine ⟨_, rfl, q, dq, _, rfl, hq4, rf_no rfl rfl rfl rfl, _, rfl, _, rfl, rfl, q, o, nw, l, r, z, _, rfl, ⟨dq, hq4⟩, o1, o4, l16, _, rfl, _, rfl, D, _, rfl, .inl (SqL.of hD4), rfl, flatInts _, rfl, false, congrArg V.bl neq1, iteF ?_⟩
              refine ⟨_, rfl, _, rfl, _, rfl, q, o, nw, l, r, z, _, rfl, inn4.rq, o1, o4, n4, l16, fun e' => ?_, fun _ R H5 s5 hR => ?_⟩
              · have e2 : fitB o l r z (-2 + (m : Int)) = true := e'
                rw [e] at e2
                cases e2
              have inn5 := inn4.same s5
              have hD5 := s5 _ _ hD4
              have hb5 := s5 _ _ (s4 _ _ hb)
              refine ⟨_, rfl, .inr ⟨.list [.str "place"], .list [.str "place"], .lst (SqL.of hR) (.cons (.str _) .nil), .lst (SqL.of (s5 _ _ eL)) (.cons (.str _) .nil), by decide +kernel, by decide +kernel, false, congrArg V.bl (by decide +kernel), iteF ?_⟩⟩
              refine ⟨_, rfl, _, z.length, rfl, ⟨len_small l16, rfl⟩, _, rfl, _, _, rfl, rfl, _, rfl, _, o.length, rfl, ⟨len_small (by omega), rfl⟩, _, _, rfl, rfl, ?_⟩
              refine ⟨_, rfl, b, db, _, rfl, hb5, rf_no rfl rfl rfl rfl, _, rfl, z, rfl, len_small l16, _, rfl, b, revS o, revS nw, r, l, revS z, _, rfl, ⟨db, hb5⟩, ro1, ro4, rz, _, rfl, _, rfl, D, _, rfl, .inl (SqL.of hD5), rfl, flatInts _, rfl, false, congrArg V.bl neq2, iteF ?_⟩
              exact ⟨_, rfl, _, rfl, D, _, rfl, .inl (SqL.of hD5), rfl, flatInts _, false, congrArg V.bl (ind.trans e), iteF ⟨_, _, _, _, rfl, inn5, hD5⟩⟩
          · rintro σ' H' ⟨y11, y14, y15, y16, rfl, inn, hD⟩
            exact ⟨_, _, _, _, _, _, _, _, rfl, by rw [show 200 * i + 40 + 40 * (j + 1) = 200 * i + 40 + 40 * j + 40 from by omega]; exact inn⟩
      · rintro σ' H' ⟨x2, y11, y12, y13, y14, y15, y16, y17, rfl, inn⟩
        refine ⟨by show 6 ≤ sizeLine; decide, fun W hW => ?_⟩
        have s7 : Same H' (upd H' W (.lst [.int 1, .int 2, .int 3, .int 4, .int 5, .int 99])) := Same.new hW
        have eW : upd H' W (.lst [.int 1, .int 2, .int 3, .int 4, .int 5, .int 99]) W = some (.lst [.int 1, .int 2, .int 3, .int 4, .int 5, .int 99]) := upd_same
        have Wp := inn.pen.ne1 hW
        generalize upd H' W (.lst [.int 1, .int 2, .int 3, .int 4, .int 5, .int 99]) = H7 at s7 eW ⊢
        have inn7 : Inn C A t q b c p o nw l r cs (200 * i + 160) H7 := inn.same s7
        clear inn s7 hW inn6
        refine ⟨W, rfl, ⟨_, SqL.of eW⟩, for_it (walk_list (xs := [.int 1, .int 2, .int 3, .int 4, .int 5, .int 99])) (fun m σ' H' => ∃ x2 y11 y12 y13 y14 y15 y16 y17, σ' = [some (.ref a), some (.ref p), x2, some (.ref A), some (.str o), some (.str nw), some (.bl l), some (.bl r), some (.ref t), some (.ref q), some (.ref b), y11, y12, y13, y14, y15, y16, y17] ∧ Inn C A t q b c p o nw l r cs (200 * i + 160) H' ∧ H' W = some (.lst [.int 1, .int 2, .int 3, .int 4, .int 5, .int 99]))
          ⟨_, _, _, _, _, _, _, _, rfl, inn7, eW⟩ (fun _ _ _ _ ⟨_, _, _, _, _, _, _, _, _, _, e⟩ => SqL.of e) ?_ ?_⟩
        · rintro m xx σ' H' H'' hm ⟨x2, y11, y12, y13, y14, y15, y16, y17, rfl, inn, eW'⟩ yy
          obtain ⟨e8, ex⟩ := yy
          subst e8
          have hm6 : m < 6 := hm
          obtain ⟨kk, rfl, k1, k99⟩ : ∃ kk : Nat, xx = .int (kk : Int) ∧ 1 ≤ kk ∧ kk ≤ 99 := by
            match m, hm6, ex with
            | 0, _, ex => exact ⟨1, (Option.some.inj ex).symm, by decide, by decide⟩
            | 1, _, ex => exact ⟨2, (Option.some.inj ex).symm, by decide, by decide⟩
            | 2, _, ex => exact ⟨3, (Option.some.inj ex).symm, by decide, by decide⟩
            | 3, _, ex => exact ⟨4, (Option.some.inj ex).symm, by decide, by decide⟩
            | 4, _, ex => exact ⟨5, (Option.some.inj ex).symm, by decide, by decide⟩
            | 5, _, ex => exact ⟨99, (Option.some.inj ex).symm, by decide, by decide⟩
          clear ex inn7 eW
          have hb1 : o.length * kk ≤ 4 * 99 := Nat.mul_le_mul o4 k99
          have hb2 : nw.length * kk ≤ 4 * 99 := Nat.mul_le_mul n4 k99
          have tn : ((kk : Int)).toNat = kk := by omega
          refine ⟨_, rfl, _, rfl, o, (kk : Int), rfl, rfl, by omega, by omega, by omega, _, rfl, _, rfl, nw, (kk : Int), rfl, rfl, by omega, by omega, by omega, _, rfl, _, rfl, by show 4 ≤ sizeLine; decide, fun X hX => ?_⟩
          rw [tn]
          have s8 : Same H'' (upd H'' X (.lst [.str (rept o kk), .str (rept nw kk), .bl l, .bl r])) := Same.new hX
          have eX : upd H'' X (.lst [.str (rept o kk), .str (rept nw kk), .bl l, .bl r]) X = some (.lst [.str (rept o kk), .str (rept nw kk), .bl l, .bl r]) := upd_same
          generalize upd H'' X (.lst [.str (rept o kk), .str (rept nw kk), .bl l, .bl r]) = H8 at s8 eX ⊢
          have inn8 := inn.same s8
          have eW8 := s8 _ _ eW'
          have cn : ((nw.length : Int) * (kk : Int)) = ((nw.length * kk : Nat) : Int) := by simp
          have co' : ((o.length : Int) * (kk : Int)) = ((o.length * kk : Nat) : Int) := by simp
          refine ⟨fun σ' H' => H' = H8 ∧ ∃ v, σ' = [some (.ref a), some (.ref p), x2, some (.ref A), some (.str o), some (.str nw), some (.bl l), some (.bl r), some (.ref t), some (.ref q), some (.ref b), y11, y12, some v, y14, y15, y16, some (.int (kk : Int))] ∧ ((4 < nw.length * kk ∧ v = .str "new") ∨ (¬ 4 < nw.length * kk ∧ v = .ref X)), ?_, ?_⟩
          · refine ⟨_, rfl, _, nw.length, rfl, ⟨len_small (by omega), rfl⟩, _, rfl, _, _, rfl, rfl, .inl ⟨by omega, by omega⟩, _, _, rfl, rfl, _, rfl, ?_⟩
            rw [cn]
            by_cases h2 : 4 < nw.length * kk
            · rw [decide_eq_true (show (4 : Int) < ((nw.length * kk : Nat) : Int) by omega)]
              exact iteT ⟨rfl, _, rfl, .inl ⟨h2, rfl⟩⟩
            · rw [decide_eq_false (show ¬ (4 : Int) < ((nw.length * kk : Nat) : Int) by omega)]
              exact iteF ⟨rfl, _, rfl, .inr ⟨h2, rfl⟩⟩
          rintro σ' H' ⟨rfl, v, rfl, hv⟩
          refine ⟨fun σ' H2 => H2 = H' ∧ ∃ v, σ' = [some (.ref a), some (.ref p), x2, some (.ref A), some (.str o), some (.str nw), some (.bl l), some (.bl r), some (.ref t), some (.ref q), some (.ref b), y11, y12, some v, y14, y15, y16, some (.int (kk : Int))] ∧ ((4 < o.length * kk ∧ v = .str "old") ∨ (¬ 4 < o.length * kk ∧ 4 < nw.length * kk ∧ v = .str "new") ∨ (¬ 4 < o.length * kk ∧ ¬ 4 < nw.length * kk ∧ v = .ref X)), ?_, ?_⟩
          · refine ⟨_, rfl, _, o.length, rfl, ⟨len_small (by omega), rfl⟩, _, rfl, _, _, rfl, rfl, .inl ⟨by omega, by omega⟩, _, _, rfl, rfl, _, rfl, ?_⟩
            rw [co']
            by_cases h1 : 4 < o.length * kk
            · rw [decide_eq_true (show (4 : Int) < ((o.length * kk : Nat) : Int) by omega)]
              exact iteT ⟨rfl, _, rfl, .inl ⟨h1, rfl⟩⟩
            · rw [decide_eq_false (show ¬ (4 : Int) < ((o.length * kk : Nat) : Int) by omega)]
              refine iteF ⟨rfl, _, rfl, ?_⟩
              rcases hv with ⟨h2, e⟩ | ⟨h2, e⟩
              · exact .inr (.inl ⟨h1, h2, e⟩)
              · exact .inr (.inr ⟨h1, h2, e⟩)
          rintro σ' H2 ⟨rfl, v', rfl, hv'⟩
          have eX8 := eX
          clear hv eX s8 hX eW' inn
          rcases hv' with ⟨h1, rfl⟩ | ⟨h1, h2, rfl⟩ | ⟨h1, h2, rfl⟩
          · refine ⟨_, rfl, _, rfl, q, o, nw, l, r, false, kk, rfl, inn8.rq, inn8.pa.2.2.1, inn8.pa.2.2.2.1, k1, k99, fun e H9 s9 => ?_, fun e1 _ => absurd h1 (by omega), fun e1 _ => absurd h1 (by omega)⟩
            have inn9 := inn8.same s9
            have eW9 := s9 _ _ eW8
            refine ⟨_, rfl, .inl ⟨rfl, false, congrArg V.bl (neSame _), iteF ?_⟩⟩
            refine ⟨_, rfl, _, rfl, q, o, nw, l, r, true, kk, rfl, inn9.rq, inn9.pa.2.2.1, inn9.pa.2.2.2.1, k1, k99, fun e H10 s10 => ?_, fun e1 _ => absurd h1 (by omega), fun e1 _ => absurd h1 (by omega)⟩
            have inn10 := inn9.same s10
            have eW10 := s10 _ _ eW9
            exact ⟨_, rfl, .inl ⟨rfl, false, congrArg V.bl (neSame _), iteF ⟨_, _, _, _, _, _, _, _, rfl, inn10, eW10⟩⟩⟩
          · refine ⟨_, rfl, _, rfl, q, o, nw, l, r, false, kk, rfl, inn8.rq, inn8.pa.2.2.1, inn8.pa.2.2.2.1, k1, k99, fun e => absurd e (by omega), fun e1 e2 H9 s9 => ?_, fun _ e2 => absurd h2 (by omega)⟩
            have inn9 := inn8.same s9
            have eW9 := s9 _ _ eW8
            refine ⟨_, rfl, .inl ⟨rfl, false, congrArg V.bl (neSame _), iteF ?_⟩⟩
            refine ⟨_, rfl, _, rfl, q, o, nw, l, r, true, kk, rfl, inn9.rq, inn9.pa.2.2.1, inn9.pa.2.2.2.1, k1, k99, fun e => absurd e (by omega), fun e1 e2 H10 s10 => ?_, fun _ e2 => absurd h2 (by omega)⟩
            have inn10 := inn9.same s10
            have eW10 := s10 _ _ eW9
            exact ⟨_, rfl, .inl ⟨rfl, false, congrArg V.bl (neSame _), iteF ⟨_, _, _, _, _, _, _, _, rfl, inn10, eW10⟩⟩⟩
          · have rok : PyData.strOk (rept o kk) = true := (lets_ok (lets_rept inn8.pa.2.2.1 k1 (by omega))).2.2.2
            have rnk : PyData.strOk (rept nw kk) = true := (lets_ok (lets_rept inn8.pa.2.2.2.1 k1 (by omega))).2.2.2
            refine ⟨_, rfl, _, rfl, q, o, nw, l, r, false, kk, rfl, inn8.rq, inn8.pa.2.2.1, inn8.pa.2.2.2.1, k1, k99, fun e => absurd e (by omega), fun _ e2 => absurd e2 (by omega), fun e1 e2 R H9 s9 hR => ?_⟩
            have inn9 := inn8.same s9
            have eW9 := s9 _ _ eW8
            have eX9 := s9 _ _ eX8
            refine ⟨_, rfl, .inr ⟨_, _, dp4 hR, dp4 eX9, shaped4 rok rnk, shaped4 rok rnk, false, congrArg V.bl (by rw [eqv4_self]; rfl), iteF ?_⟩⟩
            refine ⟨_, rfl, _, rfl, q, o, nw, l, r, true, kk, rfl, inn9.rq, inn9.pa.2.2.1, inn9.pa.2.2.2.1, k1, k99, fun e => absurd e (by omega), fun _ e2 => absurd e2 (by omega), fun e1 e2 R H10 s10 hR => ?_⟩
            have inn10 := inn9.same s10
            have eW10 := s10 _ _ eW9
            have eX10 := s10 _ _ eX9
            exact ⟨_, rfl, .inr ⟨_, _, dp4 hR, dp4 eX10, shaped4 rok rnk, shaped4 rok rnk, false, congrArg V.bl (by rw [eqv4_self]; rfl), iteF ⟨_, _, _, _, _, _, _, _, rfl, inn10, eW10⟩⟩⟩
        · rintro σ' H' ⟨x2, y11, y12, y13, y14, y15, y16, y17, rfl, inn, eW'⟩
          obtain ⟨dq, hq⟩ := inn.rq
          obtain ⟨g1, g2, g3, g4⟩ := rf_lookups (.str o) (.str nw) (.bl l) (.bl r)
          refine ⟨_, rfl, q, C, dq, _, _, rfl, hq, M.cl, M.n1, g1, _, rfl, q, C, dq, _, _, rfl, hq, M.cl, M.n2, g2, _, rfl, q, C, dq, _, _, rfl, hq, M.cl, M.n3, g3, _, rfl, q, C, dq, _, _, rfl, hq, M.cl, M.n4, g4, by show 4 ≤ sizeLine; decide, fun L1 hL1 => ?_⟩
          have s5 : Same H' (upd H' L1 (.lst [.str o, .str nw, .bl l, .bl r])) := Same.new hL1
          have e5 : upd H' L1 (.lst [.str o, .str nw, .bl l, .bl r]) L1 = some (.lst [.str o, .str nw, .bl l, .bl r]) := upd_same
          dsimp only [tNil]
          generalize upd H' L1 (.lst [.str o, .str nw, .bl l, .bl r]) = H5 at s5 e5 ⊢
          refine rRepr_of (rp4 e5) (tame4 (l := l) (r := r) o4 n4 ook nok) (by decide) (by decide) ?_
          have inn5 := inn.same s5
          refine ⟨_, rfl, 4, rfl, A, _, rfl, SqL.of inn5.pa.1, fun L2 hL2 => ?_⟩
          have ec : cutV [V.str o, V.str nw, V.bl l, V.bl r, V.ref t] none (some 4) = [V.str o, V.str nw, V.bl l, V.bl r] := rfl
          rw [ec]
          have s6 : Same H5 (upd H5 L2 (.lst [.str o, .str nw, .bl l, .bl r])) := Same.new hL2
          have e6 : upd H5 L2 (.lst [.str o, .str nw, .bl l, .bl r]) L2 = some (.lst [.str o, .str nw, .bl l, .bl r]) := upd_same
          dsimp only [tNil]
          generalize upd H5 L2 (.lst [.str o, .str nw, .bl l, .bl r]) = H6 at s6 e6 ⊢
          refine rRepr_of (rp4 e6) (tame4 (l := l) (r := r) o4 n4 ook nok) (by decide) (by decide) ?_
          refine ⟨rfl, _, rfl, ?_⟩
          rw [neSame]
          exact iteF ⟨_, _, _, _, _, _, _, _, _, _, _, _, _, _, _, _, rfl, ((inn5.same s6).pen).mono (by omega)⟩
    · rintro σ' H' ⟨y2, y3, y4, y5, y6, y7, y8, y9, y10, y11, y12, y13, y14, y15, y16, y17, rfl, pen⟩
      exact k H'
end
end Kx
set_option Elab.async false
set_option maxRecDepth 100000
set_option autoImplicit false
namespace Er
open PySem L2 PySem.Spec PyProof.Rows
/-- a promise of a def by its place, of a promise of it -/
theorem fnR_of {P : Program} {w : World} {K : PySem.W.Frag} {mg : Str → Option Value} {base : Heap} {CX : CXT} {k : Nat} {f : Addr} {fd : FuncData} {ps : List Str} {sp : Sp} (F : FnOk P w K mg base CX k f fd ps sp) (bd : Binds K fd ps []) : FnR P w K mg base CX k f sp := by
  intro A outer s H us vs Q E hr e0 r want
  have len : us.length = ps.length := r.length.symm.trans (F.len _ _ _ _ want)
  have bt : BindsTo s fd ⟨us, []⟩ (ps.zip us) := by
    have z := bd s us (e0.mod.kin.keeps fun b o e => (e0.bs b o e).1) (by rw [List.append_nil]; exact len)
    rw [List.append_nil] at z
    exact z
  exact F.run A outer s H ⟨us, []⟩ us vs Q E hr e0 bt r want
end Er
namespace Kx
open PySem L2 PySem.Spec PyProof.Rows Rg Er Ru
abbrev sInit_R : Stmt := inClass (top 3) 0
abbrev sInit_M : Stmt := inClass (top 4) 0
theorem free_of {ns : List (Str × NameKind)} (h : ns.all (fun y => decide (y.2 ≠ .free) || y.1 == "__class__") = true) : ∀ x, ns.lookup x = some .free → x = "__class__" := by
  intro x e
  have m : (x, NameKind.free) ∈ ns := by
    induction ns with
    | nil => cases e
    | cons y r ih =>
      obtain ⟨y1, y2⟩ := y
      by_cases q : (x == y1) = true
      · simp only [List.lookup, q] at e
        rw [beq_iff_eq.mp q]
        cases e
        exact List.mem_cons_self
      · have q' : (x == y1) = false := by simpa using q
        simp only [List.lookup, q'] at e
        exact List.mem_cons_of_mem _ (ih (by
          rw [List.all_cons, Bool.and_eq_true] at h
          exact h.2) e)
  have := List.all_eq_true.mp h _ m
  simpa using this
theorem esR : ErrS ["self", "part"] (defScope sInit_R) := ⟨rfl, by decide +kernel, by decide +kernel, by decide +kernel, rfl, rfl, free_of (by decide +kernel), rfl, rfl, rfl⟩
theorem esM : ErrS ["self", "part"] (defScope sInit_M) := ⟨rfl, by decide +kernel, by decide +kernel, by decide +kernel, rfl, rfl, free_of (by decide +kernel), rfl, rfl, rfl⟩
section
variable {P : Program} {w : World} {K : PySem.W.Frag} {mg : Str → Option Value} {base : Heap}
theorem ok_initR {C f cda cc : Addr} {oc dV kV doc pm ct : Value} {od an : Option Addr} {osl : Array (Option Value)} (T : ErrC P K C f cc cda) (O : OexC K C) (no : PySem.W.findIn K (.ref C) "part" = some none)
    (lk : K.lookup f = some ⟨oc, od, .func (PySem.W.ksFn "__init__" "BadRule.__init__" (defArgs sInit_R) (defBody sInit_R) (defScope sInit_R) dV kV doc pm an (.ref cda) ct cc), osl⟩) (hcd : PySem.W.codeIn K (.ref cda) "BadRule.__init__" = true) (gs : mg "super" = none) :
    FnOk P w K mg base CX0 1 f (PySem.W.ksFn "__init__" "BadRule.__init__" (defArgs sInit_R) (defBody sInit_R) (defScope sInit_R) dV kV doc pm an (.ref cda) ct cc) ["self", "part"] (spErr1 C "part") := by
  refine ok_err T esR lk hcd gs rfl rfl rfl (fun vs H Q E h => ?_) (fun vs H Q E h => ?_) (fun A outer s H vs Q E h => rest1 esR O no rfl rfl A outer s H vs Q E h) (fun _ => rfl) (fun _ => rfl) (fun _ => rfl)
  · obtain ⟨a, v, rfl, _⟩ := h
    rfl
  · obtain ⟨a, v, rfl, ea, _⟩ := h
    exact ⟨a, _, rfl, ea⟩
theorem ok_initM {C f cda cc : Addr} {oc dV kV doc pm ct : Value} {od an : Option Addr} {osl : Array (Option Value)} (T : ErrC P K C f cc cda) (O : OexC K C) (no : PySem.W.findIn K (.ref C) "part" = some none)
    (lk : K.lookup f = some ⟨oc, od, .func (PySem.W.ksFn "__init__" "BadMove.__init__" (defArgs sInit_M) (defBody sInit_M) (defScope sInit_M) dV kV doc pm an (.ref cda) ct cc), osl⟩) (hcd : PySem.W.codeIn K (.ref cda) "BadMove.__init__" = true) (gs : mg "super" = none) :
    FnOk P w K mg base CX0 1 f (PySem.W.ksFn "__init__" "BadMove.__init__" (defArgs sInit_M) (defBody sInit_M) (defScope sInit_M) dV kV doc pm an (.ref cda) ct cc) ["self", "part"] (spErr1 C "part") := by
  refine ok_err T esM lk hcd gs rfl rfl rfl (fun vs H Q E h => ?_) (fun vs H Q E h => ?_) (fun A outer s H vs Q E h => rest1 esM O no rfl rfl A outer s H vs Q E h) (fun _ => rfl) (fun _ => rfl) (fun _ => rfl)
  · obtain ⟨a, v, rfl, _⟩ := h
    rfl
  · obtain ⟨a, v, rfl, ea, _⟩ := h
    exact ⟨a, _, rfl, ea⟩
end
set_option maxHeartbeats 0 in
theorem all_mk {l : PySem.W.OpenLaw} {w : World} {K : PySem.W.Frag} {h : Heap} {mg : Str → Option Value} {fa C : Addr} {tk : Tok} (X : K.In h) (G : h.Ns mainGlobals mg) (hfa : mg "law" = some (.ref fa))
    {CR : Addr} {nm_R q_R : Str} {N_R : Addr} {bs_R bm_R : List Value} {sn_R : List Str} {sub_R : List Value} {ab_R : Bool} {col_R : Option Bool} {dd_R : Option Addr} {w0_R w1_R w2_R w3_R w5_R : Option Value} {fe_R cc_R cda_R : Addr} {oce_R kVe_R doce_R pme_R cte_R : Value} {ode_R ane_R : Option Addr} {osle_R : Array (Option Value)} {cl_R ccl_R : Value} {cld_R cdd_R : Option Addr} {csl_R ccs_R : Array (Option Value)} {vs_R : Array Value} {file_R : Str} {tf_R : Tok}
    {CM : Addr} {nm_M q_M : Str} {N_M : Addr} {bs_M bm_M : List Value} {sn_M : List Str} {sub_M : List Value} {ab_M : Bool} {col_M : Option Bool} {dd_M : Option Addr} {w0_M w1_M w2_M w3_M w5_M : Option Value} {fe_M cc_M cda_M : Addr} {oce_M kVe_M doce_M pme_M cte_M : Value} {ode_M ane_M : Option Addr} {osle_M : Array (Option Value)} {cl_M ccl_M : Value} {cld_M cdd_M : Option Addr} {csl_M ccs_M : Array (Option Value)} {vs_M : Array Value} {file_M : Str} {tf_M : Tok}
    {f_letrs : Addr} {od_letrs an_letrs : Option Addr} {sl_letrs : Array (Option Value)} {oc_letrs kV_letrs dc_letrs pm_letrs cd_letrs ct_letrs : Value}
    {f_pen : Addr} {od_pen an_pen : Option Addr} {sl_pen : Array (Option Value)} {oc_pen kV_pen dc_pen pm_pen cd_pen ct_pen : Value}
    {f_draw : Addr} {od_draw an_draw : Option Addr} {sl_draw : Array (Option Value)} {oc_draw kV_draw dc_draw pm_draw cd_draw ct_draw : Value}
    {f_pick : Addr} {od_pick an_pick : Option Addr} {sl_pick : Array (Option Value)} {oc_pick kV_pick dc_pick pm_pick cd_pick ct_pick : Value}
    {f_text : Addr} {od_text an_text : Option Addr} {sl_text : Array (Option Value)} {oc_text kV_text dc_text pm_text cd_text ct_text : Value}
    {f_drawn : Addr} {od_drawn an_drawn : Option Addr} {sl_drawn : Array (Option Value)} {oc_drawn kV_drawn dc_drawn pm_drawn cd_drawn ct_drawn : Value}
    {f_row : Addr} {od_row an_row : Option Addr} {sl_row : Array (Option Value)} {oc_row kV_row dc_row pm_row cd_row ct_row : Value}
    {f_fitl : Addr} {od_fitl an_fitl : Option Addr} {sl_fitl : Array (Option Value)} {oc_fitl kV_fitl dc_fitl pm_fitl cd_fitl ct_fitl : Value}
    {f_led : Addr} {od_led an_led : Option Addr} {sl_led : Array (Option Value)} {oc_led kV_led dc_led pm_led cd_led ct_led : Value}
    {f_many : Addr} {od_many an_many : Option Addr} {sl_many : Array (Option Value)} {oc_many kV_many dc_many pm_many cd_many ct_many : Value}
    {f_law : Addr} {od_law an_law : Option Addr} {sl_law : Array (Option Value)} {oc_law kV_law dc_law pm_law cd_law ct_law : Value}
    {f_init : Addr} {od_init an_init : Option Addr} {sl_init : Array (Option Value)} {oc_init dc_init pm_init cd_init ct_init : Value}
    {kd_init : Addr}
    {f_fits : Addr} {od_fits an_fits : Option Addr} {sl_fits : Array (Option Value)} {oc_fits kV_fits dc_fits pm_fits cd_fits ct_fits : Value}
    {f_plac : Addr} {od_plac an_plac : Option Addr} {sl_plac : Array (Option Value)} {oc_plac kV_plac dc_plac pm_plac cd_plac ct_plac : Value}
    {f_allp : Addr} {od_allp an_allp : Option Addr} {sl_allp : Array (Option Value)} {oc_allp kV_allp dc_allp pm_allp cd_allp ct_allp : Value}
    {f_firp : Addr} {od_firp an_firp : Option Addr} {sl_firp : Array (Option Value)} {oc_firp kV_firp dc_firp pm_firp cd_firp ct_firp : Value}
    {f_call : Addr} {od_call an_call : Option Addr} {sl_call : Array (Option Value)} {oc_call kV_call dc_call pm_call cd_call ct_call : Value}
    {f_neg : Addr} {od_neg an_neg : Option Addr} {sl_neg : Array (Option Value)} {oc_neg kV_neg dc_neg pm_neg cd_neg ct_neg : Value}
    {f_mul : Addr} {od_mul an_mul : Option Addr} {sl_mul : Array (Option Value)} {oc_mul kV_mul dc_mul pm_mul cd_mul ct_mul : Value}
    {f_rmul : Addr} {od_rmul an_rmul : Option Addr} {sl_rmul : Array (Option Value)} {oc_rmul kV_rmul dc_rmul pm_rmul cd_rmul ct_rmul : Value}
    {fo_i ro_i : Option Value}
    {tM : Tok}
    (aC : PySem.W.nsIn K mainGlobals "Rule" = some (some (.ref C)))
    (aCR : PySem.W.nsIn K mainGlobals "BadRule" = some (some (.ref CR)))
    (xL_R : K.lookup CR = some (excClassObj nm_R q_R CR N_R bs_R bm_R true sn_R sub_R ab_R col_R dd_R w0_R w1_R w2_R w3_R w5_R "ValueError.__new__"))
    (rv_R : PySem.HandSPX.refsVE bm_R = true)
    (sa_R : PySem.W.findIn K (.ref CR) "__setattr__" = some (some (.builtin "object.__setattr__")))
    (ex_R : PySem.W.subIn K (.ref CR) (.type "BaseException") = some true)
    (ty_R : PySem.W.typeIn K (.ref CR) = some (.type "type"))
    (kC_R : PySem.W.keepIn K (.ref CR) = true)
    (ga_R : PySem.W.findIn K (.ref CR) "__getattribute__" = some (some (.builtin "BaseException.__getattribute__")))
    (gg_R : PySem.W.findIn K (.ref CR) "__getattr__" = some none)
    (hdc_R : PySem.W.hasDictIn K CR = true)
    (ini_R : PySem.W.findIn K (.ref CR) "__init__" = some (some (.ref fe_R)))
    (ti_R : PySem.W.typeIn K (.ref fe_R) = some (.type "function"))
    (le_R : K.lookup fe_R = some ⟨oce_R, ode_R, .func (PySem.W.ksFn "__init__" "BadRule.__init__" (defArgs sInit_R) (defBody sInit_R) (defScope sInit_R) .none kVe_R doce_R pme_R ane_R (.ref cda_R) cte_R cc_R), osle_R⟩)
    (ce_R : PySem.W.codeIn K (.ref cda_R) "BadRule.__init__" = true)
    (no_part_R : PySem.W.findIn K (.ref CR) "part" = some none)
    (su_R : PySem.W.ks_superIn K CR CR "__init__" = some (some (.builtin veInit)))
    (ve_R : PySem.W.subIn K (.ref CR) (.type "ValueError") = some true)
    (se_R : PySem.W.mroIn K CR (.ref CR) = some true)
    (cel_R : K.lookup cc_R = some ⟨cl_R, cld_R, .cell (some (.ref CR)), csl_R⟩)
    (cod_R : K.lookup cda_R = some ⟨ccl_R, cdd_R, .fields vs_R, ccs_R⟩)
    (v2_R : vs_R[2]? = some (.str file_R tf_R))
    (fl_R : ((l.prog.main.file : Str) == file_R) = true)
    (em_R : PySem.W.exmOne K (.ref CR) (.ref CR) = some true)
    (aCM : PySem.W.nsIn K mainGlobals "BadMove" = some (some (.ref CM)))
    (xL_M : K.lookup CM = some (excClassObj nm_M q_M CM N_M bs_M bm_M true sn_M sub_M ab_M col_M dd_M w0_M w1_M w2_M w3_M w5_M "ValueError.__new__"))
    (rv_M : PySem.HandSPX.refsVE bm_M = true)
    (sa_M : PySem.W.findIn K (.ref CM) "__setattr__" = some (some (.builtin "object.__setattr__")))
    (ex_M : PySem.W.subIn K (.ref CM) (.type "BaseException") = some true)
    (ty_M : PySem.W.typeIn K (.ref CM) = some (.type "type"))
    (kC_M : PySem.W.keepIn K (.ref CM) = true)
    (ga_M : PySem.W.findIn K (.ref CM) "__getattribute__" = some (some (.builtin "BaseException.__getattribute__")))
    (gg_M : PySem.W.findIn K (.ref CM) "__getattr__" = some none)
    (hdc_M : PySem.W.hasDictIn K CM = true)
    (ini_M : PySem.W.findIn K (.ref CM) "__init__" = some (some (.ref fe_M)))
    (ti_M : PySem.W.typeIn K (.ref fe_M) = some (.type "function"))
    (le_M : K.lookup fe_M = some ⟨oce_M, ode_M, .func (PySem.W.ksFn "__init__" "BadMove.__init__" (defArgs sInit_M) (defBody sInit_M) (defScope sInit_M) .none kVe_M doce_M pme_M ane_M (.ref cda_M) cte_M cc_M), osle_M⟩)
    (ce_M : PySem.W.codeIn K (.ref cda_M) "BadMove.__init__" = true)
    (no_part_M : PySem.W.findIn K (.ref CM) "part" = some none)
    (su_M : PySem.W.ks_superIn K CM CM "__init__" = some (some (.builtin veInit)))
    (ve_M : PySem.W.subIn K (.ref CM) (.type "ValueError") = some true)
    (se_M : PySem.W.mroIn K CM (.ref CM) = some true)
    (cel_M : K.lookup cc_M = some ⟨cl_M, cld_M, .cell (some (.ref CM)), csl_M⟩)
    (cod_M : K.lookup cda_M = some ⟨ccl_M, cdd_M, .fields vs_M, ccs_M⟩)
    (v2_M : vs_M[2]? = some (.str file_M tf_M))
    (fl_M : ((l.prog.main.file : Str) == file_M) = true)
    (em_M : PySem.W.exmOne K (.ref CM) (.ref CM) = some true)
    (ay : PySem.W.nsIn K cStatics "thirdparty.any" = some none)
    (tp : (l.prog.main.scope.names.lookup ("super" : Str)).isSome = false)
    (cg : PySem.W.specialIn K (.builtin "object.__class__") "__get__" = some (some (.builtin "getset_descriptor.__get__")))
    (ct : PySem.W.takesIn K (.builtin "object.__class__") = some true)
    (a_letrs : PySem.W.nsIn K mainGlobals "are_letters" = some (some (.ref f_letrs)))
    (l_letrs : K.lookup f_letrs = some ⟨oc_letrs, od_letrs, .func (PySem.W.fnOf "are_letters" "are_letters" (defArgs sAreLetters) (defBody sAreLetters) (defScope sAreLetters) .none kV_letrs dc_letrs pm_letrs an_letrs cd_letrs ct_letrs), sl_letrs⟩)
    (c_letrs : PySem.W.codeIn K cd_letrs "are_letters" = true)
    (k_letrs : PySem.W.keepIn K (.ref f_letrs) = true)
    (a_pen : PySem.W.nsIn K mainGlobals "_law_pen" = some (some (.ref f_pen)))
    (l_pen : K.lookup f_pen = some ⟨oc_pen, od_pen, .func (PySem.W.fnOf "_law_pen" "_law_pen" (defArgs sPen) (defBody sPen) (defScope sPen) .none kV_pen dc_pen pm_pen an_pen cd_pen ct_pen), sl_pen⟩)
    (c_pen : PySem.W.codeIn K cd_pen "_law_pen" = true)
    (k_pen : PySem.W.keepIn K (.ref f_pen) = true)
    (a_draw : PySem.W.nsIn K mainGlobals "_law_draw" = some (some (.ref f_draw)))
    (l_draw : K.lookup f_draw = some ⟨oc_draw, od_draw, .func (PySem.W.fnOf "_law_draw" "_law_draw" (defArgs sDraw) (defBody sDraw) (defScope sDraw) .none kV_draw dc_draw pm_draw an_draw cd_draw ct_draw), sl_draw⟩)
    (c_draw : PySem.W.codeIn K cd_draw "_law_draw" = true)
    (k_draw : PySem.W.keepIn K (.ref f_draw) = true)
    (a_pick : PySem.W.nsIn K mainGlobals "_law_pick" = some (some (.ref f_pick)))
    (l_pick : K.lookup f_pick = some ⟨oc_pick, od_pick, .func (PySem.W.fnOf "_law_pick" "_law_pick" (defArgs sPick) (defBody sPick) (defScope sPick) .none kV_pick dc_pick pm_pick an_pick cd_pick ct_pick), sl_pick⟩)
    (c_pick : PySem.W.codeIn K cd_pick "_law_pick" = true)
    (k_pick : PySem.W.keepIn K (.ref f_pick) = true)
    (a_text : PySem.W.nsIn K mainGlobals "_law_text" = some (some (.ref f_text)))
    (l_text : K.lookup f_text = some ⟨oc_text, od_text, .func (PySem.W.fnOf "_law_text" "_law_text" (defArgs sText) (defBody sText) (defScope sText) .none kV_text dc_text pm_text an_text cd_text ct_text), sl_text⟩)
    (c_text : PySem.W.codeIn K cd_text "_law_text" = true)
    (k_text : PySem.W.keepIn K (.ref f_text) = true)
    (a_drawn : PySem.W.nsIn K mainGlobals "_law_drawn" = some (some (.ref f_drawn)))
    (l_drawn : K.lookup f_drawn = some ⟨oc_drawn, od_drawn, .func (PySem.W.fnOf "_law_drawn" "_law_drawn" (defArgs sDrawn) (defBody sDrawn) (defScope sDrawn) .none kV_drawn dc_drawn pm_drawn an_drawn cd_drawn ct_drawn), sl_drawn⟩)
    (c_drawn : PySem.W.codeIn K cd_drawn "_law_drawn" = true)
    (k_drawn : PySem.W.keepIn K (.ref f_drawn) = true)
    (a_row : PySem.W.nsIn K mainGlobals "_law_row" = some (some (.ref f_row)))
    (l_row : K.lookup f_row = some ⟨oc_row, od_row, .func (PySem.W.fnOf "_law_row" "_law_row" (defArgs sRow) (defBody sRow) (defScope sRow) .none kV_row dc_row pm_row an_row cd_row ct_row), sl_row⟩)
    (c_row : PySem.W.codeIn K cd_row "_law_row" = true)
    (k_row : PySem.W.keepIn K (.ref f_row) = true)
    (a_fitl : PySem.W.nsIn K mainGlobals "_law_fits" = some (some (.ref f_fitl)))
    (l_fitl : K.lookup f_fitl = some ⟨oc_fitl, od_fitl, .func (PySem.W.fnOf "_law_fits" "_law_fits" (defArgs sFitsL) (defBody sFitsL) (defScope sFitsL) .none kV_fitl dc_fitl pm_fitl an_fitl cd_fitl ct_fitl), sl_fitl⟩)
    (c_fitl : PySem.W.codeIn K cd_fitl "_law_fits" = true)
    (k_fitl : PySem.W.keepIn K (.ref f_fitl) = true)
    (a_led : PySem.W.nsIn K mainGlobals "_law_led" = some (some (.ref f_led)))
    (l_led : K.lookup f_led = some ⟨oc_led, od_led, .func (PySem.W.fnOf "_law_led" "_law_led" (defArgs sLed) (defBody sLed) (defScope sLed) .none kV_led dc_led pm_led an_led cd_led ct_led), sl_led⟩)
    (c_led : PySem.W.codeIn K cd_led "_law_led" = true)
    (k_led : PySem.W.keepIn K (.ref f_led) = true)
    (a_many : PySem.W.nsIn K mainGlobals "_law_many" = some (some (.ref f_many)))
    (l_many : K.lookup f_many = some ⟨oc_many, od_many, .func (PySem.W.fnOf "_law_many" "_law_many" (defArgs sMany) (defBody sMany) (defScope sMany) .none kV_many dc_many pm_many an_many cd_many ct_many), sl_many⟩)
    (c_many : PySem.W.codeIn K cd_many "_law_many" = true)
    (k_many : PySem.W.keepIn K (.ref f_many) = true)
    (a_law : PySem.W.nsIn K mainGlobals "law" = some (some (.ref f_law)))
    (l_law : K.lookup f_law = some ⟨oc_law, od_law, .func (PySem.W.fnOf "law" "law" (defArgs sLaw) (defBody sLaw) (defScope sLaw) .none kV_law dc_law pm_law an_law cd_law ct_law), sl_law⟩)
    (c_law : PySem.W.codeIn K cd_law "law" = true)
    (k_law : PySem.W.keepIn K (.ref f_law) = true)
    (a_init : PySem.W.findIn K (.ref C) "__init__" = some (some (.ref f_init)))
    (i_init : PySem.W.isFn K (.ref f_init) = true)
    (l_init : K.lookup f_init = some ⟨oc_init, od_init, .func (PySem.W.fnOf "__init__" "Rule.__init__" (defArgs sRInit) (defBody sRInit) (defScope sRInit) .none (.ref kd_init) dc_init pm_init an_init cd_init ct_init), sl_init⟩)
    (c_init : PySem.W.codeIn K cd_init "Rule.__init__" = true)
    (k_init : PySem.W.keepIn K (.ref f_init) = true)
    (kl_init : PySem.W.nsIn K kd_init "left" = some (some (.bool false)))
    (kr_init : PySem.W.nsIn K kd_init "right" = some (some (.bool false)))
    (a_fits : PySem.W.findIn K (.ref C) "fits" = some (some (.ref f_fits)))
    (i_fits : PySem.W.isFn K (.ref f_fits) = true)
    (l_fits : K.lookup f_fits = some ⟨oc_fits, od_fits, .func (PySem.W.fnOf "fits" "Rule.fits" (defArgs sFits) (defBody sFits) (defScope sFits) .none kV_fits dc_fits pm_fits an_fits cd_fits ct_fits), sl_fits⟩)
    (c_fits : PySem.W.codeIn K cd_fits "Rule.fits" = true)
    (k_fits : PySem.W.keepIn K (.ref f_fits) = true)
    (a_plac : PySem.W.findIn K (.ref C) "places" = some (some (.ref f_plac)))
    (i_plac : PySem.W.isFn K (.ref f_plac) = true)
    (l_plac : K.lookup f_plac = some ⟨oc_plac, od_plac, .func (PySem.W.fnOf "places" "Rule.places" (defArgs sPlaces) (defBody sPlaces) (defScope sPlaces) .none kV_plac dc_plac pm_plac an_plac cd_plac ct_plac), sl_plac⟩)
    (c_plac : PySem.W.codeIn K cd_plac "Rule.places" = true)
    (k_plac : PySem.W.keepIn K (.ref f_plac) = true)
    (a_allp : PySem.W.findIn K (.ref C) "all_places" = some (some (.ref f_allp)))
    (i_allp : PySem.W.isFn K (.ref f_allp) = true)
    (l_allp : K.lookup f_allp = some ⟨oc_allp, od_allp, .func (PySem.W.fnOf "all_places" "Rule.all_places" (defArgs sAllP) (defBody sAllP) (defScope sAllP) .none kV_allp dc_allp pm_allp an_allp cd_allp ct_allp), sl_allp⟩)
    (c_allp : PySem.W.codeIn K cd_allp "Rule.all_places" = true)
    (k_allp : PySem.W.keepIn K (.ref f_allp) = true)
    (a_firp : PySem.W.findIn K (.ref C) "first_place" = some (some (.ref f_firp)))
    (i_firp : PySem.W.isFn K (.ref f_firp) = true)
    (l_firp : K.lookup f_firp = some ⟨oc_firp, od_firp, .func (PySem.W.fnOf "first_place" "Rule.first_place" (defArgs sFirstP) (defBody sFirstP) (defScope sFirstP) .none kV_firp dc_firp pm_firp an_firp cd_firp ct_firp), sl_firp⟩)
    (c_firp : PySem.W.codeIn K cd_firp "Rule.first_place" = true)
    (k_firp : PySem.W.keepIn K (.ref f_firp) = true)
    (a_call : PySem.W.findIn K (.ref C) "__call__" = some (some (.ref f_call)))
    (i_call : PySem.W.isFn K (.ref f_call) = true)
    (l_call : K.lookup f_call = some ⟨oc_call, od_call, .func (PySem.W.fnOf "__call__" "Rule.__call__" (defArgs sCall) (defBody sCall) (defScope sCall) .none kV_call dc_call pm_call an_call cd_call ct_call), sl_call⟩)
    (c_call : PySem.W.codeIn K cd_call "Rule.__call__" = true)
    (k_call : PySem.W.keepIn K (.ref f_call) = true)
    (a_neg : PySem.W.findIn K (.ref C) "__neg__" = some (some (.ref f_neg)))
    (i_neg : PySem.W.isFn K (.ref f_neg) = true)
    (l_neg : K.lookup f_neg = some ⟨oc_neg, od_neg, .func (PySem.W.fnOf "__neg__" "Rule.__neg__" (defArgs sNeg) (defBody sNeg) (defScope sNeg) .none kV_neg dc_neg pm_neg an_neg cd_neg ct_neg), sl_neg⟩)
    (c_neg : PySem.W.codeIn K cd_neg "Rule.__neg__" = true)
    (k_neg : PySem.W.keepIn K (.ref f_neg) = true)
    (a_mul : PySem.W.findIn K (.ref C) "__mul__" = some (some (.ref f_mul)))
    (i_mul : PySem.W.isFn K (.ref f_mul) = true)
    (l_mul : K.lookup f_mul = some ⟨oc_mul, od_mul, .func (PySem.W.fnOf "__mul__" "Rule.__mul__" (defArgs sMul) (defBody sMul) (defScope sMul) .none kV_mul dc_mul pm_mul an_mul cd_mul ct_mul), sl_mul⟩)
    (c_mul : PySem.W.codeIn K cd_mul "Rule.__mul__" = true)
    (k_mul : PySem.W.keepIn K (.ref f_mul) = true)
    (a_rmul : PySem.W.findIn K (.ref C) "__rmul__" = some (some (.ref f_rmul)))
    (i_rmul : PySem.W.isFn K (.ref f_rmul) = true)
    (l_rmul : K.lookup f_rmul = some ⟨oc_rmul, od_rmul, .func (PySem.W.fnOf "__rmul__" "Rule.__rmul__" (defArgs sRmul) (defBody sRmul) (defScope sRmul) .none kV_rmul dc_rmul pm_rmul an_rmul cd_rmul ct_rmul), sl_rmul⟩)
    (c_rmul : PySem.W.codeIn K cd_rmul "Rule.__rmul__" = true)
    (k_rmul : PySem.W.keepIn K (.ref f_rmul) = true)
    (fi_call : PySem.W.fnIn K f_call = true)
    (first : PySem.W.selfFirst K C = true)
    (im : PySem.W.findIn K (.type "int") "__mul__" = some fo_i)
    (ir : PySem.W.findIn K (.type "int") "__rmul__" = some ro_i)
    (sub1 : PySem.W.subIn K (.type "int") (.ref C) = some false)
    (sub2 : PySem.W.subIn K (.ref C) (.type "int") = some false)
    (pg : PySem.W.plainGet K C Str.empty = true)
    (hdi : PySem.W.hasDictIn K C = true)
    (po : PySem.W.plainOver K C = true)
    (sat : PySem.W.findIn K (.ref C) "__setattr__" = some (some (.builtin "object.__setattr__")))
    (mk : PySem.W.makesIn K C = true)
    (kc : PySem.W.keepIn K (.ref C) = true)
    (n_old : PySem.W.findIn K (.ref C) "old" = some none)
    (n_new : PySem.W.findIn K (.ref C) "new" = some none)
    (n_left : PySem.W.findIn K (.ref C) "left" = some none)
    (n_right : PySem.W.findIn K (.ref C) "right" = some none)
    (rdC : PySem.W.readsIn K C (.type "type") = true)
    (gaC : PySem.W.specialIn K (.ref C) "__getattribute__" = some (some (.builtin "type.__getattribute__")))
    (fMost : PySem.W.findCls K (.ref C) (.type "type") "LONGEST" = some (.val (.int 4 tM)))
    (aMost : PySem.W.findIn K (.ref C) "LONGEST" = some (some (.int 4 tM)))
    (aL : PySem.W.nsIn K mainGlobals "LETTERS" = some (some (.str "abcdefghijklmnopqrstuvwxyz" tk)))
    (z_len : PySem.W.nsIn K mainGlobals "len" = some none)
    (z_int : PySem.W.nsIn K mainGlobals "int" = some none)
    (z_abs : PySem.W.nsIn K mainGlobals "abs" = some none)
    (z_list : PySem.W.nsIn K mainGlobals "list" = some none)
    (z_tuple : PySem.W.nsIn K mainGlobals "tuple" = some none)
    (z_range : PySem.W.nsIn K mainGlobals "range" = some none)
    (z_repr : PySem.W.nsIn K mainGlobals "repr" = some none)
    (z_isinstance : PySem.W.nsIn K mainGlobals "isinstance" = some none)
    (z_all : PySem.W.nsIn K mainGlobals "all" = some none)
    (z_set : PySem.W.nsIn K mainGlobals "set" = some none)
    (z_bool : PySem.W.nsIn K mainGlobals "bool" = some none)
    (z_str : PySem.W.nsIn K mainGlobals "str" = some none)
    (z_super : PySem.W.nsIn K mainGlobals "super" = some none)
    : ∃ fd : FuncData, (∀ (s : Shared) (v : Value), BindsTo s fd ⟨[v], []⟩ [("_law_script", v)]) ∧ ∀ base : Heap, K.In base → base.Ns mainGlobals mg → FnG l.prog w K mg base CX0 8 fa fd ["_law_script"] (spLaw K) := by
  have e := hfa.symm.trans (PySem.W.mg_of X G a_law)
  cases e
  have T : Txt mg := ⟨PySem.W.mg_none_of X G z_len, PySem.W.mg_none_of X G z_int, PySem.W.mg_none_of X G z_abs, PySem.W.mg_none_of X G z_list, PySem.W.mg_none_of X G z_tuple, PySem.W.mg_none_of X G z_range, PySem.W.mg_none_of X G z_repr, PySem.W.mg_none_of X G z_isinstance, PySem.W.mg_none_of X G z_all, PySem.W.mg_none_of X G z_set⟩
  have zB := PySem.W.mg_none_of X G z_bool
  have zS := PySem.W.mg_none_of X G z_str
  have zP := PySem.W.mg_none_of X G z_super
  have mL : mg "LETTERS" = some (.str abc tk) := PySem.W.mg_of X G aL
  have cl : Cls K C := ⟨pg, hdi, po, sat⟩
  have rdd : ClX.CRead K C (.type "type") := ⟨rdC, gaC⟩
  have M : RT K mg C := ⟨cl, n_old, n_new, n_left, n_right, PySem.W.mg_of X G aC, _, _, rdd, ⟨fMost, ⟨_, rfl⟩⟩⟩
  have O_R : OexC K CR := ⟨⟨_, _, _, _, _, _, _, _, _, _, _, _, _, _, _, xL_R, rv_R⟩, sa_R, ex_R, ty_R, kC_R⟩
  have R_R : ErrC l.prog K CR fe_R cc_R cda_R := ⟨⟨_, _, _, _, _, _, _, _, _, _, _, _, _, _, _, xL_R, rv_R⟩, su_R, ay, ve_R, se_R, ⟨_, _, _, cel_R⟩, ⟨_, _, _, _, _, _, cod_R, v2_R, fl_R⟩, tp⟩
  have Hp_R : HearP K mg "BadRule" CR := ⟨PySem.W.mg_of X G aCR, ⟨ga_R, gg_R, ex_R, hdc_R⟩, em_R⟩
  have O_M : OexC K CM := ⟨⟨_, _, _, _, _, _, _, _, _, _, _, _, _, _, _, xL_M, rv_M⟩, sa_M, ex_M, ty_M, kC_M⟩
  have R_M : ErrC l.prog K CM fe_M cc_M cda_M := ⟨⟨_, _, _, _, _, _, _, _, _, _, _, _, _, _, _, xL_M, rv_M⟩, su_M, ay, ve_M, se_M, ⟨_, _, _, cel_M⟩, ⟨_, _, _, _, _, _, cod_M, v2_M, fl_M⟩, tp⟩
  have Hp_M : HearP K mg "BadMove" CM := ⟨PySem.W.mg_of X G aCM, ⟨ga_M, gg_M, ex_M, hdc_M⟩, em_M⟩
  have F_letrs := fun_mk (st := sAreLetters) l_letrs c_letrs k_letrs
  have b_letrs := F_letrs.binds (ps := ["value", "least", "most"]) fun _ _ _ _ _ _ us hl => match us, hl with | [_, _, _], _ => rfl
  have F_pen := fun_mk (st := sPen) l_pen c_pen k_pen
  have b_pen := F_pen.binds (ps := ["_law_script"]) fun _ _ _ _ _ _ us hl => match us, hl with | [_], _ => rfl
  have F_draw := fun_mk (st := sDraw) l_draw c_draw k_draw
  have b_draw := F_draw.binds (ps := ["_law_pen_here", "_law_many_here"]) fun _ _ _ _ _ _ us hl => match us, hl with | [_, _], _ => rfl
  have F_pick := fun_mk (st := sPick) l_pick c_pick k_pick
  have b_pick := F_pick.binds (ps := ["_law_pen_here", "_law_things"]) fun _ _ _ _ _ _ us hl => match us, hl with | [_, _], _ => rfl
  have F_text := fun_mk (st := sText) l_text c_text k_text
  have b_text := F_text.binds (ps := ["_law_pen_here", "_law_signs", "_law_many_here"]) fun _ _ _ _ _ _ us hl => match us, hl with | [_, _, _], _ => rfl
  have F_drawn := fun_mk (st := sDrawn) l_drawn c_drawn k_drawn
  have b_drawn := F_drawn.binds (ps := ["_law_pen_here"]) fun _ _ _ _ _ _ us hl => match us, hl with | [_], _ => rfl
  have F_row := fun_mk (st := sRow) l_row c_row k_row
  have b_row := F_row.binds (ps := ["_law_pen_here", "_law_old", "_law_letters"]) fun _ _ _ _ _ _ us hl => match us, hl with | [_, _, _], _ => rfl
  have F_fitl := fun_mk (st := sFitsL) l_fitl c_fitl k_fitl
  have b_fitl := F_fitl.binds (ps := ["_law_parts", "_law_there", "_law_spot"]) fun _ _ _ _ _ _ us hl => match us, hl with | [_, _, _], _ => rfl
  have F_led := fun_mk (st := sLed) l_led c_led k_led
  have b_led := F_led.binds (ps := ["_law_rule", "_law_there", "_law_spot"]) fun _ _ _ _ _ _ us hl => match us, hl with | [_, _, _], _ => rfl
  have F_many := fun_mk (st := sMany) l_many c_many k_many
  have b_many := F_many.binds (ps := ["_law_rule", "_law_many_here", "_law_is_turned"]) fun _ _ _ _ _ _ us hl => match us, hl with | [_, _, _], _ => rfl
  have F_law := fun_mk (st := sLaw) l_law c_law k_law
  have b_law := F_law.binds (ps := ["_law_script"]) fun _ _ _ _ _ _ us hl => match us, hl with | [_], _ => rfl
  have F_fits := fun_mk (st := sFits) l_fits c_fits k_fits
  have b_fits := F_fits.binds (ps := ["self", "row", "place"]) fun _ _ _ _ _ _ us hl => match us, hl with | [_, _, _], _ => rfl
  have F_plac := fun_mk (st := sPlaces) l_plac c_plac k_plac
  have b_plac := F_plac.binds (ps := ["self", "row"]) fun _ _ _ _ _ _ us hl => match us, hl with | [_, _], _ => rfl
  have F_allp := fun_mk (st := sAllP) l_allp c_allp k_allp
  have b_allp := F_allp.binds (ps := ["self", "row"]) fun _ _ _ _ _ _ us hl => match us, hl with | [_, _], _ => rfl
  have F_firp := fun_mk (st := sFirstP) l_firp c_firp k_firp
  have b_firp := F_firp.binds (ps := ["self", "row"]) fun _ _ _ _ _ _ us hl => match us, hl with | [_, _], _ => rfl
  have F_call := fun_mk (st := sCall) l_call c_call k_call
  have b_call := F_call.binds (ps := ["self", "row", "place"]) fun _ _ _ _ _ _ us hl => match us, hl with | [_, _, _], _ => rfl
  have F_neg := fun_mk (st := sNeg) l_neg c_neg k_neg
  have b_neg := F_neg.binds (ps := ["self"]) fun _ _ _ _ _ _ us hl => match us, hl with | [_], _ => rfl
  have F_mul := fun_mk (st := sMul) l_mul c_mul k_mul
  have b_mul := F_mul.binds (ps := ["self", "other"]) fun _ _ _ _ _ _ us hl => match us, hl with | [_, _], _ => rfl
  have F_rmul := fun_mk (st := sRmul) l_rmul c_rmul k_rmul
  have b_rmul := F_rmul.binds (ps := ["self", "other"]) fun _ _ _ _ _ _ us hl => match us, hl with | [_, _], _ => rfl
  have m_letrs := PySem.W.mg_of X G a_letrs
  have m_pen := PySem.W.mg_of X G a_pen
  have m_draw := PySem.W.mg_of X G a_draw
  have m_pick := PySem.W.mg_of X G a_pick
  have m_text := PySem.W.mg_of X G a_text
  have m_drawn := PySem.W.mg_of X G a_drawn
  have m_row := PySem.W.mg_of X G a_row
  have m_fitl := PySem.W.mg_of X G a_fitl
  have m_led := PySem.W.mg_of X G a_led
  have m_many := PySem.W.mg_of X G a_many
  have m_law := PySem.W.mg_of X G a_law
  have kbF : KBn K _ nFits 1 ["row", "place"] gKw gKwV := kbMk F_fits (fun _ _ _ _ _ _ us ws l1 l2 => match us, ws, l1, l2 with | [_], [_, _], _, _ => rfl) fun a b => vapp a b
  have F_init : FunD K "__init__" "Rule.__init__" (defArgs sRInit) (defBody sRInit) (defScope sRInit) [] [("left", .bl false), ("right", .bl false)] f_init (PySem.W.fnOf "__init__" "Rule.__init__" (defArgs sRInit) (defBody sRInit) (defScope sRInit) .none (.ref kd_init) dc_init pm_init an_init cd_init ct_init) := ⟨⟨_, _, _, _, _, _, _, _, _, _, rfl, l_init, c_init, .inl ⟨rfl, rfl⟩, .inr ⟨kd_init, rfl, fun q hq => by
    rcases List.mem_cons.mp hq with rfl | hq
    · exact ⟨_, kl_init, rfl⟩
    · rcases List.mem_cons.mp hq with rfl | hq
      · exact ⟨_, kr_init, rfl⟩
      · cases hq⟩⟩, k_init⟩
  obtain ⟨_, kb⟩ := F_init.kbinds0 (ps := nInit) 3 ["left", "right"] [] (fun us _ ws => us ++ ws) (by simp) (fun q hq => nomatch hq) (fun r1 _ r3 => vapp r1 r3) (fun D doc pm an cdv ct us mv ws h1 h2 h3 => match us, mv, ws, h1, h2, h3 with
    | [_, _, _], [], [_, _], _, _, _ => rfl)
  refine ⟨PySem.W.fnOf "law" "law" (defArgs sLaw) (defBody sLaw) (defScope sLaw) .none kV_law dc_law pm_law an_law cd_law ct_law, fun s v => .of_eq rfl, fun base _ _ => ?_⟩
  have B_R : ErrB l.prog w K mg base "BadRule" "part" CR := ⟨O_R, PySem.W.mg_of X G aCR, _, _, ["self", "part"], ini_R, ti_R, ok_initR R_R O_R no_part_R le_R ce_R zP, L2.Binds.all fun us hl => match us, hl with | [_, _], _ => rfl⟩
  have B_M : ErrB l.prog w K mg base "BadMove" "part" CM := ⟨O_M, PySem.W.mg_of X G aCM, _, _, ["self", "part"], ini_M, ti_M, ok_initM R_M O_M no_part_M le_M ce_M zP, L2.Binds.all fun us hl => match us, hl with | [_, _], _ => rfl⟩
  have mk' : Mk K C f_init := ⟨mk, a_init, i_init, kc⟩
  have mf : Meth K C "fits" f_fits := ⟨a_fits, i_fits, k_fits⟩
  have mp : Meth K C "places" f_plac := ⟨a_plac, i_plac, k_plac⟩
  have mal : Meth K C "all_places" f_allp := ⟨a_allp, i_allp, k_allp⟩
  have mfi : Meth K C "first_place" f_firp := ⟨a_firp, i_firp, k_firp⟩
  have co : StX.CallO K C f_call := ⟨a_call, i_call, fi_call⟩
  have cM : MulC K C f_mul f_rmul := ⟨first, a_mul, a_rmul, i_mul, i_rmul, ⟨_, im⟩, ⟨_, ir⟩, sub1, sub2⟩
  have G_letrs := ok_areLetters (P := l.prog) (w := w) (base := base) F_letrs T zS mL
  have G_init := ok_rInit F_init T M B_R zB G_letrs m_letrs k_letrs b_letrs
  have G_fits := ok_fits (P := l.prog) (w := w) (base := base) F_fits T M
  have G_firp := ok_firstP (P := l.prog) (w := w) (base := base) F_firp T M
  have G_allp := ok_allP F_allp M mfi G_firp b_firp
  have G_plac := ok_places l_plac c_plac M mal G_allp b_allp
  have G_call := ok_rCall F_call T M B_M mf G_fits b_fits
  have G_neg := ok_neg F_neg M mk' G_init kb
  have G_mul := ok_mul F_mul T M B_R mk' G_init kb
  have G_rmul := ok_rmul F_rmul cM G_mul b_mul
  have G_draw := ok_draw (P := l.prog) (w := w) (base := base) F_draw T
  have G_pick := ok_pick F_pick T G_draw m_draw k_draw b_draw
  have G_text := ok_text F_text T G_pick m_pick k_pick b_pick
  have G_drawn := ok_drawn F_drawn T G_draw m_draw k_draw b_draw G_pick m_pick k_pick b_pick G_text m_text k_text b_text
  have G_row := ok_row F_row T G_draw m_draw k_draw b_draw G_pick m_pick k_pick b_pick G_text m_text k_text b_text
  have G_fitl := ok_fitsL (P := l.prog) (w := w) (base := base) F_fitl T
  have G_led := ok_led F_led Hp_M no_part_M co G_call b_call
  have G_many := ok_many F_many M Hp_R no_part_R cM G_mul b_mul G_rmul b_rmul
  exact ok_law F_law T M mk' G_init kb (ok_pen F_pen T) m_pen k_pen b_pen G_drawn m_drawn k_drawn b_drawn G_row m_row k_row b_row G_fitl m_fitl k_fitl b_fitl G_led m_led k_led b_led G_many m_many k_many b_many mf G_fits b_fits kbF mp G_plac b_plac co G_call b_call G_neg b_neg a_neg i_neg
end Kx
set_option Elab.async false
open PySem PySem.W PyProof.Rows in
set_option maxRecDepth 100000 in
set_option maxHeartbeats 0 in
theorem PySem.Challenge.cw_rowgames_k05_where_rules_fit_holds : PySem.Challenge.rw_rowgames_k05_where_rules_fit.Holds := by
  w_on; o_law; k_head; (case hw => w_witness2)
  k_fill
  refine Rg.walkG (l := PySem.Challenge.rw_rowgames_k05_where_rules_fit) (n := 63) (k := 8) (x := "_law_script") (sp := fun w => Kx.spLaw _) rfl (by decide) rfl ⟨rfl, by decide, by decide⟩ (fun w h Y => PySem.W.kIn_of Y) ?F (fun _ _ a ns hl _ _ hS => ⟨a, ns, rfl, hS, hl, fun _ => rfl⟩)
  case F =>
    intro w mg fa h KX G hmg
    refine' Kx.all_mk KX G hmg ?aC ?aCR ?xL_R ?rv_R ?sa_R ?ex_R ?ty_R ?kC_R ?ga_R ?gg_R ?hdc_R ?ini_R ?ti_R ?le_R ?ce_R ?no_part_R ?su_R ?ve_R ?se_R ?cel_R ?cod_R ?v2_R ?fl_R ?em_R ?aCM ?xL_M ?rv_M ?sa_M ?ex_M ?ty_M ?kC_M ?ga_M ?gg_M ?hdc_M ?ini_M ?ti_M ?le_M ?ce_M ?no_part_M ?su_M ?ve_M ?se_M ?cel_M ?cod_M ?v2_M ?fl_M ?em_M ?ay ?tp ?cg ?ct ?a_letrs ?l_letrs ?c_letrs ?k_letrs ?a_pen ?l_pen ?c_pen ?k_pen ?a_draw ?l_draw ?c_draw ?k_draw ?a_pick ?l_pick ?c_pick ?k_pick ?a_text ?l_text ?c_text ?k_text ?a_drawn ?l_drawn ?c_drawn ?k_drawn ?a_row ?l_row ?c_row ?k_row ?a_fitl ?l_fitl ?c_fitl ?k_fitl ?a_led ?l_led ?c_led ?k_led ?a_many ?l_many ?c_many ?k_many ?a_law ?l_law ?c_law ?k_law ?a_init ?i_init ?l_init ?c_init ?k_init ?kl_init ?kr_init ?a_fits ?i_fits ?l_fits ?c_fits ?k_fits ?a_plac ?i_plac ?l_plac ?c_plac ?k_plac ?a_allp ?i_allp ?l_allp ?c_allp ?k_allp ?a_firp ?i_firp ?l_firp ?c_firp ?k_firp ?a_call ?i_call ?l_call ?c_call ?k_call ?a_neg ?i_neg ?l_neg ?c_neg ?k_neg ?a_mul ?i_mul ?l_mul ?c_mul ?k_mul ?a_rmul ?i_rmul ?l_rmul ?c_rmul ?k_rmul ?fi_call ?first ?im ?ir ?sub1 ?sub2 ?pg ?hdi ?po ?sat ?mk ?kc ?n_old ?n_new ?n_left ?n_right ?rdC ?gaC ?fMost ?aMost ?aL ?z_len ?z_int ?z_abs ?z_list ?z_tuple ?z_range ?z_repr ?z_isinstance ?z_all ?z_set ?z_bool ?z_str ?z_super
    (case aC => k_is)
    (case aCR => k_is)
    (case xL_R => k_is)
    (case rv_R => first | rfl | decide +kernel | k_is)
    (case sa_R => k_is)
    (case ex_R => k_is)
    (case ty_R => k_is)
    (case kC_R => k_is)
    (case ga_R => k_is)
    (case gg_R => k_is)
    (case hdc_R => k_is)
    (case ini_R => k_is)
    (case ti_R => k_is)
    (case le_R => k_is)
    (case ce_R => k_is)
    (case no_part_R => k_is)
    (case su_R => first | kernel_rfl | decide +kernel | rfl | k_is)
    (case ve_R => k_is)
    (case se_R => first | k_is | kernel_rfl | decide +kernel)
    (case cel_R => k_is)
    (case cod_R => k_is)
    (case v2_R => first | rfl | decide +kernel | k_is)
    (case fl_R => first | rfl | decide +kernel | k_is)
    (case em_R => first | kernel_rfl | decide +kernel | rfl | k_is)
    (case aCM => k_is)
    (case xL_M => k_is)
    (case rv_M => first | rfl | decide +kernel | k_is)
    (case sa_M => k_is)
    (case ex_M => k_is)
    (case ty_M => k_is)
    (case kC_M => k_is)
    (case ga_M => k_is)
    (case gg_M => k_is)
    (case hdc_M => k_is)
    (case ini_M => k_is)
    (case ti_M => k_is)
    (case le_M => k_is)
    (case ce_M => k_is)
    (case no_part_M => k_is)
    (case su_M => first | kernel_rfl | decide +kernel | rfl | k_is)
    (case ve_M => k_is)
    (case se_M => first | k_is | kernel_rfl | decide +kernel)
    (case cel_M => k_is)
    (case cod_M => k_is)
    (case v2_M => first | rfl | decide +kernel | k_is)
    (case fl_M => first | rfl | decide +kernel | k_is)
    (case em_M => first | kernel_rfl | decide +kernel | rfl | k_is)
    (case ay => k_is)
    (case tp => first | rfl | decide +kernel | k_is)
    (case cg => k_is)
    (case ct => k_is)
    (case a_letrs => k_is)
    (case l_letrs => k_is)
    (case c_letrs => k_is)
    (case k_letrs => k_is)
    (case a_pen => k_is)
    (case l_pen => k_is)
    (case c_pen => k_is)
    (case k_pen => k_is)
    (case a_draw => k_is)
    (case l_draw => k_is)
    (case c_draw => k_is)
    (case k_draw => k_is)
    (case a_pick => k_is)
    (case l_pick => k_is)
    (case c_pick => k_is)
    (case k_pick => k_is)
    (case a_text => k_is)
    (case l_text => k_is)
    (case c_text => k_is)
    (case k_text => k_is)
    (case a_drawn => k_is)
    (case l_drawn => k_is)
    (case c_drawn => k_is)
    (case k_drawn => k_is)
    (case a_row => k_is)
    (case l_row => k_is)
    (case c_row => k_is)
    (case k_row => k_is)
    (case a_fitl => k_is)
    (case l_fitl => k_is)
    (case c_fitl => k_is)
    (case k_fitl => k_is)
    (case a_led => k_is)
    (case l_led => k_is)
    (case c_led => k_is)
    (case k_led => k_is)
    (case a_many => k_is)
    (case l_many => k_is)
    (case c_many => k_is)
    (case k_many => k_is)
    (case a_law => k_is)
    (case l_law => k_is)
    (case c_law => k_is)
    (case k_law => k_is)
    (case a_init => k_is)
    (case i_init => k_is)
    (case l_init => k_is)
    (case c_init => k_is)
    (case k_init => k_is)
    (case kl_init => k_is)
    (case kr_init => k_is)
    (case a_fits => k_is)
    (case i_fits => k_is)
    (case l_fits => k_is)
    (case c_fits => k_is)
    (case k_fits => k_is)
    (case a_plac => k_is)
    (case i_plac => k_is)
    (case l_plac => k_is)
    (case c_plac => k_is)
    (case k_plac => k_is)
    (case a_allp => k_is)
    (case i_allp => k_is)
    (case l_allp => k_is)
    (case c_allp => k_is)
    (case k_allp => k_is)
    (case a_firp => k_is)
    (case i_firp => k_is)
    (case l_firp => k_is)
    (case c_firp => k_is)
    (case k_firp => k_is)
    (case a_call => k_is)
    (case i_call => k_is)
    (case l_call => k_is)
    (case c_call => k_is)
    (case k_call => k_is)
    (case a_neg => k_is)
    (case i_neg => k_is)
    (case l_neg => k_is)
    (case c_neg => k_is)
    (case k_neg => k_is)
    (case a_mul => k_is)
    (case i_mul => k_is)
    (case l_mul => k_is)
    (case c_mul => k_is)
    (case k_mul => k_is)
    (case a_rmul => k_is)
    (case i_rmul => k_is)
    (case l_rmul => k_is)
    (case c_rmul => k_is)
    (case k_rmul => k_is)
    (case fi_call => k_is)
    (case first => k_is)
    (case im => k_is)
    (case ir => k_is)
    (case sub1 => k_is)
    (case sub2 => k_is)
    (case pg => k_is)
    (case hdi => k_is)
    (case po => k_is)
    (case sat => k_is)
    (case mk => k_is)
    (case kc => k_is)
    (case n_old => k_is)
    (case n_new => k_is)
    (case n_left => k_is)
    (case n_right => k_is)
    (case rdC => first | kernel_rfl | decide +kernel | rfl | k_is)
    (case gaC => first | k_is | kernel_rfl | decide +kernel)
    (case fMost => first | kernel_rfl | decide +kernel | rfl | k_is)
    (case aMost => k_is)
    (case aL => k_is)
    (case z_len => k_is)
    (case z_int => k_is)
    (case z_abs => k_is)
    (case z_list => k_is)
    (case z_tuple => k_is)
    (case z_range => k_is)
    (case z_repr => k_is)
    (case z_isinstance => k_is)
    (case z_all => k_is)
    (case z_set => k_is)
    (case z_bool => k_is)
    (case z_str => k_is)
    (case z_super => k_is)
#print axioms PySem.Challenge.cw_rowgames_k05_where_rules_fit_holds
