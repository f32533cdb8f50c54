import PyProof.Rows.All
import Wide.All
import OpenK.AllK
import Wide.FinOn
import HandS.ForMost
import HandS.AnyAll
import HandS.Lambda
import HandS.GenList
import HandS.Walk
import HandS.Exc
import HandS.WordsExc
import HandS.Defaults
import HandS.IsInst
import HandS.Flow
import HandS.Style
import HandS.ExcOwn
import HandS.Strs
import HandS.TryMany
import HandS.Wide
import HandS.StrMore
import HandS.EndTab
import HandS.HeadEnd
import HandS.HeadHook4
import HandS.HeadWalk
import PySem.Challenge.RW_heardonce_k00_whole_topics_and_wishes
import HandS.TupLe
import KE.KStateDown
import HandS.Head0
import HandS.Head1
import HandS.Head2
import HandS.HeadHook1
import HandS.HeadHook2
import HandS.HeadHook3
set_option Elab.async false
set_option linter.all false
set_option maxRecDepth 100000
set_option maxHeartbeats 4000000
/-! all(..), any(..) of a generator expression whose element is any expression of the layer -/
namespace Gx
open PySem PySem.Spec PyProof.Rows L2 GenW

/-- the expression's own slots at its start: what they take over of the def's -/
def stG (src : List (Option Nat)) (σ : L2.St) : L2.St := src.map fun o => o.bind fun i => (σ[i]?).join
theorem ne_of_none' {H : Hp} {a b : Addr} {o : HO} (h : H a = none) (h' : H b = some o) : a ≠ b := fun e => by
  rw [e, h'] at h
  cases h
theorem stG_length (src : List (Option Nat)) (σ : L2.St) : (stG src σ).length = src.length := List.length_map ..
/-- N, sc: the def's slots and scope; Ng: the expression's slots; src: where each is taken from -/
structure GSc (N : List Str) (sc : Scope) (Ng : List Str) (src : List (Option Nat)) (scope : Scope) : Prop where
  kind : scope.kind = .function
  co : scope.isCoroutine = false
  cell : ∀ y ∈ scope.names, y.2 ≠ .cell
  dot : scope.names.lookup (".0" : Str) = some NameKind.local
  free : ∀ y ∈ scope.names, y.2 = .free → sc.names.lookup y.1 = some .cell ∨ sc.names.lookup y.1 = some .free
  nd : Ng.Nodup
  len : src.length = Ng.length
  src : ∀ (j i : Nat) (x : Str), src[j]? = some (some i) → Ng[j]? = some x → N[i]? = some x ∧ scope.names.lookup x ≠ some .local
def gscB (N : List Str) (sc : Scope) (Ng : List Str) (src : List (Option Nat)) (scope : Scope) : Bool :=
  decide (scope.kind = .function) && !scope.isCoroutine && (scope.names.all fun y => !decide (y.2 = .cell) && (!decide (y.2 = .free) || decide (sc.names.lookup y.1 = some .cell) || decide (sc.names.lookup y.1 = some .free))) &&
    decide (scope.names.lookup (".0" : Str) = some NameKind.local) && decide Ng.Nodup && decide (src.length = Ng.length) &&
    ((src.zip Ng).all fun p => match p.1 with | none => true | some i => decide (N[i]? = some p.2) && !decide (scope.names.lookup p.2 = some .local))
theorem gsc_by {N : List Str} {sc : Scope} {Ng : List Str} {src : List (Option Nat)} {scope : Scope} (h : gscB N sc Ng src scope = true) : GSc N sc Ng src scope := by
  unfold gscB at h
  simp only [Bool.and_eq_true, Bool.or_eq_true, Bool.not_eq_true', decide_eq_true_eq, decide_eq_false_iff_not, List.all_eq_true] at h
  obtain ⟨⟨⟨⟨⟨⟨h1, h2⟩, h3⟩, h4⟩, h5⟩, h6⟩, h7⟩ := h
  refine ⟨h1, h2, fun y hy => (h3 y hy).1, h4, fun y hy e => ?_, h5, h6, fun j i x e1 e2 => ?_⟩
  · rcases (h3 y hy).2 with (z | z) | z
    · exact absurd e z
    · exact .inl z
    · exact .inr z
  · have hm : ((some i, x) : Option Nat × Str) ∈ src.zip Ng := by
      refine List.mem_of_getElem? (i := j) ?_
      rw [List.getElem?_zip_eq_some]
      exact ⟨e1, e2⟩
    have q := h7 _ hm
    simp only [Bool.and_eq_true, Bool.not_eq_true', decide_eq_true_eq, decide_eq_false_iff_not] at q
    exact q

/-- the generator's frame -/
abbrev gEnv (X : Cx) (scope : Scope) (C : Addr) (code : Value) : Env := genEnv scope (cloFrom X.env.cells scope.names []) C code builtinsNs X.env
/-- the context of the expression's parts: the generator was made at s, H in the def's context X; fp: the iterator that it walks -/
abbrev gCx (X : Cx) (Ng : List Str) (A : Around) (env : Env) (s : Shared) (H : Hp) (fp : List Addr) : Cx :=
  { prog := X.prog, w := X.w, K := X.K, mg := X.mg, base := X.base, A := A, N := Ng, s_0 := s, H_0 := H, env := env, outer := X.stack, stack := env :: X.stack, ex := fp, fn := fun _ => false, calm := true, pn := [], xe := fun _ _ => False }

section
variable {X : Cx} {pins : List (Addr × Obj)} {σ : L2.St} {H : Hp} {s : Shared}
theorem g_start {Ng : List Str} {src : List (Option Nat)} {scope : Scope} {A : Around} {code it : Value} {fp : List Addr} {h' : Heap} {g' : Array GenState} {tk : Nat} (I : Inv X pins σ H s) (S : GSc X.N X.env.scope Ng src scope) (hfp : ∀ b ∈ fp, FpOk X pins H b) (hlt : ∀ b ∈ fp, b < s.heap.objs.size)
    (hA : A.handled = none) (hfr : A.frames = some (gEnv X scope s.heap.objs.size code :: X.stack)) (hn : h'.Ns s.heap.objs.size (fun y => if y = ".0" then some it else none)) (kp : ∀ b o, s.heap.get? b = some o → h'.get? b = some o) (hg : AllBare g') :
    Inv (gCx X Ng A (gEnv X scope s.heap.objs.size code) s H fp) [] (stG src σ) H { s with heap := h', gens := g', toks := tk } := by
  have hfree : ∀ y ∈ scope.names, y.2 = .free → ∃ c, X.env.cells.lookup y.1 = some c := fun y hy e => by
    rcases S.free y hy e with k | k
    · exact I.ok.has _ (.inl k)
    · exact I.ok.has _ (.inr k)
  have back : ∀ {y c}, (cloFrom X.env.cells scope.names []).lookup y = some c → X.env.cells.lookup y = some c := fun {y c} e => by
    rcases cloFrom_mem (PySem.mem_of_lookup e) with z | ⟨h1, h2⟩
    · cases z
    · obtain ⟨c1, q⟩ := hfree _ h1 rfl
      have q : X.env.cells.lookup y = some c1 := q
      rw [q] at h2
      rw [q, h2]
      rfl
  have fwd : ∀ {y}, scope.names.lookup y = some .free → ∃ c, (cloFrom X.env.cells scope.names []).lookup y = some c := fun {y} e =>
    mem_lookup (cloFrom_has (cells := X.env.cells) (acc := []) (PySem.mem_of_lookup e))
  have noCell : ∀ {y}, scope.names.lookup y ≠ some .cell := fun {y} e => S.cell _ (PySem.mem_of_lookup e) rfl
  have okG : (gCx X Ng A (gEnv X scope s.heap.objs.size code) s H fp).Ok := by
    refine ⟨I.ok.mod, S.kind, I.ok.glob, rfl, Nat.le_refl _, fun y z c e1 e2 => I.ok.inj y z c (back e1) (back e2), fun y hy => ?_, fun y c z _ => ?_, fun _ => hA, hfr, .inr ⟨rfl, rfl⟩, fun b hb => ⟨Nat.ne_of_lt (hlt b hb), fun y c e => (hfp b hb).2.2.2.2.1 y c (back e)⟩,
      I.bs, Nat.le_trans I.ok.bsz I.sz, fun b o e hb => ?_, fun b hb z => ?_, I.stack, I.stkFree⟩
    · rcases hy with q | q
      · exact absurd q noCell
      · exact fwd q
    · have z : false = true := z
      cases z
    · rcases (hfp b hb).2.2.2.1 with q | q
      · exact I.ok.noex b o e q
      · have h1 := Heap.lt_size e
        have h2 := Nat.le_trans I.ok.bsz q
        exact Nat.lt_irrefl _ (Nat.lt_of_lt_of_le h1 h2)
    · rcases List.mem_cons.mp (I.stkSub b z) with q | q
      · exact (hfp b hb).2.1 q
      · exact (hfp b hb).2.2.1 q
  refine ⟨okG, rfl, hg, Un.kept kp, ⟨_, hn, fun j x v e1 e2 e3 => ?_⟩, fun y c e => ?_, I.hok.fresh (Nat.le_refl _), fun y c e => I.freeC y c (back e), fun q hq => absurd (show q ∈ ([] : List (Addr × Obj)) ++ [] from hq) (by simp), I.hok.kept kp, ?_⟩
  · -- a slot that is taken over
    have e2' : (src[j]?).map (fun o => o.bind fun i => (σ[i]?).join) = some (some v) := by rw [← List.getElem?_map]; exact e2
    obtain ⟨o, ho, e4⟩ := Option.map_eq_some_iff.mp e2'
    cases o with
    | none => cases e4
    | some i =>
      have e5 : (σ[i]?).join = some v := e4
      have e6 : σ[i]? = some (some v) := by
        cases q : σ[i]? with
        | none => rw [q] at e5; cases e5
        | some r => rw [q] at e5; rw [show r = some v from e5]
      obtain ⟨hN, hnl⟩ := S.src j i x ho e1
      have hfr2 : scope.names.lookup x = some .free := by
        rcases (show Vis scope x from e3) with q | q | q
        · exact absurd q hnl
        · exact absurd q noCell
        · exact q
      have hX := S.free _ (PySem.mem_of_lookup hfr2) rfl
      obtain ⟨m, _, hl⟩ := I.loc
      obtain ⟨u, r, l⟩ := hl i x v hN e6 (.inr hX)
      refine ⟨u, r, .inr ⟨.inr hfr2, ?_⟩⟩
      obtain ⟨c1, hc1⟩ := fwd hfr2
      rcases l with ⟨k', _⟩ | ⟨_, c3, e', z⟩
      · have k' : X.env.scope.names.lookup x = some .local := k'
        rcases hX with q | q <;> (rw [show X.env.scope.names.lookup x = _ from q] at k'; cases k')
      · have := back hc1
        rw [e'] at this
        cases this
        obtain ⟨ob, ho2, hd2⟩ := z
        exact ⟨_, hc1, ob, kp _ _ ho2, hd2⟩
  · obtain ⟨v, ob, ho2, hd2⟩ := I.cell y c (back e)
    exact ⟨v, ob, kp _ _ ho2, hd2⟩
  · show (stG src σ).length = Ng.length
    rw [stG_length, S.len]
/-- the table of generators written -/
theorem inv_gen {g : Nat} {x : GenState} (I : Inv X pins σ H s) (hx : x.bare = true) : Inv X pins σ H (s.setGen g x) :=
  ⟨I.ok, I.os, allBare_setGen I.bare hx, I.base, I.loc, I.cell, I.free, I.freeC, I.pin, I.hok, I.len⟩
/-- one more object is pinned -/
theorem inv_pin {a : Addr} {o : Obj} (I : Inv X pins σ H s) (ha : s.heap.get? a = some o) (hn : H a = none) (hL : a ≠ X.env.locals) (hf : a ∉ X.fs) (hd : ∀ v, o.data ≠ .cell v) : Inv X ((a, o) :: pins) σ H s :=
  I.pins_of fun p hp => by
    rcases List.mem_cons.mp hp with e | e
    · rw [e]; exact ⟨ha, hn, hL, hf, hd⟩
    · exact I.pin p (List.mem_append_right _ e)
end

/-! ### the generator's own run -/
/-- ahead of turn i -/
def GSt (X : Cx) (ip : List (Addr × Obj)) (fp : List Addr) (tn : Nat → Heap → Prop) (W : L2.St → Hp → Prop) (i : Nat) (s : Shared) : Prop :=
  ∃ σ H, Inv X ip σ H s ∧ tn i s.heap ∧ (∀ b ∈ fp, H b = none) ∧ W σ H
/-- what stands where it hands out y at turn i; m: the measure there -/
def GPr (X : Cx) (ip : List (Addr × Obj)) (fp : List Addr) (tn : Nat → Heap → Prop) (W : Nat → Nat → L2.St → Hp → Prop) (Z : (L2.St → Hp → Prop) → V → L2.St → Hp → Prop) : Protocol := fun k s₀ v s kap =>
  ∃ y σ H i m, RelV y v ∧ m ≤ k ∧ Inv X ip σ H s ∧ tn (i + 1) s.heap ∧ (∀ b ∈ fp, H b = none) ∧ Z (fun σ' H' => ∃ m', m' < m ∧ W (i + 1) m' σ' H') y σ H ∧
    ∀ s'' m', m' < m → GSt X ip fp tn (W (i + 1) m') (i + 1) s'' → kap (.send .none) s''
def GFin (X : Cx) (ip : List (Addr × Obj)) (Fin : L2.St → Hp → Prop) (_ : Nat) (_ s : Shared) : Prop := ∃ σ H, Inv X ip σ H s ∧ Fin σ H
abbrev GEnd (X : Cx) (ip : List (Addr × Obj)) (Fin : L2.St → Hp → Prop) : GenEnd := fun n s₀ r s => r = .ok .next ∧ GFin X ip Fin n s₀ s
/-- the turns, as they are asked -/
def GTurn (J : It) (g : TG) (tt : TT) (te : TE) (W : Nat → Nat → L2.St → Hp → Prop) (Fin : L2.St → Hp → Prop) (Z : (L2.St → Hp → Prop) → V → L2.St → Hp → Prop) : Prop :=
  (∀ N N' : L2.St → Hp → Prop, (∀ σ H, N σ H → N' σ H) → ∀ y σ H, Z N y σ H → Z N' y σ H) ∧ ∀ i m σ H, W i m σ H → (J.stop i H ∧ Fin σ H) ∨ (J.go i H ∧ ∃ N : L2.St → Hp → Prop, (∀ σ' H', N σ' H' → ∃ m', m' < m ∧ W (i + 1) m' σ' H') ∧
    ∀ x H', J.yld i H x H' → g x σ H' fun σ2 H2 => tt σ2 H2 fun ok H3 => if ok = true then te σ2 H3 fun y H4 => Z N y σ2 H4 else N σ2 H3)
section
variable {X : Cx} {A : Around} {elt tg iter : Expr} {ifs : List Expr} {scope : Scope} {pos : Pos} {it : Addr} {fp : List Addr} {tn : Nat → Heap → Prop} {J : It} {ip : List (Addr × Obj)} {g : TG} {tt : TT} {te : TE}
  {W : Nat → Nat → L2.St → Hp → Prop} {Fin : L2.St → Hp → Prop} {Z : (L2.St → Hp → Prop) → V → L2.St → Hp → Prop}
theorem seg_turns (hc : X.calm = true) (hx : X.xe = fun _ _ => False) (hA : A.over (.compLoop (.GeneratorExp elt [⟨tg, iter, ifs, 0⟩] scope pos) 0 (.ref it) .none X.env) [] = X.A) (hex : X.ex = fp)
    (T : Turn X.prog X.w X.K tg J fp it tn) (hip : ∀ p ∈ X.pn ++ ip, ∀ b ∈ fp, p.1 ≠ b) (pg : PG X tg g) (pt : PTs X ifs tt) (pe : PE X elt te) (hco : X.env.scope.isCoroutine = false) (turn : GTurn J g tt te W Fin Z) :
    ∀ (m n i : Nat) (s₀ s : Shared), m < n → GSt X ip fp tn (W i m) i s →
      Seg (model X.prog X.w) A (GEnd X ip Fin) (GPr X ip fp tn W Z) n s₀ (.compLoop (.GeneratorExp elt [⟨tg, iter, ifs, 0⟩] scope pos) 0 (.ref it) .none X.env)
        ((model X.prog X.w).den (.compLoop (.GeneratorExp elt [⟨tg, iter, ifs, 0⟩] scope pos) 0 (.ref it) .none X.env)) [] s := by
  have noX : ∀ {α : Type} {t : Sem α} {Q : α → Shared → Prop} {E : Value → Shared → Prop} {s : Shared}, wpAny (model X.prog X.w) X.A t Q X.xe s → wpAny (model X.prog X.w) X.A t Q E s := fun {α t Q E s} h => by
    rw [hx] at h
    exact wpAny_mono h (fun _ _ q => q) fun _ _ z => z.elim
  intro m
  induction m using Nat.strongRecOn with
  | ind m ih =>
    intro n i s₀ s hmn hst
    obtain ⟨σ, H, I, st, nf, w⟩ := hst
    have stat : ∀ {σ' : L2.St} {H' : Hp} {s' : Shared}, Inv X ip σ' H' s' → (∀ b ∈ fp, H' b = none) → ∀ b ∈ fp, FpOk X ip H' b := fun {σ' H' s'} I' hn b hb =>
      ⟨hn b hb, (I'.ok.exf b (by rw [hex]; exact hb)).1, I'.ok.exfs b (by rw [hex]; exact hb), .inl (by rw [hex]; exact hb), fun x c e => (I'.ok.exf b (by rw [hex]; exact hb)).2 x c e, fun p hp => hip p hp b hb⟩
    show Seg _ A _ _ _ s₀ _ ((compTurn (.GeneratorExp elt [⟨tg, iter, ifs, 0⟩] scope pos) 0 (.ref it) .none X.env).onRaise (leaving X.env)) [] s
    rw [compTurn_gen, Sem.onRaise_eq_wrap]
    refine seg_bind_wrap (wpAny_standAt ?_)
    rcases turn.2 i m σ H w with ⟨stop, fin⟩ | ⟨go, N, hN, step⟩
    · refine seg_bind_wrap ?_
      rw [hA]
      refine wpAny_mono (T.done X rfl rfl rfl hc i ip s σ H (fun _ _ => False) I (stat I nf) st stop) (fun r s1 hr => ?_) fun _ _ z => z.elim
      obtain ⟨er, I1⟩ := hr
      subst er
      exact seg_end (.ok .next) ⟨rfl, σ, H, I1, fin⟩
    · refine seg_bind_wrap ?_
      rw [hA]
      refine wpAny_mono (T.item X rfl rfl rfl hc i ip s σ H (fun _ _ => False) I (stat I nf) st go) (fun r s1 hr => ?_) fun _ _ z => z.elim
      obtain ⟨u, er, h1⟩ := hr
      subst er
      refine seg_bind_wrap ?_
      rw [hA]
      refine wpAny_mono h1 (fun _ s2 h2 => ?_) fun _ _ z => z.elim
      obtain ⟨x, H2, I2, r2, y2, st2, nf2⟩ := h2
      have I2' := I2.pinned (stat I2 nf2) (T.obj _ _ st2)
      refine seg_bind_wrap ?_
      rw [hA]
      refine noX (thn (pg.run _ s2 σ H2 x u _ I2' r2 (step x H2 y2)) fun _ s3 h3 => ?_)
      obtain ⟨σ3, H3, I3, q3⟩ := h3
      refine seg_bind_wrap ?_
      rw [hA]
      refine noX (thn (pt.run _ s3 σ3 H3 _ I3 q3) fun ok s4 h4 => ?_)
      obtain ⟨H4, I4, q4⟩ := h4
      -- back at the turn's end
      have fin : ∀ {s' : Shared} {σ' : L2.St} {H' : Hp}, Inv X (ip ++ pinsAt fp s2.heap) σ' H' s' → Inv X ip σ' H' s' ∧ tn (i + 1) s'.heap ∧ ∀ b ∈ fp, H' b = none := fun {s' σ' H'} I' => by
        have pin' : ∀ b ∈ fp, ∀ o, s2.heap.get? b = some o → s'.heap.get? b = some o ∧ H' b = none := fun b hb o e =>
          let z := I'.pin (b, o) (List.mem_append_right _ (List.mem_append_right _ (mem_pinsAt hb e)))
          ⟨z.1, z.2.1⟩
        refine ⟨I'.unpinned, T.keep _ _ _ st2 fun b hb o e => (pin' b hb o e).1, fun b hb => ?_⟩
        obtain ⟨o, e, _⟩ := T.obj _ _ st2 b hb
        exact (pin' b hb o e).2
      cases ok with
      | false =>
        simp only [Bool.false_eq_true, if_false] at q4 ⊢
        obtain ⟨m', hm, w'⟩ := hN _ _ q4
        obtain ⟨f1, f2, f3⟩ := fin I4
        exact seg_again rfl (ih m' hm n (i + 1) s₀ s4 (by omega) ⟨σ3, H4, f1, f2, f3, w'⟩)
      | true =>
        simp only [if_true] at q4 ⊢
        have hy : ∀ v, yieldOut X.env v = yieldValue v := fun v => by simp only [yieldOut, hco, Bool.false_eq_true, if_false]
        simp only [hy]
        rw [Sem.bind_eq_wrap', Sem.bind_eq_wrap', Sem.wrap_wrap, Sem.wrap_wrap]
        refine seg_wrap ?_
        rw [hA]
        refine noX (thn (pe.run _ s4 σ3 H4 _ I4 q4) fun v s5 h5 => ?_)
        obtain ⟨y, H5, I5, r5, z5⟩ := h5
        obtain ⟨f1, f2, f3⟩ := fin I5
        obtain ⟨k, rfl⟩ : ∃ k, n = k + 1 := ⟨n - 1, by omega⟩
        refine seg_at (seg_yield rfl rfl rfl ⟨y, σ3, H5, i, m, r5, by omega, f1, f2, f3, turn.1 _ _ hN _ _ _ z5, fun s'' m' hm' hst' => ?_⟩)
        exact seg_again rfl (ih m' hm' k (i + 1) s'' s'' (by omega) hst')
theorem seg_begin (hc : X.calm = true) (hx : X.xe = fun _ _ => False) (hA : A.over (.compLoop (.GeneratorExp elt [⟨tg, iter, ifs, 0⟩] scope pos) 0 (.ref it) .none X.env) [] = X.A) (hex : X.ex = fp)
    (T : Turn X.prog X.w X.K tg J fp it tn) (hip : ∀ p ∈ X.pn ++ ip, ∀ b ∈ fp, p.1 ≠ b) (pg : PG X tg g) (pt : PTs X ifs tt) (pe : PE X elt te) (hco : X.env.scope.isCoroutine = false) (turn : GTurn J g tt te W Fin Z)
    {m n : Nat} {s₀ s : Shared} (hmn : m < n) (hst : GSt X ip fp tn (W 0 m) 0 s) :
      Seg (model X.prog X.w) A (GEnd X ip Fin) (GPr X ip fp tn W Z) n s₀ (.compStart (.GeneratorExp elt [⟨tg, iter, ifs, 0⟩] scope pos) 0 (.ref it) .none X.env)
        ((model X.prog X.w).den (.compStart (.GeneratorExp elt [⟨tg, iter, ifs, 0⟩] scope pos) 0 (.ref it) .none X.env)) [] s := by
  have loop := seg_turns hc hx hA hex T hip pg pt pe hco turn m n 0 s₀ s hmn hst
  obtain ⟨σ, H, I, st, nf, w⟩ := hst
  show Seg _ A _ _ _ s₀ _ ((compStart (.GeneratorExp elt [⟨tg, iter, ifs, 0⟩] scope pos) 0 (.ref it) .none X.env).onRaise (leaving X.env)) [] s
  unfold compStart
  rw [Sem.onRaise_eq_wrap]
  show Seg _ A _ _ _ s₀ _ ((ask >>= _).wrap _ _ _ _) [] s
  refine seg_bind_wrap (wpAny_askSetting ?_)
  split
  · exact seg_again rfl loop
  · refine seg_bind_wrap (wpAny_rule ?_)
    first
      | exact seg_bind_wrap (wpAny_standAt (seg_bind_wrap (T.self _ 0 s _ _ st (seg_again rfl loop))))
      | (show Seg _ A _ _ _ s₀ _ ((standAt iter.pos >>= _).wrap _ _ _ _) [] s; exact seg_bind_wrap (wpAny_standAt (seg_bind_wrap (T.self _ 0 s _ _ st (seg_again rfl loop)))))
end

/-! ### the consumers -/
/-- of all: at an item that is False it ends -/
def ZAll (Qf : Hp → Prop) : (L2.St → Hp → Prop) → V → L2.St → Hp → Prop := fun More y σ H => ∃ b, y = .bl b ∧ if b = true then More σ H else Qf H
/-- of any -/
def ZAny (Qt : Hp → Prop) : (L2.St → Hp → Prop) → V → L2.St → Hp → Prop := fun More y σ H => ∃ b, y = .bl b ∧ if b = true then Qt H else More σ H
section
variable {X : Cx} {ip : List (Addr × Obj)} {fp : List Addr} {tn : Nat → Heap → Prop} {W : Nat → Nat → L2.St → Hp → Prop} {Fin : L2.St → Hp → Prop} {Qf : Hp → Prop} {B : Around} {a : Addr} {g : Nat} {R : Result → Shared → Prop}
theorem all_loop (hh : B.handled = none) (hroom : B.depth < recursionLimit) (hgen : ∀ s σ H, Inv X ip σ H s → s.heap.IsGen a g)
    (hT : ∀ s σ H, Inv X ip σ H s → Fin σ H → R (.ok (.ret (.bool true))) s) (hF : ∀ s σ H, Inv X ip σ H s → Qf H → R (.ok (.ret (.bool false))) s) :
    ∀ (n : Nat) (W' : L2.St → Hp → Prop) (i : Nat) (s : Shared) (gs : GenState), g + 1 ≤ s.gens.size → s.gens[g]? = some gs →
      (∀ s'', GSt X ip fp tn W' i s'' → gs.Goes (model X.prog X.w) B.in1.in1 (GEnd X ip Fin) (GPr X ip fp tn W (ZAll Qf)) n (.send .none) s'') → GSt X ip fp tn W' i s →
      codeAny (model X.prog X.w) B (.builtin "all.loop" ⟨[.ref a], []⟩) R s := by
  intro n
  induction n with
  | zero =>
    intro W' i s gs hsz hgs hgo hst
    have go := hgo (s.setGen g .running) (by obtain ⟨σ, H, I, r⟩ := hst; exact ⟨σ, H, inv_gen I rfl, r⟩)
    obtain ⟨σ, H, I, st⟩ := hst
    refine codeAny_builtin F.entry_all_loop ?_
    rw [Around.under_plainId F.plain_all_loop _]
    show wpAny _ B.in1 (pyNext (.ref a) >>= _) _ _ s
    refine wpAny_bind (wpAny_gsz hsz (wpAny_pyNext_genexpQ (A := B.in1) (P := GFin X ip Fin) hh I.nolimit hroom (hgen s σ H I) hgs go (fun v s₁ gs' hb hv => ?_) (fun s₁ hp h' hk => ?_)))
    · obtain ⟨y, σ', H', i', m', rv, hm, I', st', nf', hz, kap⟩ := hv
      obtain ⟨b, ey, hz⟩ := hz
      subst ey
      obtain rfl : v = Value.bool b := rv
      intro hs'
      refine wpAny_bind (wpAny_holding (wpAny_truthy_bool ?_))
      refine wpAny_bind (wpAny_letGo ?_)
      cases b with
      | true =>
        obtain ⟨m2, hm2, _⟩ := hz
        exact absurd hm2 (by omega)
      | false =>
        simp only [Bool.false_eq_true, if_false]
        exact wpAny_bind (wpAny_rule (wpAny_pure (hF _ σ' H' (inv_gen I' hb) hz)))
    · obtain ⟨σ', H', I', fin⟩ := hp
      intro hs'
      refine wpAny_bind (wpAny_rule (wpAny_pure ?_))
      exact hT _ σ' H' ((inv_gen (g := g) (x := .finished) I' rfl).kept (t' := s₁.toks) hk) fin
  | succ n ih =>
    intro W' i s gs hsz hgs hgo hst
    have go := hgo (s.setGen g .running) (by obtain ⟨σ, H, I, r⟩ := hst; exact ⟨σ, H, inv_gen I rfl, r⟩)
    obtain ⟨σ, H, I, st⟩ := hst
    refine codeAny_builtin F.entry_all_loop ?_
    rw [Around.under_plainId F.plain_all_loop _]
    show wpAny _ B.in1 (pyNext (.ref a) >>= _) _ _ s
    refine wpAny_bind (wpAny_gsz hsz (wpAny_pyNext_genexpQ (A := B.in1) (P := GFin X ip Fin) hh I.nolimit hroom (hgen s σ H I) hgs go (fun v s₁ gs' hb hv => ?_) (fun s₁ hp h' hk => ?_)))
    · obtain ⟨y, σ', H', i', m', rv, hm, I', st', nf', hz, kap⟩ := hv
      obtain ⟨b, ey, hz⟩ := hz
      subst ey
      obtain rfl : v = Value.bool b := rv
      intro hs'
      refine wpAny_bind (wpAny_holding (wpAny_truthy_bool ?_))
      refine wpAny_bind (wpAny_letGo ?_)
      cases b with
      | true =>
        obtain ⟨m2, hm2, w2⟩ := hz
        simp only [if_true]
        refine wpAny_pure ⟨plainId_quiet F.plain_all_loop _, ih (W (i' + 1) m2) (i' + 1) _ gs' hs' ?_ (fun s'' hst2 => kap s'' m2 hm2 hst2) ⟨σ', H', inv_gen I' hb, st', nf', w2⟩⟩
        rw [setGen_size] at hs'
        simp only [Shared.setGen]
        rw [Array.getElem?_setIfInBounds_self_of_lt (by omega)]
      | false =>
        simp only [Bool.false_eq_true, if_false]
        exact wpAny_bind (wpAny_rule (wpAny_pure (hF _ σ' H' (inv_gen I' hb) hz)))
    · obtain ⟨σ', H', I', fin⟩ := hp
      intro hs'
      refine wpAny_bind (wpAny_rule (wpAny_pure ?_))
      exact hT _ σ' H' ((inv_gen (g := g) (x := .finished) I' rfl).kept (t' := s₁.toks) hk) fin
end

/-! ### the expression is made -/
/-- the generator's object -/
abbrev gObj (g : Nat) (q : Str) (t1 t2 : Tok) : Obj := { cls := .type "generator", data := .fields #[.int g 0, .str "<genexpr>" t1, .str q t2] }
/-- made, not begun: s4, H2 in the def's context; the generator stands at a -/
structure Made (X : Cx) (pins : List (Addr × Obj)) (σ : L2.St) (Ng : List Str) (src : List (Option Nat)) (elt tg iter : Expr) (ifs : List Expr) (scope : Scope) (gpos : Pos) (J : It) (H2 : Hp) (s4 s5 : Shared) (a : Addr) (code : Value) (it : Addr) (fp : List Addr) (tn : Nat → Heap → Prop) (go : Obj) : Prop where
  inv : Inv X pins σ H2 s4
  turn : Turn X.prog X.w X.K tg J fp it tn
  fpk : ∀ b ∈ fp, FpOk X pins H2 b
  ne : ∀ b ∈ fp, a ≠ b
  gen : ∃ t1 t2, go = gObj s4.gens.size (X.env.qual ++ "<genexpr>") t1 t2
  inG : ∀ A : Around, A.handled = none → A.frames = some (gEnv X scope s4.heap.objs.size code :: X.stack) → Inv (gCx X Ng A (gEnv X scope s4.heap.objs.size code) s4 H2 fp) [(a, go)] (stG src σ) H2 s5
  at0 : tn 0 s5.heap
  gs : s5.gens[s4.gens.size]? = some (.fresh (.compStart (.GeneratorExp elt [⟨tg, iter, ifs, 0⟩] scope gpos) 0 (.ref it) .none (gEnv X scope s4.heap.objs.size code)))
  sz : s4.gens.size + 1 ≤ s5.gens.size
theorem gObj_isGen {h : Heap} {a : Addr} {g : Nat} {q : Str} {t1 t2 : Tok} (e : h.get? a = some (gObj g q t1 t2)) : h.IsGen a g := ⟨_, _, _, e, rfl, rfl, rfl⟩
section
variable {X : Cx} {pins : List (Addr × Obj)} {σ : L2.St} {H : Hp} {s : Shared}
theorem gen_make {T : List (Addr × Str)} {c P : Addr} {k : Nat} {Ng : List Str} {src : List (Option Nat)} {elt tg iter : Expr} {ifs : List Expr} {scope : Scope} {gpos : Pos} {wi : TI} {R : It → Hp → Prop} {Q : Value → Shared → Prop}
    (hr : Room k X.A) (TB : LamX.TabB X.base X.mg c P) (hcode : X.env.code = .ref c) (hmT : (P, X.env.qual ++ "<genexpr>") ∈ T) (hu : ∀ p ∈ T, p.1 = P → p.2 = X.env.qual ++ "<genexpr>")
    (S : GSc X.N X.env.scope Ng src scope) (hi : PI X tg iter wi) (hs : ∀ v, genFold iter X.env v = pure v) (I : Inv X pins σ H s)
    (h : wi σ H fun J H1 => LamX.Tabs T H1 ∧ ∀ H2, LamX.ExtN H1 H2 → LamX.Tabs T H2 → R J H2)
    (hQ : ∀ J H2 s4 s5 a code it fp tn go, R J H2 → Made X pins σ Ng src elt tg iter ifs scope gpos J H2 s4 s5 a code it fp tn go → Q (.ref a) s5) :
    wpAny (model X.prog X.w) X.A (eval (.GeneratorExp elt [⟨tg, iter, ifs, 0⟩] scope gpos) X.env) Q X.xe s := by
  have hfree : ∀ y ∈ scope.names, y.2 = .free → ∃ c, X.env.cells.lookup y.1 = some c := fun y hy e => by
    rcases S.free y hy e with q | q
    · exact I.ok.has _ (.inl q)
    · exact I.ok.has _ (.inr q)
  refine wpAny_GeneratorExp_make S.co (closure_ok hfree) S.cell S.dot S.kind (by have := hr.dp; omega) ?_ hs
  refine thn (hi.run pins s σ H _ I h) fun xv s1 hx => thn hx fun itv s2 h2 => ?_
  obtain ⟨it, fp, tn, J, H1, e, I1, Tn, st, fk, tabs, hR⟩ := h2
  subst e
  obtain ⟨ps, hP, htr, ha⟩ := tabs _ hmT
  have hPs : s2.heap.get? P = some { cls := .none, data := .fields ps } := I1.hok P _ hP
  have cd : PySem.W.CodeHd s2.heap c P := TB.code.keeps I1.bk
  refine ⟨I1.nolimit, ?_⟩
  have nP : ∀ b ∈ fp, b ≠ P := fun b hb => ne_of_none' (fk b hb).1 hP
  -- once the code object is there
  have cont : ∀ (code : Value) (H2 : Hp) (s3 : Shared), Inv X pins σ H2 s3 → LamX.ExtN H1 H2 → LamX.Tabs T H2 → (∀ b ∈ fp, H2 b = none) → (∀ b ∈ fp, ∀ o, s2.heap.get? b = some o → s3.heap.get? b = some o) →
      wpAny (model X.prog X.w) X.A (builtinsFor X.env.globals X.env.builtins) (fun bi s₄ => ∀ h', h'.Ns s₄.heap.objs.size (fun y => if y = ".0" then some (.ref it) else none) → Heap.SameBut s₄.heap.objs.size (s₄.heap.push { cls := .type "frame", data := .dict #[] }) h' →
          Q (.ref h'.objs.size) { s₄ with
            gens := s₄.gens.push (.fresh (.compStart (.GeneratorExp elt [⟨tg, iter, ifs, 0⟩] scope gpos) 0 (.ref it) .none (genEnv scope (cloFrom X.env.cells scope.names []) s₄.heap.objs.size code bi X.env)))
            toks := s₄.toks + 1 + 1 + 1
            heap := h'.push (gObj s₄.gens.size (X.env.qual ++ "<genexpr>") (s₄.toks + 1) (s₄.toks + 1 + 1)) }) X.xe s3 := by
    intro code H2 s3 I3 eN T3 nf kf
    obtain ⟨bm, ob, b1, b2, _, b4, b5, b6, b7, b8⟩ := TB.bm.keeps I3.bk
    refine wpAny_builtinsFor (m := X.mg) (by rw [I3.ok.glob]; exact I3.mod.glob.keeps I3.bk) b1 b2 b5 b6 b7 b8 fun h' hn hsb => ?_
    have kp : ∀ b o, s3.heap.get? b = some o → h'.get? b = some o := fun b o e => hsb.extBut b o (Nat.ne_of_lt (Heap.lt_size e)) (Heap.get?_push_of_some _ e)
    have hsz : h'.objs.size = s3.heap.objs.size + 1 := by rw [hsb.1, Heap.size_push]
    have kp5 : ∀ b o, s3.heap.get? b = some o → (h'.push (gObj s3.gens.size (X.env.qual ++ "<genexpr>") (s3.toks + 1) (s3.toks + 1 + 1))).get? b = some o := fun b o e => Heap.get?_push_of_some _ (kp b o e)
    have lt3 : ∀ b ∈ fp, b < s3.heap.objs.size := fun b hb => by
      obtain ⟨o, e, _⟩ := Tn.obj _ _ st b hb
      exact Heap.lt_size (kf b hb o e)
    have hlt : s3.heap.objs.size ≤ h'.objs.size := by omega
    refine hQ J H2 s3 _ h'.objs.size code it fp tn (gObj s3.gens.size (X.env.qual ++ "<genexpr>") (s3.toks + 1) (s3.toks + 1 + 1)) (hR H2 eN T3) ⟨I3, Tn, fun b hb => ⟨nf b hb, (fk b hb).2⟩, fun b hb z => ?_, ⟨s3.toks + 1, s3.toks + 1 + 1, rfl⟩, fun A hA hfr => ?_, ?_, ?_, ?_⟩
    · have q := lt3 b hb
      rw [← z] at q
      exact absurd q (Nat.not_lt.mpr hlt)
    · have J0 := g_start (g' := s3.gens.push (.fresh (.compStart (.GeneratorExp elt [⟨tg, iter, ifs, 0⟩] scope gpos) 0 (.ref it) .none (gEnv X scope s3.heap.objs.size code)))) (tk := s3.toks + 1 + 1 + 1) I3 S (fun b hb => ⟨nf b hb, (fk b hb).2⟩) lt3 hA hfr (hn.push (gObj s3.gens.size (X.env.qual ++ "<genexpr>") (s3.toks + 1) (s3.toks + 1 + 1))) kp5 (I3.bare.push rfl)
      refine inv_pin J0 (Heap.get?_push_size _ rfl) (I3.hok.fresh hlt) (show h'.objs.size ≠ s3.heap.objs.size by omega) (fun z => ?_) fun v z => by cases z
      have z : h'.objs.size ∈ frs X.stack := z
      rcases List.mem_cons.mp (I3.stkSub _ z) with q | q
      · have q2 := I3.lt
        rw [← q] at q2
        exact absurd q2 (Nat.not_lt.mpr hlt)
      · exact I3.nofs hlt q
    · exact Tn.keep _ _ _ st fun b hb o e => kp5 b o (kf b hb o e)
    · show (s3.gens.push _)[s3.gens.size]? = _
      rw [Array.getElem?_push_size]
    · show s3.gens.size + 1 ≤ (s3.gens.push _).size
      rw [Array.size_push]
      exact Nat.le_refl _
  cases hf : codeAmong gpos ps.toList with
  | some cv =>
    refine wpAny_genexprCode_hit hcode (cd.code hPs htr) hf ?_
    exact cont cv H1 s2 I1 (LamX.ExtN.refl _) tabs (fun b hb => (fk b hb).1) fun _ _ _ e => e
  | none =>
    refine wpAny_genexprCodeX hcode (cd.code hPs htr) (cd.tab hPs) hf fun c' h' tk hx hge hclt _ hrec htab _ => ?_
    obtain ⟨c2, oc, vs, t, e2, hoc, hd, hv⟩ := hrec
    cases e2
    have I3 := LamX.inv_table (t' := tk) (more := #[rawInt gpos.line, rawInt gpos.col, .ref c']) (h' := h') I1 hP hx htab.2 hge ⟨oc, vs, t, hoc, hd, hv⟩
    have nC : H1 c' = none := I1.hok.fresh hge
    have hE : LamX.ExtN H1 (upd (upd H1 P (.tbl (ps ++ #[rawInt gpos.line, rawInt gpos.col, .ref c']))) c' (LamX.CodeO c' (X.env.qual ++ "<genexpr>"))) := fun b o e n => by
      rw [upd_ne (ne_of_none e nC), upd_ne (fun z => n ps (Option.some.inj (e.symm.trans (by rw [z]; exact hP))))]
      exact e
    have eL : (ps ++ #[rawInt gpos.line, rawInt gpos.col, Value.ref c']).toList = ps.toList ++ [rawInt gpos.line, rawInt gpos.col, .ref c'] := by simp
    refine cont (.ref c') _ _ I3 hE (fun p hp => ?_) (fun b hb => ?_) fun b hb o e => hx b o (nP b hb) e
    · by_cases hb : p.1 = P
      · rw [hu p hp hb, hb]
        refine ⟨_, by rw [upd_ne (ne_of_none hP nC), upd_same], by rw [eL]; exact PySem.TriplesOk_snoc _ _ _ _ htr, fun p' cv hcv => ?_⟩
        rw [eL] at hcv
        rcases LamX.among_app _ htr hcv with z | z
        · obtain ⟨c0, e1, e2⟩ := ha p' cv z
          exact ⟨c0, e1, hE _ _ e2 LamX.codeO_ne⟩
        · exact ⟨c', z, upd_same⟩
      · obtain ⟨ps', a1, a2, a3⟩ := tabs p hp
        refine ⟨ps', by rw [upd_ne (ne_of_none a1 nC), upd_ne hb]; exact a1, a2, fun p' cv hcv => ?_⟩
        obtain ⟨c0, e1, e2⟩ := a3 p' cv hcv
        exact ⟨c0, e1, hE _ _ e2 LamX.codeO_ne⟩
    · obtain ⟨o, e, _⟩ := Tn.obj _ _ st b hb
      rw [upd_ne (Nat.ne_of_lt (Nat.lt_of_lt_of_le (Heap.lt_size e) hge)), upd_ne (nP b hb)]
      exact (fk b hb).1
/-- the around of the expression's parts -/
abbrev gA (X : Cx) (elt tg iter : Expr) (ifs : List Expr) (scope : Scope) (gpos : Pos) (it : Addr) (env : Env) : Around := X.A.in1.in1.over (.compLoop (.GeneratorExp elt [⟨tg, iter, ifs, 0⟩] scope gpos) 0 (.ref it) .none env) []
def tAllG (T : List (Addr × Str)) (src : List (Option Nat)) (wi : TI) (g : TG) (tt : TT) (te : TE) : TE := fun σ H Q => wi σ H fun J H1 => LamX.Tabs T H1 ∧ ∀ H2, LamX.ExtN H1 H2 → LamX.Tabs T H2 →
  ∃ W, (∃ m, W 0 m (stG src σ) H2) ∧ GTurn J g tt te W (fun _ H' => Q (.bl true) H') (ZAll fun H' => Q (.bl false) H')
/-- all(elt for tg in iter if ..) -/
theorem pe_allG {T : List (Addr × Str)} {c P : Addr} {k : Nat} {Ng : List Str} {src : List (Option Nat)} {elt tg iter : Expr} {ifs : List Expr} {scope : Scope} {p pos gpos : Pos} {wi : TI} {g : TG} {tt : TT} {te : TE}
    (hr : Room (k + 1) X.A) (hg : Gl X "all") (hm : X.mg "all" = none) (TB : LamX.TabB X.base X.mg c P) (hcode : X.env.code = .ref c) (hmT : (P, X.env.qual ++ "<genexpr>") ∈ T) (hu : ∀ p ∈ T, p.1 = P → p.2 = X.env.qual ++ "<genexpr>")
    (S : GSc X.N X.env.scope Ng src scope) (hi : PI X tg iter wi)
    (pg : ∀ (A : Around) (C : Addr) (code : Value) (s : Shared) (H : Hp) (fp : List Addr), Room k A → PG (gCx X Ng A (gEnv X scope C code) s H fp) tg g)
    (pt : ∀ (A : Around) (C : Addr) (code : Value) (s : Shared) (H : Hp) (fp : List Addr), Room k A → PTs (gCx X Ng A (gEnv X scope C code) s H fp) ifs tt)
    (pe : ∀ (A : Around) (C : Addr) (code : Value) (s : Shared) (H : Hp) (fp : List Addr), Room k A → PE (gCx X Ng A (gEnv X scope C code) s H fp) elt te)
    (hb : bootBuiltins "all" = some (.builtin "all") := by decide +kernel) (hs : ∀ v, genFold iter X.env v = pure v := by intro _; rfl)
    (he : starEach [.GeneratorExp elt [⟨tg, iter, ifs, 0⟩] scope gpos] X.env = (false, eval (.GeneratorExp elt [⟨tg, iter, ifs, 0⟩] scope gpos) X.env) :: starEach [] X.env := by rfl) :
    PE X (.Call (.Name "all" p) [.GeneratorExp elt [⟨tg, iter, ifs, 0⟩] scope gpos] [] pos) (tAllG T src wi g tt te) := by
  refine ⟨fun pins s σ H Q I h => ?_⟩
  refine wpAny_Call_Name_kw (ld_blt I hg hm hb ?_)
  refine PyProof.Rows.callWith_builtin1 ?_ he (by rfl)
  rw [he]
  show wpAny _ _ (spliced ((false, eval (.GeneratorExp elt [⟨tg, iter, ifs, 0⟩] scope gpos) X.env) :: backTo pos (starEach [] X.env))) _ _ s
  refine Calls.spliced_cons (gen_make (Ng := Ng) (src := src) (hr.mono (Nat.le_succ k)) TB hcode hmT hu S hi hs I h fun J H2 s4 s5 a code it fp tn go hR M => ?_)
  obtain ⟨W, ⟨m, w0⟩, turn⟩ := hR
  refine Calls.spliced_nil ?_
  obtain ⟨t1, t2, ego⟩ := M.gen
  have hfr : (gA X elt tg iter ifs scope gpos it (gEnv X scope s4.heap.objs.size code)).frames = some (gEnv X scope s4.heap.objs.size code :: X.stack) := by
    show pushEnvs [gEnv X scope s4.heap.objs.size code] X.A.frames = _
    rw [M.inv.ok.frames]
    rfl
  have hrA : Room k (gA X elt tg iter ifs scope gpos it (gEnv X scope s4.heap.objs.size code)) := by
    refine ⟨hr.hd, ?_, ?_⟩
    · have := hr.dp
      show X.A.depth + 1 + 3 * k + 5 < _
      omega
    · have := hr.un
      show X.A.units + 1 + 1 + 3 + 16 * k + 200 < _
      omega
  have IG := M.inG (gA X elt tg iter ifs scope gpos it (gEnv X scope s4.heap.objs.size code)) hr.hd hfr
  have isG : ∀ s' σ' H', Inv (gCx X Ng (gA X elt tg iter ifs scope gpos it (gEnv X scope s4.heap.objs.size code)) (gEnv X scope s4.heap.objs.size code) s4 H2 fp) [(a, go)] σ' H' s' → s'.heap.IsGen a s4.gens.size := fun s' σ' H' I' => by
    have e := (I'.pin (a, go) (List.mem_append_right _ (List.mem_singleton.mpr rfl))).1
    rw [ego] at e
    exact gObj_isGen e
  have back : ∀ (s' : Shared) (σ' : L2.St) (H' : Hp) (b : Bool), Inv (gCx X Ng (gA X elt tg iter ifs scope gpos it (gEnv X scope s4.heap.objs.size code)) (gEnv X scope s4.heap.objs.size code) s4 H2 fp) [(a, go)] σ' H' s' → Q (.bl b) H' → EP X pins σ Q (.bool b) s' := fun s' σ' H' b I' q =>
    ⟨.bl b, H', M.inv.call' (ch := fp) I'.os I'.base I'.hok I'.bare fun x hx => ⟨(M.fpk x hx).2.2.2.1, (M.fpk x hx).2.1, (M.fpk x hx).2.2.2.2.1, (M.fpk x hx).2.2.2.2.2⟩, rfl, q⟩
  refine call_function_tree F.kind_all F.plain_all F.entry_all (F.args_all1 _) ?_
  unfold Builtin.«all»
  refine wpAny_bind (m := oneArg "all" _) (wpAny_pure (wpAny_bind (wpAny_pyIter_gen (isG _ _ _ IG) (wpAny_pure ⟨plainId_quiet F.plain_all_loop _, ?_⟩))))
  have begun : ∀ s'', GSt (gCx X Ng (gA X elt tg iter ifs scope gpos it (gEnv X scope s4.heap.objs.size code)) (gEnv X scope s4.heap.objs.size code) s4 H2 fp) [(a, go)] fp tn (W 0 m) 0 s'' →
      (GenState.fresh (.compStart (.GeneratorExp elt [⟨tg, iter, ifs, 0⟩] scope gpos) 0 (.ref it) .none (gEnv X scope s4.heap.objs.size code))).Goes (model X.prog X.w) X.A.in1.in1 (GEnd (gCx X Ng (gA X elt tg iter ifs scope gpos it (gEnv X scope s4.heap.objs.size code)) (gEnv X scope s4.heap.objs.size code) s4 H2 fp) [(a, go)] (fun _ H' => Q (.bl true) H')) (GPr (gCx X Ng (gA X elt tg iter ifs scope gpos it (gEnv X scope s4.heap.objs.size code)) (gEnv X scope s4.heap.objs.size code) s4 H2 fp) [(a, go)] fp tn W (ZAll fun H' => Q (.bl false) H')) (m + 1) (.send .none) s'' := fun s'' hst =>
    ⟨rfl, seg_begin (X := gCx X Ng (gA X elt tg iter ifs scope gpos it (gEnv X scope s4.heap.objs.size code)) (gEnv X scope s4.heap.objs.size code) s4 H2 fp) rfl rfl rfl rfl M.turn (fun p hp b hb => by
      have : p = (a, go) := List.mem_singleton.mp (show p ∈ [(a, go)] from hp)
      rw [this]
      exact M.ne b hb) (pg _ _ _ _ _ _ hrA) (pt _ _ _ _ _ _ hrA) (pe _ _ _ _ _ _ hrA) S.co turn (Nat.lt_succ_self m) hst⟩
  exact all_loop (X := gCx X Ng (gA X elt tg iter ifs scope gpos it (gEnv X scope s4.heap.objs.size code)) (gEnv X scope s4.heap.objs.size code) s4 H2 fp) (ip := [(a, go)]) (fp := fp) (tn := tn) (W := W) (Fin := fun _ H' => Q (.bl true) H') (Qf := fun H' => Q (.bl false) H') (g := s4.gens.size)
    hr.hd (by have := hr.dp; omega) isG (fun s' σ' H' I' q => back s' σ' H' true I' q) (fun s' σ' H' I' q => back s' σ' H' false I' q) (m + 1) (W 0 m) 0 s5 _ M.sz M.gs begun ⟨stG src σ, H2, IG, M.at0, fun b hb => (M.fpk b hb).1, w0⟩
end

theorem zall_mono {Qf : Hp → Prop} (N N' : L2.St → Hp → Prop) (h : ∀ σ H, N σ H → N' σ H) (y : V) (σ : L2.St) (H : Hp) (z : ZAll Qf N y σ H) : ZAll Qf N' y σ H := by
  obtain ⟨b, e, q⟩ := z
  refine ⟨b, e, ?_⟩
  cases b with
  | true => exact h _ _ q
  | false => exact q
/-- the turns of all over a walk: Pv by the turn, the slots and the heap -/
theorem all_by {J : It} {n : Nat} {G : Hp → Prop} {Y : Nat → Hp → V → Hp → Prop} (w : Walk J n G Y) {g : TG} {tt : TT} {te : TE} {σ : L2.St} {H : Hp} {Q : VK} (Pv : Nat → L2.St → Hp → Prop) (h0 : Pv 0 σ H) (hG : ∀ i σ H, i ≤ n → Pv i σ H → G H)
    (hs : ∀ i x σ H H', i < n → Pv i σ H → Y i H x H' → g x σ H' fun σ2 H2 => tt σ2 H2 fun ok H3 => if ok = true then te σ2 H3 fun y H4 => ∃ b, y = .bl b ∧ (if b = true then Pv (i + 1) σ2 H4 else Q (.bl false) H4) else Pv (i + 1) σ2 H3)
    (hd : ∀ σ H, Pv n σ H → Q (.bl true) H) : ∃ W : Nat → Nat → L2.St → Hp → Prop, (∃ m, W 0 m σ H) ∧ GTurn J g tt te W (fun _ H' => Q (.bl true) H') (ZAll fun H' => Q (.bl false) H') := by
  refine ⟨fun i m σ H => m = n - i ∧ i ≤ n ∧ Pv i σ H, ⟨n, by simp, Nat.zero_le _, h0⟩, zall_mono, ?_⟩
  rintro i m σ H ⟨rfl, hi, p⟩
  have q := hG i σ H hi p
  by_cases hlt : i < n
  · exact .inr ⟨w.goes i H hlt q, Pv (i + 1), fun σ' H' p' => ⟨n - (i + 1), by omega, rfl, hlt, p'⟩, fun x H' y => hs i x σ H H' hlt p (w.yields i H x H' hlt q y)⟩
  · have e : i = n := by omega
    subst e
    exact .inl ⟨w.stops H q, hd σ H p⟩
/-- .. of a list's items: f their truths -/
theorem all_in {α : Type} {J : It} {xs : List α} {G : Hp → Prop} {Y : Nat → Hp → V → Hp → Prop} (w : Walk J xs.length G Y) {g : TG} {te : TE} {σ : L2.St} {H : Hp} {Q : VK} (f : α → Bool) (Pv : L2.St → Hp → Prop) (h0 : Pv σ H) (hG : ∀ σ H, Pv σ H → G H)
    (hs : ∀ i a x σ H H', xs[i]? = some a → Pv σ H → Y i H x H' → ∀ (R : Bool → L2.St → Hp → Prop), (∀ σ2 H4, Pv σ2 H4 → R (f a) σ2 H4) → g x σ H' fun σ2 H2 => te σ2 H2 fun y H4 => ∃ b, y = .bl b ∧ R b σ2 H4)
    (hd : ∀ σ H, Pv σ H → Q (.bl (xs.all f)) H) : ∃ W : Nat → Nat → L2.St → Hp → Prop, (∃ m, W 0 m σ H) ∧ GTurn J g tYes te W (fun _ H' => Q (.bl true) H') (ZAll fun H' => Q (.bl false) H') := by
  refine all_by w (fun i σ H => Pv σ H ∧ ∀ a ∈ xs.take i, f a = true) ⟨h0, fun a ha => by simp at ha⟩ (fun i σ H _ p => hG σ H p.1) (fun i x σ H H' hi p y => ?_) fun σ H p => ?_
  · have ei : xs[i]? = some xs[i] := List.getElem?_eq_getElem hi
    refine hs i xs[i] x σ H H' ei p.1 y (fun b σ2 H4 => if b = true then Pv σ2 H4 ∧ ∀ a ∈ xs.take (i + 1), f a = true else Q (.bl false) H4) fun σ2 H4 p4 => ?_
    cases e : f xs[i] with
    | true =>
      refine ⟨p4, fun a ha => ?_⟩
      rw [List.take_add_one, ei] at ha
      rcases List.mem_append.mp ha with q | q
      · exact p.2 a q
      · rw [List.mem_singleton.mp q]; exact e
    | false =>
      have q := hd _ _ p4
      have e2 : xs.all f = false := by
        rw [List.all_eq_false]
        exact ⟨xs[i], List.getElem_mem hi, by rw [e]; simp⟩
      rw [e2] at q
      exact q
  · have e : xs.all f = true := by
      rw [List.all_eq_true]
      intro a ha
      refine p.2 a ?_
      rw [List.take_length]
      exact ha
    have q := hd _ _ p.1
    rw [e] at q
    exact q
end Gx

set_option Elab.async false
set_option linter.all false
set_option maxRecDepth 100000
set_option maxHeartbeats 4000000
namespace Bk
open PySem PySem.Spec PyProof.Rows L2
/-! ### a def of the top by its name -/
section
variable (P : Program) (w : World) (K : PySem.W.Frag) (mg : Str → Option Value) (base : Heap)
/-- the def of this name keeps the promise sp -/
def Has (CX : CXT) (k : Nat) (x : Str) (ps : List Str) (sp : Sp) : Prop :=
  ∃ fd, Binds K fd ps [] ∧ PySem.W.keepIn K (.ref (He.ga K x)) = true ∧ mg x = some (.ref (He.ga K x)) ∧ FnOk P w K mg base CX k (He.ga K x) fd ps sp ∧ ∃ oc od osl, K.lookup (He.ga K x) = some ⟨oc, od, .func fd, osl⟩
/-- it stands there, as the text has it -/
def At (x : Str) (st : Stmt) : Prop := mg x = some (.ref (He.ga K x)) ∧ ∃ fd, FunD K x x (defArgs st) (defBody st) (defScope st) [] [] (He.ga K x) fd
end
abbrev cdv (K : PySem.W.Frag) (x : Str) : Value := .ref (He.codeOf K (x, none))
section
variable {P : Program} {w : World} {K : PySem.W.Frag} {mg : Str → Option Value} {base : Heap}
theorem At.ok {CX : CXT} {x : Str} {st : Stmt} {N ps : List Str} {k : Nat} {sp : Sp} (F : At K mg x st) (S : FnScope N ps (defScope st))
    (hb : ∀ (kV doc pm : Value) (an : Option Addr) (cd ct : Value) (us : List Value), us.length = ps.length → bindArgs (PySem.W.fnOf x x (defArgs st) (defBody st) (defScope st) .none kV doc pm an cd ct) ⟨us, []⟩ = pure (ps.zip us))
    (len : ∀ vs H Q E, sp vs H Q E → vs.length = ps.length)
    (hbody : ∀ (A : Around) (outer : List Env) (s : Shared) (H : Hp) (vs : List V) (Q : VK) (E : XK), Room k (A.deeper (envOfC x (defScope st) s.heap.objs.size (He.ga K x) (cdv K x))) → sp vs H Q E →
      ∃ t, PSs (cxOf CX P w K mg base N x (defScope st) (He.ga K x) (cdv K x) A outer s H E) (defBody st) t ∧ t { nx := fun _ H' => Q .non H', rt := Q } (start N vs) H) : Has P w K mg base CX (k + 1) x ps sp := by
  obtain ⟨gm, fd, F⟩ := F
  have bn := F.bindsN hb
  have kp := F.kp
  obtain ⟨oc, od, dV, kV, doc, pm, an, cd, ct, osl, rfl, lk, hcd, _, _⟩ := F.ex
  refine ⟨_, bn, kp, gm, ?_, _, _, _, lk⟩
  obtain ⟨c, rfl⟩ := He.codeIn_ref hcd
  have e : He.codeOf K (x, none) = c := He.codeOf_eq (p := (x, none)) lk rfl
  refine fn_of lk hcd S len fun A outer s H vs Q E hr hsp => ?_
  have q := hbody A outer s H vs Q E
  rw [cdv, e] at q
  exact q hr hsp
/-- where nothing is raised -/
theorem At.ok0 {x : Str} {st : Stmt} {N ps : List Str} {k : Nat} {sp : Sp} (F : At K mg x st) (S : FnScope N ps (defScope st))
    (hb : ∀ (kV doc pm : Value) (an : Option Addr) (cd ct : Value) (us : List Value), us.length = ps.length → bindArgs (PySem.W.fnOf x x (defArgs st) (defBody st) (defScope st) .none kV doc pm an cd ct) ⟨us, []⟩ = pure (ps.zip us))
    (len : ∀ vs H Q E, sp vs H Q E → vs.length = ps.length)
    (hbody : ∀ (A : Around) (outer : List Env) (s : Shared) (H : Hp) (vs : List V) (Q : VK) (E : XK), Room k (A.deeper (envOfC x (defScope st) s.heap.objs.size (He.ga K x) (cdv K x))) → sp vs H Q E →
      ∃ t, PSs (cxOf CX0 P w K mg base N x (defScope st) (He.ga K x) (cdv K x) A outer s H E).nox (defBody st) t ∧ t { nx := fun _ H' => Q .non H', rt := Q } (start N vs) H) : Has P w K mg base CX0 (k + 1) x ps sp :=
  F.ok S hb len fun A outer s H vs Q E hr h => let ⟨t, h1, h2⟩ := hbody A outer s H vs Q E hr h; ⟨t, h1.nox, h2⟩
end
section
variable {X : Cx} {CX : CXT} {k : Nat} {x : Str} {ps : List Str} {sp : Sp} {E : XK}
/-- x(e, ..) -/
theorem Has.call {e : Expr} {es : List Expr} {t : TA} {p pos : Pos} (h : Has X.prog X.w X.K X.mg X.base CX k x ps sp) (hr : Room k X.A) (hx : Passes CX X E) (ha : PA X (e :: es) t) (hg : Gl X x := by rfl) (hdb : (x == ("__debug__" : Str)) = false := by decide)
    (he : starEach (e :: es) X.env = (false, eval e X.env) :: starEach es X.env := by rfl) (hpl : (backTo pos (starEach es X.env)).any (·.1) = false := by rfl) : PE X (.Call (.Name x p) (e :: es) [] pos) (tCall sp [] E t) := by
  obtain ⟨fd, b, kp, gm, F, _⟩ := h
  exact pe_call F hr hg gm kp b .nil hx ha hdb he hpl
theorem Has.mono {P : Program} {w : World} {K : PySem.W.Frag} {mg : Str → Option Value} {base : Heap} {j : Nat} (h : Has P w K mg base CX j x ps sp) (hk : j ≤ k) : Has P w K mg base CX k x ps sp := by
  obtain ⟨fd, b, kp, gm, F, lk⟩ := h
  exact ⟨fd, b, kp, gm, F.mono hk, lk⟩
/-- the function object is the one that stands there -/
theorem Has.fn {P : Program} {w : World} {K : PySem.W.Frag} {mg : Str → Option Value} {base : Heap} {fd : FuncData} {q : Str} {pr : Arguments} {bd : List Stmt} {sc : Scope} {dvs : List V} {kws : List (Str × V)} (h : Has P w K mg base CX k x ps sp) (F : FunD K x q pr bd sc dvs kws (He.ga K x) fd) :
    FnOk P w K mg base CX k (He.ga K x) fd ps sp := by
  obtain ⟨fd2, _, _, _, F2, oc, od, osl, lk⟩ := h
  obtain ⟨oc1, od1, dV, kV, doc, pm, an, cd, ct, osl1, _, lk1, _, _, _⟩ := F.ex
  rw [lk] at lk1
  injection lk1 with e
  injection e with e1 e2 e3 e4
  injection e3 with e5
  rw [← e5]
  exact F2
end
/-! ### heaps and tables -/
abbrev Tbs := List (Addr × Str)
/-- H' goes on from H: what stood stands, the tables of code objects may have grown -/
structure Gr (T : Tbs) (H H' : Hp) : Prop where
  ext : LamX.ExtN H H'
  tabs : LamX.Tabs T H'
theorem Gr.refl {T : Tbs} {H : Hp} (h : LamX.Tabs T H) : Gr T H H := ⟨LamX.ExtN.refl H, h⟩
theorem Gr.trans {T : Tbs} {H H1 H2 : Hp} (a : Gr T H H1) (b : Gr T H1 H2) : Gr T H H2 := ⟨a.ext.trans b.ext, b.tabs⟩
theorem Gr.new {T : Tbs} {H : Hp} (h : LamX.Tabs T H) {p : Addr} (hp : H p = none) (o : HO) : Gr T H (upd H p o) := by
  have e : ∀ b u, H b = some u → upd H p o b = some u := fun b u q => by rw [upd_ne (ne_of_none q hp)]; exact q
  exact ⟨LamX.ExtN.of e, h.ext e⟩
theorem Gr.lst {T : Tbs} {H H' : Hp} (g : Gr T H H') {a : Addr} {xs : List V} (h : H a = some (.lst xs)) : H' a = some (.lst xs) := g.ext a _ h (fun _ z => by cases z)
theorem Gr.tup {T : Tbs} {H H' : Hp} (g : Gr T H H') {a : Addr} {xs : List V} (h : H a = some (.tup xs)) : H' a = some (.tup xs) := g.ext a _ h (fun _ z => by cases z)
/-! ### any value, as far as isinstance with str asks -/
/-- a text that is not too long, None, an int, a bool, a list or a tuple -/
def AnyV (_ : PySem.W.Frag) (H : Hp) (x : V) : Prop := (∃ z, x = .str z ∧ z.length ≤ 1000) ∨ x = .non ∨ (∃ i, x = .int i) ∨ (∃ b, x = .bl b) ∨ ∃ a xs, x = .ref a ∧ (H a = some (.lst xs) ∨ H a = some (.tup xs))
theorem AnyV.gr {K : PySem.W.Frag} {T : Tbs} {H H' : Hp} {x : V} (g : Gr T H H') (h : AnyV K H x) : AnyV K H' x := by
  rcases h with h | h | h | h | ⟨a, xs, e, h | h⟩
  · exact .inl h
  · exact .inr (.inl h)
  · exact .inr (.inr (.inl h))
  · exact .inr (.inr (.inr (.inl h)))
  · exact .inr (.inr (.inr (.inr ⟨a, xs, e, .inl (g.lst h)⟩)))
  · exact .inr (.inr (.inr (.inr ⟨a, xs, e, .inr (g.tup h)⟩)))
theorem AnyV.isi {K : PySem.W.Frag} {H : Hp} {x : V} (h : AnyV K H x) : ∃ t b, TyX K H x t ∧ PySem.W.kitOne K t (.type "str") = some b ∧ ((b = true ∧ ∃ z, x = .str z ∧ z.length ≤ 1000) ∨ (b = false ∧ ∀ z, x ≠ .str z)) := by
  rcases h with ⟨z, rfl, hz⟩ | rfl | ⟨i, rfl⟩ | ⟨b, rfl⟩ | ⟨a, xs, rfl, h | h⟩
  · exact ⟨_, true, .base (.str z), kit_ty (by decide +kernel), .inl ⟨rfl, z, rfl, hz⟩⟩
  · exact ⟨_, false, .base .non, kit_ty (by decide +kernel), .inr ⟨rfl, fun z q => by cases q⟩⟩
  · exact ⟨_, false, .base (.int i), kit_ty (by decide +kernel), .inr ⟨rfl, fun z q => by cases q⟩⟩
  · exact ⟨_, false, .base (.bl b), kit_ty (by decide +kernel), .inr ⟨rfl, fun z q => by cases q⟩⟩
  · exact ⟨_, false, .base (.lst h), kit_ty (by decide +kernel), .inr ⟨rfl, fun z q => by cases q⟩⟩
  · exact ⟨_, false, .base (.tup h), kit_ty (by decide +kernel), .inr ⟨rfl, fun z q => by cases q⟩⟩
end Bk

set_option Elab.async false
set_option linter.all false
set_option maxRecDepth 100000
set_option maxHeartbeats 4000000
namespace Bk
open PySem PySem.Spec PyProof.Rows L2
/-! ### a list comprehension over any walk, each item of which makes one; all(..), any(..) of it -/
theorem lx_tabs {T : Tbs} {a : Addr} {H : Hp} {xs ys : List V} (t : LamX.Tabs T H) (h : H a = some (.lst xs)) : LamX.Tabs T (upd H a (.lst ys)) := by
  intro p hp
  obtain ⟨ps, h1, h2, h3⟩ := t p hp
  refine ⟨ps, ?_, h2, fun pos cv hc => ?_⟩
  · rw [upd_ne (fun e => by rw [e, h] at h1; cases h1)]; exact h1
  · obtain ⟨c, e1, e2⟩ := h3 pos cv hc
    refine ⟨c, e1, ?_⟩
    rw [upd_ne (fun e => by rw [e, h] at e2; cases e2)]
    exact e2
/-- a new list of one's own may change -/
theorem Gr.own1 {T : Tbs} {D : Addr} {H H' : Hp} {xs ys : List V} (g : Gr T H H') (hD : H D = none) (e : H' D = some (.lst xs)) : Gr T H (upd H' D (.lst ys)) := by
  refine ⟨fun b o h z => ?_, lx_tabs g.tabs e⟩
  rw [upd_ne (fun q => by rw [q, hD] at h; cases h)]
  exact g.ext b o h z
theorem lx_yes {σ : L2.St} {H : Hp} {A B : Hp → Prop} (h : A H) : tYes σ H fun b H3 => if b = true then A H3 else B H3 := by
  unfold tYes
  show (if true = true then A H else B H)
  rw [if_pos rfl]
  exact h
/-- the i-th item makes f of it; the list itself is not changed by the block -/
theorem lc_gr {T : Tbs} {α : Type} {J : It} {G : Hp → Prop} {Y : Nat → Hp → V → Hp → Prop} {xs : List α} (w : Walk J xs.length G Y) (f : α → V) {g : TG} {tt : TT} {te : TE} {vs : List Nat} {σ : L2.St} {H1 : Hp} {D : Addr} {Qd : Hp → Prop} (tb : LamX.Tabs T H1) (hD : H1 D = none) (hsz : xs.length ≤ sizeLine)
    (hG : ∀ H, Gr T H1 H → G H)
    (hs : ∀ i a x H H', xs[i]? = some a → Gr T H1 H → Y i H x H' → ∀ (Ok : V → Hp → Prop) (No : Hp → Prop), (∀ H4, Gr T H H4 → Ok (f a) H4) → g x (wipe σ vs) H' fun σ2 H2 => wipe σ2 vs = wipe σ vs ∧ tt σ2 H2 fun b H3 => if b = true then te σ2 H3 fun y H4 => Ok y H4 else No H3)
    (hd : ∀ H, Gr T H1 H → H D = some (.lst (xs.map f)) → Qd H) :
    ∃ W : Nat → Nat → Hp → Prop, (∃ m, W 0 m (upd H1 D (.lst []))) ∧ ∀ i m H, W i m H →
      (J.stop i H ∧ Qd H) ∨ (J.go i H ∧ ∃ Nx : Hp → Prop, (∀ H', Nx H' → ∃ m', m' < m ∧ W (i + 1) m' H') ∧ ∀ x H', J.yld i H x H' → g x (wipe σ vs) H' fun σ2 H2 => wipe σ2 vs = wipe σ vs ∧ tt σ2 H2 fun b H3 =>
        if b = true then te σ2 H3 fun y H4 => ∃ acc, H4 D = some (.lst acc) ∧ acc.length < sizeLine ∧ Nx (upd H4 D (.lst (acc ++ [y]))) else Nx H3) := by
  refine lc_it (n := xs.length) w (fun i H => Gr T H1 H ∧ H D = some (.lst ((xs.take i).map f))) ⟨Gr.new tb hD _, by rw [List.take_zero]; exact upd_same⟩ (fun i H _ p => hG H p.1) (fun i x H H' hi p y => ?_) fun H p => hd H p.1 (by rw [p.2, List.take_length])
  obtain ⟨a, ea⟩ : ∃ a, xs[i]? = some a := ⟨xs[i], by simp [hi]⟩
  refine hs i a x H H' ea p.1 y (fun y H4 => ∃ acc, H4 D = some (.lst acc) ∧ acc.length < sizeLine ∧ (Gr T H1 (upd H4 D (.lst (acc ++ [y]))) ∧ (upd H4 D (.lst (acc ++ [y]))) D = some (.lst ((xs.take (i + 1)).map f)))) _ fun H4 g4 => ?_
  have e4 := g4.lst p.2
  refine ⟨_, e4, ?_, (p.1.trans g4).own1 hD e4, ?_⟩
  · rw [List.length_map, List.length_take]
    exact Nat.lt_of_lt_of_le (Nat.lt_of_le_of_lt (Nat.min_le_left _ _) hi) hsz
  · rw [upd_same, List.take_succ, ea, List.map_append]
    rfl
theorem all_bl {α : Type} (xs : List α) (f : α → Bool) : (xs.map f).all id = xs.all f := by
  rw [List.all_map]; rfl
theorem any_bl {α : Type} (xs : List α) (f : α → Bool) : (xs.map f).any id = xs.any f := by
  rw [List.any_map]; rfl
theorem map_bl {α : Type} (xs : List α) (f : α → Bool) : xs.map (fun a => V.bl (f a)) = (xs.map f).map V.bl := by
  rw [List.map_map]; rfl
/-- its end, where all(..) asks it -/
theorem all_end {K : PySem.W.Frag} {α : Type} {xs : List α} {f : α → Bool} {H : Hp} {D : Addr} {Q : VK} (h : H D = some (.lst (xs.map fun a => V.bl (f a)))) (q : Q (.bl (xs.all f)) H) : rAll K [V.ref D] H Q :=
  ⟨D, xs.map f, rfl, SqL.of (by rw [h, map_bl]), by rw [all_bl]; exact q⟩
theorem any_end {K : PySem.W.Frag} {α : Type} {xs : List α} {f : α → Bool} {H : Hp} {D : Addr} {Q : VK} (h : H D = some (.lst (xs.map fun a => V.bl (f a)))) (q : Q (.bl (xs.any f)) H) : rAny K [V.ref D] H Q :=
  ⟨D, xs.map f, rfl, SqL.of (by rw [h, map_bl]), by rw [any_bl]; exact q⟩
end Bk

set_option Elab.async false
set_option linter.all false
set_option maxRecDepth 100000
set_option maxHeartbeats 4000000
namespace Bk
open PySem PySem.Spec PyProof.Rows L2
def top (i : Nat) : Stmt := PySem.Challenge.pw_heardonce_k00_whole_topics_and_wishes.main.body.getD i (.Pass ⟨0, 0, 0, 0⟩)
abbrev s_is_name : Stmt := top 19
abbrev s_is_topic : Stmt := top 20
abbrev s_is_wish : Stmt := top 21
/-- x's code object tells its table; it is told by T under the name q, there alone -/
structure Tb (K : PySem.W.Frag) (mg : Str → Option Value) (base : Heap) (T : Tbs) (x q : Str) : Prop where
  tb : LamX.TabB base mg (He.codeOf K (x, none)) (He.cT K (x, none)).2
  mem : ((He.cT K (x, none)).2, q) ∈ T
  un : ∀ p ∈ T, p.1 = (He.cT K (x, none)).2 → p.2 = q
/-! ### the mathematics of names -/
abbrev LETTERS : Str := "abcdefghijklmnopqrstuvwxyz"
def letB (c : Nat) : Bool := decide (c ∈ LETTERS.cps.toList)
def nameB (z : Str) : Bool := decide ((1 : Int) ≤ z.length) && (decide ((z.length : Int) ≤ 6) && z.cps.toList.all letB)
def nameV : V → Bool
  | .str z => nameB z
  | _ => false
theorem nameV_not {x : V} (h : ∀ z, x ≠ .str z) : nameV x = false := by
  cases x with
  | str z => exact absurd rfl (h z)
  | _ => rfl
def signB (c : Nat) : Bool := decide (c < 128) && (Unicode.isAlpha c && !(Unicode.isUpper c || Unicode.isTitle c))
theorem sign_few : (List.range 128).all (fun c => (signB c == letB c) && (!letB c || Unicode.isLower c)) = true := by decide +kernel
theorem let_few : LETTERS.cps.toList.all (fun c => decide (c < 128)) = true := by decide +kernel
theorem let_lt {c : Nat} (h : letB c = true) : c < 128 := of_decide_eq_true (List.all_eq_true.mp let_few c (of_decide_eq_true h))
theorem sign_let (c : Nat) : signB c = letB c := by
  by_cases h : c < 128
  · have q := List.all_eq_true.mp sign_few c (List.mem_range.mpr h)
    exact eq_of_beq (Bool.and_eq_true _ _ ▸ q).1
  · have e : letB c = false := by
      cases e : letB c with
      | false => rfl
      | true => exact absurd (let_lt e) h
    rw [e]
    unfold signB
    rw [decide_eq_false h]
    rfl
theorem let_low {c : Nat} (h : letB c = true) : Unicode.isLower c = true := by
  have q := (Bool.and_eq_true _ _ ▸ List.all_eq_true.mp sign_few c (List.mem_range.mpr (let_lt h))).2
  rw [h] at q
  exact q
/-- the three questions of a text that is not empty -/
theorem low_ok {z : Str} (h : 1 ≤ z.length) : (Txt.isascii z && (Txt.isalpha z && Txt.islower z)) = z.cps.toList.all letB := by
  have hl : z.cps.toList.length = z.length := by simp [Str.length]
  rw [Bool.eq_iff_iff]
  unfold Txt.isascii Txt.isalpha Txt.islower
  simp only [Bool.and_eq_true, Bool.not_eq_true', decide_eq_true_eq, ← Array.all_toList, ← Array.any_toList, List.all_eq_true, List.any_eq_true, List.any_eq_false]
  constructor
  · rintro ⟨h1, ⟨_, h2⟩, _, h3⟩ c hc
    rw [← sign_let]
    unfold signB
    have h3 := h3 c hc
    simp only [Bool.not_eq_true] at h3
    rw [h2 c hc, h3]
    simpa using h1 c hc
  · intro q
    refine ⟨fun c hc => by simpa using let_lt (q c hc), ⟨h, fun c hc => ?_⟩, ?_, fun c hc => ?_⟩
    · have := sign_let c
      rw [q c hc] at this
      unfold signB at this
      simp only [Bool.and_eq_true] at this
      exact this.2.1
    · cases e : z.cps.toList with
      | nil => rw [e] at hl; simp at hl; omega
      | cons c r => exact ⟨c, List.mem_cons_self, let_low (q c (by rw [e]; exact List.mem_cons_self))⟩
    · have := sign_let c
      rw [q c hc] at this
      unfold signB at this
      simp only [Bool.and_eq_true, Bool.not_eq_true'] at this
      simpa using this.2.2
/-- a def of one value that hands back a truth value, whatever the value; tables may grow -/
def spB (K : PySem.W.Frag) (T : Tbs) (f : V → Bool) : Sp := fun vs H Q _ => ∃ x, vs = [x] ∧ AnyV K H x ∧ LamX.Tabs T H ∧ ∀ H', Gr T H H' → Q (.bl (f x)) H'
theorem nd1 (x : Str) : [x].Nodup := by simp
section
variable {P : Program} {w : World} {K : PySem.W.Frag} {mg : Str → Option Value} {base : Heap} {T : Tbs}
theorem sc_is_name : FnScope ["value"] ["value"] (defScope s_is_name) := ⟨rfl, rfl, rfl, by decide +kernel, rfl, by decide +kernel, by decide +kernel⟩
theorem has_is_name (F : At K mg "is_name" s_is_name) (zi : mg "isinstance" = none) (zs : mg "str" = none) (zl : mg "len" = none) (cM : ∃ t, mg "MOST_LETTERS" = some (.int 6 t)) :
    Has P w K mg base CX0 2 "is_name" ["value"] (spB K T nameV) := by
  obtain ⟨tM, cM⟩ := cM
  refine F.ok0 sc_is_name (fun _ _ _ _ _ _ us hl => match us, hl with | [_], _ => rfl) (fun vs H Q E h => ?_) fun A outer s H vs Q E hr h => ?_
  · obtain ⟨x, rfl, _⟩ := h
    rfl
  obtain ⟨x, rfl, ax, tb, q⟩ := h
  refine ⟨_, pss_cons (ps_if (PW.pt (pw_or (pt_not (pt_val (pe_callB call_isi rfl zi boot_isinstance (pa_cons (pv 0) (pa_cons (pe_bltn (v := .ty "str") rfl zs boot_str rfl) pa_nil)))))
      (pw_or1 (pt_not (pt_chain op_le op_le pe_int (pe_callB call_len_str rfl zl PySem.boot_len (pa_cons (pv 0) pa_nil)) (pe_glob (v := .int 6) rfl cM ⟨_, rfl⟩)))))) (pss_one (ps_ret pe_bl)) pss_nil)
    (pss_one (ps_ret (pe_and (pe_bm0 PySem.F.plainAttrs_str PySem.F.slot_str_isascii PySem.F.type_str_isascii mt_isascii (pv 0)) (pe_and (pe_bm0 PySem.F.plainAttrs_str PySem.F.slot_str_isalpha PySem.F.type_str_isalpha mt_isalpha (pv 0))
      (pe_one (pe_bm0 PySem.F.plainAttrs_str PySem.F.slot_str_islower PySem.F.type_str_islower mt_islower (pv 0))))))), ?_⟩
  obtain ⟨t, b, ty, ki, hb⟩ := ax.isi
  refine ⟨x, rfl, x, .ty "str", t, _, b, rfl, .ty "str", ty, ki, b, rfl, ?_⟩
  rcases hb with ⟨rfl, z, rfl, hz⟩ | ⟨rfl, hz⟩
  · refine iteF ?_
    have hsz : z.length ≤ sizeLine := Nat.le_of_lt (small1000 hz)
    have fin : ∀ b, b = nameB z → Q (.bl b) H := fun b e => by
      have := q H (Gr.refl tb)
      rw [e]
      exact this
    refine ⟨_, rfl, z, rfl, hsz, _, _, rfl, rfl, _, rfl, ?_⟩
    cases e1 : decide ((1 : Int) ≤ z.length) with
    | false => exact iteF ⟨_, rfl, iteT (fin false (by unfold nameB; rw [e1]; rfl))⟩
    | true =>
      refine iteT ⟨_, _, rfl, rfl, _, rfl, ?_⟩
      cases e2 : decide ((z.length : Int) ≤ 6) with
      | false => exact fin false (by unfold nameB; rw [e1, e2]; rfl)
      | true =>
        skip
        have h1 : 1 ≤ z.length := by have := of_decide_eq_true e1; omega
        have el : nameB z = (Txt.isascii z && (Txt.isalpha z && Txt.islower z)) := by
          rw [low_ok h1]
          unfold nameB
          rw [e1, e2]
          rfl
        refine ⟨_, rfl, rfl, z, rfl, rfl, trivial, _, rfl, ?_⟩
        cases e3 : Txt.isascii z with
        | false => exact iteF (fin false (by rw [el, e3]; rfl))
        | true =>
          refine iteT ⟨_, rfl, rfl, z, rfl, rfl, trivial, _, rfl, ?_⟩
          cases e4 : Txt.isalpha z with
          | false => exact iteF (fin false (by rw [el, e3, e4]; rfl))
          | true => exact iteT ⟨_, rfl, rfl, z, rfl, rfl, trivial, fin _ (by rw [el, e3, e4]; rfl)⟩
  · refine iteT ?_
    have := q H (Gr.refl tb)
    rw [nameV_not hz] at this
    exact this
end
end Bk

set_option Elab.async false
set_option linter.all false
set_option maxRecDepth 100000
set_option maxHeartbeats 4000000
namespace Bk
open PySem PySem.Spec PyProof.Rows L2
/-! ### steps -/
def stepsOf (z : Str) : List Str := Txt.split z "/"
theorem tl_slash : TL.tl ("/" : Str) = [47] := TL.tl_ofString "/"
theorem stepsOf_tl (z : Str) : (stepsOf z).map TL.tl = TL.spl [47] 0 [] (TL.tl z) := by
  have h := TL.split_spl z "/" (by rw [tl_slash]; simp) (TL.kind_ok (by decide +kernel))
  rw [tl_slash] at h
  exact h
theorem spl_len (S : List Nat) : ∀ (l : List Nat) (k : Nat) (acc : List Nat), ∀ p ∈ TL.spl S k acc l, p.length ≤ acc.length + l.length := by
  intro l
  induction l with
  | nil =>
    intro k acc p hp
    rw [TL.spl_nil] at hp
    rw [List.mem_singleton.mp hp]
    exact Nat.le_add_right _ _
  | cons c r ih =>
    intro k acc p hp
    cases k with
    | succ k =>
      have := ih k acc p hp
      rw [List.length_cons]
      omega
    | zero =>
      cases e : TL.pre S (c :: r) with
      | true =>
        rw [TL.spl_hit e] at hp
        rcases List.mem_cons.mp hp with q | q
        · rw [q]; exact Nat.le_add_right _ _
        · have := ih _ _ p q
          rw [List.length_cons]
          simp at this
          omega
      | false =>
        rw [TL.spl_miss e] at hp
        have := ih _ _ p hp
        rw [List.length_append, List.length_singleton] at this
        rw [List.length_cons]
        omega
theorem spl_many (S : List Nat) : ∀ (l : List Nat) (k : Nat) (acc : List Nat), (TL.spl S k acc l).length ≤ l.length + 1 := by
  intro l
  induction l with
  | nil => intro k acc; rw [TL.spl_nil]; exact Nat.le_refl _
  | cons c r ih =>
    intro k acc
    cases k with
    | succ k => exact Nat.le_succ_of_le (ih k acc)
    | zero =>
      cases e : TL.pre S (c :: r) with
      | true => rw [TL.spl_hit e, List.length_cons]; exact Nat.succ_le_succ (ih _ _)
      | false => rw [TL.spl_miss e]; exact Nat.le_succ_of_le (ih _ _)
theorem spl_ne (S : List Nat) : ∀ (l : List Nat) (k : Nat) (acc : List Nat), TL.spl S k acc l ≠ [] := by
  intro l
  induction l with
  | nil => intro k acc; rw [TL.spl_nil]; simp
  | cons c r ih =>
    intro k acc
    cases k with
    | succ k => exact ih k acc
    | zero =>
      cases e : TL.pre S (c :: r) with
      | true => rw [TL.spl_hit e]; simp
      | false => rw [TL.spl_miss e]; exact ih _ _
theorem steps_len {z s : Str} (h : s ∈ stepsOf z) : s.length ≤ z.length := by
  have h2 : TL.tl s ∈ (stepsOf z).map TL.tl := List.mem_map_of_mem h
  rw [stepsOf_tl] at h2
  have := spl_len [47] (TL.tl z) 0 [] _ h2
  rw [TL.len_tl, TL.len_tl]
  simpa using this
theorem steps_many (z : Str) : (stepsOf z).length ≤ z.length + 1 := by
  have := spl_many [47] (TL.tl z) 0 []
  rw [← stepsOf_tl, List.length_map, ← TL.len_tl] at this
  exact this
theorem steps_ne (z : Str) : stepsOf z ≠ [] := fun e => spl_ne [47] (TL.tl z) 0 [] (by rw [← stepsOf_tl, e]; rfl)
theorem two_more {n : Nat} (h : n ≤ 1000) : n + 2 ≤ sizeLine := Nat.le_trans (Nat.add_le_add_right h 2) (by decide)
theorem list_str {K : PySem.W.Frag} (p : Addr) (l : List Str) : Walk (Itl K p) l.length (fun H => SqL K H p (l.map V.str)) (YAt (l.map V.str)) := by
  have w := walk_list (K := K) (a := p) (xs := l.map V.str)
  rw [List.length_map] at w
  exact w
def topicB (z : Str) : Bool := decide (((stepsOf z).length : Int) ≤ 5) && (stepsOf z).all nameB
def topicV : V → Bool
  | .str z => topicB z
  | _ => false
theorem topicV_not {x : V} (h : ∀ z, x ≠ .str z) : topicV x = false := by
  cases x with
  | str z => exact absurd rfl (h z)
  | _ => rfl
section
variable {P : Program} {w : World} {K : PySem.W.Frag} {mg : Str → Option Value} {base : Heap} {T : Tbs}
theorem nd_topic : (["value", "steps", "step"] : List Str).Nodup := by decide
theorem sc_is_topic : FnScope ["value", "steps", "step"] ["value"] (defScope s_is_topic) := ⟨rfl, rfl, rfl, by decide +kernel, rfl, by decide +kernel, by decide +kernel⟩
theorem has_is_topic (F : At K mg "is_topic" s_is_topic) (zi : mg "isinstance" = none) (zs : mg "str" = none) (zl : mg "len" = none) (za : mg "all" = none) (cS : ∃ t, mg "MOST_STEPS" = some (.int 5 t))
    (HN : Has P w K mg base CX0 2 "is_name" ["value"] (spB K T nameV)) : Has P w K mg base CX0 4 "is_topic" ["value"] (spB K T topicV) := by
  obtain ⟨tS, cS⟩ := cS
  refine F.ok0 sc_is_topic (fun _ _ _ _ _ _ us hl => match us, hl with | [_], _ => rfl) (fun vs H Q E h => ?_) fun A outer s H vs Q E hr h => ?_
  · obtain ⟨x, rfl, _⟩ := h
    rfl
  obtain ⟨x, rfl, ax, tb, q⟩ := h
  refine ⟨_, pss_cons (ps_if (pt_not (pt_val (pe_callB call_isi rfl zi boot_isinstance (pa_cons (pv 0) (pa_cons (pe_bltn (v := .ty "str") rfl zs boot_str rfl) pa_nil))))) (pss_one (ps_ret pe_bl)) pss_nil)
    (pss_cons (ps_set (i := 1) sc_is_topic.nd rfl (Or.inl rfl) (pe_split (pv 0) pe_str))
    (pss_one (ps_ret (pe_and (pe_cmpR op_le (pe_callB call_len_seq rfl zl PySem.boot_len (pa_cons (pv 1) pa_nil)) (pe_glob (v := .int 5) rfl cS ⟨_, rfl⟩) (nomark _))
    (pe_one (pe_callB (cr_all rfl) rfl za (by decide +kernel) (pa_cons (pe_lc (own := [("step", 2)]) (g := gName 2) rfl sc_is_topic.nd (pi_list (pv 1)) (blkOk_by (own := [("step", 2)]) (N := ["value", "steps", "step"]) (sc := defScope s_is_topic) (by decide +kernel)) (fun _ _ _ _ _ => pg_name (i := 2) nd_topic rfl (Or.inl rfl)) (fun _ _ _ _ _ => pts_nil)
      (fun _ _ _ _ _ => Has.call HN (hr.mono (by decide)) pass0 (pa_cons (pv 2) pa_nil))) pa_nil))))))), ?_⟩
  obtain ⟨t, b, ty, ki, hb⟩ := ax.isi
  refine ⟨x, rfl, x, .ty "str", t, _, b, rfl, .ty "str", ty, ki, b, rfl, ?_⟩
  rcases hb with ⟨rfl, z, rfl, hz⟩ | ⟨rfl, hz⟩
  · refine iteF ?_
    refine ⟨_, rfl, ⟨z, rfl⟩, z, "/", rfl, rfl, rfl, ?_, fun p hp => ?_⟩
    · exact two_more hz
    have fin : ∀ H' b, Gr T H H' → b = topicB z → Q (.bl b) H' := fun H' b g e => by
      have := q H' g
      rw [e]
      exact this
    have g1 : Gr T H (upd H p (.lst ((stepsOf z).map V.str))) := Gr.new tb hp _
    have e1 : (upd H p (.lst ((stepsOf z).map V.str))) p = some (.lst ((stepsOf z).map V.str)) := upd_same
    refine ⟨_, rfl, p, _, rfl, .inl (SqL.of e1), _, _, rfl, rfl, _, rfl, ?_⟩
    have el : ((stepsOf z).map V.str).length = (stepsOf z).length := List.length_map _
    rw [el]
    cases e2 : decide (((stepsOf z).length : Int) ≤ 5) with
    | false => exact iteF (fin _ false g1 (by unfold topicB; rw [e2]; rfl))
    | true =>
      refine iteT ⟨_, rfl, p, rfl, ⟨_, SqL.of e1⟩, fun D hD => ?_⟩
      refine lc_gr (T := T) (xs := stepsOf z) (list_str (K := K) p (stepsOf z)) (fun s => V.bl (nameB s)) g1.tabs hD (by have := of_decide_eq_true e2; exact Nat.le_trans (by omega : _ ≤ 5) (by decide)) (fun H2 g2 => SqL.of (g2.lst e1)) (fun i a x H2 H3 ei g2 y Ok No hOk => ?_) fun H2 g2 eD => ?_
      · obtain ⟨rfl, ex⟩ := y
        have ex2 : x = V.str a := by
          rw [List.getElem?_map, ei] at ex
          exact (Option.some.inj ex).symm
        subst ex2
        exact ⟨rfl, lx_yes ⟨_, rfl, _, rfl, .inl ⟨a, rfl, Nat.le_trans (steps_len (List.mem_of_getElem? ei)) hz⟩, g2.tabs, fun H5 g5 => hOk _ g5⟩⟩
      · exact all_end eD (fin _ _ (g1.trans g2) (by unfold topicB; rw [e2]; rfl))
  · refine iteT ?_
    have := q H (Gr.refl tb)
    rw [topicV_not hz] at this
    exact this
end
end Bk

set_option Elab.async false
set_option linter.all false
set_option maxRecDepth 100000
set_option maxHeartbeats 4000000
namespace Bk
open PySem PySem.Spec PyProof.Rows L2
abbrev s_is_way : Stmt := top 22
abbrev s_check_topic : Stmt := top 23
abbrev s_check_wish : Stmt := top 24
abbrev s_check_way : Stmt := top 25
/-! ### wishes -/
/-- the steps without a "#" at their end -/
def stemL (l : List Str) : List Str := if l.getLast? = some ("#" : Str) then l.dropLast else l
def stepB (s : Str) : Bool := decide (s = "+") || nameB s
def wishB (z : Str) : Bool := if decide (((stepsOf z).length : Int) > 5) = true then false else (stemL (stepsOf z)).all stepB
def wishV : V → Bool
  | .str z => wishB z
  | _ => false
theorem wishV_not {x : V} (h : ∀ z, x ≠ .str z) : wishV x = false := by
  cases x with
  | str z => exact absurd rfl (h z)
  | _ => rfl
theorem snoc_of {α : Type} {l : List α} (h : l ≠ []) : ∃ r z, l = r ++ [z] := ⟨l.dropLast, l.getLast h, (List.dropLast_concat_getLast h).symm⟩
theorem cut_last (r : List V) (z : V) : cutV (r ++ [z]) none (some (-1)) = r := by
  unfold cutV
  rw [HT.sIx_none, List.drop_zero, Nat.sub_zero]
  have e : HT.sIx (r ++ [z]).length (r ++ [z]).length (some (-1)) = r.length := by
    show (if (-1 : Int) < 0 then ((-1 : Int) + ((r ++ [z]).length : Int)).toNat else min (-1 : Int).toNat (r ++ [z]).length) = _
    rw [if_pos (by decide), List.length_append, List.length_singleton]
    omega
  rw [e]
  simp
theorem stem_sub {l : List Str} {s : Str} (h : s ∈ stemL l) : s ∈ l := by
  unfold stemL at h
  split at h
  · exact List.dropLast_subset _ h
  · exact h
/-! ### ways -/
abbrev ways : List Str := ["light", "marked", "paired"]
def wayB (z : Str) : Bool := inV (.str z) (ways.map V.str)
def wayV : V → Bool
  | .str z => wayB z
  | _ => false
theorem wayV_not {x : V} (h : ∀ z, x ≠ .str z) : wayV x = false := by
  cases x with
  | str z => exact absurd rfl (h z)
  | _ => rfl
/-! ### checks -/
/-- what is known of an own exception class of the top -/
structure Exc (K : PySem.W.Frag) (mg : Str → Option Value) (x : Str) : Prop where
  g : mg x = some (.ref (He.ga K x))
  e : PySem.W.excIn K (He.ga K x) He.veBase "ValueError.__new__" = true ∧ PySem.W.keepIn K (.ref (He.ga K x)) = true ∧ PySem.W.subIn K (.ref (He.ga K x)) (.type "BaseException") = some true ∧ PySem.W.typeIn K (.ref (He.ga K x)) = some (.type "type")
/-- raises C where f is false -/
def spCk (K : PySem.W.Frag) (T : Tbs) (f : V → Bool) (C : Addr) : Sp := fun vs H Q E => ∃ x, vs = [x] ∧ AnyV K H x ∧ LamX.Tabs T H ∧ (f x = true → ∀ H', Gr T H H' → Q .non H') ∧ (f x = false → ∀ H', Gr T H H' → E (.ref C) none H')
section
variable {P : Program} {w : World} {K : PySem.W.Frag} {mg : Str → Option Value} {base : Heap} {T : Tbs}
theorem sc_is_wish : FnScope ["value", "steps", "step"] ["value"] (defScope s_is_wish) := ⟨rfl, rfl, rfl, by decide +kernel, rfl, by decide +kernel, by decide +kernel⟩
theorem has_is_wish (F : At K mg "is_wish" s_is_wish) (zi : mg "isinstance" = none) (zs : mg "str" = none) (zl : mg "len" = none) (za : mg "all" = none) (cS : ∃ t, mg "MOST_STEPS" = some (.int 5 t))
    (HN : Has P w K mg base CX0 2 "is_name" ["value"] (spB K T nameV)) : Has P w K mg base CX0 4 "is_wish" ["value"] (spB K T wishV) := by
  obtain ⟨tS, cS⟩ := cS
  refine F.ok0 sc_is_wish (fun _ _ _ _ _ _ us hl => match us, hl with | [_], _ => rfl) (fun vs H Q E h => ?_) fun A outer s H vs Q E hr h => ?_
  · obtain ⟨x, rfl, _⟩ := h
    rfl
  obtain ⟨x, rfl, ax, tb, q⟩ := h
  refine ⟨_, pss_cons (ps_if (pt_not (pt_val (pe_callB call_isi rfl zi boot_isinstance (pa_cons (pv 0) (pa_cons (pe_bltn (v := .ty "str") rfl zs boot_str rfl) pa_nil))))) (pss_one (ps_ret pe_bl)) pss_nil)
    (pss_cons (ps_set (i := 1) sc_is_wish.nd rfl (Or.inl rfl) (pe_split (pv 0) pe_str))
    (pss_cons (ps_if (pt_cmpR op_gt (pe_callB call_len_seq rfl zl PySem.boot_len (pa_cons (pv 1) pa_nil)) (pe_glob (v := .int 5) rfl cS ⟨_, rfl⟩) (nomark _)) (pss_one (ps_ret pe_bl)) pss_nil)
    (pss_cons (ps_if (pt_cmpR op_eq (pe_ix ix_list (pv 1) (pe_un un_neg pe_int) (fun _ _ => rfl)) pe_str (nomark _)) (pss_one (ps_set (i := 1) sc_is_wish.nd rfl (Or.inl rfl) (pe_slice sl_list (pv 1) po_none (po_some (pe_un un_neg pe_int))))) pss_nil)
    (pss_one (ps_ret (pe_callB (cr_all rfl) rfl za (by decide +kernel) (pa_cons (pe_lc (own := [("step", 2)]) (g := gName 2) rfl sc_is_wish.nd (pi_list (pv 1)) (blkOk_by (own := [("step", 2)]) (N := ["value", "steps", "step"]) (sc := defScope s_is_wish) (by decide +kernel)) (fun _ _ _ _ _ => pg_name (i := 2) nd_topic rfl (Or.inl rfl)) (fun _ _ _ _ _ => pts_nil)
      (fun _ _ _ _ _ => pe_or (pe_cmpR op_eq (pv 2) pe_str (nomark _)) (pe_one (Has.call HN (hr.mono (by decide)) pass0 (pa_cons (pv 2) pa_nil))))) pa_nil))))))), ?_⟩
  obtain ⟨t, b, ty, ki, hb⟩ := ax.isi
  refine ⟨x, rfl, x, .ty "str", t, _, b, rfl, .ty "str", ty, ki, b, rfl, ?_⟩
  rcases hb with ⟨rfl, z, rfl, hz⟩ | ⟨rfl, hz⟩
  · refine iteF ?_
    refine ⟨_, rfl, ⟨z, rfl⟩, z, "/", rfl, rfl, rfl, two_more hz, fun p hp => ?_⟩
    have fin : ∀ H' b, Gr T H H' → b = wishB z → Q (.bl b) H' := fun H' b g e => by
      have := q H' g
      rw [e]
      exact this
    have g1 : Gr T H (upd H p (.lst ((stepsOf z).map V.str))) := Gr.new tb hp _
    have e1 : (upd H p (.lst ((stepsOf z).map V.str))) p = some (.lst ((stepsOf z).map V.str)) := upd_same
    refine ⟨_, rfl, p, _, rfl, .inl (SqL.of e1), _, _, rfl, rfl, _, rfl, ?_⟩
    have el : ((stepsOf z).map V.str).length = (stepsOf z).length := List.length_map _
    rw [el]
    cases e2 : decide (((stepsOf z).length : Int) > 5) with
    | true => exact iteT (fin _ false g1 (by unfold wishB; rw [e2]; rfl))
    | false =>
      refine iteF ?_
      obtain ⟨r, lastS, er⟩ := snoc_of (steps_ne z)
      have hlen : (stepsOf z).length ≤ 5 := by have := of_decide_eq_false e2; omega
      -- whatever the steps that are looked at
      have rest : ∀ (H1 : Hp) (p1 : Addr) (l : List Str), Gr T H H1 → H1 p1 = some (.lst (l.map V.str)) → l = stemL (stepsOf z) →
          tCB (rAll K) (tCons (tLc (iList K (tVar 1)) (gName 2) tYes (tOrV (tOp rEq (tVar 2) (tC (.str "+"))) (tCall (spB K T nameV) [] E0 (tCons (tVar 2) tNil))) [2]) tNil) [some (V.str z), some (V.ref p1), none] H1 Q := by
        intro H1 p1 l ga ea el2
        refine ⟨_, rfl, p1, rfl, ⟨_, SqL.of ea⟩, fun D hD => ?_⟩
        have hl5 : l.length ≤ sizeLine := by
          have : l.length ≤ (stepsOf z).length := by rw [el2]; unfold stemL; split <;> simp
          exact Nat.le_trans this (Nat.le_trans hlen (by decide))
        refine lc_gr (T := T) (xs := l) (list_str (K := K) p1 l) (fun s => V.bl (stepB s)) ga.tabs hD hl5 (fun H2 g2 => SqL.of (g2.lst ea)) (fun i a x H2 H3 ei g2 y Ok No hOk => ?_) fun H2 g2 eD => ?_
        · obtain ⟨rfl, ex⟩ := y
          have ex2 : x = V.str a := by
            rw [List.getElem?_map, ei] at ex
            exact (Option.some.inj ex).symm
          subst ex2
          have ha : a ∈ stepsOf z := stem_sub (by rw [← el2]; exact List.mem_of_getElem? ei)
          refine ⟨rfl, lx_yes ⟨_, rfl, rfl, _, rfl, ?_⟩⟩
          have ed : decide (V.str a = V.str "+") = decide (a = "+") := by
            by_cases c : a = "+"
            · rw [c]; simp
            · have c2 : ¬ V.str a = V.str "+" := fun q => c (V.str.inj q)
              rw [decide_eq_false c, decide_eq_false c2]
          rw [ed]
          cases e3 : decide (a = "+") with
          | true => exact iteT (by have := hOk _ (Gr.refl g2.tabs); unfold stepB at this; rw [e3] at this; exact this)
          | false =>
            refine iteF ⟨_, rfl, _, rfl, .inl ⟨a, rfl, Nat.le_trans (steps_len ha) hz⟩, g2.tabs, fun H5 g5 => ?_⟩
            have := hOk _ g5
            unfold stepB at this
            rw [e3] at this
            exact this
        · exact all_end eD (fin _ _ (ga.trans g2) (by unfold wishB; rw [e2, if_neg Bool.false_ne_true, el2]))
      have el3 : atI ((stepsOf z).map V.str) (-1) = some (V.str lastS) := by
        rw [er, List.map_append]
        exact atI_last _ _
      refine ⟨_, rfl, 1, rfl, p, _, -1, _, rfl, rfl, SqL.of e1, el3, rfl, _, rfl, ?_⟩
      have egl : (stepsOf z).getLast? = some lastS := by rw [er]; simp
      refine ite2 (fun c => ?_) (fun c => ?_)
      · have c2 : lastS = "#" := V.str.inj (of_decide_eq_true c)
        refine ⟨_, rfl, 1, rfl, -1, rfl, p, _, rfl, SqL.of e1, fun p1 hp1 => ?_⟩
        refine rest _ p1 r (g1.trans (Gr.new g1.tabs hp1 _)) ?_ ?_
        · rw [er, List.map_append, show [lastS].map V.str = [V.str lastS] from rfl, cut_last]
          exact upd_same
        · unfold stemL
          rw [egl, c2, if_pos rfl, er]
          simp
      · have c2 : ¬ lastS = "#" := fun q => c (decide_eq_true (by rw [q]))
        refine rest _ p (stepsOf z) g1 e1 ?_
        unfold stemL
        rw [egl, if_neg (fun q => c2 (Option.some.inj q))]
  · refine iteT ?_
    have := q H (Gr.refl tb)
    rw [wishV_not hz] at this
    exact this
end
end Bk

set_option Elab.async false
set_option linter.all false
set_option maxRecDepth 100000
set_option maxHeartbeats 4000000
namespace Bk
open PySem PySem.Spec PyProof.Rows L2
abbrev s_is_met : Stmt := top 26
abbrev s_meets : Stmt := top 27
abbrev s_is_way_up_to : Stmt := top 28
abbrev s_lesser_way : Stmt := top 29
/-- what is known of the ways' tuple -/
structure Ways (K : PySem.W.Frag) (mg : Str → Option Value) : Prop where
  g : mg "WAYS" = some (.ref (He.ga K "WAYS"))
  t : ∀ H, SqT K H (He.ga K "WAYS") (ways.map V.str)
  d : ∃ o, K.lookup (He.ga K "WAYS") = some o ∧ o.cls = .type "tuple" ∧ o.dict = none
def wix (z : Str) : Nat := ways.findIdx (fun y => decide (y = z))
theorem way_cases {z : Str} (h : wayB z = true) : z = "light" ∨ z = "marked" ∨ z = "paired" := by
  unfold wayB inV at h
  simp only [List.map_cons, List.map_nil, List.any_cons, List.any_nil, eqV, Bool.or_false, Bool.or_eq_true, beq_iff_eq] at h
  rcases h with h | h | h
  · exact .inl h.symm
  · exact .inr (.inl h.symm)
  · exact .inr (.inr h.symm)
theorem way_at {z : Str} (h : wayB z = true) : ways[wix z]? = some z ∧ ∀ m, m < wix z → ways[m]? ≠ some z := by
  rcases way_cases h with rfl | rfl | rfl
  · exact ⟨by decide +kernel, by decide +kernel⟩
  · exact ⟨by decide +kernel, by decide +kernel⟩
  · exact ⟨by decide +kernel, by decide +kernel⟩
/-! ### meeting -/
def pairB (p : Str × Str) : Bool := inV (.str p.1) [.str "+", .str p.2]
def metS (st wa : List Str) : Bool := decide ((st.length : Int) = wa.length) && (wa.zip st).all pairB
def metL (st wa : List Str) : Bool := if wa.getLast? = some ("#" : Str) then metS (st.take (wa.length - 1)) wa.dropLast else metS st wa
def metB (t w : Str) : Bool := metL (stepsOf t) (stepsOf w)
theorem zip_str {K : PySem.W.Frag} (a b : Addr) (l m : List Str) : Walk (Itz K a b) (l.zip m).length (fun H => SqL K H a (l.map V.str) ∧ SqL K H b (m.map V.str)) (YPair (fun i => (l.map V.str)[i]?) (fun i => (m.map V.str)[i]?)) :=
  walk_zip (by rw [List.length_zip, List.length_map, List.length_map])
theorem cut_take (r : List V) (n : Nat) (h : n ≤ r.length) : cutV r none (some (n : Int)) = r.take n := by
  unfold cutV
  rw [HT.sIx_none, HT.sIx_nat, List.drop_zero, Nat.sub_zero, Nat.min_eq_left h]
theorem cut_take2 (r : List V) (n : Nat) : cutV r none (some (n : Int)) = r.take n := by
  unfold cutV
  rw [HT.sIx_none, HT.sIx_nat, List.drop_zero, Nat.sub_zero]
  by_cases h : n ≤ r.length
  · rw [Nat.min_eq_left h]
  · rw [Nat.min_eq_right (by omega), List.take_of_length_le (Nat.le_refl _), List.take_of_length_le (by omega)]
def spMet (K : PySem.W.Frag) (T : Tbs) : Sp := fun vs H Q _ => ∃ t w : Str, vs = [.str t, .str w] ∧ t.length ≤ 1000 ∧ w.length ≤ 1000 ∧ LamX.Tabs T H ∧ ∀ H', Gr T H H' → Q (.bl (metB t w)) H'
/-- meets: the first value that is none raises -/
def spMeets (K : PySem.W.Frag) (T : Tbs) (CT CW : Addr) : Sp := fun vs H Q E => ∃ x y, vs = [x, y] ∧ AnyV K H x ∧ AnyV K H y ∧ LamX.Tabs T H ∧ (topicV x = false → ∀ H', Gr T H H' → E (.ref CT) none H') ∧ (topicV x = true → wishV y = false → ∀ H', Gr T H H' → E (.ref CW) none H') ∧
  (∀ t w, x = .str t → y = .str w → topicB t = true → wishB w = true → ∀ H', Gr T H H' → Q (.bl (metB t w)) H')
def spUp : Sp := fun vs H Q _ => ∃ a b : Str, vs = [.str a, .str b] ∧ wayB a = true ∧ wayB b = true ∧ Q (.bl (decide ((wix a : Int) ≤ wix b))) H
def spLess (K : PySem.W.Frag) (CW : Addr) : Sp := fun vs H Q E => ∃ x y, vs = [x, y] ∧ AnyV K H x ∧ AnyV K H y ∧ (wayV x = false → E (.ref CW) none H) ∧ (wayV x = true → wayV y = false → E (.ref CW) none H) ∧
  (∀ a b, x = .str a → y = .str b → wayB a = true → wayB b = true → Q (.str (if decide ((wix a : Int) ≤ wix b) = true then a else b)) H)
/-- a def of one value that hands back a truth value and leaves all as it was -/
def spB0 (K : PySem.W.Frag) (f : V → Bool) : Sp := fun vs H Q _ => ∃ x, vs = [x] ∧ AnyV K H x ∧ Q (.bl (f x)) H
def spCk0 (K : PySem.W.Frag) (f : V → Bool) (C : Addr) : Sp := fun vs H Q E => ∃ x, vs = [x] ∧ AnyV K H x ∧ (f x = true → Q .non H) ∧ (f x = false → E (.ref C) none H)
section
variable {P : Program} {w : World} {K : PySem.W.Frag} {mg : Str → Option Value} {base : Heap} {T : Tbs}
theorem sc_is_way : FnScope ["value"] ["value"] (defScope s_is_way) := ⟨rfl, rfl, rfl, by decide +kernel, rfl, by decide +kernel, by decide +kernel⟩
theorem has_is_way (F : At K mg "is_way" s_is_way) (zi : mg "isinstance" = none) (zs : mg "str" = none) (W : Ways K mg) : Has P w K mg base CX0 1 "is_way" ["value"] (spB0 K wayV) := by
  refine F.ok0 sc_is_way (fun _ _ _ _ _ _ us hl => match us, hl with | [_], _ => rfl) (fun vs H Q E h => ?_) fun A outer s H vs Q E hr h => ?_
  · obtain ⟨x, rfl, _⟩ := h
    rfl
  obtain ⟨x, rfl, ax, q⟩ := h
  refine ⟨_, pss_one (ps_ret (pe_and (pe_callB call_isi rfl zi boot_isinstance (pa_cons (pv 0) (pa_cons (pe_bltn (v := .ty "str") rfl zs boot_str rfl) pa_nil)))
    (pe_one (pe_cmpR op_in_seq (pv 0) (pe_glob (v := .ref (He.ga K "WAYS")) rfl W.g rfl) rfl)))), ?_⟩
  obtain ⟨t, b, ty, ki, hb⟩ := ax.isi
  refine ⟨x, rfl, x, .ty "str", t, _, b, rfl, .ty "str", ty, ki, b, rfl, ?_⟩
  rcases hb with ⟨rfl, z, rfl, hz⟩ | ⟨rfl, hz⟩
  · exact iteT ⟨_, rfl, _, _, rfl, .inr (W.t H), rfl, rfl, q⟩
  · refine iteF ?_
    rw [wayV_not hz] at q
    exact q
/-! ### checks -/
theorem sc_check_topic : FnScope ["topic"] ["topic"] (defScope s_check_topic) := ⟨rfl, rfl, rfl, by decide +kernel, rfl, by decide +kernel, by decide +kernel⟩
theorem has_check_topic (F : At K mg "check_topic" s_check_topic) (X : Exc K mg "InvalidTopic") (HT : Has P w K mg base CX0 4 "is_topic" ["value"] (spB K T topicV)) : Has P w K mg base (L2.CX P w) 5 "check_topic" ["topic"] (spCk K T topicV (He.ga K "InvalidTopic")) := by
  refine F.ok sc_check_topic (fun _ _ _ _ _ _ us hl => match us, hl with | [_], _ => rfl) (fun vs H Q E h => ?_) fun A outer s H vs Q E hr h => ?_
  · obtain ⟨x, rfl, _⟩ := h
    rfl
  obtain ⟨x, rfl, ax, tb, q1, q2⟩ := h
  refine ⟨_, pss_one (ps_if (pt_not (pt_val (Has.call HT hr pass0 (pa_cons (pv 0) pa_nil)))) (pss_one (ps_raise rfl (takes_of rfl rfl rfl rfl) (pmk_own PySem.F.excBase_ValueError X.e.1 X.g X.e.2.1 (raises_own X.e.2.2.1 X.e.2.2.2) rfl))) pss_nil), ?_⟩
  refine ⟨x, rfl, x, rfl, ax, tb, fun H' g => ⟨_, rfl, ?_⟩⟩
  cases e : topicV x with
  | true => exact iteF (q1 e H' g)
  | false => exact iteT (q2 e H' g)
theorem sc_check_wish : FnScope ["wish"] ["wish"] (defScope s_check_wish) := ⟨rfl, rfl, rfl, by decide +kernel, rfl, by decide +kernel, by decide +kernel⟩
theorem has_check_wish (F : At K mg "check_wish" s_check_wish) (X : Exc K mg "InvalidWish") (HT : Has P w K mg base CX0 4 "is_wish" ["value"] (spB K T wishV)) : Has P w K mg base (L2.CX P w) 5 "check_wish" ["wish"] (spCk K T wishV (He.ga K "InvalidWish")) := by
  refine F.ok sc_check_wish (fun _ _ _ _ _ _ us hl => match us, hl with | [_], _ => rfl) (fun vs H Q E h => ?_) fun A outer s H vs Q E hr h => ?_
  · obtain ⟨x, rfl, _⟩ := h
    rfl
  obtain ⟨x, rfl, ax, tb, q1, q2⟩ := h
  refine ⟨_, pss_one (ps_if (pt_not (pt_val (Has.call HT hr pass0 (pa_cons (pv 0) pa_nil)))) (pss_one (ps_raise rfl (takes_of rfl rfl rfl rfl) (pmk_own PySem.F.excBase_ValueError X.e.1 X.g X.e.2.1 (raises_own X.e.2.2.1 X.e.2.2.2) rfl))) pss_nil), ?_⟩
  refine ⟨x, rfl, x, rfl, ax, tb, fun H' g => ⟨_, rfl, ?_⟩⟩
  cases e : wishV x with
  | true => exact iteF (q1 e H' g)
  | false => exact iteT (q2 e H' g)
theorem sc_check_way : FnScope ["way"] ["way"] (defScope s_check_way) := ⟨rfl, rfl, rfl, by decide +kernel, rfl, by decide +kernel, by decide +kernel⟩
theorem has_check_way (F : At K mg "check_way" s_check_way) (X : Exc K mg "InvalidWay") (HT : Has P w K mg base CX0 1 "is_way" ["value"] (spB0 K wayV)) : Has P w K mg base (L2.CX P w) 2 "check_way" ["way"] (spCk0 K wayV (He.ga K "InvalidWay")) := by
  refine F.ok sc_check_way (fun _ _ _ _ _ _ us hl => match us, hl with | [_], _ => rfl) (fun vs H Q E h => ?_) fun A outer s H vs Q E hr h => ?_
  · obtain ⟨x, rfl, _⟩ := h
    rfl
  obtain ⟨x, rfl, ax, q1, q2⟩ := h
  refine ⟨_, pss_one (ps_if (pt_not (pt_val (Has.call HT hr pass0 (pa_cons (pv 0) pa_nil)))) (pss_one (ps_raise rfl (takes_of rfl rfl rfl rfl) (pmk_own PySem.F.excBase_ValueError X.e.1 X.g X.e.2.1 (raises_own X.e.2.2.1 X.e.2.2.2) rfl))) pss_nil), ?_⟩
  refine ⟨x, rfl, x, rfl, ax, _, rfl, ?_⟩
  cases e : wayV x with
  | true => exact iteF (q1 e)
  | false => exact iteT (q2 e)
/-! ### meets -/
theorem in_seq {X : Cx} {K : PySem.W.Frag} (h : X.K = K) : OpR X (compareOp .In) (rIn K false) := by
  subst h
  exact op_in_seq
theorem tup_g {X : Cx} {K : PySem.W.Frag} {pos : Pos} {es : List Expr} {k n : Nat} {t : TGs} (hK : X.K = K) (hc : X.calm = true) (h : PGs X es t) (hn : (assignEach es X.env).length = n := by rfl) (hst : (assignEach es X.env).findIdx? (·.1) = none := by rfl) : PG X (.Tuple es k pos) (gTup K n t) := by
  subst hK
  exact pg_tup hc h hn hst
theorem nd2 {x y : Str} (h : x ≠ y) : [x, y].Nodup := by simp [h]
theorem sc_is_met : FnScope ["topic", "wish", "steps", "wanted", "want", "step"] ["topic", "wish"] (defScope s_is_met) := ⟨rfl, rfl, rfl, by decide +kernel, rfl, by decide +kernel, by decide +kernel⟩
theorem metS_self (st : List Str) : metS st st = true := by
  unfold metS
  rw [decide_eq_true rfl, Bool.true_and, List.all_eq_true]
  intro p hp
  obtain ⟨i, hi, e⟩ := List.getElem_of_mem hp
  rw [List.getElem_zip] at e
  rw [← e]
  unfold pairB inV
  simp [eqV]
theorem metB_self (t : Str) : metB t t = true := by
  unfold metB metL
  split
  · rw [List.dropLast_eq_take]
    exact metS_self _
  · exact metS_self _
theorem metB_hash (t : Str) : metB t "#" = true := by
  have e : stepsOf "#" = [("#" : Str)] := by decide +kernel
  unfold metB metL
  rw [e, if_pos (by decide +kernel)]
  show metS ((stepsOf t).take 0) [] = true
  rw [List.take_zero]
  exact metS_self _
theorem two_more' {n : Nat} (h : n ≤ 1000 + 1) : n ≤ sizeLine := Nat.le_trans h (by decide)
theorem has_is_met (F : At K mg "is_met" s_is_met) (zl : mg "len" = none) (za : mg "all" = none) (zz : mg "zip" = none) : Has P w K mg base CX0 3 "is_met" ["topic", "wish"] (spMet K T) := by
  refine F.ok0 sc_is_met (fun _ _ _ _ _ _ us hl => match us, hl with | [_, _], _ => rfl) (fun vs H Q E h => ?_) fun A outer s H vs Q E hr h => ?_
  · obtain ⟨x, y, rfl, _⟩ := h
    rfl
  obtain ⟨t, wi, rfl, ht, hw, tb, q⟩ := h
  refine ⟨_, pss_cons (ps_if (pt_cmpR (in_seq (K := K) rfl) (pv 1) (pe_tup (pa_cons pe_str (pa_cons (pv 0) pa_nil))) rfl) (pss_one (ps_ret pe_bl)) pss_nil)
    (pss_cons (ps_par (i := 2) (j := 3) rfl sc_is_met.nd rfl rfl (by decide) rfl rfl (pa_cons (pe_split (pv 0) pe_str) (pa_cons (pe_split (pv 1) pe_str) pa_nil)) (by rfl))
    (pss_cons (ps_if (pt_cmpR op_eq (pe_ix ix_list (pv 3) (pe_un un_neg pe_int) (fun _ _ => rfl)) pe_str (nomark _)) (pss_cons (ps_set (i := 3) sc_is_met.nd rfl (Or.inl rfl) (pe_slice sl_list (pv 3) po_none (po_some (pe_un un_neg pe_int))))
        (pss_one (ps_set (i := 2) sc_is_met.nd rfl (Or.inl rfl) (pe_slice sl_list (pv 2) po_none (po_some (pe_callB call_len_seq rfl zl PySem.boot_len (pa_cons (pv 3) pa_nil))))))) pss_nil)
    (pss_one (ps_ret (pe_and (pe_cmpR op_eq (pe_callB call_len_seq rfl zl PySem.boot_len (pa_cons (pv 2) pa_nil)) (pe_callB call_len_seq rfl zl PySem.boot_len (pa_cons (pv 3) pa_nil)) (nomark _))
      (pe_one (pe_callB (cr_all rfl) rfl za (by decide +kernel) (pa_cons (pe_lc (own := [("want", 4), ("step", 5)]) (g := gTup K 2 (gCons (gName 4) (gCons (gName 5) gNil))) rfl sc_is_met.nd (pi_zip rfl zz (pa_cons (pv 3) (pa_cons (pv 2) pa_nil))) (blkOk_by (own := [("want", 4), ("step", 5)]) (N := ["topic", "wish", "steps", "wanted", "want", "step"]) (sc := defScope s_is_met) (by decide +kernel))
        (fun _ _ _ _ _ => tup_g (K := K) (n := 2) rfl rfl (pgs_cons (pg_name (i := 4) sc_is_met.nd rfl (Or.inl rfl) (Or.inr rfl)) (pgs_cons (pg_name (i := 5) sc_is_met.nd rfl (Or.inl rfl) (Or.inr rfl)) pgs_nil))) (fun _ _ _ _ _ => pts_nil)
        (fun _ _ _ _ _ => pe_cmpR (in_seq (K := K) rfl) (pv 4) (pe_tup (pa_cons pe_str (pa_cons (pv 5) pa_nil))) rfl)) pa_nil)))))))), ?_⟩
  refine ⟨_, rfl, _, rfl, (by show 2 ≤ sizeLine; decide), fun p0 hp0 => ?_⟩
  have g00 := Gr.new tb hp0 (.tup [V.str "#", V.str t])
  refine ⟨p0, _, rfl, .inr (.inl (.inl upd_same)), rfl, rfl, _, rfl, ?_⟩
  refine ite2 (fun c => ?_) (fun c => ?_)
  · have e : metB t wi = true := by
      have c : inV (V.str wi) [V.str "#", V.str t] = true := c
      unfold inV at c
      simp only [List.any_cons, List.any_nil, eqV, Bool.or_false, Bool.or_eq_true, beq_iff_eq] at c
      rcases c with c | c
      · rw [← c]; exact metB_hash t
      · rw [← c]; exact metB_self t
    have := q _ g00
    rw [e] at this
    exact this
  have q : ∀ H', Gr T (upd H p0 (.tup [V.str "#", V.str t])) H' → Q (.bl (metB t wi)) H' := fun H' g => q H' (g00.trans g)
  have tb := g00.tabs
  obtain ⟨H0, eH0⟩ : ∃ H0, H0 = upd H p0 (.tup [V.str "#", V.str t]) := ⟨_, rfl⟩
  rw [← eH0] at q tb ⊢
  refine ⟨_, rfl, ⟨t, rfl⟩, t, "/", rfl, rfl, rfl, two_more ht, fun p hp => ?_⟩
  refine ⟨_, rfl, ⟨wi, rfl⟩, wi, "/", rfl, rfl, rfl, two_more hw, fun p2 hp2 => ?_⟩
  refine ⟨_, _, rfl, ?_⟩
  have g1 : Gr T H0 (upd H0 p (.lst ((stepsOf t).map V.str))) := Gr.new tb hp _
  have g2 : Gr T _ (upd (upd H0 p (.lst ((stepsOf t).map V.str))) p2 (.lst ((stepsOf wi).map V.str))) := Gr.new g1.tabs hp2 _
  have e1 : (upd (upd H0 p (.lst ((stepsOf t).map V.str))) p2 (.lst ((stepsOf wi).map V.str))) p = some (.lst ((stepsOf t).map V.str)) := g2.lst upd_same
  have e2 : (upd (upd H0 p (.lst ((stepsOf t).map V.str))) p2 (.lst ((stepsOf wi).map V.str))) p2 = some (.lst ((stepsOf wi).map V.str)) := upd_same
  have g0 := g1.trans g2
  have fin : ∀ H' b, Gr T H0 H' → b = metB t wi → Q (.bl b) H' := fun H' b g e => by
    rw [e]
    exact q H' g
  -- what is returned, whatever the two lists
  have rest : ∀ (H1 : Hp) (pa pb : Addr) (st wa : List Str), Gr T H0 H1 → H1 pa = some (.lst (st.map V.str)) → H1 pb = some (.lst (wa.map V.str)) → st.length ≤ t.length + 1 → metS st wa = metB t wi →
      tAndV (tOp rEq (tCB (fun xs H Q => ∃ p ys, xs = [.ref p] ∧ (SqL K H p ys ∨ SqT K H p ys) ∧ Q (.int ys.length) H) (tCons (tVar 2) tNil)) (tCB (fun xs H Q => ∃ p ys, xs = [.ref p] ∧ (SqL K H p ys ∨ SqT K H p ys) ∧ Q (.int ys.length) H) (tCons (tVar 3) tNil)))
        (tCB (rAll K) (tCons (tLc (iZip K (tCons (tVar 3) (tCons (tVar 2) tNil))) (gTup K 2 (gCons (gName 4) (gCons (gName 5) gNil))) tYes (tOp (rIn K false) (tVar 4) (tTup (tCons (tC (.str "+")) (tCons (tVar 5) tNil)))) [4, 5]) tNil)) [some (.str t), some (.str wi), some (.ref pa), some (.ref pb), none, none] H1 Q := by
    intro H1 pa pb st wa ga ea eb hst em
    refine ⟨_, rfl, pa, _, rfl, .inl (SqL.of ea), _, rfl, pb, _, rfl, .inl (SqL.of eb), rfl, _, rfl, ?_⟩
    have el : decide (V.int ((st.map V.str).length : Nat) = V.int ((wa.map V.str).length : Nat)) = decide ((st.length : Int) = wa.length) := by
      rw [List.length_map, List.length_map]
      by_cases c : (st.length : Int) = wa.length
      · rw [decide_eq_true c, decide_eq_true (congrArg V.int c)]
      · rw [decide_eq_false c, decide_eq_false (fun q => c (V.int.inj q))]
    rw [el]
    cases e3 : decide ((st.length : Int) = wa.length) with
    | false => exact iteF (fin _ false ga (by rw [← em]; unfold metS; rw [e3]; rfl))
    | true =>
      have el1 : st.length ≤ sizeLine := by
        have := hst
        exact two_more' (Nat.le_trans this (Nat.succ_le_succ ht))
      refine iteT ⟨_, rfl, _, rfl, pb, pa, _, _, rfl, SqL.of eb, SqL.of ea, fun D hD => ?_⟩
      refine lc_gr (T := T) (xs := wa.zip st) (zip_str (K := K) pb pa wa st) (fun p => V.bl (pairB p)) ga.tabs hD (by rw [List.length_zip]; exact Nat.le_trans (Nat.min_le_right _ _) el1) (fun H2 g2 => ⟨SqL.of (g2.lst eb), SqL.of (g2.lst ea)⟩) (fun i a x H2 H3 ei g2 y Ok No hOk => ?_) fun H2 g2 eD => ?_
      · obtain ⟨Tp, y1, y2, rfl, hT, rfl, f1, f2⟩ := y
        obtain ⟨q1, q2⟩ := List.getElem?_zip_eq_some.mp ei
        have f1 : (wa.map V.str)[i]? = some y1 := f1
        have f2 : (st.map V.str)[i]? = some y2 := f2
        rw [List.getElem?_map, q1] at f1
        rw [List.getElem?_map, q2] at f2
        have e4 : y1 = V.str a.1 := (Option.some.inj f1).symm
        have e5 : y2 = V.str a.2 := (Option.some.inj f2).symm
        subst e4 e5
        have g4 := Gr.new g2.tabs hT (.tup [V.str a.1, V.str a.2])
        refine ⟨Tp, _, rfl, .inl (.inl upd_same), rfl, _, _, rfl, _, _, rfl, rfl, rfl, lx_yes ?_⟩
        refine ⟨_, rfl, _, rfl, (by show 2 ≤ sizeLine; decide), fun p5 hp5 => ?_⟩
        exact ⟨p5, _, rfl, .inr (.inl (.inl upd_same)), rfl, rfl, hOk _ (g4.trans (Gr.new g4.tabs hp5 _))⟩
      · exact all_end eD (fin _ _ (ga.trans g2) (by rw [← em]; unfold metS; rw [e3]; rfl))
  obtain ⟨r, lastS, er⟩ := snoc_of (steps_ne wi)
  have el3 : atI ((stepsOf wi).map V.str) (-1) = some (V.str lastS) := by
    rw [er, List.map_append]
    exact atI_last _ _
  have egl : (stepsOf wi).getLast? = some lastS := by rw [er]; simp
  refine ⟨_, rfl, 1, rfl, p2, _, -1, _, rfl, rfl, SqL.of e2, el3, rfl, _, rfl, ?_⟩
  refine ite2 (fun c => ?_) (fun c => ?_)
  · have c2 : lastS = "#" := V.str.inj (of_decide_eq_true c)
    refine ⟨_, rfl, 1, rfl, -1, rfl, p2, _, rfl, SqL.of e2, fun p3 hp3 => ?_⟩
    have g3 := Gr.new g0.tabs hp3 (.lst (cutV ((stepsOf wi).map V.str) none (some (-1))))
    have e3 : cutV ((stepsOf wi).map V.str) none (some (-1)) = r.map V.str := by
      rw [er, List.map_append, show [lastS].map V.str = [V.str lastS] from rfl, cut_last]
    rw [e3] at g3 ⊢
    refine ⟨_, rfl, _, rfl, p3, _, rfl, .inl (SqL.of upd_same), _, rfl, p, _, rfl, SqL.of (g3.lst e1), fun p4 hp4 => ?_⟩
    have g4 := Gr.new g3.tabs hp4 (.lst (cutV ((stepsOf t).map V.str) none (some ((r.map V.str).length : Int))))
    have e4 : cutV ((stepsOf t).map V.str) none (some ((r.map V.str).length : Int)) = ((stepsOf t).take r.length).map V.str := by
      rw [cut_take2, List.length_map, List.map_take]
    rw [e4] at g4 ⊢
    refine rest _ p4 p3 ((stepsOf t).take r.length) r (g0.trans (g3.trans g4)) upd_same (g4.lst upd_same) (by rw [List.length_take]; exact Nat.le_trans (Nat.min_le_right _ _) (steps_many t)) ?_
    unfold metB metL
    rw [egl, c2, if_pos rfl, er]
    simp
  · have c2 : ¬ lastS = "#" := fun q => c (decide_eq_true (by rw [q]))
    refine rest _ p p2 (stepsOf t) (stepsOf wi) g0 e1 e2 (steps_many t) ?_
    unfold metB metL
    rw [egl, if_neg (fun q => c2 (Option.some.inj q))]
end
end Bk

set_option Elab.async false
set_option linter.all false
set_option maxRecDepth 100000
set_option maxHeartbeats 4000000
namespace Bk
open PySem PySem.Spec PyProof.Rows L2
abbrev s_cup : Stmt := top 31
abbrev s_roll : Stmt := top 32
abbrev s_some : Stmt := top 33
/-! ### the law's cup -/
def CupOk (g s : Int) : Prop := 0 ≤ g ∧ 0 ≤ s ∧ s < 4294967296
/-- the cup stands at a -/
def Cup (H : Hp) (a : Addr) : Prop := ∃ g s, H a = some (.lst [.int g, .int s]) ∧ CupOk g s
def spCup (K : PySem.W.Frag) (T : Tbs) : Sp := fun vs H Q _ => ∃ (a : Addr) (ns : List Int), vs = [.ref a] ∧ SqL K H a (ns.map V.int) ∧ ns.length ≤ 63 ∧ LamX.Tabs T H ∧ ∀ p H', Gr T H H' → Cup H' p → Q (.ref p) H'
def spRoll : Sp := fun vs H Q _ => ∃ (a : Addr) (g s many : Int), vs = [.ref a, .int many] ∧ H a = some (.lst [.int g, .int s]) ∧ CupOk g s ∧ 0 < many ∧ many < 1000000 ∧ ∀ r g' s', 0 ≤ r → r < many → CupOk g' s' → Q (.int r) (upd H a (.lst [.int g', .int s']))
def spSome (K : PySem.W.Frag) : Sp := fun vs H Q _ => ∃ (a b : Addr) (g s : Int) (xs : List V), vs = [.ref a, .ref b] ∧ H a = some (.lst [.int g, .int s]) ∧ CupOk g s ∧ H b = some (.lst xs) ∧ a ≠ b ∧ xs ≠ [] ∧ xs.length < 1000000 ∧
  ∀ x g' s', x ∈ xs → CupOk g' s' → Q x (upd H a (.lst [.int g', .int s']))
section
variable {P : Program} {w : World} {K : PySem.W.Frag} {mg : Str → Option Value} {base : Heap} {T : Tbs}
theorem sc_meets : FnScope ["topic", "wish"] ["topic", "wish"] (defScope s_meets) := ⟨rfl, rfl, rfl, by decide +kernel, rfl, by decide +kernel, by decide +kernel⟩
theorem has_meets (F : At K mg "meets" s_meets) (HT : Has P w K mg base (L2.CX P w) 5 "check_topic" ["topic"] (spCk K T topicV (He.ga K "InvalidTopic"))) (HW : Has P w K mg base (L2.CX P w) 5 "check_wish" ["wish"] (spCk K T wishV (He.ga K "InvalidWish")))
    (HM : Has P w K mg base CX0 3 "is_met" ["topic", "wish"] (spMet K T)) : Has P w K mg base (L2.CX P w) 6 "meets" ["topic", "wish"] (spMeets K T (He.ga K "InvalidTopic") (He.ga K "InvalidWish")) := by
  refine F.ok sc_meets (fun _ _ _ _ _ _ us hl => match us, hl with | [_, _], _ => rfl) (fun vs H Q E h => ?_) fun A outer s H vs Q E hr h => ?_
  · obtain ⟨x, y, rfl, _⟩ := h
    rfl
  obtain ⟨x, y, rfl, ax, ay, tb, q1, q2, q3⟩ := h
  refine ⟨_, pss_cons (ps_expr (Has.call HT hr (passes_call (takes_of rfl rfl rfl rfl) (fun _ _ _ _ h => h)) (pa_cons (pv 0) pa_nil)))
    (pss_cons (ps_expr (Has.call HW hr (passes_call (takes_of rfl rfl rfl rfl) (fun _ _ _ _ h => h)) (pa_cons (pv 1) pa_nil)))
    (pss_one (ps_ret (Has.call HM (hr.mono (by decide)) pass0 (pa_cons (pv 0) (pa_cons (pv 1) pa_nil)))))), ?_⟩
  refine ⟨x, rfl, x, rfl, ax, tb, fun ex H1 g1 => ?_, fun ex H' g => q1 ex H' g⟩
  refine ⟨y, rfl, y, rfl, ay.gr g1, g1.tabs, fun ey H2 g2 => ?_, fun ey H' g => q2 ex ey H' (g1.trans g)⟩
  have hx : ∃ t, x = .str t ∧ t.length ≤ 1000 := by
    rcases ax with h | rfl | ⟨i, rfl⟩ | ⟨b, rfl⟩ | ⟨a, xs, rfl, _⟩
    · exact h
    all_goals cases ex
  have hy : ∃ t, y = .str t ∧ t.length ≤ 1000 := by
    rcases ay with h | rfl | ⟨i, rfl⟩ | ⟨b, rfl⟩ | ⟨a, xs, rfl, _⟩
    · exact h
    all_goals cases ey
  obtain ⟨t, rfl, ht⟩ := hx
  obtain ⟨u, rfl, hu⟩ := hy
  exact ⟨_, rfl, _, rfl, t, u, rfl, ht, hu, g2.tabs, fun H' g3 => q3 t u rfl rfl ex ey H' (g1.trans (g2.trans g3))⟩
theorem sc_is_way_up_to : FnScope ["way", "other"] ["way", "other"] (defScope s_is_way_up_to) := ⟨rfl, rfl, rfl, by decide +kernel, rfl, by decide +kernel, by decide +kernel⟩
theorem has_is_way_up_to (F : At K mg "is_way_up_to" s_is_way_up_to) (W : Ways K mg) : Has P w K mg base CX0 1 "is_way_up_to" ["way", "other"] spUp := by
  refine F.ok0 sc_is_way_up_to (fun _ _ _ _ _ _ us hl => match us, hl with | [_, _], _ => rfl) (fun vs H Q E h => ?_) fun A outer s H vs Q E hr h => ?_
  · obtain ⟨x, y, rfl, _⟩ := h
    rfl
  obtain ⟨a, b, rfl, ha, hb, q⟩ := h
  refine ⟨_, pss_one (ps_ret (pe_cmpR op_le (pe_bm PySem.F.plainAttrs_tuple PySem.F.slot_tuple_index PySem.F.type_tuple_index mt_tup_index (pe_glob (v := .ref (He.ga K "WAYS")) rfl W.g rfl) (pa_cons (pv 0) pa_nil))
    (pe_bm PySem.F.plainAttrs_tuple PySem.F.slot_tuple_index PySem.F.type_tuple_index mt_tup_index (pe_glob (v := .ref (He.ga K "WAYS")) rfl W.g rfl) (pa_cons (pv 1) pa_nil)) (nomark _))), ?_⟩
  obtain ⟨a1, a2⟩ := way_at ha
  obtain ⟨b1, b2⟩ := way_at hb
  obtain ⟨o, o1, o2, o3⟩ := W.d
  refine ⟨.inr (.inl ⟨rfl, o, o1, o2, o3⟩), _, rfl, _, _, a, _, rfl, rfl, W.t H, a1, a2, .inr (.inl ⟨rfl, o, o1, o2, o3⟩), _, rfl, _, _, b, _, rfl, rfl, W.t H, b1, b2, _, _, rfl, rfl, q⟩
theorem sc_lesser_way : FnScope ["one", "other"] ["one", "other"] (defScope s_lesser_way) := ⟨rfl, rfl, rfl, by decide +kernel, rfl, by decide +kernel, by decide +kernel⟩
theorem has_lesser_way (F : At K mg "lesser_way" s_lesser_way) (HC : Has P w K mg base (L2.CX P w) 2 "check_way" ["way"] (spCk0 K wayV (He.ga K "InvalidWay"))) (HU : Has P w K mg base CX0 1 "is_way_up_to" ["way", "other"] spUp) :
    Has P w K mg base (L2.CX P w) 3 "lesser_way" ["one", "other"] (spLess K (He.ga K "InvalidWay")) := by
  refine F.ok sc_lesser_way (fun _ _ _ _ _ _ us hl => match us, hl with | [_, _], _ => rfl) (fun vs H Q E h => ?_) fun A outer s H vs Q E hr h => ?_
  · obtain ⟨x, y, rfl, _⟩ := h
    rfl
  obtain ⟨x, y, rfl, ax, ay, q1, q2, q3⟩ := h
  refine ⟨_, pss_cons (ps_expr (Has.call HC hr (passes_call (takes_of rfl rfl rfl rfl) (fun _ _ _ _ h => h)) (pa_cons (pv 0) pa_nil)))
    (pss_cons (ps_expr (Has.call HC hr (passes_call (takes_of rfl rfl rfl rfl) (fun _ _ _ _ h => h)) (pa_cons (pv 1) pa_nil)))
    (pss_one (ps_ret (pe_ifExp (pt_val (Has.call HU (hr.mono (by decide)) pass0 (pa_cons (pv 0) (pa_cons (pv 1) pa_nil)))) (pv 0) (pv 1))))), ?_⟩
  refine ⟨x, rfl, x, rfl, ax, fun ex => ?_, fun ex => q1 ex⟩
  refine ⟨y, rfl, y, rfl, ay, fun ey => ?_, fun ey => q2 ex ey⟩
  have hx : ∃ t, x = .str t := by
    rcases ax with ⟨t, h, _⟩ | rfl | ⟨i, rfl⟩ | ⟨b, rfl⟩ | ⟨a, xs, rfl, _⟩
    · exact ⟨t, h⟩
    all_goals cases ex
  have hy : ∃ t, y = .str t := by
    rcases ay with ⟨t, h, _⟩ | rfl | ⟨i, rfl⟩ | ⟨b, rfl⟩ | ⟨a, xs, rfl, _⟩
    · exact ⟨t, h⟩
    all_goals cases ey
  obtain ⟨t, rfl⟩ := hx
  obtain ⟨u, rfl⟩ := hy
  have q := q3 t u rfl rfl ex ey
  refine ⟨_, rfl, _, rfl, t, u, rfl, ex, ey, _, rfl, ?_⟩
  refine ite2 (fun c => ?_) (fun c => ?_)
  · rw [if_pos c] at q
    exact ⟨_, rfl, q⟩
  · rw [if_neg c] at q
    exact ⟨_, rfl, q⟩
/-! ### the law's cup, rolls -/
theorem sc_roll : FnScope ["_law_cup_here", "_law_many", "_law_found", "_law_deep"] ["_law_cup_here", "_law_many"] (defScope s_roll) := ⟨rfl, rfl, rfl, by decide +kernel, rfl, by decide +kernel, by decide +kernel⟩
theorem has_roll (F : At K mg "_law_roll" s_roll) (zi : mg "int" = none) : Has P w K mg base CX0 1 "_law_roll" ["_law_cup_here", "_law_many"] spRoll := by
  refine F.ok0 sc_roll (fun _ _ _ _ _ _ us hl => match us, hl with | [_, _], _ => rfl) (fun vs H Q E h => ?_) fun A outer s H vs Q E hr h => ?_
  · obtain ⟨a, g, s, many, rfl, _⟩ := h
    rfl
  obtain ⟨a, g, sd, many, rfl, ha, ⟨g0, s0, s1⟩, m0, m1, q⟩ := h
  refine ⟨_, pss_cons (ps_if (pt_cmpR op_gt (pe_ix ix_list (pv 0) pe_int (fun _ _ => rfl)) pe_int (nomark _))
      (pss_cons (ps_set (i := 2) sc_roll.nd rfl (Or.inl rfl) (pe_op op_mod (pe_callTy call_int1 rfl zi boot_int (pa_cons (pe_ix ix_list (pv 0) pe_int (fun _ _ => rfl)) pa_nil)) (pv 1)))
      (pss_cons (ps_asg (pe_op op_fdiv (pe_ix ix_list (pv 0) pe_int (fun _ _ => rfl)) (pv 1)) (pg_sub (pv 0) pe_int set_list))
      (pss_one (ps_ret (pv 2))))) pss_nil)
    (pss_cons (ps_asg (pe_op op_mod (pe_callTy call_int1 rfl zi boot_int (pa_cons (pe_op op_add (pe_op op_mul (pe_ix ix_list (pv 0) pe_int (fun _ _ => rfl)) pe_int) pe_int) pa_nil)) pe_int) (pg_sub (pv 0) pe_int set_list))
    (pss_cons (ps_set (i := 3) sc_roll.nd rfl (Or.inl rfl) (pe_op op_mod (pe_callTy call_int1 rfl zi boot_int (pa_cons (pe_op op_mul (pe_ix ix_list (pv 0) pe_int (fun _ _ => rfl)) (pe_op op_add (pe_ix ix_list (pv 0) pe_int (fun _ _ => rfl)) pe_int)) pa_nil)) pe_int))
    (pss_one (ps_ret (pe_op op_mod (pe_callTy call_int1 rfl zi boot_int (pa_cons (pe_op op_fdiv (pv 3) pe_int) pa_nil)) (pv 1)))))), ?_⟩
  refine ⟨_, rfl, a, _, 0, .int g, rfl, rfl, SqL.of ha, rfl, g, 0, rfl, rfl, _, rfl, ite2 (fun c => ?_) (fun c => ?_)⟩
  · refine ⟨_, rfl, a, _, 0, .int g, rfl, rfl, SqL.of ha, rfl, .inl ⟨g, rfl, ?_⟩⟩
    refine ⟨_, rfl, g, many, rfl, rfl, m0, ?_⟩
    refine ⟨_, rfl, a, _, 0, .int g, rfl, rfl, SqL.of ha, rfl, _, rfl, g, many, rfl, rfl, ⟨m0, by omega⟩, ?_⟩
    refine ⟨_, rfl, a, _, 0, 0, rfl, rfl, ha, rfl, ?_⟩
    refine ⟨_, rfl, ?_⟩
    exact q (g % many) (g / many) sd (Int.emod_nonneg _ (by omega)) (Int.emod_lt_of_pos _ m0) ⟨Int.ediv_nonneg g0 (by omega), s0, s1⟩
  · refine ⟨_, rfl, a, _, 1, .int sd, rfl, rfl, SqL.of ha, rfl, sd, 30671, rfl, rfl, .inr ⟨by decide, by decide⟩, ?_⟩
    refine ⟨_, _, rfl, rfl, .inl ⟨_, rfl, ?_⟩⟩
    refine ⟨_, _, rfl, rfl, (by show (0 : Int) < 2147483549; decide), ?_⟩
    refine ⟨_, rfl, a, _, 1, 1, rfl, rfl, ha, rfl, ?_⟩
    have h0 : 0 ≤ (sd * 30671 + 7919) % 2147483549 := Int.emod_nonneg _ (by decide)
    have h1 : (sd * 30671 + 7919) % 2147483549 < 2147483549 := Int.emod_lt_of_pos _ (by decide)
    have hb : (upd H a (.lst ([V.int g, V.int sd].set 1 (V.int ((sd * 30671 + 7919) % 2147483549))))) a = some (.lst [V.int g, V.int ((sd * 30671 + 7919) % 2147483549)]) := upd_same
    refine ⟨_, rfl, a, _, 1, _, rfl, rfl, SqL.of hb, rfl, _, rfl, a, _, 1, _, rfl, rfl, SqL.of hb, rfl, _, 131, rfl, rfl, ?_⟩
    refine ⟨_, _, rfl, rfl, .inl ⟨by omega, by omega⟩, .inl ⟨_, rfl, ?_⟩⟩
    refine ⟨_, _, rfl, rfl, (by show (0 : Int) < 2147483587; decide), ?_⟩
    refine ⟨_, rfl, _, 709, rfl, rfl, ⟨by decide, by decide⟩, .inl ⟨_, rfl, ?_⟩⟩
    refine ⟨_, rfl, _, many, rfl, rfl, m0, ?_⟩
    exact q _ g ((sd * 30671 + 7919) % 2147483549) (Int.emod_nonneg _ (by omega)) (Int.emod_lt_of_pos _ m0) ⟨g0, h0, by omega⟩
theorem sc_some : FnScope ["_law_cup_here", "_law_things"] ["_law_cup_here", "_law_things"] (defScope s_some) := ⟨rfl, rfl, rfl, by decide +kernel, rfl, by decide +kernel, by decide +kernel⟩
theorem has_some (F : At K mg "_law_some" s_some) (zl : mg "len" = none) (HR : Has P w K mg base CX0 1 "_law_roll" ["_law_cup_here", "_law_many"] spRoll) : Has P w K mg base CX0 2 "_law_some" ["_law_cup_here", "_law_things"] (spSome K) := by
  refine F.ok0 sc_some (fun _ _ _ _ _ _ us hl => match us, hl with | [_, _], _ => rfl) (fun vs H Q E h => ?_) fun A outer s H vs Q E hr h => ?_
  · obtain ⟨a, b, g, s, xs, rfl, _⟩ := h
    rfl
  obtain ⟨a, b, g, sd, xs, rfl, ha, hc, hb, hab, hne, hl, q⟩ := h
  refine ⟨_, pss_one (ps_ret (pe_ix ix_list (pv 1) (Has.call HR hr pass0 (pa_cons (pv 0) (pa_cons (pe_callB call_len_seq rfl zl PySem.boot_len (pa_cons (pv 1) pa_nil)) pa_nil))) (fun _ _ => rfl))), ?_⟩
  have hpos : 0 < xs.length := List.length_pos_iff.mpr hne
  refine ⟨_, rfl, _, rfl, _, rfl, b, xs, rfl, .inl (SqL.of hb), a, g, sd, _, rfl, ha, hc, by omega, by omega, fun r g' s' r0 r1 hc' => ?_⟩
  have hb' : (upd H a (.lst [.int g', .int s'])) b = some (.lst xs) := by rw [upd_ne (Ne.symm hab)]; exact hb
  have hr2 : r.toNat < xs.length := by omega
  have er : r = ((r.toNat : Nat) : Int) := by omega
  refine ⟨b, xs, r, xs[r.toNat], rfl, rfl, SqL.of hb', ?_, q _ g' s' (List.getElem_mem hr2) hc'⟩
  have q2 : atI xs ((r.toNat : Nat) : Int) = some xs[r.toNat] := atI_nat (List.getElem?_eq_getElem hr2)
  rw [← er] at q2
  exact q2
theorem sc_cup : FnScope ["_law_script", "_law_cell", "_law_great"] ["_law_script"] (defScope s_cup) := ⟨rfl, rfl, rfl, by decide +kernel, rfl, by decide +kernel, by decide +kernel⟩
theorem has_cup (F : At K mg "_law_cup" s_cup) (zl : mg "list" = none) (za : mg "abs" = none) (zi : mg "int" = none) : Has P w K mg base CX0 1 "_law_cup" ["_law_script"] (spCup K T) := by
  refine F.ok0 sc_cup (fun _ _ _ _ _ _ us hl => match us, hl with | [_], _ => rfl) (fun vs H Q E h => ?_) fun A outer s H vs Q E hr h => ?_
  · obtain ⟨a, ns, rfl, _⟩ := h
    rfl
  obtain ⟨a, ns, rfl, hS, hl, tb, q⟩ := h
  refine ⟨_, pss_cons (ps_set (i := 1) sc_cup.nd rfl (Or.inl rfl) (pe_callB call_abs rfl za (by decide +kernel) (pa_cons (pe_ix ix_list (pe_op op_cat (pe_callTy call_list_of rfl zl (by decide +kernel) (pa_cons (pv 0) pa_nil)) (pe_lst (pa_cons pe_int pa_nil))) pe_int (fun _ _ => rfl)) pa_nil)))
    (pss_cons (ps_set (i := 2) sc_cup.nd rfl (Or.inl rfl) (pe_ifExp (pt_cmpR op_ge (pv 1) (pe_op op_pow pe_int pe_int) (nomark _)) (pe_op op_fdiv (pv 1) pe_int) pe_int))
    (pss_one (ps_ret (pe_lst (pa_cons (pv 2) (pa_cons (pe_op op_add (pe_op op_mod (pe_callTy call_int1 rfl zi boot_int (pa_cons (pe_op op_add (pe_op op_mul (pv 1) pe_int) pe_int) pa_nil)) pe_int) pe_int) pa_nil)))))), ?_⟩
  refine ⟨_, rfl, a, _, rfl, .inl hS, fun l1 hl1 => ?_⟩
  have g1 := Gr.new tb hl1 (.lst (ns.map V.int))
  refine ⟨by show 1 ≤ sizeLine; decide, fun l2 hl2 => ?_⟩
  have g2 := Gr.new g1.tabs hl2 (.lst [V.int 0])
  refine ⟨l1, l2, ns.map V.int, [V.int 0], rfl, rfl, g2.lst upd_same, upd_same, ?_, fun l3 hl3 => ?_⟩
  · rw [List.length_map]
    show ns.length + 1 ≤ sizeLine
    exact Nat.le_trans (Nat.succ_le_succ hl) (by decide)
  have g3 := Gr.new g2.tabs hl3 (.lst (ns.map V.int ++ [V.int 0]))
  have hat : ∃ c : Int, atI (ns.map V.int ++ [V.int 0]) 0 = some (V.int c) := by
    cases ns with
    | nil => exact ⟨0, rfl⟩
    | cons n r => exact ⟨n, atI_nat (j := 0) rfl⟩
  obtain ⟨c, hat⟩ := hat
  refine ⟨l3, _, 0, .int c, rfl, rfl, SqL.of upd_same, hat, c, rfl, ?_⟩
  have c0 : 0 ≤ (if c < 0 then -c else c) := by split <;> omega
  generalize (if c < 0 then -c else c) = cell at c0 ⊢
  -- what is returned
  have rest : ∀ great : Int, 0 ≤ great → tRet (tLst (tCons (tVar 2) (tCons (tOp (rI0 fun i j => .int (i + j)) (tOp (rI (fun _ j => 0 < j) fun i j => .int (i % j)) (tCB (fun xs H Q => (∃ i, xs = [.int i] ∧ Q (.int i) H) ∨ ∃ k, xs = [.bl k] ∧ Q (.int (if k then 1 else 0)) H) (tCons (tOp (rI0 fun i j => .int (i + j)) (tOp (rI CMul fun i j => .int (i * j)) (tVar 1) (tC (.int 193))) (tC (.int 1201))) tNil)) (tC (.int 2077504273))) (tC (.int 89))) tNil)))
      { nx := fun _ H' => Q .non H', rt := Q } [some (.ref a), some (.int cell), some (.int great)] (upd (upd (upd H l1 (.lst (ns.map V.int))) l2 (.lst [V.int 0])) l3 (.lst (ns.map V.int ++ [V.int 0]))) := by
    intro great hg
    refine ⟨_, rfl, _, rfl, cell, 193, rfl, rfl, .inr ⟨by decide, by decide⟩, _, _, rfl, rfl, .inl ⟨_, rfl, ?_⟩⟩
    refine ⟨_, _, rfl, rfl, (by show (0 : Int) < 2077504273; decide), _, _, rfl, rfl, (by show 2 ≤ sizeLine; decide), fun p hp => ?_⟩
    refine q p _ (g1.trans (g2.trans (g3.trans (Gr.new g3.tabs hp _)))) ⟨great, _, upd_same, hg, ?_, ?_⟩
    · have := Int.emod_nonneg (cell * 193 + 1201) (show (2077504273 : Int) ≠ 0 by decide)
      omega
    · have := Int.emod_lt_of_pos (cell * 193 + 1201) (show (0 : Int) < 2077504273 by decide)
      omega
  refine ⟨_, rfl, 10, 18, rfl, rfl, ⟨by decide, by decide, by decide⟩, cell, _, rfl, rfl, _, rfl, ite2 (fun c => ?_) (fun c => ?_)⟩
  · exact ⟨_, rfl, cell, 11, rfl, rfl, ⟨by decide, by decide⟩, rest _ (Int.ediv_nonneg c0 (by decide))⟩
  · exact rest 0 (Int.le_refl 0)
end
end Bk

set_option Elab.async false
set_option linter.all false
set_option maxRecDepth 100000
set_option maxHeartbeats 4000000
namespace Bk
open PySem PySem.Spec PyProof.Rows L2
abbrev s_lmet : Stmt := top 34
/-! ### lists of texts, as data -/
def OkS (z : Str) : Prop := PyData.strOk z = true
theorem dp_strs {K : PySem.W.Frag} {H : Hp} : ∀ l : List Str, DpAll K H (l.map V.str) (l.map PyData.str)
  | [] => .nil
  | x :: r => .cons (.str x) (dp_strs r)
theorem canLay_strs : ∀ l : List Str, (∀ s ∈ l, OkS s) → PyData.canLayAll0 (l.map PyData.str) = true
  | [], _ => by simp [PyData.canLayAll0]
  | x :: r, h => by
    have h1 : PyData.strOk x = true := h x List.mem_cons_self
    have h2 := canLay_strs r fun s hs => h s (List.mem_cons_of_mem _ hs)
    simp only [List.map_cons, PyData.canLayAll0, PyData.canLay0, h1, h2, Bool.and_self]
theorem depth_strs : ∀ l : List Str, PyData.depthAll (l.map PyData.str) = 0
  | [] => by simp [PyData.depthAll]
  | x :: r => by simp only [List.map_cons, PyData.depthAll, PyData.depth, depth_strs r, Nat.max_self]
theorem shaped_strs {l : List Str} (h : ∀ s ∈ l, OkS s) : SeqAt.shaped (.list (l.map PyData.str)) = true := by
  unfold SeqAt.shaped
  simp only [PyData.canLay0, PyData.depth, canLay_strs l h, depth_strs, Bool.true_and]
  decide
theorem eqv_strs : ∀ l m : List Str, PyData.eqvAll (l.map PyData.str) (m.map PyData.str) = decide (l = m)
  | [], [] => by simp [PyData.eqvAll]
  | [], y :: m => by simp [PyData.eqvAll]
  | x :: l, [] => by simp [PyData.eqvAll]
  | x :: l, y :: m => by
    simp only [List.map_cons, PyData.eqvAll, PyData.eqv, eqv_strs l m]
    by_cases h1 : x = y
    · by_cases h2 : l = m
      · simp [h1, h2]
      · simp [h1, h2]
    · simp [h1]
def rEqS (K : PySem.W.Frag) (neg : Bool) : R2 := fun x y H Q => ∃ (a b : Addr) (l m : List Str), x = .ref a ∧ y = .ref b ∧ SqL K H a (l.map V.str) ∧ SqL K H b (m.map V.str) ∧ (∀ s ∈ l, OkS s) ∧ (∀ s ∈ m, OkS s) ∧ Q (.bl (if neg = true then !decide (l = m) else decide (l = m))) H
/-- == of two lists of texts -/
theorem eq_strs {X : Cx} {k : Nat} (hr : Room k X.A) {K : PySem.W.Frag} (hK : X.K = K) : OpR X (compareOp .Eq) (rEqS K false) := by
  subst hK
  intro pins s σ H x y v u Q I rx ry h
  obtain ⟨a, b, l, m, rfl, rfl, h1, h2, h3, h4, q⟩ := h
  refine op_eqD (by have := hr.un; omega) pins s σ H _ _ v u Q I rx ry ⟨.list (l.map PyData.str), .list (m.map PyData.str), .lst h1 (dp_strs l), .lst h2 (dp_strs m), shaped_strs h3, shaped_strs h4, ?_⟩
  rw [show PyData.eqv (.list (l.map PyData.str)) (.list (m.map PyData.str)) = decide (l = m) by simp only [PyData.eqv]; exact eqv_strs l m]
  exact q
theorem ne_strs {X : Cx} {k : Nat} (hr : Room k X.A) {K : PySem.W.Frag} (hK : X.K = K) : OpR X (compareOp .NotEq) (rEqS K true) := by
  subst hK
  intro pins s σ H x y v u Q I rx ry h
  obtain ⟨a, b, l, m, rfl, rfl, h1, h2, h3, h4, q⟩ := h
  refine op_neD (by have := hr.un; omega) pins s σ H _ _ v u Q I rx ry ⟨.list (l.map PyData.str), .list (m.map PyData.str), .lst h1 (dp_strs l), .lst h2 (dp_strs m), shaped_strs h3, shaped_strs h4, ?_⟩
  rw [show PyData.eqv (.list (l.map PyData.str)) (.list (m.map PyData.str)) = decide (l = m) by simp only [PyData.eqv]; exact eqv_strs l m]
  exact q
theorem notIn_seq {X : Cx} {K : PySem.W.Frag} (h : X.K = K) : OpR X (compareOp .NotIn) (rIn K true) := by
  subst h
  exact op_notIn_seq
/-- the steps of an orderly text are orderly -/
theorem spl_sub (S : List Nat) : ∀ (l : List Nat) (k : Nat) (acc : List Nat), ∀ p ∈ TL.spl S k acc l, ∀ c ∈ p, c ∈ acc ∨ c ∈ l := by
  intro l
  induction l with
  | nil =>
    intro k acc p hp c hc
    rw [TL.spl_nil] at hp
    rw [List.mem_singleton.mp hp] at hc
    exact .inl hc
  | cons x r ih =>
    intro k acc p hp c hc
    cases k with
    | succ k =>
      rcases ih k acc p hp c hc with q | q
      · exact .inl q
      · exact .inr (List.mem_cons_of_mem _ q)
    | zero =>
      cases e : TL.pre S (x :: r) with
      | true =>
        rw [TL.spl_hit e] at hp
        rcases List.mem_cons.mp hp with q | q
        · rw [q] at hc; exact .inl hc
        · rcases ih _ _ p q c hc with z | z
          · simp at z
          · exact .inr (List.mem_cons_of_mem _ z)
      | false =>
        rw [TL.spl_miss e] at hp
        rcases ih _ _ p hp c hc with z | z
        · rcases List.mem_append.mp z with z | z
          · exact .inl z
          · rw [List.mem_singleton.mp z]; exact .inr List.mem_cons_self
        · exact .inr (List.mem_cons_of_mem _ z)
theorem okS_iff {z : Str} : OkS z ↔ ∀ c ∈ TL.tl z, c < 0x110000 := by
  unfold OkS PyData.strOk
  rw [Array.all_eq_true']
  constructor
  · intro h c hc
    have := h c (Array.mem_def.mpr hc)
    simpa using this
  · intro h c hc
    have := h c (Array.mem_def.mp hc)
    simpa using this
theorem steps_ok {z s : Str} (hz : OkS z) (h : s ∈ stepsOf z) : OkS s := by
  rw [okS_iff] at hz ⊢
  have h2 : TL.tl s ∈ (stepsOf z).map TL.tl := List.mem_map_of_mem h
  rw [stepsOf_tl] at h2
  intro c hc
  rcases spl_sub [47] (TL.tl z) 0 [] _ h2 c hc with q | q
  · simp at q
  · exact hz c q
/-! ### the law's own meeting -/
def lawMet : List Str → List Str → Bool
  | st, [] => st.isEmpty
  | [], a :: r => decide (a = "#" ∧ r = [])
  | s :: st, a :: r => if a = "#" ∧ r = [] then true else if inV (.str a) [.str "+", .str s] = true then lawMet st r else false
theorem lawMet_hash (st : List Str) : lawMet st [(("#" : String) : Str)] = true := by
  cases st with
  | nil => unfold lawMet; simp
  | cons s r => unfold lawMet; simp
theorem metS_cons (s a : Str) (st wa : List Str) : metS (s :: st) (a :: wa) = (pairB (a, s) && metS st wa) := by
  unfold metS
  rw [List.zip_cons_cons, List.all_cons]
  have e : decide (((s :: st).length : Int) = (a :: wa).length) = decide ((st.length : Int) = wa.length) := by
    simp only [List.length_cons]
    by_cases h : st.length = wa.length
    · simp [h]
    · rw [decide_eq_false (by omega), decide_eq_false (by omega)]
  rw [e]
  cases decide ((st.length : Int) = wa.length) <;> cases pairB (a, s) <;> simp
theorem metS_nil_cons (a : Str) (wa : List Str) : metS [] (a :: wa) = false := by
  unfold metS
  rw [decide_eq_false (by simp only [List.length_nil, List.length_cons]; omega)]
  rfl
theorem metL_law : ∀ wa st : List Str, lawMet st wa = metL st wa := by
  intro wa
  induction wa with
  | nil =>
    intro st
    unfold metL metS
    cases st with
    | nil => simp [lawMet]
    | cons s r =>
      simp only [lawMet, List.isEmpty_cons, List.getLast?_nil, List.zip_nil_left, List.all_nil, Bool.and_true]
      rw [if_neg (by simp)]
      rw [decide_eq_false (by simp only [List.length_nil, List.length_cons]; omega)]
  | cons a r ih =>
    intro st
    cases r with
    | nil =>
      by_cases ha : a = "#"
      · subst ha
        rw [lawMet_hash]
        unfold metL
        rw [show ([("#" : Str)]).getLast? = some (("#" : String) : Str) from rfl, if_pos rfl]
        show true = metS (st.take 0) []
        rw [List.take_zero]
        rfl
      · have e1 : ([a] : List Str).getLast? = some a := rfl
        unfold metL
        rw [e1, if_neg (fun q => ha (Option.some.inj q))]
        cases st with
        | nil => rw [metS_nil_cons]; simp [lawMet, ha]
        | cons s st' =>
          rw [metS_cons]
          have e2 : metS st' [] = st'.isEmpty := by
            have := ih st'
            unfold lawMet metL at this
            rw [if_neg (by simp)] at this
            cases st' <;> exact this.symm
          rw [e2]
          unfold lawMet
          rw [if_neg (fun q => ha q.1)]
          show (if pairB (a, s) = true then lawMet st' [] else false) = _
          cases pairB (a, s) with
          | true => rw [if_pos rfl, Bool.true_and]; cases st' <;> rfl
          | false => rfl
    | cons b r' =>
      have e1 : (a :: b :: r').getLast? = (b :: r').getLast? := List.getLast?_cons_cons
      have nh : ¬ (a = "#" ∧ b :: r' = []) := fun q => by cases q.2
      cases st with
      | nil =>
        have e2 : lawMet [] (a :: b :: r') = false := by unfold lawMet; exact decide_eq_false nh
        rw [e2]
        unfold metL
        rw [e1]
        split
        · rw [show (a :: b :: r').dropLast = a :: (b :: r').dropLast from rfl, List.take_nil, metS_nil_cons]
        · rw [metS_nil_cons]
      | cons s st' =>
        have e2 : lawMet (s :: st') (a :: b :: r') = (pairB (a, s) && lawMet st' (b :: r')) := by
          rw [lawMet, if_neg nh]
          show (if pairB (a, s) = true then _ else _) = _
          cases pairB (a, s) <;> rfl
        rw [e2, ih st']
        unfold metL
        rw [e1]
        split
        · rw [show (a :: b :: r').dropLast = a :: (b :: r').dropLast from rfl]
          have e3 : (a :: b :: r').length - 1 = ((b :: r').length - 1) + 1 := by simp
          rw [e3, List.take_succ_cons, metS_cons]
        · rw [metS_cons]
/-- one turn -/
theorem lawMet_turn {s a : Str} {st r : List Str} (nh : a :: r ≠ [(("#" : String) : Str)]) : lawMet (s :: st) (a :: r) = if inV (.str a) [.str "+", .str s] = true then lawMet st r else false := by
  rw [lawMet, if_neg (fun q => nh (by rw [q.1, q.2]))]
theorem lawMet_out {a : Str} {r : List Str} (nh : a :: r ≠ [(("#" : String) : Str)]) : lawMet [] (a :: r) = false := by
  unfold lawMet
  exact decide_eq_false (fun q => nh (by rw [q.1, q.2]))
theorem cut_one (xs : List V) : cutV xs (some 1) none = xs.drop 1 := by
  unfold cutV
  rw [show HT.sIx xs.length 0 (some 1) = min 1 xs.length from HT.sIx_nat xs.length 0 1, HT.sIx_none]
  cases xs with
  | nil => rfl
  | cons x r =>
    rw [show min 1 (x :: r).length = 1 by rw [List.length_cons]; omega]
    show (List.take ((x :: r).length - 1) r) = r
    rw [List.length_cons, Nat.add_sub_cancel]
    exact List.take_length
abbrev hashL : List Str := [(("#" : String) : Str)]
def IvMet (T : Tbs) (t wi : Str) (H : Hp) (m : Nat) (σ : L2.St) (H' : Hp) : Prop := ∃ (pa pb : Addr) (st wa : List Str), σ = [some (.str t), some (.str wi), some (.ref pa), some (.ref pb)] ∧ m = wa.length ∧ Gr T H H' ∧ H' pa = some (.lst (st.map V.str)) ∧ H' pb = some (.lst (wa.map V.str)) ∧ (∀ s ∈ st, OkS s) ∧ (∀ s ∈ wa, OkS s) ∧ lawMet st wa = lawMet (stepsOf t) (stepsOf wi)
def spLawMet (T : Tbs) : Sp := fun vs H Q _ => ∃ t w : Str, vs = [.str t, .str w] ∧ t.length ≤ 1000 ∧ w.length ≤ 1000 ∧ OkS t ∧ OkS w ∧ LamX.Tabs T H ∧ ∀ H', Gr T H H' → Q (.bl (metB t w)) H'
section
variable {P : Program} {w : World} {K : PySem.W.Frag} {mg : Str → Option Value} {base : Heap} {T : Tbs}
theorem sc_lmet : FnScope ["_law_topic_here", "_law_wish", "_law_steps", "_law_asked"] ["_law_topic_here", "_law_wish"] (defScope s_lmet) := ⟨rfl, rfl, rfl, by decide +kernel, rfl, by decide +kernel, by decide +kernel⟩
theorem ok_hash : ∀ s ∈ hashL, OkS s := fun s h => by
  rw [List.mem_singleton.mp h]
  show PyData.strOk ("#" : Str) = true
  decide +kernel
theorem has_lmet (F : At K mg "_law_met" s_lmet) : Has P w K mg base CX0 1 "_law_met" ["_law_topic_here", "_law_wish"] (spLawMet T) := by
  refine F.ok0 sc_lmet (fun _ _ _ _ _ _ us hl => match us, hl with | [_, _], _ => rfl) (fun vs H Q E h => ?_) fun A outer s H vs Q E hr h => ?_
  · obtain ⟨x, y, rfl, _⟩ := h
    rfl
  obtain ⟨t, wi, rfl, ht, hw, ot, ow, tb, q⟩ := h
  refine ⟨_, pss_cons (ps_par (i := 2) (j := 3) rfl sc_lmet.nd rfl rfl (by decide) rfl rfl (pa_cons (pe_split (pv 0) pe_str) (pa_cons (pe_split (pv 1) pe_str) pa_nil)) (by rfl))
    (pss_cons (ps_while PassesOwn.never (pw_and (pt_cmpR (ne_strs hr (K := K) rfl) (pv 3) (pe_lst pa_nil) (nomark _)) (pw_and1 (pt_cmpR (ne_strs hr (K := K) rfl) (pv 3) (pe_lst (pa_cons pe_str pa_nil)) (nomark _)))).pt
      (pss_cons (ps_if (pw_or (pt_cmpR (eq_strs hr (K := K) rfl) (pv 2) (pe_lst pa_nil) (nomark _)) (pw_or1 (pt_cmpR (notIn_seq (K := K) rfl) (pe_ix ix_list (pv 3) pe_int (fun _ _ => rfl)) (pe_tup (pa_cons pe_str (pa_cons (pe_ix ix_list (pv 2) pe_int (fun _ _ => rfl)) pa_nil))) rfl))).pt (pss_one (ps_ret pe_bl)) pss_nil)
      (pss_one (ps_par (i := 2) (j := 3) rfl sc_lmet.nd rfl rfl (by decide) rfl rfl (pa_cons (pe_slice sl_list (pv 2) (po_some pe_int) po_none) (pa_cons (pe_slice sl_list (pv 3) (po_some pe_int) po_none) pa_nil)) (by rfl)))))
    (pss_one (ps_ret (pe_or (pe_cmpR (eq_strs hr (K := K) rfl) (pv 3) (pe_lst (pa_cons pe_str pa_nil)) (nomark _)) (pe_one (pe_cmpR (eq_strs hr (K := K) rfl) (pv 2) (pe_lst pa_nil) (nomark _))))))), ?_⟩
  refine ⟨_, rfl, ⟨t, rfl⟩, t, "/", rfl, rfl, rfl, two_more ht, fun p hp => ?_⟩
  refine ⟨_, rfl, ⟨wi, rfl⟩, wi, "/", rfl, rfl, rfl, two_more hw, fun p2 hp2 => ?_⟩
  refine ⟨_, _, rfl, ?_⟩
  have g1 : Gr T H (upd H p (.lst ((stepsOf t).map V.str))) := Gr.new tb hp _
  have g2 : Gr T _ (upd (upd H p (.lst ((stepsOf t).map V.str))) p2 (.lst ((stepsOf wi).map V.str))) := Gr.new g1.tabs hp2 _
  have fin : ∀ H' b, Gr T H H' → b = lawMet (stepsOf t) (stepsOf wi) → Q (.bl b) H' := fun H' b g e => by
    rw [e, metL_law]
    exact q H' g
  refine ⟨IvMet T t wi H,
    ⟨_, p, p2, stepsOf t, stepsOf wi, rfl, rfl, g1.trans g2, g2.lst upd_same, upd_same, fun s hs => steps_ok ot hs, fun s hs => steps_ok ow hs, rfl⟩, ?_⟩
  rintro m σ H1 ⟨pa, pb, st, wa, rfl, rfl, ga, ea, eb, oa, ob, el⟩
  refine ⟨_, rfl, Nat.zero_le _, fun p3 hp3 => ?_⟩
  have g3 := Gr.new ga.tabs hp3 (.lst [])
  refine ⟨pb, p3, wa, [], rfl, rfl, SqL.of (g3.lst eb), SqL.of upd_same, ob, fun s hs => by simp at hs, _, rfl, ?_⟩
  by_cases h0 : wa = []
  · show (if (if true = true then !decide (wa = []) else decide (wa = [])) = true then _ else _)
    rw [if_neg (by rw [h0]; decide)]
    refine ⟨_, rfl, (by decide), fun p4 hp4 => ?_⟩
    have g4 := Gr.new g3.tabs hp4 (.lst [V.str "#"])
    have g34 := g3.trans g4
    refine ⟨pb, p4, wa, hashL, rfl, rfl, SqL.of (g34.lst eb), SqL.of upd_same, ob, ok_hash, _, rfl, ?_⟩
    rw [if_neg (by rw [h0]; decide)]
    refine ⟨_, rfl, (by decide), fun p5 hp5 => ?_⟩
    have g5 := Gr.new g34.tabs hp5 (.lst [])
    have g35 := g34.trans g5
    refine ⟨pa, p5, st, [], rfl, rfl, SqL.of (g35.lst ea), SqL.of upd_same, oa, (fun s hs => by simp at hs), ?_⟩
    refine fin _ _ (ga.trans g35) ?_
    rw [← el, h0]
    show decide (st = []) = _
    cases st <;> rfl
  · show (if (if true = true then !decide (wa = []) else decide (wa = [])) = true then _ else _)
    rw [if_pos (by rw [decide_eq_false h0]; rfl)]
    refine ⟨_, rfl, (by decide), fun p4 hp4 => ?_⟩
    have g4 := Gr.new g3.tabs hp4 (.lst [V.str "#"])
    have g34 := g3.trans g4
    refine ⟨pb, p4, wa, hashL, rfl, rfl, SqL.of (g34.lst eb), SqL.of upd_same, ob, ok_hash, _, rfl, ?_⟩
    by_cases h1 : wa = hashL
    · show (if (if true = true then !decide (wa = hashL) else decide (wa = hashL)) = true then _ else _)
      rw [if_neg (by rw [decide_eq_true h1]; decide)]
      refine ⟨_, rfl, (by decide), fun p5 hp5 => ?_⟩
      have g5 := Gr.new g34.tabs hp5 (.lst [V.str "#"])
      have g35 := g34.trans g5
      refine ⟨pb, p5, wa, hashL, rfl, rfl, SqL.of (g35.lst eb), SqL.of upd_same, ob, ok_hash, _, rfl, ?_⟩
      rw [if_pos (by rw [decide_eq_true h1]; rfl)]
      refine fin _ _ (ga.trans g35) ?_
      rw [← el, h1]
      exact (lawMet_hash st).symm
    · show (if (if true = true then !decide (wa = hashL) else decide (wa = hashL)) = true then _ else _)
      rw [if_pos (by rw [decide_eq_false h1]; rfl)]
      obtain ⟨a, r, rfl⟩ : ∃ a r, wa = a :: r := by cases wa with | nil => exact absurd rfl h0 | cons a r => exact ⟨a, r, rfl⟩
      refine ⟨_, fun _ _ h => h, _, rfl, Nat.zero_le _, fun p5 hp5 => ?_⟩
      have g5 := Gr.new g34.tabs hp5 (.lst [])
      have g35 := g34.trans g5
      refine ⟨pa, p5, st, [], rfl, rfl, SqL.of (g35.lst ea), SqL.of upd_same, oa, (fun s hs => by simp at hs), _, rfl, ?_⟩
      cases st with
      | nil =>
        show (if true = true then _ else _)
        rw [if_pos rfl]
        refine fin _ _ (ga.trans g35) ?_
        rw [← el]
        exact (lawMet_out h1).symm
      | cons z st =>
        show (if false = true then _ else _)
        rw [if_neg (by decide)]
        refine ⟨_, rfl, pb, _, 0, .str a, rfl, rfl, SqL.of (g35.lst eb), atI_nat (j := 0) rfl, ?_⟩
        refine ⟨_, rfl, pa, _, 0, .str z, rfl, rfl, SqL.of (g35.lst ea), atI_nat (j := 0) rfl, ?_⟩
        refine ⟨(by show 2 ≤ sizeLine; decide), fun p6 hp6 => ?_⟩
        have g6 := Gr.new g35.tabs hp6 (.tup [V.str "+", V.str z])
        have g36 := g35.trans g6
        refine ⟨p6, [V.str "+", V.str z], rfl, .inr (SqT.of upd_same), rfl, rfl, _, rfl, ?_⟩
        show (if (if true = true then !inV (.str a) [.str "+", .str z] else inV (.str a) [.str "+", .str z]) = true then _ else _)
        by_cases hm : inV (.str a) [.str "+", .str z] = true
        · rw [if_neg (by rw [hm]; decide)]
          refine ⟨_, rfl, 1, rfl, pa, _, rfl, SqL.of (g36.lst ea), fun p7 hp7 => ?_⟩
          rw [cut_one]
          have g7 := Gr.new g36.tabs hp7 (.lst ((z :: st).map V.str |>.drop 1))
          have g37 := g36.trans g7
          refine ⟨_, rfl, 1, rfl, pb, _, rfl, SqL.of (g37.lst eb), fun p8 hp8 => ?_⟩
          rw [cut_one]
          have g8 := Gr.new g37.tabs hp8 (.lst ((a :: r).map V.str |>.drop 1))
          refine ⟨_, _, rfl, ?_⟩
          refine ⟨r.length, Nat.lt_succ_self _, p7, p8, st, r, rfl, rfl, ga.trans (g37.trans g8), g8.lst upd_same, upd_same, fun s hs => oa s (List.mem_cons_of_mem _ hs), fun s hs => ob s (List.mem_cons_of_mem _ hs), ?_⟩
          rw [← el, lawMet_turn h1, if_pos hm]
        · rw [if_pos (by rw [Bool.eq_false_iff.mpr hm]; rfl)]
          refine fin _ _ (ga.trans g36) ?_
          rw [← el, lawMet_turn h1, if_neg hm]
end
end Bk

set_option Elab.async false
set_option linter.all false
set_option maxRecDepth 100000
set_option maxHeartbeats 4000000
namespace Bk
open PySem PySem.Spec PyProof.Rows L2
/-! ### texts made of steps -/
def names4 : List Str := ["a", "b", "ab", "abcdef"]
def signs2 : List Str := ["+", "#"]
abbrev plusS : Str := ("+" : String)
abbrev hashS : Str := ("#" : String)
abbrev slashS : Str := ("/" : String)
def joinS (qs : List Str) : Str := Txt.join slashS qs
/-- one to five steps, each one of six -/
structure Mk (qs : List Str) : Prop where
  ne : qs ≠ []
  le : qs.length ≤ 5
  mem : ∀ q ∈ qs, q ∈ names4 ∨ q = plusS ∨ q = hashS
theorem part_of {Pr : Str → Prop} (h4 : ∀ q ∈ names4, Pr q) (h1 : Pr plusS) (h2 : Pr hashS) {qs : List Str} (m : Mk qs) : ∀ q ∈ qs, Pr q := fun q hq => by
  rcases m.mem q hq with h | rfl | rfl
  · exact h4 q h
  · exact h1
  · exact h2
theorem Mk.noSlash {qs : List Str} (m : Mk qs) : ∀ q ∈ qs, 47 ∉ TL.tl q := part_of (by decide +kernel) (by decide +kernel) (by decide +kernel) m
theorem Mk.steps {qs : List Str} (m : Mk qs) : stepsOf (joinS qs) = qs := TL.split_join (s := 47) (S := []) tl_slash (by decide +kernel) m.ne m.noSlash
theorem Mk.okAll {qs : List Str} (m : Mk qs) : ∀ q ∈ qs, OkS q := part_of (by unfold OkS; decide +kernel) (by unfold OkS; decide +kernel) (by unfold OkS; decide +kernel) m
theorem Mk.lenAll {qs : List Str} (m : Mk qs) : ∀ q ∈ qs, (TL.tl q).length ≤ 6 := part_of (by decide +kernel) (by decide +kernel) (by decide +kernel) m
theorem joinL_len (S : List Nat) (hS : S.length ≤ 1) : ∀ l : List (List Nat), (∀ q ∈ l, q.length ≤ 6) → (TL.joinL S l).length ≤ 7 * l.length
  | [], _ => by simp [TL.joinL]
  | [p], h => by
    have := h p List.mem_cons_self
    show p.length ≤ 7 * 1
    omega
  | p :: q :: r, h => by
    have h1 := h p List.mem_cons_self
    have h2 := joinL_len S hS (q :: r) fun x hx => h x (List.mem_cons_of_mem _ hx)
    show (p ++ (S ++ TL.joinL S (q :: r))).length ≤ _
    rw [List.length_append, List.length_append]
    rw [List.length_cons (a := p)]
    omega
theorem joinL_mem (S : List Nat) : ∀ (l : List (List Nat)) (c : Nat), c ∉ S → (c ∈ TL.joinL S l ↔ ∃ p ∈ l, c ∈ p)
  | [], c, _ => by simp [TL.joinL]
  | [p], c, _ => by simp [TL.joinL]
  | p :: q :: r, c, h => by
    show c ∈ p ++ (S ++ TL.joinL S (q :: r)) ↔ _
    rw [List.mem_append, List.mem_append, joinL_mem S (q :: r) c h]
    constructor
    · rintro (x | x | ⟨z, hz, x⟩)
      · exact ⟨p, List.mem_cons_self, x⟩
      · exact absurd x h
      · exact ⟨z, List.mem_cons_of_mem _ hz, x⟩
    · rintro ⟨z, hz, x⟩
      rcases List.mem_cons.mp hz with rfl | hz
      · exact .inl x
      · exact .inr (.inr ⟨z, hz, x⟩)
theorem tl_joinS (qs : List Str) : TL.tl (joinS qs) = TL.joinL [47] (qs.map TL.tl) := by
  unfold joinS
  rw [TL.join_eq, TL.tl_join, tl_slash]
theorem Mk.len {qs : List Str} (m : Mk qs) : (joinS qs).length ≤ 1000 := by
  rw [TL.len_tl, tl_joinS]
  have h := joinL_len [47] (by simp) (qs.map TL.tl) fun x hx => by
    obtain ⟨q, hq, rfl⟩ := List.mem_map.mp hx
    exact m.lenAll q hq
  rw [List.length_map] at h
  have := m.le
  omega
theorem Mk.ok {qs : List Str} (m : Mk qs) : OkS (joinS qs) := by
  rw [okS_iff]
  intro c hc
  rw [tl_joinS] at hc
  by_cases h : c ∈ [47]
  · rw [List.mem_singleton.mp h]; decide
  · rw [joinL_mem _ _ _ h] at hc
    obtain ⟨p, hp, hc⟩ := hc
    obtain ⟨q, hq, rfl⟩ := List.mem_map.mp hp
    exact okS_iff.mp (m.okAll q hq) c hc
theorem joinS_has {qs : List Str} (c : Nat) (h : c ≠ 47) : c ∈ TL.tl (joinS qs) ↔ ∃ q ∈ qs, c ∈ TL.tl q := by
  rw [tl_joinS, joinL_mem _ _ _ (by simpa using h)]
  constructor
  · rintro ⟨p, hp, hc⟩
    obtain ⟨q, hq, rfl⟩ := List.mem_map.mp hp
    exact ⟨q, hq, hc⟩
  · rintro ⟨q, hq, hc⟩
    exact ⟨_, List.mem_map_of_mem hq, hc⟩
theorem cnt_nn (c : Nat) : ∀ l : List Nat, 0 ≤ cnt c l ∧ (cnt c l = 0 ↔ c ∉ l)
  | [] => by rw [cnt_nil]; simp
  | n :: r => by
    obtain ⟨h1, h2⟩ := cnt_nn c r
    rw [cnt_cons]
    by_cases e : n = c
    · rw [if_pos e]
      subst e
      constructor
      · omega
      · constructor
        · intro h; omega
        · intro h; exact absurd List.mem_cons_self h
    · rw [if_neg e]
      constructor
      · omega
      · rw [Int.zero_add, h2]
        simp [Ne.symm e]
theorem plus_eq : plusS = ⟨#[43]⟩ := by decide +kernel
theorem hash_eq : hashS = ⟨#[35]⟩ := by decide +kernel
/-- no sign of "+" and "#" -/
theorem count_none (z : Str) : decide (Txt.count z plusS + Txt.count z hashS = 0) = decide (43 ∉ TL.tl z ∧ 35 ∉ TL.tl z) := by
  rw [plus_eq, hash_eq, count_cnt, count_cnt]
  have h1 := cnt_nn 43 z.cps.toList
  have h2 := cnt_nn 35 z.cps.toList
  refine decide_eq_decide.mpr ⟨fun h => ⟨h1.2.mp (by omega), h2.2.mp (by omega)⟩, fun h => ?_⟩
  have a := h1.2.mpr h.1
  have b := h2.2.mpr h.2
  omega
theorem Mk.topic {qs : List Str} (m : Mk qs) : topicB (joinS qs) = qs.all nameB := by
  unfold topicB
  rw [m.steps, decide_eq_true (by have := m.le; omega), Bool.true_and]
theorem name_iff : (∀ q ∈ names4, nameB q = true ∧ 43 ∉ TL.tl q ∧ 35 ∉ TL.tl q ∧ q ≠ plusS ∧ q ≠ hashS) := by decide +kernel
theorem Mk.topic_count {qs : List Str} (m : Mk qs) : topicB (joinS qs) = decide (Txt.count (joinS qs) plusS + Txt.count (joinS qs) hashS = 0) := by
  rw [count_none, m.topic, Bool.eq_iff_iff, decide_eq_true_iff, List.all_eq_true]
  rw [joinS_has 43 (by decide), joinS_has 35 (by decide)]
  constructor
  · intro h
    constructor
    · rintro ⟨q, hq, hc⟩
      rcases m.mem q hq with h4 | rfl | rfl
      · exact (name_iff q h4).2.1 hc
      · have := h _ hq; revert this; decide +kernel
      · have := h _ hq; revert this; decide +kernel
    · rintro ⟨q, hq, hc⟩
      rcases m.mem q hq with h4 | rfl | rfl
      · exact (name_iff q h4).2.2.1 hc
      · have := h _ hq; revert this; decide +kernel
      · have := h _ hq; revert this; decide +kernel
  · rintro ⟨h1, h2⟩ q hq
    rcases m.mem q hq with h4 | rfl | rfl
    · exact (name_iff q h4).1
    · exact absurd ⟨_, hq, by decide +kernel⟩ h1
    · exact absurd ⟨_, hq, by decide +kernel⟩ h2
/-! ### topics, and wishes made of them -/
structure Mt (ps : List Str) : Prop where
  ne : ps ≠ []
  le : ps.length ≤ 5
  mem : ∀ p ∈ ps, p ∈ names4
theorem Mt.k {ps : List Str} (m : Mt ps) : Mk ps := ⟨m.ne, m.le, fun p hp => .inl (m.mem p hp)⟩
theorem Mt.topic {ps : List Str} (m : Mt ps) : topicB (joinS ps) = true := by
  rw [m.k.topic, List.all_eq_true]
  exact fun q hq => (name_iff q (m.mem q hq)).1
theorem last_mem {l : List Str} {z : Str} (h : l.getLast? = some z) : z ∈ l := List.mem_of_getLast? h
theorem Mt.wish {ps : List Str} (m : Mt ps) : wishB (joinS ps) = true := by
  unfold wishB
  rw [m.k.steps, if_neg (by have := m.le; simp only [decide_eq_true_iff]; omega)]
  unfold stemL
  rw [if_neg (fun e => (name_iff _ (m.mem _ (last_mem e))).2.2.2.2 rfl), List.all_eq_true]
  intro q hq
  unfold stepB
  rw [(name_iff q (m.mem q hq)).1, Bool.or_true]
inductive Op : List Str → List Str → Prop
  | nil : Op [] []
  | same (p : Str) {ps qs} : Op ps qs → Op (p :: ps) (p :: qs)
  | open_ (p : Str) {ps qs} : Op ps qs → Op (p :: ps) (plusS :: qs)
theorem Op.len {ps qs : List Str} (o : Op ps qs) : ps.length = qs.length := by
  induction o with
  | nil => rfl
  | same p _ ih => rw [List.length_cons, List.length_cons, ih]
  | open_ p _ ih => rw [List.length_cons, List.length_cons, ih]
theorem Op.mem {ps qs : List Str} (o : Op ps qs) : ∀ q ∈ qs, q ∈ ps ∨ q = plusS := by
  induction o with
  | nil => intro q hq; cases hq
  | same p _ ih =>
    intro q hq
    rcases List.mem_cons.mp hq with rfl | hq
    · exact .inl List.mem_cons_self
    · exact (ih q hq).imp (List.mem_cons_of_mem _) id
  | open_ p _ ih =>
    intro q hq
    rcases List.mem_cons.mp hq with rfl | hq
    · exact .inr rfl
    · exact (ih q hq).imp (List.mem_cons_of_mem _) id
theorem lawMet_step {s a : Str} {st r : List Str} (h : inV (.str a) [.str plusS, .str s] = true) (k : lawMet st r = true) : lawMet (s :: st) (a :: r) = true := by
  unfold lawMet
  by_cases c : a = hashS ∧ r = []
  · rw [if_pos c]
  · rw [if_neg c, if_pos h]; exact k
theorem inV_same (p : Str) : inV (.str p) [.str plusS, .str p] = true := by
  unfold inV
  simp [eqV]
theorem inV_plus (p : Str) : inV (.str plusS) [.str plusS, .str p] = true := by
  unfold inV
  simp [eqV]
theorem Op.met {ps qs : List Str} (o : Op ps qs) : lawMet ps qs = true := by
  induction o with
  | nil => rfl
  | same p _ ih => exact lawMet_step (inV_same p) ih
  | open_ p _ ih => exact lawMet_step (inV_plus p) ih
theorem Op.metCut {ps qs : List Str} (o : Op ps qs) : ∀ n, lawMet ps (qs.take n ++ [hashS]) = true := by
  induction o with
  | nil => intro n; rw [List.take_nil]; exact lawMet_hash []
  | same p _ ih =>
    intro n
    cases n with
    | zero => exact lawMet_hash _
    | succ n => rw [List.take_succ_cons]; exact lawMet_step (inV_same p) (ih n)
  | open_ p _ ih =>
    intro n
    cases n with
    | zero => exact lawMet_hash _
    | succ n => rw [List.take_succ_cons]; exact lawMet_step (inV_plus p) (ih n)
/-- the steps of a wish made of a topic -/
def Opened (ps ws : List Str) : Prop := ∃ qs, Op ps qs ∧ (ws = qs ∨ ∃ n, n < qs.length ∧ ws = qs.take n ++ [hashS])
theorem Opened.mk {ps ws : List Str} (m : Mt ps) (o : Opened ps ws) : Mk ws := by
  obtain ⟨qs, h, rfl | ⟨n, hn, rfl⟩⟩ := o
  · refine ⟨fun e => m.ne (List.length_eq_zero_iff.mp (by rw [h.len, e]; rfl)), by rw [← h.len]; exact m.le, fun q hq => (h.mem q hq).elim (fun z => .inl (m.mem q z)) fun z => .inr (.inl z)⟩
  · refine ⟨by simp, ?_, fun q hq => ?_⟩
    · rw [List.length_append, List.length_take, List.length_singleton]
      have := m.le
      have := h.len
      omega
    · rcases List.mem_append.mp hq with hq | hq
      · exact (h.mem q (List.mem_of_mem_take hq)).elim (fun z => .inl (m.mem q z)) fun z => .inr (.inl z)
      · exact .inr (.inr (List.mem_singleton.mp hq))
theorem Opened.met {ps ws : List Str} (m : Mt ps) (o : Opened ps ws) : metB (joinS ps) (joinS ws) = true := by
  unfold metB
  rw [m.k.steps, (o.mk m).steps, ← metL_law]
  obtain ⟨qs, h, rfl | ⟨n, hn, rfl⟩⟩ := o
  · exact h.met
  · exact h.metCut n
theorem step_of {q : Str} (h : q ∈ names4 ∨ q = plusS) : stepB q = true := by
  unfold stepB
  rcases h with h | rfl
  · rw [(name_iff q h).1, Bool.or_true]
  · rw [decide_eq_true rfl]; rfl
theorem Opened.wish {ps ws : List Str} (m : Mt ps) (o : Opened ps ws) : wishB (joinS ws) = true := by
  have k := o.mk m
  unfold wishB
  rw [k.steps, if_neg (by have := k.le; simp only [decide_eq_true_iff]; omega)]
  obtain ⟨qs, h, e⟩ := o
  have hs : ∀ q ∈ qs, stepB q = true := fun q hq => step_of ((h.mem q hq).imp (m.mem q) id)
  have hn : ∀ q ∈ qs, q ≠ hashS := fun q hq e => by
    rcases h.mem q hq with z | z
    · exact (name_iff q (m.mem q z)).2.2.2.2 e
    · rw [z] at e; revert e; decide +kernel
  unfold stemL
  rcases e with rfl | ⟨n, hl, rfl⟩
  · rw [if_neg (fun e => hn _ (last_mem e) rfl), List.all_eq_true]
    exact hs
  · rw [if_pos (by rw [List.getLast?_append]; rfl), List.dropLast_concat, List.all_eq_true]
    exact fun q hq => hs q (List.mem_of_mem_take hq)
/-- two topics: one meets the other just if they are the same -/
theorem lawMet_names : ∀ ps qs : List Str, (∀ q ∈ qs, q ∈ names4) → lawMet ps qs = decide (ps = qs)
  | [], [], _ => rfl
  | s :: r, [], _ => by simp [lawMet]
  | [], a :: r, h => by
    have := name_iff a (h a List.mem_cons_self)
    unfold lawMet
    rw [decide_eq_false (fun e => this.2.2.2.2 e.1)]
    simp
  | s :: st, a :: r, h => by
    have ha := name_iff a (h a List.mem_cons_self)
    have ih := lawMet_names st r fun q hq => h q (List.mem_cons_of_mem _ hq)
    unfold lawMet
    rw [if_neg (fun e => ha.2.2.2.2 e.1), ih]
    have e : inV (.str a) [.str ("+" : String), .str s] = decide (s = a) := by
      show inV (.str a) [.str plusS, .str s] = decide (s = a)
      unfold inV
      have := ha.2.2.2.1
      by_cases e : s = a
      · subst e
        simp [eqV, this]
      · simp [eqV, Ne.symm this, e]
    rw [e]
    by_cases e1 : s = a
    · subst e1
      by_cases e2 : st = r <;> simp [e2]
    · simp [e1]
theorem Mt.same {ps qs : List Str} (m : Mt ps) (k : Mt qs) : metB (joinS ps) (joinS qs) = decide (joinS ps = joinS qs) := by
  unfold metB
  rw [m.k.steps, k.k.steps, ← metL_law, lawMet_names _ _ k.mem]
  refine decide_eq_decide.mpr ⟨fun e => by rw [e], fun e => ?_⟩
  have := m.k.steps
  rw [e, k.k.steps] at this
  exact this.symm
end Bk

set_option Elab.async false
set_option linter.all false
set_option maxRecDepth 100000
set_option maxHeartbeats 4000000
namespace Bk
open PySem PySem.Spec PyProof.Rows L2
abbrev s_ltopic : Stmt := top 36
abbrev s_lopened : Stmt := top 37
/-! ### the cup's own list may change, all else goes on -/
structure GrC (T : Tbs) (a : Addr) (H H' : Hp) : Prop where
  ext : ∀ b o, b ≠ a → H b = some o → (∀ ps, o ≠ .tbl ps) → H' b = some o
  tabs : LamX.Tabs T H'
  cup : Cup H' a
theorem Gr.cupd {T : Tbs} {H H' : Hp} {a : Addr} (g : Gr T H H') (c : Cup H a) : Cup H' a := by
  obtain ⟨x, s, h, k⟩ := c
  exact ⟨x, s, g.lst h, k⟩
theorem Gr.c {T : Tbs} {H H' : Hp} {a : Addr} (g : Gr T H H') (c : Cup H a) : GrC T a H H' := ⟨fun b o _ h n => g.ext b o h n, g.tabs, g.cupd c⟩
theorem GrC.trans {T : Tbs} {a : Addr} {H H1 H2 : Hp} (x : GrC T a H H1) (y : GrC T a H1 H2) : GrC T a H H2 := ⟨fun b o n h k => y.ext b o n (x.ext b o n h k) k, y.tabs, y.cup⟩
theorem GrC.lst {T : Tbs} {a : Addr} {H H' : Hp} (g : GrC T a H H') {b : Addr} {xs : List V} (n : b ≠ a) (h : H b = some (.lst xs)) : H' b = some (.lst xs) := g.ext b _ n h (fun _ z => by cases z)
theorem GrC.tup {T : Tbs} {a : Addr} {H H' : Hp} (g : GrC T a H H') {b : Addr} {xs : List V} (c : Cup H a) (h : H b = some (.tup xs)) : H' b = some (.tup xs) := g.ext b _ (fun e => by
  obtain ⟨x, s, k, _⟩ := c
  rw [e, k] at h
  cases h) h (fun _ z => by cases z)
theorem tabs_upd {T : Tbs} {a : Addr} {H : Hp} {xs ys : List V} (t : LamX.Tabs T H) (h : H a = some (.lst xs)) : LamX.Tabs T (upd H a (.lst ys)) := by
  intro p hp
  obtain ⟨ps, h1, h2, h3⟩ := t p hp
  refine ⟨ps, ?_, h2, fun pos cv hc => ?_⟩
  · rw [upd_ne (fun e => by rw [e, h] at h1; cases h1)]; exact h1
  · obtain ⟨c, e1, e2⟩ := h3 pos cv hc
    refine ⟨c, e1, ?_⟩
    rw [upd_ne (fun e => by rw [e, h] at e2; cases e2)]
    exact e2
theorem GrC.put {T : Tbs} {a : Addr} {H : Hp} {xs : List V} (t : LamX.Tabs T H) (h : H a = some (.lst xs)) {g s : Int} (k : CupOk g s) : GrC T a H (upd H a (.lst [.int g, .int s])) :=
  ⟨fun b o n e _ => by rw [upd_ne n]; exact e, tabs_upd t h, ⟨g, s, upd_same, k⟩⟩
/-- a new object is not the cup -/
theorem new_ne {H : Hp} {a p : Addr} (c : Cup H a) (h : H p = none) : p ≠ a := fun e => by
  obtain ⟨x, s, k, _⟩ := c
  rw [e, k] at h
  cases h
theorem GrC.new {T : Tbs} {a : Addr} {H H1 : Hp} (g : GrC T a H H1) {p : Addr} (hp : H1 p = none) (o : HO) : GrC T a H (upd H1 p o) := g.trans ((Gr.new g.tabs hp o).c g.cup)
/-- a list of one's own may grow -/
theorem GrC.own {T : Tbs} {a D : Addr} {H H' : Hp} {xs ys : List V} (g : GrC T a H H') (hD : H D = none) (n : D ≠ a) (e : H' D = some (.lst xs)) : GrC T a H (upd H' D (.lst ys)) := by
  refine ⟨fun b o k h z => ?_, tabs_upd g.tabs e, ?_⟩
  · rw [upd_ne (fun q => by rw [q, hD] at h; cases h)]
    exact g.ext b o k h z
  · obtain ⟨x, s, h, k⟩ := g.cup
    exact ⟨x, s, by rw [upd_ne (Ne.symm n)]; exact h, k⟩
theorem yes_if {σ : L2.St} {H : Hp} {A B : Hp → Prop} (h : A H) : tYes σ H fun b H3 => if b = true then A H3 else B H3 := by
  unfold tYes
  show (if true = true then A H else B H)
  rw [if_pos rfl]
  exact h
def BlkD (N : List Str) (sc scope : Scope) (own : List (Str × Nat)) : Prop := scope.kind = .function ∧ (∀ y ∈ scope.names, scope.names.lookup y.1 = some y.2) ∧ (∀ p ∈ own, N[p.2]? = some p.1) ∧ (∀ y ∈ scope.names, y.2 = .free → sc.names.lookup y.1 = some .cell ∨ sc.names.lookup y.1 = some .free) ∧ (∀ y ∈ scope.names, y.2 = .local ∨ y.2 = .cell → y.1 ∈ own.map (·.1) ∨ y.1 ∉ N)
instance {N : List Str} {sc scope : Scope} {own : List (Str × Nat)} : Decidable (BlkD N sc scope own) := by unfold BlkD; infer_instance
theorem blk_by {N : List Str} {sc scope : Scope} {own : List (Str × Nat)} (h : BlkD N sc scope own) : BlkOk N sc scope own := ⟨h.1, h.2.1, h.2.2.1, h.2.2.2.1, h.2.2.2.2⟩
def spTopic (T : Tbs) : Sp := fun vs H Q _ => ∃ a, vs = [.ref a] ∧ Cup H a ∧ LamX.Tabs T H ∧ ∀ ps H', Mt ps → GrC T a H H' → Q (.str (joinS ps)) H'
section
variable {P : Program} {w : World} {K : PySem.W.Frag} {mg : Str → Option Value} {base : Heap} {T : Tbs}
theorem nd_ab {x y : Str} (h : x ≠ y) : [x, y].Nodup := by simp [h]
theorem sc_ltopic : FnScope ["_law_cup_here", "_law_step"] ["_law_cup_here"] (defScope s_ltopic) := ⟨rfl, rfl, rfl, by decide +kernel, rfl, by decide +kernel, by decide +kernel⟩
theorem sum_le {n : Nat} : ∀ ps : List Str, (∀ p ∈ ps, (TL.tl p).length ≤ n) → (ps.map (·.length)).sum ≤ n * ps.length
  | [], _ => by simp
  | p :: r, h => by
    have h1 := h p List.mem_cons_self
    have h2 := sum_le r fun x hx => h x (List.mem_cons_of_mem _ hx)
    rw [List.map_cons, List.sum_cons, List.length_cons]
    rw [← TL.len_tl] at h1
    have : n * (r.length + 1) = n * r.length + n := Nat.mul_succ _ _
    omega
theorem Mk.sum {qs : List Str} (m : Mk qs) : (qs.map (·.length)).sum + qs.length * slashS.length ≤ 16777216 := by
  have h1 := sum_le qs m.lenAll
  have h2 := m.le
  have h3 : slashS.length = 1 := by decide +kernel
  rw [h3]
  omega
theorem has_ltopic (F : At K mg "_law_topic" s_ltopic) (zr : mg "range" = none) (HR : Has P w K mg base CX0 1 "_law_roll" ["_law_cup_here", "_law_many"] spRoll) (HS : Has P w K mg base CX0 2 "_law_some" ["_law_cup_here", "_law_things"] (spSome K)) :
    Has P w K mg base CX0 3 "_law_topic" ["_law_cup_here"] (spTopic T) := by
  refine F.ok0 sc_ltopic (fun _ _ _ _ _ _ us hl => match us, hl with | [_], _ => rfl) (fun vs H Q E h => ?_) fun A outer s H vs Q E hr h => ?_
  · obtain ⟨x, rfl, _⟩ := h
    rfl
  obtain ⟨a, rfl, hc, tb, q⟩ := h
  refine ⟨_, pss_one (ps_ret (pe_bm PySem.F.plainAttrs_str PySem.F.slot_str_join PySem.F.type_str_join mt_join pe_str (pa_cons (pe_lc (own := [("_law_step", 1)]) rfl sc_ltopic.nd
    (pi_range1 rfl zr (pa_cons (pe_op op_add pe_int (Has.call HR (hr.mono (by decide)) pass0 (pa_cons (pv 0) (pa_cons pe_int pa_nil)))) pa_nil))
    (blk_by (by show BlkD ["_law_cup_here", "_law_step"] (defScope s_ltopic) _ [("_law_step", 1)]; decide +kernel))
    (fun _ _ _ _ _ => pg_name (i := 1) sc_ltopic.nd rfl (Or.inl rfl)) (fun _ _ _ _ _ => pts_nil)
    (fun _ _ _ _ _ => Has.call HS hr pass0 (pa_cons (pv 0) (pa_cons (pe_lst (pa_cons pe_str (pa_cons pe_str (pa_cons pe_str (pa_cons pe_str pa_nil))))) pa_nil)))) pa_nil))), ?_⟩
  obtain ⟨g, sd, ha, k⟩ := hc
  refine ⟨rfl, _, rfl, a, g, sd, 5, rfl, ha, k, by decide, by decide, fun r g' s' r0 r1 k' => ?_⟩
  refine ⟨1, r, rfl, rfl, 1 + r, rfl, by omega, by omega, fun D hD => ?_⟩
  have gc0 := GrC.put tb ha k'
  have en : (1 + r).toNat = r.toNat + 1 := by omega
  refine lc_it (n := (1 + r).toNat) walk_range (fun i H' => ∃ ps : List Str, ps.length = i ∧ (∀ p ∈ ps, p ∈ names4) ∧ H' D = some (.lst (ps.map V.str)) ∧ GrC T a H H') ⟨[], rfl, fun _ hx => absurd hx List.not_mem_nil, upd_same, gc0.new hD _⟩ (fun _ _ _ _ => trivial) ?_ ?_
  · rintro i x H1 H2 hi ⟨ps, el, em, eD, gc⟩ ⟨rfl, rfl⟩
    have nD : D ≠ a := new_ne gc0.cup hD
    obtain ⟨g2, s2, ha2, k2⟩ := gc.cup
    refine ⟨rfl, yes_if ?_⟩
    refine ⟨_, rfl, by show 4 ≤ sizeLine; decide, fun p hp => ?_⟩
    have np : p ≠ a := new_ne gc.cup hp
    have gn := gc.new hp (.lst (names4.map V.str))
    refine ⟨a, p, g2, s2, names4.map V.str, rfl, ?_, k2, upd_same, Ne.symm np, by decide, by decide, fun y g3 s3 hy k3 => ?_⟩
    · rw [upd_ne (Ne.symm np)]; exact ha2
    obtain ⟨z, hz, rfl⟩ := List.mem_map.mp hy
    have hpD : D ≠ p := fun e => by rw [← e, eD] at hp; cases hp
    have ha3 : (upd H2 p (.lst (names4.map V.str))) a = some (.lst [.int g2, .int s2]) := by rw [upd_ne (Ne.symm np)]; exact ha2
    have gp := gn.trans (GrC.put gn.tabs ha3 k3)
    have eD3 : (upd (upd H2 p (.lst (names4.map V.str))) a (.lst [.int g3, .int s3])) D = some (.lst (ps.map V.str)) := by
      rw [upd_ne nD, upd_ne hpD]; exact eD
    refine ⟨ps.map V.str, eD3, by rw [List.length_map, el]; show _ < 16777216; omega, ps ++ [z], by rw [List.length_append, el]; rfl, fun x hx => ?_, ?_, ?_⟩
    · rcases List.mem_append.mp hx with hx | hx
      · exact em x hx
      · rw [List.mem_singleton.mp hx]; exact hz
    · rw [upd_same, List.map_append]; rfl
    · exact gp.own (by rw [← hD, upd_ne nD]) nD eD3
  · rintro H1 ⟨ps, el, em, eD, gc⟩
    have m : Mt ps := ⟨fun e => by rw [e] at el; simp at el; omega, by omega, em⟩
    exact ⟨slashS, D, ps, rfl, rfl, .inl (SqL.of eD), m.k.sum, q ps H1 m gc⟩
theorem Op.snoc {ps qs : List Str} (o : Op ps qs) {p q : Str} (h : q = p ∨ q = plusS) : Op (ps ++ [p]) (qs ++ [q]) := by
  induction o with
  | nil =>
    rcases h with rfl | rfl
    · exact .same _ .nil
    · exact .open_ _ .nil
  | same x _ ih => exact .same x ih
  | open_ x _ ih => exact .open_ x ih
theorem cut_nat (xs : List V) (n : Nat) (h : n ≤ xs.length) : cutV xs none (some (n : Int)) = xs.take n := by
  unfold cutV
  rw [HT.sIx_none, List.drop_zero, Nat.sub_zero, HT.sIx_nat, Nat.min_eq_left h]
def spOpened (T : Tbs) : Sp := fun vs H Q _ => ∃ a ps, vs = [.ref a, .str (joinS ps)] ∧ Mt ps ∧ Cup H a ∧ LamX.Tabs T H ∧ ∀ ws H', Opened ps ws → GrC T a H H' → Q (.str (joinS ws)) H'
theorem sc_lopened : FnScope ["_law_cup_here", "_law_topic_here", "_law_steps", "_law_at", "_law_step"] ["_law_cup_here", "_law_topic_here"] (defScope s_lopened) := ⟨rfl, rfl, rfl, by decide +kernel, rfl, by decide +kernel, by decide +kernel⟩
theorem has_lopened (F : At K mg "_law_opened" s_lopened) (zl : mg "len" = none) (HR : Has P w K mg base CX0 1 "_law_roll" ["_law_cup_here", "_law_many"] spRoll) (HS : Has P w K mg base CX0 2 "_law_some" ["_law_cup_here", "_law_things"] (spSome K)) :
    Has P w K mg base CX0 3 "_law_opened" ["_law_cup_here", "_law_topic_here"] (spOpened T) := by
  refine F.ok0 sc_lopened (fun _ _ _ _ _ _ us hl => match us, hl with | [_, _], _ => rfl) (fun vs H Q E h => ?_) fun A outer s H vs Q E hr h => ?_
  · obtain ⟨x, ps, rfl, _⟩ := h
    rfl
  obtain ⟨a, ps, rfl, m, hc, tb, q⟩ := h
  refine ⟨_, pss_cons (ps_setLc (i := 2) (own := [("_law_step", 4)]) rfl sc_lopened.nd rfl rfl (by rfl)
      (pi_list (pe_split (pv 1) pe_str))
      (blk_by (by show BlkD ["_law_cup_here", "_law_topic_here", "_law_steps", "_law_at", "_law_step"] (defScope s_lopened) _ [("_law_step", 4)]; decide +kernel))
      (fun _ _ _ _ _ => pg_name (i := 4) sc_lopened.nd rfl (Or.inl rfl)) (fun _ _ _ _ _ => pts_nil)
      (fun _ _ _ _ _ => Has.call HS hr pass0 (pa_cons (pv 0) (pa_cons (pe_lst (pa_cons (pv 4) (pa_cons (pv 4) (pa_cons pe_str pa_nil)))) pa_nil))))
    (pss_cons (ps_set (i := 3) sc_lopened.nd rfl (Or.inl rfl) (Has.call HR (hr.mono (by decide)) pass0 (pa_cons (pv 0) (pa_cons (pe_callB call_len_seq rfl zl PySem.boot_len (pa_cons (pv 2) pa_nil)) pa_nil))))
    (pss_cons (ps_if (pt_cmpR op_eq (Has.call HR (hr.mono (by decide)) pass0 (pa_cons (pv 0) (pa_cons pe_int pa_nil))) pe_int (nomark _))
      (pss_one (ps_set (i := 2) sc_lopened.nd rfl (Or.inl rfl) (pe_op op_cat (pe_slice sl_list (pv 2) po_none (po_some (pv 3))) (pe_lst (pa_cons pe_str pa_nil))))) pss_nil)
    (pss_one (ps_ret (pe_bm PySem.F.plainAttrs_str PySem.F.slot_str_join PySem.F.type_str_join mt_join pe_str (pa_cons (pv 2) pa_nil)))))), ?_⟩
  refine ⟨_, rfl, ⟨_, rfl⟩, joinS ps, slashS, rfl, rfl, rfl, two_more m.k.len, fun p0 hp0 => ?_⟩
  rw [show Txt.split (joinS ps) slashS = ps from m.k.steps]
  have gc0 : GrC T a H (upd H p0 (.lst (ps.map V.str))) := (Gr.new tb hp0 _).c hc
  have np0 : p0 ≠ a := new_ne hc hp0
  have hq0 : upd H p0 (.lst (ps.map V.str)) p0 = some (.lst (ps.map V.str)) := upd_same
  refine ⟨p0, rfl, ⟨_, SqL.of upd_same⟩, fun D hD => ?_⟩
  have nD : D ≠ a := new_ne gc0.cup hD
  have nDp : D ≠ p0 := fun e => by rw [e, upd_same] at hD; cases hD
  have hDH : H D = none := by rw [← hD, upd_ne nDp]
  refine lc_it (n := ps.length) (list_str p0 ps) (fun i H' => ∃ qs : List Str, Op (ps.take i) qs ∧ H' D = some (.lst (qs.map V.str)) ∧ H' p0 = some (.lst (ps.map V.str)) ∧ GrC T a H H')
    ⟨[], .nil, upd_same, by rw [upd_ne (Ne.symm nDp)]; exact upd_same, gc0.new hD _⟩ (fun i H' _ h => by obtain ⟨qs, _, _, e, _⟩ := h; exact SqL.of e) ?_ ?_
  · rintro i x H1 H2 hi ⟨qs, op, eD, e0, gc⟩ ⟨rfl, ex⟩
    obtain ⟨g2, s2, ha2, k2⟩ := gc.cup
    rw [List.getElem?_map] at ex
    have hx : ps[i]? = some ps[i] := List.getElem?_eq_getElem hi
    rw [hx] at ex
    obtain rfl : V.str ps[i] = x := Option.some.inj ex
    refine ⟨rfl, yes_if ?_⟩
    refine ⟨_, rfl, _, rfl, _, rfl, by show 3 ≤ sizeLine; decide, fun p hp => ?_⟩
    have np : p ≠ a := new_ne gc.cup hp
    have gn := gc.new hp (.lst [V.str ps[i], V.str ps[i], V.str plusS])
    refine ⟨a, p, g2, s2, [V.str ps[i], V.str ps[i], V.str plusS], rfl, ?_, k2, upd_same, Ne.symm np, by simp, by show 3 < 1000000; decide, fun y g3 s3 hy k3 => ?_⟩
    · rw [upd_ne (Ne.symm np)]; exact ha2
    obtain ⟨z, hz, rfl⟩ : ∃ z, (z = ps[i] ∨ z = plusS) ∧ y = V.str z := by
      simp only [List.mem_cons, List.not_mem_nil, or_false] at hy
      rcases hy with rfl | rfl | rfl
      · exact ⟨_, .inl rfl, rfl⟩
      · exact ⟨_, .inl rfl, rfl⟩
      · exact ⟨_, .inr rfl, rfl⟩
    have hpD : D ≠ p := fun e => by rw [← e, eD] at hp; cases hp
    have hp0p : p0 ≠ p := fun e => by rw [← e, e0] at hp; cases hp
    have ha3 : (upd H2 p (.lst [V.str ps[i], V.str ps[i], V.str plusS])) a = some (.lst [.int g2, .int s2]) := by rw [upd_ne (Ne.symm np)]; exact ha2
    have gp := gn.trans (GrC.put gn.tabs ha3 k3)
    have eD3 : (upd (upd H2 p (.lst [V.str ps[i], V.str ps[i], V.str plusS])) a (.lst [.int g3, .int s3])) D = some (.lst (qs.map V.str)) := by
      rw [upd_ne nD, upd_ne hpD]; exact eD
    refine ⟨qs.map V.str, eD3, ?_, qs ++ [z], ?_, ?_, ?_, gp.own hDH nD eD3⟩
    · rw [List.length_map, ← op.len, List.length_take]
      have := m.le
      show _ < 16777216
      omega
    · rw [List.take_succ, hx]
      exact op.snoc hz
    · rw [upd_same, List.map_append]; rfl
    · rw [upd_ne (Ne.symm nDp), upd_ne np0, upd_ne hp0p]; exact e0
  · rintro H1 ⟨qs, op, eD, _, gc⟩
    rw [List.take_length] at op
    obtain ⟨g2, s2, ha2, k2⟩ := gc.cup
    have hne : 0 < qs.length := by rw [← op.len]; exact List.length_pos_iff.mpr m.ne
    have hle : qs.length ≤ 5 := by rw [← op.len]; exact m.le
    refine ⟨_, rfl, _, rfl, D, _, rfl, .inl (SqL.of eD), ?_⟩
    rw [List.length_map]
    refine ⟨a, g2, s2, _, rfl, ha2, k2, by omega, by omega, fun r g3 s3 r0 r1 k3 => ?_⟩
    have g3c := GrC.put gc.tabs ha2 k3
    refine ⟨_, rfl, a, g3, s3, 2, rfl, upd_same, k3, by decide, by decide, fun r2 g4 s4 r20 r21 k4 => ?_⟩
    have g4c := g3c.trans (GrC.put g3c.tabs upd_same k4)
    have gc4 := gc.trans g4c
    have eD4 := g4c.lst nD eD
    refine ⟨rfl, _, rfl, ite2 (fun c => ?_) (fun c => ?_)⟩
    · have er : r = ((r.toNat : Nat) : Int) := by omega
      refine ⟨_, rfl, _, rfl, r, rfl, D, _, rfl, SqL.of eD4, fun p2 hp2 => ?_⟩
      have np2 : p2 ≠ a := new_ne gc4.cup hp2
      have ec : cutV (qs.map V.str) none (some r) = (qs.take r.toNat).map V.str := by
        rw [er, cut_nat _ _ (by rw [List.length_map]; omega), Int.toNat_natCast, List.map_take]
      rw [ec]
      have gc5 := gc4.new hp2 (.lst ((qs.take r.toNat).map V.str))
      refine ⟨by show 1 ≤ sizeLine; decide, fun p3 hp3 => ?_⟩
      have np3 : p3 ≠ a := new_ne gc5.cup hp3
      have n23 : p2 ≠ p3 := fun e => by rw [← e, upd_same] at hp3; cases hp3
      have gc6 := gc5.new hp3 (.lst [V.str hashS])
      refine ⟨p2, p3, (qs.take r.toNat).map V.str, [V.str hashS], rfl, rfl, by rw [upd_ne n23, upd_same], upd_same, ?_, fun p4 hp4 => ?_⟩
      · rw [List.length_map, List.length_take]
        show _ + 1 ≤ 16777216
        omega
      have gc7 := gc6.new hp4 (.lst ((qs.take r.toNat).map V.str ++ [V.str hashS]))
      have o : Opened ps (qs.take r.toNat ++ [hashS]) := ⟨qs, op, .inr ⟨r.toNat, by omega, rfl⟩⟩
      refine ⟨rfl, _, rfl, slashS, p4, qs.take r.toNat ++ [hashS], rfl, rfl, .inl (SqL.of (by rw [upd_same, List.map_append]; rfl)), (Opened.mk m o).sum, q _ _ o gc7⟩
    · refine ⟨rfl, _, rfl, slashS, D, qs, rfl, rfl, .inl (SqL.of eD4), ?_, q qs _ ⟨qs, op, .inl rfl⟩ gc4⟩
      exact (Opened.mk m ⟨qs, op, .inl rfl⟩).sum
end
end Bk

set_option Elab.async false
set_option linter.all false
set_option maxRecDepth 100000
set_option maxHeartbeats 4000000
/-! several clauses, some of them with a name: one clause at a time -/
namespace Ty
open PySem PySem.Spec PyProof.Rows L2
/-- an exception that has landed in X's frame: what is known of it, and of the state without it -/
structure Down (X : Cx) (ps : List (Addr × Obj)) (e : Addr) (G : Heap) (base : Shared) (τ : L2.St) (J : Hp) (k : Value) (dx : Option Addr) (now : Shared) : Prop where
  stk : X.stack = X.env :: X.outer
  frm : X.env.frame = some X.env.locals
  inv : Inv X ps τ J base
  grd : ∀ b o, base.heap.get? b = some o → b ∉ frs X.stack → G.get? b = some o
  ups : base.heap.UpToSlots now.heap
  fly : HandSPX.FlyingZ G (X.env :: X.outer) e (Zc k dx) now.heap
  out : J e = none
  sys : now.os = base.os
  gen : AllBare now.gens
section
variable {X : Cx} {ps : List (Addr × Obj)} {e : Addr} {G : Heap} {base now : Shared} {τ : L2.St} {J : Hp} {k : Value} {dx : Option Addr}
theorem Down.inv2 (d : Down X ps e G base τ J k dx now) : Inv X ps τ J now := d.inv.landed d.grd d.fly.1 d.ups d.sys d.gen
theorem Down.notFrame (d : Down X ps e G base τ J k dx now) : e ∉ frs (X.env :: X.outer) := by
  obtain ⟨o, vs, ho, _, hv⟩ := d.fly.there
  intro m
  obtain ⟨_, o2, ho2, no⟩ := d.fly.2.2.1.mem m
  rw [ho] at ho2
  cases ho2
  exact no _ hv
theorem Down.suite (d : Down X ps e G base τ J k dx now) : ∃ o vs, now.heap.get? e = some o ∧ Zc k dx o ∧ o.data = .fields vs ∧ Inv (X.suite e ((e, o) :: (X.pn ++ ps))) [] τ J now := by
  obtain ⟨o, vs, ho, hz, hv⟩ := d.fly.there
  refine ⟨o, vs, ho, hz, hv, d.inv2.suite ho hv d.out (fun q => d.notFrame ?_) (fun q => d.notFrame ?_)⟩
  · exact List.mem_filterMap.mpr ⟨X.env, List.mem_cons_self, by rw [d.frm, q]⟩
  · obtain ⟨v, hv1, hv2⟩ := List.mem_filterMap.mp q
    exact List.mem_filterMap.mpr ⟨v, List.mem_cons_of_mem _ hv1, hv2⟩
/-- no clause is left: it flies on -/
theorem none_left {D : Ends} {Wo : WX} (d : Down X ps e G base τ J k dx now) (tk : Takes X Wo) (h : Wo k dx τ J) : wpAny (model X.prog X.w) X.A (handleBy (.ref e) X.env []) (SP X ps D) X.xe now := by
  have fly2 := d.fly
  obtain ⟨_, _, _, o, vs, T, oT, tks, ho, hz, hv, h1, _⟩ := fly2
  have up : wpAny (model X.prog X.w) X.A (setFlight (.ref e) X.env.frame) (fun _ t => wpAny (model X.prog X.w) X.A (throw (.ref e) : Sem Flow) (SP X ps D) X.xe t) X.xe now := by
    rw [d.frm]
    exact HandSPX.setFlight_upZ d.fly fun h2 held u2 => wpAny_throw (tk _ _ ⟨e, G, base, ps, τ, J, k, dx, rfl, d.inv, d.grd, d.ups.trans u2, .inr (.inr (d.stk ▸ held)), d.out, d.sys, d.gen, h⟩)
  apply wpAny_handleBy_nil
  unfold PySem.passOn
  apply wpAny_bind
  apply wpAny_field ho hv h1
  have nn : ¬ ((Value.ref T == Value.none) = true) := by simp
  rw [if_neg nn]
  first
    | exact wpAny_bind (wpAny_pure (wpAny_bind up))
    | exact wpAny_bind up
/-- a clause's name is looked at: it is the class c, and e is of it or it isn't -/
theorem looked {x : Str} {c : Value} {np : Pos} {b : Bool} {A2 : Around} {R : Bool → Shared → Prop} {E : Value → Shared → Prop} (d : Down X ps e G base τ J k dx now) (hn : Names X x c) (hb : PySem.W.exmOne X.K k c = some b) (q : R b now)
    (hA : A2 = X.A.mark (some (.ref e))) : wpAny (model X.prog X.w) A2 (eval (.Name x np) X.env) (fun cv t => wpAny (model X.prog X.w) A2 (excMatches (.ref e) cv) R E t) E now := by
  subst hA
  obtain ⟨o, vs, ho, hz, hv, S⟩ := d.suite
  have lk : PySem.W.Looks (model X.prog X.w) now.heap (typeOf (.ref e)) k := fun _ _ _ _ st nx => wpAny_typeOf_ref (st _ _ ho) (hz.1.symm ▸ nx)
  have mt := PySem.W.exm_one (M := model X.prog X.w) d.inv2.kIn lk hb
  have fin := mt.here (A := X.A.mark (some (.ref e))) (E := E) q
  obtain ⟨hg, hd, hm | ⟨hm, hv2, hnn⟩⟩ := hn
  · exact ld_glob (X := X.suite e ((e, o) :: (X.pn ++ ps))) S hg hm fin hd
  · exact ld_blt (X := X.suite e ((e, o) :: (X.pn ++ ps))) S hg hm hv2 fin hnn hd
/-- an except suite, told by its reading -/
def Suite (X : Cx) (b : Stmt) (bs : List Stmt) (ts : Addr → Value → Option Addr → TS) : Prop :=
  ∀ (a : Addr) (o : Obj) (k : Value) (dx : Option Addr) (pn : List (Addr × Obj)), Zc k dx o → (∃ vs, o.data = .fields vs) → PSs (X.suite a ((a, o) :: pn)) (b :: bs) (ts a k dx)
/-- the suite of a clause without a name -/
theorem in_suite {b : Stmt} {bs : List Stmt} {ts : Addr → Value → Option Addr → TS} {D : Ends} {R : Result → Shared → Prop} {pos : Pos} {A2 : Around} (hA : A2 = X.A.mark (some (.ref e))) (d : Down X ps e G base τ J k dx now) (su : Suite X b bs ts) (h : ts e k dx D τ J)
    (hR : ∀ f t, SP X ps D f t → R (.ok f) t) : codeAny (model X.prog X.w) A2 (.handlers (.ref e) [.ExceptHandler none none (b :: bs) pos] X.env) R now := by
  subst hA
  apply codeAny_handlers_suite
  refine HandSPX.lands_againZ d.fly fun h2 fly2 u2 => ?_
  have d2 : Down X ps e G base τ J k dx { now with heap := h2 } := ⟨d.stk, d.frm, d.inv, d.grd, d.ups.trans u2, fly2, d.out, d.sys, d.gen⟩
  obtain ⟨o, vs, ho, hz, hv, S⟩ := d2.suite
  refine wpAny_mono ((su e o k dx (X.pn ++ ps) hz ⟨_, hv⟩).run [] _ τ J D S h) (fun f t sp => hR f t ?_) (fun _ _ no => no.elim)
  have ok := d.inv.ok
  revert sp
  cases f with
  | ret u => exact fun ⟨v, σ1, H1, i1, r1, q1⟩ => ⟨v, σ1, H1, i1.unsuite ok, r1, q1⟩
  | next => exact fun ⟨σ1, H1, i1, q1⟩ => ⟨σ1, H1, i1.unsuite ok, q1⟩
  | brk => exact fun ⟨σ1, H1, i1, q1⟩ => ⟨σ1, H1, i1.unsuite ok, q1⟩
  | cont => exact fun ⟨σ1, H1, i1, q1⟩ => ⟨σ1, H1, i1.unsuite ok, q1⟩
/-- one clause; with a name it is never taken -/
theorem clause {x : Str} {c : Value} {np pos : Pos} {nm : Option Str} {b : Stmt} {bs : List Stmt} {ts : Addr → Value → Option Addr → TS} {rest : List ExceptHandler} {D : Ends} {t : Bool}
    (d : Down X ps e G base τ J k dx now) (hn : Names X x c) (ht : PySem.W.exmOne X.K k c = some t) (yes : t = true → nm = none ∧ Suite X b bs ts ∧ ts e k dx D τ J)
    (no : t = false → wpAny (model X.prog X.w) X.A (handleBy (.ref e) X.env rest) (SP X ps D) X.xe now) :
    wpAny (model X.prog X.w) X.A (handleBy (.ref e) X.env (.ExceptHandler (some (.Name x np)) nm (b :: bs) pos :: rest)) (SP X ps D) X.xe now := by
  apply wpAny_handleBy_cons
  · apply codeAny_handlers_test
    refine looked d hn ht ?_ rfl
    cases t with
    | false => exact no rfl
    | true =>
      obtain ⟨rfl, su, h⟩ := yes rfl
      exact in_suite rfl d su h fun f t q => q
  · intro q
    cases q
/-- clauses, each with its class and what it wants where it is taken (none: it has a name, and is never taken) -/
inductive Clauses (X : Cx) : List ExceptHandler → List (Value × Option (Addr → Value → Option Addr → TS)) → Prop
  | nil : Clauses X [] []
  | plain {x : Str} {c : Value} {np pos : Pos} {b : Stmt} {bs : List Stmt} {ts : Addr → Value → Option Addr → TS} {r : List ExceptHandler} {l : List (Value × Option (Addr → Value → Option Addr → TS))} :
      Names X x c → Suite X b bs ts → Clauses X r l → Clauses X (.ExceptHandler (some (.Name x np)) none (b :: bs) pos :: r) ((c, some ts) :: l)
  | named {x n : Str} {c : Value} {np pos : Pos} {b : Stmt} {bs : List Stmt} {r : List ExceptHandler} {l : List (Value × Option (Addr → Value → Option Addr → TS))} :
      Names X x c → Clauses X r l → Clauses X (.ExceptHandler (some (.Name x np)) (some n) (b :: bs) pos :: r) ((c, none) :: l)
/-- what they wish of an exception -/
def wish (K : PySem.W.Frag) (Wo : WX) (D : Ends) : List (Value × Option (Addr → Value → Option Addr → TS)) → WX
  | [] => Wo
  | (c, o) :: l => fun k dx τ J => ∃ t, PySem.W.exmOne K k c = some t ∧ (t = true → ∃ ts, o = some ts ∧ ∀ a, J a = none → ts a k dx D τ J) ∧ (t = false → wish K Wo D l k dx τ J)
theorem walk {D : Ends} {Wo : WX} (d : Down X ps e G base τ J k dx now) (tk : Takes X Wo) {hs : List ExceptHandler} {l : List (Value × Option (Addr → Value → Option Addr → TS))} (c : Clauses X hs l) :
    wish X.K Wo D l k dx τ J → wpAny (model X.prog X.w) X.A (handleBy (.ref e) X.env hs) (SP X ps D) X.xe now := by
  induction c with
  | nil => exact fun h => none_left d tk h
  | @plain _ _ _ _ _ _ ts0 _ _ hn su _ ih =>
    rintro ⟨t, ht, yes, no⟩
    refine clause (ts := ts0) d hn ht (fun z => ?_) fun z => ih (no z)
    obtain ⟨ts, q, h⟩ := yes z
    cases q
    exact ⟨rfl, su, h e d.out⟩
  | named hn _ ih =>
    rintro ⟨t, ht, yes, no⟩
    refine clause (ts := fun _ _ _ _ _ _ => False) d hn ht (fun z => ?_) fun z => ih (no z)
    obtain ⟨ts, q, _⟩ := yes z
    cases q
/-- try with several clauses -/
theorem ps_try {body : List Stmt} {h0 : ExceptHandler} {hs : List ExceptHandler} {l : List (Value × Option (Addr → Value → Option Addr → TS))} {pos : Pos} {tb : WX → TS} {Wo : WX} (hst : X.stack = X.env :: X.outer) (hfr : X.env.frame = some X.env.locals) (tk : Takes X Wo)
    (hb : ∀ (W : WX) (pn : List (Addr × Obj)) (xe : Value → Shared → Prop), Takes (X.tr pn xe) W → PSs (X.tr pn xe) body (tb W)) (c : Clauses X (h0 :: hs) l) :
    PS X (.Try body (h0 :: hs) [] [] pos) (fun D σ H => tb (wish X.K Wo D l) D σ H) := by
  constructor
  intro ps s σ H D I h
  have fr : X.A.frames = some (X.env :: X.outer) := I.ok.frames.trans (congrArg some hst)
  apply wpAny_Try_except
  refine wpAny_mono ((hb _ (X.pn ++ ps) (fun u t => wpAny (model X.prog X.w) X.A (noteFrame u X.env) (fun _ t2 => wpAny (model X.prog X.w) X.A (setFlight u none) (fun _ t3 =>
      wpAny (model X.prog X.w) X.A (handleBy u X.env (h0 :: hs)) (SP X ps D) X.xe t3) X.xe t2) X.xe t) ?_).run [] s σ H D (I.toTry _) h) (fun f t sp => ?_) (fun u t q => q)
  · rintro u t ⟨e, G, base, ps2, τ, J, k, dx, rfl, J2, nb, up, sky, na, os, ag, wi⟩
    have J1 : Inv X ps τ J base := J2.ofTry I.ok
    refine Sky.land Zc.steady fr hfr (hst ▸ sky) fun h3 fly up3 => ?_
    exact walk (now := { t with heap := h3 }) ⟨hst, hfr, J1, nb, up.trans up3, fly, na, os, ag⟩ tk c wi
  · revert sp
    have ok := I.ok
    cases f with
    | ret u => exact fun ⟨v, σ1, H1, i1, r1, q1⟩ => ⟨v, σ1, H1, i1.ofTry ok, r1, q1⟩
    | next => exact fun ⟨σ1, H1, i1, q1⟩ => wpAny_execs_nil ⟨σ1, H1, i1.ofTry ok, q1⟩
    | brk => exact fun ⟨σ1, H1, i1, q1⟩ => ⟨σ1, H1, i1.ofTry ok, q1⟩
    | cont => exact fun ⟨σ1, H1, i1, q1⟩ => ⟨σ1, H1, i1.ofTry ok, q1⟩
end
end Ty

set_option Elab.async false
set_option linter.all false
set_option maxRecDepth 100000
set_option maxHeartbeats 4000000
namespace Bk
open PySem PySem.Spec PyProof.Rows L2
abbrev s_lerror : Stmt := top 35
/-- the clauses of the law's own error word: a class by its name, its word (none: told otherwise) -/
def errL : List (Str × Option Str) := [("InvalidFrame", some "frame"), ("InvalidOctets", none), ("InvalidTopic", some "topic"), ("InvalidWish", some "wish"), ("InvalidWay", some "way"), ("InvalidText", some "text"), ("InvalidManner", some "manner"),
  ("InvalidNames", some "names"), ("InvalidSide", some "side"), ("InvalidWorld", some "world"), ("InvalidEvent", some "event"), ("InvalidEvents", some "events"), ("CannotHappen", some "cannot"), ("HeardError", some "other")]
/-- what the clauses ask of an exception -/
def errW (K : PySem.W.Frag) (Q : VK) : List (Str × Option Str) → XK
  | [] => fun _ _ _ => False
  | (x, o) :: l => fun k dx H => ∃ t, PySem.W.exmOne K k (.ref (He.ga K x)) = some t ∧ (t = true → ∃ z, o = some z ∧ Q (.str z) H) ∧ (t = false → errW K Q l k dx H)
def TErr (K : PySem.W.Frag) : (XK → Hp → VK → Prop) → Hp → VK → Prop := fun tl H Q => tl (errW K Q errL) H fun _ H' => Q (.str ("" : String)) H'
def clW (K : PySem.W.Frag) : List (Str × Option Str) → List (Value × Option (Addr → Value → Option Addr → TS))
  | [] => []
  | (x, o) :: l => (.ref (He.ga K x), o.map fun z => fun _ _ _ => tRet (tC (.str z))) :: clW K l
theorem wish_of {K : PySem.W.Frag} {Q : VK} {D : Ends} (hD : D.rt = Q) : ∀ (l : List (Str × Option Str)) (k : Value) (dx : Option Addr) (τ : L2.St) (H : Hp), errW K Q l k dx H → Ty.wish K (fun _ _ _ _ => False) D (clW K l) k dx τ H
  | [], _, _, _, _, h => h
  | (x, o) :: l, k, dx, τ, H, h => by
    obtain ⟨t, h1, h2, h3⟩ := h
    refine ⟨t, h1, fun z => ?_, fun z => wish_of hD l k dx τ H (h3 z)⟩
    obtain ⟨y, e, q⟩ := h2 z
    subst e
    refine ⟨_, rfl, fun a _ => ?_⟩
    show D.rt (.str y) H
    rw [hD]
    exact q
/-- every class of the clauses is a global -/
def ErrG (K : PySem.W.Frag) (mg : Str → Option Value) : Prop := ∀ p ∈ errL, mg p.1 = some (.ref (He.ga K p.1))
theorem sc_lerror : FnScope ["_law_call"] ["_law_call"] (defScope s_lerror) := ⟨rfl, rfl, rfl, by decide +kernel, rfl, by decide +kernel, by decide +kernel⟩
theorem err_gives {X : Cx} {g : Addr} {cdg : Value} {q : Str} (G : ErrG X.K X.mg) : LamX.GivesTo X ["_law_call"] "_law_error" (defScope s_lerror) g cdg (defBody s_lerror) "_law_call" q (TErr X.K) := by
  intro f c' s H Q tl act hc h
  let Y : Cx := (cxOf C8.CX0 X.prog X.w X.K X.mg X.base ["_law_call"] "_law_error" (defScope s_lerror) g cdg X.A X.stack s H C8.E0).nox
  have nm : ∀ p ∈ errL, Gl Y p.1 → (p.1 == ("__debug__" : Str)) = false → Names Y p.1 (.ref (He.ga X.K p.1)) := fun p hp gl db => ⟨gl, db, .inl (G p hp)⟩
  have su : ∀ z j p1 p2, Ty.Suite Y (.Return (some (.Constant (.str z) j p1)) p2) [] (fun _ _ _ => tRet (tC (.str z))) := fun z j p1 p2 a o k dx pn _ _ => pss_one (ps_ret pe_str)
  refine ⟨_, pss_cons (Ty.ps_try (X := Y) (l := clW X.K errL) (Wo := fun _ _ _ _ => False)
      (tb := fun W D σ H => ∃ Ech : XK, (∀ cls d σ' H', Ech cls d H' → W cls d σ' H') ∧ σ[0]? = some (some (.ref f)) ∧ H c' = some (LamX.CodeO c' q) ∧ tl Ech H fun _ H' => D.nx σ H')
      rfl rfl LamX.takes0 (fun W pn xe tk => ?_)
    (.plain (nm ("InvalidFrame", some "frame") (by decide +kernel) rfl (by decide)) (su _ _ _ _) (.named (nm ("InvalidOctets", none) (by decide +kernel) rfl (by decide)) (.plain (nm ("InvalidTopic", some "topic") (by decide +kernel) rfl (by decide)) (su _ _ _ _)
    (.plain (nm ("InvalidWish", some "wish") (by decide +kernel) rfl (by decide)) (su _ _ _ _) (.plain (nm ("InvalidWay", some "way") (by decide +kernel) rfl (by decide)) (su _ _ _ _) (.plain (nm ("InvalidText", some "text") (by decide +kernel) rfl (by decide)) (su _ _ _ _)
    (.plain (nm ("InvalidManner", some "manner") (by decide +kernel) rfl (by decide)) (su _ _ _ _) (.plain (nm ("InvalidNames", some "names") (by decide +kernel) rfl (by decide)) (su _ _ _ _) (.plain (nm ("InvalidSide", some "side") (by decide +kernel) rfl (by decide)) (su _ _ _ _)
    (.plain (nm ("InvalidWorld", some "world") (by decide +kernel) rfl (by decide)) (su _ _ _ _) (.plain (nm ("InvalidEvent", some "event") (by decide +kernel) rfl (by decide)) (su _ _ _ _) (.plain (nm ("InvalidEvents", some "events") (by decide +kernel) rfl (by decide)) (su _ _ _ _)
    (.plain (nm ("CannotHappen", some "cannot") (by decide +kernel) rfl (by decide)) (su _ _ _ _) (.plain (nm ("HeardError", some "other") (by decide +kernel) rfl (by decide)) (su _ _ _ _) .nil))))))))))))))) (pss_one (ps_ret pe_str)), ?_⟩
  · refine ⟨fun pins s' σ H' D I h' => ?_⟩
    obtain ⟨Ech, hW, h1, h2, h3⟩ := h'
    exact (pss_one (ps_expr (act W pn xe Ech _ _ tk hW))).run pins s' σ H' D I ⟨h1, h2, h3⟩
  · refine ⟨errW X.K Q errL, fun cls d σ' H' he => wish_of rfl errL cls d σ' H' he, rfl, hc, h⟩
end Bk

set_option Elab.async false
set_option linter.all false
set_option maxRecDepth 100000
set_option maxHeartbeats 4000000
namespace Bk
open PySem PySem.Spec PyProof.Rows L2
abbrev s_lright : Stmt := top 38
/-! ### lists of truth values, as data -/
theorem dp_bools {K : PySem.W.Frag} {H : Hp} : ∀ l : List Bool, DpAll K H (l.map V.bl) (l.map PyData.bool)
  | [] => .nil
  | x :: r => .cons (.bl x) (dp_bools r)
theorem canLay_bools : ∀ l : List Bool, PyData.canLayAll0 (l.map PyData.bool) = true
  | [] => by simp [PyData.canLayAll0]
  | x :: r => by
    have h2 := canLay_bools r
    simp only [List.map_cons, PyData.canLayAll0, PyData.canLay0, h2, Bool.and_self]
theorem depth_bools : ∀ l : List Bool, PyData.depthAll (l.map PyData.bool) = 0
  | [] => by simp [PyData.depthAll]
  | x :: r => by simp only [List.map_cons, PyData.depthAll, PyData.depth, depth_bools r, Nat.max_self]
theorem shaped_bools (l : List Bool) : SeqAt.shaped (.list (l.map PyData.bool)) = true := by
  unfold SeqAt.shaped
  simp only [PyData.canLay0, PyData.depth, canLay_bools l, depth_bools, Bool.true_and]
  decide
theorem eqv_bools : ∀ l m : List Bool, PyData.eqvAll (l.map PyData.bool) (m.map PyData.bool) = decide (l = m)
  | [], [] => by simp [PyData.eqvAll]
  | [], y :: m => by simp [PyData.eqvAll]
  | x :: l, [] => by simp [PyData.eqvAll]
  | x :: l, y :: m => by
    simp only [List.map_cons, PyData.eqvAll, PyData.eqv, eqv_bools l m]
    cases x <;> cases y <;> by_cases h : l = m <;> simp [h]
/-- != of two lists of truth values -/
def rNeB (K : PySem.W.Frag) : R2 := fun x y H Q => ∃ (a b : Addr) (l m : List Bool), x = .ref a ∧ y = .ref b ∧ SqL K H a (l.map V.bl) ∧ SqL K H b (m.map V.bl) ∧ Q (.bl (!decide (l = m))) H
theorem ne_bools {X : Cx} {k : Nat} (hr : Room k X.A) {K : PySem.W.Frag} (hK : X.K = K) : OpR X (compareOp .NotEq) (rNeB K) := by
  subst hK
  intro pins s σ H x y v u Q I rx ry h
  obtain ⟨a, b, l, m, rfl, rfl, h1, h2, q⟩ := h
  refine op_neD (by have := hr.un; omega) pins s σ H _ _ v u Q I rx ry ⟨.list (l.map PyData.bool), .list (m.map PyData.bool), .lst h1 (dp_bools l), .lst h2 (dp_bools m), shaped_bools l, shaped_bools m, ?_⟩
  rw [show PyData.eqv (.list (l.map PyData.bool)) (.list (m.map PyData.bool)) = decide (l = m) by simp only [PyData.eqv]; exact eqv_bools l m]
  exact q
def spRight (T : Tbs) : Sp := fun vs H Q _ => ∃ a, vs = [.ref a] ∧ Cup H a ∧ LamX.Tabs T H ∧ ∀ H', GrC T a H H' → Q (.bl true) H'
theorem wix_nth {a : Str} (h : a ∈ ways) : (ways.map V.str)[wix a]? = some (.str a) ∧ wayB a = true ∧ ∀ (m : Nat) (z' : V), m < wix a → (ways.map V.str)[m]? = some z' → eqV z' (.str a) = false := by
  have e : ∀ a ∈ ways, (ways.map V.str)[wix a]? = some (.str a) ∧ wayB a = true ∧ ∀ m, m < wix a → ∀ b ∈ (ways.map V.str)[m]?, eqV b (.str a) = false := by decide +kernel
  obtain ⟨e1, e2, e3⟩ := e a h
  exact ⟨e1, e2, fun m z hm hz => e3 m hm z hz⟩
section
variable {P : Program} {w : World} {K : PySem.W.Frag} {mg : Str → Option Value} {base : Heap} {T : Tbs}
theorem sc_lright : FnScope ["_law_cup_here", "_law_one", "_law_other", "_law_wish", "_law_ways", "_law_first", "_law_second"] ["_law_cup_here"] (defScope s_lright) := ⟨rfl, rfl, rfl, by decide +kernel, rfl, by decide +kernel, by decide +kernel⟩
theorem has_lright (F : At K mg "_law_right" s_lright) (zm : mg "min" = none) (HTp : Has P w K mg base CX0 3 "_law_topic" ["_law_cup_here"] (spTopic T)) (HO : Has P w K mg base CX0 3 "_law_opened" ["_law_cup_here", "_law_topic_here"] (spOpened T))
    (HT : Has P w K mg base CX0 4 "is_topic" ["value"] (spB K T topicV)) (HW : Has P w K mg base CX0 4 "is_wish" ["value"] (spB K T wishV)) (HM : Has P w K mg base (L2.CX P w) 6 "meets" ["topic", "wish"] (spMeets K T (He.ga K "InvalidTopic") (He.ga K "InvalidWish")))
    (HL : Has P w K mg base CX0 1 "_law_met" ["_law_topic_here", "_law_wish"] (spLawMet T)) (HS : Has P w K mg base CX0 2 "_law_some" ["_law_cup_here", "_law_things"] (spSome K)) (HLe : Has P w K mg base (L2.CX P w) 3 "lesser_way" ["one", "other"] (spLess K (He.ga K "InvalidWay"))) :
    Has P w K mg base CX0 7 "_law_right" ["_law_cup_here"] (spRight T) := by
  refine F.ok0 sc_lright (fun _ _ _ _ _ _ us hl => match us, hl with | [_], _ => rfl) (fun vs H Q E h => ?_) fun A outer s H vs Q E hr h => ?_
  · obtain ⟨x, rfl, _⟩ := h
    rfl
  obtain ⟨a, rfl, hc, tb, q⟩ := h
  have h3 := hr.mono (show 3 ≤ 6 by decide)
  have h4 := hr.mono (show 4 ≤ 6 by decide)
  have h2 := hr.mono (show 2 ≤ 6 by decide)
  have h1 := hr.mono (show 1 ≤ 6 by decide)
  refine ⟨_, pss_cons (ps_par (i := 1) (j := 2) rfl sc_lright.nd rfl rfl (by decide) rfl rfl (pa_cons (Has.call HTp h3 pass0 (pa_cons (pv 0) pa_nil)) (pa_cons (Has.call HTp h3 pass0 (pa_cons (pv 0) pa_nil)) pa_nil)) (by rfl))
    (pss_cons (ps_par (i := 3) (j := 4) rfl sc_lright.nd rfl rfl (by decide) rfl rfl (pa_cons (Has.call HO h3 pass0 (pa_cons (pv 0) (pa_cons (pv 1) pa_nil))) (pa_cons (pe_lst (pa_cons pe_str (pa_cons pe_str (pa_cons pe_str pa_nil)))) pa_nil)) (by rfl))
    (pss_cons (ps_if (pw_or (pt_cmpR (ne_bools hr (K := K) rfl) (pe_lst (pa_cons (Has.call HT h4 pass0 (pa_cons (pv 1) pa_nil)) (pa_cons (Has.call HT h4 pass0 (pa_cons (pv 2) pa_nil)) (pa_cons (Has.call HW h4 pass0 (pa_cons (pv 3) pa_nil)) (pa_cons (Has.call HW h4 pass0 (pa_cons (pv 1) pa_nil)) pa_nil)))))
        (pe_op op_rep (pe_lst (pa_cons pe_bl pa_nil)) pe_int) (nomark _))
        (pw_or1 (pt_cmpR op_ne (Has.call HT h4 pass0 (pa_cons (pv 3) pa_nil)) (pe_cmpR op_eq (pe_op op_add (pe_bm PySem.F.plainAttrs_str PySem.F.slot_str_count PySem.F.type_str_count mt_count (pv 3) (pa_cons pe_str pa_nil)) (pe_bm PySem.F.plainAttrs_str PySem.F.slot_str_count PySem.F.type_str_count mt_count (pv 3) (pa_cons pe_str pa_nil))) pe_int (nomark _)) (nomark _)))).pt (pss_one (ps_ret pe_bl)) pss_nil)
    (pss_cons (ps_if (pw_or (pt_cmpR op_isnot_bl (Has.call HM hr passL (pa_cons (pv 1) (pa_cons (pv 3) pa_nil))) pe_bl (nomark _)) (pw_or (pt_cmpR op_ne (Has.call HM hr passL (pa_cons (pv 2) (pa_cons (pv 3) pa_nil))) (Has.call HL h1 pass0 (pa_cons (pv 2) (pa_cons (pv 3) pa_nil))) (nomark _))
        (pw_or1 (pt_cmpR op_ne (Has.call HM hr passL (pa_cons (pv 1) (pa_cons (pv 2) pa_nil))) (pe_cmpR op_eq (pv 1) (pv 2) (nomark _)) (nomark _))))).pt (pss_one (ps_ret pe_bl)) pss_nil)
    (pss_cons (ps_par (i := 5) (j := 6) rfl sc_lright.nd rfl rfl (by decide) rfl rfl (pa_cons (Has.call HS h2 pass0 (pa_cons (pv 0) (pa_cons (pv 4) pa_nil))) (pa_cons (Has.call HS h2 pass0 (pa_cons (pv 0) (pa_cons (pv 4) pa_nil))) pa_nil)) (by rfl))
    (pss_one (ps_ret (pe_cmpR op_eq (Has.call HLe h3 passL (pa_cons (pv 5) (pa_cons (pv 6) pa_nil))) (pe_ix ix_list (pv 4) (pe_callB (call_min2 rfl) rfl zm (by decide +kernel) (pa_cons (pe_bm PySem.F.plainAttrs_list PySem.F.slot_list_index PySem.F.type_list_index mt_index (pv 4) (pa_cons (pv 5) pa_nil))
        (pa_cons (pe_bm PySem.F.plainAttrs_list PySem.F.slot_list_index PySem.F.type_list_index mt_index (pv 4) (pa_cons (pv 6) pa_nil)) pa_nil))) (fun _ _ => rfl)) (nomark _)))))))), ?_⟩
  refine ⟨_, rfl, a, rfl, hc, tb, fun ps H1 m1 g1 => ?_⟩
  refine ⟨_, rfl, a, rfl, g1.cup, g1.tabs, fun qs H2 m2 g2 => ?_⟩
  refine ⟨_, _, rfl, ?_⟩
  refine ⟨_, rfl, _, rfl, a, ps, rfl, m1, g2.cup, g2.tabs, fun ws H3 o g3 => ?_⟩
  have g13 := g1.trans (g2.trans g3)
  have mo := o.mk m1
  refine ⟨by show 3 ≤ sizeLine; decide, fun p4 hp4 => ?_⟩
  have np4 := new_ne g3.cup hp4
  have g14 := g13.new hp4 (.lst (ways.map V.str))
  refine ⟨_, _, rfl, ?_⟩
  have c14 := g14.cup
  refine ⟨_, rfl, .str (joinS ps), rfl, .inl ⟨_, rfl, m1.k.len⟩, g14.tabs, fun H5 g5 => ?_⟩
  refine ⟨_, rfl, .str (joinS qs), rfl, .inl ⟨_, rfl, m2.k.len⟩, g5.tabs, fun H6 g6 => ?_⟩
  refine ⟨_, rfl, .str (joinS ws), rfl, .inl ⟨_, rfl, mo.len⟩, g6.tabs, fun H7 g7 => ?_⟩
  refine ⟨_, rfl, .str (joinS ps), rfl, .inl ⟨_, rfl, m1.k.len⟩, g7.tabs, fun H8 g8 => ?_⟩
  have g48 := g5.trans (g6.trans (g7.trans g8))
  have g58 := g14.trans (g48.c c14)
  refine ⟨by show 4 ≤ sizeLine; decide, fun p9 hp9 => ?_⟩
  have g9 := Gr.new g8.tabs hp9 (.lst [V.bl (topicV (.str (joinS ps))), V.bl (topicV (.str (joinS qs))), V.bl (wishV (.str (joinS ws))), V.bl (wishV (.str (joinS ps)))])
  refine ⟨by show 1 ≤ sizeLine; decide, fun p10 hp10 => ?_⟩
  have g10 := Gr.new g9.tabs hp10 (.lst [V.bl true])
  refine ⟨p10, 4, [V.bl true], rfl, rfl, upd_same, by decide, by decide, by decide, fun p11 hp11 => ?_⟩
  have g11 := Gr.new g10.tabs hp11 (.lst (List.replicate (4 : Int).toNat [V.bl true]).flatten)
  have g411 := g9.trans (g10.trans g11)
  refine ⟨p9, p11, [topicV (.str (joinS ps)), topicV (.str (joinS qs)), wishV (.str (joinS ws)), wishV (.str (joinS ps))], [true, true, true, true], rfl, rfl, SqL.of ((g10.trans g11).lst upd_same), SqL.of upd_same, _, rfl, ?_⟩
  have e1 : topicV (.str (joinS ps)) = true := m1.topic
  have e2 : topicV (.str (joinS qs)) = true := m2.topic
  have e3 : wishV (.str (joinS ws)) = true := o.wish m1
  have e4 : wishV (.str (joinS ps)) = true := m1.wish
  have e5 : (!decide ([topicV (.str (joinS ps)), topicV (.str (joinS qs)), wishV (.str (joinS ws)), wishV (.str (joinS ps))] = [true, true, true, true])) = false := by rw [e1, e2, e3, e4]; decide
  rw [e5]
  refine iteF ?_
  refine ⟨_, rfl, .str (joinS ws), rfl, .inl ⟨_, rfl, mo.len⟩, g411.tabs, fun H12 g12 => ?_⟩
  have g412 := g58.trans ((g411.trans g12).c g58.cup)
  refine ⟨_, rfl, rfl, joinS ws, plusS, rfl, rfl, ?_⟩
  refine ⟨_, rfl, rfl, joinS ws, hashS, rfl, rfl, ?_⟩
  refine ⟨_, _, rfl, rfl, rfl, rfl, _, rfl, ?_⟩
  have e6 : (!decide (V.bl (topicV (.str (joinS ws))) = V.bl (decide (V.int (Txt.count (joinS ws) plusS + Txt.count (joinS ws) hashS) = V.int 0)))) = false := by
    have : topicV (.str (joinS ws)) = decide (V.int (Txt.count (joinS ws) plusS + Txt.count (joinS ws) hashS) = V.int 0) := by
      show topicB (joinS ws) = _
      rw [mo.topic_count]
      exact decide_eq_decide.mpr ⟨fun z => by rw [z], fun z => V.int.inj z⟩
    rw [this]
    simp
  rw [e6]
  refine iteF ?_
  -- meets
  have av : ∀ {l : List Str} (H' : Hp), Mk l → AnyV K H' (.str (joinS l)) := fun H' k => .inl ⟨_, rfl, k.len⟩
  refine ⟨_, rfl, _, rfl, .str (joinS ps), .str (joinS ws), rfl, av _ m1.k, av _ mo, g412.tabs, (fun z => by rw [e1] at z; cases z), (fun _ z => by rw [e3] at z; cases z), fun t u et eu _ _ H13 g13' => ?_⟩
  obtain rfl := V.str.inj et
  obtain rfl := V.str.inj eu
  rw [o.met m1]
  refine ⟨true, true, rfl, rfl, _, rfl, iteF ?_⟩
  have g413 := g412.trans (g13'.c g412.cup)
  refine ⟨_, rfl, _, rfl, .str (joinS qs), .str (joinS ws), rfl, av _ m2.k, av _ mo, g413.tabs, (fun z => by rw [e2] at z; cases z), (fun _ z => by rw [e3] at z; cases z), fun t u et eu _ _ H14 g14' => ?_⟩
  obtain rfl := V.str.inj et
  obtain rfl := V.str.inj eu
  have g414 := g413.trans (g14'.c g413.cup)
  refine ⟨_, rfl, _, rfl, joinS qs, joinS ws, rfl, m2.k.len, mo.len, m2.k.ok, mo.ok, g414.tabs, fun H15 g15 => ?_⟩
  have g415 := g414.trans (g15.c g414.cup)
  refine ⟨rfl, _, rfl, ?_⟩
  have e7 : (!decide (V.bl (metB (joinS qs) (joinS ws)) = V.bl (metB (joinS qs) (joinS ws)))) = false := by simp
  rw [e7]
  refine iteF ?_
  have e8 : wishV (.str (joinS qs)) = true := m2.wish
  refine ⟨_, rfl, _, rfl, .str (joinS ps), .str (joinS qs), rfl, av _ m1.k, av _ m2.k, g415.tabs, (fun z => by rw [e1] at z; cases z), (fun _ z => by rw [e8] at z; cases z), fun t u et eu _ _ H16 g16 => ?_⟩
  obtain rfl := V.str.inj et
  obtain rfl := V.str.inj eu
  have g416 := g415.trans (g16.c g415.cup)
  refine ⟨_, rfl, _, rfl, rfl, rfl, _, rfl, ?_⟩
  have e9 : (!decide (V.bl (metB (joinS ps) (joinS qs)) = V.bl (decide (V.str (joinS ps) = V.str (joinS qs))))) = false := by
    rw [m1.same m2]
    simp
  rw [e9]
  refine iteF ?_
  -- ways
  have gk : GrC T a (upd H3 p4 (.lst (ways.map V.str))) H16 := (g48.trans (g411.trans (g12.trans (g13'.trans (g14'.trans (g15.trans g16)))))).c c14
  have l16 : H16 p4 = some (.lst (ways.map V.str)) := gk.lst np4 upd_same
  obtain ⟨cg, cs, hcu, ck⟩ := g416.cup
  refine ⟨_, rfl, _, rfl, a, p4, cg, cs, ways.map V.str, rfl, hcu, ck, l16, Ne.symm np4, by decide, by decide, fun x cg2 cs2 hx ck2 => ?_⟩
  have g17 := GrC.put g416.tabs hcu ck2
  have l17 := g17.lst np4 l16
  refine ⟨_, rfl, _, rfl, a, p4, cg2, cs2, ways.map V.str, rfl, upd_same, ck2, l17, Ne.symm np4, by decide, by decide, fun y cg3 cs3 hy ck3 => ?_⟩
  have g18 := GrC.put g17.tabs upd_same ck3
  have l18 := g18.lst np4 l17
  have g418 := g416.trans (g17.trans g18)
  obtain ⟨z, hz, rfl⟩ := List.mem_map.mp hx
  obtain ⟨u, hu, rfl⟩ := List.mem_map.mp hy
  refine ⟨_, _, rfl, ?_⟩
  obtain ⟨z1, z2, z3⟩ := wix_nth hz
  obtain ⟨u1, u2, u3⟩ := wix_nth hu
  have small : ∀ z ∈ ways, z.length ≤ 1000 := by decide +kernel
  refine ⟨_, rfl, _, rfl, .str z, .str u, rfl, .inl ⟨z, rfl, small z hz⟩, .inl ⟨u, rfl, small u hu⟩, (fun e => by rw [show wayV (.str z) = wayB z from rfl, z2] at e; cases e), (fun _ e => by rw [show wayV (.str u) = wayB u from rfl, u2] at e; cases e), fun z' u' ez eu _ _ => ?_⟩
  obtain rfl := V.str.inj ez
  obtain rfl := V.str.inj eu
  refine ⟨_, rfl, _, rfl, .inl ⟨rfl, _, SqL.of l18⟩, _, rfl, p4, ways.map V.str, .str z, wix z, .str z, rfl, rfl, SqL.of l18, rfl, rfl, z1, by simp [eqV], z3, ?_⟩
  refine ⟨_, rfl, .inl ⟨rfl, _, SqL.of l18⟩, _, rfl, p4, ways.map V.str, .str u, wix u, .str u, rfl, rfl, SqL.of l18, rfl, rfl, u1, by simp [eqV], u3, ?_⟩
  refine ⟨_, _, rfl, ?_⟩
  have fin : ∀ v H', GrC T a H H' → V.str (if decide ((wix z : Int) ≤ wix u) = true then z else u) = v → rEq (V.str (if decide ((wix z : Int) ≤ wix u) = true then z else u)) v H' fun x H'' => Q x H'' := fun v H' g e => by
    subst e
    refine ⟨rfl, ?_⟩
    rw [decide_eq_true rfl]
    exact q H' g
  by_cases c : (wix u : Int) < wix z
  · rw [if_pos c]
    refine ⟨p4, ways.map V.str, wix u, .str u, rfl, rfl, SqL.of l18, atI_nat u1, ?_⟩
    refine fin _ _ g418 ?_
    rw [if_neg (by simp only [decide_eq_true_iff]; omega)]
  · rw [if_neg c]
    refine ⟨p4, ways.map V.str, wix z, .str z, rfl, rfl, SqL.of l18, atI_nat z1, ?_⟩
    refine fin _ _ g418 ?_
    rw [if_pos (by simp only [decide_eq_true_iff]; omega)]
end
end Bk

set_option Elab.async false
set_option linter.all false
set_option maxRecDepth 100000
set_option maxHeartbeats 4000000
namespace Bk
open PySem PySem.Spec PyProof.Rows L2
abbrev s_law : Stmt := top 39
/-- _law_error(lambda: body) -/
theorem err_call {X : Cx} {T : Tbs} {P c : Addr} {q : Str} {k : Nat} {params : Arguments} {body : Expr} {scope : Scope} {t : XK → TE} {p lpos pos : Pos} (F : At X.K X.mg "_law_error" s_lerror) (G : ErrG X.K X.mg) (TB : LamX.TabB X.base X.mg c P) (hcode : X.env.code = .ref c)
    (hq : X.env.qual ++ "<lambda>" = q) (hm : (P, q) ∈ T) (hu : ∀ p ∈ T, p.1 = P → p.2 = q) (hr : Room (k + 2) X.A) (L : LamX.LamS X.env.scope scope) (hg : Gl X "_law_error") (hdef : defaultsOf params X.env = ([], []))
    (hbind : ∀ (q : Str) (cl : List (Str × Addr)) (pm cv ctv : Value), bindArgs (PySem.W.kla_fn "<lambda>" q params body scope cl pm cv ctv) ⟨[], []⟩ = pure [])
    (hbody : ∀ (A : Around) (outer : List Env) (s : Shared) (H : Hp) (E : XK) (f c' : Addr), Room k (A.deeper (LamX.lamEnv X scope s.heap.objs.size f c')) → PE (LamX.lamCx X A outer s H E scope f c') body (t E)) :
    PE X (.Call (.Name "_law_error" p) [.Lambda params body scope lpos] [] pos) (LamX.tLam T (TErr X.K) t) := by
  subst hq
  obtain ⟨gm, fd, F⟩ := F
  have bd := F.bindsN (ps := ["_law_call"]) fun _ _ _ _ _ _ us hl => match us, hl with | [_], _ => rfl
  have kp := F.kp
  obtain ⟨oc, od, dV, kV, doc, pm, an, cd, ct, osl, rfl, lk, hcd, _, _⟩ := F.ex
  exact LamX.pe_lamcall (Ng := ["_law_call"]) hg gm kp lk hcd bd sc_lerror rfl (.inl (by decide +kernel)) (err_gives G) TB hcode hm hu hr L hdef hbind hbody
def Exm (K : PySem.W.Frag) (x y : Str) (b : Bool) : Prop := PySem.W.exmOne K (.ref (He.ga K x)) (.ref (He.ga K y)) = some b
structure ErrX (K : PySem.W.Frag) : Prop where
  t1 : Exm K "InvalidTopic" "InvalidFrame" false
  t2 : Exm K "InvalidTopic" "InvalidOctets" false
  t3 : Exm K "InvalidTopic" "InvalidTopic" true
  w1 : Exm K "InvalidWish" "InvalidFrame" false
  w2 : Exm K "InvalidWish" "InvalidOctets" false
  w3 : Exm K "InvalidWish" "InvalidTopic" false
  w4 : Exm K "InvalidWish" "InvalidWish" true
  y1 : Exm K "InvalidWay" "InvalidFrame" false
  y2 : Exm K "InvalidWay" "InvalidOctets" false
  y3 : Exm K "InvalidWay" "InvalidTopic" false
  y4 : Exm K "InvalidWay" "InvalidWish" false
  y5 : Exm K "InvalidWay" "InvalidWay" true
section
variable {K : PySem.W.Frag} {Q : VK} {dx : Option Addr} {H : Hp}
theorem skips {k : Value} {x : Str} {o : Option Str} {l : List (Str × Option Str)} (h : PySem.W.exmOne K k (.ref (He.ga K x)) = some false) (r : errW K Q l k dx H) : errW K Q ((x, o) :: l) k dx H := ⟨false, h, (fun z => by cases z), fun _ => r⟩
theorem takes_ {k : Value} {x z : Str} {l : List (Str × Option Str)} (h : PySem.W.exmOne K k (.ref (He.ga K x)) = some true) (r : Q (.str z) H) : errW K Q ((x, some z) :: l) k dx H := ⟨true, h, fun _ => ⟨z, rfl, r⟩, fun z => by cases z⟩
theorem ErrX.topic (e : ErrX K) (q : Q (.str ("topic" : String)) H) : errW K Q errL (.ref (He.ga K "InvalidTopic")) dx H := skips e.t1 (skips e.t2 (takes_ e.t3 q))
theorem ErrX.wish (e : ErrX K) (q : Q (.str ("wish" : String)) H) : errW K Q errL (.ref (He.ga K "InvalidWish")) dx H := skips e.w1 (skips e.w2 (skips e.w3 (takes_ e.w4 q)))
theorem ErrX.way (e : ErrX K) (q : Q (.str ("way" : String)) H) : errW K Q errL (.ref (He.ga K "InvalidWay")) dx H := skips e.y1 (skips e.y2 (skips e.y3 (skips e.y4 (takes_ e.y5 q))))
end
abbrev odd1 : List Str := ["", "A", "a/", "/a", "a//b", "a/b/c/d/e/f", "abcdefg", "a b", "a1"]
theorem odd1_bad : ∀ z ∈ odd1, z.length ≤ 1000 ∧ topicB z = false ∧ wishB z = false := by decide +kernel
abbrev odd2 : List Str := ["", "#/a", "a+", "+a", "a/#b", "##", "a/#/#", "+/+/+/+/+/#", "a/"]
theorem odd2_bad : ∀ z ∈ odd2, z.length ≤ 1000 ∧ wishB z = false := by decide +kernel
abbrev odd3 : List Str := ["Light", ""]
theorem odd3_bad : ∀ z ∈ odd3, z.length ≤ 1000 ∧ wayB z = false := by decide +kernel
theorem ok1 {z : Str} (h : OkS z) : ∀ s ∈ [z], OkS s := fun s hs => by rw [List.mem_singleton.mp hs]; exact h
theorem ok2 {z : Str} (h : OkS z) : ∀ s ∈ [z, z], OkS s := fun s hs => by
  rcases List.mem_cons.mp hs with rfl | hs
  · exact h
  · rw [List.mem_singleton.mp hs]; exact h
/-- the same lists: the test fails -/
theorem same_out {l : List Str} {A B : Prop} (h : B) : if (if true = true then !decide (l = l) else decide (l = l)) = true then A else B := by
  rw [if_neg (by rw [decide_eq_true rfl]; decide)]
  exact h
/-- one's own list may grow -/
theorem Gr.own {T : Tbs} {D : Addr} {H H' : Hp} {xs ys : List V} (g : Gr T H H') (hD : H D = none) (e : H' D = some (.lst xs)) : Gr T H (upd H' D (.lst ys)) := by
  refine ⟨fun b o h z => ?_, tabs_upd g.tabs e⟩
  rw [upd_ne (fun q => by rw [q, hD] at h; cases h)]
  exact g.ext b o h z
abbrev rows1 : List (Str × Str) := [(("a" : String), ("#" : String)), (("a/b" : String), ("a/#" : String)), (("a" : String), ("a/#" : String)), (("a/b/c" : String), ("+/#" : String)), (("a/b" : String), ("+/b" : String)), (("a" : String), ("+/#" : String)), (("a/b" : String), ("+/+" : String)), (("a/b/c/d/e" : String), ("a/b/c/d/#" : String))]
abbrev rows2 : List (Str × Str) := [(("a/b" : String), ("+" : String)), (("a" : String), ("a/+" : String)), (("b" : String), ("a/#" : String)), (("a/b" : String), ("a/b/c" : String)), (("a/b" : String), ("b/+" : String)), (("a" : String), ("+/+/#" : String)), (("ab" : String), ("a" : String))]
theorem rows1_ok : (∀ d ∈ rows1, topicB d.1 = true ∧ wishB d.2 = true ∧ d.1.length ≤ 1000 ∧ d.2.length ≤ 1000) ∧ rows1.map (fun d => metB d.1 d.2) = [true, true, true, true, true, true, true, true] := by decide +kernel
theorem rows2_ok : (∀ d ∈ rows2, topicB d.1 = true ∧ wishB d.2 = true ∧ d.1.length ≤ 1000 ∧ d.2.length ≤ 1000) ∧ rows2.map (fun d => metB d.1 d.2) = [false, false, false, false, false, false, false] := by decide +kernel
/-- a list of pairs of texts stands at p -/
inductive PairsAt (H : Hp) : List Addr → List (Str × Str) → Prop
  | nil : PairsAt H [] []
  | cons {r : Addr} {d : Str × Str} {rs : List Addr} {ds : List (Str × Str)} : H r = some (.tup [.str d.1, .str d.2]) → PairsAt H rs ds → PairsAt H (r :: rs) (d :: ds)
theorem PairsAt.len {H : Hp} {rs : List Addr} {ds : List (Str × Str)} (h : PairsAt H rs ds) : rs.length = ds.length := by
  induction h with
  | nil => rfl
  | cons _ _ ih => rw [List.length_cons, List.length_cons, ih]
theorem PairsAt.gr {T : Tbs} {H H' : Hp} {rs : List Addr} {ds : List (Str × Str)} (h : PairsAt H rs ds) (g : Gr T H H') : PairsAt H' rs ds := by
  induction h with
  | nil => exact .nil
  | cons e _ ih => exact .cons (g.tup e) ih
theorem PairsAt.get {H : Hp} {rs : List Addr} {ds : List (Str × Str)} (h : PairsAt H rs ds) : ∀ (i : Nat) (r : Addr), rs[i]? = some r → ∃ d : Str × Str, ds[i]? = some d ∧ H r = some (.tup [.str d.1, .str d.2]) := by
  induction h with
  | nil => intro i r e; cases i <;> cases e
  | @cons r0 d0 _ _ e _ ih =>
    intro i r q
    cases i with
    | zero => cases q; exact ⟨d0, rfl, e⟩
    | succ i => exact ih i r q
/-- the values of the pairs so far -/
abbrev metTo (ds : List (Str × Str)) (i : Nat) : List V := (((ds.take i).map fun d => metB d.1 d.2).map V.bl)
theorem metTo_snoc {ds : List (Str × Str)} {i : Nat} {d : Str × Str} (h : ds[i]? = some d) : metTo ds i ++ [V.bl (metB d.1 d.2)] = metTo ds (i + 1) := by
  unfold metTo
  rw [List.take_succ, h]
  simp
theorem metTo_len {ds : List (Str × Str)} {i : Nat} (h : ds.length ≤ 1000) : (metTo ds i).length < sizeLine := by
  unfold metTo
  rw [List.length_map, List.length_map, List.length_take]
  show _ < 16777216
  omega
theorem metTo_all {ds : List (Str × Str)} : metTo ds ds.length = (ds.map fun d => metB d.1 d.2).map V.bl := by
  unfold metTo
  rw [List.take_length]
theorem same_eq {l : List Str} : (if false = true then !decide (l = l) else decide (l = l)) = true := by
  rw [if_neg (by decide), decide_eq_true rfl]
def spLaw (K : PySem.W.Frag) (T : Tbs) : Sp := fun vs H Q _ => ∃ (a : Addr) (ns : List Int), vs = [.ref a] ∧ SqL K H a (ns.map V.int) ∧ ns.length ≤ 63 ∧ LamX.Tabs T H ∧ ∀ H', Q (.bl true) H'
def lawN : List Str := ["_law_script", "_law_cup_here", "_law_turn", "_law_odd", "_law_words", "_law_rows", "_law_bad", "_law_topic_here", "_law_wish"]
section
variable {P : Program} {w : World} {K : PySem.W.Frag} {mg : Str → Option Value} {base : Heap} {T : Tbs}
theorem sc_law : FnScope lawN ["_law_script"] (defScope s_law) := ⟨rfl, rfl, rfl, by decide +kernel, rfl, by decide +kernel, by decide +kernel⟩
theorem has_law (F : At K mg "law" s_law) (B : Tb K mg base T "law" "law.<locals>.<lambda>") (zr : mg "range" = none) (FE : At K mg "_law_error" s_lerror) (G : ErrG K mg) (EX : ErrX K)
    (HC : Has P w K mg base CX0 1 "_law_cup" ["_law_script"] (spCup K T)) (HR : Has P w K mg base CX0 7 "_law_right" ["_law_cup_here"] (spRight T))
    (HT : Has P w K mg base CX0 4 "is_topic" ["value"] (spB K T topicV)) (HW : Has P w K mg base CX0 4 "is_wish" ["value"] (spB K T wishV)) (HM : Has P w K mg base (L2.CX P w) 6 "meets" ["topic", "wish"] (spMeets K T (He.ga K "InvalidTopic") (He.ga K "InvalidWish")))
    (HLe : Has P w K mg base (L2.CX P w) 3 "lesser_way" ["one", "other"] (spLess K (He.ga K "InvalidWay"))) :
    Has P w K mg base CX0 9 "law" ["_law_script"] (spLaw K T) := by
  refine F.ok0 sc_law (fun _ _ _ _ _ _ us hl => match us, hl with | [_], _ => rfl) (fun vs H Q E h => ?_) fun A outer s H vs Q E hr h => ?_
  · obtain ⟨a, ns, rfl, _⟩ := h
    rfl
  obtain ⟨a, ns, rfl, hS, hl, tb, q⟩ := h
  have h8 := hr.mono (show 8 ≤ 8 by decide)
  have h7 := hr.mono (show 7 ≤ 8 by decide)
  have h4 := hr.mono (show 4 ≤ 8 by decide)
  have h1 := hr.mono (show 1 ≤ 8 by decide)
  have h6 := hr.mono (show 6 ≤ 8 by decide)
  have h5 := hr.mono (show 5 ≤ 8 by decide)
  have h3 := hr.mono (show 3 ≤ 8 by decide)
  let X0 : Cx := (cxOf CX0 P w K mg base lawN "law" (defScope s_law) (He.ga K "law") (cdv K "law") A outer s H E).nox
  refine ⟨_, pss_cons (ps_set (i := 1) sc_law.nd rfl (Or.inl rfl) (Has.call HC h1 pass0 (pa_cons (pv 0) pa_nil)))
    (pss_cons (ps_for PassesOwn.never rfl (pi_range1 rfl zr (pa_cons pe_int pa_nil)) (pg_name (i := 2) sc_law.nd rfl (Or.inl rfl))
      (pss_one (ps_if (pt_not (pt_val (Has.call HR h7 pass0 (pa_cons (pv 1) pa_nil)))) (pss_one (ps_ret pe_bl)) pss_nil)))
    (pss_cons (ps_for PassesOwn.never rfl (pi_tup (pe_tup (pa_cons pe_non (pa_cons pe_str (pa_cons pe_str (pa_cons pe_str (pa_cons pe_str (pa_cons pe_str (pa_cons pe_str (pa_cons pe_str (pa_cons pe_str (pa_cons pe_int (pa_cons (pe_lst (pa_cons pe_str pa_nil)) (pa_cons pe_str pa_nil)))))))))))))) (pg_name (i := 3) sc_law.nd rfl (Or.inr rfl))
      (pss_cons (ps_set (i := 4) sc_law.nd rfl (Or.inl rfl) (pe_lst (pa_cons (err_call (X := X0) (k := 6) (T := T) FE G B.tb rfl rfl B.mem B.un h8 (LamX.lamS_by (by show LamX.lamSB (defScope s_law) _ = true; decide +kernel)) rfl rfl (fun _ _ _ _ _ => rfl)
          (fun A outer s H E f c' hrA => Has.call HM hrA (passes_call (takes_of rfl rfl rfl rfl) (fun _ _ _ _ h => h)) (pa_cons (pv 3) (pa_cons pe_non pa_nil)))) pa_nil)))
      (pss_one (ps_if (pw_or (pt_cmpR op_isnot_bl (Has.call HT h4 pass0 (pa_cons (pv 3) pa_nil)) pe_bl (nomark _)) (pw_or (pt_cmpR op_isnot_bl (Has.call HW h4 pass0 (pa_cons (pv 3) pa_nil)) pe_bl (nomark _)) (pw_or1 (pt_cmpR (ne_strs hr (K := K) rfl) (pv 4) (pe_lst (pa_cons pe_str pa_nil)) (nomark _))))).pt
        (pss_one (ps_ret pe_bl)) pss_nil))))
    (pss_cons (ps_for PassesOwn.never rfl (pi_tup (pe_tup (pa_cons pe_non (pa_cons pe_str (pa_cons pe_str (pa_cons pe_str (pa_cons pe_str (pa_cons pe_str (pa_cons pe_str (pa_cons pe_str (pa_cons pe_str (pa_cons pe_str pa_nil)))))))))))) (pg_name (i := 3) sc_law.nd rfl (Or.inr rfl))
      (pss_one (ps_if (pw_or (pt_cmpR op_isnot_bl (Has.call HW h4 pass0 (pa_cons (pv 3) pa_nil)) pe_bl (nomark _)) (pw_or1 (pt_cmpR op_ne (err_call (X := X0) (k := 6) (T := T) FE G B.tb rfl rfl B.mem B.un h8 (LamX.lamS_by (by show LamX.lamSB (defScope s_law) _ = true; decide +kernel)) rfl rfl (fun _ _ _ _ _ => rfl)
          (fun A outer s H E f c' hrA => Has.call HM hrA (passes_call (takes_of rfl rfl rfl rfl) (fun _ _ _ _ h => h)) (pa_cons pe_str (pa_cons (pv 3) pa_nil)))) pe_str (nomark _)))).pt
        (pss_one (ps_ret pe_bl)) pss_nil)))
    (pss_cons (ps_for PassesOwn.never rfl (pi_tup (pe_tup (pa_cons pe_non (pa_cons pe_str (pa_cons pe_str (pa_cons pe_int (pa_cons (pe_lst (pa_cons pe_str pa_nil)) pa_nil))))))) (pg_name (i := 3) sc_law.nd rfl (Or.inr rfl))
      (pss_cons (ps_set (i := 4) sc_law.nd rfl (Or.inl rfl) (pe_lst (pa_cons (err_call (X := X0) (k := 3) (T := T) FE G B.tb rfl rfl B.mem B.un h5 (LamX.lamS_by (by show LamX.lamSB (defScope s_law) _ = true; decide +kernel)) rfl rfl (fun _ _ _ _ _ => rfl)
          (fun A outer s H E f c' hrA => Has.call HLe hrA (passes_call (takes_of rfl rfl rfl rfl) (fun _ _ _ _ h => h)) (pa_cons (pv 3) (pa_cons pe_non pa_nil)))) pa_nil)))
      (pss_cons (ps_expr (pe_bm PySem.F.plainAttrs_list PySem.F.slot_list_append PySem.F.type_list_append mt_append (pv 4) (pa_cons (err_call (X := X0) (k := 3) (T := T) FE G B.tb rfl rfl B.mem B.un h5 (LamX.lamS_by (by show LamX.lamSB (defScope s_law) _ = true; decide +kernel)) rfl rfl (fun _ _ _ _ _ => rfl)
          (fun A outer s H E f c' hrA => Has.call HLe hrA (passes_call (takes_of rfl rfl rfl rfl) (fun _ _ _ _ h => h)) (pa_cons pe_str (pa_cons (pv 3) pa_nil)))) pa_nil)))
      (pss_one (ps_if (pt_cmpR (ne_strs hr (K := K) rfl) (pv 4) (pe_op op_rep (pe_lst (pa_cons pe_str pa_nil)) pe_int) (nomark _)) (pss_one (ps_ret pe_bl)) pss_nil)))))
    (pss_cons (ps_set (i := 5) sc_law.nd rfl (Or.inl rfl) (pe_lst (pa_cons (pe_tup (pa_cons pe_str (pa_cons pe_str pa_nil))) (pa_cons (pe_tup (pa_cons pe_str (pa_cons pe_str pa_nil))) (pa_cons (pe_tup (pa_cons pe_str (pa_cons pe_str pa_nil))) (pa_cons (pe_tup (pa_cons pe_str (pa_cons pe_str pa_nil)))
      (pa_cons (pe_tup (pa_cons pe_str (pa_cons pe_str pa_nil))) (pa_cons (pe_tup (pa_cons pe_str (pa_cons pe_str pa_nil))) (pa_cons (pe_tup (pa_cons pe_str (pa_cons pe_str pa_nil))) (pa_cons (pe_tup (pa_cons pe_str (pa_cons pe_str pa_nil))) pa_nil))))))))))
    (pss_cons (ps_set (i := 6) sc_law.nd rfl (Or.inl rfl) (pe_lst (pa_cons (pe_tup (pa_cons pe_str (pa_cons pe_str pa_nil))) (pa_cons (pe_tup (pa_cons pe_str (pa_cons pe_str pa_nil))) (pa_cons (pe_tup (pa_cons pe_str (pa_cons pe_str pa_nil))) (pa_cons (pe_tup (pa_cons pe_str (pa_cons pe_str pa_nil)))
      (pa_cons (pe_tup (pa_cons pe_str (pa_cons pe_str pa_nil))) (pa_cons (pe_tup (pa_cons pe_str (pa_cons pe_str pa_nil))) (pa_cons (pe_tup (pa_cons pe_str (pa_cons pe_str pa_nil))) pa_nil)))))))))
    (pss_cons (ps_if (pw_or (pt_cmpR (ne_bools hr (K := K) rfl) (pe_lc (own := [("_law_topic_here", 7), ("_law_wish", 8)]) rfl sc_law.nd (pi_list (pv 5)) (blk_by (by show BlkD lawN (defScope s_law) _ [("_law_topic_here", 7), ("_law_wish", 8)]; decide +kernel))
          (fun _ _ _ _ _ => tup_g (K := K) (n := 2) rfl rfl (pgs_cons (pg_name (i := 7) sc_law.nd rfl (Or.inl rfl) (Or.inr rfl)) (pgs_cons (pg_name (i := 8) sc_law.nd rfl (Or.inl rfl) (Or.inr rfl)) pgs_nil)))
          (fun _ _ _ _ _ => pts_nil) (fun _ _ _ _ _ => Has.call HM h6 passL (pa_cons (pv 7) (pa_cons (pv 8) pa_nil))))
        (pe_op op_rep (pe_lst (pa_cons pe_bl pa_nil)) pe_int) (nomark _))
      (pw_or1 (pt_cmpR (ne_bools hr (K := K) rfl) (pe_lc (own := [("_law_topic_here", 7), ("_law_wish", 8)]) rfl sc_law.nd (pi_list (pv 6)) (blk_by (by show BlkD lawN (defScope s_law) _ [("_law_topic_here", 7), ("_law_wish", 8)]; decide +kernel))
          (fun _ _ _ _ _ => tup_g (K := K) (n := 2) rfl rfl (pgs_cons (pg_name (i := 7) sc_law.nd rfl (Or.inl rfl) (Or.inr rfl)) (pgs_cons (pg_name (i := 8) sc_law.nd rfl (Or.inl rfl) (Or.inr rfl)) pgs_nil)))
          (fun _ _ _ _ _ => pts_nil) (fun _ _ _ _ _ => Has.call HM h6 passL (pa_cons (pv 7) (pa_cons (pv 8) pa_nil))))
        (pe_op op_rep (pe_lst (pa_cons pe_bl pa_nil)) pe_int) (nomark _)))).pt (pss_one (ps_ret pe_bl)) pss_nil)
    (pss_one (ps_ret (pe_and (pe_cmpR (eq_strs hr (K := K) rfl) (pe_lst (pa_cons (Has.call HLe h3 passL (pa_cons pe_str (pa_cons pe_str pa_nil))) (pa_cons (Has.call HLe h3 passL (pa_cons pe_str (pa_cons pe_str pa_nil))) (pa_cons (Has.call HLe h3 passL (pa_cons pe_str (pa_cons pe_str pa_nil))) pa_nil))))
        (pe_lst (pa_cons pe_str (pa_cons pe_str (pa_cons pe_str pa_nil)))) (nomark _)) (pe_one (pe_cmpR op_is_bl (Has.call HT h4 pass0 (pa_cons pe_str pa_nil)) pe_bl (nomark _))))))))))))), ?_⟩
  refine ⟨_, rfl, a, ns, rfl, hS, hl, tb, fun pc H1 g1 c1 => ?_⟩
  refine ⟨4, rfl, by decide, by decide, for_it (n := (4 : Int).toNat) walk_range (fun _ σ H' => ∃ tv, σ = [some (.ref a), some (.ref pc), tv, none, none, none, none, none, none] ∧ GrC T pc H1 H') ⟨_, rfl, (Gr.refl g1.tabs).c c1⟩ (fun _ _ _ _ _ => trivial) ?_ ?_⟩
  · rintro i x σ H2 H3 hi ⟨tv, rfl, g2⟩ ⟨rfl, rfl⟩
    exact ⟨_, rfl, pc, rfl, g2.cup, g2.tabs, fun H4 g4 => ⟨_, rfl, iteF ⟨_, rfl, g2.trans g4⟩⟩⟩
  rintro σ H2 ⟨tv, rfl, g2⟩
  -- what is no topic
  refine ⟨by show 1 ≤ sizeLine; decide, fun pl hpl => ?_⟩
  have ga := Gr.new g2.tabs hpl (.lst [V.str ("a" : String)])
  refine ⟨by show 12 ≤ sizeLine; decide, fun pt hpt => ?_⟩
  have gb := Gr.new ga.tabs hpt (.tup [.non, .str ("" : String), .str ("A" : String), .str ("a/" : String), .str ("/a" : String), .str ("a//b" : String), .str ("a/b/c/d/e/f" : String), .str ("abcdefg" : String), .str ("a b" : String), .int 1, .ref pl, .str ("a1" : String)])
  have hpl2 := gb.lst upd_same
  have ax : ∀ x ∈ ([.non, .str ("" : String), .str ("A" : String), .str ("a/" : String), .str ("/a" : String), .str ("a//b" : String), .str ("a/b/c/d/e/f" : String), .str ("abcdefg" : String), .str ("a b" : String), .int 1, .ref pl, .str ("a1" : String)] : List V),
      (∃ z ∈ odd1, x = .str z) ∨ x = .non ∨ x = .int 1 ∨ x = .ref pl := by
    intro x hx
    simp only [List.mem_cons, List.not_mem_nil, or_false] at hx
    have st : ∀ z, z ∈ odd1 → (∃ z' ∈ odd1, V.str z = .str z') ∨ V.str z = .non ∨ V.str z = .int 1 ∨ V.str z = .ref pl := fun z h => .inl ⟨z, h, rfl⟩
    rcases hx with rfl | rfl | rfl | rfl | rfl | rfl | rfl | rfl | rfl | rfl | rfl | rfl
    · exact .inr (.inl rfl)
    all_goals first
      | exact st _ (by decide +kernel)
      | exact .inr (.inr (.inl rfl))
      | exact .inr (.inr (.inr rfl))
  generalize hXS : ([.non, .str ("" : String), .str ("A" : String), .str ("a/" : String), .str ("/a" : String), .str ("a//b" : String), .str ("a/b/c/d/e/f" : String), .str ("abcdefg" : String), .str ("a b" : String), .int 1, .ref pl, .str ("a1" : String)] : List V) = XS at ax gb hpl2 ⊢
  have bad : ∀ x ∈ XS, ∀ H', Gr T (upd (upd H2 pl (.lst [V.str ("a" : String)])) pt (.tup XS)) H' → AnyV K H' x ∧ topicV x = false ∧ wishV x = false := by
    intro x hx H' g
    rcases ax x hx with ⟨z, hz, rfl⟩ | rfl | rfl | rfl
    · obtain ⟨b1, b2, b3⟩ := odd1_bad z hz
      exact ⟨.inl ⟨z, rfl, b1⟩, b2, b3⟩
    · exact ⟨.inr (.inl rfl), rfl, rfl⟩
    · exact ⟨.inr (.inr (.inl ⟨1, rfl⟩)), rfl, rfl⟩
    · exact ⟨.inr (.inr (.inr (.inr ⟨pl, _, rfl, .inl (g.lst hpl2)⟩))), rfl, rfl⟩
  refine ⟨pt, rfl, ⟨_, SqT.of upd_same⟩, for_it (n := XS.length) (walk_tup (xs := XS)) (fun _ σ H' => ∃ tv o ww, σ = [some (.ref a), some (.ref pc), tv, o, ww, none, none, none, none] ∧ Gr T (upd (upd H2 pl (.lst [V.str ("a" : String)])) pt (.tup XS)) H') ⟨_, _, _, rfl, ?_⟩ (fun i σ H' _ h => by obtain ⟨_, _, _, _, g⟩ := h; exact SqT.of (g.tup upd_same)) ?_ ?_⟩
  · exact Gr.refl gb.tabs
  · rintro i x σ H4 H5 hi ⟨tv, o, ww, rfl, g4⟩ ⟨rfl, hx⟩
    have hxm : x ∈ XS := List.mem_of_getElem? hx
    refine ⟨g4.tabs, fun H6 e6 t6 => ?_⟩
    have g6 : Gr T H5 H6 := ⟨e6, t6⟩
    have g46 := g4.trans g6
    obtain ⟨b1, b2, b3⟩ := bad x hxm H6 g46
    refine ⟨x, rfl, x, .non, rfl, b1, .inr (.inl rfl), g46.tabs, fun _ H7 g7 => EX.topic ?_, (fun z => by rw [b2] at z; cases z), fun t u et eu _ _ => by cases eu⟩
    refine ⟨by show 1 ≤ sizeLine; decide, fun p8 hp8 => ?_⟩
    have g8 := Gr.new g7.tabs hp8 (.lst [V.str ("topic" : String)])
    have g48 := g46.trans (g7.trans g8)
    refine ⟨x, rfl, x, rfl, (bad x hxm _ g48).1, g48.tabs, fun H9 g9 => ?_⟩
    have e9 : (!decide (topicV x = false)) = false := by rw [b2]; rfl
    refine ⟨_, _, rfl, rfl, _, rfl, ?_⟩
    rw [e9]
    refine iteF ?_
    have g49 := g48.trans g9
    refine ⟨x, rfl, x, rfl, (bad x hxm _ g49).1, g49.tabs, fun H10 g10 => ?_⟩
    have e10 : (!decide (wishV x = false)) = false := by rw [b3]; rfl
    refine ⟨_, _, rfl, rfl, _, rfl, ?_⟩
    rw [e10]
    refine iteF ?_
    refine ⟨_, rfl, by show 1 ≤ sizeLine; decide, fun p11 hp11 => ?_⟩
    have g11 := Gr.new g10.tabs hp11 (.lst [V.str ("topic" : String)])
    have g411 := g49.trans (g10.trans g11)
    refine ⟨p8, p11, [("topic" : String)], [("topic" : String)], rfl, rfl, SqL.of ((g9.trans (g10.trans g11)).lst upd_same), SqL.of upd_same, ?_, ?_, _, rfl, ?_⟩
    · exact ok1 (by unfold OkS; decide +kernel)
    · exact ok1 (by unfold OkS; decide +kernel)
    · exact same_out ⟨_, _, _, rfl, g411⟩
  rintro σ H3 ⟨tv, o, ww, rfl, g3⟩
  clear bad ax hpl2 hXS
  -- what is no wish
  refine ⟨by show 10 ≤ sizeLine; decide, fun pu hpu => ?_⟩
  have gc := Gr.new g3.tabs hpu (.tup [.non, .str ("" : String), .str ("#/a" : String), .str ("a+" : String), .str ("+a" : String), .str ("a/#b" : String), .str ("##" : String), .str ("a/#/#" : String), .str ("+/+/+/+/+/#" : String), .str ("a/" : String)])
  have ay : ∀ x ∈ ([.non, .str ("" : String), .str ("#/a" : String), .str ("a+" : String), .str ("+a" : String), .str ("a/#b" : String), .str ("##" : String), .str ("a/#/#" : String), .str ("+/+/+/+/+/#" : String), .str ("a/" : String)] : List V),
      (∃ z ∈ odd2, x = .str z) ∨ x = .non := by
    intro x hx
    simp only [List.mem_cons, List.not_mem_nil, or_false] at hx
    have st : ∀ z, z ∈ odd2 → (∃ z' ∈ odd2, V.str z = .str z') ∨ V.str z = .non := fun z h => .inl ⟨z, h, rfl⟩
    rcases hx with rfl | rfl | rfl | rfl | rfl | rfl | rfl | rfl | rfl | rfl
    · exact .inr rfl
    all_goals exact st _ (by decide +kernel)
  generalize ([.non, .str ("" : String), .str ("#/a" : String), .str ("a+" : String), .str ("+a" : String), .str ("a/#b" : String), .str ("##" : String), .str ("a/#/#" : String), .str ("+/+/+/+/+/#" : String), .str ("a/" : String)] : List V) = YS at ay gc ⊢
  have bad2 : ∀ x ∈ YS, ∀ H', AnyV K H' x ∧ wishV x = false := by
    intro x hx H'
    rcases ay x hx with ⟨z, hz, rfl⟩ | rfl
    · obtain ⟨b1, b2⟩ := odd2_bad z hz
      exact ⟨.inl ⟨z, rfl, b1⟩, b2⟩
    · exact ⟨.inr (.inl rfl), rfl⟩
  refine ⟨pu, rfl, ⟨_, SqT.of upd_same⟩, for_it (n := YS.length) (walk_tup (xs := YS)) (fun _ σ H' => ∃ tv o ww, σ = [some (.ref a), some (.ref pc), tv, o, ww, none, none, none, none] ∧ Gr T (upd H3 pu (.tup YS)) H') ⟨_, _, _, rfl, ?_⟩ (fun i σ H' _ h => by obtain ⟨_, _, _, _, g⟩ := h; exact SqT.of (g.tup upd_same)) ?_ ?_⟩
  · exact Gr.refl gc.tabs
  · rintro i x σ H4 H5 hi ⟨tv, o, ww, rfl, g4⟩ ⟨rfl, hx⟩
    have hxm : x ∈ YS := List.mem_of_getElem? hx
    have b3 := (bad2 x hxm H5).2
    refine ⟨x, rfl, x, rfl, (bad2 x hxm _).1, g4.tabs, fun H6 g6 => ?_⟩
    have e6 : (!decide (wishV x = false)) = false := by rw [b3]; rfl
    refine ⟨_, _, rfl, rfl, _, rfl, ?_⟩
    rw [e6]
    refine iteF ?_
    have g46 := g4.trans g6
    refine ⟨g46.tabs, fun H7 e7 t7 => ?_⟩
    have g7 : Gr T H6 H7 := ⟨e7, t7⟩
    have ta : topicB ("a" : String) = true := by decide +kernel
    refine ⟨x, rfl, .str ("a" : String), x, rfl, .inl ⟨_, rfl, by decide⟩, (bad2 x hxm _).1, t7, (fun z => by rw [show topicV (.str ("a" : String)) = topicB ("a" : String) from rfl, ta] at z; cases z), fun _ _ H8 g8 => EX.wish ?_, fun t u et eu _ hw => ?_⟩
    · refine ⟨rfl, _, rfl, ?_⟩
      refine iteF ⟨_, _, _, rfl, g46.trans (g7.trans g8)⟩
    · subst eu
      rw [show wishV (.str u) = wishB u from rfl, hw] at b3
      cases b3
  rintro σ H4 ⟨tv, o, ww, rfl, g4⟩
  clear bad2 ay
  -- what is no way
  refine ⟨by show 1 ≤ sizeLine; decide, fun pm hpm => ?_⟩
  have gd := Gr.new g4.tabs hpm (.lst [V.str ("light" : String)])
  refine ⟨by show 5 ≤ sizeLine; decide, fun pv' hpv => ?_⟩
  have ge := Gr.new gd.tabs hpv (.tup [.non, .str ("Light" : String), .str ("" : String), .int 0, .ref pm])
  have hpm2 := ge.lst upd_same
  have az : ∀ x ∈ ([.non, .str ("Light" : String), .str ("" : String), .int 0, .ref pm] : List V), (∃ z ∈ odd3, x = .str z) ∨ x = .non ∨ x = .int 0 ∨ x = .ref pm := by
    intro x hx
    simp only [List.mem_cons, List.not_mem_nil, or_false] at hx
    rcases hx with rfl | rfl | rfl | rfl | rfl
    · exact .inr (.inl rfl)
    · exact .inl ⟨_, by decide +kernel, rfl⟩
    · exact .inl ⟨_, by decide +kernel, rfl⟩
    · exact .inr (.inr (.inl rfl))
    · exact .inr (.inr (.inr rfl))
  generalize ([.non, .str ("Light" : String), .str ("" : String), .int 0, .ref pm] : List V) = ZS at az ge hpm2 ⊢
  have bad3 : ∀ x ∈ ZS, ∀ H', Gr T (upd (upd H4 pm (.lst [V.str ("light" : String)])) pv' (.tup ZS)) H' → AnyV K H' x ∧ wayV x = false := by
    intro x hx H' g
    rcases az x hx with ⟨z, hz, rfl⟩ | rfl | rfl | rfl
    · obtain ⟨b1, b2⟩ := odd3_bad z hz
      exact ⟨.inl ⟨z, rfl, b1⟩, b2⟩
    · exact ⟨.inr (.inl rfl), rfl⟩
    · exact ⟨.inr (.inr (.inl ⟨0, rfl⟩)), rfl⟩
    · exact ⟨.inr (.inr (.inr (.inr ⟨pm, _, rfl, .inl (g.lst hpm2)⟩))), rfl⟩
  refine ⟨pv', rfl, ⟨_, SqT.of upd_same⟩, for_it (n := ZS.length) (walk_tup (xs := ZS)) (fun _ σ H' => ∃ tv o ww, σ = [some (.ref a), some (.ref pc), tv, o, ww, none, none, none, none] ∧ Gr T (upd (upd H4 pm (.lst [V.str ("light" : String)])) pv' (.tup ZS)) H') ⟨_, _, _, rfl, ?_⟩ (fun i σ H' _ h => by obtain ⟨_, _, _, _, g⟩ := h; exact SqT.of (g.tup upd_same)) ?_ ?_⟩
  · exact Gr.refl ge.tabs
  · rintro i x σ H5 H6 hi ⟨tv, o, ww, rfl, g5⟩ ⟨rfl, hx⟩
    have hxm : x ∈ ZS := List.mem_of_getElem? hx
    have b3 := (bad3 x hxm _ g5).2
    refine ⟨g5.tabs, fun H7 e7 t7 => ?_⟩
    have g7 : Gr T H6 H7 := ⟨e7, t7⟩
    have g57 := g5.trans g7
    refine ⟨x, rfl, x, .non, rfl, (bad3 x hxm _ g57).1, .inr (.inl rfl), fun _ => EX.way ?_, (fun z => by rw [b3] at z; cases z), fun t u et eu _ _ => by cases eu⟩
    refine ⟨by show 1 ≤ sizeLine; decide, fun p8 hp8 => ?_⟩
    have g8 := Gr.new t7 hp8 (.lst [V.str ("way" : String)])
    have g58 := g57.trans g8
    refine ⟨_, rfl, .inl ⟨rfl, _, SqL.of upd_same⟩, g58.tabs, fun H9 e9 t9 => ?_⟩
    have g9 : Gr T _ H9 := ⟨e9, t9⟩
    have g59 := g58.trans g9
    have tl : wayV (.str ("light" : String)) = true := by decide +kernel
    refine ⟨x, rfl, .str ("light" : String), x, rfl, .inl ⟨_, rfl, by decide⟩, (bad3 x hxm _ g59).1, (fun z => by rw [tl] at z; cases z), fun _ _ => EX.way ?_, fun t u et eu _ hw => ?_⟩
    · have l9 := g9.lst (H := upd H7 p8 (.lst [V.str ("way" : String)])) upd_same
      refine ⟨p8, [V.str ("way" : String)], V.str ("way" : String), rfl, rfl, l9, by show 1 < 16777216; decide, ?_⟩
      have g10 := (g57.trans (Gr.refl t7)) |> fun _ => g8.trans g9
      have g7o : Gr T H7 (upd H9 p8 (.lst ([V.str ("way" : String)] ++ [V.str ("way" : String)]))) := g10.own hp8 l9
      refine ⟨_, rfl, by show 1 ≤ sizeLine; decide, fun p11 hp11 => ?_⟩
      have g11 := Gr.new g7o.tabs hp11 (.lst [V.str ("way" : String)])
      refine ⟨p11, 2, [V.str ("way" : String)], rfl, rfl, upd_same, by decide, by decide, by decide, fun p12 hp12 => ?_⟩
      have g12 := Gr.new g11.tabs hp12 (.lst (List.replicate (2 : Int).toNat [V.str ("way" : String)]).flatten)
      refine ⟨p8, p12, [("way" : String), ("way" : String)], [("way" : String), ("way" : String)], rfl, rfl, SqL.of ((g11.trans g12).lst upd_same), SqL.of upd_same, ?_, ?_, _, rfl, ?_⟩
      · exact ok2 (by unfold OkS; decide +kernel)
      · exact ok2 (by unfold OkS; decide +kernel)
      · exact same_out ⟨_, _, _, rfl, g57.trans (g7o.trans (g11.trans g12))⟩
    · subst eu
      rw [show wayV (.str u) = wayB u from rfl, hw] at b3
      cases b3
  rintro σ H5 ⟨tv, o, ww, rfl, g5⟩
  clear bad3 az hpm2
  refine ⟨by show 2 ≤ sizeLine; decide, fun ra0 hra0 => ?_⟩
  have gra0 := Gr.new g5.tabs hra0 (.tup [.str ("a" : String), .str ("#" : String)])
  refine ⟨by show 2 ≤ sizeLine; decide, fun ra1 hra1 => ?_⟩
  have gra1 := Gr.new gra0.tabs hra1 (.tup [.str ("a/b" : String), .str ("a/#" : String)])
  refine ⟨by show 2 ≤ sizeLine; decide, fun ra2 hra2 => ?_⟩
  have gra2 := Gr.new gra1.tabs hra2 (.tup [.str ("a" : String), .str ("a/#" : String)])
  refine ⟨by show 2 ≤ sizeLine; decide, fun ra3 hra3 => ?_⟩
  have gra3 := Gr.new gra2.tabs hra3 (.tup [.str ("a/b/c" : String), .str ("+/#" : String)])
  refine ⟨by show 2 ≤ sizeLine; decide, fun ra4 hra4 => ?_⟩
  have gra4 := Gr.new gra3.tabs hra4 (.tup [.str ("a/b" : String), .str ("+/b" : String)])
  refine ⟨by show 2 ≤ sizeLine; decide, fun ra5 hra5 => ?_⟩
  have gra5 := Gr.new gra4.tabs hra5 (.tup [.str ("a" : String), .str ("+/#" : String)])
  refine ⟨by show 2 ≤ sizeLine; decide, fun ra6 hra6 => ?_⟩
  have gra6 := Gr.new gra5.tabs hra6 (.tup [.str ("a/b" : String), .str ("+/+" : String)])
  refine ⟨by show 2 ≤ sizeLine; decide, fun ra7 hra7 => ?_⟩
  have gra7 := Gr.new gra6.tabs hra7 (.tup [.str ("a/b/c/d/e" : String), .str ("a/b/c/d/#" : String)])
  refine ⟨by show 8 ≤ sizeLine; decide, fun raL hraL => ?_⟩
  have graL := Gr.new gra7.tabs hraL (.lst [.ref ra0, .ref ra1, .ref ra2, .ref ra3, .ref ra4, .ref ra5, .ref ra6, .ref ra7])
  have kra7 := graL
  have kra6 := gra7.trans kra7
  have kra5 := gra6.trans kra6
  have kra4 := gra5.trans kra5
  have kra3 := gra4.trans kra4
  have kra2 := gra3.trans kra3
  have kra1 := gra2.trans kra2
  have kra0 := gra1.trans kra1
  have Pra : PairsAt _ [ra0, ra1, ra2, ra3, ra4, ra5, ra6, ra7] rows1 := .cons (kra0.tup upd_same) (.cons (kra1.tup upd_same) (.cons (kra2.tup upd_same) (.cons (kra3.tup upd_same) (.cons (kra4.tup upd_same) (.cons (kra5.tup upd_same) (.cons (kra6.tup upd_same) (.cons (kra7.tup upd_same) .nil)))))))
  have ara := gra0.trans kra0
  refine ⟨by show 2 ≤ sizeLine; decide, fun rb0 hrb0 => ?_⟩
  have grb0 := Gr.new graL.tabs hrb0 (.tup [.str ("a/b" : String), .str ("+" : String)])
  refine ⟨by show 2 ≤ sizeLine; decide, fun rb1 hrb1 => ?_⟩
  have grb1 := Gr.new grb0.tabs hrb1 (.tup [.str ("a" : String), .str ("a/+" : String)])
  refine ⟨by show 2 ≤ sizeLine; decide, fun rb2 hrb2 => ?_⟩
  have grb2 := Gr.new grb1.tabs hrb2 (.tup [.str ("b" : String), .str ("a/#" : String)])
  refine ⟨by show 2 ≤ sizeLine; decide, fun rb3 hrb3 => ?_⟩
  have grb3 := Gr.new grb2.tabs hrb3 (.tup [.str ("a/b" : String), .str ("a/b/c" : String)])
  refine ⟨by show 2 ≤ sizeLine; decide, fun rb4 hrb4 => ?_⟩
  have grb4 := Gr.new grb3.tabs hrb4 (.tup [.str ("a/b" : String), .str ("b/+" : String)])
  refine ⟨by show 2 ≤ sizeLine; decide, fun rb5 hrb5 => ?_⟩
  have grb5 := Gr.new grb4.tabs hrb5 (.tup [.str ("a" : String), .str ("+/+/#" : String)])
  refine ⟨by show 2 ≤ sizeLine; decide, fun rb6 hrb6 => ?_⟩
  have grb6 := Gr.new grb5.tabs hrb6 (.tup [.str ("ab" : String), .str ("a" : String)])
  refine ⟨by show 7 ≤ sizeLine; decide, fun rbL hrbL => ?_⟩
  have grbL := Gr.new grb6.tabs hrbL (.lst [.ref rb0, .ref rb1, .ref rb2, .ref rb3, .ref rb4, .ref rb5, .ref rb6])
  have krb6 := grbL
  have krb5 := grb6.trans krb6
  have krb4 := grb5.trans krb5
  have krb3 := grb4.trans krb4
  have krb2 := grb3.trans krb3
  have krb1 := grb2.trans krb2
  have krb0 := grb1.trans krb1
  have Prb : PairsAt _ [rb0, rb1, rb2, rb3, rb4, rb5, rb6] rows2 := .cons (krb0.tup upd_same) (.cons (krb1.tup upd_same) (.cons (krb2.tup upd_same) (.cons (krb3.tup upd_same) (.cons (krb4.tup upd_same) (.cons (krb5.tup upd_same) (.cons (krb6.tup upd_same) .nil))))))
  have arb := grb0.trans krb0
  have Pra2 := Pra.gr arb
  have La := arb.lst (H := _) (a := raL) (xs := [ra0, ra1, ra2, ra3, ra4, ra5, ra6, ra7].map V.ref) upd_same
  refine ⟨_, rfl, raL, rfl, ⟨_, SqL.of La⟩, fun D1 hD1 => lc_it (n := (([ra0, ra1, ra2, ra3, ra4, ra5, ra6, ra7].map V.ref) : List V).length) (walk_list (xs := [ra0, ra1, ra2, ra3, ra4, ra5, ra6, ra7].map V.ref)) (fun i H' => H' D1 = some (.lst (metTo rows1 i)) ∧ Gr T _ H') ⟨upd_same, Gr.new arb.tabs hD1 (.lst [])⟩ (fun i H' _ h => SqL.of (h.2.lst La)) ?_ ?_⟩
  · rintro i x H7 H8 hi ⟨eD, g⟩ ⟨rfl, hx⟩
    rw [List.getElem?_map] at hx
    rw [List.length_map] at hi
    have hri : ([ra0, ra1, ra2, ra3, ra4, ra5, ra6, ra7] : List Addr)[i]? = some [ra0, ra1, ra2, ra3, ra4, ra5, ra6, ra7][i] := List.getElem?_eq_getElem hi
    rw [hri] at hx
    obtain rfl : V.ref [ra0, ra1, ra2, ra3, ra4, ra5, ra6, ra7][i] = x := Option.some.inj hx
    obtain ⟨d, hd, ht⟩ := Pra2.get i _ hri
    obtain ⟨o1, o2, o3, o4⟩ := rows1_ok.1 d (List.mem_of_getElem? hd)
    refine ⟨_, _, rfl, SqT.of (g.tup ht), rfl, _, _, rfl, _, _, rfl, rfl, rfl, yes_if ?_⟩
    refine ⟨_, rfl, _, rfl, .str d.1, .str d.2, rfl, .inl ⟨_, rfl, o3⟩, .inl ⟨_, rfl, o4⟩, g.tabs, (fun z => by rw [show topicV (.str d.1) = topicB d.1 from rfl, o1] at z; cases z), (fun _ z => by rw [show wishV (.str d.2) = wishB d.2 from rfl, o2] at z; cases z), fun t u et eu _ _ H9 g9 => ?_⟩
    obtain rfl := V.str.inj et
    obtain rfl := V.str.inj eu
    have eD3 := g9.lst eD
    exact ⟨_, eD3, metTo_len (by decide), by rw [upd_same, metTo_snoc hd], (g.trans g9).own hD1 eD3⟩
  rintro H7 ⟨e7, g7⟩
  rw [show (([ra0, ra1, ra2, ra3, ra4, ra5, ra6, ra7].map V.ref) : List V).length = rows1.length from rfl, metTo_all] at e7
  refine ⟨by show 1 ≤ sizeLine; decide, fun q1 hq1 => ?_⟩
  have gq1 := Gr.new g7.tabs hq1 (.lst [V.bl true])
  refine ⟨q1, 8, [V.bl true], rfl, rfl, upd_same, by decide, by decide, by decide, fun q2 hq2 => ?_⟩
  have gq2 := Gr.new gq1.tabs hq2 (.lst (List.replicate (8 : Int).toNat [V.bl true]).flatten)
  refine ⟨D1, q2, rows1.map (fun d => metB d.1 d.2), [true, true, true, true, true, true, true, true], rfl, rfl, SqL.of ((gq1.trans gq2).lst e7), SqL.of upd_same, _, rfl, ?_⟩
  have f1 : (!decide (rows1.map (fun d => metB d.1 d.2) = [true, true, true, true, true, true, true, true])) = false := by rw [rows1_ok.2]; decide
  rw [f1]
  refine iteF ?_
  have g8 := g7.trans (gq1.trans gq2)
  have Lb := g8.lst (a := rbL) (xs := [rb0, rb1, rb2, rb3, rb4, rb5, rb6].map V.ref) upd_same
  have Prb2 := Prb.gr g8
  refine ⟨_, rfl, rbL, rfl, ⟨_, SqL.of Lb⟩, fun D2 hD2 => lc_it (n := (([rb0, rb1, rb2, rb3, rb4, rb5, rb6].map V.ref) : List V).length) (walk_list (xs := [rb0, rb1, rb2, rb3, rb4, rb5, rb6].map V.ref)) (fun i H' => H' D2 = some (.lst (metTo rows2 i)) ∧ Gr T _ H') ⟨upd_same, Gr.new g8.tabs hD2 (.lst [])⟩ (fun i H' _ h => SqL.of (h.2.lst Lb)) ?_ ?_⟩
  · rintro i x H7 H8 hi ⟨eD, g⟩ ⟨rfl, hx⟩
    rw [List.getElem?_map] at hx
    rw [List.length_map] at hi
    have hri : ([rb0, rb1, rb2, rb3, rb4, rb5, rb6] : List Addr)[i]? = some [rb0, rb1, rb2, rb3, rb4, rb5, rb6][i] := List.getElem?_eq_getElem hi
    rw [hri] at hx
    obtain rfl : V.ref [rb0, rb1, rb2, rb3, rb4, rb5, rb6][i] = x := Option.some.inj hx
    obtain ⟨d, hd, ht⟩ := Prb2.get i _ hri
    obtain ⟨o1, o2, o3, o4⟩ := rows2_ok.1 d (List.mem_of_getElem? hd)
    refine ⟨_, _, rfl, SqT.of (g.tup ht), rfl, _, _, rfl, _, _, rfl, rfl, rfl, yes_if ?_⟩
    refine ⟨_, rfl, _, rfl, .str d.1, .str d.2, rfl, .inl ⟨_, rfl, o3⟩, .inl ⟨_, rfl, o4⟩, g.tabs, (fun z => by rw [show topicV (.str d.1) = topicB d.1 from rfl, o1] at z; cases z), (fun _ z => by rw [show wishV (.str d.2) = wishB d.2 from rfl, o2] at z; cases z), fun t u et eu _ _ H9 g9 => ?_⟩
    obtain rfl := V.str.inj et
    obtain rfl := V.str.inj eu
    have eD3 := g9.lst eD
    exact ⟨_, eD3, metTo_len (by decide), by rw [upd_same, metTo_snoc hd], (g.trans g9).own hD2 eD3⟩
  rintro H9 ⟨e9, g9⟩
  rw [show (([rb0, rb1, rb2, rb3, rb4, rb5, rb6].map V.ref) : List V).length = rows2.length from rfl, metTo_all] at e9
  refine ⟨by show 1 ≤ sizeLine; decide, fun q3 hq3 => ?_⟩
  have gq3 := Gr.new g9.tabs hq3 (.lst [V.bl false])
  refine ⟨q3, 7, [V.bl false], rfl, rfl, upd_same, by decide, by decide, by decide, fun q4 hq4 => ?_⟩
  have gq4 := Gr.new gq3.tabs hq4 (.lst (List.replicate (7 : Int).toNat [V.bl false]).flatten)
  refine ⟨D2, q4, rows2.map (fun d => metB d.1 d.2), [false, false, false, false, false, false, false], rfl, rfl, SqL.of ((gq3.trans gq4).lst e9), SqL.of upd_same, _, rfl, ?_⟩
  have f2 : (!decide (rows2.map (fun d => metB d.1 d.2) = [false, false, false, false, false, false, false])) = false := by rw [rows2_ok.2]; decide
  rw [f2]
  refine iteF ?_
  have tb9 := (gq3.trans gq4).tabs
  have wl : ∀ z ∈ ways, wayV (.str z) = true ∧ z.length ≤ 1000 := by decide +kernel
  have w1 := wl ("light" : String) (by decide +kernel)
  have w2 := wl ("marked" : String) (by decide +kernel)
  have w3 := wl ("paired" : String) (by decide +kernel)
  refine ⟨.str ("paired" : String), .str ("light" : String), rfl, .inl ⟨_, rfl, w3.2⟩, .inl ⟨_, rfl, w1.2⟩, (fun z => by rw [w3.1] at z; cases z), (fun _ z => by rw [w1.1] at z; cases z), fun x1 y1 ex1 ey1 _ _ => ?_⟩
  refine ⟨.str ("marked" : String), .str ("paired" : String), rfl, .inl ⟨_, rfl, w2.2⟩, .inl ⟨_, rfl, w3.2⟩, (fun z => by rw [w2.1] at z; cases z), (fun _ z => by rw [w3.1] at z; cases z), fun x2 y2 ex2 ey2 _ _ => ?_⟩
  refine ⟨.str ("marked" : String), .str ("marked" : String), rfl, .inl ⟨_, rfl, w2.2⟩, .inl ⟨_, rfl, w2.2⟩, (fun z => by rw [w2.1] at z; cases z), (fun _ z => by rw [w2.1] at z; cases z), fun x3 y3 ex3 ey3 _ _ => ?_⟩
  obtain rfl := V.str.inj ex1
  obtain rfl := V.str.inj ey1
  obtain rfl := V.str.inj ex2
  obtain rfl := V.str.inj ey2
  obtain rfl := V.str.inj ex3
  obtain rfl := V.str.inj ey3
  have l1 : (if decide ((wix ("paired" : String) : Int) ≤ wix ("light" : String)) = true then (("paired" : String) : Str) else ("light" : String)) = (("light" : String) : Str) := by decide +kernel
  have l2 : (if decide ((wix ("marked" : String) : Int) ≤ wix ("paired" : String)) = true then (("marked" : String) : Str) else ("paired" : String)) = (("marked" : String) : Str) := by decide +kernel
  have l3 : (if decide ((wix ("marked" : String) : Int) ≤ wix ("marked" : String)) = true then (("marked" : String) : Str) else ("marked" : String)) = (("marked" : String) : Str) := by decide +kernel
  rw [l1, l2, l3]
  refine ⟨by show 3 ≤ sizeLine; decide, fun q5 hq5 => ?_⟩
  have gq5 := Gr.new tb9 hq5 (.lst [V.str ("light" : String), V.str ("marked" : String), V.str ("marked" : String)])
  refine ⟨by show 3 ≤ sizeLine; decide, fun q6 hq6 => ?_⟩
  have gq6 := Gr.new gq5.tabs hq6 (.lst [V.str ("light" : String), V.str ("marked" : String), V.str ("marked" : String)])
  have okw : ∀ s ∈ ([("light" : String), ("marked" : String), ("marked" : String)] : List Str), OkS s := by unfold OkS; decide +kernel
  refine ⟨q5, q6, [("light" : String), ("marked" : String), ("marked" : String)], [("light" : String), ("marked" : String), ("marked" : String)], rfl, rfl, SqL.of (gq6.lst upd_same), SqL.of upd_same, okw, okw, _, rfl, ?_⟩
  rw [same_eq]
  refine iteT ⟨.str ("a/+" : String), rfl, .inl ⟨_, rfl, by decide⟩, gq6.tabs, fun H10 g10 => ⟨_, _, rfl, rfl, ?_⟩⟩
  have ff : decide (topicV (.str ("a/+" : String)) = false) = true := by decide +kernel
  rw [ff]
  exact q H10
end
end Bk

set_option Elab.async false
set_option linter.all false
set_option maxRecDepth 100000
set_option maxHeartbeats 0
namespace Bk
open PySem PySem.Spec PyProof.Rows L2
/-! ### the head: what the walk needs of the top -/
def dd (x : Str) (i : Nat) : He.DefD := ⟨(x, none), x, x, defArgs (top i), defBody (top i), defScope (top i), [], []⟩
def fn : List He.DefD := [dd "is_name" 19, dd "is_topic" 20, dd "is_wish" 21, dd "is_way" 22, dd "check_topic" 23, dd "check_wish" 24, dd "check_way" 25, dd "is_met" 26, dd "meets" 27, dd "is_way_up_to" 28, dd "lesser_way" 29, dd "_law_cup" 31, dd "_law_roll" 32, dd "_law_some" 33, dd "_law_met" 34, dd "_law_error" 35, dd "_law_topic" 36, dd "_law_opened" 37, dd "_law_right" 38, dd "law" 39]
def fa : List He.Fa := [.glo "is_name", .glo "is_topic", .glo "is_wish", .glo "is_way", .glo "check_topic", .glo "check_wish", .glo "check_way", .glo "is_met", .glo "meets", .glo "is_way_up_to", .glo "lesser_way", .glo "_law_cup", .glo "_law_roll", .glo "_law_some", .glo "_law_met", .glo "_law_error", .glo "_law_topic", .glo "_law_opened", .glo "_law_right", .glo "law", .free "all", .free "len", .free "isinstance", .free "str", .free "zip", .free "range", .free "list", .free "abs", .free "int", .free "min", .free "all", .int "MOST_LETTERS" 6, .int "MOST_STEPS" 5, .glo "WAYS", .glo "InvalidFrame", .glo "InvalidOctets", .glo "InvalidTopic", .glo "InvalidWish", .glo "InvalidWay", .glo "InvalidText", .glo "InvalidManner", .glo "InvalidNames", .glo "InvalidSide", .glo "InvalidWorld", .glo "InvalidEvent", .glo "InvalidEvents", .glo "CannotHappen", .glo "HeardError", .exc "InvalidTopic", .exc "InvalidWish", .exc "InvalidWay", .exm "InvalidTopic" "InvalidFrame" false, .exm "InvalidTopic" "InvalidOctets" false, .exm "InvalidTopic" "InvalidTopic" true, .exm "InvalidWish" "InvalidFrame" false, .exm "InvalidWish" "InvalidOctets" false, .exm "InvalidWish" "InvalidTopic" false, .exm "InvalidWish" "InvalidWish" true, .exm "InvalidWay" "InvalidFrame" false, .exm "InvalidWay" "InvalidOctets" false, .exm "InvalidWay" "InvalidTopic" false, .exm "InvalidWay" "InvalidWish" false, .exm "InvalidWay" "InvalidWay" true]
def tN : List (Str × Str) := [("law", "law.<locals>.<lambda>")]
def tf : List He.Defn := tN.map fun p => (p.1, none)
def tabA (K : PySem.W.Frag) (x : Str) : Addr := (He.cT K (x, none)).2
def waysD (K : PySem.W.Frag) : Bool := match K.lookup (He.ga K "WAYS") with
  | some ⟨.type t, none, _, _⟩ => decide (t = "tuple")
  | _ => false
def ex (K : PySem.W.Frag) : Bool := He.tupB K "WAYS" [.str "light", .str "marked", .str "paired"] && (waysD K && decide ((tN.map fun p => tabA K p.1).Nodup))
def TT (K : PySem.W.Frag) : Tbs := tN.map fun p => (tabA K p.1, p.2)
theorem ways_d {K : PySem.W.Frag} (h : waysD K = true) : ∃ o, K.lookup (He.ga K "WAYS") = some o ∧ o.cls = .type "tuple" ∧ o.dict = none := by
  unfold waysD at h
  cases e : K.lookup (He.ga K "WAYS") with
  | none =>
    rw [e] at h
    cases h
  | some o =>
    rw [e] at h
    obtain ⟨c, d, t, sl⟩ := o
    cases c with
    | type t =>
      cases d with
      | none => exact ⟨_, rfl, congrArg Value.type (of_decide_eq_true h), rfl⟩
      | some d => cases h
    | _ => cases d <;> cases h
theorem tab_un {g : Str → Addr} : ∀ {l : List (Str × Str)}, (l.map fun p => g p.1).Nodup → ∀ {x q : Str}, (x, q) ∈ l → ∀ p ∈ l.map (fun p => (g p.1, p.2)), p.1 = g x → p.2 = q
  | [], _, _, _, h, _, _, _ => by cases h
  | y :: r, nd, x, q, h, p, hp, e => by
    rw [List.map_cons, List.nodup_cons] at nd
    rw [List.map_cons] at hp
    rcases List.mem_cons.mp h with z | z
    · rcases List.mem_cons.mp hp with v | v
      · rw [v, ← z]
      · obtain ⟨u, hu, ev⟩ := List.mem_map.mp v
        refine absurd (List.mem_map_of_mem (f := fun p : Str × Str => g p.1) hu) ?_
        have eg : g u.1 = g y.1 := by rw [← z, ← e, ← ev]
        show ¬ g u.1 ∈ _
        rw [eg]
        exact nd.1
    · rcases List.mem_cons.mp hp with v | v
      · refine absurd (List.mem_map_of_mem (f := fun p : Str × Str => g p.1) z) ?_
        have eg : g x = g y.1 := by rw [← e, v]
        show ¬ g x ∈ _
        rw [eg]
        exact nd.1
      · exact tab_un nd.2 z p v e
theorem facts {P : Program} {w : World} {K : PySem.W.Frag} {h : Heap} {mg : Str → Option Value} (X : K.In h) (G : h.Ns mainGlobals mg) (c : He.SaysD fa fn K) (more : ex K = true) :
    ∃ fd : FuncData, (∀ (s : Shared) (v : Value), BindsTo s fd ⟨[v], []⟩ [("_law_script", v)]) ∧ mg "law" = some (.ref (He.ga K "law")) ∧ ∀ base : Heap, (∀ p ∈ tf.map (He.cT K), LamX.TabB base mg p.1 p.2) → FnOk P w K mg base CX0 9 (He.ga K "law") fd ["_law_script"] (spLaw K (TT K)) := by
  obtain ⟨m1, m2⟩ := He.ba more
  obtain ⟨m2, m3⟩ := He.ba m2
  have nd := of_decide_eq_true m3
  have W : Ways K mg := ⟨(He.glo_ok X G (c.fact 33 (f := .glo "WAYS") rfl)), fun H => He.tupB_ok m1 H, ways_d m2⟩
  obtain ⟨fd, FL⟩ := c.def_ 19 (d := dd "law" 39) rfl
  refine ⟨fd, fun s v => FunD.bindsA (ps := ["_law_script"]) FL (fun _ _ _ _ _ _ us hl => match us, hl with | [_], _ => rfl) s [v] rfl, (He.glo_ok X G (c.fact 19 (f := .glo "law") rfl)), fun base tb => ?_⟩
  have B : ∀ x q, (x, q) ∈ tN → Tb K mg base (TT K) x q := fun x q hx =>
    ⟨tb _ (List.mem_map_of_mem (List.mem_map_of_mem (f := fun p : Str × Str => ((p.1, none) : He.Defn)) hx)), List.mem_map_of_mem (f := fun p : Str × Str => (tabA K p.1, p.2)) hx, tab_un nd hx⟩
  have XT : Exc K mg "InvalidTopic" := ⟨(He.glo_ok X G (c.fact 36 (f := .glo "InvalidTopic") rfl)), He.exc_ok (c.fact 48 (f := .exc "InvalidTopic") rfl)⟩
  have XW : Exc K mg "InvalidWish" := ⟨(He.glo_ok X G (c.fact 37 (f := .glo "InvalidWish") rfl)), He.exc_ok (c.fact 49 (f := .exc "InvalidWish") rfl)⟩
  have XY : Exc K mg "InvalidWay" := ⟨(He.glo_ok X G (c.fact 38 (f := .glo "InvalidWay") rfl)), He.exc_ok (c.fact 50 (f := .exc "InvalidWay") rfl)⟩
  have Ais_name : At K mg "is_name" (top 19) := ⟨(He.glo_ok X G (c.fact 0 (f := .glo "is_name") rfl)), c.def_ 0 (d := dd "is_name" 19) rfl⟩
  have Ais_topic : At K mg "is_topic" (top 20) := ⟨(He.glo_ok X G (c.fact 1 (f := .glo "is_topic") rfl)), c.def_ 1 (d := dd "is_topic" 20) rfl⟩
  have Ais_wish : At K mg "is_wish" (top 21) := ⟨(He.glo_ok X G (c.fact 2 (f := .glo "is_wish") rfl)), c.def_ 2 (d := dd "is_wish" 21) rfl⟩
  have Ais_way : At K mg "is_way" (top 22) := ⟨(He.glo_ok X G (c.fact 3 (f := .glo "is_way") rfl)), c.def_ 3 (d := dd "is_way" 22) rfl⟩
  have Acheck_topic : At K mg "check_topic" (top 23) := ⟨(He.glo_ok X G (c.fact 4 (f := .glo "check_topic") rfl)), c.def_ 4 (d := dd "check_topic" 23) rfl⟩
  have Acheck_wish : At K mg "check_wish" (top 24) := ⟨(He.glo_ok X G (c.fact 5 (f := .glo "check_wish") rfl)), c.def_ 5 (d := dd "check_wish" 24) rfl⟩
  have Acheck_way : At K mg "check_way" (top 25) := ⟨(He.glo_ok X G (c.fact 6 (f := .glo "check_way") rfl)), c.def_ 6 (d := dd "check_way" 25) rfl⟩
  have Ais_met : At K mg "is_met" (top 26) := ⟨(He.glo_ok X G (c.fact 7 (f := .glo "is_met") rfl)), c.def_ 7 (d := dd "is_met" 26) rfl⟩
  have Ameets : At K mg "meets" (top 27) := ⟨(He.glo_ok X G (c.fact 8 (f := .glo "meets") rfl)), c.def_ 8 (d := dd "meets" 27) rfl⟩
  have Ais_way_up_to : At K mg "is_way_up_to" (top 28) := ⟨(He.glo_ok X G (c.fact 9 (f := .glo "is_way_up_to") rfl)), c.def_ 9 (d := dd "is_way_up_to" 28) rfl⟩
  have Alesser_way : At K mg "lesser_way" (top 29) := ⟨(He.glo_ok X G (c.fact 10 (f := .glo "lesser_way") rfl)), c.def_ 10 (d := dd "lesser_way" 29) rfl⟩
  have Alaw_cup : At K mg "_law_cup" (top 31) := ⟨(He.glo_ok X G (c.fact 11 (f := .glo "_law_cup") rfl)), c.def_ 11 (d := dd "_law_cup" 31) rfl⟩
  have Alaw_roll : At K mg "_law_roll" (top 32) := ⟨(He.glo_ok X G (c.fact 12 (f := .glo "_law_roll") rfl)), c.def_ 12 (d := dd "_law_roll" 32) rfl⟩
  have Alaw_some : At K mg "_law_some" (top 33) := ⟨(He.glo_ok X G (c.fact 13 (f := .glo "_law_some") rfl)), c.def_ 13 (d := dd "_law_some" 33) rfl⟩
  have Alaw_met : At K mg "_law_met" (top 34) := ⟨(He.glo_ok X G (c.fact 14 (f := .glo "_law_met") rfl)), c.def_ 14 (d := dd "_law_met" 34) rfl⟩
  have Alaw_error : At K mg "_law_error" (top 35) := ⟨(He.glo_ok X G (c.fact 15 (f := .glo "_law_error") rfl)), c.def_ 15 (d := dd "_law_error" 35) rfl⟩
  have Alaw_topic : At K mg "_law_topic" (top 36) := ⟨(He.glo_ok X G (c.fact 16 (f := .glo "_law_topic") rfl)), c.def_ 16 (d := dd "_law_topic" 36) rfl⟩
  have Alaw_opened : At K mg "_law_opened" (top 37) := ⟨(He.glo_ok X G (c.fact 17 (f := .glo "_law_opened") rfl)), c.def_ 17 (d := dd "_law_opened" 37) rfl⟩
  have Alaw_right : At K mg "_law_right" (top 38) := ⟨(He.glo_ok X G (c.fact 18 (f := .glo "_law_right") rfl)), c.def_ 18 (d := dd "_law_right" 38) rfl⟩
  have Alaw : At K mg "law" (top 39) := ⟨(He.glo_ok X G (c.fact 19 (f := .glo "law") rfl)), c.def_ 19 (d := dd "law" 39) rfl⟩
  have zall : mg "all" = none := (He.free_ok X G (c.fact 20 (f := .free "all") rfl))
  have zlen : mg "len" = none := (He.free_ok X G (c.fact 21 (f := .free "len") rfl))
  have zisinstance : mg "isinstance" = none := (He.free_ok X G (c.fact 22 (f := .free "isinstance") rfl))
  have zstr : mg "str" = none := (He.free_ok X G (c.fact 23 (f := .free "str") rfl))
  have zzip : mg "zip" = none := (He.free_ok X G (c.fact 24 (f := .free "zip") rfl))
  have zrange : mg "range" = none := (He.free_ok X G (c.fact 25 (f := .free "range") rfl))
  have zlist : mg "list" = none := (He.free_ok X G (c.fact 26 (f := .free "list") rfl))
  have zabs : mg "abs" = none := (He.free_ok X G (c.fact 27 (f := .free "abs") rfl))
  have zint : mg "int" = none := (He.free_ok X G (c.fact 28 (f := .free "int") rfl))
  have zmin : mg "min" = none := (He.free_ok X G (c.fact 29 (f := .free "min") rfl))
  have EG : ErrG K mg := by
    intro p hp
    simp only [errL, List.mem_cons, List.not_mem_nil, or_false] at hp
    rcases hp with rfl | rfl | rfl | rfl | rfl | rfl | rfl | rfl | rfl | rfl | rfl | rfl | rfl | rfl
    · exact (He.glo_ok X G (c.fact 34 (f := .glo "InvalidFrame") rfl))
    · exact (He.glo_ok X G (c.fact 35 (f := .glo "InvalidOctets") rfl))
    · exact (He.glo_ok X G (c.fact 36 (f := .glo "InvalidTopic") rfl))
    · exact (He.glo_ok X G (c.fact 37 (f := .glo "InvalidWish") rfl))
    · exact (He.glo_ok X G (c.fact 38 (f := .glo "InvalidWay") rfl))
    · exact (He.glo_ok X G (c.fact 39 (f := .glo "InvalidText") rfl))
    · exact (He.glo_ok X G (c.fact 40 (f := .glo "InvalidManner") rfl))
    · exact (He.glo_ok X G (c.fact 41 (f := .glo "InvalidNames") rfl))
    · exact (He.glo_ok X G (c.fact 42 (f := .glo "InvalidSide") rfl))
    · exact (He.glo_ok X G (c.fact 43 (f := .glo "InvalidWorld") rfl))
    · exact (He.glo_ok X G (c.fact 44 (f := .glo "InvalidEvent") rfl))
    · exact (He.glo_ok X G (c.fact 45 (f := .glo "InvalidEvents") rfl))
    · exact (He.glo_ok X G (c.fact 46 (f := .glo "CannotHappen") rfl))
    · exact (He.glo_ok X G (c.fact 47 (f := .glo "HeardError") rfl))
  have EX : ErrX K := ⟨He.exm_ok (c.fact 51 (f := .exm "InvalidTopic" "InvalidFrame" false) rfl), He.exm_ok (c.fact 52 (f := .exm "InvalidTopic" "InvalidOctets" false) rfl), He.exm_ok (c.fact 53 (f := .exm "InvalidTopic" "InvalidTopic" true) rfl), He.exm_ok (c.fact 54 (f := .exm "InvalidWish" "InvalidFrame" false) rfl), He.exm_ok (c.fact 55 (f := .exm "InvalidWish" "InvalidOctets" false) rfl), He.exm_ok (c.fact 56 (f := .exm "InvalidWish" "InvalidTopic" false) rfl), He.exm_ok (c.fact 57 (f := .exm "InvalidWish" "InvalidWish" true) rfl), He.exm_ok (c.fact 58 (f := .exm "InvalidWay" "InvalidFrame" false) rfl), He.exm_ok (c.fact 59 (f := .exm "InvalidWay" "InvalidOctets" false) rfl), He.exm_ok (c.fact 60 (f := .exm "InvalidWay" "InvalidTopic" false) rfl), He.exm_ok (c.fact 61 (f := .exm "InvalidWay" "InvalidWish" false) rfl), He.exm_ok (c.fact 62 (f := .exm "InvalidWay" "InvalidWay" true) rfl)⟩
  have h_name : Has P w K mg base CX0 2 "is_name" ["value"] (spB K (TT K) nameV) := has_is_name Ais_name zisinstance zstr zlen (He.int_ok X G (c.fact 31 (f := .int "MOST_LETTERS" 6) rfl))
  have h_topic : Has P w K mg base CX0 4 "is_topic" ["value"] (spB K (TT K) topicV) := has_is_topic Ais_topic zisinstance zstr zlen zall (He.int_ok X G (c.fact 32 (f := .int "MOST_STEPS" 5) rfl)) h_name
  have h_wish : Has P w K mg base CX0 4 "is_wish" ["value"] (spB K (TT K) wishV) := has_is_wish Ais_wish zisinstance zstr zlen zall (He.int_ok X G (c.fact 32 (f := .int "MOST_STEPS" 5) rfl)) h_name
  have h_ct := has_check_topic Acheck_topic XT h_topic
  have h_cw := has_check_wish Acheck_wish XW h_wish
  have h_cy : Has P w K mg base (L2.CX P w) 2 "check_way" ["way"] (spCk0 K wayV (He.ga K "InvalidWay")) := has_check_way Acheck_way XY (has_is_way Ais_way zisinstance zstr W)
  have h_met : Has P w K mg base CX0 3 "is_met" ["topic", "wish"] (spMet K (TT K)) := has_is_met Ais_met zlen zall zzip
  have h_meets := has_meets Ameets h_ct h_cw h_met
  have h_up : Has P w K mg base CX0 1 "is_way_up_to" ["way", "other"] spUp := has_is_way_up_to Ais_way_up_to W
  have h_less := has_lesser_way Alesser_way h_cy h_up
  have h_roll : Has P w K mg base CX0 1 "_law_roll" ["_law_cup_here", "_law_many"] spRoll := has_roll Alaw_roll zint
  have h_some := has_some Alaw_some zlen h_roll
  have h_cup : Has P w K mg base CX0 1 "_law_cup" ["_law_script"] (spCup K (TT K)) := has_cup Alaw_cup zlist zabs zint
  have h_lmet : Has P w K mg base CX0 1 "_law_met" ["_law_topic_here", "_law_wish"] (spLawMet (TT K)) := has_lmet Alaw_met
  have h_lt : Has P w K mg base CX0 3 "_law_topic" ["_law_cup_here"] (spTopic (TT K)) := has_ltopic Alaw_topic zrange h_roll h_some
  have h_lo : Has P w K mg base CX0 3 "_law_opened" ["_law_cup_here", "_law_topic_here"] (spOpened (TT K)) := has_lopened Alaw_opened zlen h_roll h_some
  have h_right := has_lright Alaw_right zmin h_lt h_lo h_topic h_wish h_meets h_lmet h_some h_less
  exact (has_law Alaw (B "law" "law.<locals>.<lambda>" (by simp [tN])) zrange Alaw_error EG EX h_cup h_right h_topic h_wish h_meets h_less).fn FL
abbrev R : PySem.W.OpenRow := PySem.W.OpenLaw.row PySem.Challenge.rw_heardonce_k00_whole_topics_and_wishes
abbrev hk : PySem.W.Hook := He.hookX 6 fa fn [] tf ex
def ob (s : PySem.W.SharedT) : He.AlX := He.obsX 6 fa fn [] tf ex (HandSHeadRun.getT s)
theorem ob_eq (s : PySem.W.SharedT) : ob s = hk.obs s.abs := He.obsX_eq (HandSHeadRun.getT_eq s)
def nmA : List Str := ["HeardError", "InvalidFrame", "InvalidTopic", "InvalidWish", "InvalidWay", "InvalidText", "InvalidManner", "InvalidNames", "InvalidSide", "InvalidWorld"]
def nmB : List Str := ["InvalidEvent", "InvalidEvents", "CannotHappen", "InvalidOctets", "MOST_LETTERS", "MOST_STEPS", "WAYS", "is_name", "is_topic"]
def nmC : List Str := ["is_wish", "is_way", "check_topic", "check_wish", "check_way", "is_met", "meets", "is_way_up_to", "lesser_way"]
def nmD : List Str := ["_law_cup", "_law_roll", "_law_some", "_law_met", "_law_error", "_law_topic", "_law_opened", "_law_right"]
def nms : List Str := nmA ++ (nmB ++ (nmC ++ nmD))
end Bk

set_option Elab.async false
set_option linter.all false
set_option maxRecDepth 100000
set_option maxHeartbeats 0
namespace Bk
open PySem PySem.Spec PyProof.Rows L2
theorem run (w : World) : HandSHeadRun.RunEq R (PySem.W.view R.prog [39]) hk ob 4000 nms w := by
  intro os
  kernel_rfl
end Bk
open PySem PySem.W PySem.Calls PyProof.Rows
theorem PySem.Challenge.cw_heardonce_k00_whole_topics_and_wishes_holds : PySem.Challenge.rw_heardonce_k00_whole_topics_and_wishes.Holds := by
  w_on; o_law
  refine HandSHeadRun.head_any (r := OpenLaw.row PySem.Challenge.rw_heardonce_k00_whole_topics_and_wishes) (q := view (OpenLaw.row PySem.Challenge.rw_heardonce_k00_whole_topics_and_wishes).prog [39]) (H := Bk.hk) (ob := Bk.ob) (M := 4000) (loose := Bk.nms) (d := HandSHeadRun.topDef (OpenLaw.row PySem.Challenge.rw_heardonce_k00_whole_topics_and_wishes).prog 39) (kwd := []) Bk.ob_eq
    (by kernel_rfl) (fun s => by kernel_rfl) Bk.run (by kernel_rfl) (by kernel_rfl) (by kernel_rfl) (by rfl) (by first | assumption | decide +kernel) (by decide +kernel) ⟨rfl, rfl, rfl, rfl, rfl, by decide +kernel⟩ ?hw ?hc
  case hw => w_witness2
  case hc =>
    refine LamX.walk_ofTsE (l := PySem.Challenge.rw_heardonce_k00_whole_topics_and_wishes) (n := 63) (k := 9) (x := "_law_script") (CX := fun _ => L2.CX0) rfl (by decide) (by kernel_rfl) ⟨rfl, by decide, by decide⟩ ?F (fun _ _ _ _ _ z => z)
    intro w mg fa h Y G hmg0
    obtain ⟨K, KX, c⟩ := Y
    have hmg : mg ("law" : PySem.Str) = some (.ref fa) := by
      have e : (HandSHeadRun.topDef (OpenLaw.row PySem.Challenge.rw_heardonce_k00_whole_topics_and_wishes).prog 39).name = ("law" : PySem.Str) := by kernel_rfl
      rw [← e]
      exact hmg0
    obtain ⟨fd, hb, hm, hF⟩ := Bk.facts (P := (PySem.Challenge.rw_heardonce_k00_whole_topics_and_wishes).prog) (w := w) KX G c.t.d c.more
    cases hmg.symm.trans hm
    refine ⟨K, KX, fd, Bk.tf.map (He.cT K), Bk.spLaw K (Bk.TT K), fun p hp => ?_, fun p hp => ?_, fun p hp => ?_, hb, fun H a ns hl _ hT hS => ⟨a, ns, rfl, hS, hl, fun p hp => ?_, fun _ => rfl⟩, fun base _ _ tb => hF base tb⟩
    · obtain ⟨q, hq, rfl⟩ := List.mem_map.mp hp
      exact c.empty q hq
    · obtain ⟨q, hq, rfl⟩ := List.mem_map.mp hp
      exact c.out q hq
    · obtain ⟨q, hq, rfl⟩ := List.mem_map.mp hp
      exact codeHd_of_K KX (c.hd q hq)
    · obtain ⟨q, hq, rfl⟩ := List.mem_map.mp hp
      exact LamX.TabS.nil (hT _ (List.mem_map_of_mem (List.mem_map_of_mem (f := fun p : PySem.Str × PySem.Str => ((p.1, none) : He.Defn)) hq)))
