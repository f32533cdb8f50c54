import PyProof.Rows.All
import Wide.All
import OpenK.AllK
import Wide.FinOn
import HandS.ForMost
import HandS.AnyAll
import HandS.Lambda
import HandS.GenList
import HandS.Walk
import HandS.Exc
import HandS.WordsExc
import HandS.Defaults
import HandS.IsInst
import HandS.Flow
import HandS.Style
import HandS.ExcOwn
import HandS.Strs
import HandS.TryMany
import HandS.Wide
import HandS.StrMore
import HandS.EndTab
import HandS.HeadEnd
import HandS.HeadHook4
import HandS.HeadWalk
import PySem.Challenge.RW_heardonce_k17_whole_cards_and_their_even
import HandS.TupAny
import HandS.TupMul
import HandS.TupLe
import HandS.Codes
import HandS.CallLocal
import HandS.ExcCtx
import KE.GoesEnum
import HandS.Zip
import HandS.Deep
import HandS.Conv
import KE.SortData
import KE.DataMinMax
import PyProof.TupleOfGen
import HandS.More
import HandS.Small
import HandS.TryOnly
import PyProof.CollectIter
import PyProof.Walks
import PyProof.WalksS
import PyProof.MakeMany
import KE.KUnpack
import PyProof.WalksMore
import PyProof.TupleIter
import HandS.Star
import KE.KTupSum
import HandS.DictComp
import HandS.HotCalls
import KE.GoesZip
import HandS.ExcIs
import HandS.Nested
import HandS.ForExc
import KE.KStateDown
import HandS.Head0
import HandS.Head1
import HandS.Head2
import HandS.HeadHook1
import HandS.HeadHook2
import HandS.HeadHook3
set_option Elab.async false
set_option linter.all false
set_option maxRecDepth 100000
set_option maxHeartbeats 4000000
/-! all(..), any(..) of a generator expression whose element is any expression of the layer -/
namespace Gx
open PySem PySem.Spec PyProof.Rows L2 GenW

/-- the expression's own slots at its start: what they take over of the def's -/
def stG (src : List (Option Nat)) (σ : L2.St) : L2.St := src.map fun o => o.bind fun i => (σ[i]?).join
theorem ne_of_none' {H : Hp} {a b : Addr} {o : HO} (h : H a = none) (h' : H b = some o) : a ≠ b := fun e => by
  rw [e, h'] at h
  cases h
theorem stG_length (src : List (Option Nat)) (σ : L2.St) : (stG src σ).length = src.length := List.length_map ..
/-- N, sc: the def's slots and scope; Ng: the expression's slots; src: where each is taken from -/
structure GSc (N : List Str) (sc : Scope) (Ng : List Str) (src : List (Option Nat)) (scope : Scope) : Prop where
  kind : scope.kind = .function
  co : scope.isCoroutine = false
  cell : ∀ y ∈ scope.names, y.2 ≠ .cell
  dot : scope.names.lookup (".0" : Str) = some NameKind.local
  free : ∀ y ∈ scope.names, y.2 = .free → sc.names.lookup y.1 = some .cell ∨ sc.names.lookup y.1 = some .free
  nd : Ng.Nodup
  len : src.length = Ng.length
  src : ∀ (j i : Nat) (x : Str), src[j]? = some (some i) → Ng[j]? = some x → N[i]? = some x ∧ scope.names.lookup x ≠ some .local
def gscB (N : List Str) (sc : Scope) (Ng : List Str) (src : List (Option Nat)) (scope : Scope) : Bool :=
  decide (scope.kind = .function) && !scope.isCoroutine && (scope.names.all fun y => !decide (y.2 = .cell) && (!decide (y.2 = .free) || decide (sc.names.lookup y.1 = some .cell) || decide (sc.names.lookup y.1 = some .free))) &&
    decide (scope.names.lookup (".0" : Str) = some NameKind.local) && decide Ng.Nodup && decide (src.length = Ng.length) &&
    ((src.zip Ng).all fun p => match p.1 with | none => true | some i => decide (N[i]? = some p.2) && !decide (scope.names.lookup p.2 = some .local))
theorem gsc_by {N : List Str} {sc : Scope} {Ng : List Str} {src : List (Option Nat)} {scope : Scope} (h : gscB N sc Ng src scope = true) : GSc N sc Ng src scope := by
  unfold gscB at h
  simp only [Bool.and_eq_true, Bool.or_eq_true, Bool.not_eq_true', decide_eq_true_eq, decide_eq_false_iff_not, List.all_eq_true] at h
  obtain ⟨⟨⟨⟨⟨⟨h1, h2⟩, h3⟩, h4⟩, h5⟩, h6⟩, h7⟩ := h
  refine ⟨h1, h2, fun y hy => (h3 y hy).1, h4, fun y hy e => ?_, h5, h6, fun j i x e1 e2 => ?_⟩
  · rcases (h3 y hy).2 with (z | z) | z
    · exact absurd e z
    · exact .inl z
    · exact .inr z
  · have hm : ((some i, x) : Option Nat × Str) ∈ src.zip Ng := by
      refine List.mem_of_getElem? (i := j) ?_
      rw [List.getElem?_zip_eq_some]
      exact ⟨e1, e2⟩
    have q := h7 _ hm
    simp only [Bool.and_eq_true, Bool.not_eq_true', decide_eq_true_eq, decide_eq_false_iff_not] at q
    exact q

/-- the generator's frame -/
abbrev gEnv (X : Cx) (scope : Scope) (C : Addr) (code : Value) : Env := genEnv scope (cloFrom X.env.cells scope.names []) C code builtinsNs X.env
/-- the context of the expression's parts: the generator was made at s, H in the def's context X; fp: the iterator that it walks -/
abbrev gCx (X : Cx) (Ng : List Str) (A : Around) (env : Env) (s : Shared) (H : Hp) (fp : List Addr) : Cx :=
  { prog := X.prog, w := X.w, K := X.K, mg := X.mg, base := X.base, A := A, N := Ng, s_0 := s, H_0 := H, env := env, outer := X.stack, stack := env :: X.stack, ex := fp, fn := fun _ => false, calm := true, pn := [], xe := fun _ _ => False }

section
variable {X : Cx} {pins : List (Addr × Obj)} {σ : L2.St} {H : Hp} {s : Shared}
theorem g_start {Ng : List Str} {src : List (Option Nat)} {scope : Scope} {A : Around} {code it : Value} {fp : List Addr} {h' : Heap} {g' : Array GenState} {tk : Nat} (I : Inv X pins σ H s) (S : GSc X.N X.env.scope Ng src scope) (hfp : ∀ b ∈ fp, FpOk X pins H b) (hlt : ∀ b ∈ fp, b < s.heap.objs.size)
    (hA : A.handled = none) (hfr : A.frames = some (gEnv X scope s.heap.objs.size code :: X.stack)) (hn : h'.Ns s.heap.objs.size (fun y => if y = ".0" then some it else none)) (kp : ∀ b o, s.heap.get? b = some o → h'.get? b = some o) (hg : AllBare g') :
    Inv (gCx X Ng A (gEnv X scope s.heap.objs.size code) s H fp) [] (stG src σ) H { s with heap := h', gens := g', toks := tk } := by
  have hfree : ∀ y ∈ scope.names, y.2 = .free → ∃ c, X.env.cells.lookup y.1 = some c := fun y hy e => by
    rcases S.free y hy e with k | k
    · exact I.ok.has _ (.inl k)
    · exact I.ok.has _ (.inr k)
  have back : ∀ {y c}, (cloFrom X.env.cells scope.names []).lookup y = some c → X.env.cells.lookup y = some c := fun {y c} e => by
    rcases cloFrom_mem (PySem.mem_of_lookup e) with z | ⟨h1, h2⟩
    · cases z
    · obtain ⟨c1, q⟩ := hfree _ h1 rfl
      have q : X.env.cells.lookup y = some c1 := q
      rw [q] at h2
      rw [q, h2]
      rfl
  have fwd : ∀ {y}, scope.names.lookup y = some .free → ∃ c, (cloFrom X.env.cells scope.names []).lookup y = some c := fun {y} e =>
    mem_lookup (cloFrom_has (cells := X.env.cells) (acc := []) (PySem.mem_of_lookup e))
  have noCell : ∀ {y}, scope.names.lookup y ≠ some .cell := fun {y} e => S.cell _ (PySem.mem_of_lookup e) rfl
  have okG : (gCx X Ng A (gEnv X scope s.heap.objs.size code) s H fp).Ok := by
    refine ⟨I.ok.mod, S.kind, I.ok.glob, rfl, Nat.le_refl _, fun y z c e1 e2 => I.ok.inj y z c (back e1) (back e2), fun y hy => ?_, fun y c z _ => ?_, fun _ => hA, hfr, .inr ⟨rfl, rfl⟩, fun b hb => ⟨Nat.ne_of_lt (hlt b hb), fun y c e => (hfp b hb).2.2.2.2.1 y c (back e)⟩,
      I.bs, Nat.le_trans I.ok.bsz I.sz, fun b o e hb => ?_, fun b hb z => ?_, I.stack, I.stkFree⟩
    · rcases hy with q | q
      · exact absurd q noCell
      · exact fwd q
    · have z : false = true := z
      cases z
    · rcases (hfp b hb).2.2.2.1 with q | q
      · exact I.ok.noex b o e q
      · have h1 := Heap.lt_size e
        have h2 := Nat.le_trans I.ok.bsz q
        exact Nat.lt_irrefl _ (Nat.lt_of_lt_of_le h1 h2)
    · rcases List.mem_cons.mp (I.stkSub b z) with q | q
      · exact (hfp b hb).2.1 q
      · exact (hfp b hb).2.2.1 q
  refine ⟨okG, rfl, hg, Un.kept kp, ⟨_, hn, fun j x v e1 e2 e3 => ?_⟩, fun y c e => ?_, I.hok.fresh (Nat.le_refl _), fun y c e => I.freeC y c (back e), fun q hq => absurd (show q ∈ ([] : List (Addr × Obj)) ++ [] from hq) (by simp), I.hok.kept kp, ?_⟩
  · -- a slot that is taken over
    have e2' : (src[j]?).map (fun o => o.bind fun i => (σ[i]?).join) = some (some v) := by rw [← List.getElem?_map]; exact e2
    obtain ⟨o, ho, e4⟩ := Option.map_eq_some_iff.mp e2'
    cases o with
    | none => cases e4
    | some i =>
      have e5 : (σ[i]?).join = some v := e4
      have e6 : σ[i]? = some (some v) := by
        cases q : σ[i]? with
        | none => rw [q] at e5; cases e5
        | some r => rw [q] at e5; rw [show r = some v from e5]
      obtain ⟨hN, hnl⟩ := S.src j i x ho e1
      have hfr2 : scope.names.lookup x = some .free := by
        rcases (show Vis scope x from e3) with q | q | q
        · exact absurd q hnl
        · exact absurd q noCell
        · exact q
      have hX := S.free _ (PySem.mem_of_lookup hfr2) rfl
      obtain ⟨m, _, hl⟩ := I.loc
      obtain ⟨u, r, l⟩ := hl i x v hN e6 (.inr hX)
      refine ⟨u, r, .inr ⟨.inr hfr2, ?_⟩⟩
      obtain ⟨c1, hc1⟩ := fwd hfr2
      rcases l with ⟨k', _⟩ | ⟨_, c3, e', z⟩
      · have k' : X.env.scope.names.lookup x = some .local := k'
        rcases hX with q | q <;> (rw [show X.env.scope.names.lookup x = _ from q] at k'; cases k')
      · have := back hc1
        rw [e'] at this
        cases this
        obtain ⟨ob, ho2, hd2⟩ := z
        exact ⟨_, hc1, ob, kp _ _ ho2, hd2⟩
  · obtain ⟨v, ob, ho2, hd2⟩ := I.cell y c (back e)
    exact ⟨v, ob, kp _ _ ho2, hd2⟩
  · show (stG src σ).length = Ng.length
    rw [stG_length, S.len]
/-- the table of generators written -/
theorem inv_gen {g : Nat} {x : GenState} (I : Inv X pins σ H s) (hx : x.bare = true) : Inv X pins σ H (s.setGen g x) :=
  ⟨I.ok, I.os, allBare_setGen I.bare hx, I.base, I.loc, I.cell, I.free, I.freeC, I.pin, I.hok, I.len⟩
/-- one more object is pinned -/
theorem inv_pin {a : Addr} {o : Obj} (I : Inv X pins σ H s) (ha : s.heap.get? a = some o) (hn : H a = none) (hL : a ≠ X.env.locals) (hf : a ∉ X.fs) (hd : ∀ v, o.data ≠ .cell v) : Inv X ((a, o) :: pins) σ H s :=
  I.pins_of fun p hp => by
    rcases List.mem_cons.mp hp with e | e
    · rw [e]; exact ⟨ha, hn, hL, hf, hd⟩
    · exact I.pin p (List.mem_append_right _ e)
end

/-! ### the generator's own run -/
/-- ahead of turn i -/
def GSt (X : Cx) (ip : List (Addr × Obj)) (fp : List Addr) (tn : Nat → Heap → Prop) (W : L2.St → Hp → Prop) (i : Nat) (s : Shared) : Prop :=
  ∃ σ H, Inv X ip σ H s ∧ tn i s.heap ∧ (∀ b ∈ fp, H b = none) ∧ W σ H
/-- what stands where it hands out y at turn i; m: the measure there -/
def GPr (X : Cx) (ip : List (Addr × Obj)) (fp : List Addr) (tn : Nat → Heap → Prop) (W : Nat → Nat → L2.St → Hp → Prop) (Z : (L2.St → Hp → Prop) → V → L2.St → Hp → Prop) : Protocol := fun k s₀ v s kap =>
  ∃ y σ H i m, RelV y v ∧ m ≤ k ∧ Inv X ip σ H s ∧ tn (i + 1) s.heap ∧ (∀ b ∈ fp, H b = none) ∧ Z (fun σ' H' => ∃ m', m' < m ∧ W (i + 1) m' σ' H') y σ H ∧
    ∀ s'' m', m' < m → GSt X ip fp tn (W (i + 1) m') (i + 1) s'' → kap (.send .none) s''
def GFin (X : Cx) (ip : List (Addr × Obj)) (Fin : L2.St → Hp → Prop) (_ : Nat) (_ s : Shared) : Prop := ∃ σ H, Inv X ip σ H s ∧ Fin σ H
abbrev GEnd (X : Cx) (ip : List (Addr × Obj)) (Fin : L2.St → Hp → Prop) : GenEnd := fun n s₀ r s => r = .ok .next ∧ GFin X ip Fin n s₀ s
/-- the turns, as they are asked -/
def GTurn (J : It) (g : TG) (tt : TT) (te : TE) (W : Nat → Nat → L2.St → Hp → Prop) (Fin : L2.St → Hp → Prop) (Z : (L2.St → Hp → Prop) → V → L2.St → Hp → Prop) : Prop :=
  (∀ N N' : L2.St → Hp → Prop, (∀ σ H, N σ H → N' σ H) → ∀ y σ H, Z N y σ H → Z N' y σ H) ∧ ∀ i m σ H, W i m σ H → (J.stop i H ∧ Fin σ H) ∨ (J.go i H ∧ ∃ N : L2.St → Hp → Prop, (∀ σ' H', N σ' H' → ∃ m', m' < m ∧ W (i + 1) m' σ' H') ∧
    ∀ x H', J.yld i H x H' → g x σ H' fun σ2 H2 => tt σ2 H2 fun ok H3 => if ok = true then te σ2 H3 fun y H4 => Z N y σ2 H4 else N σ2 H3)
section
variable {X : Cx} {A : Around} {elt tg iter : Expr} {ifs : List Expr} {scope : Scope} {pos : Pos} {it : Addr} {fp : List Addr} {tn : Nat → Heap → Prop} {J : It} {ip : List (Addr × Obj)} {g : TG} {tt : TT} {te : TE}
  {W : Nat → Nat → L2.St → Hp → Prop} {Fin : L2.St → Hp → Prop} {Z : (L2.St → Hp → Prop) → V → L2.St → Hp → Prop}
theorem seg_turns (hc : X.calm = true) (hx : X.xe = fun _ _ => False) (hA : A.over (.compLoop (.GeneratorExp elt [⟨tg, iter, ifs, 0⟩] scope pos) 0 (.ref it) .none X.env) [] = X.A) (hex : X.ex = fp)
    (T : Turn X.prog X.w X.K tg J fp it tn) (hip : ∀ p ∈ X.pn ++ ip, ∀ b ∈ fp, p.1 ≠ b) (pg : PG X tg g) (pt : PTs X ifs tt) (pe : PE X elt te) (hco : X.env.scope.isCoroutine = false) (turn : GTurn J g tt te W Fin Z) :
    ∀ (m n i : Nat) (s₀ s : Shared), m < n → GSt X ip fp tn (W i m) i s →
      Seg (model X.prog X.w) A (GEnd X ip Fin) (GPr X ip fp tn W Z) n s₀ (.compLoop (.GeneratorExp elt [⟨tg, iter, ifs, 0⟩] scope pos) 0 (.ref it) .none X.env)
        ((model X.prog X.w).den (.compLoop (.GeneratorExp elt [⟨tg, iter, ifs, 0⟩] scope pos) 0 (.ref it) .none X.env)) [] s := by
  have noX : ∀ {α : Type} {t : Sem α} {Q : α → Shared → Prop} {E : Value → Shared → Prop} {s : Shared}, wpAny (model X.prog X.w) X.A t Q X.xe s → wpAny (model X.prog X.w) X.A t Q E s := fun {α t Q E s} h => by
    rw [hx] at h
    exact wpAny_mono h (fun _ _ q => q) fun _ _ z => z.elim
  intro m
  induction m using Nat.strongRecOn with
  | ind m ih =>
    intro n i s₀ s hmn hst
    obtain ⟨σ, H, I, st, nf, w⟩ := hst
    have stat : ∀ {σ' : L2.St} {H' : Hp} {s' : Shared}, Inv X ip σ' H' s' → (∀ b ∈ fp, H' b = none) → ∀ b ∈ fp, FpOk X ip H' b := fun {σ' H' s'} I' hn b hb =>
      ⟨hn b hb, (I'.ok.exf b (by rw [hex]; exact hb)).1, I'.ok.exfs b (by rw [hex]; exact hb), .inl (by rw [hex]; exact hb), fun x c e => (I'.ok.exf b (by rw [hex]; exact hb)).2 x c e, fun p hp => hip p hp b hb⟩
    show Seg _ A _ _ _ s₀ _ ((compTurn (.GeneratorExp elt [⟨tg, iter, ifs, 0⟩] scope pos) 0 (.ref it) .none X.env).onRaise (leaving X.env)) [] s
    rw [compTurn_gen, Sem.onRaise_eq_wrap]
    refine seg_bind_wrap (wpAny_standAt ?_)
    rcases turn.2 i m σ H w with ⟨stop, fin⟩ | ⟨go, N, hN, step⟩
    · refine seg_bind_wrap ?_
      rw [hA]
      refine wpAny_mono (T.done X rfl rfl rfl hc i ip s σ H (fun _ _ => False) I (stat I nf) st stop) (fun r s1 hr => ?_) fun _ _ z => z.elim
      obtain ⟨er, I1⟩ := hr
      subst er
      exact seg_end (.ok .next) ⟨rfl, σ, H, I1, fin⟩
    · refine seg_bind_wrap ?_
      rw [hA]
      refine wpAny_mono (T.item X rfl rfl rfl hc i ip s σ H (fun _ _ => False) I (stat I nf) st go) (fun r s1 hr => ?_) fun _ _ z => z.elim
      obtain ⟨u, er, h1⟩ := hr
      subst er
      refine seg_bind_wrap ?_
      rw [hA]
      refine wpAny_mono h1 (fun _ s2 h2 => ?_) fun _ _ z => z.elim
      obtain ⟨x, H2, I2, r2, y2, st2, nf2⟩ := h2
      have I2' := I2.pinned (stat I2 nf2) (T.obj _ _ st2)
      refine seg_bind_wrap ?_
      rw [hA]
      refine noX (thn (pg.run _ s2 σ H2 x u _ I2' r2 (step x H2 y2)) fun _ s3 h3 => ?_)
      obtain ⟨σ3, H3, I3, q3⟩ := h3
      refine seg_bind_wrap ?_
      rw [hA]
      refine noX (thn (pt.run _ s3 σ3 H3 _ I3 q3) fun ok s4 h4 => ?_)
      obtain ⟨H4, I4, q4⟩ := h4
      -- back at the turn's end
      have fin : ∀ {s' : Shared} {σ' : L2.St} {H' : Hp}, Inv X (ip ++ pinsAt fp s2.heap) σ' H' s' → Inv X ip σ' H' s' ∧ tn (i + 1) s'.heap ∧ ∀ b ∈ fp, H' b = none := fun {s' σ' H'} I' => by
        have pin' : ∀ b ∈ fp, ∀ o, s2.heap.get? b = some o → s'.heap.get? b = some o ∧ H' b = none := fun b hb o e =>
          let z := I'.pin (b, o) (List.mem_append_right _ (List.mem_append_right _ (mem_pinsAt hb e)))
          ⟨z.1, z.2.1⟩
        refine ⟨I'.unpinned, T.keep _ _ _ st2 fun b hb o e => (pin' b hb o e).1, fun b hb => ?_⟩
        obtain ⟨o, e, _⟩ := T.obj _ _ st2 b hb
        exact (pin' b hb o e).2
      cases ok with
      | false =>
        simp only [Bool.false_eq_true, if_false] at q4 ⊢
        obtain ⟨m', hm, w'⟩ := hN _ _ q4
        obtain ⟨f1, f2, f3⟩ := fin I4
        exact seg_again rfl (ih m' hm n (i + 1) s₀ s4 (by omega) ⟨σ3, H4, f1, f2, f3, w'⟩)
      | true =>
        simp only [if_true] at q4 ⊢
        have hy : ∀ v, yieldOut X.env v = yieldValue v := fun v => by simp only [yieldOut, hco, Bool.false_eq_true, if_false]
        simp only [hy]
        rw [Sem.bind_eq_wrap', Sem.bind_eq_wrap', Sem.wrap_wrap, Sem.wrap_wrap]
        refine seg_wrap ?_
        rw [hA]
        refine noX (thn (pe.run _ s4 σ3 H4 _ I4 q4) fun v s5 h5 => ?_)
        obtain ⟨y, H5, I5, r5, z5⟩ := h5
        obtain ⟨f1, f2, f3⟩ := fin I5
        obtain ⟨k, rfl⟩ : ∃ k, n = k + 1 := ⟨n - 1, by omega⟩
        refine seg_at (seg_yield rfl rfl rfl ⟨y, σ3, H5, i, m, r5, by omega, f1, f2, f3, turn.1 _ _ hN _ _ _ z5, fun s'' m' hm' hst' => ?_⟩)
        exact seg_again rfl (ih m' hm' k (i + 1) s'' s'' (by omega) hst')
theorem seg_begin (hc : X.calm = true) (hx : X.xe = fun _ _ => False) (hA : A.over (.compLoop (.GeneratorExp elt [⟨tg, iter, ifs, 0⟩] scope pos) 0 (.ref it) .none X.env) [] = X.A) (hex : X.ex = fp)
    (T : Turn X.prog X.w X.K tg J fp it tn) (hip : ∀ p ∈ X.pn ++ ip, ∀ b ∈ fp, p.1 ≠ b) (pg : PG X tg g) (pt : PTs X ifs tt) (pe : PE X elt te) (hco : X.env.scope.isCoroutine = false) (turn : GTurn J g tt te W Fin Z)
    {m n : Nat} {s₀ s : Shared} (hmn : m < n) (hst : GSt X ip fp tn (W 0 m) 0 s) :
      Seg (model X.prog X.w) A (GEnd X ip Fin) (GPr X ip fp tn W Z) n s₀ (.compStart (.GeneratorExp elt [⟨tg, iter, ifs, 0⟩] scope pos) 0 (.ref it) .none X.env)
        ((model X.prog X.w).den (.compStart (.GeneratorExp elt [⟨tg, iter, ifs, 0⟩] scope pos) 0 (.ref it) .none X.env)) [] s := by
  have loop := seg_turns hc hx hA hex T hip pg pt pe hco turn m n 0 s₀ s hmn hst
  obtain ⟨σ, H, I, st, nf, w⟩ := hst
  show Seg _ A _ _ _ s₀ _ ((compStart (.GeneratorExp elt [⟨tg, iter, ifs, 0⟩] scope pos) 0 (.ref it) .none X.env).onRaise (leaving X.env)) [] s
  unfold compStart
  rw [Sem.onRaise_eq_wrap]
  show Seg _ A _ _ _ s₀ _ ((ask >>= _).wrap _ _ _ _) [] s
  refine seg_bind_wrap (wpAny_askSetting ?_)
  split
  · exact seg_again rfl loop
  · refine seg_bind_wrap (wpAny_rule ?_)
    first
      | exact seg_bind_wrap (wpAny_standAt (seg_bind_wrap (T.self _ 0 s _ _ st (seg_again rfl loop))))
      | (show Seg _ A _ _ _ s₀ _ ((standAt iter.pos >>= _).wrap _ _ _ _) [] s; exact seg_bind_wrap (wpAny_standAt (seg_bind_wrap (T.self _ 0 s _ _ st (seg_again rfl loop)))))
end

/-! ### the consumers -/
/-- of all: at an item that is False it ends -/
def ZAll (Qf : Hp → Prop) : (L2.St → Hp → Prop) → V → L2.St → Hp → Prop := fun More y σ H => ∃ b, y = .bl b ∧ if b = true then More σ H else Qf H
/-- of any -/
def ZAny (Qt : Hp → Prop) : (L2.St → Hp → Prop) → V → L2.St → Hp → Prop := fun More y σ H => ∃ b, y = .bl b ∧ if b = true then Qt H else More σ H
section
variable {X : Cx} {ip : List (Addr × Obj)} {fp : List Addr} {tn : Nat → Heap → Prop} {W : Nat → Nat → L2.St → Hp → Prop} {Fin : L2.St → Hp → Prop} {Qf : Hp → Prop} {B : Around} {a : Addr} {g : Nat} {R : Result → Shared → Prop}
theorem all_loop (hh : B.handled = none) (hroom : B.depth < recursionLimit) (hgen : ∀ s σ H, Inv X ip σ H s → s.heap.IsGen a g)
    (hT : ∀ s σ H, Inv X ip σ H s → Fin σ H → R (.ok (.ret (.bool true))) s) (hF : ∀ s σ H, Inv X ip σ H s → Qf H → R (.ok (.ret (.bool false))) s) :
    ∀ (n : Nat) (W' : L2.St → Hp → Prop) (i : Nat) (s : Shared) (gs : GenState), g + 1 ≤ s.gens.size → s.gens[g]? = some gs →
      (∀ s'', GSt X ip fp tn W' i s'' → gs.Goes (model X.prog X.w) B.in1.in1 (GEnd X ip Fin) (GPr X ip fp tn W (ZAll Qf)) n (.send .none) s'') → GSt X ip fp tn W' i s →
      codeAny (model X.prog X.w) B (.builtin "all.loop" ⟨[.ref a], []⟩) R s := by
  intro n
  induction n with
  | zero =>
    intro W' i s gs hsz hgs hgo hst
    have go := hgo (s.setGen g .running) (by obtain ⟨σ, H, I, r⟩ := hst; exact ⟨σ, H, inv_gen I rfl, r⟩)
    obtain ⟨σ, H, I, st⟩ := hst
    refine codeAny_builtin F.entry_all_loop ?_
    rw [Around.under_plainId F.plain_all_loop _]
    show wpAny _ B.in1 (pyNext (.ref a) >>= _) _ _ s
    refine wpAny_bind (wpAny_gsz hsz (wpAny_pyNext_genexpQ (A := B.in1) (P := GFin X ip Fin) hh I.nolimit hroom (hgen s σ H I) hgs go (fun v s₁ gs' hb hv => ?_) (fun s₁ hp h' hk => ?_)))
    · obtain ⟨y, σ', H', i', m', rv, hm, I', st', nf', hz, kap⟩ := hv
      obtain ⟨b, ey, hz⟩ := hz
      subst ey
      obtain rfl : v = Value.bool b := rv
      intro hs'
      refine wpAny_bind (wpAny_holding (wpAny_truthy_bool ?_))
      refine wpAny_bind (wpAny_letGo ?_)
      cases b with
      | true =>
        obtain ⟨m2, hm2, _⟩ := hz
        exact absurd hm2 (by omega)
      | false =>
        simp only [Bool.false_eq_true, if_false]
        exact wpAny_bind (wpAny_rule (wpAny_pure (hF _ σ' H' (inv_gen I' hb) hz)))
    · obtain ⟨σ', H', I', fin⟩ := hp
      intro hs'
      refine wpAny_bind (wpAny_rule (wpAny_pure ?_))
      exact hT _ σ' H' ((inv_gen (g := g) (x := .finished) I' rfl).kept (t' := s₁.toks) hk) fin
  | succ n ih =>
    intro W' i s gs hsz hgs hgo hst
    have go := hgo (s.setGen g .running) (by obtain ⟨σ, H, I, r⟩ := hst; exact ⟨σ, H, inv_gen I rfl, r⟩)
    obtain ⟨σ, H, I, st⟩ := hst
    refine codeAny_builtin F.entry_all_loop ?_
    rw [Around.under_plainId F.plain_all_loop _]
    show wpAny _ B.in1 (pyNext (.ref a) >>= _) _ _ s
    refine wpAny_bind (wpAny_gsz hsz (wpAny_pyNext_genexpQ (A := B.in1) (P := GFin X ip Fin) hh I.nolimit hroom (hgen s σ H I) hgs go (fun v s₁ gs' hb hv => ?_) (fun s₁ hp h' hk => ?_)))
    · obtain ⟨y, σ', H', i', m', rv, hm, I', st', nf', hz, kap⟩ := hv
      obtain ⟨b, ey, hz⟩ := hz
      subst ey
      obtain rfl : v = Value.bool b := rv
      intro hs'
      refine wpAny_bind (wpAny_holding (wpAny_truthy_bool ?_))
      refine wpAny_bind (wpAny_letGo ?_)
      cases b with
      | true =>
        obtain ⟨m2, hm2, w2⟩ := hz
        simp only [if_true]
        refine wpAny_pure ⟨plainId_quiet F.plain_all_loop _, ih (W (i' + 1) m2) (i' + 1) _ gs' hs' ?_ (fun s'' hst2 => kap s'' m2 hm2 hst2) ⟨σ', H', inv_gen I' hb, st', nf', w2⟩⟩
        rw [setGen_size] at hs'
        simp only [Shared.setGen]
        rw [Array.getElem?_setIfInBounds_self_of_lt (by omega)]
      | false =>
        simp only [Bool.false_eq_true, if_false]
        exact wpAny_bind (wpAny_rule (wpAny_pure (hF _ σ' H' (inv_gen I' hb) hz)))
    · obtain ⟨σ', H', I', fin⟩ := hp
      intro hs'
      refine wpAny_bind (wpAny_rule (wpAny_pure ?_))
      exact hT _ σ' H' ((inv_gen (g := g) (x := .finished) I' rfl).kept (t' := s₁.toks) hk) fin
end

/-! ### the expression is made -/
/-- the generator's object -/
abbrev gObj (g : Nat) (q : Str) (t1 t2 : Tok) : Obj := { cls := .type "generator", data := .fields #[.int g 0, .str "<genexpr>" t1, .str q t2] }
/-- made, not begun: s4, H2 in the def's context; the generator stands at a -/
structure Made (X : Cx) (pins : List (Addr × Obj)) (σ : L2.St) (Ng : List Str) (src : List (Option Nat)) (elt tg iter : Expr) (ifs : List Expr) (scope : Scope) (gpos : Pos) (J : It) (H2 : Hp) (s4 s5 : Shared) (a : Addr) (code : Value) (it : Addr) (fp : List Addr) (tn : Nat → Heap → Prop) (go : Obj) : Prop where
  inv : Inv X pins σ H2 s4
  turn : Turn X.prog X.w X.K tg J fp it tn
  fpk : ∀ b ∈ fp, FpOk X pins H2 b
  ne : ∀ b ∈ fp, a ≠ b
  gen : ∃ t1 t2, go = gObj s4.gens.size (X.env.qual ++ "<genexpr>") t1 t2
  inG : ∀ A : Around, A.handled = none → A.frames = some (gEnv X scope s4.heap.objs.size code :: X.stack) → Inv (gCx X Ng A (gEnv X scope s4.heap.objs.size code) s4 H2 fp) [(a, go)] (stG src σ) H2 s5
  at0 : tn 0 s5.heap
  gs : s5.gens[s4.gens.size]? = some (.fresh (.compStart (.GeneratorExp elt [⟨tg, iter, ifs, 0⟩] scope gpos) 0 (.ref it) .none (gEnv X scope s4.heap.objs.size code)))
  sz : s4.gens.size + 1 ≤ s5.gens.size
theorem gObj_isGen {h : Heap} {a : Addr} {g : Nat} {q : Str} {t1 t2 : Tok} (e : h.get? a = some (gObj g q t1 t2)) : h.IsGen a g := ⟨_, _, _, e, rfl, rfl, rfl⟩
section
variable {X : Cx} {pins : List (Addr × Obj)} {σ : L2.St} {H : Hp} {s : Shared}
theorem gen_make {T : List (Addr × Str)} {c P : Addr} {k : Nat} {Ng : List Str} {src : List (Option Nat)} {elt tg iter : Expr} {ifs : List Expr} {scope : Scope} {gpos : Pos} {wi : TI} {R : It → Hp → Prop} {Q : Value → Shared → Prop}
    (hr : Room k X.A) (TB : LamX.TabB X.base X.mg c P) (hcode : X.env.code = .ref c) (hmT : (P, X.env.qual ++ "<genexpr>") ∈ T) (hu : ∀ p ∈ T, p.1 = P → p.2 = X.env.qual ++ "<genexpr>")
    (S : GSc X.N X.env.scope Ng src scope) (hi : PI X tg iter wi) (hs : ∀ v, genFold iter X.env v = pure v) (I : Inv X pins σ H s)
    (h : wi σ H fun J H1 => LamX.Tabs T H1 ∧ ∀ H2, LamX.ExtN H1 H2 → LamX.Tabs T H2 → R J H2)
    (hQ : ∀ J H2 s4 s5 a code it fp tn go, R J H2 → Made X pins σ Ng src elt tg iter ifs scope gpos J H2 s4 s5 a code it fp tn go → Q (.ref a) s5) :
    wpAny (model X.prog X.w) X.A (eval (.GeneratorExp elt [⟨tg, iter, ifs, 0⟩] scope gpos) X.env) Q X.xe s := by
  have hfree : ∀ y ∈ scope.names, y.2 = .free → ∃ c, X.env.cells.lookup y.1 = some c := fun y hy e => by
    rcases S.free y hy e with q | q
    · exact I.ok.has _ (.inl q)
    · exact I.ok.has _ (.inr q)
  refine wpAny_GeneratorExp_make S.co (closure_ok hfree) S.cell S.dot S.kind (by have := hr.dp; omega) ?_ hs
  refine thn (hi.run pins s σ H _ I h) fun xv s1 hx => thn hx fun itv s2 h2 => ?_
  obtain ⟨it, fp, tn, J, H1, e, I1, Tn, st, fk, tabs, hR⟩ := h2
  subst e
  obtain ⟨ps, hP, htr, ha⟩ := tabs _ hmT
  have hPs : s2.heap.get? P = some { cls := .none, data := .fields ps } := I1.hok P _ hP
  have cd : PySem.W.CodeHd s2.heap c P := TB.code.keeps I1.bk
  refine ⟨I1.nolimit, ?_⟩
  have nP : ∀ b ∈ fp, b ≠ P := fun b hb => ne_of_none' (fk b hb).1 hP
  -- once the code object is there
  have cont : ∀ (code : Value) (H2 : Hp) (s3 : Shared), Inv X pins σ H2 s3 → LamX.ExtN H1 H2 → LamX.Tabs T H2 → (∀ b ∈ fp, H2 b = none) → (∀ b ∈ fp, ∀ o, s2.heap.get? b = some o → s3.heap.get? b = some o) →
      wpAny (model X.prog X.w) X.A (builtinsFor X.env.globals X.env.builtins) (fun bi s₄ => ∀ h', h'.Ns s₄.heap.objs.size (fun y => if y = ".0" then some (.ref it) else none) → Heap.SameBut s₄.heap.objs.size (s₄.heap.push { cls := .type "frame", data := .dict #[] }) h' →
          Q (.ref h'.objs.size) { s₄ with
            gens := s₄.gens.push (.fresh (.compStart (.GeneratorExp elt [⟨tg, iter, ifs, 0⟩] scope gpos) 0 (.ref it) .none (genEnv scope (cloFrom X.env.cells scope.names []) s₄.heap.objs.size code bi X.env)))
            toks := s₄.toks + 1 + 1 + 1
            heap := h'.push (gObj s₄.gens.size (X.env.qual ++ "<genexpr>") (s₄.toks + 1) (s₄.toks + 1 + 1)) }) X.xe s3 := by
    intro code H2 s3 I3 eN T3 nf kf
    obtain ⟨bm, ob, b1, b2, _, b4, b5, b6, b7, b8⟩ := TB.bm.keeps I3.bk
    refine wpAny_builtinsFor (m := X.mg) (by rw [I3.ok.glob]; exact I3.mod.glob.keeps I3.bk) b1 b2 b5 b6 b7 b8 fun h' hn hsb => ?_
    have kp : ∀ b o, s3.heap.get? b = some o → h'.get? b = some o := fun b o e => hsb.extBut b o (Nat.ne_of_lt (Heap.lt_size e)) (Heap.get?_push_of_some _ e)
    have hsz : h'.objs.size = s3.heap.objs.size + 1 := by rw [hsb.1, Heap.size_push]
    have kp5 : ∀ b o, s3.heap.get? b = some o → (h'.push (gObj s3.gens.size (X.env.qual ++ "<genexpr>") (s3.toks + 1) (s3.toks + 1 + 1))).get? b = some o := fun b o e => Heap.get?_push_of_some _ (kp b o e)
    have lt3 : ∀ b ∈ fp, b < s3.heap.objs.size := fun b hb => by
      obtain ⟨o, e, _⟩ := Tn.obj _ _ st b hb
      exact Heap.lt_size (kf b hb o e)
    have hlt : s3.heap.objs.size ≤ h'.objs.size := by omega
    refine hQ J H2 s3 _ h'.objs.size code it fp tn (gObj s3.gens.size (X.env.qual ++ "<genexpr>") (s3.toks + 1) (s3.toks + 1 + 1)) (hR H2 eN T3) ⟨I3, Tn, fun b hb => ⟨nf b hb, (fk b hb).2⟩, fun b hb z => ?_, ⟨s3.toks + 1, s3.toks + 1 + 1, rfl⟩, fun A hA hfr => ?_, ?_, ?_, ?_⟩
    · have q := lt3 b hb
      rw [← z] at q
      exact absurd q (Nat.not_lt.mpr hlt)
    · have J0 := g_start (g' := s3.gens.push (.fresh (.compStart (.GeneratorExp elt [⟨tg, iter, ifs, 0⟩] scope gpos) 0 (.ref it) .none (gEnv X scope s3.heap.objs.size code)))) (tk := s3.toks + 1 + 1 + 1) I3 S (fun b hb => ⟨nf b hb, (fk b hb).2⟩) lt3 hA hfr (hn.push (gObj s3.gens.size (X.env.qual ++ "<genexpr>") (s3.toks + 1) (s3.toks + 1 + 1))) kp5 (I3.bare.push rfl)
      refine inv_pin J0 (Heap.get?_push_size _ rfl) (I3.hok.fresh hlt) (show h'.objs.size ≠ s3.heap.objs.size by omega) (fun z => ?_) fun v z => by cases z
      have z : h'.objs.size ∈ frs X.stack := z
      rcases List.mem_cons.mp (I3.stkSub _ z) with q | q
      · have q2 := I3.lt
        rw [← q] at q2
        exact absurd q2 (Nat.not_lt.mpr hlt)
      · exact I3.nofs hlt q
    · exact Tn.keep _ _ _ st fun b hb o e => kp5 b o (kf b hb o e)
    · show (s3.gens.push _)[s3.gens.size]? = _
      rw [Array.getElem?_push_size]
    · show s3.gens.size + 1 ≤ (s3.gens.push _).size
      rw [Array.size_push]
      exact Nat.le_refl _
  cases hf : codeAmong gpos ps.toList with
  | some cv =>
    refine wpAny_genexprCode_hit hcode (cd.code hPs htr) hf ?_
    exact cont cv H1 s2 I1 (LamX.ExtN.refl _) tabs (fun b hb => (fk b hb).1) fun _ _ _ e => e
  | none =>
    refine wpAny_genexprCodeX hcode (cd.code hPs htr) (cd.tab hPs) hf fun c' h' tk hx hge hclt _ hrec htab _ => ?_
    obtain ⟨c2, oc, vs, t, e2, hoc, hd, hv⟩ := hrec
    cases e2
    have I3 := LamX.inv_table (t' := tk) (more := #[rawInt gpos.line, rawInt gpos.col, .ref c']) (h' := h') I1 hP hx htab.2 hge ⟨oc, vs, t, hoc, hd, hv⟩
    have nC : H1 c' = none := I1.hok.fresh hge
    have hE : LamX.ExtN H1 (upd (upd H1 P (.tbl (ps ++ #[rawInt gpos.line, rawInt gpos.col, .ref c']))) c' (LamX.CodeO c' (X.env.qual ++ "<genexpr>"))) := fun b o e n => by
      rw [upd_ne (ne_of_none e nC), upd_ne (fun z => n ps (Option.some.inj (e.symm.trans (by rw [z]; exact hP))))]
      exact e
    have eL : (ps ++ #[rawInt gpos.line, rawInt gpos.col, Value.ref c']).toList = ps.toList ++ [rawInt gpos.line, rawInt gpos.col, .ref c'] := by simp
    refine cont (.ref c') _ _ I3 hE (fun p hp => ?_) (fun b hb => ?_) fun b hb o e => hx b o (nP b hb) e
    · by_cases hb : p.1 = P
      · rw [hu p hp hb, hb]
        refine ⟨_, by rw [upd_ne (ne_of_none hP nC), upd_same], by rw [eL]; exact PySem.TriplesOk_snoc _ _ _ _ htr, fun p' cv hcv => ?_⟩
        rw [eL] at hcv
        rcases LamX.among_app _ htr hcv with z | z
        · obtain ⟨c0, e1, e2⟩ := ha p' cv z
          exact ⟨c0, e1, hE _ _ e2 LamX.codeO_ne⟩
        · exact ⟨c', z, upd_same⟩
      · obtain ⟨ps', a1, a2, a3⟩ := tabs p hp
        refine ⟨ps', by rw [upd_ne (ne_of_none a1 nC), upd_ne hb]; exact a1, a2, fun p' cv hcv => ?_⟩
        obtain ⟨c0, e1, e2⟩ := a3 p' cv hcv
        exact ⟨c0, e1, hE _ _ e2 LamX.codeO_ne⟩
    · obtain ⟨o, e, _⟩ := Tn.obj _ _ st b hb
      rw [upd_ne (Nat.ne_of_lt (Nat.lt_of_lt_of_le (Heap.lt_size e) hge)), upd_ne (nP b hb)]
      exact (fk b hb).1
/-- the around of the expression's parts -/
abbrev gA (X : Cx) (elt tg iter : Expr) (ifs : List Expr) (scope : Scope) (gpos : Pos) (it : Addr) (env : Env) : Around := X.A.in1.in1.over (.compLoop (.GeneratorExp elt [⟨tg, iter, ifs, 0⟩] scope gpos) 0 (.ref it) .none env) []
def tAllG (T : List (Addr × Str)) (src : List (Option Nat)) (wi : TI) (g : TG) (tt : TT) (te : TE) : TE := fun σ H Q => wi σ H fun J H1 => LamX.Tabs T H1 ∧ ∀ H2, LamX.ExtN H1 H2 → LamX.Tabs T H2 →
  ∃ W, (∃ m, W 0 m (stG src σ) H2) ∧ GTurn J g tt te W (fun _ H' => Q (.bl true) H') (ZAll fun H' => Q (.bl false) H')
/-- all(elt for tg in iter if ..) -/
theorem pe_allG {T : List (Addr × Str)} {c P : Addr} {k : Nat} {Ng : List Str} {src : List (Option Nat)} {elt tg iter : Expr} {ifs : List Expr} {scope : Scope} {p pos gpos : Pos} {wi : TI} {g : TG} {tt : TT} {te : TE}
    (hr : Room (k + 1) X.A) (hg : Gl X "all") (hm : X.mg "all" = none) (TB : LamX.TabB X.base X.mg c P) (hcode : X.env.code = .ref c) (hmT : (P, X.env.qual ++ "<genexpr>") ∈ T) (hu : ∀ p ∈ T, p.1 = P → p.2 = X.env.qual ++ "<genexpr>")
    (S : GSc X.N X.env.scope Ng src scope) (hi : PI X tg iter wi)
    (pg : ∀ (A : Around) (C : Addr) (code : Value) (s : Shared) (H : Hp) (fp : List Addr), Room k A → PG (gCx X Ng A (gEnv X scope C code) s H fp) tg g)
    (pt : ∀ (A : Around) (C : Addr) (code : Value) (s : Shared) (H : Hp) (fp : List Addr), Room k A → PTs (gCx X Ng A (gEnv X scope C code) s H fp) ifs tt)
    (pe : ∀ (A : Around) (C : Addr) (code : Value) (s : Shared) (H : Hp) (fp : List Addr), Room k A → PE (gCx X Ng A (gEnv X scope C code) s H fp) elt te)
    (hb : bootBuiltins "all" = some (.builtin "all") := by decide +kernel) (hs : ∀ v, genFold iter X.env v = pure v := by intro _; rfl)
    (he : starEach [.GeneratorExp elt [⟨tg, iter, ifs, 0⟩] scope gpos] X.env = (false, eval (.GeneratorExp elt [⟨tg, iter, ifs, 0⟩] scope gpos) X.env) :: starEach [] X.env := by rfl) :
    PE X (.Call (.Name "all" p) [.GeneratorExp elt [⟨tg, iter, ifs, 0⟩] scope gpos] [] pos) (tAllG T src wi g tt te) := by
  refine ⟨fun pins s σ H Q I h => ?_⟩
  refine wpAny_Call_Name_kw (ld_blt I hg hm hb ?_)
  refine PyProof.Rows.callWith_builtin1 ?_ he (by rfl)
  rw [he]
  show wpAny _ _ (spliced ((false, eval (.GeneratorExp elt [⟨tg, iter, ifs, 0⟩] scope gpos) X.env) :: backTo pos (starEach [] X.env))) _ _ s
  refine Calls.spliced_cons (gen_make (Ng := Ng) (src := src) (hr.mono (Nat.le_succ k)) TB hcode hmT hu S hi hs I h fun J H2 s4 s5 a code it fp tn go hR M => ?_)
  obtain ⟨W, ⟨m, w0⟩, turn⟩ := hR
  refine Calls.spliced_nil ?_
  obtain ⟨t1, t2, ego⟩ := M.gen
  have hfr : (gA X elt tg iter ifs scope gpos it (gEnv X scope s4.heap.objs.size code)).frames = some (gEnv X scope s4.heap.objs.size code :: X.stack) := by
    show pushEnvs [gEnv X scope s4.heap.objs.size code] X.A.frames = _
    rw [M.inv.ok.frames]
    rfl
  have hrA : Room k (gA X elt tg iter ifs scope gpos it (gEnv X scope s4.heap.objs.size code)) := by
    refine ⟨hr.hd, ?_, ?_⟩
    · have := hr.dp
      show X.A.depth + 1 + 3 * k + 5 < _
      omega
    · have := hr.un
      show X.A.units + 1 + 1 + 3 + 16 * k + 200 < _
      omega
  have IG := M.inG (gA X elt tg iter ifs scope gpos it (gEnv X scope s4.heap.objs.size code)) hr.hd hfr
  have isG : ∀ s' σ' H', Inv (gCx X Ng (gA X elt tg iter ifs scope gpos it (gEnv X scope s4.heap.objs.size code)) (gEnv X scope s4.heap.objs.size code) s4 H2 fp) [(a, go)] σ' H' s' → s'.heap.IsGen a s4.gens.size := fun s' σ' H' I' => by
    have e := (I'.pin (a, go) (List.mem_append_right _ (List.mem_singleton.mpr rfl))).1
    rw [ego] at e
    exact gObj_isGen e
  have back : ∀ (s' : Shared) (σ' : L2.St) (H' : Hp) (b : Bool), Inv (gCx X Ng (gA X elt tg iter ifs scope gpos it (gEnv X scope s4.heap.objs.size code)) (gEnv X scope s4.heap.objs.size code) s4 H2 fp) [(a, go)] σ' H' s' → Q (.bl b) H' → EP X pins σ Q (.bool b) s' := fun s' σ' H' b I' q =>
    ⟨.bl b, H', M.inv.call' (ch := fp) I'.os I'.base I'.hok I'.bare fun x hx => ⟨(M.fpk x hx).2.2.2.1, (M.fpk x hx).2.1, (M.fpk x hx).2.2.2.2.1, (M.fpk x hx).2.2.2.2.2⟩, rfl, q⟩
  refine call_function_tree F.kind_all F.plain_all F.entry_all (F.args_all1 _) ?_
  unfold Builtin.«all»
  refine wpAny_bind (m := oneArg "all" _) (wpAny_pure (wpAny_bind (wpAny_pyIter_gen (isG _ _ _ IG) (wpAny_pure ⟨plainId_quiet F.plain_all_loop _, ?_⟩))))
  have begun : ∀ s'', GSt (gCx X Ng (gA X elt tg iter ifs scope gpos it (gEnv X scope s4.heap.objs.size code)) (gEnv X scope s4.heap.objs.size code) s4 H2 fp) [(a, go)] fp tn (W 0 m) 0 s'' →
      (GenState.fresh (.compStart (.GeneratorExp elt [⟨tg, iter, ifs, 0⟩] scope gpos) 0 (.ref it) .none (gEnv X scope s4.heap.objs.size code))).Goes (model X.prog X.w) X.A.in1.in1 (GEnd (gCx X Ng (gA X elt tg iter ifs scope gpos it (gEnv X scope s4.heap.objs.size code)) (gEnv X scope s4.heap.objs.size code) s4 H2 fp) [(a, go)] (fun _ H' => Q (.bl true) H')) (GPr (gCx X Ng (gA X elt tg iter ifs scope gpos it (gEnv X scope s4.heap.objs.size code)) (gEnv X scope s4.heap.objs.size code) s4 H2 fp) [(a, go)] fp tn W (ZAll fun H' => Q (.bl false) H')) (m + 1) (.send .none) s'' := fun s'' hst =>
    ⟨rfl, seg_begin (X := gCx X Ng (gA X elt tg iter ifs scope gpos it (gEnv X scope s4.heap.objs.size code)) (gEnv X scope s4.heap.objs.size code) s4 H2 fp) rfl rfl rfl rfl M.turn (fun p hp b hb => by
      have : p = (a, go) := List.mem_singleton.mp (show p ∈ [(a, go)] from hp)
      rw [this]
      exact M.ne b hb) (pg _ _ _ _ _ _ hrA) (pt _ _ _ _ _ _ hrA) (pe _ _ _ _ _ _ hrA) S.co turn (Nat.lt_succ_self m) hst⟩
  exact all_loop (X := gCx X Ng (gA X elt tg iter ifs scope gpos it (gEnv X scope s4.heap.objs.size code)) (gEnv X scope s4.heap.objs.size code) s4 H2 fp) (ip := [(a, go)]) (fp := fp) (tn := tn) (W := W) (Fin := fun _ H' => Q (.bl true) H') (Qf := fun H' => Q (.bl false) H') (g := s4.gens.size)
    hr.hd (by have := hr.dp; omega) isG (fun s' σ' H' I' q => back s' σ' H' true I' q) (fun s' σ' H' I' q => back s' σ' H' false I' q) (m + 1) (W 0 m) 0 s5 _ M.sz M.gs begun ⟨stG src σ, H2, IG, M.at0, fun b hb => (M.fpk b hb).1, w0⟩
end

theorem zall_mono {Qf : Hp → Prop} (N N' : L2.St → Hp → Prop) (h : ∀ σ H, N σ H → N' σ H) (y : V) (σ : L2.St) (H : Hp) (z : ZAll Qf N y σ H) : ZAll Qf N' y σ H := by
  obtain ⟨b, e, q⟩ := z
  refine ⟨b, e, ?_⟩
  cases b with
  | true => exact h _ _ q
  | false => exact q
/-- the turns of all over a walk: Pv by the turn, the slots and the heap -/
theorem all_by {J : It} {n : Nat} {G : Hp → Prop} {Y : Nat → Hp → V → Hp → Prop} (w : Walk J n G Y) {g : TG} {tt : TT} {te : TE} {σ : L2.St} {H : Hp} {Q : VK} (Pv : Nat → L2.St → Hp → Prop) (h0 : Pv 0 σ H) (hG : ∀ i σ H, i ≤ n → Pv i σ H → G H)
    (hs : ∀ i x σ H H', i < n → Pv i σ H → Y i H x H' → g x σ H' fun σ2 H2 => tt σ2 H2 fun ok H3 => if ok = true then te σ2 H3 fun y H4 => ∃ b, y = .bl b ∧ (if b = true then Pv (i + 1) σ2 H4 else Q (.bl false) H4) else Pv (i + 1) σ2 H3)
    (hd : ∀ σ H, Pv n σ H → Q (.bl true) H) : ∃ W : Nat → Nat → L2.St → Hp → Prop, (∃ m, W 0 m σ H) ∧ GTurn J g tt te W (fun _ H' => Q (.bl true) H') (ZAll fun H' => Q (.bl false) H') := by
  refine ⟨fun i m σ H => m = n - i ∧ i ≤ n ∧ Pv i σ H, ⟨n, by simp, Nat.zero_le _, h0⟩, zall_mono, ?_⟩
  rintro i m σ H ⟨rfl, hi, p⟩
  have q := hG i σ H hi p
  by_cases hlt : i < n
  · exact .inr ⟨w.goes i H hlt q, Pv (i + 1), fun σ' H' p' => ⟨n - (i + 1), by omega, rfl, hlt, p'⟩, fun x H' y => hs i x σ H H' hlt p (w.yields i H x H' hlt q y)⟩
  · have e : i = n := by omega
    subst e
    exact .inl ⟨w.stops H q, hd σ H p⟩
/-- .. of a list's items: f their truths -/
theorem all_in {α : Type} {J : It} {xs : List α} {G : Hp → Prop} {Y : Nat → Hp → V → Hp → Prop} (w : Walk J xs.length G Y) {g : TG} {te : TE} {σ : L2.St} {H : Hp} {Q : VK} (f : α → Bool) (Pv : L2.St → Hp → Prop) (h0 : Pv σ H) (hG : ∀ σ H, Pv σ H → G H)
    (hs : ∀ i a x σ H H', xs[i]? = some a → Pv σ H → Y i H x H' → ∀ (R : Bool → L2.St → Hp → Prop), (∀ σ2 H4, Pv σ2 H4 → R (f a) σ2 H4) → g x σ H' fun σ2 H2 => te σ2 H2 fun y H4 => ∃ b, y = .bl b ∧ R b σ2 H4)
    (hd : ∀ σ H, Pv σ H → Q (.bl (xs.all f)) H) : ∃ W : Nat → Nat → L2.St → Hp → Prop, (∃ m, W 0 m σ H) ∧ GTurn J g tYes te W (fun _ H' => Q (.bl true) H') (ZAll fun H' => Q (.bl false) H') := by
  refine all_by w (fun i σ H => Pv σ H ∧ ∀ a ∈ xs.take i, f a = true) ⟨h0, fun a ha => by simp at ha⟩ (fun i σ H _ p => hG σ H p.1) (fun i x σ H H' hi p y => ?_) fun σ H p => ?_
  · have ei : xs[i]? = some xs[i] := List.getElem?_eq_getElem hi
    refine hs i xs[i] x σ H H' ei p.1 y (fun b σ2 H4 => if b = true then Pv σ2 H4 ∧ ∀ a ∈ xs.take (i + 1), f a = true else Q (.bl false) H4) fun σ2 H4 p4 => ?_
    cases e : f xs[i] with
    | true =>
      refine ⟨p4, fun a ha => ?_⟩
      rw [List.take_add_one, ei] at ha
      rcases List.mem_append.mp ha with q | q
      · exact p.2 a q
      · rw [List.mem_singleton.mp q]; exact e
    | false =>
      have q := hd _ _ p4
      have e2 : xs.all f = false := by
        rw [List.all_eq_false]
        exact ⟨xs[i], List.getElem_mem hi, by rw [e]; simp⟩
      rw [e2] at q
      exact q
  · have e : xs.all f = true := by
      rw [List.all_eq_true]
      intro a ha
      refine p.2 a ?_
      rw [List.take_length]
      exact ha
    have q := hd _ _ p.1
    rw [e] at q
    exact q
end Gx

set_option Elab.async false
set_option linter.all false
set_option maxRecDepth 100000
set_option maxHeartbeats 4000000
namespace Bk
open PySem PySem.Spec PyProof.Rows L2
/-! ### a def of the top by its name -/
section
variable (P : Program) (w : World) (K : PySem.W.Frag) (mg : Str → Option Value) (base : Heap)
/-- the def of this name keeps the promise sp -/
def Has (CX : CXT) (k : Nat) (x : Str) (ps : List Str) (sp : Sp) : Prop :=
  ∃ fd, Binds K fd ps [] ∧ PySem.W.keepIn K (.ref (He.ga K x)) = true ∧ mg x = some (.ref (He.ga K x)) ∧ FnOk P w K mg base CX k (He.ga K x) fd ps sp ∧ ∃ oc od osl, K.lookup (He.ga K x) = some ⟨oc, od, .func fd, osl⟩
/-- it stands there, as the text has it -/
def At (x : Str) (st : Stmt) : Prop := mg x = some (.ref (He.ga K x)) ∧ ∃ fd, FunD K x x (defArgs st) (defBody st) (defScope st) [] [] (He.ga K x) fd
end
abbrev cdv (K : PySem.W.Frag) (x : Str) : Value := .ref (He.codeOf K (x, none))
section
variable {P : Program} {w : World} {K : PySem.W.Frag} {mg : Str → Option Value} {base : Heap}
theorem At.ok {CX : CXT} {x : Str} {st : Stmt} {N ps : List Str} {k : Nat} {sp : Sp} (F : At K mg x st) (S : FnScope N ps (defScope st))
    (hb : ∀ (kV doc pm : Value) (an : Option Addr) (cd ct : Value) (us : List Value), us.length = ps.length → bindArgs (PySem.W.fnOf x x (defArgs st) (defBody st) (defScope st) .none kV doc pm an cd ct) ⟨us, []⟩ = pure (ps.zip us))
    (len : ∀ vs H Q E, sp vs H Q E → vs.length = ps.length)
    (hbody : ∀ (A : Around) (outer : List Env) (s : Shared) (H : Hp) (vs : List V) (Q : VK) (E : XK), Room k (A.deeper (envOfC x (defScope st) s.heap.objs.size (He.ga K x) (cdv K x))) → sp vs H Q E →
      ∃ t, PSs (cxOf CX P w K mg base N x (defScope st) (He.ga K x) (cdv K x) A outer s H E) (defBody st) t ∧ t { nx := fun _ H' => Q .non H', rt := Q } (start N vs) H) : Has P w K mg base CX (k + 1) x ps sp := by
  obtain ⟨gm, fd, F⟩ := F
  have bn := F.bindsN hb
  have kp := F.kp
  obtain ⟨oc, od, dV, kV, doc, pm, an, cd, ct, osl, rfl, lk, hcd, _, _⟩ := F.ex
  refine ⟨_, bn, kp, gm, ?_, _, _, _, lk⟩
  obtain ⟨c, rfl⟩ := He.codeIn_ref hcd
  have e : He.codeOf K (x, none) = c := He.codeOf_eq (p := (x, none)) lk rfl
  refine fn_of lk hcd S len fun A outer s H vs Q E hr hsp => ?_
  have q := hbody A outer s H vs Q E
  rw [cdv, e] at q
  exact q hr hsp
/-- where nothing is raised -/
theorem At.ok0 {x : Str} {st : Stmt} {N ps : List Str} {k : Nat} {sp : Sp} (F : At K mg x st) (S : FnScope N ps (defScope st))
    (hb : ∀ (kV doc pm : Value) (an : Option Addr) (cd ct : Value) (us : List Value), us.length = ps.length → bindArgs (PySem.W.fnOf x x (defArgs st) (defBody st) (defScope st) .none kV doc pm an cd ct) ⟨us, []⟩ = pure (ps.zip us))
    (len : ∀ vs H Q E, sp vs H Q E → vs.length = ps.length)
    (hbody : ∀ (A : Around) (outer : List Env) (s : Shared) (H : Hp) (vs : List V) (Q : VK) (E : XK), Room k (A.deeper (envOfC x (defScope st) s.heap.objs.size (He.ga K x) (cdv K x))) → sp vs H Q E →
      ∃ t, PSs (cxOf CX0 P w K mg base N x (defScope st) (He.ga K x) (cdv K x) A outer s H E).nox (defBody st) t ∧ t { nx := fun _ H' => Q .non H', rt := Q } (start N vs) H) : Has P w K mg base CX0 (k + 1) x ps sp :=
  F.ok S hb len fun A outer s H vs Q E hr h => let ⟨t, h1, h2⟩ := hbody A outer s H vs Q E hr h; ⟨t, h1.nox, h2⟩
end
section
variable {X : Cx} {CX : CXT} {k : Nat} {x : Str} {ps : List Str} {sp : Sp} {E : XK}
/-- x(e, ..) -/
theorem Has.call {e : Expr} {es : List Expr} {t : TA} {p pos : Pos} (h : Has X.prog X.w X.K X.mg X.base CX k x ps sp) (hr : Room k X.A) (hx : Passes CX X E) (ha : PA X (e :: es) t) (hg : Gl X x := by rfl) (hdb : (x == ("__debug__" : Str)) = false := by decide)
    (he : starEach (e :: es) X.env = (false, eval e X.env) :: starEach es X.env := by rfl) (hpl : (backTo pos (starEach es X.env)).any (·.1) = false := by rfl) : PE X (.Call (.Name x p) (e :: es) [] pos) (tCall sp [] E t) := by
  obtain ⟨fd, b, kp, gm, F, _⟩ := h
  exact pe_call F hr hg gm kp b .nil hx ha hdb he hpl
theorem Has.mono {P : Program} {w : World} {K : PySem.W.Frag} {mg : Str → Option Value} {base : Heap} {j : Nat} (h : Has P w K mg base CX j x ps sp) (hk : j ≤ k) : Has P w K mg base CX k x ps sp := by
  obtain ⟨fd, b, kp, gm, F, lk⟩ := h
  exact ⟨fd, b, kp, gm, F.mono hk, lk⟩
/-- the function object is the one that stands there -/
theorem Has.fn {P : Program} {w : World} {K : PySem.W.Frag} {mg : Str → Option Value} {base : Heap} {fd : FuncData} {q : Str} {pr : Arguments} {bd : List Stmt} {sc : Scope} {dvs : List V} {kws : List (Str × V)} (h : Has P w K mg base CX k x ps sp) (F : FunD K x q pr bd sc dvs kws (He.ga K x) fd) :
    FnOk P w K mg base CX k (He.ga K x) fd ps sp := by
  obtain ⟨fd2, _, _, _, F2, oc, od, osl, lk⟩ := h
  obtain ⟨oc1, od1, dV, kV, doc, pm, an, cd, ct, osl1, _, lk1, _, _, _⟩ := F.ex
  rw [lk] at lk1
  injection lk1 with e
  injection e with e1 e2 e3 e4
  injection e3 with e5
  rw [← e5]
  exact F2
end
/-! ### heaps and tables -/
abbrev Tbs := List (Addr × Str)
/-- H' goes on from H: what stood stands, the tables of code objects may have grown -/
structure Gr (T : Tbs) (H H' : Hp) : Prop where
  ext : LamX.ExtN H H'
  tabs : LamX.Tabs T H'
theorem Gr.refl {T : Tbs} {H : Hp} (h : LamX.Tabs T H) : Gr T H H := ⟨LamX.ExtN.refl H, h⟩
theorem Gr.trans {T : Tbs} {H H1 H2 : Hp} (a : Gr T H H1) (b : Gr T H1 H2) : Gr T H H2 := ⟨a.ext.trans b.ext, b.tabs⟩
theorem Gr.new {T : Tbs} {H : Hp} (h : LamX.Tabs T H) {p : Addr} (hp : H p = none) (o : HO) : Gr T H (upd H p o) := by
  have e : ∀ b u, H b = some u → upd H p o b = some u := fun b u q => by rw [upd_ne (ne_of_none q hp)]; exact q
  exact ⟨LamX.ExtN.of e, h.ext e⟩
theorem Gr.lst {T : Tbs} {H H' : Hp} (g : Gr T H H') {a : Addr} {xs : List V} (h : H a = some (.lst xs)) : H' a = some (.lst xs) := g.ext a _ h (fun _ z => by cases z)
theorem Gr.tup {T : Tbs} {H H' : Hp} (g : Gr T H H') {a : Addr} {xs : List V} (h : H a = some (.tup xs)) : H' a = some (.tup xs) := g.ext a _ h (fun _ z => by cases z)
/-! ### any value, as far as isinstance with str asks -/
/-- a text that is not too long, None, an int, a bool, a list or a tuple -/
def AnyV (_ : PySem.W.Frag) (H : Hp) (x : V) : Prop := (∃ z, x = .str z ∧ z.length ≤ 1000) ∨ x = .non ∨ (∃ i, x = .int i) ∨ (∃ b, x = .bl b) ∨ ∃ a xs, x = .ref a ∧ (H a = some (.lst xs) ∨ H a = some (.tup xs))
theorem AnyV.gr {K : PySem.W.Frag} {T : Tbs} {H H' : Hp} {x : V} (g : Gr T H H') (h : AnyV K H x) : AnyV K H' x := by
  rcases h with h | h | h | h | ⟨a, xs, e, h | h⟩
  · exact .inl h
  · exact .inr (.inl h)
  · exact .inr (.inr (.inl h))
  · exact .inr (.inr (.inr (.inl h)))
  · exact .inr (.inr (.inr (.inr ⟨a, xs, e, .inl (g.lst h)⟩)))
  · exact .inr (.inr (.inr (.inr ⟨a, xs, e, .inr (g.tup h)⟩)))
theorem AnyV.isi {K : PySem.W.Frag} {H : Hp} {x : V} (h : AnyV K H x) : ∃ t b, TyX K H x t ∧ PySem.W.kitOne K t (.type "str") = some b ∧ ((b = true ∧ ∃ z, x = .str z ∧ z.length ≤ 1000) ∨ (b = false ∧ ∀ z, x ≠ .str z)) := by
  rcases h with ⟨z, rfl, hz⟩ | rfl | ⟨i, rfl⟩ | ⟨b, rfl⟩ | ⟨a, xs, rfl, h | h⟩
  · exact ⟨_, true, .base (.str z), kit_ty (by decide +kernel), .inl ⟨rfl, z, rfl, hz⟩⟩
  · exact ⟨_, false, .base .non, kit_ty (by decide +kernel), .inr ⟨rfl, fun z q => by cases q⟩⟩
  · exact ⟨_, false, .base (.int i), kit_ty (by decide +kernel), .inr ⟨rfl, fun z q => by cases q⟩⟩
  · exact ⟨_, false, .base (.bl b), kit_ty (by decide +kernel), .inr ⟨rfl, fun z q => by cases q⟩⟩
  · exact ⟨_, false, .base (.lst h), kit_ty (by decide +kernel), .inr ⟨rfl, fun z q => by cases q⟩⟩
  · exact ⟨_, false, .base (.tup h), kit_ty (by decide +kernel), .inr ⟨rfl, fun z q => by cases q⟩⟩
end Bk

set_option Elab.async false
set_option linter.all false
set_option maxRecDepth 100000
set_option maxHeartbeats 4000000
namespace Bk
open PySem PySem.Spec PyProof.Rows L2
/-! ### a list comprehension over any walk, each item of which makes one; all(..), any(..) of it -/
theorem lx_tabs {T : Tbs} {a : Addr} {H : Hp} {xs ys : List V} (t : LamX.Tabs T H) (h : H a = some (.lst xs)) : LamX.Tabs T (upd H a (.lst ys)) := by
  intro p hp
  obtain ⟨ps, h1, h2, h3⟩ := t p hp
  refine ⟨ps, ?_, h2, fun pos cv hc => ?_⟩
  · rw [upd_ne (fun e => by rw [e, h] at h1; cases h1)]; exact h1
  · obtain ⟨c, e1, e2⟩ := h3 pos cv hc
    refine ⟨c, e1, ?_⟩
    rw [upd_ne (fun e => by rw [e, h] at e2; cases e2)]
    exact e2
/-- a new list of one's own may change -/
theorem Gr.own1 {T : Tbs} {D : Addr} {H H' : Hp} {xs ys : List V} (g : Gr T H H') (hD : H D = none) (e : H' D = some (.lst xs)) : Gr T H (upd H' D (.lst ys)) := by
  refine ⟨fun b o h z => ?_, lx_tabs g.tabs e⟩
  rw [upd_ne (fun q => by rw [q, hD] at h; cases h)]
  exact g.ext b o h z
theorem lx_yes {σ : L2.St} {H : Hp} {A B : Hp → Prop} (h : A H) : tYes σ H fun b H3 => if b = true then A H3 else B H3 := by
  unfold tYes
  show (if true = true then A H else B H)
  rw [if_pos rfl]
  exact h
/-- the i-th item makes f of it; the list itself is not changed by the block -/
theorem lc_gr {T : Tbs} {α : Type} {J : It} {G : Hp → Prop} {Y : Nat → Hp → V → Hp → Prop} {xs : List α} (w : Walk J xs.length G Y) (f : α → V) {g : TG} {tt : TT} {te : TE} {vs : List Nat} {σ : L2.St} {H1 : Hp} {D : Addr} {Qd : Hp → Prop} (tb : LamX.Tabs T H1) (hD : H1 D = none) (hsz : xs.length ≤ sizeLine)
    (hG : ∀ H, Gr T H1 H → G H)
    (hs : ∀ i a x H H', xs[i]? = some a → Gr T H1 H → Y i H x H' → ∀ (Ok : V → Hp → Prop) (No : Hp → Prop), (∀ H4, Gr T H H4 → Ok (f a) H4) → g x (wipe σ vs) H' fun σ2 H2 => wipe σ2 vs = wipe σ vs ∧ tt σ2 H2 fun b H3 => if b = true then te σ2 H3 fun y H4 => Ok y H4 else No H3)
    (hd : ∀ H, Gr T H1 H → H D = some (.lst (xs.map f)) → Qd H) :
    ∃ W : Nat → Nat → Hp → Prop, (∃ m, W 0 m (upd H1 D (.lst []))) ∧ ∀ i m H, W i m H →
      (J.stop i H ∧ Qd H) ∨ (J.go i H ∧ ∃ Nx : Hp → Prop, (∀ H', Nx H' → ∃ m', m' < m ∧ W (i + 1) m' H') ∧ ∀ x H', J.yld i H x H' → g x (wipe σ vs) H' fun σ2 H2 => wipe σ2 vs = wipe σ vs ∧ tt σ2 H2 fun b H3 =>
        if b = true then te σ2 H3 fun y H4 => ∃ acc, H4 D = some (.lst acc) ∧ acc.length < sizeLine ∧ Nx (upd H4 D (.lst (acc ++ [y]))) else Nx H3) := by
  refine lc_it (n := xs.length) w (fun i H => Gr T H1 H ∧ H D = some (.lst ((xs.take i).map f))) ⟨Gr.new tb hD _, by rw [List.take_zero]; exact upd_same⟩ (fun i H _ p => hG H p.1) (fun i x H H' hi p y => ?_) fun H p => hd H p.1 (by rw [p.2, List.take_length])
  obtain ⟨a, ea⟩ : ∃ a, xs[i]? = some a := ⟨xs[i], by simp [hi]⟩
  refine hs i a x H H' ea p.1 y (fun y H4 => ∃ acc, H4 D = some (.lst acc) ∧ acc.length < sizeLine ∧ (Gr T H1 (upd H4 D (.lst (acc ++ [y]))) ∧ (upd H4 D (.lst (acc ++ [y]))) D = some (.lst ((xs.take (i + 1)).map f)))) _ fun H4 g4 => ?_
  have e4 := g4.lst p.2
  refine ⟨_, e4, ?_, (p.1.trans g4).own1 hD e4, ?_⟩
  · rw [List.length_map, List.length_take]
    exact Nat.lt_of_lt_of_le (Nat.lt_of_le_of_lt (Nat.min_le_left _ _) hi) hsz
  · rw [upd_same, List.take_succ, ea, List.map_append]
    rfl
theorem all_bl {α : Type} (xs : List α) (f : α → Bool) : (xs.map f).all id = xs.all f := by
  rw [List.all_map]; rfl
theorem any_bl {α : Type} (xs : List α) (f : α → Bool) : (xs.map f).any id = xs.any f := by
  rw [List.any_map]; rfl
theorem map_bl {α : Type} (xs : List α) (f : α → Bool) : xs.map (fun a => V.bl (f a)) = (xs.map f).map V.bl := by
  rw [List.map_map]; rfl
/-- its end, where all(..) asks it -/
theorem all_end {K : PySem.W.Frag} {α : Type} {xs : List α} {f : α → Bool} {H : Hp} {D : Addr} {Q : VK} (h : H D = some (.lst (xs.map fun a => V.bl (f a)))) (q : Q (.bl (xs.all f)) H) : rAll K [V.ref D] H Q :=
  ⟨D, xs.map f, rfl, SqL.of (by rw [h, map_bl]), by rw [all_bl]; exact q⟩
theorem any_end {K : PySem.W.Frag} {α : Type} {xs : List α} {f : α → Bool} {H : Hp} {D : Addr} {Q : VK} (h : H D = some (.lst (xs.map fun a => V.bl (f a)))) (q : Q (.bl (xs.any f)) H) : rAny K [V.ref D] H Q :=
  ⟨D, xs.map f, rfl, SqL.of (by rw [h, map_bl]), by rw [any_bl]; exact q⟩
end Bk

set_option Elab.async false
set_option linter.all false
set_option maxRecDepth 100000
set_option maxHeartbeats 4000000
namespace Bk
open PySem PySem.Spec PyProof.Rows L2
def top (i : Nat) : Stmt := PySem.Challenge.pw_heardonce_k17_whole_cards_and_their_even.main.body.getD i (.Pass ⟨0, 0, 0, 0⟩)
/-- x's code object tells its table; it is told by T under the name q, there alone -/
structure Tb (K : PySem.W.Frag) (mg : Str → Option Value) (base : Heap) (T : Tbs) (x q : Str) : Prop where
  tb : LamX.TabB base mg (He.codeOf K (x, none)) (He.cT K (x, none)).2
  mem : ((He.cT K (x, none)).2, q) ∈ T
  un : ∀ p ∈ T, p.1 = (He.cT K (x, none)).2 → p.2 = q
/-! ### the mathematics of names -/
abbrev LETTERS : Str := "abcdefghijklmnopqrstuvwxyz"
def letB (c : Nat) : Bool := decide (c ∈ LETTERS.cps.toList)
def nameB (z : Str) : Bool := decide ((1 : Int) ≤ z.length) && (decide ((z.length : Int) ≤ 6) && z.cps.toList.all letB)
def nameV : V → Bool
  | .str z => nameB z
  | _ => false
theorem nameV_not {x : V} (h : ∀ z, x ≠ .str z) : nameV x = false := by
  cases x with
  | str z => exact absurd rfl (h z)
  | _ => rfl
def signB (c : Nat) : Bool := decide (c < 128) && (Unicode.isAlpha c && !(Unicode.isUpper c || Unicode.isTitle c))
theorem sign_few : (List.range 128).all (fun c => (signB c == letB c) && (!letB c || Unicode.isLower c)) = true := by decide +kernel
theorem let_few : LETTERS.cps.toList.all (fun c => decide (c < 128)) = true := by decide +kernel
theorem let_lt {c : Nat} (h : letB c = true) : c < 128 := of_decide_eq_true (List.all_eq_true.mp let_few c (of_decide_eq_true h))
theorem sign_let (c : Nat) : signB c = letB c := by
  by_cases h : c < 128
  · have q := List.all_eq_true.mp sign_few c (List.mem_range.mpr h)
    exact eq_of_beq (Bool.and_eq_true _ _ ▸ q).1
  · have e : letB c = false := by
      cases e : letB c with
      | false => rfl
      | true => exact absurd (let_lt e) h
    rw [e]
    unfold signB
    rw [decide_eq_false h]
    rfl
theorem let_low {c : Nat} (h : letB c = true) : Unicode.isLower c = true := by
  have q := (Bool.and_eq_true _ _ ▸ List.all_eq_true.mp sign_few c (List.mem_range.mpr (let_lt h))).2
  rw [h] at q
  exact q
/-- the three questions of a text that is not empty -/
theorem low_ok {z : Str} (h : 1 ≤ z.length) : (Txt.isascii z && (Txt.isalpha z && Txt.islower z)) = z.cps.toList.all letB := by
  have hl : z.cps.toList.length = z.length := by simp [Str.length]
  rw [Bool.eq_iff_iff]
  unfold Txt.isascii Txt.isalpha Txt.islower
  simp only [Bool.and_eq_true, Bool.not_eq_true', decide_eq_true_eq, ← Array.all_toList, ← Array.any_toList, List.all_eq_true, List.any_eq_true, List.any_eq_false]
  constructor
  · rintro ⟨h1, ⟨_, h2⟩, _, h3⟩ c hc
    rw [← sign_let]
    unfold signB
    have h3 := h3 c hc
    simp only [Bool.not_eq_true] at h3
    rw [h2 c hc, h3]
    simpa using h1 c hc
  · intro q
    refine ⟨fun c hc => by simpa using let_lt (q c hc), ⟨h, fun c hc => ?_⟩, ?_, fun c hc => ?_⟩
    · have := sign_let c
      rw [q c hc] at this
      unfold signB at this
      simp only [Bool.and_eq_true] at this
      exact this.2.1
    · cases e : z.cps.toList with
      | nil => rw [e] at hl; simp at hl; omega
      | cons c r => exact ⟨c, List.mem_cons_self, let_low (q c (by rw [e]; exact List.mem_cons_self))⟩
    · have := sign_let c
      rw [q c hc] at this
      unfold signB at this
      simp only [Bool.and_eq_true, Bool.not_eq_true'] at this
      simpa using this.2.2
/-- a def of one value that hands back a truth value, whatever the value; tables may grow -/
def spB (K : PySem.W.Frag) (T : Tbs) (f : V → Bool) : Sp := fun vs H Q _ => ∃ x, vs = [x] ∧ AnyV K H x ∧ LamX.Tabs T H ∧ ∀ H', Gr T H H' → Q (.bl (f x)) H'
theorem nd1 (x : Str) : [x].Nodup := by simp
section
variable {P : Program} {w : World} {K : PySem.W.Frag} {mg : Str → Option Value} {base : Heap} {T : Tbs}
end
end Bk

set_option Elab.async false
set_option linter.all false
set_option maxRecDepth 100000
set_option maxHeartbeats 4000000
namespace Bk
open PySem PySem.Spec PyProof.Rows L2
/-! ### steps -/
def stepsOf (z : Str) : List Str := Txt.split z "/"
theorem tl_slash : TL.tl ("/" : Str) = [47] := TL.tl_ofString "/"
theorem stepsOf_tl (z : Str) : (stepsOf z).map TL.tl = TL.spl [47] 0 [] (TL.tl z) := by
  have h := TL.split_spl z "/" (by rw [tl_slash]; simp) (TL.kind_ok (by decide +kernel))
  rw [tl_slash] at h
  exact h
theorem spl_len (S : List Nat) : ∀ (l : List Nat) (k : Nat) (acc : List Nat), ∀ p ∈ TL.spl S k acc l, p.length ≤ acc.length + l.length := by
  intro l
  induction l with
  | nil =>
    intro k acc p hp
    rw [TL.spl_nil] at hp
    rw [List.mem_singleton.mp hp]
    exact Nat.le_add_right _ _
  | cons c r ih =>
    intro k acc p hp
    cases k with
    | succ k =>
      have := ih k acc p hp
      rw [List.length_cons]
      omega
    | zero =>
      cases e : TL.pre S (c :: r) with
      | true =>
        rw [TL.spl_hit e] at hp
        rcases List.mem_cons.mp hp with q | q
        · rw [q]; exact Nat.le_add_right _ _
        · have := ih _ _ p q
          rw [List.length_cons]
          simp at this
          omega
      | false =>
        rw [TL.spl_miss e] at hp
        have := ih _ _ p hp
        rw [List.length_append, List.length_singleton] at this
        rw [List.length_cons]
        omega
theorem spl_many (S : List Nat) : ∀ (l : List Nat) (k : Nat) (acc : List Nat), (TL.spl S k acc l).length ≤ l.length + 1 := by
  intro l
  induction l with
  | nil => intro k acc; rw [TL.spl_nil]; exact Nat.le_refl _
  | cons c r ih =>
    intro k acc
    cases k with
    | succ k => exact Nat.le_succ_of_le (ih k acc)
    | zero =>
      cases e : TL.pre S (c :: r) with
      | true => rw [TL.spl_hit e, List.length_cons]; exact Nat.succ_le_succ (ih _ _)
      | false => rw [TL.spl_miss e]; exact Nat.le_succ_of_le (ih _ _)
theorem spl_ne (S : List Nat) : ∀ (l : List Nat) (k : Nat) (acc : List Nat), TL.spl S k acc l ≠ [] := by
  intro l
  induction l with
  | nil => intro k acc; rw [TL.spl_nil]; simp
  | cons c r ih =>
    intro k acc
    cases k with
    | succ k => exact ih k acc
    | zero =>
      cases e : TL.pre S (c :: r) with
      | true => rw [TL.spl_hit e]; simp
      | false => rw [TL.spl_miss e]; exact ih _ _
theorem steps_len {z s : Str} (h : s ∈ stepsOf z) : s.length ≤ z.length := by
  have h2 : TL.tl s ∈ (stepsOf z).map TL.tl := List.mem_map_of_mem h
  rw [stepsOf_tl] at h2
  have := spl_len [47] (TL.tl z) 0 [] _ h2
  rw [TL.len_tl, TL.len_tl]
  simpa using this
theorem steps_many (z : Str) : (stepsOf z).length ≤ z.length + 1 := by
  have := spl_many [47] (TL.tl z) 0 []
  rw [← stepsOf_tl, List.length_map, ← TL.len_tl] at this
  exact this
theorem steps_ne (z : Str) : stepsOf z ≠ [] := fun e => spl_ne [47] (TL.tl z) 0 [] (by rw [← stepsOf_tl, e]; rfl)
theorem two_more {n : Nat} (h : n ≤ 1000) : n + 2 ≤ sizeLine := Nat.le_trans (Nat.add_le_add_right h 2) (by decide)
theorem list_str {K : PySem.W.Frag} (p : Addr) (l : List Str) : Walk (Itl K p) l.length (fun H => SqL K H p (l.map V.str)) (YAt (l.map V.str)) := by
  have w := walk_list (K := K) (a := p) (xs := l.map V.str)
  rw [List.length_map] at w
  exact w
def topicB (z : Str) : Bool := decide (((stepsOf z).length : Int) ≤ 5) && (stepsOf z).all nameB
def topicV : V → Bool
  | .str z => topicB z
  | _ => false
theorem topicV_not {x : V} (h : ∀ z, x ≠ .str z) : topicV x = false := by
  cases x with
  | str z => exact absurd rfl (h z)
  | _ => rfl
section
variable {P : Program} {w : World} {K : PySem.W.Frag} {mg : Str → Option Value} {base : Heap} {T : Tbs}
theorem nd_topic : (["value", "steps", "step"] : List Str).Nodup := by decide
end
end Bk

set_option Elab.async false
set_option linter.all false
set_option maxRecDepth 100000
set_option maxHeartbeats 4000000
namespace Bk
open PySem PySem.Spec PyProof.Rows L2
/-! ### wishes -/
/-- the steps without a "#" at their end -/
def stemL (l : List Str) : List Str := if l.getLast? = some ("#" : Str) then l.dropLast else l
def stepB (s : Str) : Bool := decide (s = "+") || nameB s
def wishB (z : Str) : Bool := if decide (((stepsOf z).length : Int) > 5) = true then false else (stemL (stepsOf z)).all stepB
def wishV : V → Bool
  | .str z => wishB z
  | _ => false
theorem wishV_not {x : V} (h : ∀ z, x ≠ .str z) : wishV x = false := by
  cases x with
  | str z => exact absurd rfl (h z)
  | _ => rfl
theorem snoc_of {α : Type} {l : List α} (h : l ≠ []) : ∃ r z, l = r ++ [z] := ⟨l.dropLast, l.getLast h, (List.dropLast_concat_getLast h).symm⟩
theorem cut_last (r : List V) (z : V) : cutV (r ++ [z]) none (some (-1)) = r := by
  unfold cutV
  rw [HT.sIx_none, List.drop_zero, Nat.sub_zero]
  have e : HT.sIx (r ++ [z]).length (r ++ [z]).length (some (-1)) = r.length := by
    show (if (-1 : Int) < 0 then ((-1 : Int) + ((r ++ [z]).length : Int)).toNat else min (-1 : Int).toNat (r ++ [z]).length) = _
    rw [if_pos (by decide), List.length_append, List.length_singleton]
    omega
  rw [e]
  simp
theorem stem_sub {l : List Str} {s : Str} (h : s ∈ stemL l) : s ∈ l := by
  unfold stemL at h
  split at h
  · exact List.dropLast_subset _ h
  · exact h
/-! ### ways -/
abbrev ways : List Str := ["light", "marked", "paired"]
def wayB (z : Str) : Bool := inV (.str z) (ways.map V.str)
def wayV : V → Bool
  | .str z => wayB z
  | _ => false
theorem wayV_not {x : V} (h : ∀ z, x ≠ .str z) : wayV x = false := by
  cases x with
  | str z => exact absurd rfl (h z)
  | _ => rfl
/-! ### checks -/
/-- what is known of an own exception class of the top -/
structure Exc (K : PySem.W.Frag) (mg : Str → Option Value) (x : Str) : Prop where
  g : mg x = some (.ref (He.ga K x))
  e : PySem.W.excIn K (He.ga K x) He.veBase "ValueError.__new__" = true ∧ PySem.W.keepIn K (.ref (He.ga K x)) = true ∧ PySem.W.subIn K (.ref (He.ga K x)) (.type "BaseException") = some true ∧ PySem.W.typeIn K (.ref (He.ga K x)) = some (.type "type")
/-- raises C where f is false -/
def spCk (K : PySem.W.Frag) (T : Tbs) (f : V → Bool) (C : Addr) : Sp := fun vs H Q E => ∃ x, vs = [x] ∧ AnyV K H x ∧ LamX.Tabs T H ∧ (f x = true → ∀ H', Gr T H H' → Q .non H') ∧ (f x = false → ∀ H', Gr T H H' → E (.ref C) none H')
section
variable {P : Program} {w : World} {K : PySem.W.Frag} {mg : Str → Option Value} {base : Heap} {T : Tbs}
end
end Bk

set_option Elab.async false
set_option linter.all false
set_option maxRecDepth 100000
set_option maxHeartbeats 4000000
namespace Bk
open PySem PySem.Spec PyProof.Rows L2
/-- what is known of the ways' tuple -/
structure Ways (K : PySem.W.Frag) (mg : Str → Option Value) : Prop where
  g : mg "WAYS" = some (.ref (He.ga K "WAYS"))
  t : ∀ H, SqT K H (He.ga K "WAYS") (ways.map V.str)
  d : ∃ o, K.lookup (He.ga K "WAYS") = some o ∧ o.cls = .type "tuple" ∧ o.dict = none
def wix (z : Str) : Nat := ways.findIdx (fun y => decide (y = z))
theorem way_cases {z : Str} (h : wayB z = true) : z = "light" ∨ z = "marked" ∨ z = "paired" := by
  unfold wayB inV at h
  simp only [List.map_cons, List.map_nil, List.any_cons, List.any_nil, eqV, Bool.or_false, Bool.or_eq_true, beq_iff_eq] at h
  rcases h with h | h | h
  · exact .inl h.symm
  · exact .inr (.inl h.symm)
  · exact .inr (.inr h.symm)
theorem way_at {z : Str} (h : wayB z = true) : ways[wix z]? = some z ∧ ∀ m, m < wix z → ways[m]? ≠ some z := by
  rcases way_cases h with rfl | rfl | rfl
  · exact ⟨by decide +kernel, by decide +kernel⟩
  · exact ⟨by decide +kernel, by decide +kernel⟩
  · exact ⟨by decide +kernel, by decide +kernel⟩
/-! ### meeting -/
def pairB (p : Str × Str) : Bool := inV (.str p.1) [.str "+", .str p.2]
def metS (st wa : List Str) : Bool := decide ((st.length : Int) = wa.length) && (wa.zip st).all pairB
def metL (st wa : List Str) : Bool := if wa.getLast? = some ("#" : Str) then metS (st.take (wa.length - 1)) wa.dropLast else metS st wa
def metB (t w : Str) : Bool := metL (stepsOf t) (stepsOf w)
theorem zip_str {K : PySem.W.Frag} (a b : Addr) (l m : List Str) : Walk (Itz K a b) (l.zip m).length (fun H => SqL K H a (l.map V.str) ∧ SqL K H b (m.map V.str)) (YPair (fun i => (l.map V.str)[i]?) (fun i => (m.map V.str)[i]?)) :=
  walk_zip (by rw [List.length_zip, List.length_map, List.length_map])
theorem cut_take (r : List V) (n : Nat) (h : n ≤ r.length) : cutV r none (some (n : Int)) = r.take n := by
  unfold cutV
  rw [HT.sIx_none, HT.sIx_nat, List.drop_zero, Nat.sub_zero, Nat.min_eq_left h]
theorem cut_take2 (r : List V) (n : Nat) : cutV r none (some (n : Int)) = r.take n := by
  unfold cutV
  rw [HT.sIx_none, HT.sIx_nat, List.drop_zero, Nat.sub_zero]
  by_cases h : n ≤ r.length
  · rw [Nat.min_eq_left h]
  · rw [Nat.min_eq_right (by omega), List.take_of_length_le (Nat.le_refl _), List.take_of_length_le (by omega)]
def spMet (K : PySem.W.Frag) (T : Tbs) : Sp := fun vs H Q _ => ∃ t w : Str, vs = [.str t, .str w] ∧ t.length ≤ 1000 ∧ w.length ≤ 1000 ∧ LamX.Tabs T H ∧ ∀ H', Gr T H H' → Q (.bl (metB t w)) H'
/-- meets: the first value that is none raises -/
def spMeets (K : PySem.W.Frag) (T : Tbs) (CT CW : Addr) : Sp := fun vs H Q E => ∃ x y, vs = [x, y] ∧ AnyV K H x ∧ AnyV K H y ∧ LamX.Tabs T H ∧ (topicV x = false → ∀ H', Gr T H H' → E (.ref CT) none H') ∧ (topicV x = true → wishV y = false → ∀ H', Gr T H H' → E (.ref CW) none H') ∧
  (∀ t w, x = .str t → y = .str w → topicB t = true → wishB w = true → ∀ H', Gr T H H' → Q (.bl (metB t w)) H')
def spUp : Sp := fun vs H Q _ => ∃ a b : Str, vs = [.str a, .str b] ∧ wayB a = true ∧ wayB b = true ∧ Q (.bl (decide ((wix a : Int) ≤ wix b))) H
def spLess (K : PySem.W.Frag) (CW : Addr) : Sp := fun vs H Q E => ∃ x y, vs = [x, y] ∧ AnyV K H x ∧ AnyV K H y ∧ (wayV x = false → E (.ref CW) none H) ∧ (wayV x = true → wayV y = false → E (.ref CW) none H) ∧
  (∀ a b, x = .str a → y = .str b → wayB a = true → wayB b = true → Q (.str (if decide ((wix a : Int) ≤ wix b) = true then a else b)) H)
/-- a def of one value that hands back a truth value and leaves all as it was -/
def spB0 (K : PySem.W.Frag) (f : V → Bool) : Sp := fun vs H Q _ => ∃ x, vs = [x] ∧ AnyV K H x ∧ Q (.bl (f x)) H
def spCk0 (K : PySem.W.Frag) (f : V → Bool) (C : Addr) : Sp := fun vs H Q E => ∃ x, vs = [x] ∧ AnyV K H x ∧ (f x = true → Q .non H) ∧ (f x = false → E (.ref C) none H)
section
variable {P : Program} {w : World} {K : PySem.W.Frag} {mg : Str → Option Value} {base : Heap} {T : Tbs}
/-! ### checks -/
/-! ### meets -/
theorem in_seq {X : Cx} {K : PySem.W.Frag} (h : X.K = K) : OpR X (compareOp .In) (rIn K false) := by
  subst h
  exact op_in_seq
theorem tup_g {X : Cx} {K : PySem.W.Frag} {pos : Pos} {es : List Expr} {k n : Nat} {t : TGs} (hK : X.K = K) (hc : X.calm = true) (h : PGs X es t) (hn : (assignEach es X.env).length = n := by rfl) (hst : (assignEach es X.env).findIdx? (·.1) = none := by rfl) : PG X (.Tuple es k pos) (gTup K n t) := by
  subst hK
  exact pg_tup hc h hn hst
theorem nd2 {x y : Str} (h : x ≠ y) : [x, y].Nodup := by simp [h]
theorem metS_self (st : List Str) : metS st st = true := by
  unfold metS
  rw [decide_eq_true rfl, Bool.true_and, List.all_eq_true]
  intro p hp
  obtain ⟨i, hi, e⟩ := List.getElem_of_mem hp
  rw [List.getElem_zip] at e
  rw [← e]
  unfold pairB inV
  simp [eqV]
theorem metB_self (t : Str) : metB t t = true := by
  unfold metB metL
  split
  · rw [List.dropLast_eq_take]
    exact metS_self _
  · exact metS_self _
theorem metB_hash (t : Str) : metB t "#" = true := by
  have e : stepsOf "#" = [("#" : Str)] := by decide +kernel
  unfold metB metL
  rw [e, if_pos (by decide +kernel)]
  show metS ((stepsOf t).take 0) [] = true
  rw [List.take_zero]
  exact metS_self _
theorem two_more' {n : Nat} (h : n ≤ 1000 + 1) : n ≤ sizeLine := Nat.le_trans h (by decide)
end
end Bk

set_option Elab.async false
set_option linter.all false
set_option maxRecDepth 100000
set_option maxHeartbeats 4000000
namespace Bk
open PySem PySem.Spec PyProof.Rows L2
abbrev s_cup : Stmt := top 31
abbrev s_roll : Stmt := top 32
abbrev s_some : Stmt := top 33
/-! ### the law's cup -/
def CupOk (g s : Int) : Prop := 0 ≤ g ∧ 0 ≤ s ∧ s < 4294967296
/-- the cup stands at a -/
def Cup (H : Hp) (a : Addr) : Prop := ∃ g s, H a = some (.lst [.int g, .int s]) ∧ CupOk g s
def spCup (K : PySem.W.Frag) (T : Tbs) : Sp := fun vs H Q _ => ∃ (a : Addr) (ns : List Int), vs = [.ref a] ∧ SqL K H a (ns.map V.int) ∧ ns.length ≤ 63 ∧ LamX.Tabs T H ∧ ∀ p H', Gr T H H' → Cup H' p → Q (.ref p) H'
def spRoll : Sp := fun vs H Q _ => ∃ (a : Addr) (g s many : Int), vs = [.ref a, .int many] ∧ H a = some (.lst [.int g, .int s]) ∧ CupOk g s ∧ 0 < many ∧ many < 1000000 ∧ ∀ r g' s', 0 ≤ r → r < many → CupOk g' s' → Q (.int r) (upd H a (.lst [.int g', .int s']))
def spSome (K : PySem.W.Frag) : Sp := fun vs H Q _ => ∃ (a b : Addr) (g s : Int) (xs : List V), vs = [.ref a, .ref b] ∧ H a = some (.lst [.int g, .int s]) ∧ CupOk g s ∧ H b = some (.lst xs) ∧ a ≠ b ∧ xs ≠ [] ∧ xs.length < 1000000 ∧
  ∀ x g' s', x ∈ xs → CupOk g' s' → Q x (upd H a (.lst [.int g', .int s']))
section
variable {P : Program} {w : World} {K : PySem.W.Frag} {mg : Str → Option Value} {base : Heap} {T : Tbs}
/-! ### the law's cup, rolls -/
theorem sc_roll : FnScope ["_law_cup_here", "_law_many", "_law_found", "_law_deep"] ["_law_cup_here", "_law_many"] (defScope s_roll) := ⟨rfl, rfl, rfl, by decide +kernel, rfl, by decide +kernel, by decide +kernel⟩
theorem has_roll (F : At K mg "_law_roll" s_roll) (zi : mg "int" = none) : Has P w K mg base CX0 1 "_law_roll" ["_law_cup_here", "_law_many"] spRoll := by
  refine F.ok0 sc_roll (fun _ _ _ _ _ _ us hl => match us, hl with | [_, _], _ => rfl) (fun vs H Q E h => ?_) fun A outer s H vs Q E hr h => ?_
  · obtain ⟨a, g, s, many, rfl, _⟩ := h
    rfl
  obtain ⟨a, g, sd, many, rfl, ha, ⟨g0, s0, s1⟩, m0, m1, q⟩ := h
  refine ⟨_, pss_cons (ps_if (pt_cmpR op_gt (pe_ix ix_list (pv 0) pe_int (fun _ _ => rfl)) pe_int (nomark _))
      (pss_cons (ps_set (i := 2) sc_roll.nd rfl (Or.inl rfl) (pe_op op_mod (pe_callTy call_int1 rfl zi boot_int (pa_cons (pe_ix ix_list (pv 0) pe_int (fun _ _ => rfl)) pa_nil)) (pv 1)))
      (pss_cons (ps_asg (pe_op op_fdiv (pe_ix ix_list (pv 0) pe_int (fun _ _ => rfl)) (pv 1)) (pg_sub (pv 0) pe_int set_list))
      (pss_one (ps_ret (pv 2))))) pss_nil)
    (pss_cons (ps_asg (pe_op op_mod (pe_callTy call_int1 rfl zi boot_int (pa_cons (pe_op op_add (pe_op op_mul (pe_ix ix_list (pv 0) pe_int (fun _ _ => rfl)) pe_int) pe_int) pa_nil)) pe_int) (pg_sub (pv 0) pe_int set_list))
    (pss_cons (ps_set (i := 3) sc_roll.nd rfl (Or.inl rfl) (pe_op op_mod (pe_callTy call_int1 rfl zi boot_int (pa_cons (pe_op op_mul (pe_ix ix_list (pv 0) pe_int (fun _ _ => rfl)) (pe_op op_add (pe_ix ix_list (pv 0) pe_int (fun _ _ => rfl)) pe_int)) pa_nil)) pe_int))
    (pss_one (ps_ret (pe_op op_mod (pe_callTy call_int1 rfl zi boot_int (pa_cons (pe_op op_fdiv (pv 3) pe_int) pa_nil)) (pv 1)))))), ?_⟩
  refine ⟨_, rfl, a, _, 0, .int g, rfl, rfl, SqL.of ha, rfl, g, 0, rfl, rfl, _, rfl, ite2 (fun c => ?_) (fun c => ?_)⟩
  · refine ⟨_, rfl, a, _, 0, .int g, rfl, rfl, SqL.of ha, rfl, .inl ⟨g, rfl, ?_⟩⟩
    refine ⟨_, rfl, g, many, rfl, rfl, m0, ?_⟩
    refine ⟨_, rfl, a, _, 0, .int g, rfl, rfl, SqL.of ha, rfl, _, rfl, g, many, rfl, rfl, ⟨m0, by omega⟩, ?_⟩
    refine ⟨_, rfl, a, _, 0, 0, rfl, rfl, ha, rfl, ?_⟩
    refine ⟨_, rfl, ?_⟩
    exact q (g % many) (g / many) sd (Int.emod_nonneg _ (by omega)) (Int.emod_lt_of_pos _ m0) ⟨Int.ediv_nonneg g0 (by omega), s0, s1⟩
  · refine ⟨_, rfl, a, _, 1, .int sd, rfl, rfl, SqL.of ha, rfl, sd, 30671, rfl, rfl, .inr ⟨by decide, by decide⟩, ?_⟩
    refine ⟨_, _, rfl, rfl, .inl ⟨_, rfl, ?_⟩⟩
    refine ⟨_, _, rfl, rfl, (by show (0 : Int) < 2147483549; decide), ?_⟩
    refine ⟨_, rfl, a, _, 1, 1, rfl, rfl, ha, rfl, ?_⟩
    have h0 : 0 ≤ (sd * 30671 + 7919) % 2147483549 := Int.emod_nonneg _ (by decide)
    have h1 : (sd * 30671 + 7919) % 2147483549 < 2147483549 := Int.emod_lt_of_pos _ (by decide)
    have hb : (upd H a (.lst ([V.int g, V.int sd].set 1 (V.int ((sd * 30671 + 7919) % 2147483549))))) a = some (.lst [V.int g, V.int ((sd * 30671 + 7919) % 2147483549)]) := upd_same
    refine ⟨_, rfl, a, _, 1, _, rfl, rfl, SqL.of hb, rfl, _, rfl, a, _, 1, _, rfl, rfl, SqL.of hb, rfl, _, 131, rfl, rfl, ?_⟩
    refine ⟨_, _, rfl, rfl, .inl ⟨by omega, by omega⟩, .inl ⟨_, rfl, ?_⟩⟩
    refine ⟨_, _, rfl, rfl, (by show (0 : Int) < 2147483587; decide), ?_⟩
    refine ⟨_, rfl, _, 709, rfl, rfl, ⟨by decide, by decide⟩, .inl ⟨_, rfl, ?_⟩⟩
    refine ⟨_, rfl, _, many, rfl, rfl, m0, ?_⟩
    exact q _ g ((sd * 30671 + 7919) % 2147483549) (Int.emod_nonneg _ (by omega)) (Int.emod_lt_of_pos _ m0) ⟨g0, h0, by omega⟩
theorem sc_some : FnScope ["_law_cup_here", "_law_things"] ["_law_cup_here", "_law_things"] (defScope s_some) := ⟨rfl, rfl, rfl, by decide +kernel, rfl, by decide +kernel, by decide +kernel⟩
theorem has_some (F : At K mg "_law_some" s_some) (zl : mg "len" = none) (HR : Has P w K mg base CX0 1 "_law_roll" ["_law_cup_here", "_law_many"] spRoll) : Has P w K mg base CX0 2 "_law_some" ["_law_cup_here", "_law_things"] (spSome K) := by
  refine F.ok0 sc_some (fun _ _ _ _ _ _ us hl => match us, hl with | [_, _], _ => rfl) (fun vs H Q E h => ?_) fun A outer s H vs Q E hr h => ?_
  · obtain ⟨a, b, g, s, xs, rfl, _⟩ := h
    rfl
  obtain ⟨a, b, g, sd, xs, rfl, ha, hc, hb, hab, hne, hl, q⟩ := h
  refine ⟨_, pss_one (ps_ret (pe_ix ix_list (pv 1) (Has.call HR hr pass0 (pa_cons (pv 0) (pa_cons (pe_callB call_len_seq rfl zl PySem.boot_len (pa_cons (pv 1) pa_nil)) pa_nil))) (fun _ _ => rfl))), ?_⟩
  have hpos : 0 < xs.length := List.length_pos_iff.mpr hne
  refine ⟨_, rfl, _, rfl, _, rfl, b, xs, rfl, .inl (SqL.of hb), a, g, sd, _, rfl, ha, hc, by omega, by omega, fun r g' s' r0 r1 hc' => ?_⟩
  have hb' : (upd H a (.lst [.int g', .int s'])) b = some (.lst xs) := by rw [upd_ne (Ne.symm hab)]; exact hb
  have hr2 : r.toNat < xs.length := by omega
  have er : r = ((r.toNat : Nat) : Int) := by omega
  refine ⟨b, xs, r, xs[r.toNat], rfl, rfl, SqL.of hb', ?_, q _ g' s' (List.getElem_mem hr2) hc'⟩
  have q2 : atI xs ((r.toNat : Nat) : Int) = some xs[r.toNat] := atI_nat (List.getElem?_eq_getElem hr2)
  rw [← er] at q2
  exact q2
theorem sc_cup : FnScope ["_law_script", "_law_cell", "_law_great"] ["_law_script"] (defScope s_cup) := ⟨rfl, rfl, rfl, by decide +kernel, rfl, by decide +kernel, by decide +kernel⟩
theorem has_cup (F : At K mg "_law_cup" s_cup) (zl : mg "list" = none) (za : mg "abs" = none) (zi : mg "int" = none) : Has P w K mg base CX0 1 "_law_cup" ["_law_script"] (spCup K T) := by
  refine F.ok0 sc_cup (fun _ _ _ _ _ _ us hl => match us, hl with | [_], _ => rfl) (fun vs H Q E h => ?_) fun A outer s H vs Q E hr h => ?_
  · obtain ⟨a, ns, rfl, _⟩ := h
    rfl
  obtain ⟨a, ns, rfl, hS, hl, tb, q⟩ := h
  refine ⟨_, pss_cons (ps_set (i := 1) sc_cup.nd rfl (Or.inl rfl) (pe_callB call_abs rfl za (by decide +kernel) (pa_cons (pe_ix ix_list (pe_op op_cat (pe_callTy call_list_of rfl zl (by decide +kernel) (pa_cons (pv 0) pa_nil)) (pe_lst (pa_cons pe_int pa_nil))) pe_int (fun _ _ => rfl)) pa_nil)))
    (pss_cons (ps_set (i := 2) sc_cup.nd rfl (Or.inl rfl) (pe_ifExp (pt_cmpR op_ge (pv 1) (pe_op op_pow pe_int pe_int) (nomark _)) (pe_op op_fdiv (pv 1) pe_int) pe_int))
    (pss_one (ps_ret (pe_lst (pa_cons (pv 2) (pa_cons (pe_op op_add (pe_op op_mod (pe_callTy call_int1 rfl zi boot_int (pa_cons (pe_op op_add (pe_op op_mul (pv 1) pe_int) pe_int) pa_nil)) pe_int) pe_int) pa_nil)))))), ?_⟩
  refine ⟨_, rfl, a, _, rfl, .inl hS, fun l1 hl1 => ?_⟩
  have g1 := Gr.new tb hl1 (.lst (ns.map V.int))
  refine ⟨by show 1 ≤ sizeLine; decide, fun l2 hl2 => ?_⟩
  have g2 := Gr.new g1.tabs hl2 (.lst [V.int 0])
  refine ⟨l1, l2, ns.map V.int, [V.int 0], rfl, rfl, g2.lst upd_same, upd_same, ?_, fun l3 hl3 => ?_⟩
  · rw [List.length_map]
    show ns.length + 1 ≤ sizeLine
    exact Nat.le_trans (Nat.succ_le_succ hl) (by decide)
  have g3 := Gr.new g2.tabs hl3 (.lst (ns.map V.int ++ [V.int 0]))
  have hat : ∃ c : Int, atI (ns.map V.int ++ [V.int 0]) 0 = some (V.int c) := by
    cases ns with
    | nil => exact ⟨0, rfl⟩
    | cons n r => exact ⟨n, atI_nat (j := 0) rfl⟩
  obtain ⟨c, hat⟩ := hat
  refine ⟨l3, _, 0, .int c, rfl, rfl, SqL.of upd_same, hat, c, rfl, ?_⟩
  have c0 : 0 ≤ (if c < 0 then -c else c) := by split <;> omega
  generalize (if c < 0 then -c else c) = cell at c0 ⊢
  -- what is returned
  have rest : ∀ great : Int, 0 ≤ great → tRet (tLst (tCons (tVar 2) (tCons (tOp (rI0 fun i j => .int (i + j)) (tOp (rI (fun _ j => 0 < j) fun i j => .int (i % j)) (tCB (fun xs H Q => (∃ i, xs = [.int i] ∧ Q (.int i) H) ∨ ∃ k, xs = [.bl k] ∧ Q (.int (if k then 1 else 0)) H) (tCons (tOp (rI0 fun i j => .int (i + j)) (tOp (rI CMul fun i j => .int (i * j)) (tVar 1) (tC (.int 193))) (tC (.int 1201))) tNil)) (tC (.int 2077504273))) (tC (.int 89))) tNil)))
      { nx := fun _ H' => Q .non H', rt := Q } [some (.ref a), some (.int cell), some (.int great)] (upd (upd (upd H l1 (.lst (ns.map V.int))) l2 (.lst [V.int 0])) l3 (.lst (ns.map V.int ++ [V.int 0]))) := by
    intro great hg
    refine ⟨_, rfl, _, rfl, cell, 193, rfl, rfl, .inr ⟨by decide, by decide⟩, _, _, rfl, rfl, .inl ⟨_, rfl, ?_⟩⟩
    refine ⟨_, _, rfl, rfl, (by show (0 : Int) < 2077504273; decide), _, _, rfl, rfl, (by show 2 ≤ sizeLine; decide), fun p hp => ?_⟩
    refine q p _ (g1.trans (g2.trans (g3.trans (Gr.new g3.tabs hp _)))) ⟨great, _, upd_same, hg, ?_, ?_⟩
    · have := Int.emod_nonneg (cell * 193 + 1201) (show (2077504273 : Int) ≠ 0 by decide)
      omega
    · have := Int.emod_lt_of_pos (cell * 193 + 1201) (show (0 : Int) < 2077504273 by decide)
      omega
  refine ⟨_, rfl, 10, 18, rfl, rfl, ⟨by decide, by decide, by decide⟩, cell, _, rfl, rfl, _, rfl, ite2 (fun c => ?_) (fun c => ?_)⟩
  · exact ⟨_, rfl, cell, 11, rfl, rfl, ⟨by decide, by decide⟩, rest _ (Int.ediv_nonneg c0 (by decide))⟩
  · exact rest 0 (Int.le_refl 0)
end
end Bk

set_option Elab.async false
set_option linter.all false
set_option maxRecDepth 100000
set_option maxHeartbeats 4000000
namespace Bk
open PySem PySem.Spec PyProof.Rows L2
/-! ### lists of texts, as data -/
def OkS (z : Str) : Prop := PyData.strOk z = true
theorem dp_strs {K : PySem.W.Frag} {H : Hp} : ∀ l : List Str, DpAll K H (l.map V.str) (l.map PyData.str)
  | [] => .nil
  | x :: r => .cons (.str x) (dp_strs r)
theorem canLay_strs : ∀ l : List Str, (∀ s ∈ l, OkS s) → PyData.canLayAll0 (l.map PyData.str) = true
  | [], _ => by simp [PyData.canLayAll0]
  | x :: r, h => by
    have h1 : PyData.strOk x = true := h x List.mem_cons_self
    have h2 := canLay_strs r fun s hs => h s (List.mem_cons_of_mem _ hs)
    simp only [List.map_cons, PyData.canLayAll0, PyData.canLay0, h1, h2, Bool.and_self]
theorem depth_strs : ∀ l : List Str, PyData.depthAll (l.map PyData.str) = 0
  | [] => by simp [PyData.depthAll]
  | x :: r => by simp only [List.map_cons, PyData.depthAll, PyData.depth, depth_strs r, Nat.max_self]
theorem shaped_strs {l : List Str} (h : ∀ s ∈ l, OkS s) : SeqAt.shaped (.list (l.map PyData.str)) = true := by
  unfold SeqAt.shaped
  simp only [PyData.canLay0, PyData.depth, canLay_strs l h, depth_strs, Bool.true_and]
  decide
theorem eqv_strs : ∀ l m : List Str, PyData.eqvAll (l.map PyData.str) (m.map PyData.str) = decide (l = m)
  | [], [] => by simp [PyData.eqvAll]
  | [], y :: m => by simp [PyData.eqvAll]
  | x :: l, [] => by simp [PyData.eqvAll]
  | x :: l, y :: m => by
    simp only [List.map_cons, PyData.eqvAll, PyData.eqv, eqv_strs l m]
    by_cases h1 : x = y
    · by_cases h2 : l = m
      · simp [h1, h2]
      · simp [h1, h2]
    · simp [h1]
def rEqS (K : PySem.W.Frag) (neg : Bool) : R2 := fun x y H Q => ∃ (a b : Addr) (l m : List Str), x = .ref a ∧ y = .ref b ∧ SqL K H a (l.map V.str) ∧ SqL K H b (m.map V.str) ∧ (∀ s ∈ l, OkS s) ∧ (∀ s ∈ m, OkS s) ∧ Q (.bl (if neg = true then !decide (l = m) else decide (l = m))) H
/-- == of two lists of texts -/
theorem eq_strs {X : Cx} {k : Nat} (hr : Room k X.A) {K : PySem.W.Frag} (hK : X.K = K) : OpR X (compareOp .Eq) (rEqS K false) := by
  subst hK
  intro pins s σ H x y v u Q I rx ry h
  obtain ⟨a, b, l, m, rfl, rfl, h1, h2, h3, h4, q⟩ := h
  refine op_eqD (by have := hr.un; omega) pins s σ H _ _ v u Q I rx ry ⟨.list (l.map PyData.str), .list (m.map PyData.str), .lst h1 (dp_strs l), .lst h2 (dp_strs m), shaped_strs h3, shaped_strs h4, ?_⟩
  rw [show PyData.eqv (.list (l.map PyData.str)) (.list (m.map PyData.str)) = decide (l = m) by simp only [PyData.eqv]; exact eqv_strs l m]
  exact q
theorem ne_strs {X : Cx} {k : Nat} (hr : Room k X.A) {K : PySem.W.Frag} (hK : X.K = K) : OpR X (compareOp .NotEq) (rEqS K true) := by
  subst hK
  intro pins s σ H x y v u Q I rx ry h
  obtain ⟨a, b, l, m, rfl, rfl, h1, h2, h3, h4, q⟩ := h
  refine op_neD (by have := hr.un; omega) pins s σ H _ _ v u Q I rx ry ⟨.list (l.map PyData.str), .list (m.map PyData.str), .lst h1 (dp_strs l), .lst h2 (dp_strs m), shaped_strs h3, shaped_strs h4, ?_⟩
  rw [show PyData.eqv (.list (l.map PyData.str)) (.list (m.map PyData.str)) = decide (l = m) by simp only [PyData.eqv]; exact eqv_strs l m]
  exact q
theorem notIn_seq {X : Cx} {K : PySem.W.Frag} (h : X.K = K) : OpR X (compareOp .NotIn) (rIn K true) := by
  subst h
  exact op_notIn_seq
/-- the steps of an orderly text are orderly -/
theorem spl_sub (S : List Nat) : ∀ (l : List Nat) (k : Nat) (acc : List Nat), ∀ p ∈ TL.spl S k acc l, ∀ c ∈ p, c ∈ acc ∨ c ∈ l := by
  intro l
  induction l with
  | nil =>
    intro k acc p hp c hc
    rw [TL.spl_nil] at hp
    rw [List.mem_singleton.mp hp] at hc
    exact .inl hc
  | cons x r ih =>
    intro k acc p hp c hc
    cases k with
    | succ k =>
      rcases ih k acc p hp c hc with q | q
      · exact .inl q
      · exact .inr (List.mem_cons_of_mem _ q)
    | zero =>
      cases e : TL.pre S (x :: r) with
      | true =>
        rw [TL.spl_hit e] at hp
        rcases List.mem_cons.mp hp with q | q
        · rw [q] at hc; exact .inl hc
        · rcases ih _ _ p q c hc with z | z
          · simp at z
          · exact .inr (List.mem_cons_of_mem _ z)
      | false =>
        rw [TL.spl_miss e] at hp
        rcases ih _ _ p hp c hc with z | z
        · rcases List.mem_append.mp z with z | z
          · exact .inl z
          · rw [List.mem_singleton.mp z]; exact .inr List.mem_cons_self
        · exact .inr (List.mem_cons_of_mem _ z)
theorem okS_iff {z : Str} : OkS z ↔ ∀ c ∈ TL.tl z, c < 0x110000 := by
  unfold OkS PyData.strOk
  rw [Array.all_eq_true']
  constructor
  · intro h c hc
    have := h c (Array.mem_def.mpr hc)
    simpa using this
  · intro h c hc
    have := h c (Array.mem_def.mp hc)
    simpa using this
theorem steps_ok {z s : Str} (hz : OkS z) (h : s ∈ stepsOf z) : OkS s := by
  rw [okS_iff] at hz ⊢
  have h2 : TL.tl s ∈ (stepsOf z).map TL.tl := List.mem_map_of_mem h
  rw [stepsOf_tl] at h2
  intro c hc
  rcases spl_sub [47] (TL.tl z) 0 [] _ h2 c hc with q | q
  · simp at q
  · exact hz c q
/-! ### the law's own meeting -/
def lawMet : List Str → List Str → Bool
  | st, [] => st.isEmpty
  | [], a :: r => decide (a = "#" ∧ r = [])
  | s :: st, a :: r => if a = "#" ∧ r = [] then true else if inV (.str a) [.str "+", .str s] = true then lawMet st r else false
theorem lawMet_hash (st : List Str) : lawMet st [(("#" : String) : Str)] = true := by
  cases st with
  | nil => unfold lawMet; simp
  | cons s r => unfold lawMet; simp
theorem metS_cons (s a : Str) (st wa : List Str) : metS (s :: st) (a :: wa) = (pairB (a, s) && metS st wa) := by
  unfold metS
  rw [List.zip_cons_cons, List.all_cons]
  have e : decide (((s :: st).length : Int) = (a :: wa).length) = decide ((st.length : Int) = wa.length) := by
    simp only [List.length_cons]
    by_cases h : st.length = wa.length
    · simp [h]
    · rw [decide_eq_false (by omega), decide_eq_false (by omega)]
  rw [e]
  cases decide ((st.length : Int) = wa.length) <;> cases pairB (a, s) <;> simp
theorem metS_nil_cons (a : Str) (wa : List Str) : metS [] (a :: wa) = false := by
  unfold metS
  rw [decide_eq_false (by simp only [List.length_nil, List.length_cons]; omega)]
  rfl
theorem metL_law : ∀ wa st : List Str, lawMet st wa = metL st wa := by
  intro wa
  induction wa with
  | nil =>
    intro st
    unfold metL metS
    cases st with
    | nil => simp [lawMet]
    | cons s r =>
      simp only [lawMet, List.isEmpty_cons, List.getLast?_nil, List.zip_nil_left, List.all_nil, Bool.and_true]
      rw [if_neg (by simp)]
      rw [decide_eq_false (by simp only [List.length_nil, List.length_cons]; omega)]
  | cons a r ih =>
    intro st
    cases r with
    | nil =>
      by_cases ha : a = "#"
      · subst ha
        rw [lawMet_hash]
        unfold metL
        rw [show ([("#" : Str)]).getLast? = some (("#" : String) : Str) from rfl, if_pos rfl]
        show true = metS (st.take 0) []
        rw [List.take_zero]
        rfl
      · have e1 : ([a] : List Str).getLast? = some a := rfl
        unfold metL
        rw [e1, if_neg (fun q => ha (Option.some.inj q))]
        cases st with
        | nil => rw [metS_nil_cons]; simp [lawMet, ha]
        | cons s st' =>
          rw [metS_cons]
          have e2 : metS st' [] = st'.isEmpty := by
            have := ih st'
            unfold lawMet metL at this
            rw [if_neg (by simp)] at this
            cases st' <;> exact this.symm
          rw [e2]
          unfold lawMet
          rw [if_neg (fun q => ha q.1)]
          show (if pairB (a, s) = true then lawMet st' [] else false) = _
          cases pairB (a, s) with
          | true => rw [if_pos rfl, Bool.true_and]; cases st' <;> rfl
          | false => rfl
    | cons b r' =>
      have e1 : (a :: b :: r').getLast? = (b :: r').getLast? := List.getLast?_cons_cons
      have nh : ¬ (a = "#" ∧ b :: r' = []) := fun q => by cases q.2
      cases st with
      | nil =>
        have e2 : lawMet [] (a :: b :: r') = false := by unfold lawMet; exact decide_eq_false nh
        rw [e2]
        unfold metL
        rw [e1]
        split
        · rw [show (a :: b :: r').dropLast = a :: (b :: r').dropLast from rfl, List.take_nil, metS_nil_cons]
        · rw [metS_nil_cons]
      | cons s st' =>
        have e2 : lawMet (s :: st') (a :: b :: r') = (pairB (a, s) && lawMet st' (b :: r')) := by
          rw [lawMet, if_neg nh]
          show (if pairB (a, s) = true then _ else _) = _
          cases pairB (a, s) <;> rfl
        rw [e2, ih st']
        unfold metL
        rw [e1]
        split
        · rw [show (a :: b :: r').dropLast = a :: (b :: r').dropLast from rfl]
          have e3 : (a :: b :: r').length - 1 = ((b :: r').length - 1) + 1 := by simp
          rw [e3, List.take_succ_cons, metS_cons]
        · rw [metS_cons]
/-- one turn -/
theorem lawMet_turn {s a : Str} {st r : List Str} (nh : a :: r ≠ [(("#" : String) : Str)]) : lawMet (s :: st) (a :: r) = if inV (.str a) [.str "+", .str s] = true then lawMet st r else false := by
  rw [lawMet, if_neg (fun q => nh (by rw [q.1, q.2]))]
theorem lawMet_out {a : Str} {r : List Str} (nh : a :: r ≠ [(("#" : String) : Str)]) : lawMet [] (a :: r) = false := by
  unfold lawMet
  exact decide_eq_false (fun q => nh (by rw [q.1, q.2]))
theorem cut_one (xs : List V) : cutV xs (some 1) none = xs.drop 1 := by
  unfold cutV
  rw [show HT.sIx xs.length 0 (some 1) = min 1 xs.length from HT.sIx_nat xs.length 0 1, HT.sIx_none]
  cases xs with
  | nil => rfl
  | cons x r =>
    rw [show min 1 (x :: r).length = 1 by rw [List.length_cons]; omega]
    show (List.take ((x :: r).length - 1) r) = r
    rw [List.length_cons, Nat.add_sub_cancel]
    exact List.take_length
abbrev hashL : List Str := [(("#" : String) : Str)]
def IvMet (T : Tbs) (t wi : Str) (H : Hp) (m : Nat) (σ : L2.St) (H' : Hp) : Prop := ∃ (pa pb : Addr) (st wa : List Str), σ = [some (.str t), some (.str wi), some (.ref pa), some (.ref pb)] ∧ m = wa.length ∧ Gr T H H' ∧ H' pa = some (.lst (st.map V.str)) ∧ H' pb = some (.lst (wa.map V.str)) ∧ (∀ s ∈ st, OkS s) ∧ (∀ s ∈ wa, OkS s) ∧ lawMet st wa = lawMet (stepsOf t) (stepsOf wi)
def spLawMet (T : Tbs) : Sp := fun vs H Q _ => ∃ t w : Str, vs = [.str t, .str w] ∧ t.length ≤ 1000 ∧ w.length ≤ 1000 ∧ OkS t ∧ OkS w ∧ LamX.Tabs T H ∧ ∀ H', Gr T H H' → Q (.bl (metB t w)) H'
section
variable {P : Program} {w : World} {K : PySem.W.Frag} {mg : Str → Option Value} {base : Heap} {T : Tbs}
theorem ok_hash : ∀ s ∈ hashL, OkS s := fun s h => by
  rw [List.mem_singleton.mp h]
  show PyData.strOk ("#" : Str) = true
  decide +kernel
end
end Bk

set_option Elab.async false
set_option linter.all false
set_option maxRecDepth 100000
set_option maxHeartbeats 4000000
namespace Bk
open PySem PySem.Spec PyProof.Rows L2
/-! ### texts made of steps -/
def names4 : List Str := ["a", "b", "ab", "abcdef"]
def signs2 : List Str := ["+", "#"]
abbrev plusS : Str := ("+" : String)
abbrev hashS : Str := ("#" : String)
abbrev slashS : Str := ("/" : String)
def joinS (qs : List Str) : Str := Txt.join slashS qs
/-- one to five steps, each one of six -/
structure Mk (qs : List Str) : Prop where
  ne : qs ≠ []
  le : qs.length ≤ 5
  mem : ∀ q ∈ qs, q ∈ names4 ∨ q = plusS ∨ q = hashS
theorem part_of {Pr : Str → Prop} (h4 : ∀ q ∈ names4, Pr q) (h1 : Pr plusS) (h2 : Pr hashS) {qs : List Str} (m : Mk qs) : ∀ q ∈ qs, Pr q := fun q hq => by
  rcases m.mem q hq with h | rfl | rfl
  · exact h4 q h
  · exact h1
  · exact h2
theorem Mk.noSlash {qs : List Str} (m : Mk qs) : ∀ q ∈ qs, 47 ∉ TL.tl q := part_of (by decide +kernel) (by decide +kernel) (by decide +kernel) m
theorem Mk.steps {qs : List Str} (m : Mk qs) : stepsOf (joinS qs) = qs := TL.split_join (s := 47) (S := []) tl_slash (by decide +kernel) m.ne m.noSlash
theorem Mk.okAll {qs : List Str} (m : Mk qs) : ∀ q ∈ qs, OkS q := part_of (by unfold OkS; decide +kernel) (by unfold OkS; decide +kernel) (by unfold OkS; decide +kernel) m
theorem Mk.lenAll {qs : List Str} (m : Mk qs) : ∀ q ∈ qs, (TL.tl q).length ≤ 6 := part_of (by decide +kernel) (by decide +kernel) (by decide +kernel) m
theorem joinL_len (S : List Nat) (hS : S.length ≤ 1) : ∀ l : List (List Nat), (∀ q ∈ l, q.length ≤ 6) → (TL.joinL S l).length ≤ 7 * l.length
  | [], _ => by simp [TL.joinL]
  | [p], h => by
    have := h p List.mem_cons_self
    show p.length ≤ 7 * 1
    omega
  | p :: q :: r, h => by
    have h1 := h p List.mem_cons_self
    have h2 := joinL_len S hS (q :: r) fun x hx => h x (List.mem_cons_of_mem _ hx)
    show (p ++ (S ++ TL.joinL S (q :: r))).length ≤ _
    rw [List.length_append, List.length_append]
    rw [List.length_cons (a := p)]
    omega
theorem joinL_mem (S : List Nat) : ∀ (l : List (List Nat)) (c : Nat), c ∉ S → (c ∈ TL.joinL S l ↔ ∃ p ∈ l, c ∈ p)
  | [], c, _ => by simp [TL.joinL]
  | [p], c, _ => by simp [TL.joinL]
  | p :: q :: r, c, h => by
    show c ∈ p ++ (S ++ TL.joinL S (q :: r)) ↔ _
    rw [List.mem_append, List.mem_append, joinL_mem S (q :: r) c h]
    constructor
    · rintro (x | x | ⟨z, hz, x⟩)
      · exact ⟨p, List.mem_cons_self, x⟩
      · exact absurd x h
      · exact ⟨z, List.mem_cons_of_mem _ hz, x⟩
    · rintro ⟨z, hz, x⟩
      rcases List.mem_cons.mp hz with rfl | hz
      · exact .inl x
      · exact .inr (.inr ⟨z, hz, x⟩)
theorem tl_joinS (qs : List Str) : TL.tl (joinS qs) = TL.joinL [47] (qs.map TL.tl) := by
  unfold joinS
  rw [TL.join_eq, TL.tl_join, tl_slash]
theorem Mk.len {qs : List Str} (m : Mk qs) : (joinS qs).length ≤ 1000 := by
  rw [TL.len_tl, tl_joinS]
  have h := joinL_len [47] (by simp) (qs.map TL.tl) fun x hx => by
    obtain ⟨q, hq, rfl⟩ := List.mem_map.mp hx
    exact m.lenAll q hq
  rw [List.length_map] at h
  have := m.le
  omega
theorem Mk.ok {qs : List Str} (m : Mk qs) : OkS (joinS qs) := by
  rw [okS_iff]
  intro c hc
  rw [tl_joinS] at hc
  by_cases h : c ∈ [47]
  · rw [List.mem_singleton.mp h]; decide
  · rw [joinL_mem _ _ _ h] at hc
    obtain ⟨p, hp, hc⟩ := hc
    obtain ⟨q, hq, rfl⟩ := List.mem_map.mp hp
    exact okS_iff.mp (m.okAll q hq) c hc
theorem joinS_has {qs : List Str} (c : Nat) (h : c ≠ 47) : c ∈ TL.tl (joinS qs) ↔ ∃ q ∈ qs, c ∈ TL.tl q := by
  rw [tl_joinS, joinL_mem _ _ _ (by simpa using h)]
  constructor
  · rintro ⟨p, hp, hc⟩
    obtain ⟨q, hq, rfl⟩ := List.mem_map.mp hp
    exact ⟨q, hq, hc⟩
  · rintro ⟨q, hq, hc⟩
    exact ⟨_, List.mem_map_of_mem hq, hc⟩
theorem cnt_nn (c : Nat) : ∀ l : List Nat, 0 ≤ cnt c l ∧ (cnt c l = 0 ↔ c ∉ l)
  | [] => by rw [cnt_nil]; simp
  | n :: r => by
    obtain ⟨h1, h2⟩ := cnt_nn c r
    rw [cnt_cons]
    by_cases e : n = c
    · rw [if_pos e]
      subst e
      constructor
      · omega
      · constructor
        · intro h; omega
        · intro h; exact absurd List.mem_cons_self h
    · rw [if_neg e]
      constructor
      · omega
      · rw [Int.zero_add, h2]
        simp [Ne.symm e]
theorem plus_eq : plusS = ⟨#[43]⟩ := by decide +kernel
theorem hash_eq : hashS = ⟨#[35]⟩ := by decide +kernel
/-- no sign of "+" and "#" -/
theorem count_none (z : Str) : decide (Txt.count z plusS + Txt.count z hashS = 0) = decide (43 ∉ TL.tl z ∧ 35 ∉ TL.tl z) := by
  rw [plus_eq, hash_eq, count_cnt, count_cnt]
  have h1 := cnt_nn 43 z.cps.toList
  have h2 := cnt_nn 35 z.cps.toList
  refine decide_eq_decide.mpr ⟨fun h => ⟨h1.2.mp (by omega), h2.2.mp (by omega)⟩, fun h => ?_⟩
  have a := h1.2.mpr h.1
  have b := h2.2.mpr h.2
  omega
theorem Mk.topic {qs : List Str} (m : Mk qs) : topicB (joinS qs) = qs.all nameB := by
  unfold topicB
  rw [m.steps, decide_eq_true (by have := m.le; omega), Bool.true_and]
theorem name_iff : (∀ q ∈ names4, nameB q = true ∧ 43 ∉ TL.tl q ∧ 35 ∉ TL.tl q ∧ q ≠ plusS ∧ q ≠ hashS) := by decide +kernel
theorem Mk.topic_count {qs : List Str} (m : Mk qs) : topicB (joinS qs) = decide (Txt.count (joinS qs) plusS + Txt.count (joinS qs) hashS = 0) := by
  rw [count_none, m.topic, Bool.eq_iff_iff, decide_eq_true_iff, List.all_eq_true]
  rw [joinS_has 43 (by decide), joinS_has 35 (by decide)]
  constructor
  · intro h
    constructor
    · rintro ⟨q, hq, hc⟩
      rcases m.mem q hq with h4 | rfl | rfl
      · exact (name_iff q h4).2.1 hc
      · have := h _ hq; revert this; decide +kernel
      · have := h _ hq; revert this; decide +kernel
    · rintro ⟨q, hq, hc⟩
      rcases m.mem q hq with h4 | rfl | rfl
      · exact (name_iff q h4).2.2.1 hc
      · have := h _ hq; revert this; decide +kernel
      · have := h _ hq; revert this; decide +kernel
  · rintro ⟨h1, h2⟩ q hq
    rcases m.mem q hq with h4 | rfl | rfl
    · exact (name_iff q h4).1
    · exact absurd ⟨_, hq, by decide +kernel⟩ h1
    · exact absurd ⟨_, hq, by decide +kernel⟩ h2
/-! ### topics, and wishes made of them -/
structure Mt (ps : List Str) : Prop where
  ne : ps ≠ []
  le : ps.length ≤ 5
  mem : ∀ p ∈ ps, p ∈ names4
theorem Mt.k {ps : List Str} (m : Mt ps) : Mk ps := ⟨m.ne, m.le, fun p hp => .inl (m.mem p hp)⟩
theorem Mt.topic {ps : List Str} (m : Mt ps) : topicB (joinS ps) = true := by
  rw [m.k.topic, List.all_eq_true]
  exact fun q hq => (name_iff q (m.mem q hq)).1
theorem last_mem {l : List Str} {z : Str} (h : l.getLast? = some z) : z ∈ l := List.mem_of_getLast? h
theorem Mt.wish {ps : List Str} (m : Mt ps) : wishB (joinS ps) = true := by
  unfold wishB
  rw [m.k.steps, if_neg (by have := m.le; simp only [decide_eq_true_iff]; omega)]
  unfold stemL
  rw [if_neg (fun e => (name_iff _ (m.mem _ (last_mem e))).2.2.2.2 rfl), List.all_eq_true]
  intro q hq
  unfold stepB
  rw [(name_iff q (m.mem q hq)).1, Bool.or_true]
inductive Op : List Str → List Str → Prop
  | nil : Op [] []
  | same (p : Str) {ps qs} : Op ps qs → Op (p :: ps) (p :: qs)
  | open_ (p : Str) {ps qs} : Op ps qs → Op (p :: ps) (plusS :: qs)
theorem Op.len {ps qs : List Str} (o : Op ps qs) : ps.length = qs.length := by
  induction o with
  | nil => rfl
  | same p _ ih => rw [List.length_cons, List.length_cons, ih]
  | open_ p _ ih => rw [List.length_cons, List.length_cons, ih]
theorem Op.mem {ps qs : List Str} (o : Op ps qs) : ∀ q ∈ qs, q ∈ ps ∨ q = plusS := by
  induction o with
  | nil => intro q hq; cases hq
  | same p _ ih =>
    intro q hq
    rcases List.mem_cons.mp hq with rfl | hq
    · exact .inl List.mem_cons_self
    · exact (ih q hq).imp (List.mem_cons_of_mem _) id
  | open_ p _ ih =>
    intro q hq
    rcases List.mem_cons.mp hq with rfl | hq
    · exact .inr rfl
    · exact (ih q hq).imp (List.mem_cons_of_mem _) id
theorem lawMet_step {s a : Str} {st r : List Str} (h : inV (.str a) [.str plusS, .str s] = true) (k : lawMet st r = true) : lawMet (s :: st) (a :: r) = true := by
  unfold lawMet
  by_cases c : a = hashS ∧ r = []
  · rw [if_pos c]
  · rw [if_neg c, if_pos h]; exact k
theorem inV_same (p : Str) : inV (.str p) [.str plusS, .str p] = true := by
  unfold inV
  simp [eqV]
theorem inV_plus (p : Str) : inV (.str plusS) [.str plusS, .str p] = true := by
  unfold inV
  simp [eqV]
theorem Op.met {ps qs : List Str} (o : Op ps qs) : lawMet ps qs = true := by
  induction o with
  | nil => rfl
  | same p _ ih => exact lawMet_step (inV_same p) ih
  | open_ p _ ih => exact lawMet_step (inV_plus p) ih
theorem Op.metCut {ps qs : List Str} (o : Op ps qs) : ∀ n, lawMet ps (qs.take n ++ [hashS]) = true := by
  induction o with
  | nil => intro n; rw [List.take_nil]; exact lawMet_hash []
  | same p _ ih =>
    intro n
    cases n with
    | zero => exact lawMet_hash _
    | succ n => rw [List.take_succ_cons]; exact lawMet_step (inV_same p) (ih n)
  | open_ p _ ih =>
    intro n
    cases n with
    | zero => exact lawMet_hash _
    | succ n => rw [List.take_succ_cons]; exact lawMet_step (inV_plus p) (ih n)
/-- the steps of a wish made of a topic -/
def Opened (ps ws : List Str) : Prop := ∃ qs, Op ps qs ∧ (ws = qs ∨ ∃ n, n < qs.length ∧ ws = qs.take n ++ [hashS])
theorem Opened.mk {ps ws : List Str} (m : Mt ps) (o : Opened ps ws) : Mk ws := by
  obtain ⟨qs, h, rfl | ⟨n, hn, rfl⟩⟩ := o
  · refine ⟨fun e => m.ne (List.length_eq_zero_iff.mp (by rw [h.len, e]; rfl)), by rw [← h.len]; exact m.le, fun q hq => (h.mem q hq).elim (fun z => .inl (m.mem q z)) fun z => .inr (.inl z)⟩
  · refine ⟨by simp, ?_, fun q hq => ?_⟩
    · rw [List.length_append, List.length_take, List.length_singleton]
      have := m.le
      have := h.len
      omega
    · rcases List.mem_append.mp hq with hq | hq
      · exact (h.mem q (List.mem_of_mem_take hq)).elim (fun z => .inl (m.mem q z)) fun z => .inr (.inl z)
      · exact .inr (.inr (List.mem_singleton.mp hq))
theorem Opened.met {ps ws : List Str} (m : Mt ps) (o : Opened ps ws) : metB (joinS ps) (joinS ws) = true := by
  unfold metB
  rw [m.k.steps, (o.mk m).steps, ← metL_law]
  obtain ⟨qs, h, rfl | ⟨n, hn, rfl⟩⟩ := o
  · exact h.met
  · exact h.metCut n
theorem step_of {q : Str} (h : q ∈ names4 ∨ q = plusS) : stepB q = true := by
  unfold stepB
  rcases h with h | rfl
  · rw [(name_iff q h).1, Bool.or_true]
  · rw [decide_eq_true rfl]; rfl
theorem Opened.wish {ps ws : List Str} (m : Mt ps) (o : Opened ps ws) : wishB (joinS ws) = true := by
  have k := o.mk m
  unfold wishB
  rw [k.steps, if_neg (by have := k.le; simp only [decide_eq_true_iff]; omega)]
  obtain ⟨qs, h, e⟩ := o
  have hs : ∀ q ∈ qs, stepB q = true := fun q hq => step_of ((h.mem q hq).imp (m.mem q) id)
  have hn : ∀ q ∈ qs, q ≠ hashS := fun q hq e => by
    rcases h.mem q hq with z | z
    · exact (name_iff q (m.mem q z)).2.2.2.2 e
    · rw [z] at e; revert e; decide +kernel
  unfold stemL
  rcases e with rfl | ⟨n, hl, rfl⟩
  · rw [if_neg (fun e => hn _ (last_mem e) rfl), List.all_eq_true]
    exact hs
  · rw [if_pos (by rw [List.getLast?_append]; rfl), List.dropLast_concat, List.all_eq_true]
    exact fun q hq => hs q (List.mem_of_mem_take hq)
/-- two topics: one meets the other just if they are the same -/
theorem lawMet_names : ∀ ps qs : List Str, (∀ q ∈ qs, q ∈ names4) → lawMet ps qs = decide (ps = qs)
  | [], [], _ => rfl
  | s :: r, [], _ => by simp [lawMet]
  | [], a :: r, h => by
    have := name_iff a (h a List.mem_cons_self)
    unfold lawMet
    rw [decide_eq_false (fun e => this.2.2.2.2 e.1)]
    simp
  | s :: st, a :: r, h => by
    have ha := name_iff a (h a List.mem_cons_self)
    have ih := lawMet_names st r fun q hq => h q (List.mem_cons_of_mem _ hq)
    unfold lawMet
    rw [if_neg (fun e => ha.2.2.2.2 e.1), ih]
    have e : inV (.str a) [.str ("+" : String), .str s] = decide (s = a) := by
      show inV (.str a) [.str plusS, .str s] = decide (s = a)
      unfold inV
      have := ha.2.2.2.1
      by_cases e : s = a
      · subst e
        simp [eqV, this]
      · simp [eqV, Ne.symm this, e]
    rw [e]
    by_cases e1 : s = a
    · subst e1
      by_cases e2 : st = r <;> simp [e2]
    · simp [e1]
theorem Mt.same {ps qs : List Str} (m : Mt ps) (k : Mt qs) : metB (joinS ps) (joinS qs) = decide (joinS ps = joinS qs) := by
  unfold metB
  rw [m.k.steps, k.k.steps, ← metL_law, lawMet_names _ _ k.mem]
  refine decide_eq_decide.mpr ⟨fun e => by rw [e], fun e => ?_⟩
  have := m.k.steps
  rw [e, k.k.steps] at this
  exact this.symm
end Bk

set_option Elab.async false
set_option linter.all false
set_option maxRecDepth 100000
set_option maxHeartbeats 4000000
namespace Bk
open PySem PySem.Spec PyProof.Rows L2
/-! ### the cup's own list may change, all else goes on -/
structure GrC (T : Tbs) (a : Addr) (H H' : Hp) : Prop where
  ext : ∀ b o, b ≠ a → H b = some o → (∀ ps, o ≠ .tbl ps) → H' b = some o
  tabs : LamX.Tabs T H'
  cup : Cup H' a
theorem Gr.cupd {T : Tbs} {H H' : Hp} {a : Addr} (g : Gr T H H') (c : Cup H a) : Cup H' a := by
  obtain ⟨x, s, h, k⟩ := c
  exact ⟨x, s, g.lst h, k⟩
theorem Gr.c {T : Tbs} {H H' : Hp} {a : Addr} (g : Gr T H H') (c : Cup H a) : GrC T a H H' := ⟨fun b o _ h n => g.ext b o h n, g.tabs, g.cupd c⟩
theorem GrC.trans {T : Tbs} {a : Addr} {H H1 H2 : Hp} (x : GrC T a H H1) (y : GrC T a H1 H2) : GrC T a H H2 := ⟨fun b o n h k => y.ext b o n (x.ext b o n h k) k, y.tabs, y.cup⟩
theorem GrC.lst {T : Tbs} {a : Addr} {H H' : Hp} (g : GrC T a H H') {b : Addr} {xs : List V} (n : b ≠ a) (h : H b = some (.lst xs)) : H' b = some (.lst xs) := g.ext b _ n h (fun _ z => by cases z)
theorem GrC.tup {T : Tbs} {a : Addr} {H H' : Hp} (g : GrC T a H H') {b : Addr} {xs : List V} (c : Cup H a) (h : H b = some (.tup xs)) : H' b = some (.tup xs) := g.ext b _ (fun e => by
  obtain ⟨x, s, k, _⟩ := c
  rw [e, k] at h
  cases h) h (fun _ z => by cases z)
theorem tabs_upd {T : Tbs} {a : Addr} {H : Hp} {xs ys : List V} (t : LamX.Tabs T H) (h : H a = some (.lst xs)) : LamX.Tabs T (upd H a (.lst ys)) := by
  intro p hp
  obtain ⟨ps, h1, h2, h3⟩ := t p hp
  refine ⟨ps, ?_, h2, fun pos cv hc => ?_⟩
  · rw [upd_ne (fun e => by rw [e, h] at h1; cases h1)]; exact h1
  · obtain ⟨c, e1, e2⟩ := h3 pos cv hc
    refine ⟨c, e1, ?_⟩
    rw [upd_ne (fun e => by rw [e, h] at e2; cases e2)]
    exact e2
theorem GrC.put {T : Tbs} {a : Addr} {H : Hp} {xs : List V} (t : LamX.Tabs T H) (h : H a = some (.lst xs)) {g s : Int} (k : CupOk g s) : GrC T a H (upd H a (.lst [.int g, .int s])) :=
  ⟨fun b o n e _ => by rw [upd_ne n]; exact e, tabs_upd t h, ⟨g, s, upd_same, k⟩⟩
/-- a new object is not the cup -/
theorem new_ne {H : Hp} {a p : Addr} (c : Cup H a) (h : H p = none) : p ≠ a := fun e => by
  obtain ⟨x, s, k, _⟩ := c
  rw [e, k] at h
  cases h
theorem GrC.new {T : Tbs} {a : Addr} {H H1 : Hp} (g : GrC T a H H1) {p : Addr} (hp : H1 p = none) (o : HO) : GrC T a H (upd H1 p o) := g.trans ((Gr.new g.tabs hp o).c g.cup)
/-- a list of one's own may grow -/
theorem GrC.own {T : Tbs} {a D : Addr} {H H' : Hp} {xs ys : List V} (g : GrC T a H H') (hD : H D = none) (n : D ≠ a) (e : H' D = some (.lst xs)) : GrC T a H (upd H' D (.lst ys)) := by
  refine ⟨fun b o k h z => ?_, tabs_upd g.tabs e, ?_⟩
  · rw [upd_ne (fun q => by rw [q, hD] at h; cases h)]
    exact g.ext b o k h z
  · obtain ⟨x, s, h, k⟩ := g.cup
    exact ⟨x, s, by rw [upd_ne (Ne.symm n)]; exact h, k⟩
theorem yes_if {σ : L2.St} {H : Hp} {A B : Hp → Prop} (h : A H) : tYes σ H fun b H3 => if b = true then A H3 else B H3 := by
  unfold tYes
  show (if true = true then A H else B H)
  rw [if_pos rfl]
  exact h
def BlkD (N : List Str) (sc scope : Scope) (own : List (Str × Nat)) : Prop := scope.kind = .function ∧ (∀ y ∈ scope.names, scope.names.lookup y.1 = some y.2) ∧ (∀ p ∈ own, N[p.2]? = some p.1) ∧ (∀ y ∈ scope.names, y.2 = .free → sc.names.lookup y.1 = some .cell ∨ sc.names.lookup y.1 = some .free) ∧ (∀ y ∈ scope.names, y.2 = .local ∨ y.2 = .cell → y.1 ∈ own.map (·.1) ∨ y.1 ∉ N)
instance {N : List Str} {sc scope : Scope} {own : List (Str × Nat)} : Decidable (BlkD N sc scope own) := by unfold BlkD; infer_instance
theorem blk_by {N : List Str} {sc scope : Scope} {own : List (Str × Nat)} (h : BlkD N sc scope own) : BlkOk N sc scope own := ⟨h.1, h.2.1, h.2.2.1, h.2.2.2.1, h.2.2.2.2⟩
section
variable {P : Program} {w : World} {K : PySem.W.Frag} {mg : Str → Option Value} {base : Heap} {T : Tbs}
theorem nd_ab {x y : Str} (h : x ≠ y) : [x, y].Nodup := by simp [h]
theorem sum_le {n : Nat} : ∀ ps : List Str, (∀ p ∈ ps, (TL.tl p).length ≤ n) → (ps.map (·.length)).sum ≤ n * ps.length
  | [], _ => by simp
  | p :: r, h => by
    have h1 := h p List.mem_cons_self
    have h2 := sum_le r fun x hx => h x (List.mem_cons_of_mem _ hx)
    rw [List.map_cons, List.sum_cons, List.length_cons]
    rw [← TL.len_tl] at h1
    have : n * (r.length + 1) = n * r.length + n := Nat.mul_succ _ _
    omega
theorem Mk.sum {qs : List Str} (m : Mk qs) : (qs.map (·.length)).sum + qs.length * slashS.length ≤ 16777216 := by
  have h1 := sum_le qs m.lenAll
  have h2 := m.le
  have h3 : slashS.length = 1 := by decide +kernel
  rw [h3]
  omega
theorem Op.snoc {ps qs : List Str} (o : Op ps qs) {p q : Str} (h : q = p ∨ q = plusS) : Op (ps ++ [p]) (qs ++ [q]) := by
  induction o with
  | nil =>
    rcases h with rfl | rfl
    · exact .same _ .nil
    · exact .open_ _ .nil
  | same x _ ih => exact .same x ih
  | open_ x _ ih => exact .open_ x ih
theorem cut_nat (xs : List V) (n : Nat) (h : n ≤ xs.length) : cutV xs none (some (n : Int)) = xs.take n := by
  unfold cutV
  rw [HT.sIx_none, List.drop_zero, Nat.sub_zero, HT.sIx_nat, Nat.min_eq_left h]
end
end Bk

set_option Elab.async false
set_option linter.all false
set_option maxRecDepth 100000
set_option maxHeartbeats 1000000
/-! what a def does, told of data alone -/
namespace Dl
open PySem PySem.Spec PyProof.Rows L2
abbrev Tbs := List (Addr × Str)
def CupOk (g s : Int) : Prop := 0 ≤ g ∧ 0 ≤ s ∧ s < 4294967296
def Cup (H : Hp) (a : Addr) : Prop := ∃ g s, H a = some (.lst [.int g, .int s]) ∧ CupOk g s
/-- data, the cup, a def of the top by its name, a list of a slot's own, a type, a dict with texts for keys, one of a slot's own, an exception that is handled -/
inductive Dv where
  | d (x : PyData) | cup | fn (x : Str) | own (xs : List PyData) | ty (n : String) | dc (kvs : List (Str × PyData)) | od (kvs : List (Str × PyData)) | ex (a : Addr)
abbrev Rho := List (Option Dv)
abbrev DE := Rho → (Dv → Prop) → Prop
abbrev DT := Rho → (Bool → Prop) → Prop
abbrev DAs := Rho → (List Dv → Prop) → Prop
structure DEnds where
  nx : Rho → Prop
  rt : Dv → Prop
  bk : Rho → Prop := fun _ => False
  ct : Rho → Prop := fun _ => False
abbrev DS := DEnds → Rho → Prop
/-! ### data on the heap -/
def hide (hid : List Addr) (H : Hp) : Hp := fun a => if a ∈ hid then none else H a
theorem hide_some {hid : List Addr} {H : Hp} {a : Addr} {o : HO} (h : hide hid H a = some o) : a ∉ hid ∧ H a = some o := by
  unfold hide at h
  split at h
  · cases h
  · exact ⟨by assumption, h⟩
theorem hide_of {hid : List Addr} {H : Hp} {a : Addr} {o : HO} (h1 : a ∉ hid) (h2 : H a = some o) : hide hid H a = some o := by
  unfold hide
  rw [if_neg h1]
  exact h2
/-- whether every tuple stands on the heap -/
def Md : Prop := False
def SqH (K : PySem.W.Frag) (H : Hp) (a : Addr) (xs : List V) : Prop := SqT K H a xs ∧ (Md → H a = some (.tup xs))
theorem SqH.of {K : PySem.W.Frag} {H : Hp} {a : Addr} {xs : List V} (h : H a = some (.tup xs)) : SqH K H a xs := ⟨SqT.of h, fun _ => h⟩
mutual
inductive Dd (K : PySem.W.Frag) (H : Hp) : V → PyData → Prop
  | non : Dd K H .non .none
  | bl (b : Bool) : Dd K H (.bl b) (.bool b)
  | int (i : Int) : Dd K H (.int i) (.int i)
  | str (x : Str) : PyData.strOk x = true → Dd K H (.str x) (.str x)
  | lst {a : Addr} {xs : List V} {ds : List PyData} : H a = some (.lst xs) → DdAll K H xs ds → Dd K H (.ref a) (.list ds)
  | tup {a : Addr} {xs : List V} {ds : List PyData} : SqH K H a xs → DdAll K H xs ds → Dd K H (.ref a) (.tuple ds)
inductive DdAll (K : PySem.W.Frag) (H : Hp) : List V → List PyData → Prop
  | nil : DdAll K H [] []
  | cons {v : V} {vs : List V} {d : PyData} {ds : List PyData} : Dd K H v d → DdAll K H vs ds → DdAll K H (v :: vs) (d :: ds)
end
/-- what a dict with texts for keys holds -/
inductive DvK (K : PySem.W.Frag) (H : Hp) : List (Key × V) → List (Str × PyData) → Prop
  | nil : DvK K H [] []
  | cons {k : Str} {v : V} {d : PyData} {es : List (Key × V)} {kvs : List (Str × PyData)} : PyData.strOk k = true → Dd K H v d → DvK K H es kvs → DvK K H ((Sum.inr k, v) :: es) ((k, d) :: kvs)
/-- H' knows what H knows -/
def Mono (H H' : Hp) : Prop := ∀ b o, H b = some o → (∀ ps, o ≠ .tbl ps) → H' b = some o
theorem Mono.sqT {K : PySem.W.Frag} {H H' : Hp} (m : Mono H H') {a : Addr} {xs : List V} (h : SqT K H a xs) : SqT K H' a xs := by
  rcases h with (h | ⟨o, h⟩) | h
  · exact .inl (.inl (m _ _ h (fun _ z => by cases z)))
  · exact .inl (.inr ⟨o, m _ _ h (fun _ z => by cases z)⟩)
  · exact .inr h
theorem Mono.sqH {K : PySem.W.Frag} {H H' : Hp} (m : Mono H H') {a : Addr} {xs : List V} (h : SqH K H a xs) : SqH K H' a xs := ⟨m.sqT h.1, fun z => m _ _ (h.2 z) (fun _ z => by cases z)⟩
mutual
theorem Dd.mono {K : PySem.W.Frag} {H H' : Hp} (m : Mono H H') : ∀ (d : PyData) (v : V), Dd K H v d → Dd K H' v d
  | .none, _, h => by cases h; exact .non
  | .bool b, _, h => by cases h; exact .bl b
  | .int i, _, h => by cases h; exact .int i
  | .str x, _, h => by cases h with | str _ k => exact .str x k
  | .list ds, _, h => by
    cases h with
    | lst q r => exact .lst (m _ _ q (fun _ z => by cases z)) (DdAll.mono m ds _ r)
  | .tuple ds, _, h => by
    cases h with
    | tup q r => exact .tup (m.sqH q) (DdAll.mono m ds _ r)
  | .dict _, _, h => by cases h
theorem DdAll.mono {K : PySem.W.Frag} {H H' : Hp} (m : Mono H H') : ∀ (ds : List PyData) (vs : List V), DdAll K H vs ds → DdAll K H' vs ds
  | [], _, h => by cases h; exact .nil
  | d :: ds, _, h => by
    cases h with
    | cons x y => exact .cons (Dd.mono m d _ x) (DdAll.mono m ds _ y)
end
theorem DvK.mono {K : PySem.W.Frag} {H H' : Hp} (m : Mono H H') : ∀ {es : List (Key × V)} {kvs : List (Str × PyData)}, DvK K H es kvs → DvK K H' es kvs
  | _, _, .nil => .nil
  | _, _, .cons k x r => .cons k (Dd.mono m _ _ x) (DvK.mono m r)
mutual
theorem Dd.dp {K : PySem.W.Frag} {H : Hp} : ∀ (d : PyData) (v : V), Dd K H v d → Dp K H v d
  | .none, _, h => by cases h; exact .non
  | .bool b, _, h => by cases h; exact .bl b
  | .int i, _, h => by cases h; exact .int i
  | .str x, _, h => by cases h; exact .str x
  | .list ds, _, h => by
    cases h with
    | lst q r => exact .lst (SqL.of q) (DdAll.dp ds _ r)
  | .tuple ds, _, h => by
    cases h with
    | tup q r => exact .tup q.1 (DdAll.dp ds _ r)
  | .dict _, _, h => by cases h
theorem DdAll.dp {K : PySem.W.Frag} {H : Hp} : ∀ (ds : List PyData) (vs : List V), DdAll K H vs ds → DpAll K H vs ds
  | [], _, h => by cases h; exact .nil
  | d :: ds, _, h => by
    cases h with
    | cons x y => exact .cons (Dd.dp d _ x) (DdAll.dp ds _ y)
end
mutual
theorem Dd.can {K : PySem.W.Frag} {H : Hp} : ∀ (d : PyData) (v : V), Dd K H v d → d.canLay0 = true
  | .none, _, _ => by simp only [PyData.canLay0]
  | .bool b, _, _ => by simp only [PyData.canLay0]
  | .int i, _, _ => by simp only [PyData.canLay0]
  | .str x, _, h => by cases h with | str _ k => simp only [PyData.canLay0]; exact k
  | .list ds, _, h => by
    cases h with
    | lst q r => simp only [PyData.canLay0]; exact DdAll.can ds _ r
  | .tuple ds, _, h => by
    cases h with
    | tup q r => simp only [PyData.canLay0]; exact DdAll.can ds _ r
  | .dict _, _, h => by cases h
theorem DdAll.can {K : PySem.W.Frag} {H : Hp} : ∀ (ds : List PyData) (vs : List V), DdAll K H vs ds → PyData.canLayAll0 ds = true
  | [], _, _ => by simp only [PyData.canLayAll0]
  | d :: ds, _, h => by
    cases h with
    | cons x y => simp only [PyData.canLayAll0, Dd.can d _ x, DdAll.can ds _ y, Bool.and_self]
end
theorem Dd.shaped {K : PySem.W.Frag} {H : Hp} {d : PyData} {v : V} (h : Dd K H v d) (k : d.depth ≤ 64) : SeqAt.shaped d = true := by
  unfold SeqAt.shaped
  rw [h.can, decide_eq_true k]
  rfl
theorem DdAll.len {K : PySem.W.Frag} {H : Hp} : ∀ {vs : List V} {ds : List PyData}, DdAll K H vs ds → vs.length = ds.length
  | [], _, h => by cases h; rfl
  | v :: vs, _, h => by
    cases h with
    | cons x y => rw [List.length_cons, List.length_cons, DdAll.len y]
theorem DdAll.at {K : PySem.W.Frag} {H : Hp} : ∀ {vs : List V} {ds : List PyData} {i : Nat} {v : V}, DdAll K H vs ds → vs[i]? = some v → ∃ d, ds[i]? = some d ∧ Dd K H v d
  | [], _, i, v, h, e => by simp at e
  | x :: vs, _, 0, v, h, e => by
    cases h with
    | cons p q =>
      obtain rfl : x = v := by simpa using e
      exact ⟨_, rfl, p⟩
  | x :: vs, _, i + 1, v, h, e => by
    cases h with
    | cons p q =>
      obtain ⟨d, h1, h2⟩ := DdAll.at q (i := i) (v := v) (by simpa using e)
      exact ⟨d, by simpa using h1, h2⟩
theorem DdAll.to {K : PySem.W.Frag} {H : Hp} : ∀ {vs : List V} {ds : List PyData} {i : Nat} {d : PyData}, DdAll K H vs ds → ds[i]? = some d → ∃ v, vs[i]? = some v ∧ Dd K H v d
  | [], _, i, d, h, e => by cases h; simp at e
  | x :: vs, _, 0, d, h, e => by
    cases h with
    | @cons _ _ d1 _ p q =>
      obtain rfl : d1 = d := by simpa using e
      exact ⟨_, rfl, p⟩
  | x :: vs, _, i + 1, d, h, e => by
    cases h with
    | cons p q =>
      obtain ⟨v, h1, h2⟩ := DdAll.to q (i := i) (d := d) (by simpa using e)
      exact ⟨v, by simpa using h1, h2⟩
theorem DdAll.append {K : PySem.W.Frag} {H : Hp} : ∀ {vs ws : List V} {ds es : List PyData}, DdAll K H vs ds → DdAll K H ws es → DdAll K H (vs ++ ws) (ds ++ es)
  | [], _, _, _, h, k => by cases h; exact k
  | _ :: _, _, _, _, h, k => by
    cases h with
    | cons x y => exact .cons x (DdAll.append y k)
theorem DdAll.take {K : PySem.W.Frag} {H : Hp} : ∀ (n : Nat) {vs : List V} {ds : List PyData}, DdAll K H vs ds → DdAll K H (vs.take n) (ds.take n)
  | 0, _, _, _ => .nil
  | n + 1, [], _, h => by cases h; exact .nil
  | n + 1, _ :: _, _, h => by
    cases h with
    | cons x y => exact .cons x (DdAll.take n y)
theorem DdAll.drop {K : PySem.W.Frag} {H : Hp} : ∀ (n : Nat) {vs : List V} {ds : List PyData}, DdAll K H vs ds → DdAll K H (vs.drop n) (ds.drop n)
  | 0, _, _, h => h
  | n + 1, [], _, h => by cases h; exact .nil
  | n + 1, _ :: _, _, h => by
    cases h with
    | cons x y => exact DdAll.drop n y
theorem DdAll.strs {K : PySem.W.Frag} {H : Hp} : ∀ {l : List Str}, (∀ s ∈ l, PyData.strOk s = true) → DdAll K H (l.map V.str) (l.map PyData.str)
  | [], _ => .nil
  | s :: l, h => .cons (.str s (h s List.mem_cons_self)) (DdAll.strs fun x hx => h x (List.mem_cons_of_mem _ hx))
/-! ### where data is read -/
structure DC where
  K : PySem.W.Frag
  T : Tbs
  c : Option Addr
  hid0 : List Addr
  H0 : Hp
/-- no data stands there -/
def Fr (H : Hp) (b : Addr) : Prop := ∀ o, H b = some o → ∃ ps, o = .tbl ps
theorem Fr.of {H : Hp} {b : Addr} (h : H b = none) : Fr H b := fun o e => by rw [h] at e; cases e
/-- all but the cup goes on -/
def Ext (c : Option Addr) (H H' : Hp) : Prop := ∀ b o, c ≠ some b → H b = some o → (∀ ps, o ≠ .tbl ps) → H' b = some o
theorem Ext.refl {c : Option Addr} {H : Hp} : Ext c H H := fun _ _ _ h _ => h
theorem Ext.trans {c : Option Addr} {H H1 H2 : Hp} (x : Ext c H H1) (y : Ext c H1 H2) : Ext c H H2 := fun b o n h k => y b o n (x b o n h k) k
theorem Ext.new {c : Option Addr} {H : Hp} {p : Addr} (hp : H p = none) (o : HO) : Ext c H (upd H p o) := fun b u _ h _ => by
  rw [upd_ne (ne_of_none h hp)]
  exact h
/-- what may be a slot's own -/
def OwO : HO → Prop
  | .lst _ => True
  | .dK _ => True
  | _ => False
structure HpOk (C : DC) (hid : List Addr) (H : Hp) : Prop where
  tabs : LamX.Tabs C.T H
  cup : ∀ a, C.c = some a → a ∈ hid ∧ Cup H a
  some : ∀ a ∈ hid, ∃ o, H a = some o ∧ OwO o
  sub : ∀ a ∈ C.hid0, a ∈ hid
  ext : Ext C.c C.H0 H
theorem HpOk.nn {C : DC} {hid : List Addr} {H : Hp} (h : HpOk C hid H) (a : Addr) (ha : a ∈ hid) (z : H a = none) : False := by
  obtain ⟨xs, e, _⟩ := h.some a ha
  rw [z] at e
  cases e
theorem tabs_new {T : Tbs} {H : Hp} (h : LamX.Tabs T H) {p : Addr} (hp : H p = none) (o : HO) : LamX.Tabs T (upd H p o) := by
  have e : ∀ b u, H b = some u → upd H p o b = some u := fun b u q => by rw [upd_ne (ne_of_none q hp)]; exact q
  exact h.ext e
theorem HpOk.new {C : DC} {hid : List Addr} {H : Hp} (h : HpOk C hid H) {p : Addr} (hp : H p = none) (o : HO) : HpOk C hid (upd H p o) where
  tabs := tabs_new h.tabs hp o
  cup := fun a e => ⟨(h.cup a e).1, by
    obtain ⟨g, s, k, z⟩ := (h.cup a e).2
    exact ⟨g, s, by rw [upd_ne (ne_of_none k hp)]; exact k, z⟩⟩
  some := fun a ha => by
    by_cases e : a = p
    · subst e
      obtain ⟨xs, z, _⟩ := h.some a ha
      rw [hp] at z; cases z
    · rw [upd_ne e]; exact h.some a ha
  sub := h.sub
  ext := h.ext.trans (Ext.new hp o)
theorem HpOk.newNo {C : DC} {hid : List Addr} {H : Hp} (h : HpOk C hid H) {p : Addr} (hp : H p = none) : p ∉ hid := fun z => h.nn p z hp
theorem Ext.mono {C : DC} {hid : List Addr} {H H' : Hp} (x : Ext C.c H H') (h : HpOk C hid H) : Mono (hide hid H) (hide hid H') := fun b o e k => by
  obtain ⟨h1, h2⟩ := hide_some e
  exact hide_of h1 (x b o (fun z => h1 (h.cup b z).1) h2 k)
/-- what a value holds -/
def VR (C : DC) (hid : List Addr) (H : Hp) : V → Dv → Prop
  | v, .d x => Dd C.K (hide hid H) v x
  | v, .cup => ∃ a, C.c = some a ∧ v = .ref a
  | v, .fn x => v = .ref (He.ga C.K x)
  | v, .ty n => v = .ty n
  | v, .ex a => v = .ref a
  | v, .own xs => ∃ p vs, v = .ref p ∧ p ∈ hid ∧ C.c ≠ some p ∧ (p ∉ C.hid0 ∧ Fr C.H0 p) ∧ H p = some (.lst vs) ∧ DdAll C.K (hide hid H) vs xs
  | v, .dc kvs => ∃ p es, v = .ref p ∧ hide hid H p = some (.dK es) ∧ DvK C.K (hide hid H) es kvs
  | v, .od kvs => ∃ p es, v = .ref p ∧ p ∈ hid ∧ C.c ≠ some p ∧ (p ∉ C.hid0 ∧ Fr C.H0 p) ∧ H p = some (.dK es) ∧ DvK C.K (hide hid H) es kvs
theorem VR.ext {C : DC} {hid : List Addr} {H H' : Hp} (x : Ext C.c H H') (h : HpOk C hid H) {v : V} : ∀ {a : Dv}, VR C hid H v a → VR C hid H' v a
  | .d _, k => Dd.mono (x.mono h) _ _ k
  | .cup, k => k
  | .fn _, k => k
  | .ty _, k => k
  | .ex _, k => k
  | .own _, ⟨p, vs, h1, h2, h3, h5, h4, k⟩ => ⟨p, vs, h1, h2, h3, h5, x p _ h3 h4 (fun _ z => by cases z), DdAll.mono (x.mono h) _ _ k⟩
  | .dc _, ⟨p, es, h1, h2, k⟩ => ⟨p, es, h1, x.mono h p _ h2 (fun _ z => by cases z), DvK.mono (x.mono h) k⟩
  | .od _, ⟨p, es, h1, h2, h3, h5, h4, k⟩ => ⟨p, es, h1, h2, h3, h5, x p _ h3 h4 (fun _ z => by cases z), DvK.mono (x.mono h) k⟩
/-- slots -/
structure SR (C : DC) (hid : List Addr) (σ : L2.St) (H : Hp) (ρ : Rho) : Prop where
  len : σ.length = ρ.length
  at' : ∀ (i : Nat) (x : Dv), ρ[i]? = some (some x) → ∃ v : V, σ[i]? = some (some v) ∧ VR C hid H v x
theorem SR.ext {C : DC} {hid : List Addr} {σ : L2.St} {H H' : Hp} {ρ : Rho} (x : Ext C.c H H') (h : HpOk C hid H) (s : SR C hid σ H ρ) : SR C hid σ H' ρ :=
  ⟨s.len, fun i y e => by
    obtain ⟨v, h1, h2⟩ := s.at' i y e
    exact ⟨v, h1, h2.ext x h⟩⟩
inductive VRs (C : DC) (hid : List Addr) (H : Hp) : List V → List Dv → Prop
  | nil : VRs C hid H [] []
  | cons {v : V} {vs : List V} {x : Dv} {xs : List Dv} : VR C hid H v x → VRs C hid H vs xs → VRs C hid H (v :: vs) (x :: xs)
theorem VRs.ext {C : DC} {hid : List Addr} {H H' : Hp} (x : Ext C.c H H') (h : HpOk C hid H) : ∀ {vs : List V} {xs : List Dv}, VRs C hid H vs xs → VRs C hid H' vs xs
  | _, _, .nil => .nil
  | _, _, .cons a b => .cons (a.ext x h) (VRs.ext x h b)
theorem VRs.len {C : DC} {hid : List Addr} {H : Hp} : ∀ {vs : List V} {xs : List Dv}, VRs C hid H vs xs → vs.length = xs.length
  | _, _, .nil => rfl
  | _, _, .cons a b => by rw [List.length_cons, List.length_cons, VRs.len b]
/-! ### readings that tell of data -/
def tE (C : DC) (A : DE) : TE := fun σ H Q => ∃ hid ρ q, HpOk C hid H ∧ SR C hid σ H ρ ∧ A ρ q ∧ ∀ v x H', Ext C.c H H' → HpOk C hid H' → VR C hid H' v x → q x → Q v H'
def tT (C : DC) (B : DT) : TT := fun σ H Q => ∃ hid ρ q, HpOk C hid H ∧ SR C hid σ H ρ ∧ B ρ q ∧ ∀ b H', Ext C.c H H' → HpOk C hid H' → q b → Q b H'
def tAs (C : DC) (n : Nat) (A : DAs) : TA := fun σ H Q => ∃ hid ρ q, HpOk C hid H ∧ SR C hid σ H ρ ∧ A ρ q ∧ ∀ vs xs H', Ext C.c H H' → HpOk C hid H' → VRs C hid H' vs xs → xs.length = n → q xs → Q vs H'
def rD (C : DC) (f : Dv → Dv → (Dv → Prop) → Prop) : R2 := fun x y H Q => ∃ hid dx dy q, HpOk C hid H ∧ VR C hid H x dx ∧ VR C hid H y dy ∧ f dx dy q ∧ ∀ v d H', Ext C.c H H' → HpOk C hid H' → VR C hid H' v d → q d → Q v H'
def rU1 (C : DC) (f : Dv → (Dv → Prop) → Prop) : V → Hp → VK → Prop := fun x H Q => ∃ hid dx q, HpOk C hid H ∧ VR C hid H x dx ∧ f dx q ∧ ∀ v d H', Ext C.c H H' → HpOk C hid H' → VR C hid H' v d → q d → Q v H'
def rL (C : DC) (f : List Dv → (Dv → Prop) → Prop) : List V → Hp → VK → Prop := fun xs H Q => ∃ hid ds q, HpOk C hid H ∧ VRs C hid H xs ds ∧ f ds q ∧ ∀ v d H', Ext C.c H H' → HpOk C hid H' → VR C hid H' v d → q d → Q v H'
/-! the words -/
/-- one way or the other -/
inductive Tg {α : Type} (x : α) : Type
  | mk
def brT (b : Bool) (x y : Prop) (_ : Tg x) (_ : Tg y) : Prop := if b = true then x else y
abbrev br (b : Bool) (x y : Prop) : Prop := brT b x y .mk .mk
theorem br_t {x y : Prop} : brT true x y .mk .mk = x := rfl
theorem br_f {x y : Prop} : brT false x y .mk .mk = y := rfl
theorem br2 {b : Bool} {x y : Prop} (h1 : b = true → x) (h2 : b = false → y) : br b x y := by
  cases b with
  | true => exact h1 rfl
  | false => exact h2 rfl
def dVar (i : Nat) (ρ : Rho) (q : Dv → Prop) : Prop := match ρ[i]? with
  | some (some x) => q x
  | _ => False
def dC (x : PyData) (_ : Rho) (q : Dv → Prop) : Prop := q (.d x)
def dFn (x : Str) (_ : Rho) (q : Dv → Prop) : Prop := q (.fn x)
def dOp (f : Dv → Dv → (Dv → Prop) → Prop) (A B : DE) (ρ : Rho) (q : Dv → Prop) : Prop := A ρ fun x => B ρ fun y => f x y q
def dUn (f : Dv → (Dv → Prop) → Prop) (A : DE) (ρ : Rho) (q : Dv → Prop) : Prop := A ρ fun x => f x q
def dNil (_ : Rho) (q : List Dv → Prop) : Prop := q []
def dCons (A : DE) (B : DAs) (ρ : Rho) (q : List Dv → Prop) : Prop := A ρ fun x => B ρ fun xs => q (x :: xs)
def onB (x : Dv) (q : Bool → Prop) : Prop := match x with
  | .d (.bool b) => q b
  | _ => False
def dB (A : DE) (ρ : Rho) (q : Bool → Prop) : Prop := A ρ fun x => onB x q
def dNot (B : DT) (ρ : Rho) (q : Bool → Prop) : Prop := B ρ fun b => q (!b)
def dAndT (A B : DT) (ρ : Rho) (q : Bool → Prop) : Prop := A ρ fun b => br b (B ρ q) (q false)
def dOrT (A B : DT) (ρ : Rho) (q : Bool → Prop) : Prop := A ρ fun b => br b (q true) (B ρ q)
def dIfE (T : DT) (A B : DE) (ρ : Rho) (q : Dv → Prop) : Prop := T ρ fun b => br b (A ρ q) (B ρ q)
def dAnd (A B : DE) (ρ : Rho) (q : Dv → Prop) : Prop := A ρ fun x => onB x fun b => br b (B ρ q) (q (.d (.bool false)))
def dOr (A B : DE) (ρ : Rho) (q : Dv → Prop) : Prop := A ρ fun x => onB x fun b => br b (q (.d (.bool true))) (B ρ q)
def dNotE (A : DE) (ρ : Rho) (q : Dv → Prop) : Prop := A ρ fun x => onB x fun b => q (.d (.bool (!b)))
/-- the data of values -/
def datas : List Dv → Option (List PyData)
  | [] => some []
  | .d x :: r => match datas r with
    | some l => some (x :: l)
    | none => none
  | _ :: _ => none
def onDs (xs : List Dv) (q : List PyData → Prop) : Prop := match datas xs with
  | some l => q l
  | none => False
def dTup (A : DAs) (ρ : Rho) (q : Dv → Prop) : Prop := A ρ fun xs => onDs xs fun l => q (.d (.tuple l))
def dLst (A : DAs) (ρ : Rho) (q : Dv → Prop) : Prop := A ρ fun xs => onDs xs fun l => q (.d (.list l))
section
variable {X : Cx} {C : DC}
theorem _root_.L2.PE.imp {e : Expr} {t t' : TE} (h : PE X e t) (k : ∀ σ H Q, t' σ H Q → t σ H Q) : PE X e t' := ⟨fun pins s σ H Q I x => h.run pins s σ H Q I (k σ H Q x)⟩
theorem _root_.L2.PT.imp {e : Expr} {t t' : TT} (h : PT X e t) (k : ∀ σ H Q, t' σ H Q → t σ H Q) : PT X e t' := ⟨fun pins s σ H Q I x => h.run pins s σ H Q I (k σ H Q x)⟩
theorem _root_.L2.PW.imp {e : Expr} {t t' : TT} (h : PW X e t) (k : ∀ σ H Q, t' σ H Q → t σ H Q) : PW X e t' := ⟨fun wh pins s σ H Q I x => h.run wh pins s σ H Q I (k σ H Q x)⟩
theorem _root_.L2.PA.imp {e : List Expr} {t t' : TA} (h : PA X e t) (k : ∀ σ H Q, t' σ H Q → t σ H Q) : PA X e t' := ⟨fun pos pins s σ H Q I x => h.run pos pins s σ H Q I (k σ H Q x)⟩
theorem de_pv {x : Str} {i : Nat} {pos : Pos} (h : PE X (.Name x pos) (tVar i)) : PE X (.Name x pos) (tE C (dVar i)) := h.imp fun σ H Q ⟨hid, ρ, q, hp, sr, a, k⟩ => by
  unfold dVar at a
  split at a
  · rename_i y e
    obtain ⟨v, h1, h2⟩ := sr.at' i y e
    exact ⟨v, h1, k v y H .refl hp h2 a⟩
  · exact a.elim
theorem de_c {e : Expr} {v : V} {x : PyData} (h : PE X e (tC v)) (r : ∀ H, Dd C.K H v x) : PE X e (tE C (dC x)) := h.imp fun σ H Q ⟨hid, ρ, q, hp, sr, a, k⟩ => k v (.d x) H .refl hp (r _) a
theorem de_int {i j pos} : PE X (.Constant (.int i) j pos) (tE C (dC (.int i))) := de_c pe_int fun _ => .int i
theorem de_bl {i j pos} : PE X (.Constant (.bool i) j pos) (tE C (dC (.bool i))) := de_c pe_bl fun _ => .bl i
theorem de_non {j pos} : PE X (.Constant .none j pos) (tE C (dC .none)) := de_c pe_non fun _ => .non
theorem de_str {x j pos} (h : PyData.strOk x = true := by decide +kernel) : PE X (.Constant (.str x) j pos) (tE C (dC (.str x))) := de_c pe_str fun _ => .str x h
theorem de_fn {x : Str} {pos : Pos} (hg : Gl X x) (hm : X.mg x = some (.ref (He.ga C.K x))) (hd : (x == ("__debug__" : Str)) = false := by decide) : PE X (.Name x pos) (tE C (dFn x)) :=
  (pe_glob (v := .ref (He.ga C.K x)) hg hm rfl hd).imp fun σ H Q ⟨hid, ρ, q, hp, sr, a, k⟩ => k _ (.fn x) H .refl hp rfl a
theorem de_nil : PA X [] (tAs C 0 dNil) := pa_nil.imp fun σ H Q ⟨hid, ρ, q, hp, sr, a, k⟩ => k [] [] H .refl hp .nil rfl a
theorem de_cons {e : Expr} {es : List Expr} {n : Nat} {A : DE} {B : DAs} (ha : PE X e (tE C A)) (hb : PA X es (tAs C n B)) (he : starEach (e :: es) X.env = (false, eval e X.env) :: starEach es X.env := by rfl) : PA X (e :: es) (tAs C (n + 1) (dCons A B)) :=
  (pa_cons ha hb he).imp fun σ H Q ⟨hid, ρ, q, hp, sr, a, k⟩ => ⟨hid, ρ, _, hp, sr, a, fun v x H1 e1 o1 r1 a1 => ⟨hid, ρ, _, o1, sr.ext e1 hp, a1, fun vs xs H2 e2 o2 r2 l2 a2 => k _ (x :: xs) H2 (e1.trans e2) o2 (.cons (r1.ext e2 o1) r2) (by rw [List.length_cons, l2]) a2⟩⟩
theorem op_both {r : R2} {f : Dv → Dv → (Dv → Prop) → Prop} {A B : DE} (hr : ∀ x y H Q, rD C f x y H Q → r x y H Q) (σ : L2.St) (H : Hp) (Q : VK) : tE C (dOp f A B) σ H Q → tOp r (tE C A) (tE C B) σ H Q :=
  fun ⟨hid, ρ, q, hp, sr, a, k⟩ => ⟨hid, ρ, _, hp, sr, a, fun v x H1 e1 o1 r1 a1 => ⟨hid, ρ, _, o1, sr.ext e1 hp, a1, fun w y H2 e2 o2 r2 a2 => hr _ _ _ _ ⟨hid, x, y, q, o2, r1.ext e2 o1, r2, a2, fun z d H3 e3 => k z d H3 (e1.trans (e2.trans e3))⟩⟩⟩
theorem de_op {a b : Expr} {pos : Pos} {op : Operator} {f : Dv → Dv → (Dv → Prop) → Prop} {A B : DE} (ho : OpR X (binaryOp op) (rD C f)) (ha : PE X a (tE C A)) (hb : PE X b (tE C B)) : PE X (.BinOp a op b pos) (tE C (dOp f A B)) :=
  (pe_op ho ha hb).imp (op_both fun _ _ _ _ h => h)
theorem de_cmp {a b : Expr} {pos : Pos} {op : CmpOp} {f : Dv → Dv → (Dv → Prop) → Prop} {A B : DE} (ho : OpR X (compareOp op) (rD C f)) (ha : PE X a (tE C A)) (hb : PE X b (tE C B)) (hm : behindInMarks op b = false := by rfl) : PE X (.Compare a [op] [b] pos) (tE C (dOp f A B)) :=
  (pe_cmpR ho ha hb hm).imp (op_both fun _ _ _ _ h => h)
theorem de_un {a : Expr} {pos : Pos} {op : UnaryOp} {f : Dv → (Dv → Prop) → Prop} {A : DE} (ho : UnR X (unaryOp op) (rU1 C f)) (ha : PE X a (tE C A)) : PE X (.UnaryOp op a pos) (tE C (dUn f A)) :=
  (pe_un ho ha).imp fun σ H Q ⟨hid, ρ, q, hp, sr, a, k⟩ => ⟨hid, ρ, _, hp, sr, a, fun v x H1 e1 o1 r1 a1 => ⟨hid, x, q, o1, r1, a1, fun z d H3 e3 => k z d H3 (e1.trans e3)⟩⟩
theorem of_onB {hid : List Addr} {H : Hp} {v : V} {x : Dv} {q : Bool → Prop} (r : VR C hid H v x) (h : onB x q) : ∃ b, v = .bl b ∧ x = .d (.bool b) ∧ q b := by
  unfold onB at h
  split at h
  · rename_i b
    cases r
    exact ⟨b, rfl, rfl, h⟩
  · exact h.elim
theorem dt_val {e : Expr} {A : DE} (h : PE X e (tE C A)) (hs : ∀ whole : Sem Value, isTrue e X.env whole = (do let v ← whole; standAt e.pos; holding [v] (truthy v)) := by intro _; rfl) : PT X e (tT C (dB A)) :=
  (pt_val h hs).imp fun σ H Q ⟨hid, ρ, q, hp, sr, a, k⟩ => ⟨hid, ρ, _, hp, sr, a, fun v x H1 e1 o1 r1 a1 => by
    obtain ⟨b, rfl, _, a2⟩ := of_onB r1 a1
    exact ⟨b, rfl, k b H1 e1 o1 a2⟩⟩
theorem dt_not {a : Expr} {pos : Pos} {B : DT} (h : PT X a (tT C B)) : PT X (.UnaryOp .Not a pos) (tT C (dNot B)) :=
  (pt_not h).imp fun σ H Q ⟨hid, ρ, q, hp, sr, a, k⟩ => ⟨hid, ρ, _, hp, sr, a, fun b H1 e1 o1 a1 => k _ H1 e1 o1 a1⟩
theorem dw_and {a b : Expr} {rest : List Expr} {pos : Pos} {A B : DT} (ha : PT X a (tT C A)) (hb : PW X (.BoolOp .And (b :: rest) pos) (tT C B)) : PW X (.BoolOp .And (a :: b :: rest) pos) (tT C (dAndT A B)) :=
  (pw_and ha hb).imp fun σ H Q ⟨hid, ρ, q, hp, sr, a, k⟩ => ⟨hid, ρ, _, hp, sr, a, fun b H1 e1 o1 a1 => by
    cases b with
    | true => exact ⟨hid, ρ, q, o1, sr.ext e1 hp, a1, fun b H2 e2 => k b H2 (e1.trans e2)⟩
    | false => exact k false H1 e1 o1 a1⟩
theorem dw_or {a b : Expr} {rest : List Expr} {pos : Pos} {A B : DT} (ha : PT X a (tT C A)) (hb : PW X (.BoolOp .Or (b :: rest) pos) (tT C B)) : PW X (.BoolOp .Or (a :: b :: rest) pos) (tT C (dOrT A B)) :=
  (pw_or ha hb).imp fun σ H Q ⟨hid, ρ, q, hp, sr, a, k⟩ => ⟨hid, ρ, _, hp, sr, a, fun b H1 e1 o1 a1 => by
    cases b with
    | true => exact k true H1 e1 o1 a1
    | false => exact ⟨hid, ρ, q, o1, sr.ext e1 hp, a1, fun b H2 e2 => k b H2 (e1.trans e2)⟩⟩
theorem de_and {a b : Expr} {rest : List Expr} {pos : Pos} {A B : DE} (ha : PE X a (tE C A)) (hb : PE X (.BoolOp .And (b :: rest) pos) (tE C B)) : PE X (.BoolOp .And (a :: b :: rest) pos) (tE C (dAnd A B)) :=
  (pe_and ha hb).imp fun σ H Q ⟨hid, ρ, q, hp, sr, a, k⟩ => ⟨hid, ρ, _, hp, sr, a, fun v x H1 e1 o1 r1 a1 => by
    obtain ⟨b, rfl, _, a1⟩ := of_onB r1 a1
    refine ⟨b, rfl, ?_⟩
    cases b with
    | true => exact ⟨hid, ρ, q, o1, sr.ext e1 hp, a1, fun v x H2 e2 => k v x H2 (e1.trans e2)⟩
    | false => exact k _ (.d (.bool false)) H1 e1 o1 (Dd.bl false) a1⟩
theorem de_or {a b : Expr} {rest : List Expr} {pos : Pos} {A B : DE} (ha : PE X a (tE C A)) (hb : PE X (.BoolOp .Or (b :: rest) pos) (tE C B)) : PE X (.BoolOp .Or (a :: b :: rest) pos) (tE C (dOr A B)) :=
  (pe_or ha hb).imp fun σ H Q ⟨hid, ρ, q, hp, sr, a, k⟩ => ⟨hid, ρ, _, hp, sr, a, fun v x H1 e1 o1 r1 a1 => by
    obtain ⟨b, rfl, _, a1⟩ := of_onB r1 a1
    refine ⟨b, rfl, ?_⟩
    cases b with
    | true => exact k _ (.d (.bool true)) H1 e1 o1 (Dd.bl true) a1
    | false => exact ⟨hid, ρ, q, o1, sr.ext e1 hp, a1, fun v x H2 e2 => k v x H2 (e1.trans e2)⟩⟩
theorem de_not {a : Expr} {pos : Pos} {A : DE} (h : PE X a (tE C A)) : PE X (.UnaryOp .Not a pos) (tE C (dNotE A)) :=
  (pe_not h).imp fun σ H Q ⟨hid, ρ, q, hp, sr, a, k⟩ => ⟨hid, ρ, _, hp, sr, a, fun v x H1 e1 o1 r1 a1 => by
    obtain ⟨b, rfl, _, a1⟩ := of_onB r1 a1
    exact ⟨b, rfl, k _ (.d (.bool (!b))) H1 e1 o1 (Dd.bl _) a1⟩⟩
theorem de_ifE {c a b : Expr} {pos : Pos} {T : DT} {A B : DE} (hc : PT X c (tT C T)) (ha : PE X a (tE C A)) (hb : PE X b (tE C B)) : PE X (.IfExp c a b pos) (tE C (dIfE T A B)) :=
  (pe_ifExp hc ha hb).imp fun σ H Q ⟨hid, ρ, q, hp, sr, a, k⟩ => ⟨hid, ρ, _, hp, sr, a, fun b H1 e1 o1 a1 => by
    cases b with
    | true => exact ⟨hid, ρ, q, o1, sr.ext e1 hp, a1, fun v x H2 e2 => k v x H2 (e1.trans e2)⟩
    | false => exact ⟨hid, ρ, q, o1, sr.ext e1 hp, a1, fun v x H2 e2 => k v x H2 (e1.trans e2)⟩⟩
theorem datas_map : ∀ {xs : List Dv} {l : List PyData}, datas xs = some l → xs = l.map Dv.d
  | [], l, h => by cases h; rfl
  | .d x :: r, l, h => by
    unfold datas at h
    split at h
    · rename_i m e
      cases h
      rw [List.map_cons, datas_map e]
    · cases h
  | .cup :: _, l, h => by cases h
  | .fn _ :: _, l, h => by cases h
  | .own _ :: _, l, h => by cases h
  | .ty _ :: _, l, h => by cases h
  | .dc _ :: _, l, h => by cases h
  | .od _ :: _, l, h => by cases h
  | .ex _ :: _, l, h => by cases h
theorem of_onDs {xs : List Dv} {q : List PyData → Prop} (h : onDs xs q) : ∃ l, xs = l.map Dv.d ∧ q l := by
  unfold onDs at h
  split at h
  · rename_i l e
    exact ⟨l, datas_map e, h⟩
  · exact h.elim
theorem VRs.dd {hid : List Addr} {H : Hp} : ∀ {vs : List V} {ds : List PyData}, VRs C hid H vs (ds.map Dv.d) → DdAll C.K (hide hid H) vs ds
  | [], [], _ => .nil
  | _ :: _, [], h => by cases h
  | [], _ :: _, h => by cases h
  | _ :: _, _ :: _, h => by
    cases h with
    | cons a b => exact .cons a (VRs.dd b)
/-- a new list, a new tuple -/
theorem new_tup {hid : List Addr} {H : Hp} {vs : List V} {ds : List PyData} (hp : HpOk C hid H) (h : DdAll C.K (hide hid H) vs ds) {p : Addr} (np : H p = none) : VR C hid (upd H p (.tup vs)) (.ref p) (.d (.tuple ds)) :=
  .tup (SqH.of (hide_of (hp.newNo np) upd_same)) (DdAll.mono (Ext.mono (Ext.new np _) hp) _ _ h)
theorem new_lst {hid : List Addr} {H : Hp} {vs : List V} {ds : List PyData} (hp : HpOk C hid H) (h : DdAll C.K (hide hid H) vs ds) {p : Addr} (np : H p = none) : VR C hid (upd H p (.lst vs)) (.ref p) (.d (.list ds)) :=
  .lst (hide_of (hp.newNo np) upd_same) (DdAll.mono (Ext.mono (Ext.new np _) hp) _ _ h)
theorem de_tup {es : List Expr} {n : Nat} {A : DAs} {pos : Pos} {x1 : Nat} (h : PA X es (tAs C n A)) (hn : n ≤ 1000 := by decide) : PE X (.Tuple es x1 pos) (tE C (dTup A)) :=
  (pe_tup h).imp fun σ H Q ⟨hid, ρ, q, hp, sr, a, k⟩ => ⟨hid, ρ, _, hp, sr, a, fun vs xs H1 e1 o1 r1 l1 a1 => by
    obtain ⟨l, rfl, a2⟩ := of_onDs a1
    refine ⟨by rw [r1.len, l1]; exact Nat.le_trans hn (by decide), fun p np => ?_⟩
    exact k _ _ _ (e1.trans (Ext.new np _)) (o1.new np _) (new_tup o1 r1.dd np) a2⟩
theorem de_lst {es : List Expr} {n : Nat} {A : DAs} {pos : Pos} (h : PA X es (tAs C n A)) (hn : n ≤ 1000 := by decide) : PE X (.List es pos) (tE C (dLst A)) :=
  (pe_lst h).imp fun σ H Q ⟨hid, ρ, q, hp, sr, a, k⟩ => ⟨hid, ρ, _, hp, sr, a, fun vs xs H1 e1 o1 r1 l1 a1 => by
    obtain ⟨l, rfl, a2⟩ := of_onDs a1
    refine ⟨by rw [r1.len, l1]; exact Nat.le_trans hn (by decide), fun p np => ?_⟩
    exact k _ _ _ (e1.trans (Ext.new np _)) (o1.new np _) (new_lst o1 r1.dd np) a2⟩
end
end Dl

set_option Elab.async false
set_option linter.all false
set_option maxRecDepth 100000
set_option maxHeartbeats 1000000
namespace Dl
open PySem PySem.Spec PyProof.Rows L2
/-! ### statements -/
def notOwn : Dv → Prop
  | .own _ => False
  | .od _ => False
  | _ => True
structure StOk (C : DC) (hid : List Addr) (σ : L2.St) (H : Hp) (ρ : Rho) : Prop where
  hp : HpOk C hid H
  sr : SR C hid σ H ρ
  inj : ∀ (i j : Nat) (x y : Dv) (v : V), i ≠ j → ρ[i]? = some (some x) → ρ[j]? = some (some y) → ¬ notOwn x → ¬ notOwn y → σ[i]? = some (some v) → σ[j]? ≠ some (some v)
/-- from one state of the heap to another: what isn't hidden stays, what comes to be hidden is new -/
structure Stp (hid : List Addr) (H : Hp) (hid' : List Addr) (H' : Hp) : Prop where
  fz : ∀ b o, b ∉ hid → H b = some o → (∀ ps, o ≠ .tbl ps) → H' b = some o
  fr : ∀ b ∈ hid', b ∈ hid ∨ Fr H b
theorem Stp.refl {hid : List Addr} {H : Hp} : Stp hid H hid H := ⟨fun _ _ _ h _ => h, fun _ h => .inl h⟩
theorem Stp.trans {h0 h1 h2 : List Addr} {H0 H1 H2 : Hp} (a : Stp h0 H0 h1 H1) (b : Stp h1 H1 h2 H2) : Stp h0 H0 h2 H2 where
  fz := fun x o n e k => by
    refine b.fz x o (fun z => ?_) (a.fz x o n e k) k
    rcases a.fr x z with q | q
    · exact n q
    · obtain ⟨ps, hps⟩ := q o e
      exact k ps hps
  fr := fun x hx => by
    rcases b.fr x hx with q | q
    · exact a.fr x q
    · by_cases n : x ∈ h0
      · exact .inl n
      · refine .inr fun o e => ?_
        refine Classical.byContradiction fun c => ?_
        have k : ∀ ps, o ≠ .tbl ps := fun ps z => c ⟨ps, z⟩
        exact c (q o (a.fz x o n e k))
theorem Stp.ext {C : DC} {hid : List Addr} {H H' : Hp} (x : Ext C.c H H') (h : HpOk C hid H) : Stp hid H hid H' :=
  ⟨fun b o n e k => x b o (fun z => n (h.cup b z).1) e k, fun _ h => .inl h⟩
theorem Stp.mono {hid hid' : List Addr} {H H' : Hp} (s : Stp hid H hid' H') : Mono (hide hid H) (hide hid' H') := fun b o e k => by
  obtain ⟨h1, h2⟩ := hide_some e
  refine hide_of (fun z => ?_) (s.fz b o h1 h2 k)
  rcases s.fr b z with q | q
  · exact h1 q
  · obtain ⟨ps, hps⟩ := q o h2
    exact k ps hps
theorem StOk.ext {C : DC} {hid : List Addr} {σ : L2.St} {H H' : Hp} {ρ : Rho} (s : StOk C hid σ H ρ) (x : Ext C.c H H') (h : HpOk C hid H') : StOk C hid σ H' ρ := ⟨h, s.sr.ext x s.hp, s.inj⟩
/-- what is wanted behind a statement, told of data, is what is wanted -/
structure EndsR (C : DC) (hid : List Addr) (H : Hp) (d : DEnds) (D : Ends) : Prop where
  nx : ∀ hid' σ' H' ρ', StOk C hid' σ' H' ρ' → Stp hid H hid' H' → d.nx ρ' → D.nx σ' H'
  bk : ∀ hid' σ' H' ρ', StOk C hid' σ' H' ρ' → Stp hid H hid' H' → d.bk ρ' → D.bk σ' H'
  ct : ∀ hid' σ' H' ρ', StOk C hid' σ' H' ρ' → Stp hid H hid' H' → d.ct ρ' → D.ct σ' H'
  rt : ∀ v x hid' H', HpOk C hid' H' → VR C hid' H' v x → notOwn x → d.rt x → D.rt v H'
theorem EndsR.step {C : DC} {hid hid1 : List Addr} {H H1 : Hp} {d : DEnds} {D : Ends} (e : EndsR C hid H d D) (s : Stp hid H hid1 H1) : EndsR C hid1 H1 d D :=
  ⟨fun h σ' H' ρ' a b => e.nx h σ' H' ρ' a (s.trans b), fun h σ' H' ρ' a b => e.bk h σ' H' ρ' a (s.trans b), fun h σ' H' ρ' a b => e.ct h σ' H' ρ' a (s.trans b), e.rt⟩
def tS (C : DC) (S : DS) : TS := fun D σ H => ∃ hid ρ d, StOk C hid σ H ρ ∧ S d ρ ∧ EndsR C hid H d D
def dNext (d : DEnds) (ρ : Rho) : Prop := d.nx ρ
def dSeq (s t : DS) (d : DEnds) (ρ : Rho) : Prop := s { d with nx := t d } ρ
def dIf (c : DT) (s t : DS) (d : DEnds) (ρ : Rho) : Prop := c ρ fun b => br b (s d ρ) (t d ρ)
def onOwn (x : Dv) (p : Prop) : Prop := match x with
  | .own _ => False
  | .od _ => False
  | _ => p
def dSet (i : Nat) (A : DE) (d : DEnds) (ρ : Rho) : Prop := A ρ fun x => onOwn x (d.nx (ρ.set i (some x)))
def dOwnL (i : Nat) (A : DAs) (d : DEnds) (ρ : Rho) : Prop := A ρ fun xs => onDs xs fun l => d.nx (ρ.set i (some (.own l)))
def onD (x : Dv) (q : PyData → Prop) : Prop := match x with
  | .d y => q y
  | _ => False
def dApp (i : Nat) (A : DE) (d : DEnds) (ρ : Rho) : Prop := match ρ[i]? with
  | some (some (.own xs)) => A ρ fun y => onD y fun y => xs.length ≤ 1000000 ∧ d.nx (ρ.set i (some (.own (xs ++ [y]))))
  | _ => False
/-- a list of one's own is data from here on -/
def frz (ρ : Rho) (i : Nat) : Rho := match ρ[i]? with
  | some (some (.own xs)) => ρ.set i (some (.d (.list xs)))
  | some (some (.od xs)) => ρ.set i (some (.dc xs))
  | _ => ρ
def dFrz (i : Nat) (s : DS) (d : DEnds) (ρ : Rho) : Prop := s d (frz ρ i)
def retD (x : Dv) (q : Dv → Prop) : Prop := match x with
  | .own l => q (.d (.list l))
  | .od l => q (.dc l)
  | x => q x
def dRet (A : DE) (d : DEnds) (ρ : Rho) : Prop := A ρ fun x => retD x d.rt
def dRetN (d : DEnds) (_ : Rho) : Prop := d.rt (.d .none)
def dDrop (A : DE) (d : DEnds) (ρ : Rho) : Prop := A ρ fun _ => d.nx ρ
def dBreak (d : DEnds) (ρ : Rho) : Prop := d.bk ρ
def dCont (d : DEnds) (ρ : Rho) : Prop := d.ct ρ
def dRaise (cl : Str) (er : Str → Prop) (_ : DEnds) (_ : Rho) : Prop := er cl
theorem of_onOwn {x : Dv} {p : Prop} (h : onOwn x p) : notOwn x ∧ p := by
  cases x with
  | own _ => exact h.elim
  | od _ => exact h.elim
  | _ => exact ⟨trivial, h⟩
theorem of_onD {x : Dv} {q : PyData → Prop} (h : onD x q) : ∃ y, x = .d y ∧ q y := by
  cases x with
  | d y => exact ⟨y, rfl, h⟩
  | _ => exact h.elim
theorem _root_.L2.PS.imp {X : Cx} {e : Stmt} {t t' : TS} (h : PS X e t) (k : ∀ D σ H, t' D σ H → t D σ H) : PS X e t' := ⟨fun pins s σ H D I x => h.run pins s σ H D I (k D σ H x)⟩
theorem _root_.L2.PSs.imp {X : Cx} {e : List Stmt} {t t' : TS} (h : PSs X e t) (k : ∀ D σ H, t' D σ H → t D σ H) : PSs X e t' := ⟨fun pins s σ H D I x => h.run pins s σ H D I (k D σ H x)⟩
theorem get_set {α : Type} {l : List (Option α)} {i j : Nat} {x y : α} (h : (l.set i (some x))[j]? = some (some y)) : (i = j ∧ i < l.length ∧ x = y) ∨ (i ≠ j ∧ l[j]? = some (some y)) := by
  rw [List.getElem?_set] at h
  by_cases e : i = j
  · rw [if_pos e] at h
    by_cases k : i < l.length
    · rw [if_pos k] at h
      exact .inl ⟨e, k, Option.some.inj (Option.some.inj h)⟩
    · rw [if_neg k] at h; cases h
  · rw [if_neg e] at h
    exact .inr ⟨e, h⟩
theorem set_get {α : Type} {l : List (Option α)} {i : Nat} {x : α} (h : i < l.length) : (l.set i (some x))[i]? = some (some x) := by
  rw [List.getElem?_set, if_pos rfl, if_pos h]
theorem set_ne {α : Type} {l : List (Option α)} {i j : Nat} {x : α} (h : i ≠ j) : (l.set i (some x))[j]? = l[j]? := by
  rw [List.getElem?_set, if_neg h]
theorem SR.set {C : DC} {hid : List Addr} {σ : L2.St} {H : Hp} {ρ : Rho} (s : SR C hid σ H ρ) {v : V} {x : Dv} (r : VR C hid H v x) (i : Nat) : SR C hid (σ.set i (some v)) H (ρ.set i (some x)) where
  len := by rw [List.length_set, List.length_set]; exact s.len
  at' := fun j y e => by
    rcases get_set e with ⟨rfl, k, rfl⟩ | ⟨n, e⟩
    · exact ⟨v, set_get (by rw [s.len]; exact k), r⟩
    · obtain ⟨u, h1, h2⟩ := s.at' j y e
      exact ⟨u, by rw [set_ne n]; exact h1, h2⟩
theorem StOk.set {C : DC} {hid : List Addr} {σ : L2.St} {H : Hp} {ρ : Rho} (s : StOk C hid σ H ρ) {v : V} {x : Dv} (r : VR C hid H v x) (no : notOwn x) (i : Nat) : StOk C hid (σ.set i (some v)) H (ρ.set i (some x)) where
  hp := s.hp
  sr := s.sr.set r i
  inj := fun a b xs ys w n ea eb nx ny sa => by
    rcases get_set ea with ⟨_, _, rfl⟩ | ⟨na, ea⟩
    · exact (nx no).elim
    · rcases get_set eb with ⟨_, _, rfl⟩ | ⟨nb, eb⟩
      · exact (ny no).elim
      · rw [set_ne na] at sa
        rw [set_ne nb]
        exact s.inj a b xs ys w n ea eb nx ny sa
/-- with fewer hidden, what is no list of one's own is as before -/
theorem VR.less {C : DC} {hid hid' : List Addr} {H : Hp} (h : ∀ a ∈ hid', a ∈ hid) {v : V} : ∀ {x : Dv}, notOwn x → VR C hid H v x → VR C hid' H v x
  | .d _, _, k => Dd.mono (fun b o e _ => by
      obtain ⟨h1, h2⟩ := hide_some e
      exact hide_of (fun z => h1 (h b z)) h2) _ _ k
  | .cup, _, k => k
  | .fn _, _, k => k
  | .ty _, _, k => k
  | .ex _, _, k => k
  | .dc _, _, ⟨p, es, h1, h2, k⟩ => by
    have m : Mono (hide hid H) (hide hid' H) := fun b o e _ => by
      obtain ⟨h1, h2⟩ := hide_some e
      exact hide_of (fun z => h1 (h b z)) h2
    exact ⟨p, es, h1, m p _ h2 (fun _ z => by cases z), k.mono m⟩
section
variable {X : Cx} {C : DC}
theorem ds_nil : PSs X [] (tS C dNext) := pss_nil.imp fun D σ H ⟨hid, ρ, d, so, s, e⟩ => e.nx hid σ H ρ so .refl s
theorem ds_one {st : Stmt} {s : DS} (h : PS X st (tS C s)) : PSs X [st] (tS C s) := pss_one h
theorem ds_cons {st : Stmt} {rest : List Stmt} {s t : DS} (h : PS X st (tS C s)) (k : PSs X rest (tS C t)) : PSs X (st :: rest) (tS C (dSeq s t)) :=
  (pss_cons h k).imp fun D σ H ⟨hid, ρ, d, so, s, e⟩ => ⟨hid, ρ, _, so, s, ⟨fun hid' σ' H' ρ' so' st' n => ⟨hid', ρ', d, so', n, e.step st'⟩, e.bk, e.ct, e.rt⟩⟩
theorem ds_if {pos : Pos} {c : Expr} {a b : List Stmt} {T : DT} {s t : DS} (hc : PT X c (tT C T)) (ha : PSs X a (tS C s)) (hb : PSs X b (tS C t)) : PS X (.If c a b pos) (tS C (dIf T s t)) :=
  (ps_if hc ha hb).imp fun D σ H ⟨hid, ρ, d, so, s, e⟩ => ⟨hid, ρ, _, so.hp, so.sr, s, fun b H1 e1 o1 a1 => by
    cases b with
    | true => exact ⟨hid, ρ, d, so.ext e1 o1, a1, e.step (Stp.ext e1 so.hp)⟩
    | false => exact ⟨hid, ρ, d, so.ext e1 o1, a1, e.step (Stp.ext e1 so.hp)⟩⟩
theorem ds_pass {pos : Pos} : PS X (.Pass pos) (tS C dNext) := ps_pass.imp fun D σ H ⟨hid, ρ, d, so, s, e⟩ => e.nx hid σ H ρ so .refl s
theorem ds_break {pos : Pos} : PS X (.Break pos) (tS C dBreak) := ps_break.imp fun D σ H ⟨hid, ρ, d, so, s, e⟩ => e.bk hid σ H ρ so .refl s
theorem ds_expr {e : Expr} {A : DE} {pos : Pos} (h : PE X e (tE C A)) (hs : swapsWith e none pos.line X.env = pure false := by rfl) : PS X (.Expr e pos) (tS C (dDrop A)) :=
  (ps_expr h hs).imp fun D σ H ⟨hid, ρ, d, so, s, e⟩ => ⟨hid, ρ, _, so.hp, so.sr, s, fun v x H1 e1 o1 r1 a1 => e.nx hid σ H1 ρ (so.ext e1 o1) (Stp.ext e1 so.hp) a1⟩
theorem ds_retN {pos : Pos} : PS X (.Return none pos) (tS C dRetN) := ps_retN.imp fun D σ H ⟨hid, ρ, d, so, s, e⟩ => e.rt .non (.d .none) hid H so.hp Dd.non trivial s
theorem own_dd {hid : List Addr} {H : Hp} {v : V} {l : List PyData} (h : HpOk C hid H) (r : VR C hid H v (.own l)) : ∃ hid', HpOk C hid' H ∧ VR C hid' H v (.d (.list l)) := by
  obtain ⟨p, vs, rfl, h1, h2, ⟨h3, h3'⟩, h4, h5⟩ := r
  have sub : ∀ a ∈ hid.filter (fun a => decide (a ≠ p)), a ∈ hid := fun a ha => (List.mem_filter.mp ha).1
  refine ⟨hid.filter (fun a => decide (a ≠ p)), ⟨h.tabs, fun a e => ⟨List.mem_filter.mpr ⟨(h.cup a e).1, decide_eq_true fun z => h2 (by rw [e, z])⟩, (h.cup a e).2⟩, fun a ha => h.some a (sub a ha), fun a ha => List.mem_filter.mpr ⟨h.sub a ha, decide_eq_true fun z => h3 (z ▸ ha)⟩, h.ext⟩, ?_⟩
  refine .lst (hide_of (fun z => ?_) h4) (DdAll.mono (fun b o e _ => ?_) _ _ h5)
  · have := (List.mem_filter.mp z).2
    simp at this
  · obtain ⟨k1, k2⟩ := hide_some e
    exact hide_of (fun z => k1 (sub b z)) k2
theorem own_dc {hid : List Addr} {H : Hp} {v : V} {l : List (Str × PyData)} (h : HpOk C hid H) (r : VR C hid H v (.od l)) : ∃ hid', HpOk C hid' H ∧ VR C hid' H v (.dc l) := by
  obtain ⟨p, es, rfl, h1, h2, ⟨h3, h3'⟩, h4, h5⟩ := r
  have sub : ∀ a ∈ hid.filter (fun a => decide (a ≠ p)), a ∈ hid := fun a ha => (List.mem_filter.mp ha).1
  refine ⟨hid.filter (fun a => decide (a ≠ p)), ⟨h.tabs, fun a e => ⟨List.mem_filter.mpr ⟨(h.cup a e).1, decide_eq_true fun z => h2 (by rw [e, z])⟩, (h.cup a e).2⟩, fun a ha => h.some a (sub a ha), fun a ha => List.mem_filter.mpr ⟨h.sub a ha, decide_eq_true fun z => h3 (z ▸ ha)⟩, h.ext⟩, ?_⟩
  refine ⟨p, es, rfl, hide_of (fun z => ?_) h4, DvK.mono (fun b o e _ => ?_) h5⟩
  · have := (List.mem_filter.mp z).2
    simp at this
  · obtain ⟨k1, k2⟩ := hide_some e
    exact hide_of (fun z => k1 (sub b z)) k2
theorem ds_ret {e : Expr} {A : DE} {pos : Pos} (h : PE X e (tE C A)) : PS X (.Return (some e) pos) (tS C (dRet A)) :=
  (ps_ret h).imp fun D σ H ⟨hid, ρ, d, so, s, e⟩ => ⟨hid, ρ, _, so.hp, so.sr, s, fun v x H1 e1 o1 r1 a1 => by
    cases x with
    | own l =>
      obtain ⟨hid', h1, h2⟩ := own_dd o1 r1
      exact e.rt v _ hid' H1 h1 h2 trivial a1
    | d y => exact e.rt v (.d y) hid H1 o1 r1 trivial a1
    | cup => exact e.rt v .cup hid H1 o1 r1 trivial a1
    | fn y => exact e.rt v (.fn y) hid H1 o1 r1 trivial a1
    | ty y => exact e.rt v (.ty y) hid H1 o1 r1 trivial a1
    | ex y => exact e.rt v (.ex y) hid H1 o1 r1 trivial a1
    | dc y => exact e.rt v (.dc y) hid H1 o1 r1 trivial a1
    | od l =>
      obtain ⟨hid', h1, h2⟩ := own_dc o1 r1
      exact e.rt v _ hid' H1 h1 h2 trivial a1⟩
theorem ds_set {pos : Pos} {i : Nat} {x : Str} {e : Expr} {A : DE} {pos' : Pos} (hN : X.N.Nodup) (hi : X.N[i]? = some x) (hl : L2.Loc X.env.scope x) (h : PE X e (tE C A)) (hs : swapsWith e (some (.Name x pos')) pos.line X.env = pure false := by rfl)
    (hf : X.fn x = true ∨ X.env.scope.names.lookup x = some .local := by first | exact Or.inl rfl | exact Or.inr rfl) : PS X (.Assign [.Name x pos'] e pos) (tS C (dSet i A)) :=
  (ps_set hN hi hl h hs hf).imp fun D σ H ⟨hid, ρ, d, so, s, e⟩ => ⟨hid, ρ, _, so.hp, so.sr, s, fun v y H1 e1 o1 r1 a1 => by
    obtain ⟨no, a1⟩ := of_onOwn a1
    exact e.nx hid _ H1 _ ((so.ext e1 o1).set r1 no i) (Stp.ext e1 so.hp) a1⟩
theorem Fr.new {hid : List Addr} {H : Hp} (h : HpOk C hid H) {p : Addr} (np : H p = none) : Fr C.H0 p := fun o e => by
  refine Classical.byContradiction fun c => ?_
  have := h.ext p o (fun z => h.nn p (h.cup p z).1 np) e (fun ps z => c ⟨ps, z⟩)
  rw [np] at this
  cases this
/-- the object of what is one's own -/
inductive OwR (K : PySem.W.Frag) (H : Hp) : HO → Dv → Prop
  | lst {vs : List V} {xs : List PyData} : DdAll K H vs xs → OwR K H (.lst vs) (.own xs)
  | dic {es : List (Key × V)} {kvs : List (Str × PyData)} : DvK K H es kvs → OwR K H (.dK es) (.od kvs)
theorem OwR.ow {K : PySem.W.Frag} {H : Hp} {o : HO} {x : Dv} (h : OwR K H o x) : OwO o ∧ ¬ notOwn x ∧ ∀ ps, o ≠ .tbl ps := by
  cases h with
  | lst _ => exact ⟨trivial, fun z => z, fun _ z => by cases z⟩
  | dic _ => exact ⟨trivial, fun z => z, fun _ z => by cases z⟩
theorem OwR.mono {K : PySem.W.Frag} {H H' : Hp} (m : Mono H H') {o : HO} {x : Dv} (h : OwR K H o x) : OwR K H' o x := by
  cases h with
  | lst k => exact .lst (DdAll.mono m _ _ k)
  | dic k => exact .dic (DvK.mono m k)
theorem VR.owned {hid : List Addr} {H : Hp} {v : V} {x : Dv} (n : ¬ notOwn x) (r : VR C hid H v x) : ∃ p o, v = .ref p ∧ p ∈ hid ∧ C.c ≠ some p ∧ (p ∉ C.hid0 ∧ Fr C.H0 p) ∧ H p = some o ∧ OwR C.K (hide hid H) o x := by
  cases x with
  | own xs =>
    obtain ⟨p, vs, h1, h2, h3, h4, h5, h6⟩ := r
    exact ⟨p, .lst vs, h1, h2, h3, h4, h5, .lst h6⟩
  | od kvs =>
    obtain ⟨p, es, h1, h2, h3, h4, h5, h6⟩ := r
    exact ⟨p, .dK es, h1, h2, h3, h4, h5, .dic h6⟩
  | _ => exact (n trivial).elim
theorem VR.own_of {hid : List Addr} {H : Hp} {p : Addr} {o : HO} {x : Dv} (h2 : p ∈ hid) (h3 : C.c ≠ some p) (h4 : p ∉ C.hid0 ∧ Fr C.H0 p) (h5 : H p = some o) (h6 : OwR C.K (hide hid H) o x) : VR C hid H (.ref p) x := by
  cases h6 with
  | lst k => exact ⟨p, _, rfl, h2, h3, h4, h5, k⟩
  | dic k => exact ⟨p, _, rfl, h2, h3, h4, h5, k⟩
theorem VR.free {hid hid' : List Addr} {H H' : Hp} {v : V} (m : Mono (hide hid H) (hide hid' H')) : ∀ {x : Dv}, notOwn x → VR C hid H v x → VR C hid' H' v x
  | .d _, _, k => Dd.mono m _ _ k
  | .cup, _, k => k
  | .fn _, _, k => k
  | .ty _, _, k => k
  | .ex _, _, k => k
  | .dc _, _, ⟨p, es, h1, h2, k⟩ => ⟨p, es, h1, m p _ h2 (fun _ z => by cases z), DvK.mono m k⟩
theorem own_dec (x : Dv) : notOwn x ∨ ¬ notOwn x := by cases x <;> first | exact .inl trivial | exact .inr fun z => z
/-- a new object is one's own -/
theorem StOk.newOw {hid : List Addr} {σ : L2.St} {H : Hp} {ρ : Rho} (s : StOk C hid σ H ρ) {o : HO} {x : Dv} (k : OwR C.K (hide hid H) o x) {p : Addr} (np : H p = none) (i : Nat) :
    StOk C (p :: hid) (σ.set i (some (.ref p))) (upd H p o) (ρ.set i (some x)) ∧ Stp hid H (p :: hid) (upd H p o) := by
  have h := s.hp
  obtain ⟨k1, k2, _⟩ := k.ow
  have sp : Stp hid H (p :: hid) (upd H p o) := ⟨fun b u n e _ => by rw [upd_ne (ne_of_none e np)]; exact e, fun b hb => by
    rcases List.mem_cons.mp hb with rfl | hb
    · exact .inr (.of np)
    · exact .inl hb⟩
  have h1 := h.new np o
  have cp : C.c ≠ some p := fun z => h.nn p (h.cup p z).1 np
  have hp' : HpOk C (p :: hid) (upd H p o) := ⟨h1.tabs, fun a e => ⟨List.mem_cons_of_mem _ (h1.cup a e).1, (h1.cup a e).2⟩, fun a ha => by
    rcases List.mem_cons.mp ha with rfl | ha
    · exact ⟨o, upd_same, k1⟩
    · exact h1.some a ha, fun a ha => List.mem_cons_of_mem _ (h1.sub a ha), h1.ext⟩
  have vr : ∀ {v : V} {y : Dv}, VR C hid H v y → VR C (p :: hid) (upd H p o) v y := fun {v y} r => by
    rcases own_dec y with no | no
    · exact r.free sp.mono no
    · obtain ⟨a, u, rfl, e2, e3, e4, e5, e6⟩ := VR.owned no r
      exact VR.own_of (List.mem_cons_of_mem _ e2) e3 e4 (by rw [upd_ne (ne_of_none e5 np)]; exact e5) (e6.mono sp.mono)
  have ownne : ∀ (j : Nat) y, ρ[j]? = some (some y) → ¬ notOwn y → σ[j]? ≠ some (some (.ref p)) := fun j y e no z => by
    obtain ⟨v, h2, h3⟩ := s.sr.at' j _ e
    rw [z] at h2
    obtain rfl := Option.some.inj (Option.some.inj h2)
    obtain ⟨a, u, e1, e2, _⟩ := VR.owned no h3
    cases e1
    exact h.nn p e2 np
  refine ⟨⟨hp', ?_, fun a b xs ys w n ea eb nx ny sa => ?_⟩, sp⟩
  · have sr0 : SR C (p :: hid) σ (upd H p o) ρ := ⟨s.sr.len, fun j y e => by
      obtain ⟨v, h2, h3⟩ := s.sr.at' j y e
      exact ⟨v, h2, vr h3⟩⟩
    exact sr0.set (x := x) (VR.own_of List.mem_cons_self cp ⟨fun z => h.nn p (h.sub p z) np, Fr.new h np⟩ upd_same (k.mono sp.mono)) i
  · rcases get_set ea with ⟨rfl, ka, _⟩ | ⟨na, ea⟩
    · rw [set_get (by rw [s.sr.len]; exact ka)] at sa
      obtain rfl := Option.some.inj (Option.some.inj sa)
      rcases get_set eb with ⟨rfl, _, _⟩ | ⟨nb, eb⟩
      · exact absurd rfl n
      · rw [set_ne nb]
        exact ownne b ys eb ny
    · rw [set_ne na] at sa
      rcases get_set eb with ⟨rfl, kb, _⟩ | ⟨nb, eb⟩
      · rw [set_get (by rw [s.sr.len]; exact kb)]
        intro z
        have z : V.ref p = w := Option.some.inj (Option.some.inj z)
        subst z
        exact ownne a xs ea nx sa
      · rw [set_ne nb]
        exact s.inj a b xs ys w n ea eb nx ny sa
theorem StOk.newOwn {hid : List Addr} {σ : L2.St} {H : Hp} {ρ : Rho} (s : StOk C hid σ H ρ) {vs : List V} {l : List PyData} (k : DdAll C.K (hide hid H) vs l) {p : Addr} (np : H p = none) (i : Nat) :
    StOk C (p :: hid) (σ.set i (some (.ref p))) (upd H p (.lst vs)) (ρ.set i (some (.own l))) ∧ Stp hid H (p :: hid) (upd H p (.lst vs)) := s.newOw (o := .lst vs) (x := .own l) (.lst k) np i
theorem ds_ownL {pos : Pos} {i n : Nat} {x : Str} {es : List Expr} {A : DAs} {pos' lpos : Pos} (hN : X.N.Nodup) (hi : X.N[i]? = some x) (hl : L2.Loc X.env.scope x) (h : PA X es (tAs C n A)) (hn : n ≤ 1000 := by decide) (hs : swapsWith (.List es lpos) (some (.Name x pos')) pos.line X.env = pure false := by rfl)
    (hf : X.fn x = true ∨ X.env.scope.names.lookup x = some .local := by first | exact Or.inl rfl | exact Or.inr rfl) : PS X (.Assign [.Name x pos'] (.List es lpos) pos) (tS C (dOwnL i A)) :=
  (ps_set hN hi hl (pe_lst h) hs hf).imp fun D σ H ⟨hid, ρ, d, so, s, e⟩ => ⟨hid, ρ, _, so.hp, so.sr, s, fun vs xs H1 e1 o1 r1 l1 a1 => by
    obtain ⟨l, rfl, a2⟩ := of_onDs a1
    refine ⟨by rw [r1.len, l1]; exact Nat.le_trans hn (by decide), fun p np => ?_⟩
    obtain ⟨s2, s3⟩ := (so.ext e1 o1).newOwn r1.dd np i
    exact e.nx _ _ _ _ s2 ((Stp.ext e1 so.hp).trans s3) a2⟩
theorem tabs_updO {T : Tbs} {a : Addr} {H : Hp} {u o : HO} (t : LamX.Tabs T H) (h : H a = some u) (ow : OwO u) : LamX.Tabs T (upd H a o) := by
  intro p hp
  obtain ⟨ps, h1, h2, h3⟩ := t p hp
  refine ⟨ps, ?_, h2, fun pos cv hc => ?_⟩
  · rw [upd_ne (fun e => by rw [e, h] at h1; cases h1; exact ow.elim)]; exact h1
  · obtain ⟨c, e1, e2⟩ := h3 pos cv hc
    refine ⟨c, e1, ?_⟩
    rw [upd_ne (fun e => by rw [e, h] at e2; cases e2; exact ow.elim)]
    exact e2
theorem tabs_upd {T : Tbs} {a : Addr} {H : Hp} {xs : List V} {o : HO} (t : LamX.Tabs T H) (h : H a = some (.lst xs)) : LamX.Tabs T (upd H a o) := tabs_updO t h trivial
/-- what is one's own is changed -/
theorem StOk.putOw {hid : List Addr} {σ : L2.St} {H : Hp} {ρ : Rho} (s : StOk C hid σ H ρ) {i : Nat} {p : Addr} {x y : Dv} {u o : HO} (e : ρ[i]? = some (some x)) (nx : ¬ notOwn x) (es : σ[i]? = some (some (.ref p))) (hm : p ∈ hid) (hc : C.c ≠ some p) (h0 : p ∉ C.hid0 ∧ Fr C.H0 p) (hH : H p = some u) (k : OwR C.K (hide hid H) o y) :
    StOk C hid σ (upd H p o) (ρ.set i (some y)) ∧ Stp hid H hid (upd H p o) := by
  have h := s.hp
  obtain ⟨k1, ny, _⟩ := k.ow
  have ou : OwO u := by
    obtain ⟨w, e1, e2⟩ := h.some p hm
    rw [hH] at e1
    cases e1
    exact e2
  have sp : Stp hid H hid (upd H p o) := ⟨fun b o n q _ => by rw [upd_ne (fun z => n (by rw [z]; exact hm))]; exact q, fun b hb => .inl hb⟩
  have hil : i < ρ.length := by
    rcases Nat.lt_or_ge i ρ.length with q | q
    · exact q
    · rw [List.getElem?_eq_none q] at e; cases e
  have hp' : HpOk C hid (upd H p o) := ⟨tabs_updO h.tabs hH ou, fun a ea => ⟨(h.cup a ea).1, by
    obtain ⟨g, sd, q, z⟩ := (h.cup a ea).2
    exact ⟨g, sd, by rw [upd_ne (fun y => hc (by rw [ea, y]))]; exact q, z⟩⟩, fun a ha => by
      by_cases y : a = p
      · exact ⟨o, by rw [y, upd_same], k1⟩
      · rw [upd_ne y]; exact h.some a ha, h.sub, fun b w n q t => by
      have := h.ext b w n q t
      by_cases y : b = p
      · subst y
        obtain ⟨ps, z⟩ := h0.2 w q
        exact absurd z (t ps)
      · rw [upd_ne y]; exact this⟩
  refine ⟨⟨hp', ⟨by rw [List.length_set]; exact s.sr.len, fun j z ej => ?_⟩, fun a b xs' ys' w n ea eb na' nb' sa => ?_⟩, sp⟩
  · rcases get_set ej with ⟨rfl, _, rfl⟩ | ⟨n, ej⟩
    · exact ⟨.ref p, es, VR.own_of hm hc h0 upd_same (k.mono sp.mono)⟩
    · obtain ⟨v, h1, h2⟩ := s.sr.at' j z ej
      refine ⟨v, h1, ?_⟩
      rcases own_dec z with no | no
      · exact h2.free sp.mono no
      · obtain ⟨a, us, rfl, e2, e3, e4, e5, e6⟩ := VR.owned no h2
        have : a ≠ p := fun q => by
          subst q
          exact s.inj i j x z _ n e ej nx no es h1
        exact VR.own_of e2 e3 e4 (by rw [upd_ne this]; exact e5) (e6.mono sp.mono)
  · rcases get_set ea with ⟨rfl, ka, _⟩ | ⟨na, ea⟩
    · rcases get_set eb with ⟨rfl, _, _⟩ | ⟨nb, eb⟩
      · exact absurd rfl n
      · exact s.inj i b x ys' w n e eb nx nb' sa
    · rcases get_set eb with ⟨rfl, kb, _⟩ | ⟨nb, eb⟩
      · exact s.inj a i xs' x w n ea e na' nx sa
      · exact s.inj a b xs' ys' w n ea eb na' nb' sa
theorem StOk.putOwn {hid : List Addr} {σ : L2.St} {H : Hp} {ρ : Rho} (s : StOk C hid σ H ρ) {i : Nat} {p : Addr} {xs ys : List PyData} {vs ws : List V} (e : ρ[i]? = some (some (.own xs))) (es : σ[i]? = some (some (.ref p))) (hm : p ∈ hid) (hc : C.c ≠ some p) (h0 : p ∉ C.hid0 ∧ Fr C.H0 p) (hH : H p = some (.lst vs)) (k : DdAll C.K (hide hid H) ws ys) :
    StOk C hid σ (upd H p (.lst ws)) (ρ.set i (some (.own ys))) ∧ Stp hid H hid (upd H p (.lst ws)) := s.putOw (o := .lst ws) (y := .own ys) e (fun z => z) es hm hc h0 hH (.lst k)
theorem ds_app {pos : Pos} {i : Nat} {x : Str} {e : Expr} {A : DE} {npos apos cpos : Pos} (hv : PE X (.Name x npos) (tVar i)) (h : PE X e (tE C A))
    (hb : attributeBase (.Name x npos) "append" X.env (eval (.Name x npos) X.env) = eval (.Name x npos) X.env := by rfl)
    (h2 : (((backTo cpos (starEach [e] X.env)).all fun x => !x.1) && (backToKw cpos (keywordEach [] X.env)).all (fun x => x.1.isSome) && decide (([e] : List Expr).length + ([] : List Keyword).length + (if ([] : List Keyword).isEmpty then 0 else 1) < 30)) = true := by rfl)
    (h3 : (apos.endLine == cpos.line) = true := by rfl) (h4 : starEach [e] X.env = (false, eval e X.env) :: starEach [] X.env := by rfl) (h5 : (backTo cpos (starEach ([] : List Expr) X.env)).any (·.1) = false := by rfl)
    (hs : swapsWith (.Call (.Attribute (.Name x npos) "append" apos) [e] [] cpos) none pos.line X.env = pure false := by rfl) :
    PS X (.Expr (.Call (.Attribute (.Name x npos) "append" apos) [e] [] cpos) pos) (tS C (dApp i A)) :=
  (ps_expr (pe_bm PySem.F.plainAttrs_list PySem.F.slot_list_append PySem.F.type_list_append mt_append hv (pa_cons h pa_nil h4) hb h2 h3 h4 h5) hs).imp fun D σ H ⟨hid, ρ, d, so, s, en⟩ => by
    unfold dApp at s
    split at s
    · rename_i xs ei
      obtain ⟨v, h1, p, vs, rfl, m1, m2, m3, m4, m5⟩ := so.sr.at' i _ ei
      refine ⟨_, h1, .inl ⟨rfl, _, SqL.of m4⟩, hid, ρ, _, so.hp, so.sr, s, fun w y H1 e1 o1 r1 a1 => ?_⟩
      obtain ⟨y, rfl, ln, a1⟩ := of_onD a1
      have m4' := e1 p _ m2 m4 (fun _ z => by cases z)
      have m5' := DdAll.mono (e1.mono so.hp) _ _ m5
      refine ⟨p, vs, w, rfl, rfl, m4', by rw [m5.len]; exact Nat.lt_of_le_of_lt ln (by decide), ?_⟩
      obtain ⟨s2, s3⟩ := (so.ext e1 o1).putOwn ei h1 m1 m2 m3 m4' (m5'.append (.cons r1 .nil))
      exact en.nx _ _ _ _ s2 ((Stp.ext e1 so.hp).trans s3) a1
    · exact s.elim
/-- ahead of a statement -/
theorem StOk.cold {hid : List Addr} {σ : L2.St} {H : Hp} {ρ : Rho} (s : StOk C hid σ H ρ) {i : Nat} {x y : Dv} (ei : ρ[i]? = some (some x)) (nx : ¬ notOwn x) (ny : notOwn y)
    (hv : ∀ p hid', (∀ a, a ∈ hid' ↔ a ∈ hid ∧ a ≠ p) → HpOk C hid' H → VR C hid H (.ref p) x → VR C hid' H (.ref p) y) : ∃ hid', StOk C hid' σ H (ρ.set i (some y)) ∧ Stp hid H hid' H := by
  obtain ⟨v, h1, h1v⟩ := s.sr.at' i _ ei
  obtain ⟨p, u, rfl, m1, m2, ⟨m3, m3'⟩, m4, m5⟩ := VR.owned nx h1v
  have h := s.hp
  have mf : ∀ a, a ∈ hid.filter (fun a => decide (a ≠ p)) ↔ a ∈ hid ∧ a ≠ p := fun a => by
    rw [List.mem_filter]
    exact ⟨fun z => ⟨z.1, of_decide_eq_true z.2⟩, fun z => ⟨z.1, decide_eq_true z.2⟩⟩
  have sub : ∀ a ∈ hid.filter (fun a => decide (a ≠ p)), a ∈ hid := fun a ha => ((mf a).mp ha).1
  have mon : Mono (hide hid H) (hide (hid.filter (fun a => decide (a ≠ p))) H) := fun b o e _ => by
    obtain ⟨k1, k2⟩ := hide_some e
    exact hide_of (fun z => k1 (sub b z)) k2
  have hil : i < ρ.length := by
    rcases Nat.lt_or_ge i ρ.length with q | q
    · exact q
    · rw [List.getElem?_eq_none q] at ei; cases ei
  have hp' : HpOk C (hid.filter (fun a => decide (a ≠ p))) H := ⟨h.tabs, fun a e => ⟨(mf a).mpr ⟨(h.cup a e).1, fun z => m2 (by rw [e, z])⟩, (h.cup a e).2⟩, fun a ha => h.some a (sub a ha), fun a ha => (mf a).mpr ⟨h.sub a ha, fun z => m3 (z ▸ ha)⟩, h.ext⟩
  refine ⟨hid.filter (fun a => decide (a ≠ p)), ⟨hp', ⟨by rw [List.length_set]; exact s.sr.len, fun j z ej => ?_⟩, fun a b xs' ys' w n ea eb na' nb' sa => ?_⟩, ⟨fun b o _ e _ => e, fun b hb => .inl (sub b hb)⟩⟩
  · rcases get_set ej with ⟨rfl, _, rfl⟩ | ⟨n, ej⟩
    · exact ⟨.ref p, h1, hv p _ mf hp' h1v⟩
    · obtain ⟨v, k1, k2⟩ := s.sr.at' j z ej
      refine ⟨v, k1, ?_⟩
      rcases own_dec z with no | no
      · exact k2.free mon no
      · obtain ⟨a, us, rfl, e2, e3, e4, e5, e6⟩ := VR.owned no k2
        have : a ≠ p := fun q => by
          subst q
          exact s.inj i j x z _ n ei ej nx no h1 k1
        exact VR.own_of ((mf a).mpr ⟨e2, this⟩) e3 e4 e5 (e6.mono mon)
  · rcases get_set ea with ⟨_, _, rfl⟩ | ⟨na, ea⟩
    · exact (na' ny).elim
    · rcases get_set eb with ⟨_, _, rfl⟩ | ⟨nb, eb⟩
      · exact (nb' ny).elim
      · exact s.inj a b xs' ys' w n ea eb na' nb' sa
theorem StOk.frz {hid : List Addr} {σ : L2.St} {H : Hp} {ρ : Rho} (s : StOk C hid σ H ρ) (i : Nat) : ∃ hid', StOk C hid' σ H (frz ρ i) ∧ Stp hid H hid' H := by
  unfold Dl.frz
  split
  · rename_i xs ei
    refine s.cold (y := .d (.list xs)) ei (fun z => z) trivial fun p hid' mf hp r => ?_
    obtain ⟨_, vs, e0, m1, m2, _, m4, m5⟩ := r
    cases e0
    exact .lst (hide_of (fun z => ((mf p).mp z).2 rfl) m4) (DdAll.mono (fun b o e _ => by
      obtain ⟨k1, k2⟩ := hide_some e
      exact hide_of (fun z => k1 ((mf b).mp z).1) k2) _ _ m5)
  · rename_i xs ei
    refine s.cold (y := .dc xs) ei (fun z => z) trivial fun p hid' mf hp r => ?_
    obtain ⟨_, es, e0, m1, m2, _, m4, m5⟩ := r
    cases e0
    exact ⟨p, es, rfl, hide_of (fun z => ((mf p).mp z).2 rfl) m4, DvK.mono (fun b o e _ => by
      obtain ⟨k1, k2⟩ := hide_some e
      exact hide_of (fun z => k1 ((mf b).mp z).1) k2) m5⟩
  · exact ⟨hid, s, .refl⟩
theorem ds_frz {st : Stmt} {s : DS} (i : Nat) (h : PS X st (tS C s)) : PS X st (tS C (dFrz i s)) := h.imp fun D σ H ⟨hid, ρ, d, so, s, e⟩ => by
  obtain ⟨hid', s1, s2⟩ := so.frz i
  exact ⟨hid', _, d, s1, s, e.step s2⟩
/-- errors -/
def EOk (C : DC) (er : Str → Prop) (E : XK) : Prop := ∀ cl hid H, HpOk C hid H → er cl → E (.ref (He.ga C.K cl)) none H
theorem EOk.never {E : XK} : EOk C (fun _ => False) E := fun _ _ _ _ h => h.elim
/-- what is known of where one stands -/
structure Lv0 (X : Cx) (C : DC) (k : Nat) : Prop where
  K : X.K = C.K
  calm : X.calm = true
  nd : X.N.Nodup
  room : Room k X.A
structure Lv (X : Cx) (C : DC) (E : XK) (k : Nat) : Prop where
  b : Lv0 X C k
  own : PassesOwn (model X.prog X.w) X.A X.env X.xe
  tk : L2N.Takes X fun cls d _ H => E cls d H
theorem Lv.pass {E : XK} {k : Nat} (l : Lv X C E k) : Passes (L2N.CX X.prog X.w) X E := L2N.passes_call l.tk fun _ _ _ _ h => h
theorem pass_none : Passes (L2N.CX X.prog X.w) X fun _ _ _ => False := fun pins σ H s e s' I ⟨a, B, H', cls, d, _, _, _, _, _, _, _, z⟩ => z.elim
theorem Lv0.blk {k : Nat} (l : Lv0 X C k) {s : Shared} {H : Hp} {scope : Scope} {env : Env} {fp : List Addr} : Lv0 (X.blk s H scope env fp) C k := ⟨l.K, l.calm, l.nd, l.room⟩
theorem ds_raise {x m : Str} {j k : Nat} {p p2 pos rpos : Pos} {er : Str → Prop} {E : XK} (l : Lv X C E k) (eo : EOk C er E) (mk : L2N.PMk X (.Call (.Name x p) [.Constant (.str m) j p2] [] pos) (fun _ H Q => Q (.ref (He.ga C.K x)) none H)) :
    PS X (.Raise (some (.Call (.Name x p) [.Constant (.str m) j p2] [] pos)) none rpos) (tS C (dRaise x er)) :=
  (L2N.ps_raise l.b.calm l.tk mk).imp fun D σ H ⟨hid, ρ, d, so, s, e⟩ => eo x hid H so.hp s
end
end Dl

set_option Elab.async false
set_option linter.all false
set_option maxRecDepth 100000
set_option maxHeartbeats 1000000
namespace Dl
open PySem PySem.Spec PyProof.Rows L2
/-! ### a def of the top by its name -/
abbrev cdv (K : PySem.W.Frag) (x : Str) : Value := .ref (He.codeOf K (x, none))
section
variable (P : Program) (w : World) (K : PySem.W.Frag) (mg : Str → Option Value) (base : Heap)
def Has (CX : CXT) (k : Nat) (x : Str) (ps : List Str) (sp : Sp) : Prop :=
  ∃ fd, Binds K fd ps [] ∧ PySem.W.keepIn K (.ref (He.ga K x)) = true ∧ mg x = some (.ref (He.ga K x)) ∧ FnOk P w K mg base CX k (He.ga K x) fd ps sp ∧ ∃ oc od osl, K.lookup (He.ga K x) = some ⟨oc, od, .func fd, osl⟩
def At (x : Str) (st : Stmt) : Prop := mg x = some (.ref (He.ga K x)) ∧ ∃ fd, FunD K x x (defArgs st) (defBody st) (defScope st) [] [] (He.ga K x) fd
/-- what a def does, told of data: what it hands back, what it raises -/
abbrev DF := List Dv → (Dv → Prop) → (Str → Prop) → Prop
def spD (T : Tbs) (g : DF) : Sp := fun vs H Q E => ∃ (c : Option Addr) (hid : List Addr) (xs : List Dv) (q : Dv → Prop) (er : Str → Prop), HpOk ⟨K, T, c, hid, H⟩ hid H ∧ VRs ⟨K, T, c, hid, H⟩ hid H vs xs ∧ (∀ x ∈ xs, notOwn x) ∧ g xs q er ∧
  (∀ v x H', Ext c H H' → HpOk ⟨K, T, c, hid, H⟩ hid H' → VR ⟨K, T, c, hid, H⟩ hid H' v x → notOwn x → q x → Q v H') ∧ ∀ cl H', Ext c H H' → HpOk ⟨K, T, c, hid, H⟩ hid H' → er cl → E (.ref (He.ga K cl)) none H'
def DHas (T : Tbs) (k : Nat) (x : Str) (ps : List Str) (g : DF) : Prop := Has P w K mg base (L2N.CX P w) k x ps (spD K T g)
end
def startR (N : List Str) (xs : List Dv) : Rho := xs.map some ++ List.replicate (N.length - xs.length) none
section
variable {P : Program} {w : World} {K : PySem.W.Frag} {mg : Str → Option Value} {base : Heap} {T : Tbs}
theorem Has.mono {CX : CXT} {x : Str} {ps : List Str} {sp : Sp} {j k : Nat} (h : Has P w K mg base CX j x ps sp) (hk : j ≤ k) : Has P w K mg base CX k x ps sp := by
  obtain ⟨fd, b, kp, gm, F, lk⟩ := h
  exact ⟨fd, b, kp, gm, F.mono hk, lk⟩
theorem Has.imp {CX : CXT} {x : Str} {ps : List Str} {sp sp' : Sp} {k : Nat} (h : Has P w K mg base CX k x ps sp) (hk : ∀ vs H Q E, sp' vs H Q E → sp vs H Q E) : Has P w K mg base CX k x ps sp' := by
  obtain ⟨fd, b, kp, gm, F, lk⟩ := h
  exact ⟨fd, b, kp, gm, F.imp hk, lk⟩
/-- what is told of it, said otherwise -/
theorem DHas.imp {x : Str} {ps : List Str} {g g' : DF} {k : Nat} (h : DHas P w K mg base T k x ps g) (hk : ∀ xs q er, g' xs q er → g xs q er) : DHas P w K mg base T k x ps g' :=
  Has.imp h fun vs H Q E ⟨c, hid, xs, q, er, h1, h2, h3, h4, h5⟩ => ⟨c, hid, xs, q, er, h1, h2, h3, hk _ _ _ h4, h5⟩
theorem VR.ctx {C C' : DC} {hid : List Addr} {H : Hp} {v : V} (hK : C.K = C'.K) (hc : C.c = C'.c) : ∀ {x : Dv}, notOwn x → VR C hid H v x → VR C' hid H v x
  | .d _, _, k => by unfold VR at k ⊢; rw [← hK]; exact k
  | .cup, _, k => by unfold VR at k ⊢; rw [← hc]; exact k
  | .fn _, _, k => by unfold VR at k ⊢; rw [← hK]; exact k
  | .ty _, _, k => by unfold VR at k ⊢; exact k
  | .ex _, _, k => by unfold VR at k ⊢; exact k
  | .dc _, _, k => by unfold VR at k ⊢; rw [← hK]; exact k
theorem VRs.ctx {C C' : DC} {hid : List Addr} {H : Hp} (hK : C.K = C'.K) (hc : C.c = C'.c) : ∀ {vs : List V} {xs : List Dv}, (∀ x ∈ xs, notOwn x) → VRs C hid H vs xs → VRs C' hid H vs xs
  | _, _, _, .nil => .nil
  | _, _, n, .cons a b => .cons (a.ctx hK hc (n _ List.mem_cons_self)) (VRs.ctx hK hc (fun x hx => n x (List.mem_cons_of_mem _ hx)) b)
theorem VRs.at {C : DC} {hid : List Addr} {H : Hp} : ∀ {vs : List V} {xs : List Dv} {i : Nat} {x : Dv}, VRs C hid H vs xs → xs[i]? = some x → ∃ v, vs[i]? = some v ∧ VR C hid H v x
  | _, _, i, x, .nil, e => by simp at e
  | _, _, 0, x, .cons a b, e => by
    obtain rfl := Option.some.inj (show some _ = some x from by simpa using e)
    exact ⟨_, rfl, a⟩
  | _, _, i + 1, x, .cons a b, e => by
    obtain ⟨v, h1, h2⟩ := VRs.at b (i := i) (x := x) (by simpa using e)
    exact ⟨v, by simpa using h1, h2⟩
theorem startR_at {N : List Str} {xs : List Dv} {i : Nat} {x : Dv} (e : (startR N xs)[i]? = some (some x)) : xs[i]? = some x := by
  unfold startR at e
  rcases Nat.lt_or_ge i xs.length with k | k
  · rw [List.getElem?_append_left (by rw [List.length_map]; exact k), List.getElem?_map] at e
    cases q : xs[i]? with
    | none => rw [q] at e; cases e
    | some y => rw [q] at e; rw [Option.some.inj (Option.some.inj e)]
  · rw [List.getElem?_append_right (by rw [List.length_map]; exact k), List.getElem?_replicate] at e
    split at e <;> cases e
theorem sr_start {C : DC} {hid : List Addr} {H : Hp} {vs : List V} {xs : List Dv} (N : List Str) (r : VRs C hid H vs xs) : SR C hid (L2.start N vs) H (startR N xs) where
  len := by unfold L2.start startR; rw [List.length_append, List.length_append, List.length_map, List.length_map, List.length_replicate, List.length_replicate, r.len]
  at' := fun i x e => by
    have e2 := startR_at e
    obtain ⟨v, h1, h2⟩ := r.at e2
    refine ⟨v, ?_, h2⟩
    have hi : i < vs.length := by
      rcases Nat.lt_or_ge i vs.length with k | k
      · exact k
      · rw [List.getElem?_eq_none k] at h1; cases h1
    unfold L2.start
    rw [List.getElem?_append_left (by rw [List.length_map]; exact hi), List.getElem?_map, h1]
    rfl
/-- a def by its body -/
theorem At.okD {x : Str} {st : Stmt} {N ps : List Str} {k : Nat} {g : DF} (F : At K mg x st) (S : FnScope N ps (defScope st))
    (hb : ∀ (kV doc pm : Value) (an : Option Addr) (cd ct : Value) (us : List Value), us.length = ps.length → bindArgs (PySem.W.fnOf x x (defArgs st) (defBody st) (defScope st) .none kV doc pm an cd ct) ⟨us, []⟩ = pure (ps.zip us))
    (len : ∀ xs q er, g xs q er → xs.length = ps.length)
    (hbody : ∀ (A : Around) (outer : List Env) (s : Shared) (H : Hp) (E : XK) (c : Option Addr) (hid : List Addr) (er : Str → Prop), Lv (cxOf (L2N.CX P w) P w K mg base N x (defScope st) (He.ga K x) (cdv K x) A outer s H E) ⟨K, T, c, hid, H⟩ E k → EOk ⟨K, T, c, hid, H⟩ er E →
      ∃ S, PSs (cxOf (L2N.CX P w) P w K mg base N x (defScope st) (He.ga K x) (cdv K x) A outer s H E) (defBody st) (tS ⟨K, T, c, hid, H⟩ S) ∧ ∀ xs q, g xs q er → S { nx := fun _ => q (.d .none), rt := q } (startR N xs)) : DHas P w K mg base T (k + 1) x ps g := by
  obtain ⟨gm, fd, F⟩ := F
  have bn := F.bindsN hb
  have kp := F.kp
  obtain ⟨oc, od, dV, kV, doc, pm, an, cd, ct, osl, rfl, lk, hcd, _, _⟩ := F.ex
  refine ⟨_, bn, kp, gm, ?_, _, _, _, lk⟩
  obtain ⟨cc, rfl⟩ := He.codeIn_ref hcd
  have e : He.codeOf K (x, none) = cc := He.codeOf_eq (p := (x, none)) lk rfl
  refine fn_of lk hcd S (fun vs H Q E ⟨c, hid, xs, q, er, _, r, _, h, _⟩ => by rw [r.len, len xs q er h]) fun A outer s H vs Q E hr ⟨c, hid, xs, q, er, h1, h2, h3, h4, h5, h6⟩ => ?_
  have hw := hbody A outer s H E c hid er
  rw [cdv, e] at hw
  obtain ⟨S', hS, hg⟩ := hw ⟨⟨rfl, rfl, S.nd, hr⟩, passes_of rfl, L2N.takes_of rfl rfl rfl rfl⟩ fun cl hid' H' ok hcl => h6 cl H' ok.ext ⟨ok.tabs, fun a ea => ⟨(h1.cup a ea).1, (ok.cup a ea).2⟩, fun a ha => ok.some a (ok.sub a ha), fun a ha => ha, ok.ext⟩ hcl
  refine ⟨_, hS, hid, _, _, ⟨h1, sr_start N h2, fun i j ys zs v n ei ej ny nz si => ?_⟩, hg xs q h4, ?_⟩
  · exact (ny (h3 _ (List.mem_of_getElem? (startR_at ei)))).elim
  · have less : ∀ hid' H', HpOk ⟨K, T, c, hid, H⟩ hid' H' → HpOk ⟨K, T, c, hid, H⟩ hid H' := fun hid' H' ok => ⟨ok.tabs, fun a ea => ⟨(h1.cup a ea).1, (ok.cup a ea).2⟩, fun a ha => ok.some a (ok.sub a ha), fun a ha => ha, ok.ext⟩
    exact ⟨fun hid' σ' H' ρ' so st n => h5 .non (.d .none) H' so.hp.ext (less _ _ so.hp) Dd.non trivial n, fun _ _ _ _ _ _ z => z.elim, fun _ _ _ _ _ _ z => z.elim,
      fun v y hid' H' ok r no h => h5 v y H' ok.ext (less _ _ ok) (r.less (fun a ha => ok.sub a ha) no) no h⟩
end
/-! ### calls -/
def noOwn (xs : List Dv) (p : Prop) : Prop := match xs with
  | [] => p
  | x :: r => onOwn x (noOwn r p)
theorem of_noOwn : ∀ {xs : List Dv} {p : Prop}, noOwn xs p → (∀ x ∈ xs, notOwn x) ∧ p
  | [], _, h => ⟨fun _ z => (by cases z), h⟩
  | x :: r, _, h => by
    obtain ⟨h1, h2⟩ := of_onOwn h
    obtain ⟨h3, h4⟩ := of_noOwn h2
    exact ⟨fun y hy => by
      rcases List.mem_cons.mp hy with rfl | hy
      · exact h1
      · exact h3 y hy, h4⟩
def callT (g : DF) (xs : List Dv) (q : Dv → Prop) (er : Str → Prop) (_ : Tg q) : Prop := g xs q er
abbrev call (g : DF) (xs : List Dv) (q : Dv → Prop) (er : Str → Prop) : Prop := callT g xs q er .mk
def dCall (g : DF) (er : Str → Prop) (A : DAs) (ρ : Rho) (q : Dv → Prop) : Prop := A ρ fun xs => noOwn xs (call g xs q er)
section
variable {X : Cx} {C : DC} {k n : Nat} {x : Str} {ps : List Str} {g : DF} {er : Str → Prop} {E : XK}
theorem call_sp {hid : List Addr} {H : Hp} {vs : List V} {xs : List Dv} {q : Dv → Prop} {Q : VK} (hp : HpOk C hid H) (r : VRs C hid H vs xs) (no : ∀ x ∈ xs, notOwn x) (h : g xs q er) (eo : EOk C er E) (k : ∀ v x H', Ext C.c H H' → HpOk C hid H' → VR C hid H' v x → q x → Q v H') : spD C.K C.T g vs H Q E := by
  have back : ∀ H', Ext C.c H H' → HpOk ⟨C.K, C.T, C.c, hid, H⟩ hid H' → HpOk C hid H' := fun H' e ok => ⟨ok.tabs, ok.cup, ok.some, hp.sub, hp.ext.trans e⟩
  exact ⟨C.c, hid, xs, q, er, ⟨hp.tabs, hp.cup, hp.some, fun _ h => h, .refl⟩, VRs.ctx (C := C) (C' := ⟨C.K, C.T, C.c, hid, H⟩) rfl rfl no r, no, h, fun v y H' e ok r no hq => k v y H' e (back H' e ok) (VR.ctx (C := ⟨C.K, C.T, C.c, hid, H⟩) (C' := C) rfl rfl no r) hq, fun cl H' e ok hcl => eo cl hid H' (back H' e ok) hcl⟩
theorem de_call {e : Expr} {es : List Expr} {A : DAs} {p pos : Pos} {j : Nat} (h : DHas X.prog X.w X.K X.mg X.base C.T j x ps g) (l : Lv0 X C k) (hx : Passes (L2N.CX X.prog X.w) X E) (eo : EOk C er E) (ha : PA X (e :: es) (tAs C n A)) (hjk : j ≤ k := by decide) (hg : Gl X x := by rfl) (hdb : (x == ("__debug__" : Str)) = false := by decide)
    (he : starEach (e :: es) X.env = (false, eval e X.env) :: starEach es X.env := by rfl) (hpl : (backTo pos (starEach es X.env)).any (·.1) = false := by rfl) : PE X (.Call (.Name x p) (e :: es) [] pos) (tE C (dCall g er A)) := by
  obtain ⟨fd, b, kp, gm, F, _⟩ := h
  have c := pe_call (p := p) (pos := pos) F (l.room.mono hjk) hg gm kp b .nil hx ha hdb he hpl
  rw [l.K] at c
  exact c.imp fun σ H Q ⟨hid, ρ, q, hp, sr, a, k⟩ => ⟨hid, ρ, _, hp, sr, a, fun vs xs H1 e1 o1 r1 l1 a1 => by
    obtain ⟨no, a2⟩ := of_noOwn a1
    show spD C.K C.T g (vs ++ []) H1 Q E
    rw [List.append_nil]
    exact call_sp o1 r1 no a2 eo fun v x H2 e2 => k v x H2 (e1.trans e2)⟩
end
end Dl

set_option Elab.async false
set_option linter.all false
set_option maxRecDepth 100000
set_option maxHeartbeats 4000000
/-! zip of a tuple and a list; enumerate over a tuple; in a tuple of data -/
namespace Mx
open PySem PySem.Spec PyProof.Rows L2
/-! helpers: what holds of each of a few addresses -/
theorem all2 {p : Addr → Prop} {a b : Addr} (ha : p a) (hb : p b) : ∀ c ∈ [a, b], p c := List.forall_mem_cons.mpr ⟨ha, List.forall_mem_cons.mpr ⟨hb, nofun⟩⟩
theorem all5 {p : Addr → Prop} {a b c d e : Addr} (ha : p a) (hb : p b) (hc : p c) (hd : p d) (he : p e) : ∀ x ∈ [a, b, c, d, e], p x :=
  List.forall_mem_cons.mpr ⟨ha, List.forall_mem_cons.mpr ⟨hb, List.forall_mem_cons.mpr ⟨hc, all2 hd he⟩⟩⟩
/-- an object that is no cell -/
def NoCell (h : Heap) (c : Addr) : Prop := ∃ o, h.get? c = some o ∧ ∀ v, o.data ≠ .cell v
theorem titer_nc {h : Heap} {it a : Addr} {i : Nat} : h.IsTupleIter it a i → NoCell h it
  | ⟨o, e, _, d⟩ => ⟨o, e, fun v => by rw [d]; nofun⟩
theorem liter_nc {h : Heap} {it a : Addr} {i : Nat} : h.IsListIter it a i → NoCell h it
  | ⟨o, e, _, d⟩ => ⟨o, e, fun v => by rw [d]; nofun⟩
theorem titer_lt {h : Heap} {it a : Addr} {i : Nat} : h.IsTupleIter it a i → it < h.objs.size
  | ⟨_, e, _⟩ => Heap.lt_size e
theorem liter_lt {h : Heap} {it a : Addr} {i : Nat} : h.IsListIter it a i → it < h.objs.size
  | ⟨_, e, _⟩ => Heap.lt_size e
theorem same_at {us : List Value} {i : Nat} {x u : Value} (h : us.toArray[i]? = some x) (k : us[i]? = some u) : x = u := by
  simp only [List.getElem?_toArray] at h
  exact Option.some.inj (h.symm.trans k)
theorem in_size {us : List Value} {i : Nat} {u : Value} (k : us[i]? = some u) : i < us.toArray.size := by
  rw [List.size_toArray]
  exact (List.getElem?_eq_some_iff.mp k).1
/-- a new pair -/
theorem pair_ok {P : Program} {w : World} {H : Hp} {h : Heap} {T : Addr} {x y : V} {u v : Value} (rx : RelV x u) (ry : RelV y v) (g : h.get? T = some { cls := .type "tuple", data := .seq #[u, v] }) : ObjOk P w (upd H T (.tup [x, y])) h T (.tup [x, y]) :=
  ⟨(show 2 ≤ sizeLine by decide), [u, v], .cons rx (.cons ry .nil), ⟨_, g, rfl, _, rfl⟩⟩
/-- the tuple at a and the list at b as they stand at each turn, the items in new pairs -/
def ItzM (K : PySem.W.Frag) (a b : Addr) : It :=
  ⟨fun i H => ∃ (xs ys : List V) (x y : V), SqT K H a xs ∧ SqL K H b ys ∧ xs[i]? = some x ∧ ys[i]? = some y,
    fun i H v H' => ∃ T x y, v = .ref T ∧ H T = none ∧ H' = upd H T (.tup [x, y]) ∧ (∀ xs, SqT K H a xs → xs[i]? = some x) ∧ ∀ ys, SqL K H b ys → ys[i]? = some y,
    fun i H => ∃ xs ys : List V, SqT K H a xs ∧ SqL K H b ys ∧ i ≤ xs.length ∧ i ≤ ys.length ∧ (i = xs.length ∨ i = ys.length)⟩
/-- how the zip stands ahead of turn i -/
structure ZAt (z TI TO i1 i2 a b : Addr) (i : Nat) (h : Heap) : Prop where
  z : IsZip h z TI TO .none
  ti : IsTupOf2 h TI (.ref i1) (.ref i2)
  to : ∃ x y, IsTupOf2 h TO x y
  one : h.IsTupleIter i1 a i
  two : h.IsListIter i2 b i
theorem ZAt.lt {z TI TO i1 i2 a b : Addr} {i : Nat} {h : Heap} (t : ZAt z TI TO i1 i2 a b i h) : ∀ c ∈ [z, TI, TO, i1, i2], c < h.objs.size :=
  all5 (Heap.lt_size t.z) (Heap.lt_size t.ti) (t.to.elim fun _ q => q.elim fun _ q => Heap.lt_size q) (titer_lt t.one) (liter_lt t.two)
theorem turn_zipM {P : Program} {w : World} {K : PySem.W.Frag} {elts : List Expr} {kk : Nat} {tpos : Pos} {a b z TI TO i1 i2 : Addr} (S : ZipSep2 z TI TO i1 i2 [i1, a] [i2, b]) (na : a ≠ i1) (nb : b ≠ i2) :
    Turn P w K (.Tuple elts kk tpos) (ItzM K a b) [z, TI, TO, i1, i2] z (ZAt z TI TO i1 i2 a b) where
  mem := List.mem_cons_self
  obj := fun _ h t => all5 (p := NoCell h) ⟨_, t.z, nofun⟩ ⟨_, t.ti, nofun⟩ (t.to.elim fun _ q => q.elim fun _ q => ⟨_, q, nofun⟩) (titer_nc t.one) (liter_nc t.two)
  keep := fun _ h h' t k => by
    have k : ∀ c ∈ [z, TI, TO, i1, i2], ∀ o, h.get? c = some o → h'.get? c = some o := k
    simp only [List.forall_mem_cons] at k
    obtain ⟨kz, ki, ko, k1, k2, _⟩ := k
    obtain ⟨x, y, q⟩ := t.to
    exact ⟨kz _ t.z, ki _ t.ti, ⟨x, y, ko _ q⟩, t.one.at k1, t.two.at k2⟩
  item := by
    rintro X rfl rfl rfl calm i pins s σ H E I fp t ⟨xs, ys, x, y, qx, qy, hx, hy⟩
    obtain ⟨us, ru, pu, _⟩ := I.tuple qx
    obtain ⟨vs, rv, pv, _⟩ := I.list qy
    obtain ⟨u, hu, rxu⟩ := ru.get hx
    obtain ⟨v, hv, ryv⟩ := rv.get hy
    obtain ⟨x0, y0, hto⟩ := t.to
    have idle := I.ok.hd calm
    refine wpAny_pyNext_zipD2_item S (Draws.tuple (A := X.A.in1) idle i1 a na us.toArray) (Draws.list (A := X.A.in1) idle i2 b nb vs.toArray) t.z t.ti hto ⟨t.one, pu⟩ ⟨t.two, pv.isList⟩ (in_size hu) (in_size hv) fun u' v' h' tk eu ev z1 to1 one1 two1 pr sz old => ?_
    obtain rfl := same_at eu hu
    obtain rfl := same_at ev hv
    refine ⟨_, rfl, wpAny_letOwnedTupleGo_zip (s := { s with heap := h', toks := tk }) z1 fun h2 z2 sb => ?_⟩
    have nz : s.heap.objs.size ≠ z := Nat.ne_of_gt (t.lt z List.mem_cons_self)
    have frame : ∀ c o, c ∉ [z, TI, TO, i1, i2] → s.heap.get? c = some o → h2.get? c = some o := fun c o n g => by
      simp only [List.mem_cons, List.not_mem_nil, or_false, not_or] at n
      exact (sb.2 c n.1).trans (old c o n.1 n.2.2.1 n.2.2.2.1 n.2.2.2.2 g)
    have J := I.turnedNew (t' := tk) (ch := [z, TI, TO, i1, i2]) frame fp (Nat.le_refl _) (pair_ok rxu ryv ((sb.2 _ nz).trans pr))
    refine ⟨.ref s.heap.objs.size, _, J, rfl, ⟨_, x, y, rfl, I.hok.fresh (Nat.le_refl _), rfl, fun l hl => I.tuple_inj hl qx ▸ hx, fun l hl => I.list_inj hl qy ▸ hy⟩, ?_, fun c hc => ?_⟩
    · exact ⟨z2, (sb.2 _ S.TIz).trans (old _ _ S.TIz S.TITO S.TIi1 S.TIi2 t.ti), ⟨_, _, (sb.2 _ S.TOz).trans to1⟩, one1.1.at fun o q => (sb.2 _ S.zi1.symm).trans q, two1.1.at fun o q => (sb.2 _ S.zi2.symm).trans q⟩
    · exact (upd_ne (Nat.ne_of_lt (t.lt c hc))).trans (fp c hc).1
  done := by
    rintro X rfl rfl rfl calm i pins s σ H E I fp t ⟨xs, ys, qx, qy, lx, ly, over⟩
    obtain ⟨us, ru, pu, _⟩ := I.tuple qx
    obtain ⟨vs, rv, pv, _⟩ := I.list qy
    obtain ⟨x0, y0, hto⟩ := t.to
    have idle := I.ok.hd calm
    have e1 : us.toArray.size = xs.length := by rw [List.size_toArray, ru.length]
    have e2 : vs.toArray.size = ys.length := by rw [List.size_toArray, rv.length]
    refine wpAny_pyNext_zipD2_end S (Draws.tuple (A := X.A.in1) idle i1 a na us.toArray) (Draws.list (A := X.A.in1) idle i2 b nb vs.toArray) t.z t.ti hto ⟨t.one, pu⟩ ⟨t.two, pv.isList⟩ (e1 ▸ lx) (e2 ▸ ly) (by rw [e1, e2]; omega) fun h' tk old => ⟨rfl, I.turnedL (t' := tk) (ch := [z, TI, TO, i1, i2]) (fun c o n g => ?_) fp⟩
    simp only [List.mem_cons, List.not_mem_nil, or_false, not_or] at n
    exact old c o n.1 n.2.2.1 n.2.2.2.1 n.2.2.2.2 g
  self := fun _ _ _ _ _ t q => wpAny_pyIter_zip t.z q
theorem off2 {x a b : Nat} (h : (x < a ∨ a < x) ∧ (x < b ∨ b < x)) : x ∉ [a, b] := by
  simp only [List.mem_cons, List.not_mem_nil, or_false, not_or]
  omega
theorem sep2 (N a b : Nat) (la : a < N) (lb : b < N) : ZipSep2 (N + 4) (N + 2) (N + 3) N (N + 1) [N, a] [N + 1, b] := by
  constructor <;> first | exact List.mem_cons_self | exact Nat.ne_of_lt (by omega) | exact Nat.ne_of_gt (by omega) | exact off2 (by omega)
/-- what is new and above all is free -/
theorem fresh_of {X : Cx} {pins : List (Addr × Obj)} {σ : L2.St} {H : Hp} {s : Shared} (I : Inv X pins σ H s) {c : Addr} (h : s.heap.objs.size ≤ c) : FpOk X pins H c := I.fpOk h (I.hok.fresh h)
def iZipM (K : PySem.W.Frag) (ta : TA) : TI := fun σ H R => ta σ H fun vs H1 => ∃ a b xs ys, vs = [.ref a, .ref b] ∧ SqT K H1 a xs ∧ SqL K H1 b ys ∧ R (ItzM K a b) H1
theorem pi_zipM {X : Cx} {e e2 : Expr} {ta : TA} {p pos tpos : Pos} {elts : List Expr} {kk : Nat} (hg : Gl X "zip") (hm : X.mg "zip" = none) (ha : PA X [e, e2] ta)
    (hs : starEach [e, e2] X.env = (false, eval e X.env) :: starEach [e2] X.env := by rfl) (hpl : (backTo pos (starEach [e2] X.env)).any (·.1) = false := by rfl) :
    PI X (.Tuple elts kk tpos) (.Call (.Name "zip" p) [e, e2] [] pos) (iZipM X.K ta) where
  run pins s σ H R I h := Call_ (ld_blt I hg hm boot_zip (callWith_type1 (thn (ha.run pos pins s σ H _ I h) fun us z ⟨vs, H1, J, rv, a, b, xs, ys, e, qx, qy, q⟩ => by
    subst e
    obtain _ | ⟨rfl, _ | ⟨rfl, ⟨⟩⟩⟩ := rv
    obtain ⟨us, ru, pu, _⟩ := J.tuple qx
    obtain ⟨vs, rw', pv, _⟩ := J.list qy
    have la : a < z.heap.objs.size := by
      obtain ⟨_, g, _⟩ := pu
      exact Heap.lt_size g
    refine zip_begins2 (begins_tuple a us.toArray) (begins_list b vs.toArray) pu pv.isList fun h' hz ti to g1 g2 _ keep => wpAny_pyIter_zip hz ?_
    exact ⟨_, _, _, _, H1, rfl, J.kept (t' := z.toks) keep, turn_zipM (sep2 _ a b la pv.lt) (Nat.ne_of_lt la) (Nat.ne_of_lt (Nat.lt_succ_of_lt pv.lt)), ⟨hz, ti, ⟨_, _, to⟩, ⟨_, g1, rfl, rfl⟩, ⟨_, g2, rfl, rfl⟩⟩,
      all5 (fresh_of J (Nat.le_add_right _ _)) (fresh_of J (Nat.le_add_right _ _)) (fresh_of J (Nat.le_add_right _ _)) (fresh_of J (Nat.le_refl _)) (fresh_of J (Nat.le_add_right _ _)), q⟩) hs hpl))
theorem walk_zipM {K : PySem.W.Frag} (a b : Addr) (xs ys : List V) : Walk (ItzM K a b) (xs.zip ys).length (fun H => SqT K H a xs ∧ SqL K H b ys) (fun i H v H' => ∃ T p, (xs.zip ys)[i]? = some p ∧ v = .ref T ∧ H T = none ∧ H' = upd H T (.tup [p.1, p.2])) := by
  refine ⟨fun i _ hi q => ?_, fun _ q => ⟨_, _, q.1, q.2, ?_⟩, fun i H v H' hi q y => ?_⟩
  · rw [List.length_zip] at hi
    have h1 : i < xs.length := by omega
    have h2 : i < ys.length := by omega
    exact ⟨_, _, xs[i], ys[i], q.1, q.2, List.getElem?_eq_getElem h1, List.getElem?_eq_getElem h2⟩
  · rw [List.length_zip]; omega
  · obtain ⟨T, x, z, h1, h2, h3, h4, h5⟩ := y
    have e1 := h4 _ q.1
    have e2 := h5 _ q.2
    exact ⟨T, (x, z), List.getElem?_zip_eq_some.mpr ⟨e1, e2⟩, h1, h2, h3⟩
/-! ### enumerate over a tuple -/
/-- a new enumerate over the iterator at c -/
abbrev enumO (c : Addr) : Obj := { cls := .type "enumerate", data := .fields #[.none, .bool false, .ref c, rawInt 0, .none, .none] }
set_option maxHeartbeats 1000000 in
theorem enum_new {v : Value} {o : Obj} {Hs : Heap → Prop} (B : Begins v o Hs) : Meets (Builtin.«enumerate.__new__» ⟨[.type "enumerate", v], []⟩) fun _ R s => Hs s.heap ∧
    R (.ok (.ret (.ref (s.heap.push o).objs.size))) { s with heap := (s.heap.push o).push (enumO s.heap.objs.size) } := by
  refine .of_wp fun P w A R ⟨hp, gs, dr, tk, os⟩ ⟨is, r⟩ => ?_
  have := sub_enumerate
  have it {A' : Around} {E F : Value → Shared → Prop} (f : F (.ref hp.objs.size) ⟨hp.push o, gs, dr, tk, os⟩) : wpAny (model P w) A' (pyIter v) F E ⟨hp, gs, dr, tk, os⟩ := B.iter P w _ _ _ _ is f
  wp_walk using it
  refine wpAny_stack_any fun st => wpAny_pure ?_
  split
  case h_2 => wp_walk using it; exact ⟨_, rfl, r⟩
  case h_1 c _ _ _ _ _ => cases (c == Value.type "enumerate") <;> (wp_walk using it; exact ⟨_, rfl, r⟩)
theorem enum_starts {P : Program} {w : World} {A : Around} {s : Shared} {E : Value → Shared → Prop} {v : Value} {o : Obj} {Hs : Heap → Prop} {Fv : Value → Shared → Prop} (B : Begins v o Hs) (is : Hs s.heap)
    (f : ∀ h', IsEnum h' (s.heap.objs.size + 1) s.heap.objs.size 0 .none → h'.get? s.heap.objs.size = some o → (∀ b u, s.heap.get? b = some u → h'.get? b = some u) → Fv (.ref (s.heap.objs.size + 1)) { s with heap := h' }) :
    wpAny (model P w) A (call (.type "enumerate") [v]) Fv E s := by
  have top : (s.heap.push o).objs.size = s.heap.objs.size + 1 := Heap.size_push ..
  have en : IsEnum ((s.heap.push o).push (enumO s.heap.objs.size)) (s.heap.objs.size + 1) s.heap.objs.size 0 .none := top ▸ Heap.get?_push_size (s.heap.push o) rfl
  refine callType_new F.called_enumerate (by decide) (F.typeCall_enumerate_1 _) (F.newCall_enumerate_1 _) (fun x => F.args_object_init_2 x _) F.entry_enumerate_new (enum_new B) ⟨is, ?_⟩
  show _ ∧ Fv _ _
  rw [top]
  exact ⟨⟨_, en, rfl⟩, f _ en (Heap.get?_push_of_some _ (Heap.get?_push_size _ B.free)) fun _ _ g => Heap.get?_push_of_some _ (Heap.get?_push_of_some _ g)⟩
/-- the tuple at a as it stands at each turn, each item in a new pair -/
def IteT (K : PySem.W.Frag) (a : Addr) : It :=
  ⟨fun i H => ∃ (xs : List V) (x : V), SqT K H a xs ∧ xs[i]? = some x, fun i H v H' => ∃ T x, v = .ref T ∧ H T = none ∧ H' = upd H T (.tup [.int (i : Nat), x]) ∧ ∀ xs, SqT K H a xs → xs[i]? = some x, fun i H => ∃ xs : List V, SqT K H a xs ∧ i = xs.length⟩
/-- how the enumerate stands ahead of turn i -/
structure EAt (e it a : Addr) (i : Nat) (h : Heap) : Prop where
  en : ∃ x, IsEnum h e it ((i : Nat) : Int) x
  one : h.IsTupleIter it a i
theorem EAt.lt {e it a : Addr} {i : Nat} {h : Heap} (t : EAt e it a i h) : ∀ c ∈ [e, it], c < h.objs.size := all2 (t.en.elim fun _ q => Heap.lt_size q) (titer_lt t.one)
theorem turn_enumT {P : Program} {w : World} {K : PySem.W.Frag} {elts : List Expr} {kk : Nat} {tpos : Pos} (a e it : Addr) (na : a ≠ it) (ne : e ≠ it) (nea : e ≠ a) :
    Turn P w K (.Tuple elts kk tpos) (IteT K a) [e, it] e (EAt e it a) where
  mem := List.mem_cons_self
  obj := fun _ h t => all2 (p := NoCell h) (t.en.elim fun _ q => ⟨_, q, nofun⟩) (titer_nc t.one)
  keep := fun _ h h' t k => by
    have k : ∀ c ∈ [e, it], ∀ o, h.get? c = some o → h'.get? c = some o := k
    simp only [List.forall_mem_cons] at k
    exact ⟨t.en.imp fun _ q => k.1 _ q, t.one.at k.2.1⟩
  item := by
    rintro X rfl rfl rfl calm i pins s σ H E I fp t ⟨xs, x, q, hx⟩
    obtain ⟨us, ru, pu, _⟩ := I.tuple q
    obtain ⟨u, hu, rxu⟩ := ru.get hx
    obtain ⟨y, en⟩ := t.en
    refine wpAny_pyNext_enum_itemD (Draws.tuple (A := X.A.in1) (I.ok.hd calm) it a na us.toArray) en ⟨t.one, pu⟩ (in_size hu) ne (by simp only [List.mem_cons, List.not_mem_nil, or_false, not_or]; exact ⟨ne, nea⟩) fun u' h' tk eu ho one1 pr sz old => ?_
    obtain rfl := same_at eu hu
    refine ⟨_, rfl, wpAny_letOwnedTupleGo_enum (s := { s with heap := h', toks := tk + 1 }) ho fun h2 en2 sb => ?_⟩
    have nz : s.heap.objs.size ≠ e := Nat.ne_of_gt (t.lt e List.mem_cons_self)
    have frame : ∀ c o, c ∉ [e, it] → s.heap.get? c = some o → h2.get? c = some o := fun c o n g => by
      simp only [List.mem_cons, List.not_mem_nil, or_false, not_or] at n
      exact (sb.2 c n.1).trans (old c o n.1 n.2 g)
    have J := I.turnedNew (t' := tk + 1) (ch := [e, it]) frame fp (Nat.le_refl _) (pair_ok (x := .int (i : Nat)) ⟨_, rfl⟩ rxu ((sb.2 _ nz).trans pr))
    refine ⟨.ref s.heap.objs.size, _, J, rfl, ⟨_, x, rfl, I.hok.fresh (Nat.le_refl _), rfl, fun l hl => I.tuple_inj hl q ▸ hx⟩, ⟨⟨u', ?_⟩, one1.1.at fun o g => (sb.2 it ne.symm).trans g⟩, fun c hc => (upd_ne (Nat.ne_of_lt (t.lt c hc))).trans (fp c hc).1⟩
    exact (by omega : (i : Int) + 1 = ((i + 1 : Nat) : Int)) ▸ en2
  done := by
    rintro X rfl rfl rfl calm i pins s σ H E I fp t ⟨xs, q, over⟩
    obtain ⟨us, ru, pu, _⟩ := I.tuple q
    obtain ⟨y, en⟩ := t.en
    have size : us.toArray.size = i := by rw [List.size_toArray, ← ru.length, over]
    obtain ⟨f0, f1, _, f3, f4, f5⟩ := fp it (List.mem_cons_of_mem _ List.mem_cons_self)
    exact wpAny_pyNext_enum_endD (Draws.tuple (A := X.A.in1) (I.ok.hd calm) it a na us.toArray) en (size.symm ▸ ⟨t.one, pu⟩) fun h' old => ⟨rfl, I.turned (t' := s.toks) old f0 f1 f3 f4 f5⟩
  self := fun _ _ _ _ _ t q => t.en.elim fun _ en => wpAny_pyIter_enum en q
def iEnumT (K : PySem.W.Frag) (ta : TA) : TI := fun σ H R => ta σ H fun vs H1 => ∃ a xs, vs = [.ref a] ∧ SqT K H1 a xs ∧ R (IteT K a) H1
theorem pi_enumT {X : Cx} {e : Expr} {ta : TA} {p pos tpos : Pos} {elts : List Expr} {kk : Nat} (hg : Gl X "enumerate") (hm : X.mg "enumerate" = none) (ha : PA X [e] ta) (hs : starEach [e] X.env = [(false, eval e X.env)] := by rfl) :
    PI X (.Tuple elts kk tpos) (.Call (.Name "enumerate" p) [e] [] pos) (iEnumT X.K ta) where
  run pins s σ H R I h := Call_ (ld_blt I hg hm boot_enumerate (callWith_type1 (thn (ha.run pos pins s σ H _ I h) fun us z ⟨vs, H1, J, rv, a, xs, e, qx, q⟩ => by
    subst e
    obtain _ | ⟨rfl, ⟨⟩⟩ := rv
    obtain ⟨us, ru, pu, _⟩ := J.tuple qx
    have la : a < z.heap.objs.size := by
      obtain ⟨_, g, _⟩ := pu
      exact Heap.lt_size g
    exact enum_starts (begins_tuple a us.toArray) pu fun h' en g keep => wpAny_pyIter_enum en ⟨_, _, _, _, H1, rfl, J.kept (t' := z.toks) keep, turn_enumT a _ _ (Nat.ne_of_lt la) (Nat.succ_ne_self _) (Nat.ne_of_gt (Nat.lt_succ_of_lt la)), ⟨⟨.none, en⟩, ⟨_, g, rfl, rfl⟩⟩,
      all2 (fresh_of J (Nat.le_add_right _ _)) (fresh_of J (Nat.le_refl _)), q⟩) hs rfl))
theorem walk_enumT {K : PySem.W.Frag} (a : Addr) (xs : List V) : Walk (IteT K a) xs.length (fun H => SqT K H a xs) (fun i H v H' => ∃ T x, xs[i]? = some x ∧ v = .ref T ∧ H T = none ∧ H' = upd H T (.tup [.int ((i : Nat) : Int), x])) := by
  refine ⟨fun i _ hi q => ⟨_, xs[i], q, List.getElem?_eq_getElem hi⟩, fun _ q => ⟨_, q, rfl⟩, fun i H v H' hi q y => ?_⟩
  obtain ⟨T, x, h1, h2, h3, h4⟩ := y
  exact ⟨T, x, h4 _ q, h1, h2, h3⟩
/-! ### in a tuple of data -/
def rInDT (K : PySem.W.Frag) : R2 := fun x y H Q => ∃ d ds, Dp K H x d ∧ Dp K H y (.tuple ds) ∧ SeqAt.shaped d = true ∧ SeqAt.shaped (.tuple ds) = true ∧ Q (.bl (ds.any fun z => PyData.eqv z d)) H
theorem op_inDT {X : Cx} (hu : X.A.units + 65 < cLine) : OpR X (compareOp .In) (rInDT X.K) := by
  intro pins s σ H x y v u Q I rx ry h
  obtain ⟨d, ds, hd, he, sd, se, q⟩ := h
  obtain ⟨as, r1⟩ := Dp.reads I d x v hd rx
  obtain ⟨bs, r2⟩ := Dp.reads I (.tuple ds) y u he ry
  exact SeqAt.in_tuple_reads r2 r1 (SeqAt.canLay_of_shaped se) (SeqAt.canLay_of_shaped sd) (room_in_shaped sd hu) ⟨.bl _, H, I, rfl, q⟩
end Mx

set_option Elab.async false
set_option linter.all false
set_option maxRecDepth 100000
set_option maxHeartbeats 1000000
namespace Dl
open PySem PySem.Spec PyProof.Rows L2
/-! ### targets -/
abbrev DG := Dv → Rho → (Rho → Prop) → Prop
abbrev DGs := List Dv → Rho → (Rho → Prop) → Prop
def Inj (σ : L2.St) (ρ : Rho) : Prop := ∀ (i j : Nat) (x y : Dv) (v : V), i ≠ j → ρ[i]? = some (some x) → ρ[j]? = some (some y) → ¬ notOwn x → ¬ notOwn y → σ[i]? = some (some v) → σ[j]? ≠ some (some v)
def tG (C : DC) (ow : List Nat) (G : DG) : TG := fun v σ H Q => ∃ hid ρ x q, HpOk C hid H ∧ SR C hid σ H ρ ∧ VR C hid H v x ∧ G x ρ q ∧ ∀ σ' ρ', SR C hid σ' H ρ' → (Inj σ ρ → Inj σ' ρ') → wipe σ' ow = wipe σ ow → q ρ' → Q σ' H
def tGs (C : DC) (ow : List Nat) (G : DGs) : TGs := fun vs σ H Q => ∃ hid ρ xs q, HpOk C hid H ∧ SR C hid σ H ρ ∧ VRs C hid H vs xs ∧ G xs ρ q ∧ ∀ σ' ρ', SR C hid σ' H ρ' → (Inj σ ρ → Inj σ' ρ') → wipe σ' ow = wipe σ ow → q ρ' → Q σ' H
def gN (i : Nat) (x : Dv) (ρ : Rho) (q : Rho → Prop) : Prop := onOwn x (q (ρ.set i (some x)))
def gsNil (xs : List Dv) (ρ : Rho) (q : Rho → Prop) : Prop := match xs with
  | [] => q ρ
  | _ => False
def gsCons (G : DG) (Gs : DGs) (xs : List Dv) (ρ : Rho) (q : Rho → Prop) : Prop := match xs with
  | x :: r => G x ρ fun ρ1 => Gs r ρ1 q
  | [] => False
def gT (n : Nat) (Gs : DGs) (x : Dv) (ρ : Rho) (q : Rho → Prop) : Prop := match x with
  | .d (.tuple ds) => ds.length = n ∧ Gs (ds.map Dv.d) ρ q
  | _ => False
theorem wipe_at (σ : L2.St) : ∀ (ow : List Nat) (j : Nat), (wipe σ ow)[j]? = if j ∈ ow then (σ[j]?.map fun _ => none) else σ[j]?
  | [], j => by rw [if_neg (by simp)]; rfl
  | o :: r, j => by
    show ((wipe σ r).set o none)[j]? = _
    rw [List.getElem?_set, wipe_length]
    by_cases e : o = j
    · subst e
      rw [if_pos rfl, if_pos List.mem_cons_self]
      by_cases k : o < σ.length
      · rw [if_pos k, List.getElem?_eq_getElem k]; rfl
      · rw [if_neg k, List.getElem?_eq_none (by omega)]; rfl
    · rw [if_neg e, wipe_at σ r j]
      by_cases m : j ∈ r
      · rw [if_pos m, if_pos (List.mem_cons_of_mem _ m)]
      · rw [if_neg m, if_neg (fun z => by
          rcases List.mem_cons.mp z with z | z
          · exact e z.symm
          · exact m z)]
theorem wipe_set {σ : L2.St} {ow : List Nat} {i : Nat} {v : V} (h : i ∈ ow) : wipe (σ.set i (some v)) ow = wipe σ ow := by
  refine List.ext_getElem? fun j => ?_
  rw [wipe_at, wipe_at]
  by_cases m : j ∈ ow
  · rw [if_pos m, if_pos m, List.getElem?_set]
    by_cases e : i = j
    · subst e
      by_cases k : i < σ.length
      · rw [if_pos rfl, if_pos k, List.getElem?_eq_getElem k]; rfl
      · rw [if_pos rfl, if_neg k, List.getElem?_eq_none (by omega)]
    · rw [if_neg e]
  · rw [if_neg m, if_neg m, List.getElem?_set, if_neg (fun (e : i = j) => m (e ▸ h))]
theorem Inj.set {σ : L2.St} {ρ : Rho} (h : Inj σ ρ) {v : V} {x : Dv} (no : notOwn x) (i : Nat) : Inj (σ.set i (some v)) (ρ.set i (some x)) := fun a b xs ys w n ea eb nx ny sa => by
  rcases get_set ea with ⟨_, _, rfl⟩ | ⟨na, ea⟩
  · exact (nx no).elim
  · rcases get_set eb with ⟨_, _, rfl⟩ | ⟨nb, eb⟩
    · exact (ny no).elim
    · rw [set_ne na] at sa
      rw [set_ne nb]
      exact h a b xs ys w n ea eb nx ny sa
section
variable {X : Cx} {C : DC} {ow : List Nat}
theorem _root_.L2.PG.imp {e : Expr} {t t' : TG} (h : PG X e t) (k : ∀ v σ H Q, t' v σ H Q → t v σ H Q) : PG X e t' := ⟨fun pins s σ H x u Q I r y => h.run pins s σ H x u Q I r (k x σ H Q y)⟩
theorem _root_.L2.PGs.imp {e : List Expr} {t t' : TGs} (h : PGs X e t) (k : ∀ v σ H Q, t' v σ H Q → t v σ H Q) : PGs X e t' := ⟨fun pins s σ H x u Q I r y => h.run pins s σ H x u Q I r (k x σ H Q y)⟩
theorem dg_name {pos : Pos} {i : Nat} {x : Str} (hN : X.N.Nodup) (hi : X.N[i]? = some x) (hl : L2.Loc X.env.scope x) (hf : X.fn x = true ∨ X.env.scope.names.lookup x = some .local := by first | exact Or.inl rfl | exact Or.inr rfl) (ho : i ∈ ow := by decide) : PG X (.Name x pos) (tG C ow (gN i)) :=
  (pg_name hN hi hl hf).imp fun v σ H Q ⟨hid, ρ, x, q, hp, sr, r, g, k⟩ => by
    obtain ⟨no, g⟩ := of_onOwn g
    exact k _ _ (sr.set r i) (fun ij => ij.set no i) (wipe_set ho) g
theorem dgs_nil : PGs X [] (tGs C ow gsNil) := pgs_nil.imp fun vs σ H Q ⟨hid, ρ, xs, q, hp, sr, r, g, k⟩ => by
  cases r with
  | nil => exact ⟨rfl, k σ ρ sr id rfl g⟩
  | cons a b => exact g.elim
theorem dgs_cons {e : Expr} {es : List Expr} {G : DG} {Gs : DGs} (h : PG X e (tG C ow G)) (hs : PGs X es (tGs C ow Gs)) (he : (assignEach (e :: es) X.env).map (·.2) = assign e X.env :: (assignEach es X.env).map (·.2) := by rfl) : PGs X (e :: es) (tGs C ow (gsCons G Gs)) :=
  (pgs_cons h hs he).imp fun vs σ H Q ⟨hid, ρ, xs, q, hp, sr, r, g, k⟩ => by
    cases r with
    | nil => exact g.elim
    | @cons v vs x xs a b => exact ⟨v, vs, rfl, hid, ρ, x, _, hp, sr, a, g, fun σ1 ρ1 s1 i1 w1 g1 => ⟨hid, ρ1, xs, q, hp, s1, b, g1, fun σ2 ρ2 s2 i2 w2 g2 => k σ2 ρ2 s2 (fun z => i2 (i1 z)) (w2.trans w1) g2⟩⟩
theorem dd_vrs {hid : List Addr} {H : Hp} : ∀ {vs : List V} {ds : List PyData}, DdAll C.K (hide hid H) vs ds → VRs C hid H vs (ds.map Dv.d)
  | [], _, h => by cases h; exact .nil
  | _ :: _, _, h => by
    cases h with
    | cons a b => exact .cons a (dd_vrs b)
theorem hide_mono {hid : List Addr} {H : Hp} : Mono (hide hid H) H := fun b o e _ => (hide_some e).2
theorem dg_tup {pos : Pos} {es : List Expr} {kt n : Nat} {Gs : DGs} {k : Nat} (l : Lv0 X C k) (h : PGs X es (tGs C ow Gs)) (hn : (assignEach es X.env).length = n := by rfl) (hf : (assignEach es X.env).findIdx? (·.1) = none := by rfl) : PG X (.Tuple es kt pos) (tG C ow (gT n Gs)) :=
  (pg_tup l.calm h hn hf).imp fun v σ H Q ⟨hid, ρ, x, q, hp, sr, r, g, k⟩ => by
    unfold gT at g
    split at g
    · rename_i ds
      obtain ⟨gl, g⟩ := g
      cases r with
      | @tup a xs _ h1 h2 => exact ⟨a, xs, rfl, by rw [l.K]; exact hide_mono.sqT h1.1, by rw [h2.len]; exact gl, hid, ρ, _, q, hp, sr, dd_vrs h2, g, k⟩
    · exact g.elim
/-- x, y = e -/
def dAsg (A : DE) (G : DG) (d : DEnds) (ρ : Rho) : Prop := A ρ fun x => G x ρ d.nx
theorem ds_asg {pos : Pos} {tg e : Expr} {A : DE} {G : DG} (he : PE X e (tE C A)) (hg : PG X tg (tG C ow G)) (h1 : swapsWithSole [tg] e pos.line X.env = pure false := by rfl) (h2 : swappedStores [tg] e X.env = pure none := by rfl) (h3 : (assignEach [tg] X.env).map (·.2) = [assign tg X.env] := by rfl) :
    PS X (.Assign [tg] e pos) (tS C (dAsg A G)) :=
  (ps_asg he hg h1 h2 h3).imp fun D σ H ⟨hid, ρ, d, so, s, e⟩ => ⟨hid, ρ, _, so.hp, so.sr, s, fun v x H1 e1 o1 r1 a1 => ⟨hid, ρ, x, _, o1, so.sr.ext e1 so.hp, r1, a1, fun σ' ρ' sr' ij _ g => e.nx hid σ' H1 ρ' ⟨o1, sr', ij so.inj⟩ (Stp.ext e1 so.hp) g⟩⟩
/-! ### what is walked -/
abbrev DI := Rho → (List PyData → Prop) → Prop
structure WalkD (C : DC) (hid : List Addr) (J : It) (ds : List PyData) (H : Hp) : Prop where
  ex : ∃ (G : Hp → Prop) (Y : Nat → Hp → V → Hp → Prop), Walk J ds.length G Y ∧ (∀ hid' H', Stp hid H hid' H' → G H') ∧
    ∀ i hid' H1 v H2, i < ds.length → Stp hid H hid' H1 → HpOk C hid' H1 → Y i H1 v H2 → ∃ d, ds[i]? = some d ∧ (H2 = H1 ∨ ∃ T o, H1 T = none ∧ H2 = upd H1 T o) ∧ Dd C.K (hide hid' H2) v d
def tI (C : DC) (I : DI) : TI := fun σ H R => ∃ hid ρ q, HpOk C hid H ∧ SR C hid σ H ρ ∧ I ρ q ∧ ∀ J ds H', Ext C.c H H' → HpOk C hid H' → WalkD C hid J ds H' → q ds → R J H'
theorem _root_.L2.PI.imp {tg e : Expr} {t t' : TI} (h : PI X tg e t) (k : ∀ σ H R, t' σ H R → t σ H R) : PI X tg e t' := ⟨fun pins s σ H R I y => h.run pins s σ H R I (k σ H R y)⟩
/-- the signs of a text, each as a text -/
def signs (z : Str) : List PyData := z.cps.toList.map fun c => .str ⟨#[c]⟩
def onSeq (x : Dv) (q : List PyData → Prop) : Prop := match x with
  | .d (.list ds) => q ds
  | .d (.tuple ds) => q ds
  | .d (.str z) => q (signs z)
  | _ => False
def dIt (A : DE) (ρ : Rho) (q : List PyData → Prop) : Prop := A ρ fun x => onSeq x q
theorem stp_keep {hid hid' : List Addr} {H H' : Hp} (s : Stp hid H hid' H') {d : PyData} {v : V} (h : Dd C.K (hide hid H) v d) : Dd C.K (hide hid' H') v d := Dd.mono s.mono _ _ h
theorem walkd_seq {hid : List Addr} {H : Hp} {J : It} {a : Addr} {vs : List V} {ds : List PyData} (rd : Hp → Prop) (hw : Walk J vs.length rd (YAt vs)) (hr : ∀ hid' H', Stp hid H hid' H' → rd H') (h : DdAll C.K (hide hid H) vs ds) : WalkD C hid J ds H := by
  refine ⟨rd, YAt vs, by rw [← h.len]; exact hw, hr, fun i hid' H1 v H2 hi st ok ⟨y1, y2⟩ => ?_⟩
  subst y1
  obtain ⟨d, e, k⟩ := h.at y2
  exact ⟨d, e, .inl rfl, stp_keep st k⟩
theorem one_it {pins : List (Addr × Obj)} {σ : L2.St} {H : Hp} {s : Shared} (I : Inv X pins σ H s) : ∀ b ∈ [s.heap.objs.size], FpOk X pins H b := fun b hb => by
  rw [List.mem_singleton.mp hb]
  exact I.fpOk (Nat.le_refl _) (I.hok.fresh (Nat.le_refl _))
theorem di_seq {tg e : Expr} {A : DE} {k : Nat} (l : Lv0 X C k) (h : PE X e (tE C A)) : PI X tg e (tI C (dIt A)) := by
  refine ⟨fun pins s σ H R I ⟨hid, ρ, q, hp, sr, a, kk⟩ => ?_⟩
  refine thn (h.run pins s σ H (fun v H1 => ∃ x, Ext C.c H H1 ∧ HpOk C hid H1 ∧ VR C hid H1 v x ∧ onSeq x q) I ⟨hid, ρ, _, hp, sr, a, fun v x H1 e1 o1 r1 a1 => ⟨x, e1, o1, r1, a1⟩⟩) fun v s1 ⟨u, H1, I1, r1, x, e1, o1, vr, a1⟩ => ?_
  unfold onSeq at a1
  split at a1
  · rename_i ds
    cases vr with
    | @lst p vs _ hl hd =>
      cases r1
      have hl' : SqL X.K H1 p vs := SqL.of (hide_some hl).2
      obtain ⟨us, rv, pl, _⟩ := I1.list hl'
      have wd : WalkD C hid (Itl X.K p) ds H1 := walkd_seq (a := p) (fun H => SqL X.K H p vs) walk_list (fun hid' H' st => SqL.of (st.fz p _ (hide_some hl).1 (hide_some hl).2 (fun _ z => by cases z))) hd
      exact wpAny_pyIter_list pl.isList ⟨_, [s1.heap.objs.size], _, _, H1, rfl,
        I1.kept (t' := s1.toks) (fun b o e => Heap.get?_push_of_some _ e), turn_list p _,
        ⟨_, Heap.get?_push_size _ rfl, rfl, rfl⟩, one_it I1, kk _ _ _ e1 o1 wd a1⟩
  · rename_i ds
    cases vr with
    | @tup p vs _ hl hd =>
      cases r1
      have hl' : SqT X.K H1 p vs := by rw [l.K]; exact hide_mono.sqT hl.1
      obtain ⟨us, rv, pl, _⟩ := I1.tuple hl'
      have wd : WalkD C hid (Itt X.K p) ds H1 := walkd_seq (a := p) (fun H => SqT X.K H p vs) walk_tup (fun hid' H' st => by rw [l.K]; exact hide_mono.sqT (st.mono.sqT hl.1)) hd
      exact wpAny_pyIter_tuple (show s1.heap.IsTuple p us.toArray from pl) ⟨_, [s1.heap.objs.size], _, _, H1, rfl,
        I1.kept (t' := s1.toks) (fun b o e => Heap.get?_push_of_some _ e), turn_tuple p _,
        ⟨_, Heap.get?_push_size _ rfl, rfl, rfl⟩, one_it I1, kk _ _ _ e1 o1 wd a1⟩
  · rename_i z
    cases vr with
    | str _ hz =>
      obtain ⟨t, rfl⟩ := r1
      have wd : WalkD C hid (Its z) (signs z) H1 := by
        have hl : (signs z).length = z.cps.size := by unfold signs; rw [List.length_map, Array.length_toList]
        refine ⟨fun _ => True, (fun i H v H' => H' = H ∧ ∃ c, z.cps[i]? = some c ∧ v = .str ⟨#[c]⟩), by rw [hl]; exact walk_str, fun _ _ _ => trivial, fun i hid' H2 v H3 hi st ok ⟨y1, c, y2, y3⟩ => ?_⟩
        subst y1 y3
        have hc : c ∈ z.cps := Array.mem_of_getElem? y2
        refine ⟨.str ⟨#[c]⟩, by unfold signs; rw [List.getElem?_map, Array.getElem?_toList, y2]; rfl, .inl rfl, .str _ ?_⟩
        unfold PyData.strOk at hz ⊢
        simpa using (Array.all_eq_true_iff_forall_mem.mp hz) c hc
      cases ha : z.cps.all (· < 128)
      · exact wpAny_pyIter_wide ha (pi_one (tk := s1.toks) I1 _ (turn_str _ z t "str_iterator" (.inr rfl))
          ⟨_, Heap.get?_push_size _ rfl, rfl, rfl⟩ (kk _ _ _ e1 o1 wd a1))
      · exact wpAny_pyIter_ascii ha (pi_one (tk := s1.toks) I1 _ (turn_str _ z t "str_ascii_iterator" (.inl rfl))
          ⟨_, Heap.get?_push_size _ rfl, rfl, rfl⟩ (kk _ _ _ e1 o1 wd a1))
  · exact a1.elim
/-- range(n), range(a, b) -/
def intsD (lo : Int) (n : Nat) : List PyData := (List.range n).map fun i => .int (lo + (i : Nat))
def small (i : Int) : Bool := decide (-(2 ^ 62) ≤ i ∧ i < 2 ^ 62)
def dRng1 (A : DE) (ρ : Rho) (q : List PyData → Prop) : Prop := A ρ fun x => match x with
  | .d (.int j) => small j = true ∧ q (intsD 0 j.toNat)
  | _ => False
def dRng2 (A B : DE) (ρ : Rho) (q : List PyData → Prop) : Prop := A ρ fun x => B ρ fun y => match x, y with
  | .d (.int i), .d (.int j) => small i = true ∧ small j = true ∧ q (intsD i (j - i).toNat)
  | _, _ => False
theorem intsD_at {lo : Int} {n i : Nat} (h : i < n) : (intsD lo n)[i]? = some (.int (lo + (i : Nat))) := by
  unfold intsD
  rw [List.getElem?_map, List.getElem?_range h]
  rfl
theorem walkd_rng {hid : List Addr} {H : Hp} (lo : Int) (n : Nat) : WalkD C hid (Itr lo n) (intsD lo n) H := by
  have hl : (intsD lo n).length = n := by unfold intsD; rw [List.length_map, List.length_range]
  refine ⟨fun _ => True, (YFn fun i => .int (lo + i)), by rw [hl]; exact walk_range, fun _ _ _ => trivial, fun i hid' H1 v H2 hi st ok ⟨y1, y2⟩ => ?_⟩
  subst y1 y2
  rw [hl] at hi
  exact ⟨_, intsD_at hi, .inl rfl, .int _⟩
theorem di_rng1 {tg a : Expr} {A : DE} {p pos : Pos} (hm : X.mg "range" = none) (h : PE X a (tE C A)) (hg : Gl X "range" := by rfl) (hs : starEach [a] X.env = [(false, eval a X.env)] := by rfl) : PI X tg (.Call (.Name "range" p) [a] [] pos) (tI C (dRng1 A)) :=
  (pi_range1 hg hm (pa_cons h pa_nil hs) hs).imp fun σ H R ⟨hid, ρ, q, hp, sr, a, kk⟩ => ⟨hid, ρ, _, hp, sr, a, fun v x H1 e1 o1 r1 a1 => by
    cases x with
    | d y =>
      cases y with
      | int j =>
        cases r1
        have b := of_decide_eq_true a1.1
        exact ⟨j, rfl, b.1, b.2, kk _ _ _ e1 o1 (walkd_rng 0 j.toNat) a1.2⟩
      | _ => exact a1.elim
    | _ => exact a1.elim⟩
theorem di_rng2 {tg a b : Expr} {A B : DE} {p pos : Pos} (hm : X.mg "range" = none) (h : PE X a (tE C A)) (h' : PE X b (tE C B)) (hg : Gl X "range" := by rfl) (hs : starEach [a, b] X.env = [(false, eval a X.env), (false, eval b X.env)] := by rfl) (hs2 : starEach [b] X.env = [(false, eval b X.env)] := by rfl) : PI X tg (.Call (.Name "range" p) [a, b] [] pos) (tI C (dRng2 A B)) :=
  (pi_range2 hg hm (pa_cons h (pa_cons h' pa_nil hs2) (by rw [hs, hs2])) hs hs2).imp fun σ H R ⟨hid, ρ, q, hp, sr, a, kk⟩ => ⟨hid, ρ, _, hp, sr, a, fun v x H1 e1 o1 r1 a1 => ⟨hid, ρ, _, o1, sr.ext e1 hp, a1, fun w y H2 e2 o2 r2 a2 => by
    cases x with
    | d x =>
      cases x with
      | int i =>
        cases y with
        | d y =>
          cases y with
          | int j =>
            cases r1
            cases r2
            have b1 := of_decide_eq_true a2.1
            have b2 := of_decide_eq_true a2.2.1
            exact ⟨i, j, rfl, ⟨b1.1, b1.2, b2.1, b2.2⟩, kk _ _ _ (e1.trans e2) o2 (walkd_rng i (j - i).toNat) a2.2.2⟩
          | _ => exact a2.elim
        | _ => exact a2.elim
      | _ => exact a2.elim
    | _ => exact a2.elim⟩⟩
end
end Dl

set_option Elab.async false
set_option linter.all false
set_option maxRecDepth 100000
set_option maxHeartbeats 1000000
namespace Dl
open PySem PySem.Spec PyProof.Rows L2
/-! ### loops -/
def dForGo (G : DG) (S : DS) (d : DEnds) : List PyData → Rho → Prop
  | [] => d.nx
  | x :: r => fun ρ => G (.d x) ρ fun ρ1 => S { nx := dForGo G S d r, rt := d.rt, bk := d.nx, ct := dForGo G S d r } ρ1
def forT (G : DG) (S : DS) (d : DEnds) (ds : List PyData) (ρ : Rho) (_ : Tg d) : Prop := dForGo G S d ds ρ
def dFor (I : DI) (G : DG) (S : DS) (d : DEnds) (ρ : Rho) : Prop := I ρ fun ds => forT G S d ds ρ .mk
def dWhile (T : DT) (S : DS) (d : DEnds) (ρ : Rho) : Prop := ∃ I : Nat → Rho → Prop, (∃ m, I m ρ) ∧ ∀ m ρ, I m ρ → T ρ fun b => br b (S { nx := fun ρ' => ∃ k, k < m ∧ I k ρ', rt := d.rt, bk := d.nx, ct := fun ρ' => ∃ k, k < m ∧ I k ρ' } ρ) (d.nx ρ)
theorem drop_at {α : Type} {l : List α} {i : Nat} {x : α} (h : l[i]? = some x) : l.drop i = x :: l.drop (i + 1) := by
  obtain ⟨hi, e⟩ := List.getElem?_eq_some_iff.mp h
  rw [List.drop_eq_getElem_cons hi, e]
section
variable {X : Cx} {C : DC} {ow : List Nat}
theorem yld_ok {hid : List Addr} {H H' : Hp} (hp : HpOk C hid H) (h : H' = H ∨ ∃ T o, H T = none ∧ H' = upd H T o) : Ext C.c H H' ∧ HpOk C hid H' := by
  rcases h with rfl | ⟨t, o, hn, rfl⟩
  · exact ⟨.refl, hp⟩
  · exact ⟨Ext.new hn o, hp.new hn o⟩
theorem ds_for {tg iter : Expr} {body : List Stmt} {I : DI} {G : DG} {S : DS} {pos : Pos} {E : XK} {k : Nat} (l : Lv X C E k) (hi : PI X tg iter (tI C I)) (hg : PG X tg (tG C ow G)) (hb : PSs X body (tS C S)) (hs : ∀ x, foldedSetIterable iter X.env x = pure x := by intro _; rfl) :
    PS X (.For tg iter body [] pos) (tS C (dFor I G S)) :=
  (ps_for l.own l.b.calm hi hg hb hs).imp fun D σ H ⟨hid, ρ, d, so, s, e⟩ => ⟨hid, ρ, _, so.hp, so.sr, s, fun J ds H1 e1 o1 wd a1 => by
    obtain ⟨Gp, Y, walk, hG, hY⟩ := wd.ex
    have st1 : Stp hid H hid H1 := Stp.ext e1 so.hp
    refine for_it walk (fun i σ H' => ∃ hid' ρ', StOk C hid' σ H' ρ' ∧ Stp hid H1 hid' H' ∧ dForGo G S d (ds.drop i) ρ') ⟨hid, ρ, so.ext e1 o1, .refl, a1⟩ (fun i σ H' _ ⟨hid', ρ', _, st, _⟩ => hG _ _ st) (fun i x σ H' H'' hil ⟨hid', ρ', so', st, go⟩ y => ?_) fun σ H' ⟨hid', ρ', so', st, go⟩ => ?_
    · obtain ⟨x', ex, hh, dd⟩ := hY i hid' H' x H'' hil st so'.hp y
      obtain ⟨e2, o2⟩ := yld_ok so'.hp hh
      rw [drop_at ex] at go
      refine ⟨hid', ρ', .d x', _, o2, so'.sr.ext e2 so'.hp, dd, go, fun σ2 ρ2 sr2 ij _ g2 => ⟨hid', ρ2, _, ⟨o2, sr2, ij so'.inj⟩, g2, ?_⟩⟩
      have st2 : Stp hid H1 hid' H'' := st.trans (Stp.ext e2 so'.hp)
      exact ⟨fun h3 σ3 H3 ρ3 so3 st3 n3 => ⟨h3, ρ3, so3, st2.trans st3, n3⟩, fun h3 σ3 H3 ρ3 so3 st3 n3 => e.nx h3 σ3 H3 ρ3 so3 (st1.trans (st2.trans st3)) n3, fun h3 σ3 H3 ρ3 so3 st3 n3 => ⟨h3, ρ3, so3, st2.trans st3, n3⟩, e.rt⟩
    · rw [List.drop_length] at go
      exact e.nx _ _ _ _ so' (st1.trans st) go⟩
theorem ds_while {c : Expr} {body : List Stmt} {T : DT} {S : DS} {pos : Pos} {E : XK} {k : Nat} (l : Lv X C E k) (hc : PT X c (tT C T)) (hb : PSs X body (tS C S)) : PS X (.While c body [] pos) (tS C (dWhile T S)) :=
  (ps_while l.own hc hb).imp fun D σ H ⟨hid, ρ, d, so, s, e⟩ => by
    obtain ⟨I, ⟨m, hm⟩, step⟩ := s
    refine ⟨fun m σ H' => ∃ hid' ρ', StOk C hid' σ H' ρ' ∧ Stp hid H hid' H' ∧ I m ρ', ⟨m, hid, ρ, so, .refl, hm⟩, fun m σ H' ⟨hid', ρ', so', st, hi⟩ => ⟨hid', ρ', _, so'.hp, so'.sr, step m ρ' hi, fun b H1 e1 o1 a1 => ?_⟩⟩
    have st1 : Stp hid H hid' H1 := st.trans (Stp.ext e1 so'.hp)
    cases b with
    | true =>
      exact ⟨fun σ' H' => ∃ k, k < m ∧ ∃ hid' ρ', StOk C hid' σ' H' ρ' ∧ Stp hid H hid' H' ∧ I k ρ', fun σ' H' ⟨k, hk, z⟩ => ⟨k, hk, z⟩, hid', ρ', _, so'.ext e1 o1, a1, fun h3 σ3 H3 ρ3 so3 st3 ⟨k, hk, n3⟩ => ⟨k, hk, h3, ρ3, so3, st1.trans st3, n3⟩, fun h3 σ3 H3 ρ3 so3 st3 n3 => e.nx h3 σ3 H3 ρ3 so3 (st1.trans st3) n3, fun h3 σ3 H3 ρ3 so3 st3 ⟨k, hk, n3⟩ => ⟨k, hk, h3, ρ3, so3, st1.trans st3, n3⟩, e.rt⟩
    | false => exact e.nx _ _ _ _ (so'.ext e1 o1) st1 a1
/-! ### comprehensions -/
def wipeR (ρ : Rho) : List Nat → Rho
  | [] => ρ
  | v :: vs => (wipeR ρ vs).set v none
def dLcGo (G : DG) (T : DT) (A : DE) (ρ : Rho) : List PyData → List PyData → (List PyData → Prop) → Prop
  | [], acc, q => q acc
  | x :: r, acc, q => G (.d x) ρ fun ρ1 => T ρ1 fun b => br b (A ρ1 fun y => onD y fun y => acc.length ≤ 1000000 ∧ dLcGo G T A ρ r (acc ++ [y]) q) (dLcGo G T A ρ r acc q)
def lcT (G : DG) (T : DT) (A : DE) (ρ : Rho) (ds : List PyData) (q : List PyData → Prop) (_ : Tg q) : Prop := dLcGo G T A ρ ds [] q
def dLc (I : DI) (G : DG) (T : DT) (A : DE) (vs : List Nat) (ρ : Rho) (q : Dv → Prop) : Prop := I ρ fun ds => lcT G T A (wipeR ρ vs) ds (fun l => q (.d (.list l))) .mk
def dYes (_ : Rho) (q : Bool → Prop) : Prop := q true
def tTs (C : DC) (T : DT) : TT := tT C T
theorem dts_nil : PTs X [] (tT C dYes) := ⟨fun pins s σ H Q I ⟨hid, ρ, q, hp, sr, a, k⟩ => pts_nil.run pins s σ H Q I (k true H .refl hp a)⟩
theorem dts_one {c : Expr} {T : DT} (h : PT X c (tT C T)) : PTs X [c] (tT C T) := pts_one h
theorem wipeR_len (ρ : Rho) : ∀ vs : List Nat, (wipeR ρ vs).length = ρ.length
  | [] => rfl
  | v :: vs => by unfold wipeR; rw [List.length_set, wipeR_len ρ vs]
theorem wipeR_at {ρ : Rho} {x : Dv} : ∀ {vs : List Nat} {j : Nat}, (wipeR ρ vs)[j]? = some (some x) → j ∉ vs ∧ ρ[j]? = some (some x)
  | [], j, h => ⟨by simp, h⟩
  | v :: vs, j, h => by
    unfold wipeR at h
    rw [List.getElem?_set] at h
    by_cases e : v = j
    · rw [if_pos e] at h
      split at h <;> cases h
    · rw [if_neg e] at h
      obtain ⟨h1, h2⟩ := wipeR_at h
      exact ⟨fun z => by
        rcases List.mem_cons.mp z with z | z
        · exact e z.symm
        · exact h1 z, h2⟩
theorem sr_wipe {hid : List Addr} {σ : L2.St} {H : Hp} {ρ : Rho} (s : SR C hid σ H ρ) (vs : List Nat) : SR C hid (wipe σ vs) H (wipeR ρ vs) where
  len := by rw [wipe_length, wipeR_len]; exact s.len
  at' := fun j x e => by
    obtain ⟨h1, h2⟩ := wipeR_at e
    obtain ⟨v, h3, h4⟩ := s.at' j x h2
    exact ⟨v, by rw [wipe_at, if_neg h1]; exact h3, h4⟩
theorem wipe_idem (σ : L2.St) (vs : List Nat) : wipe (wipe σ vs) vs = wipe σ vs := by
  refine List.ext_getElem? fun j => ?_
  rw [wipe_at, wipe_at]
  by_cases m : j ∈ vs
  · rw [if_pos m, if_pos m]
    cases σ[j]? <;> rfl
  · rw [if_neg m, if_neg m]
/-- while a new list is made at D -/
theorem HpOk.more {hid : List Addr} {H : Hp} (h : HpOk C hid H) {D : Addr} (hn : ∃ xs, H D = Option.some (HO.lst xs)) : HpOk C (D :: hid) H := have hn : ∃ o, H D = Option.some o ∧ OwO o := hn.elim fun xs e => ⟨_, e, trivial⟩;
  ⟨h.tabs, fun a e => ⟨List.mem_cons_of_mem _ (h.cup a e).1, (h.cup a e).2⟩, fun a ha => by
    rcases List.mem_cons.mp ha with rfl | ha
    · exact hn
    · exact h.some a ha, fun a ha => List.mem_cons_of_mem _ (h.sub a ha), h.ext⟩
theorem HpOk.drop {hid : List Addr} {H : Hp} {D : Addr} (h : HpOk C (D :: hid) H) (hc : C.c ≠ Option.some D) (h0 : D ∉ C.hid0) : HpOk C hid H :=
  ⟨h.tabs, fun a e => ⟨by
    rcases List.mem_cons.mp (h.cup a e).1 with z | z
    · exact absurd (by rw [e, z]) hc
    · exact z, (h.cup a e).2⟩, fun a ha => h.some a (List.mem_cons_of_mem _ ha), fun a ha => by
    rcases List.mem_cons.mp (h.sub a ha) with z | z
    · exact absurd (z ▸ ha) h0
    · exact z, h.ext⟩
theorem VR.more {hid : List Addr} {H H' : Hp} {D : Addr} (hn : H D = none) (hf : ∀ b o, b ≠ D → H b = some o → (∀ ps, o ≠ .tbl ps) → H' b = some o) {v : V} : ∀ {x : Dv}, VR C hid H v x → VR C (D :: hid) H' v x := by
  have m : Mono (hide hid H) (hide (D :: hid) H') := fun b o e k => by
    obtain ⟨h1, h2⟩ := hide_some e
    have ne : b ≠ D := fun z => by rw [z, hn] at h2; cases h2
    exact hide_of (fun z => by
      rcases List.mem_cons.mp z with z | z
      · exact ne z
      · exact h1 z) (hf b o ne h2 k)
  intro x k
  cases x with
  | d y => exact Dd.mono m _ _ k
  | cup => exact k
  | fn y => exact k
  | ty y => exact k
  | ex y => exact k
  | own y =>
    obtain ⟨p, vs, h1, h2, h3, h4, h5, h6⟩ := k
    exact ⟨p, vs, h1, List.mem_cons_of_mem _ h2, h3, h4, hf p _ (fun z => by rw [z, hn] at h5; cases h5) h5 (fun _ z => by cases z), DdAll.mono m _ _ h6⟩
  | dc y => exact VR.free m trivial k
  | od y =>
    obtain ⟨p, vs, h1, h2, h3, h4, h5, h6⟩ := k
    exact ⟨p, vs, h1, List.mem_cons_of_mem _ h2, h3, h4, hf p _ (fun z => by rw [z, hn] at h5; cases h5) h5 (fun _ z => by cases z), DvK.mono m h6⟩
theorem lc_imp {I : DI} {G : DG} {T : DT} {A : DE} {vs : List Nat} (σ : L2.St) (H : Hp) (Q : VK) : tE C (dLc I G T A vs) σ H Q → tLc (tI C I) (tG C vs G) (tT C T) (tE C A) vs σ H Q := by
  rintro ⟨hid, ρ, q, hp, sr, a, k⟩
  refine ⟨hid, ρ, _, hp, sr, a, fun J ds H1 e1 o1 wd a1 D hD => ?_⟩
  obtain ⟨Gp, Y, walk, hG, hY⟩ := wd.ex
  have cD : C.c ≠ some D := fun z => o1.nn D (o1.cup D z).1 hD
  have hD0 : D ∉ C.hid0 := fun z => o1.nn D (o1.sub D z) hD
  have hDh : D ∉ hid := fun z => o1.nn D z hD
  have sr1 : SR C hid σ H1 ρ := sr.ext e1 hp
  have stp0 : Stp hid H1 (D :: hid) (upd H1 D (.lst [])) := ⟨fun b o n e _ => by rw [upd_ne (ne_of_none e hD)]; exact e, fun b hb => by
    rcases List.mem_cons.mp hb with rfl | hb
    · exact .inr (.of hD)
    · exact .inl hb⟩
  have frD : Fr C.H0 D := Fr.new o1 hD
  -- a list that grows at D
  have grow : ∀ (H' : Hp) (ys zs : List V), HpOk C (D :: hid) H' → H' D = some (.lst ys) → HpOk C (D :: hid) (upd H' D (.lst zs)) ∧ Stp (D :: hid) H' (D :: hid) (upd H' D (.lst zs)) := fun H' ys zs ok hh => by
    refine ⟨⟨tabs_upd ok.tabs hh, fun b eb => ⟨(ok.cup b eb).1, ?_⟩, fun b hb => ?_, ok.sub, fun b o n e t => ?_⟩, ⟨fun b o n e _ => by rw [upd_ne (fun z => n (by rw [z]; exact List.mem_cons_self))]; exact e, fun b hb => .inl hb⟩⟩
    · obtain ⟨g, sd, z1, z2⟩ := (ok.cup b eb).2
      exact ⟨g, sd, by rw [upd_ne (fun z => cD (by rw [eb, z]))]; exact z1, z2⟩
    · by_cases z : b = D
      · exact ⟨.lst zs, by rw [z, upd_same], trivial⟩
      · rw [upd_ne z]; exact ok.some b hb
    · have h1 := ok.ext b o n e t
      by_cases z : b = D
      · subst z
        obtain ⟨ps, w⟩ := frD o e
        exact absurd w (t ps)
      · rw [upd_ne z]; exact h1
  refine lc_it walk (fun i H' => ∃ ys acc, HpOk C (D :: hid) H' ∧ Stp hid H1 (D :: hid) H' ∧ (∀ b o, b ≠ D → C.c ≠ some b → H1 b = some o → (∀ ps, o ≠ .tbl ps) → H' b = some o) ∧ H' D = some (.lst ys) ∧ DdAll C.K (hide (D :: hid) H') ys acc ∧ dLcGo G T A (wipeR ρ vs) (ds.drop i) acc fun l => q (.d (.list l)))
    ⟨[], [], (o1.new hD _).more ⟨_, upd_same⟩, stp0, fun b o n _ e _ => by rw [upd_ne n]; exact e, upd_same, .nil, a1⟩ (fun i H' _ ⟨_, _, _, st, _⟩ => hG _ _ st) (fun i x H' H'' hil ⟨ys, acc, ok, st, all, hh, da, go⟩ y => ?_) fun H' ⟨ys, acc, ok, st, all, hh, da, go⟩ => ?_
  · obtain ⟨x', ex, hy, dd⟩ := hY i _ H' x H'' hil st ok y
    obtain ⟨e2, o2⟩ := yld_ok ok hy
    rw [drop_at ex] at go
    -- the slots, with D hidden
    have sr2 : SR C (D :: hid) (wipe σ vs) H'' (wipeR ρ vs) := sr_wipe ⟨sr1.len, fun j z ej => by
      obtain ⟨v, h1, h2⟩ := sr1.at' j z ej
      refine ⟨v, h1, ?_⟩
      have h3 : VR C (D :: hid) H' v z := by
        have m : Mono (hide hid H1) (hide (D :: hid) H') := st.mono
        cases z with
        | d y => exact Dd.mono m _ _ h2
        | cup => exact h2
        | fn y => exact h2
        | ty y => exact h2
        | ex y => exact h2
        | own y =>
          obtain ⟨p, ws, k1, k2, k3, k4, k5, k6⟩ := h2
          exact ⟨p, ws, k1, List.mem_cons_of_mem _ k2, k3, k4, all p _ (fun z => hDh (z ▸ k2)) k3 k5 (fun _ z => by cases z), DdAll.mono m _ _ k6⟩
        | dc y => exact VR.free m trivial h2
        | od y =>
          obtain ⟨p, ws, k1, k2, k3, k4, k5, k6⟩ := h2
          exact ⟨p, ws, k1, List.mem_cons_of_mem _ k2, k3, k4, all p _ (fun z => hDh (z ▸ k2)) k3 k5 (fun _ z => by cases z), DvK.mono m k6⟩
      exact h3.ext e2 ok⟩ vs
    refine ⟨D :: hid, wipeR ρ vs, .d x', _, o2, sr2, dd, go, fun σ3 ρ3 sr3 _ w3 g3 => ⟨w3.trans (wipe_idem σ vs), D :: hid, ρ3, _, o2, sr3, g3, fun b H3 e3 o3 g4 => ?_⟩⟩
    have all3 : ∀ H4, Ext C.c H'' H4 → ∀ b o, b ≠ D → C.c ≠ some b → H1 b = some o → (∀ ps, o ≠ .tbl ps) → H4 b = some o := fun H4 e4 b o n c e t => e4 b o c (e2 b o c (all b o n c e t) t) t
    cases b with
    | true =>
      refine ⟨D :: hid, ρ3, _, o3, sr3.ext e3 o2, g4, fun v z H4 e4 o4 r4 g5 => ?_⟩
      obtain ⟨z, rfl, ln, g5⟩ := of_onD g5
      have et := (e2.trans e3).trans e4
      have hh4 : H4 D = some (.lst ys) := et D _ cD hh (fun _ z => by cases z)
      have da4 := DdAll.mono (et.mono ok) _ _ da
      obtain ⟨o5, s5⟩ := grow H4 ys (ys ++ [v]) o4 hh4
      refine ⟨ys, hh4, by rw [da4.len]; exact Nat.lt_of_le_of_lt ln (by decide), ys ++ [v], acc ++ [z], o5, ?_, fun b o n c e t => by rw [upd_ne n]; exact all3 H4 (e3.trans e4) b o n c e t, upd_same, ?_, g5⟩
      · exact (st.trans (Stp.ext et ok)).trans s5
      · exact DdAll.mono s5.mono _ _ (da4.append (.cons r4 .nil))
    | false =>
      have et := e2.trans e3
      exact ⟨ys, acc, o3, st.trans (Stp.ext et ok), all3 H3 e3, et D _ cD hh (fun _ z => by cases z), DdAll.mono (et.mono ok) _ _ da, g4⟩
  · rw [List.drop_length] at go
    have go : q (.d (.list acc)) := go
    have okh : HpOk C hid H' := ok.drop cD hD0
    refine k (.ref D) _ H' (fun b o n e t => ?_) okh ?_ go
    · have he := e1 b o n e t
      exact all b o (fun z => by rw [z, hD] at he; cases he) n he t
    · refine .lst (hide_of hDh hh) (DdAll.mono (fun b o e _ => ?_) _ _ da)
      obtain ⟨h1, h2⟩ := hide_some e
      exact hide_of (fun z => h1 (List.mem_cons_of_mem _ z)) h2
theorem de_lc {elt tg iter : Expr} {ifs : List Expr} {scope : Scope} {own : List (Str × Nat)} {pos : Pos} {I : DI} {G : DG} {T : DT} {A : DE} {k : Nat} (l : Lv0 X C k) (hi : PI X tg iter (tI C I)) (ok : BlkOk X.N X.env.scope scope own)
    (hg : ∀ (s : Shared) (H : Hp) (c : Addr) (cl : List (Str × Addr)) (fp : List Addr), Lv0 (X.blk s H scope (compEnvC scope cl c X.env) fp) C k → PG (X.blk s H scope (compEnvC scope cl c X.env) fp) tg (tG C (own.map (·.2)) G))
    (ht : ∀ (s : Shared) (H : Hp) (c : Addr) (cl : List (Str × Addr)) (fp : List Addr), Lv0 (X.blk s H scope (compEnvC scope cl c X.env) fp) C k → PTs (X.blk s H scope (compEnvC scope cl c X.env) fp) ifs (tT C T))
    (he : ∀ (s : Shared) (H : Hp) (c : Addr) (cl : List (Str × Addr)) (fp : List Addr), Lv0 (X.blk s H scope (compEnvC scope cl c X.env) fp) C k → PE (X.blk s H scope (compEnvC scope cl c X.env) fp) elt (tE C A)) (hs : ∀ x, foldedSetIterable iter X.env x = pure x := by intro _; rfl) :
    PE X (.ListComp elt [⟨tg, iter, ifs, 0⟩] scope pos) (tE C (dLc I G T A (own.map (·.2)))) :=
  (pe_lc l.calm l.nd hi ok (fun s H c cl fp => hg s H c cl fp l.blk) (fun s H c cl fp => ht s H c cl fp l.blk) (fun s H c cl fp => he s H c cl fp l.blk) hs).imp lc_imp
/-- name = [.. for ..] on one line -/
theorem ds_setLc {i : Nat} {y : Str} {py : Pos} {elt tg iter : Expr} {ifs : List Expr} {scope : Scope} {own : List (Str × Nat)} {pos spos : Pos} {I : DI} {G : DG} {T : DT} {A : DE} {k : Nat} (l : Lv0 X C k) (hy : X.N[i]? = some y) (hyl : X.env.scope.names.lookup y = some .local)
    (hsw : swapsWith (.ListComp elt [⟨tg, iter, ifs, 0⟩] scope pos) (some (.Name y py)) spos.line X.env = pure true) (hi : PI X tg iter (tI C I)) (ok : BlkOk X.N X.env.scope scope own)
    (hg : ∀ (s : Shared) (H : Hp) (c : Addr) (cl : List (Str × Addr)) (fp : List Addr), Lv0 (X.blk s H scope (compEnvC scope cl c X.env) fp) C k → PG (X.blk s H scope (compEnvC scope cl c X.env) fp) tg (tG C (own.map (·.2)) G))
    (ht : ∀ (s : Shared) (H : Hp) (c : Addr) (cl : List (Str × Addr)) (fp : List Addr), Lv0 (X.blk s H scope (compEnvC scope cl c X.env) fp) C k → PTs (X.blk s H scope (compEnvC scope cl c X.env) fp) ifs (tT C T))
    (he : ∀ (s : Shared) (H : Hp) (c : Addr) (cl : List (Str × Addr)) (fp : List Addr), Lv0 (X.blk s H scope (compEnvC scope cl c X.env) fp) C k → PE (X.blk s H scope (compEnvC scope cl c X.env) fp) elt (tE C A)) (hs : ∀ x, foldedSetIterable iter X.env x = pure x := by intro _; rfl) :
    PS X (.Assign [.Name y py] (.ListComp elt [⟨tg, iter, ifs, 0⟩] scope pos) spos) (tS C (dSet i (dLc I G T A (own.map (·.2))))) :=
  (ps_setLc l.calm l.nd hy hyl hsw hi ok (fun s H c cl fp => hg s H c cl fp l.blk) (fun s H c cl fp => ht s H c cl fp l.blk) (fun s H c cl fp => he s H c cl fp l.blk) hs).imp fun D σ H ⟨hid, ρ, d, so, s, e⟩ =>
    lc_imp σ H _ ⟨hid, ρ, _, so.hp, so.sr, s, fun v y H1 e1 o1 r1 a1 => by
      obtain ⟨no, a1⟩ := of_onOwn a1
      exact e.nx hid _ H1 _ ((so.ext e1 o1).set r1 no i) (Stp.ext e1 so.hp) a1⟩
end
end Dl

set_option Elab.async false
set_option linter.all false
set_option maxRecDepth 100000
set_option maxHeartbeats 1000000
namespace Dl
open PySem PySem.Spec PyProof.Rows L2
/-! ### operators, told of data -/
def asD : Dv → Option PyData
  | .d x => some x
  | .own xs => some (.list xs)
  | _ => none
def lstD : Dv → Option (List PyData)
  | .d (.list xs) => some xs
  | .own xs => some xs
  | _ => none
def addD (x y : Dv) (q : Dv → Prop) : Prop := match x, y with
  | .d (.int i), .d (.int j) => q (.d (.int (i + j)))
  | .d (.str a), .d (.str b) => a.length + b.length ≤ 1000000 ∧ q (.d (.str (a ++ b)))
  | .d (.tuple a), .d (.tuple b) => a.length + b.length ≤ 1000000 ∧ q (.d (.tuple (a ++ b)))
  | .d (.list a), .d (.list b) => a.length + b.length ≤ 1000000 ∧ q (.d (.list (a ++ b)))
  | .own a, .d (.list b) => a.length + b.length ≤ 1000000 ∧ q (.d (.list (a ++ b)))
  | .d (.list a), .own b => a.length + b.length ≤ 1000000 ∧ q (.d (.list (a ++ b)))
  | .own a, .own b => a.length + b.length ≤ 1000000 ∧ q (.d (.list (a ++ b)))
  | _, _ => False
def subD (x y : Dv) (q : Dv → Prop) : Prop := match x, y with
  | .d (.int i), .d (.int j) => q (.d (.int (i - j)))
  | _, _ => False
def mulOk (i j : Int) : Bool := decide (-(2 ^ 64) < i ∧ i < 2 ^ 64) || decide (-(2 ^ 64) < j ∧ j < 2 ^ 64)
def repD (l : List PyData) (k : Int) : List PyData := (List.replicate k.toNat l).flatten
def mulD (x y : Dv) (q : Dv → Prop) : Prop := match x, y with
  | .d (.int i), .d (.int j) => mulOk i j = true ∧ q (.d (.int (i * j)))
  | .d (.list a), .d (.int k) => (-(2 ^ 62) ≤ k ∧ k < 2 ^ 62 ∧ a.length * k.toNat ≤ 1000000) ∧ q (.d (.list (repD a k)))
  | .d (.tuple a), .d (.int k) => (a ≠ [] ∧ 2 ≤ k ∧ k ≤ 1000 ∧ a.length ≤ 1000) ∧ q (.d (.tuple (repD a k)))
  | _, _ => False
def modD (x y : Dv) (q : Dv → Prop) : Prop := match x, y with
  | .d (.int i), .d (.int j) => 0 < j ∧ q (.d (.int (i % j)))
  | _, _ => False
def fdivD (x y : Dv) (q : Dv → Prop) : Prop := match x, y with
  | .d (.int i), .d (.int j) => (0 < j ∧ j < 1073741824) ∧ q (.d (.int (i / j)))
  | _, _ => False
def onTwo (x y : Dv) (q : PyData → PyData → Prop) : Prop := match asD x, asD y with
  | some a, some b => q a b
  | _, _ => False
def eqD (x y : Dv) (q : Dv → Prop) : Prop := onTwo x y fun a b => (a.depth ≤ 64 ∧ b.depth ≤ 64) ∧ q (.d (.bool (PyData.eqv a b)))
def neD (x y : Dv) (q : Dv → Prop) : Prop := onTwo x y fun a b => (a.depth ≤ 64 ∧ b.depth ≤ 64) ∧ q (.d (.bool (!PyData.eqv a b)))
def cmpD (f : Int → Int → Bool) (x y : Dv) (q : Dv → Prop) : Prop := match x, y with
  | .d (.int i), .d (.int j) => q (.d (.bool (f i j)))
  | _, _ => False
abbrev ltD := cmpD fun i j => decide (i < j)
abbrev leD := cmpD fun i j => decide (i ≤ j)
abbrev gtD := cmpD fun i j => decide (j < i)
abbrev geD := cmpD fun i j => decide (j ≤ i)
def memD (ds : List PyData) (a : PyData) : Bool := ds.any fun z => PyData.eqv z a
def oneS (s : Str) : Option Nat := match s.cps.toList with
  | [c] => some c
  | _ => none
def inQ (f : Bool → Bool) (x y : Dv) (q : Dv → Prop) : Prop := match asD x, y with
  | some a, .d (.tuple ds) => (a.depth ≤ 64 ∧ (PyData.tuple ds).depth ≤ 64) ∧ q (.d (.bool (f (memD ds a))))
  | some a, .d (.list ds) => (a.depth ≤ 64 ∧ (PyData.list ds).depth ≤ 64) ∧ q (.d (.bool (f (memD ds a))))
  | some a, .own ds => (a.depth ≤ 64 ∧ (PyData.list ds).depth ≤ 64) ∧ q (.d (.bool (f (memD ds a))))
  | some (.str s), .d (.str z) => match oneS s with
    | some c => q (.d (.bool (f (decide (c ∈ z.cps.toList)))))
    | none => False
  | _, _ => False
abbrev inD := inQ fun b => b
abbrev notInD := inQ not
def isNonD : Dv → Bool
  | .d .none => true
  | _ => false
def isQ (f : Bool → Bool) (x y : Dv) (q : Dv → Prop) : Prop := match y with
  | .d .none => q (.d (.bool (f (isNonD x))))
  | .d (.bool b) => match x with
    | .d (.bool a) => q (.d (.bool (f (decide (a = b)))))
    | _ => False
  | _ => False
abbrev isD := isQ fun b => b
abbrev isNotD := isQ not
def negD (x : Dv) (q : Dv → Prop) : Prop := match x with
  | .d (.int i) => q (.d (.int (-i)))
  | _ => False
def onAtT (xs : List PyData) (i : Int) (q : PyData → Prop) (_ : Tg q) : Prop := match atI xs i with
  | some x => q x
  | none => False
abbrev onAt (xs : List PyData) (i : Int) (q : PyData → Prop) : Prop := onAtT xs i q .mk
theorem onAt_of {xs : List PyData} {i : Int} {q : PyData → Prop} {x : PyData} (e : atI xs i = some x) (h : q x) : onAtT xs i q .mk := by
  unfold onAtT
  rw [e]
  exact h
theorem onAt_0 {x : PyData} {l : List PyData} {q : PyData → Prop} : onAtT (x :: l) 0 q .mk = q x := by
  unfold onAtT
  rw [show atI (x :: l) 0 = some x from atI_nat (j := 0) rfl]
theorem onAt_1 {x y : PyData} {l : List PyData} {q : PyData → Prop} : onAtT (x :: y :: l) 1 q .mk = q y := by
  unfold onAtT
  rw [show atI (x :: y :: l) 1 = some y from atI_nat (j := 1) rfl]
theorem onAt_2 {x y z : PyData} {l : List PyData} {q : PyData → Prop} : onAtT (x :: y :: z :: l) 2 q .mk = q z := by
  unfold onAtT
  rw [show atI (x :: y :: z :: l) 2 = some z from atI_nat (j := 2) rfl]
theorem onAt_3 {x y z u : PyData} {l : List PyData} {q : PyData → Prop} : onAtT (x :: y :: z :: u :: l) 3 q .mk = q u := by
  unfold onAtT
  rw [show atI (x :: y :: z :: u :: l) 3 = some u from atI_nat (j := 3) rfl]
theorem onAt_4 {x y z u v : PyData} {l : List PyData} {q : PyData → Prop} : onAtT (x :: y :: z :: u :: v :: l) 4 q .mk = q v := by
  unfold onAtT
  rw [show atI (x :: y :: z :: u :: v :: l) 4 = some v from atI_nat (j := 4) rfl]
def ixD (x y : Dv) (q : Dv → Prop) : Prop := match y with
  | .d (.int i) => match x with
    | .d (.list xs) => onAt xs i fun z => q (.d z)
    | .own xs => onAt xs i fun z => q (.d z)
    | .d (.tuple xs) => onAt xs i fun z => q (.d z)
    | .d (.str z) => z.length ≤ 1000000 ∧ onAt (signs z) i fun z => q (.d z)
    | _ => False
  | _ => False
section
variable {X : Cx} {C : DC}
theorem VR.dp {hid : List Addr} {H : Hp} {v : V} {x : Dv} {a : PyData} (r : VR C hid H v x) (e : asD x = some a) : Dd C.K H v a := by
  cases x with
  | d y => cases e; exact Dd.mono hide_mono _ _ r
  | own xs =>
    cases e
    obtain ⟨p, vs, rfl, _, _, _, h, k⟩ := r
    exact .lst h (DdAll.mono hide_mono _ _ k)
  | cup => cases e
  | fn _ => cases e
  | ty _ => cases e
  | ex _ => cases e
  | dc _ => cases e
  | od _ => cases e
theorem VR.lst {hid : List Addr} {H : Hp} {v : V} {x : Dv} {xs : List PyData} (r : VR C hid H v x) (e : lstD x = some xs) : ∃ p vs, v = .ref p ∧ H p = some (.lst vs) ∧ DdAll C.K (hide hid H) vs xs := by
  cases x with
  | d y =>
    cases y with
    | list l => cases e; cases r with
      | lst h k => exact ⟨_, _, rfl, (hide_some h).2, k⟩
    | _ => cases e
  | own l => cases e; obtain ⟨p, vs, rfl, _, _, _, h, k⟩ := r; exact ⟨p, vs, rfl, h, k⟩
  | cup => cases e
  | fn _ => cases e
  | ty _ => cases e
  | ex _ => cases e
  | dc _ => cases e
  | od _ => cases e
theorem VR.tup {hid : List Addr} {H : Hp} {v : V} {xs : List PyData} (r : VR C hid H v (.d (.tuple xs))) : ∃ p vs, v = .ref p ∧ SqT C.K H p vs ∧ DdAll C.K (hide hid H) vs xs := by
  cases r with
  | tup h k => exact ⟨_, _, rfl, hide_mono.sqT h.1, k⟩
theorem of_onTwo {x y : Dv} {q : PyData → PyData → Prop} (h : onTwo x y q) : ∃ a b, asD x = some a ∧ asD y = some b ∧ q a b := by
  unfold onTwo at h
  split at h
  · rename_i a b e1 e2
    exact ⟨a, b, e1, e2, h⟩
  · exact h.elim
theorem d_of {hid : List Addr} {H : Hp} {v : V} {p : PyData} (r : VR C hid H v (.d p)) : Dd C.K (hide hid H) v p := r
theorem str_app {a b : Str} (h1 : PyData.strOk a = true) (h2 : PyData.strOk b = true) : PyData.strOk (a ++ b) = true := by
  unfold PyData.strOk at *
  have : (a ++ b).cps = a.cps ++ b.cps := rfl
  rw [this, Array.all_append, h1, h2]
  rfl
theorem add_lst {hid : List Addr} {H : Hp} {x y : Dv} {a b : List PyData} {v w : V} {pins : List (Addr × Obj)} {s : Shared} {σ : L2.St} {u1 u2 : Value} {Q : VK} {q : Dv → Prop} (I : Inv X pins σ H s) (rx : RelV v u1) (ry : RelV w u2) (hp : HpOk C hid H) (r1 : VR C hid H v x) (r2 : VR C hid H w y) (e1 : lstD x = some a) (e2 : lstD y = some b)
    (hl : a.length + b.length ≤ 1000000) (h : q (.d (.list (a ++ b)))) (k : ∀ v d H', Ext C.c H H' → HpOk C hid H' → VR C hid H' v d → q d → Q v H') : wpAny (model X.prog X.w) X.A (binaryOp .Add u1 u2) (EP X pins σ Q) X.xe s := by
  obtain ⟨p1, vs1, rfl, h1, d1⟩ := r1.lst e1
  obtain ⟨p2, vs2, rfl, h2, d2⟩ := r2.lst e2
  refine op_cat pins s σ H _ _ u1 u2 Q I rx ry ⟨p1, p2, vs1, vs2, rfl, rfl, h1, h2, by rw [d1.len, d2.len]; exact Nat.le_trans hl (by decide), fun p np => ?_⟩
  exact k _ _ _ (Ext.new np _) (hp.new np _) (new_lst hp (d1.append d2) np) h
theorem add_ok {k : Nat} (l : Lv0 X C k) : OpR X (binaryOp .Add) (rD C addD) := by
  intro pins s σ H x y u1 u2 Q I rx ry ⟨hid, dx, dy, q, hp, r1, r2, h, kk⟩
  unfold addD at h
  split at h
  · cases r1; cases r2
    exact op_add pins s σ H _ _ u1 u2 Q I rx ry ⟨_, _, rfl, rfl, kk _ (.d (.int _)) H .refl hp (Dd.int _) h⟩
  · cases r1 with
    | str _ k1 => cases r2 with
      | str _ k2 => exact op_add_str pins s σ H _ _ u1 u2 Q I rx ry ⟨_, _, rfl, rfl, Nat.le_trans h.1 (by decide), kk _ (.d (.str _)) H .refl hp (Dd.str _ (str_app k1 k2)) h.2⟩
  · rename_i a b
    obtain ⟨p1, vs1, rfl, h1, d1⟩ := r1.tup
    obtain ⟨p2, vs2, rfl, h2, d2⟩ := r2.tup
    have l1 := d1.len
    have l2 := d2.len
    refine op_catA pins s σ H _ _ u1 u2 Q I rx ry ⟨p1, p2, vs1, vs2, rfl, rfl, by rw [l.K]; exact h1, by rw [l.K]; exact h2, by rw [l1, l2]; exact Nat.le_trans h.1 (by decide), fun e => ?_, fun _ e => ?_, fun _ _ p np => ?_⟩
    · have : a = [] := by rw [e] at l1; exact List.length_eq_zero_iff.mp l1.symm
      rw [this, List.nil_append] at h
      exact kk _ _ H .refl hp r2 h.2
    · have : b = [] := by rw [e] at l2; exact List.length_eq_zero_iff.mp l2.symm
      rw [this, List.append_nil] at h
      exact kk _ _ H .refl hp r1 h.2
    · exact kk _ _ _ (Ext.new np _) (hp.new np _) (new_tup hp (d1.append d2) np) h.2
  · exact add_lst I rx ry hp r1 r2 rfl rfl h.1 h.2 kk
  · exact add_lst I rx ry hp r1 r2 rfl rfl h.1 h.2 kk
  · exact add_lst I rx ry hp r1 r2 rfl rfl h.1 h.2 kk
  · exact add_lst I rx ry hp r1 r2 rfl rfl h.1 h.2 kk
  · exact h.elim
theorem sub_ok : OpR X (binaryOp .Sub) (rD C subD) := by
  intro pins s σ H x y u1 u2 Q I rx ry ⟨hid, dx, dy, q, hp, r1, r2, h, kk⟩
  unfold subD at h
  split at h
  · cases r1; cases r2
    exact op_sub pins s σ H _ _ u1 u2 Q I rx ry ⟨_, _, rfl, rfl, kk _ (.d (.int _)) H .refl hp (Dd.int _) h⟩
  · exact h.elim
theorem DdAll.flat {K : PySem.W.Frag} {H : Hp} {vs : List V} {ds : List PyData} (h : DdAll K H vs ds) : ∀ n : Nat, DdAll K H (List.replicate n vs).flatten (List.replicate n ds).flatten
  | 0 => .nil
  | n + 1 => by
    rw [List.replicate_succ, List.replicate_succ, List.flatten_cons, List.flatten_cons]
    exact h.append (DdAll.flat h n)
theorem mul_ok {k : Nat} (l : Lv0 X C k) : OpR X (binaryOp .Mult) (rD C mulD) := by
  intro pins s σ H x y u1 u2 Q I rx ry ⟨hid, dx, dy, q, hp, r1, r2, h, kk⟩
  unfold mulD at h
  split at h
  · rename_i i j
    cases r1; cases r2
    have hc := h.1
    unfold mulOk at hc
    have hc : CMul i j := by
      rcases Bool.or_eq_true_iff.mp hc with z | z
      · exact .inl (of_decide_eq_true z)
      · exact .inr (of_decide_eq_true z)
    exact op_mul pins s σ H _ _ u1 u2 Q I rx ry ⟨_, _, rfl, rfl, hc, kk _ (.d (.int _)) H .refl hp (Dd.int _) h.2⟩
  · obtain ⟨p, vs, rfl, h1, d1⟩ := r1.lst rfl
    cases r2
    obtain ⟨⟨h2, h3, h4⟩, h5⟩ := h
    refine op_rep pins s σ H _ _ u1 u2 Q I rx ry ⟨p, _, vs, rfl, rfl, h1, by omega, by omega, by rw [d1.len]; exact Nat.le_trans h4 (by decide), fun p np => ?_⟩
    exact kk _ _ _ (Ext.new np _) (hp.new np _) (new_lst hp (d1.flat _) np) h5
  · rename_i a k'
    obtain ⟨p, vs, rfl, h1, d1⟩ := r1.tup
    cases r2
    obtain ⟨⟨h2, h3, h4, h6⟩, h5⟩ := h
    have l1 := d1.len
    refine op_repT pins s σ H _ _ u1 u2 Q I rx ry ⟨p, _, vs, rfl, rfl, by rw [l.K]; exact h1, fun e => h2 (by rw [e] at l1; exact List.length_eq_zero_iff.mp l1.symm), h3, h4, by rw [l1]; exact h6, fun p np => ?_⟩
    exact kk _ _ _ (Ext.new np _) (hp.new np _) (new_tup hp (d1.flat _) np) h5
  · exact h.elim
theorem mod_ok : OpR X (binaryOp .Mod) (rD C modD) := by
  intro pins s σ H x y u1 u2 Q I rx ry ⟨hid, dx, dy, q, hp, r1, r2, h, kk⟩
  unfold modD at h
  split at h
  · cases r1; cases r2
    exact op_mod pins s σ H _ _ u1 u2 Q I rx ry ⟨_, _, rfl, rfl, h.1, kk _ (.d (.int _)) H .refl hp (Dd.int _) h.2⟩
  · exact h.elim
theorem fdiv_ok : OpR X (binaryOp .FloorDiv) (rD C fdivD) := by
  intro pins s σ H x y u1 u2 Q I rx ry ⟨hid, dx, dy, q, hp, r1, r2, h, kk⟩
  unfold fdivD at h
  split at h
  · cases r1; cases r2
    exact op_fdiv pins s σ H _ _ u1 u2 Q I rx ry ⟨_, _, rfl, rfl, h.1, kk _ (.d (.int _)) H .refl hp (Dd.int _) h.2⟩
  · exact h.elim
theorem eq_ok {k : Nat} (l : Lv0 X C k) : OpR X (compareOp .Eq) (rD C eqD) := by
  intro pins s σ H x y u1 u2 Q I rx ry ⟨hid, dx, dy, q, hp, r1, r2, h, kk⟩
  obtain ⟨a, b, e1, e2, ⟨k1, k2⟩, h⟩ := of_onTwo h
  have d1 := r1.dp e1
  have d2 := r2.dp e2
  exact op_eqD (by have := l.room.un; omega) pins s σ H _ _ u1 u2 Q I rx ry ⟨a, b, by rw [l.K]; exact Dd.dp _ _ d1, by rw [l.K]; exact Dd.dp _ _ d2, d1.shaped k1, d2.shaped k2, kk _ (.d (.bool _)) H .refl hp (Dd.bl _) h⟩
theorem ne_ok {k : Nat} (l : Lv0 X C k) : OpR X (compareOp .NotEq) (rD C neD) := by
  intro pins s σ H x y u1 u2 Q I rx ry ⟨hid, dx, dy, q, hp, r1, r2, h, kk⟩
  obtain ⟨a, b, e1, e2, ⟨k1, k2⟩, h⟩ := of_onTwo h
  have d1 := r1.dp e1
  have d2 := r2.dp e2
  exact op_neD (by have := l.room.un; omega) pins s σ H _ _ u1 u2 Q I rx ry ⟨a, b, by rw [l.K]; exact Dd.dp _ _ d1, by rw [l.K]; exact Dd.dp _ _ d2, d1.shaped k1, d2.shaped k2, kk _ (.d (.bool _)) H .refl hp (Dd.bl _) h⟩
theorem cmp_ok {op : CmpOp} {f : Int → Int → Bool} (ho : OpR X (compareOp op) (rI0 fun i j => .bl (f i j))) : OpR X (compareOp op) (rD C (cmpD f)) := by
  intro pins s σ H x y u1 u2 Q I rx ry ⟨hid, dx, dy, q, hp, r1, r2, h, kk⟩
  unfold cmpD at h
  split at h
  · cases r1; cases r2
    exact ho pins s σ H _ _ u1 u2 Q I rx ry ⟨_, _, rfl, rfl, kk _ (.d (.bool _)) H .refl hp (Dd.bl _) h⟩
  · exact h.elim
theorem lt_ok : OpR X (compareOp .Lt) (rD C ltD) := cmp_ok op_lt
theorem le_ok : OpR X (compareOp .LtE) (rD C leD) := cmp_ok op_le
theorem gt_ok : OpR X (compareOp .Gt) (rD C gtD) := cmp_ok op_gt
theorem ge_ok : OpR X (compareOp .GtE) (rD C geD) := cmp_ok op_ge
/-- not in a tuple of data -/
theorem op_notInTup (hu : X.A.units + 65 < cLine) : OpR X (compareOp .NotIn) (fun x y H Q => ∃ d ds, Dp X.K H x d ∧ Dp X.K H y (.tuple ds) ∧ SeqAt.shaped d = true ∧ SeqAt.shaped (.tuple ds) = true ∧ Q (.bl (!ds.any fun z => PyData.eqv z d)) H) := by
  intro pins s σ H x y v u Q I rx ry ⟨d, ds, hd, he, sd, se, q⟩
  obtain ⟨l1, q1⟩ := hd.reads I _ _ _ rx
  obtain ⟨l2, q2⟩ := he.reads I _ _ _ ry
  exact SeqAt.notIn_tuple_reads q2 q1 (SeqAt.canLay_of_shaped se) (SeqAt.canLay_of_shaped sd) (room_in_shaped sd hu) ⟨.bl _, H, I, rfl, q⟩
theorem oneS_eq {s : Str} {c : Nat} (h : oneS s = some c) : s = ⟨#[c]⟩ := by
  unfold oneS at h
  split at h
  · rename_i d e
    cases h
    exact TL.ext_tl e
  · cases h
theorem in_gen {op : CmpOp} {f : Bool → Bool} {k : Nat} (l : Lv0 X C k)
    (ht : OpR X (compareOp op) (fun x y H Q => ∃ d ds, Dp X.K H x d ∧ Dp X.K H y (.tuple ds) ∧ SeqAt.shaped d = true ∧ SeqAt.shaped (.tuple ds) = true ∧ Q (.bl (f (ds.any fun z => PyData.eqv z d))) H))
    (hl : OpR X (compareOp op) (fun x y H Q => ∃ d ds, Dp X.K H x d ∧ Dp X.K H y (.list ds) ∧ SeqAt.shaped d = true ∧ SeqAt.shaped (.list ds) = true ∧ Q (.bl (f (ds.any fun z => PyData.eqv z d))) H))
    (hs : OpR X (compareOp op) (fun x y H Q => ∃ (c : Nat) (z : Str), x = .str ⟨#[c]⟩ ∧ y = .str z ∧ Q (.bl (f (decide (c ∈ z.cps.toList)))) H)) : OpR X (compareOp op) (rD C (inQ f)) := by
  intro pins s σ H x y u1 u2 Q I rx ry ⟨hid, dx, dy, q, hp, r1, r2, h, kk⟩
  unfold inQ at h
  split at h
  · rename_i a ds e1
    have d1 := r1.dp e1
    have d2 := r2.dp (a := .tuple ds) rfl
    exact ht pins s σ H _ _ u1 u2 Q I rx ry ⟨a, ds, by rw [l.K]; exact Dd.dp _ _ d1, by rw [l.K]; exact Dd.dp _ _ d2, d1.shaped h.1.1, d2.shaped h.1.2, kk _ (.d (.bool _)) H .refl hp (Dd.bl _) h.2⟩
  · rename_i a ds e1
    have d1 := r1.dp e1
    have d2 := r2.dp (a := .list ds) rfl
    exact hl pins s σ H _ _ u1 u2 Q I rx ry ⟨a, ds, by rw [l.K]; exact Dd.dp _ _ d1, by rw [l.K]; exact Dd.dp _ _ d2, d1.shaped h.1.1, d2.shaped h.1.2, kk _ (.d (.bool _)) H .refl hp (Dd.bl _) h.2⟩
  · rename_i a ds e1
    have d1 := r1.dp e1
    have d2 := r2.dp (a := .list ds) rfl
    exact hl pins s σ H _ _ u1 u2 Q I rx ry ⟨a, ds, by rw [l.K]; exact Dd.dp _ _ d1, by rw [l.K]; exact Dd.dp _ _ d2, d1.shaped h.1.1, d2.shaped h.1.2, kk _ (.d (.bool _)) H .refl hp (Dd.bl _) h.2⟩
  · rename_i s0 z e1
    split at h
    · rename_i c eo
      obtain rfl := oneS_eq eo
      have d1 := r1.dp e1
      cases d1
      cases r2
      exact hs pins s σ H _ _ u1 u2 Q I rx ry ⟨c, z, rfl, rfl, kk _ (.d (.bool _)) H .refl hp (Dd.bl _) h⟩
    · exact h.elim
  · exact h.elim
theorem in_ok {k : Nat} (l : Lv0 X C k) : OpR X (compareOp .In) (rD C inD) := in_gen l (Mx.op_inDT (by have := l.room.un; omega)) (op_inD (by have := l.room.un; omega)) op_in_sign
theorem notIn_ok {k : Nat} (l : Lv0 X C k) : OpR X (compareOp .NotIn) (rD C notInD) := in_gen l (op_notInTup (by have := l.room.un; omega)) (op_notInD (by have := l.room.un; omega)) op_notIn_sign
theorem non_of {hid : List Addr} {H : Hp} {v : V} {x : Dv} (r : VR C hid H v x) : decide (v = .non) = isNonD x := by
  cases x with
  | d y =>
    cases r with
    | non => rfl
    | _ => exact decide_eq_false (fun z => by cases z)
  | cup => obtain ⟨a, _, rfl⟩ := r; exact decide_eq_false (fun z => by cases z)
  | fn y => cases (show v = _ from r); exact decide_eq_false (fun z => by cases z)
  | ty y => cases (show v = _ from r); exact decide_eq_false (fun z => by cases z)
  | ex y => cases (show v = _ from r); exact decide_eq_false (fun z => by cases z)
  | own y => obtain ⟨p, vs, rfl, _⟩ := r; exact decide_eq_false (fun z => by cases z)
  | dc y => obtain ⟨p, vs, rfl, _⟩ := r; exact decide_eq_false (fun z => by cases z)
  | od y => obtain ⟨p, vs, rfl, _⟩ := r; exact decide_eq_false (fun z => by cases z)
theorem is_gen {op : CmpOp} {f : Bool → Bool} (hn : OpR X (compareOp op) (fun x y H Q => y = .non ∧ Q (.bl (f (decide (x = .non)))) H)) (hb : OpR X (compareOp op) (fun x y H Q => ∃ a b, x = .bl a ∧ y = .bl b ∧ Q (.bl (f (decide (a = b)))) H)) : OpR X (compareOp op) (rD C (isQ f)) := by
  intro pins s σ H x y u1 u2 Q I rx ry ⟨hid, dx, dy, q, hp, r1, r2, h, kk⟩
  unfold isQ at h
  split at h
  · cases r2
    rw [← non_of r1] at h
    exact hn pins s σ H _ _ u1 u2 Q I rx ry ⟨rfl, kk _ (.d (.bool _)) H .refl hp (Dd.bl _) h⟩
  · cases r2
    split at h
    · cases r1
      exact hb pins s σ H _ _ u1 u2 Q I rx ry ⟨_, _, rfl, rfl, kk _ (.d (.bool _)) H .refl hp (Dd.bl _) h⟩
    · exact h.elim
  · exact h.elim
theorem is_ok : OpR X (compareOp .Is) (rD C isD) := is_gen op_isN op_is_bl
theorem isNot_ok : OpR X (compareOp .IsNot) (rD C isNotD) := is_gen op_notN op_isnot_bl
theorem neg_ok : UnR X (unaryOp .USub) (rU1 C negD) := by
  intro pins s σ H x u Q I rx ⟨hid, dx, q, hp, r1, h, kk⟩
  unfold negD at h
  split at h
  · cases r1
    exact un_neg pins s σ H _ u Q I rx ⟨_, rfl, kk _ (.d (.int _)) H .refl hp (Dd.int _) h⟩
  · exact h.elim
theorem of_onAt {xs : List PyData} {i : Int} {q : PyData → Prop} (h : onAt xs i q) : ∃ x, atI xs i = some x ∧ q x := by
  unfold onAt onAtT at h
  split at h
  · rename_i x e; exact ⟨x, e, h⟩
  · exact h.elim
theorem DdAll.atI {K : PySem.W.Frag} {H : Hp} {vs : List V} {ds : List PyData} {i : Int} {d : PyData} (h : DdAll K H vs ds) (e : L2.atI ds i = some d) : ∃ v, L2.atI vs i = some v ∧ Dd K H v d := by
  unfold L2.atI at e ⊢
  rw [h.len]
  cases q : ixN ds.length i with
  | none => rw [q] at e; cases e
  | some j =>
    rw [q] at e
    obtain ⟨v, h1, h2⟩ := h.to (i := j) (d := d) e
    exact ⟨v, h1, h2⟩
theorem ix_ok {k : Nat} (l : Lv0 X C k) : IxR X (rD C ixD) := by
  intro va sl pins s σ H x y u1 u2 Q I rx ry ⟨hid, dx, dy, q, hp, r1, r2, h, kk⟩ hsub
  unfold ixD at h
  split at h
  · cases r2
    split at h
    · obtain ⟨z, e, h⟩ := of_onAt h
      obtain ⟨p, vs, rfl, h1, d1⟩ := r1.lst rfl
      obtain ⟨v, e1, e2⟩ := d1.atI e
      exact ix_list va sl pins s σ H _ _ u1 u2 Q I rx ry ⟨p, vs, _, v, rfl, rfl, SqL.of h1, e1, kk _ (.d z) H .refl hp e2 h⟩ hsub
    · obtain ⟨z, e, h⟩ := of_onAt h
      obtain ⟨p, vs, rfl, h1, d1⟩ := r1.lst rfl
      obtain ⟨v, e1, e2⟩ := d1.atI e
      exact ix_list va sl pins s σ H _ _ u1 u2 Q I rx ry ⟨p, vs, _, v, rfl, rfl, SqL.of h1, e1, kk _ (.d z) H .refl hp e2 h⟩ hsub
    · obtain ⟨z, e, h⟩ := of_onAt h
      obtain ⟨p, vs, rfl, h1, d1⟩ := r1.tup
      obtain ⟨v, e1, e2⟩ := d1.atI e
      exact ix_tup va sl pins s σ H _ _ u1 u2 Q I rx ry ⟨p, vs, _, v, rfl, rfl, by rw [l.K]; exact h1, e1, kk _ (.d z) H .refl hp e2 h⟩ hsub
    · rename_i i _ z
      obtain ⟨hl, h⟩ := h
      obtain ⟨w, e, h⟩ := of_onAt h
      cases r1 with
      | str _ hz =>
        have e' : ∃ c, L2.atI z.cps.toList i = some c ∧ w = .str ⟨#[c]⟩ ∧ c ∈ z.cps := by
          unfold L2.atI signs at e
          unfold L2.atI
          rw [List.length_map] at e
          cases q2 : ixN z.cps.toList.length i with
          | none => rw [q2] at e; cases e
          | some j =>
            rw [q2] at e
            have e : (z.cps.toList.map fun c => PyData.str ⟨#[c]⟩)[j]? = some w := e
            rw [List.getElem?_map] at e
            cases q3 : z.cps.toList[j]? with
            | none => rw [q3] at e; cases e
            | some c =>
              rw [q3] at e
              cases e
              exact ⟨c, q3, rfl, Array.mem_toList_iff.mp (List.mem_of_getElem? q3)⟩
        obtain ⟨c, e1, rfl, hc⟩ := e'
        have ok : PyData.strOk ⟨#[c]⟩ = true := by
          unfold PyData.strOk at hz ⊢
          simpa using (Array.all_eq_true_iff_forall_mem.mp hz) c hc
        exact ix_str va sl pins s σ H _ _ u1 u2 Q I rx ry ⟨z, _, c, rfl, rfl, Nat.le_trans hl (by decide), e1, kk _ (.d (.str _)) H .refl hp (Dd.str _ ok) h⟩ hsub
    · exact h.elim
  · exact h.elim
theorem de_ix {a b : Expr} {pos : Pos} {A B : DE} {k : Nat} (l : Lv0 X C k) (ha : PE X a (tE C A)) (hb : PE X b (tE C B)) (hs : PlainIx b := by intro _ _; rfl) : PE X (.Subscript a b pos) (tE C (dOp ixD A B)) :=
  (pe_ix (ix_ok l) ha hb hs).imp (op_both fun _ _ _ _ h => h)
/-! ### slices -/
abbrev DO := Rho → (Option Int → Prop) → Prop
def tPO (C : DC) (P : DO) : L2.St → Hp → (Option Int → Hp → Prop) → Prop := fun σ H Q => ∃ hid ρ q, HpOk C hid H ∧ SR C hid σ H ρ ∧ P ρ q ∧ ∀ o H', Ext C.c H H' → HpOk C hid H' → q o → Q o H'
def dNoPart (_ : Rho) (q : Option Int → Prop) : Prop := q none
def dPart (A : DE) (ρ : Rho) (q : Option Int → Prop) : Prop := A ρ fun x => match x with
  | .d (.int i) => q (some i)
  | _ => False
theorem _root_.L2.PO.imp {e : Option Expr} {t t' : TO} (h : PO X e t) (k : ∀ σ H Q, t' σ H Q → t σ H Q) : PO X e t' := ⟨fun pins s σ H Q I y => h.run pins s σ H Q I (k σ H Q y)⟩
theorem do_none : PO X none (tPO C dNoPart) := po_none.imp fun σ H Q ⟨hid, ρ, q, hp, sr, a, k⟩ => k none H .refl hp a
theorem do_some {e : Expr} {A : DE} (h : PE X e (tE C A)) : PO X (some e) (tPO C (dPart A)) := (po_some h).imp fun σ H Q ⟨hid, ρ, q, hp, sr, a, k⟩ => ⟨hid, ρ, _, hp, sr, a, fun v x H1 e1 o1 r1 a1 => by
  cases x with
  | d y => cases y with
    | int i => cases r1; exact ⟨i, rfl, k _ H1 e1 o1 a1⟩
    | _ => exact a1.elim
  | _ => exact a1.elim⟩
def cutD (xs : List PyData) (lo hi : Option Int) : List PyData := (xs.drop (HT.sIx xs.length 0 lo)).take (HT.sIx xs.length xs.length hi - HT.sIx xs.length 0 lo)
def sliceD (x : Dv) (lo hi : Option Int) (q : Dv → Prop) : Prop := match x with
  | .d (.list xs) => q (.d (.list (cutD xs lo hi)))
  | .own xs => q (.d (.list (cutD xs lo hi)))
  | .d (.tuple xs) => q (.d (.tuple (cutD xs lo hi)))
  | .d (.str z) => (z.length ≤ 1000000 ∧ PyData.strOk (Txt.slice z lo hi) = true) ∧ q (.d (.str (Txt.slice z lo hi)))
  | _ => False
def dSl (A : DE) (L U : DO) (ρ : Rho) (q : Dv → Prop) : Prop := A ρ fun x => L ρ fun lo => U ρ fun hi => sliceD x lo hi q
theorem DdAll.cut {K : PySem.W.Frag} {H : Hp} {vs : List V} {ds : List PyData} (h : DdAll K H vs ds) (lo hi : Option Int) : DdAll K H (cutV vs lo hi) (cutD ds lo hi) := by
  unfold cutV cutD
  rw [h.len]
  exact (h.drop _).take _
def rSlD (C : DC) : V → Option Int → Option Int → Hp → VK → Prop := fun x lo hi H Q => ∃ hid dx q, HpOk C hid H ∧ VR C hid H x dx ∧ sliceD dx lo hi q ∧ ∀ v d H', Ext C.c H H' → HpOk C hid H' → VR C hid H' v d → q d → Q v H'
theorem cutD_full {xs : List PyData} {lo hi : Option Int} (h : HT.sIx xs.length 0 lo = 0 ∧ HT.sIx xs.length xs.length hi = xs.length) : cutD xs lo hi = xs := by
  unfold cutD
  rw [h.1, h.2, List.drop_zero, Nat.sub_zero, List.take_length]
theorem sl_ok {k : Nat} (l : Lv0 X C k) : SlR X (rSlD C) := by
  intro pins s σ H x v vl vu lo hi sl Q I rx hs pl pu ⟨hid, dx, q, hp, r1, h, kk⟩
  unfold sliceD at h
  split at h
  · obtain ⟨p, vs, rfl, h1, d1⟩ := r1.lst rfl
    exact sl_list pins s σ H _ v vl vu lo hi sl Q I rx hs pl pu ⟨p, vs, rfl, SqL.of h1, fun p np => kk _ _ _ (Ext.new np _) (hp.new np _) (new_lst hp (d1.cut lo hi) np) h⟩
  · obtain ⟨p, vs, rfl, h1, d1⟩ := r1.lst rfl
    exact sl_list pins s σ H _ v vl vu lo hi sl Q I rx hs pl pu ⟨p, vs, rfl, SqL.of h1, fun p np => kk _ _ _ (Ext.new np _) (hp.new np _) (new_lst hp (d1.cut lo hi) np) h⟩
  · rename_i xs
    obtain ⟨p, vs, rfl, h1, d1⟩ := r1.tup
    have ll := d1.len
    refine sl_tupA pins s σ H _ v vl vu lo hi sl Q I rx hs pl pu ⟨p, vs, rfl, by rw [l.K]; exact h1, fun e => ?_, fun _ p np => kk _ _ _ (Ext.new np _) (hp.new np _) (new_tup hp (d1.cut lo hi) np) h⟩
    rw [ll] at e
    rw [cutD_full e] at h
    exact kk _ _ H .refl hp r1 h
  · cases r1
    exact C8.sl_txt pins s σ H _ v vl vu lo hi sl Q I rx hs pl pu ⟨_, rfl, Nat.le_trans h.1.1 (by decide), kk _ (.d (.str _)) H .refl hp (Dd.str _ h.1.2) h.2⟩
  · exact h.elim
theorem de_slice {e : Expr} {lo hi : Option Expr} {p2 pos : Pos} {A : DE} {L U : DO} {k : Nat} (l : Lv0 X C k) (he : PE X e (tE C A)) (hl : PO X lo (tPO C L)) (hu : PO X hi (tPO C U)) : PE X (.Subscript e (.Slice lo hi none p2) pos) (tE C (dSl A L U)) :=
  (pe_slice (sl_ok l) he hl hu).imp fun σ H Q ⟨hid, ρ, q, hp, sr, a, k⟩ => ⟨hid, ρ, _, hp, sr, a, fun v x H1 e1 o1 r1 a1 => ⟨hid, ρ, _, o1, sr.ext e1 hp, a1, fun lo H2 e2 o2 a2 =>
    ⟨hid, ρ, _, o2, (sr.ext e1 hp).ext e2 o1, a2, fun hi H3 e3 o3 a3 => ⟨hid, x, q, o3, (r1.ext e2 o1).ext e3 o2, a3, fun w d H4 e4 => k w d H4 (e1.trans (e2.trans (e3.trans e4)))⟩⟩⟩⟩
/-! ### chains -/
def dChain (f g : Dv → Dv → (Dv → Prop) → Prop) (A B D : DE) (ρ : Rho) (q : Dv → Prop) : Prop := A ρ fun x => B ρ fun y => f x y fun z => onB z fun b => br b (D ρ fun w => g y w q) (q (.d (.bool false)))
theorem chain_imp {f g : Dv → Dv → (Dv → Prop) → Prop} {A B D : DE} (σ : L2.St) (H : Hp) (Q : VK) : tE C (dChain f g A B D) σ H Q → tChain (rD C f) (rD C g) (tE C A) (tE C B) (tE C D) σ H Q :=
  fun ⟨hid, ρ, q, hp, sr, a, k⟩ => ⟨hid, ρ, _, hp, sr, a, fun v x H1 e1 o1 r1 a1 => ⟨hid, ρ, _, o1, sr.ext e1 hp, a1, fun w y H2 e2 o2 r2 a2 => ⟨hid, x, y, _, o2, r1.ext e2 o1, r2, a2, fun z d H3 e3 o3 r3 a3 => by
    obtain ⟨b, rfl, _, a3⟩ := of_onB r3 a3
    refine ⟨b, rfl, ?_⟩
    have e12 := e1.trans e2
    cases b with
    | true => exact ⟨hid, ρ, _, o3, sr.ext (e12.trans e3) hp, a3, fun u w' H4 e4 o4 r4 a4 => ⟨hid, y, w', q, o4, (r2.ext e3 o2).ext e4 o3, r4, a4, fun v d H5 e5 => k v d H5 (e12.trans (e3.trans (e4.trans e5)))⟩⟩
    | false => exact k _ (.d (.bool false)) H3 (e12.trans e3) o3 (Dd.bl false) a3⟩⟩⟩
theorem de_chain {a b c : Expr} {pos : Pos} {op op' : CmpOp} {f g : Dv → Dv → (Dv → Prop) → Prop} {A B D : DE} (ho : OpR X (compareOp op) (rD C f)) (ho' : OpR X (compareOp op') (rD C g)) (ha : PE X a (tE C A)) (hb : PE X b (tE C B)) (hc : PE X c (tE C D)) (hm : lastMarks [op, op'] [b, c] = false := by with_unfolding_all rfl) : PE X (.Compare a [op, op'] [b, c] pos) (tE C (dChain f g A B D)) :=
  (pe_chain ho ho' ha hb hc hm).imp chain_imp
theorem dt_chain {a b c : Expr} {pos : Pos} {op op' : CmpOp} {f g : Dv → Dv → (Dv → Prop) → Prop} {A B D : DE} (ho : OpR X (compareOp op) (rD C f)) (ho' : OpR X (compareOp op') (rD C g)) (ha : PE X a (tE C A)) (hb : PE X b (tE C B)) (hc : PE X c (tE C D)) (hm : lastMarks [op, op'] [b, c] = false := by with_unfolding_all rfl) : PT X (.Compare a [op, op'] [b, c] pos) (tT C (dB (dChain f g A B D))) :=
  (pt_chain ho ho' ha hb hc hm).imp fun σ H Q ⟨hid, ρ, q, hp, sr, a, k⟩ => chain_imp σ H _ ⟨hid, ρ, _, hp, sr, a, fun v x H1 e1 o1 r1 a1 => by
    obtain ⟨b, rfl, _, a2⟩ := of_onB r1 a1
    exact ⟨b, rfl, k b H1 e1 o1 a2⟩⟩
theorem dt_cmp {a b : Expr} {pos : Pos} {op : CmpOp} {f : Dv → Dv → (Dv → Prop) → Prop} {A B : DE} (ho : OpR X (compareOp op) (rD C f)) (ha : PE X a (tE C A)) (hb : PE X b (tE C B)) (hm : behindInMarks op b = false := by rfl) : PT X (.Compare a [op] [b] pos) (tT C (dB (dOp f A B))) :=
  (pt_cmpR ho ha hb hm).imp fun σ H Q ⟨hid, ρ, q, hp, sr, a, k⟩ => op_both (fun _ _ _ _ h => h) σ H _ ⟨hid, ρ, _, hp, sr, a, fun v x H1 e1 o1 r1 a1 => by
    obtain ⟨b, rfl, _, a2⟩ := of_onB r1 a1
    exact ⟨b, rfl, k b H1 e1 o1 a2⟩⟩
end
end Dl

set_option Elab.async false
set_option linter.all false
set_option maxRecDepth 100000
set_option maxHeartbeats 4000000
namespace Dl
open PySem PySem.Spec PyProof.Rows L2
/-! ### calls of what is built in -/
def dTy (n : String) (_ : Rho) (q : Dv → Prop) : Prop := q (.ty n)
def dFun (f : List Dv → (Dv → Prop) → Prop) (A : DAs) (ρ : Rho) (q : Dv → Prop) : Prop := A ρ fun xs => f xs q
def lenD (xs : List Dv) (q : Dv → Prop) : Prop := match xs with
  | [.d (.str z)] => z.length ≤ 1000000 ∧ q (.d (.int z.length))
  | [.d (.list l)] => q (.d (.int l.length))
  | [.d (.tuple l)] => q (.d (.int l.length))
  | [.own l] => q (.d (.int l.length))
  | _ => False
def kindD : PyData → String
  | .none => "NoneType"
  | .bool _ => "bool"
  | .int _ => "int"
  | .str _ => "str"
  | .list _ => "list"
  | .tuple _ => "tuple"
  | .dict _ => "dict"
def isaK (t k : String) : Bool := t == k || (k == "bool" && t == "int")
def isaD (t : String) (a : PyData) : Bool := isaK t (kindD a)
def isiD (xs : List Dv) (q : Dv → Prop) : Prop := match xs with
  | [x, .ty t] => match asD x with
    | some a => t ∈ ["str", "int", "bool", "tuple", "list"] ∧ q (.d (.bool (isaD t a)))
    | none => False
  | _ => False
def listD (xs : List Dv) (q : Dv → Prop) : Prop := match xs with
  | [.d (.list l)] => q (.d (.list l))
  | [.d (.tuple l)] => q (.d (.list l))
  | [.own l] => q (.d (.list l))
  | _ => False
def tupleD (xs : List Dv) (q : Dv → Prop) : Prop := match xs with
  | [.d (.list l)] => q (.d (.tuple l))
  | [.d (.tuple l)] => q (.d (.tuple l))
  | [.own l] => q (.d (.tuple l))
  | _ => False
def absD (xs : List Dv) (q : Dv → Prop) : Prop := match xs with
  | [.d (.int i)] => q (.d (.int (if i < 0 then -i else i)))
  | _ => False
section
variable {X : Cx} {C : DC}
theorem de_ty {x : Str} {n : String} {p : Pos} (hm : X.mg x = none) (hv : bootBuiltins x = some (.type n)) (hg : Gl X x := by rfl) (hn : x ≠ "__name__" := by decide) (hd : (x == ("__debug__" : Str)) = false := by decide) : PE X (.Name x p) (tE C (dTy n)) :=
  (pe_bltn (v := .ty n) hg hm hv rfl hn hd).imp fun σ H Q ⟨hid, ρ, q, hp, sr, a, k⟩ => k (.ty n) (.ty n) H .refl hp rfl a
theorem de_callB {x : Str} {id : String} {e : Expr} {es : List Expr} {n : Nat} {p pos : Pos} {f : List Dv → (Dv → Prop) → Prop} {A : DAs} (hc : CallR X (.builtin id) (rL C f)) (hv : bootBuiltins x = some (.builtin id)) (hm : X.mg x = none) (ha : PA X (e :: es) (tAs C n A)) (hg : Gl X x := by rfl) (hn : x ≠ "__name__" := by decide) (hdb : (x == ("__debug__" : Str)) = false := by decide)
    (he : starEach (e :: es) X.env = (false, eval e X.env) :: starEach es X.env := by rfl) (hpl : (backTo pos (starEach es X.env)).any (·.1) = false := by rfl) : PE X (.Call (.Name x p) (e :: es) [] pos) (tE C (dFun f A)) :=
  (pe_callB hc hg hm hv ha hn hdb he hpl).imp fun σ H Q ⟨hid, ρ, q, hp, sr, a, k⟩ => ⟨hid, ρ, _, hp, sr, a, fun vs xs H1 e1 o1 r1 l1 a1 => ⟨hid, xs, q, o1, r1, a1, fun v d H2 e2 => k v d H2 (e1.trans e2)⟩⟩
theorem de_callT {x : Str} {id : String} {e : Expr} {es : List Expr} {n : Nat} {p pos : Pos} {f : List Dv → (Dv → Prop) → Prop} {A : DAs} (hc : CallR X (.type id) (rL C f)) (hv : bootBuiltins x = some (.type id)) (hm : X.mg x = none) (ha : PA X (e :: es) (tAs C n A)) (hg : Gl X x := by rfl) (hn : x ≠ "__name__" := by decide) (hdb : (x == ("__debug__" : Str)) = false := by decide)
    (he : starEach (e :: es) X.env = (false, eval e X.env) :: starEach es X.env := by rfl) (hpl : (backTo pos (starEach es X.env)).any (·.1) = false := by rfl) : PE X (.Call (.Name x p) (e :: es) [] pos) (tE C (dFun f A)) :=
  (pe_callTy hc hg hm hv ha hn hdb he hpl).imp fun σ H Q ⟨hid, ρ, q, hp, sr, a, k⟩ => ⟨hid, ρ, _, hp, sr, a, fun vs xs H1 e1 o1 r1 l1 a1 => ⟨hid, xs, q, o1, r1, a1, fun v d H2 e2 => k v d H2 (e1.trans e2)⟩⟩
theorem VRs.one {hid : List Addr} {H : Hp} {vs : List V} {x : Dv} (r : VRs C hid H vs [x]) : ∃ v, vs = [v] ∧ VR C hid H v x := by
  cases r with
  | cons a b => cases b; exact ⟨_, rfl, a⟩
theorem VRs.two {hid : List Addr} {H : Hp} {vs : List V} {x y : Dv} (r : VRs C hid H vs [x, y]) : ∃ v w, vs = [v, w] ∧ VR C hid H v x ∧ VR C hid H w y := by
  cases r with
  | cons a b =>
    obtain ⟨w, rfl, c⟩ := b.one
    exact ⟨_, _, rfl, a, c⟩
theorem len_ok {k : Nat} (l : Lv0 X C k) : CallR X (.builtin "len") (rL C lenD) := by
  intro pins s σ H vs us Q I r ⟨hid, ds, q, hp, rs, h, kk⟩
  unfold lenD at h
  split at h
  · obtain ⟨v, rfl, r1⟩ := rs.one
    cases r1
    exact call_len_str pins s σ H _ us Q I r ⟨_, rfl, Nat.le_trans h.1 (by decide), kk _ (.d (.int _)) H .refl hp (Dd.int _) h.2⟩
  · obtain ⟨v, rfl, r1⟩ := rs.one
    obtain ⟨p, ws, rfl, h1, d1⟩ := r1.lst rfl
    rw [← d1.len] at h
    exact call_len_seq pins s σ H _ us Q I r ⟨p, ws, rfl, .inl (SqL.of h1), kk _ (.d (.int _)) H .refl hp (Dd.int _) h⟩
  · obtain ⟨v, rfl, r1⟩ := rs.one
    obtain ⟨p, ws, rfl, h1, d1⟩ := r1.tup
    rw [← d1.len] at h
    exact call_len_seq pins s σ H _ us Q I r ⟨p, ws, rfl, .inr (by rw [l.K]; exact h1), kk _ (.d (.int _)) H .refl hp (Dd.int _) h⟩
  · obtain ⟨v, rfl, r1⟩ := rs.one
    obtain ⟨p, ws, rfl, h1, d1⟩ := r1.lst rfl
    rw [← d1.len] at h
    exact call_len_seq pins s σ H _ us Q I r ⟨p, ws, rfl, .inl (SqL.of h1), kk _ (.d (.int _)) H .refl hp (Dd.int _) h⟩
  · exact h.elim
theorem Dd.tyx {K : PySem.W.Frag} {H : Hp} {v : V} {a : PyData} (h : Dd K H v a) : TyX K H v (.type (kindD a)) := by
  cases h with
  | non => exact .base .non
  | bl b => exact .base (.bl b)
  | int i => exact .base (.int i)
  | str x _ => exact .base (.str x)
  | lst e _ => exact .base (.lst e)
  | tup e _ =>
    rcases e.1 with (e | ⟨o, e⟩) | ⟨o, its, n, e, c, _⟩
    · exact .base (.tup e)
    · exact .fTuple e
    · exact .kTuple e c
theorem kit_isa {K : PySem.W.Frag} {t : String} (ht : t ∈ ["str", "int", "bool", "tuple", "list"]) {a : PyData} (hd : ∀ l, a ≠ .dict l) : PySem.W.kitOne K (.type (kindD a)) (.type t) = some (isaD t a) := by
  have all : ∀ t ∈ ["str", "int", "bool", "tuple", "list"], ∀ k ∈ ["NoneType", "bool", "int", "str", "list", "tuple"], kitB k t = some (isaK t k) := by decide +kernel
  have hk : kindD a ∈ ["NoneType", "bool", "int", "str", "list", "tuple"] := by
    cases a with
    | dict l => exact absurd rfl (hd l)
    | _ => simp [kindD]
  exact kit_ty (all t ht _ hk)
theorem isi_ok {k : Nat} (l : Lv0 X C k) : CallR X (.builtin "isinstance") (rL C isiD) := by
  intro pins s σ H vs us Q I r ⟨hid, ds, q, hp, rs, h, kk⟩
  unfold isiD at h
  split at h
  · obtain ⟨v, w, rfl, r1, r2⟩ := rs.two
    cases (show w = _ from r2)
    split at h
    · rename_i t _ a ea
      have d := r1.dp ea
      exact call_isi pins s σ H _ us Q I r ⟨v, _, _, _, _, rfl, .ty t, by rw [l.K]; exact d.tyx, kit_isa h.1 (fun l e => by rw [e] at d; cases d), kk _ (.d (.bool _)) H .refl hp (Dd.bl _) h.2⟩
    · exact h.elim
  · exact h.elim
theorem list_ok {k : Nat} (l : Lv0 X C k) : CallR X (.type "list") (rL C listD) := by
  intro pins s σ H vs us Q I r ⟨hid, ds, q, hp, rs, h, kk⟩
  unfold listD at h
  split at h
  · obtain ⟨v, rfl, r1⟩ := rs.one
    obtain ⟨p, ws, rfl, h1, d1⟩ := r1.lst rfl
    exact call_list_of pins s σ H _ us Q I r ⟨p, ws, rfl, .inl (SqL.of h1), fun p np => kk _ _ _ (Ext.new np _) (hp.new np _) (new_lst hp d1 np) h⟩
  · obtain ⟨v, rfl, r1⟩ := rs.one
    obtain ⟨p, ws, rfl, h1, d1⟩ := r1.tup
    exact call_list_of pins s σ H _ us Q I r ⟨p, ws, rfl, .inr (by rw [l.K]; exact h1), fun p np => kk _ _ _ (Ext.new np _) (hp.new np _) (new_lst hp d1 np) h⟩
  · obtain ⟨v, rfl, r1⟩ := rs.one
    obtain ⟨p, ws, rfl, h1, d1⟩ := r1.lst rfl
    exact call_list_of pins s σ H _ us Q I r ⟨p, ws, rfl, .inl (SqL.of h1), fun p np => kk _ _ _ (Ext.new np _) (hp.new np _) (new_lst hp d1 np) h⟩
  · exact h.elim
theorem tuple_ok {k : Nat} (l : Lv0 X C k) : CallR X (.type "tuple") (rL C tupleD) := by
  intro pins s σ H vs us Q I r ⟨hid, ds, q, hp, rs, h, kk⟩
  unfold tupleD at h
  split at h
  · obtain ⟨v, rfl, r1⟩ := rs.one
    obtain ⟨p, ws, rfl, h1, d1⟩ := r1.lst rfl
    exact call_tuple_of pins s σ H _ us Q I r ⟨p, ws, rfl, .inl ⟨SqL.of h1, fun p np => kk _ _ _ (Ext.new np _) (hp.new np _) (new_tup hp d1 np) h⟩⟩
  · obtain ⟨v, rfl, r1⟩ := rs.one
    obtain ⟨p, ws, rfl, h1, d1⟩ := r1.tup
    exact call_tuple_of pins s σ H _ us Q I r ⟨p, ws, rfl, .inr ⟨by rw [l.K]; exact h1, kk _ _ H .refl hp r1 h⟩⟩
  · obtain ⟨v, rfl, r1⟩ := rs.one
    obtain ⟨p, ws, rfl, h1, d1⟩ := r1.lst rfl
    exact call_tuple_of pins s σ H _ us Q I r ⟨p, ws, rfl, .inl ⟨SqL.of h1, fun p np => kk _ _ _ (Ext.new np _) (hp.new np _) (new_tup hp d1 np) h⟩⟩
  · exact h.elim
theorem abs_ok : CallR X (.builtin "abs") (rL C absD) := by
  intro pins s σ H vs us Q I r ⟨hid, ds, q, hp, rs, h, kk⟩
  unfold absD at h
  split at h
  · obtain ⟨v, rfl, r1⟩ := rs.one
    cases r1
    exact call_abs pins s σ H _ us Q I r ⟨_, rfl, kk _ (.d (.int _)) H .refl hp (Dd.int _) h⟩
  · exact h.elim
/-! ### two names at once -/
def dPar (i j : Nat) (A : DAs) (d : DEnds) (ρ : Rho) : Prop := A ρ fun xs => match xs with
  | [x, y] => onOwn x (onOwn y (d.nx ((ρ.set i (some x)).set j (some y))))
  | _ => False
theorem ds_par {i j n : Nat} {x y : Str} {a b : Expr} {A : DAs} {px py pt pos : Pos} {kt k2 pt2} {k : Nat} (l : Lv0 X C k) (hi : X.N[i]? = some x) (hj : X.N[j]? = some y)
    (ha : PA X [a, b] (tAs C n A)) (hij : i ≠ j := by decide) (hx : X.env.scope.names.lookup x = some .local := by rfl) (hy : X.env.scope.names.lookup y = some .local := by rfl)
    (hw : swappedStores [.Tuple [.Name x px, .Name y py] kt pt] (.Tuple [a, b] k2 pt2) X.env = pure (some [x, y]) := by rfl)
    (hs : swapsWithSole [.Tuple [.Name x px, .Name y py] kt pt] (.Tuple [a, b] k2 pt2) pos.line X.env = pure false := by rfl) :
    PS X (.Assign [.Tuple [.Name x px, .Name y py] kt pt] (.Tuple [a, b] k2 pt2) pos) (tS C (dPar i j A)) :=
  (ps_par l.calm l.nd hi hj hij hx hy ha hw hs).imp fun D σ H ⟨hid, ρ, d, so, s, e⟩ => ⟨hid, ρ, _, so.hp, so.sr, s, fun vs xs H1 e1 o1 r1 l1 a1 => by
    split at a1
    · obtain ⟨v, w, rfl, r2, r3⟩ := r1.two
      obtain ⟨n1, a1⟩ := of_onOwn a1
      obtain ⟨n2, a1⟩ := of_onOwn a1
      exact ⟨v, w, rfl, e.nx hid _ H1 _ (((so.ext e1 o1).set r2 n1 i).set r3 n2 j) (Stp.ext e1 so.hp) a1⟩
    · exact a1.elim⟩
end
end Dl

set_option Elab.async false
set_option linter.all false
set_option maxRecDepth 100000
set_option maxHeartbeats 4000000
namespace Dl
open PySem PySem.Spec PyProof.Rows L2
/-! ### a def that lets no exception out -/
section
variable {P : Program} {w : World} {K : PySem.W.Frag} {mg : Str → Option Value} {base : Heap}
theorem fn_cx {k : Nat} {f : Addr} {fd : FuncData} {ps : List Str} {sp : Sp} (F : FnOk P w K mg base CX0 k f fd ps sp) : FnOk P w K mg base (L2N.CX P w) k f fd ps sp :=
  ⟨F.len, fun A outer s H args us vs Q E hr he hb hv hs => codeAny_mono (F.run A outer s H args us vs Q E hr he hb hv hs) fun r s' h => by
    cases r with
    | ok c => cases c <;> exact h
    | error e => exact h.elim⟩
theorem Has.cx {x : Str} {ps : List Str} {sp : Sp} {k : Nat} (h : Has P w K mg base CX0 k x ps sp) : Has P w K mg base (L2N.CX P w) k x ps sp := by
  obtain ⟨fd, b, kp, gm, F, lk⟩ := h
  exact ⟨fd, b, kp, gm, fn_cx F, lk⟩
end
section
variable {X : Cx} {C : DC} {k : Nat} {x : Str} {g : DF} {er : Str → Prop} {E : XK}
def dCall0 (g : DF) (er : Str → Prop) (_ : Rho) (q : Dv → Prop) : Prop := call g [] q er
theorem de_call0 {p pos : Pos} {j : Nat} (h : DHas X.prog X.w X.K X.mg X.base C.T j x [] g) (l : Lv0 X C k) (hx : Passes (L2N.CX X.prog X.w) X E) (eo : EOk C er E) (hjk : j ≤ k := by decide) (hg : Gl X x := by rfl) (hdb : (x == ("__debug__" : Str)) = false := by decide) :
    PE X (.Call (.Name x p) [] [] pos) (tE C (dCall0 g er)) := by
  obtain ⟨fd, b, kp, gm, F, _⟩ := h
  have c := pe_call0 (p := p) (pos := pos) F (l.room.mono hjk) hg gm kp b .nil hx hdb
  rw [l.K] at c
  exact c.imp fun σ H Q ⟨hid, ρ, q, hp, sr, a, k⟩ => call_sp (C := C) (vs := []) hp .nil (fun _ z => by cases z) a eo k
/-! ### t[::-1] -/
/-- n places from the last one down -/
theorem rev_places (n : Nat) : Builtin.Slice.slicePlaces ((n : Int) - 1) (-1) (-1) = n := by
  have neg : ¬ (-1 : Int) > 0 := by decide
  have one : (- -1 : Int) = 1 := by decide
  simp only [Builtin.Slice.slicePlaces, if_neg neg, one, Int.ediv_one]
  split <;> omega
/-- what stands there: the items from behind -/
theorem rev_pick (us : Array Value) : (List.range us.size).filterMap (fun m : Nat => us[(((us.size : Int) - 1) + (m : Int) * (-1)).toNat]?) = us.toList.reverse := by
  have down : ∀ m ∈ List.range us.size, us[(((us.size : Int) - 1) + (m : Int) * (-1)).toNat]? = (us[·]?) (us.size - 1 - m) := fun m hm => by
    have : (((us.size : Int) - 1) + (m : Int) * (-1)).toNat = us.size - 1 - m := by have := List.mem_range.mp hm; omega
    rw [this]
  have same : ∀ l : List Nat, (∀ m ∈ l, us[(((us.size : Int) - 1) + (m : Int) * (-1)).toNat]? = (us[·]?) (us.size - 1 - m)) → l.filterMap (fun m : Nat => us[(((us.size : Int) - 1) + (m : Int) * (-1)).toNat]?) = (l.map fun m => us.size - 1 - m).filterMap (us[·]?) := by
    intro l
    induction l with
    | nil => exact fun _ => rfl
    | cons m r ih =>
      intro h
      simp only [List.filterMap_cons, List.map_cons, h m List.mem_cons_self, ih fun x hx => h x (List.mem_cons_of_mem _ hx)]
  rw [same _ down, PySem.W.krv_range, List.filterMap_reverse, PySem.W.krv_all]
section
variable {P : Program} {w : World} {A : Around} {F : Value → Shared → Prop} {s : Shared} {t sl : Addr} {us : Array Value} {u : Tok} {E' : Value → Shared → Prop}
/-- the figures of [::-1] for n items -/
theorem rev_applied {n : Nat} {G : Int × Int × Nat → Shared → Prop} (hs : s.heap.IsSliceOf sl .none .none (.int (-1) u)) (g : G ((n : Int) - 1, -1, n) s) : wpAny (model P w) A (Builtin.Slice.sliceApplied (.ref sl) (pure (n : Int))) G E' s := by
  obtain ⟨o, ho, _, hd⟩ := hs
  simp only [Builtin.Slice.sliceApplied, Builtin.Slice.sliceFields]
  refine wpAny_bind (wpAny_bind (wpAny_field ho hd (x := .none) rfl (wpAny_bind (wpAny_field ho hd (x := .none) rfl (wpAny_bind (wpAny_field ho hd (x := .int (-1) u) rfl (wpAny_pure (wpAny_bind (HT.slicePart_ (o := some (-1)) (.int (-1) u) ?_)))))))))
  exact wpAny_bind (HT.slicePart_ .none (wpAny_bind (HT.slicePart_ .none (wpAny_bind (wpAny_pure (show wpAny _ _ (pure ((n : Int) - 1, (-1 : Int), Builtin.Slice.slicePlaces ((n : Int) - 1) (-1) (-1))) _ _ s from wpAny_pure (by rw [rev_places]; exact g)))))))
theorem revTup_get (ht : IsTup s.heap t us) (hs : s.heap.IsSliceOf sl .none .none (.int (-1) u)) (f : F (.ref s.heap.objs.size) { s with heap := s.heap.push { cls := .type "tuple", data := .seq us.toList.reverse.toArray } }) (small : us.size ≤ sizeLine) :
    wpAny (model P w) A (getItem (.ref t) (.ref sl)) F E' s := by
  have room : sizeOk (.seq us.toList.reverse.toArray) := show us.toList.reverse.toArray.size ≤ sizeLine by simpa using small
  have is : s.TypeIs (.ref sl) "slice" := hs.imp fun _ q => ⟨q.1, q.2.1⟩
  unfold getItem
  refine wpAny_holding (wpAny_bind (wpAny_sequenceKey ht.typeIs (by decide) ?_))
  refine wpAny_bind (wpAny_callSpecial?_slot (name := "__getitem__") ht.typeIs slot_tuple_getitem (wpAny_call_entry slot_tuple_getitem ht.typeIs entry_tuple_getitem ?_ (args_tuple_getitem _ _)))
  refine wpAny_bind (m := Builtin.Tuple.tupleItemsOf (.ref t)) (tupleItemsOf_ ht (wpAny_bind (wpAny_typeOf is ?_)))
  rw [if_pos (by decide)]
  refine wpAny_bind (rev_applied (n := us.size) hs ?_)
  have other : ((((us.size : Int) - 1) == 0 && (-1 : Int) == 1) && us.size == us.size) = false := by simp
  have pick := congrArg List.toArray (rev_pick us)
  dsimp only
  rw [other, pick, if_neg (by decide)]
  exact wpAny_bind (m := Builtin.Tuple.tupleExact _) (wpAny_newObj_type (wpAny_pure ⟨_, rfl, wpAny_pure f⟩) room)
end
def dRev (A : DE) (ρ : Rho) (q : Dv → Prop) : Prop := A ρ fun x => match x with
  | .d (.tuple l) => l.length ≤ 1000000 ∧ q (.d (.tuple l.reverse))
  | .d (.list l) => q (.d (.list l.reverse))
  | .own l => q (.d (.list l.reverse))
  | _ => False
theorem DdAll.reverse {K : PySem.W.Frag} {H : Hp} : ∀ {vs : List V} {ds : List PyData}, DdAll K H vs ds → DdAll K H vs.reverse ds.reverse
  | [], _, h => by cases h; exact .nil
  | _ :: _, _, h => by
    cases h with
    | cons x y =>
      rw [List.reverse_cons, List.reverse_cons]
      exact (DdAll.reverse y).append (.cons x .nil)
theorem de_rev {e : Expr} {A : DE} {k1 k : Nat} {p1 p2 p3 pos : Pos} (l : Lv0 X C k1) (he : PE X e (tE C A)) : PE X (.Subscript e (.Slice none none (some (.UnaryOp .USub (.Constant (.int 1) k p1) p2)) p3) pos) (tE C (dRev A)) := by
  refine ⟨fun pins s σ H Q I ⟨hid, ρ, q, hp, sr, a, kk⟩ => ?_⟩
  by_cases L : ∃ (hid : List Addr) (l : List PyData), HpOk C hid H ∧ True
  · refine Subscript_ (thn (he.run pins s σ H (fun v H1 => ∃ x, Ext C.c H H1 ∧ HpOk C hid H1 ∧ VR C hid H1 v x ∧ (match x with
      | .d (.tuple l) => l.length ≤ 1000000 ∧ q (.d (.tuple l.reverse))
      | .d (.list l) => q (.d (.list l.reverse))
      | .own l => q (.d (.list l.reverse))
      | _ => False)) I ⟨hid, ρ, _, hp, sr, a, fun v x H1 e1 o1 r1 a1 => ⟨x, e1, o1, r1, a1⟩⟩) fun v s1 ⟨x, H1, I1, rx, dx, e1, o1, r1, a1⟩ => ?_)
    refine wpAny_Slice (thn (po_none.run _ _ _ _ (fun o G => o = none ∧ G = H1) I1 ⟨rfl, rfl⟩) ?_)
    rintro vl s2 ⟨_, _, I2, pl, rfl, e2⟩
    subst e2
    refine thn (po_none.run _ _ _ _ (fun o G => o = none ∧ G = _) I2 ⟨rfl, rfl⟩) ?_
    rintro vu s3 ⟨_, _, I3, pu, rfl, e3⟩
    subst e3
    refine thn ((po_some (pe_un un_neg pe_int)).run _ _ _ _ (fun o G => o = some (-1) ∧ G = _) I3 ⟨1, rfl, -1, rfl, rfl, rfl⟩) ?_
    rintro vs s4 ⟨_, H4, I4, ps, rfl, e4⟩
    subst e4
    have I5 := I4.kept (t' := s4.toks) (h' := s4.heap.push { cls := .type "slice", data := .fields #[vl, vu, vs] }) fun _ _ g => Heap.get?_push_of_some _ g
    have lists : ∀ {l : List PyData} {p : Addr} {ws : List V}, x = .ref p → H4 p = some (.lst ws) → DdAll C.K (hide hid H4) ws l → q (.d (.list l.reverse)) → wpAny (model X.prog X.w) X.A (subscriptTail e (.Slice none none (some (.UnaryOp .USub (.Constant (.int 1) k p1) p2)) p3) v (.ref s4.heap.objs.size)) (EP X pins σ Q) X.xe { s4 with heap := s4.heap.push { cls := .type "slice", data := .fields #[vl, vu, vs] } } := fun {l p ws} ex h1 d1 hq => by
      subst ex
      cases rx
      obtain ⟨its, r, ht, hz⟩ := I5.list (SqL.of h1)
      refine tail_any (ops := [.ref p, .ref s4.heap.objs.size]) ht.isList.typeIs (PySem.slot_list_getitem.lookup) ?_ (by with_unfolding_all rfl)
      refine wpAny_getItem_list_slice ht.isList (Heap.IsSliceOf.new _ vl vu vs) pl pu ps (by decide) ?_ (by rw [List.size_toArray]; have := r.length; omega)
      rw [PySem.W.krv_pick]
      refine ⟨.ref _, _, I5.laid (t' := s4.toks) (o := .lst ws.reverse) (fun b ob q => Heap.get?_push_of_some _ q) (Nat.le_refl _) ?_, rfl, ?_⟩
      · exact ⟨by rw [List.length_reverse]; exact hz, _, 0, r.reverse, Heap.get?_push_size _ rfl⟩
      · have np := I5.hok.fresh (Nat.le_refl _)
        exact kk _ _ _ (e1.trans (Ext.new np _)) (o1.new np _) (new_lst o1 d1.reverse np) hq
    split at a1
    · rename_i l0
      obtain ⟨p, ws, ex, h1, d1⟩ := r1.tup
      subst ex
      cases rx
      obtain ⟨its, r, ht, hz⟩ := I5.tuple (by rw [l.K]; exact h1)
      have hlen := r.length
      cases pl
      cases pu
      cases ps
      refine tail_any (ops := [.ref p, .ref s4.heap.objs.size]) ht.typeIs (PyProof.Rows.slot_tuple_getitem.lookup) ?_ (by with_unfolding_all rfl)
      refine revTup_get ht (Heap.IsSliceOf.new _ _ _ _) ?_ (by rw [List.size_toArray]; omega)
      refine ⟨.ref _, _, I5.laid (t' := s4.toks) (o := .tup ws.reverse) (fun b ob q => Heap.get?_push_of_some _ q) (Nat.le_refl _) ?_, rfl, ?_⟩
      · exact ⟨by rw [List.length_reverse]; exact hz, _, r.reverse, IsTup.new _ _⟩
      · have np := I5.hok.fresh (Nat.le_refl _)
        exact kk _ _ _ (e1.trans (Ext.new np _)) (o1.new np _) (new_tup o1 d1.reverse np) a1.2
    · obtain ⟨p, ws, ex, h1, d1⟩ := r1.lst rfl
      exact lists ex h1 d1 a1
    · obtain ⟨p, ws, ex, h1, d1⟩ := r1.lst rfl
      exact lists ex h1 d1 a1
    · exact a1.elim
  · exact absurd ⟨hid, [], hp, trivial⟩ L
end
end Dl

set_option Elab.async false
set_option linter.all false
set_option maxRecDepth 100000
set_option maxHeartbeats 4000000
namespace Dl
open PySem PySem.Spec PyProof.Rows L2
/-! ### data beside data -/
theorem eqvAll_nil : ∀ l : List PyData, PyData.eqvAll l [] = l.isEmpty
  | [] => by simp only [PyData.eqvAll]; rfl
  | _ :: _ => by simp only [PyData.eqvAll]; rfl
theorem depth_of_le {n : Nat} : ∀ {l : List PyData}, (∀ x ∈ l, x.depth ≤ n) → PyData.depthAll l ≤ n
  | [], _ => by simp [PyData.depthAll]
  | x :: l, h => by
    have h1 := h x List.mem_cons_self
    have h2 := depth_of_le (l := l) fun y hy => h y (List.mem_cons_of_mem _ hy)
    simp only [PyData.depthAll]
    omega
theorem isa_str {d : PyData} (h : isaD "str" d = true) : ∃ z, d = .str z := by
  cases d with
  | str z => exact ⟨z, rfl⟩
  | _ => exact absurd (show false = true from h) Bool.false_ne_true
/-! ### kinds -/
theorem isa_str_none  : isaD "str" .none = false := by rfl
theorem isa_str_bool (x : Bool) : isaD "str" (.bool x) = false := by rfl
theorem isa_str_int (x : Int) : isaD "str" (.int x) = false := by rfl
theorem isa_str_str (x : Str) : isaD "str" (.str x) = true := by rfl
theorem isa_str_list (x : List PyData) : isaD "str" (.list x) = false := by rfl
theorem isa_str_tuple (x : List PyData) : isaD "str" (.tuple x) = false := by rfl
theorem isa_str_dict (x : List (PyData × PyData)) : isaD "str" (.dict x) = false := by rfl
theorem isa_int_none  : isaD "int" .none = false := by rfl
theorem isa_int_bool (x : Bool) : isaD "int" (.bool x) = true := by rfl
theorem isa_int_int (x : Int) : isaD "int" (.int x) = true := by rfl
theorem isa_int_str (x : Str) : isaD "int" (.str x) = false := by rfl
theorem isa_int_list (x : List PyData) : isaD "int" (.list x) = false := by rfl
theorem isa_int_tuple (x : List PyData) : isaD "int" (.tuple x) = false := by rfl
theorem isa_int_dict (x : List (PyData × PyData)) : isaD "int" (.dict x) = false := by rfl
theorem isa_bool_none  : isaD "bool" .none = false := by rfl
theorem isa_bool_bool (x : Bool) : isaD "bool" (.bool x) = true := by rfl
theorem isa_bool_int (x : Int) : isaD "bool" (.int x) = false := by rfl
theorem isa_bool_str (x : Str) : isaD "bool" (.str x) = false := by rfl
theorem isa_bool_list (x : List PyData) : isaD "bool" (.list x) = false := by rfl
theorem isa_bool_tuple (x : List PyData) : isaD "bool" (.tuple x) = false := by rfl
theorem isa_bool_dict (x : List (PyData × PyData)) : isaD "bool" (.dict x) = false := by rfl
theorem isa_tuple_none  : isaD "tuple" .none = false := by rfl
theorem isa_tuple_bool (x : Bool) : isaD "tuple" (.bool x) = false := by rfl
theorem isa_tuple_int (x : Int) : isaD "tuple" (.int x) = false := by rfl
theorem isa_tuple_str (x : Str) : isaD "tuple" (.str x) = false := by rfl
theorem isa_tuple_list (x : List PyData) : isaD "tuple" (.list x) = false := by rfl
theorem isa_tuple_tuple (x : List PyData) : isaD "tuple" (.tuple x) = true := by rfl
theorem isa_tuple_dict (x : List (PyData × PyData)) : isaD "tuple" (.dict x) = false := by rfl
theorem isa_list_none  : isaD "list" .none = false := by rfl
theorem isa_list_bool (x : Bool) : isaD "list" (.bool x) = false := by rfl
theorem isa_list_int (x : Int) : isaD "list" (.int x) = false := by rfl
theorem isa_list_str (x : Str) : isaD "list" (.str x) = false := by rfl
theorem isa_list_list (x : List PyData) : isaD "list" (.list x) = true := by rfl
theorem isa_list_tuple (x : List PyData) : isaD "list" (.tuple x) = false := by rfl
theorem isa_list_dict (x : List (PyData × PyData)) : isaD "list" (.dict x) = false := by rfl
/-! ### a block's scope -/
def BlkD (N : List Str) (sc scope : Scope) (own : List (Str × Nat)) : Prop := scope.kind = .function ∧ (∀ y ∈ scope.names, scope.names.lookup y.1 = some y.2) ∧ (∀ p ∈ own, N[p.2]? = some p.1) ∧ (∀ y ∈ scope.names, y.2 = .free → sc.names.lookup y.1 = some .cell ∨ sc.names.lookup y.1 = some .free) ∧ (∀ y ∈ scope.names, y.2 = .local ∨ y.2 = .cell → y.1 ∈ own.map (·.1) ∨ y.1 ∉ N)
instance {N : List Str} {sc scope : Scope} {own : List (Str × Nat)} : Decidable (BlkD N sc scope own) := by unfold BlkD; infer_instance
theorem blk_by {N : List Str} {sc scope : Scope} {own : List (Str × Nat)} (h : BlkD N sc scope own) : BlkOk N sc scope own := ⟨h.1, h.2.1, h.2.2.1, h.2.2.2.1, h.2.2.2.2⟩
/-- one statement at a time -/
theorem seq_k {s t : DS} {d : DEnds} {ρ : Rho} (h : ∀ K : Rho → Prop, (∀ ρ', t d ρ' → K ρ') → s { d with nx := K } ρ) : dSeq s t d ρ := h (t d) fun _ x => x
/-- an expression of one value -/
theorem val_of {A : DE} {ρ : Rho} {q : Dv → Prop} (v : Dv) (h : ∀ k : Dv → Prop, k v → A ρ k) (hq : q v) : A ρ q := h q hq
/-! ### loops, told of what one round does -/
theorem lcGo_of {G : DG} {T : DT} {A : DE} {ρ : Rho} (f : PyData → Bool) (g : PyData → PyData) : ∀ (ds acc : List PyData) (q : List PyData → Prop),
    (∀ x ∈ ds, ∀ (k : PyData → Prop) (n : Prop), (f x = true → k (g x)) → (f x = false → n) → G (.d x) ρ fun ρ1 => T ρ1 fun b => br b (A ρ1 fun y => onD y k) n) →
    acc.length + ds.length ≤ 1000000 → q (acc ++ (ds.filter f).map g) → dLcGo G T A ρ ds acc q
  | [], acc, q, _, _, hq => by
    unfold dLcGo
    rw [List.filter_nil, List.map_nil, List.append_nil] at hq
    exact hq
  | x :: r, acc, q, h, hl, hq => by
    unfold dLcGo
    rw [List.length_cons] at hl
    refine h x List.mem_cons_self _ _ (fun e => ⟨by omega, lcGo_of f g r _ q (fun y hy => h y (List.mem_cons_of_mem _ hy)) (by rw [List.length_append, List.length_singleton]; omega) ?_⟩) fun e => lcGo_of f g r acc q (fun y hy => h y (List.mem_cons_of_mem _ hy)) (by omega) ?_
    · rw [List.filter_cons, if_pos e, List.map_cons] at hq
      rw [List.append_assoc]
      exact hq
    · rw [List.filter_cons, if_neg (by rw [e]; decide)] at hq
      exact hq
theorem forGo_of {G : DG} {S : DS} {d : DEnds} (I : Nat → Rho → Prop) (ds : List PyData) (step : ∀ i x ρ, ds[i]? = some x → I i ρ → ∀ N : Rho → Prop, (∀ ρ', I (i + 1) ρ' → N ρ') → G (.d x) ρ fun ρ1 => S { nx := N, rt := d.rt, bk := d.nx, ct := N } ρ1)
    (fin : ∀ ρ, I ds.length ρ → d.nx ρ) : ∀ (n i : Nat), i + n = ds.length → ∀ ρ, I i ρ → dForGo G S d (ds.drop i) ρ
  | 0, i, e, ρ, h => by
    have e : i = ds.length := by omega
    subst e
    rw [List.drop_length]
    exact fin ρ h
  | n + 1, i, e, ρ, h => by
    have hi : i < ds.length := by omega
    rw [List.drop_eq_getElem_cons hi]
    unfold dForGo
    exact step i _ ρ (List.getElem?_eq_getElem hi) h _ fun ρ' h' => forGo_of I ds step fin n (i + 1) (by omega) ρ' h'
theorem lc_of {G : DG} {T : DT} {A : DE} {ρ : Rho} {ds : List PyData} {q : List PyData → Prop} (f : PyData → Bool) (g : PyData → PyData)
    (h : ∀ x ∈ ds, ∀ (k : PyData → Prop) (n : Prop), (f x = true → k (g x)) → (f x = false → n) → G (.d x) ρ fun ρ1 => T ρ1 fun b => br b (A ρ1 fun y => onD y k) n)
    (hl : ds.length ≤ 1000000) (hq : q ((ds.filter f).map g)) : lcT G T A ρ ds q .mk :=
  lcGo_of f g ds [] q h (by rw [List.length_nil]; omega) (by rw [List.nil_append]; exact hq)
theorem for_of {G : DG} {S : DS} {d : DEnds} {ρ : Rho} {ds : List PyData} (J : Nat → Rho → Prop) (h0 : J 0 ρ) (step : ∀ i x ρ, ds[i]? = some x → J i ρ → ∀ N : Rho → Prop, (∀ ρ', J (i + 1) ρ' → N ρ') → G (.d x) ρ fun ρ1 => S { nx := N, rt := d.rt, bk := d.nx, ct := N } ρ1)
    (fin : ∀ ρ, J ds.length ρ → d.nx ρ) : forT G S d ds ρ .mk := forGo_of J ds step fin ds.length 0 (by omega) ρ h0
end Dl

set_option Elab.async false
set_option linter.all false
set_option maxRecDepth 100000
set_option maxHeartbeats 1000000
namespace Dl
open PySem PySem.Spec PyProof.Rows L2
/-! ### from the heap to data, midway -/
def tSx (K : PySem.W.Frag) (T : Tbs) (S : DS) : TS := fun D σ H => ∃ (c : Option Addr) (hid0 : List Addr) (H0 : Hp), tS ⟨K, T, c, hid0, H0⟩ S D σ H
theorem dsx {X : Cx} {K : PySem.W.Frag} {T : Tbs} {sts : List Stmt} {S : DS} (h : ∀ (c : Option Addr) (hid0 : List Addr) (H0 : Hp), PSs X sts (tS ⟨K, T, c, hid0, H0⟩ S)) : PSs X sts (tSx K T S) :=
  ⟨fun pins s σ H D I ⟨c, hid0, H0, x⟩ => (h c hid0 H0).run pins s σ H D I x⟩
section
variable {P : Program} {w : World} {K : PySem.W.Frag} {mg : Str → Option Value} {base : Heap} {T : Tbs}
theorem lv_nox {N : List Str} {x : Str} {sc : Scope} {ga : Addr} {cd : Value} {A : Around} {outer : List Env} {s : Shared} {H : Hp} {E : XK} {k : Nat} {c : Option Addr} {hid0 : List Addr} {H0 : Hp} (nd : N.Nodup) (hr : Room k (cxOf CX0 P w K mg base N x sc ga cd A outer s H E).nox.A) :
    Lv (cxOf CX0 P w K mg base N x sc ga cd A outer s H E).nox ⟨K, T, c, hid0, H0⟩ (fun _ _ _ => False) k :=
  ⟨⟨rfl, rfl, nd, hr⟩, PassesOwn.never, fun u s' ⟨a, B, sI, pins, σ, H, cls, d, e, I, nb, up, sky, na, os, ag, z⟩ => z.elim⟩
theorem Has.call0 {X : Cx} {CX : CXT} {k : Nat} {x : Str} {sp : Sp} {E : XK} {p pos : Pos} (h : Has X.prog X.w X.K X.mg X.base CX k x [] sp) (hr : Room k X.A) (hx : Passes CX X E) (hg : Gl X x := by rfl) (hdb : (x == ("__debug__" : Str)) = false := by decide) : PE X (.Call (.Name x p) [] [] pos) (tCall sp [] E tNil) := by
  obtain ⟨fd, b, kp, gm, F, _⟩ := h
  exact pe_call0 F hr hg gm kp b .nil hx hdb
/-- a new cup: what stands behind it -/
theorem start_ok {H : Hp} {p : Addr} {σ : L2.St} {ρ : Rho} (tb : LamX.Tabs T H) (cup : Cup H p) (len : σ.length = ρ.length) (sl : ∀ (i : Nat) (x : Dv), ρ[i]? = some (some x) → ∃ v : V, σ[i]? = some (some v) ∧ VR ⟨K, T, some p, [p], H⟩ [p] H v x ∧ notOwn x) : StOk ⟨K, T, some p, [p], H⟩ [p] σ H ρ :=
  ⟨⟨tb, fun a e => by cases e; exact ⟨List.mem_singleton_self _, cup⟩, fun a ha => by
    obtain ⟨g, s, h, _⟩ := cup
    rw [List.mem_singleton.mp ha]
    exact ⟨_, h, trivial⟩, fun a ha => ha, .refl⟩, ⟨len, fun i x e => by
    obtain ⟨v, h1, h2, _⟩ := sl i x e
    exact ⟨v, h1, h2⟩⟩, fun i j xs ys v n ei _ nx _ _ => by
    obtain ⟨_, _, _, no⟩ := sl i _ ei
    exact (nx no).elim⟩
/-- a law's end -/
theorem ends_law {C : DC} {hid : List Addr} {H : Hp} {Q : VK} (h : ∀ H', Q (.bl true) H') : EndsR C hid H { nx := fun _ => False, rt := fun x => x = .d (.bool true) } { nx := fun _ H' => Q .non H', rt := Q } :=
  ⟨fun _ _ _ _ _ _ z => z.elim, fun _ _ _ _ _ _ z => z.elim, fun _ _ _ _ _ _ z => z.elim, fun v x hid' H' ok r no e => by
    subst e
    cases r
    exact h H'⟩
end
end Dl

set_option Elab.async false
set_option linter.all false
set_option maxRecDepth 100000
set_option maxHeartbeats 1000000
/-! a def as a function of data, that can be reckoned -/
namespace Fl
open PySem PySem.Spec PyProof.Rows L2 Dl
/-- an answer, an error's class, neither, or any answer of a lot -/
inductive R (α : Type) : Type where
  | ok (a : α)
  | er (c : Str)
  | no
  | ch (S : PyData → Prop) (k : PyData → R α)
namespace R
variable {α β γ : Type}
def bind : R α → (α → R β) → R β
  | ok a, f => f a
  | er c, _ => er c
  | no, _ => no
  | ch S k, f => ch S fun d => bind (k d) f
def wp : R α → (α → Prop) → (Str → Prop) → Prop
  | ok a, q, _ => q a
  | er c, _, e => e c
  | no, _, _ => False
  | ch S k, q, e => ∀ d, S d → wp (k d) q e
theorem wp_bind (e : Str → Prop) : ∀ (m : R α) (f : α → R β) (q : β → Prop), wp (m.bind f) q e = wp m (fun a => wp (f a) q e) e
  | ok a, f, q => rfl
  | er c, f, q => rfl
  | no, f, q => rfl
  | ch S k, f, q => by
    show (∀ d, S d → wp ((k d).bind f) q e) = ∀ d, S d → wp (k d) (fun a => wp (f a) q e) e
    exact forall_congr fun d => by rw [wp_bind e (k d) f q]
theorem wp_mono {e : Str → Prop} : ∀ {m : R α} {q q' : α → Prop}, (∀ a, q a → q' a) → wp m q e → wp m q' e
  | ok a, q, q', h, k => h a k
  | er c, q, q', h, k => k
  | no, q, q', h, k => k
  | ch S k, q, q', h, w => fun d hd => wp_mono h (w d hd)
theorem bind_ok {a : α} {f : α → R β} : (ok a).bind f = f a := rfl
theorem bind_er {c : Str} {f : α → R β} : (er c).bind f = er c := rfl
theorem bind_no {f : α → R β} : (no : R α).bind f = no := rfl
theorem bind_ch {S : PyData → Prop} {k : PyData → R α} {f : α → R β} : (ch S k).bind f = ch S fun d => (k d).bind f := rfl
theorem bind_assoc : ∀ (m : R α) (f : α → R β) (g : β → R γ), (m.bind f).bind g = m.bind fun a => (f a).bind g
  | ok _, _, _ => rfl
  | er _, _, _ => rfl
  | no, _, _ => rfl
  | ch S k, f, g => by
    show ch S (fun d => ((k d).bind f).bind g) = ch S fun d => (k d).bind fun a => (f a).bind g
    congr 1
    funext d
    exact bind_assoc (k d) f g
end R
open R
/-! ### the words -/
abbrev CE := Rho → R Dv
abbrev CT := Rho → R Bool
abbrev CA := Rho → R (List Dv)
inductive Out where
  | nx (ρ : Rho) | rt (v : Dv) | bk (ρ : Rho) | ct (ρ : Rho)
abbrev CS := Rho → R Out
def up {α : Type} (er : Str → Prop) (a : Rho → R α) : Rho → (α → Prop) → Prop := fun ρ q => wp (a ρ) q er
def outK (d : DEnds) : Out → Prop
  | .nx ρ => d.nx ρ
  | .rt v => d.rt v
  | .bk ρ => d.bk ρ
  | .ct ρ => d.ct ρ
def upS (er : Str → Prop) (a : CS) : DS := fun d ρ => wp (a ρ) (outK d) er
def cVar (i : Nat) (ρ : Rho) : R Dv := match ρ[i]? with
  | some (some x) => ok x
  | _ => no
def cC (x : PyData) (_ : Rho) : R Dv := ok (.d x)
def cFn (x : Str) (_ : Rho) : R Dv := ok (.fn x)
def cTy (n : String) (_ : Rho) : R Dv := ok (.ty n)
def cOp (f : Dv → Dv → R Dv) (a b : CE) (ρ : Rho) : R Dv := (a ρ).bind fun x => (b ρ).bind fun y => f x y
def cUn (f : Dv → R Dv) (a : CE) (ρ : Rho) : R Dv := (a ρ).bind f
def cNil (_ : Rho) : R (List Dv) := ok []
def cCons (a : CE) (b : CA) (ρ : Rho) : R (List Dv) := (a ρ).bind fun x => (b ρ).bind fun xs => ok (x :: xs)
def boolR : Dv → R Bool
  | .d (.bool b) => ok b
  | _ => no
def cB (a : CE) (ρ : Rho) : R Bool := (a ρ).bind boolR
def cNot (b : CT) (ρ : Rho) : R Bool := (b ρ).bind fun b => ok (!b)
def iff {α : Type} (b : Bool) (x y : R α) : R α := match b with
  | true => x
  | false => y
def cAndT (a b : CT) (ρ : Rho) : R Bool := (a ρ).bind fun v => iff v (b ρ) (ok false)
def cOrT (a b : CT) (ρ : Rho) : R Bool := (a ρ).bind fun v => iff v (ok true) (b ρ)
def cIfE (t : CT) (a b : CE) (ρ : Rho) : R Dv := (t ρ).bind fun v => iff v (a ρ) (b ρ)
def cAnd (a b : CE) (ρ : Rho) : R Dv := (a ρ).bind fun x => (boolR x).bind fun v => iff v (b ρ) (ok (.d (.bool false)))
def cOr (a b : CE) (ρ : Rho) : R Dv := (a ρ).bind fun x => (boolR x).bind fun v => iff v (ok (.d (.bool true))) (b ρ)
def cNotE (a : CE) (ρ : Rho) : R Dv := (a ρ).bind fun x => (boolR x).bind fun v => ok (.d (.bool (!v)))
def dsR (xs : List Dv) : R (List PyData) := match datas xs with
  | some l => ok l
  | none => no
def cTup (a : CA) (ρ : Rho) : R Dv := (a ρ).bind fun xs => (dsR xs).bind fun l => ok (.d (.tuple l))
def cLst (a : CA) (ρ : Rho) : R Dv := (a ρ).bind fun xs => (dsR xs).bind fun l => ok (.d (.list l))
def notOwnB : Dv → Bool
  | .own _ => false
  | .od _ => false
  | _ => true
theorem notOwnB_iff {x : Dv} : notOwnB x = true → notOwn x := by
  cases x <;> intro h <;> first | trivial | cases h
/-! ### statements -/
def cNext (ρ : Rho) : R Out := ok (.nx ρ)
def cSeq (s t : CS) (ρ : Rho) : R Out := (s ρ).bind fun o => match o with
  | .nx ρ' => t ρ'
  | o => ok o
def cIf (c : CT) (s t : CS) (ρ : Rho) : R Out := (c ρ).bind fun b => iff b (s ρ) (t ρ)
def chk {α : Type} (b : Bool) (x : R α) : R α := iff b x no
def cSet (i : Nat) (a : CE) (ρ : Rho) : R Out := (a ρ).bind fun x => chk (notOwnB x) (ok (.nx (ρ.set i (some x))))
def cOwnL (i : Nat) (a : CA) (ρ : Rho) : R Out := (a ρ).bind fun xs => (dsR xs).bind fun l => ok (.nx (ρ.set i (some (.own l))))
def dR : Dv → R PyData
  | .d y => ok y
  | _ => no
def cApp (i : Nat) (a : CE) (ρ : Rho) : R Out := match ρ[i]? with
  | some (some (.own xs)) => (a ρ).bind fun y => (dR y).bind fun y => chk (decide (xs.length ≤ 1000000)) (ok (.nx (ρ.set i (some (.own (xs ++ [y]))))))
  | _ => no
def retR : Dv → Dv
  | .od l => .dc l
  | .own l => .d (.list l)
  | x => x
def cRet (a : CE) (ρ : Rho) : R Out := (a ρ).bind fun x => ok (.rt (retR x))
def cRetN (_ : Rho) : R Out := ok (.rt (.d .none))
def cDrop (a : CE) (ρ : Rho) : R Out := (a ρ).bind fun _ => ok (.nx ρ)
def cBreak (ρ : Rho) : R Out := ok (.bk ρ)
def cRaise (cl : Str) (_ : Rho) : R Out := er cl
def cFrz (i : Nat) (s : CS) (ρ : Rho) : R Out := s (frz ρ i)
def cPar (i j : Nat) (a : CA) (ρ : Rho) : R Out := (a ρ).bind fun xs => match xs with
  | [x, y] => chk (notOwnB x && notOwnB y) (ok (.nx ((ρ.set i (some x)).set j (some y))))
  | _ => no
/-! targets -/
abbrev CG := Dv → Rho → R Rho
abbrev CGs := List Dv → Rho → R Rho
def tgN (i : Nat) (x : Dv) (ρ : Rho) : R Rho := chk (notOwnB x) (ok (ρ.set i (some x)))
def tgsNil (xs : List Dv) (ρ : Rho) : R Rho := match xs with
  | [] => ok ρ
  | _ => no
def tgsCons (g : CG) (gs : CGs) (xs : List Dv) (ρ : Rho) : R Rho := match xs with
  | x :: r => (g x ρ).bind fun ρ1 => gs r ρ1
  | [] => no
def tgT (n : Nat) (gs : CGs) (x : Dv) (ρ : Rho) : R Rho := match x with
  | .d (.tuple ds) => chk (ds.length == n) (gs (ds.map Dv.d) ρ)
  | _ => no
def cAsg (a : CE) (g : CG) (ρ : Rho) : R Out := (a ρ).bind fun x => (g x ρ).bind fun ρ' => ok (.nx ρ')
/-! loops -/
abbrev CI := Rho → R (List PyData)
def forR (g : CG) (s : CS) : List PyData → Rho → R Out
  | [], ρ => ok (.nx ρ)
  | x :: r, ρ => (g (.d x) ρ).bind fun ρ1 => (s ρ1).bind fun o => match o with
    | .nx ρ' => forR g s r ρ'
    | .ct ρ' => forR g s r ρ'
    | .bk ρ' => ok (.nx ρ')
    | .rt v => ok (.rt v)
def cFor (i : CI) (g : CG) (s : CS) (ρ : Rho) : R Out := (i ρ).bind fun ds => forR g s ds ρ
def whileR (c : CT) (s : CS) : Nat → Rho → R Out
  | 0, _ => no
  | n + 1, ρ => (c ρ).bind fun b => iff b ((s ρ).bind fun o => match o with
    | .nx ρ' => whileR c s n ρ'
    | .ct ρ' => whileR c s n ρ'
    | .bk ρ' => ok (.nx ρ')
    | .rt v => ok (.rt v)) (ok (.nx ρ))
def cWhile (n : Nat) (c : CT) (s : CS) (ρ : Rho) : R Out := whileR c s n ρ
def seqR : Dv → R (List PyData)
  | .d (.list ds) => ok ds
  | .d (.tuple ds) => ok ds
  | .d (.str z) => ok (signs z)
  | _ => no
def cIt (a : CE) (ρ : Rho) : R (List PyData) := (a ρ).bind seqR
def lcR (g : CG) (t : CT) (a : CE) (ρ : Rho) : List PyData → R (List PyData)
  | [] => ok []
  | x :: r => (g (.d x) ρ).bind fun ρ1 => (t ρ1).bind fun b => iff b ((a ρ1).bind fun y => (dR y).bind fun y => (lcR g t a ρ r).bind fun l => ok (y :: l)) (lcR g t a ρ r)
def cLc (i : CI) (g : CG) (t : CT) (a : CE) (vs : List Nat) (ρ : Rho) : R Dv := (i ρ).bind fun ds => chk (decide (ds.length ≤ 1000000)) ((lcR g t a (wipeR ρ vs) ds).bind fun l => ok (.d (.list l)))
def cYes (_ : Rho) : R Bool := ok true
/-! calls -/
def cCall (m : List Dv → R Dv) (a : CA) (ρ : Rho) : R Dv := (a ρ).bind fun xs => chk (xs.all notOwnB) (m xs)
def cCall0 (m : List Dv → R Dv) (_ : Rho) : R Dv := m []
def cFun (f : List Dv → R Dv) (a : CA) (ρ : Rho) : R Dv := (a ρ).bind f
/-- a def's body -/
def body (n k : Nat) (s : CS) (xs : List Dv) : R Dv := chk (xs.length == n) ((s (xs.map some ++ List.replicate k none)).bind fun o => match o with
  | .nx _ => ok (.d .none)
  | .rt v => ok v
  | _ => no)
def gR (m : List Dv → R Dv) : DF := fun xs q er => wp (m xs) q er
/-! ### adequacy -/
section
variable {X : Cx} {C : DC} {er : Str → Prop}
theorem mE {A A' : DE} (h : ∀ ρ q, A' ρ q → A ρ q) (σ : L2.St) (H : Hp) (Q : VK) (x : tE C A' σ H Q) : tE C A σ H Q := by
  obtain ⟨hid, ρ, q, hp, sr, a, k⟩ := x
  exact ⟨hid, ρ, q, hp, sr, h ρ q a, k⟩
theorem mT {A A' : DT} (h : ∀ ρ q, A' ρ q → A ρ q) (σ : L2.St) (H : Hp) (Q : Bool → Hp → Prop) (x : tT C A' σ H Q) : tT C A σ H Q := by
  obtain ⟨hid, ρ, q, hp, sr, a, k⟩ := x
  exact ⟨hid, ρ, q, hp, sr, h ρ q a, k⟩
theorem mA {A A' : DAs} {n : Nat} (h : ∀ ρ q, A' ρ q → A ρ q) (σ : L2.St) (H : Hp) (Q : List V → Hp → Prop) (x : tAs C n A' σ H Q) : tAs C n A σ H Q := by
  obtain ⟨hid, ρ, q, hp, sr, a, k⟩ := x
  exact ⟨hid, ρ, q, hp, sr, h ρ q a, k⟩
theorem mI {A A' : DI} (h : ∀ ρ q, A' ρ q → A ρ q) (σ : L2.St) (H : Hp) (Q : It → Hp → Prop) (x : tI C A' σ H Q) : tI C A σ H Q := by
  obtain ⟨hid, ρ, q, hp, sr, a, k⟩ := x
  exact ⟨hid, ρ, q, hp, sr, h ρ q a, k⟩
theorem mS {A A' : DS} (h : ∀ d ρ, A' d ρ → A d ρ) (D : Ends) (σ : L2.St) (H : Hp) (x : tS C A' D σ H) : tS C A D σ H := by
  obtain ⟨hid, ρ, d, so, a, k⟩ := x
  exact ⟨hid, ρ, d, so, h d ρ a, k⟩
theorem mG {A A' : DG} {ow : List Nat} (h : ∀ x ρ q, A' x ρ q → A x ρ q) (v : V) (σ : L2.St) (H : Hp) (Q : L2.St → Hp → Prop) (x : tG C ow A' v σ H Q) : tG C ow A v σ H Q := by
  obtain ⟨hid, ρ, x, q, hp, sr, r, a, k⟩ := x
  exact ⟨hid, ρ, x, q, hp, sr, r, h x ρ q a, k⟩
theorem mGs {A A' : DGs} {ow : List Nat} (h : ∀ x ρ q, A' x ρ q → A x ρ q) (v : List V) (σ : L2.St) (H : Hp) (Q : L2.St → Hp → Prop) (x : tGs C ow A' v σ H Q) : tGs C ow A v σ H Q := by
  obtain ⟨hid, ρ, x, q, hp, sr, r, a, k⟩ := x
  exact ⟨hid, ρ, x, q, hp, sr, r, h x ρ q a, k⟩
/-- targets, as a relation of what is hoped for -/
def upG (er : Str → Prop) (g : CG) : DG := fun x ρ q => wp (g x ρ) q er
def upGs (er : Str → Prop) (g : CGs) : DGs := fun x ρ q => wp (g x ρ) q er
theorem chk_wp {α : Type} {b : Bool} {x : R α} {q : α → Prop} (h : wp (chk b x) q er) : b = true ∧ wp x q er := by
  cases b with
  | true => exact ⟨rfl, h⟩
  | false => exact h.elim
theorem iff_br {α : Type} {b : Bool} {x y : R α} {q : α → Prop} {p1 p2 : Prop} (h : wp (iff b x y) q er) (h1 : wp x q er → p1) (h2 : wp y q er → p2) : br b p1 p2 := by
  cases b with
  | true => exact h1 h
  | false => exact h2 h
theorem boolR_wp {x : Dv} {q : Bool → Prop} (h : wp (boolR x) q er) : onB x q := by
  cases x with
  | d y =>
    cases y with
    | bool b => exact h
    | _ => exact h.elim
  | _ => exact h.elim
theorem dsR_wp {xs : List Dv} {q : List PyData → Prop} (h : wp (dsR xs) q er) : onDs xs q := by
  unfold dsR at h
  unfold onDs
  split at h
  · rename_i l e
    try rw [e]
    exact h
  · exact h.elim
theorem dR_wp {x : Dv} {q : PyData → Prop} (h : wp (dR x) q er) : onD x q := by
  cases x with
  | d y => exact h
  | _ => exact h.elim
theorem fe_pv {x : Str} {i : Nat} {pos : Pos} (h : PE X (.Name x pos) (tVar i)) : PE X (.Name x pos) (tE C (up er (cVar i))) := (de_pv h).imp (mE fun ρ q h => by
  unfold up cVar at h
  unfold dVar
  split at h
  · rename_i y e
    try rw [e]
    exact h
  · exact h.elim)
theorem fe_c {e : Expr} {x : PyData} (h : PE X e (tE C (dC x))) : PE X e (tE C (up er (cC x))) := h.imp (mE fun ρ q h => h)
theorem fe_int {i j pos} : PE X (.Constant (.int i) j pos) (tE C (up er (cC (.int i)))) := fe_c de_int
theorem fe_bl {i j pos} : PE X (.Constant (.bool i) j pos) (tE C (up er (cC (.bool i)))) := fe_c de_bl
theorem fe_non {j pos} : PE X (.Constant .none j pos) (tE C (up er (cC .none))) := fe_c de_non
theorem fe_str {x j pos} (h : PyData.strOk x = true := by decide +kernel) : PE X (.Constant (.str x) j pos) (tE C (up er (cC (.str x)))) := fe_c (de_str h)
theorem fe_fn {x : Str} {pos : Pos} (hg : Gl X x) (hm : X.mg x = some (.ref (He.ga C.K x))) (hd : (x == ("__debug__" : Str)) = false := by decide) : PE X (.Name x pos) (tE C (up er (cFn x))) := (de_fn hg hm hd).imp (mE fun ρ q h => h)
theorem fe_ty {x : Str} {n : String} {p : Pos} (hm : X.mg x = none) (hv : bootBuiltins x = some (.type n)) (hg : Gl X x := by rfl) (hn : x ≠ "__name__" := by decide) (hd : (x == ("__debug__" : Str)) = false := by decide) : PE X (.Name x p) (tE C (up er (cTy n))) := (de_ty hm hv hg hn hd).imp (mE fun ρ q h => h)
theorem fe_nil : PA X [] (tAs C 0 (up er cNil)) := de_nil.imp (mA fun ρ q h => h)
theorem fe_cons {e : Expr} {es : List Expr} {n : Nat} {A : CE} {B : CA} (ha : PE X e (tE C (up er A))) (hb : PA X es (tAs C n (up er B))) (he : starEach (e :: es) X.env = (false, eval e X.env) :: starEach es X.env := by rfl) : PA X (e :: es) (tAs C (n + 1) (up er (cCons A B))) :=
  (de_cons ha hb he).imp (mA fun ρ q h => by
    unfold up cCons at h
    rw [wp_bind] at h
    exact wp_mono (fun x h => by rw [wp_bind] at h; exact h) h)
theorem op_mono {f : Dv → Dv → R Dv} {g : Dv → Dv → (Dv → Prop) → Prop} {A B : CE} (hf : ∀ x y q, wp (f x y) q er → g x y q) (ρ : Rho) (q : Dv → Prop) (h : up er (cOp f A B) ρ q) : dOp g (up er A) (up er B) ρ q := by
  unfold up cOp at h
  rw [wp_bind] at h
  exact wp_mono (fun x h => by rw [wp_bind] at h; exact wp_mono (fun y h => hf x y q h) h) h
theorem fe_op {a b : Expr} {pos : Pos} {op : Operator} {f : Dv → Dv → R Dv} {g : Dv → Dv → (Dv → Prop) → Prop} {A B : CE} (ho : OpR X (binaryOp op) (rD C g)) (hf : ∀ er x y q, wp (f x y) q er → g x y q) (ha : PE X a (tE C (up er A))) (hb : PE X b (tE C (up er B))) : PE X (.BinOp a op b pos) (tE C (up er (cOp f A B))) :=
  (de_op ho ha hb).imp (mE (op_mono (hf er)))
theorem fe_cmp {a b : Expr} {pos : Pos} {op : CmpOp} {f : Dv → Dv → R Dv} {g : Dv → Dv → (Dv → Prop) → Prop} {A B : CE} (ho : OpR X (compareOp op) (rD C g)) (hf : ∀ er x y q, wp (f x y) q er → g x y q) (ha : PE X a (tE C (up er A))) (hb : PE X b (tE C (up er B))) (hm : behindInMarks op b = false := by rfl) : PE X (.Compare a [op] [b] pos) (tE C (up er (cOp f A B))) :=
  (de_cmp ho ha hb hm).imp (mE (op_mono (hf er)))
theorem fe_ix {a b : Expr} {pos : Pos} {k : Nat} {f : Dv → Dv → R Dv} {A B : CE} (l : Lv0 X C k) (hf : ∀ er x y q, wp (f x y) q er → ixD x y q) (ha : PE X a (tE C (up er A))) (hb : PE X b (tE C (up er B))) (hs : PlainIx b := by intro _ _; rfl) : PE X (.Subscript a b pos) (tE C (up er (cOp f A B))) :=
  (de_ix l ha hb hs).imp (mE (op_mono (hf er)))
theorem cB_mono {A : CE} (ρ : Rho) (q : Bool → Prop) (h : up er (cB A) ρ q) : dB (up er A) ρ q := by
  unfold up cB at h
  rw [wp_bind] at h
  exact wp_mono (fun x h => boolR_wp h) h
theorem ft_cmp {a b : Expr} {pos : Pos} {op : CmpOp} {f : Dv → Dv → R Dv} {g : Dv → Dv → (Dv → Prop) → Prop} {A B : CE} (ho : OpR X (compareOp op) (rD C g)) (hf : ∀ er x y q, wp (f x y) q er → g x y q) (ha : PE X a (tE C (up er A))) (hb : PE X b (tE C (up er B))) (hm : behindInMarks op b = false := by rfl) : PT X (.Compare a [op] [b] pos) (tT C (up er (cB (cOp f A B)))) :=
  (dt_cmp ho ha hb hm).imp (mT fun ρ q h => by
    have h := cB_mono ρ q h
    unfold dB at h ⊢
    exact op_mono (hf er) ρ _ h)
theorem fe_un {a : Expr} {pos : Pos} {op : UnaryOp} {f : Dv → R Dv} {g : Dv → (Dv → Prop) → Prop} {A : CE} (ho : UnR X (unaryOp op) (rU1 C g)) (hf : ∀ er x q, wp (f x) q er → g x q) (ha : PE X a (tE C (up er A))) : PE X (.UnaryOp op a pos) (tE C (up er (cUn f A))) :=
  (de_un ho ha).imp (mE fun ρ q h => by
    unfold up cUn at h
    rw [wp_bind] at h
    exact wp_mono (fun x h => hf er x q h) h)
theorem ft_val {e : Expr} {A : CE} (h : PE X e (tE C (up er A))) (hs : ∀ whole : Sem Value, isTrue e X.env whole = (do let v ← whole; standAt e.pos; holding [v] (truthy v)) := by intro _; rfl) : PT X e (tT C (up er (cB A))) := (dt_val h hs).imp (mT cB_mono)
theorem ft_not {a : Expr} {pos : Pos} {B : CT} (h : PT X a (tT C (up er B))) : PT X (.UnaryOp .Not a pos) (tT C (up er (cNot B))) := (dt_not h).imp (mT fun ρ q h => by
  unfold up cNot at h
  rw [wp_bind] at h
  exact h)
theorem fw_one {c : Expr} {B : CT} {op : BoolOp} {pos : Pos} (h : PW X (.BoolOp op [c] pos) (tT C (up er B))) : PW X (.BoolOp op [c] pos) (tT C (up er B)) := h
theorem fw_and {a b : Expr} {rest : List Expr} {pos : Pos} {A B : CT} (ha : PT X a (tT C (up er A))) (hb : PW X (.BoolOp .And (b :: rest) pos) (tT C (up er B))) : PW X (.BoolOp .And (a :: b :: rest) pos) (tT C (up er (cAndT A B))) := (dw_and ha hb).imp (mT fun ρ q h => by
  unfold up cAndT at h
  rw [wp_bind] at h
  exact wp_mono (fun b h => iff_br h id id) h)
theorem fw_or {a b : Expr} {rest : List Expr} {pos : Pos} {A B : CT} (ha : PT X a (tT C (up er A))) (hb : PW X (.BoolOp .Or (b :: rest) pos) (tT C (up er B))) : PW X (.BoolOp .Or (a :: b :: rest) pos) (tT C (up er (cOrT A B))) := (dw_or ha hb).imp (mT fun ρ q h => by
  unfold up cOrT at h
  rw [wp_bind] at h
  exact wp_mono (fun b h => iff_br h id id) h)
theorem fe_and {a b : Expr} {rest : List Expr} {pos : Pos} {A B : CE} (ha : PE X a (tE C (up er A))) (hb : PE X (.BoolOp .And (b :: rest) pos) (tE C (up er B))) : PE X (.BoolOp .And (a :: b :: rest) pos) (tE C (up er (cAnd A B))) := (de_and ha hb).imp (mE fun ρ q h => by
  unfold up cAnd at h
  rw [wp_bind] at h
  exact wp_mono (fun x h => by rw [wp_bind] at h; exact boolR_wp (wp_mono (fun b h => iff_br h id id) h)) h)
theorem fe_or {a b : Expr} {rest : List Expr} {pos : Pos} {A B : CE} (ha : PE X a (tE C (up er A))) (hb : PE X (.BoolOp .Or (b :: rest) pos) (tE C (up er B))) : PE X (.BoolOp .Or (a :: b :: rest) pos) (tE C (up er (cOr A B))) := (de_or ha hb).imp (mE fun ρ q h => by
  unfold up cOr at h
  rw [wp_bind] at h
  exact wp_mono (fun x h => by rw [wp_bind] at h; exact boolR_wp (wp_mono (fun b h => iff_br h id id) h)) h)
theorem fe_not {a : Expr} {pos : Pos} {A : CE} (h : PE X a (tE C (up er A))) : PE X (.UnaryOp .Not a pos) (tE C (up er (cNotE A))) := (de_not h).imp (mE fun ρ q h => by
  unfold up cNotE at h
  rw [wp_bind] at h
  exact wp_mono (fun x h => by rw [wp_bind] at h; exact boolR_wp h) h)
theorem fe_ifE {c a b : Expr} {pos : Pos} {T : CT} {A B : CE} (hc : PT X c (tT C (up er T))) (ha : PE X a (tE C (up er A))) (hb : PE X b (tE C (up er B))) : PE X (.IfExp c a b pos) (tE C (up er (cIfE T A B))) := (de_ifE hc ha hb).imp (mE fun ρ q h => by
  unfold up cIfE at h
  rw [wp_bind] at h
  exact wp_mono (fun b h => iff_br h id id) h)
theorem fe_tup {es : List Expr} {n : Nat} {A : CA} {pos : Pos} {x1 : Nat} (h : PA X es (tAs C n (up er A))) (hn : n ≤ 1000 := by decide) : PE X (.Tuple es x1 pos) (tE C (up er (cTup A))) := (de_tup h hn).imp (mE fun ρ q h => by
  unfold up cTup at h
  rw [wp_bind] at h
  exact wp_mono (fun x h => by rw [wp_bind] at h; exact dsR_wp h) h)
theorem fe_lst {es : List Expr} {n : Nat} {A : CA} {pos : Pos} (h : PA X es (tAs C n (up er A))) (hn : n ≤ 1000 := by decide) : PE X (.List es pos) (tE C (up er (cLst A))) := (de_lst h hn).imp (mE fun ρ q h => by
  unfold up cLst at h
  rw [wp_bind] at h
  exact wp_mono (fun x h => by rw [wp_bind] at h; exact dsR_wp h) h)
/-! statements -/
theorem outK_nx {d : DEnds} {K : Rho → Prop} {o : Out} (h : ∀ ρ, o = .nx ρ → K ρ) (h2 : (∀ ρ, o ≠ .nx ρ) → outK d o) : outK { d with nx := K } o := by
  cases o with
  | nx ρ => exact h ρ rfl
  | rt v => exact h2 (fun _ z => by cases z)
  | bk ρ => exact h2 (fun _ z => by cases z)
  | ct ρ => exact h2 (fun _ z => by cases z)
theorem fs_nil : PSs X [] (tS C (upS er cNext)) := ds_nil.imp (mS fun d ρ h => h)
theorem fs_one {st : Stmt} {s : CS} (h : PS X st (tS C (upS er s))) : PSs X [st] (tS C (upS er s)) := ds_one h
theorem fs_cons {st : Stmt} {rest : List Stmt} {s t : CS} (h : PS X st (tS C (upS er s))) (k : PSs X rest (tS C (upS er t))) : PSs X (st :: rest) (tS C (upS er (cSeq s t))) := (ds_cons h k).imp (mS fun d ρ h => by
  unfold upS cSeq at h
  rw [wp_bind] at h
  exact wp_mono (fun o h => by cases o <;> exact h) h)
theorem fs_if {pos : Pos} {c : Expr} {a b : List Stmt} {T : CT} {s t : CS} (hc : PT X c (tT C (up er T))) (ha : PSs X a (tS C (upS er s))) (hb : PSs X b (tS C (upS er t))) : PS X (.If c a b pos) (tS C (upS er (cIf T s t))) := (ds_if hc ha hb).imp (mS fun d ρ h => by
  unfold upS cIf at h
  rw [wp_bind] at h
  exact wp_mono (fun b h => iff_br h id id) h)
theorem fs_pass {pos : Pos} : PS X (.Pass pos) (tS C (upS er cNext)) := ds_pass.imp (mS fun d ρ h => h)
theorem fs_break {pos : Pos} : PS X (.Break pos) (tS C (upS er cBreak)) := ds_break.imp (mS fun d ρ h => h)
theorem fs_expr {e : Expr} {A : CE} {pos : Pos} (h : PE X e (tE C (up er A))) (hs : swapsWith e none pos.line X.env = pure false := by rfl) : PS X (.Expr e pos) (tS C (upS er (cDrop A))) := (ds_expr h hs).imp (mS fun d ρ h => by
  unfold upS cDrop at h
  rw [wp_bind] at h
  exact h)
theorem fs_retN {pos : Pos} : PS X (.Return none pos) (tS C (upS er cRetN)) := ds_retN.imp (mS fun d ρ h => h)
theorem fs_ret {e : Expr} {A : CE} {pos : Pos} (h : PE X e (tE C (up er A))) : PS X (.Return (some e) pos) (tS C (upS er (cRet A))) := (ds_ret h).imp (mS fun d ρ h => by
  unfold upS cRet at h
  rw [wp_bind] at h
  exact wp_mono (fun x h => by cases x <;> exact h) h)
theorem on_own {x : Dv} {α : Type} {m : R α} {q : α → Prop} {p : Prop} (h : wp (chk (notOwnB x) m) q er) (k : wp m q er → p) : onOwn x p := by
  obtain ⟨h1, h2⟩ := chk_wp h
  cases x with
  | own _ => cases h1
  | od _ => cases h1
  | _ => exact k h2
theorem fs_set {pos : Pos} {i : Nat} {x : Str} {e : Expr} {A : CE} {pos' : Pos} (hN : X.N.Nodup) (hi : X.N[i]? = some x) (hl : L2.Loc X.env.scope x) (h : PE X e (tE C (up er A))) (hs : swapsWith e (some (.Name x pos')) pos.line X.env = pure false := by rfl)
    (hf : X.fn x = true ∨ X.env.scope.names.lookup x = some .local := by first | exact Or.inl rfl | exact Or.inr rfl) : PS X (.Assign [.Name x pos'] e pos) (tS C (upS er (cSet i A))) := (ds_set hN hi hl h hs hf).imp (mS fun d ρ h => by
  unfold upS cSet at h
  rw [wp_bind] at h
  exact wp_mono (fun x h => on_own h id) h)
theorem fs_ownL {pos : Pos} {i n : Nat} {x : Str} {es : List Expr} {A : CA} {pos' lpos : Pos} (hN : X.N.Nodup) (hi : X.N[i]? = some x) (hl : L2.Loc X.env.scope x) (h : PA X es (tAs C n (up er A))) (hn : n ≤ 1000 := by decide) (hs : swapsWith (.List es lpos) (some (.Name x pos')) pos.line X.env = pure false := by rfl)
    (hf : X.fn x = true ∨ X.env.scope.names.lookup x = some .local := by first | exact Or.inl rfl | exact Or.inr rfl) : PS X (.Assign [.Name x pos'] (.List es lpos) pos) (tS C (upS er (cOwnL i A))) := (ds_ownL hN hi hl h hn hs hf).imp (mS fun d ρ h => by
  unfold upS cOwnL at h
  rw [wp_bind] at h
  exact wp_mono (fun x h => by rw [wp_bind] at h; exact dsR_wp h) h)
theorem fs_app {pos : Pos} {i : Nat} {x : Str} {e : Expr} {A : CE} {npos apos cpos : Pos} (hv : PE X (.Name x npos) (tVar i)) (h : PE X e (tE C (up er A)))
    (hb : attributeBase (.Name x npos) "append" X.env (eval (.Name x npos) X.env) = eval (.Name x npos) X.env := by rfl)
    (h2 : (((backTo cpos (starEach [e] X.env)).all fun x => !x.1) && (backToKw cpos (keywordEach [] X.env)).all (fun x => x.1.isSome) && decide (([e] : List Expr).length + ([] : List Keyword).length + (if ([] : List Keyword).isEmpty then 0 else 1) < 30)) = true := by rfl)
    (h3 : (apos.endLine == cpos.line) = true := by rfl) (h4 : starEach [e] X.env = (false, eval e X.env) :: starEach [] X.env := by rfl) (h5 : (backTo cpos (starEach ([] : List Expr) X.env)).any (·.1) = false := by rfl)
    (hs : swapsWith (.Call (.Attribute (.Name x npos) "append" apos) [e] [] cpos) none pos.line X.env = pure false := by rfl) :
    PS X (.Expr (.Call (.Attribute (.Name x npos) "append" apos) [e] [] cpos) pos) (tS C (upS er (cApp i A))) := (ds_app hv h hb h2 h3 h4 h5 hs).imp (mS fun d ρ h => by
  unfold upS cApp at h
  unfold dApp
  split at h
  · rename_i xs e
    try rw [e]
    rw [wp_bind] at h
    refine wp_mono (fun y h => ?_) h
    rw [wp_bind] at h
    refine dR_wp (wp_mono (q' := fun y => xs.length ≤ 1000000 ∧ d.nx (ρ.set i (some (.own (xs ++ [y]))))) (fun y h => ?_) h)
    obtain ⟨h1, h2⟩ := chk_wp h
    exact ⟨of_decide_eq_true h1, h2⟩
  · exact h.elim)
theorem fs_frz {st : Stmt} {s : CS} (i : Nat) (h : PS X st (tS C (upS er s))) : PS X st (tS C (upS er (cFrz i s))) := (ds_frz i h).imp (mS fun d ρ h => h)
theorem fs_raise {x m : Str} {j k : Nat} {p p2 pos rpos : Pos} {E : XK} (l : Lv X C E k) (eo : EOk C er E) (mk : L2N.PMk X (.Call (.Name x p) [.Constant (.str m) j p2] [] pos) (fun _ H Q => Q (.ref (He.ga C.K x)) none H)) :
    PS X (.Raise (some (.Call (.Name x p) [.Constant (.str m) j p2] [] pos)) none rpos) (tS C (upS er (cRaise x))) := (ds_raise l eo mk).imp (mS fun d ρ h => h)
theorem fs_par {i j n : Nat} {x y : Str} {a b : Expr} {A : CA} {px py pt pos : Pos} {kt k2 pt2} {k : Nat} (l : Lv0 X C k) (hi : X.N[i]? = some x) (hj : X.N[j]? = some y)
    (ha : PA X [a, b] (tAs C n (up er A))) (hij : i ≠ j := by decide) (hx : X.env.scope.names.lookup x = some .local := by rfl) (hy : X.env.scope.names.lookup y = some .local := by rfl)
    (hw : swappedStores [.Tuple [.Name x px, .Name y py] kt pt] (.Tuple [a, b] k2 pt2) X.env = pure (some [x, y]) := by rfl)
    (hs : swapsWithSole [.Tuple [.Name x px, .Name y py] kt pt] (.Tuple [a, b] k2 pt2) pos.line X.env = pure false := by rfl) :
    PS X (.Assign [.Tuple [.Name x px, .Name y py] kt pt] (.Tuple [a, b] k2 pt2) pos) (tS C (upS er (cPar i j A))) := (ds_par l hi hj ha hij hx hy hw hs).imp (mS fun d ρ h => by
  unfold upS cPar at h
  rw [wp_bind] at h
  refine wp_mono (fun xs h => ?_) h
  match xs, h with
  | [], h => exact h.elim
  | [_], h => exact h.elim
  | [u, v], h =>
    obtain ⟨h1, h2⟩ := chk_wp h
    rw [Bool.and_eq_true] at h1
    cases u with
    | own _ => cases h1.1
    | od _ => cases h1.1
    | _ => cases v with
      | own _ => cases h1.2
      | od _ => cases h1.2
      | _ => exact h2
  | _ :: _ :: _ :: _, h => exact h.elim)
end
end Fl

set_option Elab.async false
set_option linter.all false
set_option maxRecDepth 100000
set_option maxHeartbeats 1000000
namespace Fl
open PySem PySem.Spec PyProof.Rows L2 Dl R
/-! ### operators -/
def lim {α : Type} (n : Nat) (x : R α) : R α := chk (decide (n ≤ 1000000)) x
def addC (x y : Dv) : R Dv := match x, y with
  | .d (.int i), .d (.int j) => ok (.d (.int (i + j)))
  | .d (.str a), .d (.str b) => lim (a.length + b.length) (ok (.d (.str (a ++ b))))
  | .d (.tuple a), .d (.tuple b) => lim (a.length + b.length) (ok (.d (.tuple (a ++ b))))
  | .d (.list a), .d (.list b) => lim (a.length + b.length) (ok (.d (.list (a ++ b))))
  | .own a, .d (.list b) => lim (a.length + b.length) (ok (.d (.list (a ++ b))))
  | .d (.list a), .own b => lim (a.length + b.length) (ok (.d (.list (a ++ b))))
  | .own a, .own b => lim (a.length + b.length) (ok (.d (.list (a ++ b))))
  | _, _ => no
def subC (x y : Dv) : R Dv := match x, y with
  | .d (.int i), .d (.int j) => ok (.d (.int (i - j)))
  | _, _ => no
def mulC (x y : Dv) : R Dv := match x, y with
  | .d (.int i), .d (.int j) => chk (mulOk i j) (ok (.d (.int (i * j))))
  | .d (.list a), .d (.int k) => chk (decide (-(2 ^ 62) ≤ k ∧ k < 2 ^ 62 ∧ a.length * k.toNat ≤ 1000000)) (ok (.d (.list (repD a k))))
  | .d (.tuple a), .d (.int k) => chk (decide (a.length ≠ 0 ∧ 2 ≤ k ∧ k ≤ 1000 ∧ a.length ≤ 1000)) (ok (.d (.tuple (repD a k))))
  | _, _ => no
def modC (x y : Dv) : R Dv := match x, y with
  | .d (.int i), .d (.int j) => chk (decide (0 < j)) (ok (.d (.int (i % j))))
  | _, _ => no
def fdivC (x y : Dv) : R Dv := match x, y with
  | .d (.int i), .d (.int j) => chk (decide (0 < j ∧ j < 1073741824)) (ok (.d (.int (i / j))))
  | _, _ => no
def twoR (f : PyData → PyData → R Dv) (x y : Dv) : R Dv := match asD x, asD y with
  | some a, some b => f a b
  | _, _ => no
def eqC : Dv → Dv → R Dv := twoR fun a b => chk (decide (a.depth ≤ 64) && decide (b.depth ≤ 64)) (ok (.d (.bool (PyData.eqv a b))))
def neC : Dv → Dv → R Dv := twoR fun a b => chk (decide (a.depth ≤ 64) && decide (b.depth ≤ 64)) (ok (.d (.bool (!PyData.eqv a b))))
def cmpC (f : Int → Int → Bool) (x y : Dv) : R Dv := match x, y with
  | .d (.int i), .d (.int j) => ok (.d (.bool (f i j)))
  | _, _ => no
abbrev ltC := cmpC fun i j => decide (i < j)
abbrev leC := cmpC fun i j => decide (i ≤ j)
abbrev gtC := cmpC fun i j => decide (j < i)
abbrev geC := cmpC fun i j => decide (j ≤ i)
def inC (f : Bool → Bool) (x y : Dv) : R Dv := match asD x, y with
  | some a, .d (.tuple ds) => chk (decide (a.depth ≤ 64) && decide ((PyData.tuple ds).depth ≤ 64)) (ok (.d (.bool (f (memD ds a)))))
  | some a, .d (.list ds) => chk (decide (a.depth ≤ 64) && decide ((PyData.list ds).depth ≤ 64)) (ok (.d (.bool (f (memD ds a)))))
  | some a, .own ds => chk (decide (a.depth ≤ 64) && decide ((PyData.list ds).depth ≤ 64)) (ok (.d (.bool (f (memD ds a)))))
  | some (.str s), .d (.str z) => match oneS s with
    | some c => ok (.d (.bool (f (decide (c ∈ z.cps.toList)))))
    | none => no
  | _, _ => no
abbrev isinC := inC fun b => b
abbrev notInC := inC not
def isQC (f : Bool → Bool) (x y : Dv) : R Dv := match y with
  | .d .none => ok (.d (.bool (f (isNonD x))))
  | .d (.bool b) => match x with
    | .d (.bool a) => ok (.d (.bool (f (decide (a = b)))))
    | _ => no
  | _ => no
abbrev isC := isQC fun b => b
abbrev isNotC := isQC not
def negC (x : Dv) : R Dv := match x with
  | .d (.int i) => ok (.d (.int (-i)))
  | _ => no
def atR (xs : List PyData) (i : Int) : R Dv := match atI xs i with
  | some x => ok (.d x)
  | none => no
def ixC (x y : Dv) : R Dv := match y with
  | .d (.int i) => match x with
    | .d (.list xs) => atR xs i
    | .own xs => atR xs i
    | .d (.tuple xs) => atR xs i
    | .d (.str z) => lim z.length (atR (signs z) i)
    | _ => no
  | _ => no
section
variable {er : Str → Prop}
theorem lim_wp {α : Type} {n : Nat} {x : R α} {q : α → Prop} (h : wp (lim n x) q er) : n ≤ 1000000 ∧ wp x q er := by
  obtain ⟨h1, h2⟩ := chk_wp h
  exact ⟨of_decide_eq_true h1, h2⟩
theorem addC_ok (er : Str → Prop) (x y : Dv) (q : Dv → Prop) (h : wp (addC x y) q er) : addD x y q := by
  unfold addC at h
  split at h <;> first | exact h.elim | exact h | exact lim_wp h
theorem subC_ok (er : Str → Prop) (x y : Dv) (q : Dv → Prop) (h : wp (subC x y) q er) : subD x y q := by
  unfold subC at h
  split at h <;> first | exact h.elim | exact h
theorem mulC_ok (er : Str → Prop) (x y : Dv) (q : Dv → Prop) (h : wp (mulC x y) q er) : mulD x y q := by
  unfold mulC at h
  split at h
  · exact chk_wp h
  · obtain ⟨h1, h2⟩ := chk_wp h
    exact ⟨of_decide_eq_true h1, h2⟩
  · obtain ⟨h1, h2⟩ := chk_wp h
    have h1 := of_decide_eq_true h1
    exact ⟨⟨fun e => h1.1 (by rw [e]; rfl), h1.2⟩, h2⟩
  · exact h.elim
theorem modC_ok (er : Str → Prop) (x y : Dv) (q : Dv → Prop) (h : wp (modC x y) q er) : modD x y q := by
  unfold modC at h
  split at h
  · obtain ⟨h1, h2⟩ := chk_wp h
    exact ⟨of_decide_eq_true h1, h2⟩
  · exact h.elim
theorem fdivC_ok (er : Str → Prop) (x y : Dv) (q : Dv → Prop) (h : wp (fdivC x y) q er) : fdivD x y q := by
  unfold fdivC at h
  split at h
  · obtain ⟨h1, h2⟩ := chk_wp h
    exact ⟨of_decide_eq_true h1, h2⟩
  · exact h.elim
theorem and_dec {a b : Nat} (h : (decide (a ≤ 64) && decide (b ≤ 64)) = true) : a ≤ 64 ∧ b ≤ 64 := by
  rw [Bool.and_eq_true] at h
  exact ⟨of_decide_eq_true h.1, of_decide_eq_true h.2⟩
theorem twoR_wp {f : PyData → PyData → R Dv} {x y : Dv} {q : Dv → Prop} {g : PyData → PyData → Prop} (h : wp (twoR f x y) q er) (k : ∀ a b, wp (f a b) q er → g a b) : onTwo x y g := by
  unfold twoR at h
  unfold onTwo
  split at h
  · rename_i a b e1 e2
    try rw [e1, e2]
    exact k a b h
  · exact h.elim
theorem eqC_ok (er : Str → Prop) (x y : Dv) (q : Dv → Prop) (h : wp (eqC x y) q er) : eqD x y q := twoR_wp h fun a b h => by
  obtain ⟨h1, h2⟩ := chk_wp h
  exact ⟨and_dec h1, h2⟩
theorem neC_ok (er : Str → Prop) (x y : Dv) (q : Dv → Prop) (h : wp (neC x y) q er) : neD x y q := twoR_wp h fun a b h => by
  obtain ⟨h1, h2⟩ := chk_wp h
  exact ⟨and_dec h1, h2⟩
theorem cmpC_ok {f : Int → Int → Bool} (er : Str → Prop) (x y : Dv) (q : Dv → Prop) (h : wp (cmpC f x y) q er) : cmpD f x y q := by
  unfold cmpC at h
  split at h
  · exact h
  · exact h.elim
theorem inC_ok {f : Bool → Bool} (er : Str → Prop) (x y : Dv) (q : Dv → Prop) (h : wp (inC f x y) q er) : inQ f x y q := by
  unfold inC at h
  unfold inQ
  split at h
  · rename_i e
    try rw [e]
    obtain ⟨h1, h2⟩ := chk_wp h
    exact ⟨and_dec h1, h2⟩
  · rename_i e
    try rw [e]
    obtain ⟨h1, h2⟩ := chk_wp h
    exact ⟨and_dec h1, h2⟩
  · rename_i e
    try rw [e]
    obtain ⟨h1, h2⟩ := chk_wp h
    exact ⟨and_dec h1, h2⟩
  · rename_i e
    try rw [e]
    split at h
    · rename_i c ec
      try simp only [ec]
      exact h
    · exact h.elim
  · exact h.elim
theorem isC_ok {f : Bool → Bool} (er : Str → Prop) (x y : Dv) (q : Dv → Prop) (h : wp (isQC f x y) q er) : isQ f x y q := by
  unfold isQC at h
  split at h
  · exact h
  · split at h
    · exact h
    · exact h.elim
  · exact h.elim
theorem negC_ok (er : Str → Prop) (x : Dv) (q : Dv → Prop) (h : wp (negC x) q er) : negD x q := by
  unfold negC at h
  split at h
  · exact h
  · exact h.elim
theorem atR_wp {xs : List PyData} {i : Int} {q : Dv → Prop} (h : wp (atR xs i) q er) : onAt xs i fun z => q (.d z) := by
  unfold atR at h
  split at h
  · rename_i x e
    exact onAt_of e h
  · exact h.elim
theorem ixC_ok (er : Str → Prop) (x y : Dv) (q : Dv → Prop) (h : wp (ixC x y) q er) : ixD x y q := by
  unfold ixC at h
  split at h
  · split at h
    · exact atR_wp h
    · exact atR_wp h
    · exact atR_wp h
    · obtain ⟨h1, h2⟩ := lim_wp h
      exact ⟨h1, atR_wp h2⟩
    · exact h.elim
  · exact h.elim
end
/-! ### slices, chains, turned round -/
abbrev CO := Rho → R (Option Int)
def cNoPart (_ : Rho) : R (Option Int) := ok none
def intR : Dv → R Int
  | .d (.int i) => ok i
  | _ => no
def cPart (a : CE) (ρ : Rho) : R (Option Int) := (a ρ).bind fun x => (intR x).bind fun i => ok (some i)
def sliceC (x : Dv) (lo hi : Option Int) : R Dv := match x with
  | .d (.list xs) => ok (.d (.list (cutD xs lo hi)))
  | .own xs => ok (.d (.list (cutD xs lo hi)))
  | .d (.tuple xs) => ok (.d (.tuple (cutD xs lo hi)))
  | .d (.str z) => lim z.length (chk (PyData.strOk (Txt.slice z lo hi)) (ok (.d (.str (Txt.slice z lo hi)))))
  | _ => no
def cSl (a : CE) (l u : CO) (ρ : Rho) : R Dv := (a ρ).bind fun x => (l ρ).bind fun lo => (u ρ).bind fun hi => sliceC x lo hi
def cChain (f g : Dv → Dv → R Dv) (a b d : CE) (ρ : Rho) : R Dv := (a ρ).bind fun x => (b ρ).bind fun y => (f x y).bind fun z => (boolR z).bind fun v => iff v ((d ρ).bind fun w => g y w) (ok (.d (.bool false)))
def revC (x : Dv) : R Dv := match x with
  | .d (.tuple l) => lim l.length (ok (.d (.tuple l.reverse)))
  | .d (.list l) => ok (.d (.list l.reverse))
  | .own l => ok (.d (.list l.reverse))
  | _ => no
def cRev (a : CE) (ρ : Rho) : R Dv := (a ρ).bind revC
section
variable {X : Cx} {C : DC} {er : Str → Prop}
theorem mO {A A' : DO} (h : ∀ ρ q, A' ρ q → A ρ q) (σ : L2.St) (H : Hp) (Q : Option Int → Hp → Prop) (x : tPO C A' σ H Q) : tPO C A σ H Q := by
  obtain ⟨hid, ρ, q, hp, sr, a, k⟩ := x
  exact ⟨hid, ρ, q, hp, sr, h ρ q a, k⟩
theorem fo_none : PO X none (tPO C (up er cNoPart)) := do_none.imp (mO fun ρ q h => h)
theorem fo_some {e : Expr} {A : CE} (h : PE X e (tE C (up er A))) : PO X (some e) (tPO C (up er (cPart A))) := (do_some h).imp (mO fun ρ q h => by
  unfold up cPart at h
  rw [wp_bind] at h
  refine wp_mono (fun x h => ?_) h
  rw [wp_bind] at h
  unfold intR at h
  split at h
  · exact h
  · exact h.elim)
theorem fe_slice {e : Expr} {lo hi : Option Expr} {p2 pos : Pos} {A : CE} {L U : CO} {k : Nat} (l : Lv0 X C k) (he : PE X e (tE C (up er A))) (hl : PO X lo (tPO C (up er L))) (hu : PO X hi (tPO C (up er U))) : PE X (.Subscript e (.Slice lo hi none p2) pos) (tE C (up er (cSl A L U))) := (de_slice l he hl hu).imp (mE fun ρ q h => by
  unfold up cSl at h
  rw [wp_bind] at h
  refine wp_mono (fun x h => ?_) h
  rw [wp_bind] at h
  refine wp_mono (fun lo h => ?_) h
  rw [wp_bind] at h
  refine wp_mono (fun hi h => ?_) h
  unfold sliceC at h
  split at h
  · exact h
  · exact h
  · exact h
  · obtain ⟨h1, h2⟩ := lim_wp h
    obtain ⟨h3, h4⟩ := chk_wp h2
    exact ⟨⟨h1, h3⟩, h4⟩
  · exact h.elim)
theorem chain_mono {f g : Dv → Dv → R Dv} {f' g' : Dv → Dv → (Dv → Prop) → Prop} {A B D : CE} (hf : ∀ er x y q, wp (f x y) q er → f' x y q) (hg : ∀ er x y q, wp (g x y) q er → g' x y q) (ρ : Rho) (q : Dv → Prop) (h : up er (cChain f g A B D) ρ q) : dChain f' g' (up er A) (up er B) (up er D) ρ q := by
  unfold up cChain at h
  rw [wp_bind] at h
  refine wp_mono (fun x h => ?_) h
  rw [wp_bind] at h
  refine wp_mono (fun y h => ?_) h
  rw [wp_bind] at h
  refine hf er _ _ _ (wp_mono (fun z h => ?_) h)
  rw [wp_bind] at h
  refine boolR_wp (wp_mono (fun b h => ?_) h)
  refine iff_br h (fun h => ?_) id
  rw [wp_bind] at h
  exact wp_mono (fun w h => hg er _ _ _ h) h
theorem fe_chain {a b c : Expr} {pos : Pos} {op op' : CmpOp} {f g : Dv → Dv → R Dv} {f' g' : Dv → Dv → (Dv → Prop) → Prop} {A B D : CE} (ho : OpR X (compareOp op) (rD C f')) (hf : ∀ er x y q, wp (f x y) q er → f' x y q) (ho' : OpR X (compareOp op') (rD C g')) (hg : ∀ er x y q, wp (g x y) q er → g' x y q) (ha : PE X a (tE C (up er A))) (hb : PE X b (tE C (up er B))) (hc : PE X c (tE C (up er D))) (hm : lastMarks [op, op'] [b, c] = false := by with_unfolding_all rfl) : PE X (.Compare a [op, op'] [b, c] pos) (tE C (up er (cChain f g A B D))) :=
  (de_chain ho ho' ha hb hc hm).imp (mE (chain_mono hf hg))
theorem ft_chain {a b c : Expr} {pos : Pos} {op op' : CmpOp} {f g : Dv → Dv → R Dv} {f' g' : Dv → Dv → (Dv → Prop) → Prop} {A B D : CE} (ho : OpR X (compareOp op) (rD C f')) (hf : ∀ er x y q, wp (f x y) q er → f' x y q) (ho' : OpR X (compareOp op') (rD C g')) (hg : ∀ er x y q, wp (g x y) q er → g' x y q) (ha : PE X a (tE C (up er A))) (hb : PE X b (tE C (up er B))) (hc : PE X c (tE C (up er D))) (hm : lastMarks [op, op'] [b, c] = false := by with_unfolding_all rfl) : PT X (.Compare a [op, op'] [b, c] pos) (tT C (up er (cB (cChain f g A B D)))) :=
  (dt_chain ho ho' ha hb hc hm).imp (mT fun ρ q h => by
    have h := cB_mono ρ q h
    unfold dB at h ⊢
    exact chain_mono hf hg ρ _ h)
theorem fe_rev {e : Expr} {A : CE} {k1 k : Nat} {p1 p2 p3 pos : Pos} (l : Lv0 X C k1) (he : PE X e (tE C (up er A))) : PE X (.Subscript e (.Slice none none (some (.UnaryOp .USub (.Constant (.int 1) k p1) p2)) p3) pos) (tE C (up er (cRev A))) := (de_rev l he).imp (mE fun ρ q h => by
  unfold up cRev at h
  rw [wp_bind] at h
  refine wp_mono (fun x h => ?_) h
  unfold revC at h
  split at h
  · exact lim_wp h
  · exact h
  · exact h
  · exact h.elim)
/-! ### targets, loops -/
variable {ow : List Nat}
theorem fg_name {pos : Pos} {i : Nat} {x : Str} (hN : X.N.Nodup) (hi : X.N[i]? = some x) (hl : L2.Loc X.env.scope x) (hf : X.fn x = true ∨ X.env.scope.names.lookup x = some .local := by first | exact Or.inl rfl | exact Or.inr rfl) (ho : i ∈ ow := by decide) : PG X (.Name x pos) (tG C ow (upG er (tgN i))) :=
  (dg_name hN hi hl hf ho).imp (mG fun x ρ q h => on_own h id)
theorem fgs_nil : PGs X [] (tGs C ow (upGs er tgsNil)) := dgs_nil.imp (mGs fun x ρ q h => by
  unfold upGs tgsNil at h
  split at h
  · exact h
  · exact h.elim)
theorem fgs_cons {e : Expr} {es : List Expr} {G : CG} {Gs : CGs} (h : PG X e (tG C ow (upG er G))) (hs : PGs X es (tGs C ow (upGs er Gs))) (he : (assignEach (e :: es) X.env).map (·.2) = assign e X.env :: (assignEach es X.env).map (·.2) := by rfl) : PGs X (e :: es) (tGs C ow (upGs er (tgsCons G Gs))) := (dgs_cons h hs he).imp (mGs fun x ρ q h => by
  unfold upGs tgsCons at h
  split at h
  · rw [wp_bind] at h
    exact h
  · exact h.elim)
theorem fg_tup {pos : Pos} {es : List Expr} {kt n : Nat} {Gs : CGs} {k : Nat} (l : Lv0 X C k) (h : PGs X es (tGs C ow (upGs er Gs))) (hn : (assignEach es X.env).length = n := by rfl) (hf : (assignEach es X.env).findIdx? (·.1) = none := by rfl) : PG X (.Tuple es kt pos) (tG C ow (upG er (tgT n Gs))) := (dg_tup l h hn hf).imp (mG fun x ρ q h => by
  unfold upG tgT at h
  split at h
  · obtain ⟨h1, h2⟩ := chk_wp h
    exact ⟨eq_of_beq h1, h2⟩
  · exact h.elim)
theorem fs_asg {pos : Pos} {tg e : Expr} {A : CE} {G : CG} (he : PE X e (tE C (up er A))) (hg : PG X tg (tG C ow (upG er G))) (h1 : swapsWithSole [tg] e pos.line X.env = pure false := by rfl) (h2 : swappedStores [tg] e X.env = pure none := by rfl) (h3 : (assignEach [tg] X.env).map (·.2) = [assign tg X.env] := by rfl) :
    PS X (.Assign [tg] e pos) (tS C (upS er (cAsg A G))) := (ds_asg he hg h1 h2 h3).imp (mS fun d ρ h => by
  unfold upS cAsg at h
  rw [wp_bind] at h
  refine wp_mono (fun x h => ?_) h
  rw [wp_bind] at h
  exact h)
theorem fi_seq {tg e : Expr} {A : CE} {k : Nat} (l : Lv0 X C k) (h : PE X e (tE C (up er A))) : PI X tg e (tI C (up er (cIt A))) := (di_seq l h).imp (mI fun ρ q h => by
  unfold up cIt at h
  rw [wp_bind] at h
  refine wp_mono (fun x h => ?_) h
  unfold seqR at h
  split at h
  · exact h
  · exact h
  · exact h
  · exact h.elim)
/-- so that nothing looks into it -/
@[irreducible] def smallC (i : Int) : Bool := small i
theorem smallC_eq (i : Int) : smallC i = small i := by unfold smallC; rfl
theorem smallC_ok {i : Int} (h1 : -1000000000 ≤ i) (h2 : i ≤ 1000000000) : smallC i = true := by
  rw [smallC_eq]
  unfold small
  exact decide_eq_true ⟨by omega, by omega⟩
def cRng1 (a : CE) (ρ : Rho) : R (List PyData) := (a ρ).bind fun x => (intR x).bind fun j => chk (smallC j) (ok (intsD 0 j.toNat))
def cRng2 (a b : CE) (ρ : Rho) : R (List PyData) := (a ρ).bind fun x => (b ρ).bind fun y => (intR x).bind fun i => (intR y).bind fun j => chk (smallC i && smallC j) (ok (intsD i (j - i).toNat))
theorem fi_rng1 {tg a : Expr} {A : CE} {p pos : Pos} (hm : X.mg "range" = none) (h : PE X a (tE C (up er A))) (hg : Gl X "range" := by rfl) (hs : starEach [a] X.env = [(false, eval a X.env)] := by rfl) : PI X tg (.Call (.Name "range" p) [a] [] pos) (tI C (up er (cRng1 A))) := (di_rng1 hm h hg hs).imp (mI fun ρ q h => by
  unfold up cRng1 at h
  rw [wp_bind] at h
  refine wp_mono (fun x h => ?_) h
  rw [wp_bind] at h
  unfold intR at h
  split at h
  · obtain ⟨h1, h2⟩ := chk_wp h
    rw [smallC_eq] at h1
    exact ⟨h1, h2⟩
  · exact h.elim)
theorem fi_rng2 {tg a b : Expr} {A B : CE} {p pos : Pos} (hm : X.mg "range" = none) (h : PE X a (tE C (up er A))) (h' : PE X b (tE C (up er B))) (hg : Gl X "range" := by rfl) (hs : starEach [a, b] X.env = [(false, eval a X.env), (false, eval b X.env)] := by rfl) (hs2 : starEach [b] X.env = [(false, eval b X.env)] := by rfl) : PI X tg (.Call (.Name "range" p) [a, b] [] pos) (tI C (up er (cRng2 A B))) := (di_rng2 hm h h' hg hs hs2).imp (mI fun ρ q h => by
  unfold up cRng2 at h
  rw [wp_bind] at h
  refine wp_mono (fun x h => ?_) h
  rw [wp_bind] at h
  refine wp_mono (fun y h => ?_) h
  rw [wp_bind] at h
  unfold intR at h
  split at h
  · change wp (R.bind _ _) q er at h
    rw [wp_bind] at h
    split at h
    · obtain ⟨h1, h2⟩ := chk_wp h
      rw [Bool.and_eq_true, smallC_eq, smallC_eq] at h1
      exact ⟨h1.1, h1.2, h2⟩
    · exact h.elim
  · exact h.elim)
theorem forR_go {g : CG} {s : CS} {d : DEnds} : ∀ {ds : List PyData} {ρ : Rho}, wp (forR g s ds ρ) (outK d) er → dForGo (upG er g) (upS er s) d ds ρ
  | [], ρ, h => h
  | x :: r, ρ, h => by
    unfold forR at h
    rw [wp_bind] at h
    unfold dForGo
    refine wp_mono (fun ρ1 h => ?_) h
    rw [wp_bind] at h
    refine wp_mono (fun o h => ?_) h
    cases o with
    | nx ρ' => exact forR_go h
    | ct ρ' => exact forR_go h
    | bk ρ' => exact h
    | rt v => exact h
theorem fs_for {tg iter : Expr} {body : List Stmt} {I : CI} {G : CG} {S : CS} {pos : Pos} {E : XK} {k : Nat} (l : Lv X C E k) (hi : PI X tg iter (tI C (up er I))) (hg : PG X tg (tG C ow (upG er G))) (hb : PSs X body (tS C (upS er S))) (hs : ∀ x, foldedSetIterable iter X.env x = pure x := by intro _; rfl) :
    PS X (.For tg iter body [] pos) (tS C (upS er (cFor I G S))) := (ds_for l hi hg hb hs).imp (mS fun d ρ h => by
  unfold upS cFor at h
  rw [wp_bind] at h
  exact wp_mono (fun ds h => forR_go h) h)
theorem fs_while (n : Nat) {c : Expr} {body : List Stmt} {T : CT} {S : CS} {pos : Pos} {E : XK} {k : Nat} (l : Lv X C E k) (hc : PT X c (tT C (up er T))) (hb : PSs X body (tS C (upS er S))) : PS X (.While c body [] pos) (tS C (upS er (cWhile n T S))) := (ds_while l hc hb).imp (mS fun d ρ h => by
  refine ⟨fun m ρ => wp (whileR T S m ρ) (outK d) er, ⟨n, h⟩, fun m ρ h => ?_⟩
  cases m with
  | zero => exact h.elim
  | succ m =>
    unfold whileR at h
    rw [wp_bind] at h
    refine wp_mono (fun b h => ?_) h
    refine iff_br h (fun h => ?_) id
    rw [wp_bind] at h
    refine wp_mono (fun o h => ?_) h
    cases o with
    | nx ρ' => exact ⟨m, Nat.lt_succ_self m, h⟩
    | ct ρ' => exact ⟨m, Nat.lt_succ_self m, h⟩
    | bk ρ' => exact h
    | rt v => exact h)
theorem lcR_go {g : CG} {t : CT} {a : CE} {ρ : Rho} {q : List PyData → Prop} : ∀ {ds acc : List PyData}, acc.length + ds.length ≤ 1000000 → wp (lcR g t a ρ ds) (fun l => q (acc ++ l)) er → dLcGo (upG er g) (up er t) (up er a) ρ ds acc q
  | [], acc, _, h => by
    have h : q (acc ++ []) := h
    rw [List.append_nil] at h
    exact h
  | x :: r, acc, hl, h => by
    rw [List.length_cons] at hl
    unfold lcR at h
    rw [wp_bind] at h
    unfold dLcGo
    refine wp_mono (fun ρ1 h => ?_) h
    rw [wp_bind] at h
    refine wp_mono (fun b h => ?_) h
    refine iff_br h (fun h => ?_) (fun h => lcR_go (by omega) h)
    rw [wp_bind] at h
    refine wp_mono (fun y h => ?_) h
    rw [wp_bind] at h
    refine dR_wp (wp_mono (fun y h => ?_) h)
    rw [wp_bind] at h
    refine ⟨by omega, lcR_go (by rw [List.length_append, List.length_singleton]; omega) (wp_mono (fun l h => ?_) h)⟩
    have h : q (acc ++ y :: l) := h
    rw [List.append_assoc]
    exact h
theorem cLc_mono {i : CI} {g : CG} {t : CT} {a : CE} {vs : List Nat} (ρ : Rho) (q : Dv → Prop) (h : up er (cLc i g t a vs) ρ q) : dLc (up er i) (upG er g) (up er t) (up er a) vs ρ q := by
  unfold up cLc at h
  rw [wp_bind] at h
  refine wp_mono (fun ds h => ?_) h
  obtain ⟨h1, h⟩ := chk_wp h
  rw [wp_bind] at h
  exact lcR_go (by have := of_decide_eq_true h1; rw [List.length_nil]; omega) (wp_mono (fun l h => by rw [List.nil_append]; exact h) h)
theorem fts_nil : PTs X [] (tT C (up er cYes)) := dts_nil
theorem fts_one {c : Expr} {T : CT} (h : PT X c (tT C (up er T))) : PTs X [c] (tT C (up er T)) := dts_one h
theorem fe_lc {elt tg iter : Expr} {ifs : List Expr} {scope : Scope} {own : List (Str × Nat)} {pos : Pos} {I : CI} {G : CG} {T : CT} {A : CE} {k : Nat} (l : Lv0 X C k) (hi : PI X tg iter (tI C (up er I))) (ok : BlkOk X.N X.env.scope scope own)
    (hg : ∀ (s : Shared) (H : Hp) (c : Addr) (cl : List (Str × Addr)) (fp : List Addr), Lv0 (X.blk s H scope (compEnvC scope cl c X.env) fp) C k → PG (X.blk s H scope (compEnvC scope cl c X.env) fp) tg (tG C (own.map (·.2)) (upG er G)))
    (ht : ∀ (s : Shared) (H : Hp) (c : Addr) (cl : List (Str × Addr)) (fp : List Addr), Lv0 (X.blk s H scope (compEnvC scope cl c X.env) fp) C k → PTs (X.blk s H scope (compEnvC scope cl c X.env) fp) ifs (tT C (up er T)))
    (he : ∀ (s : Shared) (H : Hp) (c : Addr) (cl : List (Str × Addr)) (fp : List Addr), Lv0 (X.blk s H scope (compEnvC scope cl c X.env) fp) C k → PE (X.blk s H scope (compEnvC scope cl c X.env) fp) elt (tE C (up er A))) (hs : ∀ x, foldedSetIterable iter X.env x = pure x := by intro _; rfl) :
    PE X (.ListComp elt [⟨tg, iter, ifs, 0⟩] scope pos) (tE C (up er (cLc I G T A (own.map (·.2))))) := (de_lc l hi ok hg ht he hs).imp (mE cLc_mono)
theorem fs_setLc {i : Nat} {y : Str} {py : Pos} {elt tg iter : Expr} {ifs : List Expr} {scope : Scope} {own : List (Str × Nat)} {pos spos : Pos} {I : CI} {G : CG} {T : CT} {A : CE} {k : Nat} (l : Lv0 X C k) (hy : X.N[i]? = some y) (hyl : X.env.scope.names.lookup y = some .local)
    (hsw : swapsWith (.ListComp elt [⟨tg, iter, ifs, 0⟩] scope pos) (some (.Name y py)) spos.line X.env = pure true) (hi : PI X tg iter (tI C (up er I))) (ok : BlkOk X.N X.env.scope scope own)
    (hg : ∀ (s : Shared) (H : Hp) (c : Addr) (cl : List (Str × Addr)) (fp : List Addr), Lv0 (X.blk s H scope (compEnvC scope cl c X.env) fp) C k → PG (X.blk s H scope (compEnvC scope cl c X.env) fp) tg (tG C (own.map (·.2)) (upG er G)))
    (ht : ∀ (s : Shared) (H : Hp) (c : Addr) (cl : List (Str × Addr)) (fp : List Addr), Lv0 (X.blk s H scope (compEnvC scope cl c X.env) fp) C k → PTs (X.blk s H scope (compEnvC scope cl c X.env) fp) ifs (tT C (up er T)))
    (he : ∀ (s : Shared) (H : Hp) (c : Addr) (cl : List (Str × Addr)) (fp : List Addr), Lv0 (X.blk s H scope (compEnvC scope cl c X.env) fp) C k → PE (X.blk s H scope (compEnvC scope cl c X.env) fp) elt (tE C (up er A))) (hs : ∀ x, foldedSetIterable iter X.env x = pure x := by intro _; rfl) :
    PS X (.Assign [.Name y py] (.ListComp elt [⟨tg, iter, ifs, 0⟩] scope pos) spos) (tS C (upS er (cSet i (cLc I G T A (own.map (·.2)))))) := (ds_setLc l hy hyl hsw hi ok hg ht he hs).imp (mS fun d ρ h => by
  unfold upS cSet at h
  rw [wp_bind] at h
  exact cLc_mono ρ _ (wp_mono (fun x h => on_own h id) h))
/-! ### calls -/
theorem all_notOwn : ∀ {xs : List Dv} {p : Prop}, xs.all notOwnB = true → p → noOwn xs p
  | [], _, _, h => h
  | x :: r, p, e, h => by
    rw [List.all_cons, Bool.and_eq_true] at e
    have k := all_notOwn (p := p) e.2 h
    cases x with
    | own _ => cases e.1
    | od _ => cases e.1
    | _ => exact k
theorem fe_call {x : Str} {ps : List Str} {m : List Dv → R Dv} {g : DF} {n k : Nat} {E : XK} {e : Expr} {es : List Expr} {A : CA} {p pos : Pos} {j : Nat} (h : DHas X.prog X.w X.K X.mg X.base C.T j x ps g) (hm : ∀ xs q, wp (m xs) q er → g xs q er) (l : Lv0 X C k) (hx : Passes (L2N.CX X.prog X.w) X E) (eo : EOk C er E) (ha : PA X (e :: es) (tAs C n (up er A))) (hjk : j ≤ k := by decide) (hg : Gl X x := by rfl) (hdb : (x == ("__debug__" : Str)) = false := by decide)
    (he : starEach (e :: es) X.env = (false, eval e X.env) :: starEach es X.env := by rfl) (hpl : (backTo pos (starEach es X.env)).any (·.1) = false := by rfl) : PE X (.Call (.Name x p) (e :: es) [] pos) (tE C (up er (cCall m A))) := (de_call h l hx eo ha hjk hg hdb he hpl).imp (mE fun ρ q h => by
  unfold up cCall at h
  rw [wp_bind] at h
  refine wp_mono (fun xs h => ?_) h
  obtain ⟨h1, h2⟩ := chk_wp h
  exact all_notOwn h1 (hm xs q h2))
theorem fe_call0 {x : Str} {m : List Dv → R Dv} {g : DF} {k : Nat} {E : XK} {p pos : Pos} {j : Nat} (h : DHas X.prog X.w X.K X.mg X.base C.T j x [] g) (hm : ∀ xs q, wp (m xs) q er → g xs q er) (l : Lv0 X C k) (hx : Passes (L2N.CX X.prog X.w) X E) (eo : EOk C er E) (hjk : j ≤ k := by decide) (hg : Gl X x := by rfl) (hdb : (x == ("__debug__" : Str)) = false := by decide) :
    PE X (.Call (.Name x p) [] [] pos) (tE C (up er (cCall0 m))) := (de_call0 h l hx eo hjk hg hdb).imp (mE fun ρ q h => hm [] q h)
/-- a call of what raises nothing where nothing may be raised -/
theorem fun_mono {f : List Dv → R Dv} {g : List Dv → (Dv → Prop) → Prop} {A : CA} (hf : ∀ er xs q, wp (f xs) q er → g xs q) (ρ : Rho) (q : Dv → Prop) (h : up er (cFun f A) ρ q) : dFun g (up er A) ρ q := by
  unfold up cFun at h
  rw [wp_bind] at h
  exact wp_mono (fun x h => hf er x q h) h
theorem fe_callB {x : Str} {id : String} {e : Expr} {es : List Expr} {n : Nat} {p pos : Pos} {f : List Dv → R Dv} {g : List Dv → (Dv → Prop) → Prop} {A : CA} (hc : CallR X (.builtin id) (rL C g)) (hf : ∀ er xs q, wp (f xs) q er → g xs q) (hv : bootBuiltins x = some (.builtin id)) (hm : X.mg x = none) (ha : PA X (e :: es) (tAs C n (up er A))) (hg : Gl X x := by rfl) (hn : x ≠ "__name__" := by decide) (hdb : (x == ("__debug__" : Str)) = false := by decide)
    (he : starEach (e :: es) X.env = (false, eval e X.env) :: starEach es X.env := by rfl) (hpl : (backTo pos (starEach es X.env)).any (·.1) = false := by rfl) : PE X (.Call (.Name x p) (e :: es) [] pos) (tE C (up er (cFun f A))) := (de_callB hc hv hm ha hg hn hdb he hpl).imp (mE (fun_mono hf))
theorem fe_callT {x : Str} {id : String} {e : Expr} {es : List Expr} {n : Nat} {p pos : Pos} {f : List Dv → R Dv} {g : List Dv → (Dv → Prop) → Prop} {A : CA} (hc : CallR X (.type id) (rL C g)) (hf : ∀ er xs q, wp (f xs) q er → g xs q) (hv : bootBuiltins x = some (.type id)) (hm : X.mg x = none) (ha : PA X (e :: es) (tAs C n (up er A))) (hg : Gl X x := by rfl) (hn : x ≠ "__name__" := by decide) (hdb : (x == ("__debug__" : Str)) = false := by decide)
    (he : starEach (e :: es) X.env = (false, eval e X.env) :: starEach es X.env := by rfl) (hpl : (backTo pos (starEach es X.env)).any (·.1) = false := by rfl) : PE X (.Call (.Name x p) (e :: es) [] pos) (tE C (up er (cFun f A))) := (de_callT hc hv hm ha hg hn hdb he hpl).imp (mE (fun_mono hf))
def lenC (xs : List Dv) : R Dv := match xs with
  | [.d (.str z)] => lim z.length (ok (.d (.int z.length)))
  | [.d (.list l)] => ok (.d (.int l.length))
  | [.d (.tuple l)] => ok (.d (.int l.length))
  | [.own l] => ok (.d (.int l.length))
  | _ => no
def isiC (xs : List Dv) : R Dv := match xs with
  | [x, .ty t] => match asD x with
    | some a => chk (["str", "int", "bool", "tuple", "list"].elem t) (ok (.d (.bool (isaD t a))))
    | none => no
  | _ => no
def listC (xs : List Dv) : R Dv := match xs with
  | [.d (.list l)] => ok (.d (.list l))
  | [.d (.tuple l)] => ok (.d (.list l))
  | [.own l] => ok (.d (.list l))
  | _ => no
def tupleC (xs : List Dv) : R Dv := match xs with
  | [.d (.list l)] => ok (.d (.tuple l))
  | [.d (.tuple l)] => ok (.d (.tuple l))
  | [.own l] => ok (.d (.tuple l))
  | _ => no
def absC (xs : List Dv) : R Dv := match xs with
  | [.d (.int i)] => ok (.d (.int (if i < 0 then -i else i)))
  | _ => no
theorem lenC_ok (er : Str → Prop) (xs : List Dv) (q : Dv → Prop) (h : wp (lenC xs) q er) : lenD xs q := by
  unfold lenC at h
  split at h <;> first | exact h.elim | exact h | exact lim_wp h
theorem isiC_ok (er : Str → Prop) (xs : List Dv) (q : Dv → Prop) (h : wp (isiC xs) q er) : isiD xs q := by
  unfold isiC at h
  split at h
  · rename_i x t
    show (match asD x with
      | some a => t ∈ ["str", "int", "bool", "tuple", "list"] ∧ q (.d (.bool (isaD t a)))
      | none => False)
    split at h
    · rename_i a e
      obtain ⟨h1, h2⟩ := chk_wp h
      exact ⟨List.elem_iff.mp h1, h2⟩
    · exact h.elim
  · exact h.elim
theorem listC_ok (er : Str → Prop) (xs : List Dv) (q : Dv → Prop) (h : wp (listC xs) q er) : listD xs q := by
  unfold listC at h
  split at h <;> first | exact h.elim | exact h
theorem tupleC_ok (er : Str → Prop) (xs : List Dv) (q : Dv → Prop) (h : wp (tupleC xs) q er) : tupleD xs q := by
  unfold tupleC at h
  split at h <;> first | exact h.elim | exact h
theorem absC_ok (er : Str → Prop) (xs : List Dv) (q : Dv → Prop) (h : wp (absC xs) q er) : absD xs q := by
  unfold absC at h
  split at h <;> first | exact h.elim | exact h
end
/-! ### a def by its body -/
section
variable {P : Program} {w : World} {K : PySem.W.Frag} {mg : Str → Option Value} {base : Heap} {T : Tbs}
theorem okF {x : Str} {st : Stmt} {N ps : List Str} {k : Nat} {s : CS} (F : At K mg x st) (S : FnScope N ps (defScope st))
    (hb : ∀ (kV doc pm : Value) (an : Option Addr) (cd ct : Value) (us : List Value), us.length = ps.length → bindArgs (PySem.W.fnOf x x (defArgs st) (defBody st) (defScope st) .none kV doc pm an cd ct) ⟨us, []⟩ = pure (ps.zip us))
    (hbody : ∀ (A : Around) (outer : List Env) (s0 : Shared) (H : Hp) (E : XK) (c : Option Addr) (hid : List Addr) (er : Str → Prop), Lv (cxOf (L2N.CX P w) P w K mg base N x (defScope st) (He.ga K x) (cdv K x) A outer s0 H E) ⟨K, T, c, hid, H⟩ E k → EOk ⟨K, T, c, hid, H⟩ er E →
      PSs (cxOf (L2N.CX P w) P w K mg base N x (defScope st) (He.ga K x) (cdv K x) A outer s0 H E) (defBody st) (tS ⟨K, T, c, hid, H⟩ (upS er s))) {n j : Nat} (hn : ps.length = n := by rfl) (hj : N.length - n = j := by rfl) : DHas P w K mg base T (k + 1) x ps (gR (body n j s)) := by
  refine F.okD S hb (fun xs q er h => ?_) fun A outer s0 H E c hid er l eo => ⟨_, hbody A outer s0 H E c hid er l eo, fun xs q h => ?_⟩
  · obtain ⟨h1, _⟩ := chk_wp h
    rw [hn]
    exact eq_of_beq h1
  · obtain ⟨h1, h⟩ := chk_wp h
    have h1 := eq_of_beq h1
    have h : wp (R.bind _ _) q er := h
    rw [wp_bind] at h
    have e : startR N xs = xs.map some ++ List.replicate j none := by
      unfold startR
      rw [h1, hj]
    rw [e]
    show wp (s _) (outK _) er
    refine wp_mono (fun o h => ?_) h
    cases o with
    | nx ρ => exact h
    | rt v => exact h
    | bk ρ => exact h.elim
    | ct ρ => exact h.elim
end
end Fl

set_option Elab.async false
set_option linter.all false
set_option maxRecDepth 100000
set_option maxHeartbeats 4000000
namespace Fl
open PySem PySem.Spec PyProof.Rows L2 Dl R
/-! ### all(..), any(..) of a list of bools -/
def blsD : List PyData → Option (List Bool)
  | [] => some []
  | .bool b :: r => (blsD r).map (b :: ·)
  | _ :: _ => none
theorem blsD_eq : ∀ {l : List PyData} {bs : List Bool}, blsD l = some bs → l = bs.map .bool
  | [], bs, h => by cases h; rfl
  | x :: r, bs, h => by
    cases x with
    | bool b =>
      unfold blsD at h
      cases e : blsD r with
      | none => rw [e] at h; cases h
      | some cs =>
        rw [e] at h
        cases h
        rw [blsD_eq e]
        rfl
    | _ => cases h
theorem dd_bls {K : PySem.W.Frag} {H : Hp} : ∀ {vs : List V} {bs : List Bool}, DdAll K H vs (bs.map PyData.bool) → vs = bs.map V.bl
  | [], [], _ => rfl
  | [], _ :: _, h => by cases h
  | _ :: _, [], h => by cases h
  | _ :: _, _ :: _, h => by
    cases h with
    | cons a b => cases a; rw [dd_bls b]; rfl
def foldB (f : List Bool → Bool) (xs : List Dv) : R Dv := match xs with
  | [.d (.list l)] => match blsD l with
    | some bs => ok (.d (.bool (f bs)))
    | none => no
  | _ => no
def foldQ (f : List Bool → Bool) (xs : List Dv) (q : Dv → Prop) : Prop := ∃ l bs, xs = [.d (.list l)] ∧ blsD l = some bs ∧ q (.d (.bool (f bs)))
abbrev allC := foldB fun bs => bs.all id
abbrev anyC := foldB fun bs => bs.any id
theorem foldB_ok {f : List Bool → Bool} (er : Str → Prop) (xs : List Dv) (q : Dv → Prop) (h : wp (foldB f xs) q er) : foldQ f xs q := by
  unfold foldB at h
  split at h
  · split at h
    · rename_i l _ bs e
      exact ⟨l, bs, rfl, e, h⟩
    · exact h.elim
  · exact h.elim
section
variable {X : Cx} {C : DC} {er : Str → Prop}
theorem all_ok {k : Nat} (l : Lv0 X C k) : CallR X (.builtin "all") (rL C (foldQ fun bs => bs.all id)) := by
  intro pins s σ H vs us Q I r ⟨hid, ds, q, hp, rs, ⟨l0, bs, e1, e2, h⟩, kk⟩
  subst e1
  obtain ⟨v, rfl, r1⟩ := rs.one
  obtain ⟨p, ws, rfl, h1, d1⟩ := r1.lst rfl
  rw [blsD_eq e2] at d1
  rw [dd_bls d1] at h1
  exact cr_all l.calm pins s σ H _ us Q I r ⟨p, bs, rfl, SqL.of h1, kk _ (.d (.bool _)) H .refl hp (Dd.bl _) h⟩
theorem any_ok {k : Nat} (l : Lv0 X C k) : CallR X (.builtin "any") (rL C (foldQ fun bs => bs.any id)) := by
  intro pins s σ H vs us Q I r ⟨hid, ds, q, hp, rs, ⟨l0, bs, e1, e2, h⟩, kk⟩
  subst e1
  obtain ⟨v, rfl, r1⟩ := rs.one
  obtain ⟨p, ws, rfl, h1, d1⟩ := r1.lst rfl
  rw [blsD_eq e2] at d1
  rw [dd_bls d1] at h1
  exact cr_any l.calm pins s σ H _ us Q I r ⟨p, bs, rfl, SqL.of h1, kk _ (.d (.bool _)) H .refl hp (Dd.bl _) h⟩
/-! ### enumerate -/
def pairD (a b : PyData) : PyData := .tuple [a, b]
def enumD (ds : List PyData) : List PyData := ds.mapIdx fun i d => pairD (.int (i : Nat)) d
def seqLR : Dv → R (List PyData)
  | .d (.list ds) => ok ds
  | _ => no
def cEnum (a : CE) (ρ : Rho) : R (List PyData) := (a ρ).bind fun x => (seqLR x).bind fun ds => ok (enumD ds)
theorem enumD_at {ds : List PyData} {i : Nat} {d : PyData} (h : ds[i]? = some d) : (enumD ds)[i]? = some (pairD (.int (i : Nat)) d) := by
  unfold enumD
  rw [List.getElem?_mapIdx, h]
  rfl
theorem enumD_len {ds : List PyData} : (enumD ds).length = ds.length := by
  unfold enumD
  rw [List.length_mapIdx]
theorem new_pair {hid : List Addr} {H : Hp} {x y : V} {a b : PyData} (hp : HpOk C hid H) (h1 : Dd C.K (hide hid H) x a) (h2 : Dd C.K (hide hid H) y b) {p : Addr} (np : H p = none) : Dd C.K (hide hid (upd H p (.tup [x, y]))) (.ref p) (pairD a b) :=
  new_tup hp (.cons h1 (.cons h2 .nil)) np
theorem fi_enum {e : Expr} {A : CE} {p pos tpos : Pos} {elts : List Expr} {kk k : Nat} (l : Lv0 X C k) (hm : X.mg "enumerate" = none) (h : PE X e (tE C (up er A))) (hg : Gl X "enumerate" := by rfl) (hs : starEach [e] X.env = [(false, eval e X.env)] := by rfl) :
    PI X (.Tuple elts kk tpos) (.Call (.Name "enumerate" p) [e] [] pos) (tI C (up er (cEnum A))) := by
  refine (pi_enum hg hm (pa_cons h pa_nil hs) hs).imp fun σ H R' ⟨hid, ρ, q, hp, sr, a, kk⟩ => ⟨hid, ρ, _, hp, sr, (by
    unfold up cEnum at a
    rw [wp_bind] at a
    exact a), fun v x H1 e1 o1 r1 a1 => ?_⟩
  rw [wp_bind] at a1
  have a2 : ∃ ds, x = .d (.list ds) ∧ q (enumD ds) := by
    unfold seqLR at a1
    split at a1
    · exact ⟨_, rfl, a1⟩
    · exact a1.elim
  obtain ⟨ds, rfl, a2⟩ := a2
  cases r1 with
  | @lst t vs _ hl d1 =>
    refine ⟨t, vs, rfl, SqL.of (hide_some hl).2, kk _ _ H1 e1 o1 ⟨fun H => SqL X.K H t vs, YPair (fun i => some (.int (i : Nat))) (fun i => vs[i]?), by rw [enumD_len, ← d1.len]; exact walk_enum, fun hid' H' st => SqL.of (st.fz t _ (hide_some hl).1 (hide_some hl).2 (fun _ z => by cases z)), fun i hid' H2 v H3 hi st ok ⟨T, a, b, y1, y2, y3, y4, y5⟩ => ?_⟩ a2⟩
    obtain rfl := Option.some.inj y4
    subst y1 y3
    obtain ⟨d, ed, dd⟩ := d1.at y5
    exact ⟨_, enumD_at ed, .inr ⟨T, _, y2, rfl⟩, new_pair ok (.int _) (Dd.mono st.mono _ _ dd) y2⟩
/-! ### a, b = e, [..] -/
def cParL (i j : Nat) (a : CE) (b : CA) (ρ : Rho) : R Out := (a ρ).bind fun x => (b ρ).bind fun xs => (dsR xs).bind fun l => chk (notOwnB x) (ok (.nx ((ρ.set i (some x)).set j (some (.own l)))))
theorem fs_parL {i j n : Nat} {x y : Str} {a : Expr} {es : List Expr} {A : CE} {B : CA} {px py pt pos lpos : Pos} {kt k2 pt2} {k : Nat} (l : Lv0 X C k) (hi : X.N[i]? = some x) (hj : X.N[j]? = some y)
    (ha : PE X a (tE C (up er A))) (hb : PA X es (tAs C n (up er B))) (hn : n ≤ 1000 := by decide) (hij : i ≠ j := by decide) (hx : X.env.scope.names.lookup x = some .local := by rfl) (hy : X.env.scope.names.lookup y = some .local := by rfl)
    (h0 : starEach [a, .List es lpos] X.env = (false, eval a X.env) :: starEach [.List es lpos] X.env := by rfl) (h1 : starEach [.List es lpos] X.env = (false, eval (.List es lpos) X.env) :: starEach [] X.env := by rfl)
    (hw : swappedStores [.Tuple [.Name x px, .Name y py] kt pt] (.Tuple [a, .List es lpos] k2 pt2) X.env = pure (some [x, y]) := by rfl)
    (hs : swapsWithSole [.Tuple [.Name x px, .Name y py] kt pt] (.Tuple [a, .List es lpos] k2 pt2) pos.line X.env = pure false := by rfl) :
    PS X (.Assign [.Tuple [.Name x px, .Name y py] kt pt] (.Tuple [a, .List es lpos] k2 pt2) pos) (tS C (upS er (cParL i j A B))) :=
  (ps_par l.calm l.nd hi hj hij hx hy (pa_cons ha (pa_cons (pe_lst hb) pa_nil h1) h0) hw hs).imp fun D σ H ⟨hid, ρ, d, so, s, e⟩ => ⟨hid, ρ, _, so.hp, so.sr, (by
    unfold upS cParL at s
    rw [wp_bind] at s
    exact s), fun v x H1 e1 o1 r1 a1 => ⟨hid, ρ, _, o1, so.sr.ext e1 so.hp, (by
      rw [wp_bind] at a1
      exact a1), fun vs xs H2 e2 o2 r2 l2 a2 => by
      rw [wp_bind] at a2
      obtain ⟨l0, rfl, a3⟩ := of_onDs (dsR_wp a2)
      obtain ⟨no, a4⟩ := chk_wp a3
      refine ⟨by rw [r2.len, l2]; exact Nat.le_trans hn (by decide), fun p np => ?_⟩
      have s1 := ((so.ext e1 o1).ext e2 o2).set (r1.ext e2 o1) (notOwnB_iff no) i
      obtain ⟨s2, s3⟩ := s1.newOwn r2.dd np j
      exact ⟨v, .ref p, rfl, e.nx _ _ _ _ s2 (((Stp.ext e1 so.hp).trans (Stp.ext e2 o1)).trans s3) a4⟩⟩⟩
end
end Fl

set_option Elab.async false
set_option linter.all false
set_option maxRecDepth 100000
set_option maxHeartbeats 4000000
namespace Fl
open PySem PySem.Spec PyProof.Rows L2 Dl R
/-! ### calls where nothing may be raised -/
def nr {α : Type} : R α → R α
  | .ok a => .ok a
  | .er _ => .no
  | .no => .no
  | .ch S k => .ch S fun d => nr (k d)
theorem nr_wp {α : Type} {er : Str → Prop} {q : α → Prop} : ∀ {m : R α}, wp (nr m) q er → wp m q fun _ => False
  | .ok a, h => h
  | .er _, h => h.elim
  | .no, h => h
  | .ch S k, h => fun d hd => nr_wp (h d hd)
def cCallN (m : List Dv → R Dv) (a : CA) (ρ : Rho) : R Dv := (a ρ).bind fun xs => chk (xs.all notOwnB) (nr (m xs))
def cCallN0 (m : List Dv → R Dv) (_ : Rho) : R Dv := nr (m [])
section
variable {X : Cx} {C : DC} {er : Str → Prop}
theorem fe_callN {x : Str} {ps : List Str} {m : List Dv → R Dv} {n k : Nat} {e : Expr} {es : List Expr} {A : CA} {p pos : Pos} {j : Nat} (h : DHas X.prog X.w X.K X.mg X.base C.T j x ps (gR m)) (l : Lv0 X C k) (ha : PA X (e :: es) (tAs C n (up er A))) (hjk : j ≤ k := by decide) (hg : Gl X x := by rfl) (hdb : (x == ("__debug__" : Str)) = false := by decide)
    (he : starEach (e :: es) X.env = (false, eval e X.env) :: starEach es X.env := by rfl) (hpl : (backTo pos (starEach es X.env)).any (·.1) = false := by rfl) : PE X (.Call (.Name x p) (e :: es) [] pos) (tE C (up er (cCallN m A))) := (de_call h l pass_none EOk.never ha hjk hg hdb he hpl).imp (mE fun ρ q h => by
  unfold up cCallN at h
  rw [wp_bind] at h
  refine wp_mono (fun xs h => ?_) h
  obtain ⟨h1, h2⟩ := chk_wp h
  exact all_notOwn h1 (nr_wp h2))
theorem fe_callN0 {x : Str} {m : List Dv → R Dv} {k : Nat} {p pos : Pos} {j : Nat} (h : DHas X.prog X.w X.K X.mg X.base C.T j x [] (gR m)) (l : Lv0 X C k) (hjk : j ≤ k := by decide) (hg : Gl X x := by rfl) (hdb : (x == ("__debug__" : Str)) = false := by decide) :
    PE X (.Call (.Name x p) [] [] pos) (tE C (up er (cCallN0 m))) := (de_call0 h l pass_none EOk.never hjk hg hdb).imp (mE fun ρ q h => nr_wp h)
/-! ### constants of the top -/
theorem fe_gi {x : Str} {i : Int} {pos : Pos} (h : ∃ t, X.mg x = some (.int i t)) (hg : Gl X x := by rfl) (hd : (x == ("__debug__" : Str)) = false := by decide) : PE X (.Name x pos) (tE C (up er (cC (.int i)))) := by
  obtain ⟨t, h⟩ := h
  exact fe_c (de_c (pe_glob (v := .int i) hg h ⟨t, rfl⟩ hd) fun _ => .int i)
theorem fe_gs {x z : Str} {pos : Pos} (h : ∃ t, X.mg x = some (.str z t)) (hz : PyData.strOk z = true := by decide +kernel) (hg : Gl X x := by rfl) (hd : (x == ("__debug__" : Str)) = false := by decide) : PE X (.Name x pos) (tE C (up er (cC (.str z)))) := by
  obtain ⟨t, h⟩ := h
  exact fe_c (de_c (pe_glob (v := .str z) hg h ⟨t, rfl⟩ hd) fun _ => .str z hz)
/-- a tuple of the top, of texts -/
structure TopD (K : PySem.W.Frag) (mg : Str → Option Value) (x : Str) (ds : List PyData) : Prop where
  g : mg x = some (.ref (He.ga K x))
  t : ∃ vs, ∀ H, SqT K H (He.ga K x) vs ∧ DdAll K H vs ds
def cTop (ds : List PyData) (_ : Rho) : R (List PyData) := ok ds
theorem fi_top {tg : Expr} {x : Str} {ds : List PyData} {pos : Pos} {k : Nat} (l : Lv0 X C k) (h : TopD X.K X.mg x ds) (hg : Gl X x := by rfl) (hd : (x == ("__debug__" : Str)) = false := by decide) : PI X tg (.Name x pos) (tI C (up er (cTop ds))) :=
  (pi_tup (pe_glob (v := .ref (He.ga X.K x)) hg h.g rfl hd)).imp fun σ H R' ⟨hid, ρ, q, hp, sr, a, kk⟩ => by
    obtain ⟨vs, hv⟩ := h.t
    have hdd := (hv (hide hid H)).2
    rw [l.K] at hdd
    exact ⟨_, rfl, ⟨vs, (hv H).1⟩, kk _ _ H .refl hp (walkd_seq (a := He.ga X.K x) (fun H => SqT X.K H (He.ga X.K x) vs) walk_tup (fun _ H' _ => (hv H').1) hdd) a⟩
end
end Fl

set_option Elab.async false
set_option linter.all false
set_option maxRecDepth 100000
set_option maxHeartbeats 4000000
namespace Fl
open PySem PySem.Spec PyProof.Rows L2 Dl R
/-! ### texts -/
def strsD : List PyData → Option (List Str)
  | [] => some []
  | .str b :: r => (strsD r).map (b :: ·)
  | _ :: _ => none
theorem strsD_eq : ∀ {l : List PyData} {bs : List Str}, strsD l = some bs → l = bs.map .str
  | [], bs, h => by cases h; rfl
  | x :: r, bs, h => by
    cases x with
    | str b =>
      unfold strsD at h
      cases e : strsD r with
      | none => rw [e] at h; cases h
      | some cs =>
        rw [e] at h
        cases h
        rw [strsD_eq e]
        rfl
    | _ => cases h
theorem strsD_map : ∀ bs : List Str, strsD (bs.map .str) = some bs
  | [] => rfl
  | b :: r => by
    show (strsD (r.map .str)).map (b :: ·) = _
    rw [strsD_map r]
    rfl
theorem dd_strs {K : PySem.W.Frag} {H : Hp} : ∀ {vs : List V} {l : List Str}, DdAll K H vs (l.map PyData.str) → vs = l.map V.str
  | [], [], _ => rfl
  | [], _ :: _, h => by cases h
  | _ :: _, [], h => by cases h
  | _ :: _, _ :: _, h => by
    cases h with
    | cons a b => cases a; rw [dd_strs b]; rfl
def strR : Dv → R Str
  | .d (.str z) => ok z
  | _ => no
def splitC (a : Str) (y : Dv) : R Dv := (strR y).bind fun b => chk (decide (b.length ≠ 0 ∧ a.length ≤ 1000000) && (Txt.split a b).all PyData.strOk) (ok (.d (.list ((Txt.split a b).map .str))))
def cM1 (f : Str → Dv → R Dv) (a b : CE) (ρ : Rho) : R Dv := (a ρ).bind fun x => (strR x).bind fun z => (b ρ).bind fun y => f z y
def c_split (a b : CE) : CE := cM1 splitC a b
def joinS (a : Str) (l : List PyData) : R Dv := match strsD l with
  | some ys => chk (decide ((ys.map (·.length)).sum + ys.length * a.length ≤ 1000000) && PyData.strOk (Txt.join a ys)) (ok (.d (.str (Txt.join a ys))))
  | none => no
def joinC (a : Str) (y : Dv) : R Dv := match y with
  | .d (.list l) => joinS a l
  | .d (.tuple l) => joinS a l
  | .own l => joinS a l
  | _ => no
def c_join (a b : CE) : CE := cM1 joinC a b
def testC (f : Str → Bool) (x : Dv) : R Dv := match x with
  | .d (.str a) => ok (.d (.bool (f a)))
  | _ => no
def c_isascii (a : CE) : CE := cUn (testC Txt.isascii) a
def c_isalpha (a : CE) : CE := cUn (testC Txt.isalpha) a
def c_islower (a : CE) : CE := cUn (testC Txt.islower) a
section
variable {X : Cx} {C : DC} {er : Str → Prop}
theorem m1_two {f : Str → Dv → R Dv} {a b : CE} {ρ : Rho} {q : Dv → Prop} (h : up er (cM1 f a b) ρ q) : up er a ρ fun x => ∃ z, x = .d (.str z) ∧ up er b ρ fun y => wp (f z y) q er := by
  unfold up cM1 at h
  rw [wp_bind] at h
  refine wp_mono (fun x h => ?_) h
  rw [wp_bind] at h
  unfold strR at h
  split at h
  · rename_i z
    have h : wp (R.bind _ _) q er := h
    rw [wp_bind] at h
    exact ⟨z, rfl, h⟩
  · exact h.elim
theorem fe_split0 {o e : Expr} {A B : CE} {apos pos : Pos} (ho : PE X o (tE C (up er A))) (he : PE X e (tE C (up er B))) (hs : starEach [e] X.env = [(false, eval e X.env)] := by rfl) (hbase : attributeBase o "split" X.env (eval o X.env) = eval o X.env := by rfl) (hline : (apos.endLine == pos.line) = true := by rfl) :
    PE X (.Call (.Attribute o "split" apos) [e] [] pos) (tE C (up er (c_split A B))) := (pe_split ho he hs hbase hline).imp fun σ H Q ⟨hid, ρ, q, hp, sr, a, kk⟩ => ⟨hid, ρ, _, hp, sr, m1_two a, fun v x H1 e1 o1 r1 ⟨z, ex, a1⟩ => by
  subst ex
  cases r1 with
  | str _ hz =>
    refine ⟨⟨z, rfl⟩, hid, ρ, _, o1, sr.ext e1 hp, a1, fun w y H2 e2 o2 r2 a2 => ?_⟩
    unfold splitC at a2
    rw [wp_bind] at a2
    unfold strR at a2
    split at a2
    · rename_i b
      obtain ⟨h1, h2⟩ := chk_wp a2
      rw [Bool.and_eq_true] at h1
      have h3 := of_decide_eq_true h1.1
      cases r2
      refine ⟨z, b, rfl, rfl, by simpa using h3.1, Nat.le_trans (Nat.add_le_add_right h3.2 2) (by decide), fun p np => ?_⟩
      exact kk _ _ _ ((e1.trans e2).trans (Ext.new np _)) (o2.new np _) (new_lst o2 (DdAll.strs fun s hs => List.all_eq_true.mp h1.2 s hs) np) h2
    · exact a2.elim⟩
theorem fe_split {o e : Expr} {A B : CE} {apos pos : Pos} {k : Nat} (l : Lv0 X C k) (ho : PE X o (tE C (up er A))) (he : PE X e (tE C (up er B))) (hs : starEach [e] X.env = [(false, eval e X.env)] := by rfl) (hbase : attributeBase o "split" X.env (eval o X.env) = eval o X.env := by rfl) (hline : (apos.endLine == pos.line) = true := by rfl) :
    PE X (.Call (.Attribute o "split" apos) [e] [] pos) (tE C (up er (c_split A B))) := fe_split0 ho he hs hbase hline
theorem joinS_wp {a : Str} {l : List PyData} {q : Dv → Prop} (h : wp (joinS a l) q er) : ∃ ys : List Str, l = ys.map .str ∧ (ys.map (·.length)).sum + ys.length * a.length ≤ 16777216 ∧ PyData.strOk (Txt.join a ys) = true ∧ q (.d (.str (Txt.join a ys))) := by
  unfold joinS at h
  split at h
  · rename_i ys e
    obtain ⟨h1, h2⟩ := chk_wp h
    rw [Bool.and_eq_true] at h1
    exact ⟨ys, strsD_eq e, Nat.le_trans (of_decide_eq_true h1.1) (by decide), h1.2, h2⟩
  · exact h.elim
theorem fe_join0 {o e : Expr} {A B : CE} {apos pos : Pos} (hK : X.K = C.K) (ho : PE X o (tE C (up er A))) (he : PE X e (tE C (up er B))) (hs : starEach [e] X.env = [(false, eval e X.env)] := by rfl) (hbase : attributeBase o "join" X.env (eval o X.env) = eval o X.env := by rfl) (hline : (apos.endLine == pos.line) = true := by rfl) :
    PE X (.Call (.Attribute o "join" apos) [e] [] pos) (tE C (up er (c_join A B))) := (pe_join ho he hs hbase hline).imp fun σ H Q ⟨hid, ρ, q, hp, sr, a, kk⟩ => ⟨hid, ρ, _, hp, sr, m1_two a, fun v x H1 e1 o1 r1 ⟨z, ex, a1⟩ => by
  subst ex
  cases r1 with
  | str _ hz =>
    refine ⟨⟨z, rfl⟩, hid, ρ, _, o1, sr.ext e1 hp, a1, fun w y H2 e2 o2 r2 a2 => ?_⟩
    have fin : ∀ l0, wp (joinS z l0) q er → ∃ ys : List Str, l0 = ys.map .str ∧ (ys.map (·.length)).sum + ys.length * z.length ≤ 16777216 ∧ Q (.str (Txt.join z ys)) H2 := fun l0 h => by
      obtain ⟨ys, h1, h2, h3, h4⟩ := joinS_wp h
      exact ⟨ys, h1, h2, kk _ (.d (.str _)) H2 (e1.trans e2) o2 (Dd.str _ h3) h4⟩
    unfold joinC at a2
    split at a2
    · obtain ⟨ys, rfl, h2, h3⟩ := fin _ a2
      obtain ⟨p, vs, rfl, h4, h5⟩ := r2.lst rfl
      rw [dd_strs h5] at h4
      exact ⟨z, p, ys, rfl, rfl, .inl (SqL.of h4), h2, h3⟩
    · obtain ⟨ys, rfl, h2, h3⟩ := fin _ a2
      obtain ⟨p, vs, rfl, h4, h5⟩ := r2.tup
      rw [dd_strs h5] at h4
      exact ⟨z, p, ys, rfl, rfl, .inr (by rw [hK]; exact h4), h2, h3⟩
    · obtain ⟨ys, rfl, h2, h3⟩ := fin _ a2
      obtain ⟨p, vs, rfl, h4, h5⟩ := r2.lst rfl
      rw [dd_strs h5] at h4
      exact ⟨z, p, ys, rfl, rfl, .inl (SqL.of h4), h2, h3⟩
    · exact a2.elim⟩
theorem fe_join {o e : Expr} {A B : CE} {apos pos : Pos} {k : Nat} (l : Lv0 X C k) (ho : PE X o (tE C (up er A))) (he : PE X e (tE C (up er B))) (hs : starEach [e] X.env = [(false, eval e X.env)] := by rfl) (hbase : attributeBase o "join" X.env (eval o X.env) = eval o X.env := by rfl) (hline : (apos.endLine == pos.line) = true := by rfl) :
    PE X (.Call (.Attribute o "join" apos) [e] [] pos) (tE C (up er (c_join A B))) := fe_join0 l.K ho he hs hbase hline
theorem fe_test {id : String} {name : Str} {f : Str → Bool} {o : Expr} {A : CE} {apos pos : Pos} (slot : Slot "str" name id) (ty : typeOf (.builtin id) = pure (.type "method_descriptor")) (rule : MtR X id (fun x xs H Q => ∃ a, x = .str a ∧ xs = [] ∧ True ∧ Q (.bl (f a)) H)) (ho : PE X o (tE C (up er A)))
    (hbase : attributeBase o name X.env (eval o X.env) = eval o X.env := by rfl) (hline : (apos.endLine == pos.line) = true := by rfl) : PE X (.Call (.Attribute o name apos) [] [] pos) (tE C (up er (cUn (testC f) A))) := (pe_m0 slot ty rule ho hbase hline).imp fun σ H Q ⟨hid, ρ, q, hp, sr, a, kk⟩ => ⟨hid, ρ, _, hp, sr, (by
    unfold up cUn at a
    rw [wp_bind] at a
    exact a), fun v x H1 e1 o1 r1 a1 => by
    unfold testC at a1
    split at a1
    · cases r1
      exact ⟨⟨_, rfl⟩, _, rfl, rfl, trivial, kk _ (.d (.bool _)) H1 e1 o1 (Dd.bl _) a1⟩
    · exact a1.elim⟩
theorem fe_isascii {o : Expr} {A : CE} {apos pos : Pos} {k : Nat} (l : Lv0 X C k) (ho : PE X o (tE C (up er A))) (hbase : attributeBase o "isascii" X.env (eval o X.env) = eval o X.env := by rfl) (hline : (apos.endLine == pos.line) = true := by rfl) : PE X (.Call (.Attribute o "isascii" apos) [] [] pos) (tE C (up er (c_isascii A))) := fe_test PySem.F.slot_str_isascii PySem.F.type_str_isascii mt_isascii ho hbase hline
theorem fe_isalpha {o : Expr} {A : CE} {apos pos : Pos} {k : Nat} (l : Lv0 X C k) (ho : PE X o (tE C (up er A))) (hbase : attributeBase o "isalpha" X.env (eval o X.env) = eval o X.env := by rfl) (hline : (apos.endLine == pos.line) = true := by rfl) : PE X (.Call (.Attribute o "isalpha" apos) [] [] pos) (tE C (up er (c_isalpha A))) := fe_test PySem.F.slot_str_isalpha PySem.F.type_str_isalpha mt_isalpha ho hbase hline
theorem fe_islower {o : Expr} {A : CE} {apos pos : Pos} {k : Nat} (l : Lv0 X C k) (ho : PE X o (tE C (up er A))) (hbase : attributeBase o "islower" X.env (eval o X.env) = eval o X.env := by rfl) (hline : (apos.endLine == pos.line) = true := by rfl) : PE X (.Call (.Attribute o "islower" apos) [] [] pos) (tE C (up er (c_islower A))) := fe_test PySem.F.slot_str_islower PySem.F.type_str_islower mt_islower ho hbase hline
/-! ### int(..), max(.., ..), min(.., ..) -/
def intC (xs : List Dv) : R Dv := match xs with
  | [.d (.int i)] => ok (.d (.int i))
  | [.d (.bool b)] => ok (.d (.int (if b then 1 else 0)))
  | _ => no
def fQ (f : List Dv → R Dv) (xs : List Dv) (q : Dv → Prop) : Prop := ∃ d, f xs = .ok d ∧ q d
theorem intC_ok (er : Str → Prop) (xs : List Dv) (q : Dv → Prop) (h : wp (intC xs) q er) : fQ intC xs q := by
  unfold intC at h
  unfold fQ intC
  split at h <;> first | exact h.elim | exact ⟨_, rfl, h⟩
theorem int_ok : CallR X (.type "int") (rL C (fQ intC)) := by
  intro pins s σ H vs us Q I r ⟨hid, ds, q, hp, rs, ⟨d, e, h⟩, kk⟩
  unfold intC at e
  split at e
  · cases e
    obtain ⟨v, rfl, r1⟩ := rs.one
    cases r1
    exact call_int1 pins s σ H _ us Q I r (.inl ⟨_, rfl, kk _ (.d (.int _)) H .refl hp (Dd.int _) h⟩)
  · cases e
    obtain ⟨v, rfl, r1⟩ := rs.one
    cases r1
    exact call_int1 pins s σ H _ us Q I r (.inr ⟨_, rfl, kk _ (.d (.int _)) H .refl hp (Dd.int _) h⟩)
  · cases e
def mxC (f : Int → Int → Int) (xs : List Dv) : R Dv := match xs with
  | [.d (.int i), .d (.int j)] => ok (.d (.int (f i j)))
  | _ => no
abbrev maxC := mxC fun i j => if j > i then j else i
abbrev minC := mxC fun i j => if j < i then j else i
theorem mxC_ok {f : Int → Int → Int} (er : Str → Prop) (xs : List Dv) (q : Dv → Prop) (h : wp (mxC f xs) q er) : fQ (mxC f) xs q := by
  unfold mxC at h
  unfold fQ mxC
  split at h <;> first | exact h.elim | exact ⟨_, rfl, h⟩
theorem mx_ok {id : String} {f : Int → Int → Int} (hr : CallR X (.builtin id) (fun xs H Q => ∃ i j, xs = [.int i, .int j] ∧ Q (.int (f i j)) H)) : CallR X (.builtin id) (rL C (fQ (mxC f))) := by
  intro pins s σ H vs us Q I r ⟨hid, ds, q, hp, rs, ⟨d, e, h⟩, kk⟩
  unfold mxC at e
  split at e
  · cases e
    obtain ⟨v, w, rfl, r1, r2⟩ := rs.two
    cases r1
    cases r2
    exact hr pins s σ H _ us Q I r ⟨_, _, rfl, kk _ (.d (.int _)) H .refl hp (Dd.int _) h⟩
  · cases e
theorem max_ok {k : Nat} (l : Lv0 X C k) : CallR X (.builtin "max") (rL C (fQ maxC)) := mx_ok (call_max2 l.calm)
theorem min_ok {k : Nat} (l : Lv0 X C k) : CallR X (.builtin "min") (rL C (fQ minC)) := mx_ok (call_min2 l.calm)
/-! ### a tuple of the top as a value -/
theorem fe_gt {x : Str} {ds : List PyData} {pos : Pos} {k : Nat} (l : Lv0 X C k) (h : TopD X.K X.mg x ds) (hg : Gl X x := by rfl) (hd : (x == ("__debug__" : Str)) = false := by decide) : PE X (.Name x pos) (tE C (up er (cC (.tuple ds)))) := by
  obtain ⟨vs, hv⟩ := h.t
  refine fe_c (de_c (pe_glob (v := .ref (He.ga X.K x)) hg h.g rfl hd) fun H => ?_)
  obtain ⟨h1, h2⟩ := hv H
  rw [l.K] at h1 h2 ⊢
  exact .tup ⟨h1, fun z => z.elim⟩ h2
/-! ### a call of what a name holds -/
abbrev Tb := List (Str × (List Dv → R Dv))
def cCallL (i : Nat) (tb : Tb) (a : CA) (ρ : Rho) : R Dv := match ρ[i]? with
  | some (some (.fn y)) => match tb.lookup y with
    | some m => (a ρ).bind fun xs => chk (xs.all notOwnB) (nr (m xs))
    | none => no
  | _ => no
structure TbOk (P : Program) (w : World) (K : PySem.W.Frag) (mg : Str → Option Value) (base : Heap) (T : Tbs) (k : Nat) (tb : Tb) : Prop where
  h : ∀ y m, tb.lookup y = some m → ∃ ps, DHas P w K mg base T k y ps (gR m)
theorem TbOk.nil {P : Program} {w : World} {K : PySem.W.Frag} {mg : Str → Option Value} {base : Heap} {T : Tbs} {k : Nat} : TbOk P w K mg base T k [] := ⟨fun y m e => by cases e⟩
theorem TbOk.cons {P : Program} {w : World} {K : PySem.W.Frag} {mg : Str → Option Value} {base : Heap} {T : Tbs} {k j : Nat} {y : Str} {ps : List Str} {m : List Dv → R Dv} {tb : Tb} (h : DHas P w K mg base T j y ps (gR m)) (t : TbOk P w K mg base T k tb) (hj : j ≤ k := by decide) : TbOk P w K mg base T k ((y, m) :: tb) := ⟨fun z n e => by
  rw [List.lookup_cons] at e
  split at e
  · rename_i ez
    cases e
    obtain rfl := eq_of_beq ez
    exact ⟨ps, Has.mono h hj⟩
  · exact t.h z n e⟩
theorem fe_callL {i : Nat} {x : Str} {tb : Tb} {e : Expr} {es : List Expr} {n k j : Nat} {A : CA} {p pos : Pos} (l : Lv0 X C k) (t : TbOk X.prog X.w X.K X.mg X.base C.T j tb) (hN : X.N[i]? = some x) (hv : Vis X.env.scope x) (ha : PA X (e :: es) (tAs C n (up er A))) (hjk : j ≤ k := by decide)
    (hdb : (x == ("__debug__" : Str)) = false := by decide) (hcd : (x == ("__classdict__" : Str)) = false := by decide)
    (he : starEach (e :: es) X.env = (false, eval e X.env) :: starEach es X.env := by rfl) (hpl : (backTo pos (starEach es X.env)).any (·.1) = false := by rfl) : PE X (.Call (.Name x p) (e :: es) [] pos) (tE C (up er (cCallL i tb A))) := by
  refine ⟨fun pins s σ H Q I ⟨hid, ρ, q, hp, sr, a, kk⟩ => ?_⟩
  unfold up cCallL at a
  split at a
  · rename_i y ey
    split at a
    · rename_i m em
      obtain ⟨ps, fd, b, kp, gm, F, _⟩ := t.h y m em
      obtain ⟨v, h1, h2⟩ := sr.at' i _ ey
      cases (show v = _ from h2)
      rw [wp_bind] at a
      refine (pe_callL (i := i) (f := He.ga X.K y) (p := p) (pos := pos) F (l.room.mono hjk) hN hv kp b .nil pass_none ha hdb hcd he hpl).run pins s σ H Q I ⟨by rw [l.K]; exact h1, hid, ρ, _, hp, sr, a, fun vs xs H1 e1 o1 r1 l1 a1 => ?_⟩
      obtain ⟨h3, h4⟩ := chk_wp a1
      obtain ⟨no, a2⟩ := of_noOwn (all_notOwn h3 (nr_wp h4))
      rw [l.K]
      show spD C.K C.T (gR m) (vs ++ []) H1 Q _
      rw [List.append_nil]
      exact call_sp o1 r1 no a2 EOk.never fun v x H2 e2 => kk v x H2 (e1.trans e2)
    · exact a.elim
  · exact a.elim
end
end Fl

set_option Elab.async false
set_option linter.all false
set_option maxRecDepth 100000
set_option maxHeartbeats 4000000
namespace Fl
open PySem PySem.Spec PyProof.Rows L2 Dl R
/-! ### zip, enumerate over lists and tuples -/
theorem _root_.L2.PI.or {X : Cx} {tg e : Expr} {t1 t2 : TI} (h1 : PI X tg e t1) (h2 : PI X tg e t2) : PI X tg e (fun σ H R => t1 σ H R ∨ t2 σ H R) := ⟨fun pins s σ H R I h => h.elim (fun h => h1.run pins s σ H R I h) fun h => h2.run pins s σ H R I h⟩
def zipD (xs ys : List PyData) : List PyData := (xs.zip ys).map fun p => pairD p.1 p.2
theorem zipD_len {xs ys : List PyData} : (zipD xs ys).length = min xs.length ys.length := by
  unfold zipD
  rw [List.length_map, List.length_zip]
theorem zipD_at {xs ys : List PyData} {i : Nat} {a b : PyData} (h1 : xs[i]? = some a) (h2 : ys[i]? = some b) : (zipD xs ys)[i]? = some (pairD a b) := by
  unfold zipD
  rw [List.getElem?_map, show (xs.zip ys)[i]? = some (a, b) from List.getElem?_zip_eq_some.mpr ⟨h1, h2⟩]
  rfl
def zipC (x y : Dv) : R (List PyData) := match x, y with
  | .d (.list xs), .d (.list ys) => ok (zipD xs ys)
  | .d (.tuple xs), .d (.tuple ys) => ok (zipD xs ys)
  | .d (.tuple xs), .d (.list ys) => ok (zipD xs ys)
  | _, _ => no
def cZip (a b : CE) (ρ : Rho) : R (List PyData) := match a ρ with
  | .ok x => match b ρ with
    | .ok y => zipC x y
    | _ => no
  | _ => no
theorem walk_zipTT {K : PySem.W.Frag} (a b : Addr) (xs ys : List V) : Walk (RZ.ItzT K a b) (xs.zip ys).length (fun H => SqT K H a xs ∧ SqT K H b ys) (fun i H v H' => ∃ T p, (xs.zip ys)[i]? = some p ∧ v = .ref T ∧ H T = none ∧ H' = upd H T (.tup [p.1, p.2])) := by
  refine ⟨fun i _ hi q => ?_, fun _ q => ⟨_, _, q.1, q.2, ?_⟩, fun i H v H' hi q y => ?_⟩
  · rw [List.length_zip] at hi
    have h1 : i < xs.length := by omega
    have h2 : i < ys.length := by omega
    exact ⟨_, _, xs[i], ys[i], q.1, q.2, List.getElem?_eq_getElem h1, List.getElem?_eq_getElem h2⟩
  · rw [List.length_zip]; omega
  · obtain ⟨T, x, z, h1, h2, h3, h4, h5⟩ := y
    exact ⟨T, (x, z), List.getElem?_zip_eq_some.mpr ⟨h4 _ q.1, h5 _ q.2⟩, h1, h2, h3⟩
section
variable {X : Cx} {C : DC} {er : Str → Prop}
/-- what a walk of pairs gives -/
theorem walkd_pairs {hid : List Addr} {H : Hp} {J : It} {vs ws : List V} {xs ys : List PyData} {G : Hp → Prop} (hw : Walk J (vs.zip ws).length G (fun i H v H' => ∃ T p, (vs.zip ws)[i]? = some p ∧ v = .ref T ∧ H T = none ∧ H' = upd H T (.tup [p.1, p.2]))) (hr : ∀ hid' H', Stp hid H hid' H' → G H')
    (h1 : DdAll C.K (hide hid H) vs xs) (h2 : DdAll C.K (hide hid H) ws ys) : WalkD C hid J (zipD xs ys) H := by
  refine ⟨G, (fun i H v H' => ∃ T p, (vs.zip ws)[i]? = some p ∧ v = .ref T ∧ H T = none ∧ H' = upd H T (.tup [p.1, p.2])), by rw [zipD_len, ← h1.len, ← h2.len, ← List.length_zip]; exact hw, hr, fun i hid' H1 v H2 hi st ok ⟨T, p, e, y1, y2, y3⟩ => ?_⟩
  subst y1 y3
  obtain ⟨e1, e2⟩ := List.getElem?_zip_eq_some.mp e
  obtain ⟨a, ea, da⟩ := h1.at e1
  obtain ⟨b, eb, db⟩ := h2.at e2
  exact ⟨_, zipD_at ea eb, .inr ⟨T, _, y2, rfl⟩, new_pair ok (Dd.mono st.mono _ _ da) (Dd.mono st.mono _ _ db) y2⟩
theorem walk_zipLL {K : PySem.W.Frag} (a b : Addr) (xs ys : List V) : Walk (Itz K a b) (xs.zip ys).length (fun H => SqL K H a xs ∧ SqL K H b ys) (fun i H v H' => ∃ T p, (xs.zip ys)[i]? = some p ∧ v = .ref T ∧ H T = none ∧ H' = upd H T (.tup [p.1, p.2])) :=
  (walk_zip (n := (xs.zip ys).length) List.length_zip).mono (fun _ h => h) fun i H x H' hi g ⟨T, a, b, h1, h2, h3, h4, h5⟩ => ⟨T, (a, b), List.getElem?_zip_eq_some.mpr ⟨h4, h5⟩, h1, h2, h3⟩
theorem fi_zip {e e2 : Expr} {A B : CE} {p pos tpos : Pos} {elts : List Expr} {kk k : Nat} (l : Lv0 X C k) (hm : X.mg "zip" = none) (ha : PE X e (tE C (up er A))) (hb : PE X e2 (tE C (up er B))) (hg : Gl X "zip" := by rfl)
    (hs : starEach [e, e2] X.env = (false, eval e X.env) :: starEach [e2] X.env := by rfl) (hs2 : starEach [e2] X.env = (false, eval e2 X.env) :: starEach [] X.env := by rfl) (hpl : (backTo pos (starEach [e2] X.env)).any (·.1) = false := by rfl) :
    PI X (.Tuple elts kk tpos) (.Call (.Name "zip" p) [e, e2] [] pos) (tI C (up er (cZip A B))) := by
  have args := pa_cons ha (pa_cons hb pa_nil hs2) hs
  refine ((RZ.pi_zipA hg hm args hs hpl).or (Mx.pi_zipM hg hm args hs hpl)).imp fun σ H R' ⟨hid, ρ, q, hp, sr, a, kk⟩ => ?_
  unfold up cZip at a
  split at a
  · rename_i x ex
    split at a
    · rename_i y ey
      have two : ∀ (F : List V → Hp → Prop), (∀ v w H1 H2, Ext C.c H H1 → HpOk C hid H1 → Ext C.c H1 H2 → HpOk C hid H2 → VR C hid H2 v x → VR C hid H2 w y → F [v, w] H2) → (∀ (n m : Nat), tE C (up er A) σ H fun v H1 => tE C (up er B) σ H1 fun w H2 => F [v, w] H2) := fun F hF _ _ =>
        ⟨hid, ρ, fun z => z = x, hp, sr, by unfold up; rw [ex]; rfl, fun v z H1 e1 o1 r1 ez => by
          subst ez
          exact ⟨hid, ρ, fun z => z = y, o1, sr.ext e1 hp, by unfold up; rw [ey]; rfl, fun w z H2 e2 o2 r2 ez => by
            subst ez
            exact hF v w H1 H2 e1 o1 e2 o2 (r1.ext e2 o1) r2⟩⟩
      unfold zipC at a
      split at a
      · refine .inl (two (fun us H1 => ∃ a b xs ys, us = [.ref a, .ref b] ∧ ((SqL X.K H1 a xs ∧ SqL X.K H1 b ys ∧ R' (Itz X.K a b) H1) ∨ (SqT X.K H1 a xs ∧ SqT X.K H1 b ys ∧ R' (RZ.ItzT X.K a b) H1))) (fun v w H1 H2 e1 o1 e2 o2 r1 r2 => ?_) 0 0)
        cases r1 with
        | @lst p1 vs _ h1 d1 => cases r2 with
          | @lst p2 ws _ h2 d2 =>
            exact ⟨p1, p2, vs, ws, rfl, .inl ⟨SqL.of (hide_some h1).2, SqL.of (hide_some h2).2, kk _ _ H2 (e1.trans e2) o2 (walkd_pairs (walk_zipLL p1 p2 vs ws) (fun hid' H' st => ⟨SqL.of (st.fz p1 _ (hide_some h1).1 (hide_some h1).2 (fun _ z => by cases z)), SqL.of (st.fz p2 _ (hide_some h2).1 (hide_some h2).2 (fun _ z => by cases z))⟩) d1 d2) a⟩⟩
      · refine .inl (two (fun us H1 => ∃ a b xs ys, us = [.ref a, .ref b] ∧ ((SqL X.K H1 a xs ∧ SqL X.K H1 b ys ∧ R' (Itz X.K a b) H1) ∨ (SqT X.K H1 a xs ∧ SqT X.K H1 b ys ∧ R' (RZ.ItzT X.K a b) H1))) (fun v w H1 H2 e1 o1 e2 o2 r1 r2 => ?_) 0 0)
        cases r1 with
        | @tup p1 vs _ h1 d1 => cases r2 with
          | @tup p2 ws _ h2 d2 =>
            rw [l.K]
            exact ⟨p1, p2, vs, ws, rfl, .inr ⟨hide_mono.sqT h1.1, hide_mono.sqT h2.1, kk _ _ H2 (e1.trans e2) o2 (walkd_pairs (walk_zipTT p1 p2 vs ws) (fun hid' H' st => ⟨hide_mono.sqT (st.mono.sqT h1.1), hide_mono.sqT (st.mono.sqT h2.1)⟩) d1 d2) a⟩⟩
      · refine .inr (two (fun us H1 => ∃ a b xs ys, us = [.ref a, .ref b] ∧ SqT X.K H1 a xs ∧ SqL X.K H1 b ys ∧ R' (Mx.ItzM X.K a b) H1) (fun v w H1 H2 e1 o1 e2 o2 r1 r2 => ?_) 0 0)
        cases r1 with
        | @tup p1 vs _ h1 d1 => cases r2 with
          | @lst p2 ws _ h2 d2 =>
            rw [l.K]
            exact ⟨p1, p2, vs, ws, rfl, hide_mono.sqT h1.1, SqL.of (hide_some h2).2, kk _ _ H2 (e1.trans e2) o2 (walkd_pairs (Mx.walk_zipM p1 p2 vs ws) (fun hid' H' st => ⟨hide_mono.sqT (st.mono.sqT h1.1), SqL.of (st.fz p2 _ (hide_some h2).1 (hide_some h2).2 (fun _ z => by cases z))⟩) d1 d2) a⟩
      · exact a.elim
    · exact a.elim
  · exact a.elim
def rlF (env : Env) (p : Str × NameKind) : Str × NameKind := if (p.2 == NameKind.free && env.scope.kind == .function && env.kindOf p.1 == some .cell) = true then (p.1, NameKind.cell) else (p.1, p.2)
theorem relab_look {env : Env} {x : Str} : ∀ {names : List (Str × NameKind)} {k : NameKind}, names.lookup x = some k → (k = .cell ∨ k = .free) → ∃ k', (names.map (rlF env)).lookup x = some k' ∧ (k' = .cell ∨ k' = .free)
  | [], _, h, _ => by simp at h
  | (n, c) :: r, k, h, hk => by
    rw [List.lookup_cons] at h
    rw [List.map_cons]
    have two : rlF env (n, c) = (n, .cell) ∨ rlF env (n, c) = (n, c) := by
      unfold rlF
      split
      · exact .inl rfl
      · exact .inr rfl
    by_cases e : (x == n) = true
    · rw [e] at h
      obtain rfl : c = k := Option.some.inj h
      rcases two with q | q
      · exact ⟨.cell, by rw [q, List.lookup_cons, e], .inl rfl⟩
      · exact ⟨c, by rw [q, List.lookup_cons, e], hk⟩
    · have e : (x == n) = false := by simpa using e
      rw [e] at h
      obtain ⟨k', h1, h2⟩ := relab_look h hk
      refine ⟨k', ?_, h2⟩
      rcases two with q | q
      · rw [q, List.lookup_cons, e]
        exact h1
      · rw [q, List.lookup_cons, e]
        exact h1
theorem blk_in {N : List Str} {s : Shared} {H : Hp} {sc scope : Scope} {cl : List (Str × Addr)} {c : Addr} {fp : List Addr} {own : List (Str × Nat)} (h : BlkOk N sc scope own) : BlkOk N (X.blk s H sc (compEnvC sc cl c X.env) fp).env.scope scope own := by
  obtain ⟨h1, h2, h3, h4, h5⟩ := h
  refine ⟨h1, h2, h3, fun y hy e => ?_, h5⟩
  rcases h4 y hy e with k | k
  · obtain ⟨k', q1, q2⟩ := relab_look (env := X.env) k (.inl rfl)
    rcases q2 with rfl | rfl
    · exact .inl q1
    · exact .inr q1
  · obtain ⟨k', q1, q2⟩ := relab_look (env := X.env) k (.inr rfl)
    rcases q2 with rfl | rfl
    · exact .inl q1
    · exact .inr q1
end
end Fl

set_option Elab.async false
set_option linter.all false
set_option maxRecDepth 100000
set_option maxHeartbeats 1000000
namespace Dl
open PySem PySem.Spec PyProof.Rows L2
/-! ### promises of the heap as promises of data -/
theorem hp_gr {C : DC} {hid : List Addr} {H H' : Hp} (hp : HpOk C hid H) (g : Bk.Gr C.T H H') : Ext C.c H H' ∧ HpOk C hid H' := by
  have e : Ext C.c H H' := fun b o _ e n => g.ext b o e n
  exact ⟨e, g.tabs, fun a ea => ⟨(hp.cup a ea).1, by
    obtain ⟨x, s, h, k⟩ := (hp.cup a ea).2
    exact ⟨x, s, g.lst h, k⟩⟩, fun a ha => by
    obtain ⟨xs, h, ow⟩ := hp.some a ha
    exact ⟨xs, g.ext _ _ h (fun _ z => by rw [z] at ow; exact ow), ow⟩, hp.sub, hp.ext.trans e⟩
theorem hp_grc {C : DC} {hid : List Addr} {H H' : Hp} {a : Addr} (hp : HpOk C hid H) (ca : C.c = some a) (g : Bk.GrC C.T a H H') : Ext C.c H H' ∧ HpOk C hid H' := by
  have e : Ext C.c H H' := fun b o n e k => g.ext b o (fun z => n (by rw [ca, z])) e k
  refine ⟨e, g.tabs, fun b eb => ⟨(hp.cup b eb).1, ?_⟩, fun b hb => ?_, hp.sub, hp.ext.trans e⟩
  · rw [ca] at eb
    cases eb
    exact g.cup
  · by_cases z : b = a
    · subst z
      obtain ⟨x, s, h, _⟩ := g.cup
      exact ⟨_, h, trivial⟩
    · obtain ⟨xs, h, ow⟩ := hp.some b hb
      exact ⟨xs, g.ext b xs z h (fun _ z => by rw [z] at ow; exact ow), ow⟩
/-- where a call stands -/
structure At0 (C : DC) (hid : List Addr) (H : Hp) (q : Dv → Prop) (er : Str → Prop) (Q : VK) (E : XK) : Prop where
  hp : HpOk C hid H
  ok : ∀ v x H', Ext C.c H H' → HpOk C hid H' → VR C hid H' v x → notOwn x → q x → Q v H'
  er : ∀ cl H', Ext C.c H H' → HpOk C hid H' → er cl → E (.ref (He.ga C.K cl)) none H'
section
variable {C : DC} {hid : List Addr} {H : Hp} {q : Dv → Prop} {er : Str → Prop} {Q : VK} {E : XK}
theorem At0.tabs (a : At0 C hid H q er Q E) : LamX.Tabs C.T H := a.hp.tabs
theorem At0.gr (a : At0 C hid H q er Q E) {H' : Hp} (g : Bk.Gr C.T H H') {v : V} {x : PyData} (r : Dd C.K (hide hid H') v x) (h : q (.d x)) : Q v H' :=
  a.ok v (.d x) H' (hp_gr a.hp g).1 (hp_gr a.hp g).2 r trivial h
theorem At0.grc (a : At0 C hid H q er Q E) {p : Addr} (ca : C.c = some p) {H' : Hp} (g : Bk.GrC C.T p H H') {v : V} {x : PyData} (r : Dd C.K (hide hid H') v x) (h : q (.d x)) : Q v H' :=
  a.ok v (.d x) H' (hp_grc a.hp ca g).1 (hp_grc a.hp ca g).2 r trivial h
theorem At0.cup (a : At0 C hid H q er Q E) {v : V} (r : VR C hid H v .cup) : ∃ p g s, v = .ref p ∧ C.c = some p ∧ p ∈ hid ∧ H p = some (.lst [.int g, .int s]) ∧ Bk.CupOk g s := by
  obtain ⟨p, cp, rfl⟩ := r
  obtain ⟨h1, g, s, h2, h3⟩ := a.hp.cup p cp
  exact ⟨p, g, s, rfl, cp, h1, h2, h3⟩
end
section
variable {P : Program} {w : World} {K : PySem.W.Frag} {mg : Str → Option Value} {base : Heap} {T : Tbs}
theorem DHas.of {x : Str} {ps : List Str} {sp : Sp} {k : Nat} {g : DF} (h : Has P w K mg base (L2N.CX P w) k x ps sp)
    (hk : ∀ (C : DC) (hid : List Addr) (H : Hp) (vs : List V) (xs : List Dv) (q : Dv → Prop) (er : Str → Prop) (Q : VK) (E : XK), C.K = K → C.T = T → At0 C hid H q er Q E → VRs C hid H vs xs → g xs q er → sp vs H Q E) : DHas P w K mg base T k x ps g :=
  Has.imp h fun vs H Q E ⟨c, hid, xs, q, er, h1, h2, h3, h4, h5, h6⟩ => hk ⟨K, T, c, hid, H⟩ hid H vs xs q er Q E rfl rfl ⟨h1, h5, h6⟩ h2 h4
end
end Dl
namespace Fl
open PySem PySem.Spec PyProof.Rows L2 Dl R
/-- a number below n -/
def m__law_roll (xs : List Dv) : R Dv := match xs with
  | [.cup, .d (.int n)] => chk (decide (0 < n ∧ n < 1000000)) (.ch (fun d => ∃ i : Int, d = .int i ∧ 0 ≤ i ∧ i < n) fun d => ok (.d d))
  | _ => no
section
variable {P : Program} {w : World} {K : PySem.W.Frag} {mg : Str → Option Value} {base : Heap} {T : Tbs}
/-- two promises of one def -/
theorem has_or {CX : CXT} {x : Str} {ps : List Str} {sp sp' : Sp} {k : Nat} (h : Dl.Has P w K mg base CX k x ps sp) (h' : Dl.Has P w K mg base CX k x ps sp') : Dl.Has P w K mg base CX k x ps (fun vs H Q E => sp vs H Q E ∨ sp' vs H Q E) := by
  obtain ⟨fd, b, kp, gm, F, oc, od, osl, lk⟩ := h
  obtain ⟨fd', b', kp', gm', F', oc', od', osl', lk'⟩ := h'
  have e : fd = fd' := by
    rw [lk] at lk'
    cases lk'
    rfl
  subst e
  exact ⟨fd, b, kp, gm, ⟨fun vs H Q E q => q.elim (F.len vs H Q E) (F'.len vs H Q E), fun A outer s H args us vs Q E hr he hb hv hs => hs.elim (F.run A outer s H args us vs Q E hr he hb hv) (F'.run A outer s H args us vs Q E hr he hb hv)⟩, oc, od, osl, lk⟩
theorem dhas_or {x : Str} {ps : List Str} {g g' : DF} {k : Nat} (h : DHas P w K mg base T k x ps g) (h' : DHas P w K mg base T k x ps g') : DHas P w K mg base T k x ps (fun xs q er => g xs q er ∨ g' xs q er) :=
  Has.imp (has_or h h') fun vs H Q E ⟨c, hid, xs, q, ee, h1, h2, h3, h4, h5⟩ => h4.elim (fun h4 => .inl ⟨c, hid, xs, q, ee, h1, h2, h3, h4, h5⟩) fun h4 => .inr ⟨c, hid, xs, q, ee, h1, h2, h3, h4, h5⟩
theorem b_roll {k : Nat} (h : Dl.Has P w K mg base CX0 k "_law_roll" ["_law_cup_here", "_law_many"] Bk.spRoll) : DHas P w K mg base T k "_law_roll" ["_law_cup_here", "_law_many"] (gR m__law_roll) :=
  DHas.of h.cx fun C hid H vs xs q er Q E eK eT a r g => by
    subst eK eT
    unfold gR m__law_roll at g
    split at g
    · obtain ⟨v, u, rfl, r1, r2⟩ := r.two
      obtain ⟨p, x, s, rfl, cp, hm, h4, h5⟩ := a.cup r1
      cases r2
      obtain ⟨h1, h2⟩ := chk_wp g
      have h1 := of_decide_eq_true h1
      refine ⟨p, x, s, _, rfl, h4, h5, h1.1, h1.2, fun i g' s' i0 i1 ck => ?_⟩
      exact a.grc cp (p := p) ⟨fun b o n e _ => by rw [upd_ne n]; exact e, tabs_upd a.tabs h4, ⟨g', s', upd_same, ck⟩⟩ (Dd.int i) (h2 (.int i) ⟨i, rfl, i0, i1⟩)
    · exact g.elim
end
end Fl

set_option Elab.async false
set_option linter.all false
set_option maxRecDepth 100000
set_option maxHeartbeats 4000000
/-! sorted() of a list of data that can be compared -/
namespace So
open PySem PySem.Spec PyProof.Rows L2
open PySem.W (EachIs dataLe AllAlike Sortable)
theorem each_vals : ∀ {xs : List V} {us : List Value} {ds : List PyData}, Vals xs us → xs.length = ds.length → EachIs (fun u (b : V × PyData) => RelV b.1 u) us (xs.zip ds)
  | _, _, ds, .nil, h => by
    cases ds with
    | nil => exact .nil
    | cons _ _ => cases h
  | _, _, ds, .cons r t, h => by
    cases ds with
    | nil => cases h
    | cons d ds => exact .cons r (each_vals t (by simpa using h))
theorem vals_each : ∀ {us : List Value} {bs : List (V × PyData)}, EachIs (fun u (b : V × PyData) => RelV b.1 u) us bs → Vals (bs.map Prod.fst) us
  | _, _, .nil => .nil
  | _, _, .cons r t => .cons r (vals_each t)
section
variable {X : Cx} {pins : List (Addr × Obj)} {σ : L2.St} {H : Hp} {s : Shared}
theorem dpall_len {K : PySem.W.Frag} {H : Hp} : ∀ {vs : List V} {ds : List PyData}, DpAll K H vs ds → vs.length = ds.length
  | [], [], _ => rfl
  | _ :: _, _ :: _, h => by
    cases h with
    | cons a b => rw [List.length_cons, List.length_cons, dpall_len b]
theorem each_reads (I : Inv X pins σ H s) : ∀ {xs : List V} {us : List Value} {ds : List PyData}, Vals xs us → DpAll X.K H xs ds → EachIs (fun u (b : V × PyData) => ∃ as, Reads s.heap u b.2 as) us (xs.zip ds)
  | _, _, [], .nil, h => .nil
  | _, _, d :: ds, .cons r t, h => by
    cases h with
    | cons a b => exact .cons (Dp.reads I d _ _ a r) (each_reads I t b)
theorem zip_snd {xs : List V} {ds : List PyData} (h : xs.length = ds.length) : (xs.zip ds).map Prod.snd = ds := List.map_snd_zip (by omega)
/-- what is sorted, with its values -/
noncomputable def srt (xs : List V) (ds : List PyData) : List (V × PyData) := (xs.zip ds).mergeSort (dataLe false Prod.snd)
def rSortedV (K : PySem.W.Frag) : List V → Hp → VK → Prop := fun vs H Q => ∃ (a : Addr) (xs : List V) (ds : List PyData), vs = [V.ref a] ∧ SqL K H a xs ∧ DpAll K H xs ds ∧ AllAlike ds ∧ Sortable ds ∧ (∀ d ∈ ds, d.depth ≤ 50) ∧
  ∀ p, H p = none → Q (.ref p) (upd H p (.lst ((srt xs ds).map Prod.fst)))
theorem cr_sortedV (hu : X.A.units + 64 < cLine) : CallR X (.builtin "sorted") (rSortedV X.K) := by
  intro pins s σ H vs us Q I r h
  obtain ⟨a, xs, ds, rfl, hs, hd, hal, hk, hdp, q⟩ := h
  obtain ⟨its, rv, hl, hz⟩ := I.list hs
  rw [Vals.ref1 r]
  have hlen := dpall_len hd
  have ez := zip_snd hlen
  have zl : (xs.zip ds).length = xs.length := by rw [List.length_zip]; omega
  refine PySem.W.sorted_data (R := fun u (b : V × PyData) => RelV b.1 u) (enc := Prod.snd) (bs := xs.zip ds) hl.isList (each_vals rv hlen) (each_reads I rv hd) (by rw [ez]; exact hal) (by rw [ez]; exact hk) (by rw [zl]; exact hz) (fun b hb => ?_) fun out ho he => ?_
  · have := hdp b.2 (by rw [← ez]; exact List.mem_map_of_mem hb)
    omega
  · obtain ⟨ep, he'⟩ := PyProof.Rows.sortedAll_at s.heap its out.toArray
    have hlen2 : ((srt xs ds).map Prod.fst).length ≤ sizeLine := by
      unfold srt
      rw [List.length_map, List.length_mergeSort, zl]
      exact hz
    exact ⟨.ref _, upd H (s.heap.objs.size + 1) (.lst ((srt xs ds).map Prod.fst)), I.laid (t' := s.toks) (fun _ _ => PyProof.Rows.sortedAll_old) (Nat.le_succ _) ⟨hlen2, out, ep, vals_each he, he'⟩, rfl, q _ (I.hok.fresh (Nat.le_succ _))⟩
end
theorem srt_perm (xs : List V) (ds : List PyData) : (srt xs ds).Perm (xs.zip ds) := List.mergeSort_perm _ _
theorem srt_snd {xs : List V} {ds : List PyData} (h : xs.length = ds.length) : (srt xs ds).map Prod.snd = ds.mergeSort (dataLe false id) := by
  unfold srt
  rw [List.map_mergeSort (r := dataLe false Prod.snd) (s := dataLe false id) (fun a _ b _ => rfl), zip_snd h]
end So

set_option Elab.async false
set_option linter.all false
set_option maxRecDepth 100000
set_option maxHeartbeats 4000000
namespace Fl
open PySem PySem.Spec PyProof.Rows L2 Dl R
open PySem.W (dataLe dataLt AllAlike Sortable alike alikeAll)
/-! ### < on texts -/
def ltsC (x y : Dv) : R Dv := match x, y with
  | .d (.str a), .d (.str b) => ok (.d (.bool (decide (a.cps.toList < b.cps.toList))))
  | .d (.int i), .d (.int j) => ok (.d (.bool (decide (i < j))))
  | _, _ => no
def f2Q (f : Dv → Dv → R Dv) (x y : Dv) (q : Dv → Prop) : Prop := ∃ d, f x y = .ok d ∧ q d
theorem ltsC_ok (er : Str → Prop) (x y : Dv) (q : Dv → Prop) (h : wp (ltsC x y) q er) : f2Q ltsC x y q := by
  unfold ltsC at h
  unfold f2Q ltsC
  split at h <;> first | exact h.elim | exact ⟨_, rfl, h⟩
section
variable {X : Cx} {C : DC} {er : Str → Prop}
theorem lts_ok : OpR X (compareOp .Lt) (rD C (f2Q ltsC)) := by
  intro pins s σ H x y u1 u2 Q I rx ry ⟨hid, dx, dy, q, hp, r1, r2, ⟨d, e, h⟩, kk⟩
  unfold ltsC at e
  split at e
  · cases e
    cases r1; cases r2
    exact op_lt_str pins s σ H _ _ u1 u2 Q I rx ry ⟨_, _, rfl, rfl, kk _ (.d (.bool _)) H .refl hp (Dd.bl _) h⟩
  · cases e
    cases r1; cases r2
    exact op_lt pins s σ H _ _ u1 u2 Q I rx ry ⟨_, _, rfl, rfl, kk _ (.d (.bool _)) H .refl hp (Dd.bl _) h⟩
  · cases e
end
/-! ### sorted() of a list of data of one kind -/
def alikeB (ds : List PyData) : Bool := ds.all fun d => ds.all fun e => alike d e
def sortB (ds : List PyData) : Bool := (ds.all fun d => match d with | .tuple (_ :: _) => true | _ => false) || ds.all fun d => match d with | .tuple _ => false | .none => false | _ => true
theorem alikeB_ok {ds : List PyData} (h : alikeB ds = true) : AllAlike ds := fun d hd e he => List.all_eq_true.mp (List.all_eq_true.mp h d hd) e he
theorem sortB_ok {ds : List PyData} (h : sortB ds = true) : Sortable ds := by
  unfold sortB at h
  rw [Bool.or_eq_true] at h
  rcases h with h | h
  · refine .inl fun d hd => ?_
    have k := List.all_eq_true.mp h d hd
    split at k
    · exact ⟨_, _, rfl⟩
    · cases k
  · refine .inr fun d hd => ?_
    have k := List.all_eq_true.mp h d hd
    split at k
    · cases k
    · cases k
    · rename_i h1 h2
      exact ⟨fun z => h2 z, fun xs z => h1 xs z⟩
noncomputable def sortD (ds : List PyData) : List PyData := ds.mergeSort (dataLe false id)
noncomputable def sortedC (xs : List Dv) : R Dv := match xs with
  | [.d (.list ds)] => chk (alikeB ds && (sortB ds && ds.all fun d => decide (d.depth ≤ 50))) (ok (.d (.list (sortD ds))))
  | _ => no
theorem sortedC_ok (er : Str → Prop) (xs : List Dv) (q : Dv → Prop) (h : wp (sortedC xs) q er) : fQ sortedC xs q := by
  unfold sortedC at h
  unfold fQ sortedC
  split at h
  · obtain ⟨h1, h2⟩ := chk_wp h
    rw [h1]
    exact ⟨_, rfl, h2⟩
  · exact h.elim
theorem dd_zip {K : PySem.W.Frag} {H : Hp} : ∀ {zs : List (V × PyData)}, (∀ z ∈ zs, Dd K H z.1 z.2) → DdAll K H (zs.map Prod.fst) (zs.map Prod.snd)
  | [], _ => .nil
  | z :: zs, h => .cons (h z List.mem_cons_self) (dd_zip fun y hy => h y (List.mem_cons_of_mem _ hy))
theorem zip_dd {K : PySem.W.Frag} {H : Hp} : ∀ {vs : List V} {ds : List PyData}, DdAll K H vs ds → ∀ z ∈ vs.zip ds, Dd K H z.1 z.2
  | [], _, _, z, hz => by simp at hz
  | _ :: _, [], h, _, _ => by cases h
  | v :: vs, d :: ds, h, z, hz => by
    cases h with
    | cons a b =>
      rw [List.zip_cons_cons] at hz
      rcases List.mem_cons.mp hz with rfl | hz
      · exact a
      · exact zip_dd b z hz
section
variable {X : Cx} {C : DC} {er : Str → Prop}
theorem sorted_ok {k : Nat} (l : Lv0 X C k) : CallR X (.builtin "sorted") (rL C (fQ sortedC)) := by
  intro pins s σ H vs us Q I r ⟨hid, ds, q, hp, rs, ⟨d, e, h⟩, kk⟩
  unfold sortedC at e
  split at e
  · rename_i ds0
    cases hc : (alikeB ds0 && (sortB ds0 && ds0.all fun d => decide (d.depth ≤ 50))) with
    | true =>
      rw [hc] at e
      cases (show R.ok (Dv.d (.list (sortD ds0))) = ok d from e)
      rw [Bool.and_eq_true, Bool.and_eq_true] at hc
      obtain ⟨v, rfl, r1⟩ := rs.one
      obtain ⟨p, ws, rfl, h1, d1⟩ := r1.lst rfl
      have len := d1.len
      refine So.cr_sortedV (by have := l.room.un; omega) pins s σ H _ us Q I r ⟨p, ws, ds0, rfl, SqL.of h1, by rw [l.K]; exact DdAll.dp _ _ (d1.mono Dl.hide_mono), alikeB_ok hc.1, sortB_ok hc.2.1, fun d hd => of_decide_eq_true (List.all_eq_true.mp hc.2.2 d hd), fun p np => ?_⟩
      have dz : DdAll C.K (hide hid H) ((So.srt ws ds0).map Prod.fst) (sortD ds0) := by
        rw [show sortD ds0 = (So.srt ws ds0).map Prod.snd from (So.srt_snd len).symm]
        exact dd_zip fun z hz => zip_dd d1 z ((So.srt_perm ws ds0).mem_iff.mp hz)
      exact kk _ (.d (.list _)) _ (Ext.new np _) (hp.new np _) (new_lst hp dz np) h
    | false =>
      rw [hc] at e
      cases (show (R.no : R Dv) = ok d from e)
  · cases e
end
/-! ### the truth of data -/
def truR : Dv → R Bool
  | .d .none => ok false
  | .d (.bool b) => ok b
  | .d (.int i) => ok (i != 0)
  | .d (.str z) => chk (decide (z.length ≤ 1000000)) (ok ((z.length : Int) != 0))
  | .d (.list l) => ok (!l.isEmpty)
  | .d (.tuple l) => ok (!l.isEmpty)
  | .own l => ok (!l.isEmpty)
  | _ => no
def cTr (a : CE) (ρ : Rho) : R Bool := (a ρ).bind truR
theorem empty_len {α β : Type} {xs : List α} {ys : List β} (h : xs.length = ys.length) : ys.isEmpty = xs.isEmpty := by
  cases xs <;> cases ys <;> simp_all
section
variable {X : Cx} {C : DC} {er : Str → Prop}
theorem ft_truth {e : Expr} {A : CE} {k : Nat} (l : Lv0 X C k) (h : PE X e (tE C (up er A))) (hs : ∀ whole : Sem Value, isTrue e X.env whole = (do let v ← whole; standAt e.pos; holding [v] (truthy v)) := by intro _; rfl) : PT X e (tT C (up er (cTr A))) :=
  (pt_truth h hs).imp fun σ H Q ⟨hid, ρ, q, hp, sr, a, kk⟩ => ⟨hid, ρ, _, hp, sr, (by
    unfold up cTr at a
    rw [wp_bind] at a
    exact a), fun v x H1 e1 o1 r1 a1 => by
    unfold truR at a1
    split at a1
    · cases r1
      exact ⟨false, rfl, kk _ H1 e1 o1 a1⟩
    · cases r1
      exact ⟨_, rfl, kk _ H1 e1 o1 a1⟩
    · cases r1
      exact ⟨_, rfl, kk _ H1 e1 o1 a1⟩
    · obtain ⟨h1, h2⟩ := chk_wp a1
      cases r1
      exact ⟨_, ⟨Nat.le_trans (of_decide_eq_true h1) (by rw [sizeLine_eq]; decide), rfl⟩, kk _ H1 e1 o1 h2⟩
    · obtain ⟨p, vs, rfl, h4, h5⟩ := r1.lst rfl
      exact ⟨_, .inl ⟨vs, SqL.of h4, rfl⟩, kk _ H1 e1 o1 (by rw [← empty_len h5.len]; exact a1)⟩
    · obtain ⟨p, vs, rfl, h4, h5⟩ := r1.tup
      exact ⟨_, .inr (.inl ⟨vs, by rw [l.K]; exact h4, rfl⟩), kk _ H1 e1 o1 (by rw [← empty_len h5.len]; exact a1)⟩
    · obtain ⟨p, vs, rfl, h4, h5⟩ := r1.lst rfl
      exact ⟨_, .inl ⟨vs, SqL.of h4, rfl⟩, kk _ H1 e1 o1 (by rw [← empty_len h5.len]; exact a1)⟩
    · exact a1.elim⟩
end
end Fl

set_option Elab.async false
set_option autoImplicit false
set_option linter.all false
set_option maxRecDepth 100000
set_option maxHeartbeats 4000000
/-! sorted() of tuples of which two need be alike only as far as the first place where they differ; sorted() of a tuple -/
namespace So
open PySem PySem.Spec PySem.Calls PyProof.Rows L2
open PySem.W (EachIs dataLe dataLt alike alikeAll AllAlike Sortable SortsAt dataKind keyToks keyToksAll KatLex KatTups sortVals_each)

/-- alike up to the first two items that differ -/
def mixAll : List PyData → List PyData → Bool
  | x :: xs, y :: ys => alike x y && (!PyData.eqv x y || mixAll xs ys)
  | [], _ => true
  | _ :: _, [] => true
def mixB (ds : List PyData) : Bool := ds.all fun d => match d with
  | .tuple (x :: xs) => ds.all fun e => match e with
    | .tuple ys => mixAll (x :: xs) ys
    | _ => false
  | _ => false
structure Mix (ds : List PyData) : Prop where
  tup : ∀ d ∈ ds, ∃ x r, d = .tuple (x :: r)
  two : ∀ xs ys, PyData.tuple xs ∈ ds → PyData.tuple ys ∈ ds → mixAll xs ys = true
theorem mixB_ok {ds : List PyData} (h : mixB ds = true) : Mix ds := by
  have h := List.all_eq_true.mp h
  have one : ∀ d ∈ ds, ∃ x r, d = .tuple (x :: r) := fun d hd => by
    have k := h d hd
    split at k
    · exact ⟨_, _, rfl⟩
    · cases k
  refine ⟨one, fun xs ys hx hy => ?_⟩
  have k := h _ hx
  obtain ⟨x, r, e⟩ := one _ hx
  cases e
  exact List.all_eq_true.mp k _ hy
theorem mix_cons {x y : PyData} {xs ys : List PyData} (h : mixAll (x :: xs) (y :: ys) = true) : alike x y = true ∧ (PyData.eqv x y = true → mixAll xs ys = true) := by
  unfold mixAll at h
  obtain ⟨h1, h2⟩ := Bool.and_eq_true_iff.mp h
  refine ⟨h1, fun e => ?_⟩
  rw [e] at h2
  exact h2
theorem mix_one {h : Heap} : ∀ {xs ys : List PyData} {vs : List Value} {as bs : List Addr}, mixAll xs ys = true → ReadsAll h vs xs as → ReadsAll h vs ys bs → xs = ys
  | [], _, _, _, _, _, .nil, .nil => rfl
  | x :: xs, [], _, _, _, _, .cons .., q => by cases q
  | x :: xs, y :: ys, _, _, _, m, .cons r1 r2, q => by
    cases q with
    | cons q1 q2 =>
      obtain ⟨m1, m2⟩ := mix_cons m
      obtain rfl := PySem.W.alike_unique x y _ _ _ m1 r1 q1
      rw [mix_one (m2 (PySem.W.eqv_refl_alike x m1)) r2 q2]
theorem mix_key {h : Heap} {ds : List PyData} (m : Mix ds) {v : Value} {d : PyData} {as : List Addr} (hd : d ∈ ds) (r : Reads h v d as) : (dataKind h ds).keyOf v = some (keyToks d) := by
  classical
  have ex : ∃ d', d' ∈ ds ∧ ∃ as', Reads h v d' as' := ⟨d, hd, as, r⟩
  have same : ex.choose = d := by
    obtain ⟨h1, as', h2⟩ := ex.choose_spec
    obtain ⟨x, xr, e1⟩ := m.tup _ h1
    obtain ⟨y, yr, e2⟩ := m.tup _ hd
    subst e2
    rw [e1] at h1 h2 ⊢
    have tt := m.two _ _ h1 hd
    cases h2 with
    | tuple g1 g2 g3 g4 =>
      cases r with
      | tuple k1 k2 k3 k4 =>
        rw [k1] at g1
        cases g1
        rw [k3] at g3
        cases g3
        rw [mix_one tt g4 k4]
  have e : (dataKind h ds).keyOf v = some (keyToks ex.choose) := dif_pos ex
  rw [e, same]
section
variable {prog : Program} {w : World} {A : Around} {E : Value → Shared → Prop} {s : Shared}
/-- two tuples, item by item -/
theorem kat_mix {b fin : Bool} {Q : Bool → Shared → Prop} : ∀ (xs ys : List PyData) (i : Nat) (vs ws : List Value) (as bs : List Addr), ReadsAll s.heap vs xs as → ReadsAll s.heap ws ys bs → mixAll xs ys = true →
    A.units + min (PyData.depthAll xs) (PyData.depthAll ys) < cLine → (b = true → i = 0 → ∀ x r t, xs = x :: r → x ≠ .tuple t) → fin = decide (xs.length < ys.length) → Q (PyProof.Rows.lexLt itemOrd (keyToksAll xs) (keyToksAll ys)) s → KatLex prog w A b fin Q (vs.zip ws) i s
  | [], ys, i, vs, ws, as, bs, ra, rb, _, hu, hb, hf, hq => PySem.W.katLex_alike [] ys i vs ws as bs ra rb (by simp [alikeAll]) hu hb hf hq
  | x :: xs, [], i, vs, ws, as, bs, ra, rb, _, hu, hb, hf, hq => PySem.W.katLex_alike (x :: xs) [] i vs ws as bs ra rb (by simp [alikeAll]) hu hb hf hq
  | x :: xs, y :: ys, i, _, _, _, _, .cons r1 r2, .cons q1 q2, m, hu, hb, hf, hq => by
    obtain ⟨m1, m2⟩ := mix_cons m
    have hx := PySem.SeqAt.room_head hu
    refine PySem.W.kat_cons (PySem.W.eqAt_alike x y A s _ _ _ _ r1 q1 m1 hx prog w _ _ ?_)
    by_cases c : PyData.eqv x y = true
    · rw [PySem.W.dataLt_all_yes m1 c] at hq
      rw [c]
      exact PySem.W.kat_yes (kat_mix xs ys (i + 1) _ _ _ _ r2 q2 (m2 c) (PySem.SeqAt.room_tail hu) (fun _ z => absurd z (Nat.succ_ne_zero i)) (by rw [hf]; simp only [List.length_cons, Nat.add_lt_add_iff_right]) hq)
    · have c : PyData.eqv x y = false := by simpa using c
      rw [PySem.W.dataLt_all_no m1 c] at hq
      rw [c]
      refine PySem.W.kat_no (PySem.W.oneLt_alike (fun z t => ?_) r1 q1 m1 (PySem.W.ne_none_of m1 c) hx hq)
      obtain ⟨z1, z2⟩ := Bool.and_eq_true_iff.mp z
      exact hb z1 (eq_of_beq z2) x xs t rfl
theorem sorts_mix {vs : List Value} {ds : List PyData} (e : EachIs (fun v d => ∃ as, Reads s.heap v d as) vs ds) (m : Mix ds) (hu : ∀ d, d ∈ ds → A.units + d.depth < cLine) : SortsAt prog w A s (dataKind s.heap ds) vs := by
  refine ⟨fun v hv => ?_, ?_⟩
  · obtain ⟨d, hd, as, r⟩ := e.left v hv
    exact ⟨_, mix_key m hd r⟩
  cases ds with
  | nil =>
    cases e
    refine ⟨general', fun E x y a b Q ha _ _ => ?_, fun z => absurd z (by decide)⟩
    obtain ⟨d, _, hd, _⟩ := PySem.W.dataKind_inv ha
    cases hd
  | cons d0 ds0 =>
    obtain ⟨x0, r0, rfl⟩ := m.tup d0 List.mem_cons_self
    have like : ∀ x r, PyData.tuple (x :: r) ∈ PyData.tuple (x0 :: r0) :: ds0 → PySem.W.dataType x = PySem.W.dataType x0 := fun x r hm => PySem.W.dataType_alike (mix_cons (m.two _ _ hm List.mem_cons_self)).1
    refine ⟨tuples' (PySem.W.dataType x0 != Value.type "tuple"), fun E x y a b Q ha hb hq => ?_, fun h2 E Q hq => ?_⟩
    · obtain ⟨d, as, hd, ra, rfl⟩ := PySem.W.dataKind_inv ha
      obtain ⟨d', as', hd', rb, rfl⟩ := PySem.W.dataKind_inv hb
      obtain ⟨u, ur, rfl⟩ := m.tup d hd
      obtain ⟨z, zr, rfl⟩ := m.tup d' hd'
      have q2 : Q (dataLt (.tuple (u :: ur)) (.tuple (z :: zr))) s := hq
      rw [PySem.W.dataLt_tuple] at q2
      have dm : A.units + min (PyData.tuple (u :: ur)).depth (PyData.tuple (z :: zr)).depth < cLine := Nat.lt_of_le_of_lt (Nat.add_le_add_left (Nat.min_le_left ..) _) (hu _ hd)
      have dm := PySem.SeqAt.room_in dm
      cases ra with
      | @tuple l1 o1 xs n1 _ _ h1 h2 h3 h4 =>
        cases rb with
        | @tuple l2 o2 ys n2 _ _ k1 k2 k3 k4 =>
          have e1 := SeqAt.ReadsAll.length _ _ _ h4
          have e2 := SeqAt.ReadsAll.length _ _ _ k4
          rw [Array.length_toList] at e1 e2
          refine PySem.W.kat_lt h1 h3 k1 k3 (kat_mix (u :: ur) (z :: zr) 0 _ _ _ _ h4 k4 (m.two _ _ hd hd') (by have : A.in1.units = A.units + 1 := rfl; omega) (fun c _ x r t ex => ?_) (by rw [e1, e2]) q2)
          cases ex
          rw [← like u ur hd] at c
          exact PySem.W.dataType_tuple c t
    · obtain ⟨fs, t1, t2, t3⟩ := PySem.W.each_katTups e m.tup
      refine PySem.W.kat_kind (T := PySem.W.dataType x0) t1 (by omega) (fun f hf => ?_) (beq_self_eq_true _) hq
      obtain ⟨x, r, as, m1, m2⟩ := t3 f hf
      rw [← like x r m1]
      exact PySem.W.looks_reads m2
/-- what is sorted can be sorted one way or the other -/
def Can (ds : List PyData) : Prop := (AllAlike ds ∧ Sortable ds) ∨ Mix ds
theorem Can.at {vs : List Value} {ds : List PyData} (e : EachIs (fun v d => ∃ as, Reads s.heap v d as) vs ds) (c : Can ds) (hu : ∀ d, d ∈ ds → A.units + d.depth < cLine) : SortsAt prog w A s (dataKind s.heap ds) vs :=
  c.elim (fun c => SortsAt.data e c.1 c.2 hu) fun m => sorts_mix e m hu
theorem Can.key {h : Heap} {ds : List PyData} (c : Can ds) {v : Value} {d : PyData} {as : List Addr} (hd : d ∈ ds) (r : Reads h v d as) : (dataKind h ds).keyOf v = some (keyToks d) :=
  c.elim (fun c => PySem.W.dataKind_some c.1 hd r) fun m => mix_key m hd r
theorem Can.vals {β : Type} {h : Heap} {R : Value → β → Prop} {enc : β → PyData} {vs : List Value} {bs : List β} (c : Can (bs.map enc)) (e : EachIs R vs bs) (er : EachIs (fun v b => ∃ as, Reads h v (enc b) as) vs bs) :
    EachIs R (PySem.W.sortVals (dataKind h (bs.map enc)) false vs vs) (bs.mergeSort (dataLe false enc)) :=
  sortVals_each (κ := dataKind h (bs.map enc)) (fun b => keyToks (enc b)) e ((PySem.W.each_mem er).mono fun v b ⟨⟨as, r⟩, hb⟩ => c.key (List.mem_map_of_mem hb) r)
end
/-! ### the calls -/
section
variable {prog : Program} {w : World} {A : Around} {E : Value → Shared → Prop} {s : Shared}
/-- the items of a tuple, as a new list -/
theorem collect_tup {l : Addr} {vs : List Value} {Q : List Value → Shared → Prop} (hl : IsTup s.heap l vs.toArray) (hz : vs.length ≤ sizeLine) (h : Q vs { s with heap := (s.heap.push (seqObj "list" #[] 0)).update s.heap.objs.size (Obj.mapSeq (· ++ vs.toArray)) }) : wpAny (model prog w) A (collect (.ref l)) Q E s := by
  obtain ⟨o, ho, hc, n, hd⟩ := hl
  have new0 : (s.heap.push (seqObj "list" #[] 0)).get? s.heap.objs.size = some (seqObj "list" #[] 0) := Heap.get?_push_size _ rfl
  have old : (s.heap.push (seqObj "list" #[] 0)).get? l = some o := Heap.get?_push_of_some _ ho
  unfold collect
  refine wpAny_bind (wpAny_runValue (codeAny_builtin entry_proto_collect' ?_))
  refine wpAny_bind (wpAny_newList (wpAny_pure ⟨Code.quiet_builtin _ (by decide +kernel), codeAny_builtin entry_list_iadd' ?_⟩))
  show wpAny _ _ (Builtin.List.listExtendWith (.ref s.heap.objs.size) (.ref l) (.ref s.heap.objs.size)) _ _ { s with heap := s.heap.push (seqObj "list" #[] 0) }
  unfold Builtin.List.listExtendWith
  refine wpAny_bind (wpAny_typeOf (T := "tuple") ⟨o, old, hc⟩ ?_)
  rw [if_pos (by rw [show (Value.type "tuple" == Value.type "tuple") = true by decide +kernel, Bool.or_true])]
  refine wpAny_bind (listItems_at old hd (wpAny_bind (listItems_at new0 rfl ?_)))
  rw [if_neg (by simp)]
  refine wpAny_bind (listUpdate_at new0 rfl ?_ (Nat.zero_le _) (by show (#[] ++ vs.toArray).size ≤ _; rw [Array.empty_append, List.size_toArray]; exact Nat.le_succ_of_le hz))
  refine wpAny_pure (wpAny_bind (wpAny_load (get?_update_seq new0 _) ?_))
  show wpAny _ _ (pure ((#[] : Array Value) ++ vs.toArray).toList) Q E _
  rw [Array.empty_append]
  exact wpAny_pure h
/-- sorted(x), where x's items are vs -/
theorem sorted_by {x : Value} {vs : List Value} {Q : Value → Shared → Prop} {κ : PyProof.Rows.KeyKind} (hz : vs.length ≤ sizeLine)
    (col : ∀ (A : Around) (Q : List Value → Shared → Prop) (E : Value → Shared → Prop), Q vs { s with heap := (s.heap.push (seqObj "list" #[] 0)).update s.heap.objs.size (Obj.mapSeq (· ++ vs.toArray)) } → wpAny (model prog w) A (collect x) Q E s)
    (S : SortsAt prog w A.in1.in1 { s with heap := PySem.W.sortingHeap (PySem.W.copyHeap s.heap vs) (s.heap.objs.size + 1) vs } κ vs) (h : Q (.ref (s.heap.objs.size + 1)) { s with heap := sortedAll s.heap vs (PySem.W.sortVals κ false vs vs).toArray }) : wpAny (model prog w) A (call (.builtin "sorted") [x]) Q E s := by
  refine call_function_entry kind_sorted plain_sorted entry_sorted (args_sorted1 x) ?_
  unfold Builtin.«sorted»
  refine wpAny_bind (m := checkCount "sorted" 1 1 _) (wpAny_pure (wpAny_bind (col _ _ _ (wpAny_bind (wpAny_newList ?_ hz)))))
  have at1 : ((s.heap.push (seqObj "list" #[] 0)).update s.heap.objs.size (Obj.mapSeq (· ++ vs.toArray))).objs.size = s.heap.objs.size + 1 := by rw [Heap.size_update, size_push']
  rw [at1]
  refine wpAny_bind (wpAny_holding (wpAny_call_entry slot_list_sort ⟨_, PySem.W.copyHeap_at s.heap vs, rfl⟩ entry_list_sort (PySem.W.list_sort_vals (s := { s with heap := PySem.W.copyHeap s.heap vs }) (PySem.W.copyHeap_at s.heap vs) S hz ⟨_, rfl, ?_⟩) (args_list_sort _)))
  exact wpAny_pure ⟨_, rfl, h⟩
end
section
variable {X : Cx} {pins : List (Addr × Obj)} {σ : L2.St} {H : Hp} {s : Shared}
/-- sorted() of a list or a tuple -/
def rSortedC (K : PySem.W.Frag) : List V → Hp → VK → Prop := fun vs H Q => ∃ (a : Addr) (xs : List V) (ds : List PyData), vs = [V.ref a] ∧ (SqL K H a xs ∨ SqT K H a xs) ∧ DpAll K H xs ds ∧ Can ds ∧ (∀ d ∈ ds, d.depth ≤ 50) ∧
  ∀ p, H p = none → Q (.ref p) (upd H p (.lst ((srt xs ds).map Prod.fst)))
theorem cr_sortedC (hu : X.A.units + 64 < cLine) : CallR X (.builtin "sorted") (rSortedC X.K) := by
  intro pins s σ H vs us Q I r ⟨a, xs, ds, e, hs, hd, can, hdp, q⟩
  subst e
  rw [Vals.ref1 r]
  have hlen := dpall_len hd
  have ez := zip_snd hlen
  have zl : (xs.zip ds).length = xs.length := by rw [List.length_zip]; omega
  have main : ∀ (its : List Value), Vals xs its → its.length ≤ sizeLine → (∀ (A : Around) (Q : List Value → Shared → Prop) (E : Value → Shared → Prop), Q its { s with heap := (s.heap.push (seqObj "list" #[] 0)).update s.heap.objs.size (Obj.mapSeq (· ++ its.toArray)) } → wpAny (model X.prog X.w) A (collect (.ref a)) Q E s) →
      wpAny (model X.prog X.w) X.A (call (.builtin "sorted") [.ref a]) (EP X pins σ Q) X.xe s := fun its rv hz col => by
    have each := each_vals rv hlen
    have er : EachIs (fun v (b : V × PyData) => ∃ as, Reads (PySem.W.sortingHeap (PySem.W.copyHeap s.heap its) (s.heap.objs.size + 1) its) v b.2 as) its (xs.zip ds) :=
      (each_reads I rv hd).mono fun _ _ ⟨as, r⟩ => ⟨as, PyProof.Rows.Reads.keeps (fun _ _ => PySem.W.sorting_copy_old) r⟩
    have can2 : Can ((xs.zip ds).map Prod.snd) := by rw [ez]; exact can
    refine sorted_by (κ := dataKind (PySem.W.sortingHeap (PySem.W.copyHeap s.heap its) (s.heap.objs.size + 1) its) ((xs.zip ds).map Prod.snd)) hz col (can2.at (s := { s with heap := PySem.W.sortingHeap (PySem.W.copyHeap s.heap its) (s.heap.objs.size + 1) its }) (PySem.W.each_map (R := fun v d => ∃ as, Reads (PySem.W.sortingHeap (PySem.W.copyHeap s.heap its) (s.heap.objs.size + 1) its) v d as) Prod.snd er) fun d hd => ?_) ?_
    · rw [ez] at hd
      have := hdp d hd
      have e : X.A.in1.in1.units = X.A.units + 2 := rfl
      omega
    · have out := can2.vals each er
      have ol := out.length
      obtain ⟨ep, he'⟩ := PyProof.Rows.sortedAll_at s.heap its (PySem.W.sortVals (dataKind (PySem.W.sortingHeap (PySem.W.copyHeap s.heap its) (s.heap.objs.size + 1) its) ((xs.zip ds).map Prod.snd)) false its its).toArray
      have vl := rv.length
      have hlen2 : ((srt xs ds).map Prod.fst).length ≤ sizeLine := by
        unfold srt
        rw [List.length_map, List.length_mergeSort, zl]
        omega
      exact ⟨.ref _, upd H (s.heap.objs.size + 1) (.lst ((srt xs ds).map Prod.fst)), I.laid (t' := s.toks) (fun _ _ => PyProof.Rows.sortedAll_old) (Nat.le_succ _) ⟨hlen2, _, ep, vals_each out, he'⟩, rfl, q _ (I.hok.fresh (Nat.le_succ _))⟩
  rcases hs with hs | hs
  · obtain ⟨its, rv, hl, hz⟩ := I.list hs
    exact main its rv (by rw [← rv.length]; exact hz) fun A Q E h => collect_list hl.isList h (by rw [← rv.length]; exact hz)
  · obtain ⟨its, rv, hl, hz⟩ := I.tuple hs
    exact main its rv (by rw [← rv.length]; exact hz) fun A Q E h => collect_tup hl (by rw [← rv.length]; exact hz) h
end
end So

set_option Elab.async false
set_option linter.all false
set_option maxRecDepth 100000
set_option maxHeartbeats 4000000
/-! t += u of tuples -/
namespace It
open PySem PySem.Spec PyProof.Rows L2 HT
theorem no_iadd : typeLookup (.type "tuple") (dunderI "add") = pure none := by rw [typeLookup_type, builtinLookup_eq_fast]; kernel_rfl
section
variable {prog : Program} {w : World} {A : Around} {E : Value → Shared → Prop} {s : Shared}
theorem iconcat {T id : String} {B : Builtin} {a b : Value} {S : PySem.Spec} {Q : Value → Shared → Prop} (ha : s.TypeIs a T) (hb : s.TypeIs b T) (hno : typeLookup (.type T) (dunderI "add") = pure none) (hfill : fillsNumberSlot (.type T) "add" = pure false)
    (hseq : seqSlot? (.type T) "__add__" = pure (some (.builtin id))) (slot : Slot T "__add__" id) (entry : entryFor table id = some B) (args : argsOk id ⟨[a, b], []⟩) (g : Meets (B ⟨[a, b], []⟩) S) (h : S A (wants Q E) s) : wpAny (model prog w) A (inplaceOp .Add a b) Q E s :=
  wpAny_inplaceOp_concat ha hb hno hfill hseq (call_meets slot ha entry args g h)
theorem icat {t b : Addr} {vs ws : List Value} {Q : Value → Shared → Prop} (ht : IsTup s.heap t vs.toArray) (hb : IsTup s.heap b ws.toArray) (h0 : vs = [] → Q (.ref b) s)
    (h1 : vs ≠ [] → ws = [] → Q (.ref t) s) (h2 : vs ≠ [] → ws ≠ [] → Q (.ref s.heap.objs.size) { s with heap := s.heap.push { cls := .type "tuple", data := .seq (vs ++ ws).toArray } })
    (hz : vs.length + ws.length ≤ sizeLine) : wpAny (model prog w) A (inplaceOp .Add (.ref t) (.ref b)) Q E s := by
  obtain ⟨⟨c1, e1, a1, l1⟩, p1, k1, m1, q1⟩ := id ht
  obtain ⟨⟨c2, e2, a2, l2⟩, p2, k2, m2, q2⟩ := id hb
  simp only at k1 q1 k2 q2
  subst k1 q1 k2 q2
  by_cases x : vs = []
  · subst x
    exact iconcat ⟨_, p1, rfl⟩ ⟨_, p2, rfl⟩ no_iadd noFill_tuple_add seq_tuple_add PySem.F.slot_tuple_add PySem.F.entry_tuple_add (PySem.F.args_tuple_add_2 _ _) (tuple_addW0 t b ([] : List Value).toArray ws.toArray m1 m2 e1 e2 l1 l2 (by simp)) ⟨p1, p2, h0 rfl⟩
  · by_cases y : ws = []
    · exact iconcat ⟨_, p1, rfl⟩ ⟨_, p2, rfl⟩ no_iadd noFill_tuple_add seq_tuple_add PySem.F.slot_tuple_add PySem.F.entry_tuple_add (PySem.F.args_tuple_add_2 _ _) (tuple_addW1 t b vs.toArray ws.toArray m1 m2 e1 e2 l1 l2 (by simpa using x) (by simp [y])) ⟨p1, p2, h1 x y⟩
    · have q := h2 x y
      rw [show (vs ++ ws).toArray = vs.toArray ++ ws.toArray by simp] at q
      exact iconcat ⟨_, p1, rfl⟩ ⟨_, p2, rfl⟩ no_iadd noFill_tuple_add seq_tuple_add PySem.F.slot_tuple_add PySem.F.entry_tuple_add (PySem.F.args_tuple_add_2 _ _) (tuple_addW2 t b vs.toArray ws.toArray m1 m2 e1 e2 l1 l2 (by simpa using x) (by simpa using y) (by rw [List.size_toArray, List.size_toArray]; exact hz)) ⟨p1, p2, q⟩
end
section
variable {X : Cx}
theorem ip_tup : PIp X .Add (rCatA X.K) := by
  intro pins s σ H x y v u Q I rx ry h
  obtain ⟨a, b, xs, ys, rfl, rfl, ha, hb, hz, q0, q1, q2⟩ := h
  cases rx
  cases ry
  obtain ⟨its, r1, p1, _⟩ := I.tuple ha
  obtain ⟨us, r2, p2, _⟩ := I.tuple hb
  refine icat p1 p2 (fun e => ⟨.ref b, H, I, rfl, q0 (r1.nil_iff.mp e)⟩) (fun e1 e2 => ⟨.ref a, H, I, rfl, q1 (fun z => e1 (r1.nil_iff.mpr z)) (r2.nil_iff.mp e2)⟩) (fun e1 e2 => ?_) (by rw [← r1.length, ← r2.length]; exact hz)
  have z1 : xs ≠ [] := fun z => e1 (r1.nil_iff.mpr z)
  have z2 : ys ≠ [] := fun z => e2 (r2.nil_iff.mpr z)
  refine ⟨.ref s.heap.objs.size, _, I.laid (t' := s.toks) (o := .tup (xs ++ ys)) (fun b ob q => Heap.get?_push_of_some _ q) (Nat.le_refl _) ?_, rfl, q2 z1 z2 _ (I.hok.fresh (Nat.le_refl _))⟩
  exact ⟨by rw [List.length_append]; exact hz, _, r1.append r2, IsTup.new _ _⟩
end
end It

set_option Elab.async false
set_option autoImplicit false
set_option linter.all false
set_option maxRecDepth 100000
set_option maxHeartbeats 4000000
/-! ### a tuple, none or one time -/
namespace L2
open PySem PySem.Spec PyProof.Rows
theorem tup_mul_same (l : Addr) (items : Array Value) (n : Nat) (dd : Option Addr) (sl : Array (Option Value)) (x : Int) (u : Tok) (c0 : (decide (x < -(2 ^ 63)) || decide (x ≥ 2 ^ 63)) = false) (c1 : (items.isEmpty || x == 1) = true) :
    Meets (Builtin.«tuple.__mul__» ⟨[.ref l, .int x u], []⟩) (fun _ R s => s.heap.get? l = some { cls := .type "tuple", dict := dd, data := .seq items n, slots := sl } ∧ R (.ok (.ret (Value.ref l))) s) :=
  .of_wp fun prog w A R s h => by
    obtain ⟨hp, g, d, tk, os⟩ := s
    obtain ⟨hl, h⟩ := h
    have f1 := AutoSeq1.idx_int
    wp_walk using wpAny_loadPart' hl
    repeat (first
      | (refine wpAny_ite_false (decide_eq_false (by rw [c0]; exact Bool.false_ne_true)) ?_; wp_walk using wpAny_loadPart' hl)
      | (refine wpAny_ite_true (decide_eq_true c1) ?_; wp_walk using wpAny_loadPart' hl))
    exact ⟨_, rfl, h⟩
theorem tup_mul_none (l : Addr) (items : Array Value) (n : Nat) (dd : Option Addr) (sl : Array (Option Value)) (x : Int) (u : Tok) (c0 : (decide (x < -(2 ^ 63)) || decide (x ≥ 2 ^ 63)) = false) (c1 : (items.isEmpty || x == 1) = false) (c2 : (decide (x ≤ 0) || items.isEmpty) = true) :
    Meets (Builtin.«tuple.__mul__» ⟨[.ref l, .int x u], []⟩) (fun _ R s => s.heap.get? l = some { cls := .type "tuple", dict := dd, data := .seq items n, slots := sl } ∧
      R (.ok (.ret (Value.ref s.heap.objs.size))) { s with heap := s.heap.push { cls := Value.type "tuple", data := Data.seq #[] }, toks := s.toks }) :=
  .of_wp fun prog w A R s h => by
    obtain ⟨hp, g, d, tk, os⟩ := s
    obtain ⟨hl, h⟩ := h
    have f1 := AutoSeq1.idx_int
    wp_walk using wpAny_loadPart' hl
    repeat (first
      | (refine wpAny_ite_false (decide_eq_false (by rw [c0]; exact Bool.false_ne_true)) ?_; wp_walk using wpAny_loadPart' hl)
      | (refine wpAny_ite_false (decide_eq_false (by rw [c1]; exact Bool.false_ne_true)) ?_; wp_walk using wpAny_loadPart' hl)
      | (refine wpAny_ite_true (decide_eq_true c2) ?_; wp_walk using wpAny_loadPart' hl))
    exact ⟨_, rfl, h⟩
/-- t * k where k is at most 1, or t is empty -/
def rRepS (K : PySem.W.Frag) : R2 := fun x y H Q => ∃ l k xs, x = .ref l ∧ y = .int k ∧ SqT K H l xs ∧ -1000 ≤ k ∧ k ≤ 1000 ∧ ((xs = [] ∨ k = 1) ∧ Q x H ∨ (xs ≠ [] ∧ k ≤ 0) ∧ ∀ p, H p = none → Q (.ref p) (upd H p (.tup [])))
section
variable {X : Cx}
theorem op_repS : OpR X (binaryOp .Mult) (rRepS X.K) := by
  intro pins s σ H x y v u Q I rx ry ⟨l, k, xs, ex, ey, hT, h1, h2, h⟩
  subst ex ey
  cases rx
  obtain ⟨t, rfl⟩ := ry
  obtain ⟨its, r, ⟨⟨cls, dd, data, sl⟩, ho, hc, n, hd⟩, hs⟩ := I.tuple hT
  simp only at hc hd
  subst hc hd
  have hle := r.length
  have c0 : (decide (k < -(2 ^ 63)) || decide (k ≥ 2 ^ 63)) = false := by
    rw [decide_eq_false (by omega), decide_eq_false (by omega)] <;> rfl
  have emp : its.toArray.isEmpty = decide (xs = []) := by
    cases its with
    | nil =>
      have : xs = [] := List.eq_nil_of_length_eq_zero hle
      rw [decide_eq_true this]
      rfl
    | cons a b =>
      have : xs ≠ [] := fun e => by rw [e] at hle; cases hle
      rw [decide_eq_false this]
      rfl
  rcases h with ⟨h, q⟩ | ⟨⟨h3, h4⟩, q⟩
  · refine wpAny_binaryOp_repeat_ref (T := "tuple") (U := "int") (by decide) ⟨_, ho, rfl⟩ (fun s' => typeIs_int s' k t) noFill_tuple_mul F.fills_int_mul F.slot_int_rmul repeat_tuple F.slot_int_index.lookup
      (call_meets F.slot_int_rmul (typeIs_int s k t) F.entry_int_rmul (F.args_int_rmul_2 _ _) (int_rmul_tuple k t l its.toArray n dd sl)
        ⟨ho, rfl, ⟨_, ho, rfl⟩, call_meets F.slot_tuple_mul ⟨_, ho, rfl⟩ F.entry_tuple_mul (F.args_tuple_mul_2 _ _) (tup_mul_same l its.toArray n dd sl k t c0 (by
          rw [emp]
          rcases h with h | h
          · rw [decide_eq_true h, Bool.true_or]
          · rw [h, beq_self_eq_true, Bool.or_true])) ⟨ho, ?_⟩⟩)
    exact ⟨.ref l, H, I, rfl, q⟩
  · refine wpAny_binaryOp_repeat_ref (T := "tuple") (U := "int") (by decide) ⟨_, ho, rfl⟩ (fun s' => typeIs_int s' k t) noFill_tuple_mul F.fills_int_mul F.slot_int_rmul repeat_tuple F.slot_int_index.lookup
      (call_meets F.slot_int_rmul (typeIs_int s k t) F.entry_int_rmul (F.args_int_rmul_2 _ _) (int_rmul_tuple k t l its.toArray n dd sl)
        ⟨ho, rfl, ⟨_, ho, rfl⟩, call_meets F.slot_tuple_mul ⟨_, ho, rfl⟩ F.entry_tuple_mul (F.args_tuple_mul_2 _ _) (tup_mul_none l its.toArray n dd sl k t c0 (by
          rw [emp, decide_eq_false h3, Bool.false_or]
          exact beq_eq_false_iff_ne.mpr (by omega)) (by rw [decide_eq_true h4, Bool.true_or])) ⟨ho, ?_⟩⟩)
    exact ⟨.ref s.heap.objs.size, _, I.laid (t' := s.toks) (o := .tup []) (fun b ob q => Heap.get?_push_of_some _ q) (Nat.le_refl _) ⟨Nat.zero_le _, [], .nil, IsTup.new _ _⟩, rfl, q _ (I.hok.fresh (Nat.le_refl _))⟩
end
end L2
namespace Fl
open PySem PySem.Spec PyProof.Rows L2 Dl R
open PySem.W (dataLe dataLt AllAlike Sortable alike alikeAll)
/-! ### * with tuples of any length -/
def mulC2 (x y : Dv) : R Dv := match x, y with
  | .d (.tuple a), .d (.int k) => chk (decide (-1000 ≤ k ∧ k ≤ 1000 ∧ a.length ≤ 1000)) (ok (.d (.tuple (repD a k))))
  | x, y => mulC x y
def mulD2 (x y : Dv) (q : Dv → Prop) : Prop := match x, y with
  | .d (.tuple a), .d (.int k) => (-1000 ≤ k ∧ k ≤ 1000 ∧ a.length ≤ 1000) ∧ q (.d (.tuple (repD a k)))
  | x, y => mulD x y q
theorem mulC2_ok (er : Str → Prop) (x y : Dv) (q : Dv → Prop) (h : wp (mulC2 x y) q er) : mulD2 x y q := by
  unfold mulC2 at h
  unfold mulD2
  split at h
  · obtain ⟨h1, h2⟩ := chk_wp h
    exact ⟨of_decide_eq_true h1, h2⟩
  · exact mulC_ok er _ _ _ h
theorem repD_one (a : List PyData) : repD a 1 = a := by
  unfold repD
  show (List.replicate 1 a).flatten = a
  simp
theorem repD_nil (k : Int) : repD [] k = [] := by
  unfold repD
  simp
theorem repD_zero {a : List PyData} {k : Int} (h : k ≤ 0) : repD a k = [] := by
  unfold repD
  rw [show k.toNat = 0 by omega]
  rfl
section
variable {X : Cx} {C : DC} {er : Str → Prop}
theorem mul2_ok {k : Nat} (l : Lv0 X C k) : OpR X (binaryOp .Mult) (rD C mulD2) := by
  intro pins s σ H x y u1 u2 Q I rx ry ⟨hid, dx, dy, q, hp, r1, r2, h, kk⟩
  unfold mulD2 at h
  split at h
  · rename_i a k'
    obtain ⟨⟨h1, h2, h3⟩, h4⟩ := h
    by_cases big : 2 ≤ k' ∧ a ≠ []
    · exact mul_ok l pins s σ H x y u1 u2 Q I rx ry ⟨hid, _, _, q, hp, r1, r2, ⟨⟨big.2, big.1, h2, h3⟩, h4⟩, kk⟩
    · have r1' := r1
      obtain ⟨p, vs, rfl, hT, d1⟩ := r1.tup
      cases r2
      have l1 := d1.len
      refine op_repS pins s σ H _ _ u1 u2 Q I rx ry ⟨p, _, vs, rfl, rfl, by rw [l.K]; exact hT, h1, h2, ?_⟩
      by_cases c : a = [] ∨ k' = 1
      · refine .inl ⟨c.imp (fun e => List.length_eq_zero_iff.mp (by rw [l1, e]; rfl)) id, kk _ _ H .refl hp r1' ?_⟩
        rcases c with rfl | rfl
        · rw [repD_nil] at h4; exact h4
        · rw [repD_one] at h4; exact h4
      · have c1 : a ≠ [] := fun e => c (.inl e)
        have c2 : k' ≠ 1 := fun e => c (.inr e)
        have c3 : k' ≤ 0 := by
          rcases Int.lt_or_le k' 2 with z | z
          · omega
          · exact absurd ⟨z, c1⟩ big
        rw [repD_zero c3] at h4
        exact .inr ⟨⟨fun e => c1 (List.length_eq_zero_iff.mp (by rw [← l1, e]; rfl)), c3⟩, fun p np => kk _ _ _ (Ext.new np _) (hp.new np _) (new_tup hp .nil np) h4⟩
  · exact mul_ok l pins s σ H x y u1 u2 Q I rx ry ⟨hid, _, _, q, hp, r1, r2, h, kk⟩
end
/-! ### sorted() -/
noncomputable def sorted2S (ds : List PyData) : R Dv := chk (((alikeB ds && sortB ds) || So.mixB ds) && ds.all fun d => decide (d.depth ≤ 50)) (ok (.d (.list (sortD ds))))
noncomputable def sorted2C (xs : List Dv) : R Dv := match xs with
  | [.d (.list ds)] => sorted2S ds
  | [.d (.tuple ds)] => sorted2S ds
  | [.own ds] => sorted2S ds
  | _ => no
theorem sorted2S_of {ds : List PyData} {q : Dv → Prop} {er : Str → Prop} (h : wp (sorted2S ds) q er) : So.Can ds ∧ (∀ d ∈ ds, d.depth ≤ 50) ∧ q (.d (.list (sortD ds))) := by
  unfold sorted2S at h
  obtain ⟨h1, h2⟩ := chk_wp h
  rw [Bool.and_eq_true, Bool.or_eq_true, Bool.and_eq_true] at h1
  exact ⟨h1.1.imp (fun z => ⟨alikeB_ok z.1, sortB_ok z.2⟩) So.mixB_ok, fun d hd => of_decide_eq_true (List.all_eq_true.mp h1.2 d hd), h2⟩
def sorted2Q (xs : List Dv) (q : Dv → Prop) : Prop := ∃ ds, (xs = [.d (.list ds)] ∨ xs = [.d (.tuple ds)] ∨ xs = [.own ds]) ∧ So.Can ds ∧ (∀ d ∈ ds, d.depth ≤ 50) ∧ q (.d (.list (sortD ds)))
theorem sorted2C_ok (er : Str → Prop) (xs : List Dv) (q : Dv → Prop) (h : wp (sorted2C xs) q er) : sorted2Q xs q := by
  unfold sorted2C at h
  split at h
  · exact ⟨_, .inl rfl, sorted2S_of h⟩
  · exact ⟨_, .inr (.inl rfl), sorted2S_of h⟩
  · exact ⟨_, .inr (.inr rfl), sorted2S_of h⟩
  · exact h.elim
section
variable {X : Cx} {C : DC} {er : Str → Prop}
theorem sorted2_ok {k : Nat} (l : Lv0 X C k) : CallR X (.builtin "sorted") (rL C sorted2Q) := by
  intro pins s σ H vs us Q I r ⟨hid, ds, q, hp, rs, ⟨ds0, e, can, dep, h⟩, kk⟩
  have seq : ∃ p ws, vs = [.ref p] ∧ (SqL X.K H p ws ∨ SqT X.K H p ws) ∧ DdAll C.K (hide hid H) ws ds0 := by
    rcases e with rfl | rfl | rfl
    · obtain ⟨v, rfl, r1⟩ := rs.one
      obtain ⟨p, ws, rfl, h1, d1⟩ := r1.lst rfl
      exact ⟨p, ws, rfl, .inl (SqL.of h1), d1⟩
    · obtain ⟨v, rfl, r1⟩ := rs.one
      obtain ⟨p, ws, rfl, h1, d1⟩ := r1.tup
      exact ⟨p, ws, rfl, .inr (by rw [l.K]; exact h1), d1⟩
    · obtain ⟨v, rfl, r1⟩ := rs.one
      obtain ⟨p, ws, rfl, h1, d1⟩ := r1.lst rfl
      exact ⟨p, ws, rfl, .inl (SqL.of h1), d1⟩
  obtain ⟨p, ws, rfl, hs, d1⟩ := seq
  have len := d1.len
  refine So.cr_sortedC (by have := l.room.un; omega) pins s σ H _ us Q I r ⟨p, ws, ds0, rfl, hs, by rw [l.K]; exact DdAll.dp _ _ (d1.mono Dl.hide_mono), can, dep, fun p np => ?_⟩
  have dz : DdAll C.K (hide hid H) ((So.srt ws ds0).map Prod.fst) (sortD ds0) := by
    rw [show sortD ds0 = (So.srt ws ds0).map Prod.snd from (So.srt_snd len).symm]
    exact dd_zip fun z hz => zip_dd d1 z ((So.srt_perm ws ds0).mem_iff.mp hz)
  exact kk _ (.d (.list _)) _ (Ext.new np _) (hp.new np _) (new_lst hp dz np) h
end
/-! ### max(), min() of a list or a tuple of ints -/
def intsD? : List PyData → Option (List Int)
  | [] => some []
  | .int i :: r => (intsD? r).map (i :: ·)
  | _ :: _ => none
theorem intsD?_eq : ∀ {l : List PyData} {ns : List Int}, intsD? l = some ns → l = ns.map .int
  | [], ns, h => by cases h; rfl
  | x :: r, ns, h => by
    cases x with
    | int b =>
      unfold intsD? at h
      cases e : intsD? r with
      | none => rw [e] at h; cases h
      | some cs =>
        rw [e] at h
        cases h
        rw [intsD?_eq e]
        rfl
    | _ => cases h
def maxI (a : Int) (ns : List Int) : Int := ns.foldl max a
def minI (a : Int) (ns : List Int) : Int := ns.foldl min a
def mx1C (f : Int → List Int → Int) (xs : List Dv) : R Dv :=
  let on (ds : List PyData) : R Dv := match intsD? ds with
    | some (a :: ns) => ok (.d (.int (f a ns)))
    | _ => no
  match xs with
  | [.d (.list ds)] => on ds
  | [.d (.tuple ds)] => on ds
  | [.own ds] => on ds
  | _ => no
def mx1Q (f : Int → List Int → Int) (xs : List Dv) (q : Dv → Prop) : Prop := ∃ a ns, (xs = [.d (.list ((a :: ns).map .int))] ∨ xs = [.d (.tuple ((a :: ns).map .int))] ∨ xs = [.own ((a :: ns).map .int)]) ∧ q (.d (.int (f a ns)))
theorem mx1C_ok {f : Int → List Int → Int} (er : Str → Prop) (xs : List Dv) (q : Dv → Prop) (h : wp (mx1C f xs) q er) : mx1Q f xs q := by
  unfold mx1C at h
  dsimp only at h
  split at h
  · split at h
    · rename_i e
      exact ⟨_, _, .inl (by rw [intsD?_eq e]), h⟩
    · exact h.elim
  · split at h
    · rename_i e
      exact ⟨_, _, .inr (.inl (by rw [intsD?_eq e])), h⟩
    · exact h.elim
  · split at h
    · rename_i e
      exact ⟨_, _, .inr (.inr (by rw [intsD?_eq e])), h⟩
    · exact h.elim
  · exact h.elim
abbrev max1C := mx1C maxI
abbrev min1C := mx1C minI
section
variable {X : Cx} {C : DC} {er : Str → Prop}
theorem ints_alike (ns : List Int) : PySem.W.AlikeAll (ns.map .int) := ⟨fun x hx y hy => by
  obtain ⟨i, _, rfl⟩ := List.mem_map.mp hx
  obtain ⟨j, _, rfl⟩ := List.mem_map.mp hy
  simp [alike], fun x hx e => by
  obtain ⟨i, _, rfl⟩ := List.mem_map.mp hx
  cases e⟩
theorem reads_all {pins : List (Addr × Obj)} {σ : L2.St} {H : Hp} {s : Shared} (I : Inv X pins σ H s) {vs : List V} {its : List Value} {ds : List PyData} (rv : Vals vs its) (hd : DpAll X.K H vs ds) : ∃ as, ReadsAll s.heap its ds as := by
  obtain ⟨as, r⟩ := PySem.W.each_readsAll (enc := Prod.snd) (So.each_reads I rv hd)
  rw [So.zip_snd (So.dpall_len hd)] at r
  exact ⟨as, r⟩
theorem mx1_gen {id : String} {f : Int → List Int → Int} {g : PyData → List PyData → PyData} {k : Nat} (l : Lv0 X C k) (fg : ∀ a ns, g (.int a) (ns.map .int) = .int (f a ns))
    (hL : ∀ {s : Shared} {a : Addr} {vs : Array Value} {x : PyData} {xs : List PyData} {as : List Addr} {Q : Value → Shared → Prop}, s.heap.IsList a vs → ReadsAll s.heap vs.toList (x :: xs) as → PySem.W.AlikeAll (x :: xs) → X.A.units + 1 + PyData.depthAll (x :: xs) < cLine →
      (∀ (i : Nat) v h' tk bs, vs[i]? = some v → Reads h' v (g x xs) bs → (∀ b o, s.heap.get? b = some o → h'.get? b = some o) → Q v { s with heap := h', toks := tk }) → wpAny (model X.prog X.w) X.A (call (.builtin id) [.ref a]) Q X.xe s)
    (hT : ∀ {s : Shared} {a : Addr} {vs : Array Value} {x : PyData} {xs : List PyData} {as : List Addr} {Q : Value → Shared → Prop}, s.heap.IsTuple a vs → ReadsAll s.heap vs.toList (x :: xs) as → PySem.W.AlikeAll (x :: xs) → X.A.units + 1 + PyData.depthAll (x :: xs) < cLine →
      (∀ (i : Nat) v h' tk bs, vs[i]? = some v → Reads h' v (g x xs) bs → (∀ b o, s.heap.get? b = some o → h'.get? b = some o) → Q v { s with heap := h', toks := tk }) → wpAny (model X.prog X.w) X.A (call (.builtin id) [.ref a]) Q X.xe s) : CallR X (.builtin id) (rL C (mx1Q f)) := by
  intro pins s σ H vs us Q I r ⟨hid, ds, q, hp, rs, ⟨a, ns, e, h⟩, kk⟩
  have dep : X.A.units + 1 + PyData.depthAll (.int a :: ns.map .int) < cLine := by
    have e : PyData.depthAll ((a :: ns).map .int) = 0 := PySem.W.depth_ints (a :: ns)
    have := l.room.un
    rw [show (PyData.int a :: ns.map .int) = (a :: ns).map .int from rfl, e]
    omega
  have fin : ∀ (v : Value) (h' : Heap) (tk : Nat) (bs : List Addr), Reads h' v (g (.int a) (ns.map .int)) bs → (∀ b o, s.heap.get? b = some o → h'.get? b = some o) → EP X pins σ Q v { s with heap := h', toks := tk } := fun v h' tk bs rd hk => by
    rw [fg] at rd
    cases rd with
    | int _ t => exact ⟨.int _, H, I.kept hk, ⟨t, rfl⟩, kk _ (.d (.int _)) H .refl hp (Dd.int _) h⟩
  have both : ∃ p ws, vs = [.ref p] ∧ (SqL X.K H p ws ∨ SqT X.K H p ws) ∧ DdAll C.K (hide hid H) ws ((a :: ns).map .int) := by
    rcases e with rfl | rfl | rfl
    · obtain ⟨v, rfl, r1⟩ := rs.one
      obtain ⟨p, ws, rfl, h1, d1⟩ := r1.lst rfl
      exact ⟨p, ws, rfl, .inl (SqL.of h1), d1⟩
    · obtain ⟨v, rfl, r1⟩ := rs.one
      obtain ⟨p, ws, rfl, h1, d1⟩ := r1.tup
      exact ⟨p, ws, rfl, .inr (by rw [l.K]; exact h1), d1⟩
    · obtain ⟨v, rfl, r1⟩ := rs.one
      obtain ⟨p, ws, rfl, h1, d1⟩ := r1.lst rfl
      exact ⟨p, ws, rfl, .inl (SqL.of h1), d1⟩
  obtain ⟨p, ws, rfl, hs, d1⟩ := both
  have dp : DpAll X.K H ws ((a :: ns).map .int) := by rw [l.K]; exact DdAll.dp _ _ (d1.mono Dl.hide_mono)
  rw [Vals.ref1 r]
  rcases hs with hs | hs
  · obtain ⟨its, rv, hl, hz⟩ := I.list hs
    obtain ⟨as, ra⟩ := reads_all I rv dp
    exact hL hl.isList (by simpa using ra) (ints_alike (a :: ns)) dep fun i v h' tk bs hi rd hk => fin v h' tk bs rd hk
  · obtain ⟨its, rv, hl, hz⟩ := I.tuple hs
    obtain ⟨as, ra⟩ := reads_all I rv dp
    exact hT (show s.heap.IsTuple p its.toArray from hl) (by simpa using ra) (ints_alike (a :: ns)) dep fun i v h' tk bs hi rd hk => fin v h' tk bs rd hk
theorem max1_ok {k : Nat} (l : Lv0 X C k) : CallR X (.builtin "max") (rL C (mx1Q maxI)) := mx1_gen (g := PySem.W.maxD) l (fun a ns => PySem.W.maxD_ints a ns) (fun hl hr ha hu h => PySem.W.max_list_data l.room.hd hl hr ha hu h) (fun hl hr ha hu h => PySem.W.max_tuple_data l.room.hd hl hr ha hu h)
theorem min1_ok {k : Nat} (l : Lv0 X C k) : CallR X (.builtin "min") (rL C (mx1Q minI)) := mx1_gen (g := PySem.W.minD) l (fun a ns => PySem.W.minD_ints a ns) (fun hl hr ha hu h => PySem.W.min_list_data l.room.hd hl hr ha hu h) (fun hl hr ha hu h => PySem.W.min_tuple_data l.room.hd hl hr ha hu h)
end
end Fl

set_option Elab.async false
set_option autoImplicit false
set_option linter.all false
set_option maxRecDepth 100000
set_option maxHeartbeats 4000000
namespace Fl
open PySem PySem.Spec PyProof.Rows L2 Dl R
/-! ### NAME.index(z), NAME a tuple of texts of the top -/
def ixOf (ys : List Str) (z : Str) : R Dv := match ys.findIdx? (fun y => decide (y = z)) with
  | some j => ok (.d (.int (j : Nat)))
  | none => no
def indexC (ds : List PyData) (y : Dv) : R Dv := match y with
  | .d (.str z) => match strsD ds with
    | some ys => ixOf ys z
    | none => no
  | _ => no
def cIndexT (ds : List PyData) (b : CE) : CE := cUn (indexC ds) b
theorem indexC_of {er : Str → Prop} {ds : List PyData} {y : Dv} {q : Dv → Prop} (h : wp (indexC ds y) q er) : ∃ (ys : List Str) (z : Str) (j : Nat), ds = ys.map .str ∧ y = .d (.str z) ∧ ys[j]? = some z ∧ (∀ m, m < j → ys[m]? ≠ some z) ∧ q (.d (.int (j : Nat))) := by
  unfold indexC at h
  split at h
  · split at h
    · rename_i e
      unfold ixOf at h
      split at h
      · rename_i ys j ej
        obtain ⟨hl, h1, h2⟩ := List.findIdx?_eq_some_iff_getElem.mp ej
        refine ⟨_, _, j, strsD_eq e, rfl, ?_, fun m hm em => ?_, h⟩
        · rw [List.getElem?_eq_getElem hl]
          exact congrArg some (of_decide_eq_true h1)
        · have := h2 m hm
          obtain ⟨hml, em⟩ := List.getElem?_eq_some_iff.mp em
          rw [em] at this
          simp at this
      · exact h.elim
    · exact h.elim
  · exact h.elim
/-- it is a tuple's own object -/
def TopX (K : PySem.W.Frag) (x : Str) : Prop := ∃ o, K.lookup (He.ga K x) = some o ∧ o.cls = .type "tuple" ∧ o.dict = none
section
variable {X : Cx} {C : DC} {er : Str → Prop}
theorem fe_indexT {x : Str} {ds : List PyData} {e : Expr} {B : CE} {npos apos pos : Pos} {k : Nat} (l : Lv0 X C k) (W : TopD X.K X.mg x ds) (WX : TopX X.K x) (he : PE X e (tE C (up er B))) (hg : Gl X x := by rfl) (hd : (x == ("__debug__" : Str)) = false := by decide)
    (hbase : attributeBase (.Name x npos) "index" X.env (eval (.Name x npos) X.env) = eval (.Name x npos) X.env := by rfl)
    (hfew : ((backTo pos (starEach [e] X.env)).all (fun x => !x.1) && (backToKw pos (keywordEach [] X.env)).all (fun x => x.1.isSome)
      && decide (([e] : List Expr).length + ([] : List Keyword).length + (if ([] : List Keyword).isEmpty then 0 else 1) < 30)) = true := by rfl)
    (hline : (apos.endLine == pos.line) = true := by rfl) (hs : starEach [e] X.env = (false, eval e X.env) :: starEach [] X.env := by rfl) (hplain : (backTo pos (starEach ([] : List Expr) X.env)).any (·.1) = false := by rfl) :
    PE X (.Call (.Attribute (.Name x npos) "index" apos) [e] [] pos) (tE C (up er (cIndexT ds B))) :=
  (pe_bm PySem.F.plainAttrs_tuple PySem.F.slot_tuple_index PySem.F.type_tuple_index mt_tup_index (pe_glob (v := .ref (He.ga X.K x)) hg W.g rfl hd) (pa_cons he pa_nil hs) hbase hfew hline hs hplain).imp fun σ H Q ⟨hid, ρ, q, hp, sr, a, kk⟩ => ⟨.inr (.inl ⟨rfl, WX⟩), hid, ρ, _, hp, sr, (by
    unfold up cIndexT cUn at a
    rw [wp_bind] at a
    exact a), fun v y H1 e1 o1 r1 a1 => by
    obtain ⟨ys, z, j, e2, e3, h1, h2, h3⟩ := indexC_of a1
    subst e2 e3
    cases r1
    obtain ⟨vs, hv⟩ := W.t
    have e4 := dd_strs (hv H1).2
    subst e4
    exact ⟨_, ys, z, j, rfl, rfl, (hv H1).1, h1, h2, kk _ (.d (.int _)) H1 e1 o1 (Dd.int _) h3⟩⟩
end
/-! ### name += e -/
theorem _root_.L2.PIp.or {X : Cx} {op : Operator} {t u : TIp} (h : PIp X op t) (k : PIp X op u) : PIp X op (fun x y H Q => t x y H Q ∨ u x y H Q) := fun pins s σ H x y v u Q I r1 r2 z => z.elim (h pins s σ H x y v u Q I r1 r2) (k pins s σ H x y v u Q I r1 r2)
def augIn (i : Nat) (ρ : Rho) (x y : Dv) : R Out := match x, y with
  | .d (.int a), .d (.int b) => ok (.nx (ρ.set i (some (.d (.int (a + b))))))
  | .own a, .d (.list b) => lim (a.length + b.length) (ok (.nx (ρ.set i (some (.own (a ++ b))))))
  | .d (.tuple a), .d (.tuple b) => lim (a.length + b.length) (ok (.nx (ρ.set i (some (.d (.tuple (a ++ b)))))))
  | _, _ => no
def cAug (i : Nat) (a : CE) (ρ : Rho) : R Out := match ρ[i]? with
  | some (some x) => (a ρ).bind fun y => augIn i ρ x y
  | _ => no
section
variable {X : Cx} {C : DC} {er : Str → Prop}
theorem fs_aug {i : Nat} {x : Str} {e : Expr} {A : CE} {pos' pos : Pos} {k : Nat} (l : Lv0 X C k) (hi : X.N[i]? = some x) (hl : L2.Loc X.env.scope x) (he : PE X e (tE C (up er A)))
    (hf : X.fn x = true ∨ X.env.scope.names.lookup x = some .local := by first | exact Or.inl rfl | exact Or.inr rfl) : PS X (.AugAssign (.Name x pos') .Add e pos) (tS C (upS er (cAug i A))) :=
  (ps_aug l.nd hi hl he ((ip_add.or (show PIp X .Add rExt2 from iop_ext)).or It.ip_tup) hf).imp fun D σ H ⟨hid, ρ, d, so, s, en⟩ => by
    unfold upS cAug at s
    split at s
    · rename_i x0 ei
      obtain ⟨v, h1, h2⟩ := so.sr.at' i _ ei
      rw [wp_bind] at s
      refine ⟨v, h1, hid, ρ, _, so.hp, so.sr, s, fun w y H1 e1 o1 r1 a1 => ?_⟩
      have h3 := h2.ext e1 so.hp
      have so1 := so.ext e1 o1
      have st1 : Stp hid H hid H1 := Stp.ext e1 so.hp
      unfold augIn at a1
      split at a1
      · cases h3
        cases r1
        exact .inl (.inl ⟨_, _, rfl, rfl, en.nx _ _ _ _ (so1.set (x := .d (.int _)) (Dd.int _) trivial i) st1 a1⟩)
      · obtain ⟨ln, a2⟩ := lim_wp a1
        obtain ⟨p, vs, rfl, m1, m2, m3, m4, m5⟩ := h3
        cases r1 with
        | @lst b ws _ g1 g2 =>
          have g3 := (hide_some g1).2
          obtain ⟨s2, s3⟩ := so1.putOwn ei h1 m1 m2 m3 m4 (m5.append g2)
          refine .inl (.inr ⟨p, b, vs, ws, rfl, rfl, m4, g3, by rw [m5.len, g2.len]; exact Nat.le_trans ln (by decide), ?_⟩)
          have es : σ.set i (some (.ref p)) = σ := by
            refine List.ext_getElem? fun j => ?_
            rw [List.getElem?_set]
            by_cases c : i = j
            · subst c
              rw [if_pos rfl, h1]
              split
              · rfl
              · rename_i c
                rw [List.getElem?_eq_none (by omega)] at h1
                cases h1
            · rw [if_neg c]
          show D.nx (σ.set i (some (V.ref p))) _
          rw [es]
          exact en.nx _ _ _ _ s2 (st1.trans s3) a2
      · rename_i a b
        obtain ⟨ln, a2⟩ := lim_wp a1
        have h3' := h3
        have r1' := r1
        obtain ⟨p1, vs1, rfl, g1, d1⟩ := h3.tup
        obtain ⟨p2, vs2, rfl, g2, d2⟩ := r1.tup
        have l1 := d1.len
        have l2 := d2.len
        refine .inr ⟨p1, p2, vs1, vs2, rfl, rfl, by rw [l.K]; exact g1, by rw [l.K]; exact g2, by rw [l1, l2]; exact Nat.le_trans ln (by decide), fun z => ?_, fun _ z => ?_, fun _ _ p np => ?_⟩
        · have : a = [] := by rw [z] at l1; exact List.length_eq_zero_iff.mp l1.symm
          rw [this, List.nil_append] at a2
          exact en.nx _ _ _ _ (so1.set r1' trivial i) st1 a2
        · have : b = [] := by rw [z] at l2; exact List.length_eq_zero_iff.mp l2.symm
          rw [this, List.append_nil] at a2
          exact en.nx _ _ _ _ (so1.set h3' trivial i) st1 a2
        · have e2 : Ext C.c H1 (upd H1 p (.tup (vs1 ++ vs2))) := Ext.new np _
          exact en.nx _ _ _ _ ((so1.ext e2 (o1.new np _)).set (new_tup o1 (d1.append d2) np) trivial i) (st1.trans (Stp.ext e2 o1)) a2
      · exact a1.elim
    · exact s.elim
end
/-! ### name = a + b, a list of one's own -/
def cOwnAdd (i : Nat) (a b : CE) (ρ : Rho) : R Out := (a ρ).bind fun x => (b ρ).bind fun y => match lstD x, lstD y with
  | some xs, some ys => lim (xs.length + ys.length) (ok (.nx (ρ.set i (some (.own (xs ++ ys))))))
  | _, _ => no
section
variable {X : Cx} {C : DC} {er : Str → Prop}
theorem fs_ownAdd {pos : Pos} {i : Nat} {x : Str} {a b : Expr} {A B : CE} {pos' opos : Pos} {k : Nat} (l : Lv0 X C k) (hi : X.N[i]? = some x) (hl : L2.Loc X.env.scope x) (ha : PE X a (tE C (up er A))) (hb : PE X b (tE C (up er B)))
    (hs : swapsWith (.BinOp a .Add b opos) (some (.Name x pos')) pos.line X.env = pure false := by rfl)
    (hf : X.fn x = true ∨ X.env.scope.names.lookup x = some .local := by first | exact Or.inl rfl | exact Or.inr rfl) : PS X (.Assign [.Name x pos'] (.BinOp a .Add b opos) pos) (tS C (upS er (cOwnAdd i A B))) :=
  (ps_set l.nd hi hl (pe_op op_cat ha hb) hs hf).imp fun D σ H ⟨hid, ρ, d, so, s, en⟩ => ⟨hid, ρ, _, so.hp, so.sr, (by
    unfold upS cOwnAdd at s
    rw [wp_bind] at s
    exact s), fun v x H1 e1 o1 r1 a1 => ⟨hid, ρ, _, o1, so.sr.ext e1 so.hp, (by
      rw [wp_bind] at a1
      exact a1), fun w y H2 e2 o2 r2 a2 => by
      split at a2
      · rename_i xs ys ex ey
        obtain ⟨ln, a3⟩ := lim_wp a2
        obtain ⟨p1, vs1, rfl, g1, d1⟩ := (r1.ext e2 o1).lst ex
        obtain ⟨p2, vs2, rfl, g2, d2⟩ := r2.lst ey
        refine ⟨p1, p2, vs1, vs2, rfl, rfl, g1, g2, by rw [d1.len, d2.len]; exact Nat.le_trans ln (by decide), fun p np => ?_⟩
        have e3 := e1.trans e2
        obtain ⟨s2, s3⟩ := (so.ext e3 o2).newOwn (d1.append d2) np i
        exact en.nx _ _ _ _ s2 ((Stp.ext e3 so.hp).trans s3) a3
      · exact a2.elim⟩⟩
end
end Fl

set_option Elab.async false
set_option autoImplicit false
set_option linter.all false
set_option maxRecDepth 100000
set_option maxHeartbeats 1000000
namespace Fl
open PySem PySem.Spec PyProof.Rows L2 Dl R
/-! ### [e for .. in .. if .. for .. in .. if ..] -/
/-- data that a slot holds -/
def keepD (ρ : Rho) (j : Nat) : Option Dv := match ρ[j]? with
  | some (some (.d x)) => some (.d x)
  | _ => none
/-- ρ, but for the slots vs: there ρ1's data -/
def mixR (ρ ρ1 : Rho) : List Nat → Rho
  | [] => ρ
  | v :: vs => (mixR ρ ρ1 vs).set v (keepD ρ1 v)
theorem mixR_len (ρ ρ1 : Rho) : ∀ vs, (mixR ρ ρ1 vs).length = ρ.length
  | [] => rfl
  | v :: vs => by unfold mixR; rw [List.length_set, mixR_len ρ ρ1 vs]
theorem mixR_at {ρ ρ1 : Rho} {y : Dv} : ∀ {vs : List Nat} {j : Nat}, (mixR ρ ρ1 vs)[j]? = some (some y) → (j ∈ vs ∧ (∃ x, y = .d x) ∧ ρ1[j]? = some (some y)) ∨ (j ∉ vs ∧ ρ[j]? = some (some y))
  | [], j, h => .inr ⟨by simp, h⟩
  | v :: vs, j, h => by
    unfold mixR at h
    rw [List.getElem?_set] at h
    by_cases e : v = j
    · subst e
      rw [if_pos rfl] at h
      split at h
      · have h := Option.some.inj h
        unfold keepD at h
        split at h
        · rename_i x ex
          cases h
          exact .inl ⟨List.mem_cons_self, ⟨x, rfl⟩, ex⟩
        · cases h
      · cases h
    · rw [if_neg e] at h
      rcases mixR_at h with ⟨h1, h2⟩ | ⟨h1, h2⟩
      · exact .inl ⟨List.mem_cons_of_mem _ h1, h2⟩
      · refine .inr ⟨fun z => ?_, h2⟩
        rcases List.mem_cons.mp z with z | z
        · exact e z.symm
        · exact h1 z
def lc2R (g : CG) (t : CT) (i1 : CI) (g1 : CG) (t1 : CT) (a : CE) (vs vs1 : List Nat) (ρ : Rho) : List PyData → R (List PyData)
  | [] => ok []
  | x :: r => (g (.d x) ρ).bind fun ρ0 => (t (mixR ρ ρ0 vs)).bind fun b => iff b
      ((i1 (mixR ρ ρ0 vs)).bind fun es => chk (decide (es.length ≤ 1000)) ((lcR g1 t1 a (wipeR (mixR ρ ρ0 vs) vs1) es).bind fun l => (lc2R g t i1 g1 t1 a vs vs1 ρ r).bind fun l2 => ok (l ++ l2)))
      (lc2R g t i1 g1 t1 a vs vs1 ρ r)
def cLc2 (i : CI) (g : CG) (t : CT) (i1 : CI) (g1 : CG) (t1 : CT) (a : CE) (vs vs1 : List Nat) (ρ : Rho) : R Dv := (i ρ).bind fun ds => chk (decide (ds.length ≤ 1000)) ((lc2R g t i1 g1 t1 a vs vs1 (wipeR ρ vs) ds).bind fun l => ok (.d (.list l)))
section
variable {X : Cx} {C : DC} {er : Str → Prop}
/-- while a list is made at D -/
structure Mk (C : DC) (hid : List Addr) (H1 : Hp) (D : Addr) (H' : Hp) (ys : List V) (acc : List PyData) : Prop where
  ok : HpOk C (D :: hid) H'
  st : Stp hid H1 (D :: hid) H'
  all : ∀ b o, b ≠ D → C.c ≠ some b → H1 b = some o → (∀ ps, o ≠ .tbl ps) → H' b = some o
  at' : H' D = some (.lst ys)
  dd : DdAll C.K (hide (D :: hid) H') ys acc
theorem Mk.start {hid : List Addr} {H1 : Hp} {D : Addr} (o1 : HpOk C hid H1) (hD : H1 D = none) : Mk C hid H1 D (upd H1 D (.lst [])) [] [] :=
  ⟨(o1.new hD _).more ⟨_, upd_same⟩, ⟨fun b o n e _ => by rw [upd_ne (ne_of_none e hD)]; exact e, fun b hb => by
    rcases List.mem_cons.mp hb with rfl | hb
    · exact .inr (.of hD)
    · exact .inl hb⟩, fun b o n _ e _ => by rw [upd_ne n]; exact e, upd_same, .nil⟩
theorem Mk.step {hid : List Addr} {H1 H' H'' : Hp} {D : Addr} {ys : List V} {acc : List PyData} (cD : C.c ≠ some D) (m : Mk C hid H1 D H' ys acc) (e : Ext C.c H' H'') (o : HpOk C (D :: hid) H'') : Mk C hid H1 D H'' ys acc :=
  ⟨o, m.st.trans (Stp.ext e m.ok), fun b o n c h t => e b o c (m.all b o n c h t) t, e D _ cD m.at' (fun _ z => by cases z), DdAll.mono (e.mono m.ok) _ _ m.dd⟩
theorem Mk.push {hid : List Addr} {H1 H' : Hp} {D : Addr} {ys : List V} {acc : List PyData} (cD : C.c ≠ some D) (o1 : HpOk C hid H1) (hD : H1 D = none) (m : Mk C hid H1 D H' ys acc) {v : V} {z : PyData} (r : VR C (D :: hid) H' v (.d z)) :
    Mk C hid H1 D (upd H' D (.lst (ys ++ [v]))) (ys ++ [v]) (acc ++ [z]) ∧ Stp (D :: hid) H' (D :: hid) (upd H' D (.lst (ys ++ [v]))) := by
  have frD : Fr C.H0 D := Fr.new o1 hD
  have s5 : Stp (D :: hid) H' (D :: hid) (upd H' D (.lst (ys ++ [v]))) := ⟨fun b o n e _ => by rw [upd_ne (fun z => n (by rw [z]; exact List.mem_cons_self))]; exact e, fun b hb => .inl hb⟩
  have ok := m.ok
  have o5 : HpOk C (D :: hid) (upd H' D (.lst (ys ++ [v]))) := by
    refine ⟨tabs_upd ok.tabs m.at', fun b eb => ⟨(ok.cup b eb).1, ?_⟩, fun b hb => ?_, ok.sub, fun b o n e t => ?_⟩
    · obtain ⟨g, sd, z1, z2⟩ := (ok.cup b eb).2
      exact ⟨g, sd, by rw [upd_ne (fun z => cD (by rw [eb, z]))]; exact z1, z2⟩
    · by_cases z : b = D
      · exact ⟨.lst (ys ++ [v]), by rw [z, upd_same], trivial⟩
      · rw [upd_ne z]; exact ok.some b hb
    · have h1 := ok.ext b o n e t
      by_cases z : b = D
      · subst z
        obtain ⟨ps, w⟩ := frD o e
        exact absurd w (t ps)
      · rw [upd_ne z]; exact h1
  exact ⟨⟨o5, m.st.trans s5, fun b o n c e t => by rw [upd_ne n]; exact m.all b o n c e t, upd_same, DdAll.mono s5.mono _ _ (m.dd.append (.cons r .nil))⟩, s5⟩
/-- the slots from before -/
theorem Mk.sr {hid : List Addr} {H1 H' : Hp} {D : Addr} {ys : List V} {acc : List PyData} {σ : L2.St} {ρ : Rho} (m : Mk C hid H1 D H' ys acc) (o1 : HpOk C hid H1) (hD : H1 D = none) (s : SR C hid σ H1 ρ) : SR C (D :: hid) σ H' ρ :=
  ⟨s.len, fun j z ej => by
    obtain ⟨v, h1, h2⟩ := s.at' j z ej
    refine ⟨v, h1, ?_⟩
    have mo : Mono (hide hid H1) (hide (D :: hid) H') := m.st.mono
    have hDh : D ∉ hid := fun z => o1.nn D z hD
    cases z with
    | d y => exact Dd.mono mo _ _ h2
    | cup => exact h2
    | fn y => exact h2
    | ty y => exact h2
    | ex y => exact h2
    | own y =>
      obtain ⟨p, ws, k1, k2, k3, k4, k5, k6⟩ := h2
      exact ⟨p, ws, k1, List.mem_cons_of_mem _ k2, k3, k4, m.all p _ (fun z => hDh (z ▸ k2)) k3 k5 (fun _ z => by cases z), DdAll.mono mo _ _ k6⟩
    | dc y => exact VR.free mo trivial h2
    | od y =>
      obtain ⟨p, ws, k1, k2, k3, k4, k5, k6⟩ := h2
      exact ⟨p, ws, k1, List.mem_cons_of_mem _ k2, k3, k4, m.all p _ (fun z => hDh (z ▸ k2)) k3 k5 (fun _ z => by cases z), DvK.mono mo k6⟩⟩
/-- .. and those of a target -/
theorem Mk.mix {hid : List Addr} {H1 H2 H' : Hp} {D : Addr} {ys : List V} {acc : List PyData} {σ σ3 : L2.St} {ρ ρ3 : Rho} {vs : List Nat} (m : Mk C hid H1 D H' ys acc) (o1 : HpOk C hid H1) (hD : H1 D = none) (s : SR C hid σ H1 ρ) (s3 : SR C (D :: hid) σ3 H2 ρ3)
    (w : wipe σ3 vs = wipe (wipe σ vs) vs) (st : Stp (D :: hid) H2 (D :: hid) H') : SR C (D :: hid) σ3 H' (mixR (wipeR ρ vs) ρ3 vs) := by
  have s0 := sr_wipe (m.sr o1 hD s) vs
  have l3 : σ3.length = (wipe σ vs).length := by
    have := congrArg List.length w
    rwa [wipe_length, wipe_length] at this
  refine ⟨by rw [mixR_len, l3]; exact s0.len, fun j y ej => ?_⟩
  rcases mixR_at ej with ⟨h1, ⟨x, rfl⟩, h2⟩ | ⟨h1, h2⟩
  · obtain ⟨v, k1, k2⟩ := s3.at' j _ h2
    exact ⟨v, k1, Dd.mono st.mono _ _ k2⟩
  · obtain ⟨v, k1, k2⟩ := s0.at' j _ h2
    refine ⟨v, ?_, k2⟩
    have e1 := congrArg (fun l => l[j]?) w
    simp only [wipe_at, if_neg h1] at e1
    rw [e1, ← k1, wipe_at, if_neg h1]
theorem lc2_imp {i : CI} {g : CG} {t : CT} {i1 : CI} {g1 : CG} {t1 : CT} {a : CE} {vs vs1 : List Nat} (σ : L2.St) (H : Hp) (Q : VK) : tE C (up er (cLc2 i g t i1 g1 t1 a vs vs1)) σ H Q →
    tLc2 (tI C (up er i)) (tG C vs (upG er g)) (tT C (up er t)) (tI C (up er i1)) (tG C vs1 (upG er g1)) (tT C (up er t1)) (tE C (up er a)) vs vs1 σ H Q := by
  rintro ⟨hid, ρ, q, hp, sr, a0, k⟩
  unfold up cLc2 at a0
  rw [wp_bind] at a0
  refine ⟨hid, ρ, _, hp, sr, a0, fun J ds H1 e1 o1 wd a1 D hD => ?_⟩
  obtain ⟨c1, a1⟩ := chk_wp a1
  have c1 := of_decide_eq_true c1
  rw [wp_bind] at a1
  obtain ⟨Gp, Y, walk, hG, hY⟩ := wd.ex
  have cD : C.c ≠ some D := fun z => o1.nn D (o1.cup D z).1 hD
  have hD0 : D ∉ C.hid0 := fun z => o1.nn D (o1.sub D z) hD
  have hDh : D ∉ hid := fun z => o1.nn D z hD
  have sr1 : SR C hid σ H1 ρ := sr.ext e1 hp
  let P : Nat → Hp → Prop := fun i' H' => ∃ ys acc, Mk C hid H1 D H' ys acc ∧ acc.length + 1000 * (ds.length - i') ≤ 1000000 ∧ wp (lc2R g t i1 g1 t1 a vs vs1 (wipeR ρ vs) (ds.drop i')) (fun l => q (.d (.list (acc ++ l)))) er
  refine ⟨fun i' m H' => m = ds.length - i' ∧ i' ≤ ds.length ∧ P i' H', ⟨ds.length, rfl, Nat.zero_le _, [], [], Mk.start o1 hD, by simp only [List.length_nil]; omega, a1⟩, ?_⟩
  rintro i' m H' ⟨rfl, hi, ys, acc, mk, bd, go⟩
  have hg := hG _ _ mk.st
  by_cases hil : i' < ds.length
  · refine .inr ⟨walk.goes i' H' hil hg, P (i' + 1), fun H2 p => ⟨ds.length - (i' + 1), by omega, rfl, hil, p⟩, fun x H'' y => ?_⟩
    obtain ⟨x', ex, hy, dd⟩ := hY i' _ H' x H'' hil mk.st mk.ok (walk.yields i' H' x H'' hil hg y)
    obtain ⟨e2, o2⟩ := yld_ok mk.ok hy
    rw [drop_at ex] at go
    unfold lc2R at go
    rw [wp_bind] at go
    have mk2 := mk.step cD e2 o2
    refine ⟨D :: hid, wipeR ρ vs, .d x', _, o2, sr_wipe (mk2.sr o1 hD sr1) vs, dd, go, fun σ3 ρ3 sr3 _ w3 g3 => ⟨w3.trans (wipe_idem σ vs), ?_⟩⟩
    have slots : ∀ {H4 : Hp} {ys : List V} {acc : List PyData}, Mk C hid H1 D H4 ys acc → Stp (D :: hid) H'' (D :: hid) H4 → SR C (D :: hid) σ3 H4 (mixR (wipeR ρ vs) ρ3 vs) := fun m4 s4 => m4.mix o1 hD sr1 sr3 w3 s4
    rw [wp_bind] at g3
    refine ⟨D :: hid, mixR (wipeR ρ vs) ρ3 vs, _, o2, slots mk2 .refl, g3, fun b H3 e3 o3 g4 => ?_⟩
    have mk3 := mk2.step cD e3 o3
    have st3 : Stp (D :: hid) H'' (D :: hid) H3 := Stp.ext e3 o2
    cases b with
    | false => exact ⟨ys, acc, mk3, by omega, g4⟩
    | true =>
      have g4 : wp (R.bind _ _) _ er := g4
      rw [wp_bind] at g4
      refine ⟨D :: hid, mixR (wipeR ρ vs) ρ3 vs, _, o3, slots mk3 st3, g4, fun J1 es H4 e4 o4 wd1 g5 => ?_⟩
      obtain ⟨c2, g5⟩ := chk_wp g5
      have c2 := of_decide_eq_true c2
      rw [wp_bind] at g5
      have mk4 := mk3.step cD e4 o4
      have st4 : Stp (D :: hid) H'' (D :: hid) H4 := st3.trans (Stp.ext e4 o3)
      obtain ⟨Gp1, Y1, walk1, hG1, hY1⟩ := wd1.ex
      let P1 : Nat → Hp → Prop := fun j H' => ∃ ys acc, Mk C hid H1 D H' ys acc ∧ Stp (D :: hid) H4 (D :: hid) H' ∧ acc.length + (es.length - j) + 1000 * (ds.length - (i' + 1)) ≤ 1000000 ∧
        wp (lcR g1 t1 a (wipeR (mixR (wipeR ρ vs) ρ3 vs) vs1) (es.drop j)) (fun l => wp (lc2R g t i1 g1 t1 a vs vs1 (wipeR ρ vs) (ds.drop (i' + 1))) (fun l2 => q (.d (.list (acc ++ (l ++ l2))))) er) er
      refine ⟨fun j m H' => m = es.length - j ∧ j ≤ es.length ∧ P1 j H', ⟨es.length, rfl, Nat.zero_le _, ys, acc, mk4, .refl, by omega, wp_mono (fun l h => by rw [wp_bind] at h; exact h) g5⟩, ?_⟩
      rintro j m H5 ⟨rfl, hj, ys5, acc5, mk5, st5, bd5, go5⟩
      have hg1 := hG1 _ _ st5
      by_cases hjl : j < es.length
      · refine .inr ⟨walk1.goes j H5 hjl hg1, P1 (j + 1), fun H2 p => ⟨es.length - (j + 1), by omega, rfl, hjl, p⟩, fun x1 H6 y1 => ?_⟩
        obtain ⟨x1', ex1, hy1, dd1⟩ := hY1 j _ H5 x1 H6 hjl st5 mk5.ok (walk1.yields j H5 x1 H6 hjl hg1 y1)
        obtain ⟨e6, o6⟩ := yld_ok mk5.ok hy1
        rw [drop_at ex1] at go5
        unfold lcR at go5
        rw [wp_bind] at go5
        have mk6 := mk5.step cD e6 o6
        have st6 : Stp (D :: hid) H4 (D :: hid) H6 := st5.trans (Stp.ext e6 mk5.ok)
        refine ⟨D :: hid, wipeR (mixR (wipeR ρ vs) ρ3 vs) vs1, .d x1', _, o6, sr_wipe (slots mk6 (st4.trans st6)) vs1, dd1, go5, fun σ7 ρ7 sr7 _ w7 g7 => ⟨w7.trans (wipe_idem σ3 vs1), ?_⟩⟩
        rw [wp_bind] at g7
        refine ⟨D :: hid, ρ7, _, o6, sr7, g7, fun b H8 e8 o8 g8 => ?_⟩
        have mk8 := mk6.step cD e8 o8
        have st8 := st6.trans (Stp.ext e8 o6)
        cases b with
        | false => exact ⟨ys5, acc5, mk8, st8, by omega, g8⟩
        | true =>
          have g8 : wp (R.bind _ _) _ er := g8
          rw [wp_bind] at g8
          refine ⟨D :: hid, ρ7, _, o8, sr7.ext e8 o6, g8, fun v z H9 e9 o9 r9 g9 => ?_⟩
          rw [wp_bind] at g9
          obtain ⟨z, rfl, gA⟩ := of_onD (dR_wp g9)
          rw [wp_bind] at gA
          have mk9 := mk8.step cD e9 o9
          have st9 := st8.trans (Stp.ext e9 o8)
          obtain ⟨mkA, stA⟩ := mk9.push cD o1 hD r9
          refine ⟨ys5, mk9.at', by rw [mk9.dd.len]; exact Nat.lt_of_le_of_lt (show acc5.length ≤ 1000000 by omega) (by decide), _, _, mkA, st9.trans stA, by rw [List.length_append, List.length_singleton]; omega, ?_⟩
          refine wp_mono (fun l h => ?_) gA
          have h : wp (lc2R g t i1 g1 t1 a vs vs1 (wipeR ρ vs) (ds.drop (i' + 1))) (fun l2 => q (.d (.list (acc5 ++ ((z :: l) ++ l2))))) er := h
          refine wp_mono (fun l2 h => ?_) h
          rw [List.append_assoc]
          exact h
      · have ej : j = es.length := by omega
        subst ej
        rw [List.drop_length] at go5
        have go5 : wp (lc2R g t i1 g1 t1 a vs vs1 (wipeR ρ vs) (ds.drop (i' + 1))) (fun l2 => q (.d (.list (acc5 ++ ([] ++ l2))))) er := go5
        exact .inl ⟨walk1.stops H5 hg1, ys5, acc5, mk5, by omega, go5⟩
  · have ei : i' = ds.length := by omega
    subst ei
    rw [List.drop_length] at go
    have go : q (.d (.list (acc ++ []))) := go
    rw [List.append_nil] at go
    refine .inl ⟨walk.stops H' hg, ?_⟩
    have okh : HpOk C hid H' := mk.ok.drop cD hD0
    refine k (.ref D) _ H' (fun b o n e t => ?_) okh ?_ go
    · have he := e1 b o n e t
      exact mk.all b o (fun z => by rw [z, hD] at he; cases he) n he t
    · refine Dd.lst (hide_of hDh mk.at') (DdAll.mono (fun b o e _ => ?_) _ _ mk.dd)
      obtain ⟨h1, h2⟩ := hide_some e
      exact hide_of (fun z => h1 (List.mem_cons_of_mem _ z)) h2
theorem fe_lc2 {elt tg iter tg1 iter1 : Expr} {ifs ifs1 : List Expr} {scope : Scope} {own : List (Str × Nat)} {vs1 : List Nat} {pos : Pos} {I I1 : CI} {G G1 : CG} {T T1 : CT} {A : CE} {k : Nat} (l : Lv0 X C k) (hi : PI X tg iter (tI C (up er I))) (ok : BlkOk X.N X.env.scope scope own) (hv : (vs1.all fun i => (own.map (·.2)).contains i) = true)
    (hg : ∀ (s : Shared) (H : Hp) (c : Addr) (cl : List (Str × Addr)) (fp : List Addr), Lv0 (X.blk s H scope (compEnvC scope cl c X.env) fp) C k → PG (X.blk s H scope (compEnvC scope cl c X.env) fp) tg (tG C (own.map (·.2)) (upG er G)))
    (ht : ∀ (s : Shared) (H : Hp) (c : Addr) (cl : List (Str × Addr)) (fp : List Addr), Lv0 (X.blk s H scope (compEnvC scope cl c X.env) fp) C k → PTs (X.blk s H scope (compEnvC scope cl c X.env) fp) ifs (tT C (up er T)))
    (hi1 : ∀ (s : Shared) (H : Hp) (c : Addr) (cl : List (Str × Addr)) (fp : List Addr), Lv0 (X.blk s H scope (compEnvC scope cl c X.env) fp) C k → PI (X.blk s H scope (compEnvC scope cl c X.env) fp) tg1 iter1 (tI C (up er I1)))
    (hg1 : ∀ (s : Shared) (H : Hp) (c : Addr) (cl : List (Str × Addr)) (fp : List Addr), Lv0 (X.blk s H scope (compEnvC scope cl c X.env) fp) C k → PG (X.blk s H scope (compEnvC scope cl c X.env) fp) tg1 (tG C vs1 (upG er G1)))
    (ht1 : ∀ (s : Shared) (H : Hp) (c : Addr) (cl : List (Str × Addr)) (fp : List Addr), Lv0 (X.blk s H scope (compEnvC scope cl c X.env) fp) C k → PTs (X.blk s H scope (compEnvC scope cl c X.env) fp) ifs1 (tT C (up er T1)))
    (he : ∀ (s : Shared) (H : Hp) (c : Addr) (cl : List (Str × Addr)) (fp : List Addr), Lv0 (X.blk s H scope (compEnvC scope cl c X.env) fp) C k → PE (X.blk s H scope (compEnvC scope cl c X.env) fp) elt (tE C (up er A)))
    (hs : ∀ x, foldedSetIterable iter X.env x = pure x := by intro _; rfl) (hs1 : ∀ env x, foldedSetIterable iter1 env x = pure x := by intro _ _; rfl) :
    PE X (.ListComp elt [⟨tg, iter, ifs, 0⟩, ⟨tg1, iter1, ifs1, 0⟩] scope pos) (tE C (up er (cLc2 I G T I1 G1 T1 A (own.map (·.2)) vs1))) :=
  (pe_lc2 l.calm l.nd hi ok (fun i hi => List.contains_iff_mem.mp (List.all_eq_true.mp hv i hi)) (fun s H c cl fp => hg s H c cl fp l.blk) (fun s H c cl fp => ht s H c cl fp l.blk) (fun s H c cl fp => hi1 s H c cl fp l.blk) (fun s H c cl fp => hg1 s H c cl fp l.blk) (fun s H c cl fp => ht1 s H c cl fp l.blk) (fun s H c cl fp => he s H c cl fp l.blk) hs hs1).imp lc2_imp
end
end Fl

set_option Elab.async false
set_option linter.all false
set_option maxRecDepth 100000
set_option maxHeartbeats 4000000
/-! tuple(..) of a generator expression whose element is any expression of the layer -/
namespace Gx
open PySem PySem.Spec PyProof.Rows L2 GenW
/-- of a collecting consumer: the items so far stand in the list at S -/
def ZCol (S : Addr) : (L2.St → Hp → Prop) → V → L2.St → Hp → Prop := fun More y σ H => ∃ acc, H S = some (.lst acc) ∧ acc.length < sizeLine ∧ More σ (upd H S (.lst (acc ++ [y])))
section
variable {X : Cx} {ip : List (Addr × Obj)} {fp : List Addr} {tn : Nat → Heap → Prop} {W : Nat → Nat → L2.St → Hp → Prop} {Fin : L2.St → Hp → Prop} {B : Around} {a S : Addr} {g : Nat} {R : Result → Shared → Prop} {res : Value}
/-- the consumer's list grows -/
theorem inv_grow {σ : L2.St} {H : Hp} {s : Shared} {acc : List V} {y : V} {v : Value} (I : Inv X ip σ H s) (hS : H S = some (.lst acc)) (hz : acc.length < sizeLine) (r : RelV y v) :
    ∃ its n, s.heap.get? S = some { cls := .type "list", data := .seq its n } ∧ its.size = acc.length ∧ Inv X ip σ (upd H S (.lst (acc ++ [y]))) { s with heap := s.heap.update S (Obj.mapSeq (·.push v)) } := by
  obtain ⟨_, its, n, ri, e⟩ := I.hok S _ hS
  have hl := ri.length
  refine ⟨its.toArray, n, e, by rw [List.size_toArray]; exact hl.symm, ?_⟩
  have e2 := Heap.get?_update_self (Obj.mapSeq (·.push v)) e rfl
  refine I.write (t' := s.toks) (by rw [hS]; trivial) (.inl rfl) (fun b u hb q => (Heap.get?_update_other _ _ (Ne.symm hb)).trans q) ⟨_, e2⟩ ⟨by rw [List.length_append]; exact hz, its ++ [v], n + 1, ri.append (.cons r .nil), ?_⟩
  rw [e2]
  simp [Obj.mapSeq]
theorem col_loop (hh : B.handled = none) (hroom : B.depth < recursionLimit) (hgen : ∀ s σ H, Inv X ip σ H s → s.heap.IsGen a g) (hk : ∀ i h h', tn i h → (∀ b ∈ fp, ∀ o, h.get? b = some o → h'.get? b = some o) → tn i h')
    (hT : ∀ s σ H, Inv X ip σ H s → Fin σ H → R (.ok (.ret res)) s) :
    ∀ (n : Nat) (W' : L2.St → Hp → Prop) (i : Nat) (s : Shared) (gs : GenState), g + 1 ≤ s.gens.size → s.gens[g]? = some gs →
      (∀ s'', GSt X ip fp tn W' i s'' → gs.Goes (model X.prog X.w) B.in1.in1 (GEnd X ip Fin) (GPr X ip fp tn W (ZCol S)) n (.send .none) s'') → GSt X ip fp tn W' i s →
      codeAny (model X.prog X.w) B (.builtin "list.extend.loop" ⟨[.ref S, .ref a, res], []⟩) R s := by
  intro n
  induction n with
  | zero =>
    intro W' i s gs hsz hgs hgo hst
    have go := hgo (s.setGen g .running) (by obtain ⟨σ, H, I, r⟩ := hst; exact ⟨σ, H, inv_gen I rfl, r⟩)
    obtain ⟨σ, H, I, st⟩ := hst
    refine codeAny_builtin F.entry_extend_loop ?_
    rw [Around.under_plainId F.plain_extend_loop _]
    show wpAny _ B.in1 (pyNext (.ref a) >>= _) _ _ s
    refine wpAny_bind (wpAny_gsz hsz (wpAny_pyNext_genexpQ (A := B.in1) (P := GFin X ip Fin) hh I.nolimit hroom (hgen s σ H I) hgs go (fun v s₁ gs' hb hv => ?_) (fun s₁ hp h' hkk => ?_)))
    · obtain ⟨y, σ', H', i', m', rv, hm, I', st', nf', ⟨acc, hS, hl, m2, hm2, _⟩, kap⟩ := hv
      exact absurd hm2 (by omega)
    · obtain ⟨σ', H', I', fin⟩ := hp
      intro hs'
      exact wpAny_pure (hT _ σ' H' ((inv_gen (g := g) (x := .finished) I' rfl).kept (t' := s₁.toks) hkk) fin)
  | succ n ih =>
    intro W' i s gs hsz hgs hgo hst
    have go := hgo (s.setGen g .running) (by obtain ⟨σ, H, I, r⟩ := hst; exact ⟨σ, H, inv_gen I rfl, r⟩)
    obtain ⟨σ, H, I, st⟩ := hst
    refine codeAny_builtin F.entry_extend_loop ?_
    rw [Around.under_plainId F.plain_extend_loop _]
    show wpAny _ B.in1 (pyNext (.ref a) >>= _) _ _ s
    refine wpAny_bind (wpAny_gsz hsz (wpAny_pyNext_genexpQ (A := B.in1) (P := GFin X ip Fin) hh I.nolimit hroom (hgen s σ H I) hgs go (fun v s₁ gs' hb hv => ?_) (fun s₁ hp h' hkk => ?_)))
    · obtain ⟨y, σ', H', i', m', rv, hm, I', st', nf', ⟨acc, hS, hl, m2, hm2, w2⟩, kap⟩ := hv
      intro hs'
      have Ig := inv_gen (g := g) (x := gs') I' hb
      obtain ⟨its, c, eS, sz, I2⟩ := inv_grow Ig hS hl rv
      show wpAny _ B.in1 (updateSeq S (·.push v) >>= _) _ _ _
      refine wpAny_bind (wpAny_updateSeq eS rfl (wpAny_pure ⟨plainId_quiet F.plain_extend_loop _, ih (W (i' + 1) m2) (i' + 1) _ gs' ?_ ?_ (fun s'' hst2 => kap s'' m2 hm2 hst2) ⟨σ', _, I2, ?_, fun b hb2 => ?_, w2⟩⟩) (by omega) (by show (its.push v).size ≤ sizeLine + 1; rw [Array.size_push]; omega))
      · exact hs'
      · rw [setGen_size] at hs'
        show (s₁.gens.setIfInBounds g gs')[g]? = some gs'
        rw [Array.getElem?_setIfInBounds_self_of_lt (by omega)]
      · refine hk _ _ _ st' fun b hb2 o e => ?_
        have nb : S ≠ b := fun q => by
          have z := nf' b hb2
          rw [← q, hS] at z
          cases z
        exact (Heap.get?_update_other _ _ nb).trans e
      · rw [upd_ne (fun q => by rw [q] at hb2; have := nf' _ hb2; rw [hS] at this; cases this)]
        exact nf' b hb2
    · obtain ⟨σ', H', I', fin⟩ := hp
      intro hs'
      exact wpAny_pure (hT _ σ' H' ((inv_gen (g := g) (x := .finished) I' rfl).kept (t' := s₁.toks) hkk) fin)
end
section
variable {prog : Program} {w : World} {A : Around} {E : Value → Shared → Prop} {s : Shared}
/-- the items of a generator are collected: a list at S, then the loop -/
theorem collect_gen {a : Addr} {Q : List Value → Shared → Prop} (hT : s.TypeIs (.ref a) "generator") (hself : ∀ (A : Around) (s' : Shared) (Q : Value → Shared → Prop) (E : Value → Shared → Prop), (∀ b o, s.heap.get? b = some o → s'.heap.get? b = some o) → Q (.ref a) s' → wpAny (model prog w) A (pyIter (.ref a)) Q E s')
    (loop : ∀ h' : Heap, (∀ b o, s.heap.get? b = some o → h'.get? b = some o) → h'.get? s.heap.objs.size = some { cls := .type "list", data := .seq ([] : List Value).toArray 2 } →
      codeAny (model prog w) A (.builtin "list.extend.loop" ⟨[.ref s.heap.objs.size, .ref a, .ref s.heap.objs.size], []⟩) (fun r s' => match r with
        | .ok (.ret v) => v = .ref s.heap.objs.size ∧ ∃ its n, s'.heap.get? s.heap.objs.size = some { cls := .type "list", data := .seq its n } ∧ Q its.toList s'
        | _ => False) { s with heap := h' }) : wpAny (model prog w) A (collect (.ref a)) Q E s := by
  unfold collect
  refine wpAny_bind (wpAny_runValue (codeAny_builtin F.entry_proto_collect ?_))
  rw [Around.under_plainId F.plain_proto_collect _]
  show wpAny _ A.in1 (newList [] >>= fun l => again (.builtin "list.__iadd__" ⟨[l, .ref a], []⟩)) _ _ s
  refine wpAny_bind (wpAny_newObj_type ?_)
  refine wpAny_pure ⟨plainId_quiet F.plain_list_iadd _, codeAny_builtin F.entry_list_iadd ?_⟩
  rw [Around.under_plainId F.plain_list_iadd _]
  have ne : s.heap.objs.size ≠ a := by
    obtain ⟨o, ho, _⟩ := hT
    exact fun e => absurd (Heap.lt_size ho) (by rw [e]; exact Nat.lt_irrefl _)
  have k1 : ∀ b o, s.heap.get? b = some o → (s.heap.push { cls := .type "list", data := .seq ([] : List Value).toArray }).get? b = some o := fun b o e => Heap.get?_push_of_some _ e
  have hT1 : ({ s with heap := s.heap.push { cls := .type "list", data := .seq ([] : List Value).toArray } } : Shared).TypeIs (.ref a) "generator" := by
    obtain ⟨o, ho, hc⟩ := hT
    exact ⟨o, k1 _ _ ho, hc⟩
  show wpAny _ A.in1 (Builtin.List.listExtendWith (.ref s.heap.objs.size) (.ref a) (.ref s.heap.objs.size)) _ _ _
  unfold Builtin.List.listExtendWith
  refine wpAny_bind (wpAny_typeOf hT1 ?_)
  have h1 : Builtin.List.listSameRef (.ref s.heap.objs.size) (.ref a) = false := by simp [Builtin.List.listSameRef, ne]
  have h2 : (Value.type "generator" == Value.type "list") = false := by decide
  have h3 : (Value.type "generator" == Value.type "tuple") = false := by decide
  simp only [h1, h2, h3, Bool.or_false, Bool.false_eq_true, if_false]
  refine wpAny_bind (hself _ _ _ _ k1 ?_)
  refine wpAny_bind (wpAny_holding ?_)
  unfold Builtin.List.listLengthHint
  refine wpAny_bind (wpAny_specialOf hT1 F.gen_no_len ?_)
  show wpAny _ A.in1 (specialOf (Value.ref a) (Str.ofString "__length_hint__") >>= _) _ _ _
  refine wpAny_bind (wpAny_specialOf hT1 F.gen_no_hint ?_)
  refine wpAny_pure ?_
  show wpAny _ A.in1 (rule "list.extend.makes-room" >>= fun _ => Builtin.List.listTouch (.ref s.heap.objs.size) >>= fun _ =>
    again (.builtin "list.extend.loop" ⟨[.ref s.heap.objs.size, .ref a, .ref s.heap.objs.size], []⟩)) _ _ _
  refine wpAny_bind (wpAny_rule ?_)
  have e1 : (s.heap.push { cls := .type "list", data := .seq ([] : List Value).toArray }).get? s.heap.objs.size = some { cls := .type "list", data := .seq ([] : List Value).toArray } := Heap.get?_push_size _ rfl
  refine wpAny_bind ?_
  show wpAny _ A.in1 (updateSeq s.heap.objs.size (·.push .none) >>= fun _ => updateSeq s.heap.objs.size (·.pop)) _ _ _
  refine wpAny_bind (wpAny_updateSeq e1 rfl ?_)
  have e2 := Heap.get?_update_self (Obj.mapSeq (·.push Value.none)) e1 rfl
  refine wpAny_updateSeq e2 rfl ?_
  have e3 := Heap.get?_update_self (Obj.mapSeq (·.pop)) e2 rfl
  have oth : ∀ b o, s.heap.get? b = some o → (((s.heap.push { cls := .type "list", data := .seq ([] : List Value).toArray }).update s.heap.objs.size (Obj.mapSeq (·.push Value.none))).update s.heap.objs.size (Obj.mapSeq (·.pop))).get? b = some o := fun b o e => by
    have nb : s.heap.objs.size ≠ b := fun z => absurd (Heap.lt_size e) (by rw [← z]; exact Nat.lt_irrefl _)
    exact (Heap.get?_update_other _ _ nb).trans ((Heap.get?_update_other _ _ nb).trans (k1 b o e))
  refine wpAny_pure ⟨plainId_quiet F.plain_extend_loop _, ?_⟩
  refine codeAny_mono (loop _ oth ?_) fun r s' hr => ?_
  · rw [e3]
    rfl
  · cases r with
    | error e => exact hr.elim
    | ok f =>
      cases f with
      | ret v =>
        obtain ⟨rfl, its, n, e, q⟩ := hr
        show wpAny _ A (load s.heap.objs.size >>= _) _ _ s'
        exact wpAny_bind (wpAny_load e (wpAny_pure q))
      | next => exact hr.elim
      | brk => exact hr.elim
      | cont => exact hr.elim
/-- tuple(a) of a generator -/
theorem tuple_gen {a : Addr} {Q : Value → Shared → Prop} (hT : s.TypeIs (.ref a) "generator") (hself : ∀ (A : Around) (s' : Shared) (Q : Value → Shared → Prop) (E : Value → Shared → Prop), (∀ b o, s.heap.get? b = some o → s'.heap.get? b = some o) → Q (.ref a) s' → wpAny (model prog w) A (pyIter (.ref a)) Q E s')
    (loop : ∀ h' : Heap, (∀ b o, s.heap.get? b = some o → h'.get? b = some o) → h'.get? s.heap.objs.size = some { cls := .type "list", data := .seq ([] : List Value).toArray 2 } →
      codeAny (model prog w) A.in1.in1 (.builtin "list.extend.loop" ⟨[.ref s.heap.objs.size, .ref a, .ref s.heap.objs.size], []⟩) (fun r s' => match r with
        | .ok (.ret v) => v = .ref s.heap.objs.size ∧ ∃ its n, s'.heap.get? s.heap.objs.size = some { cls := .type "list", data := .seq its n } ∧ its.size ≤ sizeLine ∧ Q (.ref s'.heap.objs.size) { s' with heap := s'.heap.push { cls := .type "tuple", data := .seq its } }
        | _ => False) { s with heap := h' }) : wpAny (model prog w) A (call (.type "tuple") [.ref a]) Q E s := by
  refine callType_codes (Q₁ := fun obj s₁ => s₁.TypeIs obj "tuple" ∧ Q obj s₁) F.called_tuple (F.typeCall_tuple_1 _) F.entry_object_init ?_ fun obj s₁ h₁ => ?_
  · refine codeAny_of_tree ?_
    show wpAny _ A.in1.in1 (do checkBuiltinCall "tuple.__new__" ⟨[.type "tuple", .ref a], []⟩; again (.builtin "tuple.__new__" ⟨[.type "tuple", .ref a], []⟩)) _ _ s
    refine wpAny_bind (wpAny_of_eq (F.newCall_tuple_1 _) (wpAny_pure ⟨plainId_quiet F.plain_tuple_new _, codeAny_builtin F.entry_tuple_new ?_⟩))
    rw [Around.under_plainId F.plain_tuple_new _]
    have hsub := sub_tuple_self
    have hinit := init_tuple_lookup
    have hmh := madeHere_tuple
    have col := fun (Q' : List Value → Shared → Prop) (E : Value → Shared → Prop) l => collect_gen (prog := prog) (w := w) (A := A.in1.in1) (E := E) (s := s) (a := a) (Q := Q') hT hself l
    wp_walk using wpAny_typeOf hT, col
    intro h' k1 e1
    refine codeAny_mono (loop h' k1 e1) fun r s' hr => ?_
    cases r with
    | error e => exact hr.elim
    | ok f =>
      cases f with
      | ret v =>
        obtain ⟨rfl, its, n, e, hz, q⟩ := hr
        refine ⟨rfl, its, n, e, ?_⟩
        show wpAny _ _ (Builtin.Tuple.tupleExact its.toList.toArray >>= fun v => ret v) _ _ _
        unfold Builtin.Tuple.tupleExact
        have ei : its.toList.toArray = its := by simp
        rw [ei]
        refine wpAny_bind (wpAny_newObj_type ?_ hz)
        exact wpAny_pure ⟨⟨_, Heap.get?_push_size _ rfl, rfl⟩, q⟩
      | next => exact hr.elim
      | brk => exact hr.elim
      | cont => exact hr.elim
  · exact ⟨h₁.1, F.args_object_init_2 obj _, object_init_meets F.called_tuple.init.lookup F.called_tuple.made (by decide) prog w A.in1 _ s₁ ⟨h₁.1, rfl, h₁.2⟩⟩
end
section
variable {X : Cx} {pins : List (Addr × Obj)} {σ : L2.St} {H : Hp} {s : Shared}
abbrev gA4 (X : Cx) (elt tg iter : Expr) (ifs : List Expr) (scope : Scope) (gpos : Pos) (it : Addr) (env : Env) : Around := X.A.in1.in1.in1.in1.over (.compLoop (.GeneratorExp elt [⟨tg, iter, ifs, 0⟩] scope gpos) 0 (.ref it) .none env) []
def tTupG (T : List (Addr × Str)) (src : List (Option Nat)) (wi : TI) (g : TG) (tt : TT) (te : TE) : TE := fun σ H Q => wi σ H fun J H1 => LamX.Tabs T H1 ∧ ∀ H2, LamX.ExtN H1 H2 → LamX.Tabs T H2 → ∀ S, H2 S = none →
  ∃ W, (∃ m, W 0 m (stG src σ) (upd H2 S (.lst []))) ∧ GTurn J g tt te W (fun _ H' => ∃ acc, H' S = some (.lst acc) ∧ ∀ p, H' p = none → Q (.ref p) (upd H' p (.tup acc))) (ZCol S)
/-- tuple(elt for tg in iter if ..) -/
theorem pe_tupG {T : List (Addr × Str)} {c P : Addr} {k : Nat} {Ng : List Str} {src : List (Option Nat)} {elt tg iter : Expr} {ifs : List Expr} {scope : Scope} {p pos gpos : Pos} {wi : TI} {g : TG} {tt : TT} {te : TE}
    (hr : Room (k + 1) X.A) (hg : Gl X "tuple") (hm : X.mg "tuple" = none) (TB : LamX.TabB X.base X.mg c P) (hcode : X.env.code = .ref c) (hmT : (P, X.env.qual ++ "<genexpr>") ∈ T) (hu : ∀ p ∈ T, p.1 = P → p.2 = X.env.qual ++ "<genexpr>")
    (S : GSc X.N X.env.scope Ng src scope) (hi : PI X tg iter wi)
    (pg : ∀ (A : Around) (C : Addr) (code : Value) (s : Shared) (H : Hp) (fp : List Addr), Room k A → PG (gCx X Ng A (gEnv X scope C code) s H fp) tg g)
    (pt : ∀ (A : Around) (C : Addr) (code : Value) (s : Shared) (H : Hp) (fp : List Addr), Room k A → PTs (gCx X Ng A (gEnv X scope C code) s H fp) ifs tt)
    (pe : ∀ (A : Around) (C : Addr) (code : Value) (s : Shared) (H : Hp) (fp : List Addr), Room k A → PE (gCx X Ng A (gEnv X scope C code) s H fp) elt te)
    (hb : bootBuiltins "tuple" = some (.type "tuple") := by decide +kernel) (hs : ∀ v, genFold iter X.env v = pure v := by intro _; rfl)
    (he : starEach [.GeneratorExp elt [⟨tg, iter, ifs, 0⟩] scope gpos] X.env = (false, eval (.GeneratorExp elt [⟨tg, iter, ifs, 0⟩] scope gpos) X.env) :: starEach [] X.env := by rfl) :
    PE X (.Call (.Name "tuple" p) [.GeneratorExp elt [⟨tg, iter, ifs, 0⟩] scope gpos] [] pos) (tTupG T src wi g tt te) := by
  refine ⟨fun pins s σ H Q I h => ?_⟩
  refine wpAny_Call_Name_kw (ld_blt I hg hm hb ?_)
  refine PyProof.Rows.callWith_type1 ?_ he (by rfl)
  rw [he]
  show wpAny _ _ (spliced ((false, eval (.GeneratorExp elt [⟨tg, iter, ifs, 0⟩] scope gpos) X.env) :: backTo pos (starEach [] X.env))) _ _ s
  refine Calls.spliced_cons (gen_make (Ng := Ng) (src := src) (hr.mono (Nat.le_succ k)) TB hcode hmT hu S hi hs I h fun J H2 s4 s5 a code it fp tn go hR M => ?_)
  refine Calls.spliced_nil ?_
  obtain ⟨t1, t2, ego⟩ := M.gen
  have hfr : (gA4 X elt tg iter ifs scope gpos it (gEnv X scope s4.heap.objs.size code)).frames = some (gEnv X scope s4.heap.objs.size code :: X.stack) := by
    show pushEnvs [gEnv X scope s4.heap.objs.size code] X.A.frames = _
    rw [M.inv.ok.frames]
    rfl
  have hrA : Room k (gA4 X elt tg iter ifs scope gpos it (gEnv X scope s4.heap.objs.size code)) := by
    refine ⟨hr.hd, ?_, ?_⟩
    · have := hr.dp
      show X.A.depth + 1 + 3 * k + 5 < _
      omega
    · have := hr.un
      show X.A.units + 1 + 1 + 1 + 1 + 3 + 16 * k + 200 < _
      omega
  have IG := M.inG (gA4 X elt tg iter ifs scope gpos it (gEnv X scope s4.heap.objs.size code)) hr.hd hfr
  have isG : ∀ s' σ' H', Inv (gCx X Ng (gA4 X elt tg iter ifs scope gpos it (gEnv X scope s4.heap.objs.size code)) (gEnv X scope s4.heap.objs.size code) s4 H2 fp) [(a, go)] σ' H' s' → s'.heap.IsGen a s4.gens.size := fun s' σ' H' I' => by
    have e := (I'.pin (a, go) (List.mem_append_right _ (List.mem_singleton.mpr rfl))).1
    rw [ego] at e
    exact gObj_isGen e
  have mk : ∀ (s' : Shared) (σ' : L2.St) (H' : Hp), Inv (gCx X Ng (gA4 X elt tg iter ifs scope gpos it (gEnv X scope s4.heap.objs.size code)) (gEnv X scope s4.heap.objs.size code) s4 H2 fp) [(a, go)] σ' H' s' → Inv X pins σ H' s' := fun s' σ' H' I' =>
    M.inv.call' (ch := fp) I'.os I'.base I'.hok I'.bare fun x hx => ⟨(M.fpk x hx).2.2.2.1, (M.fpk x hx).2.1, (M.fpk x hx).2.2.2.2.1, (M.fpk x hx).2.2.2.2.2⟩
  have gT : s5.TypeIs (.ref a) "generator" := (isG _ _ _ IG).typeIs
  refine tuple_gen gT (fun A s' Q E kp q => ?_) fun h' k1 e1 => ?_
  · have : s'.heap.IsGen a s4.gens.size := by
      have e := (IG.pin (a, go) (List.mem_append_right _ (List.mem_singleton.mpr rfl))).1
      rw [ego] at e
      exact gObj_isGen (kp _ _ e)
    exact wpAny_pyIter_gen this q
  have fr : H2 s5.heap.objs.size = none := IG.hok.fresh (Nat.le_refl _)
  obtain ⟨W, ⟨m, w0⟩, turn⟩ := hR s5.heap.objs.size fr
  have I6 := IG.laid (t' := s5.toks) (a := s5.heap.objs.size) (o := .lst []) k1 (Nat.le_refl _) ⟨Nat.zero_le _, [], 2, .nil, e1⟩
  have begun : ∀ s'', GSt (gCx X Ng (gA4 X elt tg iter ifs scope gpos it (gEnv X scope s4.heap.objs.size code)) (gEnv X scope s4.heap.objs.size code) s4 H2 fp) [(a, go)] fp tn (W 0 m) 0 s'' →
      (GenState.fresh (.compStart (.GeneratorExp elt [⟨tg, iter, ifs, 0⟩] scope gpos) 0 (.ref it) .none (gEnv X scope s4.heap.objs.size code))).Goes (model X.prog X.w) X.A.in1.in1.in1.in1 (GEnd (gCx X Ng (gA4 X elt tg iter ifs scope gpos it (gEnv X scope s4.heap.objs.size code)) (gEnv X scope s4.heap.objs.size code) s4 H2 fp) [(a, go)] (fun _ H' => ∃ acc, H' s5.heap.objs.size = some (.lst acc) ∧ ∀ p, H' p = none → Q (.ref p) (upd H' p (.tup acc))))
        (GPr (gCx X Ng (gA4 X elt tg iter ifs scope gpos it (gEnv X scope s4.heap.objs.size code)) (gEnv X scope s4.heap.objs.size code) s4 H2 fp) [(a, go)] fp tn W (ZCol s5.heap.objs.size)) (m + 1) (.send .none) s'' := fun s'' hst =>
    ⟨rfl, seg_begin (X := gCx X Ng (gA4 X elt tg iter ifs scope gpos it (gEnv X scope s4.heap.objs.size code)) (gEnv X scope s4.heap.objs.size code) s4 H2 fp) rfl rfl rfl rfl M.turn (fun p hp b hb => by
      have : p = (a, go) := List.mem_singleton.mp (show p ∈ [(a, go)] from hp)
      rw [this]
      exact M.ne b hb) (pg _ _ _ _ _ _ hrA) (pt _ _ _ _ _ _ hrA) (pe _ _ _ _ _ _ hrA) S.co turn (Nat.lt_succ_self m) hst⟩
  refine col_loop (X := gCx X Ng (gA4 X elt tg iter ifs scope gpos it (gEnv X scope s4.heap.objs.size code)) (gEnv X scope s4.heap.objs.size code) s4 H2 fp) (B := X.A.in1.in1) (ip := [(a, go)]) (fp := fp) (tn := tn) (W := W) (S := s5.heap.objs.size) (g := s4.gens.size) (Fin := fun _ H' => ∃ acc, H' s5.heap.objs.size = some (.lst acc) ∧ ∀ p, H' p = none → Q (.ref p) (upd H' p (.tup acc)))
    hr.hd (by have := hr.dp; show X.A.depth < _; omega) isG M.turn.keep (fun s' σ' H' I' fin => ?_) (m + 1) (W 0 m) 0 { s5 with heap := h' } _ M.sz M.gs begun ⟨stG src σ, _, I6, M.turn.keep _ _ _ M.at0 (fun b _ o e => k1 b o e), fun b hb => ?_, w0⟩
  · obtain ⟨acc, hS, q⟩ := fin
    obtain ⟨z, its, n, r, e⟩ := I'.hok _ _ hS
    refine ⟨rfl, its.toArray, n, e, by rw [List.size_toArray, ← r.length]; exact z, ?_⟩
    have I0 := mk s' σ' H' I'
    exact ⟨.ref s'.heap.objs.size, _, I0.laid (t' := s'.toks) (o := .tup acc) (fun b u e => Heap.get?_push_of_some _ e) (Nat.le_refl _) ⟨z, its, r, IsTup.new _ _⟩, rfl, q _ (I0.hok.fresh (Nat.le_refl _))⟩
  · rw [upd_ne (fun z => by
      obtain ⟨o, ho, _⟩ := M.turn.obj _ _ M.at0 b hb
      exact absurd (Heap.lt_size ho) (by rw [z]; exact Nat.lt_irrefl _))]
    exact (M.fpk b hb).1
end
theorem zcol_mono {S : Addr} (N N' : L2.St → Hp → Prop) (h : ∀ σ H, N σ H → N' σ H) (y : V) (σ : L2.St) (H : Hp) (z : ZCol S N y σ H) : ZCol S N' y σ H := by
  obtain ⟨acc, e, l, q⟩ := z
  exact ⟨acc, e, l, h _ _ q⟩
/-- the turns of tuple over a walk: f the items -/
theorem tup_in {α : Type} {J : It} {xs : List α} {G : Hp → Prop} {Y : Nat → Hp → V → Hp → Prop} (w : Walk J xs.length G Y) {g : TG} {te : TE} {σ : L2.St} {H2 : Hp} {S : Addr} {Q : VK} (f : α → V) (Pv : L2.St → Hp → Prop) (h0 : Pv σ (upd H2 S (.lst []))) (hl : xs.length ≤ sizeLine) (hG : ∀ σ H, Pv σ H → G H)
    (hu : ∀ σ H acc acc', H S = some (.lst acc) → Pv σ H → Pv σ (upd H S (.lst acc')))
    (hs : ∀ i a x σ H H', xs[i]? = some a → H S = some (.lst ((xs.take i).map f)) → Pv σ H → Y i H x H' → ∀ (R : V → L2.St → Hp → Prop), (∀ σ2 H4, H4 S = some (.lst ((xs.take i).map f)) → Pv σ2 H4 → R (f a) σ2 H4) → g x σ H' fun σ2 H2 => te σ2 H2 fun y H4 => R y σ2 H4)
    (hd : ∀ σ H, H S = some (.lst (xs.map f)) → Pv σ H → ∀ p, H p = none → Q (.ref p) (upd H p (.tup (xs.map f)))) :
    ∃ W : Nat → Nat → L2.St → Hp → Prop, (∃ m, W 0 m σ (upd H2 S (.lst []))) ∧ GTurn J g tYes te W (fun _ H' => ∃ acc, H' S = some (.lst acc) ∧ ∀ p, H' p = none → Q (.ref p) (upd H' p (.tup acc))) (ZCol S) := by
  refine ⟨fun i m σ H => m = xs.length - i ∧ i ≤ xs.length ∧ Pv σ H ∧ H S = some (.lst ((xs.take i).map f)), ⟨xs.length, by simp, Nat.zero_le _, h0, upd_same⟩, zcol_mono, ?_⟩
  rintro i m σ H ⟨rfl, hi, p, hS⟩
  by_cases hlt : i < xs.length
  · have ei : xs[i]? = some xs[i] := List.getElem?_eq_getElem hlt
    refine .inr ⟨w.goes i H hlt (hG _ _ p), fun σ2 H2 => Pv σ2 H2 ∧ H2 S = some (.lst ((xs.take (i + 1)).map f)), fun σ' H' p' => ⟨xs.length - (i + 1), by omega, rfl, hlt, p'⟩, fun x H' y => ?_⟩
    refine hs i xs[i] x σ H H' ei hS p (w.yields i H x H' hlt (hG _ _ p) y) (fun y σ2 H4 => ZCol S (fun σ2 H2 => Pv σ2 H2 ∧ H2 S = some (.lst ((xs.take (i + 1)).map f))) y σ2 H4) fun σ2 H4 hS4 p4 => ?_
    refine ⟨_, hS4, ?_, hu _ _ _ _ hS4 p4, ?_⟩
    · rw [List.length_map, List.length_take]
      omega
    · rw [upd_same, List.take_add_one, ei, List.map_append]
      rfl
  · have e : i = xs.length := by omega
    subst e
    rw [List.take_length] at hS
    exact .inl ⟨w.stops H (hG _ _ p), _, hS, hd _ _ hS p⟩
end Gx

set_option Elab.async false
set_option autoImplicit false
set_option linter.all false
set_option maxRecDepth 100000
set_option maxHeartbeats 1000000
namespace Fl
open PySem PySem.Spec PyProof.Rows L2 Dl R
/-! ### tuple(e for .. in .. if ..) -/
def stR (src : List (Option Nat)) (ρ : Rho) : Rho := src.map fun o => o.bind fun i => (ρ[i]?).join
def cTupG (i : CI) (g : CG) (t : CT) (a : CE) (src : List (Option Nat)) (ow : List Nat) (ρ : Rho) : R Dv := (i ρ).bind fun ds => chk (decide (ds.length ≤ 1000000)) ((lcR g t a (wipeR (stR src ρ) ow) ds).bind fun l => ok (.d (.tuple l)))
/-- x's code object tells its table; it is told by T under the name q, there alone -/
structure TbQ (K : PySem.W.Frag) (mg : Str → Option Value) (base : Heap) (T : Tbs) (x q : Str) : Prop where
  tb : LamX.TabB base mg (He.codeOf K (x, none)) (He.cT K (x, none)).2
  mem : ((He.cT K (x, none)).2, q) ∈ T
  un : ∀ p ∈ T, p.1 = (He.cT K (x, none)).2 → p.2 = q
section
variable {X : Cx} {C : DC} {er : Str → Prop}
theorem sr_st {hid : List Addr} {σ : L2.St} {H : Hp} {ρ : Rho} (s : SR C hid σ H ρ) (src : List (Option Nat)) : SR C hid (Gx.stG src σ) H (stR src ρ) := by
  refine ⟨by unfold stR; rw [Gx.stG_length, List.length_map], fun j y e => ?_⟩
  unfold stR at e
  rw [List.getElem?_map] at e
  cases es : src[j]? with
  | none => rw [es] at e; cases e
  | some o =>
    rw [es] at e
    cases o with
    | none => cases e
    | some i =>
      have e : (ρ[i]?).join = some y := Option.some.inj e
      have e2 : ρ[i]? = some (some y) := by
        cases q : ρ[i]? with
        | none => rw [q] at e; cases e
        | some r => rw [q] at e; rw [show r = some y from e]
      obtain ⟨v, h1, h2⟩ := s.at' i y e2
      refine ⟨v, ?_, h2⟩
      unfold Gx.stG
      rw [List.getElem?_map, es]
      show some ((σ[i]?).join) = _
      rw [h1]
      rfl
theorem sr_like {hid : List Addr} {σ σ' : L2.St} {H : Hp} {ρ : Rho} {ow : List Nat} (s : SR C hid σ H ρ) (w : wipe σ' ow = wipe σ ow) : SR C hid σ' H (wipeR ρ ow) := by
  have l := congrArg List.length w
  rw [wipe_length, wipe_length] at l
  refine ⟨by rw [wipeR_len, l]; exact s.len, fun j y e => ?_⟩
  obtain ⟨h1, h2⟩ := wipeR_at e
  obtain ⟨v, k1, k2⟩ := s.at' j y h2
  refine ⟨v, ?_, k2⟩
  have e1 := congrArg (fun l => l[j]?) w
  simp only [wipe_at, if_neg h1] at e1
  rw [e1, k1]
theorem tupG_imp {i : CI} {g : CG} {t : CT} {a : CE} {src : List (Option Nat)} {ow : List Nat} (σ : L2.St) (H : Hp) (Q : VK) : tE C (up er (cTupG i g t a src ow)) σ H Q →
    Gx.tTupG C.T src (tI C (up er i)) (tG C ow (upG er g)) (tT C (up er t)) (tE C (up er a)) σ H Q := by
  rintro ⟨hid, ρ, q, hp, sr, a0, k⟩
  unfold up cTupG at a0
  rw [wp_bind] at a0
  refine ⟨hid, ρ, _, hp, sr, a0, fun J ds H1 e1 o1 wd a1 => ⟨o1.tabs, fun H2 x2 t2 D hD => ?_⟩⟩
  obtain ⟨c1, a1⟩ := chk_wp a1
  have c1 := of_decide_eq_true c1
  rw [wp_bind] at a1
  obtain ⟨Gp, Y, walk, hG, hY⟩ := wd.ex
  have e2 : Ext C.c H1 H2 := fun b o _ e n => x2 b o e n
  have o2 : HpOk C hid H2 := ⟨t2, fun a ea => ⟨(o1.cup a ea).1, by
    obtain ⟨x, s, h, z⟩ := (o1.cup a ea).2
    exact ⟨x, s, x2 _ _ h (fun _ z => by cases z), z⟩⟩, fun a ha => by
    obtain ⟨xs, h, ow⟩ := o1.some a ha
    exact ⟨xs, x2 _ _ h (fun _ z => by rw [z] at ow; exact ow), ow⟩, o1.sub, o1.ext.trans e2⟩
  have s12 : Stp hid H1 hid H2 := Stp.ext e2 o1
  have cD : C.c ≠ some D := fun z => o2.nn D (o2.cup D z).1 hD
  have hD0 : D ∉ C.hid0 := fun z => o2.nn D (o2.sub D z) hD
  have hDh : D ∉ hid := fun z => o2.nn D z hD
  have sr2 : SR C hid (Gx.stG src σ) H2 (stR src ρ) := sr_st ((sr.ext e1 hp).ext e2 o1) src
  refine ⟨fun i' m σ' H' => m = ds.length - i' ∧ i' ≤ ds.length ∧ ∃ ys acc, Mk C hid H2 D H' ys acc ∧ wipe σ' ow = wipe (Gx.stG src σ) ow ∧ acc.length + (ds.length - i') ≤ 1000000 ∧ wp (lcR g t a (wipeR (stR src ρ) ow) (ds.drop i')) (fun l => q (.d (.tuple (acc ++ l)))) er,
    ⟨ds.length, rfl, Nat.zero_le _, [], [], Mk.start o2 hD, rfl, by simp only [List.length_nil]; omega, a1⟩, Gx.zcol_mono, ?_⟩
  rintro i' m σ' H' ⟨rfl, hi, ys, acc, mk, ws, bd, go⟩
  have hg := hG _ _ (s12.trans mk.st)
  by_cases hil : i' < ds.length
  · refine .inr ⟨walk.goes i' H' hil hg, fun σ3 H3 => ∃ ys acc, Mk C hid H2 D H3 ys acc ∧ wipe σ3 ow = wipe (Gx.stG src σ) ow ∧ acc.length + (ds.length - (i' + 1)) ≤ 1000000 ∧ wp (lcR g t a (wipeR (stR src ρ) ow) (ds.drop (i' + 1))) (fun l => q (.d (.tuple (acc ++ l)))) er,
      fun σ3 H3 p => ⟨ds.length - (i' + 1), by omega, rfl, hil, p⟩, fun x H'' y => ?_⟩
    obtain ⟨x', ex, hy, dd⟩ := hY i' _ H' x H'' hil (s12.trans mk.st) mk.ok (walk.yields i' H' x H'' hil hg y)
    obtain ⟨e3, o3⟩ := yld_ok mk.ok hy
    rw [drop_at ex] at go
    unfold lcR at go
    rw [wp_bind] at go
    have mk3 := mk.step cD e3 o3
    refine ⟨D :: hid, wipeR (stR src ρ) ow, .d x', _, o3, sr_like (mk3.sr o2 hD sr2) ws, dd, go, fun σ4 ρ4 sr4 _ w4 g4 => ?_⟩
    rw [wp_bind] at g4
    refine ⟨D :: hid, ρ4, _, o3, sr4, g4, fun b H5 e5 o5 g5 => ?_⟩
    have mk5 := mk3.step cD e5 o5
    cases b with
    | false => exact ⟨ys, acc, mk5, w4.trans ws, by omega, g5⟩
    | true =>
      have g5 : wp (R.bind _ _) _ er := g5
      rw [wp_bind] at g5
      refine ⟨D :: hid, ρ4, _, o5, sr4.ext e5 o3, g5, fun v z H6 e6 o6 r6 g6 => ?_⟩
      rw [wp_bind] at g6
      obtain ⟨z, rfl, g7⟩ := of_onD (dR_wp g6)
      rw [wp_bind] at g7
      have mk6 := mk5.step cD e6 o6
      obtain ⟨mkA, _⟩ := mk6.push cD o2 hD r6
      refine ⟨ys, mk6.at', by rw [mk6.dd.len]; exact Nat.lt_of_le_of_lt (show acc.length ≤ 1000000 by omega) (by decide), _, _, mkA, w4.trans ws, by rw [List.length_append, List.length_singleton]; omega, ?_⟩
      refine wp_mono (fun l h => ?_) g7
      have h : q (.d (.tuple (acc ++ z :: l))) := h
      rw [List.append_assoc]
      exact h
  · have ei : i' = ds.length := by omega
    subst ei
    rw [List.drop_length] at go
    have go : q (.d (.tuple (acc ++ []))) := go
    rw [List.append_nil] at go
    refine .inl ⟨walk.stops H' hg, ys, mk.at', fun p np => ?_⟩
    have okh : HpOk C hid H' := mk.ok.drop cD hD0
    refine k (.ref p) _ _ (Ext.trans (fun b o n e t => ?_) (Ext.new np _)) (okh.new np _) (new_tup okh (DdAll.mono (fun b o e _ => ?_) _ _ mk.dd) np) go
    · have he := e2 b o n (e1 b o n e t) t
      exact mk.all b o (fun z => by rw [z, hD] at he; cases he) n he t
    · obtain ⟨h1, h2⟩ := hide_some e
      exact hide_of (fun z => h1 (List.mem_cons_of_mem _ z)) h2
theorem fe_tupG {x q : Str} {Ng : List Str} {src : List (Option Nat)} {ow : List Nat} {elt tg iter : Expr} {ifs : List Expr} {scope : Scope} {p pos gpos : Pos} {I : CI} {G : CG} {T : CT} {A : CE} {k : Nat} (l : Lv0 X C (k + 1)) (hm : X.mg "tuple" = none) (TB : TbQ X.K X.mg X.base C.T x q)
    (hcode : X.env.code = .ref (He.codeOf X.K (x, none))) (hq : X.env.qual ++ "<genexpr>" = q) (S : Gx.GSc X.N X.env.scope Ng src scope) (hi : PI X tg iter (tI C (up er I)))
    (pg : ∀ (B : Around) (c : Addr) (code : Value) (s : Shared) (H : Hp) (fp : List Addr), Lv0 (Gx.gCx X Ng B (Gx.gEnv X scope c code) s H fp) C k → PG (Gx.gCx X Ng B (Gx.gEnv X scope c code) s H fp) tg (tG C ow (upG er G)))
    (pt : ∀ (B : Around) (c : Addr) (code : Value) (s : Shared) (H : Hp) (fp : List Addr), Lv0 (Gx.gCx X Ng B (Gx.gEnv X scope c code) s H fp) C k → PTs (Gx.gCx X Ng B (Gx.gEnv X scope c code) s H fp) ifs (tT C (up er T)))
    (pe : ∀ (B : Around) (c : Addr) (code : Value) (s : Shared) (H : Hp) (fp : List Addr), Lv0 (Gx.gCx X Ng B (Gx.gEnv X scope c code) s H fp) C k → PE (Gx.gCx X Ng B (Gx.gEnv X scope c code) s H fp) elt (tE C (up er A)))
    (hg : Gl X "tuple" := by rfl) (hs : ∀ v, genFold iter X.env v = pure v := by intro _; rfl)
    (he : starEach [.GeneratorExp elt [⟨tg, iter, ifs, 0⟩] scope gpos] X.env = (false, eval (.GeneratorExp elt [⟨tg, iter, ifs, 0⟩] scope gpos) X.env) :: starEach [] X.env := by rfl) :
    PE X (.Call (.Name "tuple" p) [.GeneratorExp elt [⟨tg, iter, ifs, 0⟩] scope gpos] [] pos) (tE C (up er (cTupG I G T A src ow))) := by
  subst hq
  exact (Gx.pe_tupG (T := C.T) (k := k) (Ng := Ng) (src := src) l.room hg hm TB.tb hcode TB.mem TB.un S hi (fun B c code s H fp r => pg B c code s H fp ⟨l.K, rfl, S.nd, r⟩) (fun B c code s H fp r => pt B c code s H fp ⟨l.K, rfl, S.nd, r⟩) (fun B c code s H fp r => pe B c code s H fp ⟨l.K, rfl, S.nd, r⟩) (by decide +kernel) hs he).imp tupG_imp
end
end Fl

set_option Elab.async false
set_option linter.all false
set_option maxRecDepth 100000
set_option maxHeartbeats 4000000
namespace Fl
open PySem PySem.Spec PyProof.Rows L2 Dl R
/-! ### to reckon by rewriting -/
theorem chk_t {α : Type} {b : Bool} {x : R α} (h : b = true) : chk b x = x := by rw [h]; rfl
theorem iff_t {α : Type} {b : Bool} {x y : R α} (h : b = true) : iff b x y = x := by rw [h]; rfl
theorem iff_f {α : Type} {b : Bool} {x y : R α} (h : b = false) : iff b x y = y := by rw [h]; rfl
theorem wp_ok {α : Type} {a : α} {q : α → Prop} {er : Str → Prop} : wp (ok a) q er = q a := rfl
theorem eqv_str (a b : Str) : PyData.eqv (.str a) (.str b) = decide (a = b) := by simp only [PyData.eqv]; rfl
theorem eqv_int (a b : Int) : PyData.eqv (.int a) (.int b) = decide (a = b) := by simp only [PyData.eqv]; rfl
theorem eqv_bool (a b : Bool) : PyData.eqv (.bool a) (.bool b) = decide (a = b) := by simp only [PyData.eqv]; cases a <;> cases b <;> rfl
local macro_rules | `(tactic| subst_eqs) => `(tactic| simp -implicitDefEqProofs (disch := first | assumption | decide +kernel | (simp only [Bool.and_eq_true, decide_eq_true_eq] <;> (try simp only [PyData.depth, PyData.depthAll]) <;> omega) | fail) only [body, lim, chk_t, iff_t, iff_f, boolR_b, dR_d, intR_i, seqR_l, seqR_t, cSeq, cIf, cNext, cSet, cRet, cRetN, cDrop, cBreak, cVar, cC, cTy, cFn, cOp, cUn, cNil, cCons, cB, cNot, cAndT, cOrT, cIfE, cAnd, cOr, cNotE, cTup, cLst, dsR, datas, notOwnB, bind_ok, bind_er, bind_no, bind_ch, wp_ok, eqv_str, eqv_int, eqv_bool, retR_d, retR_o, retR_c, isinC, notInC, isC, isNotC, ltC, leC, gtC, geC, allC, anyC,
  cCall, cCall0, cCallN, cCallN0, cCallL, cFun, cSl, cPart, cNoPart, cIt, cLc, wipeR, cFor, cAsg, tgN, tgT, tgsCons, tgsNil, cPar, cParL, cOwnL, cApp, cRaise, cYes, addC, subC, mulC, modC, fdivC, eqC, twoR, asD, neC, cmpC, inC, isQC, isNonD, negC, lenC, isiC, listC, tupleC, absC, sliceC, revC, cRev, nr, cRng1, cRng2, cEnum, seqLR, cTop, ixC, atR_0, atR_1, atR_2, cChain,
  List.map_cons, List.map_nil, List.cons_append, List.nil_append, List.append_nil, List.getElem?_cons_zero, List.getElem?_cons_succ, List.set_cons_zero, List.set_cons_succ, List.replicate, List.all_cons, List.all_nil, List.length_cons, List.length_nil, Nat.zero_add, Nat.reduceAdd, Nat.reduceBEq, beq_self_eq_true,
  isa_str_none, isa_str_bool, isa_str_int, isa_str_str, isa_str_list, isa_str_tuple, isa_int_none, isa_int_bool, isa_int_int, isa_int_str, isa_int_list, isa_int_tuple, isa_bool_none, isa_bool_bool, isa_bool_int, isa_bool_str, isa_bool_list, isa_bool_tuple, isa_tuple_none, isa_tuple_bool, isa_tuple_int, isa_tuple_str, isa_tuple_list, isa_tuple_tuple, isa_list_none, isa_list_bool, isa_list_int, isa_list_str, isa_list_list, isa_list_tuple,
  Bool.false_eq_true, Bool.not_true, Bool.not_false, Bool.true_and, Bool.and_true, Bool.false_and, Bool.and_false, Bool.or_true, Bool.true_or, Bool.or_false, Bool.false_or, Bool.and_self, Bool.true_eq_false, reduceIte, id_eq, decide_true, decide_false, reduceCtorEq])
/-! ### rights near others -/

theorem boolR_b {b : Bool} : boolR (.d (.bool b)) = ok b := rfl
theorem dR_d {d : PyData} : dR (.d d) = ok d := rfl
theorem intR_i {i : Int} : intR (.d (.int i)) = ok i := rfl
theorem seqR_l {l : List PyData} : seqR (.d (.list l)) = ok l := rfl
theorem retR_d {d : PyData} : retR (.d d) = .d d := rfl
theorem retR_o {l : List PyData} : retR (.own l) = .d (.list l) := rfl
theorem retR_c : retR .cup = .cup := rfl
theorem seqR_t {l : List PyData} : seqR (.d (.tuple l)) = ok l := rfl
theorem seqR_s {z : Str} : seqR (.d (.str z)) = ok (Dl.signs z) := rfl
theorem atR_0 {x : PyData} {l : List PyData} : atR (x :: l) 0 = ok (.d x) := by
  unfold atR
  rw [show atI (x :: l) 0 = some x from atI_nat (j := 0) rfl]
theorem atR_1 {x y : PyData} {l : List PyData} : atR (x :: y :: l) 1 = ok (.d y) := by
  unfold atR
  rw [show atI (x :: y :: l) 1 = some y from atI_nat (j := 1) rfl]
theorem atR_2 {x y z : PyData} {l : List PyData} : atR (x :: y :: z :: l) 2 = ok (.d z) := by
  unfold atR
  rw [show atI (x :: y :: z :: l) 2 = some z from atI_nat (j := 2) rfl]
theorem cZip_eq {a b : CE} {ρ : Rho} {x y : Dv} (ha : a ρ = ok x) (hb : b ρ = ok y) : cZip a b ρ = zipC x y := by
  unfold cZip
  rw [ha, hb]
local macro_rules | `(tactic| subst_eqs) => `(tactic| simp -implicitDefEqProofs (disch := first | assumption | decide +kernel | (simp only [Bool.and_eq_true, decide_eq_true_eq] <;> (try simp only [PyData.depth, PyData.depthAll]) <;> omega) | fail) only [body, lim, chk_t, iff_t, iff_f, boolR_b, dR_d, intR_i, seqR_l, seqR_t, cSeq, cIf, cNext, cSet, cRet, cRetN, cDrop, cBreak, cVar, cC, cTy, cFn, cOp, cUn, cNil, cCons, cB, cNot, cAndT, cOrT, cIfE, cAnd, cOr, cNotE, cTup, cLst, dsR, datas, notOwnB, bind_ok, bind_er, bind_no, bind_ch, wp_ok, eqv_str, eqv_int, eqv_bool, retR_d, retR_o, retR_c, isinC, notInC, isC, isNotC, ltC, leC, gtC, geC, allC, anyC,
  cCall, cCall0, cCallN, cCallN0, cCallL, cFun, cSl, cPart, cNoPart, cIt, cLc, wipeR, cFor, cAsg, tgN, tgT, tgsCons, tgsNil, cPar, cParL, cOwnL, cApp, cRaise, cYes, addC, subC, mulC, modC, fdivC, eqC, twoR, asD, neC, cmpC, inC, isQC, isNonD, negC, lenC, isiC, listC, tupleC, absC, sliceC, revC, cRev, nr, cRng1, cRng2, cEnum, seqLR, cTop, ixC, atR_0, atR_1, atR_2, cChain, c_split, cM1, splitC, strR,
  List.map_cons, List.map_nil, List.cons_append, List.nil_append, List.append_nil, List.getElem?_cons_zero, List.getElem?_cons_succ, List.set_cons_zero, List.set_cons_succ, List.replicate, List.all_cons, List.all_nil, List.length_cons, List.length_nil, Nat.zero_add, Nat.reduceAdd, Nat.reduceBEq, beq_self_eq_true,
  isa_str_none, isa_str_bool, isa_str_int, isa_str_str, isa_str_list, isa_str_tuple, isa_int_none, isa_int_bool, isa_int_int, isa_int_str, isa_int_list, isa_int_tuple, isa_bool_none, isa_bool_bool, isa_bool_int, isa_bool_str, isa_bool_list, isa_bool_tuple, isa_tuple_none, isa_tuple_bool, isa_tuple_int, isa_tuple_str, isa_tuple_list, isa_tuple_tuple, isa_list_none, isa_list_bool, isa_list_int, isa_list_str, isa_list_list, isa_list_tuple,
  Bool.false_eq_true, Bool.not_true, Bool.not_false, Bool.true_and, Bool.and_true, Bool.false_and, Bool.and_false, Bool.or_true, Bool.true_or, Bool.or_false, Bool.false_or, Bool.and_self, Bool.true_eq_false, reduceIte, id_eq, decide_true, decide_false, reduceCtorEq])
/-! ### what is known of loops -/
theorem atR_of {l : List PyData} {i : Nat} {x : PyData} (h : l[i]? = some x) : atR l (i : Nat) = ok (.d x) := by
  unfold atR
  rw [atI_nat h]
theorem lcR_map {α : Type} {g : CG} {t : CT} {a : CE} {ρ : Rho} (enc : α → PyData) (c : α → Bool) (e : α → PyData) : ∀ (l : List α), (∀ x ∈ l, ∃ ρ1, g (.d (enc x)) ρ = ok ρ1 ∧ t ρ1 = ok (c x) ∧ (c x = true → a ρ1 = ok (.d (e x)))) → lcR g t a ρ (l.map enc) = ok ((l.filter c).map e)
  | [], _ => rfl
  | x :: l, h => by
    obtain ⟨ρ1, h1, h2, h3⟩ := h x List.mem_cons_self
    have ih := lcR_map enc c e l fun y hy => h y (List.mem_cons_of_mem _ hy)
    show (g (.d (enc x)) ρ).bind _ = _
    rw [h1, bind_ok, h2, bind_ok, ih]
    cases ec : c x with
    | true =>
      rw [List.filter_cons, if_pos ec, List.map_cons]
      show (a ρ1).bind _ = _
      rw [h3 ec]
      rfl
    | false =>
      rw [List.filter_cons, if_neg (by rw [ec]; decide)]
      rfl
theorem bind_inv {α β : Type} {m : R α} {f : α → R β} {b : β} (h : m.bind f = ok b) : ∃ a, m = ok a ∧ f a = ok b := by
  cases m with
  | ok a => exact ⟨a, rfl, h⟩
  | er c => cases h
  | no => cases h
  | ch S k => cases h
/-- one turn of a list comprehension -/
def lcT1 (g : CG) (t : CT) (a : CE) (ρ : Rho) (x : PyData) : R (Option PyData) := (g (.d x) ρ).bind fun ρ1 => (t ρ1).bind fun b => iff b ((a ρ1).bind fun y => (dR y).bind fun y => ok (some y)) (ok none)
theorem lcR_of {α : Type} {g : CG} {t : CT} {a : CE} {ρ : Rho} (enc : α → PyData) (c : α → Bool) (e : α → PyData) : ∀ (l : List α), (∀ x ∈ l, lcT1 g t a ρ (enc x) = ok (if c x = true then some (e x) else none)) → lcR g t a ρ (l.map enc) = ok ((l.filter c).map e)
  | [], _ => rfl
  | x :: l, h => by
    have ih := lcR_of enc c e l fun y hy => h y (List.mem_cons_of_mem _ hy)
    have hx := h x List.mem_cons_self
    unfold lcT1 at hx
    obtain ⟨ρ1, h1, hx⟩ := bind_inv hx
    obtain ⟨b, h2, hx⟩ := bind_inv hx
    show (g (.d (enc x)) ρ).bind _ = _
    rw [h1, bind_ok, h2, bind_ok, ih]
    cases b with
    | true =>
      obtain ⟨y, h3, hx⟩ := bind_inv (show (a ρ1).bind _ = _ from hx)
      obtain ⟨z, h4, hx⟩ := bind_inv hx
      have hx := R.ok.inj hx
      have ec : c x = true := by
        cases ec : c x with
        | true => rfl
        | false => rw [ec] at hx; cases hx
      rw [if_pos ec] at hx
      cases hx
      rw [List.filter_cons, if_pos ec, List.map_cons]
      show (a ρ1).bind _ = _
      rw [h3, bind_ok, h4]
      rfl
    | false =>
      have hx : ok none = _ := hx
      have hx := R.ok.inj hx
      have ec : ¬ c x = true := fun ec => by rw [if_pos ec] at hx; cases hx
      rw [List.filter_cons, if_neg ec]
      rfl
/-- a loop by what holds ahead of each turn -/
theorem forR_wp {g : CG} {s : CS} {er : Str → Prop} {K : Out → Prop} {ds : List PyData} (J : Nat → Rho → Prop)
    (step : ∀ i x ρ, ds[i]? = some x → J i ρ → wp (g (.d x) ρ) (fun ρ1 => wp (s ρ1) (fun o => match o with
      | .nx ρ' => J (i + 1) ρ'
      | .ct ρ' => J (i + 1) ρ'
      | .bk ρ' => K (.nx ρ')
      | .rt v => K (.rt v)) er) er) (fin : ∀ ρ, J ds.length ρ → K (.nx ρ)) : ∀ (n i : Nat), i + n = ds.length → ∀ ρ, J i ρ → wp (forR g s (ds.drop i) ρ) K er
  | 0, i, e, ρ, h => by
    have e : i = ds.length := by omega
    subst e
    rw [List.drop_length]
    exact fin ρ h
  | n + 1, i, e, ρ, h => by
    have hi : i < ds.length := by omega
    rw [List.drop_eq_getElem_cons hi]
    unfold forR
    rw [wp_bind]
    refine wp_mono (fun ρ1 h1 => ?_) (step i _ ρ (List.getElem?_eq_getElem hi) h)
    rw [wp_bind]
    refine wp_mono (fun o h2 => ?_) h1
    cases o with
    | nx ρ' => exact forR_wp J step fin n (i + 1) (by omega) ρ' h2
    | ct ρ' => exact forR_wp J step fin n (i + 1) (by omega) ρ' h2
    | bk ρ' => exact h2
    | rt v => exact h2
theorem for_wp {g : CG} {s : CS} {er : Str → Prop} {K : Out → Prop} {ds : List PyData} {ρ : Rho} (J : Nat → Rho → Prop) (h0 : J 0 ρ)
    (step : ∀ i x ρ, ds[i]? = some x → J i ρ → wp (g (.d x) ρ) (fun ρ1 => wp (s ρ1) (fun o => match o with
      | .nx ρ' => J (i + 1) ρ'
      | .ct ρ' => J (i + 1) ρ'
      | .bk ρ' => K (.nx ρ')
      | .rt v => K (.rt v)) er) er) (fin : ∀ ρ, J ds.length ρ → K (.nx ρ)) : wp (forR g s ds ρ) K er := by
  have := forR_wp J step fin ds.length 0 (by omega) ρ h0
  rwa [List.drop_zero] at this

theorem foldB_of {f : List Bool → Bool} {l : List PyData} {bs : List Bool} (h : blsD l = some bs) : foldB f [.d (.list l)] = ok (.d (.bool (f bs))) := by
  simp only [foldB, h]
theorem blsD_map {α : Type} (f : α → Bool) : ∀ l : List α, blsD (l.map fun x => .bool (f x)) = some (l.map f)
  | [] => rfl
  | a :: r => by
    show (blsD (r.map fun x => .bool (f x))).map _ = _
    rw [blsD_map f r]
    rfl
theorem filt_t {α : Type} (l : List α) : (l.filter fun _ => true) = l := List.filter_eq_self.mpr fun _ _ => rfl
theorem cut_to (xs : List PyData) (n : Nat) : Dl.cutD xs none (some (n : Int)) = xs.take n := by
  unfold Dl.cutD
  rw [HT.sIx_none, HT.sIx_nat, List.drop_zero, Nat.sub_zero]
  by_cases h : n ≤ xs.length
  · rw [Nat.min_eq_left h]
  · rw [Nat.min_eq_right (by omega), List.take_of_length_le (Nat.le_refl _), List.take_of_length_le (by omega)]
theorem cut_from (xs : List PyData) (n : Nat) : Dl.cutD xs (some (n : Int)) none = xs.drop n := by
  unfold Dl.cutD
  rw [HT.sIx_none, HT.sIx_nat]
  by_cases h : n ≤ xs.length
  · rw [Nat.min_eq_left h, List.take_of_length_le (by rw [List.length_drop]; omega)]
  · rw [Nat.min_eq_right (by omega), List.drop_of_length_le (by omega), List.drop_of_length_le (by omega), List.take_nil]
theorem find_filter {α : Type} (f : α → Bool) : ∀ l : List α, (l.filter f)[0]? = l.find? f
  | [] => rfl
  | a :: r => by
    rw [List.filter_cons, List.find?_cons]
    cases e : f a with
    | true => rw [if_pos rfl]; rfl
    | false => rw [if_neg (by decide)]; exact find_filter f r

theorem mem_two (a b s : Str) : memD [.str a, .str b] (.str s) = (decide (a = s) || decide (b = s)) := by
  unfold memD
  simp only [List.any_cons, List.any_nil, PyData.eqv, Bool.or_false]
  rfl
/-- a loop of tests that goes out with v where one fails -/
def turnR (g : CG) (s : CS) (x : PyData) (ρ : Rho) : R Out := (g (.d x) ρ).bind s
theorem forR_all {g : CG} {s : CS} (I : Rho → Prop) (P : PyData → Bool) (v : Dv) : ∀ {ds : List PyData}, (∀ x ∈ ds, ∀ ρ, I ρ → ∃ ρ', I ρ' ∧ turnR g s x ρ = ok (if P x = true then .nx ρ' else .rt v)) → ∀ ρ, I ρ → ∃ ρ', I ρ' ∧ forR g s ds ρ = ok (if ds.all P = true then .nx ρ' else .rt v)
  | [], _, ρ, h => ⟨ρ, h, rfl⟩
  | x :: r, h, ρ, hi => by
    obtain ⟨ρ', h1, h2⟩ := h x List.mem_cons_self ρ hi
    obtain ⟨ρ2, h3, h4⟩ := forR_all I P v (ds := r) (fun y hy => h y (List.mem_cons_of_mem _ hy)) ρ' h1
    refine ⟨ρ2, h3, ?_⟩
    unfold turnR at h2
    obtain ⟨ρ1, e1, e2⟩ := bind_inv h2
    show (g (.d x) ρ).bind _ = _
    rw [e1, bind_ok, e2, bind_ok, List.all_cons]
    cases hp : P x with
    | true =>
      rw [if_pos rfl, Bool.true_and]
      exact h4
    | false => rfl
end Fl

set_option Elab.async false
set_option autoImplicit false
set_option linter.all false
set_option maxRecDepth 100000
set_option maxHeartbeats 4000000
/-! a tuple of the top, of any data without lists -/
namespace Fl
open PySem PySem.Spec PyProof.Rows L2 Dl R
mutual
def datB (K : PySem.W.Frag) (u : Value) : PyData → Bool
  | .none => match u with
    | .none => true
    | _ => false
  | .bool b => match u with
    | .bool c => b == c
    | _ => false
  | .int i => match u with
    | .int j _ => decide (i = j)
    | _ => false
  | .str x => match u with
    | .str y _ => decide (x = y) && PyData.strOk x
    | _ => false
  | .tuple ds => match u with
    | .ref a => match K.lookup a with
      | some ⟨.type c, none, .seq its _, _⟩ => decide (c = "tuple") && (decide (its.size ≤ sizeLine) && datAll K its.toList ds)
      | _ => false
    | _ => false
  | .list _ => false
  | .dict _ => false
def datAll (K : PySem.W.Frag) (us : List Value) : List PyData → Bool
  | [] => us.isEmpty
  | d :: ds => match us with
    | u :: r => datB K u d && datAll K r ds
    | [] => false
end
theorem dat_tup {K : PySem.W.Frag} {u : Value} {ds : List PyData} (h : datB K u (.tuple ds) = true) : ∃ (a : Addr) (its : Array Value) (n : Nat) (sl : Array (Option Value)), u = .ref a ∧ K.lookup a = some ⟨.type "tuple", none, .seq its n, sl⟩ ∧ its.size ≤ sizeLine ∧ datAll K its.toList ds = true := by
  unfold datB at h
  split at h
  · split at h
    · rename_i a _ c its n sl e
      obtain ⟨h1, h2⟩ := Bool.and_eq_true_iff.mp h
      obtain ⟨h3, h4⟩ := Bool.and_eq_true_iff.mp h2
      have h1 := of_decide_eq_true h1
      subst h1
      exact ⟨a, its, n, sl, rfl, e, of_decide_eq_true h3, h4⟩
    · cases h
  · cases h
mutual
theorem datB_ok {K : PySem.W.Frag} : ∀ (d : PyData) (u : Value), datB K u d = true → ∃ v, RelV v u ∧ ∀ H, Dd K H v d
  | .none, u, h => by
    unfold datB at h
    split at h
    · exact ⟨.non, rfl, fun _ => .non⟩
    · cases h
  | .bool b, u, h => by
    unfold datB at h
    split at h
    · obtain rfl := eq_of_beq h
      exact ⟨.bl b, rfl, fun _ => .bl b⟩
    · cases h
  | .int i, u, h => by
    unfold datB at h
    split at h
    · obtain rfl := of_decide_eq_true h
      exact ⟨.int i, ⟨_, rfl⟩, fun _ => .int i⟩
    · cases h
  | .str x, u, h => by
    unfold datB at h
    split at h
    · obtain ⟨h1, h2⟩ := Bool.and_eq_true_iff.mp h
      obtain rfl := of_decide_eq_true h1
      exact ⟨.str x, ⟨_, rfl⟩, fun _ => .str x h2⟩
    · cases h
  | .tuple ds, u, h => by
    obtain ⟨a, its, n, sl, rfl, e, hz, h1⟩ := dat_tup h
    obtain ⟨vs, h2, h3⟩ := datAll_ok ds its.toList h1
    exact ⟨.ref a, rfl, fun H => .tup ⟨.inr ⟨_, its, n, e, rfl, rfl, hz, h2⟩, fun z => (show False from z).elim⟩ (h3 H)⟩
  | .list _, u, h => by
    unfold datB at h
    cases h
  | .dict _, u, h => by
    unfold datB at h
    cases h
theorem datAll_ok {K : PySem.W.Frag} : ∀ (ds : List PyData) (us : List Value), datAll K us ds = true → ∃ vs, Vals vs us ∧ ∀ H, DdAll K H vs ds
  | [], us, h => by
    unfold datAll at h
    cases us with
    | nil => exact ⟨[], .nil, fun _ => .nil⟩
    | cons _ _ => cases h
  | d :: ds, us, h => by
    unfold datAll at h
    cases us with
    | nil => cases h
    | cons u r =>
      obtain ⟨h1, h2⟩ := Bool.and_eq_true_iff.mp (show (datB K u d && datAll K r ds) = true from h)
      obtain ⟨v, k1, k2⟩ := datB_ok d u h1
      obtain ⟨vs, k3, k4⟩ := datAll_ok ds r h2
      exact ⟨v :: vs, .cons k1 k3, fun H => .cons (k2 H) (k4 H)⟩
end
abbrev topB (K : PySem.W.Frag) (x : Str) (ds : List PyData) : Bool := datB K (.ref (He.ga K x)) (.tuple ds)
theorem topB_ok {K : PySem.W.Frag} {mg : Str → Option Value} {x : Str} {ds : List PyData} (h : topB K x ds = true) (g : mg x = some (.ref (He.ga K x))) : TopD K mg x ds := by
  obtain ⟨a, its, n, sl, e0, e, hz, h1⟩ := dat_tup h
  cases e0
  obtain ⟨vs, h2, h3⟩ := datAll_ok ds its.toList h1
  exact ⟨g, vs, fun H => ⟨.inr ⟨_, its, n, e, rfl, rfl, hz, h2⟩, h3 H⟩⟩
theorem topB_x {K : PySem.W.Frag} {x : Str} {ds : List PyData} (h : topB K x ds = true) : TopX K x := by
  obtain ⟨a, its, n, sl, e0, e, hz, h1⟩ := dat_tup h
  cases e0
  exact ⟨_, e, rfl, rfl⟩
end Fl

set_option Elab.async false
set_option linter.all false
set_option maxRecDepth 100000
set_option maxHeartbeats 1000000
/-! dicts with texts for keys, as data -/
namespace Dl
open PySem PySem.Spec PyProof.Rows L2
def dGet : List (Str × PyData) → Str → Option PyData
  | [], _ => none
  | (k0, d) :: r, k => if k0 = k then some d else dGet r k
def dHas (kvs : List (Str × PyData)) (k : Str) : Bool := kvs.any fun e => decide (e.1 = k)
def dPut (kvs : List (Str × PyData)) (k : Str) (x : PyData) : List (Str × PyData) := if dHas kvs k = true then kvs.map (fun e => if e.1 = k then (e.1, x) else e) else kvs ++ [(k, x)]
section
variable {K : PySem.W.Frag} {H : Hp}
theorem DvK.get {k : Str} : ∀ {es : List (Key × V)} {kvs : List (Str × PyData)}, DvK K H es kvs → (∀ d, dGet kvs k = some d → ∃ v, valV es (Sum.inr k) = some v ∧ Dd K H v d) ∧ (dGet kvs k = none → valV es (Sum.inr k) = none)
  | _, _, .nil => ⟨fun d e => (by cases e), fun _ => rfl⟩
  | _, _, .cons (k := k0) (v := v) (d := d) (es := es) (kvs := kvs) ok x r => by
    obtain ⟨h1, h2⟩ := DvK.get (k := k) r
    unfold dGet
    rcases Decidable.em (k0 = k) with e | e
    · rw [if_pos e]
      exact ⟨fun d' q => by cases q; exact ⟨v, valV_pos (p := (Sum.inr k0, v)) (by rw [e]), x⟩, fun q => by cases q⟩
    · rw [if_neg e, valV_neg (p := (Sum.inr k0, v)) (fun z => e (Sum.inr.inj z))]
      exact ⟨h1, h2⟩
theorem DvK.has {k : Str} : ∀ {es : List (Key × V)} {kvs : List (Str × PyData)}, DvK K H es kvs → (es.any fun e => decide (e.1 = Sum.inr k)) = dHas kvs k
  | _, _, .nil => rfl
  | _, _, .cons (k := k0) ok x r => by
    have ih := DvK.has (k := k) r
    unfold dHas at ih ⊢
    rw [List.any_cons, List.any_cons, ih]
    congr 1
    exact decide_eq_decide.mpr ⟨fun z => Sum.inr.inj z, fun z => congrArg Sum.inr z⟩
theorem DvK.len : ∀ {es : List (Key × V)} {kvs : List (Str × PyData)}, DvK K H es kvs → es.length = kvs.length
  | _, _, .nil => rfl
  | _, _, .cons _ _ r => by rw [List.length_cons, List.length_cons, DvK.len r]
theorem DvK.put {k : Str} {v : V} {d : PyData} {es : List (Key × V)} {kvs : List (Str × PyData)} (h : DvK K H es kvs) (ok : PyData.strOk k = true) (x : Dd K H v d) : DvK K H (putK es (Sum.inr k) v) (dPut kvs k d) := by
  have mp : ∀ {es : List (Key × V)} {kvs : List (Str × PyData)}, DvK K H es kvs → DvK K H (es.map fun e => if e.1 = Sum.inr k then (e.1, v) else e) (kvs.map fun e => if e.1 = k then (e.1, d) else e) := by
    intro es kvs h
    induction h with
    | nil => exact .nil
    | @cons k0 v0 d0 es kvs ok0 x0 r ih =>
      rw [List.map_cons, List.map_cons]
      rcases Decidable.em (k0 = k) with e | e
      · rw [if_pos e, if_pos (show (Sum.inr k0 : Key) = Sum.inr k by rw [e])]
        exact .cons ok0 x ih
      · rw [if_neg e, if_neg (fun z => e (Sum.inr.inj z))]
        exact .cons ok0 x0 ih
  have ap : ∀ {es : List (Key × V)} {kvs : List (Str × PyData)}, DvK K H es kvs → DvK K H (es ++ [(Sum.inr k, v)]) (kvs ++ [(k, d)]) := by
    intro es kvs h
    induction h with
    | nil => exact .cons ok x .nil
    | @cons k0 v0 d0 es kvs ok0 x0 r ih => exact .cons ok0 x0 ih
  unfold putK dPut
  rw [h.has]
  cases dHas kvs k
  · exact ap h
  · exact mp h
end
/-- H' knows what H knows but of dicts -/
def MonoD (H H' : Hp) : Prop := ∀ b o, H b = some o → (∀ ps, o ≠ .tbl ps) → (∀ es, o ≠ .dK es) → H' b = some o
mutual
theorem Dd.monoD {K : PySem.W.Frag} {H H' : Hp} (m : MonoD H H') : ∀ (d : PyData) (v : V), Dd K H v d → Dd K H' v d
  | .none, _, h => by cases h; exact .non
  | .bool b, _, h => by cases h; exact .bl b
  | .int i, _, h => by cases h; exact .int i
  | .str x, _, h => by cases h with | str _ k => exact .str x k
  | .list ds, _, h => by
    cases h with
    | lst q r => exact .lst (m _ _ q (fun _ z => by cases z) fun _ z => by cases z) (DdAll.monoD m ds _ r)
  | .tuple ds, _, h => by
    cases h with
    | tup q r =>
      refine .tup ⟨?_, fun z => m _ _ (q.2 z) (fun _ z => by cases z) fun _ z => by cases z⟩ (DdAll.monoD m ds _ r)
      rcases q.1 with (h | ⟨o, h⟩) | h
      · exact .inl (.inl (m _ _ h (fun _ z => by cases z) fun _ z => by cases z))
      · exact .inl (.inr ⟨o, m _ _ h (fun _ z => by cases z) fun _ z => by cases z⟩)
      · exact .inr h
  | .dict _, _, h => by cases h
theorem DdAll.monoD {K : PySem.W.Frag} {H H' : Hp} (m : MonoD H H') : ∀ (ds : List PyData) (vs : List V), DdAll K H vs ds → DdAll K H' vs ds
  | [], _, h => by cases h; exact .nil
  | d :: ds, _, h => by
    cases h with
    | cons x y => exact .cons (Dd.monoD m d _ x) (DdAll.monoD m ds _ y)
end
theorem DvK.monoD {K : PySem.W.Frag} {H H' : Hp} (m : MonoD H H') : ∀ {es : List (Key × V)} {kvs : List (Str × PyData)}, DvK K H es kvs → DvK K H' es kvs
  | _, _, .nil => .nil
  | _, _, .cons k x r => .cons k (Dd.monoD m _ _ x) (DvK.monoD m r)
/-- what a dict holds -/
def dictOf : Dv → Option (List (Str × PyData))
  | .dc kvs => some kvs
  | .od kvs => some kvs
  | _ => none
theorem VR.dict {C : DC} {hid : List Addr} {H : Hp} {v : V} {x : Dv} {kvs : List (Str × PyData)} (e : dictOf x = some kvs) (r : VR C hid H v x) : ∃ p es, v = .ref p ∧ H p = some (.dK es) ∧ DvK C.K (hide hid H) es kvs := by
  cases x with
  | dc l =>
    cases e
    obtain ⟨p, es, h1, h2, h3⟩ := r
    exact ⟨p, es, h1, (hide_some h2).2, h3⟩
  | od l =>
    cases e
    obtain ⟨p, es, h1, _, _, _, h2, h3⟩ := r
    exact ⟨p, es, h1, h2, h3⟩
  | _ => cases e
end Dl
namespace Fl
open PySem PySem.Spec PyProof.Rows L2 Dl R
noncomputable section
/-- d[k] -/
def getC (x y : Dv) : R Dv := match dictOf x, y with
  | some kvs, .d (.str k) => match dGet kvs k with
    | some d => ok (.d d)
    | none => no
  | _, _ => no
/-- x[k] = a, x a dict of one's own: the value first -/
def cPutD (i : Nat) (b a : CE) (ρ : Rho) : R Out := match ρ[i]? with
  | some (some (.od kvs)) => (a ρ).bind fun x => (b ρ).bind fun y => match y, x with
    | .d (.str k), .d d => lim kvs.length (ok (.nx (ρ.set i (some (.od (dPut kvs k d))))))
    | _, _ => no
  | _ => no
/-- x = dict(a), of one's own -/
def cOwnD (i : Nat) (a : CE) (ρ : Rho) : R Out := (a ρ).bind fun x => match dictOf x with
  | some kvs => ok (.nx (ρ.set i (some (.od kvs))))
  | none => no
end
section
variable {X : Cx} {C : DC} {er : Str → Prop}
theorem fe_dget {a b : Expr} {pos : Pos} {A B : CE} {k : Nat} (l : Lv0 X C k) (ha : PE X a (tE C (up er A))) (hb : PE X b (tE C (up er B))) (hs : NoSl b := by intro _ _; rfl) : PE X (.Subscript a b pos) (tE C (up er (cOp getC A B))) :=
  (pe_dget (by have := l.room.un; omega) ha hb hs).imp fun σ H Q ⟨hid, ρ, q, hp, sr, h, kk⟩ => by
    unfold up cOp at h
    rw [wp_bind] at h
    refine ⟨hid, ρ, _, hp, sr, h, fun v x H1 e1 o1 r1 h1 => ?_⟩
    rw [wp_bind] at h1
    refine ⟨hid, ρ, _, o1, sr.ext e1 hp, h1, fun w y H2 e2 o2 r2 h2 => ?_⟩
    unfold getC at h2
    split at h2
    · rename_i kvs k e
      split at h2
      · rename_i d ed
        obtain ⟨p, es, rfl, hH, dk⟩ := VR.dict e (r1.ext e2 o1)
        cases r2
        obtain ⟨u, e3, dd⟩ := dk.get.1 d ed
        exact ⟨p, u, rfl, by have := DGet.k (k := Sum.inr k) hH; rw [e3] at this; exact this, kk u (.d d) H2 (e1.trans e2) o2 dd h2⟩
      · exact h2.elim
    · exact h2.elim
/-! ### statements of dicts -/
theorem fs_putD {i : Nat} {x : Str} {b e : Expr} {A B : CE} {k : Nat} {npos tpos pos : Pos} (l : Lv0 X C k) (hv : PE X (.Name x npos) (tVar i)) (hb : PE X b (tE C (up er B))) (ha : PE X e (tE C (up er A)))
    (hs : swapsWith e (some (.Subscript (.Name x npos) b tpos)) pos.line X.env = pure false := by rfl) (hn : NoSl b := by intro _ _; rfl) : PS X (.Assign [.Subscript (.Name x npos) b tpos] e pos) (tS C (upS er (cPutD i B A))) :=
  (ps_dput (by have := l.room.un; omega) hv hb ha hs).imp fun D σ H ⟨hid, ρ, d, so, s, en⟩ => by
    unfold upS cPutD at s
    split at s
    · rename_i kvs ei
      obtain ⟨v0, hσ, p, es, rfl, m1, m2, m3, m4, m5⟩ := so.sr.at' i _ ei
      rw [wp_bind] at s
      refine ⟨hid, ρ, _, so.hp, so.sr, s, fun v xv H1 e1 o1 r1 a1 => ⟨.ref p, hσ, ?_⟩⟩
      rw [wp_bind] at a1
      refine ⟨hid, ρ, _, o1, so.sr.ext e1 so.hp, a1, fun w y H2 e2 o2 r2 a2 => ?_⟩
      split at a2
      · rename_i kk dd
        obtain ⟨h1, a3⟩ := chk_wp a2
        have h1 := of_decide_eq_true h1
        have m4' := e2 p _ m2 (e1 p _ m2 m4 (fun _ z => by cases z)) (fun _ z => by cases z)
        have m5' := (m5.mono (e1.mono so.hp)).mono (e2.mono o1)
        have rd : Dd C.K (hide hid H2) v dd := (show VR C hid H2 v (.d dd) from r1.ext e2 o1)
        cases r2 with
        | str _ ok =>
          obtain ⟨s2, s3⟩ := StOk.putOw ((so.ext e1 o1).ext e2 o2) (y := .od (dPut kvs kk dd)) ei (fun z => z) hσ m1 m2 m3 m4' (.dic (m5'.put ok rd))
          exact ⟨p, _, rfl, DPut.k (k := Sum.inr kk) m4' (by rw [m5'.len]; exact Nat.lt_of_le_of_lt h1 (by decide)), en.nx _ _ _ _ s2 (((Stp.ext e1 so.hp).trans (Stp.ext e2 o1)).trans s3) a3⟩
      · exact a2.elim
    · exact s.elim
/-- x = dict(y) -/
theorem fs_ownD {i : Nat} {x : Str} {e : Expr} {A : CE} {k : Nat} {pos' p2 cpos pos : Pos} (l : Lv0 X C k) (hm : X.mg "dict" = none) (hi : X.N[i]? = some x) (hl : L2.Loc X.env.scope x) (h : PE X e (tE C (up er A))) (hg : Gl X "dict" := by rfl)
    (he : starEach [e] X.env = (false, eval e X.env) :: starEach [] X.env := by rfl) (hpl : (backTo cpos (starEach [] X.env)).any (·.1) = false := by rfl) (hs : swapsWith (.Call (.Name "dict" p2) [e] [] cpos) (some (.Name x pos')) pos.line X.env = pure false := by rfl)
    (hf : X.fn x = true ∨ X.env.scope.names.lookup x = some .local := by first | exact Or.inl rfl | exact Or.inr rfl) : PS X (.Assign [.Name x pos'] (.Call (.Name "dict" p2) [e] [] cpos) pos) (tS C (upS er (cOwnD i A))) :=
  (ps_set l.nd hi hl (pe_callTy call_dictD hg hm (by decide +kernel) (pa_cons h pa_nil he) (he := he) (hpl := hpl)) hs hf).imp fun D σ H ⟨hid, ρ, d, so, s, en⟩ => by
    unfold upS cOwnD at s
    rw [wp_bind] at s
    refine ⟨hid, ρ, _, so.hp, so.sr, s, fun v xv H1 e1 o1 r1 a1 => ?_⟩
    split at a1
    · rename_i kvs ek
      obtain ⟨p, es, rfl, hH, dk⟩ := VR.dict ek r1
      refine ⟨p, es, rfl, .inl hH, fun p2 np => ?_⟩
      obtain ⟨s2, s3⟩ := (so.ext e1 o1).newOw (x := .od kvs) (.dic dk) np i
      exact en.nx _ _ _ _ s2 ((Stp.ext e1 so.hp).trans s3) a1
    · exact a1.elim
end
end Fl

set_option Elab.async false
set_option linter.all false
set_option maxRecDepth 100000
set_option maxHeartbeats 1000000
/-! more of dicts: two stores at once, displays, membership -/
namespace Fl
open PySem PySem.Spec PyProof.Rows L2 Dl R
noncomputable section
/-- x[k1], x[k2] = a, x a dict of one's own -/
def cPut2D (i : Nat) (k1 k2 : Str) (a : CE) (ρ : Rho) : R Out := match ρ[i]? with
  | some (some (.od kvs)) => (a ρ).bind fun x => match x with
    | .d (.tuple [d1, d2]) => lim kvs.length (ok (.nx (ρ.set i (some (.od (dPut (dPut kvs k1 d1) k2 d2))))))
    | _ => no
  | _ => no
/-- k in d, k not in d -/
def dinC (f : Bool → Bool) (x y : Dv) : R Dv := match x, dictOf y with
  | .d (.str k), some kvs => ok (.d (.bool (f (dHas kvs k))))
  | _, _ => no
def cPairs : List (Str × CE) → Rho → R (List (Str × PyData))
  | [], _ => ok []
  | (k, a) :: r, ρ => (a ρ).bind fun x => (dR x).bind fun d => (cPairs r ρ).bind fun l => ok ((k, d) :: l)
/-- {k: a, ..} -/
def cDisp (l : List (Str × CE)) (ρ : Rho) : R Dv := (cPairs l ρ).bind fun kvs => chk (decide (kvs.length ≤ 15 ∧ (kvs.map (·.1)).Nodup)) (ok (.dc kvs))
end
section
variable {X : Cx} {C : DC} {er : Str → Prop}
theorem putD_len (kvs : List (Str × PyData)) (k : Str) (d : PyData) : (dPut kvs k d).length ≤ kvs.length + 1 := by
  unfold dPut
  split
  · rw [List.length_map]; omega
  · rw [List.length_append]; exact Nat.le_refl _
theorem fs_put2D {i : Nat} {x k1 k2 : Str} {e : Expr} {A : CE} {j1 j2} {n1 n2 q1 q2 t1 t2 tp pos : Pos} {kt : Nat} {m : Nat} (l : Lv0 X C m) (hv1 : PE X (.Name x n1) (tVar i)) (hv2 : PE X (.Name x n2) (tVar i)) (he : PE X e (tE C (up er A)))
    (ok1 : PyData.strOk k1 = true := by decide +kernel) (ok2 : PyData.strOk k2 = true := by decide +kernel)
    (h1 : swapsWithSole [.Tuple [.Subscript (.Name x n1) (.Constant (.str k1) j1 q1) t1, .Subscript (.Name x n2) (.Constant (.str k2) j2 q2) t2] kt tp] e pos.line X.env = pure false := by rfl)
    (h2 : swappedStores [.Tuple [.Subscript (.Name x n1) (.Constant (.str k1) j1 q1) t1, .Subscript (.Name x n2) (.Constant (.str k2) j2 q2) t2] kt tp] e X.env = pure none := by rfl)
    (h3 : (assignEach [.Tuple [.Subscript (.Name x n1) (.Constant (.str k1) j1 q1) t1, .Subscript (.Name x n2) (.Constant (.str k2) j2 q2) t2] kt tp] X.env).map (·.2) = [assign (.Tuple [.Subscript (.Name x n1) (.Constant (.str k1) j1 q1) t1, .Subscript (.Name x n2) (.Constant (.str k2) j2 q2) t2] kt tp) X.env] := by rfl)
    (h4 : (assignEach [.Subscript (.Name x n1) (.Constant (.str k1) j1 q1) t1, .Subscript (.Name x n2) (.Constant (.str k2) j2 q2) t2] X.env).map (·.2) = assign (.Subscript (.Name x n1) (.Constant (.str k1) j1 q1) t1) X.env :: (assignEach [.Subscript (.Name x n2) (.Constant (.str k2) j2 q2) t2] X.env).map (·.2) := by rfl)
    (h5 : (assignEach [.Subscript (.Name x n2) (.Constant (.str k2) j2 q2) t2] X.env).map (·.2) = assign (.Subscript (.Name x n2) (.Constant (.str k2) j2 q2) t2) X.env :: (assignEach [] X.env).map (·.2) := by rfl)
    (h6 : (assignEach [.Subscript (.Name x n1) (.Constant (.str k1) j1 q1) t1, .Subscript (.Name x n2) (.Constant (.str k2) j2 q2) t2] X.env).length = 2 := by rfl)
    (h7 : (assignEach [.Subscript (.Name x n1) (.Constant (.str k1) j1 q1) t1, .Subscript (.Name x n2) (.Constant (.str k2) j2 q2) t2] X.env).findIdx? (·.1) = none := by rfl) :
    PS X (.Assign [.Tuple [.Subscript (.Name x n1) (.Constant (.str k1) j1 q1) t1, .Subscript (.Name x n2) (.Constant (.str k2) j2 q2) t2] kt tp] e pos) (tS C (upS er (cPut2D i k1 k2 A))) := by
  have hu : X.A.units + 1 < cLine := by have := l.room.un; omega
  refine (ps_asg he (pg_tup l.calm (pgs_cons (pg_sub hv1 pe_str (set_dict hu)) (pgs_cons (pg_sub hv2 pe_str (set_dict hu)) pgs_nil h5) h4) h6 h7) h1 h2 h3).imp fun D σ H ⟨hid, ρ, d, so, s, en⟩ => ?_
  unfold upS cPut2D at s
  split at s
  · rename_i kvs ei
    obtain ⟨v0, hσ, p, es, rfl, m1, m2, m3, m4, m5⟩ := so.sr.at' i _ ei
    rw [wp_bind] at s
    refine ⟨hid, ρ, _, so.hp, so.sr, s, fun v xv H1 e1 o1 r1 a1 => ?_⟩
    split at a1
    · rename_i d1 d2
      obtain ⟨hl, a2⟩ := chk_wp a1
      have hl := of_decide_eq_true hl
      have m4' := e1 p _ m2 m4 (fun _ z => by cases z)
      have m5' := m5.mono (e1.mono so.hp)
      cases r1 with
      | @tup a xs _ g1 g2 =>
        cases g2 with
        | @cons v1 vs _ _ y1 g2 =>
          cases g2 with
          | @cons v2 vs _ _ y2 g2 =>
            cases g2
            have so1 := so.ext e1 o1
            obtain ⟨s2, s3⟩ := StOk.putOw so1 (y := .od (dPut kvs k1 d1)) ei (fun z => z) hσ m1 m2 m3 m4' (.dic (m5'.put ok1 y1))
            have hil : i < ρ.length := by
              rcases Nat.lt_or_ge i ρ.length with q | q
              · exact q
              · rw [List.getElem?_eq_none q] at ei; cases ei
            have ei2 : (ρ.set i (some (.od (dPut kvs k1 d1))))[i]? = some (some (.od (dPut kvs k1 d1))) := set_get hil
            have y2' : Dd C.K (hide hid (upd H1 p (.dK (putK es (Sum.inr k1) v1)))) v2 d2 := Dd.mono s3.mono _ _ y2
            have m6 : DvK C.K (hide hid (upd H1 p (.dK (putK es (Sum.inr k1) v1)))) (putK es (Sum.inr k1) v1) (dPut kvs k1 d1) := (m5'.put ok1 y1).mono s3.mono
            obtain ⟨s4, s5⟩ := StOk.putOw s2 (y := .od (dPut (dPut kvs k1 d1) k2 d2)) ei2 (fun z => z) hσ m1 m2 m3 upd_same (.dic (m6.put ok2 y2'))
            have lk := putD_len kvs k1 d1
            refine ⟨a, [v1, v2], rfl, by rw [l.K]; exact hide_mono.sqT g1.1, rfl, v1, [v2], rfl, .ref p, hσ, p, _, rfl, DPut.k (k := Sum.inr k1) m4' (by rw [m5'.len]; exact Nat.lt_of_le_of_lt hl (by decide)), v2, [], rfl, .ref p, hσ, p, _, rfl, DPut.k (k := Sum.inr k2) upd_same (by rw [m6.len]; exact Nat.lt_of_le_of_lt (Nat.le_trans lk (Nat.succ_le_succ hl)) (by decide)), rfl, ?_⟩
            rw [List.set_set] at s4
            exact en.nx _ _ _ _ s4 (((Stp.ext e1 so.hp).trans s3).trans s5) a2
    · exact a1.elim
  · exact s.elim
theorem din_ok {op : CmpOp} {f : Bool → Bool} (h : OpR X (compareOp op) (fun y x H Q => ∃ a o, x = .ref a ∧ DGet H a y o ∧ Q (.bl (f o.isSome)) H)) : OpR X (compareOp op) (rD C fun x y q => wp (dinC f x y) q er) := by
  intro pins s σ H x y u1 u2 Q I rx ry ⟨hid, dx, dy, q, hp, r1, r2, h1, kk⟩
  replace h1 : wp (dinC f dx dy) q er := h1
  unfold dinC at h1
  split at h1
  · rename_i k kvs ek
    obtain ⟨p, es, rfl, hH, dk⟩ := VR.dict ek r2
    cases r1
    have e : (valV es (Sum.inr k : Key)).isSome = dHas kvs k := by rw [← valV_any, dk.has]
    exact h pins s σ H _ _ u1 u2 Q I rx ry ⟨p, _, rfl, DGet.k (k := Sum.inr k) hH, by rw [e]; exact kk _ (.d (.bool _)) H .refl hp (Dd.bl _) h1⟩
  · exact h1.elim
/-! ### displays -/
inductive PPd (X : Cx) (C : DC) (er : Str → Prop) : List (Option Expr) → List Expr → List (Str × CE) → Prop
  | nil : PPd X C er [] [] []
  | cons {k : Str} {j} {p : Pos} {v : Expr} {A : CE} {ks : List (Option Expr)} {vs : List Expr} {l : List (Str × CE)} : PyData.strOk k = true → PE X v (tE C (up er A)) → PPd X C er ks vs l → PPd X C er (some (.Constant (.str k) j p) :: ks) (v :: vs) ((k, A) :: l)
theorem PPd.len {ks : List (Option Expr)} {vs : List Expr} {l : List (Str × CE)} (h : PPd X C er ks vs l) : ks.length = vs.length ∧ ks.length = l.length ∧ ks.all (·.isSome) = true := by
  induction h with
  | nil => exact ⟨rfl, rfl, rfl⟩
  | cons _ _ _ ih => exact ⟨congrArg Nat.succ ih.1, congrArg Nat.succ ih.2.1, by rw [List.all_cons, ih.2.2]; rfl⟩
abbrev trP (C : DC) (er : Str → Prop) (l : List (Str × CE)) : List (TE × TE) := l.map fun e => (tC (.str e.1), tE C (up er e.2))
theorem PPd.pps {ks : List (Option Expr)} {vs : List Expr} {l : List (Str × CE)} {pos : Pos} (h : PPd X C er ks vs l) : PPs X pos ks vs (trP C er l) := by
  induction h with
  | nil => exact pps_nil
  | cons _ ha _ ih => exact pps_cons pe_str ha ih
theorem pairs_ok {hid : List Addr} {σ : L2.St} {ρ : Rho} : ∀ (l : List (Str × CE)), (∀ e ∈ l, PyData.strOk e.1 = true) → ∀ (H0 : Hp) (q : List (Str × PyData) → Prop) (Q : List (V × V) → Hp → Prop), HpOk C hid H0 → SR C hid σ H0 ρ → wp (cPairs l ρ) q er →
    (∀ es kvs H2, Ext C.c H0 H2 → HpOk C hid H2 → DvK C.K (hide hid H2) es kvs → q kvs → Q (es.map (fun kv => (kV kv.1, kv.2))) H2) → tPairs (trP C er l) σ H0 Q
  | [], _, H0, q, Q, hp, sr, h, kk => kk [] [] H0 .refl hp .nil h
  | (k, A) :: l, hk, H0, q, Q, hp, sr, h, kk => by
    unfold cPairs at h
    rw [wp_bind] at h
    refine ⟨hid, ρ, _, hp, sr, h, fun v x H1 e1 o1 r1 a1 => ?_⟩
    rw [wp_bind] at a1
    obtain ⟨d, rfl, a2⟩ := of_onD (dR_wp a1)
    rw [wp_bind] at a2
    exact pairs_ok l (fun e he => hk e (List.mem_cons_of_mem _ he)) H1 _ _ o1 (sr.ext e1 hp) a2 fun es kvs H2 e2 o2 dk a3 =>
      kk ((Sum.inr k, v) :: es) ((k, d) :: kvs) H2 (e1.trans e2) o2 (.cons (hk (k, A) List.mem_cons_self) (Dd.mono (e2.mono o1) _ _ r1) dk) a3
theorem merge_nd : ∀ (es acc : List (Key × V)), (es.map (·.1)).Nodup → (∀ e ∈ es, ∀ a ∈ acc, a.1 ≠ e.1) → mergeK acc es = acc ++ es
  | [], acc, _, _ => (List.append_nil acc).symm
  | e :: r, acc, nd, h => by
    obtain ⟨n1, n2⟩ := List.nodup_cons.mp (show (e.1 :: r.map (·.1)).Nodup from nd)
    have no : (acc.any fun kv => decide (kv.1 = e.1)) = false := by
      rw [List.any_eq_false]
      intro a ha z
      exact h e List.mem_cons_self a ha (of_decide_eq_true z)
    show mergeK (putK acc e.1 e.2) r = _
    have ep : putK acc e.1 e.2 = acc ++ [(e.1, e.2)] := by
      unfold putK
      rw [no]
      rfl
    rw [ep, merge_nd r (acc ++ [(e.1, e.2)]) n2 fun f hf a ha => ?_, List.append_assoc]
    · rfl
    · rcases List.mem_append.mp ha with ha | ha
      · exact h f (List.mem_cons_of_mem _ hf) a ha
      · rw [List.mem_singleton.mp ha]
        exact fun z => n1 (by rw [show e.1 = f.1 from z]; exact List.mem_map_of_mem hf)
theorem keys_nd {K : PySem.W.Frag} {H : Hp} : ∀ {es : List (Key × V)} {kvs : List (Str × PyData)}, DvK K H es kvs → es.map (·.1) = kvs.map fun e => (Sum.inr e.1 : Key)
  | _, _, .nil => rfl
  | _, _, .cons _ _ r => by rw [List.map_cons, List.map_cons, keys_nd r]
theorem nd_inr : ∀ {l : List (Str × PyData)}, (l.map (·.1)).Nodup → (l.map fun e => (Sum.inr e.1 : Key)).Nodup
  | [], _ => .nil
  | e :: r, h => by
    obtain ⟨n1, n2⟩ := List.nodup_cons.mp (show (e.1 :: r.map (·.1)).Nodup from h)
    refine List.nodup_cons.mpr ⟨fun z => ?_, nd_inr n2⟩
    obtain ⟨f, hf, ef⟩ := List.mem_map.mp z
    exact n1 (by rw [← Sum.inr.inj ef]; exact List.mem_map_of_mem hf)
theorem fe_disp {ks : List (Option Expr)} {vs : List Expr} {l : List (Str × CE)} {pos : Pos} (h : PPd X C er ks vs l) (hk : l.all (fun e => PyData.strOk e.1) = true := by decide +kernel) (h0 : ks ≠ [] := by intro z; cases z) (h15 : ks.length ≤ 15 := by decide) :
    PE X (.Dict ks vs pos) (tE C (up er (cDisp l))) := by
  obtain ⟨l1, l2, l3⟩ := h.len
  refine (pe_disp h.pps l3 l1 h0 h15).imp fun σ H Q ⟨hid, ρ, q, hp, sr, a, kk⟩ p np => ?_
  unfold up cDisp at a
  rw [wp_bind] at a
  have cp : C.c ≠ some p := fun z => hp.nn p (hp.cup p z).1 np
  refine pairs_ok l (fun e he => List.all_eq_true.mp hk e he) _ _ _ (hp.new np _) (sr.ext (Ext.new np _) hp) a fun es kvs H2 e2 o2 dk a2 => ?_
  obtain ⟨hc, a3⟩ := chk_wp a2
  obtain ⟨hl, nd⟩ := of_decide_eq_true hc
  have h2p : H2 p = some (.dK []) := e2 p _ cp upd_same (fun _ z => by cases z)
  have nd2 : (es.map (·.1)).Nodup := by
    rw [keys_nd dk]
    exact nd_inr nd
  have me : mergeK [] es = es := merge_nd es [] nd2 fun _ _ _ z => absurd z List.not_mem_nil
  refine ⟨h2p, es, rfl, by rw [dk.len]; exact hl, ?_⟩
  rw [me]
  have npH : ∀ b o, H b = some o → b ≠ p := fun b o e z => by rw [z, np] at e; cases e
  have eF : Ext C.c H (upd H2 p (.dK es)) := fun b o n e t => by
    have hb := npH b o e
    rw [upd_ne hb]
    exact e2 b o n (by rw [upd_ne hb]; exact e) t
  have pn : p ∉ hid := hp.newNo np
  refine kk (.ref p) (.dc kvs) _ eF ⟨tabs_updO o2.tabs h2p trivial, fun b eb => ⟨(o2.cup b eb).1, ?_⟩, fun b hb => ?_, o2.sub, hp.ext.trans eF⟩ ⟨p, es, rfl, hide_of pn upd_same, dk.monoD fun b o e _ nk => ?_⟩ a3
  · obtain ⟨g, s, z1, z2⟩ := (o2.cup b eb).2
    exact ⟨g, s, by rw [upd_ne (fun z => cp (by rw [eb, z]))]; exact z1, z2⟩
  · obtain ⟨o, z1, z2⟩ := o2.some b hb
    have bp : b ≠ p := fun z => pn (by rw [← z]; exact hb)
    exact ⟨o, by rw [upd_ne bp]; exact z1, z2⟩
  · obtain ⟨k1, k2⟩ := hide_some e
    refine hide_of k1 ?_
    rw [upd_ne fun z => by rw [z, h2p] at k2; exact nk _ (Option.some.inj k2).symm]
    exact k2
end
end Fl

set_option Elab.async false
set_option linter.all false
set_option maxRecDepth 100000
set_option maxHeartbeats 1000000
/-! three names at once -/
namespace Fl
open PySem PySem.Spec PyProof.Rows L2 Dl R
noncomputable section
def cPar3 (i j m : Nat) (a : CA) (ρ : Rho) : R Out := (a ρ).bind fun xs => match xs with
  | [x, y, z] => chk (notOwnB x && (notOwnB y && notOwnB z)) (ok (.nx (((ρ.set i (some x)).set j (some y)).set m (some z))))
  | _ => no
end
section
variable {X : Cx} {C : DC} {er : Str → Prop}
theorem fs_par3 {i j m n : Nat} {x y z : Str} {a b c : Expr} {A : CA} {px py pz pt pos : Pos} {kt k2 pt2} {k : Nat} (l : Lv0 X C k) (hi : X.N[i]? = some x) (hj : X.N[j]? = some y) (hm : X.N[m]? = some z)
    (ha : PA X [a, b, c] (tAs C n (up er A))) (hij : i ≠ j := by decide) (him : i ≠ m := by decide) (hjm : j ≠ m := by decide) (hx : X.env.scope.names.lookup x = some .local := by rfl) (hy : X.env.scope.names.lookup y = some .local := by rfl) (hz : X.env.scope.names.lookup z = some .local := by rfl)
    (hw : swappedStores [.Tuple [.Name x px, .Name y py, .Name z pz] kt pt] (.Tuple [a, b, c] k2 pt2) X.env = pure (some [x, y, z]) := by rfl)
    (hs : swapsWithSole [.Tuple [.Name x px, .Name y py, .Name z pz] kt pt] (.Tuple [a, b, c] k2 pt2) pos.line X.env = pure false := by rfl) :
    PS X (.Assign [.Tuple [.Name x px, .Name y py, .Name z pz] kt pt] (.Tuple [a, b, c] k2 pt2) pos) (tS C (upS er (cPar3 i j m A))) :=
  (ps_par3 l.calm l.nd hi hj hm hij him hjm hx hy hz ha hw hs).imp fun D σ H ⟨hid, ρ, d, so, s, e⟩ => by
    unfold upS cPar3 at s
    rw [wp_bind] at s
    refine ⟨hid, ρ, _, so.hp, so.sr, s, fun vs xs H1 e1 o1 r1 l1 a1 => ?_⟩
    match xs, r1, a1 with
    | [x1, x2, x3], .cons r2 (.cons r3 (.cons r4 .nil)), a1 =>
      obtain ⟨h1, h2⟩ := chk_wp a1
      rw [Bool.and_eq_true, Bool.and_eq_true] at h1
      exact ⟨_, _, _, rfl, e.nx hid _ H1 _ ((((so.ext e1 o1).set r2 (notOwnB_iff h1.1) i).set r3 (notOwnB_iff h1.2.1) j).set r4 (notOwnB_iff h1.2.2) m) (Stp.ext e1 so.hp) h2⟩
    | [], _, a1 => exact a1.elim
    | [_], _, a1 => exact a1.elim
    | [_, _], _, a1 => exact a1.elim
    | _ :: _ :: _ :: _ :: _, _, a1 => exact a1.elim
end
end Fl

set_option Elab.async false
set_option linter.all false
set_option maxRecDepth 100000
set_option maxHeartbeats 1000000
/-! two names at once, one of them a cell: through a tuple -/
namespace Fl
open PySem PySem.Spec PyProof.Rows L2 Dl R
section
variable {X : Cx} {C : DC} {er : Str → Prop}
theorem fs_parT {i j n : Nat} {x y : Str} {a b : Expr} {A : CA} {px py pt pos : Pos} {kt k2 pt2} {k : Nat} (l : Lv0 X C k) (hi : X.N[i]? = some x) (hj : X.N[j]? = some y) (lx : L2.Loc X.env.scope x) (ly : L2.Loc X.env.scope y)
    (ha : PA X [a, b] (tAs C n (up er A))) (fx : X.fn x = true ∨ X.env.scope.names.lookup x = some .local := by first | exact Or.inl rfl | exact Or.inr rfl) (fy : X.fn y = true ∨ X.env.scope.names.lookup y = some .local := by first | exact Or.inl rfl | exact Or.inr rfl)
    (hs : swapsWithSole [.Tuple [.Name x px, .Name y py] kt pt] (.Tuple [a, b] k2 pt2) pos.line X.env = pure false := by rfl)
    (hw : swappedStores [.Tuple [.Name x px, .Name y py] kt pt] (.Tuple [a, b] k2 pt2) X.env = pure none := by rfl)
    (h3 : (assignEach [.Tuple [.Name x px, .Name y py] kt pt] X.env).map (·.2) = [assign (.Tuple [.Name x px, .Name y py] kt pt) X.env] := by rfl)
    (h4 : (assignEach [.Name x px, .Name y py] X.env).map (·.2) = assign (.Name x px) X.env :: (assignEach [.Name y py] X.env).map (·.2) := by rfl)
    (h5 : (assignEach [.Name y py] X.env).map (·.2) = assign (.Name y py) X.env :: (assignEach [] X.env).map (·.2) := by rfl)
    (h6 : (assignEach [.Name x px, .Name y py] X.env).length = 2 := by rfl)
    (h7 : (assignEach [.Name x px, .Name y py] X.env).findIdx? (·.1) = none := by rfl) :
    PS X (.Assign [.Tuple [.Name x px, .Name y py] kt pt] (.Tuple [a, b] k2 pt2) pos) (tS C (upS er (cPar i j A))) :=
  (ps_asg (pe_tup ha) (pg_tup l.calm (pgs_cons (pg_name l.nd hi lx fx) (pgs_cons (pg_name l.nd hj ly fy) pgs_nil h5) h4) h6 h7) hs hw h3).imp fun D σ H ⟨hid, ρ, d, so, s, e⟩ => by
    unfold upS cPar at s
    rw [wp_bind] at s
    refine ⟨hid, ρ, _, so.hp, so.sr, s, fun vs xs H1 e1 o1 r1 l1 a1 => ?_⟩
    match xs, r1, a1 with
    | [x1, x2], r1, a1 =>
      obtain ⟨u, w, rfl, r2, r3⟩ := r1.two
      obtain ⟨h1, h2⟩ := chk_wp a1
      rw [Bool.and_eq_true] at h1
      refine ⟨(show 2 ≤ sizeLine by decide), fun p np => ?_⟩
      have n1 := Ext.new (c := C.c) np (.tup [u, w])
      have e2 := e1.trans n1
      have o2 := o1.new np (.tup [u, w])
      refine ⟨p, _, rfl, .inl (.inl upd_same), rfl, _, _, rfl, _, _, rfl, rfl, ?_⟩
      exact e.nx hid _ _ _ (((so.ext e2 o2).set (r2.ext n1 o1) (notOwnB_iff h1.1) i).set (r3.ext n1 o1) (notOwnB_iff h1.2) j) (Stp.ext e2 so.hp) h2
    | [], _, a1 => exact a1.elim
    | [_], _, a1 => exact a1.elim
    | _ :: _ :: _ :: _, _, a1 => exact a1.elim
end
end Fl

set_option Elab.async false
set_option linter.all false
set_option maxRecDepth 100000
set_option maxHeartbeats 4000000
/-! targets with a star: a list's items to a, b, *c, d -/
namespace St
open PySem PySem.Spec PyProof.Rows L2
section
variable {prog : Program} {w : World} {A : Around} {E : Value → Shared → Prop} {s : Shared}
/-- what is left in a list's iterator that stands at k -/
theorem rest_walk (hh : A.handled = none) (I l : Addr) (ne : l ≠ I) (items : Array Value) (k : Nat) (hk : k ≤ items.size) :
    Walks prog w A I [I, l] [I] (items.size - k) (fun i v => items[k + i]? = some v) (fun i h => h.IsListIter I l (k + i) ∧ h.IsList l items) := by
  have W := Walks.list (prog := prog) (w := w) (A := A) hh I l ne items
  refine ⟨W.sub, fun i => W.frame (k + i), fun i s Q E hi st q => W.item (k + i) s Q E (by omega) st q, fun s Q E st q => W.done s Q E ?_ q, fun i => W.self (k + i)⟩
  have e : k + (items.size - k) = items.size := by omega
  rw [e] at st
  exact st
/-- the items of a list, those of a star as a new list -/
theorem star_items {l : Addr} {items : Array Value} {n i : Nat} {Q : List Value → Shared → Prop} (hh : A.handled = none) (hl : s.heap.IsList l items) (hz : items.size ≤ sizeLine) (hn : n - 1 ≤ items.size) (hi : i + 1 ≤ n)
    (q : ∀ s' : Shared, (∀ b o, s.heap.get? b = some o → s'.heap.get? b = some o) → s'.gens = s.gens → s'.drawn = s.drawn → s'.os = s.os →
      Q (items.toList.take i ++ [.ref s'.heap.objs.size] ++ (items.toList.drop i).drop (items.size - i - (n - 1 - i))) { s' with heap := s'.heap.push { cls := .type "list", data := .seq ((items.toList.drop i).take (items.size - i - (n - 1 - i))).toArray } }) :
    wpAny (model prog w) A (unpackItems (.ref l) n (some i)) Q E s := by
  have hlt : l ≠ s.heap.objs.size := by
    obtain ⟨o, ho, _⟩ := hl
    exact Nat.ne_of_lt (Heap.lt_size ho)
  unfold unpackItems notIterableAtAll
  refine wpAny_bind ?_
  refine wpAny_bind (wpAny_specialOf hl.typeIs slot_list_iter.lookup ?_)
  refine wpAny_pure ?_
  simp only [Bool.false_eq_true, if_false]
  refine wpAny_bind (wpAny_holding (wpAny_pyIter_list hl ?_))
  refine wpAny_bind (wpAny_holding (PySem.W.kun_draw hlt i 0 _ _ ⟨_, Heap.get?_push_size _ rfl, rfl, rfl⟩ (hl.push _) (by omega) fun h1 it1 sb1 => ?_))
  rw [List.drop_zero, Nat.zero_add] at *
  have hl1 : h1.IsList l items := (hl.push _).extBut sb1.extBut hlt
  have len1 : (items.toList.take i).length = i := by
    rw [List.length_take, Array.length_toList]
    omega
  rw [if_neg (by rw [len1]; exact Nat.lt_irrefl i)]
  have sz1 : s.heap.objs.size + 1 = h1.objs.size := by
    have := sb1.1
    rw [Heap.size_push] at this
    omega
  have W := (rest_walk (prog := prog) (w := w) (A := A.in1) hh s.heap.objs.size l hlt items i (by omega)).toS
  refine wpAny_bind (wpAny_holding (wpAny_collect_iter (T := "list_iterator") (.inr (.inr (.inl rfl))) W (fun i s st => st.1.typeIs) ⟨by rw [Nat.add_zero]; exact it1, hl1⟩ (fun b hb => ?_) List.mem_cons_self (fun s' acc mv io => ?_) (by omega)))
  · have : b = s.heap.objs.size ∨ b = l := by simpa using hb
    rcases this with e | e
    · rw [e]; show _ < h1.objs.size; omega
    · rw [e]
      obtain ⟨o, ho, _⟩ := hl1
      exact Heap.lt_size ho
  · have ea : acc.toList = items.toList.drop i := by
      refine List.ext_getElem? fun j => ?_
      rw [List.getElem?_drop, Array.getElem?_toList, Array.getElem?_toList]
      by_cases hj : j < acc.size
      · have e1 : acc[j]? = some acc[j] := by simp [hj]
        rw [e1, io.2 j _ e1]
      · have hs := io.1
        rw [show acc[j]? = none by simp; omega, show items[i + j]? = none by simp; omega]
    have la : acc.toList.length = items.size - i := by rw [Array.length_toList]; exact io.1
    rw [if_neg (by rw [la]; omega)]
    have kp : ∀ b o, s.heap.get? b = some o → s'.heap.get? b = some o := fun b o e => by
      have nb : b ≠ s.heap.objs.size := Nat.ne_of_lt (Heap.lt_size e)
      exact mv.heap b o (by simpa using nb) (sb1.extBut b o nb (Heap.get?_push_of_some _ e))
    have := q s' kp mv.gens mv.drawn mv.os
    rw [ea, show (items.toList.drop i).length = items.size - i by rw [List.length_drop, Array.length_toList]]
    refine wpAny_bind (wpAny_newList ?_)
    exact wpAny_pure this
/-- a, b, *c, d = a list -/
def gStar (K : PySem.W.Frag) (n i : Nat) (t : TGs) : TG := fun v σ H Q => ∃ a xs, v = .ref a ∧ SqL K H a xs ∧ n - 1 ≤ xs.length ∧ ∀ p, H p = none → t (xs.take i ++ [.ref p] ++ (xs.drop i).drop (xs.length - i - (n - 1 - i))) σ (upd H p (.lst ((xs.drop i).take (xs.length - i - (n - 1 - i))))) Q
end
section
variable {X : Cx} {pos : Pos}
theorem pgs_star {e : Expr} {es : List Expr} {p : Pos} {t : TG} {u : TGs} (h1 : PG X e t) (h2 : PGs X es u) (hs : (assignEach (.Starred e p :: es) X.env).map (·.2) = assign e X.env :: (assignEach es X.env).map (·.2) := by rfl) : PGs X (.Starred e p :: es) (gCons t u) := by
  constructor
  intro pins s σ H vs us Q I r h
  obtain ⟨v, vr, e1, h⟩ := h
  subst e1
  cases r with
  | cons r rr =>
    rw [hs]
    exact assignInOrder_cons (thn (h1.run pins s σ H _ _ _ I r h) fun _ t ⟨σ1, H1, I1, q1⟩ => h2.run pins t σ1 H1 _ _ Q I1 rr q1)
theorem vals_parts {xs : List V} {its : List Value} (r : Vals xs its) (i m : Nat) (p : Addr) : Vals (xs.take i ++ [.ref p] ++ (xs.drop i).drop m) (its.take i ++ [.ref p] ++ (its.drop i).drop m) ∧ Vals ((xs.drop i).take m) ((its.drop i).take m) := by
  have tk : ∀ {ys : List V} {us : List Value}, Vals ys us → ∀ k, Vals (ys.take k) (us.take k) := by
    intro ys us r
    induction r with
    | nil => intro k; rw [List.take_nil, List.take_nil]; exact .nil
    | cons a _ ih =>
      intro k
      cases k with
      | zero => exact .nil
      | succ k => exact .cons a (ih k)
  have dr : ∀ {ys : List V} {us : List Value}, Vals ys us → ∀ k, Vals (ys.drop k) (us.drop k) := by
    intro ys us r
    induction r with
    | nil => intro k; rw [List.drop_nil, List.drop_nil]; exact .nil
    | cons a r ih =>
      intro k
      cases k with
      | zero => exact .cons a r
      | succ k => exact ih k
  have ap : ∀ {ys zs : List V} {us vs : List Value}, Vals ys us → Vals zs vs → Vals (ys ++ zs) (us ++ vs) := by
    intro ys zs us vs r r2
    induction r with
    | nil => exact r2
    | cons a _ ih => exact .cons a ih
  exact ⟨ap (ap (tk r i) (.cons rfl .nil)) (dr (dr r i) m), tk (dr r i) m⟩
theorem pg_star {es : List Expr} {k n i : Nat} {t : TGs} (hc : X.calm = true) (h : PGs X es t) (hi : i + 1 ≤ n := by decide) (hn : (assignEach es X.env).length = n := by rfl) (hst : (assignEach es X.env).findIdx? (·.1) = some i := by rfl) : PG X (.Tuple es k pos) (gStar X.K n i t) := by
  constructor
  intro pins s σ H v u Q I r hw
  obtain ⟨a, xs, e1, hq, hl, hw⟩ := hw
  subst e1
  cases r
  obtain ⟨its, rv, pl, hz⟩ := I.list hq
  have len := rv.length
  rw [PyProof.Rows.assign_Tuple]
  refine wpAny_bind (wpAny_standAt ?_)
  unfold unpack
  rw [hn, hst]
  refine wpAny_bind (wpAny_holding (star_items (I.ok.hd hc) pl.isList (by simp; omega) (by simp; omega) hi fun s' kp g1 d1 o1 => ?_))
  obtain ⟨h', g', d', t', o'⟩ := s'
  obtain ⟨hh, gg, dd, tt, oo⟩ := s
  cases g1
  cases d1
  cases o1
  have I1 := I.kept (t' := t') kp
  have fr : H h'.objs.size = none := I1.hok.fresh (Nat.le_refl _)
  obtain ⟨v1, v2⟩ := vals_parts rv i (xs.length - i - (n - 1 - i)) h'.objs.size
  have sz : its.toArray.size = xs.length := by rw [List.size_toArray]; exact len.symm
  rw [sz]
  have I2 := I1.laid (t' := t') (a := h'.objs.size) (o := .lst ((xs.drop i).take (xs.length - i - (n - 1 - i)))) (fun b u e => Heap.get?_push_of_some { cls := .type "list", data := .seq ((its.drop i).take (xs.length - i - (n - 1 - i))).toArray } e) (Nat.le_refl _) ?_
  · exact h.run pins _ σ _ _ _ Q I2 v1 (hw _ fr)
  · refine ⟨?_, _, 0, v2, Heap.get?_push_size _ rfl⟩
    rw [List.length_take, List.length_drop]
    exact Nat.le_trans (Nat.min_le_right _ _) (Nat.le_trans (Nat.sub_le _ _) hz)
end
end St

set_option Elab.async false
set_option linter.all false
set_option maxRecDepth 100000
set_option maxHeartbeats 1000000
/-! targets with a star: a tuple's items to a, b, *c, d -/
namespace St
open PySem PySem.Spec PyProof.Rows L2
section
variable {prog : Program} {w : World} {A : Around} {E : Value → Shared → Prop} {s : Shared}
/-- n items out of a tuple's iterator -/
theorem drawT {it l : Addr} {items : Array Value} (ne : l ≠ it) (n : Nat) : ∀ (i : Nat) (s : Shared) (Q : List Value → Shared → Prop), s.heap.IsTupleIter it l i → s.heap.IsTuple l items → i + n ≤ items.size →
    (∀ h', h'.IsTupleIter it l (i + n) → Heap.SameBut it s.heap h' → Q ((items.toList.drop i).take n) { s with heap := h' }) → wpAny (model prog w) A (draw (.ref it) n) Q E s := by
  induction n with
  | zero =>
    intro i s Q a _ _ q
    have := q s.heap a (Heap.SameBut.refl ..)
    rw [List.take_zero] at this
    exact wpAny_pure this
  | succ n ih =>
    intro i s Q a b le q
    have lt : i < items.size := by omega
    refine wpAny_bind (wpAny_pyNext_tuple_item a b (Array.getElem?_eq_getElem lt) fun h1 a1 sb1 => wpAny_bind (wpAny_holding (ih (i + 1) _ _ a1 (b.extBut sb1.extBut ne) (by omega) fun h2 a2 sb2 => wpAny_pure ?_)))
    have e : (items.toList.drop i).take (n + 1) = items[i] :: (items.toList.drop (i + 1)).take n := by
      rw [List.drop_eq_getElem_cons (by rw [Array.length_toList]; exact lt), List.take_succ_cons]
      rfl
    have r := q h2 (by rw [show i + (n + 1) = i + 1 + n by omega]; exact a2) (sb1.trans sb2)
    rw [e] at r
    exact r
/-- what is left in a tuple's iterator that stands at k -/
theorem restT_walk (hh : A.handled = none) (I l : Addr) (ne : l ≠ I) (items : Array Value) (k : Nat) (hk : k ≤ items.size) :
    Walks prog w A I [I, l] [I] (items.size - k) (fun i v => items[k + i]? = some v) (fun i h => h.IsTupleIter I l (k + i) ∧ h.IsTuple l items) := by
  have W := Walks.tuple (prog := prog) (w := w) (A := A) hh I l ne items
  refine ⟨W.sub, fun i => W.frame (k + i), fun i s Q E hi st q => W.item (k + i) s Q E (by omega) st q, fun s Q E st q => W.done s Q E ?_ q, fun i => W.self (k + i)⟩
  have e : k + (items.size - k) = items.size := by omega
  rw [e] at st
  exact st
/-- the items of a tuple, those of a star as a new list -/
theorem starT_items {l : Addr} {items : Array Value} {n i : Nat} {Q : List Value → Shared → Prop} (hh : A.handled = none) (hl : s.heap.IsTuple l items) (hz : items.size ≤ sizeLine) (hn : n - 1 ≤ items.size) (hi : i + 1 ≤ n)
    (q : ∀ s' : Shared, (∀ b o, s.heap.get? b = some o → s'.heap.get? b = some o) → s'.gens = s.gens → s'.drawn = s.drawn → s'.os = s.os →
      Q (items.toList.take i ++ [.ref s'.heap.objs.size] ++ (items.toList.drop i).drop (items.size - i - (n - 1 - i))) { s' with heap := s'.heap.push { cls := .type "list", data := .seq ((items.toList.drop i).take (items.size - i - (n - 1 - i))).toArray } }) :
    wpAny (model prog w) A (unpackItems (.ref l) n (some i)) Q E s := by
  have hlt : l ≠ s.heap.objs.size := by
    obtain ⟨o, ho, _⟩ := hl
    exact Nat.ne_of_lt (Heap.lt_size ho)
  unfold unpackItems notIterableAtAll
  refine wpAny_bind ?_
  refine wpAny_bind (wpAny_specialOf hl.typeIs slot_tuple_iter.lookup ?_)
  refine wpAny_pure ?_
  simp only [Bool.false_eq_true, if_false]
  refine wpAny_bind (wpAny_holding (wpAny_pyIter_tuple hl ?_))
  refine wpAny_bind (wpAny_holding (drawT hlt i 0 _ _ ⟨_, Heap.get?_push_size _ rfl, rfl, rfl⟩ (hl.push _) (by omega) fun h1 it1 sb1 => ?_))
  rw [List.drop_zero, Nat.zero_add] at *
  have hl1 : h1.IsTuple l items := (hl.push _).extBut sb1.extBut hlt
  have len1 : (items.toList.take i).length = i := by
    rw [List.length_take, Array.length_toList]
    omega
  rw [if_neg (by rw [len1]; exact Nat.lt_irrefl i)]
  have sz1 : s.heap.objs.size + 1 = h1.objs.size := by
    have := sb1.1
    rw [Heap.size_push] at this
    omega
  have W := (restT_walk (prog := prog) (w := w) (A := A.in1) hh s.heap.objs.size l hlt items i (by omega)).toS
  refine wpAny_bind (wpAny_holding (wpAny_collect_iter (T := "tuple_iterator") (.inr (.inr (.inr rfl))) W (fun i s st => st.1.typeIs) ⟨by rw [Nat.add_zero]; exact it1, hl1⟩ (fun b hb => ?_) List.mem_cons_self (fun s' acc mv io => ?_) (by omega)))
  · have : b = s.heap.objs.size ∨ b = l := by simpa using hb
    rcases this with e | e
    · rw [e]; show _ < h1.objs.size; omega
    · rw [e]
      obtain ⟨o, ho, _⟩ := hl1
      exact Heap.lt_size ho
  · have ea : acc.toList = items.toList.drop i := by
      refine List.ext_getElem? fun j => ?_
      rw [List.getElem?_drop, Array.getElem?_toList, Array.getElem?_toList]
      by_cases hj : j < acc.size
      · have e1 : acc[j]? = some acc[j] := by simp [hj]
        rw [e1, io.2 j _ e1]
      · have hs := io.1
        rw [show acc[j]? = none by simp; omega, show items[i + j]? = none by simp; omega]
    have la : acc.toList.length = items.size - i := by rw [Array.length_toList]; exact io.1
    rw [if_neg (by rw [la]; omega)]
    have kp : ∀ b o, s.heap.get? b = some o → s'.heap.get? b = some o := fun b o e => by
      have nb : b ≠ s.heap.objs.size := Nat.ne_of_lt (Heap.lt_size e)
      exact mv.heap b o (by simpa using nb) (sb1.extBut b o nb (Heap.get?_push_of_some _ e))
    have := q s' kp mv.gens mv.drawn mv.os
    rw [ea, show (items.toList.drop i).length = items.size - i by rw [List.length_drop, Array.length_toList]]
    refine wpAny_bind (wpAny_newList ?_)
    exact wpAny_pure this
end
end St

set_option Elab.async false
set_option linter.all false
set_option maxRecDepth 100000
set_option maxHeartbeats 1000000
/-! a, b, *c, d = e as data -/
namespace St
open PySem PySem.Spec PyProof.Rows L2
section
variable {X : Cx} {pos : Pos}
/-- a, b, *c, d = a list or a tuple -/
def gStarA (K : PySem.W.Frag) (n i : Nat) (t : TGs) : TG := fun v σ H Q => ∃ a xs, v = .ref a ∧ (SqL K H a xs ∨ SqT K H a xs) ∧ n - 1 ≤ xs.length ∧ ∀ p, H p = none → t (xs.take i ++ [.ref p] ++ (xs.drop i).drop (xs.length - i - (n - 1 - i))) σ (upd H p (.lst ((xs.drop i).take (xs.length - i - (n - 1 - i))))) Q
theorem pg_starA {es : List Expr} {k n i : Nat} {t : TGs} (hc : X.calm = true) (h : PGs X es t) (hi : i + 1 ≤ n := by decide) (hn : (assignEach es X.env).length = n := by rfl) (hst : (assignEach es X.env).findIdx? (·.1) = some i := by rfl) : PG X (.Tuple es k pos) (gStarA X.K n i t) := by
  constructor
  intro pins s σ H v u Q I r ⟨a, xs, e1, hq, hl, hw⟩
  rcases hq with hq | hq
  · exact (pg_star hc h hi hn hst).run pins s σ H v u Q I r ⟨a, xs, e1, hq, hl, hw⟩
  · subst e1
    cases r
    obtain ⟨its, rv, pt, hz⟩ := I.tuple hq
    have ln := rv.length
    rw [PyProof.Rows.assign_Tuple]
    apply wpAny_bind
    apply wpAny_standAt
    unfold unpack
    rw [hn, hst]
    have z1 : its.toArray.size ≤ sizeLine := by rw [List.size_toArray]; omega
    have z2 : n - 1 ≤ its.toArray.size := by rw [List.size_toArray]; omega
    refine wpAny_bind (wpAny_holding (starT_items (I.ok.hd hc) pt z1 z2 hi fun t kp q1 q2 q3 => ?_))
    match t, s, I, pt, q1, q2, q3, kp with
    | ⟨ht, _, _, tk, _⟩, ⟨hs, _, _, _, _⟩, I, pt, rfl, rfl, rfl, kp =>
      have J := I.kept (t' := tk) kp
      have fr : H ht.objs.size = none := J.hok.fresh (Nat.le_refl _)
      have vp := vals_parts rv i (xs.length - i - (n - 1 - i)) ht.objs.size
      have sz : its.toArray.size = xs.length := by rw [List.size_toArray, ln]
      rw [sz]
      have J2 := J.laid (t' := tk) (a := ht.objs.size) (o := .lst ((xs.drop i).take (xs.length - i - (n - 1 - i)))) (fun b u e => Heap.get?_push_of_some { cls := .type "list", data := .seq ((its.drop i).take (xs.length - i - (n - 1 - i))).toArray } e) (Nat.le_refl _) ⟨by
        rw [List.length_take, List.length_drop]
        exact Nat.le_trans (Nat.min_le_right _ _) (Nat.le_trans (Nat.sub_le _ _) hz), _, 0, vp.2, Heap.get?_push_size _ rfl⟩
      exact h.run pins _ σ _ _ _ Q J2 vp.1 (hw _ fr)
/-- names, one after another -/
def setAll (σ : L2.St) : List Nat → List V → L2.St
  | i :: is, v :: vs => setAll (σ.set i (some v)) is vs
  | _, _ => σ
def tSets (is : List Nat) : TGs := fun vs σ H Q => vs.length = is.length ∧ Q (setAll σ is vs) H
theorem pgn_nil : PGs X [] (tSets []) := pgs_nil.imp fun vs σ H Q h => ⟨List.length_eq_zero_iff.mp h.1, by
  have := List.length_eq_zero_iff.mp h.1
  subst this
  exact h.2⟩
theorem pgn_cons {i : Nat} {is : List Nat} {e : Expr} {es : List Expr} (h : PG X e (gName i)) (hs : PGs X es (tSets is)) (he : (assignEach (e :: es) X.env).map (·.2) = assign e X.env :: (assignEach es X.env).map (·.2) := by rfl) : PGs X (e :: es) (tSets (i :: is)) := (pgs_cons h hs he).imp fun vs σ H Q ⟨l, q⟩ => by
  match vs, l, q with
  | v :: vs, l, q => exact ⟨v, vs, rfl, Nat.succ.inj l, q⟩
theorem pgn_star {i : Nat} {is : List Nat} {e : Expr} {p : Pos} {es : List Expr} (h : PG X e (gName i)) (hs : PGs X es (tSets is)) (he : (assignEach (.Starred e p :: es) X.env).map (·.2) = assign e X.env :: (assignEach es X.env).map (·.2) := by rfl) : PGs X (.Starred e p :: es) (tSets (i :: is)) := (pgs_star h hs he).imp fun vs σ H Q ⟨l, q⟩ => by
  match vs, l, q with
  | v :: vs, l, q => exact ⟨v, vs, rfl, Nat.succ.inj l, q⟩
end
end St
namespace Fl
open PySem PySem.Spec PyProof.Rows L2 Dl R
noncomputable section
def rhoAll (ρ : Rho) : List Nat → List PyData → Rho
  | i :: is, d :: ds => rhoAll (ρ.set i (some (.d d))) is ds
  | _, _ => ρ
/-- what stands where the star is: a list of the rest -/
def starL (n i : Nat) (ds : List PyData) : List PyData := ds.take i ++ [.list ((ds.drop i).take (ds.length - i - (n - 1 - i)))] ++ (ds.drop i).drop (ds.length - i - (n - 1 - i))
def cStar (n i : Nat) (is : List Nat) (a : CE) (ρ : Rho) : R Out := (a ρ).bind fun x => match x with
  | .d (.tuple ds) => chk (decide (n - 1 ≤ ds.length)) (ok (.nx (rhoAll ρ is (starL n i ds))))
  | .d (.list ds) => chk (decide (n - 1 ≤ ds.length)) (ok (.nx (rhoAll ρ is (starL n i ds))))
  | _ => no
end
section
variable {X : Cx} {C : DC} {er : Str → Prop}
theorem st_all {hid : List Addr} {H : Hp} : ∀ (is : List Nat) {vs : List V} {ds : List PyData} {σ : L2.St} {ρ : Rho}, StOk C hid σ H ρ → DdAll C.K (hide hid H) vs ds → StOk C hid (St.setAll σ is vs) H (rhoAll ρ is ds)
  | [], vs, ds, σ, ρ, s, h => by
    cases h <;> exact s
  | i :: is, _, _, σ, ρ, s, .nil => s
  | i :: is, _, _, σ, ρ, s, .cons a b => st_all is (s.set (x := .d _) a trivial i) b
theorem dd_take {K : PySem.W.Frag} {H : Hp} : ∀ (n : Nat) {vs : List V} {ds : List PyData}, DdAll K H vs ds → DdAll K H (vs.take n) (ds.take n)
  | 0, _, _, _ => .nil
  | n + 1, _, _, .nil => .nil
  | n + 1, _, _, .cons a b => .cons a (dd_take n b)
theorem dd_drop {K : PySem.W.Frag} {H : Hp} : ∀ (n : Nat) {vs : List V} {ds : List PyData}, DdAll K H vs ds → DdAll K H (vs.drop n) (ds.drop n)
  | 0, _, _, h => h
  | n + 1, _, _, .nil => .nil
  | n + 1, _, _, .cons a b => dd_drop n b
theorem dd_app {K : PySem.W.Frag} {H : Hp} : ∀ {vs ws : List V} {ds es : List PyData}, DdAll K H vs ds → DdAll K H ws es → DdAll K H (vs ++ ws) (ds ++ es)
  | _, _, _, _, .nil, h => h
  | _, _, _, _, .cons a b, h => .cons a (dd_app b h)
theorem fs_star {es : List Expr} {e : Expr} {A : CE} {tp pos : Pos} {kt n i k : Nat} {is : List Nat} (l : Lv0 X C k) (he : PE X e (tE C (up er A))) (ht : PGs X es (St.tSets is)) (hi : i + 1 ≤ n := by decide) (hl : is.length = n := by rfl)
    (hn : (assignEach es X.env).length = n := by rfl) (hst : (assignEach es X.env).findIdx? (·.1) = some i := by rfl)
    (h1 : swapsWithSole [.Tuple es kt tp] e pos.line X.env = pure false := by rfl) (h2 : swappedStores [.Tuple es kt tp] e X.env = pure none := by rfl) (h3 : (assignEach [.Tuple es kt tp] X.env).map (·.2) = [assign (.Tuple es kt tp) X.env] := by rfl) :
    PS X (.Assign [.Tuple es kt tp] e pos) (tS C (upS er (cStar n i is A))) :=
  (ps_asg he (St.pg_starA l.calm ht hi hn hst) h1 h2 h3).imp fun D σ H ⟨hid, ρ, d, so, s, en⟩ => by
    unfold upS cStar at s
    rw [wp_bind] at s
    refine ⟨hid, ρ, _, so.hp, so.sr, s, fun v x H1 e1 o1 r1 a1 => ?_⟩
    have fin : ∀ (a : Addr) (xs : List V) (ds : List PyData), (SqL X.K H1 a xs ∨ SqT X.K H1 a xs) → DdAll C.K (hide hid H1) xs ds → wp (chk (decide (n - 1 ≤ ds.length)) (ok (Out.nx (rhoAll ρ is (starL n i ds))))) (outK d) er → St.gStarA X.K n i (St.tSets is) (.ref a) σ H1 D.nx := fun a xs ds hq dd w => by
      obtain ⟨w1, w2⟩ := chk_wp w
      have w1 := of_decide_eq_true w1
      have ln := dd.len
      refine ⟨a, xs, rfl, hq, by rw [ln]; exact w1, fun p np => ?_⟩
      have n1 := Ext.new (c := C.c) np (.lst ((xs.drop i).take (xs.length - i - (n - 1 - i))))
      have o2 := o1.new np (.lst ((xs.drop i).take (xs.length - i - (n - 1 - i))))
      have dd2 := DdAll.mono (n1.mono o1) _ _ dd
      have mid : DdAll C.K (hide hid H1) ((xs.drop i).take (xs.length - i - (n - 1 - i))) ((ds.drop i).take (ds.length - i - (n - 1 - i))) := by
        rw [ln]
        exact dd_take _ (dd_drop _ dd)
      have lst := new_lst o1 mid np
      have all : DdAll C.K (hide hid (upd H1 p (.lst ((xs.drop i).take (xs.length - i - (n - 1 - i)))))) (xs.take i ++ [.ref p] ++ (xs.drop i).drop (xs.length - i - (n - 1 - i))) (starL n i ds) := by
        unfold starL
        rw [← ln]
        rw [← ln] at lst
        exact dd_app (dd_app (dd_take i dd2) (.cons lst .nil)) (dd_drop _ (dd_drop i dd2))
      refine ⟨?_, ?_⟩
      · rw [hl, List.length_append, List.length_append, List.length_take, List.length_drop, List.length_drop]
        show min i xs.length + 1 + _ = n
        omega
      · have e2 := e1.trans n1
        exact en.nx _ _ _ _ (st_all is (so.ext e2 o2) all) (Stp.ext e2 so.hp) w2
    split at a1
    · rename_i ds
      cases r1 with
      | @tup a xs _ h1 h2 => exact fin a xs ds (.inr (by rw [l.K]; exact hide_mono.sqT h1.1)) h2 a1
    · rename_i ds
      cases r1 with
      | @lst a xs _ h1 h2 => exact fin a xs ds (.inl (SqL.of (hide_some h1).2)) h2 a1
    · exact a1.elim
end
end Fl

set_option Elab.async false
set_option linter.all false
set_option maxRecDepth 100000
set_option maxHeartbeats 1000000
/-! (a, *b, c), [a, *b] as data: as many items as there are -/
namespace Fl
open PySem PySem.Spec PyProof.Rows L2 Dl R
noncomputable section
def spreadR : Dv → R (List Dv)
  | .d (.tuple ds) => ok (ds.map Dv.d)
  | .d (.list ds) => ok (ds.map Dv.d)
  | _ => no
def cSpread (a : CE) (b : CA) (ρ : Rho) : R (List Dv) := (a ρ).bind fun x => (spreadR x).bind fun xs => (b ρ).bind fun ys => ok (xs ++ ys)
def cTupS (a : CA) (ρ : Rho) : R Dv := (a ρ).bind fun xs => (dsR xs).bind fun l => lim l.length (ok (.d (.tuple l)))
def cLstS (a : CA) (ρ : Rho) : R Dv := (a ρ).bind fun xs => (dsR xs).bind fun l => lim l.length (ok (.d (.list l)))
end
/-- as tAs, but of any number -/
def tAsL (C : DC) (A : DAs) : TA := fun σ H Q => ∃ hid ρ q, HpOk C hid H ∧ SR C hid σ H ρ ∧ A ρ q ∧ ∀ vs xs H', Ext C.c H H' → HpOk C hid H' → VRs C hid H' vs xs → q xs → Q vs H'
section
variable {X : Cx} {C : DC} {er : Str → Prop}
theorem _root_.L2.PA.imp2 {es : List Expr} {t t' : TA} (h : PA X es t) (k : ∀ σ H Q, t' σ H Q → t σ H Q) : PA X es t' := ⟨fun pos pins s σ H Q I y => h.run pos pins s σ H Q I (k σ H Q y)⟩
theorem vrs_app {hid : List Addr} {H : Hp} : ∀ {vs ws : List V} {xs ys : List Dv}, VRs C hid H vs xs → VRs C hid H ws ys → VRs C hid H (vs ++ ws) (xs ++ ys)
  | _, _, _, _, .nil, h => h
  | _, _, _, _, .cons a b, h => .cons a (vrs_app b h)
theorem fl_nil : PA X [] (tAsL C (up er cNil)) := pa_nil.imp2 fun σ H Q ⟨hid, ρ, q, hp, sr, h, k⟩ => k [] [] H .refl hp .nil h
theorem fl_cons {e : Expr} {es : List Expr} {A : CE} {B : CA} (he : PE X e (tE C (up er A))) (hs : PA X es (tAsL C (up er B))) (h : starEach (e :: es) X.env = (false, eval e X.env) :: starEach es X.env := by rfl) : PA X (e :: es) (tAsL C (up er (cCons A B))) :=
  (pa_cons he hs h).imp2 fun σ H Q ⟨hid, ρ, q, hp, sr, w, k⟩ => by
    unfold up cCons at w
    rw [wp_bind] at w
    refine ⟨hid, ρ, _, hp, sr, w, fun v x H1 e1 o1 r1 w1 => ?_⟩
    rw [wp_bind] at w1
    refine ⟨hid, ρ, _, o1, sr.ext e1 hp, w1, fun vs xs H2 e2 o2 r2 w2 => ?_⟩
    exact k _ _ H2 (e1.trans e2) o2 (.cons (r1.ext e2 o1) r2) w2
theorem fl_star {e : Expr} {es : List Expr} {p : Pos} {k0 : Nat} {A : CE} {B : CA} (l : Lv0 X C k0) (he : PE X e (tE C (up er A))) (hs : PA X es (tAsL C (up er B))) (h : starEach (.Starred e p :: es) X.env = (true, eval e X.env) :: starEach es X.env := by rfl) : PA X (.Starred e p :: es) (tAsL C (up er (cSpread A B))) :=
  (StX.pa_star he hs h).imp2 fun σ H Q ⟨hid, ρ, q, hp, sr, w, k⟩ => by
    unfold up cSpread at w
    rw [wp_bind] at w
    refine ⟨hid, ρ, _, hp, sr, w, fun v x H1 e1 o1 r1 w1 => ?_⟩
    have fin : ∀ (a : Addr) (vs : List V) (ds : List PyData), (SqT X.K H1 a vs ∨ SqL X.K H1 a vs) → DdAll C.K (hide hid H1) vs ds → wp ((B ρ).bind fun ys => ok (ds.map Dv.d ++ ys)) q er → ∃ p xs, V.ref a = V.ref p ∧ (SqT X.K H1 p xs ∨ SqL X.K H1 p xs) ∧ tAsL C (up er B) σ H1 fun ys H2 => Q (xs ++ ys) H2 := fun a vs ds hq dd w2 => by
      rw [wp_bind] at w2
      refine ⟨a, vs, rfl, hq, hid, ρ, _, o1, sr.ext e1 hp, w2, fun ws ys H2 e2 o2 r2 w3 => ?_⟩
      exact k _ _ H2 (e1.trans e2) o2 (vrs_app (VRs.ext e2 o1 (dd_vrs dd)) r2) w3
    rw [wp_bind] at w1
    unfold spreadR at w1
    split at w1
    · rename_i ds
      cases r1 with
      | @tup a vs _ h1 h2 => exact fin a vs ds (.inl (by rw [l.K]; exact hide_mono.sqT h1.1)) h2 w1
    · rename_i ds
      cases r1 with
      | @lst a vs _ h1 h2 => exact fin a vs ds (.inr (SqL.of (hide_some h1).2)) h2 w1
    · exact w1.elim
theorem fe_tupS {es : List Expr} {A : CA} {pos : Pos} {x1 : Nat} (h : PA X es (tAsL C (up er A))) : PE X (.Tuple es x1 pos) (tE C (up er (cTupS A))) :=
  (pe_tup h).imp fun σ H Q ⟨hid, ρ, q, hp, sr, w, k⟩ => by
    unfold up cTupS at w
    rw [wp_bind] at w
    refine ⟨hid, ρ, _, hp, sr, w, fun vs xs H1 e1 o1 r1 w1 => ?_⟩
    rw [wp_bind] at w1
    obtain ⟨l, rfl, w2⟩ := of_onDs (dsR_wp w1)
    obtain ⟨w3, w4⟩ := chk_wp w2
    refine ⟨by rw [r1.len, List.length_map]; exact Nat.le_trans (of_decide_eq_true w3) (by decide), fun p np => ?_⟩
    exact k _ _ _ (e1.trans (Ext.new np _)) (o1.new np _) (new_tup o1 r1.dd np) w4
theorem fe_lstS {es : List Expr} {A : CA} {pos : Pos} (h : PA X es (tAsL C (up er A))) : PE X (.List es pos) (tE C (up er (cLstS A))) :=
  (pe_lst h).imp fun σ H Q ⟨hid, ρ, q, hp, sr, w, k⟩ => by
    unfold up cLstS at w
    rw [wp_bind] at w
    refine ⟨hid, ρ, _, hp, sr, w, fun vs xs H1 e1 o1 r1 w1 => ?_⟩
    rw [wp_bind] at w1
    obtain ⟨l, rfl, w2⟩ := of_onDs (dsR_wp w1)
    obtain ⟨w3, w4⟩ := chk_wp w2
    refine ⟨by rw [r1.len, List.length_map]; exact Nat.le_trans (of_decide_eq_true w3) (by decide), fun p np => ?_⟩
    exact k _ _ _ (e1.trans (Ext.new np _)) (o1.new np _) (new_lst o1 r1.dd np) w4
end
end Fl

set_option Elab.async false
set_option linter.all false
set_option maxRecDepth 100000
set_option maxHeartbeats 1000000
/-! sum(one sequence of ints) -/
namespace Fl
open PySem PySem.Spec PyProof.Rows L2 Dl R
def sumI (ds : List PyData) : R Dv := match intsD? ds with
  | some ns => ok (.d (.int ns.sum))
  | none => no
def sumC (xs : List Dv) : R Dv := match xs with
  | [.d (.list ds)] => sumI ds
  | [.d (.tuple ds)] => sumI ds
  | [.own ds] => sumI ds
  | _ => no
def sumQ (xs : List Dv) (q : Dv → Prop) : Prop := ∃ ns : List Int, (xs = [.d (.list (ns.map .int))] ∨ xs = [.d (.tuple (ns.map .int))] ∨ xs = [.own (ns.map .int)]) ∧ q (.d (.int ns.sum))
theorem sumI_of {ds : List PyData} {q : Dv → Prop} {er : Str → Prop} (h : wp (sumI ds) q er) : ∃ ns : List Int, ds = ns.map .int ∧ q (.d (.int ns.sum)) := by
  unfold sumI at h
  split at h
  · rename_i e
    exact ⟨_, intsD?_eq e, h⟩
  · exact h.elim
theorem sumC_ok (er : Str → Prop) (xs : List Dv) (q : Dv → Prop) (h : wp (sumC xs) q er) : sumQ xs q := by
  unfold sumC at h
  split at h
  · obtain ⟨ns, rfl, h2⟩ := sumI_of h
    exact ⟨ns, .inl rfl, h2⟩
  · obtain ⟨ns, rfl, h2⟩ := sumI_of h
    exact ⟨ns, .inr (.inl rfl), h2⟩
  · obtain ⟨ns, rfl, h2⟩ := sumI_of h
    exact ⟨ns, .inr (.inr rfl), h2⟩
  · exact h.elim
section
variable {X : Cx} {C : DC} {er : Str → Prop}
theorem dd_int {K : PySem.W.Frag} {H : Hp} : ∀ {vs : List V} {l : List Int}, DdAll K H vs (l.map PyData.int) → vs = l.map V.int
  | [], [], _ => rfl
  | [], _ :: _, h => by cases h
  | _ :: _, [], h => by cases h
  | _ :: _, _ :: _, h => by
    cases h with
    | cons a b => cases a; rw [dd_int b]; rfl
theorem sum_ok {k : Nat} (l : Lv0 X C k) : CallR X (.builtin "sum") (rL C sumQ) := by
  intro pins s σ H vs us Q I r ⟨hid, ds, q, hp, rs, ⟨ns, e, h⟩, kk⟩
  have fin : ∀ (h' : Heap) (tk : Nat) (t' : Tok), (∀ b o, s.heap.get? b = some o → h'.get? b = some o) → EP X pins σ Q (.int ns.sum t') { s with heap := h', toks := tk } := fun h' tk t' hk => ⟨.int _, H, I.kept hk, ⟨_, rfl⟩, kk _ (.d (.int _)) H .refl hp (Dd.int _) h⟩
  have both : ∃ p, vs = [.ref p] ∧ (SqL X.K H p (ns.map V.int) ∨ SqT X.K H p (ns.map V.int)) := by
    rcases e with rfl | rfl | rfl
    · obtain ⟨v, rfl, r1⟩ := rs.one
      obtain ⟨p, ws, rfl, h1, d1⟩ := r1.lst rfl
      rw [dd_int d1] at h1
      exact ⟨p, rfl, .inl (SqL.of h1)⟩
    · obtain ⟨v, rfl, r1⟩ := rs.one
      obtain ⟨p, ws, rfl, h1, d1⟩ := r1.tup
      rw [dd_int d1] at h1
      exact ⟨p, rfl, .inr (by rw [l.K]; exact h1)⟩
    · obtain ⟨v, rfl, r1⟩ := rs.one
      obtain ⟨p, ws, rfl, h1, d1⟩ := r1.lst rfl
      rw [dd_int d1] at h1
      exact ⟨p, rfl, .inl (SqL.of h1)⟩
  obtain ⟨p, rfl, hs⟩ := both
  rw [Vals.ref1 r]
  rcases hs with hs | hs
  · obtain ⟨its, rv, hl, hz⟩ := I.list hs
    exact sum_raw l.room.hd hl.isList rv.ints fin
  · obtain ⟨its, rv, hl, hz⟩ := I.tuple hs
    obtain ⟨xs, ex⟩ := rv.ints.allInts.items
    have hn : numsOf (intItems xs).toList = ns := by rw [← ex]; exact rv.ints.numsOf
    rw [nums_intItems] at hn
    have hl : s.heap.IsTuple p its.toArray := hl
    rw [ex] at hl
    refine PySem.W.ktm_sumG l.room.hd hl fun h' tk t' hk => ?_
    rw [preSum_eq, List.take_of_length_le (by simp), hn]
    exact fin h' tk t' hk
end
end Fl

set_option Elab.async false
set_option linter.all false
set_option maxRecDepth 100000
set_option maxHeartbeats 1000000
/-! item stores on a list of one's own; x = list(y) as one's own -/
namespace Dl
open PySem PySem.Spec PyProof.Rows L2
theorem DdAll.set {K : PySem.W.Frag} {H : Hp} {v : V} {d : PyData} (x : Dd K H v d) : ∀ {vs : List V} {ds : List PyData} (j : Nat), DdAll K H vs ds → DdAll K H (vs.set j v) (ds.set j d)
  | [], _, _, h => by cases h; exact .nil
  | _ :: _, _, 0, h => by
    cases h with
    | cons a b => exact .cons x b
  | _ :: _, _, j + 1, h => by
    cases h with
    | cons a b => exact .cons a (DdAll.set x j b)
/-- what a list or a tuple holds -/
def seqOf : Dv → Option (List PyData)
  | .d (.list l) => some l
  | .d (.tuple l) => some l
  | .own l => some l
  | _ => none
theorem VR.seqv {C : DC} {hid : List Addr} {H : Hp} {v : V} {x : Dv} {l : List PyData} (e : seqOf x = some l) (r : VR C hid H v x) : ∃ p vs, v = .ref p ∧ (SqL C.K H p vs ∨ SqT C.K H p vs) ∧ DdAll C.K (hide hid H) vs l := by
  unfold seqOf at e
  split at e
  · cases e
    cases r with
    | lst h k => exact ⟨_, _, rfl, .inl (SqL.of (hide_some h).2), k⟩
  · cases e
    cases r with
    | tup h k => exact ⟨_, _, rfl, .inr (hide_mono.sqT h.1), k⟩
  · cases e
    obtain ⟨p, vs, h1, _, _, _, h2, h3⟩ := r
    exact ⟨p, vs, h1, .inl (SqL.of h2), h3⟩
  · cases e
end Dl
namespace Fl
open PySem PySem.Spec PyProof.Rows L2 Dl R
noncomputable section
/-- x[k] = a, x a list of one's own: the value first -/
def cPutL (i : Nat) (b a : CE) (ρ : Rho) : R Out := match ρ[i]? with
  | some (some (.own xs)) => (a ρ).bind fun x => (b ρ).bind fun y => match y, x with
    | .d (.int k), .d d => match ixN xs.length k with
      | some j => ok (.nx (ρ.set i (some (.own (xs.set j d)))))
      | none => no
    | _, _ => no
  | _ => no
def cOwnLs (i : Nat) (a : CE) (ρ : Rho) : R Out := (a ρ).bind fun x => match seqOf x with
  | some l => ok (.nx (ρ.set i (some (.own l))))
  | none => no
end
section
variable {X : Cx} {C : DC} {er : Str → Prop}
theorem fs_putL {i : Nat} {x : Str} {b e : Expr} {A B : CE} {k : Nat} {npos tpos pos : Pos} (l : Lv0 X C k) (hv : PE X (.Name x npos) (tVar i)) (hb : PE X b (tE C (up er B))) (ha : PE X e (tE C (up er A)))
    (h1 : swapsWithSole [.Subscript (.Name x npos) b tpos] e pos.line X.env = pure false := by rfl) (h2 : swappedStores [.Subscript (.Name x npos) b tpos] e X.env = pure none := by rfl)
    (h3 : (assignEach [.Subscript (.Name x npos) b tpos] X.env).map (·.2) = [assign (.Subscript (.Name x npos) b tpos) X.env] := by rfl)
    (h4 : ∀ v, assign (.Subscript (.Name x npos) b tpos) X.env v = (do
      let ov ← holding [v] (eval (.Name x npos) X.env)
      let iv ← holding [v, ov] (eval b X.env)
      standAt tpos
      holding [v, ov, iv] (setItem ov iv v)
      release [v, ov, iv] []) := by intro _; rfl) : PS X (.Assign [.Subscript (.Name x npos) b tpos] e pos) (tS C (upS er (cPutL i B A))) :=
  (ps_asg ha (pg_sub hv hb set_list h4) h1 h2 h3).imp fun D σ H ⟨hid, ρ, d, so, s, en⟩ => by
    unfold upS cPutL at s
    split at s
    · rename_i xs ei
      obtain ⟨v0, hσ, p, ws, rfl, m1, m2, m3, m4, m5⟩ := so.sr.at' i _ ei
      rw [wp_bind] at s
      refine ⟨hid, ρ, _, so.hp, so.sr, s, fun v xv H1 e1 o1 r1 a1 => ⟨.ref p, hσ, ?_⟩⟩
      rw [wp_bind] at a1
      refine ⟨hid, ρ, _, o1, so.sr.ext e1 so.hp, a1, fun w y H2 e2 o2 r2 a2 => ?_⟩
      split at a2
      · rename_i kk dd
        split at a2
        · rename_i j ej
          have m4' := e2 p _ m2 (e1 p _ m2 m4 (fun _ z => by cases z)) (fun _ z => by cases z)
          have m5' := DdAll.mono (e2.mono o1) _ _ (DdAll.mono (e1.mono so.hp) _ _ m5)
          have rd : Dd C.K (hide hid H2) v dd := (show VR C hid H2 v (.d dd) from r1.ext e2 o1)
          cases r2
          obtain ⟨s2, s3⟩ := StOk.putOw ((so.ext e1 o1).ext e2 o2) (y := .own (xs.set j dd)) ei (fun z => z) hσ m1 m2 m3 m4' (.lst (m5'.set rd j))
          exact ⟨p, _, _, j, rfl, rfl, m4', by rw [m5'.len]; exact ej, en.nx _ _ _ _ s2 (((Stp.ext e1 so.hp).trans (Stp.ext e2 o1)).trans s3) a2⟩
        · exact a2.elim
      · exact a2.elim
    · exact s.elim
theorem fs_ownLs {i : Nat} {x : Str} {e : Expr} {A : CE} {k : Nat} {pos' p2 cpos pos : Pos} (l : Lv0 X C k) (hm : X.mg "list" = none) (hi : X.N[i]? = some x) (hl : L2.Loc X.env.scope x) (h : PE X e (tE C (up er A))) (hg : Gl X "list" := by rfl)
    (he : starEach [e] X.env = (false, eval e X.env) :: starEach [] X.env := by rfl) (hpl : (backTo cpos (starEach [] X.env)).any (·.1) = false := by rfl) (hs : swapsWith (.Call (.Name "list" p2) [e] [] cpos) (some (.Name x pos')) pos.line X.env = pure false := by rfl)
    (hf : X.fn x = true ∨ X.env.scope.names.lookup x = some .local := by first | exact Or.inl rfl | exact Or.inr rfl) : PS X (.Assign [.Name x pos'] (.Call (.Name "list" p2) [e] [] cpos) pos) (tS C (upS er (cOwnLs i A))) :=
  (ps_set l.nd hi hl (pe_callTy call_list_of hg hm (by decide +kernel) (pa_cons h pa_nil he) (he := he) (hpl := hpl)) hs hf).imp fun D σ H ⟨hid, ρ, d, so, s, en⟩ => by
    unfold upS cOwnLs at s
    rw [wp_bind] at s
    refine ⟨hid, ρ, _, so.hp, so.sr, s, fun v xv H1 e1 o1 r1 a1 => ?_⟩
    split at a1
    · rename_i ls ek
      obtain ⟨p, ws, rfl, hH, dk⟩ := VR.seqv ek r1
      refine ⟨p, ws, rfl, by rw [l.K]; exact hH, fun p2 np => ?_⟩
      obtain ⟨s2, s3⟩ := (so.ext e1 o1).newOw (x := .own ls) (.lst dk) np i
      exact en.nx _ _ _ _ s2 ((Stp.ext e1 so.hp).trans s3) a1
    · exact a1.elim
end
end Fl

set_option Elab.async false
set_option linter.all false
set_option maxRecDepth 100000
set_option maxHeartbeats 1000000
/-! dict comprehensions with texts for keys -/
namespace Fl
open PySem PySem.Spec PyProof.Rows L2 Dl R
noncomputable section
def dcR (g : CG) (t : CT) (kx vx : CE) (ρ : Rho) : List PyData → List (Str × PyData) → R (List (Str × PyData))
  | [], acc => ok acc
  | x :: r, acc => (g (.d x) ρ).bind fun ρ1 => (t ρ1).bind fun b => iff b ((kx ρ1).bind fun y => (strR y).bind fun k => (vx ρ1).bind fun z => (dR z).bind fun d => dcR g t kx vx ρ r (dPut acc k d)) (dcR g t kx vx ρ r acc)
/-- {kx: vx for .. in .. if ..} -/
def cDc (i : CI) (g : CG) (t : CT) (kx vx : CE) (vs : List Nat) (ρ : Rho) : R Dv := (i ρ).bind fun ds => chk (decide (ds.length ≤ 1000000)) ((dcR g t kx vx (wipeR ρ vs) ds []).bind fun l => ok (.dc l))
end
section
variable {X : Cx} {C : DC} {er : Str → Prop}
/-- while a dict is made at D -/
structure MkD (C : DC) (hid : List Addr) (H1 : Hp) (D : Addr) (H' : Hp) (es : List (Key × V)) (acc : List (Str × PyData)) : Prop where
  ok : HpOk C (D :: hid) H'
  st : Stp hid H1 (D :: hid) H'
  all : ∀ b o, b ≠ D → C.c ≠ some b → H1 b = some o → (∀ ps, o ≠ .tbl ps) → H' b = some o
  at' : H' D = some (.dK es)
  dk : DvK C.K (hide (D :: hid) H') es acc
theorem hp_more {hid : List Addr} {H : Hp} (h : HpOk C hid H) {D : Addr} {o : HO} (e : H D = some o) (ow : OwO o) : HpOk C (D :: hid) H :=
  ⟨h.tabs, fun a q => ⟨List.mem_cons_of_mem _ (h.cup a q).1, (h.cup a q).2⟩, fun a ha => by
    rcases List.mem_cons.mp ha with rfl | ha
    · exact ⟨o, e, ow⟩
    · exact h.some a ha, fun a ha => List.mem_cons_of_mem _ (h.sub a ha), h.ext⟩
theorem MkD.start {hid : List Addr} {H1 : Hp} {D : Addr} (o1 : HpOk C hid H1) (hD : H1 D = none) : MkD C hid H1 D (upd H1 D (.dK [])) [] [] where
  ok := hp_more (o1.new hD _) upd_same trivial
  st := ⟨fun b o _ e _ => by rw [upd_ne (ne_of_none e hD)]; exact e, fun b hb => (List.mem_cons.mp hb).elim (fun z => .inr (z ▸ .of hD)) .inl⟩
  all := fun b o n _ e _ => by rw [upd_ne n]; exact e
  at' := upd_same
  dk := .nil
theorem MkD.step {hid : List Addr} {H1 H' H'' : Hp} {D : Addr} {es : List (Key × V)} {acc : List (Str × PyData)} (cD : C.c ≠ some D) (m : MkD C hid H1 D H' es acc) (e : Ext C.c H' H'') (o : HpOk C (D :: hid) H'') : MkD C hid H1 D H'' es acc where
  ok := o
  st := m.st.trans (Stp.ext e m.ok)
  all := fun b o n c h t => e b o c (m.all b o n c h t) t
  at' := e D _ cD m.at' (fun _ z => by cases z)
  dk := m.dk.mono (e.mono m.ok)
theorem MkD.put {hid : List Addr} {H1 H' : Hp} {D : Addr} {es : List (Key × V)} {acc : List (Str × PyData)} (cD : C.c ≠ some D) (o1 : HpOk C hid H1) (hD : H1 D = none) (m : MkD C hid H1 D H' es acc) {k : Str} {v : V} {d : PyData} (hk : PyData.strOk k = true) (r : VR C (D :: hid) H' v (.d d)) :
    MkD C hid H1 D (upd H' D (.dK (putK es (Sum.inr k) v))) (putK es (Sum.inr k) v) (dPut acc k d) := by
  have fr : Fr C.H0 D := Fr.new o1 hD
  have st5 : Stp (D :: hid) H' (D :: hid) (upd H' D (.dK (putK es (Sum.inr k) v))) := ⟨fun b o n e _ => by
    have nb : b ≠ D := fun z => n (by rw [z]; exact List.mem_cons_self)
    rw [upd_ne nb]; exact e, fun b hb => .inl hb⟩
  have a := m.ok
  refine ⟨⟨tabs_updO a.tabs m.at' trivial, fun b eb => ⟨(a.cup b eb).1, ?_⟩, fun b hb => ?_, a.sub, fun b o n e t => ?_⟩, m.st.trans st5, fun b o n c e t => by rw [upd_ne n]; exact m.all b o n c e t, upd_same, (m.dk.put hk r).mono st5.mono⟩
  · obtain ⟨g, sd, z1, z2⟩ := (a.cup b eb).2
    have nb : b ≠ D := fun z => cD (by rw [eb, z])
    exact ⟨g, sd, by rw [upd_ne nb]; exact z1, z2⟩
  · rcases Decidable.em (b = D) with z | z
    · exact ⟨.dK (putK es (Sum.inr k) v), by rw [z, upd_same], trivial⟩
    · rw [upd_ne z]
      exact a.some b hb
  · have h1 := a.ext b o n e t
    have nb : b ≠ D := fun z => by
      obtain ⟨ps, w⟩ := fr o (z ▸ e)
      exact t ps w
    rw [upd_ne nb]
    exact h1
theorem MkD.sr {hid : List Addr} {H1 H' : Hp} {D : Addr} {es : List (Key × V)} {acc : List (Str × PyData)} {σ : L2.St} {ρ : Rho} (m : MkD C hid H1 D H' es acc) (o1 : HpOk C hid H1) (hD : H1 D = none) (s : SR C hid σ H1 ρ) : SR C (D :: hid) σ H' ρ :=
  ⟨s.len, fun j z ej => by
    obtain ⟨v, h1, h2⟩ := s.at' j z ej
    refine ⟨v, h1, ?_⟩
    rcases own_dec z with no | no
    · exact h2.free m.st.mono no
    · obtain ⟨a, u, rfl, e2, e3, e4, e5, e6⟩ := VR.owned no h2
      exact VR.own_of (List.mem_cons_of_mem _ e2) e3 e4 (m.all a u (fun z => by rw [z, hD] at e5; cases e5) e3 e5 e6.ow.2.2) (e6.mono m.st.mono)⟩
theorem of_strR {x : Dv} {q : Str → Prop} (h : wp (strR x) q er) : ∃ z, x = .d (.str z) ∧ q z := by
  unfold strR at h
  split at h
  · exact ⟨_, rfl, h⟩
  · exact h.elim
theorem dc_imp {i : CI} {g : CG} {t : CT} {kx vx : CE} {vs : List Nat} (σ : L2.St) (H : Hp) (Q : VK) : tE C (up er (cDc i g t kx vx vs)) σ H Q →
    tDc (tI C (up er i)) (tG C vs (upG er g)) (tT C (up er t)) (tE C (up er kx)) (tE C (up er vx)) vs σ H Q := by
  rintro ⟨hid, ρ, q, hp, sr, a0, k⟩
  unfold up cDc at a0
  rw [wp_bind] at a0
  refine ⟨hid, ρ, _, hp, sr, a0, fun J ds H1 e1 o1 wd a1 D hD => ?_⟩
  obtain ⟨c1, a1⟩ := chk_wp a1
  have c1 := of_decide_eq_true c1
  rw [wp_bind] at a1
  obtain ⟨Gp, Y, walk, hG, hY⟩ := wd.ex
  have cD : C.c ≠ some D := fun z => o1.nn D (o1.cup D z).1 hD
  have nD : D ∉ C.hid0 ∧ D ∉ hid := ⟨fun z => o1.nn D (o1.sub D z) hD, fun z => o1.nn D z hD⟩
  have sr1 : SR C hid σ H1 ρ := sr.ext e1 hp
  let P : Nat → Hp → Prop := fun n H' => ∃ es acc, MkD C hid H1 D H' es acc ∧ acc.length + (ds.length - n) ≤ 1000000 ∧ wp (dcR g t kx vx (wipeR ρ vs) (ds.drop n) acc) (fun l => q (.dc l)) er
  refine ⟨fun n m H' => m = ds.length - n ∧ n ≤ ds.length ∧ P n H', ⟨_, rfl, Nat.zero_le _, [], [], .start o1 hD, by show 0 + _ ≤ _; omega, a1⟩, ?_⟩
  rintro n m H' ⟨rfl, hn, es, acc, mk, bd, go⟩
  have hg := hG _ _ mk.st
  rcases Nat.lt_or_ge n ds.length with lt | ge
  · refine .inr ⟨walk.goes n H' lt hg, P (n + 1), fun H2 p => ⟨_, (by omega : ds.length - (n + 1) < ds.length - n), rfl, lt, p⟩, fun x H'' y => ?_⟩
    obtain ⟨x', ex, hy, dd⟩ := hY n _ H' x H'' lt mk.st mk.ok (walk.yields n H' x H'' lt hg y)
    obtain ⟨e2, o2⟩ := yld_ok mk.ok hy
    rw [drop_at ex] at go
    unfold dcR at go
    rw [wp_bind] at go
    have mk2 := mk.step cD e2 o2
    refine ⟨D :: hid, wipeR ρ vs, .d x', _, o2, sr_wipe (mk2.sr o1 hD sr1) vs, dd, go, fun σ3 ρ3 sr3 _ w3 g3 => ⟨w3.trans (wipe_idem σ vs), ?_⟩⟩
    rw [wp_bind] at g3
    refine ⟨D :: hid, ρ3, _, o2, sr3, g3, fun b H3 e3 o3 g4 => ?_⟩
    have mk3 := mk2.step cD e3 o3
    cases b with
    | false => exact ⟨es, acc, mk3, by omega, g4⟩
    | true =>
      have g4 : wp (R.bind _ _) _ er := g4
      rw [wp_bind] at g4
      have sr4 := sr3.ext e3 o2
      refine ⟨D :: hid, ρ3, _, o3, sr4, g4, fun v z H4 e4 o4 r4 g5 => ?_⟩
      rw [wp_bind] at g5
      obtain ⟨kk, ez, g7⟩ := of_strR g5
      subst ez
      rw [wp_bind] at g7
      refine ⟨D :: hid, ρ3, _, o4, sr4.ext e4 o3, g7, fun v2 z2 H5 e5 o5 r5 g6 => ?_⟩
      rw [wp_bind] at g6
      obtain ⟨d, ed, g8⟩ := of_onD (dR_wp g6)
      subst ed
      have mk5 := (mk3.step cD e4 o4).step cD e5 o5
      cases r4 with
      | str _ hk =>
        have ln := putD_len acc kk d
        exact ⟨es, Sum.inr kk, rfl, mk5.at', by rw [mk5.dk.len]; exact Nat.lt_of_le_of_lt (show acc.length ≤ 1000000 by omega) (by decide), _, _, mk5.put cD o1 hD hk r5, by omega, g8⟩
  · have e : n = ds.length := by omega
    subst e
    rw [List.drop_length] at go
    refine .inl ⟨walk.stops H' hg, k (.ref D) (.dc acc) H' (fun b o c e t => ?_) (mk.ok.drop cD nD.1) ⟨D, es, rfl, hide_of nD.2 mk.at', mk.dk.mono fun b o e _ => ?_⟩ go⟩
    · have he := e1 b o c e t
      exact mk.all b o (fun z => by rw [z, hD] at he; cases he) c he t
    · obtain ⟨k1, k2⟩ := hide_some e
      exact hide_of (fun z => k1 (List.mem_cons_of_mem _ z)) k2
theorem fe_dc {kx vx tg iter : Expr} {ifs : List Expr} {scope : Scope} {own : List (Str × Nat)} {pos : Pos} {I : CI} {G : CG} {T : CT} {A B : CE} {k : Nat} (l : Lv0 X C k) (hi : PI X tg iter (tI C (up er I))) (ok : BlkOk X.N X.env.scope scope own)
    (hg : ∀ (s : Shared) (H : Hp) (c : Addr) (cl : List (Str × Addr)) (fp : List Addr), Lv0 (X.blk s H scope (compEnvC scope cl c X.env) fp) C k → PG (X.blk s H scope (compEnvC scope cl c X.env) fp) tg (tG C (own.map (·.2)) (upG er G)))
    (ht : ∀ (s : Shared) (H : Hp) (c : Addr) (cl : List (Str × Addr)) (fp : List Addr), Lv0 (X.blk s H scope (compEnvC scope cl c X.env) fp) C k → PTs (X.blk s H scope (compEnvC scope cl c X.env) fp) ifs (tT C (up er T)))
    (hk : ∀ (s : Shared) (H : Hp) (c : Addr) (cl : List (Str × Addr)) (fp : List Addr), Lv0 (X.blk s H scope (compEnvC scope cl c X.env) fp) C k → PE (X.blk s H scope (compEnvC scope cl c X.env) fp) kx (tE C (up er A)))
    (hv : ∀ (s : Shared) (H : Hp) (c : Addr) (cl : List (Str × Addr)) (fp : List Addr), Lv0 (X.blk s H scope (compEnvC scope cl c X.env) fp) C k → PE (X.blk s H scope (compEnvC scope cl c X.env) fp) vx (tE C (up er B))) (hs : ∀ x, foldedSetIterable iter X.env x = pure x := by intro _; rfl) :
    PE X (.DictComp kx vx [⟨tg, iter, ifs, 0⟩] scope pos) (tE C (up er (cDc I G T A B (own.map (·.2))))) :=
  (pe_dc l.calm l.nd hi ok (fun s H c cl fp => hg s H c cl fp l.blk) (fun s H c cl fp => ht s H c cl fp l.blk) (fun s H c cl fp => hk s H c cl fp l.blk) (fun s H c cl fp => hv s H c cl fp l.blk) hs).imp dc_imp
end
end Fl

set_option Elab.async false
set_option linter.all false
set_option maxRecDepth 100000
set_option maxHeartbeats 1000000
/-! k in d, d.get(k), d.get(k, a), continue -/
namespace Fl
open PySem PySem.Spec PyProof.Rows L2 Dl R
noncomputable section
def cCont (ρ : Rho) : R Out := ok (.ct ρ)
def dinD (f : Bool → Bool) (x y : Dv) (q : Dv → Prop) : Prop := ∃ k kvs, x = .d (.str k) ∧ dictOf y = some kvs ∧ q (.d (.bool (f (dHas kvs k))))
abbrev isinDC := dinC fun b => b
abbrev notInDC := dinC not
/-- d.get(k) -/
def cGet1 (a b : CE) (ρ : Rho) : R Dv := (a ρ).bind fun x => match dictOf x with
  | some kvs => (b ρ).bind fun y => (strR y).bind fun k => ok (.d ((dGet kvs k).getD .none))
  | none => no
/-- d.get(k, a) -/
def cGet2 (a b c : CE) (ρ : Rho) : R Dv := (a ρ).bind fun x => match dictOf x with
  | some kvs => (b ρ).bind fun y => (strR y).bind fun k => (c ρ).bind fun z => (dR z).bind fun d => ok (.d ((dGet kvs k).getD d))
  | none => no
end
section
variable {X : Cx} {C : DC} {er : Str → Prop}
theorem fs_continue {pos : Pos} : PS X (.Continue pos) (tS C (upS er cCont)) := ps_continue.imp fun D σ H ⟨hid, ρ, d, so, s, e⟩ => e.ct hid σ H ρ so .refl s
theorem dinC_ok {f : Bool → Bool} (er : Str → Prop) (x y : Dv) (q : Dv → Prop) (h : wp (dinC f x y) q er) : dinD f x y q := by
  unfold dinC at h
  split at h
  · rename_i k kvs e
    exact ⟨k, kvs, rfl, e, h⟩
  · exact h.elim
theorem din_gen {op : CmpOp} {f : Bool → Bool} (h : ∀ (pins : List (Addr × Obj)) (s : Shared) (σ : L2.St) (H : Hp) (a : Addr) (y : V) (u : Value) (o : Option V) (Q : Value → Shared → Prop), Inv X pins σ H s → DGet H a y o → RelV y u → (∀ s', Inv X pins σ H s' → Q (.bool (f o.isSome)) s') → wpAny (model X.prog X.w) X.A (compareOp op u (.ref a)) Q X.xe s) :
    OpR X (compareOp op) (rD C (dinD f)) := by
  intro pins s σ H x y u1 u2 Q I rx ry ⟨hid, dx, dy, q, hp, r1, r2, ⟨k, kvs, e1, e2, h1⟩, kk⟩
  subst e1
  obtain ⟨p, es, rfl, hH, dk⟩ := VR.dict e2 r2
  cases r1
  cases ry
  have e : (valV es (Sum.inr k : Key)).isSome = dHas kvs k := by rw [← valV_any, dk.has]
  refine h pins s σ H p _ u1 _ _ I (DGet.k (k := Sum.inr k) hH) rx fun s' I' => ⟨.bl (f (dHas kvs k)), H, I', by rw [e]; rfl, kk _ (.d (.bool _)) H .refl hp (Dd.bl _) h1⟩
theorem din_in {k : Nat} (l : Lv0 X C k) : OpR X (compareOp .In) (rD C (dinD fun b => b)) := din_gen fun _ _ _ _ _ _ _ _ _ I g r h => d_in (by have := l.room.un; omega) I g r h
theorem din_notIn {k : Nat} (l : Lv0 X C k) : OpR X (compareOp .NotIn) (rD C (dinD not)) := din_gen fun _ _ _ _ _ _ _ _ _ I g r h => d_notIn (by have := l.room.un; omega) I g r h
theorem fe_get1 {o e : Expr} {A B : CE} {k : Nat} {apos cpos : Pos} (l : Lv0 X C k) (ho : PE X o (tE C (up er A))) (he : PE X e (tE C (up er B))) (m : M1 X o "get" apos e cpos := by exact ⟨rfl, rfl, rfl, rfl⟩) : PE X (.Call (.Attribute o "get" apos) [e] [] cpos) (tE C (up er (cGet1 A B))) :=
  (pe_dget1 (by have := l.room.un; omega) ho he m).imp fun σ H Q ⟨hid, ρ, q, hp, sr, a, kk⟩ => by
    unfold up cGet1 at a
    rw [wp_bind] at a
    refine ⟨hid, ρ, _, hp, sr, a, fun v x H1 e1 o1 r1 a1 => ?_⟩
    split at a1
    · rename_i kvs ek
      obtain ⟨p, es, rfl, hH, dk⟩ := VR.dict ek r1
      rw [wp_bind] at a1
      refine ⟨p, rfl, .inl ⟨es, .inl hH⟩, hid, ρ, _, o1, sr.ext e1 hp, a1, fun w y H2 e2 o2 r2 a2 => ?_⟩
      rw [wp_bind] at a2
      obtain ⟨z, ez, a3⟩ := of_strR a2
      subst ez
      obtain ⟨p2, es2, ep, hH2, dk2⟩ := VR.dict ek (r1.ext e2 o1)
      cases ep
      cases r2
      refine ⟨_, DGet.k (k := Sum.inr z) hH2, ?_⟩
      cases ed : dGet kvs z with
      | none =>
        rw [dk2.get.2 ed]
        rw [ed] at a3
        exact kk .non (.d .none) H2 (e1.trans e2) o2 Dd.non a3
      | some d =>
        obtain ⟨u, eu, dd⟩ := dk2.get.1 d ed
        rw [eu]
        rw [ed] at a3
        exact kk u (.d d) H2 (e1.trans e2) o2 dd a3
    · exact a1.elim
theorem fe_get2 {o e f : Expr} {A B D : CE} {k : Nat} {apos cpos : Pos} (l : Lv0 X C k) (ho : PE X o (tE C (up er A))) (he : PE X e (tE C (up er B))) (hf : PE X f (tE C (up er D))) (m : M2 X o "get" apos e f cpos := by exact ⟨rfl, rfl, rfl, rfl⟩) : PE X (.Call (.Attribute o "get" apos) [e, f] [] cpos) (tE C (up er (cGet2 A B D))) :=
  (pe_dget2 (by have := l.room.un; omega) ho he hf m).imp fun σ H Q ⟨hid, ρ, q, hp, sr, a, kk⟩ => by
    unfold up cGet2 at a
    rw [wp_bind] at a
    refine ⟨hid, ρ, _, hp, sr, a, fun v x H1 e1 o1 r1 a1 => ?_⟩
    split at a1
    · rename_i kvs ek
      obtain ⟨p, es, rfl, hH, dk⟩ := VR.dict ek r1
      rw [wp_bind] at a1
      have sr1 := sr.ext e1 hp
      refine ⟨p, rfl, .inl ⟨es, .inl hH⟩, hid, ρ, _, o1, sr1, a1, fun w y H2 e2 o2 r2 a2 => ?_⟩
      rw [wp_bind] at a2
      obtain ⟨z, ez, a3⟩ := of_strR a2
      subst ez
      rw [wp_bind] at a3
      refine ⟨hid, ρ, _, o2, sr1.ext e2 o1, a3, fun u x3 H3 e3 o3 r3 a4 => ?_⟩
      rw [wp_bind] at a4
      obtain ⟨d0, ed0, a5⟩ := of_onD (dR_wp a4)
      subst ed0
      obtain ⟨p2, es2, ep, hH2, dk2⟩ := VR.dict ek ((r1.ext e2 o1).ext e3 o2)
      cases ep
      cases r2
      refine ⟨_, DGet.k (k := Sum.inr z) hH2, ?_⟩
      have eF := (e1.trans e2).trans e3
      cases ed : dGet kvs z with
      | none =>
        rw [dk2.get.2 ed]
        rw [ed] at a5
        exact kk u (.d d0) H3 eF o3 r3 a5
      | some d =>
        obtain ⟨u2, eu, dd⟩ := dk2.get.1 d ed
        rw [eu]
        rw [ed] at a5
        exact kk u2 (.d d) H3 eF o3 dd a5
    · exact a1.elim
end
end Fl

set_option Elab.async false
set_option linter.all false
set_option maxRecDepth 100000
set_option maxHeartbeats 1000000
/-! y = x.pop(), x a list of one's own -/
namespace Fl
open PySem PySem.Spec PyProof.Rows L2 Dl R
noncomputable section
def cPop (i j : Nat) (ρ : Rho) : R Out := match ρ[i]? with
  | some (some (.own xs)) => match xs.getLast? with
    | some d => ok (.nx ((ρ.set i (some (.own xs.dropLast))).set j (some (.d d))))
    | none => no
  | _ => no
end
section
variable {X : Cx} {C : DC} {er : Str → Prop}
theorem fs_pop {i j : Nat} {x y : Str} {k : Nat} {npos apos cpos pos' pos : Pos} (l : Lv0 X C k) (hv : PE X (.Name x npos) (tVar i)) (hj : X.N[j]? = some y) (hl : L2.Loc X.env.scope y)
    (hb : attributeBase (.Name x npos) "pop" X.env (eval (.Name x npos) X.env) = eval (.Name x npos) X.env := by rfl) (hline : (apos.endLine == cpos.line) = true := by rfl)
    (hs : swapsWith (.Call (.Attribute (.Name x npos) "pop" apos) [] [] cpos) (some (.Name y pos')) pos.line X.env = pure false := by rfl)
    (hf : X.fn y = true ∨ X.env.scope.names.lookup y = some .local := by first | exact Or.inl rfl | exact Or.inr rfl) : PS X (.Assign [.Name y pos'] (.Call (.Attribute (.Name x npos) "pop" apos) [] [] cpos) pos) (tS C (upS er (cPop i j))) :=
  (ps_set l.nd hj hl (pe_bm0 PySem.F.plainAttrs_list PySem.F.slot_list_pop PySem.F.type_list_pop mt_pop hv hb hline) hs hf).imp fun D σ H ⟨hid, ρ, d, so, s, en⟩ => by
    unfold upS cPop at s
    split at s
    · rename_i xs ei
      obtain ⟨v0, hσ, p, ws, rfl, m1, m2, m3, m4, m5⟩ := so.sr.at' i _ ei
      split at s
      · rename_i d0 ed
        rw [List.getLast?_eq_getElem?] at ed
        obtain ⟨v, ev, dd⟩ := m5.to ed
        rw [← m5.len] at ev
        have m6 : DdAll C.K (hide hid H) ws.dropLast xs.dropLast := by
          rw [List.dropLast_eq_take, List.dropLast_eq_take, m5.len]
          exact m5.take _
        obtain ⟨s2, s3⟩ := StOk.putOw so (y := .own xs.dropLast) ei (fun z => z) hσ m1 m2 m3 m4 (.lst m6)
        exact ⟨_, hσ, .inl ⟨rfl, _, SqL.of m4⟩, p, ws, v, rfl, rfl, m4, ev, en.nx _ _ _ _ (s2.set (x := .d d0) (Dd.mono s3.mono _ _ dd) trivial j) s3 s⟩
      · exact s.elim
    · exact s.elim
end
end Fl

set_option Elab.async false
set_option linter.all false
set_option maxRecDepth 100000
set_option maxHeartbeats 1000000
/-! while an exception is handled: iterators that come to their end -/
namespace Ho
open PySem PySem.Spec PyProof.Rows HotX
section
variable {prog : Program} {w : World} {A : Around} {E : Value → Shared → Prop} {s : Shared} {x1 : Addr}
theorem hot_keep {h h' : Heap} (hot : HotAt A x1 h) (k : ∀ o, h.get? x1 = some o → h'.get? x1 = some o) : HotAt A x1 h' := by
  obtain ⟨a, o, vs, b, c, d⟩ := hot
  exact ⟨a, o, vs, k o b, c, d⟩
/-- StopIteration is raised -/
theorem stop_hot {α : Type} {Q : α → Shared → Prop} (hot : HotAt A x1 s.heap) (hE : ∀ h' e, (∀ b o, s.heap.get? b = some o → h'.get? b = some o) → (∃ o, h'.get? e = some o ∧ o.cls = .type "StopIteration") → E (.ref e) { s with heap := h' }) :
    wpAny (model prog w) A (newExc (.type "StopIteration") [] >>= fun e => (raiseNew e : Sem α)) Q E s := by
  have lt : ∀ {h : Heap}, HotAt A x1 h → x1 < h.objs.size := fun ⟨_, o, _, b, _⟩ => Heap.lt_size b
  have up : ∀ {h : Heap} (u : Obj), HotAt A x1 h → HotAt A x1 (h.push u) := fun u k => hot_keep k fun o e => Heap.get?_push_of_some _ e
  refine wpAny_bind ?_
  simp only [newExc, newTuple]
  refine wpAny_bind (wpAny_newObj_type (wpAny_bind (m := firstArgMember _ _) (wpAny_of_eq (a := Value.none) (by first | rfl | (simp only [firstArgMember]; rfl)) (wpAny_newObj_type ?_ (by size_fits)))) (by size_fits))
  refine raiseNew_hot (up _ (up _ hot)) (Nat.ne_of_lt (lt (up _ hot))) (Heap.get?_push_size _ rfl) rfl (by first | (simp; done) | (simp; omega) | (simp only [Array.size_append]; simp; omega)) (hE _ _ (fun b o e => ?_) ⟨_, Heap.get?_update_self _ (Heap.get?_push_size _ rfl) rfl, rfl⟩)
  exact (Heap.get?_update_other _ _ (Nat.ne_of_gt (Heap.lt_size (Heap.get?_push_of_some _ e)))).trans (Heap.get?_push_of_some _ (Heap.get?_push_of_some _ e))
/-- a list's iterator at its end -/
theorem list_end_hot {it l : Addr} {i : Nat} {items : Array Value} {Q : Value → Shared → Prop} (hot : HotAt A x1 s.heap) (hx : x1 ≠ it) (hit : s.heap.IsListIter it l i) (hl : s.heap.IsList l items) (hn : items[i]? = none)
    (hE : ∀ h' e, Heap.ExtBut it s.heap h' → (∃ o, h'.get? e = some o ∧ o.cls = .type "StopIteration") → E (.ref e) { s with heap := h' }) : wpAny (model prog w) A (Builtin.SmallTypes.nextOf (.ref it)) Q E s := by
  obtain ⟨o, ho, hc, hd⟩ := id hit
  obtain ⟨ol, hol, _, nl, hdl⟩ := hl
  have ne : ¬ ((Value.ref l == Value.none) = true) := Bool.false_ne_true
  unfold Builtin.SmallTypes.nextOf
  refine wpAny_bind (wpAny_callSpecial?_slot (name := Str.ofString "__next__") hit.typeIs slot_listiter_next (wpAny_call_entry slot_listiter_next hit.typeIs entry_listiter_next ?_ (args_listiter_next _)))
  refine wpAny_bind (m := field (.ref it) 0) (wpAny_field ho hd (x := .ref l) rfl ?_); rw [if_neg ne]
  refine wpAny_bind (m := field (.ref it) 1) (wpAny_field ho hd (x := .int i 0) rfl (wpAny_bind (wpAny_seqItems hol hdl ?_)))
  simp only [Int.toNat_natCast, hn]
  refine wpAny_bind (wpAny_rule (wpAny_bind (wpAny_setField ho hd (by simp) (stop_hot (x1 := x1) (hot_keep (A := A.in1) hot fun u e => ?_) fun h' e k z => hE h' e (fun b u nb q => k b u ?_) z))))
  · exact (Heap.get?_update_other _ _ hx.symm).trans e
  · exact (Heap.get?_update_other _ _ (Ne.symm nb)).trans q
/-- a tuple's iterator at its end -/
theorem tup_end_hot {it l : Addr} {i : Nat} {items : Array Value} {Q : Option Value → Shared → Prop} (hot : HotAt A x1 s.heap) (hx : x1 ≠ it) (hit : IsTupIter s.heap it l i) (hl : IsTup s.heap l items) (hn : items[i]? = none)
    (hQ : ∀ h', Heap.ExtBut it s.heap h' → Q none { s with heap := h' }) : wpAny (model prog w) A (pyNext (.ref it)) Q E s := by
  obtain ⟨o, ho, hc, hd⟩ := id hit
  obtain ⟨ol, hol, _, nl, hdl⟩ := hl
  have ne : ¬ ((Value.ref l == Value.none) = true) := Bool.false_ne_true
  unfold pyNext
  refine wpAny_bind (wpAny_attempt (wpAny_callSpecial?_slot (name := Str.ofString "__next__") hit.typeIs slot_tupleiter_next (wpAny_call_entry slot_tupleiter_next hit.typeIs entry_tupleiter_next ?_ (args_tupleiter_next _))))
  refine wpAny_bind (m := field (.ref it) 0) (wpAny_field ho hd (x := .ref l) rfl ?_); rw [if_neg ne]
  refine wpAny_bind (m := field (.ref it) 1) (wpAny_field ho hd (x := .int i 0) rfl (wpAny_bind (wpAny_seqItems hol hdl ?_)))
  simp only [Int.toNat_natCast, hn]
  refine wpAny_bind (wpAny_rule (wpAny_bind (wpAny_setField ho hd (by simp) (stop_hot (x1 := x1) (hot_keep (A := A.in1) hot fun u e => ?_) fun h' e k ⟨oe, z1, z2⟩ => ?_))))
  · exact (Heap.get?_update_other _ _ hx.symm).trans e
  · exact wpAny_bind (wpAny_isInstance (T := "StopIteration") (b := true) ⟨oe, z1, z2⟩ isSubtype_stop (wpAny_pure (hQ h' fun b u nb q => k b u ((Heap.get?_update_other _ _ (Ne.symm nb)).trans q))))
/-- (a, b, ..) = a tuple of that length -/
theorem unpack_hot {env : Env} {elts : List Expr} {k : Nat} {pos : Pos} {t : Addr} {items : Array Value} {Q : Unit → Shared → Prop} (hot : HotAt A x1 s.heap) (ht : IsTup s.heap t items) (hn : (assignEach elts env).length = items.size) (hstar : (assignEach elts env).findIdx? (·.1) = none)
    (h : ∀ h', Heap.ExtBut s.heap.objs.size s.heap h' → wpAny (model prog w) A (assignInOrder ((assignEach elts env).map (·.2)) items.toList) Q E { s with heap := h' }) : wpAny (model prog w) A (assign (.Tuple elts k pos) env (.ref t)) Q E s := by
  have lt : t ≠ s.heap.objs.size := by
    obtain ⟨o, ho, _⟩ := ht
    exact Nat.ne_of_lt (Heap.lt_size ho)
  have xlt : x1 ≠ s.heap.objs.size := by
    obtain ⟨_, o, _, b, _⟩ := hot
    exact Nat.ne_of_lt (Heap.lt_size b)
  rw [assign_Tuple]
  refine wpAny_bind (wpAny_standAt ?_)
  unfold unpack
  rw [hn, hstar]
  refine wpAny_bind (wpAny_holding ?_)
  unfold unpackItems
  refine wpAny_bind ?_
  unfold notIterableAtAll
  refine wpAny_bind (wpAny_specialOf ht.typeIs slot_tuple_iter.lookup (wpAny_pure ?_))
  simp only [Bool.false_eq_true, if_false]
  refine wpAny_bind (wpAny_holding (iter_tuple ht (wpAny_bind (wpAny_holding (draw_tuple lt items.size 0 _ _ ⟨_, Heap.get?_push_size _ rfl, rfl, rfl⟩ (ht.push _) (by omega) fun h1 i1 s1 => ?_)))))
  have all : List.take items.size (List.drop 0 items.toList) = items.toList := by
    rw [List.drop_zero]
    exact List.take_of_length_le (by simp)
  rw [all, if_neg (by simp)]
  refine wpAny_bind (wpAny_holding (tup_end_hot (x1 := x1) (hot_keep hot fun o e => s1.extBut _ _ xlt (Heap.get?_push_of_some _ e)) xlt i1 ((ht.push _).extBut s1.extBut lt) (by simp) fun h2 e2 => ?_))
  simp only [Option.isSome_none, Bool.false_eq_true, if_false]
  exact wpAny_pure (h h2 fun b o hb e => e2 b o hb (s1.extBut b o hb (Heap.get?_push_of_some _ e)))
end
/-- a list as what zip draws from -/
theorem drawsH {prog : Program} {w : World} {A : Around} {x1 : Addr} {o1 : Obj} {v1 : Array Value} (hh : A.handled = some (.ref x1)) (d1 : o1.data = .fields v1) (c1 : v1[2]? = some .none) (it l : Addr) (hne : l ≠ it) (hx : x1 ≠ it) (items : Array Value) :
    Draws prog w A it [it, l, x1] items.size (fun i v => items[i]? = some v) (fun i h => h.IsListIter it l i ∧ h.IsList l items ∧ h.get? x1 = some o1) where
  live := fun _ _ st => let ⟨o, ho, _⟩ := st.1; ⟨o, ho⟩
  frame := fun _ _ _ st k => ⟨st.1.at fun o e => k it (by simp) o e, st.2.1.at fun o e => k l (by simp) o e, k x1 (by simp) _ st.2.2⟩
  item := fun i s Q E hi st hQ => wpAny_nextOf_list_item st.1 st.2.1 (x := items[i]) (by simp [hi]) fun h' i' s' =>
    hQ _ h' s.toks (by simp [hi]) ⟨i', st.2.1.extBut s'.extBut hne, s'.extBut _ _ hx st.2.2⟩ s'
  done := fun s Q E st hE => list_end_hot ⟨hh, o1, v1, st.2.2, d1, c1⟩ hx st.1 st.2.1 (by simp) hE
end Ho

set_option Elab.async false
set_option linter.all false
set_option maxRecDepth 100000
set_option maxHeartbeats 1000000
/-! while an exception is handled: zip of two lists, tuples as targets, list comprehensions -/
namespace Ho
open PySem PySem.Spec PyProof.Rows HotX L2
section
variable {prog : Program} {w : World} {A : Around} {E : Value → Shared → Prop} {s : Shared} {x1 : Addr}
/-- zip at its end -/
theorem zip_end_hot {z TI TO i1 i2 l1 l2 : Addr} {k1 k2 : Nat} {xs ys : Array Value} {a b : Value} {Q : Option Value → Shared → Prop} (hot : HotAt A x1 s.heap) (D : ZipApart z TI TO i1 i2 l1 l2) (nx : x1 ≠ z ∧ x1 ≠ TO ∧ x1 ≠ i1 ∧ x1 ≠ i2)
    (hz : IsZip s.heap z TI TO .none) (hTI : IsPair s.heap TI (.ref i1) (.ref i2)) (hTO : IsPair s.heap TO a b) (h1 : s.heap.IsListIter i1 l1 k1) (h2 : s.heap.IsListIter i2 l2 k2) (hl1 : s.heap.IsList l1 xs) (hl2 : s.heap.IsList l2 ys) (hend : xs[k1]? = none ∨ ys[k2]? = none)
    (hQ : ∀ h', (∀ c o, c ≠ z → c ≠ TO → c ≠ i1 → c ≠ i2 → s.heap.get? c = some o → h'.get? c = some o) → Q none { s with heap := h' }) : wpAny (model prog w) A (pyNext (.ref z)) Q E s := by
  obtain ⟨nz, nT, n1, n2⟩ := nx
  have hT : s.TypeIs (.ref z) "zip" := ⟨_, hz, rfl⟩
  unfold pyNext
  refine wpAny_bind (wpAny_attempt (wpAny_callSpecial?_slot (name := Str.ofString "__next__") hT F.slot_zip_next (wpAny_call_entry F.slot_zip_next hT F.entry_zip_next ?_ (F.args_zip_next_1 _))))
  refine wpAny_bind (m := field (.ref z) 2) (wpAny_field hz rfl (x := .bool false) rfl ?_)
  refine wpAny_bind (m := field (.ref z) 3) (wpAny_field hz rfl (x := .ref TI) rfl (wpAny_bind (wpAny_seqItems hTI rfl ?_)))
  refine wpAny_bind (m := Builtin.SmallTypes.ownedTupleIsFree (.ref z)) ?_
  unfold Builtin.SmallTypes.ownedTupleIsFree
  refine wpAny_bind (wpAny_field hz rfl (x := .none) rfl (wpAny_pure ?_)); simp only [if_true]
  refine wpAny_bind (wpAny_rule (wpAny_bind (wpAny_field hz rfl (x := .ref TO) rfl (wpAny_bind (wpAny_setField_rec hz (by simp) fun g1 z1 s1 => ?_)))))
  replace z1 : IsZip g1 z TI TO .ellipsis := z1
  refine wpAny_bind ?_; simp only [List.zipIdx_cons, List.zipIdx_nil, List.forIn_cons, List.forIn_nil]
  refine wpAny_bind (wpAny_bind (wpAny_onRaise (wpAny_bind (m := Builtin.SmallTypes.nextOf (.ref i1)) ?_)))
  have out : ∀ {h : Heap} {e : Addr}, IsZip h z TI TO .ellipsis → (∃ o, h.get? e = some o ∧ o.cls = .type "StopIteration") → e ≠ z := fun zz ⟨oe, h3, h4⟩ q => by
    rw [q, zz] at h3
    cases h3
    simp at h4
  cases hx : xs[k1]? with
  | none =>
    refine list_end_hot (x1 := x1) (hot_keep (A := A.in1) hot fun o e => s1.extBut _ _ nz e) n1 (h1.extBut s1.extBut D.i1z) (hl1.extBut s1.extBut D.l1z) hx fun g2 e s2 he => ?_
    have z2 : IsZip g2 z TI TO .ellipsis := s2 _ _ D.i1z.symm z1
    refine wpAny_setField_rec z2 (by simp) fun g3 _ s3 => ?_
    obtain ⟨oe, p1, p2⟩ := id he
    exact wpAny_bind (wpAny_isInstance (T := "StopIteration") (b := true) ⟨oe, s3.extBut _ _ (out z2 he) p1, p2⟩ isSubtype_stop (wpAny_pure (hQ g3 fun c o c1 _ c3 _ q => s3.extBut _ _ c1 (s2 _ _ c3 (s1.extBut _ _ c1 q)))))
  | some x =>
    have hy : ys[k2]? = none := hend.resolve_left (by rw [hx]; exact fun q => by cases q)
    refine wpAny_nextOf_list_item (h1.extBut s1.extBut D.i1z) (hl1.extBut s1.extBut D.l1z) hx fun g2 i2' s2 => wpAny_pure ?_
    have t2 : IsPair g2 TO a b := s2.extBut _ _ D.TOi1 (s1.extBut _ _ D.TOz hTO)
    refine wpAny_bind (wpAny_seqItems t2 rfl (wpAny_bind (wpAny_updateSeq_pair t2 fun g3 t3 s3 => wpAny_bind (wpAny_letGo (wpAny_pure ?_)))))
    refine wpAny_bind (wpAny_bind (wpAny_onRaise (wpAny_bind (m := Builtin.SmallTypes.nextOf (.ref i2)) ?_)))
    refine list_end_hot (x1 := x1) (hot_keep (A := A.in1) hot fun o e => s3.extBut _ _ nT (s2.extBut _ _ n1 (s1.extBut _ _ nz e))) n2 (((h2.extBut s1.extBut D.i2z).extBut s2.extBut D.i12.symm).extBut s3.extBut D.TOi2.symm) (((hl2.extBut s1.extBut D.l2z).extBut s2.extBut D.l2i1).extBut s3.extBut D.l2TO) hy fun g4 e s4 he => ?_
    have z4 : IsZip g4 z TI TO .ellipsis := s4 _ _ D.i2z.symm (s3.extBut _ _ D.TOz.symm (s2.extBut _ _ D.i1z.symm z1))
    refine wpAny_setField_rec z4 (by simp) fun g5 _ s5 => ?_
    obtain ⟨oe, p1, p2⟩ := id he
    exact wpAny_bind (wpAny_isInstance (T := "StopIteration") (b := true) ⟨oe, s5.extBut _ _ (out z4 he) p1, p2⟩ isSubtype_stop (wpAny_pure (hQ g5 fun c o c1 c2 c3 c4 q => s5.extBut _ _ c1 (s4 _ _ c4 (s3.extBut _ _ c2 (s2.extBut _ _ c3 (s1.extBut _ _ c1 q)))))))
end
end Ho

set_option Elab.async false
set_option linter.all false
set_option maxRecDepth 100000
set_option maxHeartbeats 1000000
namespace Ho
open PySem PySem.Spec PyProof.Rows HotX L2
/-- the context handles p, whose context is None, and bears it -/
structure HotP (X : Cx) (p : Addr × Obj) : Prop where
  hot : L2H.Hot1 X.A p
  mem : p ∈ X.pn
theorem HotP.at {X : Cx} {p : Addr × Obj} {pins : List (Addr × Obj)} {σ : L2.St} {H : Hp} {s : Shared} (c : HotP X p) (I : Inv X pins σ H s) : HotAt X.A p.1 s.heap := by
  obtain ⟨h, vs, d, n⟩ := c.hot
  exact ⟨h, p.2, vs, (I.pin p (List.mem_append_left _ c.mem)).1, d, n⟩
/-- (a, b, ..) = a tuple of that length -/
theorem pg_tupH {X : Cx} {p : Addr × Obj} {es : List Expr} {k : Nat} {t : TGs} {n : Nat} {pos : Pos} (c : HotP X p) (h : PGs X es t) (hn : (assignEach es X.env).length = n := by rfl) (hst : (assignEach es X.env).findIdx? (·.1) = none := by rfl) : PG X (.Tuple es k pos) (gTup X.K n t) := by
  refine ⟨fun pins s σ H v u Q I r ⟨a, xs, e1, hq, hl, hw⟩ => ?_⟩
  subst e1
  obtain rfl : u = Value.ref a := r
  obtain ⟨its, rv, ht, _⟩ := I.tuple hq
  refine unpack_hot (c.at I) ht (by simp [hn, ← hl, rv.length]) hst fun h1 hx => ?_
  exact h.run pins _ σ H xs _ Q (I.kept (t' := s.toks) fun b o e => hx b o (Nat.ne_of_lt (Heap.lt_size e)) e) (by simpa using rv) hw
/-- an iterator, turn by turn, where p is handled -/
structure TurnP (p : Addr × Obj) (P : Program) (w : World) (K : PySem.W.Frag) (tg : Expr) (J : It) (fp : List Addr) (it : Addr) (tn : Nat → Heap → Prop) : Prop where
  obj : ∀ i h, tn i h → ∀ b ∈ fp, ∃ o, h.get? b = some o ∧ ∀ v, o.data ≠ .cell v
  keep : ∀ i h h', tn i h → (∀ b ∈ fp, ∀ o, h.get? b = some o → h'.get? b = some o) → tn i h'
  item : ∀ (X : Cx), X.prog = P → X.w = w → X.K = K → HotP X p → ∀ (i : Nat) (pins : List (Addr × Obj)) (s : Shared) (σ : L2.St) (H : Hp), Inv X pins σ H s → (∀ b ∈ fp, FpOk X pins H b) → tn i s.heap → J.go i H →
    wpAny (model P w) X.A (pyNext (.ref it)) (fun r s1 => ∃ u, r = some u ∧ wpAny (model P w) X.A (letOwnedTupleGo tg (.ref it) u) (fun _ s2 => ∃ x H', Inv X pins σ H' s2 ∧ RelV x u ∧ J.yld i H x H' ∧ tn (i + 1) s2.heap ∧ ∀ b ∈ fp, H' b = none) (fun _ _ => False) s1) (fun _ _ => False) s
  done : ∀ (X : Cx), X.prog = P → X.w = w → X.K = K → HotP X p → ∀ (i : Nat) (pins : List (Addr × Obj)) (s : Shared) (σ : L2.St) (H : Hp), Inv X pins σ H s → (∀ b ∈ fp, FpOk X pins H b) → tn i s.heap → J.stop i H →
    wpAny (model P w) X.A (pyNext (.ref it)) (fun r s1 => r = none ∧ Inv X pins σ H s1) (fun _ _ => False) s
  self : ∀ (A : Around) (i : Nat) (s : Shared) (Q : Value → Shared → Prop) (E : Value → Shared → Prop), tn i s.heap → Q (.ref it) s → wpAny (model P w) A (pyIter (.ref it)) Q E s
theorem five {c a1 a2 a3 a4 a5 : Addr} (h : c ∈ [a1, a2, a3, a4, a5]) : c = a1 ∨ c = a2 ∨ c = a3 ∨ c = a4 ∨ c = a5 := by simpa using h
theorem five_le {n c : Nat} (h : c ∈ [n + 4, n + 2, n + 3, n, n + 1]) : n ≤ c := by
  simp only [List.mem_cons, List.not_mem_nil, or_false] at h
  omega
theorem turnP_zip {p : Addr × Obj} {P : Program} {w : World} {K : PySem.W.Frag} {elts : List Expr} {kk : Nat} {tpos : Pos} {a b z TI TO i1 i2 : Addr} (D : ZipApart z TI TO i1 i2 a b) :
    TurnP p P w K (.Tuple elts kk tpos) (Itz K a b) [z, TI, TO, i1, i2] z (fun i h => IsZip h z TI TO .none ∧ IsPair h TI (.ref i1) (.ref i2) ∧ (∃ x y, IsPair h TO x y) ∧ h.IsListIter i1 a i ∧ h.IsListIter i2 b i) where
  obj := fun i h ⟨hz, hT, ⟨x, y, hO⟩, ⟨o1, e1, _, d1⟩, ⟨o2, e2, _, d2⟩⟩ c hc => by
    rcases five hc with q | q | q | q | q <;> subst q
    · exact ⟨_, hz, fun v q => nomatch q⟩
    · exact ⟨_, hT, fun v q => nomatch q⟩
    · exact ⟨_, hO, fun v q => nomatch q⟩
    · exact ⟨o1, e1, fun v q => by rw [d1] at q; cases q⟩
    · exact ⟨o2, e2, fun v q => by rw [d2] at q; cases q⟩
  keep := fun i h h' ⟨hz, hT, ⟨x, y, hO⟩, h1, h2⟩ k => ⟨k z (by simp) _ hz, k TI (by simp) _ hT, ⟨x, y, k TO (by simp) _ hO⟩, h1.at fun o q => k i1 (by simp) o q, h2.at fun o q => k i2 (by simp) o q⟩
  item := by
    intro X hP hw hK _ i pins s σ H I hf ⟨hz, hT, ⟨x0, y0, hO⟩, h1, h2⟩ ⟨xs, ys, x, y, qx, qy, hx, hy⟩
    subst hP hw hK
    obtain ⟨us, ru, pu, _⟩ := I.list qx
    obtain ⟨ws, rw', pw', _⟩ := I.list qy
    obtain ⟨u, hu, r1⟩ := ru.get hx
    obtain ⟨v, hv, r2⟩ := rw'.get hy
    have zl : z < s.heap.objs.size := Heap.lt_size hz
    refine wpAny_pyNext_zip_item D hz hT hO h1 h2 pu.isList pw'.isList (x := u) (y := v) (by simpa using hu) (by simpa using hv) fun g zg Og g1 g2 Tg sz kp => ⟨_, rfl, wpAny_letOwnedTupleGo_zip (s := { s with heap := g }) zg fun f zf sb => ?_⟩
    have at' : f.get? s.heap.objs.size = some { cls := .type "tuple", data := .seq #[u, v] } := (sb.2 _ (Nat.ne_of_gt zl)).trans Tg
    have new : ObjOk X.prog X.w (upd H s.heap.objs.size (.tup [x, y])) f s.heap.objs.size (.tup [x, y]) := ⟨by show 2 ≤ sizeLine; decide, [u, v], .cons r1 (.cons r2 .nil), ⟨_, at', rfl, _, rfl⟩⟩
    have I1 : Inv X pins σ (upd H s.heap.objs.size (.tup [x, y])) { s with heap := f } := I.turnedNew (t' := s.toks) (ch := [z, TI, TO, i1, i2]) (fun c o hb q => (sb.2 c (fun e => hb (by simp [e]))).trans (kp c o (fun e => hb (by simp [e])) (fun e => hb (by simp [e])) (fun e => hb (by simp [e])) (fun e => hb (by simp [e])) q)) hf (Nat.le_refl _) new
    refine ⟨.ref s.heap.objs.size, _, I1, rfl, ⟨_, x, y, rfl, I.hok.fresh (Nat.le_refl _), rfl, fun l hl => by rw [I.list_inj hl qx]; exact hx, fun l hl => by rw [I.list_inj hl qy]; exact hy⟩,
      ⟨zf, (sb.2 _ D.TIz).trans (kp _ _ D.TIz D.TITO D.TIi1 D.TIi2 hT), ⟨u, v, (sb.2 _ D.TOz).trans Og⟩, g1.at fun o q => (sb.2 _ D.i1z).trans q, g2.at fun o q => (sb.2 _ D.i2z).trans q⟩, fun c hc => ?_⟩
    have lt : c < s.heap.objs.size := by
      obtain ⟨_, l1, _⟩ := h1
      obtain ⟨_, l2, _⟩ := h2
      rcases five hc with q | q | q | q | q <;> subst q
      · exact zl
      · exact Heap.lt_size hT
      · exact Heap.lt_size hO
      · exact Heap.lt_size l1
      · exact Heap.lt_size l2
    exact (upd_ne (Nat.ne_of_lt lt)).trans (hf c hc).1
  done := by
    intro X hP hw hK hp i pins s σ H I hf ⟨hz, hT, ⟨x0, y0, hO⟩, h1, h2⟩ ⟨xs, ys, qx, qy, hend⟩
    subst hP hw hK
    obtain ⟨us, ru, pu, _⟩ := I.list qx
    obtain ⟨ws, rw', pw', _⟩ := I.list qy
    have l1 := ru.length
    have l2 := rw'.length
    have np : ∀ c ∈ [z, TI, TO, i1, i2], p.1 ≠ c := fun c hc => (hf c hc).2.2.2.2.2 p (List.mem_append_left _ hp.mem)
    refine zip_end_hot (hp.at I) D ⟨np z (by simp), np TO (by simp), np i1 (by simp), np i2 (by simp)⟩ hz hT hO h1 h2 pu.isList pw'.isList (hend.imp (fun q => by simp; omega) fun q => by simp; omega) fun g kp => ⟨rfl, ?_⟩
    exact I.turnedL (t' := s.toks) (ch := [z, TI, TO, i1, i2]) (fun c o hb q => kp c o (fun e => hb (by simp [e])) (fun e => hb (by simp [e])) (fun e => hb (by simp [e])) (fun e => hb (by simp [e])) q) hf
  self := fun A i s Q E st h => wpAny_pyIter_zip st.1 h
/-- an iterator has come -/
structure PIP (p : Addr × Obj) (X : Cx) (tg iter : Expr) (wi : TI) : Prop where
  run : ∀ (pins : List (Addr × Obj)) (s : Shared) (σ : L2.St) (H : Hp) (R : It → Hp → Prop), Inv X pins σ H s → wi σ H R → wpAny (model X.prog X.w) X.A (eval iter X.env) (fun v s1 => wpAny (model X.prog X.w) X.A (pyIter v) (fun itv s2 => ∃ (it : Addr) (fp : List Addr) (tn : Nat → Heap → Prop) (J : It) (H' : Hp),
    itv = .ref it ∧ Inv X pins σ H' s2 ∧ TurnP p X.prog X.w X.K tg J fp it tn ∧ tn 0 s2.heap ∧ (∀ b ∈ fp, FpOk X pins H' b) ∧ R J H') X.xe s1) X.xe s
theorem pip_zip {X : Cx} {p : Addr × Obj} {e e2 : Expr} {ta : TA} {np pos tpos : Pos} {elts : List Expr} {kk : Nat} (hg : Gl X "zip") (hm : X.mg "zip" = none) (ha : PA X [e, e2] ta) (hs : starEach [e, e2] X.env = (false, eval e X.env) :: starEach [e2] X.env := by rfl) (hpl : (backTo pos (starEach [e2] X.env)).any (·.1) = false := by rfl) :
    PIP p X (.Tuple elts kk tpos) (.Call (.Name "zip" np) [e, e2] [] pos) (iZip X.K ta) := by
  refine ⟨fun pins s σ H R I h => ?_⟩
  refine Call_ (ld_blt I hg hm PyProof.Rows.boot_zip (PyProof.Rows.callWith_type1 (thn (ha.run pos pins s σ H _ I h) fun us s1 h1 => ?_) hs hpl))
  obtain ⟨vs, H1, I1, r1, a, b, xs, ys, ex, qx, qy, q⟩ := h1
  subst ex
  cases r1 with
  | cons ra rr => cases rr with
    | cons rb rr =>
    cases rr
    cases ra
    cases rb
    obtain ⟨ua, _, pa, _⟩ := I1.list qx
    obtain ⟨ub, _, pb, _⟩ := I1.list qy
    have ap := PySem.W.ktu_apart s1.heap.objs.size a b pa.lt pb.lt
    refine call_zip_2 pa.isList pb.isList fun g hz hT hO h1 h2 sz kp => wpAny_pyIter_zip hz ?_
    have I2 : Inv X pins σ H1 { s1 with heap := g } := I1.kept (t' := s1.toks) kp
    refine ⟨s1.heap.objs.size + 4, [s1.heap.objs.size + 4, s1.heap.objs.size + 2, s1.heap.objs.size + 3, s1.heap.objs.size, s1.heap.objs.size + 1], _, _, H1, rfl, I2, turnP_zip ap, ⟨hz, hT, ⟨_, _, hO⟩, h1, h2⟩, fun c hc => ?_, q⟩
    have le := five_le hc
    exact I1.fpOk le (I1.hok.fresh le)
end Ho

set_option Elab.async false
set_option linter.all false
set_option maxRecDepth 100000
set_option maxHeartbeats 1000000
namespace Ho
open PySem PySem.Spec PyProof.Rows HotX L2
/-- the block's context where p is handled -/
abbrev blkP (X : Cx) (p : Addr × Obj) (s : Shared) (H : Hp) (scope : Scope) (ce : Env) (fp : List Addr) : Cx := (X.blk s H scope ce fp).tr [p] (fun _ _ => False)
section
variable {X : Cx} {p : Addr × Obj} {pins : List (Addr × Obj)} {σ : L2.St} {H : Hp} {s : Shared} {scope : Scope} {own : List (Str × Nat)}
/-- its start -/
theorem blk_start {fp : List Addr} (hp : HotP X p) (I : Inv X pins σ H s) (ok : BlkOk X.N X.env.scope scope own) (hN : X.N.Nodup) (hfp : ∀ b ∈ fp, FpOk X pins H b ∧ b < s.heap.objs.size) :
    Inv (blkP X p s H scope (compEnvC scope (cellsFrom (s.heap.objs.size + 1) scope.names (cloFrom X.env.cells scope.names [])) s.heap.objs.size X.env) fp) [] (wipe σ (own.map (·.2))) H { s with heap := pushCells (s.heap.push { cls := .type "dict", data := .dict #[] }) scope.names } := by
  obtain ⟨q1, q2, q3, q4, q5⟩ := I.pin p (List.mem_append_left _ hp.mem)
  refine ((block_start I ok hN hfp).pins_of (pins' := [p]) fun q hq => ?_).toTry _
  obtain rfl := List.mem_singleton.mp hq
  refine ⟨pushCells_keeps _ _ _ _ (Heap.get?_push_of_some _ q1), q2, Nat.ne_of_lt (Heap.lt_size q1), fun m => ?_, q5⟩
  exact (List.mem_cons.mp (I.stkSub _ m)).elim q3 q4
/-- [elt for tg in iter if ..] -/
theorem pe_lcH {elt tg iter : Expr} {ifs : List Expr} {pos : Pos} {wi : TI} {g : TG} {tt : TT} {te : TE} (hp : HotP X p) (hN : X.N.Nodup) (hi : PIP p X tg iter wi) (ok : BlkOk X.N X.env.scope scope own)
    (hg : ∀ (s : Shared) (H : Hp) (C : Addr) (cl : List (Str × Addr)) (fp : List Addr), PG (blkP X p s H scope (compEnvC scope cl C X.env) fp) tg g) (ht : ∀ (s : Shared) (H : Hp) (C : Addr) (cl : List (Str × Addr)) (fp : List Addr), PTs (blkP X p s H scope (compEnvC scope cl C X.env) fp) ifs tt)
    (he : ∀ (s : Shared) (H : Hp) (C : Addr) (cl : List (Str × Addr)) (fp : List Addr), PE (blkP X p s H scope (compEnvC scope cl C X.env) fp) elt te) (hs : ∀ x, foldedSetIterable iter X.env x = pure x := by intro _; rfl) :
    PE X (.ListComp elt [⟨tg, iter, ifs, 0⟩] scope pos) (tLc wi g tt te (own.map (·.2))) := by
  refine ⟨fun pins s σ H Q I h => ?_⟩
  rw [eval_ListComp]
  have free : ∀ y ∈ scope.names, y.2 = .free → ∃ c, X.env.cells.lookup y.1 = some c := fun y hy e => (ok.free y hy e).elim (fun k => I.ok.has _ (.inl k)) fun k => I.ok.has _ (.inr k)
  refine wpAny_comprehension_free (use := none) rfl hs (closure_ok free) ok.kind (fun y hy e => by rw [ok.uniq y hy, e]) (thn (hi.run pins s σ H _ I h) fun xv s1 hx => thn hx fun itv s2 h2 => ?_)
  obtain ⟨it, fp, tn, J, H2, e, I2, T, st2, f2, q⟩ := h2
  subst e
  refine wpAny_newObj_type (newEnv_comp ?_) (by show 0 ≤ sizeLine; decide)
  generalize eD : s2.heap.objs.size = D
  obtain ⟨W, ⟨m0, w0⟩, turn⟩ := q D (I2.hok.fresh (Nat.le_of_eq eD))
  generalize e3 : ({ s2 with heap := s2.heap.push { cls := .type "list", data := .seq ([] : List Value).toArray } } : Shared) = s3
  have p3 : s3.heap = s2.heap.push { cls := .type "list", data := .seq ([] : List Value).toArray } := by rw [← e3]
  have up3 : ∀ b o, s2.heap.get? b = some o → s3.heap.get? b = some o := fun b o z => by rw [p3]; exact Heap.get?_push_of_some _ z
  have I3 : Inv X pins σ (upd H2 D (.lst [])) s3 := by
    rw [← e3]
    refine I2.laid (t' := s2.toks) (fun b o z => Heap.get?_push_of_some _ z) (Nat.le_of_eq eD) ⟨Nat.zero_le _, [], 0, .nil, ?_⟩
    rw [← eD]
    exact Heap.get?_push_size _ rfl
  have lt2 : ∀ b ∈ fp, b < s2.heap.objs.size := fun b hb => let ⟨o, z, _⟩ := T.obj _ _ st2 b hb; Heap.lt_size z
  have f3 : ∀ b ∈ fp, FpOk X pins (upd H2 D (.lst [])) b ∧ b < s3.heap.objs.size := fun b hb =>
    ⟨⟨by rw [upd_ne (by rw [← eD]; exact Nat.ne_of_lt (lt2 b hb))]; exact (f2 b hb).1, (f2 b hb).2⟩, by rw [p3, Heap.size_push]; exact Nat.lt_succ_of_lt (lt2 b hb)⟩
  have I4 := blk_start (scope := scope) hp I3 ok hN f3
  generalize ecl : cellsFrom (s3.heap.objs.size + 1) scope.names (cloFrom X.env.cells scope.names []) = cl at I4
  have kg := hg s3 (upd H2 D (.lst [])) s3.heap.objs.size cl fp
  have kt := ht s3 (upd H2 D (.lst [])) s3.heap.objs.size cl fp
  have ke := he s3 (upd H2 D (.lst [])) s3.heap.objs.size cl fp
  subst ecl
  show codeAny _ _ (.compStart (.ListComp elt [⟨tg, iter, ifs, 0⟩] scope pos) 0 (.ref it) (.ref D) (compEnvC scope (cellsFrom (s3.heap.objs.size + 1) scope.names (cloFrom X.env.cells scope.names [])) s3.heap.objs.size X.env)) (compPost (model X.prog X.w) X.A X.xe none _ (.ref D) s3.heap.objs.size) { s3 with heap := pushCells (s3.heap.push { cls := .type "dict", data := .dict #[] }) scope.names }
  generalize ece : compEnvC scope (cellsFrom (s3.heap.objs.size + 1) scope.names (cloFrom X.env.cells scope.names [])) s3.heap.objs.size X.env = ce at I4 kg kt ke ⊢
  have cL : ce.locals = s3.heap.objs.size := by subst ece; rfl
  generalize e4 : ({ s3 with heap := pushCells (s3.heap.push { cls := .type "dict", data := .dict #[] }) scope.names } : Shared) = s4 at I4 ⊢
  have st4 : tn 0 s4.heap := T.keep _ _ _ st2 fun b _ o z => by rw [← e4]; exact pushCells_keeps _ _ _ _ (Heap.get?_push_of_some _ (up3 b o z))
  have hB : HotP (blkP X p s3 (upd H2 D (.lst [])) scope ce fp) p := ⟨hp.hot, List.mem_singleton_self p⟩
  have n4 : ∀ b ∈ fp, (upd H2 D (.lst [])) b = none := fun b hb => (f3 b hb).1.1
  have px : ∀ b ∈ fp, p.1 ≠ b := fun b hb => (f3 b hb).1.2.2.2.2.2 p (List.mem_append_left _ hp.mem)
  generalize eH : upd H2 D (.lst []) = H3 at I3 I4 kg kt ke w0 f3 hB n4
  generalize eB : blkP X p s3 H3 scope ce fp = B at I4 kg kt ke hB
  have fo : ∀ {H' : Hp}, (∀ b ∈ fp, H' b = none) → ∀ b ∈ fp, FpOk B [] H' b := fun hn b hb => by
    subst eB
    refine ⟨hn b hb, (I4.ok.exf b hb).1, I4.ok.exfs b hb, .inl hb, fun x c z => (I4.ok.exf b hb).2 x c z, fun r hr => ?_⟩
    have hr : r ∈ [p] ++ [] := hr
    obtain rfl := List.mem_singleton.mp hr
    exact px b hb
  have TB : TurnP p B.prog B.w B.K tg J fp it tn := by subst eB; exact T
  have loop : codeAny (model B.prog B.w) B.A (.compLoop (.ListComp elt [⟨tg, iter, ifs, 0⟩] scope pos) 0 (.ref it) (.ref D) B.env) (compPost (model X.prog X.w) X.A X.xe none (EP X pins σ Q) (.ref D) s3.heap.objs.size) s4 := by
    refine compLoop_any (fun n t => ∃ i H', Inv B [] (wipe σ (own.map (·.2))) H' t ∧ tn i t.heap ∧ (∀ b ∈ fp, H' b = none) ∧ W i n H') ?_ m0 ⟨0, H3, I4, st4, n4, w0⟩
    rintro n t ⟨i, H5, I5, st5, n5, w5⟩
    rcases turn i n H5 w5 with ⟨stop, qq⟩ | ⟨go, Nx, hNx, step⟩
    · refine thnF (TB.done B rfl rfl rfl hB i [] t _ H5 I5 (fo n5) st5 stop) fun r t6 ⟨hr, I6⟩ => ?_
      subst hr
      subst eB
      have I7 : Inv X pins σ H5 t6 := I3.call' (ch := fp) I6.os I6.base I6.hok I6.bare fun b hb => ⟨(f3 b hb).1.2.2.2.1, (f3 b hb).1.2.1, (f3 b hb).1.2.2.2.2.1, (f3 b hb).1.2.2.2.2.2⟩
      have nC : H5 s3.heap.objs.size = none := by have z : H5 ce.locals = none := I6.free; rwa [cL] at z
      obtain ⟨m, hn, _⟩ := I6.loc
      obtain ⟨f0, f1, _, f3', f4, f5⟩ := I3.fpOk (Nat.le_refl _) nC
      exact ⟨m, by have z : t6.heap.Ns ce.locals m := hn; rwa [cL] at z, fun h1 sb => ⟨.ref D, H5, I7.turned (t' := t6.toks) (fun b o hb z => (sb.2 b hb).trans z) f0 f1 f3' f4 f5, rfl, qq⟩⟩
    · refine thnF (TB.item B rfl rfl rfl hB i [] t _ H5 I5 (fo n5) st5 go) fun r t6 ⟨u, hr, h6⟩ => ?_
      subst hr
      refine thnF h6 fun _ t7 ⟨x, H7, I7, r7, y7, st7, n7⟩ => ?_
      have xe : B.xe = fun _ _ => False := by subst eB; rfl
      refine thnF (xe ▸ kg.run _ t7 _ H7 x u _ (I7.pinned (fo n7) (T.obj _ _ st7)) r7 (step x H7 y7)) fun _ t8 ⟨σ8, H8, I8, hw8, q8⟩ => ?_
      refine thnF (xe ▸ kt.run _ t8 σ8 H8 _ I8 q8) fun b t9 ⟨H9, I9, q9⟩ => ?_
      have next : ∀ {s' : Shared} {H' : Hp}, Inv B ([] ++ pinsAt fp t7.heap) σ8 H' s' → Nx H' → ∃ m, m < n ∧ ∃ i H', Inv B [] (wipe σ (own.map (·.2))) H' s' ∧ tn i s'.heap ∧ (∀ b ∈ fp, H' b = none) ∧ W i m H' := fun {s' H'} I' nx => by
        obtain ⟨m', hm, w'⟩ := hNx H' nx
        have pin : ∀ b ∈ fp, ∀ o, t7.heap.get? b = some o → s'.heap.get? b = some o ∧ H' b = none := fun b hb o z =>
          let y := I'.pin (b, o) (List.mem_append_right _ (List.mem_append_right _ (mem_pinsAt hb z)))
          ⟨y.1, y.2.1⟩
        refine ⟨m', hm, i + 1, H', (I'.unpinned (pins := [])).weak (by rw [← hw8, wipe_length]) (fun j v z => ?_), T.keep _ _ _ st7 fun b hb o z => (pin b hb o z).1, fun b hb => ?_, w'⟩
        · rw [← hw8] at z
          exact (wipe_some z).1
        · obtain ⟨o, z, _⟩ := T.obj _ _ st7 b hb
          exact (pin b hb o z).2
      cases b with
      | false => exact next I9 q9
      | true =>
        refine thnF (xe ▸ ke.run _ t9 σ8 H9 _ I9 q9) fun z t10 ⟨yv, H10, I10, r10, acc, hD10, hz10, nx⟩ => ?_
        exact app_ok (X := B) I10 hD10 hz10 r10 fun t11 I11 => next I11 nx
  subst eB
  exact codeAny_compStart_list loop (T.self X.A 0 _ _ _ st4 loop)
end
end Ho

set_option Elab.async false
set_option linter.all false
set_option maxRecDepth 100000
set_option maxHeartbeats 1000000
/-! a def called within an except suite, which is handed the exception; isinstance there -/
namespace Ho
open PySem PySem.Spec PyProof.Rows HotX L2
abbrev no3 : XK := fun _ _ _ => False
/-- a def's promise where p is handled -/
structure FnP (p : Addr × Obj) (P : Program) (w : World) (K : PySem.W.Frag) (mg : Str → Option Value) (base : Heap) (k : Nat) (f : Addr) (fd : FuncData) (ps : List Str) (sp : List V → Hp → VK → Prop) : Prop where
  len : ∀ vs H Q, sp vs H Q → vs.length = ps.length
  run : ∀ (A : Around) (outer : List Env) (s : Shared) (H : Hp) (args : Args) (us : List Value) (vs : List V) (Q : VK), L2H.RoomH k A → L2H.Hot1 A p → L2H.PinOk outer H s p → Env0 P w K mg base A outer s H → BindsTo s fd args (ps.zip us) → Vals vs us → sp vs H Q →
    codeAny (model P w) A (.call (.ref f) args) (CR CX0 outer P w H s Q no3) s
abbrev cxP (p : Addr × Obj) (P : Program) (w : World) (K : PySem.W.Frag) (mg : Str → Option Value) (base : Heap) (N : List Str) (x : Str) (sc : Scope) (f : Addr) (cd : Value) (A : Around) (outer : List Env) (s : Shared) (H : Hp) : Cx := L2H.cxH CX0 P w K mg base N x sc f cd A outer s H no3 p
section
variable {p : Addr × Obj} {P : Program} {w : World} {K : PySem.W.Frag} {mg : Str → Option Value} {base : Heap} {k : Nat} {f : Addr} {name qual : Str} {params : Arguments} {body : List Stmt} {scope : Scope} {dV kV doc pm cdv ct oc : Value} {an od : Option Addr} {osl : Array (Option Value)} {N ps : List Str} {sp : List V → Hp → VK → Prop}
theorem fn_ofP (lk : K.lookup f = some ⟨oc, od, .func (PySem.W.fnOf name qual params body scope dV kV doc pm an cdv ct), osl⟩) (hcd : PySem.W.codeIn K cdv qual = true) (S : FnScope N ps scope) (len : ∀ vs H Q, sp vs H Q → vs.length = ps.length)
    (hb : ∀ (A : Around) (outer : List Env) (s : Shared) (H : Hp) (vs : List V) (Q : VK), L2H.Hot1 A p → L2H.RoomH k (A.deeper (envOfC qual scope s.heap.objs.size f cdv)) → sp vs H Q → ∃ t, PSs (cxP p P w K mg base N qual scope f cdv A outer s H) body t ∧ t { nx := fun _ H' => Q .non H', rt := Q } (L2.start N vs) H) :
    FnP p P w K mg base (k + 1) f (PySem.W.fnOf name qual params body scope dV kV doc pm an cdv ct) ps sp := by
  refine ⟨len, fun A outer s H args us vs Q hr hot pin e0 bd rv h => ?_⟩
  have kx : K.In s.heap := e0.mod.kin.keeps fun b o e => (e0.bs b o e).1
  have slots : ∀ y ∈ ps.zip us, scope.names.lookup y.1 = some .local ∨ (scope.names.lookup y.1 = some .cell ∧ ((cellsFrom (s.heap.objs.size + 1) scope.names []).lookup y.1).isSome = true) := fun y hy =>
    (S.par y.1 (List.of_mem_zip (show (y.1, y.2) ∈ ps.zip us from hy)).1).imp id fun q => ⟨q, PySem.W.cellsFrom_some _ _ _ (.inl q)⟩
  refine codeAny_call_function hr.depth (kx _ _ lk) rfl S.co S.gen rfl (PySem.W.codeRec_of kx hcd) (bd _ _ _ _ (wpAny_newFunctionEnv_cells S.kind slots fun env he t x => ?_))
  subst he
  refine ⟨(e0.mod.nolimit.keeps fun b o e => (e0.bs b o e).1).keeps x.toInCall.keep, codeAny_func ?_⟩
  obtain ⟨r, hr', hq⟩ := hb A outer s H vs Q hot (hr.deeper _) h
  refine wpAny_mono (hr'.run [] t _ H _ (L2H.inv_startH S pin e0 (len _ _ _ h) rv x) hq) (fun fl t' ht => ?_) fun e t' ht => ht
  match fl, ht with
  | .ret u, ⟨v, σ', H', J, q1, q2⟩ => exact ⟨v, H', J.os, J.bare, J.base, J.hok, q1, q2⟩
  | .next, ⟨σ', H', J, q2⟩ => exact ⟨.non, H', J.os, J.bare, J.base, J.hok, rfl, q2⟩
  | .brk, ⟨_, _, _, q2⟩ => exact q2.elim
  | .cont, ⟨_, _, _, q2⟩ => exact q2.elim
end
section
variable {X : Cx} {p : Addr × Obj} {k : Nat} {f : Addr} {fd : FuncData} {ps : List Str} {sp : List V → Hp → VK → Prop} {x : Str} {np pos : Pos} {e : Expr} {es : List Expr} {t : TA}
/-- x(..) -/
theorem pe_callP (F : FnP p X.prog X.w X.K X.mg X.base k f fd ps sp) (hr : L2H.RoomH k X.A) (hp : HotP X p) (hg : Gl X x) (hm : X.mg x = some (.ref f)) (hk : PySem.W.keepIn X.K (.ref f) = true) (bd : Binds X.K fd ps []) (ha : PA X (e :: es) t) (hdb : (x == ("__debug__" : Str)) = false := by decide)
    (he : starEach (e :: es) X.env = (false, eval e X.env) :: starEach es X.env := by rfl) (hpl : (backTo pos (starEach es X.env)).any (·.1) = false := by rfl) : PE X (.Call (.Name x np) (e :: es) [] pos) (fun σ H Q => t σ H fun vs H1 => sp vs H1 Q) := by
  refine ⟨fun pins s σ H Q I h => wpAny_Call_Name_kw (ld_glob I hg hm ?_ hdb)⟩
  refine PySem.W.callWith_K (h₀ := X.base) I.ok.mod.kin hk (thn (ha.run pos pins s σ H _ I h) fun us s1 ⟨vs, H1, I1, r, q⟩ => ⟨I1.kIn, ?_⟩) he hpl
  have b := bd s1 us I1.kIn (by rw [List.append_nil, ← r.length]; exact F.len _ _ _ q)
  rw [List.append_nil] at b
  obtain ⟨p1, p2, p3, p4, p5⟩ := I1.pin p (List.mem_append_left _ hp.mem)
  refine wpAny_call (codeAny_mono (F.run X.A X.stack s1 H1 ⟨us, []⟩ us vs Q hr hp.hot ⟨p1, p2, fun hm => (List.mem_cons.mp (I1.stkSub p.1 hm)).elim p3 p4, p5⟩ I1.env0 b r q) fun r s2 hq => ?_)
  match r, hq with
  | .error _, hq => exact (show False from hq).elim
  | .ok (.ret u), hq => exact I1.after hq
  | .ok .next, hq => exact (show False from hq).elim
  | .ok .brk, hq => exact (show False from hq).elim
  | .ok .cont, hq => exact (show False from hq).elim
/-- isinstance(e, c), e the exception that is handled -/
theorem isE {D : Addr} (C : ExcC X.K D) (hp : HotP X p) (hz : Zc (.ref D) none p.2) : CallR X (.builtin "isinstance") (rIsE X.K D p.1) := by
  intro pins s σ H xs us Q I r ⟨c, cv, b, ex, hcv, hk, q⟩
  subst ex
  match us, r with
  | [_, _], .cons ra (.cons rb .nil) =>
    cases ra
    obtain rfl := hcv _ rb
    obtain ⟨_, vs, dv, _⟩ := hp.hot
    obtain ⟨a, oe⟩ := p
    obtain ⟨oc, od, oda, osl⟩ := oe
    obtain ⟨z1, z2⟩ := hz
    dsimp only at z1 z2 dv
    subst z1 z2 dv
    have st : PySem.W.InstAt s.heap a ⟨.ref D, none, .fields vs, osl⟩ D none := ⟨(I.pin _ (List.mem_append_left _ hp.mem)).1, rfl, rfl, trivial⟩
    exact PySem.W.kia_one (PySem.W.handS_kitx_exc C.hg C.hk C.hs C.hd C.ha C.hn C.ht C.hm) I.kIn st hk (fun z => nomatch z) fun tk => ⟨.bl b, H, I.kept (t' := tk) fun _ _ z => z, rfl, q⟩
end
end Ho

set_option Elab.async false
set_option linter.all false
set_option maxRecDepth 100000
set_option maxHeartbeats 1000000
/-! a lambda handed to a def; what it raises has no context -/
namespace Ho
open PySem PySem.Spec PyProof.Rows HotX L2 LamX
/-- the context of the lambda's body -/
def lamN (X : Cx) (A : Around) (outer : List Env) (s : Shared) (H : Hp) (E : XK) (scope : Scope) (f c : Addr) : Cx :=
  (lamCx X A outer s H E scope f c).tr [] fun e t => wpAny (model X.prog X.w) (A.deeper (lamEnv X scope s.heap.objs.size f c)) (leaving (lamEnv X scope s.heap.objs.size f c) e) (fun _ u => L2N.CX X.prog X.w outer H s E e u) (fun d u => L2N.CX X.prog X.w outer H s E d u) t
/-- the context of the def that gets the lambda -/
abbrev gotN (X : Cx) (Ng : List Str) (x : Str) (sg : Scope) (g : Addr) (cdg : Value) (s : Shared) (H : Hp) : Cx := cxOf CX0 X.prog X.w X.K X.mg X.base Ng x sg g cdg X.A X.stack s H no3
section
variable {X : Cx} {pins : List (Addr × Obj)} {σ : L2.St} {H : Hp} {s : Shared}
theorem act_n {Ng : List Str} {x : Str} {sg : Scope} {g f c : Addr} {cdg pm ctv : Value} {params : Arguments} {body : Expr} {scope : Scope} {k i : Nat} {a : Str} {pn : List (Addr × Obj)} {xe : Value → Shared → Prop} {W : WX} {E : XK} {tb : TE} {p1 p2 : Pos}
    (I : Inv X pins σ H s) (L : LamS X.env.scope scope) (hf : s.heap.get? f = some (PySem.W.kla_obj "<lambda>" (X.env.qual ++ "<lambda>") params body scope (cloFrom X.env.cells scope.names []) pm c ctv)) (hfn : H f = none) (hfr : f ∉ frs X.stack)
    (bd : bindArgs (PySem.W.kla_fn "<lambda>" (X.env.qual ++ "<lambda>") params body scope (cloFrom X.env.cells scope.names []) pm (.ref c) ctv) ⟨[], []⟩ = pure []) (tk : L2N.Takes ((gotN X Ng x sg g cdg s H).tr pn xe) W) (hW : ∀ cls d σ' H', E cls d H' → W cls d σ' H')
    (hr : Room (k + 1) (X.A.deeper (envOfC x sg s.heap.objs.size g cdg))) (hb : ∀ (A : Around) (outer : List Env) (s : Shared) (H : Hp), Room k (A.deeper (lamEnv X scope s.heap.objs.size f c)) → PE (lamN X A outer s H E scope f c) body tb) (hN : Ng[i]? = some a) (hv : Vis sg a)
    (hd : (a == ("__debug__" : Str)) = false := by decide) (hcd : (a == ("__classdict__" : Str)) = false := by decide) :
    PE ((gotN X Ng x sg g cdg s H).tr pn xe) (.Call (.Name a p1) [] [] p2) (fun τ J Q => τ[i]? = some (some (.ref f)) ∧ J c = some (CodeO c (X.env.qual ++ "<lambda>")) ∧ tb σ J Q) := by
  refine ⟨fun qs t τ J Q IZ ⟨hs, hc, ht⟩ => wpAny_Call_Name_kw (thn ((pe_var (pos := p1) (i := i) hN hv hd hcd).run qs t τ J (fun v H1 => v = .ref f ∧ H1 = J) IZ ⟨.ref f, hs, rfl, rfl⟩) fun u t1 h1 => ?_)⟩
  obtain ⟨v, H1, I1, r1, rfl, rfl⟩ := h1
  obtain rfl : u = Value.ref f := r1
  have obj : t1.heap.get? f = some (PySem.W.kla_obj "<lambda>" (X.env.qual ++ "<lambda>") params body scope (cloFrom X.env.cells scope.names []) pm c ctv) := I1.base.keep f _ hf hfn hfr (fun z => nomatch (show f ∈ ([] : List Addr) from z))
  refine PySem.W.callWith_F0 ⟨_, _, _, _, obj⟩ ?_
  have un : Un (frs X.stack) [] H H1 s.heap t1.heap := I1.base
  obtain ⟨⟨oc, vs, tq, z1, z2, z3⟩, _, _⟩ := I1.hok c _ hc
  have rc : codeAny (model X.prog X.w) (X.A.deeper (envOfC x sg s.heap.objs.size g cdg)) (.call (.ref f) ⟨[], []⟩) (CR (L2N.CX X.prog X.w) (envOfC x sg s.heap.objs.size g cdg :: X.stack) X.prog X.w H1 t1 Q E) t1 := by
    refine PySem.W.kla_callFunE hr.depth obj rfl L.co L.gen rfl ⟨c, oc, vs, tq, rfl, z1, z2, z3⟩ ?_
    rw [bd]
    refine wpAny_pure (wpAny_newFunctionEnv (fun y hy => (L.own y hy).2) (fun y hy => absurd hy (by simp)) (fun h1 ns sb => ⟨I1.nolimit.fresh _ sb, ?_⟩) L.kind)
    show codeAny _ _ (.expr body (lamEnv X scope t1.heap.objs.size f c)) _ _
    have J1 := (lam_start2 (E := E) (f := f) (c' := c) (tk := t1.toks + ([] : List (Str × Value)).length) I L I1.env0 hr.hd un ns fun b o e => sb.extBut b o (Nat.ne_of_lt (Heap.lt_size e)) (Heap.get?_push_of_some _ e)).toTry fun e t => wpAny (model X.prog X.w) ((X.A.deeper (envOfC x sg s.heap.objs.size g cdg)).deeper (lamEnv X scope t1.heap.objs.size f c)) (leaving (lamEnv X scope t1.heap.objs.size f c) e) (fun _ u => L2N.CX X.prog X.w (envOfC x sg s.heap.objs.size g cdg :: X.stack) H1 t1 E e u) (fun d u => L2N.CX X.prog X.w (envOfC x sg s.heap.objs.size g cdg :: X.stack) H1 t1 E d u) t
    have J2 : Inv (lamN X (X.A.deeper (envOfC x sg s.heap.objs.size g cdg)) (envOfC x sg s.heap.objs.size g cdg :: X.stack) t1 H1 E scope f c) [] σ H1 { t1 with heap := h1, toks := t1.toks + ([] : List (Str × Value)).length } := J1
    refine PySem.W.kla_codeExpr (wpAny_mono ((hb _ _ t1 H1 (hr.deeper _)).run [] _ _ H1 Q J2 ht) (fun v s' hq => ?_) fun e s' hq => hq)
    obtain ⟨w', H', J', rv, q⟩ := hq
    exact ⟨w', H', J'.os, J'.bare, J'.base, J'.hok, rv, q⟩
  have hx : Passes (L2N.CX X.prog X.w) ((gotN X Ng x sg g cdg s H).tr pn xe) E := L2N.passes_call tk hW
  refine wpAny_call (codeAny_mono rc fun r s' hq => ?_)
  match r, hq with
  | .error e, hq => exact hx qs τ H1 t1 e s' I1 hq
  | .ok (.ret u), hq => exact I1.after hq
  | .ok .next, hq => exact (show False from hq).elim
  | .ok .brk, hq => exact (show False from hq).elim
  | .ok .cont, hq => exact (show False from hq).elim
end
/-- the def that calls what it got -/
def GivesN (kk : Nat) (X : Cx) (Ng : List Str) (x : Str) (sg : Scope) (g : Addr) (cdg : Value) (bg : List Stmt) (a : Str) (q : Str) (TT : (XK → Hp → VK → Prop) → Hp → VK → Prop) : Prop :=
  ∀ (f c : Addr) (s : Shared) (H : Hp) (Q : VK) (tl : XK → Hp → VK → Prop),
    (∀ (W : WX) (pn : List (Addr × Obj)) (xe : Value → Shared → Prop) (E : XK) (p1 p2 : Pos), L2N.Takes ((gotN X Ng x sg g cdg s H).tr pn xe) W → (∀ cls d σ' H', E cls d H' → W cls d σ' H') →
      PE ((gotN X Ng x sg g cdg s H).tr pn xe) (.Call (.Name a p1) [] [] p2) (fun τ J Q => τ[0]? = some (some (.ref f)) ∧ J c = some (CodeO c q) ∧ tl E J Q)) →
    H c = some (CodeO c q) → TT tl H Q → Room kk (gotN X Ng x sg g cdg s H).A → ∃ t, PSs (gotN X Ng x sg g cdg s H).nox bg t ∧ t { nx := fun _ H' => Q .non H', rt := Q } (L2.start Ng [.ref f]) H
section
variable {X : Cx}
/-- x(lambda: body) -/
theorem call_n {T : List (Addr × Str)} {TT : (XK → Hp → VK → Prop) → Hp → VK → Prop} {x a : Str} {g c P : Addr} {k : Nat} {pg : Arguments} {bg : List Stmt} {sg : Scope} {dV kV doc pm cdv ct oc : Value} {an od : Option Addr} {osl : Array (Option Value)} {Ng : List Str} {params : Arguments} {body : Expr} {scope : Scope} {t : XK → TE} {p lpos pos : Pos}
    (hg : Gl X x) (hm : X.mg x = some (.ref g)) (hk : PySem.W.keepIn X.K (.ref g) = true) (lk : X.K.lookup g = some ⟨oc, od, .func (PySem.W.fnOf x x pg bg sg dV kV doc pm an cdv ct), osl⟩) (hcg : PySem.W.codeIn X.K cdv x = true) (bd : L2.Binds X.K (PySem.W.fnOf x x pg bg sg dV kV doc pm an cdv ct) [a] []) (Sg : FnScope Ng [a] sg)
    (hNg : Ng[0]? = some a) (hva : Vis sg a) (hG : GivesN (k + 1) X Ng x sg g cdv bg a (X.env.qual ++ "<lambda>") TT) (TB : TabB X.base X.mg c P) (hcode : X.env.code = .ref c) (hmT : (P, X.env.qual ++ "<lambda>") ∈ T) (hu : ∀ p ∈ T, p.1 = P → p.2 = X.env.qual ++ "<lambda>") (hr : Room (k + 2) X.A) (L : LamS X.env.scope scope)
    (hdef : defaultsOf params X.env = ([], [])) (hbind : ∀ (q : Str) (cl : List (Str × Addr)) (pm cv ctv : Value), bindArgs (PySem.W.kla_fn "<lambda>" q params body scope cl pm cv ctv) ⟨[], []⟩ = pure [])
    (hb : ∀ (A : Around) (outer : List Env) (s : Shared) (H : Hp) (E : XK) (f c : Addr), Room k (A.deeper (lamEnv X scope s.heap.objs.size f c)) → PE (lamN X A outer s H E scope f c) body (t E)) (hdb : (x == ("__debug__" : Str)) = false := by decide) (hd : (a == ("__debug__" : Str)) = false := by decide) (hcd : (a == ("__classdict__" : Str)) = false := by decide) :
    PE X (.Call (.Name x p) [.Lambda params body scope lpos] [] pos) (tLam T TT t) := by
  refine ⟨fun pins s σ H Q I ⟨hT, h⟩ => wpAny_Call_Name_kw (ld_glob I hg hm ?_ hdb)⟩
  refine PySem.W.callWith_K (h₀ := X.base) I.ok.mod.kin hk ?_ (by rfl) (by rfl)
  show wpAny _ _ (spliced ((false, eval (.Lambda params body scope lpos) X.env) :: backTo pos (starEach [] X.env))) _ _ s
  refine Calls.spliced_cons (lam_make2 I TB hcode hmT hu hT hdef (L.has I.ok) fun f c' pm' ctv H1 s1 I1 eN T1 hf hfn hfr hco => Calls.spliced_nil ⟨I1.kIn, ?_⟩)
  have rc : codeAny (model X.prog X.w) X.A (.call (.ref g) ⟨[.ref f], []⟩) (CR CX0 X.stack X.prog X.w H1 s1 Q no3) s1 := by
    refine run_ofS (N := Ng) (ps := [a]) (us := [.ref f]) (vs := [.ref f]) lk hcg Sg hr I1.env0 (bd s1 [.ref f] I1.kIn rfl) (.cons rfl .nil) rfl fun hr' => ?_
    obtain ⟨t', ht', hq'⟩ := hG f c' s1 H1 Q (fun E H' Q' => t E σ H' Q') (fun W pn xe E p1 p2 tk hW => act_n (i := 0) I1 L hf hfn hfr (hbind _ _ _ _ _) tk hW hr' (fun A outer s H hr2 => hb A outer s H E f c' hr2) hNg hva hd hcd) hco (h H1 eN T1) hr'
    exact ⟨t', ht'.nox, hq'⟩
  refine wpAny_call (codeAny_mono rc fun r s2 hq => ?_)
  match r, hq with
  | .error e, hq => exact (show False from hq).elim
  | .ok (.ret u), hq => exact I1.after hq
  | .ok .next, hq => exact (show False from hq).elim
  | .ok .brk, hq => exact (show False from hq).elim
  | .ok .cont, hq => exact (show False from hq).elim
end
end Ho

set_option Elab.async false
set_option linter.all false
set_option maxRecDepth 100000
set_option maxHeartbeats 1000000
/-! data where an exception is handled -/
namespace Fl
open PySem PySem.Spec PyProof.Rows L2 Dl R Ho
/-- what is known of where one stands, p being handled -/
structure LvP (X : Cx) (C : DC) (p : Addr × Obj) (k : Nat) : Prop where
  K : X.K = C.K
  nd : X.N.Nodup
  room : L2H.RoomH k X.A
  hot : HotP X p
theorem LvP.blk {X : Cx} {C : DC} {p : Addr × Obj} {k : Nat} (l : LvP X C p k) {s : Shared} {H : Hp} {scope : Scope} {env : Env} {fp : List Addr} : LvP (blkP X p s H scope env fp) C p k := ⟨l.K, l.nd, l.room, ⟨l.hot.hot, List.mem_singleton_self p⟩⟩
noncomputable section
/-- + of lists, of texts -/
def addHC (x y : Dv) : R Dv := match x, y with
  | .d (.list a), .d (.list b) => chk (decide (a.length + b.length ≤ 1000000)) (ok (.d (.list (a ++ b))))
  | .d (.str a), .d (.str b) => chk (decide (a.length + b.length ≤ 1000000)) (ok (.d (.str (a ++ b))))
  | _, _ => no
/-- isinstance(e, ..), e the exception of slot i -/
def cIsE (i : Nat) (a : Addr) (b : Bool) (ρ : Rho) : R Dv := match ρ[i]? with
  | some (some (.ex c)) => chk (decide (c = a)) (ok (.d (.bool b)))
  | _ => no
def zipLL (x y : Dv) : R (List PyData) := match x, y with
  | .d (.list xs), .d (.list ys) => ok (zipD xs ys)
  | _, _ => no
def cZipH (a b : CE) (ρ : Rho) : R (List PyData) := (a ρ).bind fun x => (b ρ).bind fun y => zipLL x y
end
section
variable {X : Cx} {C : DC} {er : Str → Prop} {p : Addr × Obj} {k : Nat}
theorem addH_ok : OpR X (binaryOp .Add) (rD C fun x y q => wp (addHC x y) q fun _ => False) := by
  intro pins s σ H x y u1 u2 Q I rx ry ⟨hid, dx, dy, q, hp, r1, r2, h, kk⟩
  dsimp only at h
  unfold addHC at h
  split at h
  · obtain ⟨h1, h2⟩ := chk_wp h
    exact add_lst I rx ry hp r1 r2 rfl rfl (of_decide_eq_true h1) h2 kk
  · obtain ⟨h1, h2⟩ := chk_wp h
    cases r1 with
    | str _ k1 => cases r2 with
      | str _ k2 => exact op_add_str pins s σ H _ _ u1 u2 Q I rx ry ⟨_, _, rfl, rfl, Nat.le_trans (of_decide_eq_true h1) (by decide), kk _ (.d (.str _)) H .refl hp (Dd.str _ (str_app k1 k2)) h2⟩
  · exact h.elim
theorem addHC_ok (er : Str → Prop) (x y : Dv) (q : Dv → Prop) (h : wp (addHC x y) q er) : wp (addHC x y) q fun _ => False := by
  unfold addHC at h ⊢
  split at h
  · obtain ⟨h1, h2⟩ := chk_wp h
    try dsimp only
    rw [h1]
    exact h2
  · obtain ⟨h1, h2⟩ := chk_wp h
    try dsimp only
    rw [h1]
    exact h2
  · exact h.elim
theorem fe_isE {D : Addr} {i : Nat} {y z : Str} {cv : Value} {b : Bool} {np p1 p2 pos : Pos} (l : LvP X C p k) (E0 : ExcC X.K D) (hz : Zc (.ref D) none p.2) (hv : PE X (.Name z p1) (tVar i)) (hm : X.mg "isinstance" = none) {c : V} (hy : PE X (.Name y p2) (tC c)) (hc : ∀ u, RelV c u → u = cv) (hk : PySem.W.kitOne X.K (.ref D) cv = some b)
    (hg : Gl X "isinstance" := by rfl) (h1 : starEach [.Name z p1, .Name y p2] X.env = (false, eval (.Name z p1) X.env) :: starEach [.Name y p2] X.env := by rfl) (h2 : starEach [.Name y p2] X.env = (false, eval (.Name y p2) X.env) :: starEach [] X.env := by rfl) (h3 : (backTo pos (starEach [.Name y p2] X.env)).any (·.1) = false := by rfl) :
    PE X (.Call (.Name "isinstance" np) [.Name z p1, .Name y p2] [] pos) (tE C (up er (cIsE i p.1 b))) := by
  refine (pe_callB (isE E0 l.hot hz) hg hm boot_isinstance (pa_cons hv (pa_cons hy pa_nil h2) h1) (by decide) (by decide) h1 h3).imp fun σ H Q ⟨hid, ρ, q, hp, sr, a, kk⟩ => ?_
  unfold up cIsE at a
  split at a
  · rename_i c' ec
    obtain ⟨d1, d2⟩ := chk_wp a
    obtain rfl := of_decide_eq_true d1
    obtain ⟨v, ev, r⟩ := sr.at' _ _ ec
    cases (show v = _ from r)
    refine ⟨.ref _, ev, ?_⟩
    exact ⟨c, cv, b, rfl, hc, hk, kk (.bl b) (.d (.bool b)) H .refl hp (Dd.bl b) d2⟩
  · exact a.elim
theorem fg_tupH {pos : Pos} {es : List Expr} {kt n : Nat} {Gs : CGs} {ow : List Nat} (l : LvP X C p k) (h : PGs X es (tGs C ow (upGs er Gs))) (hn : (assignEach es X.env).length = n := by rfl) (hf : (assignEach es X.env).findIdx? (·.1) = none := by rfl) : PG X (.Tuple es kt pos) (tG C ow (upG er (tgT n Gs))) :=
  (pg_tupH l.hot h hn hf).imp fun v σ H Q ⟨hid, ρ, x, q, hp, sr, r, g, kk⟩ => by
    unfold upG tgT at g
    split at g
    · obtain ⟨gl, g⟩ := chk_wp g
      cases r with
      | @tup a xs _ h1 h2 => exact ⟨a, xs, rfl, by rw [l.K]; exact hide_mono.sqT h1.1, by rw [h2.len]; exact eq_of_beq gl, hid, ρ, _, q, hp, sr, dd_vrs h2, g, kk⟩
    · exact g.elim
theorem fi_zipH {e e2 : Expr} {A B : CE} {np pos tpos : Pos} {elts : List Expr} {kk : Nat} (l : LvP X C p k) (hm : X.mg "zip" = none) (ha : PE X e (tE C (up er A))) (hb : PE X e2 (tE C (up er B))) (hg : Gl X "zip" := by rfl) (hs : starEach [e, e2] X.env = (false, eval e X.env) :: starEach [e2] X.env := by rfl)
    (hs2 : starEach [e2] X.env = (false, eval e2 X.env) :: starEach [] X.env := by rfl) (hpl : (backTo pos (starEach [e2] X.env)).any (·.1) = false := by rfl) : PIP p X (.Tuple elts kk tpos) (.Call (.Name "zip" np) [e, e2] [] pos) (tI C (up er (cZipH A B))) := by
  have z := pip_zip (p := p) (np := np) (tpos := tpos) (elts := elts) (kk := kk) hg hm (pa_cons ha (pa_cons hb pa_nil hs2) hs) hs hpl
  refine ⟨fun pins s σ H R I h => z.run pins s σ H R I ?_⟩
  obtain ⟨hid, ρ, q, hp, sr, a, kk⟩ := h
  unfold up cZipH at a
  rw [wp_bind] at a
  refine ⟨hid, ρ, _, hp, sr, a, fun v x H1 e1 o1 r1 a1 => ?_⟩
  rw [wp_bind] at a1
  refine ⟨hid, ρ, _, o1, sr.ext e1 hp, a1, fun w y H2 e2' o2 r2 a2 => ?_⟩
  unfold zipLL at a2
  split at a2
  · have r1 := r1.ext e2' o1
    cases r1 with
    | @lst p1 vs _ h1 d1 => cases r2 with
      | @lst p2 ws _ h2 d2 =>
        exact ⟨p1, p2, vs, ws, rfl, SqL.of (hide_some h1).2, SqL.of (hide_some h2).2, kk _ _ H2 (e1.trans e2') o2 (walkd_pairs (walk_zipLL p1 p2 vs ws) (fun hid' H' st => ⟨SqL.of (st.fz p1 _ (hide_some h1).1 (hide_some h1).2 (fun _ z => by cases z)), SqL.of (st.fz p2 _ (hide_some h2).1 (hide_some h2).2 (fun _ z => by cases z))⟩) d1 d2) a2⟩
  · exact a2.elim
theorem fe_lcH {elt tg iter : Expr} {ifs : List Expr} {scope : Scope} {own : List (Str × Nat)} {pos : Pos} {I : CI} {G : CG} {T : CT} {A : CE} (l : LvP X C p k) (hi : PIP p X tg iter (tI C (up er I))) (ok : BlkOk X.N X.env.scope scope own)
    (hg : ∀ (s : Shared) (H : Hp) (c : Addr) (cl : List (Str × Addr)) (fp : List Addr), LvP (blkP X p s H scope (compEnvC scope cl c X.env) fp) C p k → PG (blkP X p s H scope (compEnvC scope cl c X.env) fp) tg (tG C (own.map (·.2)) (upG er G)))
    (ht : ∀ (s : Shared) (H : Hp) (c : Addr) (cl : List (Str × Addr)) (fp : List Addr), LvP (blkP X p s H scope (compEnvC scope cl c X.env) fp) C p k → PTs (blkP X p s H scope (compEnvC scope cl c X.env) fp) ifs (tT C (up er T)))
    (he : ∀ (s : Shared) (H : Hp) (c : Addr) (cl : List (Str × Addr)) (fp : List Addr), LvP (blkP X p s H scope (compEnvC scope cl c X.env) fp) C p k → PE (blkP X p s H scope (compEnvC scope cl c X.env) fp) elt (tE C (up er A))) (hs : ∀ x, foldedSetIterable iter X.env x = pure x := by intro _; rfl) :
    PE X (.ListComp elt [⟨tg, iter, ifs, 0⟩] scope pos) (tE C (up er (cLc I G T A (own.map (·.2))))) :=
  ((pe_lcH l.hot l.nd hi ok (fun s H c cl fp => hg s H c cl fp l.blk) (fun s H c cl fp => ht s H c cl fp l.blk) (fun s H c cl fp => he s H c cl fp l.blk) hs).imp lc_imp).imp (mE cLc_mono)
end
/-! ### a def that is handed the exception -/
/-- what it gives, told of data -/
def spP (K : PySem.W.Frag) (T : Tbs) (a : Addr) (g : R Dv) : List V → Hp → VK → Prop := fun vs H Q => ∃ (c : Option Addr) (hid : List Addr) (q : Dv → Prop), vs = [.ref a] ∧ HpOk ⟨K, T, c, hid, H⟩ hid H ∧ wp g q (fun _ => False) ∧
  ∀ v x H', Ext c H H' → HpOk ⟨K, T, c, hid, H⟩ hid H' → VR ⟨K, T, c, hid, H⟩ hid H' v x → notOwn x → q x → Q v H'
def PHas (P : Program) (w : World) (K : PySem.W.Frag) (mg : Str → Option Value) (base : Heap) (T : Tbs) (p : Addr × Obj) (k : Nat) (x : Str) (y : Str) (g : R Dv) : Prop :=
  ∃ fd, Binds K fd [y] [] ∧ PySem.W.keepIn K (.ref (He.ga K x)) = true ∧ mg x = some (.ref (He.ga K x)) ∧ FnP p P w K mg base k (He.ga K x) fd [y] (spP K T p.1 g)
section
variable {P : Program} {w : World} {K : PySem.W.Frag} {mg : Str → Option Value} {base : Heap} {T : Tbs} {p : Addr × Obj}
theorem less_of {c : Option Addr} {hid : List Addr} {H : Hp} (h1 : HpOk ⟨K, T, c, hid, H⟩ hid H) (hid' : List Addr) (H' : Hp) (ok : HpOk ⟨K, T, c, hid, H⟩ hid' H') : HpOk ⟨K, T, c, hid, H⟩ hid H' := ⟨ok.tabs, fun a ea => ⟨(h1.cup a ea).1, (ok.cup a ea).2⟩, fun a ha => ok.some a (ok.sub a ha), fun a ha => ha, ok.ext⟩
theorem okP {x y : Str} {st : Stmt} {N : List Str} {k : Nat} {s : CS} (F : At K mg x st) (S : FnScope N [y] (defScope st))
    (hb : ∀ (kV doc pm : Value) (an : Option Addr) (cd ct : Value) (us : List Value), us.length = 1 → bindArgs (PySem.W.fnOf x x (defArgs st) (defBody st) (defScope st) .none kV doc pm an cd ct) ⟨us, []⟩ = pure ([y].zip us))
    (hbody : ∀ (A : Around) (outer : List Env) (s0 : Shared) (H : Hp) (c : Option Addr) (hid : List Addr), LvP (cxP p P w K mg base N x (defScope st) (He.ga K x) (cdv K x) A outer s0 H) ⟨K, T, c, hid, H⟩ p k →
      PSs (cxP p P w K mg base N x (defScope st) (He.ga K x) (cdv K x) A outer s0 H) (defBody st) (tS ⟨K, T, c, hid, H⟩ (upS (fun _ => False) s))) {j : Nat} (hj : N.length - 1 = j := by rfl) : PHas P w K mg base T p (k + 1) x y (body 1 j s [.ex p.1]) := by
  obtain ⟨gm, fd, F⟩ := F
  have bn := F.bindsN (ps := [y]) hb
  have kp := F.kp
  obtain ⟨oc, od, dV, kV, doc, pm, an, cd, ct, osl, rfl, lk, hcd, _, _⟩ := F.ex
  obtain ⟨cc, rfl⟩ := He.codeIn_ref hcd
  have e : He.codeOf K (x, none) = cc := He.codeOf_eq (p := (x, none)) lk rfl
  refine ⟨_, bn, kp, gm, fn_ofP lk hcd S (fun vs H Q ⟨_, _, _, r, _⟩ => by rw [r]; rfl) fun A outer s0 H vs Q hot hr ⟨c, hid, q, ev, h1, h4, h5⟩ => ?_⟩
  subst ev
  have hw := hbody A outer s0 H c hid
  rw [cdv, e] at hw
  have h4 : wp (R.bind _ _) q (fun _ => False) := (chk_wp h4).2
  rw [wp_bind] at h4
  have h2 : VRs ⟨K, T, c, hid, H⟩ hid H [V.ref p.1] [.ex p.1] := .cons rfl .nil
  refine ⟨_, hw ⟨rfl, S.nd, hr, ⟨hot, List.mem_singleton_self p⟩⟩, hid, startR N [.ex p.1], { nx := fun _ => q (.d .none), rt := q }, ⟨h1, sr_start N h2, fun i j ys zs v n ei ej ny nz si => ?_⟩, ?_, ?_⟩
  · have z := List.mem_of_getElem? (startR_at ei)
    rw [List.mem_singleton.mp z] at ny
    exact (ny trivial).elim
  · unfold upS startR
    rw [List.length_singleton, hj]
    exact wp_mono (fun o h => by cases o <;> first | exact h | exact h.elim) h4
  · exact ⟨fun hid' σ' H' ρ' so st n => h5 .non (.d .none) H' so.hp.ext (less_of h1 _ _ so.hp) Dd.non trivial n, fun _ _ _ _ _ _ z => z.elim, fun _ _ _ _ _ _ z => z.elim,
      fun v y hid' H' ok r no h => h5 v y H' ok.ext (less_of h1 _ _ ok) (r.less (fun a ha => ok.sub a ha) no) no h⟩
end
end Fl

set_option Elab.async false
set_option linter.all false
set_option maxRecDepth 100000
set_option maxHeartbeats 1000000
/-! the name of the error that a call raises, as data -/
namespace Fl
open PySem PySem.Spec PyProof.Rows L2 Dl R Ho LamX
/-- what the def makes of the lambda that it gets -/
def TErr (K : PySem.W.Frag) (T : Tbs) (tab : Str → Option Str) (nn : Str) : (XK → Hp → VK → Prop) → Hp → VK → Prop := fun tl H Q => ∃ (c : Option Addr) (hid : List Addr) (eo : Str → Prop) (ok : Prop), HpOk ⟨K, T, c, hid, H⟩ hid H ∧ (∀ cl, eo cl → ∃ z, tab cl = some z) ∧
  (∀ (E' : XK) (Q' : VK), (∀ cl hid' H', eo cl → HpOk ⟨K, T, c, hid, H⟩ hid' H' → E' (.ref (He.ga K cl)) none H') → (∀ v H', ok → Ext c H H' → HpOk ⟨K, T, c, hid, H⟩ hid H' → Q' v H') → tl E' H Q') ∧
  ∀ z H', ((z = nn ∧ ok) ∨ ∃ cl, eo cl ∧ tab cl = some z) → Ext c H H' → HpOk ⟨K, T, c, hid, H⟩ hid H' → Q (.str z) H'
theorem takes_no {X : Cx} : L2N.Takes X (fun _ _ _ _ => False) := fun _ _ x => by
  obtain ⟨_, _, _, _, _, _, _, _, _, _, _, _, _, _, _, _, z⟩ := x
  exact z.elim
/-- what is known of the def that names an error, and of the errors -/
structure Named (P : Program) (w : World) (K : PySem.W.Frag) (mg : Str → Option Value) (base : Heap) (T : Tbs) (j : Nat) (nm y : Str) (top : Str) (tab : Str → Option Str) : Prop where
  gt : mg top = some (.ref (He.ga K top))
  gets : ∀ cl z, tab cl = some z → PySem.W.exmOne K (.ref (He.ga K cl)) (.ref (He.ga K top)) = some true
  tells : ∀ (p : Addr × Obj) (cl z : Str), tab cl = some z → Zc (.ref (He.ga K cl)) none p.2 → ∃ g, PHas P w K mg base T p j nm y g ∧ g = ok (.d (.str z))
/-- found = nn; try: a(); except top as e: found = nm(e); return found -/
theorem gives_A {X : Cx} {T : Tbs} {tab : Str → Option Str} {x a fnd e nm y top q nn : Str} {sg : Scope} {g : Addr} {cdg : Value} {j kk : Nat} {c1 : Nat} {p1 p2 p3 p4 p5 p6 p7 p8 p9 p10 p11 p12 p13 p14 p15 p16 : Pos} (M : Named X.prog X.w X.K X.mg X.base T j nm y top tab) (hj : j ≤ kk) (nd : [a, fnd, e].Nodup)
    (la : sg.names.lookup a = some .local) (lf : sg.names.lookup fnd = some .local) (le : sg.names.lookup e = some .local) (lt : sg.names.lookup top = some .globalImplicit) (ln : sg.names.lookup nm = some .globalImplicit) (dt : (top == ("__debug__" : Str)) = false) (dn : (nm == ("__debug__" : Str)) = false) (df : (fnd == ("__debug__" : Str)) = false) (de : (e == ("__debug__" : Str)) = false) (cf : (fnd == ("__classdict__" : Str)) = false) (ce : (e == ("__classdict__" : Str)) = false) :
    GivesN kk X [a, fnd, e] x sg g cdg [.Assign [.Name fnd p1] (.Constant (.str nn) c1 p2) p3, .Try [.Expr (.Call (.Name a p4) [] [] p5) p6] [.ExceptHandler (some (.Name top p7)) (some e) [.Assign [.Name fnd p8] (.Call (.Name nm p9) [.Name e p10] [] p11) p12] p13] [] [] p14, .Return (some (.Name fnd p15)) p16] a q (TErr X.K T tab nn) := by
  intro f c' s H Q tl act hc ⟨c, hid, eo, okp, hp, htab, htl, hq⟩ hr
  let ts : Addr → Value → Option Addr → TS := fun b cls d D σ J => ∃ cl z, cls = .ref (He.ga X.K cl) ∧ d = none ∧ tab cl = some z ∧ (σ.length = 3 → σ[2]? = some (some (.ref b)) ∧ HpOk ⟨X.K, T, c, hid, J⟩ hid J ∧ ∀ J', Ext c J J' → HpOk ⟨X.K, T, c, hid, J⟩ hid J' → D.nx (σ.set 1 (some (.str z))) J')
  refine ⟨_, pss_cons (ps_set (i := 1) nd rfl (.inl lf) pe_str rfl (.inr lf)) (pss_cons (L2N.ps_try_as (X := (gotN X [a, fnd, e] x sg g cdg s H).nox) (i := 2) (c := .ref (He.ga X.K top)) (Wout := fun _ _ _ _ => False) (ts := ts)
    (tb := fun W D σ J => ∃ E' : XK, (∀ cls d σ' H', E' cls d H' → W cls d σ' H') ∧ σ[0]? = some (some (.ref f)) ∧ J c' = some (CodeO c' q) ∧ tl E' J fun _ J' => D.nx σ J')
    rfl rfl nd rfl le ⟨lt, dt, .inl M.gt⟩ takes_no (fun W pn xe tk _ => ⟨fun pins s' σ J D I ⟨E', hW, h1, h2, h3⟩ => (pss_one (ps_expr (act W pn xe E' p4 p5 tk hW))).run pins s' σ J D I ⟨h1, h2, h3⟩⟩) (fun b oe cls d pn hz hv => ?_)) (pss_one (ps_ret (pe_var (i := 1) rfl (.inl lf) df cf)))), ?_⟩
  · refine ⟨fun pins s' σ J D I ⟨cl, z, e1, e2, e3, e456⟩ => ?_⟩
    subst e1 e2
    obtain ⟨e4, e5, e6⟩ := e456 I.len
    obtain ⟨G, ⟨fd, bd, kp, gm, F⟩, eG⟩ := M.tells (b, oe) cl z e3 hz.zc
    subst eG
    obtain ⟨vs, hd⟩ := hv
    have hP : HotP ((gotN X [a, fnd, e] x sg g cdg s H).nox.suite b ((b, oe) :: pn)) (b, oe) := ⟨⟨rfl, vs, hd, hz.2.2 vs hd⟩, List.mem_cons_self⟩
    have r0 := (L2H.roomH_of hr).mono hj
    have r1 : L2H.RoomH j ((gotN X [a, fnd, e] x sg g cdg s H).nox.suite b ((b, oe) :: pn)).A := ⟨r0.dp, r0.un⟩
    have rule := pss_one (ps_set (X := (gotN X [a, fnd, e] x sg g cdg s H).nox.suite b ((b, oe) :: pn)) (pos := p12) (pos' := p8) (i := 1) nd rfl (.inl lf) (pe_callP (np := p9) (pos := p11) F r1 hP ln gm kp bd (pa_cons (pe_var (pos := p10) (i := 2) rfl (.inl le) de ce) pa_nil) dn) rfl (.inr lf))
    refine rule.run pins s' σ J D I ⟨.ref b, e4, ?_⟩
    refine ⟨c, hid, fun x => x = .d (.str z), rfl, e5, rfl, fun v x J' x1 x2 x3 _ x4 => ?_⟩
    subst x4
    cases x3
    exact e6 J' x1 x2
  · have back : ∀ hid' J, HpOk ⟨X.K, T, c, hid, H⟩ hid' J → HpOk ⟨X.K, T, c, hid, H⟩ hid J := less_of hp
    refine ⟨fun k d J => ∃ cl hid', k = .ref (He.ga X.K cl) ∧ d = none ∧ eo cl ∧ HpOk ⟨X.K, T, c, hid, H⟩ hid' J, fun cls d σ' J ⟨cl, hid', e1, e2, e3, e4⟩ => ?_, rfl, hc, htl _ _ (fun cl hid' J h1 h2 => ⟨cl, hid', rfl, rfl, h1, h2⟩) fun v J h1 h2 h3 => ?_⟩
    · obtain ⟨z, ez⟩ := htab cl e3
      have o4 := back _ _ e4
      refine ⟨true, by rw [e1]; exact M.gets cl z ez, fun _ b nb => ⟨cl, z, e1, e2, ez, fun hl => ?_⟩, fun w => by cases w⟩
      have hl : σ'.length = 3 := by rw [List.length_set] at hl; exact hl
      refine ⟨by rw [List.getElem?_set_self (by omega)], ⟨o4.tabs, o4.cup, o4.some, fun a h => h, .refl⟩, fun J' x1 x2 => ?_⟩
      refine ⟨.str z, ?_, hq z J' (.inr ⟨cl, e3, ez⟩) (Ext.trans o4.ext x1) ⟨x2.tabs, x2.cup, x2.some, fun a h => h, Ext.trans o4.ext x1⟩⟩
      match σ', hl with
      | [u0, u1, u2], _ => rfl
    · exact ⟨.str nn, by rfl, hq nn J (.inl ⟨rfl, h1⟩) h2 h3⟩
/-! ### as an expression -/
/-- the slots that a lambda may read -/
def noOw (ρ : Rho) : Rho := ρ.map fun o => match o with
  | some (.own _) => none
  | some (.od _) => none
  | o => o
noncomputable section
def cErr (tab : Str → Option Str) (nn : Str) (a : CE) (ρ : Rho) : R Dv := match a (noOw ρ) with
  | .ok _ => chk (PyData.strOk nn) (ok (.d (.str nn)))
  | .er cl => match tab cl with
    | some z => chk (PyData.strOk z) (ok (.d (.str z)))
    | none => no
  | _ => no
end
theorem noOw_at {ρ : Rho} {i : Nat} {x : Dv} (h : (noOw ρ)[i]? = some (some x)) : ρ[i]? = some (some x) ∧ notOwn x := by
  unfold noOw at h
  rw [List.getElem?_map] at h
  cases e : ρ[i]? with
  | none => rw [e] at h; cases h
  | some o =>
    rw [e] at h
    have h := Option.some.inj h
    cases o with
    | none => cases h
    | some y =>
      cases y with
      | own _ => cases h
      | od _ => cases h
      | _ => cases h; exact ⟨rfl, trivial⟩
section
variable {X : Cx} {C : DC} {er : Str → Prop}
theorem sr_noOw {hid : List Addr} {σ : L2.St} {H H1 : Hp} {ρ : Rho} (s : SR C hid σ H ρ) (hp : HpOk C hid H) (e : Ext C.c H H1) : SR ⟨C.K, C.T, C.c, hid, H1⟩ hid σ H1 (noOw ρ) :=
  ⟨by unfold noOw; rw [List.length_map]; exact s.len, fun i x q => by
    obtain ⟨q1, q2⟩ := noOw_at q
    obtain ⟨v, h1, h2⟩ := s.at' i x q1
    exact ⟨v, h1, VR.ctx (C := C) (C' := ⟨C.K, C.T, C.c, hid, H1⟩) rfl rfl q2 (h2.ext e hp)⟩⟩
/-- where a lambda's body stands -/
structure LvL (X : Cx) (C : DC) (E : XK) (k : Nat) : Prop where
  b : Lv0 X C k
  pass : Passes (L2N.CX X.prog X.w) X E
theorem fe_err {tab : Str → Option Str} {nn x a f q : Str} {st : Stmt} {Ng : List Str} {k n : Nat} {params : Arguments} {body : Expr} {scope : Scope} {A : CE} {p lpos pos : Pos} (l : Lv0 X C n) (F : At X.K X.mg x st) (Sg : FnScope Ng [a] (defScope st)) (hNg : Ng[0]? = some a) (hva : Vis (defScope st) a)
    (hb1 : ∀ (kV doc pm : Value) (an : Option Addr) (cd ct : Value) (us : List Value), us.length = 1 → bindArgs (PySem.W.fnOf x x (defArgs st) (defBody st) (defScope st) .none kV doc pm an cd ct) ⟨us, []⟩ = pure ([a].zip us))
    (hG : ∀ (g : Addr) (cdg : Value), GivesN (k + 1) X Ng x (defScope st) g cdg (defBody st) a (X.env.qual ++ "<lambda>") (TErr X.K C.T tab nn)) (TB : TbQ X.K X.mg X.base C.T f q) (hcode : X.env.code = .ref (He.codeOf X.K (f, none))) (hq : X.env.qual ++ "<lambda>" = q) (hk : k + 2 ≤ n) (L : LamS X.env.scope scope)
    (hb : ∀ (A0 : Around) (outer : List Env) (s : Shared) (H : Hp) (E : XK) (g c : Addr) (hid : List Addr) (H1 : Hp) (er' : Str → Prop), LvL (lamN X A0 outer s H E scope g c) ⟨C.K, C.T, C.c, hid, H1⟩ E k → EOk ⟨C.K, C.T, C.c, hid, H1⟩ er' E → PE (lamN X A0 outer s H E scope g c) body (tE ⟨C.K, C.T, C.c, hid, H1⟩ (up er' A)))
    (hg : Gl X x := by rfl) (hdef : defaultsOf params X.env = ([], []) := by rfl) (hbind : ∀ (q : Str) (cl : List (Str × Addr)) (pm cv ctv : Value), bindArgs (PySem.W.kla_fn "<lambda>" q params body scope cl pm cv ctv) ⟨[], []⟩ = pure [] := by intro _ _ _ _ _; rfl)
    (hdb : (x == ("__debug__" : Str)) = false := by decide) (hd : (a == ("__debug__" : Str)) = false := by decide) (hcd : (a == ("__classdict__" : Str)) = false := by decide) : PE X (.Call (.Name x p) [.Lambda params body scope lpos] [] pos) (tE C (up er (cErr tab nn A))) := by
  subst hq
  obtain ⟨gm, fd, F⟩ := F
  have bd := F.bindsN (ps := [a]) hb1
  have kp := F.kp
  obtain ⟨oc, od, dV, kV, doc, pm, an, cd, ct, osl, rfl, lk, hcd', _, _⟩ := F.ex
  let t : XK → TE := fun E σ H Q => ∃ (er' : Str → Prop) (hid : List Addr), EOk ⟨C.K, C.T, C.c, hid, H⟩ er' E ∧ tE ⟨C.K, C.T, C.c, hid, H⟩ (up er' A) σ H Q
  have rule := call_n (X := X) (T := C.T) (p := p) (lpos := lpos) (pos := pos) (Ng := Ng) (k := k) (t := t) (params := params) (body := body) (scope := scope) hg gm kp lk hcd' bd Sg hNg hva (hG _ _) TB.tb hcode TB.mem TB.un (l.room.mono hk) L hdef hbind
    (fun A0 outer s H E g c hr => ⟨fun pins s' σ J Q I ⟨er', hid, eo, h⟩ => (hb A0 outer s H E g c hid J er' ⟨⟨l.K, rfl, l.nd, hr⟩, L2N.passes_call (L2N.takes_of rfl rfl rfl rfl) fun _ _ _ _ h => h⟩ eo).run pins s' σ J Q I h⟩) hdb hd hcd
  refine rule.imp fun σ H Q ⟨hid, ρ, qq, hp, sr, ha, kk⟩ => ⟨hp.tabs, fun H1 eN T1 => ?_⟩
  have e1 : Ext C.c H H1 := fun b o _ e n => eN b o e n
  have lst : ∀ b o, H b = some o → OwO o → H1 b = some o := fun b o e w => eN b o e fun ps z => by rw [z] at w; exact w
  have p1 : HpOk ⟨X.K, C.T, C.c, hid, H1⟩ hid H1 := ⟨T1, fun b eb => ⟨(hp.cup b eb).1, by
    obtain ⟨u, v, h1, h2⟩ := (hp.cup b eb).2
    exact ⟨u, v, lst _ _ h1 trivial, h2⟩⟩, fun b hb => by
    obtain ⟨o, h1, h2⟩ := hp.some b hb
    exact ⟨o, lst _ _ h1 h2, h2⟩, fun b h => h, .refl⟩
  have fin : ∀ z H', PyData.strOk z = true → Ext C.c H1 H' → HpOk ⟨X.K, C.T, C.c, hid, H1⟩ hid H' → qq (.d (.str z)) → Q (.str z) H' := fun z H' hz e2 o2 h => kk (.str z) (.d (.str z)) H' (e1.trans e2) ⟨o2.tabs, o2.cup, o2.some, hp.sub, hp.ext.trans (e1.trans e2)⟩ (Dd.str z hz) h
  have sr1 := sr_noOw sr hp e1
  unfold up cErr at ha
  have hK : X.K = C.K := l.K
  split at ha
  · rename_i v ev
    obtain ⟨h1, h2⟩ := chk_wp ha
    refine ⟨C.c, hid, fun _ => False, True, p1, fun _ z => z.elim, fun E' Q' hE hQ => ⟨fun _ => False, hid, EOk.never, hid, noOw ρ, fun _ => True, by rw [← hK]; exact p1, sr1, by unfold up; rw [ev]; trivial, fun v x H' e2 o2 _ _ => hQ v H' trivial e2 (by rw [← hK] at o2; exact o2)⟩, fun z H' hz e2 o2 => ?_⟩
    rcases hz with ⟨rfl, _⟩ | ⟨cl, w, _⟩
    · exact fin _ H' h1 e2 o2 h2
    · exact w.elim
  · rename_i cl ev
    split at ha
    · rename_i z0 ez
      obtain ⟨h1, h2⟩ := chk_wp ha
      refine ⟨C.c, hid, fun c => c = cl, False, p1, fun c hc => ⟨z0, by rw [hc]; exact ez⟩, fun E' Q' hE hQ => ⟨fun c => c = cl, hid, fun c hid' H' o2 hc => by rw [← hK] at o2 ⊢; exact hE c hid' H' hc o2, hid, noOw ρ, fun _ => False, by rw [← hK]; exact p1, sr1, by unfold up; rw [ev]; rfl, fun v x H' e2 o2 _ w => w.elim⟩, fun z H' hz e2 o2 => ?_⟩
      rcases hz with ⟨_, w⟩ | ⟨c, rfl, w⟩
      · exact w.elim
      · rw [ez] at w
        cases w
        exact fin _ H' h1 e2 o2 h2
    · exact ha.elim
  · exact ha.elim
end
end Fl

set_option Elab.async false
set_option linter.all false
set_option maxRecDepth 100000
set_option maxHeartbeats 1000000
namespace Fl
open PySem PySem.Spec PyProof.Rows L2 Dl R Ho LamX
/-- a lambda within a comprehension -/
theorem lamS_in {X : Cx} {s : Shared} {H : Hp} {sc scope : Scope} {cl : List (Str × Addr)} {c : Addr} {fp : List Addr} (L : LamS sc scope) : LamS (X.blk s H sc (compEnvC sc cl c X.env) fp).env.scope scope := by
  refine ⟨L.kind, L.co, L.gen, L.own, fun y hy e => ?_⟩
  rcases L.free y hy e with k | k
  · obtain ⟨k', q1, q2⟩ := relab_look (env := X.env) k (.inl rfl)
    rcases q2 with rfl | rfl
    · exact .inl q1
    · exact .inr q1
  · obtain ⟨k', q1, q2⟩ := relab_look (env := X.env) k (.inr rfl)
    rcases q2 with rfl | rfl
    · exact .inl q1
    · exact .inr q1
/-- whether a class of the program is another one, or of it -/
def isSub (cl c : Str) : Bool := decide (cl = c) || decide (c = "HeardError") || decide (c = "ValueError")
def tabOf (l : List (Str × Str)) (cl : Str) : Option Str := (l.find? fun e => decide (e.1 = cl)).map (·.2)
theorem tabOf_mem {l : List (Str × Str)} {cl z : Str} (h : tabOf l cl = some z) : (cl, z) ∈ l := by
  unfold tabOf at h
  cases e : l.find? fun e => decide (e.1 = cl) with
  | none => rw [e] at h; cases h
  | some q =>
    rw [e] at h
    cases h
    have h1 := List.find?_some e
    have h1 : q.1 = cl := of_decide_eq_true h1
    have h2 := List.mem_of_find?_eq_some e
    rw [← h1]
    exact h2
/-- what a head tells of classes of errors: each of l beside each of cs -/
structure Clss (K : PySem.W.Frag) (l : List Str) (cs : List Str) : Prop where
  ex : ∀ cl ∈ l, ExcC K (He.ga K cl)
  kit : ∀ cl ∈ l, ∀ c ∈ cs, PySem.W.kitOne K (.ref (He.ga K cl)) (.ref (He.ga K c)) = some (isSub cl c)
  exm : ∀ cl ∈ l, PySem.W.exmOne K (.ref (He.ga K cl)) (.ref (He.ga K "HeardError")) = some true
def excB (K : PySem.W.Frag) (D : Addr) : Bool := decide (PySem.W.findIn K (.ref D) "__getattribute__" = some (some (.builtin "BaseException.__getattribute__"))) && (decide (PySem.W.findIn K (.ref D) "__getattr__" = some none) && (decide (PySem.W.subIn K (.ref D) (.type "BaseException") = some true) && (PySem.W.hasDictIn K D &&
  (decide (PySem.W.findIn K (.ref D) "__class__" = some (some (.builtin "object.__class__"))) && (decide (PySem.W.specialIn K (.builtin "object.__class__") "__get__" = some (some (.builtin "getset_descriptor.__get__"))) && (decide (PySem.W.takesIn K (.builtin "object.__class__") = some true) && decide (PySem.W.mroIn K D (.type "object") = some true)))))))
theorem excB_ok {K : PySem.W.Frag} {D : Addr} (h : excB K D = true) : ExcC K D := by
  unfold excB at h
  simp only [Bool.and_eq_true, decide_eq_true_eq] at h
  obtain ⟨h1, h2, h3, h4, h5, h6, h7, h8⟩ := h
  exact ⟨h1, h2, h3, h4, h5, h6, h7, h8⟩
def clsB (K : PySem.W.Frag) (l cs : List Str) : Bool := l.all fun cl => excB K (He.ga K cl) && (decide (PySem.W.exmOne K (.ref (He.ga K cl)) (.ref (He.ga K "HeardError")) = some true) && cs.all fun c => decide (PySem.W.kitOne K (.ref (He.ga K cl)) (.ref (He.ga K c)) = some (isSub cl c)))
theorem clsB_ok {K : PySem.W.Frag} {l cs : List Str} (h : clsB K l cs = true) : Clss K l cs := by
  unfold clsB at h
  simp only [List.all_eq_true, Bool.and_eq_true, decide_eq_true_eq] at h
  exact ⟨fun cl hc => excB_ok (h cl hc).1, fun cl hc c h2 => (h cl hc).2.2 c h2, fun cl hc => (h cl hc).2.1⟩
theorem isE_ok {i : Nat} {a : Addr} {b : Bool} {ρ : Rho} (h : ρ[i]? = some (some (.ex a))) : cIsE i a b ρ = ok (.d (.bool b)) := by
  unfold cIsE
  rw [h]
  show chk (decide (a = a)) _ = _
  rw [decide_eq_true rfl]
  rfl
/-- the def that is handed a lambda, with what names the errors -/
structure ErrD (P : Program) (w : World) (K : PySem.W.Frag) (mg : Str → Option Value) (base : Heap) (T : Tbs) (j : Nat) (x nm y : Str) (st : Stmt) (tab : Str → Option Str) : Prop where
  at' : Dl.At K mg x st
  nm : Named P w K mg base T j nm y "HeardError" tab
end Fl

set_option Elab.async false
set_option linter.all false
set_option maxRecDepth 100000
set_option maxHeartbeats 1000000
/-! a lambda that is kept: what stands at its address is known -/
namespace Ho
open PySem PySem.Spec PyProof.Rows HotX L2 LamX
/-- its words, its cells, its code -/
structure LF where
  q : Str
  params : Arguments
  body : Expr
  scope : Scope
  cl : List (Str × Addr)
  c : Addr
abbrev LF.obj (F : LF) (pm ctv : Value) : Obj := PySem.W.kla_obj "<lambda>" F.q F.params F.body F.scope F.cl pm F.c ctv
def LamO (f : Addr) (F : LF) : HO := .ext fun h => ∃ pm ctv, h.get? f = some (F.obj pm ctv)
theorem lamO_ne {f : Addr} {F : LF} (ps : Array Value) : LamO f F ≠ .tbl ps := fun z => by cases z
theorem lamO_at {P : Program} {w : World} {H : Hp} {h : Heap} {f : Addr} {F : LF} (k : HOk P w H h) (e : H f = some (LamO f F)) : ∃ pm ctv, h.get? f = some (F.obj pm ctv) := (k f _ e).1
section
variable {X : Cx} {pins : List (Addr × Obj)} {σ : L2.St} {H : Hp} {s : Shared}
theorem lam_laid {F : LF} {t : Nat} {pm ctv : Value} (I : Inv X pins σ H s) : Inv X pins σ (upd H s.heap.objs.size (LamO s.heap.objs.size F)) { s with heap := s.heap.push (F.obj pm ctv), toks := t } := by
  have e : (s.heap.push (F.obj pm ctv)).get? s.heap.objs.size = some (F.obj pm ctv) := Heap.get?_push_size _ rfl
  exact I.laid (fun b u z => Heap.get?_push_of_some _ z) (Nat.le_refl _) ⟨⟨pm, ctv, e⟩, ⟨_, e⟩, fun h1 h2 ⟨a, b, z⟩ st => ⟨a, b, st _ z⟩⟩
/-- the lambda as made by this expression -/
abbrev lfOf (X : Cx) (params : Arguments) (body : Expr) (scope : Scope) (c : Addr) : LF := ⟨X.env.qual ++ "<lambda>", params, body, scope, cloFrom X.env.cells scope.names [], c⟩
/-- what a lambda expression makes -/
def tMk (X : Cx) (T : List (Addr × Str)) (params : Arguments) (body : Expr) (scope : Scope) : TE := fun _ H Q => Tabs T H ∧ ∀ (f c : Addr) (H1 : Hp), ExtN H H1 → Tabs T H1 → H f = none → H1 f = some (LamO f (lfOf X params body scope c)) → H1 c = some (CodeO c (X.env.qual ++ "<lambda>")) → Q (.ref f) H1
theorem extN_upd {H H1 : Hp} {f : Addr} {o : HO} (e : ExtN H H1) (n : H f = none) : ExtN H (upd H1 f o) := fun b u z k => (upd_ne (ne_of_none z n)).trans (e b u z k)
theorem tabs_upd0 {T : List (Addr × Str)} {H : Hp} {f : Addr} {o : HO} (t : Tabs T H) (n : H f = none) : Tabs T (upd H f o) := fun p hp => by
  obtain ⟨ps, h1, h2, h3⟩ := t p hp
  refine ⟨ps, (upd_ne (ne_of_none h1 n)).trans h1, h2, fun pos cv hc => ?_⟩
  obtain ⟨c0, e1, e2⟩ := h3 pos cv hc
  exact ⟨c0, e1, (upd_ne (ne_of_none e2 n)).trans e2⟩
theorem pe_mk {T : List (Addr × Str)} {c P : Addr} {params : Arguments} {body : Expr} {scope : Scope} {pos : Pos} (TB : TabB X.base X.mg c P) (hcode : X.env.code = .ref c) (hm : (P, X.env.qual ++ "<lambda>") ∈ T) (hu : ∀ p ∈ T, p.1 = P → p.2 = X.env.qual ++ "<lambda>") (L : LamS X.env.scope scope)
    (hdef : defaultsOf params X.env = ([], [])) : PE X (.Lambda params body scope pos) (tMk X T params body scope) := by
  refine ⟨fun pins s σ H Q I ⟨hT, h⟩ => ?_⟩
  obtain ⟨ps, hP, ht, ha⟩ := hT _ hm
  have free := L.has I.ok
  have bP : s.heap.BuiltinsAt X.mg P := TB.bm.keeps I.bk
  have hP' : s.heap.get? P = some { cls := .none, data := .fields ps } := I.hok P _ hP
  refine PySem.W.kla_eval hdef ?_
  cases hc : codeAmong pos ps.toList with
  | some cv =>
    obtain ⟨c', rfl, hco⟩ := ha pos cv hc
    refine PySem.W.kla_makeFunctionHit (mg := X.mg) (c := c) (P := P) (ps := ps) (closure_ok free) I.ok.glob (I.mod.glob.keeps I.bk) hcode (TB.code.keeps I.bk) hP' ht hc bP fun ctv h' tk hx hsz => ?_
    have I1 : Inv X pins σ H { s with heap := h', toks := tk } := I.kept hx
    have n0 : H h'.objs.size = none := I.hok.fresh hsz
    have I2 := lam_laid (F := lfOf X params body scope c') (t := tk) (pm := (X.mg "__name__").getD .none) (ctv := ctv) I1
    exact ⟨.ref h'.objs.size, _, I2, rfl, h _ c' _ (extN_upd (ExtN.refl H) n0) (tabs_upd0 hT n0) n0 upd_same ((upd_ne (ne_of_none hco n0)).trans hco)⟩
  | none =>
    refine PySem.W.kla_makeFunction (mg := X.mg) (c := c) (P := P) (ps := ps) (closure_ok free) I.ok.glob (I.mod.glob.keeps I.bk) hcode (TB.code.keeps I.bk) hP' ht hc TB.gP bP fun c' ctv h' tk hx hge hlt hrec htb => ?_
    obtain ⟨c2, oc, vs, t, e2, hoc, hd, hv⟩ := hrec
    cases e2
    have nC : H c' = none := I.hok.fresh hge
    have I1 := inv_table (t' := tk) (more := #[rawInt pos.line, rawInt pos.col, .ref c']) (h' := h') I hP (fun b o hb e => hx b o hb e) htb hge ⟨oc, vs, t, hoc, hd, hv⟩
    have eL : (ps ++ #[rawInt pos.line, rawInt pos.col, .ref c']).toList = ps.toList ++ [rawInt pos.line, rawInt pos.col, .ref c'] := by simp
    generalize eG : upd (upd H P (.tbl (ps ++ #[rawInt pos.line, rawInt pos.col, .ref c']))) c' (CodeO c' (X.env.qual ++ "<lambda>")) = G at I1
    have gC : G c' = some (CodeO c' (X.env.qual ++ "<lambda>")) := by rw [← eG]; exact upd_same
    have hE : ExtN H G := fun b o e n => by
      rw [← eG, upd_ne (ne_of_none e nC), upd_ne (fun z => n ps (Option.some.inj (e.symm.trans (by rw [z]; exact hP))))]
      exact e
    have hG : Tabs T G := fun p hp => by
      rcases Decidable.em (p.1 = P) with hb | hb
      · rw [hu p hp hb, hb]
        refine ⟨_, by rw [← eG, upd_ne (ne_of_none hP nC), upd_same], by rw [eL]; exact PySem.TriplesOk_snoc _ _ _ _ ht, fun p' cv hcv => ?_⟩
        rw [eL] at hcv
        rcases among_app _ ht hcv with z | z
        · obtain ⟨c0, e1, e2⟩ := ha p' cv z
          exact ⟨c0, e1, hE _ _ e2 codeO_ne⟩
        · exact ⟨c', z, gC⟩
      · obtain ⟨ps', a1, a2, a3⟩ := hT p hp
        refine ⟨ps', by rw [← eG, upd_ne (ne_of_none a1 nC), upd_ne hb]; exact a1, a2, fun p' cv hcv => ?_⟩
        obtain ⟨c0, e1, e2⟩ := a3 p' cv hcv
        exact ⟨c0, e1, hE _ _ e2 codeO_ne⟩
    have sz : s.heap.objs.size ≤ h'.objs.size := Nat.le_trans hge (Nat.le_of_lt hlt)
    have n0 : G h'.objs.size = none := I1.hok.fresh (Nat.le_refl _)
    have n1 : H h'.objs.size = none := I.hok.fresh sz
    have I2 := lam_laid (F := lfOf X params body scope c') (t := tk) (pm := (X.mg "__name__").getD .none) (ctv := ctv) I1
    exact ⟨.ref h'.objs.size, _, I2, rfl, h _ c' _ (extN_upd hE n1) (tabs_upd0 hG n0) n1 upd_same ((upd_ne (ne_of_none gC n0)).trans gC)⟩
end
end Ho

set_option Elab.async false
set_option linter.all false
set_option maxRecDepth 100000
set_option maxHeartbeats 1000000
/-! a kept lambda, handed to a def -/
namespace Ho
open PySem PySem.Spec PyProof.Rows HotX L2 LamX
section
variable {X : Cx} {pins : List (Addr × Obj)} {σ : L2.St} {H : Hp} {s : Shared}
/-- a(), a the parameter that holds the lambda -/
theorem act_t {Ng : List Str} {x : Str} {sg : Scope} {g f c : Addr} {cdg : Value} {params : Arguments} {body : Expr} {scope : Scope} {k i : Nat} {a : Str} {pn : List (Addr × Obj)} {xe : Value → Shared → Prop} {W : WX} {E : XK} {tb : TE} {p1 p2 : Pos}
    (I : Inv X pins σ H s) (L : LamS X.env.scope scope) (hbind : ∀ (q : Str) (cl : List (Str × Addr)) (pm cv ctv : Value), bindArgs (PySem.W.kla_fn "<lambda>" q params body scope cl pm cv ctv) ⟨[], []⟩ = pure []) (tk : L2N.Takes ((gotN X Ng x sg g cdg s H).tr pn xe) W) (hW : ∀ cls d σ' H', E cls d H' → W cls d σ' H')
    (hr : Room (k + 1) (X.A.deeper (envOfC x sg s.heap.objs.size g cdg))) (hb : ∀ (A : Around) (outer : List Env) (s : Shared) (H : Hp), Room k (A.deeper (lamEnv X scope s.heap.objs.size f c)) → PE (lamN X A outer s H E scope f c) body tb) (hN : Ng[i]? = some a) (hv : Vis sg a)
    (hd : (a == ("__debug__" : Str)) = false := by decide) (hcd : (a == ("__classdict__" : Str)) = false := by decide) :
    PE ((gotN X Ng x sg g cdg s H).tr pn xe) (.Call (.Name a p1) [] [] p2) (fun τ J Q => τ[i]? = some (some (.ref f)) ∧ J c = some (CodeO c (X.env.qual ++ "<lambda>")) ∧ J f = some (LamO f (lfOf X params body scope c)) ∧ tb σ J Q) := by
  refine ⟨fun qs t τ J Q IZ ⟨hs, hc, hl, ht⟩ => wpAny_Call_Name_kw (thn ((pe_var (pos := p1) (i := i) hN hv hd hcd).run qs t τ J (fun v H1 => v = .ref f ∧ H1 = J) IZ ⟨.ref f, hs, rfl, rfl⟩) fun u t1 h1 => ?_)⟩
  obtain ⟨v, H1, I1, r1, rfl, rfl⟩ := h1
  obtain rfl : u = Value.ref f := r1
  obtain ⟨pm, ctv, obj⟩ := lamO_at I1.hok hl
  refine PySem.W.callWith_F0 ⟨_, _, _, _, obj⟩ ?_
  have un : Un (frs X.stack) [] H H1 s.heap t1.heap := I1.base
  obtain ⟨⟨oc, vs, tq, z1, z2, z3⟩, _, _⟩ := I1.hok c _ hc
  have rc : codeAny (model X.prog X.w) (X.A.deeper (envOfC x sg s.heap.objs.size g cdg)) (.call (.ref f) ⟨[], []⟩) (CR (L2N.CX X.prog X.w) (envOfC x sg s.heap.objs.size g cdg :: X.stack) X.prog X.w H1 t1 Q E) t1 := by
    refine PySem.W.kla_callFunE hr.depth obj rfl L.co L.gen rfl ⟨c, oc, vs, tq, rfl, z1, z2, z3⟩ ?_
    rw [show bindArgs (PySem.W.kla_fn "<lambda>" (X.env.qual ++ "<lambda>") params body scope (cloFrom X.env.cells scope.names []) pm (.ref c) ctv) ⟨[], []⟩ = pure [] from hbind ..]
    refine wpAny_pure (wpAny_newFunctionEnv (fun y hy => (L.own y hy).2) (fun y hy => absurd hy (by simp)) (fun h1 ns sb => ⟨I1.nolimit.fresh _ sb, ?_⟩) L.kind)
    show codeAny _ _ (.expr body (lamEnv X scope t1.heap.objs.size f c)) _ _
    have J1 := (lam_start2 (E := E) (f := f) (c' := c) (tk := t1.toks + ([] : List (Str × Value)).length) I L I1.env0 hr.hd un ns fun b o e => sb.extBut b o (Nat.ne_of_lt (Heap.lt_size e)) (Heap.get?_push_of_some _ e)).toTry fun e t => wpAny (model X.prog X.w) ((X.A.deeper (envOfC x sg s.heap.objs.size g cdg)).deeper (lamEnv X scope t1.heap.objs.size f c)) (leaving (lamEnv X scope t1.heap.objs.size f c) e) (fun _ u => L2N.CX X.prog X.w (envOfC x sg s.heap.objs.size g cdg :: X.stack) H1 t1 E e u) (fun d u => L2N.CX X.prog X.w (envOfC x sg s.heap.objs.size g cdg :: X.stack) H1 t1 E d u) t
    have J2 : Inv (lamN X (X.A.deeper (envOfC x sg s.heap.objs.size g cdg)) (envOfC x sg s.heap.objs.size g cdg :: X.stack) t1 H1 E scope f c) [] σ H1 { t1 with heap := h1, toks := t1.toks + ([] : List (Str × Value)).length } := J1
    refine PySem.W.kla_codeExpr (wpAny_mono ((hb _ _ t1 H1 (hr.deeper _)).run [] _ _ H1 Q J2 ht) (fun v s' hq => ?_) fun e s' hq => hq)
    obtain ⟨w', H', J', rv, q⟩ := hq
    exact ⟨w', H', J'.os, J'.bare, J'.base, J'.hok, rv, q⟩
  have hx : Passes (L2N.CX X.prog X.w) ((gotN X Ng x sg g cdg s H).tr pn xe) E := L2N.passes_call tk hW
  refine wpAny_call (codeAny_mono rc fun r s' hq => ?_)
  match r, hq with
  | .error e, hq => exact hx qs τ H1 t1 e s' I1 hq
  | .ok (.ret u), hq => exact I1.after hq
  | .ok .next, hq => exact (show False from hq).elim
  | .ok .brk, hq => exact (show False from hq).elim
  | .ok .cont, hq => exact (show False from hq).elim
end
/-- what of a def's context is there in a block of its -/
structure OutI (X : Cx) (σ : L2.St) (s : Shared) (H : Hp) (fp : List Addr) : Prop where
  inv : ∃ pins, Inv X pins σ H s ∧ ∀ b ∈ fp, (b ∈ X.ex ∨ X.s_0.heap.objs.size ≤ b) ∧ b ≠ X.env.locals ∧ (∀ x c, X.env.cells.lookup x = some c → c ≠ b) ∧ ∀ p ∈ X.pn ++ pins, p.1 ≠ b
/-- x(v) in a block, v a kept lambda of the def -/
theorem call_t {X : Cx} {σ : L2.St} {s0 : Shared} {H0 : Hp} {sc : Scope} {ce : Env} {fp : List Addr} {T : List (Addr × Str)} {TT : (XK → Hp → VK → Prop) → Hp → VK → Prop} {x a v : Str} {g : Addr} {k i : Nat} {pg : Arguments} {bg : List Stmt} {sg : Scope} {dV kV doc pm cdv ct oc : Value} {an od : Option Addr} {osl : Array (Option Value)} {Ng : List Str} {p p3 pos : Pos}
    (O : OutI X σ s0 H0 fp) (hg : Gl (X.blk s0 H0 sc ce fp) x) (hm : X.mg x = some (.ref g)) (hk : PySem.W.keepIn X.K (.ref g) = true) (lk : X.K.lookup g = some ⟨oc, od, .func (PySem.W.fnOf x x pg bg sg dV kV doc pm an cdv ct), osl⟩) (hcg : PySem.W.codeIn X.K cdv x = true) (bd : L2.Binds X.K (PySem.W.fnOf x x pg bg sg dV kV doc pm an cdv ct) [a] []) (Sg : FnScope Ng [a] sg)
    (hNg : Ng[0]? = some a) (hva : Vis sg a) (hG : GivesN (k + 1) (X.blk s0 H0 sc ce fp) Ng x sg g cdv bg a (X.env.qual ++ "<lambda>") TT) (hr : Room (k + 2) X.A)
    (hvi : X.N[i]? = some v) (hvv : Vis (X.blk s0 H0 sc ce fp).env.scope v)
    (hdb : (x == ("__debug__" : Str)) = false := by decide) (hd : (a == ("__debug__" : Str)) = false := by decide) (hcd : (a == ("__classdict__" : Str)) = false := by decide) (hd2 : (v == ("__debug__" : Str)) = false := by decide) (hcd2 : (v == ("__classdict__" : Str)) = false := by decide) :
    PE (X.blk s0 H0 sc ce fp) (.Call (.Name x p) [.Name v p3] [] pos) (fun τ H Q => ∃ (f c : Addr) (params : Arguments) (body : Expr) (scope : Scope) (t : XK → TE), τ[i]? = some (some (.ref f)) ∧ H f = some (LamO f (lfOf X params body scope c)) ∧ H c = some (CodeO c (X.env.qual ++ "<lambda>")) ∧ LamS X.env.scope scope ∧
      (∀ (q : Str) (cl : List (Str × Addr)) (pm cv ctv : Value), bindArgs (PySem.W.kla_fn "<lambda>" q params body scope cl pm cv ctv) ⟨[], []⟩ = pure []) ∧
      (∀ (A : Around) (outer : List Env) (s : Shared) (H : Hp) (E : XK), Room k (A.deeper (lamEnv X scope s.heap.objs.size f c)) → PE (lamN X A outer s H E scope f c) body (t E)) ∧
      TT (fun E J Q' => J f = some (LamO f (lfOf X params body scope c)) ∧ t E σ J Q') H Q) := by
  refine ⟨fun pins s τ H Q I ⟨f, c, params, body, scope, t, hτ, hf, hc, L, hbind, hb, h⟩ => wpAny_Call_Name_kw (ld_glob I hg hm ?_ hdb)⟩
  refine PySem.W.callWith_K (h₀ := X.base) I.ok.mod.kin hk ?_ (by rfl) (by rfl)
  show wpAny _ _ (spliced ((false, eval (.Name v p3) (X.blk s0 H0 sc ce fp).env) :: backTo pos (starEach [] (X.blk s0 H0 sc ce fp).env))) _ _ s
  refine Calls.spliced_cons (thn ((pe_var (X := X.blk s0 H0 sc ce fp) (pos := p3) hvi hvv hd2 hcd2).run pins s τ H (fun y H1 => y = .ref f ∧ H1 = H) I ⟨.ref f, hτ, rfl, rfl⟩) fun u s1 h1 => ?_)
  obtain ⟨y, H1, I1, r1, rfl, rfl⟩ := h1
  obtain rfl : u = Value.ref f := r1
  refine Calls.spliced_nil ⟨I1.kIn, ?_⟩
  obtain ⟨pins0, IO, ch⟩ := O.inv
  have IX : Inv X pins0 σ H1 s1 := IO.call' (ch := fp) I1.os I1.base I1.hok I1.bare ch
  have rc : codeAny (model X.prog X.w) X.A (.call (.ref g) ⟨[.ref f], []⟩) (CR CX0 X.stack X.prog X.w H1 s1 Q no3) s1 := by
    refine run_ofS (N := Ng) (ps := [a]) (us := [.ref f]) (vs := [.ref f]) lk hcg Sg hr I1.env0 (bd s1 [.ref f] I1.kIn rfl) (.cons rfl .nil) rfl fun hr' => ?_
    obtain ⟨t', ht', hq'⟩ := hG f c s1 H1 Q (fun E J Q' => J f = some (LamO f (lfOf X params body scope c)) ∧ t E σ J Q') (fun W pn xe E p1 p2 tk hW => act_t (i := 0) IX L hbind tk hW hr' (fun A outer s H hr2 => hb A outer s H E hr2) hNg hva hd hcd) hc h hr'
    exact ⟨t', ht'.nox, hq'⟩
  refine wpAny_call (codeAny_mono rc fun r s2 hq => ?_)
  match r, hq with
  | .error e, hq => exact (show False from hq).elim
  | .ok (.ret u), hq => exact I1.after hq
  | .ok .next, hq => exact (show False from hq).elim
  | .ok .brk, hq => exact (show False from hq).elim
  | .ok .cont, hq => exact (show False from hq).elim
end Ho

set_option Elab.async false
set_option linter.all false
set_option maxRecDepth 100000
set_option maxHeartbeats 1000000
/-! a list comprehension whose items are read with what is known of the def around it -/
namespace Ho
open PySem PySem.Spec PyProof.Rows HotX L2 LamX
section
variable {X : Cx} {pins : List (Addr × Obj)} {σ : L2.St} {H : Hp} {s : Shared} {scope : Scope} {own : List (Str × Nat)}
/-- [elt for tg in iter if ..], elt read with what is known of the def -/
theorem pe_lcO {elt tg iter : Expr} {ifs : List Expr} {pos : Pos} {wi : TI} {g : TG} {tt : TT} {te : L2.St → TE} (hc : X.calm = true) (hN : X.N.Nodup) (hi : PI X tg iter wi) (ok : BlkOk X.N X.env.scope scope own)
    (hg : ∀ (s : Shared) (H : Hp) (C : Addr) (cl : List (Str × Addr)) (fp : List Addr), PG (X.blk s H scope (compEnvC scope cl C X.env) fp) tg g) (ht : ∀ (s : Shared) (H : Hp) (C : Addr) (cl : List (Str × Addr)) (fp : List Addr), PTs (X.blk s H scope (compEnvC scope cl C X.env) fp) ifs tt)
    (he : ∀ (σ : L2.St) (s : Shared) (H : Hp) (C : Addr) (cl : List (Str × Addr)) (fp : List Addr), OutI X σ s H fp → PE (X.blk s H scope (compEnvC scope cl C X.env) fp) elt (te σ)) (hs : ∀ x, foldedSetIterable iter X.env x = pure x := by intro _; rfl) :
    PE X (.ListComp elt [⟨tg, iter, ifs, 0⟩] scope pos) (fun σ => tLc wi g tt (te σ) (own.map (·.2)) σ) := by
  refine ⟨fun pins s σ H Q I h => ?_⟩
  rw [eval_ListComp]
  have free : ∀ y ∈ scope.names, y.2 = .free → ∃ c, X.env.cells.lookup y.1 = some c := fun y hy e => (ok.free y hy e).elim (fun k => I.ok.has _ (.inl k)) fun k => I.ok.has _ (.inr k)
  refine wpAny_comprehension_free (use := none) rfl hs (closure_ok free) ok.kind (fun y hy e => by rw [ok.uniq y hy, e]) (thn (hi.run pins s σ H _ I h) fun xv s1 hx => thn hx fun itv s2 h2 => ?_)
  obtain ⟨it, fp, tn, J, H2, e, I2, T, st2, f2, q⟩ := h2
  subst e
  refine wpAny_newObj_type (newEnv_comp ?_) (by show 0 ≤ sizeLine; decide)
  generalize eD : s2.heap.objs.size = D
  obtain ⟨W, ⟨m0, w0⟩, turn⟩ := q D (I2.hok.fresh (Nat.le_of_eq eD))
  generalize e3 : ({ s2 with heap := s2.heap.push { cls := .type "list", data := .seq ([] : List Value).toArray } } : Shared) = s3
  have p3 : s3.heap = s2.heap.push { cls := .type "list", data := .seq ([] : List Value).toArray } := by rw [← e3]
  have up3 : ∀ b o, s2.heap.get? b = some o → s3.heap.get? b = some o := fun b o z => by rw [p3]; exact Heap.get?_push_of_some _ z
  have I3 : Inv X pins σ (upd H2 D (.lst [])) s3 := by
    rw [← e3]
    refine I2.laid (t' := s2.toks) (fun b o z => Heap.get?_push_of_some _ z) (Nat.le_of_eq eD) ⟨Nat.zero_le _, [], 0, .nil, ?_⟩
    rw [← eD]
    exact Heap.get?_push_size _ rfl
  have lt2 : ∀ b ∈ fp, b < s2.heap.objs.size := fun b hb => let ⟨o, z, _⟩ := T.obj _ _ st2 b hb; Heap.lt_size z
  have f3 : ∀ b ∈ fp, FpOk X pins (upd H2 D (.lst [])) b ∧ b < s3.heap.objs.size := fun b hb =>
    ⟨⟨by rw [upd_ne (by rw [← eD]; exact Nat.ne_of_lt (lt2 b hb))]; exact (f2 b hb).1, (f2 b hb).2⟩, by rw [p3, Heap.size_push]; exact Nat.lt_succ_of_lt (lt2 b hb)⟩
  have I4 := block_start (scope := scope) I3 ok hN f3
  have out : OutI X σ s3 (upd H2 D (.lst [])) fp := ⟨pins, I3, fun b hb => ⟨(f3 b hb).1.2.2.2.1, (f3 b hb).1.2.1, (f3 b hb).1.2.2.2.2.1, (f3 b hb).1.2.2.2.2.2⟩⟩
  generalize ecl : cellsFrom (s3.heap.objs.size + 1) scope.names (cloFrom X.env.cells scope.names []) = cl at I4
  have kg := hg s3 (upd H2 D (.lst [])) s3.heap.objs.size cl fp
  have kt := ht s3 (upd H2 D (.lst [])) s3.heap.objs.size cl fp
  have ke := he σ s3 (upd H2 D (.lst [])) s3.heap.objs.size cl fp out
  subst ecl
  show codeAny _ _ (.compStart (.ListComp elt [⟨tg, iter, ifs, 0⟩] scope pos) 0 (.ref it) (.ref D) (compEnvC scope (cellsFrom (s3.heap.objs.size + 1) scope.names (cloFrom X.env.cells scope.names [])) s3.heap.objs.size X.env)) (compPost (model X.prog X.w) X.A X.xe none _ (.ref D) s3.heap.objs.size) { s3 with heap := pushCells (s3.heap.push { cls := .type "dict", data := .dict #[] }) scope.names }
  generalize ece : compEnvC scope (cellsFrom (s3.heap.objs.size + 1) scope.names (cloFrom X.env.cells scope.names [])) s3.heap.objs.size X.env = ce at I4 kg kt ke ⊢
  have cL : ce.locals = s3.heap.objs.size := by subst ece; rfl
  generalize e4 : ({ s3 with heap := pushCells (s3.heap.push { cls := .type "dict", data := .dict #[] }) scope.names } : Shared) = s4 at I4 ⊢
  have st4 : tn 0 s4.heap := T.keep _ _ _ st2 fun b _ o z => by rw [← e4]; exact pushCells_keeps _ _ _ _ (Heap.get?_push_of_some _ (up3 b o z))
  have hB : (X.blk s3 (upd H2 D (.lst [])) scope ce fp).calm = true := hc
  have n4 : ∀ b ∈ fp, (upd H2 D (.lst [])) b = none := fun b hb => (f3 b hb).1.1
  generalize eH : upd H2 D (.lst []) = H3 at I3 I4 kg kt ke w0 f3 hB n4
  generalize eB : X.blk s3 H3 scope ce fp = B at I4 kg kt ke hB
  have fo : ∀ {H' : Hp}, (∀ b ∈ fp, H' b = none) → ∀ b ∈ fp, FpOk B [] H' b := fun hn b hb => by
    subst eB
    refine ⟨hn b hb, (I4.ok.exf b hb).1, I4.ok.exfs b hb, .inl hb, fun x c z => (I4.ok.exf b hb).2 x c z, fun r hr => ?_⟩
    exact absurd (show r ∈ ([] : List (Addr × Obj)) ++ [] from hr) (by simp)
  have TB : Turn B.prog B.w B.K tg J fp it tn := by subst eB; exact T
  have loop : codeAny (model B.prog B.w) B.A (.compLoop (.ListComp elt [⟨tg, iter, ifs, 0⟩] scope pos) 0 (.ref it) (.ref D) B.env) (compPost (model X.prog X.w) X.A X.xe none (EP X pins σ Q) (.ref D) s3.heap.objs.size) s4 := by
    refine compLoop_any (fun n t => ∃ i H', Inv B [] (wipe σ (own.map (·.2))) H' t ∧ tn i t.heap ∧ (∀ b ∈ fp, H' b = none) ∧ W i n H') ?_ m0 ⟨0, H3, I4, st4, n4, w0⟩
    rintro n t ⟨i, H5, I5, st5, n5, w5⟩
    rcases turn i n H5 w5 with ⟨stop, qq⟩ | ⟨go, Nx, hNx, step⟩
    · refine thnF (TB.done B rfl rfl rfl hB i [] t _ H5 (fun _ _ => False) I5 (fo n5) st5 stop) fun r t6 ⟨hr, I6⟩ => ?_
      subst hr
      subst eB
      have I7 : Inv X pins σ H5 t6 := I3.call' (ch := fp) I6.os I6.base I6.hok I6.bare fun b hb => ⟨(f3 b hb).1.2.2.2.1, (f3 b hb).1.2.1, (f3 b hb).1.2.2.2.2.1, (f3 b hb).1.2.2.2.2.2⟩
      have nC : H5 s3.heap.objs.size = none := by have z : H5 ce.locals = none := I6.free; rwa [cL] at z
      obtain ⟨m, hn, _⟩ := I6.loc
      obtain ⟨f0, f1, _, f3', f4, f5⟩ := I3.fpOk (Nat.le_refl _) nC
      exact ⟨m, by have z : t6.heap.Ns ce.locals m := hn; rwa [cL] at z, fun h1 sb => ⟨.ref D, H5, I7.turned (t' := t6.toks) (fun b o hb z => (sb.2 b hb).trans z) f0 f1 f3' f4 f5, rfl, qq⟩⟩
    · refine thnF (TB.item B rfl rfl rfl hB i [] t _ H5 (fun _ _ => False) I5 (fo n5) st5 go) fun r t6 ⟨u, hr, h6⟩ => ?_
      subst hr
      refine thnF h6 fun _ t7 ⟨x, H7, I7, r7, y7, st7, n7⟩ => ?_
      have xe : B.xe = fun _ _ => False := by subst eB; rfl
      refine thnF (xe ▸ kg.run _ t7 _ H7 x u _ (I7.pinned (fo n7) (T.obj _ _ st7)) r7 (step x H7 y7)) fun _ t8 ⟨σ8, H8, I8, hw8, q8⟩ => ?_
      refine thnF (xe ▸ kt.run _ t8 σ8 H8 _ I8 q8) fun b t9 ⟨H9, I9, q9⟩ => ?_
      have next : ∀ {s' : Shared} {H' : Hp}, Inv B ([] ++ pinsAt fp t7.heap) σ8 H' s' → Nx H' → ∃ m, m < n ∧ ∃ i H', Inv B [] (wipe σ (own.map (·.2))) H' s' ∧ tn i s'.heap ∧ (∀ b ∈ fp, H' b = none) ∧ W i m H' := fun {s' H'} I' nx => by
        obtain ⟨m', hm, w'⟩ := hNx H' nx
        have pin : ∀ b ∈ fp, ∀ o, t7.heap.get? b = some o → s'.heap.get? b = some o ∧ H' b = none := fun b hb o z =>
          let y := I'.pin (b, o) (List.mem_append_right _ (List.mem_append_right _ (mem_pinsAt hb z)))
          ⟨y.1, y.2.1⟩
        refine ⟨m', hm, i + 1, H', (I'.unpinned (pins := [])).weak (by rw [← hw8, wipe_length]) (fun j v z => ?_), T.keep _ _ _ st7 fun b hb o z => (pin b hb o z).1, fun b hb => ?_, w'⟩
        · rw [← hw8] at z
          exact (wipe_some z).1
        · obtain ⟨o, z, _⟩ := T.obj _ _ st7 b hb
          exact (pin b hb o z).2
      cases b with
      | false => exact next I9 q9
      | true =>
        refine thnF (xe ▸ ke.run _ t9 σ8 H9 _ I9 q9) fun z t10 ⟨yv, H10, I10, r10, acc, hD10, hz10, nx⟩ => ?_
        exact app_ok (X := B) I10 hD10 hz10 r10 fun t11 I11 => next I11 nx
  subst eB
  exact codeAny_compStart_list loop (T.self X.A 0 _ _ _ st4 loop)
end
end Ho

set_option Elab.async false
set_option linter.all false
set_option maxRecDepth 100000
set_option maxHeartbeats 1000000
/-! kept lambdas as data: what each is when called, the names of the errors that a list of them raises -/
namespace Fl
open PySem PySem.Spec PyProof.Rows L2 Dl R Ho LamX
/-- the lambda at f is A -/
def Kn (X : Cx) (C : DC) (k : Nat) (A : CE) (f : Addr) (H : Hp) : Prop := ∃ (c : Addr) (params : Arguments) (body : Expr) (scope : Scope), H f = some (LamO f (lfOf X params body scope c)) ∧ H c = some (CodeO c (X.env.qual ++ "<lambda>")) ∧ LamS X.env.scope scope ∧
  (∀ (q : Str) (cl : List (Str × Addr)) (pm cv ctv : Value), bindArgs (PySem.W.kla_fn "<lambda>" q params body scope cl pm cv ctv) ⟨[], []⟩ = pure []) ∧
  ∀ (A0 : Around) (outer : List Env) (s : Shared) (H : Hp) (E : XK) (c : Addr) (hid : List Addr) (H1 : Hp) (er' : Str → Prop), LvL (lamN X A0 outer s H E scope f c) ⟨C.K, C.T, C.c, hid, H1⟩ E k → EOk ⟨C.K, C.T, C.c, hid, H1⟩ er' E → PE (lamN X A0 outer s H E scope f c) body (tE ⟨C.K, C.T, C.c, hid, H1⟩ (up er' A))
section
variable {X : Cx} {C : DC}
theorem cup_ne {hid : List Addr} {H : Hp} {b : Addr} {φ : Heap → Prop} (hp : HpOk C hid H) (h : H b = some (.ext φ)) : C.c ≠ some b := fun z => by
  obtain ⟨u, v, h1, _⟩ := (hp.cup b z).2
  rw [h] at h1
  cases h1
theorem Kn.ext {k : Nat} {A : CE} {f : Addr} {hid : List Addr} {H H' : Hp} (h : Kn X C k A f H) (hp : HpOk C hid H) (e : Ext C.c H H') : Kn X C k A f H' := by
  obtain ⟨c, params, body, scope, h1, h2, r⟩ := h
  exact ⟨c, params, body, scope, e f _ (cup_ne hp h1) h1 (fun ps => lamO_ne ps), e c _ (cup_ne hp h2) h2 (fun ps => codeO_ne ps), r⟩
/-- Kn goes on where what is not hidden goes on -/
theorem Kn.stp {k : Nat} {A : CE} {f : Addr} {hid hid' : List Addr} {H H' : Hp} (h : Kn X C k A f H) (hp : HpOk C hid H) (e : Stp hid H hid' H') : Kn X C k A f H' := by
  obtain ⟨c, params, body, scope, h1, h2, r⟩ := h
  have nh : ∀ {b : Addr} {φ : Heap → Prop}, H b = some (.ext φ) → b ∉ hid := fun {b φ} z w => by
    obtain ⟨o, h3, h4⟩ := hp.some b w
    rw [z] at h3
    cases h3
    exact h4
  exact ⟨c, params, body, scope, e.fz f _ (nh h1) h1 (fun ps => lamO_ne ps), e.fz c _ (nh h2) h2 (fun ps => codeO_ne ps), r⟩
end
/-- the name of the error of the lambda in the block's slot i -/
def tErrV (X : Cx) (C : DC) (k : Nat) (tab : Str → Option Str) (nn : Str) (i : Nat) (σ : L2.St) : TE := fun τ H Q => ∃ (hid : List Addr) (ρ : Rho) (f : Addr) (A : CE) (z : Str), HpOk C hid H ∧ SR C hid σ H ρ ∧ τ[i]? = some (some (.ref f)) ∧ Kn X C k A f H ∧ cErr tab nn A ρ = ok (.d (.str z)) ∧ ∀ H', Ext C.c H H' → HpOk C hid H' → PyData.strOk z = true → Q (.str z) H'
section
variable {X : Cx} {C : DC} {s0 : Shared} {H0 : Hp} {sc : Scope} {ce : Env} {fp : List Addr} {σ : L2.St}
theorem pe_errV {tab : Str → Option Str} {nn x a v : Str} {st : Stmt} {Ng : List Str} {k n i : Nat} {p p3 pos : Pos} (l : Lv0 X C n) (O : OutI X σ s0 H0 fp) (F : At X.K X.mg x st) (Sg : FnScope Ng [a] (defScope st)) (hNg : Ng[0]? = some a) (hva : Vis (defScope st) a)
    (hb1 : ∀ (kV doc pm : Value) (an : Option Addr) (cd ct : Value) (us : List Value), us.length = 1 → bindArgs (PySem.W.fnOf x x (defArgs st) (defBody st) (defScope st) .none kV doc pm an cd ct) ⟨us, []⟩ = pure ([a].zip us))
    (hG : ∀ (g : Addr) (cdg : Value), GivesN (k + 1) (X.blk s0 H0 sc ce fp) Ng x (defScope st) g cdg (defBody st) a (X.env.qual ++ "<lambda>") (TErr X.K C.T tab nn)) (hk : k + 2 ≤ n)
    (hg : Gl (X.blk s0 H0 sc ce fp) x) (hvi : X.N[i]? = some v) (hvv : Vis (X.blk s0 H0 sc ce fp).env.scope v)
    (hdb : (x == ("__debug__" : Str)) = false := by decide) (hd : (a == ("__debug__" : Str)) = false := by decide) (hcd : (a == ("__classdict__" : Str)) = false := by decide) (hd2 : (v == ("__debug__" : Str)) = false := by decide) (hcd2 : (v == ("__classdict__" : Str)) = false := by decide) :
    PE (X.blk s0 H0 sc ce fp) (.Call (.Name x p) [.Name v p3] [] pos) (tErrV X C k tab nn i σ) := by
  obtain ⟨gm, fd, F⟩ := F
  have bd := F.bindsN (ps := [a]) hb1
  have kp := F.kp
  obtain ⟨oc, od, dV, kV, doc, pm, an, cd, ct, osl, rfl, lk, hcd', _, _⟩ := F.ex
  have rule := call_t (X := X) (p := p) (p3 := p3) (pos := pos) (k := k) (T := C.T) O hg gm kp lk hcd' bd Sg hNg hva (hG _ _) (l.room.mono hk) hvi hvv hdb hd hcd hd2 hcd2
  refine rule.imp fun τ H Q ⟨hid, ρ, f, A, z, hp, sr, hτ, ⟨c, params, body, scope, h1, h2, L, hbind, hb⟩, ev, kk⟩ => ?_
  let t : XK → TE := fun E σ H Q => ∃ (er' : Str → Prop) (hid : List Addr), EOk ⟨C.K, C.T, C.c, hid, H⟩ er' E ∧ tE ⟨C.K, C.T, C.c, hid, H⟩ (up er' A) σ H Q
  refine ⟨f, c, params, body, scope, t, hτ, h1, h2, L, hbind, fun A0 outer s H E hr => ⟨fun pins s' σ J Q I ⟨er', hid, eo, h⟩ => (hb A0 outer s H E c hid J er' ⟨⟨l.K, rfl, l.nd, hr⟩, L2N.passes_call (L2N.takes_of rfl rfl rfl rfl) fun _ _ _ _ h => h⟩ eo).run pins s' σ J Q I h⟩, ?_⟩
  have hK : X.K = C.K := l.K
  have p1 : HpOk ⟨X.K, C.T, C.c, hid, H⟩ hid H := ⟨hp.tabs, hp.cup, hp.some, fun b h => h, .refl⟩
  have p1' : HpOk ⟨C.K, C.T, C.c, hid, H⟩ hid H := ⟨hp.tabs, hp.cup, hp.some, fun b h => h, .refl⟩
  have sr1 := sr_noOw sr hp (.refl)
  have fin : ∀ z' H', z' = z → PyData.strOk z' = true → Ext C.c H H' → HpOk ⟨X.K, C.T, C.c, hid, H⟩ hid H' → Q (.str z') H' := fun z' H' ez hz e2 o2 => by
    subst ez
    exact kk H' e2 ⟨o2.tabs, o2.cup, o2.some, hp.sub, hp.ext.trans e2⟩ hz
  unfold cErr at ev
  split at ev
  · rename_i w ew
    have ev1 : PyData.strOk nn = true ∧ nn = z := by
      cases hs : PyData.strOk nn with
      | false => rw [hs] at ev; cases ev
      | true =>
        rw [hs] at ev
        have ev : R.ok (Dv.d (PyData.str nn)) = ok (.d (.str z)) := ev
        cases ev
        exact ⟨rfl, rfl⟩
    refine ⟨C.c, hid, fun _ => False, True, p1, fun _ z => z.elim, fun E' Q' hE hQ => ⟨h1, fun _ => False, hid, EOk.never, hid, noOw ρ, fun _ => True, p1', sr1, by unfold up; rw [ew]; trivial, fun v x H' e2 o2 _ _ => hQ v H' trivial e2 (by rw [← hK] at o2; exact o2)⟩, fun z' H' hz e2 o2 => ?_⟩
    rcases hz with ⟨rfl, _⟩ | ⟨cl, w, _⟩
    · exact fin _ H' ev1.2 ev1.1 e2 o2
    · exact w.elim
  · rename_i cl ew
    split at ev
    · rename_i z0 ez
      have ev1 : PyData.strOk z0 = true ∧ z0 = z := by
        cases hs : PyData.strOk z0 with
        | false => rw [hs] at ev; cases ev
        | true =>
          rw [hs] at ev
          have ev : R.ok (Dv.d (PyData.str z0)) = ok (.d (.str z)) := ev
          cases ev
          exact ⟨rfl, rfl⟩
      refine ⟨C.c, hid, fun c => c = cl, False, p1, fun c hc => ⟨z0, by rw [hc]; exact ez⟩, fun E' Q' hE hQ => ⟨h1, fun c => c = cl, hid, fun c hid' H' o2 hc => by rw [← hK] at o2 ⊢; exact hE c hid' H' hc o2, hid, noOw ρ, fun _ => False, p1', sr1, by unfold up; rw [ew]; rfl, fun v x H' e2 o2 _ w => w.elim⟩, fun z' H' hz e2 o2 => ?_⟩
      rcases hz with ⟨_, w⟩ | ⟨c, rfl, w⟩
      · exact w.elim
      · rw [ez] at w
        cases w
        exact fin _ H' ev1.2 ev1.1 e2 o2
    · cases ev
  · cases ev
end
end Fl

set_option Elab.async false
set_option linter.all false
set_option maxRecDepth 100000
set_option maxHeartbeats 1000000
/-! [e(v) for v in x], x a list of kept lambdas -/
namespace Fl
open PySem PySem.Spec PyProof.Rows L2 Dl R Ho LamX
/-- each lambda of the list is known, and what is made of it is known -/
inductive KnAll (X : Cx) (C : DC) (k : Nat) : List CE → List Addr → Hp → Prop
  | nil {H : Hp} : KnAll X C k [] [] H
  | cons {A : CE} {As : List CE} {f : Addr} {fs : List Addr} {H : Hp} : Kn X C k A f H → KnAll X C k As fs H → KnAll X C k (A :: As) (f :: fs) H
section
variable {X : Cx} {C : DC}
theorem KnAll.mono {k : Nat} {H H' : Hp} (m : ∀ A f, Kn X C k A f H → Kn X C k A f H') : ∀ {As : List CE} {fs : List Addr}, KnAll X C k As fs H → KnAll X C k As fs H'
  | _, _, .nil => .nil
  | _, _, .cons a b => .cons (m _ _ a) (b.mono m)
theorem KnAll.snoc {k : Nat} {H : Hp} {A : CE} {f : Addr} (h2 : Kn X C k A f H) : ∀ {As : List CE} {fs : List Addr}, KnAll X C k As fs H → KnAll X C k (As ++ [A]) (fs ++ [f]) H
  | _, _, .nil => .cons h2 .nil
  | _, _, .cons a b => .cons a (KnAll.snoc h2 b)
theorem KnAll.len {k : Nat} {H : Hp} : ∀ {As : List CE} {fs : List Addr}, KnAll X C k As fs H → As.length = fs.length
  | _, _, .nil => rfl
  | _, _, .cons a b => by rw [List.length_cons, List.length_cons, b.len]
theorem KnAll.at' {k : Nat} {H : Hp} : ∀ {As : List CE} {fs : List Addr} {i : Nat} {f : Addr}, KnAll X C k As fs H → fs[i]? = some f → ∃ A, As[i]? = some A ∧ Kn X C k A f H
  | _, _, 0, _, .cons a b, h => by cases h; exact ⟨_, rfl, a⟩
  | _, _, i + 1, _, .cons a b, h => b.at' h
theorem yes_t {σ : L2.St} {H : Hp} {A B : Hp → Prop} (h : A H) : tYes σ H fun b G => if b = true then A G else B G := by
  show (if true = true then A H else B H)
  rw [if_pos rfl]
  exact h
/-- each gives a name -/
def namesC (tab : Str → Option Str) (nn : Str) (ρ : Rho) (As : List CE) (zs : List Str) : Prop := As.length = zs.length ∧ ∀ (i : Nat) (A : CE) (z : Str), As[i]? = some A → zs[i]? = some z → cErr tab nn A ρ = ok (.d (.str z))
/-- the list of the names -/
def tLcV (X : Cx) (C : DC) (k : Nat) (tab : Str → Option Str) (nn : Str) (iy : Nat) : TE := fun σ H Q => ∃ (hid : List Addr) (ρ : Rho) (py : Addr) (fs : List Addr) (As : List CE) (zs : List Str), HpOk C hid H ∧ SR C hid σ H ρ ∧ σ[iy]? = some (some (.ref py)) ∧ C.c ≠ some py ∧ H py = some (.lst (fs.map V.ref)) ∧ fs.length ≤ sizeLine ∧ KnAll X C k As fs H ∧ namesC tab nn ρ As zs ∧ (∀ z ∈ zs, PyData.strOk z = true) ∧
      ∀ D H', Ext C.c H H' → HpOk C hid H' → VR C hid H' (.ref D) (.d (.list (zs.map .str))) → Q (.ref D) H'
theorem fe_lcV {tab : Str → Option Str} {nn x a v y : Str} {st : Stmt} {Ng : List Str} {k n i iy : Nat} {p p3 tp yp lpos pos : Pos} {scope : Scope} {own : List (Str × Nat)} (l : Lv0 X C n) (F : At X.K X.mg x st) (Sg : FnScope Ng [a] (defScope st)) (hNg : Ng[0]? = some a) (hva : Vis (defScope st) a)
    (hb1 : ∀ (kV doc pm : Value) (an : Option Addr) (cd ct : Value) (us : List Value), us.length = 1 → bindArgs (PySem.W.fnOf x x (defArgs st) (defBody st) (defScope st) .none kV doc pm an cd ct) ⟨us, []⟩ = pure ([a].zip us))
    (hG : ∀ (s0 : Shared) (H0 : Hp) (ce : Env) (fp : List Addr) (g : Addr) (cdg : Value), GivesN (k + 1) (X.blk s0 H0 scope ce fp) Ng x (defScope st) g cdg (defBody st) a (X.env.qual ++ "<lambda>") (TErr X.K C.T tab nn)) (hk : k + 2 ≤ n)
    (hvi : X.N[i]? = some v) (hiy : X.N[iy]? = some y) (hy : Vis X.env.scope y) (hio : i ∈ own.map (·.2)) (ok : BlkOk X.N X.env.scope scope own)
    (hg : ∀ (s0 : Shared) (H0 : Hp) (c : Addr) (cl : List (Str × Addr)) (fp : List Addr), Gl (X.blk s0 H0 scope (compEnvC scope cl c X.env) fp) x)
    (hl : ∀ (s0 : Shared) (H0 : Hp) (c : Addr) (cl : List (Str × Addr)) (fp : List Addr), L2.Loc (X.blk s0 H0 scope (compEnvC scope cl c X.env) fp).env.scope v)
    (hf : ∀ (s0 : Shared) (H0 : Hp) (c : Addr) (cl : List (Str × Addr)) (fp : List Addr), (X.blk s0 H0 scope (compEnvC scope cl c X.env) fp).fn v = true ∨ (X.blk s0 H0 scope (compEnvC scope cl c X.env) fp).env.scope.names.lookup v = some .local)
    (hvv : ∀ (s0 : Shared) (H0 : Hp) (c : Addr) (cl : List (Str × Addr)) (fp : List Addr), Vis (X.blk s0 H0 scope (compEnvC scope cl c X.env) fp).env.scope v)
    (hdb : (x == ("__debug__" : Str)) = false := by decide) (hd : (a == ("__debug__" : Str)) = false := by decide) (hcd : (a == ("__classdict__" : Str)) = false := by decide) (hd2 : (v == ("__debug__" : Str)) = false := by decide) (hcd2 : (v == ("__classdict__" : Str)) = false := by decide) (hdy : (y == ("__debug__" : Str)) = false := by decide) (hcy : (y == ("__classdict__" : Str)) = false := by decide)
    (hs : ∀ u, foldedSetIterable (.Name y yp) X.env u = pure u := by intro _; rfl) :
    PE X (.ListComp (.Call (.Name x p) [.Name v p3] [] pos) [⟨.Name v tp, .Name y yp, [], 0⟩] scope lpos) (tLcV X C k tab nn iy) := by
  have rule := pe_lcO (X := X) (scope := scope) (own := own) (pos := lpos) (tt := tYes) (te := fun σ => tErrV X C k tab nn i σ) l.calm l.nd (pi_list (tg := .Name v tp) (pe_var (pos := yp) hiy hy hdy hcy)) ok
    (fun s H c cl fp => pg_name (X := X.blk s H scope (compEnvC scope cl c X.env) fp) (pos := tp) l.nd hvi (hl s H c cl fp) (hf s H c cl fp)) (fun s H c cl fp => pts_nil)
    (fun σ s H c cl fp O => pe_errV (p := p) (p3 := p3) (pos := pos) (i := i) l O F Sg hNg hva hb1 (fun g cdg => hG s H _ fp g cdg) hk (hg s H c cl fp) hvi (hvv s H c cl fp) hdb hd hcd hd2 hcd2) hs
  refine ⟨fun pins s σ H Q I ⟨hid, ρ, py, fs, As, zs, hp, sr, hσ, hc, hH, hz, kn, ⟨nl, nm⟩, zo, kk⟩ => rule.run pins s σ H Q I ?_⟩
  have hN : σ.length = X.N.length := I.len
  have hiN : i < X.N.length := (List.getElem?_eq_some_iff.mp hvi).1
  have fl : (fs.map V.ref).length = fs.length := List.length_map ..
  have kl := kn.len
  refine ⟨.ref py, hσ, py, rfl, ⟨_, SqL.of hH⟩, fun D hD => ?_⟩
  refine lc_list (K := X.K) (xs := fs.map V.ref) (te := tErrV X C k tab nn i σ) (fun j G => Ext C.c H G ∧ HpOk C hid G ∧ G D = some (.lst ((zs.take j).map V.str))) ?_ (fun j G _ h => SqL.of (h.1 py _ hc hH (fun _ z => by cases z))) (fun j x0 G hx ⟨h1, h2, h3⟩ => ?_) fun G ⟨h1, h2, h3⟩ => ?_
  · exact ⟨Ext.new hD _, hp.new hD _, by rw [List.take_zero]; exact upd_same⟩
  · have hj : j < fs.length := by rw [← fl]; exact (List.getElem?_eq_some_iff.mp hx).1
    obtain ⟨f, hf', rfl⟩ : ∃ f, fs[j]? = some f ∧ x0 = .ref f := by
      rw [List.getElem?_map] at hx
      obtain ⟨f, e1, e2⟩ := Option.map_eq_some_iff.mp hx
      exact ⟨f, e1, e2.symm⟩
    obtain ⟨A, hA, kf⟩ := kn.at' hf'
    have hjz : j < zs.length := by omega
    obtain ⟨z, hzj⟩ : ∃ z, zs[j]? = some z := ⟨zs[j], List.getElem?_eq_getElem hjz⟩
    have sl : (wipe σ (own.map (·.2))).length = X.N.length := by rw [wipe_length, hN]
    refine ⟨by rw [wipe_set hio, wipe_idem], ?_⟩
    apply yes_t
    refine ⟨hid, ρ, f, A, z, h2, sr.ext h1 hp, ?_, kf.ext hp h1, nm j A z hA hzj, fun G' e2 o2 so => ?_⟩
    · rw [List.getElem?_set_self (by rw [sl]; exact hiN)]
    · have nD : C.c ≠ some D := fun q => by
        have := (hp.cup D q).1
        exact hp.nn D this hD
      have hD' := e2 D _ nD h3 (fun _ z => by cases z)
      refine ⟨_, hD', by rw [List.length_map, List.length_take]; omega, ?_, ?_, ?_⟩
      · exact fun b o nb hb kb => by
          rw [upd_ne (fun q => by rw [q, hD] at hb; cases hb)]
          exact (h1.trans e2) b o nb hb kb
      · refine ⟨tabs_updO o2.tabs hD' trivial, fun b q => ⟨(o2.cup b q).1, ?_⟩, fun b hb => ?_, o2.sub, fun b o nb hb kb => ?_⟩
        · obtain ⟨u, w, q1, q2⟩ := (o2.cup b q).2
          exact ⟨u, w, (upd_ne (fun (q3 : b = D) => nD (by rw [← q3]; exact q))).trans q1, q2⟩
        · rcases Decidable.em (b = D) with q | q
          · exact (hp.nn D (q ▸ hb) hD).elim
          · obtain ⟨o, q1, q2⟩ := o2.some b hb
            exact ⟨o, (upd_ne q).trans q1, q2⟩
        · rcases Decidable.em (b = D) with q | q
          · exfalso
            have := hp.ext b o nb hb kb
            rw [q, hD] at this
            cases this
          · exact (upd_ne q).trans (o2.ext b o nb hb kb)
      · rw [upd_same, List.take_succ, hzj, List.map_append]
        rfl
  · refine kk D G h1 h2 ?_
    have nh : D ∉ hid := fun q => hp.nn D q hD
    have tk : zs.take (fs.map V.ref).length = zs := List.take_of_length_le (by omega)
    rw [tk] at h3
    have dd : ∀ (ws : List Str), (∀ z ∈ ws, PyData.strOk z = true) → DdAll C.K (hide hid G) (ws.map V.str) (ws.map PyData.str) := fun ws => by
      induction ws with
      | nil => intro _; exact .nil
      | cons w ws ih => intro h; exact .cons (Dd.str w (h w List.mem_cons_self)) (ih fun z hz => h z (List.mem_cons_of_mem _ hz))
    exact Dd.lst (hide_of nh h3) (dd zs zo)
end
end Fl

set_option Elab.async false
set_option linter.all false
set_option maxRecDepth 100000
set_option maxHeartbeats 1000000
/-! x = [lambda: ..]; x.append(lambda: ..); if [e(v) for v in x] != ..: .. -/
namespace Fl
open PySem PySem.Spec PyProof.Rows L2 Dl R Ho LamX
section
variable {X : Cx} {C : DC}
theorem hide_in {hid : List Addr} {H : Hp} {p : Addr} {o : HO} (h : p ∈ hid) : hide hid (upd H p o) = hide hid H := by
  funext b
  unfold hide
  rcases Decidable.em (b ∈ hid) with q | q
  · rw [if_pos q, if_pos q]
  · rw [if_neg q, if_neg q, upd_ne (fun (z : b = p) => q (z ▸ h))]
theorem put_hid {hid : List Addr} {σ : L2.St} {H : Hp} {ρ : Rho} (s : StOk C hid σ H ρ) {p : Addr} {us ws : List V} (hm : p ∈ hid) (hc : C.c ≠ some p) (h0 : p ∉ C.hid0 ∧ Fr C.H0 p) (hH : H p = some (.lst us)) (nj : ∀ (j : Nat) (y : Dv), ρ[j]? = some (some y) → ¬ notOwn y → σ[j]? ≠ some (some (.ref p))) :
    StOk C hid σ (upd H p (.lst ws)) ρ ∧ Stp hid H hid (upd H p (.lst ws)) := by
  have h := s.hp
  refine ⟨⟨⟨tabs_updO h.tabs hH trivial, fun a e => ⟨(h.cup a e).1, ?_⟩, fun a ha => ?_, h.sub, fun b o nb hb kb => ?_⟩, ⟨s.sr.len, fun j x e => ?_⟩, s.inj⟩, ⟨fun b o nb e _ => (upd_ne (fun (z : b = p) => nb (z ▸ hm))).trans e, fun b hb => .inl hb⟩⟩
  · obtain ⟨u, v, q1, q2⟩ := (h.cup a e).2
    exact ⟨u, v, (upd_ne (fun (z : a = p) => hc (by rw [← z]; exact e))).trans q1, q2⟩
  · rcases Decidable.em (a = p) with q | q
    · exact ⟨.lst ws, by rw [q]; exact upd_same, trivial⟩
    · obtain ⟨o, q1, q2⟩ := h.some a ha
      exact ⟨o, (upd_ne q).trans q1, q2⟩
  · rcases Decidable.em (b = p) with q | q
    · exfalso
      subst q
      obtain ⟨ps, e⟩ := h0.2 o hb
      exact kb ps e
    · exact (upd_ne q).trans (h.ext b o nb hb kb)
  · obtain ⟨v, e1, r⟩ := s.sr.at' j x e
    refine ⟨v, e1, ?_⟩
    rcases Classical.em (notOwn x) with no | no
    · exact VR.free (hid := hid) (H := H) (by rw [hide_in hm]; exact fun b o e _ => e) no r
    · obtain ⟨q, o, rfl, m1, m2, m3, m4, m5⟩ := VR.owned no r
      have nq : q ≠ p := fun z => nj j x e no (by rw [e1, z])
      exact VR.own_of m1 m2 m3 ((upd_ne nq).trans m4) (by rw [hide_in hm]; exact m5)
theorem upd_upd {H : Hp} {p : Addr} {o u : HO} : upd (upd H p o) p u = upd H p u := by
  funext b
  unfold upd
  split <;> rfl
theorem drop_slot {hid : List Addr} {σ : L2.St} {H : Hp} {ρ : Rho} (s : StOk C hid σ H ρ) (i : Nat) : StOk C hid σ H (ρ.set i none) := by
  have at0 : ∀ {j : Nat} {x : Dv}, (ρ.set i none)[j]? = some (some x) → j ≠ i ∧ ρ[j]? = some (some x) := fun {j x} e => by
    rcases Decidable.em (i = j) with q | q
    · subst q
      rw [List.getElem?_set] at e
      split at e
      · split at e <;> cases e
      · contradiction
    · exact ⟨fun z => q z.symm, by rwa [List.getElem?_set_ne q] at e⟩
  exact ⟨s.hp, ⟨by rw [List.length_set]; exact s.sr.len, fun j x e => s.sr.at' j x (at0 e).2⟩, fun a b x y v n ea eb nx ny sa => s.inj a b x y v n (at0 ea).2 (at0 eb).2 nx ny sa⟩
/-- the slot iy holds a list of one's own, of kept lambdas -/
structure FnsSt (X : Cx) (C : DC) (k iy : Nat) (As : List CE) (hid : List Addr) (σ : L2.St) (H : Hp) (ρ : Rho) : Prop where
  so : StOk C hid σ H ρ
  ex : ∃ (py : Addr) (fs : List Addr), σ[iy]? = some (some (.ref py)) ∧ py ∈ hid ∧ C.c ≠ some py ∧ (py ∉ C.hid0 ∧ Fr C.H0 py) ∧ H py = some (.lst (fs.map V.ref)) ∧ fs.length ≤ 1000 ∧ KnAll X C k As fs H ∧ ∀ (j : Nat) (y : Dv), ρ[j]? = some (some y) → ¬ notOwn y → σ[j]? ≠ some (some (.ref py))
theorem fns_new {k iy : Nat} {hid : List Addr} {σ : L2.St} {H : Hp} {ρ : Rho} {A : CE} {f p : Addr} (s : StOk C hid σ H ρ) (hi : iy < ρ.length) (hf : Kn X C k A f H) (np : H p = none) : FnsSt X C k iy [A] (p :: hid) (σ.set iy (some (.ref p))) (upd H p (.lst [.ref f])) (ρ.set iy none) ∧ Stp hid H (p :: hid) (upd H p (.lst [.ref f])) := by
  obtain ⟨s1, t1⟩ := s.newOwn (vs := []) (l := []) .nil np iy
  have own : (ρ.set iy (some (Dv.own [])))[iy]? = some (some (.own [])) := by rw [List.getElem?_set_self hi]
  obtain ⟨v, e1, q, vs, rfl, m1, m2, m3, m4, m5⟩ := s1.sr.at' iy _ own
  have hl : iy < σ.length := by rw [s.sr.len]; exact hi
  have e2 : (σ.set iy (some (V.ref p)))[iy]? = some (some (.ref p)) := by rw [List.getElem?_set_self hl]
  rw [e2] at e1
  cases e1
  have nj : ∀ (j : Nat) (y : Dv), (ρ.set iy none)[j]? = some (some y) → ¬ notOwn y → (σ.set iy (some (V.ref p)))[j]? ≠ some (some (.ref p)) := fun j y ej ny => by
    have nji : iy ≠ j := fun z => by
      subst z
      rw [List.getElem?_set_self hi] at ej
      cases ej
    have ej2 : (ρ.set iy (some (Dv.own [])))[j]? = some (some y) := by
      rw [List.getElem?_set_ne nji] at ej ⊢
      exact ej
    exact s1.inj iy j _ y (.ref p) nji own ej2 (fun z => z) ny e2
  have d := drop_slot s1 iy
  rw [List.set_set] at d
  obtain ⟨s2, t2⟩ := put_hid (ws := [.ref f]) d m1 m2 m3 upd_same nj
  rw [upd_upd] at s2 t2
  have t := t1.trans t2
  have hf' := hf.stp s.hp t
  exact ⟨⟨s2, p, [f], e2, m1, m2, m3, upd_same, (by show 1 ≤ 1000; decide), .cons hf' .nil, nj⟩, t⟩
theorem fns_snoc {k iy : Nat} {As : List CE} {hid : List Addr} {σ : L2.St} {H : Hp} {ρ : Rho} {A : CE} {f py : Addr} {fs : List Addr} (s : FnsSt X C k iy As hid σ H ρ) (ha : As.length < 1000) (hf : Kn X C k A f H) (e : σ[iy]? = some (some (.ref py))) (eH : H py = some (.lst (fs.map V.ref))) : FnsSt X C k iy (As ++ [A]) hid σ (upd H py (.lst (fs.map V.ref ++ [.ref f]))) ρ ∧ Stp hid H hid (upd H py (.lst (fs.map V.ref ++ [.ref f]))) := by
  obtain ⟨so, q, gs, e1, m1, m2, m3, m4, m5, m6, m7⟩ := s
  rw [e] at e1
  cases e1
  have eg : fs.map V.ref = gs.map V.ref := by
    rw [eH] at m4
    have z := Option.some.inj m4
    injection z
  rw [eg]
  obtain ⟨s2, t2⟩ := put_hid (ws := gs.map V.ref ++ [.ref f]) so m1 m2 m3 m4 m7
  have hf' := hf.stp so.hp t2
  have kn' : KnAll X C k As gs (upd H py (.lst (gs.map V.ref ++ [.ref f]))) := m6.mono fun A f h => h.stp so.hp t2
  have ln := m6.len
  exact ⟨⟨s2, py, gs ++ [f], e, m1, m2, m3, by rw [upd_same, List.map_append]; rfl, by rw [List.length_append]; show _ + 1 ≤ _; omega, kn'.snoc hf', m7⟩, t2⟩
/-- FnsSt goes on where nothing is changed but what is new -/
theorem FnsSt.ext {k iy : Nat} {As : List CE} {hid : List Addr} {σ : L2.St} {H H' : Hp} {ρ : Rho} (s : FnsSt X C k iy As hid σ H ρ) (e : Ext C.c H H') (o : HpOk C hid H') : FnsSt X C k iy As hid σ H' ρ := by
  obtain ⟨so, py, fs, e1, m1, m2, m3, m4, m5, m6, m7⟩ := s
  exact ⟨so.ext e o, py, fs, e1, m1, m2, m3, e py _ m2 m4 (fun _ z => by cases z), m5, m6.mono fun A f h => h.ext so.hp e, m7⟩
theorem hp_extN {hid : List Addr} {H H1 : Hp} (h : HpOk C hid H) (e : ExtN H H1) (t : Tabs C.T H1) : HpOk C hid H1 ∧ Ext C.c H H1 := by
  have ex : Ext C.c H H1 := fun b o _ z n => e b o z n
  have lst : ∀ b o, H b = some o → OwO o → H1 b = some o := fun b o z w => e b o z fun ps q => by rw [q] at w; exact w
  exact ⟨⟨t, fun b eb => ⟨(h.cup b eb).1, by
    obtain ⟨u, v, h1, h2⟩ := (h.cup b eb).2
    exact ⟨u, v, lst _ _ h1 trivial, h2⟩⟩, fun b hb => by
    obtain ⟨o, h1, h2⟩ := h.some b hb
    exact ⟨o, lst _ _ h1 h2, h2⟩, h.sub, h.ext.trans ex⟩, ex⟩
end
section
variable {X : Cx} {C : DC} {er : Str → Prop}
/-- what is asked of the lambda at a place -/
structure LamK (X : Cx) (C : DC) (k : Nat) (A : CE) (params : Arguments) (body : Expr) (scope : Scope) : Prop where
  ls : LamS X.env.scope scope
  df : defaultsOf params X.env = ([], [])
  bd : ∀ (q : Str) (cl : List (Str × Addr)) (pm cv ctv : Value), bindArgs (PySem.W.kla_fn "<lambda>" q params body scope cl pm cv ctv) ⟨[], []⟩ = pure []
  hb : ∀ (A0 : Around) (outer : List Env) (s : Shared) (H : Hp) (E : XK) (f c : Addr) (hid : List Addr) (H1 : Hp) (er' : Str → Prop), LvL (lamN X A0 outer s H E scope f c) ⟨C.K, C.T, C.c, hid, H1⟩ E k → EOk ⟨C.K, C.T, C.c, hid, H1⟩ er' E → PE (lamN X A0 outer s H E scope f c) body (tE ⟨C.K, C.T, C.c, hid, H1⟩ (up er' A))
theorem pe_lamK {f q : Str} {k : Nat} {A : CE} {params : Arguments} {body : Expr} {scope : Scope} {pos : Pos} (h : LamK X C k A params body scope) (TB : TbQ X.K X.mg X.base C.T f q) (hcode : X.env.code = .ref (He.codeOf X.K (f, none))) (hq : X.env.qual ++ "<lambda>" = q) :
    PE X (.Lambda params body scope pos) (fun σ H Q => ∃ hid, HpOk C hid H ∧ ∀ f H1, Ext C.c H H1 → HpOk C hid H1 → Kn X C k A f H1 → Q (.ref f) H1) := by
  subst hq
  refine (pe_mk (pos := pos) TB.tb hcode TB.mem TB.un h.ls h.df).imp fun σ H Q ⟨hid, hp, kk⟩ => ⟨hp.tabs, fun f c H1 e t _ h1 h2 => ?_⟩
  obtain ⟨o1, e1⟩ := hp_extN hp e t
  exact kk f H1 e1 o1 ⟨c, params, body, scope, h1, h2, h.ls, h.bd, fun A0 outer s H E c hid H1 er' l eo => h.hb A0 outer s H E f c hid H1 er' l eo⟩
def tFns0 (X : Cx) (C : DC) (k iy : Nat) (A : CE) : TS := fun D σ H => ∃ hid ρ, StOk C hid σ H ρ ∧ iy < ρ.length ∧ ∀ hid' σ' H', FnsSt X C k iy [A] hid' σ' H' (ρ.set iy none) → Stp hid H hid' H' → D.nx σ' H'
theorem ps_fns0 {f q y : Str} {k iy : Nat} {A : CE} {params : Arguments} {body : Expr} {scope : Scope} {pl p1 p2 p3 : Pos} (hN : X.N.Nodup) (hi : X.N[iy]? = some y) (hl : L2.Loc X.env.scope y) (h : LamK X C k A params body scope) (TB : TbQ X.K X.mg X.base C.T f q) (hcode : X.env.code = .ref (He.codeOf X.K (f, none))) (hq : X.env.qual ++ "<lambda>" = q)
    (hf : X.fn y = true ∨ X.env.scope.names.lookup y = some .local := by first | exact Or.inl rfl | exact Or.inr rfl) (hs : swapsWith (.List [.Lambda params body scope pl] p2) (some (.Name y p1)) p3.line X.env = pure false := by rfl) (hst : starEach [.Lambda params body scope pl] X.env = (false, eval (.Lambda params body scope pl) X.env) :: starEach [] X.env := by rfl) :
    PS X (.Assign [.Name y p1] (.List [.Lambda params body scope pl] p2) p3) (tFns0 X C k iy A) :=
  (ps_set hN hi hl (pe_lst (pa_cons (pe_lamK h TB hcode hq) pa_nil hst)) hs hf).imp fun D σ H ⟨hid, ρ, so, hy, kk⟩ => ⟨hid, so.hp, fun f H1 e1 o1 kn => ⟨by show 1 ≤ sizeLine; decide, fun p np => by
    obtain ⟨a, b⟩ := fns_new (so.ext e1 o1) hy kn np
    exact kk _ _ _ a ((Stp.ext e1 so.hp).trans b)⟩⟩
def tFns1 (X : Cx) (C : DC) (k iy : Nat) (As : List CE) (A : CE) : TS := fun D σ H => ∃ hid ρ, FnsSt X C k iy As hid σ H ρ ∧ ∀ H', FnsSt X C k iy (As ++ [A]) hid σ H' ρ → Stp hid H hid H' → D.nx σ H'
theorem ps_fns1 {f q y : Str} {k iy : Nat} {As : List CE} {A : CE} {params : Arguments} {body : Expr} {scope : Scope} {pl npos apos cpos pos : Pos} (ha : As.length < 1000) (hv : PE X (.Name y npos) (tVar iy)) (h : LamK X C k A params body scope) (TB : TbQ X.K X.mg X.base C.T f q) (hcode : X.env.code = .ref (He.codeOf X.K (f, none))) (hq : X.env.qual ++ "<lambda>" = q)
    (hb : attributeBase (.Name y npos) "append" X.env (eval (.Name y npos) X.env) = eval (.Name y npos) X.env := by rfl)
    (h2 : (((backTo cpos (starEach [.Lambda params body scope pl] X.env)).all fun x => !x.1) && (backToKw cpos (keywordEach [] X.env)).all (fun x => x.1.isSome) && decide (([.Lambda params body scope pl] : List Expr).length + ([] : List Keyword).length + (if ([] : List Keyword).isEmpty then 0 else 1) < 30)) = true := by rfl)
    (h3 : (apos.endLine == cpos.line) = true := by rfl) (h4 : starEach [.Lambda params body scope pl] X.env = (false, eval (.Lambda params body scope pl) X.env) :: starEach [] X.env := by rfl) (h5 : (backTo cpos (starEach ([] : List Expr) X.env)).any (·.1) = false := by rfl)
    (hs : swapsWith (.Call (.Attribute (.Name y npos) "append" apos) [.Lambda params body scope pl] [] cpos) none pos.line X.env = pure false := by rfl) :
    PS X (.Expr (.Call (.Attribute (.Name y npos) "append" apos) [.Lambda params body scope pl] [] cpos) pos) (tFns1 X C k iy As A) :=
  (ps_expr (pe_bm PySem.F.plainAttrs_list PySem.F.slot_list_append PySem.F.type_list_append mt_append hv (pa_cons (pe_lamK h TB hcode hq) pa_nil h4) hb h2 h3 h4 h5) hs).imp fun D σ H ⟨hid, ρ, s, kk⟩ => by
    obtain ⟨py, fs, e1, m1, m2, m3, m4, m5, m6, m7⟩ := s.ex
    refine ⟨_, e1, .inl ⟨rfl, _, SqL.of m4⟩, hid, s.so.hp, fun f H1 x1 o1 kn => ?_⟩
    have s1 := s.ext x1 o1
    have m4' := x1 py _ m2 m4 (fun _ z => by cases z)
    refine ⟨py, fs.map V.ref, .ref f, rfl, rfl, m4', by rw [List.length_map]; exact Nat.lt_of_le_of_lt m5 (by decide), ?_⟩
    obtain ⟨a, b⟩ := fns_snoc s1 ha kn e1 m4'
    exact kk _ a ((Stp.ext x1 s.so.hp).trans b)
noncomputable section
/-- the names of the errors -/
def namesR (tab : Str → Option Str) (nn : Str) : List CE → Rho → R (List PyData)
  | [], _ => ok []
  | A :: As, ρ => (cErr tab nn A ρ).bind fun x => (dR x).bind fun d => (namesR tab nn As ρ).bind fun l => ok (d :: l)
def cFnsIf (tab : Str → Option Str) (nn : Str) (As : List CE) (B : CE) (s t : CS) (ρ : Rho) : R Out := (namesR tab nn As ρ).bind fun l => (B ρ).bind fun y => (neC (.d (.list l)) y).bind fun t' => (boolR t').bind fun b => iff b (s ρ) (t ρ)
/-- all of it -/
def cFns (iy : Nat) (tab : Str → Option Str) (nn : Str) (As : List CE) (B : CE) (s t : CS) (ρ : Rho) : R Out := cFnsIf tab nn As B s t (ρ.set iy none)
end
end
end Fl

set_option Elab.async false
set_option linter.all false
set_option maxRecDepth 100000
set_option maxHeartbeats 1000000
/-! the names of the errors of a list of lambdas, asked at once -/
namespace Fl
open PySem PySem.Spec PyProof.Rows L2 Dl R Ho LamX
theorem cErr_inv (tab : Str → Option Str) (nn : Str) (A : CE) (ρ : Rho) : cErr tab nn A ρ = no ∨ ∃ z, PyData.strOk z = true ∧ cErr tab nn A ρ = ok (.d (.str z)) := by
  have one : ∀ z : Str, (chk (PyData.strOk z) (R.ok (Dv.d (PyData.str z))) = no) ∨ ∃ w, PyData.strOk w = true ∧ chk (PyData.strOk z) (R.ok (Dv.d (PyData.str z))) = ok (.d (.str w)) := fun z => by
    cases h : PyData.strOk z with
    | false => exact .inl rfl
    | true => exact .inr ⟨z, h, rfl⟩
  unfold cErr
  split
  · exact one nn
  · split
    · exact one _
    · exact .inl rfl
  · exact .inl rfl
theorem names_inv {tab : Str → Option Str} {nn : Str} {ρ : Rho} : ∀ {As : List CE} {β : Type} {f : List PyData → R β} {q : β → Prop} {ee : Str → Prop}, wp ((namesR tab nn As ρ).bind f) q ee → ∃ zs : List Str, namesC tab nn ρ As zs ∧ (∀ z ∈ zs, PyData.strOk z = true) ∧ wp (f (zs.map .str)) q ee
  | [], β, f, q, ee, w => ⟨[], ⟨rfl, fun i A z h => by cases h⟩, fun z h => (by cases h), w⟩
  | A :: As, β, f, q, ee, w => by
    unfold namesR at w
    rcases cErr_inv tab nn A ρ with h | ⟨z, hz, h⟩
    · rw [h] at w
      exact w.elim
    · rw [h] at w
      have w2 : wp ((namesR tab nn As ρ).bind fun l => f (.str z :: l)) q ee := by
        rw [wp_bind] at w ⊢
        have w : wp ((namesR tab nn As ρ).bind fun l => ok (PyData.str z :: l)) (fun l => wp (f l) q ee) ee := w
        rw [wp_bind] at w
        exact w
      obtain ⟨zs, ⟨n1, n2⟩, so, w3⟩ := names_inv w2
      refine ⟨z :: zs, ⟨by rw [List.length_cons, List.length_cons, n1], fun i B y e1 e2 => ?_⟩, fun y hy => ?_, w3⟩
      · cases i with
        | zero => cases e1; cases e2; exact h
        | succ i => exact n2 i B y e1 e2
      · rcases List.mem_cons.mp hy with rfl | hy
        · exact hz
        · exact so y hy
section
variable {X : Cx} {C : DC} {er : Str → Prop}
def tFnsIf (X : Cx) (C : DC) (k iy : Nat) (As : List CE) (S : DS) : TS := fun D σ H => ∃ hid ρ d, FnsSt X C k iy As hid σ H ρ ∧ S d ρ ∧ EndsR C hid H d D
theorem ps_fnsIf {tab : Str → Option Str} {nn : Str} {k n iy : Nat} {As : List CE} {B : CE} {s t : CS} {lc rhs : Expr} {a b : List Stmt} {cp ip : Pos} (l : Lv0 X C n) (hl : PE X lc (tLcV X C k tab nn iy)) (hr : PE X rhs (tE C (up er B))) (ha : PSs X a (tS C (upS er s))) (hb : PSs X b (tS C (upS er t))) (hm : behindInMarks .NotEq rhs = false := by rfl) :
    PS X (.If (.Compare lc [.NotEq] [rhs] cp) a b ip) (tFnsIf X C k iy As (upS er (cFnsIf tab nn As B s t))) :=
  (ps_if (pt_cmpR (ne_ok l) hl hr hm) ha hb).imp fun D σ H ⟨hid, ρ, d, st, w, en⟩ => by
    unfold upS cFnsIf at w
    obtain ⟨zs, nc, so, w⟩ := names_inv w
    obtain ⟨py, fs, e1, m1, m2, m3, m4, m5, m6, m7⟩ := st.ex
    refine ⟨hid, ρ, py, fs, As, zs, st.so.hp, st.so.sr, e1, m2, m4, Nat.le_trans m5 (by decide), m6, nc, so, fun P H1 x1 o1 r1 => ?_⟩
    rw [wp_bind] at w
    refine ⟨hid, ρ, _, o1, st.so.sr.ext x1 st.so.hp, w, fun v y H2 x2 o2 r2 w2 => ?_⟩
    rw [wp_bind] at w2
    refine ⟨hid, .d (.list (zs.map .str)), y, _, o2, VR.ext x2 o1 r1, r2, neC_ok er _ _ _ w2, fun u z H3 x3 o3 r3 w3 => ?_⟩
    rw [wp_bind] at w3
    have x13 := (x1.trans x2).trans x3
    have s3 := st.so.ext x13 o3
    cases z with
    | d z =>
      cases z with
      | bool b =>
        cases r3
        refine ⟨b, rfl, ?_⟩
        cases b with
        | true => exact ⟨hid, ρ, d, s3, w3, en.step (Stp.ext x13 st.so.hp)⟩
        | false => exact ⟨hid, ρ, d, s3, w3, en.step (Stp.ext x13 st.so.hp)⟩
      | _ => exact w3.elim
    | _ => exact w3.elim
/-- the whole of it, three lambdas -/
theorem fs_fns3 {k iy : Nat} {y : Str} {A1 A2 A3 : CE} {tab : Str → Option Str} {nn : Str} {B : CE} {s u r : CS} {s1 s2 s3 s4 : Stmt} {rest : List Stmt} (hi : X.N[iy]? = some y) (h1 : PS X s1 (tFns0 X C k iy A1)) (h2 : PS X s2 (tFns1 X C k iy [A1] A2)) (h3 : PS X s3 (tFns1 X C k iy [A1, A2] A3)) (h4 : PS X s4 (tFnsIf X C k iy [A1, A2, A3] (upS er (cFnsIf tab nn [A1, A2, A3] B s u)))) (hr : PSs X rest (tS C (upS er r))) :
    PSs X (s1 :: s2 :: s3 :: s4 :: rest) (tS C (upS er (cSeq (cFns iy tab nn [A1, A2, A3] B s u) r))) := by
  refine ⟨fun pins s' σ H D I ⟨hid, ρ, d, so, w, en⟩ => (pss_cons h1 (pss_cons h2 (pss_cons h3 (pss_cons h4 hr)))).run pins s' σ H D I ?_⟩
  have lt : iy < ρ.length := by
    rw [← so.sr.len, I.len]
    exact (List.getElem?_eq_some_iff.mp hi).1
  refine ⟨hid, ρ, so, lt, fun hid1 σ1 H1 f1 t1 => ⟨hid1, _, f1, fun H2 f2 t2 => ⟨hid1, _, f2, fun H3 f3 t3 => ?_⟩⟩⟩
  have t := (t1.trans t2).trans t3
  have en3 := en.step t
  have w2 : wp (cFnsIf tab nn [A1, A2, A3] B s u (ρ.set iy none)) (outK { d with nx := upS er r d }) er := by
    unfold upS cSeq at w
    rw [wp_bind] at w
    refine wp_mono (fun o h => ?_) w
    cases o <;> exact h
  exact ⟨hid1, ρ.set iy none, { d with nx := upS er r d }, f3, w2, ⟨fun hid' σ' H' ρ' so' st' h => ⟨hid', ρ', d, so', h, en3.step st'⟩, en3.bk, en3.ct, en3.rt⟩⟩
end
end Fl

set_option Elab.async false
set_option linter.all false
set_option maxRecDepth 100000
set_option maxHeartbeats 1000000
/-! the errors of a list of lambdas asked behind an `or`; `[..].index(z)` of texts -/
namespace Fl
open PySem PySem.Spec PyProof.Rows L2 Dl R Ho LamX
def cFnsIfO (A : CT) (tab : Str → Option Str) (nn : Str) (As : List CE) (B : CE) (s t : CS) (ρ : Rho) : R Out := (A ρ).bind fun v => iff v (s ρ) (cFnsIf tab nn As B s t ρ)
def cFnsO (iy : Nat) (A : CT) (tab : Str → Option Str) (nn : Str) (As : List CE) (B : CE) (s t : CS) (ρ : Rho) : R Out := cFnsIfO A tab nn As B s t (ρ.set iy none)
section
variable {X : Cx} {C : DC} {er : Str → Prop}
theorem ps_fnsIfO {tab : Str → Option Str} {nn : Str} {k n iy : Nat} {As : List CE} {A : CT} {B : CE} {s t : CS} {e0 lc rhs : Expr} {a b : List Stmt} {cp op ip : Pos} (l : Lv0 X C n) (h0 : PT X e0 (tT C (up er A))) (hl : PE X lc (tLcV X C k tab nn iy)) (hr : PE X rhs (tE C (up er B))) (ha : PSs X a (tS C (upS er s))) (hb : PSs X b (tS C (upS er t))) (hm : behindInMarks .NotEq rhs = false := by rfl) :
    PS X (.If (.BoolOp .Or [e0, .Compare lc [.NotEq] [rhs] cp] op) a b ip) (tFnsIf X C k iy As (upS er (cFnsIfO A tab nn As B s t))) :=
  (ps_if (PW.pt (pw_or h0 (pw_or1 (pt_cmpR (ne_ok l) hl hr hm)))) ha hb).imp fun D σ H ⟨hid, ρ, d, st, w, en⟩ => by
    unfold upS cFnsIfO at w
    rw [wp_bind] at w
    refine ⟨hid, ρ, _, st.so.hp, st.so.sr, w, fun v H0 x0 o0 w0 => ?_⟩
    have t0 := st.ext x0 o0
    have en0 := en.step (Stp.ext x0 st.so.hp)
    cases v with
    | true => exact ⟨hid, ρ, d, t0.so, w0, en0⟩
    | false =>
      have w : wp (cFnsIf tab nn As B s t ρ) (outK d) er := w0
      unfold cFnsIf at w
      obtain ⟨zs, nc, so, w⟩ := names_inv w
      obtain ⟨py, fs, e1, m1, m2, m3, m4, m5, m6, m7⟩ := t0.ex
      refine ⟨hid, ρ, py, fs, As, zs, t0.so.hp, t0.so.sr, e1, m2, m4, Nat.le_trans m5 (by decide), m6, nc, so, fun P H1 x1 o1 r1 => ?_⟩
      rw [wp_bind] at w
      refine ⟨hid, ρ, _, o1, t0.so.sr.ext x1 t0.so.hp, w, fun v y H2 x2 o2 r2 w2 => ?_⟩
      rw [wp_bind] at w2
      refine ⟨hid, .d (.list (zs.map .str)), y, _, o2, VR.ext x2 o1 r1, r2, neC_ok er _ _ _ w2, fun u z H3 x3 o3 r3 w3 => ?_⟩
      rw [wp_bind] at w3
      have x13 := (x1.trans x2).trans x3
      have s3 := t0.so.ext x13 o3
      have en3 := en0.step (Stp.ext x13 t0.so.hp)
      cases z with
      | d z =>
        cases z with
        | bool b =>
          cases r3
          refine ⟨b, rfl, ?_⟩
          cases b with
          | true => exact ⟨hid, ρ, d, s3, w3, en3⟩
          | false => exact ⟨hid, ρ, d, s3, w3, en3⟩
        | _ => exact w3.elim
      | _ => exact w3.elim
theorem fs_fns3O {k iy : Nat} {y : Str} {A1 A2 A3 : CE} {A : CT} {tab : Str → Option Str} {nn : Str} {B : CE} {s u r : CS} {s1 s2 s3 s4 : Stmt} {rest : List Stmt} (hi : X.N[iy]? = some y) (h1 : PS X s1 (tFns0 X C k iy A1)) (h2 : PS X s2 (tFns1 X C k iy [A1] A2)) (h3 : PS X s3 (tFns1 X C k iy [A1, A2] A3)) (h4 : PS X s4 (tFnsIf X C k iy [A1, A2, A3] (upS er (cFnsIfO A tab nn [A1, A2, A3] B s u)))) (hr : PSs X rest (tS C (upS er r))) :
    PSs X (s1 :: s2 :: s3 :: s4 :: rest) (tS C (upS er (cSeq (cFnsO iy A tab nn [A1, A2, A3] B s u) r))) := by
  refine ⟨fun pins s' σ H D I ⟨hid, ρ, d, so, w, en⟩ => (pss_cons h1 (pss_cons h2 (pss_cons h3 (pss_cons h4 hr)))).run pins s' σ H D I ?_⟩
  have lt : iy < ρ.length := by
    rw [← so.sr.len, I.len]
    exact (List.getElem?_eq_some_iff.mp hi).1
  refine ⟨hid, ρ, so, lt, fun hid1 σ1 H1 f1 t1 => ⟨hid1, _, f1, fun H2 f2 t2 => ⟨hid1, _, f2, fun H3 f3 t3 => ?_⟩⟩⟩
  have t := (t1.trans t2).trans t3
  have en3 := en.step t
  have w2 : wp (cFnsIfO A tab nn [A1, A2, A3] B s u (ρ.set iy none)) (outK { d with nx := upS er r d }) er := by
    unfold upS cSeq at w
    rw [wp_bind] at w
    refine wp_mono (fun o h => ?_) w
    cases o <;> exact h
  exact ⟨hid1, ρ.set iy none, { d with nx := upS er r d }, f3, w2, ⟨fun hid' σ' H' ρ' so' st' h => ⟨hid', ρ', d, so', h, en3.step st'⟩, en3.bk, en3.ct, en3.rt⟩⟩
def lsR : Dv → R (List PyData)
  | .d (.list ds) => ok ds
  | _ => no
def c_index (a b : CE) (ρ : Rho) : R Dv := (a ρ).bind fun x => (lsR x).bind fun ds => (b ρ).bind fun y => indexC ds y
theorem lsR_of {er : Str → Prop} {x : Dv} {q : List PyData → Prop} (h : wp (lsR x) q er) : ∃ ds, x = .d (.list ds) ∧ q ds := by
  unfold lsR at h
  split at h
  · exact ⟨_, rfl, h⟩
  · exact h.elim
theorem fe_index {o e : Expr} {A B : CE} {apos pos : Pos} {k : Nat} (l : Lv0 X C k) (ho : PE X o (tE C (up er A))) (he : PE X e (tE C (up er B)))
    (hbase : attributeBase o "index" X.env (eval o X.env) = eval o X.env := by rfl)
    (hfew : ((backTo pos (starEach [e] X.env)).all (fun x => !x.1) && (backToKw pos (keywordEach [] X.env)).all (fun x => x.1.isSome)
      && decide (([e] : List Expr).length + ([] : List Keyword).length + (if ([] : List Keyword).isEmpty then 0 else 1) < 30)) = true := by rfl)
    (hline : (apos.endLine == pos.line) = true := by rfl) (hs : starEach [e] X.env = (false, eval e X.env) :: starEach [] X.env := by rfl) (hplain : (backTo pos (starEach ([] : List Expr) X.env)).any (·.1) = false := by rfl) :
    PE X (.Call (.Attribute o "index" apos) [e] [] pos) (tE C (up er (c_index A B))) :=
  (pe_bm PySem.F.plainAttrs_list PySem.F.slot_list_index PySem.F.type_list_index mt_index ho (pa_cons he pa_nil hs) hbase hfew hline hs hplain).imp fun σ H Q ⟨hid, ρ, q, hp, sr, a, kk⟩ => ⟨hid, ρ, fun x => wp ((lsR x).bind fun ds => (B ρ).bind fun y => indexC ds y) q er, hp, sr, (by
    unfold up c_index at a
    rw [wp_bind] at a
    exact a), fun v x H1 e1 o1 r1 a1 => by
    have a1 : wp ((lsR x).bind fun ds => (B ρ).bind fun y => indexC ds y) q er := a1
    rw [wp_bind] at a1
    obtain ⟨ds, ex, a2⟩ := lsR_of a1
    subst ex
    rw [wp_bind] at a2
    obtain ⟨p, vs, ev, g1, g2⟩ := VR.lst r1 rfl
    subst ev
    have sq1 : SqL X.K H1 p vs := SqL.of g1
    refine ⟨.inl ⟨rfl, _, sq1⟩, hid, ρ, _, o1, sr.ext e1 hp, a2, fun w y H2 e2 o2 r2 a3 => ?_⟩
    have r3 : VR C hid H2 (.ref p) (.d (.list ds)) := VR.ext e2 o1 r1
    obtain ⟨p', vs', ev, g3, g4⟩ := VR.lst r3 rfl
    cases ev
    obtain ⟨ys, z, j, e3, e4, k1, k2, k3⟩ := indexC_of a3
    subst e3 e4
    cases r2
    have e5 := dd_strs g4
    subst e5
    have at_ : ∀ m : Nat, (ys.map V.str)[m]? = ys[m]?.map V.str := fun m => List.getElem?_map ..
    refine ⟨p, ys.map V.str, .str z, j, .str z, rfl, rfl, SqL.of g3, rfl, ?_, ?_, ?_, fun m z' hm hz => ?_, kk _ (.d (.int _)) H2 (e1.trans e2) o2 (Dd.int _) k3⟩
    · rw [List.all_map]
      exact List.all_eq_true.mpr fun _ _ => rfl
    · rw [at_, k1]
      rfl
    · exact beq_self_eq_true z
    · rw [at_] at hz
      cases hy : ys[m]? with
      | none => rw [hy] at hz; cases hz
      | some u =>
        rw [hy] at hz
        cases hz
        have := k2 m hm
        rw [hy] at this
        exact beq_eq_false_iff_ne.mpr fun c => this (congrArg some c)⟩
end
end Fl

set_option Elab.async false
set_option linter.all false
set_option maxRecDepth 100000
set_option maxHeartbeats 4000000
namespace Fl
open PySem PySem.Spec PyProof.Rows L2 Dl R
noncomputable section
/-! ### the defs as functions of data -/
def k_CARD_WAYS : List PyData := [.str "marked", .str "paired"]
def k_STATES : List PyData := [.str "none", .str "sent", .str "let"]
def k_KINDS : List PyData := [.str "words", .str "answers", .str "lets", .str "dones"]
def m_is_integer : List Dv → R Dv := body 3 0 (cRet (cAnd (cFun isiC (cCons (cVar 0) (cCons (cTy "int") cNil))) (cAnd (cNotE (cFun isiC (cCons (cVar 0) (cCons (cTy "bool") cNil)))) (cChain leC leC (cVar 1) (cVar 0) (cVar 2)))))
def m_is_card : List Dv → R Dv := body 1 1 (cRet (cAnd (cFun isiC (cCons (cVar 0) (cCons (cTy "tuple") cNil))) (cAnd (cOp eqC (cFun lenC (cCons (cVar 0) cNil)) (cC (.int 7))) (cAnd (cOp isinC (cOp ixC (cVar 0) (cC (.int 0))) (cC (.tuple k_CARD_WAYS))) (cAnd (cOp isinC (cOp ixC (cVar 0) (cC (.int 1))) (cC (.tuple k_STATES))) (cAnd (cFun isiC (cCons (cOp ixC (cVar 0) (cC (.int 2))) (cCons (cTy "bool") cNil))) (cFun allC (cCons (cLc (cIt (cSl (cVar 0) (cPart (cC (.int 3))) cNoPart)) (tgN 1) cYes (cCallN m_is_integer (cCons (cVar 1) (cCons (cC (.int 0)) (cCons (cC (.int 12)) cNil)))) [1]) cNil))))))))
def m_check_card : List Dv → R Dv := body 1 0 (cIf (cNot (cB (cCall m_is_card (cCons (cVar 0) cNil)))) (cRaise "InvalidCard") cNext)
def m_can_be : List Dv → R Dv := body 1 7 (cSeq (cAsg (cVar 0) (tgT 7 (tgsCons (tgN 1) (tgsCons (tgN 2) (tgsCons (tgN 3) (tgsCons (tgN 4) (tgsCons (tgN 5) (tgsCons (tgN 6) (tgsCons (tgN 7) tgsNil)))))))))
    (cSeq (cIf (cB (cOp eqC (cVar 1) (cC (.str "marked")))) (cRet (cAnd (cOp neC (cVar 2) (cC (.str "let"))) (cAnd (cNotE (cVar 3)) (cChain eqC eqC (cVar 6) (cVar 7) (cC (.int 0)))))) cNext)
    (cSeq (cIf (cB (cOp eqC (cVar 2) (cC (.str "sent")))) (cRet (cAnd (cChain eqC eqC (cVar 6) (cVar 7) (cC (.int 0))) (cOr (cVar 3) (cOp eqC (cVar 5) (cC (.int 0)))))) cNext)
    (cSeq (cIf (cB (cOp eqC (cVar 2) (cC (.str "let")))) (cRet (cAnd (cOp eqC (cVar 4) (cC (.int 0))) (cOr (cNotE (cVar 3)) (cOp eqC (cVar 7) (cC (.int 0)))))) cNext)
    (cRet (cAnd (cOp eqC (cVar 4) (cC (.int 0))) (cNotE (cVar 3))))))))
def m_is_possible : List Dv → R Dv := body 1 0 (cSeq (cDrop (cCall m_check_card (cCons (cVar 0) cNil)))
    (cRet (cCall m_can_be (cCons (cVar 0) cNil))))
def m_with_change : List Dv → R Dv := body 3 2 (cSeq (cSet 3 (cOp addC (cC (.int 3)) (cIndexT k_KINDS (cVar 1))))
    (cSeq (cSet 4 (cOp addC (cOp ixC (cVar 0) (cVar 3)) (cVar 2)))
    (cRet (cIfE (cB (cChain leC leC (cC (.int 0)) (cVar 4) (cC (.int 12)))) (cOp addC (cOp addC (cSl (cVar 0) cNoPart (cPart (cVar 3))) (cTup (cCons (cVar 4) cNil))) (cSl (cVar 0) (cPart (cOp addC (cVar 3) (cC (.int 1)))) cNoPart)) (cC .none)))))
def m_behind_given : List Dv → R Dv := body 1 0 (cSeq (cIf (cOrT (cB (cOp neC (cOp ixC (cVar 0) (cC (.int 1))) (cC (.str "none")))) (cB (cOp neC (cFun sumC (cCons (cSl (cVar 0) (cPart (cC (.int 3))) cNoPart) cNil)) (cC (.int 0))))) (cRet (cC .none)) cNext)
    (cRet (cCall m_with_change (cCons (cOp addC (cOp addC (cSl (cVar 0) cNoPart (cPart (cC (.int 1)))) (cTup (cCons (cC (.str "sent")) cNil))) (cSl (cVar 0) (cPart (cC (.int 2))) cNoPart)) (cCons (cC (.str "words")) (cCons (cC (.int 1)) cNil))))))
def m_behind_again : List Dv → R Dv := body 1 0 (cSeq (cIf (cB (cOp eqC (cOp ixC (cVar 0) (cC (.int 1))) (cC (.str "none")))) (cRet (cC .none)) cNext)
    (cRet (cCall m_with_change (cCons (cVar 0) (cCons (cIfE (cB (cOp eqC (cOp ixC (cVar 0) (cC (.int 1))) (cC (.str "sent")))) (cC (.str "words")) (cC (.str "lets"))) (cCons (cC (.int 1)) cNil))))))
def m_behind_answer : List Dv → R Dv := body 1 4 (cSeq (cStar 4 3 [1, 2, 3, 4] (cVar 0))
    (cSeq (cIf (cB (cOp eqC (cVar 1) (cC (.str "marked")))) (cRet (cTupS (cCons (cVar 1) (cCons (cIfE (cB (cOp eqC (cVar 2) (cC (.str "sent")))) (cC (.str "none")) (cVar 2)) (cCons (cVar 3) (cSpread (cVar 4) cNil)))))) cNext)
    (cSeq (cIf (cB (cOp gtC (cOp ixC (cVar 4) (cC (.int 0))) (cC (.int 0)))) (cRet (cVar 0)) cNext)
    (cRet (cCall m_with_change (cCons (cTupS (cCons (cVar 1) (cCons (cIfE (cB (cOp eqC (cVar 2) (cC (.str "sent")))) (cC (.str "let")) (cVar 2)) (cCons (cVar 3) (cSpread (cVar 4) cNil))))) (cCons (cC (.str "lets")) (cCons (cC (.int 1)) cNil))))))))
def m_behind_arrival : List Dv → R Dv := body 2 1 (cSeq (cSet 0 (cCall m_with_change (cCons (cVar 0) (cCons (cVar 1) (cCons (cUn negC (cC (.int 1))) cNil)))))
    (cSeq (cIf (cB (cOp isC (cVar 0) (cC .none))) (cRet (cC .none)) cNext)
    (cSeq (cIf (cB (cOp eqC (cVar 1) (cC (.str "words")))) (cSeq (cSet 2 (cOr (cOp eqC (cOp ixC (cVar 0) (cC (.int 0))) (cC (.str "paired"))) (cOp ixC (cVar 0) (cC (.int 2)))))
    (cRet (cCall m_with_change (cCons (cOp addC (cOp addC (cSl (cVar 0) cNoPart (cPart (cC (.int 2)))) (cTup (cCons (cVar 2) cNil))) (cSl (cVar 0) (cPart (cC (.int 3))) cNoPart)) (cCons (cC (.str "answers")) (cCons (cC (.int 1)) cNil)))))) cNext)
    (cSeq (cIf (cB (cOp eqC (cVar 1) (cC (.str "answers")))) (cRet (cCall m_behind_answer (cCons (cVar 0) cNil))) cNext)
    (cSeq (cIf (cB (cOp eqC (cVar 1) (cC (.str "lets")))) (cRet (cCall m_with_change (cCons (cOp addC (cOp addC (cSl (cVar 0) cNoPart (cPart (cC (.int 2)))) (cTup (cCons (cC (.bool false)) cNil))) (cSl (cVar 0) (cPart (cC (.int 3))) cNoPart)) (cCons (cC (.str "dones")) (cCons (cC (.int 1)) cNil))))) cNext)
    (cRet (cOp addC (cOp addC (cSl (cVar 0) cNoPart (cPart (cC (.int 1)))) (cTup (cCons (cIfE (cB (cOp eqC (cOp ixC (cVar 0) (cC (.int 1))) (cC (.str "let")))) (cC (.str "none")) (cOp ixC (cVar 0) (cC (.int 1)))) cNil))) (cSl (cVar 0) (cPart (cC (.int 2))) cNoPart))))))))
def m_behind_double : List Dv → R Dv := body 2 0 (cRet (cIfE (cB (cOp gtC (cOp ixC (cVar 0) (cOp addC (cC (.int 3)) (cIndexT k_KINDS (cVar 1)))) (cC (.int 0)))) (cCall m_with_change (cCons (cVar 0) (cCons (cVar 1) (cCons (cC (.int 1)) cNil)))) (cC .none)))
def m_behind_deed : List Dv → R Dv := body 2 0 (cSeq (cIf (cB (cOp eqC (cOp ixC (cVar 1) (cC (.int 0))) (cC (.str "give")))) (cRet (cCall m_behind_given (cCons (cVar 0) cNil))) cNext)
    (cSeq (cIf (cB (cOp eqC (cOp ixC (cVar 1) (cC (.int 0))) (cC (.str "again")))) (cRet (cCall m_behind_again (cCons (cVar 0) cNil))) cNext)
    (cSeq (cIf (cB (cOp eqC (cOp ixC (cVar 1) (cC (.int 0))) (cC (.str "lose")))) (cRet (cCall m_with_change (cCons (cVar 0) (cCons (cOp ixC (cVar 1) (cC (.int 1))) (cCons (cUn negC (cC (.int 1))) cNil))))) cNext)
    (cSeq (cIf (cB (cOp eqC (cOp ixC (cVar 1) (cC (.int 0))) (cC (.str "double")))) (cRet (cCall m_behind_double (cCons (cVar 0) (cCons (cOp ixC (cVar 1) (cC (.int 1))) cNil)))) cNext)
    (cRet (cCall m_behind_arrival (cCons (cVar 0) (cCons (cOp ixC (cVar 1) (cC (.int 1))) cNil))))))))
def m_possible_deeds : List Dv → R Dv := body 1 4 (cSeq (cSet 1 (cOp addC (cLst (cCons (cTup (cCons (cC (.str "give")) cNil)) (cCons (cTup (cCons (cC (.str "again")) cNil)) cNil))) (cLc2 (cIt (cTup (cCons (cC (.str "lose")) (cCons (cC (.str "double")) (cCons (cC (.str "arrive")) cNil))))) (tgN 2) cYes (cTop k_KINDS) (tgN 3) cYes (cTup (cCons (cVar 2) (cCons (cVar 3) cNil))) [2, 3] [3])))
    (cRet (cFun sorted2C (cCons (cLc (cIt (cVar 1)) (tgN 4) (cB (cOp isNotC (cCallN m_behind_deed (cCons (cVar 0) (cCons (cVar 4) cNil))) (cC .none))) (cVar 4) [4]) cNil))))
def m_card_events : List Dv → R Dv := body 1 0 (cSeq (cDrop (cCall m_check_card (cCons (cVar 0) cNil)))
    (cRet (cCall m_possible_deeds (cCons (cVar 0) cNil))))
def m_card_behind : List Dv → R Dv := body 2 0 (cSeq (cDrop (cCall m_check_card (cCons (cVar 0) cNil)))
    (cSeq (cIf (cB (cOp notInC (cVar 1) (cCall m_possible_deeds (cCons (cVar 0) cNil)))) (cRaise "CannotHappen") cNext)
    (cRet (cCall m_behind_deed (cCons (cVar 0) (cCons (cVar 1) cNil))))))
def m__law_some : List Dv → R Dv := body 2 0 (cRet (cOp ixC (cVar 1) (cCall m__law_roll (cCons (cVar 0) (cCons (cFun lenC (cCons (cVar 1) cNil)) cNil)))))
def m__law_deeds : List Dv → R Dv := body 0 3 (cSeq (cSet 0 (cLst (cCons (cTup (cCons (cC (.str "again")) cNil)) (cCons (cTup (cCons (cC (.str "give")) cNil)) cNil))))
    (cSeq (cFor (cIt (cTup (cCons (cC (.str "arrive")) (cCons (cC (.str "double")) (cCons (cC (.str "lose")) cNil))))) (tgN 1) (cSet 0 (cOp addC (cVar 0) (cLc (cIt (cTup (cCons (cC (.str "answers")) (cCons (cC (.str "dones")) (cCons (cC (.str "lets")) (cCons (cC (.str "words")) cNil)))))) (tgN 2) cYes (cTup (cCons (cVar 1) (cCons (cVar 2) cNil))) [2]))))
    (cRet (cFun sorted2C (cCons (cVar 0) cNil)))))
def m__law_set : List Dv → R Dv := body 2 3 (cSeq (cOwnLs 2 (cVar 0))
    (cSeq (cFor (cIt (cVar 1)) (tgT 2 (tgsCons (tgN 3) (tgsCons (tgN 4) tgsNil))) (cPutL 2 (cVar 3) (cVar 4)))
    (cFrz 2 (cRet (cIfE (cAndT (cB (cOp geC (cFun min1C (cCons (cSl (cVar 2) (cPart (cC (.int 3))) cNoPart) cNil)) (cC (.int 0)))) (cB (cOp leC (cFun max1C (cCons (cSl (cVar 2) (cPart (cC (.int 3))) cNoPart) cNil)) (cC (.int 12))))) (cFun tupleC (cCons (cVar 2) cNil)) (cC .none))))))
def m__law_card_after : List Dv → R Dv := body 2 8 (cSeq (cAsg (cVar 0) (tgT 7 (tgsCons (tgN 2) (tgsCons (tgN 3) (tgsCons (tgN 4) (tgsCons (tgN 5) (tgsCons (tgN 6) (tgsCons (tgN 7) (tgsCons (tgN 8) tgsNil)))))))))
    (cSeq (cIf (cB (cOp eqC (cVar 1) (cTup (cCons (cC (.str "give")) cNil)))) (cRet (cIfE (cAndT (cB (cOp eqC (cVar 3) (cC (.str "none")))) (cB (cOp eqC (cOp addC (cOp addC (cOp addC (cVar 5) (cVar 6)) (cVar 7)) (cVar 8)) (cC (.int 0))))) (cTup (cCons (cVar 2) (cCons (cC (.str "sent")) (cCons (cVar 4) (cCons (cC (.int 1)) (cCons (cC (.int 0)) (cCons (cC (.int 0)) (cCons (cC (.int 0)) cNil)))))))) (cC .none))) cNext)
    (cSeq (cIf (cB (cOp eqC (cVar 1) (cTup (cCons (cC (.str "again")) cNil)))) (cSeq (cIf (cB (cOp eqC (cVar 3) (cC (.str "none")))) (cRet (cC .none)) cNext)
    (cRet (cCall m__law_set (cCons (cVar 0) (cCons (cIfE (cB (cOp eqC (cVar 3) (cC (.str "sent")))) (cLst (cCons (cTup (cCons (cC (.int 3)) (cCons (cOp addC (cVar 5) (cC (.int 1))) cNil))) cNil)) (cLst (cCons (cTup (cCons (cC (.int 5)) (cCons (cOp addC (cVar 7) (cC (.int 1))) cNil))) cNil))) cNil))))) cNext)
    (cSeq (cSet 9 (cOp addC (c_index (cLst (cCons (cC (.str "words")) (cCons (cC (.str "answers")) (cCons (cC (.str "lets")) (cCons (cC (.str "dones")) cNil))))) (cOp ixC (cVar 1) (cC (.int 1)))) (cC (.int 3))))
    (cSeq (cIf (cB (cOp eqC (cOp ixC (cVar 0) (cVar 9)) (cC (.int 0)))) (cRet (cC .none)) cNext)
    (cSeq (cIf (cB (cOp neC (cOp ixC (cVar 1) (cC (.int 0))) (cC (.str "arrive")))) (cRet (cCall m__law_set (cCons (cVar 0) (cCons (cLst (cCons (cTup (cCons (cVar 9) (cCons (cOp addC (cOp ixC (cVar 0) (cVar 9)) (cIfE (cB (cOp eqC (cOp ixC (cVar 1) (cC (.int 0))) (cC (.str "double")))) (cC (.int 1)) (cUn negC (cC (.int 1))))) cNil))) cNil)) cNil)))) cNext)
    (cSeq (cIf (cB (cOp eqC (cVar 9) (cC (.int 3)))) (cRet (cCall m__law_set (cCons (cVar 0) (cCons (cLst (cCons (cTup (cCons (cC (.int 3)) (cCons (cOp subC (cVar 5) (cC (.int 1))) cNil))) (cCons (cTup (cCons (cC (.int 4)) (cCons (cOp addC (cVar 6) (cC (.int 1))) cNil))) (cCons (cTup (cCons (cC (.int 2)) (cCons (cIfE (cB (cOp eqC (cVar 2) (cC (.str "paired")))) (cC (.bool true)) (cVar 4)) cNil))) cNil)))) cNil)))) cNext)
    (cSeq (cIf (cB (cOp eqC (cVar 9) (cC (.int 5)))) (cRet (cCall m__law_set (cCons (cVar 0) (cCons (cLst (cCons (cTup (cCons (cC (.int 5)) (cCons (cOp subC (cVar 7) (cC (.int 1))) cNil))) (cCons (cTup (cCons (cC (.int 6)) (cCons (cOp addC (cVar 8) (cC (.int 1))) cNil))) (cCons (cTup (cCons (cC (.int 2)) (cCons (cC (.bool false)) cNil))) cNil)))) cNil)))) cNext)
    (cSeq (cIf (cB (cOp eqC (cVar 9) (cC (.int 6)))) (cRet (cCall m__law_set (cCons (cVar 0) (cCons (cLst (cCons (cTup (cCons (cC (.int 6)) (cCons (cOp subC (cVar 8) (cC (.int 1))) cNil))) (cCons (cTup (cCons (cC (.int 1)) (cCons (cIfE (cB (cOp eqC (cVar 3) (cC (.str "let")))) (cC (.str "none")) (cVar 3)) cNil))) cNil))) cNil)))) cNext)
    (cSeq (cIf (cB (cOp eqC (cVar 2) (cC (.str "marked")))) (cRet (cCall m__law_set (cCons (cVar 0) (cCons (cLst (cCons (cTup (cCons (cC (.int 4)) (cCons (cOp subC (cVar 6) (cC (.int 1))) cNil))) (cCons (cTup (cCons (cC (.int 1)) (cCons (cIfE (cB (cOp eqC (cVar 3) (cC (.str "sent")))) (cC (.str "none")) (cVar 3)) cNil))) cNil))) cNil)))) cNext)
    (cSeq (cIf (cB (cOp gtC (cVar 5) (cC (.int 0)))) (cRet (cCall m__law_set (cCons (cVar 0) (cCons (cLst (cCons (cTup (cCons (cC (.int 4)) (cCons (cOp subC (cVar 6) (cC (.int 1))) cNil))) cNil)) cNil)))) cNext)
    (cRet (cCall m__law_set (cCons (cVar 0) (cCons (cLst (cCons (cTup (cCons (cC (.int 4)) (cCons (cOp subC (cVar 6) (cC (.int 1))) cNil))) (cCons (cTup (cCons (cC (.int 5)) (cCons (cOp addC (cVar 7) (cC (.int 1))) cNil))) (cCons (cTup (cCons (cC (.int 1)) (cCons (cIfE (cB (cOp eqC (cVar 3) (cC (.str "sent")))) (cC (.str "let")) (cVar 3)) cNil))) cNil)))) cNil)))))))))))))))
def m__law_possible : List Dv → R Dv := body 1 7 (cSeq (cAsg (cVar 0) (tgT 7 (tgsCons (tgN 1) (tgsCons (tgN 2) (tgsCons (tgN 3) (tgsCons (tgN 4) (tgsCons (tgN 5) (tgsCons (tgN 6) (tgsCons (tgN 7) tgsNil)))))))))
    (cSeq (cIf (cB (cOp eqC (cVar 1) (cC (.str "marked")))) (cRet (cOp isinC (cTup (cCons (cVar 2) (cCons (cVar 3) (cCons (cVar 6) (cCons (cVar 7) cNil))))) (cLst (cCons (cTup (cCons (cC (.str "sent")) (cCons (cC (.bool false)) (cCons (cC (.int 0)) (cCons (cC (.int 0)) cNil))))) (cCons (cTup (cCons (cC (.str "none")) (cCons (cC (.bool false)) (cCons (cC (.int 0)) (cCons (cC (.int 0)) cNil))))) cNil))))) cNext)
    (cSeq (cIf (cB (cOp eqC (cVar 2) (cC (.str "sent")))) (cRet (cAnd (cOp eqC (cTup (cCons (cVar 6) (cCons (cVar 7) cNil))) (cTup (cCons (cC (.int 0)) (cCons (cC (.int 0)) cNil)))) (cOr (cVar 3) (cOp eqC (cVar 5) (cC (.int 0)))))) cNext)
    (cSeq (cIf (cB (cOp eqC (cVar 2) (cC (.str "let")))) (cRet (cAnd (cOp eqC (cVar 4) (cC (.int 0))) (cOr (cOp eqC (cVar 7) (cC (.int 0))) (cNotE (cVar 3))))) cNext)
    (cRet (cAnd (cOp eqC (cVar 4) (cC (.int 0))) (cNotE (cVar 3))))))))
def m__law_card : List Dv → R Dv := body 1 4 (cSeq (cSet 1 (cFun tupleC (cCons (cLc (cRng1 (cC (.int 4))) (tgN 2) cYes (cCallN m__law_some (cCons (cVar 0) (cCons (cLst (cCons (cC (.int 0)) (cCons (cC (.int 0)) (cCons (cC (.int 0)) (cCons (cC (.int 1)) (cCons (cC (.int 1)) (cCons (cC (.int 2)) (cCons (cC (.int 3)) (cCons (cC (.int 12)) cNil))))))))) cNil))) [2]) cNil)))
    (cSeq (cPar 3 4 (cCons (cCall m__law_some (cCons (cVar 0) (cCons (cLst (cCons (cC (.str "marked")) (cCons (cC (.str "paired")) (cCons (cC (.str "paired")) cNil)))) cNil))) (cCons (cCall m__law_some (cCons (cVar 0) (cCons (cLst (cCons (cC (.str "none")) (cCons (cC (.str "sent")) (cCons (cC (.str "let")) cNil)))) cNil))) cNil)))
    (cRet (cOp addC (cTup (cCons (cVar 3) (cCons (cVar 4) (cCons (cOp eqC (cCall m__law_roll (cCons (cVar 0) (cCons (cC (.int 2)) cNil))) (cC (.int 0))) cNil)))) (cVar 1)))))
def tabL : List (Str × Str) := [("InvalidCard", "card"), ("CannotHappen", "cannot")]
def tabE : Str → Option Str := tabOf tabL
def clsL : List Str := ["InvalidCard", "CannotHappen"]
def clsM : List Str := ["InvalidEvents", "InvalidSizes", "InvalidCard", "InvalidWorld", "InvalidSide", "InvalidNames", "CannotHappen"]
def ms__law_name (a : Addr) (cl : Str) : CS := (cSeq (cSet 1 (cLst (cCons (cIsE 0 a (isSub cl "InvalidCard")) (cCons (cIsE 0 a (isSub cl "InvalidSizes")) (cCons (cIsE 0 a (isSub cl "InvalidEvents")) cNil)))))
    (cSeq (cSet 1 (cOp addHC (cVar 1) (cLst (cCons (cIsE 0 a (isSub cl "InvalidNames")) (cCons (cIsE 0 a (isSub cl "InvalidSide")) (cCons (cIsE 0 a (isSub cl "InvalidWorld")) cNil))))))
    (cSeq (cSet 2 (c_split (cC (.str "card sizes events names side world cannot")) (cC (.str " "))))
    (cRet (c_join (cC (.str " ")) (cLc (cZipH (cVar 2) (cOp addHC (cVar 1) (cLst (cCons (cIsE 0 a (isSub cl "CannotHappen")) cNil)))) (tgT 2 (tgsCons (tgN 3) (tgsCons (tgN 4) tgsNil))) (cB (cVar 4)) (cVar 3) [3, 4]))))))
def m__law_name (a : Addr) (cl : Str) : R Dv := body 1 4 (ms__law_name a cl) [.ex a]
def m__law_step_right : List Dv → R Dv := body 1 2 (cSeq (cSet 1 (cLc (cIt (cCall0 m__law_deeds)) (tgN 2) (cB (cOp isNotC (cCallN m__law_card_after (cCons (cVar 0) (cCons (cVar 2) cNil))) (cC .none))) (cVar 2) [2]))
    (cSeq (cIf (cOrT (cB (cOp isNotC (cCall m_is_card (cCons (cVar 0) cNil)) (cC (.bool true)))) (cB (cOp neC (cCall m_card_events (cCons (cVar 0) cNil)) (cVar 1)))) (cRet (cC (.bool false))) cNext)
    (cSeq (cFor (cIt (cCall0 m__law_deeds)) (tgN 2) (cIf (cB (cOp isinC (cVar 2) (cVar 1))) (cIf (cB (cOp neC (cCall m_card_behind (cCons (cVar 0) (cCons (cVar 2) cNil))) (cCall m__law_card_after (cCons (cVar 0) (cCons (cVar 2) cNil))))) (cRet (cC (.bool false))) cNext) (cIf (cB (cOp neC (cErr tabE "none" (cCall m_card_behind (cCons (cVar 0) (cCons (cVar 2) cNil)))) (cC (.str "cannot")))) (cRet (cC (.bool false))) cNext)))
    (cRet (cC (.bool true))))))
def m__law_walk_right : List Dv → R Dv := body 2 3 (cSeq (cSet 2 (cCall m__law_possible (cCons (cVar 1) cNil)))
    (cSeq (cFor (cRng1 (cC (.int 12))) (tgN 3) (cSeq (cIf (cOrT (cNot (cB (cCall m__law_step_right (cCons (cVar 1) cNil)))) (cB (cOp neC (cCall m_is_possible (cCons (cVar 1) cNil)) (cCall m__law_possible (cCons (cVar 1) cNil))))) (cRet (cC (.bool false))) cNext)
    (cSeq (cIf (cAndT (cB (cVar 2)) (cNot (cB (cCall m__law_possible (cCons (cVar 1) cNil))))) (cRet (cC (.bool false))) cNext)
    (cSeq (cSet 4 (cCall m_card_events (cCons (cVar 1) cNil)))
    (cSeq (cIf (cB (cOp eqC (cVar 4) (cLst cNil))) (cRet (cC (.bool true))) cNext)
    (cSet 1 (cCall m_card_behind (cCons (cVar 1) (cCons (cCall m__law_some (cCons (cVar 0) (cCons (cVar 4) cNil))) cNil)))))))))
    (cRet (cC (.bool true)))))
def m__law_near_right : List Dv → R Dv := body 2 6 (cSeq (cSet 2 (cCall m__law_roll (cCons (cVar 0) (cCons (cC (.int 7)) cNil))))
    (cSeq (cSet 3 (cLst (cCons (cC .none) (cCons (cC (.str "none")) (cCons (cC (.str "sent")) (cCons (cC (.str "done")) (cCons (cC (.bool true)) (cCons (cC (.bool false)) (cCons (cC (.int 0)) (cCons (cC (.int 1)) (cCons (cUn negC (cC (.int 1))) (cCons (cC (.int 12)) (cCons (cC (.int 13)) (cCons (cC (.str "12")) (cCons (cTup cNil) (cCons (cC (.str "light")) (cCons (cC (.str "paired")) cNil)))))))))))))))))
    (cSeq (cSet 4 (cCall m__law_some (cCons (cVar 0) (cCons (cVar 3) cNil))))
    (cSeq (cSet 5 (cOp addC (cOp addC (cSl (cVar 1) cNoPart (cPart (cVar 2))) (cTup (cCons (cVar 4) cNil))) (cSl (cVar 1) (cPart (cOp addC (cVar 2) (cC (.int 1)))) cNoPart)))
    (cSeq (cIf (cB (cOp ltC (cVar 2) (cC (.int 2)))) (cSet 6 (cAnd (cFun isiC (cCons (cVar 4) (cCons (cTy "str") cNil))) (cOp isinC (cVar 4) (cOp ixC (cTup (cCons (cTup (cCons (cC (.str "marked")) (cCons (cC (.str "paired")) cNil))) (cCons (cTup (cCons (cC (.str "none")) (cCons (cC (.str "sent")) (cCons (cC (.str "let")) cNil)))) cNil))) (cVar 2))))) (cIf (cB (cOp eqC (cVar 2) (cC (.int 2)))) (cSet 6 (cFun isiC (cCons (cVar 4) (cCons (cTy "bool") cNil)))) (cSet 6 (cAnd (cFun isiC (cCons (cVar 4) (cCons (cTy "int") cNil))) (cAnd (cNotE (cFun isiC (cCons (cVar 4) (cCons (cTy "bool") cNil)))) (cChain leC leC (cC (.int 0)) (cVar 4) (cC (.int 12))))))))
    (cSeq (cSet 7 (cCall m_is_card (cCons (cVar 5) cNil)))
    (cRet (cAnd (cFun isiC (cCons (cVar 7) (cCons (cTy "bool") cNil))) (cOp eqC (cVar 7) (cVar 6))))))))))
end
end Fl

set_option Elab.async false
set_option linter.all false
set_option maxRecDepth 100000
set_option maxHeartbeats 4000000
namespace Fl
open PySem PySem.Spec PyProof.Rows L2 Dl R
/-! ### statement by statement -/
theorem seq_nx {s t : CS} {ρ ρ' : Rho} (h : s ρ = ok (.nx ρ')) : cSeq s t ρ = t ρ' := by
  unfold cSeq
  rw [h]
  rfl
theorem seq_rt {s t : CS} {ρ : Rho} {v : Dv} (h : s ρ = ok (.rt v)) : cSeq s t ρ = ok (.rt v) := by
  unfold cSeq
  rw [h]
  rfl
theorem seq_er {s t : CS} {ρ : Rho} {c : Str} (h : s ρ = er c) : cSeq s t ρ = er c := by
  unfold cSeq
  rw [h]
  rfl
theorem if_t {c : CT} {s t : CS} {ρ : Rho} (h : c ρ = ok true) : cIf c s t ρ = s ρ := by
  unfold cIf
  rw [h]
  rfl
theorem if_f {c : CT} {s t : CS} {ρ : Rho} (h : c ρ = ok false) : cIf c s t ρ = t ρ := by
  unfold cIf
  rw [h]
  rfl
theorem if_b {c : CT} {s t : CS} {ρ : Rho} {b : Bool} (h : c ρ = ok b) : cIf c s t ρ = iff b (s ρ) (t ρ) := by
  unfold cIf
  rw [h]
  rfl
theorem ret_ok {a : CE} {ρ : Rho} {x : PyData} (h : a ρ = ok (.d x)) : cRet a ρ = ok (.rt (.d x)) := by
  unfold cRet
  rw [h]
  rfl
theorem set_ok {i : Nat} {a : CE} {ρ : Rho} {x : PyData} (h : a ρ = ok (.d x)) : cSet i a ρ = ok (.nx (ρ.set i (some (.d x)))) := by
  unfold cSet
  rw [h]
  rfl
theorem fun1_ok {f : List Dv → R Dv} {a : CE} {ρ : Rho} {x : Dv} (h : a ρ = ok x) : cFun f (cCons a cNil) ρ = f [x] := by
  unfold cFun cCons
  rw [h]
  rfl
theorem op_ok {f : Dv → Dv → R Dv} {a b : CE} {ρ : Rho} {x y : Dv} (h : a ρ = ok x) (k : b ρ = ok y) : cOp f a b ρ = f x y := by
  unfold cOp
  rw [h, bind_ok, k, bind_ok]
theorem call_ok {m : List Dv → R Dv} {a : CA} {ρ : Rho} {xs : List Dv} (h : a ρ = ok xs) (hn : xs.all notOwnB = true := by rfl) : cCall m a ρ = m xs := by
  unfold cCall
  rw [h, bind_ok, chk_t hn]
theorem callN_ok {m : List Dv → R Dv} {a : CA} {ρ : Rho} {xs : List Dv} (h : a ρ = ok xs) (hn : xs.all notOwnB = true := by rfl) : cCallN m a ρ = nr (m xs) := by
  unfold cCallN
  rw [h, bind_ok, chk_t hn]
theorem cons_ok {a : CE} {b : CA} {ρ : Rho} {x : Dv} {xs : List Dv} (h : a ρ = ok x) (k : b ρ = ok xs) : cCons a b ρ = ok (x :: xs) := by
  unfold cCons
  rw [h, bind_ok, k, bind_ok]
theorem drop_ok {a : CE} {ρ : Rho} {x : Dv} (h : a ρ = ok x) : cDrop a ρ = ok (.nx ρ) := by
  unfold cDrop
  rw [h]
  rfl
theorem var_ok {i : Nat} {ρ : Rho} {x : Dv} (h : ρ[i]? = some (some x)) : cVar i ρ = ok x := by
  unfold cVar
  rw [h]
theorem ixT0 {k : Nat} {ρ : Rho} {x : PyData} {l : List PyData} (h : ρ[k]? = some (some (.d (.tuple (x :: l))))) : cOp ixC (cVar k) (cC (.int 0)) ρ = ok (.d x) := by
  rw [op_ok (var_ok h) rfl]
  exact atR_0
theorem ixT1 {k : Nat} {ρ : Rho} {x y : PyData} {l : List PyData} (h : ρ[k]? = some (some (.d (.tuple (x :: y :: l))))) : cOp ixC (cVar k) (cC (.int 1)) ρ = ok (.d y) := by
  rw [op_ok (var_ok h) rfl]
  exact atR_1
theorem ixT2 {k : Nat} {ρ : Rho} {x y z : PyData} {l : List PyData} (h : ρ[k]? = some (some (.d (.tuple (x :: y :: z :: l))))) : cOp ixC (cVar k) (cC (.int 2)) ρ = ok (.d z) := by
  rw [op_ok (var_ok h) rfl]
  exact atR_2
theorem body_rt {n k : Nat} {s : CS} {xs : List Dv} {v : Dv} (h : s (xs.map some ++ List.replicate k none) = ok (.rt v)) (hn : (xs.length == n) = true := by rfl) : body n k s xs = ok v := by
  unfold body
  rw [chk_t hn, h]
  rfl
theorem body_nx {n k : Nat} {s : CS} {xs : List Dv} {ρ : Rho} (h : s (xs.map some ++ List.replicate k none) = ok (.nx ρ)) (hn : (xs.length == n) = true := by rfl) : body n k s xs = ok (.d .none) := by
  unfold body
  rw [chk_t hn, h]
  rfl
theorem body_er {n k : Nat} {s : CS} {xs : List Dv} {c : Str} (h : s (xs.map some ++ List.replicate k none) = er c) (hn : (xs.length == n) = true := by rfl) : body n k s xs = er c := by
  unfold body
  rw [chk_t hn, h]
  rfl
end Fl

set_option Elab.async false
set_option linter.all false
set_option maxRecDepth 100000
set_option maxHeartbeats 400000
namespace Fl
open PySem PySem.Spec PyProof.Rows L2 Dl R
/-! ### cards: the model -/
inductive Cs | none | sent | lett
deriving DecidableEq
inductive Kd | words | answers | lets | dones
deriving DecidableEq
inductive De | again | give | arr (k : Kd) | dbl (k : Kd) | lose (k : Kd)
deriving DecidableEq
structure Cd where
  p : Bool
  s : Cs
  h : Bool
  w : Int
  a : Int
  l : Int
  d : Int
deriving DecidableEq
def pS (p : Bool) : Str := if p then "paired" else "marked"
def sS : Cs → Str
  | .none => "none"
  | .sent => "sent"
  | .lett => "let"
def kS : Kd → Str
  | .words => "words"
  | .answers => "answers"
  | .lets => "lets"
  | .dones => "dones"
def kN : Kd → Nat
  | .words => 0
  | .answers => 1
  | .lets => 2
  | .dones => 3
def enc (c : Cd) : PyData := .tuple [.str (pS c.p), .str (sS c.s), .bool c.h, .int c.w, .int c.a, .int c.l, .int c.d]
def encO : Option Cd → PyData
  | some c => enc c
  | none => .none
def encD : De → PyData
  | .again => .tuple [.str "again"]
  | .give => .tuple [.str "give"]
  | .arr k => .tuple [.str "arrive", .str (kS k)]
  | .dbl k => .tuple [.str "double", .str (kS k)]
  | .lose k => .tuple [.str "lose", .str (kS k)]
def Cd.get (c : Cd) : Kd → Int
  | .words => c.w
  | .answers => c.a
  | .lets => c.l
  | .dones => c.d
def Cd.put (c : Cd) (n : Int) : Kd → Cd
  | .words => { c with w := n }
  | .answers => { c with a := n }
  | .lets => { c with l := n }
  | .dones => { c with d := n }
def chM (c : Cd) (k : Kd) (δ : Int) : Option Cd := if decide (0 ≤ c.get k + δ) && decide (c.get k + δ ≤ 12) then some (c.put (c.get k + δ) k) else none
def behAns (c : Cd) : Option Cd := if c.p = false then some { c with s := if c.s = .sent then .none else c.s } else if decide (0 < c.w) then some c else chM { c with s := if c.s = .sent then .lett else c.s } .lets 1
def behArr (c : Cd) (k : Kd) : Option Cd := match chM c k (-1) with
  | none => none
  | some c => match k with
    | .words => chM { c with h := c.p || c.h } .answers 1
    | .answers => behAns c
    | .lets => chM { c with h := false } .dones 1
    | .dones => some { c with s := if c.s = .lett then .none else c.s }
def behM (c : Cd) : De → Option Cd
  | .give => if c.s = .none ∧ c.w + c.a + c.l + c.d = 0 then chM { c with s := .sent } .words 1 else none
  | .again => match c.s with
    | .none => none
    | .sent => chM c .words 1
    | .lett => chM c .lets 1
  | .lose k => chM c k (-1)
  | .dbl k => if decide (0 < c.get k) then chM c k 1 else none
  | .arr k => behArr c k
def okCd (c : Cd) : Prop := ∀ k, 0 ≤ c.get k ∧ c.get k ≤ 12
/-! ### small steps -/
theorem chain_le {a b d : CE} {ρ : Rho} {x y z : Int} (ha : a ρ = ok (.d (.int x))) (hb : b ρ = ok (.d (.int y))) (hd : d ρ = ok (.d (.int z))) : cChain leC leC a b d ρ = ok (.d (.bool (decide (x ≤ y) && decide (y ≤ z)))) := by
  unfold cChain
  rw [ha, bind_ok, hb, bind_ok, show leC (.d (.int x)) (.d (.int y)) = ok (.d (.bool (decide (x ≤ y)))) from rfl, bind_ok, boolR_b, bind_ok]
  cases decide (x ≤ y) with
  | false => rfl
  | true => rw [iff_t rfl, hd, bind_ok]; rfl
theorem chain_eq {a b d : CE} {ρ : Rho} {x y z : Int} (ha : a ρ = ok (.d (.int x))) (hb : b ρ = ok (.d (.int y))) (hd : d ρ = ok (.d (.int z))) : cChain eqC eqC a b d ρ = ok (.d (.bool (decide (x = y) && decide (y = z)))) := by
  have e : ∀ i j : Int, eqC (.d (.int i)) (.d (.int j)) = ok (.d (.bool (decide (i = j)))) := fun i j => by
    show R.ok (Dv.d (.bool (PyData.eqv (.int i) (.int j)))) = _
    rw [eqv_int]
  unfold cChain
  rw [ha, bind_ok, hb, bind_ok, e, bind_ok, boolR_b, bind_ok]
  cases decide (x = y) with
  | false => rfl
  | true => rw [iff_t rfl, hd, bind_ok, e]; rfl
theorem bB {a : CE} {ρ : Rho} {b : Bool} (h : a ρ = ok (.d (.bool b))) : cB a ρ = ok b := by
  unfold cB
  rw [h]
  rfl
theorem ifE_b {t : CT} {a b : CE} {ρ : Rho} {v : Bool} (h : t ρ = ok v) : cIfE t a b ρ = iff v (a ρ) (b ρ) := by
  unfold cIfE
  rw [h, bind_ok]
theorem ifE_of {t : CT} {a b : CE} {ρ : Rho} {v : Bool} {x : Dv} (h : t ρ = ok v) (h1 : v = true → a ρ = ok x) (h2 : v = false → b ρ = ok x) : cIfE t a b ρ = ok x := by
  rw [ifE_b h]
  cases v with
  | true => exact h1 rfl
  | false => exact h2 rfl
/-! ### with_change -/
theorem e_wc (c : Cd) (k : Kd) (δ : Int) : m_with_change [.d (enc c), .d (.str (kS k)), .d (.int δ)] = ok (.d (encO (chM c k δ))) := by
  unfold m_with_change
  refine body_rt ?_
  have s1 : cSet 3 (cOp addC (cC (.int 3)) (cIndexT k_KINDS (cVar 1))) [some (.d (enc c)), some (.d (.str (kS k))), some (.d (.int δ)), none, none] = ok (.nx [some (.d (enc c)), some (.d (.str (kS k))), some (.d (.int δ)), some (.d (.int (3 + (kN k : Nat)))), none]) := by cases k <;> kernel_rfl
  refine (seq_nx s1).trans ?_
  have s2 : cSet 4 (cOp addC (cOp ixC (cVar 0) (cVar 3)) (cVar 2)) [some (.d (enc c)), some (.d (.str (kS k))), some (.d (.int δ)), some (.d (.int (3 + (kN k : Nat)))), none] = ok (.nx [some (.d (enc c)), some (.d (.str (kS k))), some (.d (.int δ)), some (.d (.int (3 + (kN k : Nat)))), some (.d (.int (c.get k + δ)))]) := by cases k <;> rfl
  refine (seq_nx s2).trans ?_
  refine ret_ok (ifE_of (bB (chain_le rfl rfl rfl)) (fun h => ?_) fun h => ?_)
  · unfold chM
    rw [if_pos h]
    cases k <;> rfl
  · unfold chM
    rw [if_neg (by rw [h]; exact Bool.false_ne_true)]
    rfl
end Fl

set_option Elab.async false
set_option linter.all false
set_option maxRecDepth 100000
set_option maxHeartbeats 400000
/-! what may come of a reckoning, shut: no tactic runs what stands in it -/
namespace Fl
open PySem PySem.Spec PyProof.Rows L2 Dl R
structure Wp {α : Type} (m : R α) (q : α → Prop) (er : Str → Prop) : Prop where
  to : wp m q er
section
variable {α β : Type} {ρ : Rho} {q : Dv → Prop} {p : Out → Prop} {er : Str → Prop}
theorem Wp.mono {m : R α} {q q' : α → Prop} (h : Wp m q er) (k : ∀ a, q a → q' a) : Wp m q' er := ⟨wp_mono (fun a h => k a h) h.to⟩
theorem Wp.bnd {m : R α} {f : α → R β} {q : β → Prop} (h : Wp m (fun a => Wp (f a) q er) er) : Wp (m.bind f) q er := ⟨by
  rw [wp_bind]
  exact wp_mono (fun a h => h.to) h.to⟩
theorem wq_ok {m : R α} {a : α} {q : α → Prop} (e : m = ok a) (h : q a) : Wp m q er := ⟨by
  rw [e]
  exact h⟩
theorem wq_body {n k : Nat} {s : CS} {xs : List Dv} (h : Wp (s (xs.map some ++ List.replicate k none)) (fun o => match o with
    | .nx _ => q (.d .none)
    | .rt v => q v
    | _ => False) er) (hn : (xs.length == n) = true := by rfl) : Wp (body n k s xs) q er := by
  unfold body
  rw [chk_t hn]
  refine (h.mono fun o h => ?_).bnd
  cases o <;> first | exact (show False from h).elim | exact ⟨h⟩
theorem wq_seq {s t : CS} (h : Wp (s ρ) (fun o => match o with
    | .nx ρ' => Wp (t ρ') p er
    | o => p o) er) : Wp (cSeq s t ρ) p er := by
  unfold cSeq
  refine (h.mono fun o h => ?_).bnd
  cases o <;> first | exact h | exact ⟨h⟩
theorem wq_set {i : Nat} {a : CE} (h : Wp (a ρ) (fun x => notOwnB x = true ∧ p (.nx (ρ.set i (some x)))) er) : Wp (cSet i a ρ) p er := by
  unfold cSet
  refine (h.mono fun x h => ?_).bnd
  rw [chk_t h.1]
  exact ⟨h.2⟩
theorem wq_if {c : CT} {s t : CS} (h : Wp (c ρ) (fun b => Wp (iff b (s ρ) (t ρ)) p er) er) : Wp (cIf c s t ρ) p er := by
  unfold cIf
  exact h.bnd
theorem wq_ret {a : CE} (h : Wp (a ρ) (fun x => p (.rt (retR x))) er) : Wp (cRet a ρ) p er := by
  unfold cRet
  exact (h.mono fun x h => ⟨h⟩).bnd
theorem wq_op {f : Dv → Dv → R Dv} {a b : CE} {x : Dv} (h : a ρ = ok x) (k : Wp (b ρ) (fun y => Wp (f x y) q er) er) : Wp (cOp f a b ρ) q er := by
  unfold cOp
  rw [h, bind_ok]
  exact k.bnd
theorem wq_op2 {f : Dv → Dv → R Dv} {a b : CE} (h : Wp (a ρ) (fun x => Wp (b ρ) (fun y => Wp (f x y) q er) er) er) : Wp (cOp f a b ρ) q er := by
  unfold cOp
  exact (h.mono fun x h => h.bnd).bnd
theorem wq_call {m : List Dv → R Dv} {a : CA} {xs : List Dv} (h : a ρ = ok xs) (hn : xs.all notOwnB = true) (k : Wp (m xs) q er) : Wp (cCall m a ρ) q er := by
  unfold cCall
  rw [h, bind_ok, chk_t hn]
  exact k
theorem wq_call2 {m : List Dv → R Dv} {a : CA} (k : Wp (a ρ) (fun xs => xs.all notOwnB = true ∧ Wp (m xs) q er) er) : Wp (cCall m a ρ) q er := by
  unfold cCall
  refine (k.mono fun xs h => ?_).bnd
  rw [chk_t h.1]
  exact h.2
theorem wq_nil {p : List Dv → Prop} (h : p []) : Wp (cNil ρ) p er := ⟨h⟩
theorem wq_cons {a : CE} {b : CA} {p : List Dv → Prop} (h : Wp (a ρ) (fun x => Wp (b ρ) (fun xs => p (x :: xs)) er) er) : Wp (cCons a b ρ) p er := by
  unfold cCons
  exact (h.mono fun x h => (h.mono fun xs h => ⟨h⟩).bnd).bnd
theorem wq_tup {a : CA} (h : Wp (a ρ) (fun xs => Wp (dsR xs) (fun l => q (.d (.tuple l))) er) er) : Wp (cTup a ρ) q er := by
  unfold cTup
  exact (h.mono fun x h => (h.mono fun xs h => ⟨h⟩).bnd).bnd
theorem wq_fun {f : List Dv → R Dv} {a : CA} (h : Wp (a ρ) (fun xs => Wp (f xs) q er) er) : Wp (cFun f a ρ) q er := by
  unfold cFun
  exact h.bnd
theorem wq_par {i j : Nat} {a : CA} (h : Wp (a ρ) (fun xs => ∃ x y, xs = [x, y] ∧ (notOwnB x && notOwnB y) = true ∧ p (.nx ((ρ.set i (some x)).set j (some y)))) er) : Wp (cPar i j a ρ) p er := by
  unfold cPar
  refine (h.mono fun xs h => ?_).bnd
  obtain ⟨x, y, rfl, h1, h2⟩ := h
  show Wp (chk _ _) p er
  rw [chk_t h1]
  exact ⟨h2⟩
theorem wq_not {c : CT} {p : Bool → Prop} (h : Wp (c ρ) (fun b => p (!b)) er) : Wp (cNot c ρ) p er := by
  unfold cNot
  exact (h.mono fun b h => ⟨h⟩).bnd
theorem wq_b {a : CE} {p : Bool → Prop} (h : Wp (a ρ) (fun x => ∃ b, x = .d (.bool b) ∧ p b) er) : Wp (cB a ρ) p er := by
  unfold cB
  refine (h.mono fun x h => ?_).bnd
  obtain ⟨b, rfl, h⟩ := h
  exact ⟨h⟩
theorem or_f {c d : CT} (h : c ρ = ok false) : cOrT c d ρ = d ρ := by
  unfold cOrT
  rw [h, bind_ok]
  rfl
theorem wq_for {g : CG} {s : CS} {K : Out → Prop} {ds : List PyData} (J : Nat → Rho → Prop) (h0 : J 0 ρ)
    (step : ∀ i x ρ, ds[i]? = some x → J i ρ → Wp (g (.d x) ρ) (fun ρ1 => Wp (s ρ1) (fun o => match o with
      | .nx ρ' => J (i + 1) ρ'
      | .ct ρ' => J (i + 1) ρ'
      | .bk ρ' => K (.nx ρ')
      | .rt v => K (.rt v)) er) er) (fin : ∀ ρ, J ds.length ρ → K (.nx ρ)) : Wp (forR g s ds ρ) K er :=
  ⟨for_wp J h0 (fun i x ρ hx hj => wp_mono (fun ρ1 h => h.to) (step i x ρ hx hj).to) fin⟩
theorem wq_roll {n : Int} (h0 : 0 < n) (h1 : n < 1000000) (h : ∀ i : Nat, (i : Int) < n → q (.d (.int (i : Nat)))) : Wp (m__law_roll [.cup, .d (.int n)]) q er := ⟨by
  unfold m__law_roll
  simp only []
  rw [chk_t (decide_eq_true ⟨h0, h1⟩)]
  rintro d ⟨i, rfl, i0, i1⟩
  obtain ⟨j, rfl⟩ : ∃ j : Nat, i = j := ⟨i.toNat, by omega⟩
  exact h j i1⟩
end
end Fl

set_option Elab.async false
set_option linter.all false
set_option maxRecDepth 100000
set_option maxHeartbeats 400000
namespace Fl
open PySem PySem.Spec PyProof.Rows L2 Dl R
theorem and_t {c d : CT} {ρ : Rho} {v w : Bool} (hc : c ρ = ok v) (hd : v = true → d ρ = ok w) (hv : v = false → w = false) : cAndT c d ρ = ok w := by
  unfold cAndT
  rw [hc, bind_ok]
  cases v with
  | true => exact hd rfl
  | false => rw [hv rfl]; rfl
theorem or_t {c d : CT} {ρ : Rho} {v w : Bool} (hc : c ρ = ok v) (hd : v = false → d ρ = ok w) (hv : v = true → w = true) : cOrT c d ρ = ok w := by
  unfold cOrT
  rw [hc, bind_ok]
  cases v with
  | false => exact hd rfl
  | true => rw [hv rfl]; rfl
theorem not_t {c : CT} {ρ : Rho} {v : Bool} (hc : c ρ = ok v) : cNot c ρ = ok (!v) := by
  unfold cNot
  rw [hc, bind_ok]
theorem or_b {c d : CT} {ρ : Rho} {v w : Bool} (hc : c ρ = ok v) (hd : d ρ = ok w) : cOrT c d ρ = ok (v || w) := by
  unfold cOrT
  rw [hc, bind_ok]
  cases v
  · exact hd
  · rfl
theorem and_b {c d : CT} {ρ : Rho} {v w : Bool} (hc : c ρ = ok v) (hd : d ρ = ok w) : cAndT c d ρ = ok (v && w) := by
  unfold cAndT
  rw [hc, bind_ok]
  cases v
  · rfl
  · exact hd
theorem andE {a b : CE} {ρ : Rho} {v w : Bool} (ha : a ρ = ok (.d (.bool v))) (hb : b ρ = ok (.d (.bool w))) : cAnd a b ρ = ok (.d (.bool (v && w))) := by
  unfold cAnd
  rw [ha, bind_ok, boolR_b, bind_ok]
  cases v
  · rfl
  · exact hb
theorem orE {a b : CE} {ρ : Rho} {v w : Bool} (ha : a ρ = ok (.d (.bool v))) (hb : b ρ = ok (.d (.bool w))) : cOr a b ρ = ok (.d (.bool (v || w))) := by
  unfold cOr
  rw [ha, bind_ok, boolR_b, bind_ok]
  cases v
  · exact hb
  · rfl
theorem notE {a : CE} {ρ : Rho} {v : Bool} (ha : a ρ = ok (.d (.bool v))) : cNotE a ρ = ok (.d (.bool (!v))) := by
  unfold cNotE
  rw [ha, bind_ok, boolR_b, bind_ok]
theorem eq_int (i j : Int) : eqC (.d (.int i)) (.d (.int j)) = ok (.d (.bool (decide (i = j)))) := by
  show R.ok (Dv.d (.bool (PyData.eqv (.int i) (.int j)))) = _
  rw [eqv_int]
theorem ne_int (i j : Int) : neC (.d (.int i)) (.d (.int j)) = ok (.d (.bool (!decide (i = j)))) := by
  show R.ok (Dv.d (.bool (!PyData.eqv (.int i) (.int j)))) = _
  rw [eqv_int]
theorem gt_int (i : Int) : gtC (.d (.int i)) (.d (.int 0)) = ok (.d (.bool (decide (0 < i)))) := rfl
def sumB (c : Cd) : Bool := decide (c.w + (c.a + (c.l + (c.d + 0))) = 0)
def giveM (c : Cd) : Option Cd := match c.s with
  | .none => if sumB c then chM { c with s := .sent } .words 1 else none
  | _ => none
def agM (c : Cd) : Option Cd := match c.s with
  | .none => none
  | .sent => chM c .words 1
  | .lett => chM c .lets 1
theorem e_given (c : Cd) : m_behind_given [.d (enc c)] = ok (.d (encO (giveM c))) := by
  unfold m_behind_given
  obtain ⟨p, s, h, w, a, l, d⟩ := c
  cases s with
  | none =>
    have hs : cB (cOp neC (cFun sumC (cCons (cSl (cVar 0) (cPart (cC (.int 3))) cNoPart) cNil)) (cC (.int 0))) [some (.d (enc ⟨p, .none, h, w, a, l, d⟩))] = ok (!sumB ⟨p, .none, h, w, a, l, d⟩) :=
      bB ((op_ok (x := .d (.int (w + (a + (l + (d + 0)))))) ((fun1_ok (x := .d (.tuple [.int w, .int a, .int l, .int d])) rfl).trans rfl) rfl).trans (ne_int _ _))
    have ho := or_t (c := cB (cOp neC (cOp ixC (cVar 0) (cC (.int 1))) (cC (.str "none")))) (v := false) (ρ := [some (.d (enc ⟨p, .none, h, w, a, l, d⟩))]) rfl (fun _ => hs) (fun z => by cases z)
    unfold giveM
    dsimp only
    cases e : sumB ⟨p, .none, h, w, a, l, d⟩ with
    | false =>
      rw [e] at ho
      exact body_rt (seq_rt ((if_t ho).trans rfl))
    | true =>
      rw [e] at ho
      rw [if_pos rfl]
      exact body_rt ((seq_nx ((if_f ho).trans rfl)).trans (ret_ok ((call_ok (xs := [.d (enc ⟨p, .sent, h, w, a, l, d⟩), .d (.str "words"), .d (.int 1)]) rfl).trans (e_wc ⟨p, .sent, h, w, a, l, d⟩ .words 1))))
  | sent => exact body_rt (seq_rt ((if_t (or_t (v := true) rfl (fun z => by cases z) fun _ => rfl)).trans rfl))
  | lett => exact body_rt (seq_rt ((if_t (or_t (v := true) rfl (fun z => by cases z) fun _ => rfl)).trans rfl))
theorem e_again (c : Cd) : m_behind_again [.d (enc c)] = ok (.d (encO (agM c))) := by
  unfold m_behind_again
  obtain ⟨p, s, h, w, a, l, d⟩ := c
  cases s with
  | none => exact body_rt (seq_rt ((if_t rfl).trans rfl))
  | sent => exact body_rt ((seq_nx ((if_f rfl).trans rfl)).trans (ret_ok ((call_ok (xs := [.d (enc ⟨p, .sent, h, w, a, l, d⟩), .d (.str "words"), .d (.int 1)]) rfl).trans (e_wc ⟨p, .sent, h, w, a, l, d⟩ .words 1))))
  | lett => exact body_rt ((seq_nx ((if_f rfl).trans rfl)).trans (ret_ok ((call_ok (xs := [.d (enc ⟨p, .lett, h, w, a, l, d⟩), .d (.str "lets"), .d (.int 1)]) rfl).trans (e_wc ⟨p, .lett, h, w, a, l, d⟩ .lets 1))))
def ansS (s : Cs) : Cs := match s with
  | .sent => .none
  | s => s
def letS (s : Cs) : Cs := match s with
  | .sent => .lett
  | s => s
def donS (s : Cs) : Cs := match s with
  | .lett => .none
  | s => s
def ansM (c : Cd) : Option Cd := match c.p with
  | false => some { c with s := ansS c.s }
  | true => if decide (0 < c.w) then some c else chM { c with s := letS c.s } .lets 1
theorem e_answer (c : Cd) : m_behind_answer [.d (enc c)] = ok (.d (encO (ansM c))) := by
  unfold m_behind_answer
  obtain ⟨p, s, h, w, a, l, d⟩ := c
  have st : cStar 4 3 [1, 2, 3, 4] (cVar 0) [some (.d (enc ⟨p, s, h, w, a, l, d⟩)), none, none, none, none] = ok (.nx [some (.d (enc ⟨p, s, h, w, a, l, d⟩)), some (.d (.str (pS p))), some (.d (.str (sS s))), some (.d (.bool h)), some (.d (.list [.int w, .int a, .int l, .int d]))]) := rfl
  refine body_rt ((seq_nx st).trans ?_)
  cases p with
  | false => exact seq_rt ((if_t rfl).trans (by cases s <;> rfl))
  | true =>
    refine (seq_nx ((if_f rfl).trans rfl)).trans ?_
    have hg : cB (cOp gtC (cOp ixC (cVar 4) (cC (.int 0))) (cC (.int 0))) [some (.d (enc ⟨true, s, h, w, a, l, d⟩)), some (.d (.str (pS true))), some (.d (.str (sS s))), some (.d (.bool h)), some (.d (.list [.int w, .int a, .int l, .int d]))] = ok (decide (0 < w)) := bB ((op_ok (x := .d (.int w)) rfl rfl).trans (gt_int w))
    unfold ansM
    dsimp only
    cases e : decide (0 < w) with
    | true =>
      rw [e] at hg
      exact seq_rt ((if_t hg).trans rfl)
    | false =>
      rw [e] at hg
      refine (seq_nx ((if_f hg).trans rfl)).trans (ret_ok ((call_ok (xs := [.d (enc ⟨true, letS s, h, w, a, l, d⟩), .d (.str "lets"), .d (.int 1)]) ?_).trans (e_wc ⟨true, letS s, h, w, a, l, d⟩ .lets 1)))
      cases s <;> rfl
def arrM (c : Cd) (k : Kd) : Option Cd := match chM c k (-1) with
  | none => none
  | some c => match k with
    | .words => chM { c with h := c.p || c.h } .answers 1
    | .answers => ansM c
    | .lets => chM { c with h := false } .dones 1
    | .dones => some { c with s := donS c.s }
theorem e_arrival (c : Cd) (k : Kd) : m_behind_arrival [.d (enc c), .d (.str (kS k))] = ok (.d (encO (arrM c k))) := by
  unfold m_behind_arrival
  have st : cSet 0 (cCall m_with_change (cCons (cVar 0) (cCons (cVar 1) (cCons (cUn negC (cC (.int 1))) cNil)))) [some (.d (enc c)), some (.d (.str (kS k))), none] = ok (.nx [some (.d (encO (chM c k (-1)))), some (.d (.str (kS k))), none]) :=
    (set_ok ((call_ok (xs := [.d (enc c), .d (.str (kS k)), .d (.int (-1))]) rfl).trans (e_wc c k (-1)))).trans rfl
  refine body_rt ((seq_nx st).trans ?_)
  unfold arrM
  cases chM c k (-1) with
  | none => exact seq_rt ((if_t rfl).trans rfl)
  | some c =>
    refine (seq_nx ((if_f rfl).trans rfl)).trans ?_
    obtain ⟨p, s, h, w, a, l, d⟩ := c
    cases k with
    | words =>
      refine seq_rt ((if_t rfl).trans ?_)
      refine (seq_nx (ρ' := [some (.d (enc ⟨p, s, h, w, a, l, d⟩)), some (.d (.str (kS .words))), some (.d (.bool (p || h)))]) (by cases p <;> rfl)).trans ?_
      exact ret_ok ((call_ok (xs := [.d (enc ⟨p, s, p || h, w, a, l, d⟩), .d (.str "answers"), .d (.int 1)]) rfl).trans (e_wc ⟨p, s, p || h, w, a, l, d⟩ .answers 1))
    | answers =>
      refine (seq_nx ((if_f rfl).trans rfl)).trans (seq_rt ((if_t rfl).trans ?_))
      exact ret_ok ((call_ok (xs := [.d (enc ⟨p, s, h, w, a, l, d⟩)]) rfl).trans (e_answer ⟨p, s, h, w, a, l, d⟩))
    | lets =>
      refine (seq_nx ((if_f rfl).trans rfl)).trans ((seq_nx ((if_f rfl).trans rfl)).trans (seq_rt ((if_t rfl).trans ?_)))
      exact ret_ok ((call_ok (xs := [.d (enc ⟨p, s, false, w, a, l, d⟩), .d (.str "dones"), .d (.int 1)]) rfl).trans (e_wc ⟨p, s, false, w, a, l, d⟩ .dones 1))
    | dones =>
      refine (seq_nx ((if_f rfl).trans rfl)).trans ((seq_nx ((if_f rfl).trans rfl)).trans ((seq_nx ((if_f rfl).trans rfl)).trans ?_))
      cases s <;> rfl
def dblM (c : Cd) (k : Kd) : Option Cd := if decide (0 < c.get k) then chM c k 1 else none
theorem e_double (c : Cd) (k : Kd) : m_behind_double [.d (enc c), .d (.str (kS k))] = ok (.d (encO (dblM c k))) := by
  unfold m_behind_double
  have hg : cB (cOp gtC (cOp ixC (cVar 0) (cOp addC (cC (.int 3)) (cIndexT k_KINDS (cVar 1)))) (cC (.int 0))) [some (.d (enc c)), some (.d (.str (kS k)))] = ok (decide (0 < c.get k)) := bB ((op_ok (x := .d (.int (c.get k))) (by cases k <;> rfl) rfl).trans (gt_int _))
  refine body_rt (ret_ok (ifE_of hg (fun e => ?_) fun e => ?_))
  · unfold dblM
    rw [if_pos e]
    exact (call_ok (xs := [.d (enc c), .d (.str (kS k)), .d (.int 1)]) rfl).trans (e_wc c k 1)
  · unfold dblM
    rw [if_neg (by rw [e]; exact Bool.false_ne_true)]
    rfl
def stM (c : Cd) : De → Option Cd
  | .give => giveM c
  | .again => agM c
  | .lose k => chM c k (-1)
  | .dbl k => dblM c k
  | .arr k => arrM c k
theorem e_deed (c : Cd) (e : De) : m_behind_deed [.d (enc c), .d (encD e)] = ok (.d (encO (stM c e))) := by
  unfold m_behind_deed
  refine body_rt ?_
  cases e with
  | give => exact seq_rt ((if_t rfl).trans (ret_ok ((call_ok (xs := [.d (enc c)]) rfl).trans (e_given c))))
  | again => exact (seq_nx ((if_f rfl).trans rfl)).trans (seq_rt ((if_t rfl).trans (ret_ok ((call_ok (xs := [.d (enc c)]) rfl).trans (e_again c)))))
  | lose k => exact (seq_nx ((if_f rfl).trans rfl)).trans ((seq_nx ((if_f rfl).trans rfl)).trans (seq_rt ((if_t rfl).trans (ret_ok ((call_ok (xs := [.d (enc c), .d (.str (kS k)), .d (.int (-1))]) rfl).trans (e_wc c k (-1)))))))
  | dbl k => exact (seq_nx ((if_f rfl).trans rfl)).trans ((seq_nx ((if_f rfl).trans rfl)).trans ((seq_nx ((if_f rfl).trans rfl)).trans (seq_rt ((if_t rfl).trans (ret_ok ((call_ok (xs := [.d (enc c), .d (.str (kS k))]) rfl).trans (e_double c k)))))))
  | arr k => exact (seq_nx ((if_f rfl).trans rfl)).trans ((seq_nx ((if_f rfl).trans rfl)).trans ((seq_nx ((if_f rfl).trans rfl)).trans ((seq_nx ((if_f rfl).trans rfl)).trans (ret_ok ((call_ok (xs := [.d (enc c), .d (.str (kS k))]) rfl).trans (e_arrival c k))))))
end Fl

set_option Elab.async false
set_option linter.all false
set_option maxRecDepth 100000
set_option maxHeartbeats 400000
namespace Fl
open PySem PySem.Spec PyProof.Rows L2 Dl R
def inB (n : Int) : Bool := decide (0 ≤ n) && decide (n ≤ 12)
theorem inB_t {n : Int} (h : 0 ≤ n ∧ n ≤ 12) : inB n = true := by
  unfold inB
  rw [decide_eq_true h.1, decide_eq_true h.2]
  rfl
def items (c : Cd) : List PyData := [.str (pS c.p), .str (sS c.s), .bool c.h, .int c.w, .int c.a, .int c.l, .int c.d]
theorem min_four (w a l d : Int) : decide (0 ≤ minI w [a, l, d]) = (decide (0 ≤ w) && decide (0 ≤ a) && decide (0 ≤ l) && decide (0 ≤ d)) := by
  rw [← Bool.decide_and, ← Bool.decide_and, ← Bool.decide_and]
  refine decide_eq_decide.mpr ?_
  simp only [minI, List.foldl_cons, List.foldl_nil]
  omega
theorem max_four (w a l d : Int) : decide (maxI w [a, l, d] ≤ 12) = (decide (w ≤ 12) && decide (a ≤ 12) && decide (l ≤ 12) && decide (d ≤ 12)) := by
  rw [← Bool.decide_and, ← Bool.decide_and, ← Bool.decide_and]
  refine decide_eq_decide.mpr ?_
  simp only [maxI, List.foldl_cons, List.foldl_nil]
  omega
theorem e_lset {c : Cd} {chg : List PyData} {x y z : PyData} {w a l d : Int} (h : ∃ o3 o4, cFor (cIt (cVar 1)) (tgT 2 (tgsCons (tgN 3) (tgsCons (tgN 4) tgsNil))) (cPutL 2 (cVar 3) (cVar 4)) [some (.d (enc c)), some (.d (.list chg)), some (.own (items c)), none, none] = ok (.nx [some (.d (enc c)), some (.d (.list chg)), some (.own [x, y, z, .int w, .int a, .int l, .int d]), o3, o4])) :
    m__law_set [.d (enc c), .d (.list chg)] = ok (.d (if (inB w && (inB a && (inB l && inB d))) = true then .tuple [x, y, z, .int w, .int a, .int l, .int d] else .none)) := by
  obtain ⟨o3, o4, h⟩ := h
  unfold m__law_set
  have s1 : cOwnLs 2 (cVar 0) [some (.d (enc c)), some (.d (.list chg)), none, none, none] = ok (.nx [some (.d (enc c)), some (.d (.list chg)), some (.own (items c)), none, none]) := rfl
  refine body_rt ((seq_nx s1).trans ((seq_nx h).trans ?_))
  show cRet _ [some (.d (enc c)), some (.d (.list chg)), some (.d (.list [x, y, z, .int w, .int a, .int l, .int d])), o3, o4] = _
  have h1 : cB (cOp geC (cFun min1C (cCons (cSl (cVar 2) (cPart (cC (.int 3))) cNoPart) cNil)) (cC (.int 0))) [some (.d (enc c)), some (.d (.list chg)), some (.d (.list [x, y, z, .int w, .int a, .int l, .int d])), o3, o4] = ok (decide (0 ≤ minI w [a, l, d])) :=
    bB ((op_ok (x := .d (.int (minI w [a, l, d]))) ((fun1_ok (x := .d (.list [.int w, .int a, .int l, .int d])) rfl).trans rfl) rfl).trans rfl)
  have h2 : cB (cOp leC (cFun max1C (cCons (cSl (cVar 2) (cPart (cC (.int 3))) cNoPart) cNil)) (cC (.int 12))) [some (.d (enc c)), some (.d (.list chg)), some (.d (.list [x, y, z, .int w, .int a, .int l, .int d])), o3, o4] = ok (decide (maxI w [a, l, d] ≤ 12)) :=
    bB ((op_ok (x := .d (.int (maxI w [a, l, d]))) ((fun1_ok (x := .d (.list [.int w, .int a, .int l, .int d])) rfl).trans rfl) rfl).trans rfl)
  have h3 := and_b h1 h2
  rw [min_four, max_four] at h3
  have e : (decide (0 ≤ w) && decide (0 ≤ a) && decide (0 ≤ l) && decide (0 ≤ d) && (decide (w ≤ 12) && decide (a ≤ 12) && decide (l ≤ 12) && decide (d ≤ 12))) = (inB w && (inB a && (inB l && inB d))) := by
    unfold inB
    cases decide (0 ≤ w) <;> cases decide (0 ≤ a) <;> cases decide (0 ≤ l) <;> cases decide (0 ≤ d) <;> cases decide (w ≤ 12) <;> cases decide (a ≤ 12) <;> cases decide (l ≤ 12) <;> cases decide (d ≤ 12) <;> rfl
  rw [e] at h3
  refine ret_ok (ifE_of h3 (fun t => ?_) fun t => ?_)
  · rw [if_pos t]
    rfl
  · rw [if_neg (by rw [t]; exact Bool.false_ne_true)]
    rfl
/-! ### the law's own step -/
theorem law_give {c : Cd} (ok0 : okCd c) : m__law_card_after [.d (enc c), .d (encD .give)] = ok (.d (encO (giveM c))) := by
  obtain ⟨p, s, h, w, a, l, d⟩ := c
  unfold m__law_card_after
  have s1 : cAsg (cVar 0) (tgT 7 (tgsCons (tgN 2) (tgsCons (tgN 3) (tgsCons (tgN 4) (tgsCons (tgN 5) (tgsCons (tgN 6) (tgsCons (tgN 7) (tgsCons (tgN 8) tgsNil)))))))) [some (.d (enc ⟨p, s, h, w, a, l, d⟩)), some (.d (encD .give)), none, none, none, none, none, none, none, none] = ok (.nx [some (.d (enc ⟨p, s, h, w, a, l, d⟩)), some (.d (encD .give)), some (.d (.str (pS p))), some (.d (.str (sS s))), some (.d (.bool h)), some (.d (.int w)), some (.d (.int a)), some (.d (.int l)), some (.d (.int d)), none]) := rfl
  refine body_rt ((seq_nx s1).trans (seq_rt ((if_t rfl).trans ?_)))
  cases s with
  | none =>
    have hs : cB (cOp eqC (cOp addC (cOp addC (cOp addC (cVar 5) (cVar 6)) (cVar 7)) (cVar 8)) (cC (.int 0))) [some (.d (enc ⟨p, .none, h, w, a, l, d⟩)), some (.d (encD .give)), some (.d (.str (pS p))), some (.d (.str (sS .none))), some (.d (.bool h)), some (.d (.int w)), some (.d (.int a)), some (.d (.int l)), some (.d (.int d)), none] = ok (sumB ⟨p, .none, h, w, a, l, d⟩) := by
      refine bB ((op_ok (x := .d (.int (w + a + l + d))) rfl rfl).trans ((eq_int _ _).trans ?_))
      unfold sumB
      rw [show (decide (w + a + l + d = 0)) = decide (w + (a + (l + (d + 0))) = 0) from decide_eq_decide.mpr (by omega)]
    have ha := and_t (c := cB (cOp eqC (cVar 3) (cC (.str "none")))) (v := true) (ρ := [some (.d (enc ⟨p, .none, h, w, a, l, d⟩)), some (.d (encD .give)), some (.d (.str (pS p))), some (.d (.str (sS .none))), some (.d (.bool h)), some (.d (.int w)), some (.d (.int a)), some (.d (.int l)), some (.d (.int d)), none]) rfl (fun _ => hs) (fun z => by cases z)
    unfold giveM
    dsimp only
    cases e : sumB ⟨p, .none, h, w, a, l, d⟩ with
    | false =>
      rw [e] at ha
      rw [if_neg Bool.false_ne_true]
      exact ret_ok (ifE_of ha (fun z => by cases z) fun _ => rfl)
    | true =>
      rw [e] at ha
      rw [if_pos rfl]
      have k0 := ok0 .words
      have k1 := ok0 .answers
      have k2 := ok0 .lets
      have k3 := ok0 .dones
      simp only [Cd.get] at k0 k1 k2 k3
      have e := of_decide_eq_true e
      simp only at e
      have : w = 0 ∧ a = 0 ∧ l = 0 ∧ d = 0 := by omega
      obtain ⟨rfl, rfl, rfl, rfl⟩ := this
      exact ret_ok (ifE_of ha (fun _ => rfl) fun z => by cases z)
  | sent => exact ret_ok (ifE_of (v := false) rfl (fun z => by cases z) fun _ => rfl)
  | lett => exact ret_ok (ifE_of (v := false) rfl (fun z => by cases z) fun _ => rfl)
theorem ch_eq (c : Cd) (k : Kd) (δ : Int) : chM c k δ = if inB (c.get k + δ) = true then some (c.put (c.get k + δ) k) else none := rfl
theorem enc_if (b : Bool) (c : Cd) : (if b = true then enc c else PyData.none) = encO (if b = true then some c else none) := by cases b <;> rfl
theorem law_again {c : Cd} (ok0 : okCd c) : m__law_card_after [.d (enc c), .d (encD .again)] = ok (.d (encO (agM c))) := by
  have k0 := inB_t (ok0 .words)
  have k1 := inB_t (ok0 .answers)
  have k2 := inB_t (ok0 .lets)
  have k3 := inB_t (ok0 .dones)
  obtain ⟨p, s, h, w, a, l, d⟩ := c
  simp only [Cd.get] at k0 k1 k2 k3
  unfold m__law_card_after
  have s1 : cAsg (cVar 0) (tgT 7 (tgsCons (tgN 2) (tgsCons (tgN 3) (tgsCons (tgN 4) (tgsCons (tgN 5) (tgsCons (tgN 6) (tgsCons (tgN 7) (tgsCons (tgN 8) tgsNil)))))))) [some (.d (enc ⟨p, s, h, w, a, l, d⟩)), some (.d (encD .again)), none, none, none, none, none, none, none, none] = ok (.nx [some (.d (enc ⟨p, s, h, w, a, l, d⟩)), some (.d (encD .again)), some (.d (.str (pS p))), some (.d (.str (sS s))), some (.d (.bool h)), some (.d (.int w)), some (.d (.int a)), some (.d (.int l)), some (.d (.int d)), none]) := rfl
  refine body_rt ((seq_nx s1).trans ((seq_nx ((if_f rfl).trans rfl)).trans (seq_rt ((if_t rfl).trans ?_))))
  cases s with
  | none => exact seq_rt ((if_t rfl).trans rfl)
  | sent =>
    refine (seq_nx ((if_f rfl).trans rfl)).trans (ret_ok ?_)
    have := e_lset (c := ⟨p, .sent, h, w, a, l, d⟩) (chg := [.tuple [.int 3, .int (w + 1)]]) (x := .str (pS p)) (y := .str "sent") (z := .bool h) (w := w + 1) (a := a) (l := l) (d := d) ⟨_, _, rfl⟩
    rw [k1, k2, k3, Bool.and_true, Bool.and_true, Bool.and_true] at this
    refine (call_ok (xs := [.d (enc ⟨p, .sent, h, w, a, l, d⟩), .d (.list [.tuple [.int 3, .int (w + 1)]])]) rfl).trans (this.trans ?_)
    exact congrArg (fun z => R.ok (Dv.d z)) (enc_if (inB (w + 1)) ⟨p, .sent, h, w + 1, a, l, d⟩)
  | lett =>
    refine (seq_nx ((if_f rfl).trans rfl)).trans (ret_ok ?_)
    have := e_lset (c := ⟨p, .lett, h, w, a, l, d⟩) (chg := [.tuple [.int 5, .int (l + 1)]]) (x := .str (pS p)) (y := .str "let") (z := .bool h) (w := w) (a := a) (l := l + 1) (d := d) ⟨_, _, rfl⟩
    rw [k0, k1, k3, Bool.true_and, Bool.true_and, Bool.and_true] at this
    refine (call_ok (xs := [.d (enc ⟨p, .lett, h, w, a, l, d⟩), .d (.list [.tuple [.int 5, .int (l + 1)]])]) rfl).trans (this.trans ?_)
    exact congrArg (fun z => R.ok (Dv.d z)) (enc_if (inB (l + 1)) ⟨p, .lett, h, w, a, l + 1, d⟩)
end Fl

set_option Elab.async false
set_option linter.all false
set_option maxRecDepth 100000
set_option maxHeartbeats 400000
namespace Fl
open PySem PySem.Spec PyProof.Rows L2 Dl R
noncomputable def restA : CS := (cSeq (cIf (cB (cOp neC (cOp ixC (cVar 1) (cC (.int 0))) (cC (.str "arrive")))) (cRet (cCall m__law_set (cCons (cVar 0) (cCons (cLst (cCons (cTup (cCons (cVar 9) (cCons (cOp addC (cOp ixC (cVar 0) (cVar 9)) (cIfE (cB (cOp eqC (cOp ixC (cVar 1) (cC (.int 0))) (cC (.str "double")))) (cC (.int 1)) (cUn negC (cC (.int 1))))) cNil))) cNil)) cNil)))) cNext)
    (cSeq (cIf (cB (cOp eqC (cVar 9) (cC (.int 3)))) (cRet (cCall m__law_set (cCons (cVar 0) (cCons (cLst (cCons (cTup (cCons (cC (.int 3)) (cCons (cOp subC (cVar 5) (cC (.int 1))) cNil))) (cCons (cTup (cCons (cC (.int 4)) (cCons (cOp addC (cVar 6) (cC (.int 1))) cNil))) (cCons (cTup (cCons (cC (.int 2)) (cCons (cIfE (cB (cOp eqC (cVar 2) (cC (.str "paired")))) (cC (.bool true)) (cVar 4)) cNil))) cNil)))) cNil)))) cNext)
    (cSeq (cIf (cB (cOp eqC (cVar 9) (cC (.int 5)))) (cRet (cCall m__law_set (cCons (cVar 0) (cCons (cLst (cCons (cTup (cCons (cC (.int 5)) (cCons (cOp subC (cVar 7) (cC (.int 1))) cNil))) (cCons (cTup (cCons (cC (.int 6)) (cCons (cOp addC (cVar 8) (cC (.int 1))) cNil))) (cCons (cTup (cCons (cC (.int 2)) (cCons (cC (.bool false)) cNil))) cNil)))) cNil)))) cNext)
    (cSeq (cIf (cB (cOp eqC (cVar 9) (cC (.int 6)))) (cRet (cCall m__law_set (cCons (cVar 0) (cCons (cLst (cCons (cTup (cCons (cC (.int 6)) (cCons (cOp subC (cVar 8) (cC (.int 1))) cNil))) (cCons (cTup (cCons (cC (.int 1)) (cCons (cIfE (cB (cOp eqC (cVar 3) (cC (.str "let")))) (cC (.str "none")) (cVar 3)) cNil))) cNil))) cNil)))) cNext)
    (cSeq (cIf (cB (cOp eqC (cVar 2) (cC (.str "marked")))) (cRet (cCall m__law_set (cCons (cVar 0) (cCons (cLst (cCons (cTup (cCons (cC (.int 4)) (cCons (cOp subC (cVar 6) (cC (.int 1))) cNil))) (cCons (cTup (cCons (cC (.int 1)) (cCons (cIfE (cB (cOp eqC (cVar 3) (cC (.str "sent")))) (cC (.str "none")) (cVar 3)) cNil))) cNil))) cNil)))) cNext)
    (cSeq (cIf (cB (cOp gtC (cVar 5) (cC (.int 0)))) (cRet (cCall m__law_set (cCons (cVar 0) (cCons (cLst (cCons (cTup (cCons (cC (.int 4)) (cCons (cOp subC (cVar 6) (cC (.int 1))) cNil))) cNil)) cNil)))) cNext)
    (cRet (cCall m__law_set (cCons (cVar 0) (cCons (cLst (cCons (cTup (cCons (cC (.int 4)) (cCons (cOp subC (cVar 6) (cC (.int 1))) cNil))) (cCons (cTup (cCons (cC (.int 5)) (cCons (cOp addC (cVar 7) (cC (.int 1))) cNil))) (cCons (cTup (cCons (cC (.int 1)) (cCons (cIfE (cB (cOp eqC (cVar 3) (cC (.str "sent")))) (cC (.str "let")) (cVar 3)) cNil))) cNil)))) cNil))))))))))
def rho2 (c : Cd) (W : Str) (k : Kd) : Rho := [some (.d (enc c)), some (.d (.tuple [.str W, .str (kS k)])), some (.d (.str (pS c.p))), some (.d (.str (sS c.s))), some (.d (.bool c.h)), some (.d (.int c.w)), some (.d (.int c.a)), some (.d (.int c.l)), some (.d (.int c.d)), some (.d (.int ((kN k : Nat) + 3)))]
inductive Wd : Str → Prop
  | arr : Wd "arrive"
  | dbl : Wd "double"
  | lose : Wd "lose"
theorem pre_k (c : Cd) {W : Str} (hW : Wd W) (k : Kd) {v : Dv} (h : (if c.get k = 0 then ok (.rt (.d .none)) else restA (rho2 c W k)) = ok (.rt v)) : m__law_card_after [.d (enc c), .d (.tuple [.str W, .str (kS k)])] = ok v := by
  unfold m__law_card_after
  have s1 : cAsg (cVar 0) (tgT 7 (tgsCons (tgN 2) (tgsCons (tgN 3) (tgsCons (tgN 4) (tgsCons (tgN 5) (tgsCons (tgN 6) (tgsCons (tgN 7) (tgsCons (tgN 8) tgsNil)))))))) [some (.d (enc c)), some (.d (.tuple [.str W, .str (kS k)])), none, none, none, none, none, none, none, none] = ok (.nx [some (.d (enc c)), some (.d (.tuple [.str W, .str (kS k)])), some (.d (.str (pS c.p))), some (.d (.str (sS c.s))), some (.d (.bool c.h)), some (.d (.int c.w)), some (.d (.int c.a)), some (.d (.int c.l)), some (.d (.int c.d)), none]) := rfl
  refine body_rt ((seq_nx s1).trans ?_)
  refine (seq_nx ((if_f (by cases hW <;> rfl)).trans rfl)).trans ((seq_nx ((if_f (by cases hW <;> rfl)).trans rfl)).trans ?_)
  refine (seq_nx (ρ' := rho2 c W k) (by cases k <;> rfl)).trans ?_
  have hg : cB (cOp eqC (cOp ixC (cVar 0) (cVar 9)) (cC (.int 0))) (rho2 c W k) = ok (decide (c.get k = 0)) := bB ((op_ok (x := .d (.int (c.get k))) (by cases k <;> rfl) rfl).trans (eq_int _ _))
  by_cases e : c.get k = 0
  · rw [if_pos e] at h
    rw [decide_eq_true e] at hg
    cases h
    exact seq_rt ((if_t hg).trans rfl)
  · rw [if_neg e] at h
    rw [decide_eq_false e] at hg
    exact (seq_nx ((if_f hg).trans rfl)).trans h
theorem e_lset1 {c : Cd} (ok0 : okCd c) (k : Kd) (n : Int) : m__law_set [.d (enc c), .d (.list [.tuple [.int ((kN k : Nat) + 3), .int n]])] = ok (.d (encO (if inB n = true then some (c.put n k) else none))) := by
  have k0 := inB_t (ok0 .words)
  have k1 := inB_t (ok0 .answers)
  have k2 := inB_t (ok0 .lets)
  have k3 := inB_t (ok0 .dones)
  obtain ⟨p, s, h, w, a, l, d⟩ := c
  simp only [Cd.get] at k0 k1 k2 k3
  cases k with
  | words =>
    have := e_lset (c := ⟨p, s, h, w, a, l, d⟩) (chg := [.tuple [.int ((kN .words : Nat) + 3), .int n]]) (x := .str (pS p)) (y := .str (sS s)) (z := .bool h) (w := n) (a := a) (l := l) (d := d) ⟨_, _, rfl⟩
    rw [k1, k2, k3, Bool.and_true, Bool.and_true, Bool.and_true] at this
    exact this.trans (congrArg (fun z => R.ok (Dv.d z)) (enc_if (inB n) ⟨p, s, h, n, a, l, d⟩))
  | answers =>
    have := e_lset (c := ⟨p, s, h, w, a, l, d⟩) (chg := [.tuple [.int ((kN .answers : Nat) + 3), .int n]]) (x := .str (pS p)) (y := .str (sS s)) (z := .bool h) (w := w) (a := n) (l := l) (d := d) ⟨_, _, rfl⟩
    rw [k0, k2, k3, Bool.true_and, Bool.and_true, Bool.and_true] at this
    exact this.trans (congrArg (fun z => R.ok (Dv.d z)) (enc_if (inB n) ⟨p, s, h, w, n, l, d⟩))
  | lets =>
    have := e_lset (c := ⟨p, s, h, w, a, l, d⟩) (chg := [.tuple [.int ((kN .lets : Nat) + 3), .int n]]) (x := .str (pS p)) (y := .str (sS s)) (z := .bool h) (w := w) (a := a) (l := n) (d := d) ⟨_, _, rfl⟩
    rw [k0, k1, k3, Bool.true_and, Bool.true_and, Bool.and_true] at this
    exact this.trans (congrArg (fun z => R.ok (Dv.d z)) (enc_if (inB n) ⟨p, s, h, w, a, n, d⟩))
  | dones =>
    have := e_lset (c := ⟨p, s, h, w, a, l, d⟩) (chg := [.tuple [.int ((kN .dones : Nat) + 3), .int n]]) (x := .str (pS p)) (y := .str (sS s)) (z := .bool h) (w := w) (a := a) (l := l) (d := n) ⟨_, _, rfl⟩
    rw [k0, k1, k2, Bool.true_and, Bool.true_and, Bool.true_and] at this
    exact this.trans (congrArg (fun z => R.ok (Dv.d z)) (enc_if (inB n) ⟨p, s, h, w, a, l, n⟩))
theorem low {c : Cd} {k : Kd} (e : c.get k = 0) : chM c k (-1) = none := by
  rw [ch_eq, e]
  rfl
theorem law_lose {c : Cd} (ok0 : okCd c) (k : Kd) : m__law_card_after [.d (enc c), .d (encD (.lose k))] = ok (.d (encO (chM c k (-1)))) := by
  refine pre_k c .lose k ?_
  by_cases e : c.get k = 0
  · rw [if_pos e, low e]
    rfl
  · rw [if_neg e, ch_eq]
    unfold restA
    exact seq_rt ((if_t rfl).trans (ret_ok ((call_ok (xs := [.d (enc c), .d (.list [.tuple [.int ((kN k : Nat) + 3), .int (c.get k + -1)]])]) (by cases k <;> rfl)).trans (e_lset1 ok0 k _))))
theorem law_dbl {c : Cd} (ok0 : okCd c) (k : Kd) : m__law_card_after [.d (enc c), .d (encD (.dbl k))] = ok (.d (encO (dblM c k))) := by
  refine pre_k c .dbl k ?_
  have b := ok0 k
  unfold dblM
  by_cases e : c.get k = 0
  · rw [if_pos e, decide_eq_false (by omega)]
    rfl
  · rw [if_neg e, decide_eq_true (by omega), if_pos rfl, ch_eq]
    unfold restA
    exact seq_rt ((if_t rfl).trans (ret_ok ((call_ok (xs := [.d (enc c), .d (.list [.tuple [.int ((kN k : Nat) + 3), .int (c.get k + 1)]])]) (by cases k <;> rfl)).trans (e_lset1 ok0 k _))))
theorem ch_low {c : Cd} (ok0 : okCd c) {k : Kd} (e : ¬ c.get k = 0) : inB (c.get k + -1) = true := by
  have := ok0 k
  exact inB_t (by omega)
theorem law_arr {c : Cd} (ok0 : okCd c) (k : Kd) : m__law_card_after [.d (enc c), .d (encD (.arr k))] = ok (.d (encO (arrM c k))) := by
  refine pre_k c .arr k ?_
  by_cases e : c.get k = 0
  · rw [if_pos e]
    unfold arrM
    rw [low e]
    rfl
  · have cl := ch_low ok0 e
    rw [if_neg e]
    unfold arrM
    rw [ch_eq, if_pos cl]
    unfold restA
    refine (seq_nx ((if_f rfl).trans rfl)).trans ?_
    have k0 := inB_t (ok0 .words)
    have k1 := inB_t (ok0 .answers)
    have k2 := inB_t (ok0 .lets)
    have k3 := inB_t (ok0 .dones)
    obtain ⟨p, s, h, w, a, l, d⟩ := c
    simp only [Cd.get] at k0 k1 k2 k3
    cases k with
    | words =>
      have cl : inB (w + -1) = true := cl
      refine seq_rt ((if_t rfl).trans (ret_ok ((call_ok (xs := [.d (enc ⟨p, s, h, w, a, l, d⟩), .d (.list [.tuple [.int 3, .int (w + -1)], .tuple [.int 4, .int (a + 1)], .tuple [.int 2, .bool (p || h)]])]) (by cases p <;> rfl)).trans ?_)))
      have := e_lset (c := ⟨p, s, h, w, a, l, d⟩) (chg := [.tuple [.int 3, .int (w + -1)], .tuple [.int 4, .int (a + 1)], .tuple [.int 2, .bool (p || h)]]) (x := .str (pS p)) (y := .str (sS s)) (z := .bool (p || h)) (w := w + -1) (a := a + 1) (l := l) (d := d) ⟨_, _, rfl⟩
      rw [cl, k2, k3, Bool.true_and, Bool.and_true, Bool.and_true] at this
      exact this.trans (congrArg (fun z => R.ok (Dv.d z)) (enc_if (inB (a + 1)) ⟨p, s, p || h, w + -1, a + 1, l, d⟩))
    | lets =>
      have cl : inB (l + -1) = true := cl
      refine (seq_nx ((if_f rfl).trans rfl)).trans (seq_rt ((if_t rfl).trans (ret_ok ((call_ok (xs := [.d (enc ⟨p, s, h, w, a, l, d⟩), .d (.list [.tuple [.int 5, .int (l + -1)], .tuple [.int 6, .int (d + 1)], .tuple [.int 2, .bool false]])]) rfl).trans ?_))))
      have := e_lset (c := ⟨p, s, h, w, a, l, d⟩) (chg := [.tuple [.int 5, .int (l + -1)], .tuple [.int 6, .int (d + 1)], .tuple [.int 2, .bool false]]) (x := .str (pS p)) (y := .str (sS s)) (z := .bool false) (w := w) (a := a) (l := l + -1) (d := d + 1) ⟨_, _, rfl⟩
      rw [k0, k1, cl, Bool.true_and, Bool.true_and, Bool.true_and] at this
      exact this.trans (congrArg (fun z => R.ok (Dv.d z)) (enc_if (inB (d + 1)) ⟨p, s, false, w, a, l + -1, d + 1⟩))
    | dones =>
      have cl : inB (d + -1) = true := cl
      refine (seq_nx ((if_f rfl).trans rfl)).trans ((seq_nx ((if_f rfl).trans rfl)).trans (seq_rt ((if_t rfl).trans (ret_ok ((call_ok (xs := [.d (enc ⟨p, s, h, w, a, l, d⟩), .d (.list [.tuple [.int 6, .int (d + -1)], .tuple [.int 1, .str (sS (donS s))]])]) (by cases s <;> rfl)).trans ?_)))))
      have := e_lset (c := ⟨p, s, h, w, a, l, d⟩) (chg := [.tuple [.int 6, .int (d + -1)], .tuple [.int 1, .str (sS (donS s))]]) (x := .str (pS p)) (y := .str (sS (donS s))) (z := .bool h) (w := w) (a := a) (l := l) (d := d + -1) ⟨_, _, rfl⟩
      rw [k0, k1, k2, cl] at this
      exact this.trans rfl
    | answers =>
      have cm : inB (a + -1) = true := cl
      refine (seq_nx ((if_f rfl).trans rfl)).trans ((seq_nx ((if_f rfl).trans rfl)).trans ((seq_nx ((if_f rfl).trans rfl)).trans ?_))
      cases p with
      | false =>
        refine seq_rt ((if_t rfl).trans (ret_ok ((call_ok (xs := [.d (enc ⟨false, s, h, w, a, l, d⟩), .d (.list [.tuple [.int 4, .int (a + -1)], .tuple [.int 1, .str (sS (ansS s))]])]) (by cases s <;> rfl)).trans ?_)))
        have := e_lset (c := ⟨false, s, h, w, a, l, d⟩) (chg := [.tuple [.int 4, .int (a + -1)], .tuple [.int 1, .str (sS (ansS s))]]) (x := .str (pS false)) (y := .str (sS (ansS s))) (z := .bool h) (w := w) (a := a + -1) (l := l) (d := d) ⟨_, _, rfl⟩
        rw [k0, cm, k2, k3] at this
        exact this.trans rfl
      | true =>
        refine (seq_nx ((if_f rfl).trans rfl)).trans ?_
        have hg : cB (cOp gtC (cVar 5) (cC (.int 0))) (rho2 ⟨true, s, h, w, a, l, d⟩ "arrive" .answers) = ok (decide (0 < w)) := bB ((op_ok (x := .d (.int w)) rfl rfl).trans (gt_int w))
        show _ = R.ok (Out.rt (Dv.d (encO (if decide (0 < w) = true then some ⟨true, s, h, w, a + -1, l, d⟩ else chM ⟨true, letS s, h, w, a + -1, l, d⟩ .lets 1))))
        cases e2 : decide (0 < w) with
        | true =>
          rw [e2] at hg
          rw [if_pos rfl]
          refine seq_rt ((if_t hg).trans (ret_ok ((call_ok (xs := [.d (enc ⟨true, s, h, w, a, l, d⟩), .d (.list [.tuple [.int 4, .int (a + -1)]])]) rfl).trans ?_)))
          have := e_lset (c := ⟨true, s, h, w, a, l, d⟩) (chg := [.tuple [.int 4, .int (a + -1)]]) (x := .str (pS true)) (y := .str (sS s)) (z := .bool h) (w := w) (a := a + -1) (l := l) (d := d) ⟨_, _, rfl⟩
          rw [k0, cm, k2, k3] at this
          exact this.trans rfl
        | false =>
          rw [e2] at hg
          rw [if_neg Bool.false_ne_true]
          refine (seq_nx ((if_f hg).trans rfl)).trans (ret_ok ((call_ok (xs := [.d (enc ⟨true, s, h, w, a, l, d⟩), .d (.list [.tuple [.int 4, .int (a + -1)], .tuple [.int 5, .int (l + 1)], .tuple [.int 1, .str (sS (letS s))]])]) (by cases s <;> rfl)).trans ?_))
          have := e_lset (c := ⟨true, s, h, w, a, l, d⟩) (chg := [.tuple [.int 4, .int (a + -1)], .tuple [.int 5, .int (l + 1)], .tuple [.int 1, .str (sS (letS s))]]) (x := .str (pS true)) (y := .str (sS (letS s))) (z := .bool h) (w := w) (a := a + -1) (l := l + 1) (d := d) ⟨_, _, rfl⟩
          rw [k0, cm, k3, Bool.true_and, Bool.true_and, Bool.and_true] at this
          exact this.trans (congrArg (fun z => R.ok (Dv.d z)) (enc_if (inB (l + 1)) ⟨true, letS s, h, w, a + -1, l + 1, d⟩))
theorem e_after {c : Cd} (ok0 : okCd c) (e : De) : m__law_card_after [.d (enc c), .d (encD e)] = ok (.d (encO (stM c e))) := by
  cases e with
  | give => exact law_give ok0
  | again => exact law_again ok0
  | lose k => exact law_lose ok0 k
  | dbl k => exact law_dbl ok0 k
  | arr k => exact law_arr ok0 k
end Fl

set_option Elab.async false
set_option linter.all false
set_option maxRecDepth 100000
set_option maxHeartbeats 400000
namespace Fl
open PySem PySem.Spec PyProof.Rows L2 Dl R
def allD : List De := [.give, .again, .lose .words, .lose .answers, .lose .lets, .lose .dones, .dbl .words, .dbl .answers, .dbl .lets, .dbl .dones, .arr .words, .arr .answers, .arr .lets, .arr .dones]
def lawD : List De := [.again, .arr .answers, .arr .dones, .arr .lets, .arr .words, .dbl .answers, .dbl .dones, .dbl .lets, .dbl .words, .give, .lose .answers, .lose .dones, .lose .lets, .lose .words]
def kR : Kd → Nat
  | .answers => 0
  | .dones => 1
  | .lets => 2
  | .words => 3
def rk : De → Nat
  | .again => 0
  | .arr k => 1 + kR k
  | .dbl k => 5 + kR k
  | .give => 9
  | .lose k => 10 + kR k
theorem in_all (e : De) : e ∈ lawD := by
  cases e with
  | again => decide
  | give => decide
  | arr k => cases k <;> decide
  | dbl k => cases k <;> decide
  | lose k => cases k <;> decide
theorem rk_inj : ∀ a ∈ lawD, ∀ b ∈ lawD, rk a = rk b → a = b := by decide +kernel
theorem le_tab : ∀ a ∈ lawD, ∀ b ∈ lawD, PySem.W.dataLe false id (encD a) (encD b) = decide (rk a ≤ rk b) := by decide +kernel
def itemsD : De → List PyData
  | .again => [.str "again"]
  | .give => [.str "give"]
  | .arr k => [.str "arrive", .str (kS k)]
  | .dbl k => [.str "double", .str (kS k)]
  | .lose k => [.str "lose", .str (kS k)]
theorem encD_items (e : De) : encD e = .tuple (itemsD e) := by cases e <;> rfl
theorem mix_strs (v w : Str) {r q : List PyData} (h : v = w → So.mixAll r q = true) : So.mixAll (.str v :: r) (.str w :: q) = true := by
  unfold So.mixAll
  rw [show PySem.W.alike (.str v) (.str w) = true from by simp [PySem.W.alike], eqv_str, Bool.true_and]
  by_cases c : v = w
  · rw [decide_eq_true c, h c]
    rfl
  · rw [decide_eq_false c]
    rfl
theorem mix_de (e f : De) : So.mixAll (itemsD e) (itemsD f) = true := by
  cases e <;> cases f <;> refine mix_strs _ _ fun h => ?_ <;> first
    | exact absurd h (by decide)
    | (unfold So.mixAll; rfl)
    | exact mix_strs _ _ fun _ => (by unfold So.mixAll; rfl)
theorem mix_all (L : List De) : So.mixB (L.map encD) = true := by
  unfold So.mixB
  rw [List.all_eq_true]
  intro d hd
  obtain ⟨e, _, rfl⟩ := List.mem_map.mp hd
  have h : ((L.map encD).all fun d => match d with | .tuple ys => So.mixAll (itemsD e) ys | _ => false) = true := by
    rw [List.all_eq_true]
    intro d hd
    obtain ⟨f, _, rfl⟩ := List.mem_map.mp hd
    rw [encD_items]
    exact mix_de e f
  cases e <;> exact h
noncomputable def sortM (L : List De) : List De := L.mergeSort fun a b => PySem.W.dataLe false id (encD a) (encD b)
theorem e_sortD (L : List De) : sorted2C [.d (.list (L.map encD))] = ok (.d (.list ((sortM L).map encD))) := by
  show sorted2S (L.map encD) = _
  unfold sorted2S
  rw [chk_t]
  · unfold sortD sortM
    rw [List.map_mergeSort (s := PySem.W.dataLe false id) fun _ _ _ _ => rfl]
  · rw [mix_all, Bool.or_true, Bool.true_and, List.all_eq_true]
    intro d hd
    obtain ⟨e, _, rfl⟩ := List.mem_map.mp hd
    cases e <;> simp [encD, PyData.depth, PyData.depthAll]
theorem sortM_le (L : List De) : (sortM L).Pairwise fun a b => rk a ≤ rk b := by
  unfold sortM
  have e : (fun a b : De => PySem.W.dataLe false id (encD a) (encD b)) = fun a b => decide (rk a ≤ rk b) := by
    funext a b
    exact le_tab a (in_all a) b (in_all b)
  rw [e]
  refine (List.pairwise_mergeSort (le := fun a b : De => decide (rk a ≤ rk b)) (fun a b c h1 h2 => ?_) (fun a b => ?_) L).imp fun h => of_decide_eq_true h
  · have h1 := of_decide_eq_true h1
    have h2 := of_decide_eq_true h2
    exact decide_eq_true (by omega)
  · rw [Bool.or_eq_true, decide_eq_true_eq, decide_eq_true_eq]
    omega
theorem sortM_eq {L M : List De} (p : M.Perm L) (s : M.Pairwise fun a b => rk a ≤ rk b) : sortM L = M :=
  List.Perm.eq_of_pairwise (le := fun a b : De => rk a ≤ rk b) (fun a b _ _ h1 h2 => rk_inj a (in_all a) b (in_all b) (by omega)) (sortM_le L) s ((List.mergeSort_perm _ _).trans p.symm)
theorem law_sorted : lawD.Pairwise fun a b => rk a ≤ rk b := by decide
theorem law_perm : lawD.Perm allD := by decide
theorem sort_filter (f : De → Bool) : sortM (allD.filter f) = lawD.filter f := sortM_eq (law_perm.filter f) (law_sorted.filter f)
def possM (c : Cd) : List De := lawD.filter fun e => (stM c e).isSome
/-! ### _law_deeds -/
theorem e_deeds : m__law_deeds [] = ok (.d (.list (lawD.map encD))) := by
  unfold m__law_deeds
  have s1 : cSet 0 (cLst (cCons (cTup (cCons (cC (.str "again")) cNil)) (cCons (cTup (cCons (cC (.str "give")) cNil)) cNil))) [none, none, none] = ok (.nx [some (.d (.list ([De.again, De.give].map encD))), none, none]) := rfl
  refine body_rt ((seq_nx s1).trans ?_)
  have s2 : cFor (cIt (cTup (cCons (cC (.str "arrive")) (cCons (cC (.str "double")) (cCons (cC (.str "lose")) cNil))))) (tgN 1) (cSet 0 (cOp addC (cVar 0) (cLc (cIt (cTup (cCons (cC (.str "answers")) (cCons (cC (.str "dones")) (cCons (cC (.str "lets")) (cCons (cC (.str "words")) cNil)))))) (tgN 2) cYes (cTup (cCons (cVar 1) (cCons (cVar 2) cNil))) [2]))) [some (.d (.list ([De.again, De.give].map encD))), none, none] = ok (.nx [some (.d (.list ([De.again, De.give, .arr .answers, .arr .dones, .arr .lets, .arr .words, .dbl .answers, .dbl .dones, .dbl .lets, .dbl .words, .lose .answers, .lose .dones, .lose .lets, .lose .words].map encD))), some (.d (.str "lose")), none]) := by kernel_rfl
  refine (seq_nx s2).trans (ret_ok ((fun1_ok rfl).trans ((e_sortD _).trans ?_)))
  rw [sortM_eq (M := lawD) (by decide) law_sorted]
/-! ### possible deeds -/
theorem isnt_none (o : Option Cd) : isNotC (.d (encO o)) (.d .none) = ok (.d (.bool o.isSome)) := by cases o <;> rfl
theorem e_poss (c : Cd) : m_possible_deeds [.d (enc c)] = ok (.d (.list ((possM c).map encD))) := by
  unfold m_possible_deeds
  have s1 : cSet 1 (cOp addC (cLst (cCons (cTup (cCons (cC (.str "give")) cNil)) (cCons (cTup (cCons (cC (.str "again")) cNil)) cNil))) (cLc2 (cIt (cTup (cCons (cC (.str "lose")) (cCons (cC (.str "double")) (cCons (cC (.str "arrive")) cNil))))) (tgN 2) cYes (cTop k_KINDS) (tgN 3) cYes (cTup (cCons (cVar 2) (cCons (cVar 3) cNil))) [2, 3] [3])) [some (.d (enc c)), none, none, none, none] = ok (.nx [some (.d (enc c)), some (.d (.list (allD.map encD))), none, none, none]) := by kernel_rfl
  refine body_rt ((seq_nx s1).trans ?_)
  have lc : cLc (cIt (cVar 1)) (tgN 4) (cB (cOp isNotC (cCallN m_behind_deed (cCons (cVar 0) (cCons (cVar 4) cNil))) (cC .none))) (cVar 4) [4] [some (.d (enc c)), some (.d (.list (allD.map encD))), none, none, none] = ok (.d (.list ((allD.filter fun e => (stM c e).isSome).map encD))) := by
    have e := lcR_of (g := tgN 4) (t := cB (cOp isNotC (cCallN m_behind_deed (cCons (cVar 0) (cCons (cVar 4) cNil))) (cC .none))) (a := cVar 4) (ρ := [some (.d (enc c)), some (.d (.list (allD.map encD))), none, none, none]) encD (fun e => (stM c e).isSome) encD allD fun e _ => ?_
    · unfold cLc
      rw [show cIt (cVar 1) [some (.d (enc c)), some (.d (.list (allD.map encD))), none, none, none] = ok (allD.map encD) from rfl, bind_ok, chk_t (by rw [List.length_map]; decide)]
      rw [show lcR (tgN 4) (cB (cOp isNotC (cCallN m_behind_deed (cCons (cVar 0) (cCons (cVar 4) cNil))) (cC .none))) (cVar 4) (wipeR [some (.d (enc c)), some (.d (.list (allD.map encD))), none, none, none] [4]) (allD.map encD) = _ from e]
      rfl
    · unfold lcT1
      rw [show tgN 4 (.d (encD e)) [some (.d (enc c)), some (.d (.list (allD.map encD))), none, none, none] = ok [some (.d (enc c)), some (.d (.list (allD.map encD))), none, none, some (.d (encD e))] from rfl, bind_ok]
      have call : cCallN m_behind_deed (cCons (cVar 0) (cCons (cVar 4) cNil)) [some (.d (enc c)), some (.d (.list (allD.map encD))), none, none, some (.d (encD e))] = ok (.d (encO (stM c e))) := by
        refine (callN_ok (xs := [.d (enc c), .d (encD e)]) rfl).trans ?_
        rw [e_deed]
        rfl
      have test : cB (cOp isNotC (cCallN m_behind_deed (cCons (cVar 0) (cCons (cVar 4) cNil))) (cC .none)) [some (.d (enc c)), some (.d (.list (allD.map encD))), none, none, some (.d (encD e))] = ok (stM c e).isSome := bB ((op_ok call rfl).trans (isnt_none _))
      rw [test, bind_ok]
      cases (stM c e).isSome <;> rfl
  refine ret_ok ((fun1_ok lc).trans ((e_sortD _).trans ?_))
  rw [sort_filter]
  rfl
end Fl

set_option Elab.async false
set_option linter.all false
set_option maxRecDepth 100000
set_option maxHeartbeats 400000
namespace Fl
open PySem PySem.Spec PyProof.Rows L2 Dl R
/-! ### is_card -/
theorem e_integer (n : Int) : m_is_integer [.d (.int n), .d (.int 0), .d (.int 12)] = ok (.d (.bool (inB n))) := by
  unfold m_is_integer
  have h : cAnd (cFun isiC (cCons (cVar 0) (cCons (cTy "int") cNil))) (cAnd (cNotE (cFun isiC (cCons (cVar 0) (cCons (cTy "bool") cNil)))) (cChain leC leC (cVar 1) (cVar 0) (cVar 2))) [some (.d (.int n)), some (.d (.int 0)), some (.d (.int 12))] = ok (.d (.bool (true && (true && inB n)))) := andE rfl (andE rfl (chain_le rfl rfl rfl))
  exact body_rt (ret_ok h)
theorem e_is {x0 x1 x2 x3 x4 x5 x6 : PyData} {b0 b1 b2 b3 b4 b5 b6 : Bool} (h0 : isinC (.d x0) (.d (.tuple k_CARD_WAYS)) = ok (.d (.bool b0))) (h1 : isinC (.d x1) (.d (.tuple k_STATES)) = ok (.d (.bool b1))) (h2 : isiC [.d x2, .ty "bool"] = ok (.d (.bool b2)))
    (h3 : m_is_integer [.d x3, .d (.int 0), .d (.int 12)] = ok (.d (.bool b3))) (h4 : m_is_integer [.d x4, .d (.int 0), .d (.int 12)] = ok (.d (.bool b4))) (h5 : m_is_integer [.d x5, .d (.int 0), .d (.int 12)] = ok (.d (.bool b5))) (h6 : m_is_integer [.d x6, .d (.int 0), .d (.int 12)] = ok (.d (.bool b6))) :
    m_is_card [.d (.tuple [x0, x1, x2, x3, x4, x5, x6])] = ok (.d (.bool (b0 && (b1 && (b2 && (b3 && (b4 && (b5 && b6)))))))) := by
  unfold m_is_card
  have lc : cLc (cIt (cSl (cVar 0) (cPart (cC (.int 3))) cNoPart)) (tgN 1) cYes (cCallN m_is_integer (cCons (cVar 1) (cCons (cC (.int 0)) (cCons (cC (.int 12)) cNil)))) [1] [some (.d (.tuple [x0, x1, x2, x3, x4, x5, x6])), none] = ok (.d (.list [.bool b3, .bool b4, .bool b5, .bool b6])) := by
    have e := lcR_of (g := tgN 1) (t := cYes) (a := cCallN m_is_integer (cCons (cVar 1) (cCons (cC (.int 0)) (cCons (cC (.int 12)) cNil)))) (ρ := [some (.d (.tuple [x0, x1, x2, x3, x4, x5, x6])), none]) (fun z : PyData × Bool => z.1) (fun _ => true) (fun z => .bool z.2) [(x3, b3), (x4, b4), (x5, b5), (x6, b6)] fun z hz => ?_
    · unfold cLc
      rw [show cIt (cSl (cVar 0) (cPart (cC (.int 3))) cNoPart) [some (.d (.tuple [x0, x1, x2, x3, x4, x5, x6])), none] = ok [x3, x4, x5, x6] from rfl, bind_ok, chk_t (b := decide ([x3, x4, x5, x6].length ≤ 1000000)) (decide_eq_true (show 4 ≤ 1000000 by decide))]
      rw [show lcR (tgN 1) cYes (cCallN m_is_integer (cCons (cVar 1) (cCons (cC (.int 0)) (cCons (cC (.int 12)) cNil)))) (wipeR [some (.d (.tuple [x0, x1, x2, x3, x4, x5, x6])), none] [1]) [x3, x4, x5, x6] = _ from e]
      rfl
    · have hm : m_is_integer [.d z.1, .d (.int 0), .d (.int 12)] = ok (.d (.bool z.2)) := by
        simp only [List.mem_cons, List.not_mem_nil, or_false] at hz
        rcases hz with rfl | rfl | rfl | rfl
        · exact h3
        · exact h4
        · exact h5
        · exact h6
      unfold lcT1
      rw [show tgN 1 (.d z.1) [some (.d (.tuple [x0, x1, x2, x3, x4, x5, x6])), none] = ok [some (.d (.tuple [x0, x1, x2, x3, x4, x5, x6])), some (.d z.1)] from rfl, bind_ok]
      rw [show cYes [some (.d (.tuple [x0, x1, x2, x3, x4, x5, x6])), some (.d z.1)] = ok true from rfl, bind_ok, iff_t rfl]
      rw [(callN_ok (m := m_is_integer) (a := cCons (cVar 1) (cCons (cC (.int 0)) (cCons (cC (.int 12)) cNil))) (ρ := [some (.d (.tuple [x0, x1, x2, x3, x4, x5, x6])), some (.d z.1)]) (xs := [.d z.1, .d (.int 0), .d (.int 12)]) rfl), hm]
      rfl
  have al : cFun allC (cCons (cLc (cIt (cSl (cVar 0) (cPart (cC (.int 3))) cNoPart)) (tgN 1) cYes (cCallN m_is_integer (cCons (cVar 1) (cCons (cC (.int 0)) (cCons (cC (.int 12)) cNil)))) [1]) cNil) [some (.d (.tuple [x0, x1, x2, x3, x4, x5, x6])), none] = ok (.d (.bool (b3 && (b4 && (b5 && b6))))) := by
    refine (fun1_ok lc).trans ?_
    cases b3 <;> cases b4 <;> cases b5 <;> cases b6 <;> rfl
  have f1 : cFun isiC (cCons (cVar 0) (cCons (cTy "tuple") cNil)) [some (.d (.tuple [x0, x1, x2, x3, x4, x5, x6])), none] = ok (.d (.bool true)) := rfl
  have f2 : cOp eqC (cFun lenC (cCons (cVar 0) cNil)) (cC (.int 7)) [some (.d (.tuple [x0, x1, x2, x3, x4, x5, x6])), none] = ok (.d (.bool true)) := by
    refine (op_ok (x := .d (.int 7)) rfl rfl).trans ?_
    rfl
  have f3 := (op_ok (f := isinC) (a := cOp ixC (cVar 0) (cC (.int 0))) (b := cC (.tuple k_CARD_WAYS)) (ρ := [some (.d (.tuple [x0, x1, x2, x3, x4, x5, x6])), none]) (x := .d x0) rfl rfl).trans h0
  have f4 := (op_ok (f := isinC) (a := cOp ixC (cVar 0) (cC (.int 1))) (b := cC (.tuple k_STATES)) (ρ := [some (.d (.tuple [x0, x1, x2, x3, x4, x5, x6])), none]) (x := .d x1) rfl rfl).trans h1
  have f5 : cFun isiC (cCons (cOp ixC (cVar 0) (cC (.int 2))) (cCons (cTy "bool") cNil)) [some (.d (.tuple [x0, x1, x2, x3, x4, x5, x6])), none] = ok (.d (.bool b2)) := h2
  have all := andE f1 (andE f2 (andE f3 (andE f4 (andE f5 al))))
  exact body_rt (ret_ok all)
theorem e_way (p : Bool) : isinC (.d (.str (pS p))) (.d (.tuple k_CARD_WAYS)) = ok (.d (.bool true)) := by cases p <;> kernel_rfl
theorem e_state (s : Cs) : isinC (.d (.str (sS s))) (.d (.tuple k_STATES)) = ok (.d (.bool true)) := by cases s <;> kernel_rfl
theorem e_is_card {c : Cd} (ok0 : okCd c) : m_is_card [.d (enc c)] = ok (.d (.bool true)) := by
  have := e_is (x0 := .str (pS c.p)) (x1 := .str (sS c.s)) (x2 := .bool c.h) (x3 := .int c.w) (x4 := .int c.a) (x5 := .int c.l) (x6 := .int c.d) (e_way _) (e_state _) (b2 := true) rfl (e_integer _) (e_integer _) (e_integer _) (e_integer _)
  have k0 := inB_t (ok0 .words)
  have k1 := inB_t (ok0 .answers)
  have k2 := inB_t (ok0 .lets)
  have k3 := inB_t (ok0 .dones)
  simp only [Cd.get] at k0 k1 k2 k3
  rw [k0, k1, k2, k3] at this
  exact this
theorem e_check {c : Cd} (ok0 : okCd c) : m_check_card [.d (enc c)] = ok (.d .none) := by
  unfold m_check_card
  have t : cNot (cB (cCall m_is_card (cCons (cVar 0) cNil))) [some (.d (enc c))] = ok (!true) := not_t (bB ((call_ok (xs := [.d (enc c)]) rfl).trans (e_is_card ok0)))
  exact body_nx ((if_f t).trans rfl)
theorem e_check_er {x : PyData} (h : m_is_card [.d x] = ok (.d (.bool false))) : m_check_card [.d x] = er "InvalidCard" := by
  unfold m_check_card
  have t : cNot (cB (cCall m_is_card (cCons (cVar 0) cNil))) [some (.d x)] = ok (!false) := not_t (bB ((call_ok (xs := [.d x]) rfl).trans h))
  exact body_er ((if_t t).trans rfl)
theorem e_events {c : Cd} (ok0 : okCd c) : m_card_events [.d (enc c)] = ok (.d (.list ((possM c).map encD))) := by
  unfold m_card_events
  refine body_rt ((seq_nx (drop_ok ((call_ok (xs := [.d (enc c)]) rfl).trans (e_check ok0)))).trans (ret_ok ((call_ok (xs := [.d (enc c)]) rfl).trans (e_poss c))))
theorem call_er {m : List Dv → R Dv} {a : CA} {ρ : Rho} {xs : List Dv} {cl : Str} (h : a ρ = ok xs) (k : m xs = er cl) (hn : xs.all notOwnB = true := by rfl) : cCall m a ρ = er cl := by
  rw [call_ok h hn, k]
theorem drop_er {a : CE} {ρ : Rho} {cl : Str} (h : a ρ = er cl) : cDrop a ρ = er cl := by
  unfold cDrop
  rw [h]
  rfl
theorem e_events_er {x : PyData} (h : m_is_card [.d x] = ok (.d (.bool false))) : m_card_events [.d x] = er "InvalidCard" := by
  unfold m_card_events
  exact body_er (seq_er (drop_er (call_er (xs := [.d x]) rfl (e_check_er h))))
theorem e_behind_bad {x y : PyData} (h : m_is_card [.d x] = ok (.d (.bool false))) : m_card_behind [.d x, .d y] = er "InvalidCard" := by
  unfold m_card_behind
  exact body_er (seq_er (drop_er (call_er (xs := [.d x]) rfl (e_check_er h))))
theorem e_possible_er {x : PyData} (h : m_is_card [.d x] = ok (.d (.bool false))) : m_is_possible [.d x] = er "InvalidCard" := by
  unfold m_is_possible
  exact body_er (seq_er (drop_er (call_er (xs := [.d x]) rfl (e_check_er h))))
/-! ### card_behind -/
theorem eqv_tab : ∀ f ∈ lawD, ∀ e ∈ lawD, PyData.eqv (encD f) (encD e) = decide (f = e) := by decide +kernel
theorem mem_de (L : List De) (e : De) : memD (L.map encD) (encD e) = decide (e ∈ L) := by
  induction L with
  | nil => rfl
  | cons f L ih =>
    have ih : ((L.map encD).any fun z => PyData.eqv z (encD e)) = decide (e ∈ L) := ih
    show (PyData.eqv (encD f) (encD e) || ((L.map encD).any fun z => PyData.eqv z (encD e))) = _
    rw [ih, eqv_tab f (in_all f) e (in_all e), ← Bool.decide_or]
    refine decide_eq_decide.mpr ?_
    rw [List.mem_cons]
    exact or_congr_left eq_comm
theorem dep_de (e : De) : (encD e).depth = 1 := by cases e <;> simp [encD, PyData.depth, PyData.depthAll]
theorem dep_des : ∀ L : List De, PyData.depthAll (L.map encD) ≤ 1
  | [] => by simp [PyData.depthAll]
  | e :: L => by
    have := dep_des L
    have h := dep_de e
    simp only [List.map_cons, PyData.depthAll]
    omega
theorem dep_l (L : List De) : (PyData.list (L.map encD)).depth ≤ 64 := by
  have := dep_des L
  simp only [PyData.depth]
  omega
theorem in_de (f : Bool → Bool) (L : List De) (e : De) : inC f (.d (encD e)) (.d (.list (L.map encD))) = ok (.d (.bool (f (decide (e ∈ L))))) := by
  show chk (decide ((encD e).depth ≤ 64) && decide ((PyData.list (L.map encD)).depth ≤ 64)) (R.ok (Dv.d (.bool (f (memD (L.map encD) (encD e)))))) = _
  rw [decide_eq_true (by rw [dep_de]; decide), decide_eq_true (dep_l L), Bool.and_self, chk_t rfl, mem_de]
theorem e_behind {c : Cd} (ok0 : okCd c) {e : De} (h : e ∈ possM c) : m_card_behind [.d (enc c), .d (encD e)] = ok (.d (encO (stM c e))) := by
  unfold m_card_behind
  refine body_rt ((seq_nx (drop_ok ((call_ok (xs := [.d (enc c)]) rfl).trans (e_check ok0)))).trans ?_)
  have t : cB (cOp notInC (cVar 1) (cCall m_possible_deeds (cCons (cVar 0) cNil))) [some (.d (enc c)), some (.d (encD e))] = ok false := by
    refine bB ((op_ok (x := .d (encD e)) rfl ((call_ok (xs := [.d (enc c)]) rfl).trans (e_poss c))).trans ((in_de not _ _).trans ?_))
    rw [decide_eq_true h]
    rfl
  exact (seq_nx ((if_f t).trans rfl)).trans (ret_ok ((call_ok (xs := [.d (enc c), .d (encD e)]) rfl).trans (e_deed c e)))
theorem e_behind_no {c : Cd} (ok0 : okCd c) {x : PyData} (h : notInC (.d x) (.d (.list ((possM c).map encD))) = ok (.d (.bool true))) : m_card_behind [.d (enc c), .d x] = er "CannotHappen" := by
  unfold m_card_behind
  refine body_er ((seq_nx (drop_ok ((call_ok (xs := [.d (enc c)]) rfl).trans (e_check ok0)))).trans ?_)
  have t : cB (cOp notInC (cVar 1) (cCall m_possible_deeds (cCons (cVar 0) cNil))) [some (.d (enc c)), some (.d x)] = ok true :=
    bB ((op_ok (x := .d x) rfl ((call_ok (xs := [.d (enc c)]) rfl).trans (e_poss c))).trans h)
  exact seq_er ((if_t t).trans rfl)
theorem mem_poss (c : Cd) (e : De) : e ∈ possM c ↔ (stM c e).isSome = true := by
  unfold possM
  rw [List.mem_filter]
  exact ⟨fun h => h.2, fun h => ⟨in_all e, h⟩⟩
end Fl

set_option Elab.async false
set_option linter.all false
set_option maxRecDepth 100000
set_option maxHeartbeats 400000
namespace Fl
open PySem PySem.Spec PyProof.Rows L2 Dl R
theorem ok_p (p : Bool) : PyData.strOk (pS p) = true := by cases p <;> decide +kernel
theorem ok_s (s : Cs) : PyData.strOk (sS s) = true := by cases s <;> decide +kernel
theorem refl_enc (o : Option Cd) : PyData.eqv (encO o) (encO o) = true := by
  cases o with
  | none => rfl
  | some c => exact PySem.SeqAt.eqv_refl _ (by simp [encO, enc, PyData.canLay0, PyData.canLayAll0, ok_p, ok_s])
theorem dep_enc (o : Option Cd) : (encO o).depth ≤ 64 := by
  cases o with
  | none => simp [encO, PyData.depth]
  | some c => simp [encO, enc, PyData.depth, PyData.depthAll]
theorem ne_enc (o : Option Cd) : neC (.d (encO o)) (.d (encO o)) = ok (.d (.bool false)) := by
  show chk (decide ((encO o).depth ≤ 64) && decide ((encO o).depth ≤ 64)) (R.ok (Dv.d (.bool (!PyData.eqv (encO o) (encO o))))) = _
  rw [decide_eq_true (dep_enc o), Bool.and_self, chk_t rfl, refl_enc]
  rfl
theorem refl_des : ∀ L : List De, PyData.eqvAll (L.map encD) (L.map encD) = true
  | [] => rfl
  | e :: L => by
    show (PyData.eqv (encD e) (encD e) && PyData.eqvAll (L.map encD) (L.map encD)) = true
    rw [eqv_tab e (in_all e) e (in_all e), decide_eq_true rfl, refl_des L]
    rfl
theorem ne_list (L : List De) : neC (.d (.list (L.map encD))) (.d (.list (L.map encD))) = ok (.d (.bool false)) := by
  show chk (decide ((PyData.list (L.map encD)).depth ≤ 64) && decide ((PyData.list (L.map encD)).depth ≤ 64)) (R.ok (Dv.d (.bool (!PyData.eqvAll (L.map encD) (L.map encD))))) = _
  rw [decide_eq_true (dep_l L), Bool.and_self, chk_t rfl, refl_des]
  rfl
theorem err_er {a : CE} {ρ : Rho} {cl z : Str} (h : a (noOw ρ) = er cl) (t : tabE cl = some z) (hs : PyData.strOk z = true) : cErr tabE "none" a ρ = ok (.d (.str z)) := by
  unfold cErr
  rw [h]
  dsimp only
  rw [t]
  dsimp only
  rw [chk_t hs]
theorem tab_cannot : tabE "CannotHappen" = some "cannot" := by decide +kernel
theorem tab_card : tabE "InvalidCard" = some "card" := by decide +kernel
theorem for_des {s : CS} {A B : Option Dv} (h : ∀ e, s [A, B, some (.d (encD e))] = ok (.nx [A, B, some (.d (encD e))])) : ∀ (L : List De) (o : Option Dv), ∃ o', forR (tgN 2) s (L.map encD) [A, B, o] = ok (.nx [A, B, o'])
  | [], o => ⟨o, rfl⟩
  | e :: L, o => by
    obtain ⟨o', ih⟩ := for_des h L (some (.d (encD e)))
    refine ⟨o', ?_⟩
    show ((tgN 2 (.d (encD e)) [A, B, o]).bind _) = _
    rw [show tgN 2 (.d (encD e)) [A, B, o] = ok [A, B, some (.d (encD e))] from rfl, bind_ok, h e, bind_ok]
    exact ih
theorem e_step {c : Cd} (ok0 : okCd c) : m__law_step_right [.d (enc c)] = ok (.d (.bool true)) := by
  unfold m__law_step_right
  have it : ∀ ρ : Rho, cIt (cCall0 m__law_deeds) ρ = ok (lawD.map encD) := fun ρ => by
    unfold cIt cCall0
    rw [e_deeds]
    rfl
  have lc : cLc (cIt (cCall0 m__law_deeds)) (tgN 2) (cB (cOp isNotC (cCallN m__law_card_after (cCons (cVar 0) (cCons (cVar 2) cNil))) (cC .none))) (cVar 2) [2] [some (.d (enc c)), none, none] = ok (.d (.list ((possM c).map encD))) := by
    have e := lcR_of (g := tgN 2) (t := cB (cOp isNotC (cCallN m__law_card_after (cCons (cVar 0) (cCons (cVar 2) cNil))) (cC .none))) (a := cVar 2) (ρ := [some (.d (enc c)), none, none]) encD (fun e => (stM c e).isSome) encD lawD fun e _ => ?_
    · unfold cLc
      rw [it, bind_ok, chk_t (by rw [List.length_map]; decide)]
      rw [show lcR (tgN 2) (cB (cOp isNotC (cCallN m__law_card_after (cCons (cVar 0) (cCons (cVar 2) cNil))) (cC .none))) (cVar 2) (wipeR [some (.d (enc c)), none, none] [2]) (lawD.map encD) = _ from e]
      rfl
    · unfold lcT1
      rw [show tgN 2 (.d (encD e)) [some (.d (enc c)), none, none] = ok [some (.d (enc c)), none, some (.d (encD e))] from rfl, bind_ok]
      have call : cCallN m__law_card_after (cCons (cVar 0) (cCons (cVar 2) cNil)) [some (.d (enc c)), none, some (.d (encD e))] = ok (.d (encO (stM c e))) := by
        refine (callN_ok (xs := [.d (enc c), .d (encD e)]) rfl).trans ?_
        rw [e_after ok0]
        rfl
      have test : cB (cOp isNotC (cCallN m__law_card_after (cCons (cVar 0) (cCons (cVar 2) cNil))) (cC .none)) [some (.d (enc c)), none, some (.d (encD e))] = ok (stM c e).isSome := bB ((op_ok call rfl).trans (isnt_none _))
      rw [test, bind_ok]
      cases (stM c e).isSome <;> rfl
  have s1 := set_ok (i := 1) lc
  refine body_rt ((seq_nx s1).trans ?_)
  show cSeq _ _ [some (.d (enc c)), some (.d (.list ((possM c).map encD))), none] = _
  have t1 : cB (cOp isNotC (cCall m_is_card (cCons (cVar 0) cNil)) (cC (.bool true))) [some (.d (enc c)), some (.d (.list ((possM c).map encD))), none] = ok false := bB ((op_ok ((call_ok (xs := [.d (enc c)]) rfl).trans (e_is_card ok0)) rfl).trans rfl)
  have t2 : cB (cOp neC (cCall m_card_events (cCons (cVar 0) cNil)) (cVar 1)) [some (.d (enc c)), some (.d (.list ((possM c).map encD))), none] = ok false := bB ((op_ok ((call_ok (xs := [.d (enc c)]) rfl).trans (e_events ok0)) rfl).trans (ne_list _))
  refine (seq_nx ((if_f (or_b t1 t2)).trans rfl)).trans ?_
  obtain ⟨o', hf⟩ := for_des (A := some (.d (enc c))) (B := some (.d (.list ((possM c).map encD)))) (s := cIf (cB (cOp isinC (cVar 2) (cVar 1))) (cIf (cB (cOp neC (cCall m_card_behind (cCons (cVar 0) (cCons (cVar 2) cNil))) (cCall m__law_card_after (cCons (cVar 0) (cCons (cVar 2) cNil))))) (cRet (cC (.bool false))) cNext) (cIf (cB (cOp neC (cErr tabE "none" (cCall m_card_behind (cCons (cVar 0) (cCons (cVar 2) cNil)))) (cC (.str "cannot")))) (cRet (cC (.bool false))) cNext)) (fun e => by
    have hin : cB (cOp isinC (cVar 2) (cVar 1)) [some (.d (enc c)), some (.d (.list ((possM c).map encD))), some (.d (encD e))] = ok (decide (e ∈ possM c)) := bB ((op_ok (x := .d (encD e)) rfl rfl).trans (in_de (fun b => b) _ _))
    by_cases h : e ∈ possM c
    · rw [decide_eq_true h] at hin
      refine (if_t hin).trans ((if_f (bB ((op_ok ((call_ok (xs := [.d (enc c), .d (encD e)]) rfl).trans (e_behind ok0 h)) ((call_ok (xs := [.d (enc c), .d (encD e)]) rfl).trans (e_after ok0 e))).trans (ne_enc _)))).trans rfl)
    · rw [decide_eq_false h] at hin
      have hn : notInC (.d (encD e)) (.d (.list ((possM c).map encD))) = ok (.d (.bool true)) := by
        refine (in_de not _ _).trans ?_
        rw [decide_eq_false h]
        rfl
      have he : cErr tabE "none" (cCall m_card_behind (cCons (cVar 0) (cCons (cVar 2) cNil))) [some (.d (enc c)), some (.d (.list ((possM c).map encD))), some (.d (encD e))] = ok (.d (.str "cannot")) := err_er (call_er (xs := [.d (enc c), .d (encD e)]) rfl (e_behind_no ok0 hn)) tab_cannot (by decide +kernel)
      exact (if_f hin).trans ((if_f (bB ((op_ok he rfl).trans (by kernel_rfl)))).trans rfl)) lawD none
  refine (seq_nx (ρ' := [some (.d (enc c)), some (.d (.list ((possM c).map encD))), o']) ?_).trans rfl
  unfold cFor
  rw [it, bind_ok]
  exact hf
/-! ### possible cards -/
def zB (c : Cd) : Bool := decide (0 = c.l) && (decide (0 = c.d) && true)
def canM (c : Cd) : Bool := match c.p with
  | false => !decide (c.s = .lett) && (!c.h && zB c)
  | true => match c.s with
    | .sent => zB c && (c.h || decide (c.a = 0))
    | .lett => decide (c.w = 0) && (!c.h || decide (c.d = 0))
    | .none => decide (c.w = 0) && !c.h
theorem z_chain (l d : Int) : (decide (l = d) && decide (d = 0)) = (decide (0 = l) && (decide (0 = d) && true)) := by
  rw [Bool.and_true, ← Bool.decide_and, ← Bool.decide_and]
  exact decide_eq_decide.mpr (by omega)
theorem e_can (c : Cd) : m_can_be [.d (enc c)] = ok (.d (.bool (canM c))) := by
  obtain ⟨p, s, h, w, a, l, d⟩ := c
  unfold m_can_be
  have s1 : cAsg (cVar 0) (tgT 7 (tgsCons (tgN 1) (tgsCons (tgN 2) (tgsCons (tgN 3) (tgsCons (tgN 4) (tgsCons (tgN 5) (tgsCons (tgN 6) (tgsCons (tgN 7) tgsNil)))))))) [some (.d (enc ⟨p, s, h, w, a, l, d⟩)), none, none, none, none, none, none, none] = ok (.nx [some (.d (enc ⟨p, s, h, w, a, l, d⟩)), some (.d (.str (pS p))), some (.d (.str (sS s))), some (.d (.bool h)), some (.d (.int w)), some (.d (.int a)), some (.d (.int l)), some (.d (.int d))]) := rfl
  refine body_rt ((seq_nx s1).trans ?_)
  have zc : cChain eqC eqC (cVar 6) (cVar 7) (cC (.int 0)) [some (.d (enc ⟨p, s, h, w, a, l, d⟩)), some (.d (.str (pS p))), some (.d (.str (sS s))), some (.d (.bool h)), some (.d (.int w)), some (.d (.int a)), some (.d (.int l)), some (.d (.int d))] = ok (.d (.bool (zB ⟨p, s, h, w, a, l, d⟩))) := by
    refine (chain_eq rfl rfl rfl).trans ?_
    rw [z_chain]
    rfl
  cases p with
  | false => exact seq_rt ((if_t rfl).trans (ret_ok (andE (v := !decide (s = .lett)) (by cases s <;> kernel_rfl) (andE (notE (v := h) rfl) zc))))
  | true =>
    refine (seq_nx ((if_f rfl).trans rfl)).trans ?_
    cases s with
    | sent => exact seq_rt ((if_t rfl).trans (ret_ok (andE zc (orE (v := h) rfl ((op_ok (x := .d (.int a)) rfl rfl).trans (eq_int a 0))))))
    | lett => exact (seq_nx ((if_f rfl).trans rfl)).trans (seq_rt ((if_t rfl).trans (ret_ok (andE ((op_ok (x := .d (.int w)) rfl rfl).trans (eq_int w 0)) (orE (notE (v := h) rfl) ((op_ok (x := .d (.int d)) rfl rfl).trans (eq_int d 0)))))))
    | none => exact (seq_nx ((if_f rfl).trans rfl)).trans ((seq_nx ((if_f rfl).trans rfl)).trans (ret_ok (andE ((op_ok (x := .d (.int w)) rfl rfl).trans (eq_int w 0)) (notE (v := h) rfl))))
theorem e_possible {c : Cd} (ok0 : okCd c) : m_is_possible [.d (enc c)] = ok (.d (.bool (canM c))) := by
  unfold m_is_possible
  exact body_rt ((seq_nx (drop_ok ((call_ok (xs := [.d (enc c)]) rfl).trans (e_check ok0)))).trans (ret_ok ((call_ok (xs := [.d (enc c)]) rfl).trans (e_can c))))
theorem eqv_four (v w : Str) (h : Bool) (l d : Int) : PyData.eqv (.tuple [.str v, .bool false, .int 0, .int 0]) (.tuple [.str w, .bool h, .int l, .int d]) = (decide (v = w) && (decide (false = h) && (decide (0 = l) && (decide (0 = d) && true)))) := by
  show (PyData.eqv (.str v) (.str w) && (PyData.eqv (.bool false) (.bool h) && (PyData.eqv (.int 0) (.int l) && (PyData.eqv (.int 0) (.int d) && true)))) = _
  rw [eqv_str, eqv_bool, eqv_int, eqv_int]
theorem in_four (s : Cs) (h : Bool) (l d : Int) : isinC (.d (.tuple [.str (sS s), .bool h, .int l, .int d])) (.d (.list [.tuple [.str "sent", .bool false, .int 0, .int 0], .tuple [.str "none", .bool false, .int 0, .int 0]])) = ok (.d (.bool (!decide (s = .lett) && (!h && (decide (0 = l) && (decide (0 = d) && true)))))) := by
  show chk _ (R.ok (Dv.d (.bool (PyData.eqv (.tuple [.str "sent", .bool false, .int 0, .int 0]) (.tuple [.str (sS s), .bool h, .int l, .int d]) || (PyData.eqv (.tuple [.str "none", .bool false, .int 0, .int 0]) (.tuple [.str (sS s), .bool h, .int l, .int d]) || false))))) = _
  rw [chk_t (by simp [PyData.depth, PyData.depthAll]), eqv_four, eqv_four]
  have a1 : decide (("sent" : Str) = sS s) = decide (s = .sent) := by cases s <;> decide +kernel
  have a2 : decide (("none" : Str) = sS s) = decide (s = .none) := by cases s <;> decide +kernel
  rw [a1, a2]
  cases s <;> cases h <;> cases decide (0 = l) <;> cases decide (0 = d) <;> rfl
theorem eq_two (l d : Int) : eqC (.d (.tuple [.int l, .int d])) (.d (.tuple [.int 0, .int 0])) = ok (.d (.bool (decide (0 = l) && (decide (0 = d) && true)))) := by
  have e2 : PyData.eqv (.tuple [.int l, .int d]) (.tuple [.int 0, .int 0]) = (PyData.eqv (.int l) (.int 0) && (PyData.eqv (.int d) (.int 0) && true)) := rfl
  show chk (decide ((PyData.tuple [.int l, .int d]).depth ≤ 64) && decide ((PyData.tuple [.int 0, .int 0]).depth ≤ 64)) (R.ok (Dv.d (.bool (PyData.eqv (.tuple [.int l, .int d]) (.tuple [.int 0, .int 0]))))) = _
  rw [chk_t (by simp [PyData.depth, PyData.depthAll]), e2, eqv_int, eqv_int, show decide (l = 0) = decide (0 = l) from decide_eq_decide.mpr eq_comm, show decide (d = 0) = decide (0 = d) from decide_eq_decide.mpr eq_comm]
theorem e_lposs (c : Cd) : m__law_possible [.d (enc c)] = ok (.d (.bool (canM c))) := by
  obtain ⟨p, s, h, w, a, l, d⟩ := c
  unfold m__law_possible
  have s1 : cAsg (cVar 0) (tgT 7 (tgsCons (tgN 1) (tgsCons (tgN 2) (tgsCons (tgN 3) (tgsCons (tgN 4) (tgsCons (tgN 5) (tgsCons (tgN 6) (tgsCons (tgN 7) tgsNil)))))))) [some (.d (enc ⟨p, s, h, w, a, l, d⟩)), none, none, none, none, none, none, none] = ok (.nx [some (.d (enc ⟨p, s, h, w, a, l, d⟩)), some (.d (.str (pS p))), some (.d (.str (sS s))), some (.d (.bool h)), some (.d (.int w)), some (.d (.int a)), some (.d (.int l)), some (.d (.int d))]) := rfl
  refine body_rt ((seq_nx s1).trans ?_)
  cases p with
  | false => exact seq_rt ((if_t rfl).trans (ret_ok ((op_ok (x := .d (.tuple [.str (sS s), .bool h, .int l, .int d])) rfl rfl).trans (in_four s h l d))))
  | true =>
    refine (seq_nx ((if_f rfl).trans rfl)).trans ?_
    cases s with
    | sent => exact seq_rt ((if_t rfl).trans (ret_ok (andE ((op_ok (x := .d (.tuple [.int l, .int d])) rfl rfl).trans (eq_two l d)) (orE (v := h) rfl ((op_ok (x := .d (.int a)) rfl rfl).trans (eq_int a 0))))))
    | lett =>
      refine (seq_nx ((if_f rfl).trans rfl)).trans (seq_rt ((if_t rfl).trans (ret_ok ((andE ((op_ok (x := .d (.int w)) rfl rfl).trans (eq_int w 0)) (orE ((op_ok (x := .d (.int d)) rfl rfl).trans (eq_int d 0)) (notE (v := h) rfl))).trans ?_))))
      rw [Bool.or_comm]
      rfl
    | none => exact (seq_nx ((if_f rfl).trans rfl)).trans ((seq_nx ((if_f rfl).trans rfl)).trans (ret_ok (andE ((op_ok (x := .d (.int w)) rfl rfl).trans (eq_int w 0)) (notE (v := h) rfl))))
end Fl

set_option Elab.async false
set_option linter.all false
set_option maxRecDepth 100000
set_option maxHeartbeats 400000
namespace Fl
open PySem PySem.Spec PyProof.Rows L2 Dl R
theorem ch_inv {c c' : Cd} {k : Kd} {δ : Int} (h : chM c k δ = some c') : (0 ≤ c.get k + δ ∧ c.get k + δ ≤ 12) ∧ c' = c.put (c.get k + δ) k := by
  rw [ch_eq] at h
  split at h
  · rename_i e
    unfold inB at e
    rw [Bool.and_eq_true] at e
    cases h
    exact ⟨⟨of_decide_eq_true e.1, of_decide_eq_true e.2⟩, rfl⟩
  · cases h
theorem ch_ok {c c' : Cd} {k : Kd} {δ : Int} (ok0 : okCd c) (h : chM c k δ = some c') : okCd c' := by
  obtain ⟨hb, rfl⟩ := ch_inv h
  intro k'
  have := ok0 k'
  cases k <;> cases k' <;> first | exact hb | exact this
theorem st_ok {c c' : Cd} {e : De} (ok0 : okCd c) (h : stM c e = some c') : okCd c' := by
  cases e with
  | give =>
    have h : giveM c = some c' := h
    unfold giveM at h
    split at h
    · split at h
      · exact ch_ok (c := { c with s := .sent }) (fun k => ok0 k) h
      · cases h
    · cases h
  | again =>
    have h : agM c = some c' := h
    unfold agM at h
    split at h
    · cases h
    · exact ch_ok ok0 h
    · exact ch_ok ok0 h
  | lose k => exact ch_ok ok0 h
  | dbl k =>
    have h : dblM c k = some c' := h
    unfold dblM at h
    split at h
    · exact ch_ok ok0 h
    · cases h
  | arr k =>
    have h : arrM c k = some c' := h
    unfold arrM at h
    split at h
    · cases h
    · rename_i c1 e1
      have ok1 := ch_ok ok0 e1
      cases k with
      | words => exact ch_ok (c := { c1 with h := c1.p || c1.h }) (fun k => ok1 k) h
      | lets => exact ch_ok (c := { c1 with h := false }) (fun k => ok1 k) h
      | dones =>
        cases h
        exact fun k => ok1 k
      | answers =>
        have h : ansM c1 = some c' := h
        unfold ansM at h
        split at h
        · cases h
          exact fun k => ok1 k
        · split at h
          · cases h
            exact ok1
          · exact ch_ok (c := { c1 with s := letS c1.s }) (fun k => ok1 k) h
def canP (c : Cd) : Prop := (c.p = false → c.s ≠ .lett ∧ c.h = false ∧ c.l = 0 ∧ c.d = 0) ∧ (c.p = true → (c.s = .sent → c.l = 0 ∧ c.d = 0 ∧ (c.h = true ∨ c.a = 0)) ∧ (c.s = .lett → c.w = 0 ∧ (c.h = false ∨ c.d = 0)) ∧ (c.s = .none → c.w = 0 ∧ c.h = false))
theorem can_iff (c : Cd) : canM c = true ↔ canP c := by
  obtain ⟨p, s, h, w, a, l, d⟩ := c
  cases p <;> cases s <;> cases h <;> simp [canM, canP, zB] <;> omega
theorem can_step {c c' : Cd} {e : De} (ok0 : okCd c) (hc : canP c) (h : stM c e = some c') : canP c' := by
  have k0 := ok0 .words
  have k1 := ok0 .answers
  have k2 := ok0 .lets
  have k3 := ok0 .dones
  obtain ⟨p, s, hh, w, a, l, d⟩ := c
  simp only [Cd.get] at k0 k1 k2 k3
  cases e with
  | give =>
    have h : giveM ⟨p, s, hh, w, a, l, d⟩ = some c' := h
    unfold giveM at h
    split at h
    · split at h
      · rename_i e1 e2
        have e1 : s = .none := e1
        have e2 := of_decide_eq_true e2
        simp only at e2
        obtain ⟨hb, rfl⟩ := ch_inv h
        subst e1
        cases p <;> cases hh <;> simp [canP, Cd.put, Cd.get] at hc ⊢ <;> omega
      · cases h
    · cases h
  | again =>
    have h : agM ⟨p, s, hh, w, a, l, d⟩ = some c' := h
    cases s with
    | none => cases h
    | sent =>
      obtain ⟨hb, rfl⟩ := ch_inv h
      cases p <;> cases hh <;> simp [canP, Cd.put, Cd.get] at hc ⊢ <;> omega
    | lett =>
      obtain ⟨hb, rfl⟩ := ch_inv h
      cases p <;> cases hh <;> simp [canP, Cd.put, Cd.get] at hc ⊢ <;> omega
  | lose k =>
    obtain ⟨hb, rfl⟩ := ch_inv h
    cases k <;> cases p <;> cases s <;> cases hh <;> simp [canP, Cd.put, Cd.get] at hc hb ⊢ <;> omega
  | dbl k =>
    have h : dblM ⟨p, s, hh, w, a, l, d⟩ k = some c' := h
    unfold dblM at h
    split at h
    · rename_i e1
      have e1 := of_decide_eq_true e1
      obtain ⟨hb, rfl⟩ := ch_inv h
      cases k <;> cases p <;> cases s <;> cases hh <;> simp [canP, Cd.put, Cd.get] at hc hb e1 ⊢ <;> omega
    · cases h
  | arr k =>
    have h : arrM ⟨p, s, hh, w, a, l, d⟩ k = some c' := h
    unfold arrM at h
    split at h
    · cases h
    · rename_i c1 e1
      obtain ⟨hb, rfl⟩ := ch_inv e1
      cases k with
      | words =>
        obtain ⟨hb2, rfl⟩ := ch_inv h
        cases p <;> cases s <;> cases hh <;> simp [canP, Cd.put, Cd.get] at hc hb ⊢ <;> omega
      | lets =>
        obtain ⟨hb2, rfl⟩ := ch_inv h
        cases p <;> cases s <;> cases hh <;> simp [canP, Cd.put, Cd.get] at hc hb ⊢ <;> omega
      | dones =>
        cases h
        cases p <;> cases s <;> cases hh <;> simp [canP, Cd.put, Cd.get, donS] at hc hb ⊢ <;> omega
      | answers =>
        have h : ansM _ = some c' := h
        unfold ansM at h
        cases p with
        | false =>
          cases h
          cases s <;> cases hh <;> simp [canP, Cd.put, Cd.get, ansS] at hc hb ⊢ <;> omega
        | true =>
          have h : (if decide (0 < w) = true then some (⟨true, s, hh, w, a + -1, l, d⟩ : Cd) else chM ⟨true, letS s, hh, w, a + -1, l, d⟩ .lets 1) = some c' := h
          by_cases e2 : 0 < w
          · rw [if_pos (decide_eq_true e2)] at h
            cases h
            cases s <;> cases hh <;> simp [canP, Cd.put, Cd.get] at hc hb ⊢ <;> omega
          · rw [if_neg (fun z => e2 (of_decide_eq_true z))] at h
            obtain ⟨hb2, rfl⟩ := ch_inv h
            cases s <;> cases hh <;> simp [canP, Cd.put, Cd.get, letS] at hc hb ⊢ <;> omega
end Fl

set_option Elab.async false
set_option linter.all false
set_option maxRecDepth 100000
set_option maxHeartbeats 400000
namespace Fl
open PySem PySem.Spec PyProof.Rows L2 Dl R
local macro_rules | `(tactic| subst_eqs) => `(tactic| simp -implicitDefEqProofs (disch := first | assumption | decide +kernel | (simp only [Bool.and_eq_true, decide_eq_true_eq] <;> (try simp only [PyData.depth, PyData.depthAll]) <;> omega) | fail) only [body, lim, chk_t, iff_t, iff_f, boolR_b, dR_d, intR_i, seqR_l, seqR_t, cSeq, cIf, cNext, cSet, cRet, cRetN, cDrop, cBreak, cVar, cC, cTy, cFn, cOp, cUn, cNil, cCons, cB, cNot, cAndT, cOrT, cIfE, cAnd, cOr, cNotE, cTup, cLst, dsR, datas, notOwnB, bind_ok, bind_er, bind_no, bind_ch, wp_ok, eqv_str, eqv_int, eqv_bool, retR_d, retR_o, retR_c, isinC, notInC, isC, isNotC, ltC, leC, gtC, geC, allC, anyC,
  cCall, cCall0, cCallN, cCallN0, cCallL, cFun, cSl, cPart, cNoPart, cIt, cLc, wipeR, cFor, cAsg, tgN, tgT, tgsCons, tgsNil, cPar, cParL, cOwnL, cApp, cRaise, cYes, addC, subC, mulC, modC, fdivC, eqC, twoR, asD, neC, cmpC, inC, isQC, isNonD, negC, lenC, isiC, listC, tupleC, absC, sliceC, revC, cRev, nr, cRng1, cRng2, cEnum, seqLR, cTop, ixC, atR_0, atR_1, atR_2, cChain,
  List.map_cons, List.map_nil, List.cons_append, List.nil_append, List.append_nil, List.getElem?_cons_zero, List.getElem?_cons_succ, List.set_cons_zero, List.set_cons_succ, List.replicate, List.all_cons, List.all_nil, List.length_cons, List.length_nil, Nat.zero_add, Nat.reduceAdd, Nat.reduceBEq, beq_self_eq_true,
  isa_str_none, isa_str_bool, isa_str_int, isa_str_str, isa_str_list, isa_str_tuple, isa_int_none, isa_int_bool, isa_int_int, isa_int_str, isa_int_list, isa_int_tuple, isa_bool_none, isa_bool_bool, isa_bool_int, isa_bool_str, isa_bool_list, isa_bool_tuple, isa_tuple_none, isa_tuple_bool, isa_tuple_int, isa_tuple_str, isa_tuple_list, isa_tuple_tuple, isa_list_none, isa_list_bool, isa_list_int, isa_list_str, isa_list_list, isa_list_tuple,
  Bool.false_eq_true, Bool.not_true, Bool.not_false, Bool.true_and, Bool.and_true, Bool.false_and, Bool.and_false, Bool.or_true, Bool.true_or, Bool.or_false, Bool.false_or, Bool.and_self, Bool.true_eq_false, reduceIte, id_eq, decide_true, decide_false, reduceCtorEq])
local macro_rules | `(tactic| and_intros) => `(tactic| (apply Eq.trans; focus (apply seq_nx; focus (first | (subst_eqs; done) | (subst_eqs; rfl)))))
theorem roll_wp {n : Int} {q : Dv → Prop} {er : Str → Prop} (h0 : 0 < n) (h1 : n < 1000000) (h : ∀ i, 0 ≤ i → i < n → q (.d (.int i))) : wp (m__law_roll [.cup, .d (.int n)]) q er := by
  unfold m__law_roll
  simp only []
  rw [chk_t (decide_eq_true ⟨h0, h1⟩)]
  rintro d ⟨i, rfl, i0, i1⟩
  exact h i i0 i1
theorem some_wp {l : List PyData} {q : Dv → Prop} {er : Str → Prop} (h0 : 0 < l.length) (h1 : l.length < 1000000) (h : ∀ d ∈ l, q (.d d)) : wp (m__law_some [.cup, .d (.list l)]) q er := by
  have key : ∀ i : Int, 0 ≤ i → i < l.length → ∃ d ∈ l, atR l i = ok (.d d) := fun i i0 i1 => by
    obtain ⟨j, rfl⟩ : ∃ j : Nat, i = j := ⟨i.toNat, by omega⟩
    have hj : j < l.length := by omega
    exact ⟨_, List.getElem_mem hj, atR_of (List.getElem?_eq_getElem hj)⟩
  unfold m__law_some
  subst_eqs
  repeat rw [wp_bind]
  refine roll_wp (by omega) (by omega) fun i i0 i1 => ?_
  obtain ⟨d, hd, e⟩ := key i i0 i1
  subst_eqs
  rw [e]
  subst_eqs
  exact h d hd
theorem wp_nr {α : Type} {er : Str → Prop} {q : α → Prop} : ∀ {m : R α}, wp m q (fun _ => False) → wp (nr m) q er
  | .ok a, h => h
  | .er _, h => h.elim
  | .no, h => h.elim
  | .ch S k, h => fun d hd => wp_nr (h d hd)
theorem sm_rng {n : Nat} (h : smallC (n : Nat) = true) : chk (smallC (n : Nat)) (ok (intsD 0 (Int.toNat (n : Nat)))) = ok (intsD 0 n) := by
  rw [chk_t h, Int.toNat_natCast]
noncomputable def cntA : CE := (cCallN m__law_some (cCons (cVar 0) (cCons (cLst (cCons (cC (.int 0)) (cCons (cC (.int 0)) (cCons (cC (.int 0)) (cCons (cC (.int 1)) (cCons (cC (.int 1)) (cCons (cC (.int 2)) (cCons (cC (.int 3)) (cCons (cC (.int 12)) cNil))))))))) cNil)))
theorem counts_wp {er : Str → Prop} : ∀ (ds : List PyData) {p : List PyData → Prop} (h : ∀ ns : List Int, ns.length = ds.length → (∀ n ∈ ns, 0 ≤ n ∧ n ≤ 12) → p (ns.map PyData.int)), Wp (lcR (tgN 2) cYes cntA [some .cup, none, none, none, none] ds) p er
  | [], p, h => ⟨h [] rfl (fun n hn => by cases hn)⟩
  | x :: r, p, h => by
    show Wp ((tgN 2 (.d x) [some .cup, none, none, none, none]).bind _) p er
    rw [show tgN 2 (.d x) [some .cup, none, none, none, none] = ok [some .cup, none, some (.d x), none, none] from rfl, bind_ok, show cYes [some .cup, none, some (.d x), none, none] = ok true from rfl, bind_ok, iff_t rfl]
    apply Wp.bnd
    have one : Wp (cntA [some .cup, none, some (.d x), none, none]) (fun y => ∃ n : Int, y = .d (.int n) ∧ 0 ≤ n ∧ n ≤ 12) er := by
      unfold cntA
      rw [callN_ok (xs := [.cup, .d (.list [PyData.int 0, .int 0, .int 0, .int 1, .int 1, .int 2, .int 3, .int 12])]) rfl]
      refine ⟨wp_nr (some_wp (by decide) (by decide) fun d hd => ?_)⟩
      simp only [List.mem_cons, List.not_mem_nil, or_false] at hd
      rcases hd with rfl | rfl | rfl | rfl | rfl | rfl | rfl | rfl
      all_goals exact ⟨_, rfl, by decide, by decide⟩
    refine one.mono fun y ⟨n, e, b⟩ => ?_
    subst e
    rw [show dR (.d (.int n)) = ok (.int n) from rfl, bind_ok]
    apply Wp.bnd
    apply counts_wp r
    intro ns l hb
    refine ⟨h (n :: ns) (by rw [List.length_cons, List.length_cons, l]) fun m hm => ?_⟩
    rcases List.mem_cons.mp hm with rfl | hm
    · exact b
    · exact hb m hm
theorem card_wp {q : Dv → Prop} {er : Str → Prop} (k : ∀ c, okCd c → q (.d (enc c))) : Wp (m__law_card [.cup]) q er := by
  unfold m__law_card
  apply wq_body (hn := rfl)
  apply wq_seq
  apply wq_set
  apply wq_fun
  apply wq_cons
  show Wp (cLc (cRng1 (cC (.int 4))) (tgN 2) cYes cntA [2] [some .cup, none, none, none, none]) _ er
  unfold cLc
  have rg : cRng1 (cC (.int 4)) [some .cup, none, none, none, none] = ok (intsD 0 4) := sm_rng (n := 4) (by decide +kernel)
  rw [rg, bind_ok, chk_t (by decide +kernel)]
  apply Wp.bnd
  show Wp (lcR (tgN 2) cYes cntA [some .cup, none, none, none, none] (intsD 0 4)) _ er
  apply counts_wp
  intro ns l hb
  match ns, l, hb with
  | [w, a, l, d], _, hb =>
    apply wq_ok (a := .d (.list [.int w, .int a, .int l, .int d])) (by rfl)
    apply wq_ok (a := []) (by rfl)
    apply wq_ok (a := .d (.tuple [.int w, .int a, .int l, .int d])) (by rfl)
    refine ⟨rfl, ?_⟩
    show Wp _ _ er
    apply wq_seq
    apply wq_par
    apply wq_cons
    apply wq_call (xs := [.cup, .d (.list [.str "marked", .str "paired", .str "paired"])]) rfl rfl
    refine ⟨some_wp (by decide) (by decide) fun x hx => ?_⟩
    have hx : ∃ p, x = .str (pS p) := by
      simp only [List.mem_cons, List.not_mem_nil, or_false] at hx
      rcases hx with rfl | rfl | rfl
      · exact ⟨false, rfl⟩
      · exact ⟨true, rfl⟩
      · exact ⟨true, rfl⟩
    obtain ⟨p, rfl⟩ := hx
    apply wq_cons
    apply wq_call (xs := [.cup, .d (.list [.str "none", .str "sent", .str "let"])]) rfl rfl
    refine ⟨some_wp (by decide) (by decide) fun x hx => ?_⟩
    have hx : ∃ s, x = .str (sS s) := by
      simp only [List.mem_cons, List.not_mem_nil, or_false] at hx
      rcases hx with rfl | rfl | rfl
      · exact ⟨.none, rfl⟩
      · exact ⟨.sent, rfl⟩
      · exact ⟨.lett, rfl⟩
    obtain ⟨s, rfl⟩ := hx
    apply wq_ok (a := []) (by rfl)
    refine ⟨_, _, rfl, rfl, ?_⟩
    show Wp _ _ er
    apply wq_ret
    apply wq_op2
    apply wq_tup
    apply wq_cons
    apply wq_ok (a := .d (.str (pS p))) (by rfl)
    apply wq_cons
    apply wq_ok (a := .d (.str (sS s))) (by rfl)
    apply wq_cons
    apply wq_op2
    apply wq_call (xs := [.cup, .d (.int 2)]) rfl rfl
    refine ⟨roll_wp (by decide) (by decide) fun i i0 i1 => ?_⟩
    apply wq_ok (a := .d (.int 0)) (by rfl)
    apply wq_ok (eq_int i 0)
    apply wq_ok (a := []) (by rfl)
    apply wq_ok (a := [.str (pS p), .str (sS s), .bool (decide (i = 0))]) (by rfl)
    apply wq_ok (a := .d (.tuple [.int w, .int a, .int l, .int d])) (by rfl)
    apply wq_ok (a := .d (enc ⟨p, s, decide (i = 0), w, a, l, d⟩)) (by rfl)
    refine k ⟨p, s, decide (i = 0), w, a, l, d⟩ fun kk => ?_
    cases kk with
    | words => exact hb w (by simp)
    | answers => exact hb a (by simp)
    | lets => exact hb l (by simp)
    | dones => exact hb d (by simp)
end Fl

set_option Elab.async false
set_option linter.all false
set_option maxRecDepth 100000
set_option maxHeartbeats 400000
namespace Fl
open PySem PySem.Spec PyProof.Rows L2 Dl R
/-! ### near a card -/
theorem four_in {c : Cd} (ok0 : okCd c) : inB c.w = true ∧ inB c.a = true ∧ inB c.l = true ∧ inB c.d = true := ⟨inB_t (ok0 .words), inB_t (ok0 .answers), inB_t (ok0 .lets), inB_t (ok0 .dones)⟩
def near0 (c : Cd) (x : PyData) : PyData := .tuple [x, .str (sS c.s), .bool c.h, .int c.w, .int c.a, .int c.l, .int c.d]
theorem is0 {c : Cd} (ok0 : okCd c) {x : PyData} {g : Bool} (h : isinC (.d x) (.d (.tuple k_CARD_WAYS)) = ok (.d (.bool g))) : m_is_card [.d (near0 c x)] = ok (.d (.bool g)) := by
  have := e_is (x0 := x) (x1 := .str (sS c.s)) (x2 := .bool c.h) (x3 := .int c.w) (x4 := .int c.a) (x5 := .int c.l) (x6 := .int c.d) (b2 := true) h (e_state _) rfl (e_integer _) (e_integer _) (e_integer _) (e_integer _)
  obtain ⟨k0, k1, k2, k3⟩ := four_in ok0
  rw [k0, k1, k2, k3] at this
  cases g <;> exact this
def near1 (c : Cd) (x : PyData) : PyData := .tuple [.str (pS c.p), x, .bool c.h, .int c.w, .int c.a, .int c.l, .int c.d]
theorem is1 {c : Cd} (ok0 : okCd c) {x : PyData} {g : Bool} (h : isinC (.d x) (.d (.tuple k_STATES)) = ok (.d (.bool g))) : m_is_card [.d (near1 c x)] = ok (.d (.bool g)) := by
  have := e_is (x0 := .str (pS c.p)) (x1 := x) (x2 := .bool c.h) (x3 := .int c.w) (x4 := .int c.a) (x5 := .int c.l) (x6 := .int c.d) (b2 := true) (e_way _) h rfl (e_integer _) (e_integer _) (e_integer _) (e_integer _)
  obtain ⟨k0, k1, k2, k3⟩ := four_in ok0
  rw [k0, k1, k2, k3] at this
  cases g <;> exact this
def near2 (c : Cd) (x : PyData) : PyData := .tuple [.str (pS c.p), .str (sS c.s), x, .int c.w, .int c.a, .int c.l, .int c.d]
theorem is2 {c : Cd} (ok0 : okCd c) {x : PyData} {g : Bool} (h : isiC [.d x, .ty "bool"] = ok (.d (.bool g))) : m_is_card [.d (near2 c x)] = ok (.d (.bool g)) := by
  have := e_is (x0 := .str (pS c.p)) (x1 := .str (sS c.s)) (x2 := x) (x3 := .int c.w) (x4 := .int c.a) (x5 := .int c.l) (x6 := .int c.d) (e_way _) (e_state _) h (e_integer _) (e_integer _) (e_integer _) (e_integer _)
  obtain ⟨k0, k1, k2, k3⟩ := four_in ok0
  rw [k0, k1, k2, k3] at this
  cases g <;> exact this
def near3 (c : Cd) (x : PyData) : PyData := .tuple [.str (pS c.p), .str (sS c.s), .bool c.h, x, .int c.a, .int c.l, .int c.d]
theorem is3 {c : Cd} (ok0 : okCd c) {x : PyData} {g : Bool} (h : m_is_integer [.d x, .d (.int 0), .d (.int 12)] = ok (.d (.bool g))) : m_is_card [.d (near3 c x)] = ok (.d (.bool g)) := by
  have := e_is (x0 := .str (pS c.p)) (x1 := .str (sS c.s)) (x2 := .bool c.h) (x3 := x) (x4 := .int c.a) (x5 := .int c.l) (x6 := .int c.d) (b2 := true) (e_way _) (e_state _) rfl h (e_integer _) (e_integer _) (e_integer _)
  obtain ⟨k0, k1, k2, k3⟩ := four_in ok0
  rw [k1, k2, k3] at this
  cases g <;> exact this
def near4 (c : Cd) (x : PyData) : PyData := .tuple [.str (pS c.p), .str (sS c.s), .bool c.h, .int c.w, x, .int c.l, .int c.d]
theorem is4 {c : Cd} (ok0 : okCd c) {x : PyData} {g : Bool} (h : m_is_integer [.d x, .d (.int 0), .d (.int 12)] = ok (.d (.bool g))) : m_is_card [.d (near4 c x)] = ok (.d (.bool g)) := by
  have := e_is (x0 := .str (pS c.p)) (x1 := .str (sS c.s)) (x2 := .bool c.h) (x3 := .int c.w) (x4 := x) (x5 := .int c.l) (x6 := .int c.d) (b2 := true) (e_way _) (e_state _) rfl (e_integer _) h (e_integer _) (e_integer _)
  obtain ⟨k0, k1, k2, k3⟩ := four_in ok0
  rw [k0, k2, k3] at this
  cases g <;> exact this
def near5 (c : Cd) (x : PyData) : PyData := .tuple [.str (pS c.p), .str (sS c.s), .bool c.h, .int c.w, .int c.a, x, .int c.d]
theorem is5 {c : Cd} (ok0 : okCd c) {x : PyData} {g : Bool} (h : m_is_integer [.d x, .d (.int 0), .d (.int 12)] = ok (.d (.bool g))) : m_is_card [.d (near5 c x)] = ok (.d (.bool g)) := by
  have := e_is (x0 := .str (pS c.p)) (x1 := .str (sS c.s)) (x2 := .bool c.h) (x3 := .int c.w) (x4 := .int c.a) (x5 := x) (x6 := .int c.d) (b2 := true) (e_way _) (e_state _) rfl (e_integer _) (e_integer _) h (e_integer _)
  obtain ⟨k0, k1, k2, k3⟩ := four_in ok0
  rw [k0, k1, k3] at this
  cases g <;> exact this
def near6 (c : Cd) (x : PyData) : PyData := .tuple [.str (pS c.p), .str (sS c.s), .bool c.h, .int c.w, .int c.a, .int c.l, x]
theorem is6 {c : Cd} (ok0 : okCd c) {x : PyData} {g : Bool} (h : m_is_integer [.d x, .d (.int 0), .d (.int 12)] = ok (.d (.bool g))) : m_is_card [.d (near6 c x)] = ok (.d (.bool g)) := by
  have := e_is (x0 := .str (pS c.p)) (x1 := .str (sS c.s)) (x2 := .bool c.h) (x3 := .int c.w) (x4 := .int c.a) (x5 := .int c.l) (x6 := x) (b2 := true) (e_way _) (e_state _) rfl (e_integer _) (e_integer _) (e_integer _) h
  obtain ⟨k0, k1, k2, k3⟩ := four_in ok0
  rw [k0, k1, k2] at this
  cases g <;> exact this
def oddsN : List PyData := [PyData.none, .str "none", .str "sent", .str "done", .bool true, .bool false, .int 0, .int 1, .int (-1), .int 12, .int 13, .str "12", .tuple [], .str "light", .str "paired"]
noncomputable def valN : CE := (cOp addC (cOp addC (cSl (cVar 1) cNoPart (cPart (cVar 2))) (cTup (cCons (cVar 4) cNil))) (cSl (cVar 1) (cPart (cOp addC (cVar 2) (cC (.int 1)))) cNoPart))
noncomputable def iffN : CS := (cIf (cB (cOp ltC (cVar 2) (cC (.int 2)))) (cSet 6 (cAnd (cFun isiC (cCons (cVar 4) (cCons (cTy "str") cNil))) (cOp isinC (cVar 4) (cOp ixC (cTup (cCons (cTup (cCons (cC (.str "marked")) (cCons (cC (.str "paired")) cNil))) (cCons (cTup (cCons (cC (.str "none")) (cCons (cC (.str "sent")) (cCons (cC (.str "let")) cNil)))) cNil))) (cVar 2))))) (cIf (cB (cOp eqC (cVar 2) (cC (.int 2)))) (cSet 6 (cFun isiC (cCons (cVar 4) (cCons (cTy "bool") cNil)))) (cSet 6 (cAnd (cFun isiC (cCons (cVar 4) (cCons (cTy "int") cNil))) (cAnd (cNotE (cFun isiC (cCons (cVar 4) (cCons (cTy "bool") cNil)))) (cChain leC leC (cC (.int 0)) (cVar 4) (cC (.int 12))))))))
noncomputable def restN : CS := cSeq (cSet 5 valN) (cSeq iffN (cSeq (cSet 7 (cCall m_is_card (cCons (cVar 5) cNil))) (cRet (cAnd (cFun isiC (cCons (cVar 7) (cCons (cTy "bool") cNil))) (cOp eqC (cVar 7) (cVar 6))))))
def rhoN (c : Cd) (i : Int) (x : PyData) : Rho := [some .cup, some (.d (enc c)), some (.d (.int i)), some (.d (.list oddsN)), some (.d x), none, none, none]
def rhoM (c : Cd) (i : Int) (x v : PyData) (u : Option Dv) : Rho := [some .cup, some (.d (enc c)), some (.d (.int i)), some (.d (.list oddsN)), some (.d x), some (.d v), u, none]
theorem near_core {c : Cd} {i : Int} {x v : PyData} {g : Bool} (hc : m_is_card [.d v] = ok (.d (.bool g))) (hv : valN (rhoN c i x) = ok (.d v)) (hg : iffN (rhoM c i x v none) = ok (.nx (rhoM c i x v (some (.d (.bool g)))))) : restN (rhoN c i x) = ok (.rt (.d (.bool true))) := by
  unfold restN
  refine (seq_nx ((set_ok hv).trans rfl)).trans ((seq_nx hg).trans ((seq_nx ((set_ok ((call_ok (xs := [.d v]) rfl).trans hc)).trans rfl)).trans (ret_ok (andE (v := true) (w := true) ?_ ?_))))
  · rfl
  · cases g <;> rfl
theorem core0 {c : Cd} (ok0 : okCd c) {x : PyData} (hx : x ∈ oddsN) : restN (rhoN c 0 x) = ok (.rt (.d (.bool true))) := by
  unfold oddsN at hx
  simp only [List.mem_cons, List.not_mem_nil, or_false] at hx
  rcases hx with rfl | rfl | rfl | rfl | rfl | rfl | rfl | rfl | rfl | rfl | rfl | rfl | rfl | rfl | rfl
  · exact near_core (g := false) (is0 (x := PyData.none) ok0 (by kernel_rfl)) (by kernel_rfl) (by kernel_rfl)
  · exact near_core (g := false) (is0 (x := .str "none") ok0 (by kernel_rfl)) (by kernel_rfl) (by kernel_rfl)
  · exact near_core (g := false) (is0 (x := .str "sent") ok0 (by kernel_rfl)) (by kernel_rfl) (by kernel_rfl)
  · exact near_core (g := false) (is0 (x := .str "done") ok0 (by kernel_rfl)) (by kernel_rfl) (by kernel_rfl)
  · exact near_core (g := false) (is0 (x := .bool true) ok0 (by kernel_rfl)) (by kernel_rfl) (by kernel_rfl)
  · exact near_core (g := false) (is0 (x := .bool false) ok0 (by kernel_rfl)) (by kernel_rfl) (by kernel_rfl)
  · exact near_core (g := false) (is0 (x := .int 0) ok0 (by kernel_rfl)) (by kernel_rfl) (by kernel_rfl)
  · exact near_core (g := false) (is0 (x := .int 1) ok0 (by kernel_rfl)) (by kernel_rfl) (by kernel_rfl)
  · exact near_core (g := false) (is0 (x := .int (-1)) ok0 (by kernel_rfl)) (by kernel_rfl) (by kernel_rfl)
  · exact near_core (g := false) (is0 (x := .int 12) ok0 (by kernel_rfl)) (by kernel_rfl) (by kernel_rfl)
  · exact near_core (g := false) (is0 (x := .int 13) ok0 (by kernel_rfl)) (by kernel_rfl) (by kernel_rfl)
  · exact near_core (g := false) (is0 (x := .str "12") ok0 (by kernel_rfl)) (by kernel_rfl) (by kernel_rfl)
  · exact near_core (g := false) (is0 (x := .tuple []) ok0 (by kernel_rfl)) (by kernel_rfl) (by kernel_rfl)
  · exact near_core (g := false) (is0 (x := .str "light") ok0 (by kernel_rfl)) (by kernel_rfl) (by kernel_rfl)
  · exact near_core (g := true) (is0 (x := .str "paired") ok0 (by kernel_rfl)) (by kernel_rfl) (by kernel_rfl)
theorem core1 {c : Cd} (ok0 : okCd c) {x : PyData} (hx : x ∈ oddsN) : restN (rhoN c 1 x) = ok (.rt (.d (.bool true))) := by
  unfold oddsN at hx
  simp only [List.mem_cons, List.not_mem_nil, or_false] at hx
  rcases hx with rfl | rfl | rfl | rfl | rfl | rfl | rfl | rfl | rfl | rfl | rfl | rfl | rfl | rfl | rfl
  · exact near_core (g := false) (is1 (x := PyData.none) ok0 (by kernel_rfl)) (by kernel_rfl) (by kernel_rfl)
  · exact near_core (g := true) (is1 (x := .str "none") ok0 (by kernel_rfl)) (by kernel_rfl) (by kernel_rfl)
  · exact near_core (g := true) (is1 (x := .str "sent") ok0 (by kernel_rfl)) (by kernel_rfl) (by kernel_rfl)
  · exact near_core (g := false) (is1 (x := .str "done") ok0 (by kernel_rfl)) (by kernel_rfl) (by kernel_rfl)
  · exact near_core (g := false) (is1 (x := .bool true) ok0 (by kernel_rfl)) (by kernel_rfl) (by kernel_rfl)
  · exact near_core (g := false) (is1 (x := .bool false) ok0 (by kernel_rfl)) (by kernel_rfl) (by kernel_rfl)
  · exact near_core (g := false) (is1 (x := .int 0) ok0 (by kernel_rfl)) (by kernel_rfl) (by kernel_rfl)
  · exact near_core (g := false) (is1 (x := .int 1) ok0 (by kernel_rfl)) (by kernel_rfl) (by kernel_rfl)
  · exact near_core (g := false) (is1 (x := .int (-1)) ok0 (by kernel_rfl)) (by kernel_rfl) (by kernel_rfl)
  · exact near_core (g := false) (is1 (x := .int 12) ok0 (by kernel_rfl)) (by kernel_rfl) (by kernel_rfl)
  · exact near_core (g := false) (is1 (x := .int 13) ok0 (by kernel_rfl)) (by kernel_rfl) (by kernel_rfl)
  · exact near_core (g := false) (is1 (x := .str "12") ok0 (by kernel_rfl)) (by kernel_rfl) (by kernel_rfl)
  · exact near_core (g := false) (is1 (x := .tuple []) ok0 (by kernel_rfl)) (by kernel_rfl) (by kernel_rfl)
  · exact near_core (g := false) (is1 (x := .str "light") ok0 (by kernel_rfl)) (by kernel_rfl) (by kernel_rfl)
  · exact near_core (g := false) (is1 (x := .str "paired") ok0 (by kernel_rfl)) (by kernel_rfl) (by kernel_rfl)
theorem core2 {c : Cd} (ok0 : okCd c) {x : PyData} (hx : x ∈ oddsN) : restN (rhoN c 2 x) = ok (.rt (.d (.bool true))) := by
  unfold oddsN at hx
  simp only [List.mem_cons, List.not_mem_nil, or_false] at hx
  rcases hx with rfl | rfl | rfl | rfl | rfl | rfl | rfl | rfl | rfl | rfl | rfl | rfl | rfl | rfl | rfl
  · exact near_core (g := false) (is2 (x := PyData.none) ok0 (by kernel_rfl)) (by kernel_rfl) (by kernel_rfl)
  · exact near_core (g := false) (is2 (x := .str "none") ok0 (by kernel_rfl)) (by kernel_rfl) (by kernel_rfl)
  · exact near_core (g := false) (is2 (x := .str "sent") ok0 (by kernel_rfl)) (by kernel_rfl) (by kernel_rfl)
  · exact near_core (g := false) (is2 (x := .str "done") ok0 (by kernel_rfl)) (by kernel_rfl) (by kernel_rfl)
  · exact near_core (g := true) (is2 (x := .bool true) ok0 (by kernel_rfl)) (by kernel_rfl) (by kernel_rfl)
  · exact near_core (g := true) (is2 (x := .bool false) ok0 (by kernel_rfl)) (by kernel_rfl) (by kernel_rfl)
  · exact near_core (g := false) (is2 (x := .int 0) ok0 (by kernel_rfl)) (by kernel_rfl) (by kernel_rfl)
  · exact near_core (g := false) (is2 (x := .int 1) ok0 (by kernel_rfl)) (by kernel_rfl) (by kernel_rfl)
  · exact near_core (g := false) (is2 (x := .int (-1)) ok0 (by kernel_rfl)) (by kernel_rfl) (by kernel_rfl)
  · exact near_core (g := false) (is2 (x := .int 12) ok0 (by kernel_rfl)) (by kernel_rfl) (by kernel_rfl)
  · exact near_core (g := false) (is2 (x := .int 13) ok0 (by kernel_rfl)) (by kernel_rfl) (by kernel_rfl)
  · exact near_core (g := false) (is2 (x := .str "12") ok0 (by kernel_rfl)) (by kernel_rfl) (by kernel_rfl)
  · exact near_core (g := false) (is2 (x := .tuple []) ok0 (by kernel_rfl)) (by kernel_rfl) (by kernel_rfl)
  · exact near_core (g := false) (is2 (x := .str "light") ok0 (by kernel_rfl)) (by kernel_rfl) (by kernel_rfl)
  · exact near_core (g := false) (is2 (x := .str "paired") ok0 (by kernel_rfl)) (by kernel_rfl) (by kernel_rfl)
theorem core3 {c : Cd} (ok0 : okCd c) {x : PyData} (hx : x ∈ oddsN) : restN (rhoN c 3 x) = ok (.rt (.d (.bool true))) := by
  unfold oddsN at hx
  simp only [List.mem_cons, List.not_mem_nil, or_false] at hx
  rcases hx with rfl | rfl | rfl | rfl | rfl | rfl | rfl | rfl | rfl | rfl | rfl | rfl | rfl | rfl | rfl
  · exact near_core (g := false) (is3 (x := PyData.none) ok0 (by kernel_rfl)) (by kernel_rfl) (by kernel_rfl)
  · exact near_core (g := false) (is3 (x := .str "none") ok0 (by kernel_rfl)) (by kernel_rfl) (by kernel_rfl)
  · exact near_core (g := false) (is3 (x := .str "sent") ok0 (by kernel_rfl)) (by kernel_rfl) (by kernel_rfl)
  · exact near_core (g := false) (is3 (x := .str "done") ok0 (by kernel_rfl)) (by kernel_rfl) (by kernel_rfl)
  · exact near_core (g := false) (is3 (x := .bool true) ok0 (by kernel_rfl)) (by kernel_rfl) (by kernel_rfl)
  · exact near_core (g := false) (is3 (x := .bool false) ok0 (by kernel_rfl)) (by kernel_rfl) (by kernel_rfl)
  · exact near_core (g := true) (is3 (x := .int 0) ok0 (by kernel_rfl)) (by kernel_rfl) (by kernel_rfl)
  · exact near_core (g := true) (is3 (x := .int 1) ok0 (by kernel_rfl)) (by kernel_rfl) (by kernel_rfl)
  · exact near_core (g := false) (is3 (x := .int (-1)) ok0 (by kernel_rfl)) (by kernel_rfl) (by kernel_rfl)
  · exact near_core (g := true) (is3 (x := .int 12) ok0 (by kernel_rfl)) (by kernel_rfl) (by kernel_rfl)
  · exact near_core (g := false) (is3 (x := .int 13) ok0 (by kernel_rfl)) (by kernel_rfl) (by kernel_rfl)
  · exact near_core (g := false) (is3 (x := .str "12") ok0 (by kernel_rfl)) (by kernel_rfl) (by kernel_rfl)
  · exact near_core (g := false) (is3 (x := .tuple []) ok0 (by kernel_rfl)) (by kernel_rfl) (by kernel_rfl)
  · exact near_core (g := false) (is3 (x := .str "light") ok0 (by kernel_rfl)) (by kernel_rfl) (by kernel_rfl)
  · exact near_core (g := false) (is3 (x := .str "paired") ok0 (by kernel_rfl)) (by kernel_rfl) (by kernel_rfl)
theorem core4 {c : Cd} (ok0 : okCd c) {x : PyData} (hx : x ∈ oddsN) : restN (rhoN c 4 x) = ok (.rt (.d (.bool true))) := by
  unfold oddsN at hx
  simp only [List.mem_cons, List.not_mem_nil, or_false] at hx
  rcases hx with rfl | rfl | rfl | rfl | rfl | rfl | rfl | rfl | rfl | rfl | rfl | rfl | rfl | rfl | rfl
  · exact near_core (g := false) (is4 (x := PyData.none) ok0 (by kernel_rfl)) (by kernel_rfl) (by kernel_rfl)
  · exact near_core (g := false) (is4 (x := .str "none") ok0 (by kernel_rfl)) (by kernel_rfl) (by kernel_rfl)
  · exact near_core (g := false) (is4 (x := .str "sent") ok0 (by kernel_rfl)) (by kernel_rfl) (by kernel_rfl)
  · exact near_core (g := false) (is4 (x := .str "done") ok0 (by kernel_rfl)) (by kernel_rfl) (by kernel_rfl)
  · exact near_core (g := false) (is4 (x := .bool true) ok0 (by kernel_rfl)) (by kernel_rfl) (by kernel_rfl)
  · exact near_core (g := false) (is4 (x := .bool false) ok0 (by kernel_rfl)) (by kernel_rfl) (by kernel_rfl)
  · exact near_core (g := true) (is4 (x := .int 0) ok0 (by kernel_rfl)) (by kernel_rfl) (by kernel_rfl)
  · exact near_core (g := true) (is4 (x := .int 1) ok0 (by kernel_rfl)) (by kernel_rfl) (by kernel_rfl)
  · exact near_core (g := false) (is4 (x := .int (-1)) ok0 (by kernel_rfl)) (by kernel_rfl) (by kernel_rfl)
  · exact near_core (g := true) (is4 (x := .int 12) ok0 (by kernel_rfl)) (by kernel_rfl) (by kernel_rfl)
  · exact near_core (g := false) (is4 (x := .int 13) ok0 (by kernel_rfl)) (by kernel_rfl) (by kernel_rfl)
  · exact near_core (g := false) (is4 (x := .str "12") ok0 (by kernel_rfl)) (by kernel_rfl) (by kernel_rfl)
  · exact near_core (g := false) (is4 (x := .tuple []) ok0 (by kernel_rfl)) (by kernel_rfl) (by kernel_rfl)
  · exact near_core (g := false) (is4 (x := .str "light") ok0 (by kernel_rfl)) (by kernel_rfl) (by kernel_rfl)
  · exact near_core (g := false) (is4 (x := .str "paired") ok0 (by kernel_rfl)) (by kernel_rfl) (by kernel_rfl)
theorem core5 {c : Cd} (ok0 : okCd c) {x : PyData} (hx : x ∈ oddsN) : restN (rhoN c 5 x) = ok (.rt (.d (.bool true))) := by
  unfold oddsN at hx
  simp only [List.mem_cons, List.not_mem_nil, or_false] at hx
  rcases hx with rfl | rfl | rfl | rfl | rfl | rfl | rfl | rfl | rfl | rfl | rfl | rfl | rfl | rfl | rfl
  · exact near_core (g := false) (is5 (x := PyData.none) ok0 (by kernel_rfl)) (by kernel_rfl) (by kernel_rfl)
  · exact near_core (g := false) (is5 (x := .str "none") ok0 (by kernel_rfl)) (by kernel_rfl) (by kernel_rfl)
  · exact near_core (g := false) (is5 (x := .str "sent") ok0 (by kernel_rfl)) (by kernel_rfl) (by kernel_rfl)
  · exact near_core (g := false) (is5 (x := .str "done") ok0 (by kernel_rfl)) (by kernel_rfl) (by kernel_rfl)
  · exact near_core (g := false) (is5 (x := .bool true) ok0 (by kernel_rfl)) (by kernel_rfl) (by kernel_rfl)
  · exact near_core (g := false) (is5 (x := .bool false) ok0 (by kernel_rfl)) (by kernel_rfl) (by kernel_rfl)
  · exact near_core (g := true) (is5 (x := .int 0) ok0 (by kernel_rfl)) (by kernel_rfl) (by kernel_rfl)
  · exact near_core (g := true) (is5 (x := .int 1) ok0 (by kernel_rfl)) (by kernel_rfl) (by kernel_rfl)
  · exact near_core (g := false) (is5 (x := .int (-1)) ok0 (by kernel_rfl)) (by kernel_rfl) (by kernel_rfl)
  · exact near_core (g := true) (is5 (x := .int 12) ok0 (by kernel_rfl)) (by kernel_rfl) (by kernel_rfl)
  · exact near_core (g := false) (is5 (x := .int 13) ok0 (by kernel_rfl)) (by kernel_rfl) (by kernel_rfl)
  · exact near_core (g := false) (is5 (x := .str "12") ok0 (by kernel_rfl)) (by kernel_rfl) (by kernel_rfl)
  · exact near_core (g := false) (is5 (x := .tuple []) ok0 (by kernel_rfl)) (by kernel_rfl) (by kernel_rfl)
  · exact near_core (g := false) (is5 (x := .str "light") ok0 (by kernel_rfl)) (by kernel_rfl) (by kernel_rfl)
  · exact near_core (g := false) (is5 (x := .str "paired") ok0 (by kernel_rfl)) (by kernel_rfl) (by kernel_rfl)
theorem core6 {c : Cd} (ok0 : okCd c) {x : PyData} (hx : x ∈ oddsN) : restN (rhoN c 6 x) = ok (.rt (.d (.bool true))) := by
  unfold oddsN at hx
  simp only [List.mem_cons, List.not_mem_nil, or_false] at hx
  rcases hx with rfl | rfl | rfl | rfl | rfl | rfl | rfl | rfl | rfl | rfl | rfl | rfl | rfl | rfl | rfl
  · exact near_core (g := false) (is6 (x := PyData.none) ok0 (by kernel_rfl)) (by kernel_rfl) (by kernel_rfl)
  · exact near_core (g := false) (is6 (x := .str "none") ok0 (by kernel_rfl)) (by kernel_rfl) (by kernel_rfl)
  · exact near_core (g := false) (is6 (x := .str "sent") ok0 (by kernel_rfl)) (by kernel_rfl) (by kernel_rfl)
  · exact near_core (g := false) (is6 (x := .str "done") ok0 (by kernel_rfl)) (by kernel_rfl) (by kernel_rfl)
  · exact near_core (g := false) (is6 (x := .bool true) ok0 (by kernel_rfl)) (by kernel_rfl) (by kernel_rfl)
  · exact near_core (g := false) (is6 (x := .bool false) ok0 (by kernel_rfl)) (by kernel_rfl) (by kernel_rfl)
  · exact near_core (g := true) (is6 (x := .int 0) ok0 (by kernel_rfl)) (by kernel_rfl) (by kernel_rfl)
  · exact near_core (g := true) (is6 (x := .int 1) ok0 (by kernel_rfl)) (by kernel_rfl) (by kernel_rfl)
  · exact near_core (g := false) (is6 (x := .int (-1)) ok0 (by kernel_rfl)) (by kernel_rfl) (by kernel_rfl)
  · exact near_core (g := true) (is6 (x := .int 12) ok0 (by kernel_rfl)) (by kernel_rfl) (by kernel_rfl)
  · exact near_core (g := false) (is6 (x := .int 13) ok0 (by kernel_rfl)) (by kernel_rfl) (by kernel_rfl)
  · exact near_core (g := false) (is6 (x := .str "12") ok0 (by kernel_rfl)) (by kernel_rfl) (by kernel_rfl)
  · exact near_core (g := false) (is6 (x := .tuple []) ok0 (by kernel_rfl)) (by kernel_rfl) (by kernel_rfl)
  · exact near_core (g := false) (is6 (x := .str "light") ok0 (by kernel_rfl)) (by kernel_rfl) (by kernel_rfl)
  · exact near_core (g := false) (is6 (x := .str "paired") ok0 (by kernel_rfl)) (by kernel_rfl) (by kernel_rfl)
theorem near_wp {c : Cd} (ok0 : okCd c) {q : Dv → Prop} {er : Str → Prop} (k : q (.d (.bool true))) : Wp (m__law_near_right [.cup, .d (enc c)]) q er := by
  unfold m__law_near_right
  apply wq_body (hn := rfl)
  apply wq_seq
  apply wq_set
  apply wq_call (xs := [.cup, .d (.int 7)]) rfl rfl
  refine ⟨roll_wp (by decide) (by decide) fun i i0 i1 => ⟨rfl, ?_⟩⟩
  show Wp _ _ er
  apply wq_seq
  apply wq_ok (a := .nx [some .cup, some (.d (enc c)), some (.d (.int i)), some (.d (.list oddsN)), none, none, none, none]) (by kernel_rfl)
  show Wp _ _ er
  apply wq_seq
  apply wq_set
  apply wq_call (xs := [.cup, .d (.list oddsN)]) rfl rfl
  refine ⟨some_wp (by decide) (by decide) fun x hx => ⟨rfl, ?_⟩⟩
  show Wp (restN (rhoN c i x)) _ er
  have : i = 0 ∨ i = 1 ∨ i = 2 ∨ i = 3 ∨ i = 4 ∨ i = 5 ∨ i = 6 := by omega
  rcases this with rfl | rfl | rfl | rfl | rfl | rfl | rfl
  · exact wq_ok (core0 ok0 hx) k
  · exact wq_ok (core1 ok0 hx) k
  · exact wq_ok (core2 ok0 hx) k
  · exact wq_ok (core3 ok0 hx) k
  · exact wq_ok (core4 ok0 hx) k
  · exact wq_ok (core5 ok0 hx) k
  · exact wq_ok (core6 ok0 hx) k
end Fl

set_option Elab.async false
set_option linter.all false
set_option maxRecDepth 100000
set_option maxHeartbeats 400000
namespace Fl
open PySem PySem.Spec PyProof.Rows L2 Dl R
noncomputable def bodyW : CS := (cSeq (cIf (cOrT (cNot (cB (cCall m__law_step_right (cCons (cVar 1) cNil)))) (cB (cOp neC (cCall m_is_possible (cCons (cVar 1) cNil)) (cCall m__law_possible (cCons (cVar 1) cNil))))) (cRet (cC (.bool false))) cNext)
    (cSeq (cIf (cAndT (cB (cVar 2)) (cNot (cB (cCall m__law_possible (cCons (cVar 1) cNil))))) (cRet (cC (.bool false))) cNext)
    (cSeq (cSet 4 (cCall m_card_events (cCons (cVar 1) cNil)))
    (cSeq (cIf (cB (cOp eqC (cVar 4) (cLst cNil))) (cRet (cC (.bool true))) cNext)
    (cSet 1 (cCall m_card_behind (cCons (cVar 1) (cCons (cCall m__law_some (cCons (cVar 0) (cCons (cVar 4) cNil))) cNil))))))))
def rhoW (c : Cd) (b : Bool) (o3 o4 : Option Dv) : Rho := [some .cup, some (.d (enc c)), some (.d (.bool b)), o3, o4]
theorem ne_bool (b : Bool) : neC (.d (.bool b)) (.d (.bool b)) = ok (.d (.bool false)) := by cases b <;> kernel_rfl
theorem body_wp {c : Cd} {b : Bool} {o3 o4 : Option Dv} (ok0 : okCd c) (hb : b = true → canM c = true) {p : Out → Prop} {er : Str → Prop} (k1 : p (.rt (.d (.bool true)))) (k2 : ∀ c' o, okCd c' → (b = true → canM c' = true) → p (.nx (rhoW c' b o3 o))) : Wp (bodyW (rhoW c b o3 o4)) p er := by
  unfold bodyW
  apply wq_seq
  have t1 : cNot (cB (cCall m__law_step_right (cCons (cVar 1) cNil))) (rhoW c b o3 o4) = ok (!true) := not_t (bB ((call_ok (xs := [.d (enc c)]) rfl).trans (e_step ok0)))
  have t2 : cB (cOp neC (cCall m_is_possible (cCons (cVar 1) cNil)) (cCall m__law_possible (cCons (cVar 1) cNil))) (rhoW c b o3 o4) = ok false := bB ((op_ok ((call_ok (xs := [.d (enc c)]) rfl).trans (e_possible ok0)) ((call_ok (xs := [.d (enc c)]) rfl).trans (e_lposs c))).trans (ne_bool _))
  apply wq_ok ((if_f (or_b t1 t2)).trans rfl)
  show Wp _ _ er
  apply wq_seq
  have t3 : cNot (cB (cCall m__law_possible (cCons (cVar 1) cNil))) (rhoW c b o3 o4) = ok (!canM c) := not_t (bB ((call_ok (xs := [.d (enc c)]) rfl).trans (e_lposs c)))
  have t4 : cAndT (cB (cVar 2)) (cNot (cB (cCall m__law_possible (cCons (cVar 1) cNil)))) (rhoW c b o3 o4) = ok false := by
    refine (and_b (v := b) rfl t3).trans ?_
    cases b with
    | false => rfl
    | true => rw [hb rfl]; rfl
  apply wq_ok ((if_f t4).trans rfl)
  show Wp _ _ er
  apply wq_seq
  apply wq_ok (a := .nx (rhoW c b o3 (some (.d (.list ((possM c).map encD)))))) ((set_ok ((call_ok (xs := [.d (enc c)]) rfl).trans (e_events ok0))).trans rfl)
  show Wp _ _ er
  apply wq_seq
  cases hp : possM c with
  | nil => exact wq_ok (a := .rt (.d (.bool true))) ((if_t (bB ((op_ok (x := .d (.list [])) (y := .d (.list [])) rfl rfl).trans (by kernel_rfl)))).trans rfl) k1
  | cons e L =>
    have hne : eqC (.d (.list ((e :: L).map encD))) (.d (.list [])) = ok (.d (.bool false)) := by
      show chk (decide ((PyData.list ((e :: L).map encD)).depth ≤ 64) && decide ((PyData.list []).depth ≤ 64)) (R.ok (Dv.d (.bool false))) = _
      rw [decide_eq_true (dep_l _), decide_eq_true (show (PyData.list []).depth ≤ 64 from dep_l []), Bool.and_self, chk_t rfl]
    apply wq_ok ((if_f (bB ((op_ok (x := .d (.list ((e :: L).map encD))) (y := .d (.list [])) rfl rfl).trans hne))).trans rfl)
    show Wp _ _ er
    apply wq_set
    apply wq_call2
    apply wq_cons
    apply wq_ok (a := .d (enc c)) (by rfl)
    apply wq_cons
    apply wq_call (xs := [.cup, .d (.list ((e :: L).map encD))]) rfl rfl
    refine ⟨some_wp (by rw [List.length_map, List.length_cons]; omega) (by
      have h1 : (e :: L).length ≤ 14 := by rw [← hp]; exact List.length_filter_le _ _
      rw [List.length_map]
      omega) fun x hx => ?_⟩
    obtain ⟨f, hf, rfl⟩ := List.mem_map.mp hx
    rw [← hp] at hf
    obtain ⟨c', hc'⟩ := Option.isSome_iff_exists.mp ((mem_poss c f).mp hf)
    apply wq_ok (a := []) (by rfl)
    refine ⟨rfl, ?_⟩
    have eb := e_behind ok0 hf
    rw [hc'] at eb
    apply wq_ok eb
    refine ⟨rfl, ?_⟩
    exact k2 c' _ (st_ok ok0 hc') fun hb1 => (can_iff c').mpr (can_step ok0 ((can_iff c).mp (hb hb1)) hc')
theorem walk_wp {c : Cd} (ok0 : okCd c) {q : Dv → Prop} {er : Str → Prop} (k : q (.d (.bool true))) : Wp (m__law_walk_right [.cup, .d (enc c)]) q er := by
  unfold m__law_walk_right
  apply wq_body (hn := rfl)
  apply wq_seq
  apply wq_ok (a := .nx (rhoW c (canM c) none none)) ((set_ok ((call_ok (xs := [.d (enc c)]) rfl).trans (e_lposs c))).trans rfl)
  show Wp _ _ er
  apply wq_seq
  show Wp (cFor (cRng1 (cC (.int 12))) (tgN 3) bodyW (rhoW c (canM c) none none)) _ er
  unfold cFor
  rw [show cRng1 (cC (.int 12)) (rhoW c (canM c) none none) = ok (intsD 0 12) from sm_rng (n := 12) (by decide +kernel), bind_ok]
  apply wq_for (fun i ρ => ∃ c' o3 o4, okCd c' ∧ (canM c = true → canM c' = true) ∧ ρ = rhoW c' (canM c) o3 o4)
  · exact ⟨c, none, none, ok0, id, rfl⟩
  · rintro i x ρ hx ⟨c', o3, o4, ok1, hb, rfl⟩
    apply wq_ok (a := rhoW c' (canM c) (some (.d x)) o4) (by rfl)
    apply body_wp ok1 hb
    · exact k
    · intro c2 o h1 h2
      exact ⟨c2, _, o, h1, h2, rfl⟩
  · rintro ρ ⟨c', o3, o4, ok1, hb, rfl⟩
    exact wq_ok (a := .rt (.d (.bool true))) (by rfl) k
end Fl

set_option Elab.async false
set_option linter.all false
set_option maxRecDepth 100000
set_option maxHeartbeats 4000000
namespace Fl
open PySem PySem.Spec PyProof.Rows L2 Dl R
noncomputable section
/-! ### the law, statement by statement -/
def c_law1 : CS := (cSet 2 (cTup (cCons (cCall m__law_some (cCons (cVar 1) (cCons (cLst (cCons (cC (.str "marked")) (cCons (cC (.str "paired")) cNil))) cNil))) (cCons (cC (.str "none")) (cCons (cC (.bool false)) (cCons (cC (.int 0)) (cCons (cC (.int 0)) (cCons (cC (.int 0)) (cCons (cC (.int 0)) cNil)))))))))
def c_law2 : CS := (cIf (cOrT (cNot (cB (cCall m__law_walk_right (cCons (cVar 1) (cCons (cVar 2) cNil))))) (cNot (cB (cCall m__law_walk_right (cCons (cVar 1) (cCons (cCall m__law_card (cCons (cVar 1) cNil)) cNil)))))) (cRet (cC (.bool false))) cNext)
def c_law3 : CS := (cFor (cRng1 (cC (.int 4))) (tgN 3) (cIf (cNot (cB (cCall m__law_near_right (cCons (cVar 1) (cCons (cCall m__law_card (cCons (cVar 1) cNil)) cNil))))) (cRet (cC (.bool false))) cNext))
def c_law4 : CS := (cSet 4 (cLst (cCons (cC .none) (cCons (cTup cNil) (cCons (cTup (cCons (cC (.str "give")) cNil)) (cCons (cOp mulC2 (cLst (cCons (cC (.str "paired")) cNil)) (cC (.int 7))) (cCons (cTup (cCons (cC (.str "paired")) (cCons (cC (.str "none")) (cCons (cC (.bool false)) (cCons (cC (.int 0)) (cCons (cC (.int 0)) (cCons (cC (.int 0)) cNil))))))) cNil)))))))
def c_law5 : CS := (cFor (cIt (cOp addC (cVar 4) (cLst (cCons (cTup (cCons (cC (.str "paired")) (cCons (cC (.str "none")) (cCons (cC (.int 0)) (cCons (cC (.int 0)) (cCons (cC (.int 0)) (cCons (cC (.int 0)) (cCons (cC (.int 0)) cNil)))))))) cNil)))) (tgN 5) (cSeq (cFnsO 6 (cB (cOp isNotC (cCall m_is_card (cCons (cVar 5) cNil)) (cC (.bool false)))) tabE "none" [(cCall m_is_possible (cCons (cVar 5) cNil)), (cCall m_card_events (cCons (cVar 5) cNil)), (cCall m_card_behind (cCons (cVar 5) (cCons (cC .none) cNil)))] (cOp mulC2 (cLst (cCons (cC (.str "card")) cNil)) (cC (.int 3))) (cRet (cC (.bool false))) cNext)
    cNext))
def c_law6 : CS := (cSet 8 (cTup (cCons (cC (.str "paired")) (cCons (cC (.str "sent")) (cCons (cC (.bool true)) (cCons (cC (.int 0)) (cCons (cC (.int 1)) (cCons (cC (.int 0)) (cCons (cC (.int 0)) cNil)))))))))
def c_law7 : CS := (cIf (cB (cOp neC (cCall m_card_events (cCons (cVar 8) cNil)) (cLst (cCons (cTup (cCons (cC (.str "again")) cNil)) (cCons (cTup (cCons (cC (.str "arrive")) (cCons (cC (.str "answers")) cNil))) (cCons (cTup (cCons (cC (.str "double")) (cCons (cC (.str "answers")) cNil))) (cCons (cTup (cCons (cC (.str "lose")) (cCons (cC (.str "answers")) cNil))) cNil))))))) (cRet (cC (.bool false))) cNext)
def c_law8 : CS := (cIf (cB (cOp neC (cCall m_card_behind (cCons (cVar 8) (cCons (cTup (cCons (cC (.str "arrive")) (cCons (cC (.str "answers")) cNil))) cNil))) (cTup (cCons (cC (.str "paired")) (cCons (cC (.str "let")) (cCons (cC (.bool true)) (cCons (cC (.int 0)) (cCons (cC (.int 0)) (cCons (cC (.int 1)) (cCons (cC (.int 0)) cNil)))))))))) (cRet (cC (.bool false))) cNext)
def c_law9 : CS := (cIf (cB (cOp neC (cCall m_card_behind (cCons (cVar 8) (cCons (cTup (cCons (cC (.str "again")) cNil)) cNil))) (cTup (cCons (cC (.str "paired")) (cCons (cC (.str "sent")) (cCons (cC (.bool true)) (cCons (cC (.int 1)) (cCons (cC (.int 1)) (cCons (cC (.int 0)) (cCons (cC (.int 0)) cNil)))))))))) (cRet (cC (.bool false))) cNext)
def c_law10 : CS := (cIf (cB (cOp neC (cCall m_card_behind (cCons (cTup (cCons (cC (.str "paired")) (cCons (cC (.str "sent")) (cCons (cC (.bool true)) (cCons (cC (.int 1)) (cCons (cC (.int 1)) (cCons (cC (.int 0)) (cCons (cC (.int 0)) cNil)))))))) (cCons (cTup (cCons (cC (.str "arrive")) (cCons (cC (.str "answers")) cNil))) cNil))) (cTup (cCons (cC (.str "paired")) (cCons (cC (.str "sent")) (cCons (cC (.bool true)) (cCons (cC (.int 1)) (cCons (cC (.int 0)) (cCons (cC (.int 0)) (cCons (cC (.int 0)) cNil)))))))))) (cRet (cC (.bool false))) cNext)
def c_law11 : CS := (cSet 9 (cTup (cCons (cC (.str "marked")) (cCons (cC (.str "none")) (cCons (cC (.bool false)) (cCons (cC (.int 2)) (cCons (cC (.int 0)) (cCons (cC (.int 0)) (cCons (cC (.int 0)) cNil)))))))))
def c_law12 : CS := (cIf (cB (cOp neC (cCall m_card_behind (cCons (cTup (cCons (cC (.str "marked")) (cCons (cC (.str "sent")) (cCons (cC (.bool false)) (cCons (cC (.int 2)) (cCons (cC (.int 1)) (cCons (cC (.int 0)) (cCons (cC (.int 0)) cNil)))))))) (cCons (cTup (cCons (cC (.str "arrive")) (cCons (cC (.str "answers")) cNil))) cNil))) (cVar 9))) (cRet (cC (.bool false))) cNext)
def c_law13 : CS := (cIf (cB (cOp neC (cCall m_card_behind (cCons (cTup (cCons (cC (.str "paired")) (cCons (cC (.str "let")) (cCons (cC (.bool false)) (cCons (cC (.int 0)) (cCons (cC (.int 0)) (cCons (cC (.int 0)) (cCons (cC (.int 1)) cNil)))))))) (cCons (cTup (cCons (cC (.str "arrive")) (cCons (cC (.str "dones")) cNil))) cNil))) (cTup (cCons (cC (.str "paired")) (cCons (cC (.str "none")) (cCons (cC (.bool false)) (cCons (cC (.int 0)) (cCons (cC (.int 0)) (cCons (cC (.int 0)) (cCons (cC (.int 0)) cNil)))))))))) (cRet (cC (.bool false))) cNext)
def c_law14 : CS := (cIf (cB (cOp neC (cCall m_card_behind (cCons (cTup (cCons (cC (.str "paired")) (cCons (cC (.str "let")) (cCons (cC (.bool true)) (cCons (cC (.int 0)) (cCons (cC (.int 0)) (cCons (cC (.int 1)) (cCons (cC (.int 0)) cNil)))))))) (cCons (cTup (cCons (cC (.str "arrive")) (cCons (cC (.str "lets")) cNil))) cNil))) (cTup (cCons (cC (.str "paired")) (cCons (cC (.str "let")) (cCons (cC (.bool false)) (cCons (cC (.int 0)) (cCons (cC (.int 0)) (cCons (cC (.int 0)) (cCons (cC (.int 1)) cNil)))))))))) (cRet (cC (.bool false))) cNext)
def c_law15 : CS := (cIf (cB (cOp neC (cCall m_card_behind (cCons (cTup (cCons (cC (.str "paired")) (cCons (cC (.str "let")) (cCons (cC (.bool false)) (cCons (cC (.int 0)) (cCons (cC (.int 0)) (cCons (cC (.int 0)) (cCons (cC (.int 1)) cNil)))))))) (cCons (cTup (cCons (cC (.str "again")) cNil)) cNil))) (cTup (cCons (cC (.str "paired")) (cCons (cC (.str "let")) (cCons (cC (.bool false)) (cCons (cC (.int 0)) (cCons (cC (.int 0)) (cCons (cC (.int 1)) (cCons (cC (.int 1)) cNil)))))))))) (cRet (cC (.bool false))) cNext)
def c_law16 : CS := (cSet 4 (cLst (cCons (cC .none) (cCons (cTup (cCons (cC (.str "give")) cNil)) (cCons (cTup (cCons (cC (.str "arrive")) cNil)) (cCons (cTup (cCons (cC (.str "arrive")) (cCons (cC (.str "words")) cNil))) (cCons (cLst (cCons (cC (.str "again")) cNil)) (cCons (cTup (cCons (cC (.str "lose")) (cCons (cC (.str "frames")) cNil))) (cCons (cTup cNil) cNil)))))))))
def c_law17 : CS := (cFor (cIt (cOp addC (cVar 4) (cLst (cCons (cTup (cCons (cC (.str "turn")) (cCons (cC (.str "answers")) cNil))) cNil)))) (tgN 5) (cIf (cB (cOp neC (cErr tabE "none" (cCall m_card_behind (cCons (cVar 8) (cCons (cVar 5) cNil)))) (cC (.str "cannot")))) (cRet (cC (.bool false))) cNext))
def c_law18 : CS := (cSet 10 (cTup (cCons (cC (.str "marked")) (cCons (cC (.str "sent")) (cCons (cC (.bool false)) (cCons (cC (.int 12)) (cCons (cC (.int 12)) (cCons (cC (.int 0)) (cCons (cC (.int 0)) cNil)))))))))
def c_law19 : CS := (cRet (cOp eqC (cCall m_card_events (cCons (cVar 10) cNil)) (cLst (cCons (cTup (cCons (cC (.str "arrive")) (cCons (cC (.str "answers")) cNil))) (cCons (cTup (cCons (cC (.str "lose")) (cCons (cC (.str "answers")) cNil))) (cCons (cTup (cCons (cC (.str "lose")) (cCons (cC (.str "words")) cNil))) cNil))))))
def c_law : CS := cSeq c_law1 (cSeq c_law2 (cSeq c_law3 (cSeq c_law4 (cSeq c_law5 (cSeq c_law6 (cSeq c_law7 (cSeq c_law8 (cSeq c_law9 (cSeq c_law10 (cSeq c_law11 (cSeq c_law12 (cSeq c_law13 (cSeq c_law14 (cSeq c_law15 (cSeq c_law16 (cSeq c_law17 (cSeq c_law18 (c_law19))))))))))))))))))
end
end Fl

set_option Elab.async false
set_option linter.all false
set_option maxRecDepth 100000
set_option maxHeartbeats 400000
namespace Fl
open PySem PySem.Spec PyProof.Rows L2 Dl R
theorem beh_ne {a b c : CE} {ρ : Rho} {C : Cd} {e : De} {v : PyData} (ha : a ρ = ok (.d (enc C))) (hb : b ρ = ok (.d (encD e))) (hc : c ρ = ok (.d v)) (ok0 : okCd C) (hs : (stM C e).isSome = true) (hne : neC (.d (encO (stM C e))) (.d v) = ok (.d (.bool false))) : cB (cOp neC (cCall m_card_behind (cCons a (cCons b cNil))) c) ρ = ok false :=
  bB ((op_ok ((call_ok (cons_ok ha (cons_ok hb (xs := []) rfl))).trans (e_behind ok0 ((mem_poss C e).mpr hs))) hc).trans hne)
def rhoL (e t o4 o5 o6 o8 o9 o10 : Option Dv) : Rho := [none, some .cup, e, t, o4, o5, o6, none, o8, o9, o10]
def cP : Cd := ⟨true, .sent, true, 0, 1, 0, 0⟩
theorem okcP : okCd cP := by intro k; cases k <;> decide
def ods5 : List PyData := [.none, .tuple [], .tuple [.str "give"], .list [.str "paired", .str "paired", .str "paired", .str "paired", .str "paired", .str "paired", .str "paired"], .tuple [.str "paired", .str "none", .bool false, .int 0, .int 0, .int 0], .tuple [.str "paired", .str "none", .int 0, .int 0, .int 0, .int 0, .int 0]]
theorem bad5 : ∀ x ∈ ods5, m_is_card [.d x] = ok (.d (.bool false)) := by
  intro x hx
  unfold ods5 at hx
  simp only [List.mem_cons, List.not_mem_nil, or_false] at hx
  rcases hx with rfl | rfl | rfl | rfl | rfl | rfl <;> kernel_rfl
theorem err_cd {a : CE} {ρ : Rho} (h : a (noOw ρ) = er "InvalidCard") : cErr tabE "none" a ρ = ok (.d (.str "card")) := err_er h tab_card (by decide +kernel)
theorem fns5 {x : PyData} (h : m_is_card [.d x] = ok (.d (.bool false))) {e t o4 o6 o8 o9 o10 : Option Dv} : cFnsO 6 (cB (cOp isNotC (cCall m_is_card (cCons (cVar 5) cNil)) (cC (.bool false)))) tabE "none" [(cCall m_is_possible (cCons (cVar 5) cNil)), (cCall m_card_events (cCons (cVar 5) cNil)), (cCall m_card_behind (cCons (cVar 5) (cCons (cC .none) cNil)))] (cOp mulC2 (cLst (cCons (cC (.str "card")) cNil)) (cC (.int 3))) (cRet (cC (.bool false))) cNext (rhoL e t o4 (some (.d x)) o6 o8 o9 o10) = ok (.nx (rhoL e t o4 (some (.d x)) none o8 o9 o10)) := by
  have v5 : cVar 5 (noOw (rhoL e t o4 (some (.d x)) none o8 o9 o10)) = ok (.d x) := var_ok rfl
  have e1 : cErr tabE "none" (cCall m_is_possible (cCons (cVar 5) cNil)) (rhoL e t o4 (some (.d x)) none o8 o9 o10) = ok (.d (.str "card")) := err_cd (call_er (cons_ok v5 (xs := []) rfl) (e_possible_er h))
  have e2 : cErr tabE "none" (cCall m_card_events (cCons (cVar 5) cNil)) (rhoL e t o4 (some (.d x)) none o8 o9 o10) = ok (.d (.str "card")) := err_cd (call_er (cons_ok v5 (xs := []) rfl) (e_events_er h))
  have e3 : cErr tabE "none" (cCall m_card_behind (cCons (cVar 5) (cCons (cC .none) cNil))) (rhoL e t o4 (some (.d x)) none o8 o9 o10) = ok (.d (.str "card")) := err_cd (call_er (cons_ok v5 (cons_ok (x := .d .none) rfl (xs := []) rfl)) (e_behind_bad h))
  have nm : namesR tabE "none" [(cCall m_is_possible (cCons (cVar 5) cNil)), (cCall m_card_events (cCons (cVar 5) cNil)), (cCall m_card_behind (cCons (cVar 5) (cCons (cC .none) cNil)))] (rhoL e t o4 (some (.d x)) none o8 o9 o10) = ok [.str "card", .str "card", .str "card"] := by
    unfold namesR
    rw [e1, bind_ok]
    unfold namesR
    rw [e2, bind_ok]
    unfold namesR
    rw [e3, bind_ok]
    rfl
  have t0 : (cB (cOp isNotC (cCall m_is_card (cCons (cVar 5) cNil)) (cC (.bool false)))) (rhoL e t o4 (some (.d x)) none o8 o9 o10) = ok false := bB ((op_ok ((call_ok (xs := [.d x]) rfl).trans h) rfl).trans rfl)
  show cFnsIfO _ tabE "none" _ _ _ _ (rhoL e t o4 (some (.d x)) none o8 o9 o10) = _
  unfold cFnsIfO
  rw [t0, bind_ok, iff_f rfl]
  unfold cFnsIf
  rw [nm, bind_ok, show (cOp mulC2 (cLst (cCons (cC (.str "card")) cNil)) (cC (.int 3))) (rhoL e t o4 (some (.d x)) none o8 o9 o10) = ok (.d (.list [.str "card", .str "card", .str "card"])) from rfl, bind_ok]
  rw [show neC (.d (.list [.str "card", .str "card", .str "card"])) (.d (.list [.str "card", .str "card", .str "card"])) = ok (.d (.bool false)) by kernel_rfl, bind_ok]
  rfl
def o4L : Option Dv := some (.d (.list [.none, .tuple [], .tuple [.str "give"], .list [.str "paired", .str "paired", .str "paired", .str "paired", .str "paired", .str "paired", .str "paired"], .tuple [.str "paired", .str "none", .bool false, .int 0, .int 0, .int 0]]))
theorem law_5 {e t : Option Dv} {p : Out → Prop} {er : Str → Prop} (k : ∀ o5 o6, p (.nx (rhoL e t o4L o5 o6 none none none))) : Wp (c_law5 (rhoL e t o4L none none none none none)) p er := by
  unfold c_law5 cFor
  rw [show (cIt (cOp addC (cVar 4) (cLst (cCons (cTup (cCons (cC (.str "paired")) (cCons (cC (.str "none")) (cCons (cC (.int 0)) (cCons (cC (.int 0)) (cCons (cC (.int 0)) (cCons (cC (.int 0)) (cCons (cC (.int 0)) cNil)))))))) cNil)))) (rhoL e t o4L none none none none none) = ok ods5 by kernel_rfl, bind_ok]
  apply wq_for (fun i ρ => ∃ o5 o6, ρ = rhoL e t o4L o5 o6 none none none)
  · exact ⟨_, _, rfl⟩
  · rintro i x ρ hx ⟨o5, o6, rfl⟩
    apply wq_ok (a := rhoL e t o4L (some (.d x)) o6 none none none) (by rfl)
    apply wq_ok ((seq_nx (fns5 (bad5 x (List.mem_of_getElem? hx)))).trans rfl)
    exact ⟨_, _, rfl⟩
  · rintro ρ ⟨o5, o6, rfl⟩
    exact k o5 o6
def ods17 : List PyData := [.none, .tuple [.str "give"], .tuple [.str "arrive"], .tuple [.str "arrive", .str "words"], .list [.str "again"], .tuple [.str "lose", .str "frames"], .tuple [], .tuple [.str "turn", .str "answers"]]
theorem not17 : ∀ x ∈ ods17, notInC (.d x) (.d (.list ((possM cP).map encD))) = ok (.d (.bool true)) := by
  intro x hx
  unfold ods17 at hx
  simp only [List.mem_cons, List.not_mem_nil, or_false] at hx
  rcases hx with rfl | rfl | rfl | rfl | rfl | rfl | rfl | rfl <;> kernel_rfl
def o4M : Option Dv := some (.d (.list [.none, .tuple [.str "give"], .tuple [.str "arrive"], .tuple [.str "arrive", .str "words"], .list [.str "again"], .tuple [.str "lose", .str "frames"], .tuple []]))
theorem law_17 {e t o5 o6 o9 : Option Dv} {p : Out → Prop} {er : Str → Prop} (k : ∀ o5, p (.nx (rhoL e t o4M o5 o6 (some (.d (enc cP))) o9 none))) : Wp (c_law17 (rhoL e t o4M o5 o6 (some (.d (enc cP))) o9 none)) p er := by
  unfold c_law17 cFor
  rw [show (cIt (cOp addC (cVar 4) (cLst (cCons (cTup (cCons (cC (.str "turn")) (cCons (cC (.str "answers")) cNil))) cNil)))) (rhoL e t o4M o5 o6 (some (.d (enc cP))) o9 none) = ok ods17 by kernel_rfl, bind_ok]
  apply wq_for (fun i ρ => ∃ o5, ρ = rhoL e t o4M o5 o6 (some (.d (enc cP))) o9 none)
  · exact ⟨_, rfl⟩
  · rintro i x ρ hx ⟨o5, rfl⟩
    apply wq_ok (a := rhoL e t o4M (some (.d x)) o6 (some (.d (enc cP))) o9 none) (by rfl)
    have he : cErr tabE "none" (cCall m_card_behind (cCons (cVar 8) (cCons (cVar 5) cNil))) (rhoL e t o4M (some (.d x)) o6 (some (.d (enc cP))) o9 none) = ok (.d (.str "cannot")) := err_er (call_er (cons_ok (x := .d (enc cP)) (var_ok rfl) (cons_ok (x := .d x) (var_ok rfl) (xs := []) rfl)) (e_behind_no okcP (not17 x (List.mem_of_getElem? hx)))) tab_cannot (by decide +kernel)
    apply wq_ok ((if_f (bB ((op_ok he rfl).trans (by kernel_rfl)))).trans rfl)
    exact ⟨_, rfl⟩
  · rintro ρ ⟨o5, rfl⟩
    exact k o5
def cE (p : Bool) : Cd := ⟨p, .none, false, 0, 0, 0, 0⟩
theorem okcE (p : Bool) : okCd (cE p) := by intro k; cases p <;> cases k <;> decide
def cF : Cd := ⟨false, .sent, false, 12, 12, 0, 0⟩
theorem okcF : okCd cF := by intro k; cases k <;> decide
def dueD : PyData := .tuple [.str "marked", .str "none", .bool false, .int 2, .int 0, .int 0, .int 0]
theorem law_7 {e t o4 o5 o6 o9 o10 : Option Dv} : c_law7 (rhoL e t o4 o5 o6 (some (.d (enc cP))) o9 o10) = ok (.nx (rhoL e t o4 o5 o6 (some (.d (enc cP))) o9 o10)) :=
  (if_f (bB ((op_ok (y := .d (.list ([De.again, .arr .answers, .dbl .answers, .lose .answers].map encD))) ((call_ok (xs := [.d (enc cP)]) rfl).trans (e_events okcP)) rfl).trans (by kernel_rfl)))).trans rfl
theorem law_8 {e t o4 o5 o6 o9 o10 : Option Dv} : c_law8 (rhoL e t o4 o5 o6 (some (.d (enc cP))) o9 o10) = ok (.nx (rhoL e t o4 o5 o6 (some (.d (enc cP))) o9 o10)) :=
  (if_f (beh_ne (C := cP) (e := .arr .answers) (v := .tuple [.str "paired", .str "let", .bool true, .int 0, .int 0, .int 1, .int 0]) rfl rfl rfl okcP (by decide +kernel) (by kernel_rfl))).trans rfl
theorem law_9 {e t o4 o5 o6 o9 o10 : Option Dv} : c_law9 (rhoL e t o4 o5 o6 (some (.d (enc cP))) o9 o10) = ok (.nx (rhoL e t o4 o5 o6 (some (.d (enc cP))) o9 o10)) :=
  (if_f (beh_ne (C := cP) (e := .again) (v := .tuple [.str "paired", .str "sent", .bool true, .int 1, .int 1, .int 0, .int 0]) rfl rfl rfl okcP (by decide +kernel) (by kernel_rfl))).trans rfl
theorem law_10 {e t o4 o5 o6 o9 o10 : Option Dv} : c_law10 (rhoL e t o4 o5 o6 (some (.d (enc cP))) o9 o10) = ok (.nx (rhoL e t o4 o5 o6 (some (.d (enc cP))) o9 o10)) :=
  (if_f (beh_ne (C := ⟨true, .sent, true, 1, 1, 0, 0⟩) (e := .arr .answers) (v := .tuple [.str "paired", .str "sent", .bool true, .int 1, .int 0, .int 0, .int 0]) rfl rfl rfl (by intro k; cases k <;> decide) (by decide +kernel) (by kernel_rfl))).trans rfl
theorem law_12 {e t o4 o5 o6 o10 : Option Dv} : c_law12 (rhoL e t o4 o5 o6 (some (.d (enc cP))) (some (.d dueD)) o10) = ok (.nx (rhoL e t o4 o5 o6 (some (.d (enc cP))) (some (.d dueD)) o10)) :=
  (if_f (beh_ne (C := ⟨false, .sent, false, 2, 1, 0, 0⟩) (e := .arr .answers) (v := .tuple [.str "marked", .str "none", .bool false, .int 2, .int 0, .int 0, .int 0]) rfl rfl rfl (by intro k; cases k <;> decide) (by decide +kernel) (by kernel_rfl))).trans rfl
theorem law_13 {e t o4 o5 o6 o10 : Option Dv} : c_law13 (rhoL e t o4 o5 o6 (some (.d (enc cP))) (some (.d dueD)) o10) = ok (.nx (rhoL e t o4 o5 o6 (some (.d (enc cP))) (some (.d dueD)) o10)) :=
  (if_f (beh_ne (C := ⟨true, .lett, false, 0, 0, 0, 1⟩) (e := .arr .dones) (v := .tuple [.str "paired", .str "none", .bool false, .int 0, .int 0, .int 0, .int 0]) rfl rfl rfl (by intro k; cases k <;> decide) (by decide +kernel) (by kernel_rfl))).trans rfl
theorem law_14 {e t o4 o5 o6 o10 : Option Dv} : c_law14 (rhoL e t o4 o5 o6 (some (.d (enc cP))) (some (.d dueD)) o10) = ok (.nx (rhoL e t o4 o5 o6 (some (.d (enc cP))) (some (.d dueD)) o10)) :=
  (if_f (beh_ne (C := ⟨true, .lett, true, 0, 0, 1, 0⟩) (e := .arr .lets) (v := .tuple [.str "paired", .str "let", .bool false, .int 0, .int 0, .int 0, .int 1]) rfl rfl rfl (by intro k; cases k <;> decide) (by decide +kernel) (by kernel_rfl))).trans rfl
theorem law_15 {e t o4 o5 o6 o10 : Option Dv} : c_law15 (rhoL e t o4 o5 o6 (some (.d (enc cP))) (some (.d dueD)) o10) = ok (.nx (rhoL e t o4 o5 o6 (some (.d (enc cP))) (some (.d dueD)) o10)) :=
  (if_f (beh_ne (C := ⟨true, .lett, false, 0, 0, 0, 1⟩) (e := .again) (v := .tuple [.str "paired", .str "let", .bool false, .int 0, .int 0, .int 1, .int 1]) rfl rfl rfl (by intro k; cases k <;> decide) (by decide +kernel) (by kernel_rfl))).trans rfl
theorem law_19 {e t o4 o5 o6 o8 o9 : Option Dv} : c_law19 (rhoL e t o4 o5 o6 o8 o9 (some (.d (enc cF)))) = ok (.rt (.d (.bool true))) :=
  ret_ok ((op_ok (y := .d (.list ([De.arr .answers, .lose .answers, .lose .words].map encD))) ((call_ok (xs := [.d (enc cF)]) rfl).trans (e_events okcF)) rfl).trans (by kernel_rfl))
theorem law_2 {p0 : Bool} {p : Out → Prop} {er : Str → Prop} (k : p (.nx (rhoL (some (.d (enc (cE p0)))) none none none none none none none))) : Wp (c_law2 (rhoL (some (.d (enc (cE p0)))) none none none none none none none)) p er := by
  unfold c_law2
  apply wq_if
  unfold cOrT
  apply Wp.bnd
  apply wq_not
  apply wq_b
  apply wq_call (xs := [.cup, .d (enc (cE p0))]) rfl rfl
  apply walk_wp (okcE p0)
  refine ⟨true, rfl, ?_⟩
  show Wp (cNot (cB (cCall m__law_walk_right (cCons (cVar 1) (cCons (cCall m__law_card (cCons (cVar 1) cNil)) cNil)))) (rhoL (some (.d (enc (cE p0)))) none none none none none none none)) _ er
  apply wq_not
  apply wq_b
  apply wq_call2
  apply wq_cons
  apply wq_ok (a := .cup) (by rfl)
  apply wq_cons
  apply wq_call (xs := [.cup]) rfl rfl
  apply card_wp
  intro c hc
  apply wq_ok (a := []) (by rfl)
  refine ⟨rfl, ?_⟩
  apply walk_wp hc
  refine ⟨true, rfl, ?_⟩
  exact wq_ok (a := .nx (rhoL (some (.d (enc (cE p0)))) none none none none none none none)) (by rfl) k
theorem law_3 {e : Option Dv} {p : Out → Prop} {er : Str → Prop} (k : ∀ t, p (.nx (rhoL e t none none none none none none))) : Wp (c_law3 (rhoL e none none none none none none none)) p er := by
  unfold c_law3 cFor
  rw [show cRng1 (cC (.int 4)) (rhoL e none none none none none none none) = ok (intsD 0 4) from sm_rng (n := 4) (by decide +kernel), bind_ok]
  apply wq_for (fun i ρ => ∃ t, ρ = rhoL e t none none none none none none)
  · exact ⟨_, rfl⟩
  · rintro i x ρ hx ⟨t, rfl⟩
    apply wq_ok (a := rhoL e (some (.d x)) none none none none none none) (by rfl)
    apply wq_if
    apply wq_not
    apply wq_b
    apply wq_call2
    apply wq_cons
    apply wq_ok (a := .cup) (by rfl)
    apply wq_cons
    apply wq_call (xs := [.cup]) rfl rfl
    apply card_wp
    intro c hc
    apply wq_ok (a := []) (by rfl)
    refine ⟨rfl, ?_⟩
    apply near_wp hc
    refine ⟨true, rfl, ?_⟩
    exact wq_ok (a := .nx (rhoL e (some (.d x)) none none none none none none)) (by rfl) (show ∃ t, rhoL e (some (.d x)) none none none none none none = rhoL e t none none none none none none from ⟨_, rfl⟩)
  · rintro ρ ⟨t, rfl⟩
    exact k t
theorem law_wp {q : Out → Prop} {er : Str → Prop} (k : q (.rt (.d (.bool true)))) : Wp (c_law [none, some .cup, none, none, none, none, none, none, none, none, none]) q er := by
  unfold c_law
  apply wq_seq
  unfold c_law1
  apply wq_set
  apply wq_tup
  apply wq_cons
  apply wq_call (xs := [.cup, .d (.list [.str "marked", .str "paired"])]) rfl rfl
  refine ⟨some_wp (by decide) (by decide) fun x hx => ?_⟩
  have hx : ∃ p, x = .str (pS p) := by
    simp only [List.mem_cons, List.not_mem_nil, or_false] at hx
    rcases hx with rfl | rfl
    · exact ⟨false, rfl⟩
    · exact ⟨true, rfl⟩
  obtain ⟨p0, rfl⟩ := hx
  apply wq_ok (a := [.d (.str "none"), .d (.bool false), .d (.int 0), .d (.int 0), .d (.int 0), .d (.int 0)]) (by rfl)
  apply wq_ok (a := [.str (pS p0), .str "none", .bool false, .int 0, .int 0, .int 0, .int 0]) (by rfl)
  refine ⟨rfl, ?_⟩
  show Wp (cSeq c_law2 _ (rhoL (some (.d (enc (cE p0)))) none none none none none none none)) _ er
  apply wq_seq
  apply law_2
  apply wq_seq
  apply law_3
  intro t
  apply wq_seq
  apply wq_ok (a := .nx (rhoL (some (.d (enc (cE p0)))) t o4L none none none none none)) (by kernel_rfl)
  apply wq_seq
  apply law_5
  intro o5 o6
  apply wq_seq
  apply wq_ok (a := .nx (rhoL (some (.d (enc (cE p0)))) t o4L o5 o6 (some (.d (enc cP))) none none)) (by rfl)
  apply wq_seq
  apply wq_ok law_7
  apply wq_seq
  apply wq_ok law_8
  apply wq_seq
  apply wq_ok law_9
  apply wq_seq
  apply wq_ok law_10
  apply wq_seq
  apply wq_ok (a := .nx (rhoL (some (.d (enc (cE p0)))) t o4L o5 o6 (some (.d (enc cP))) (some (.d dueD)) none)) (by rfl)
  apply wq_seq
  apply wq_ok law_12
  apply wq_seq
  apply wq_ok law_13
  apply wq_seq
  apply wq_ok law_14
  apply wq_seq
  apply wq_ok law_15
  apply wq_seq
  apply wq_ok (a := .nx (rhoL (some (.d (enc (cE p0)))) t o4M o5 o6 (some (.d (enc cP))) (some (.d dueD)) none)) (by kernel_rfl)
  apply wq_seq
  apply law_17
  intro o5
  apply wq_seq
  apply wq_ok (a := .nx (rhoL (some (.d (enc (cE p0)))) t o4M o5 o6 (some (.d (enc cP))) (some (.d dueD)) (some (.d (enc cF))))) (by rfl)
  exact wq_ok law_19 k
end Fl

set_option Elab.async false
set_option linter.all false
set_option maxRecDepth 100000
set_option maxHeartbeats 4000000
namespace Fl
open PySem PySem.Spec PyProof.Rows L2 Dl R
abbrev top := Bk.top
section
variable {P : Program} {w : World} {K : PySem.W.Frag} {mg : Str → Option Value} {base : Heap} {T : Tbs}
abbrev s_is_integer : Stmt := top 1
abbrev N_is_integer : List Str := ["value", "low", "high"]
theorem sc_is_integer : FnScope N_is_integer ["value", "low", "high"] (defScope s_is_integer) := ⟨rfl, rfl, rfl, by decide +kernel, rfl, by decide +kernel, by decide +kernel⟩
theorem d_is_integer (F : At K mg "is_integer" s_is_integer) (z_bool : mg "bool" = none) (z_int : mg "int" = none) (z_isinstance : mg "isinstance" = none) : DHas P w K mg base T 1 "is_integer" ["value", "low", "high"] (gR m_is_integer) :=
  okF (s := (cRet (cAnd (cFun isiC (cCons (cVar 0) (cCons (cTy "int") cNil))) (cAnd (cNotE (cFun isiC (cCons (cVar 0) (cCons (cTy "bool") cNil)))) (cChain leC leC (cVar 1) (cVar 0) (cVar 2)))))) F sc_is_integer (fun _ _ _ _ _ _ us hl => match us, hl with | [_, _, _], _ => rfl) fun A outer s0 H E c hid er l eo => (fs_one (fs_ret (fe_and (fe_callB (isi_ok l.b) isiC_ok boot_isinstance z_isinstance (fe_cons (fe_pv (pv 0)) (fe_cons (fe_ty (n := "int") z_int (by decide +kernel)) fe_nil))) (fe_and (fe_not (fe_callB (isi_ok l.b) isiC_ok boot_isinstance z_isinstance (fe_cons (fe_pv (pv 0)) (fe_cons (fe_ty (n := "bool") z_bool (by decide +kernel)) fe_nil)))) (pe_one (fe_chain le_ok cmpC_ok le_ok cmpC_ok (fe_pv (pv 1)) (fe_pv (pv 0)) (fe_pv (pv 2))))))))
abbrev s_is_card : Stmt := top 16
abbrev N_is_card : List Str := ["value", "many"]
theorem sc_is_card : FnScope N_is_card ["value"] (defScope s_is_card) := ⟨rfl, rfl, rfl, by decide +kernel, rfl, by decide +kernel, by decide +kernel⟩
theorem d_is_card (F : At K mg "is_card" s_is_card) (z_all : mg "all" = none) (z_bool : mg "bool" = none) (z_isinstance : mg "isinstance" = none) (z_len : mg "len" = none) (z_tuple : mg "tuple" = none) (c_CARD_WAYS : TopD K mg "CARD_WAYS" k_CARD_WAYS) (c_MOST_FRAMES : ∃ t, mg "MOST_FRAMES" = some (.int 12 t)) (c_STATES : TopD K mg "STATES" k_STATES) (h_is_integer : DHas P w K mg base T 1 "is_integer" ["value", "low", "high"] (gR m_is_integer)) : DHas P w K mg base T 2 "is_card" ["value"] (gR m_is_card) :=
  okF (s := (cRet (cAnd (cFun isiC (cCons (cVar 0) (cCons (cTy "tuple") cNil))) (cAnd (cOp eqC (cFun lenC (cCons (cVar 0) cNil)) (cC (.int 7))) (cAnd (cOp isinC (cOp ixC (cVar 0) (cC (.int 0))) (cC (.tuple k_CARD_WAYS))) (cAnd (cOp isinC (cOp ixC (cVar 0) (cC (.int 1))) (cC (.tuple k_STATES))) (cAnd (cFun isiC (cCons (cOp ixC (cVar 0) (cC (.int 2))) (cCons (cTy "bool") cNil))) (cFun allC (cCons (cLc (cIt (cSl (cVar 0) (cPart (cC (.int 3))) cNoPart)) (tgN 1) cYes (cCallN m_is_integer (cCons (cVar 1) (cCons (cC (.int 0)) (cCons (cC (.int 12)) cNil)))) [1]) cNil))))))))) F sc_is_card (fun _ _ _ _ _ _ us hl => match us, hl with | [_], _ => rfl) fun A outer s0 H E c hid er l eo => (fs_one (fs_ret (fe_and (fe_callB (isi_ok l.b) isiC_ok boot_isinstance z_isinstance (fe_cons (fe_pv (pv 0)) (fe_cons (fe_ty (n := "tuple") z_tuple (by decide +kernel)) fe_nil))) (fe_and (fe_cmp (eq_ok l.b) eqC_ok (fe_callB (len_ok l.b) lenC_ok PySem.boot_len z_len (fe_cons (fe_pv (pv 0)) fe_nil)) fe_int) (fe_and (fe_cmp (in_ok l.b) inC_ok (fe_ix l.b ixC_ok (fe_pv (pv 0)) fe_int) (fe_gt l.b c_CARD_WAYS)) (fe_and (fe_cmp (in_ok l.b) inC_ok (fe_ix l.b ixC_ok (fe_pv (pv 0)) fe_int) (fe_gt l.b c_STATES)) (fe_and (fe_callB (isi_ok l.b) isiC_ok boot_isinstance z_isinstance (fe_cons (fe_ix l.b ixC_ok (fe_pv (pv 0)) fe_int) (fe_cons (fe_ty (n := "bool") z_bool (by decide +kernel)) fe_nil))) (pe_one (fe_callB (all_ok l.b) foldB_ok (by decide +kernel) z_all (fe_cons (fe_lc (own := [("many", 1)]) l.b (fi_seq l.b (fe_slice l.b (fe_pv (pv 0)) (fo_some fe_int) fo_none)) (blk_by (by show BlkD N_is_card (defScope s_is_card) _ [("many", 1)]; decide +kernel)) (fun _ _ _ _ _ l1 => (fg_name (i := 1) l1.nd rfl (by first | exact Or.inl rfl | exact Or.inr rfl))) (fun _ _ _ _ _ l1 => fts_nil) (fun _ _ _ _ _ l1 => (fe_callN h_is_integer l1 (fe_cons (fe_pv (pv 1)) (fe_cons fe_int (fe_cons (fe_gi c_MOST_FRAMES) fe_nil)))))) fe_nil))))))))))
abbrev s_check_card : Stmt := top 17
abbrev N_check_card : List Str := ["card"]
theorem sc_check_card : FnScope N_check_card ["card"] (defScope s_check_card) := ⟨rfl, rfl, rfl, by decide +kernel, rfl, by decide +kernel, by decide +kernel⟩
theorem d_check_card (F : At K mg "check_card" s_check_card)  (x_InvalidCard : Bk.Exc K mg "InvalidCard") (h_is_card : DHas P w K mg base T 2 "is_card" ["value"] (gR m_is_card)) : DHas P w K mg base T 3 "check_card" ["card"] (gR m_check_card) :=
  okF (s := (cIf (cNot (cB (cCall m_is_card (cCons (cVar 0) cNil)))) (cRaise "InvalidCard") cNext)) F sc_check_card (fun _ _ _ _ _ _ us hl => match us, hl with | [_], _ => rfl) fun A outer s0 H E c hid er l eo => (fs_one (fs_if (ft_not (ft_val (fe_call h_is_card (fun _ _ h => h) l.b l.pass eo (fe_cons (fe_pv (pv 0)) fe_nil)))) (fs_one (fs_raise l eo (L2N.pmk_own PySem.F.excBase_ValueError x_InvalidCard.e.1 x_InvalidCard.g x_InvalidCard.e.2.1 (raises_own x_InvalidCard.e.2.2.1 x_InvalidCard.e.2.2.2) rfl))) fs_nil))
abbrev s_can_be : Stmt := top 18
abbrev N_can_be : List Str := ["card", "way", "state", "held", "words", "answers", "lets", "dones"]
theorem sc_can_be : FnScope N_can_be ["card"] (defScope s_can_be) := ⟨rfl, rfl, rfl, by decide +kernel, rfl, by decide +kernel, by decide +kernel⟩
theorem d_can_be (F : At K mg "can_be" s_can_be)  : DHas P w K mg base T 1 "can_be" ["card"] (gR m_can_be) :=
  okF (s := (cSeq (cAsg (cVar 0) (tgT 7 (tgsCons (tgN 1) (tgsCons (tgN 2) (tgsCons (tgN 3) (tgsCons (tgN 4) (tgsCons (tgN 5) (tgsCons (tgN 6) (tgsCons (tgN 7) tgsNil)))))))))
    (cSeq (cIf (cB (cOp eqC (cVar 1) (cC (.str "marked")))) (cRet (cAnd (cOp neC (cVar 2) (cC (.str "let"))) (cAnd (cNotE (cVar 3)) (cChain eqC eqC (cVar 6) (cVar 7) (cC (.int 0)))))) cNext)
    (cSeq (cIf (cB (cOp eqC (cVar 2) (cC (.str "sent")))) (cRet (cAnd (cChain eqC eqC (cVar 6) (cVar 7) (cC (.int 0))) (cOr (cVar 3) (cOp eqC (cVar 5) (cC (.int 0)))))) cNext)
    (cSeq (cIf (cB (cOp eqC (cVar 2) (cC (.str "let")))) (cRet (cAnd (cOp eqC (cVar 4) (cC (.int 0))) (cOr (cNotE (cVar 3)) (cOp eqC (cVar 7) (cC (.int 0)))))) cNext)
    (cRet (cAnd (cOp eqC (cVar 4) (cC (.int 0))) (cNotE (cVar 3))))))))) F sc_can_be (fun _ _ _ _ _ _ us hl => match us, hl with | [_], _ => rfl) fun A outer s0 H E c hid er l eo => (fs_cons (fs_asg (ow := [1, 2, 3, 4, 5, 6, 7]) (fe_pv (pv 0)) (fg_tup (n := 7) l.b (fgs_cons (fg_name (i := 1) l.b.nd rfl (by first | exact Or.inl rfl | exact Or.inr rfl)) (fgs_cons (fg_name (i := 2) l.b.nd rfl (by first | exact Or.inl rfl | exact Or.inr rfl)) (fgs_cons (fg_name (i := 3) l.b.nd rfl (by first | exact Or.inl rfl | exact Or.inr rfl)) (fgs_cons (fg_name (i := 4) l.b.nd rfl (by first | exact Or.inl rfl | exact Or.inr rfl)) (fgs_cons (fg_name (i := 5) l.b.nd rfl (by first | exact Or.inl rfl | exact Or.inr rfl)) (fgs_cons (fg_name (i := 6) l.b.nd rfl (by first | exact Or.inl rfl | exact Or.inr rfl)) (fgs_cons (fg_name (i := 7) l.b.nd rfl (by first | exact Or.inl rfl | exact Or.inr rfl)) fgs_nil)))))))))
    (fs_cons (fs_if (ft_cmp (eq_ok l.b) eqC_ok (fe_pv (pv 1)) fe_str) (fs_one (fs_ret (fe_and (fe_cmp (ne_ok l.b) neC_ok (fe_pv (pv 2)) fe_str) (fe_and (fe_not (fe_pv (pv 3))) (pe_one (fe_chain (eq_ok l.b) eqC_ok (eq_ok l.b) eqC_ok (fe_pv (pv 6)) (fe_pv (pv 7)) fe_int)))))) fs_nil)
    (fs_cons (fs_if (ft_cmp (eq_ok l.b) eqC_ok (fe_pv (pv 2)) fe_str) (fs_one (fs_ret (fe_and (fe_chain (eq_ok l.b) eqC_ok (eq_ok l.b) eqC_ok (fe_pv (pv 6)) (fe_pv (pv 7)) fe_int) (pe_one (fe_or (fe_pv (pv 3)) (pe_one (fe_cmp (eq_ok l.b) eqC_ok (fe_pv (pv 5)) fe_int))))))) fs_nil)
    (fs_cons (fs_if (ft_cmp (eq_ok l.b) eqC_ok (fe_pv (pv 2)) fe_str) (fs_one (fs_ret (fe_and (fe_cmp (eq_ok l.b) eqC_ok (fe_pv (pv 4)) fe_int) (pe_one (fe_or (fe_not (fe_pv (pv 3))) (pe_one (fe_cmp (eq_ok l.b) eqC_ok (fe_pv (pv 7)) fe_int))))))) fs_nil)
    (fs_one (fs_ret (fe_and (fe_cmp (eq_ok l.b) eqC_ok (fe_pv (pv 4)) fe_int) (pe_one (fe_not (fe_pv (pv 3)))))))))))
abbrev s_is_possible : Stmt := top 19
abbrev N_is_possible : List Str := ["card"]
theorem sc_is_possible : FnScope N_is_possible ["card"] (defScope s_is_possible) := ⟨rfl, rfl, rfl, by decide +kernel, rfl, by decide +kernel, by decide +kernel⟩
theorem d_is_possible (F : At K mg "is_possible" s_is_possible)  (h_can_be : DHas P w K mg base T 1 "can_be" ["card"] (gR m_can_be)) (h_check_card : DHas P w K mg base T 3 "check_card" ["card"] (gR m_check_card)) : DHas P w K mg base T 4 "is_possible" ["card"] (gR m_is_possible) :=
  okF (s := (cSeq (cDrop (cCall m_check_card (cCons (cVar 0) cNil)))
    (cRet (cCall m_can_be (cCons (cVar 0) cNil))))) F sc_is_possible (fun _ _ _ _ _ _ us hl => match us, hl with | [_], _ => rfl) fun A outer s0 H E c hid er l eo => (fs_cons (fs_expr (fe_call h_check_card (fun _ _ h => h) l.b l.pass eo (fe_cons (fe_pv (pv 0)) fe_nil)))
    (fs_one (fs_ret (fe_call h_can_be (fun _ _ h => h) l.b l.pass eo (fe_cons (fe_pv (pv 0)) fe_nil)))))
abbrev s_with_change : Stmt := top 20
abbrev N_with_change : List Str := ["card", "kind", "change", "at", "many"]
theorem sc_with_change : FnScope N_with_change ["card", "kind", "change"] (defScope s_with_change) := ⟨rfl, rfl, rfl, by decide +kernel, rfl, by decide +kernel, by decide +kernel⟩
theorem d_with_change (F : At K mg "with_change" s_with_change)  (c_KINDS : TopD K mg "KINDS" k_KINDS) (c_MOST_FRAMES : ∃ t, mg "MOST_FRAMES" = some (.int 12 t)) (i_KINDS : TopX K "KINDS") : DHas P w K mg base T 1 "with_change" ["card", "kind", "change"] (gR m_with_change) :=
  okF (s := (cSeq (cSet 3 (cOp addC (cC (.int 3)) (cIndexT k_KINDS (cVar 1))))
    (cSeq (cSet 4 (cOp addC (cOp ixC (cVar 0) (cVar 3)) (cVar 2)))
    (cRet (cIfE (cB (cChain leC leC (cC (.int 0)) (cVar 4) (cC (.int 12)))) (cOp addC (cOp addC (cSl (cVar 0) cNoPart (cPart (cVar 3))) (cTup (cCons (cVar 4) cNil))) (cSl (cVar 0) (cPart (cOp addC (cVar 3) (cC (.int 1)))) cNoPart)) (cC .none)))))) F sc_with_change (fun _ _ _ _ _ _ us hl => match us, hl with | [_, _, _], _ => rfl) fun A outer s0 H E c hid er l eo => (fs_cons (fs_set (i := 3) l.b.nd rfl (by first | exact Or.inl rfl | exact Or.inr rfl) (fe_op (add_ok l.b) addC_ok fe_int (fe_indexT l.b c_KINDS i_KINDS (fe_pv (pv 1)))))
    (fs_cons (fs_set (i := 4) l.b.nd rfl (by first | exact Or.inl rfl | exact Or.inr rfl) (fe_op (add_ok l.b) addC_ok (fe_ix l.b ixC_ok (fe_pv (pv 0)) (fe_pv (pv 3))) (fe_pv (pv 2))))
    (fs_one (fs_ret (fe_ifE (ft_chain le_ok cmpC_ok le_ok cmpC_ok fe_int (fe_pv (pv 4)) (fe_gi c_MOST_FRAMES)) (fe_op (add_ok l.b) addC_ok (fe_op (add_ok l.b) addC_ok (fe_slice l.b (fe_pv (pv 0)) fo_none (fo_some (fe_pv (pv 3)))) (fe_tup (fe_cons (fe_pv (pv 4)) fe_nil))) (fe_slice l.b (fe_pv (pv 0)) (fo_some (fe_op (add_ok l.b) addC_ok (fe_pv (pv 3)) fe_int)) fo_none)) fe_non)))))
abbrev s_behind_given : Stmt := top 21
abbrev N_behind_given : List Str := ["card"]
theorem sc_behind_given : FnScope N_behind_given ["card"] (defScope s_behind_given) := ⟨rfl, rfl, rfl, by decide +kernel, rfl, by decide +kernel, by decide +kernel⟩
theorem d_behind_given (F : At K mg "behind_given" s_behind_given) (z_sum : mg "sum" = none) (h_with_change : DHas P w K mg base T 1 "with_change" ["card", "kind", "change"] (gR m_with_change)) : DHas P w K mg base T 2 "behind_given" ["card"] (gR m_behind_given) :=
  okF (s := (cSeq (cIf (cOrT (cB (cOp neC (cOp ixC (cVar 0) (cC (.int 1))) (cC (.str "none")))) (cB (cOp neC (cFun sumC (cCons (cSl (cVar 0) (cPart (cC (.int 3))) cNoPart) cNil)) (cC (.int 0))))) (cRet (cC .none)) cNext)
    (cRet (cCall m_with_change (cCons (cOp addC (cOp addC (cSl (cVar 0) cNoPart (cPart (cC (.int 1)))) (cTup (cCons (cC (.str "sent")) cNil))) (cSl (cVar 0) (cPart (cC (.int 2))) cNoPart)) (cCons (cC (.str "words")) (cCons (cC (.int 1)) cNil))))))) F sc_behind_given (fun _ _ _ _ _ _ us hl => match us, hl with | [_], _ => rfl) fun A outer s0 H E c hid er l eo => (fs_cons (fs_if (PW.pt (fw_or (ft_cmp (ne_ok l.b) neC_ok (fe_ix l.b ixC_ok (fe_pv (pv 0)) fe_int) fe_str) (pw_or1 (ft_cmp (ne_ok l.b) neC_ok (fe_callB (sum_ok l.b) sumC_ok (by decide +kernel) z_sum (fe_cons (fe_slice l.b (fe_pv (pv 0)) (fo_some fe_int) fo_none) fe_nil)) fe_int)))) (fs_one (fs_ret fe_non)) fs_nil)
    (fs_one (fs_ret (fe_call h_with_change (fun _ _ h => h) l.b l.pass eo (fe_cons (fe_op (add_ok l.b) addC_ok (fe_op (add_ok l.b) addC_ok (fe_slice l.b (fe_pv (pv 0)) fo_none (fo_some fe_int)) (fe_tup (fe_cons fe_str fe_nil))) (fe_slice l.b (fe_pv (pv 0)) (fo_some fe_int) fo_none)) (fe_cons fe_str (fe_cons fe_int fe_nil)))))))
abbrev s_behind_again : Stmt := top 22
abbrev N_behind_again : List Str := ["card"]
theorem sc_behind_again : FnScope N_behind_again ["card"] (defScope s_behind_again) := ⟨rfl, rfl, rfl, by decide +kernel, rfl, by decide +kernel, by decide +kernel⟩
theorem d_behind_again (F : At K mg "behind_again" s_behind_again)  (h_with_change : DHas P w K mg base T 1 "with_change" ["card", "kind", "change"] (gR m_with_change)) : DHas P w K mg base T 2 "behind_again" ["card"] (gR m_behind_again) :=
  okF (s := (cSeq (cIf (cB (cOp eqC (cOp ixC (cVar 0) (cC (.int 1))) (cC (.str "none")))) (cRet (cC .none)) cNext)
    (cRet (cCall m_with_change (cCons (cVar 0) (cCons (cIfE (cB (cOp eqC (cOp ixC (cVar 0) (cC (.int 1))) (cC (.str "sent")))) (cC (.str "words")) (cC (.str "lets"))) (cCons (cC (.int 1)) cNil))))))) F sc_behind_again (fun _ _ _ _ _ _ us hl => match us, hl with | [_], _ => rfl) fun A outer s0 H E c hid er l eo => (fs_cons (fs_if (ft_cmp (eq_ok l.b) eqC_ok (fe_ix l.b ixC_ok (fe_pv (pv 0)) fe_int) fe_str) (fs_one (fs_ret fe_non)) fs_nil)
    (fs_one (fs_ret (fe_call h_with_change (fun _ _ h => h) l.b l.pass eo (fe_cons (fe_pv (pv 0)) (fe_cons (fe_ifE (ft_cmp (eq_ok l.b) eqC_ok (fe_ix l.b ixC_ok (fe_pv (pv 0)) fe_int) fe_str) fe_str fe_str) (fe_cons fe_int fe_nil)))))))
abbrev s_behind_answer : Stmt := top 23
abbrev N_behind_answer : List Str := ["card", "way", "state", "held", "many"]
theorem sc_behind_answer : FnScope N_behind_answer ["card"] (defScope s_behind_answer) := ⟨rfl, rfl, rfl, by decide +kernel, rfl, by decide +kernel, by decide +kernel⟩
theorem d_behind_answer (F : At K mg "behind_answer" s_behind_answer)  (h_with_change : DHas P w K mg base T 1 "with_change" ["card", "kind", "change"] (gR m_with_change)) : DHas P w K mg base T 2 "behind_answer" ["card"] (gR m_behind_answer) :=
  okF (s := (cSeq (cStar 4 3 [1, 2, 3, 4] (cVar 0))
    (cSeq (cIf (cB (cOp eqC (cVar 1) (cC (.str "marked")))) (cRet (cTupS (cCons (cVar 1) (cCons (cIfE (cB (cOp eqC (cVar 2) (cC (.str "sent")))) (cC (.str "none")) (cVar 2)) (cCons (cVar 3) (cSpread (cVar 4) cNil)))))) cNext)
    (cSeq (cIf (cB (cOp gtC (cOp ixC (cVar 4) (cC (.int 0))) (cC (.int 0)))) (cRet (cVar 0)) cNext)
    (cRet (cCall m_with_change (cCons (cTupS (cCons (cVar 1) (cCons (cIfE (cB (cOp eqC (cVar 2) (cC (.str "sent")))) (cC (.str "let")) (cVar 2)) (cCons (cVar 3) (cSpread (cVar 4) cNil))))) (cCons (cC (.str "lets")) (cCons (cC (.int 1)) cNil))))))))) F sc_behind_answer (fun _ _ _ _ _ _ us hl => match us, hl with | [_], _ => rfl) fun A outer s0 H E c hid er l eo => (fs_cons (fs_star (n := 4) (i := 3) l.b (fe_pv (pv 0)) (St.pgn_cons (L2.pg_name (i := 1) l.b.nd rfl (by first | exact Or.inl rfl | exact Or.inr rfl)) (St.pgn_cons (L2.pg_name (i := 2) l.b.nd rfl (by first | exact Or.inl rfl | exact Or.inr rfl)) (St.pgn_cons (L2.pg_name (i := 3) l.b.nd rfl (by first | exact Or.inl rfl | exact Or.inr rfl)) (St.pgn_star (L2.pg_name (i := 4) l.b.nd rfl (by first | exact Or.inl rfl | exact Or.inr rfl)) St.pgn_nil)))))
    (fs_cons (fs_if (ft_cmp (eq_ok l.b) eqC_ok (fe_pv (pv 1)) fe_str) (fs_one (fs_ret (fe_tupS (fl_cons (fe_pv (pv 1)) (fl_cons (fe_ifE (ft_cmp (eq_ok l.b) eqC_ok (fe_pv (pv 2)) fe_str) fe_str (fe_pv (pv 2))) (fl_cons (fe_pv (pv 3)) (fl_star l.b (fe_pv (pv 4)) fl_nil))))))) fs_nil)
    (fs_cons (fs_if (ft_cmp gt_ok cmpC_ok (fe_ix l.b ixC_ok (fe_pv (pv 4)) fe_int) fe_int) (fs_one (fs_ret (fe_pv (pv 0)))) fs_nil)
    (fs_one (fs_ret (fe_call h_with_change (fun _ _ h => h) l.b l.pass eo (fe_cons (fe_tupS (fl_cons (fe_pv (pv 1)) (fl_cons (fe_ifE (ft_cmp (eq_ok l.b) eqC_ok (fe_pv (pv 2)) fe_str) fe_str (fe_pv (pv 2))) (fl_cons (fe_pv (pv 3)) (fl_star l.b (fe_pv (pv 4)) fl_nil))))) (fe_cons fe_str (fe_cons fe_int fe_nil)))))))))
abbrev s_behind_arrival : Stmt := top 24
abbrev N_behind_arrival : List Str := ["card", "kind", "held"]
theorem sc_behind_arrival : FnScope N_behind_arrival ["card", "kind"] (defScope s_behind_arrival) := ⟨rfl, rfl, rfl, by decide +kernel, rfl, by decide +kernel, by decide +kernel⟩
theorem d_behind_arrival (F : At K mg "behind_arrival" s_behind_arrival)  (h_behind_answer : DHas P w K mg base T 2 "behind_answer" ["card"] (gR m_behind_answer)) (h_with_change : DHas P w K mg base T 1 "with_change" ["card", "kind", "change"] (gR m_with_change)) : DHas P w K mg base T 3 "behind_arrival" ["card", "kind"] (gR m_behind_arrival) :=
  okF (s := (cSeq (cSet 0 (cCall m_with_change (cCons (cVar 0) (cCons (cVar 1) (cCons (cUn negC (cC (.int 1))) cNil)))))
    (cSeq (cIf (cB (cOp isC (cVar 0) (cC .none))) (cRet (cC .none)) cNext)
    (cSeq (cIf (cB (cOp eqC (cVar 1) (cC (.str "words")))) (cSeq (cSet 2 (cOr (cOp eqC (cOp ixC (cVar 0) (cC (.int 0))) (cC (.str "paired"))) (cOp ixC (cVar 0) (cC (.int 2)))))
    (cRet (cCall m_with_change (cCons (cOp addC (cOp addC (cSl (cVar 0) cNoPart (cPart (cC (.int 2)))) (cTup (cCons (cVar 2) cNil))) (cSl (cVar 0) (cPart (cC (.int 3))) cNoPart)) (cCons (cC (.str "answers")) (cCons (cC (.int 1)) cNil)))))) cNext)
    (cSeq (cIf (cB (cOp eqC (cVar 1) (cC (.str "answers")))) (cRet (cCall m_behind_answer (cCons (cVar 0) cNil))) cNext)
    (cSeq (cIf (cB (cOp eqC (cVar 1) (cC (.str "lets")))) (cRet (cCall m_with_change (cCons (cOp addC (cOp addC (cSl (cVar 0) cNoPart (cPart (cC (.int 2)))) (cTup (cCons (cC (.bool false)) cNil))) (cSl (cVar 0) (cPart (cC (.int 3))) cNoPart)) (cCons (cC (.str "dones")) (cCons (cC (.int 1)) cNil))))) cNext)
    (cRet (cOp addC (cOp addC (cSl (cVar 0) cNoPart (cPart (cC (.int 1)))) (cTup (cCons (cIfE (cB (cOp eqC (cOp ixC (cVar 0) (cC (.int 1))) (cC (.str "let")))) (cC (.str "none")) (cOp ixC (cVar 0) (cC (.int 1)))) cNil))) (cSl (cVar 0) (cPart (cC (.int 2))) cNoPart))))))))) F sc_behind_arrival (fun _ _ _ _ _ _ us hl => match us, hl with | [_, _], _ => rfl) fun A outer s0 H E c hid er l eo => (fs_cons (fs_set (i := 0) l.b.nd rfl (by first | exact Or.inl rfl | exact Or.inr rfl) (fe_call h_with_change (fun _ _ h => h) l.b l.pass eo (fe_cons (fe_pv (pv 0)) (fe_cons (fe_pv (pv 1)) (fe_cons (fe_un neg_ok negC_ok fe_int) fe_nil)))))
    (fs_cons (fs_if (ft_cmp is_ok isC_ok (fe_pv (pv 0)) fe_non) (fs_one (fs_ret fe_non)) fs_nil)
    (fs_cons (fs_if (ft_cmp (eq_ok l.b) eqC_ok (fe_pv (pv 1)) fe_str) (fs_cons (fs_set (i := 2) l.b.nd rfl (by first | exact Or.inl rfl | exact Or.inr rfl) (fe_or (fe_cmp (eq_ok l.b) eqC_ok (fe_ix l.b ixC_ok (fe_pv (pv 0)) fe_int) fe_str) (pe_one (fe_ix l.b ixC_ok (fe_pv (pv 0)) fe_int))))
    (fs_one (fs_ret (fe_call h_with_change (fun _ _ h => h) l.b l.pass eo (fe_cons (fe_op (add_ok l.b) addC_ok (fe_op (add_ok l.b) addC_ok (fe_slice l.b (fe_pv (pv 0)) fo_none (fo_some fe_int)) (fe_tup (fe_cons (fe_pv (pv 2)) fe_nil))) (fe_slice l.b (fe_pv (pv 0)) (fo_some fe_int) fo_none)) (fe_cons fe_str (fe_cons fe_int fe_nil))))))) fs_nil)
    (fs_cons (fs_if (ft_cmp (eq_ok l.b) eqC_ok (fe_pv (pv 1)) fe_str) (fs_one (fs_ret (fe_call h_behind_answer (fun _ _ h => h) l.b l.pass eo (fe_cons (fe_pv (pv 0)) fe_nil)))) fs_nil)
    (fs_cons (fs_if (ft_cmp (eq_ok l.b) eqC_ok (fe_pv (pv 1)) fe_str) (fs_one (fs_ret (fe_call h_with_change (fun _ _ h => h) l.b l.pass eo (fe_cons (fe_op (add_ok l.b) addC_ok (fe_op (add_ok l.b) addC_ok (fe_slice l.b (fe_pv (pv 0)) fo_none (fo_some fe_int)) (fe_tup (fe_cons fe_bl fe_nil))) (fe_slice l.b (fe_pv (pv 0)) (fo_some fe_int) fo_none)) (fe_cons fe_str (fe_cons fe_int fe_nil)))))) fs_nil)
    (fs_one (fs_ret (fe_op (add_ok l.b) addC_ok (fe_op (add_ok l.b) addC_ok (fe_slice l.b (fe_pv (pv 0)) fo_none (fo_some fe_int)) (fe_tup (fe_cons (fe_ifE (ft_cmp (eq_ok l.b) eqC_ok (fe_ix l.b ixC_ok (fe_pv (pv 0)) fe_int) fe_str) fe_str (fe_ix l.b ixC_ok (fe_pv (pv 0)) fe_int)) fe_nil))) (fe_slice l.b (fe_pv (pv 0)) (fo_some fe_int) fo_none)))))))))
abbrev s_behind_double : Stmt := top 25
abbrev N_behind_double : List Str := ["card", "kind"]
theorem sc_behind_double : FnScope N_behind_double ["card", "kind"] (defScope s_behind_double) := ⟨rfl, rfl, rfl, by decide +kernel, rfl, by decide +kernel, by decide +kernel⟩
theorem d_behind_double (F : At K mg "behind_double" s_behind_double)  (c_KINDS : TopD K mg "KINDS" k_KINDS) (i_KINDS : TopX K "KINDS") (h_with_change : DHas P w K mg base T 1 "with_change" ["card", "kind", "change"] (gR m_with_change)) : DHas P w K mg base T 2 "behind_double" ["card", "kind"] (gR m_behind_double) :=
  okF (s := (cRet (cIfE (cB (cOp gtC (cOp ixC (cVar 0) (cOp addC (cC (.int 3)) (cIndexT k_KINDS (cVar 1)))) (cC (.int 0)))) (cCall m_with_change (cCons (cVar 0) (cCons (cVar 1) (cCons (cC (.int 1)) cNil)))) (cC .none)))) F sc_behind_double (fun _ _ _ _ _ _ us hl => match us, hl with | [_, _], _ => rfl) fun A outer s0 H E c hid er l eo => (fs_one (fs_ret (fe_ifE (ft_cmp gt_ok cmpC_ok (fe_ix l.b ixC_ok (fe_pv (pv 0)) (fe_op (add_ok l.b) addC_ok fe_int (fe_indexT l.b c_KINDS i_KINDS (fe_pv (pv 1))))) fe_int) (fe_call h_with_change (fun _ _ h => h) l.b l.pass eo (fe_cons (fe_pv (pv 0)) (fe_cons (fe_pv (pv 1)) (fe_cons fe_int fe_nil)))) fe_non)))
abbrev s_behind_deed : Stmt := top 26
abbrev N_behind_deed : List Str := ["card", "deed"]
theorem sc_behind_deed : FnScope N_behind_deed ["card", "deed"] (defScope s_behind_deed) := ⟨rfl, rfl, rfl, by decide +kernel, rfl, by decide +kernel, by decide +kernel⟩
theorem d_behind_deed (F : At K mg "behind_deed" s_behind_deed)  (h_behind_again : DHas P w K mg base T 2 "behind_again" ["card"] (gR m_behind_again)) (h_behind_arrival : DHas P w K mg base T 3 "behind_arrival" ["card", "kind"] (gR m_behind_arrival)) (h_behind_double : DHas P w K mg base T 2 "behind_double" ["card", "kind"] (gR m_behind_double)) (h_behind_given : DHas P w K mg base T 2 "behind_given" ["card"] (gR m_behind_given)) (h_with_change : DHas P w K mg base T 1 "with_change" ["card", "kind", "change"] (gR m_with_change)) : DHas P w K mg base T 4 "behind_deed" ["card", "deed"] (gR m_behind_deed) :=
  okF (s := (cSeq (cIf (cB (cOp eqC (cOp ixC (cVar 1) (cC (.int 0))) (cC (.str "give")))) (cRet (cCall m_behind_given (cCons (cVar 0) cNil))) cNext)
    (cSeq (cIf (cB (cOp eqC (cOp ixC (cVar 1) (cC (.int 0))) (cC (.str "again")))) (cRet (cCall m_behind_again (cCons (cVar 0) cNil))) cNext)
    (cSeq (cIf (cB (cOp eqC (cOp ixC (cVar 1) (cC (.int 0))) (cC (.str "lose")))) (cRet (cCall m_with_change (cCons (cVar 0) (cCons (cOp ixC (cVar 1) (cC (.int 1))) (cCons (cUn negC (cC (.int 1))) cNil))))) cNext)
    (cSeq (cIf (cB (cOp eqC (cOp ixC (cVar 1) (cC (.int 0))) (cC (.str "double")))) (cRet (cCall m_behind_double (cCons (cVar 0) (cCons (cOp ixC (cVar 1) (cC (.int 1))) cNil)))) cNext)
    (cRet (cCall m_behind_arrival (cCons (cVar 0) (cCons (cOp ixC (cVar 1) (cC (.int 1))) cNil))))))))) F sc_behind_deed (fun _ _ _ _ _ _ us hl => match us, hl with | [_, _], _ => rfl) fun A outer s0 H E c hid er l eo => (fs_cons (fs_if (ft_cmp (eq_ok l.b) eqC_ok (fe_ix l.b ixC_ok (fe_pv (pv 1)) fe_int) fe_str) (fs_one (fs_ret (fe_call h_behind_given (fun _ _ h => h) l.b l.pass eo (fe_cons (fe_pv (pv 0)) fe_nil)))) fs_nil)
    (fs_cons (fs_if (ft_cmp (eq_ok l.b) eqC_ok (fe_ix l.b ixC_ok (fe_pv (pv 1)) fe_int) fe_str) (fs_one (fs_ret (fe_call h_behind_again (fun _ _ h => h) l.b l.pass eo (fe_cons (fe_pv (pv 0)) fe_nil)))) fs_nil)
    (fs_cons (fs_if (ft_cmp (eq_ok l.b) eqC_ok (fe_ix l.b ixC_ok (fe_pv (pv 1)) fe_int) fe_str) (fs_one (fs_ret (fe_call h_with_change (fun _ _ h => h) l.b l.pass eo (fe_cons (fe_pv (pv 0)) (fe_cons (fe_ix l.b ixC_ok (fe_pv (pv 1)) fe_int) (fe_cons (fe_un neg_ok negC_ok fe_int) fe_nil)))))) fs_nil)
    (fs_cons (fs_if (ft_cmp (eq_ok l.b) eqC_ok (fe_ix l.b ixC_ok (fe_pv (pv 1)) fe_int) fe_str) (fs_one (fs_ret (fe_call h_behind_double (fun _ _ h => h) l.b l.pass eo (fe_cons (fe_pv (pv 0)) (fe_cons (fe_ix l.b ixC_ok (fe_pv (pv 1)) fe_int) fe_nil))))) fs_nil)
    (fs_one (fs_ret (fe_call h_behind_arrival (fun _ _ h => h) l.b l.pass eo (fe_cons (fe_pv (pv 0)) (fe_cons (fe_ix l.b ixC_ok (fe_pv (pv 1)) fe_int) fe_nil)))))))))
abbrev s_possible_deeds : Stmt := top 27
abbrev N_possible_deeds : List Str := ["card", "deeds", "word", "kind", "deed"]
theorem sc_possible_deeds : FnScope N_possible_deeds ["card"] (defScope s_possible_deeds) := ⟨rfl, rfl, rfl, by decide +kernel, rfl, by decide +kernel, by decide +kernel⟩
theorem d_possible_deeds (F : At K mg "possible_deeds" s_possible_deeds) (z_sorted : mg "sorted" = none) (c_KINDS : TopD K mg "KINDS" k_KINDS) (h_behind_deed : DHas P w K mg base T 4 "behind_deed" ["card", "deed"] (gR m_behind_deed)) : DHas P w K mg base T 5 "possible_deeds" ["card"] (gR m_possible_deeds) :=
  okF (s := (cSeq (cSet 1 (cOp addC (cLst (cCons (cTup (cCons (cC (.str "give")) cNil)) (cCons (cTup (cCons (cC (.str "again")) cNil)) cNil))) (cLc2 (cIt (cTup (cCons (cC (.str "lose")) (cCons (cC (.str "double")) (cCons (cC (.str "arrive")) cNil))))) (tgN 2) cYes (cTop k_KINDS) (tgN 3) cYes (cTup (cCons (cVar 2) (cCons (cVar 3) cNil))) [2, 3] [3])))
    (cRet (cFun sorted2C (cCons (cLc (cIt (cVar 1)) (tgN 4) (cB (cOp isNotC (cCallN m_behind_deed (cCons (cVar 0) (cCons (cVar 4) cNil))) (cC .none))) (cVar 4) [4]) cNil))))) F sc_possible_deeds (fun _ _ _ _ _ _ us hl => match us, hl with | [_], _ => rfl) fun A outer s0 H E c hid er l eo => (fs_cons (fs_set (i := 1) l.b.nd rfl (by first | exact Or.inl rfl | exact Or.inr rfl) (fe_op (add_ok l.b) addC_ok (fe_lst (fe_cons (fe_tup (fe_cons fe_str fe_nil)) (fe_cons (fe_tup (fe_cons fe_str fe_nil)) fe_nil))) (fe_lc2 (own := [("word", 2), ("kind", 3)]) (vs1 := [3]) l.b (fi_seq l.b (fe_tup (fe_cons fe_str (fe_cons fe_str (fe_cons fe_str fe_nil))))) (blk_by (by show BlkD N_possible_deeds (defScope s_possible_deeds) _ [("word", 2), ("kind", 3)]; decide +kernel)) rfl (fun _ _ _ _ _ l2 => (fg_name (i := 2) l2.nd rfl (by first | exact Or.inl rfl | exact Or.inr rfl))) (fun _ _ _ _ _ l2 => fts_nil) (fun _ _ _ _ _ l2 => (fi_top l2 c_KINDS)) (fun _ _ _ _ _ l2 => (fg_name (i := 3) l2.nd rfl (by first | exact Or.inl rfl | exact Or.inr rfl))) (fun _ _ _ _ _ l2 => fts_nil) (fun _ _ _ _ _ l2 => (fe_tup (fe_cons (fe_pv (pv 2)) (fe_cons (fe_pv (pv 3)) fe_nil)))))))
    (fs_one (fs_ret (fe_callB (sorted2_ok l.b) sorted2C_ok (by decide +kernel) z_sorted (fe_cons (fe_lc (own := [("deed", 4)]) l.b (fi_seq l.b (fe_pv (pv 1))) (blk_by (by show BlkD N_possible_deeds (defScope s_possible_deeds) _ [("deed", 4)]; decide +kernel)) (fun _ _ _ _ _ l1 => (fg_name (i := 4) l1.nd rfl (by first | exact Or.inl rfl | exact Or.inr rfl))) (fun _ _ _ _ _ l1 => (fts_one (ft_cmp isNot_ok isC_ok (fe_callN h_behind_deed l1 (fe_cons (fe_pv (pv 0)) (fe_cons (fe_pv (pv 4)) fe_nil))) fe_non))) (fun _ _ _ _ _ l1 => (fe_pv (pv 4)))) fe_nil)))))
abbrev s_card_events : Stmt := top 28
abbrev N_card_events : List Str := ["card"]
theorem sc_card_events : FnScope N_card_events ["card"] (defScope s_card_events) := ⟨rfl, rfl, rfl, by decide +kernel, rfl, by decide +kernel, by decide +kernel⟩
theorem d_card_events (F : At K mg "card_events" s_card_events)  (h_check_card : DHas P w K mg base T 3 "check_card" ["card"] (gR m_check_card)) (h_possible_deeds : DHas P w K mg base T 5 "possible_deeds" ["card"] (gR m_possible_deeds)) : DHas P w K mg base T 6 "card_events" ["card"] (gR m_card_events) :=
  okF (s := (cSeq (cDrop (cCall m_check_card (cCons (cVar 0) cNil)))
    (cRet (cCall m_possible_deeds (cCons (cVar 0) cNil))))) F sc_card_events (fun _ _ _ _ _ _ us hl => match us, hl with | [_], _ => rfl) fun A outer s0 H E c hid er l eo => (fs_cons (fs_expr (fe_call h_check_card (fun _ _ h => h) l.b l.pass eo (fe_cons (fe_pv (pv 0)) fe_nil)))
    (fs_one (fs_ret (fe_call h_possible_deeds (fun _ _ h => h) l.b l.pass eo (fe_cons (fe_pv (pv 0)) fe_nil)))))
abbrev s_card_behind : Stmt := top 29
abbrev N_card_behind : List Str := ["card", "deed"]
theorem sc_card_behind : FnScope N_card_behind ["card", "deed"] (defScope s_card_behind) := ⟨rfl, rfl, rfl, by decide +kernel, rfl, by decide +kernel, by decide +kernel⟩
theorem d_card_behind (F : At K mg "card_behind" s_card_behind)  (x_CannotHappen : Bk.Exc K mg "CannotHappen") (h_behind_deed : DHas P w K mg base T 4 "behind_deed" ["card", "deed"] (gR m_behind_deed)) (h_check_card : DHas P w K mg base T 3 "check_card" ["card"] (gR m_check_card)) (h_possible_deeds : DHas P w K mg base T 5 "possible_deeds" ["card"] (gR m_possible_deeds)) : DHas P w K mg base T 6 "card_behind" ["card", "deed"] (gR m_card_behind) :=
  okF (s := (cSeq (cDrop (cCall m_check_card (cCons (cVar 0) cNil)))
    (cSeq (cIf (cB (cOp notInC (cVar 1) (cCall m_possible_deeds (cCons (cVar 0) cNil)))) (cRaise "CannotHappen") cNext)
    (cRet (cCall m_behind_deed (cCons (cVar 0) (cCons (cVar 1) cNil))))))) F sc_card_behind (fun _ _ _ _ _ _ us hl => match us, hl with | [_, _], _ => rfl) fun A outer s0 H E c hid er l eo => (fs_cons (fs_expr (fe_call h_check_card (fun _ _ h => h) l.b l.pass eo (fe_cons (fe_pv (pv 0)) fe_nil)))
    (fs_cons (fs_if (ft_cmp (notIn_ok l.b) inC_ok (fe_pv (pv 1)) (fe_call h_possible_deeds (fun _ _ h => h) l.b l.pass eo (fe_cons (fe_pv (pv 0)) fe_nil))) (fs_one (fs_raise l eo (L2N.pmk_own PySem.F.excBase_ValueError x_CannotHappen.e.1 x_CannotHappen.g x_CannotHappen.e.2.1 (raises_own x_CannotHappen.e.2.2.1 x_CannotHappen.e.2.2.2) rfl))) fs_nil)
    (fs_one (fs_ret (fe_call h_behind_deed (fun _ _ h => h) l.b l.pass eo (fe_cons (fe_pv (pv 0)) (fe_cons (fe_pv (pv 1)) fe_nil)))))))
abbrev s__law_some : Stmt := top 33
abbrev N__law_some : List Str := ["_law_cup_here", "_law_things"]
theorem sc__law_some : FnScope N__law_some ["_law_cup_here", "_law_things"] (defScope s__law_some) := ⟨rfl, rfl, rfl, by decide +kernel, rfl, by decide +kernel, by decide +kernel⟩
theorem d__law_some (F : At K mg "_law_some" s__law_some) (z_len : mg "len" = none) (h__law_roll : DHas P w K mg base T 1 "_law_roll" ["_law_cup_here", "_law_many"] (gR m__law_roll)) : DHas P w K mg base T 2 "_law_some" ["_law_cup_here", "_law_things"] (gR m__law_some) :=
  okF (s := (cRet (cOp ixC (cVar 1) (cCall m__law_roll (cCons (cVar 0) (cCons (cFun lenC (cCons (cVar 1) cNil)) cNil)))))) F sc__law_some (fun _ _ _ _ _ _ us hl => match us, hl with | [_, _], _ => rfl) fun A outer s0 H E c hid er l eo => (fs_one (fs_ret (fe_ix l.b ixC_ok (fe_pv (pv 1)) (fe_call h__law_roll (fun _ _ h => h) l.b l.pass eo (fe_cons (fe_pv (pv 0)) (fe_cons (fe_callB (len_ok l.b) lenC_ok PySem.boot_len z_len (fe_cons (fe_pv (pv 1)) fe_nil)) fe_nil))))))
abbrev s__law_deeds : Stmt := top 34
abbrev N__law_deeds : List Str := ["_law_found", "_law_word", "_law_what"]
theorem sc__law_deeds : FnScope N__law_deeds [] (defScope s__law_deeds) := ⟨rfl, rfl, rfl, by decide +kernel, rfl, by decide +kernel, by decide +kernel⟩
theorem d__law_deeds (F : At K mg "_law_deeds" s__law_deeds) (z_sorted : mg "sorted" = none) : DHas P w K mg base T 1 "_law_deeds" [] (gR m__law_deeds) :=
  okF (s := (cSeq (cSet 0 (cLst (cCons (cTup (cCons (cC (.str "again")) cNil)) (cCons (cTup (cCons (cC (.str "give")) cNil)) cNil))))
    (cSeq (cFor (cIt (cTup (cCons (cC (.str "arrive")) (cCons (cC (.str "double")) (cCons (cC (.str "lose")) cNil))))) (tgN 1) (cSet 0 (cOp addC (cVar 0) (cLc (cIt (cTup (cCons (cC (.str "answers")) (cCons (cC (.str "dones")) (cCons (cC (.str "lets")) (cCons (cC (.str "words")) cNil)))))) (tgN 2) cYes (cTup (cCons (cVar 1) (cCons (cVar 2) cNil))) [2]))))
    (cRet (cFun sorted2C (cCons (cVar 0) cNil)))))) F sc__law_deeds (fun _ _ _ _ _ _ us hl => match us, hl with | [], _ => rfl) fun A outer s0 H E c hid er l eo => (fs_cons (fs_set (i := 0) l.b.nd rfl (by first | exact Or.inl rfl | exact Or.inr rfl) (fe_lst (fe_cons (fe_tup (fe_cons fe_str fe_nil)) (fe_cons (fe_tup (fe_cons fe_str fe_nil)) fe_nil))))
    (fs_cons (fs_for (ow := [1]) l (fi_seq l.b (fe_tup (fe_cons fe_str (fe_cons fe_str (fe_cons fe_str fe_nil))))) (fg_name (i := 1) l.b.nd rfl (by first | exact Or.inl rfl | exact Or.inr rfl)) (fs_one (fs_set (i := 0) l.b.nd rfl (by first | exact Or.inl rfl | exact Or.inr rfl) (fe_op (add_ok l.b) addC_ok (fe_pv (pv 0)) (fe_lc (own := [("_law_what", 2)]) l.b (fi_seq l.b (fe_tup (fe_cons fe_str (fe_cons fe_str (fe_cons fe_str (fe_cons fe_str fe_nil)))))) (blk_by (by show BlkD N__law_deeds (defScope s__law_deeds) _ [("_law_what", 2)]; decide +kernel)) (fun _ _ _ _ _ l1 => (fg_name (i := 2) l1.nd rfl (by first | exact Or.inl rfl | exact Or.inr rfl))) (fun _ _ _ _ _ l1 => fts_nil) (fun _ _ _ _ _ l1 => (fe_tup (fe_cons (fe_pv (pv 1)) (fe_cons (fe_pv (pv 2)) fe_nil)))))))))
    (fs_one (fs_ret (fe_callB (sorted2_ok l.b) sorted2C_ok (by decide +kernel) z_sorted (fe_cons (fe_pv (pv 0)) fe_nil))))))
abbrev s__law_set : Stmt := top 35
abbrev N__law_set : List Str := ["_law_card_here", "_law_changes", "_law_found", "_law_at", "_law_item"]
theorem sc__law_set : FnScope N__law_set ["_law_card_here", "_law_changes"] (defScope s__law_set) := ⟨rfl, rfl, rfl, by decide +kernel, rfl, by decide +kernel, by decide +kernel⟩
theorem d__law_set (F : At K mg "_law_set" s__law_set) (z_list : mg "list" = none) (z_max : mg "max" = none) (z_min : mg "min" = none) (z_tuple : mg "tuple" = none) : DHas P w K mg base T 1 "_law_set" ["_law_card_here", "_law_changes"] (gR m__law_set) :=
  okF (s := (cSeq (cOwnLs 2 (cVar 0))
    (cSeq (cFor (cIt (cVar 1)) (tgT 2 (tgsCons (tgN 3) (tgsCons (tgN 4) tgsNil))) (cPutL 2 (cVar 3) (cVar 4)))
    (cFrz 2 (cRet (cIfE (cAndT (cB (cOp geC (cFun min1C (cCons (cSl (cVar 2) (cPart (cC (.int 3))) cNoPart) cNil)) (cC (.int 0)))) (cB (cOp leC (cFun max1C (cCons (cSl (cVar 2) (cPart (cC (.int 3))) cNoPart) cNil)) (cC (.int 12))))) (cFun tupleC (cCons (cVar 2) cNil)) (cC .none))))))) F sc__law_set (fun _ _ _ _ _ _ us hl => match us, hl with | [_, _], _ => rfl) fun A outer s0 H E c hid er l eo => (fs_cons (fs_ownLs (i := 2) l.b z_list rfl (by first | exact Or.inl rfl | exact Or.inr rfl) (fe_pv (pv 0)))
    (fs_cons (fs_for (ow := [3, 4]) l (fi_seq l.b (fe_pv (pv 1))) (fg_tup (n := 2) l.b (fgs_cons (fg_name (i := 3) l.b.nd rfl (by first | exact Or.inl rfl | exact Or.inr rfl)) (fgs_cons (fg_name (i := 4) l.b.nd rfl (by first | exact Or.inl rfl | exact Or.inr rfl)) fgs_nil))) (fs_one (fs_putL (i := 2) l.b (pv 2) (fe_pv (pv 3)) (fe_pv (pv 4)))))
    (fs_one (fs_frz 2 (fs_ret (fe_ifE (PW.pt (fw_and (ft_cmp ge_ok cmpC_ok (fe_callB (min1_ok l.b) mx1C_ok (by decide +kernel) z_min (fe_cons (fe_slice l.b (fe_pv (pv 2)) (fo_some fe_int) fo_none) fe_nil)) fe_int) (pw_and1 (ft_cmp le_ok cmpC_ok (fe_callB (max1_ok l.b) mx1C_ok (by decide +kernel) z_max (fe_cons (fe_slice l.b (fe_pv (pv 2)) (fo_some fe_int) fo_none) fe_nil)) fe_int)))) (fe_callT (tuple_ok l.b) tupleC_ok PyProof.Rows.boot_tuple z_tuple (fe_cons (fe_pv (pv 2)) fe_nil)) fe_non))))))
abbrev s__law_card_after : Stmt := top 36
abbrev N__law_card_after : List Str := ["_law_card_here", "_law_deed", "_law_way", "_law_state", "_law_held", "_law_words", "_law_answers", "_law_lets", "_law_dones", "_law_at"]
theorem sc__law_card_after : FnScope N__law_card_after ["_law_card_here", "_law_deed"] (defScope s__law_card_after) := ⟨rfl, rfl, rfl, by decide +kernel, rfl, by decide +kernel, by decide +kernel⟩
theorem d__law_card_after (F : At K mg "_law_card_after" s__law_card_after)  (h__law_set : DHas P w K mg base T 1 "_law_set" ["_law_card_here", "_law_changes"] (gR m__law_set)) : DHas P w K mg base T 2 "_law_card_after" ["_law_card_here", "_law_deed"] (gR m__law_card_after) :=
  okF (s := (cSeq (cAsg (cVar 0) (tgT 7 (tgsCons (tgN 2) (tgsCons (tgN 3) (tgsCons (tgN 4) (tgsCons (tgN 5) (tgsCons (tgN 6) (tgsCons (tgN 7) (tgsCons (tgN 8) tgsNil)))))))))
    (cSeq (cIf (cB (cOp eqC (cVar 1) (cTup (cCons (cC (.str "give")) cNil)))) (cRet (cIfE (cAndT (cB (cOp eqC (cVar 3) (cC (.str "none")))) (cB (cOp eqC (cOp addC (cOp addC (cOp addC (cVar 5) (cVar 6)) (cVar 7)) (cVar 8)) (cC (.int 0))))) (cTup (cCons (cVar 2) (cCons (cC (.str "sent")) (cCons (cVar 4) (cCons (cC (.int 1)) (cCons (cC (.int 0)) (cCons (cC (.int 0)) (cCons (cC (.int 0)) cNil)))))))) (cC .none))) cNext)
    (cSeq (cIf (cB (cOp eqC (cVar 1) (cTup (cCons (cC (.str "again")) cNil)))) (cSeq (cIf (cB (cOp eqC (cVar 3) (cC (.str "none")))) (cRet (cC .none)) cNext)
    (cRet (cCall m__law_set (cCons (cVar 0) (cCons (cIfE (cB (cOp eqC (cVar 3) (cC (.str "sent")))) (cLst (cCons (cTup (cCons (cC (.int 3)) (cCons (cOp addC (cVar 5) (cC (.int 1))) cNil))) cNil)) (cLst (cCons (cTup (cCons (cC (.int 5)) (cCons (cOp addC (cVar 7) (cC (.int 1))) cNil))) cNil))) cNil))))) cNext)
    (cSeq (cSet 9 (cOp addC (c_index (cLst (cCons (cC (.str "words")) (cCons (cC (.str "answers")) (cCons (cC (.str "lets")) (cCons (cC (.str "dones")) cNil))))) (cOp ixC (cVar 1) (cC (.int 1)))) (cC (.int 3))))
    (cSeq (cIf (cB (cOp eqC (cOp ixC (cVar 0) (cVar 9)) (cC (.int 0)))) (cRet (cC .none)) cNext)
    (cSeq (cIf (cB (cOp neC (cOp ixC (cVar 1) (cC (.int 0))) (cC (.str "arrive")))) (cRet (cCall m__law_set (cCons (cVar 0) (cCons (cLst (cCons (cTup (cCons (cVar 9) (cCons (cOp addC (cOp ixC (cVar 0) (cVar 9)) (cIfE (cB (cOp eqC (cOp ixC (cVar 1) (cC (.int 0))) (cC (.str "double")))) (cC (.int 1)) (cUn negC (cC (.int 1))))) cNil))) cNil)) cNil)))) cNext)
    (cSeq (cIf (cB (cOp eqC (cVar 9) (cC (.int 3)))) (cRet (cCall m__law_set (cCons (cVar 0) (cCons (cLst (cCons (cTup (cCons (cC (.int 3)) (cCons (cOp subC (cVar 5) (cC (.int 1))) cNil))) (cCons (cTup (cCons (cC (.int 4)) (cCons (cOp addC (cVar 6) (cC (.int 1))) cNil))) (cCons (cTup (cCons (cC (.int 2)) (cCons (cIfE (cB (cOp eqC (cVar 2) (cC (.str "paired")))) (cC (.bool true)) (cVar 4)) cNil))) cNil)))) cNil)))) cNext)
    (cSeq (cIf (cB (cOp eqC (cVar 9) (cC (.int 5)))) (cRet (cCall m__law_set (cCons (cVar 0) (cCons (cLst (cCons (cTup (cCons (cC (.int 5)) (cCons (cOp subC (cVar 7) (cC (.int 1))) cNil))) (cCons (cTup (cCons (cC (.int 6)) (cCons (cOp addC (cVar 8) (cC (.int 1))) cNil))) (cCons (cTup (cCons (cC (.int 2)) (cCons (cC (.bool false)) cNil))) cNil)))) cNil)))) cNext)
    (cSeq (cIf (cB (cOp eqC (cVar 9) (cC (.int 6)))) (cRet (cCall m__law_set (cCons (cVar 0) (cCons (cLst (cCons (cTup (cCons (cC (.int 6)) (cCons (cOp subC (cVar 8) (cC (.int 1))) cNil))) (cCons (cTup (cCons (cC (.int 1)) (cCons (cIfE (cB (cOp eqC (cVar 3) (cC (.str "let")))) (cC (.str "none")) (cVar 3)) cNil))) cNil))) cNil)))) cNext)
    (cSeq (cIf (cB (cOp eqC (cVar 2) (cC (.str "marked")))) (cRet (cCall m__law_set (cCons (cVar 0) (cCons (cLst (cCons (cTup (cCons (cC (.int 4)) (cCons (cOp subC (cVar 6) (cC (.int 1))) cNil))) (cCons (cTup (cCons (cC (.int 1)) (cCons (cIfE (cB (cOp eqC (cVar 3) (cC (.str "sent")))) (cC (.str "none")) (cVar 3)) cNil))) cNil))) cNil)))) cNext)
    (cSeq (cIf (cB (cOp gtC (cVar 5) (cC (.int 0)))) (cRet (cCall m__law_set (cCons (cVar 0) (cCons (cLst (cCons (cTup (cCons (cC (.int 4)) (cCons (cOp subC (cVar 6) (cC (.int 1))) cNil))) cNil)) cNil)))) cNext)
    (cRet (cCall m__law_set (cCons (cVar 0) (cCons (cLst (cCons (cTup (cCons (cC (.int 4)) (cCons (cOp subC (cVar 6) (cC (.int 1))) cNil))) (cCons (cTup (cCons (cC (.int 5)) (cCons (cOp addC (cVar 7) (cC (.int 1))) cNil))) (cCons (cTup (cCons (cC (.int 1)) (cCons (cIfE (cB (cOp eqC (cVar 3) (cC (.str "sent")))) (cC (.str "let")) (cVar 3)) cNil))) cNil)))) cNil)))))))))))))))) F sc__law_card_after (fun _ _ _ _ _ _ us hl => match us, hl with | [_, _], _ => rfl) fun A outer s0 H E c hid er l eo => (fs_cons (fs_asg (ow := [2, 3, 4, 5, 6, 7, 8]) (fe_pv (pv 0)) (fg_tup (n := 7) l.b (fgs_cons (fg_name (i := 2) l.b.nd rfl (by first | exact Or.inl rfl | exact Or.inr rfl)) (fgs_cons (fg_name (i := 3) l.b.nd rfl (by first | exact Or.inl rfl | exact Or.inr rfl)) (fgs_cons (fg_name (i := 4) l.b.nd rfl (by first | exact Or.inl rfl | exact Or.inr rfl)) (fgs_cons (fg_name (i := 5) l.b.nd rfl (by first | exact Or.inl rfl | exact Or.inr rfl)) (fgs_cons (fg_name (i := 6) l.b.nd rfl (by first | exact Or.inl rfl | exact Or.inr rfl)) (fgs_cons (fg_name (i := 7) l.b.nd rfl (by first | exact Or.inl rfl | exact Or.inr rfl)) (fgs_cons (fg_name (i := 8) l.b.nd rfl (by first | exact Or.inl rfl | exact Or.inr rfl)) fgs_nil)))))))))
    (fs_cons (fs_if (ft_cmp (eq_ok l.b) eqC_ok (fe_pv (pv 1)) (fe_tup (fe_cons fe_str fe_nil))) (fs_one (fs_ret (fe_ifE (PW.pt (fw_and (ft_cmp (eq_ok l.b) eqC_ok (fe_pv (pv 3)) fe_str) (pw_and1 (ft_cmp (eq_ok l.b) eqC_ok (fe_op (add_ok l.b) addC_ok (fe_op (add_ok l.b) addC_ok (fe_op (add_ok l.b) addC_ok (fe_pv (pv 5)) (fe_pv (pv 6))) (fe_pv (pv 7))) (fe_pv (pv 8))) fe_int)))) (fe_tup (fe_cons (fe_pv (pv 2)) (fe_cons fe_str (fe_cons (fe_pv (pv 4)) (fe_cons fe_int (fe_cons fe_int (fe_cons fe_int (fe_cons fe_int fe_nil)))))))) fe_non))) fs_nil)
    (fs_cons (fs_if (ft_cmp (eq_ok l.b) eqC_ok (fe_pv (pv 1)) (fe_tup (fe_cons fe_str fe_nil))) (fs_cons (fs_if (ft_cmp (eq_ok l.b) eqC_ok (fe_pv (pv 3)) fe_str) (fs_one (fs_ret fe_non)) fs_nil)
    (fs_one (fs_ret (fe_call h__law_set (fun _ _ h => h) l.b l.pass eo (fe_cons (fe_pv (pv 0)) (fe_cons (fe_ifE (ft_cmp (eq_ok l.b) eqC_ok (fe_pv (pv 3)) fe_str) (fe_lst (fe_cons (fe_tup (fe_cons fe_int (fe_cons (fe_op (add_ok l.b) addC_ok (fe_pv (pv 5)) fe_int) fe_nil))) fe_nil)) (fe_lst (fe_cons (fe_tup (fe_cons fe_int (fe_cons (fe_op (add_ok l.b) addC_ok (fe_pv (pv 7)) fe_int) fe_nil))) fe_nil))) fe_nil)))))) fs_nil)
    (fs_cons (fs_set (i := 9) l.b.nd rfl (by first | exact Or.inl rfl | exact Or.inr rfl) (fe_op (add_ok l.b) addC_ok (fe_index l.b (fe_lst (fe_cons fe_str (fe_cons fe_str (fe_cons fe_str (fe_cons fe_str fe_nil))))) (fe_ix l.b ixC_ok (fe_pv (pv 1)) fe_int)) fe_int))
    (fs_cons (fs_if (ft_cmp (eq_ok l.b) eqC_ok (fe_ix l.b ixC_ok (fe_pv (pv 0)) (fe_pv (pv 9))) fe_int) (fs_one (fs_ret fe_non)) fs_nil)
    (fs_cons (fs_if (ft_cmp (ne_ok l.b) neC_ok (fe_ix l.b ixC_ok (fe_pv (pv 1)) fe_int) fe_str) (fs_one (fs_ret (fe_call h__law_set (fun _ _ h => h) l.b l.pass eo (fe_cons (fe_pv (pv 0)) (fe_cons (fe_lst (fe_cons (fe_tup (fe_cons (fe_pv (pv 9)) (fe_cons (fe_op (add_ok l.b) addC_ok (fe_ix l.b ixC_ok (fe_pv (pv 0)) (fe_pv (pv 9))) (fe_ifE (ft_cmp (eq_ok l.b) eqC_ok (fe_ix l.b ixC_ok (fe_pv (pv 1)) fe_int) fe_str) fe_int (fe_un neg_ok negC_ok fe_int))) fe_nil))) fe_nil)) fe_nil))))) fs_nil)
    (fs_cons (fs_if (ft_cmp (eq_ok l.b) eqC_ok (fe_pv (pv 9)) fe_int) (fs_one (fs_ret (fe_call h__law_set (fun _ _ h => h) l.b l.pass eo (fe_cons (fe_pv (pv 0)) (fe_cons (fe_lst (fe_cons (fe_tup (fe_cons fe_int (fe_cons (fe_op sub_ok subC_ok (fe_pv (pv 5)) fe_int) fe_nil))) (fe_cons (fe_tup (fe_cons fe_int (fe_cons (fe_op (add_ok l.b) addC_ok (fe_pv (pv 6)) fe_int) fe_nil))) (fe_cons (fe_tup (fe_cons fe_int (fe_cons (fe_ifE (ft_cmp (eq_ok l.b) eqC_ok (fe_pv (pv 2)) fe_str) fe_bl (fe_pv (pv 4))) fe_nil))) fe_nil)))) fe_nil))))) fs_nil)
    (fs_cons (fs_if (ft_cmp (eq_ok l.b) eqC_ok (fe_pv (pv 9)) fe_int) (fs_one (fs_ret (fe_call h__law_set (fun _ _ h => h) l.b l.pass eo (fe_cons (fe_pv (pv 0)) (fe_cons (fe_lst (fe_cons (fe_tup (fe_cons fe_int (fe_cons (fe_op sub_ok subC_ok (fe_pv (pv 7)) fe_int) fe_nil))) (fe_cons (fe_tup (fe_cons fe_int (fe_cons (fe_op (add_ok l.b) addC_ok (fe_pv (pv 8)) fe_int) fe_nil))) (fe_cons (fe_tup (fe_cons fe_int (fe_cons fe_bl fe_nil))) fe_nil)))) fe_nil))))) fs_nil)
    (fs_cons (fs_if (ft_cmp (eq_ok l.b) eqC_ok (fe_pv (pv 9)) fe_int) (fs_one (fs_ret (fe_call h__law_set (fun _ _ h => h) l.b l.pass eo (fe_cons (fe_pv (pv 0)) (fe_cons (fe_lst (fe_cons (fe_tup (fe_cons fe_int (fe_cons (fe_op sub_ok subC_ok (fe_pv (pv 8)) fe_int) fe_nil))) (fe_cons (fe_tup (fe_cons fe_int (fe_cons (fe_ifE (ft_cmp (eq_ok l.b) eqC_ok (fe_pv (pv 3)) fe_str) fe_str (fe_pv (pv 3))) fe_nil))) fe_nil))) fe_nil))))) fs_nil)
    (fs_cons (fs_if (ft_cmp (eq_ok l.b) eqC_ok (fe_pv (pv 2)) fe_str) (fs_one (fs_ret (fe_call h__law_set (fun _ _ h => h) l.b l.pass eo (fe_cons (fe_pv (pv 0)) (fe_cons (fe_lst (fe_cons (fe_tup (fe_cons fe_int (fe_cons (fe_op sub_ok subC_ok (fe_pv (pv 6)) fe_int) fe_nil))) (fe_cons (fe_tup (fe_cons fe_int (fe_cons (fe_ifE (ft_cmp (eq_ok l.b) eqC_ok (fe_pv (pv 3)) fe_str) fe_str (fe_pv (pv 3))) fe_nil))) fe_nil))) fe_nil))))) fs_nil)
    (fs_cons (fs_if (ft_cmp gt_ok cmpC_ok (fe_pv (pv 5)) fe_int) (fs_one (fs_ret (fe_call h__law_set (fun _ _ h => h) l.b l.pass eo (fe_cons (fe_pv (pv 0)) (fe_cons (fe_lst (fe_cons (fe_tup (fe_cons fe_int (fe_cons (fe_op sub_ok subC_ok (fe_pv (pv 6)) fe_int) fe_nil))) fe_nil)) fe_nil))))) fs_nil)
    (fs_one (fs_ret (fe_call h__law_set (fun _ _ h => h) l.b l.pass eo (fe_cons (fe_pv (pv 0)) (fe_cons (fe_lst (fe_cons (fe_tup (fe_cons fe_int (fe_cons (fe_op sub_ok subC_ok (fe_pv (pv 6)) fe_int) fe_nil))) (fe_cons (fe_tup (fe_cons fe_int (fe_cons (fe_op (add_ok l.b) addC_ok (fe_pv (pv 7)) fe_int) fe_nil))) (fe_cons (fe_tup (fe_cons fe_int (fe_cons (fe_ifE (ft_cmp (eq_ok l.b) eqC_ok (fe_pv (pv 3)) fe_str) fe_str (fe_pv (pv 3))) fe_nil))) fe_nil)))) fe_nil))))))))))))))))
abbrev s__law_possible : Stmt := top 37
abbrev N__law_possible : List Str := ["_law_card_here", "_law_way", "_law_state", "_law_held", "_law_words", "_law_answers", "_law_lets", "_law_dones"]
theorem sc__law_possible : FnScope N__law_possible ["_law_card_here"] (defScope s__law_possible) := ⟨rfl, rfl, rfl, by decide +kernel, rfl, by decide +kernel, by decide +kernel⟩
theorem d__law_possible (F : At K mg "_law_possible" s__law_possible)  : DHas P w K mg base T 1 "_law_possible" ["_law_card_here"] (gR m__law_possible) :=
  okF (s := (cSeq (cAsg (cVar 0) (tgT 7 (tgsCons (tgN 1) (tgsCons (tgN 2) (tgsCons (tgN 3) (tgsCons (tgN 4) (tgsCons (tgN 5) (tgsCons (tgN 6) (tgsCons (tgN 7) tgsNil)))))))))
    (cSeq (cIf (cB (cOp eqC (cVar 1) (cC (.str "marked")))) (cRet (cOp isinC (cTup (cCons (cVar 2) (cCons (cVar 3) (cCons (cVar 6) (cCons (cVar 7) cNil))))) (cLst (cCons (cTup (cCons (cC (.str "sent")) (cCons (cC (.bool false)) (cCons (cC (.int 0)) (cCons (cC (.int 0)) cNil))))) (cCons (cTup (cCons (cC (.str "none")) (cCons (cC (.bool false)) (cCons (cC (.int 0)) (cCons (cC (.int 0)) cNil))))) cNil))))) cNext)
    (cSeq (cIf (cB (cOp eqC (cVar 2) (cC (.str "sent")))) (cRet (cAnd (cOp eqC (cTup (cCons (cVar 6) (cCons (cVar 7) cNil))) (cTup (cCons (cC (.int 0)) (cCons (cC (.int 0)) cNil)))) (cOr (cVar 3) (cOp eqC (cVar 5) (cC (.int 0)))))) cNext)
    (cSeq (cIf (cB (cOp eqC (cVar 2) (cC (.str "let")))) (cRet (cAnd (cOp eqC (cVar 4) (cC (.int 0))) (cOr (cOp eqC (cVar 7) (cC (.int 0))) (cNotE (cVar 3))))) cNext)
    (cRet (cAnd (cOp eqC (cVar 4) (cC (.int 0))) (cNotE (cVar 3))))))))) F sc__law_possible (fun _ _ _ _ _ _ us hl => match us, hl with | [_], _ => rfl) fun A outer s0 H E c hid er l eo => (fs_cons (fs_asg (ow := [1, 2, 3, 4, 5, 6, 7]) (fe_pv (pv 0)) (fg_tup (n := 7) l.b (fgs_cons (fg_name (i := 1) l.b.nd rfl (by first | exact Or.inl rfl | exact Or.inr rfl)) (fgs_cons (fg_name (i := 2) l.b.nd rfl (by first | exact Or.inl rfl | exact Or.inr rfl)) (fgs_cons (fg_name (i := 3) l.b.nd rfl (by first | exact Or.inl rfl | exact Or.inr rfl)) (fgs_cons (fg_name (i := 4) l.b.nd rfl (by first | exact Or.inl rfl | exact Or.inr rfl)) (fgs_cons (fg_name (i := 5) l.b.nd rfl (by first | exact Or.inl rfl | exact Or.inr rfl)) (fgs_cons (fg_name (i := 6) l.b.nd rfl (by first | exact Or.inl rfl | exact Or.inr rfl)) (fgs_cons (fg_name (i := 7) l.b.nd rfl (by first | exact Or.inl rfl | exact Or.inr rfl)) fgs_nil)))))))))
    (fs_cons (fs_if (ft_cmp (eq_ok l.b) eqC_ok (fe_pv (pv 1)) fe_str) (fs_one (fs_ret (fe_cmp (in_ok l.b) inC_ok (fe_tup (fe_cons (fe_pv (pv 2)) (fe_cons (fe_pv (pv 3)) (fe_cons (fe_pv (pv 6)) (fe_cons (fe_pv (pv 7)) fe_nil))))) (fe_lst (fe_cons (fe_tup (fe_cons fe_str (fe_cons fe_bl (fe_cons fe_int (fe_cons fe_int fe_nil))))) (fe_cons (fe_tup (fe_cons fe_str (fe_cons fe_bl (fe_cons fe_int (fe_cons fe_int fe_nil))))) fe_nil)))))) fs_nil)
    (fs_cons (fs_if (ft_cmp (eq_ok l.b) eqC_ok (fe_pv (pv 2)) fe_str) (fs_one (fs_ret (fe_and (fe_cmp (eq_ok l.b) eqC_ok (fe_tup (fe_cons (fe_pv (pv 6)) (fe_cons (fe_pv (pv 7)) fe_nil))) (fe_tup (fe_cons fe_int (fe_cons fe_int fe_nil)))) (pe_one (fe_or (fe_pv (pv 3)) (pe_one (fe_cmp (eq_ok l.b) eqC_ok (fe_pv (pv 5)) fe_int))))))) fs_nil)
    (fs_cons (fs_if (ft_cmp (eq_ok l.b) eqC_ok (fe_pv (pv 2)) fe_str) (fs_one (fs_ret (fe_and (fe_cmp (eq_ok l.b) eqC_ok (fe_pv (pv 4)) fe_int) (pe_one (fe_or (fe_cmp (eq_ok l.b) eqC_ok (fe_pv (pv 7)) fe_int) (pe_one (fe_not (fe_pv (pv 3))))))))) fs_nil)
    (fs_one (fs_ret (fe_and (fe_cmp (eq_ok l.b) eqC_ok (fe_pv (pv 4)) fe_int) (pe_one (fe_not (fe_pv (pv 3)))))))))))
abbrev s__law_card : Stmt := top 38
abbrev N__law_card : List Str := ["_law_cup_here", "_law_counts", "_law_turn", "_law_way", "_law_state"]
theorem sc__law_card : FnScope N__law_card ["_law_cup_here"] (defScope s__law_card) := ⟨rfl, rfl, rfl, by decide +kernel, rfl, by decide +kernel, by decide +kernel⟩
theorem d__law_card (F : At K mg "_law_card" s__law_card) (z_range : mg "range" = none) (z_tuple : mg "tuple" = none) (h__law_roll : DHas P w K mg base T 1 "_law_roll" ["_law_cup_here", "_law_many"] (gR m__law_roll)) (h__law_some : DHas P w K mg base T 2 "_law_some" ["_law_cup_here", "_law_things"] (gR m__law_some)) : DHas P w K mg base T 3 "_law_card" ["_law_cup_here"] (gR m__law_card) :=
  okF (s := (cSeq (cSet 1 (cFun tupleC (cCons (cLc (cRng1 (cC (.int 4))) (tgN 2) cYes (cCallN m__law_some (cCons (cVar 0) (cCons (cLst (cCons (cC (.int 0)) (cCons (cC (.int 0)) (cCons (cC (.int 0)) (cCons (cC (.int 1)) (cCons (cC (.int 1)) (cCons (cC (.int 2)) (cCons (cC (.int 3)) (cCons (cC (.int 12)) cNil))))))))) cNil))) [2]) cNil)))
    (cSeq (cPar 3 4 (cCons (cCall m__law_some (cCons (cVar 0) (cCons (cLst (cCons (cC (.str "marked")) (cCons (cC (.str "paired")) (cCons (cC (.str "paired")) cNil)))) cNil))) (cCons (cCall m__law_some (cCons (cVar 0) (cCons (cLst (cCons (cC (.str "none")) (cCons (cC (.str "sent")) (cCons (cC (.str "let")) cNil)))) cNil))) cNil)))
    (cRet (cOp addC (cTup (cCons (cVar 3) (cCons (cVar 4) (cCons (cOp eqC (cCall m__law_roll (cCons (cVar 0) (cCons (cC (.int 2)) cNil))) (cC (.int 0))) cNil)))) (cVar 1)))))) F sc__law_card (fun _ _ _ _ _ _ us hl => match us, hl with | [_], _ => rfl) fun A outer s0 H E c hid er l eo => (fs_cons (fs_set (i := 1) l.b.nd rfl (by first | exact Or.inl rfl | exact Or.inr rfl) (fe_callT (tuple_ok l.b) tupleC_ok PyProof.Rows.boot_tuple z_tuple (fe_cons (fe_lc (own := [("_law_turn", 2)]) l.b (fi_rng1 z_range fe_int) (blk_by (by show BlkD N__law_card (defScope s__law_card) _ [("_law_turn", 2)]; decide +kernel)) (fun _ _ _ _ _ l1 => (fg_name (i := 2) l1.nd rfl (by first | exact Or.inl rfl | exact Or.inr rfl))) (fun _ _ _ _ _ l1 => fts_nil) (fun _ _ _ _ _ l1 => (fe_callN h__law_some l1 (fe_cons (fe_pv (pv 0)) (fe_cons (fe_lst (fe_cons fe_int (fe_cons fe_int (fe_cons fe_int (fe_cons fe_int (fe_cons fe_int (fe_cons fe_int (fe_cons fe_int (fe_cons fe_int fe_nil))))))))) fe_nil))))) fe_nil)))
    (fs_cons (fs_par (i := 3) (j := 4) l.b rfl rfl (fe_cons (fe_call h__law_some (fun _ _ h => h) l.b l.pass eo (fe_cons (fe_pv (pv 0)) (fe_cons (fe_lst (fe_cons fe_str (fe_cons fe_str (fe_cons fe_str fe_nil)))) fe_nil))) (fe_cons (fe_call h__law_some (fun _ _ h => h) l.b l.pass eo (fe_cons (fe_pv (pv 0)) (fe_cons (fe_lst (fe_cons fe_str (fe_cons fe_str (fe_cons fe_str fe_nil)))) fe_nil))) fe_nil)))
    (fs_one (fs_ret (fe_op (add_ok l.b) addC_ok (fe_tup (fe_cons (fe_pv (pv 3)) (fe_cons (fe_pv (pv 4)) (fe_cons (fe_cmp (eq_ok l.b) eqC_ok (fe_call h__law_roll (fun _ _ h => h) l.b l.pass eo (fe_cons (fe_pv (pv 0)) (fe_cons fe_int fe_nil))) fe_int) fe_nil)))) (fe_pv (pv 1)))))))
abbrev s__law_name : Stmt := top 39
abbrev N__law_name : List Str := ["_law_e", "_law_some_here", "_law_words", "_law_word", "_law_found"]
theorem sc__law_name : FnScope N__law_name ["_law_e"] (defScope s__law_name) := ⟨rfl, rfl, rfl, by decide +kernel, rfl, by decide +kernel, by decide +kernel⟩
theorem p__law_name (F : At K mg "_law_name" s__law_name) (z_isinstance : mg "isinstance" = none) (z_zip : mg "zip" = none) (g_InvalidEvents : mg "InvalidEvents" = some (.ref (He.ga K "InvalidEvents"))) (g_InvalidSizes : mg "InvalidSizes" = some (.ref (He.ga K "InvalidSizes"))) (g_InvalidCard : mg "InvalidCard" = some (.ref (He.ga K "InvalidCard"))) (g_InvalidWorld : mg "InvalidWorld" = some (.ref (He.ga K "InvalidWorld"))) (g_InvalidSide : mg "InvalidSide" = some (.ref (He.ga K "InvalidSide"))) (g_InvalidNames : mg "InvalidNames" = some (.ref (He.ga K "InvalidNames"))) (g_CannotHappen : mg "CannotHappen" = some (.ref (He.ga K "CannotHappen"))) (CL : Clss K clsL clsM) (p : Addr × Obj) (cl : Str) (hcl : cl ∈ clsL) (hz : Zc (.ref (He.ga K cl)) none p.2) : PHas P w K mg base T p 1 "_law_name" "_law_e" (m__law_name p.1 cl) :=
  okP (k := 0) (s := ms__law_name p.1 cl) F sc__law_name (fun _ _ _ _ _ _ us hl => match us, hl with | [_], _ => rfl) fun A outer s0 H c hid l => (fs_cons (fs_set (i := 1) l.nd rfl (by first | exact Or.inl rfl | exact Or.inr rfl) (fe_lst (fe_cons (fe_isE l (CL.ex _ hcl) hz (pv 0) z_isinstance (pe_glob (v := .ref (He.ga K "InvalidCard")) rfl g_InvalidCard rfl) (fun _ h => h) (CL.kit _ hcl _ (by decide))) (fe_cons (fe_isE l (CL.ex _ hcl) hz (pv 0) z_isinstance (pe_glob (v := .ref (He.ga K "InvalidSizes")) rfl g_InvalidSizes rfl) (fun _ h => h) (CL.kit _ hcl _ (by decide))) (fe_cons (fe_isE l (CL.ex _ hcl) hz (pv 0) z_isinstance (pe_glob (v := .ref (He.ga K "InvalidEvents")) rfl g_InvalidEvents rfl) (fun _ h => h) (CL.kit _ hcl _ (by decide))) fe_nil)))))
    (fs_cons (fs_set (i := 1) l.nd rfl (by first | exact Or.inl rfl | exact Or.inr rfl) (fe_op addH_ok addHC_ok (fe_pv (pv 1)) (fe_lst (fe_cons (fe_isE l (CL.ex _ hcl) hz (pv 0) z_isinstance (pe_glob (v := .ref (He.ga K "InvalidNames")) rfl g_InvalidNames rfl) (fun _ h => h) (CL.kit _ hcl _ (by decide))) (fe_cons (fe_isE l (CL.ex _ hcl) hz (pv 0) z_isinstance (pe_glob (v := .ref (He.ga K "InvalidSide")) rfl g_InvalidSide rfl) (fun _ h => h) (CL.kit _ hcl _ (by decide))) (fe_cons (fe_isE l (CL.ex _ hcl) hz (pv 0) z_isinstance (pe_glob (v := .ref (He.ga K "InvalidWorld")) rfl g_InvalidWorld rfl) (fun _ h => h) (CL.kit _ hcl _ (by decide))) fe_nil))))))
    (fs_cons (fs_set (i := 2) l.nd rfl (by first | exact Or.inl rfl | exact Or.inr rfl) (fe_split0 fe_str fe_str))
    (fs_one (fs_ret (fe_join0 l.K fe_str (fe_lcH (own := [("_law_word", 3), ("_law_found", 4)]) l (fi_zipH l z_zip (fe_pv (pv 2)) (fe_op addH_ok addHC_ok (fe_pv (pv 1)) (fe_lst (fe_cons (fe_isE l (CL.ex _ hcl) hz (pv 0) z_isinstance (pe_glob (v := .ref (He.ga K "CannotHappen")) rfl g_CannotHappen rfl) (fun _ h => h) (CL.kit _ hcl _ (by decide))) fe_nil)))) (blk_by (by show BlkD N__law_name (defScope s__law_name) _ [("_law_word", 3), ("_law_found", 4)]; decide +kernel)) (fun _ _ _ _ _ l1 => (fg_tupH (n := 2) l1 (fgs_cons (fg_name (i := 3) l1.nd rfl (by first | exact Or.inl rfl | exact Or.inr rfl)) (fgs_cons (fg_name (i := 4) l1.nd rfl (by first | exact Or.inl rfl | exact Or.inr rfl)) fgs_nil)))) (fun _ _ _ _ _ l1 => (fts_one (ft_val (fe_pv (pv 4))))) (fun _ _ _ _ _ l1 => (fe_pv (pv 3))))))))))
abbrev s__law_error : Stmt := top 40
theorem sc__law_error : FnScope ["_law_call", "_law_found", "_law_e"] ["_law_call"] (defScope s__law_error) := ⟨rfl, rfl, rfl, by decide +kernel, rfl, by decide +kernel, by decide +kernel⟩
theorem g__law_error {X : Cx} {T : Tbs} {g : Addr} {cdg : Value} {j kk : Nat} {q : Str} (M : Named X.prog X.w X.K X.mg X.base T j "_law_name" "_law_e" "HeardError" tabE) (hj : j ≤ kk) : Ho.GivesN kk X ["_law_call", "_law_found", "_law_e"] "_law_error" (defScope s__law_error) g cdg (defBody s__law_error) "_law_call" q (TErr X.K T tabE "none") := gives_A M hj (by decide +kernel) (by decide +kernel) (by decide +kernel) (by decide +kernel) (by decide +kernel) (by decide +kernel) (by decide) (by decide) (by decide) (by decide) (by decide) (by decide)
abbrev s__law_step_right : Stmt := top 41
abbrev N__law_step_right : List Str := ["_law_card_here", "_law_good", "_law_deed"]
theorem sc__law_step_right : FnScope N__law_step_right ["_law_card_here"] (defScope s__law_step_right) := ⟨rfl, rfl, rfl, by decide +kernel, rfl, by decide +kernel, by decide +kernel⟩
theorem d__law_step_right (F : At K mg "_law_step_right" s__law_step_right)  (b__law_step_right : TbQ K mg base T "_law_step_right" "_law_step_right.<locals>.<lambda>") (e_err : ErrD P w K mg base T 1 "_law_error" "_law_name" "_law_e" s__law_error tabE) (h__law_card_after : DHas P w K mg base T 2 "_law_card_after" ["_law_card_here", "_law_deed"] (gR m__law_card_after)) (h__law_deeds : DHas P w K mg base T 1 "_law_deeds" [] (gR m__law_deeds)) (h_card_behind : DHas P w K mg base T 6 "card_behind" ["card", "deed"] (gR m_card_behind)) (h_card_events : DHas P w K mg base T 6 "card_events" ["card"] (gR m_card_events)) (h_is_card : DHas P w K mg base T 2 "is_card" ["value"] (gR m_is_card)) : DHas P w K mg base T 9 "_law_step_right" ["_law_card_here"] (gR m__law_step_right) :=
  okF (s := (cSeq (cSet 1 (cLc (cIt (cCall0 m__law_deeds)) (tgN 2) (cB (cOp isNotC (cCallN m__law_card_after (cCons (cVar 0) (cCons (cVar 2) cNil))) (cC .none))) (cVar 2) [2]))
    (cSeq (cIf (cOrT (cB (cOp isNotC (cCall m_is_card (cCons (cVar 0) cNil)) (cC (.bool true)))) (cB (cOp neC (cCall m_card_events (cCons (cVar 0) cNil)) (cVar 1)))) (cRet (cC (.bool false))) cNext)
    (cSeq (cFor (cIt (cCall0 m__law_deeds)) (tgN 2) (cIf (cB (cOp isinC (cVar 2) (cVar 1))) (cIf (cB (cOp neC (cCall m_card_behind (cCons (cVar 0) (cCons (cVar 2) cNil))) (cCall m__law_card_after (cCons (cVar 0) (cCons (cVar 2) cNil))))) (cRet (cC (.bool false))) cNext) (cIf (cB (cOp neC (cErr tabE "none" (cCall m_card_behind (cCons (cVar 0) (cCons (cVar 2) cNil)))) (cC (.str "cannot")))) (cRet (cC (.bool false))) cNext)))
    (cRet (cC (.bool true))))))) F sc__law_step_right (fun _ _ _ _ _ _ us hl => match us, hl with | [_], _ => rfl) fun A outer s0 H E c hid er l eo => (fs_cons (fs_setLc (i := 1) (own := [("_law_deed", 2)]) l.b rfl rfl rfl (fi_seq l.b (fe_call0 h__law_deeds (fun _ _ h => h) l.b l.pass eo)) (blk_by (by show BlkD N__law_step_right (defScope s__law_step_right) _ [("_law_deed", 2)]; decide +kernel)) (fun _ _ _ _ _ l1 => (fg_name (i := 2) l1.nd rfl (by first | exact Or.inl rfl | exact Or.inr rfl))) (fun _ _ _ _ _ l1 => (fts_one (ft_cmp isNot_ok isC_ok (fe_callN h__law_card_after l1 (fe_cons (fe_pv (pv 0)) (fe_cons (fe_pv (pv 2)) fe_nil))) fe_non))) (fun _ _ _ _ _ l1 => (fe_pv (pv 2))))
    (fs_cons (fs_if (PW.pt (fw_or (ft_cmp isNot_ok isC_ok (fe_call h_is_card (fun _ _ h => h) l.b l.pass eo (fe_cons (fe_pv (pv 0)) fe_nil)) fe_bl) (pw_or1 (ft_cmp (ne_ok l.b) neC_ok (fe_call h_card_events (fun _ _ h => h) l.b l.pass eo (fe_cons (fe_pv (pv 0)) fe_nil)) (fe_pv (pv 1)))))) (fs_one (fs_ret fe_bl)) fs_nil)
    (fs_cons (fs_for (ow := [2]) l (fi_seq l.b (fe_call0 h__law_deeds (fun _ _ h => h) l.b l.pass eo)) (fg_name (i := 2) l.b.nd rfl (by first | exact Or.inl rfl | exact Or.inr rfl)) (fs_one (fs_if (ft_cmp (in_ok l.b) inC_ok (fe_pv (pv 2)) (fe_pv (pv 1))) (fs_one (fs_if (ft_cmp (ne_ok l.b) neC_ok (fe_call h_card_behind (fun _ _ h => h) l.b l.pass eo (fe_cons (fe_pv (pv 0)) (fe_cons (fe_pv (pv 2)) fe_nil))) (fe_call h__law_card_after (fun _ _ h => h) l.b l.pass eo (fe_cons (fe_pv (pv 0)) (fe_cons (fe_pv (pv 2)) fe_nil)))) (fs_one (fs_ret fe_bl)) fs_nil)) (fs_one (fs_if (ft_cmp (ne_ok l.b) neC_ok (fe_err (f := "_law_step_right") (q := "_law_step_right.<locals>.<lambda>") (k := 6) l.b e_err.at' sc__law_error rfl (.inl rfl) (fun _ _ _ _ _ _ us hl => match us, hl with | [_], _ => rfl) (fun _ _ => g__law_error e_err.nm (by decide)) b__law_step_right rfl rfl (by decide) (LamX.lamS_by (by show LamX.lamSB (defScope s__law_step_right) _ = true; decide +kernel)) (fun _ _ _ _ _ _ _ _ _ _ ll2 eo2 => (fe_call h_card_behind (fun _ _ h => h) ll2.b ll2.pass eo2 (fe_cons (fe_pv (pv 0)) (fe_cons (fe_pv (pv 2)) fe_nil))))) fe_str) (fs_one (fs_ret fe_bl)) fs_nil)))))
    (fs_one (fs_ret fe_bl)))))
abbrev s__law_walk_right : Stmt := top 42
abbrev N__law_walk_right : List Str := ["_law_cup_here", "_law_card_here", "_law_first", "_law_turn", "_law_some_here"]
theorem sc__law_walk_right : FnScope N__law_walk_right ["_law_cup_here", "_law_card_here"] (defScope s__law_walk_right) := ⟨rfl, rfl, rfl, by decide +kernel, rfl, by decide +kernel, by decide +kernel⟩
theorem d__law_walk_right (F : At K mg "_law_walk_right" s__law_walk_right) (z_range : mg "range" = none) (h__law_possible : DHas P w K mg base T 1 "_law_possible" ["_law_card_here"] (gR m__law_possible)) (h__law_some : DHas P w K mg base T 2 "_law_some" ["_law_cup_here", "_law_things"] (gR m__law_some)) (h__law_step_right : DHas P w K mg base T 9 "_law_step_right" ["_law_card_here"] (gR m__law_step_right)) (h_card_behind : DHas P w K mg base T 6 "card_behind" ["card", "deed"] (gR m_card_behind)) (h_card_events : DHas P w K mg base T 6 "card_events" ["card"] (gR m_card_events)) (h_is_possible : DHas P w K mg base T 4 "is_possible" ["card"] (gR m_is_possible)) : DHas P w K mg base T 10 "_law_walk_right" ["_law_cup_here", "_law_card_here"] (gR m__law_walk_right) :=
  okF (s := (cSeq (cSet 2 (cCall m__law_possible (cCons (cVar 1) cNil)))
    (cSeq (cFor (cRng1 (cC (.int 12))) (tgN 3) (cSeq (cIf (cOrT (cNot (cB (cCall m__law_step_right (cCons (cVar 1) cNil)))) (cB (cOp neC (cCall m_is_possible (cCons (cVar 1) cNil)) (cCall m__law_possible (cCons (cVar 1) cNil))))) (cRet (cC (.bool false))) cNext)
    (cSeq (cIf (cAndT (cB (cVar 2)) (cNot (cB (cCall m__law_possible (cCons (cVar 1) cNil))))) (cRet (cC (.bool false))) cNext)
    (cSeq (cSet 4 (cCall m_card_events (cCons (cVar 1) cNil)))
    (cSeq (cIf (cB (cOp eqC (cVar 4) (cLst cNil))) (cRet (cC (.bool true))) cNext)
    (cSet 1 (cCall m_card_behind (cCons (cVar 1) (cCons (cCall m__law_some (cCons (cVar 0) (cCons (cVar 4) cNil))) cNil)))))))))
    (cRet (cC (.bool true)))))) F sc__law_walk_right (fun _ _ _ _ _ _ us hl => match us, hl with | [_, _], _ => rfl) fun A outer s0 H E c hid er l eo => (fs_cons (fs_set (i := 2) l.b.nd rfl (by first | exact Or.inl rfl | exact Or.inr rfl) (fe_call h__law_possible (fun _ _ h => h) l.b l.pass eo (fe_cons (fe_pv (pv 1)) fe_nil)))
    (fs_cons (fs_for (ow := [3]) l (fi_rng1 z_range fe_int) (fg_name (i := 3) l.b.nd rfl (by first | exact Or.inl rfl | exact Or.inr rfl)) (fs_cons (fs_if (PW.pt (fw_or (ft_not (ft_val (fe_call h__law_step_right (fun _ _ h => h) l.b l.pass eo (fe_cons (fe_pv (pv 1)) fe_nil)))) (pw_or1 (ft_cmp (ne_ok l.b) neC_ok (fe_call h_is_possible (fun _ _ h => h) l.b l.pass eo (fe_cons (fe_pv (pv 1)) fe_nil)) (fe_call h__law_possible (fun _ _ h => h) l.b l.pass eo (fe_cons (fe_pv (pv 1)) fe_nil)))))) (fs_one (fs_ret fe_bl)) fs_nil)
    (fs_cons (fs_if (PW.pt (fw_and (ft_val (fe_pv (pv 2))) (pw_and1 (ft_not (ft_val (fe_call h__law_possible (fun _ _ h => h) l.b l.pass eo (fe_cons (fe_pv (pv 1)) fe_nil))))))) (fs_one (fs_ret fe_bl)) fs_nil)
    (fs_cons (fs_set (i := 4) l.b.nd rfl (by first | exact Or.inl rfl | exact Or.inr rfl) (fe_call h_card_events (fun _ _ h => h) l.b l.pass eo (fe_cons (fe_pv (pv 1)) fe_nil)))
    (fs_cons (fs_if (ft_cmp (eq_ok l.b) eqC_ok (fe_pv (pv 4)) (fe_lst fe_nil)) (fs_one (fs_ret fe_bl)) fs_nil)
    (fs_one (fs_set (i := 1) l.b.nd rfl (by first | exact Or.inl rfl | exact Or.inr rfl) (fe_call h_card_behind (fun _ _ h => h) l.b l.pass eo (fe_cons (fe_pv (pv 1)) (fe_cons (fe_call h__law_some (fun _ _ h => h) l.b l.pass eo (fe_cons (fe_pv (pv 0)) (fe_cons (fe_pv (pv 4)) fe_nil))) fe_nil))))))))))
    (fs_one (fs_ret fe_bl))))
abbrev s__law_near_right : Stmt := top 43
abbrev N__law_near_right : List Str := ["_law_cup_here", "_law_card_here", "_law_at", "_law_odds", "_law_odd", "_law_value", "_law_good", "_law_told"]
theorem sc__law_near_right : FnScope N__law_near_right ["_law_cup_here", "_law_card_here"] (defScope s__law_near_right) := ⟨rfl, rfl, rfl, by decide +kernel, rfl, by decide +kernel, by decide +kernel⟩
theorem d__law_near_right (F : At K mg "_law_near_right" s__law_near_right) (z_bool : mg "bool" = none) (z_int : mg "int" = none) (z_isinstance : mg "isinstance" = none) (z_str : mg "str" = none) (h__law_roll : DHas P w K mg base T 1 "_law_roll" ["_law_cup_here", "_law_many"] (gR m__law_roll)) (h__law_some : DHas P w K mg base T 2 "_law_some" ["_law_cup_here", "_law_things"] (gR m__law_some)) (h_is_card : DHas P w K mg base T 2 "is_card" ["value"] (gR m_is_card)) : DHas P w K mg base T 3 "_law_near_right" ["_law_cup_here", "_law_card_here"] (gR m__law_near_right) :=
  okF (s := (cSeq (cSet 2 (cCall m__law_roll (cCons (cVar 0) (cCons (cC (.int 7)) cNil))))
    (cSeq (cSet 3 (cLst (cCons (cC .none) (cCons (cC (.str "none")) (cCons (cC (.str "sent")) (cCons (cC (.str "done")) (cCons (cC (.bool true)) (cCons (cC (.bool false)) (cCons (cC (.int 0)) (cCons (cC (.int 1)) (cCons (cUn negC (cC (.int 1))) (cCons (cC (.int 12)) (cCons (cC (.int 13)) (cCons (cC (.str "12")) (cCons (cTup cNil) (cCons (cC (.str "light")) (cCons (cC (.str "paired")) cNil)))))))))))))))))
    (cSeq (cSet 4 (cCall m__law_some (cCons (cVar 0) (cCons (cVar 3) cNil))))
    (cSeq (cSet 5 (cOp addC (cOp addC (cSl (cVar 1) cNoPart (cPart (cVar 2))) (cTup (cCons (cVar 4) cNil))) (cSl (cVar 1) (cPart (cOp addC (cVar 2) (cC (.int 1)))) cNoPart)))
    (cSeq (cIf (cB (cOp ltC (cVar 2) (cC (.int 2)))) (cSet 6 (cAnd (cFun isiC (cCons (cVar 4) (cCons (cTy "str") cNil))) (cOp isinC (cVar 4) (cOp ixC (cTup (cCons (cTup (cCons (cC (.str "marked")) (cCons (cC (.str "paired")) cNil))) (cCons (cTup (cCons (cC (.str "none")) (cCons (cC (.str "sent")) (cCons (cC (.str "let")) cNil)))) cNil))) (cVar 2))))) (cIf (cB (cOp eqC (cVar 2) (cC (.int 2)))) (cSet 6 (cFun isiC (cCons (cVar 4) (cCons (cTy "bool") cNil)))) (cSet 6 (cAnd (cFun isiC (cCons (cVar 4) (cCons (cTy "int") cNil))) (cAnd (cNotE (cFun isiC (cCons (cVar 4) (cCons (cTy "bool") cNil)))) (cChain leC leC (cC (.int 0)) (cVar 4) (cC (.int 12))))))))
    (cSeq (cSet 7 (cCall m_is_card (cCons (cVar 5) cNil)))
    (cRet (cAnd (cFun isiC (cCons (cVar 7) (cCons (cTy "bool") cNil))) (cOp eqC (cVar 7) (cVar 6))))))))))) F sc__law_near_right (fun _ _ _ _ _ _ us hl => match us, hl with | [_, _], _ => rfl) fun A outer s0 H E c hid er l eo => (fs_cons (fs_set (i := 2) l.b.nd rfl (by first | exact Or.inl rfl | exact Or.inr rfl) (fe_call h__law_roll (fun _ _ h => h) l.b l.pass eo (fe_cons (fe_pv (pv 0)) (fe_cons fe_int fe_nil))))
    (fs_cons (fs_set (i := 3) l.b.nd rfl (by first | exact Or.inl rfl | exact Or.inr rfl) (fe_lst (fe_cons fe_non (fe_cons fe_str (fe_cons fe_str (fe_cons fe_str (fe_cons fe_bl (fe_cons fe_bl (fe_cons fe_int (fe_cons fe_int (fe_cons (fe_un neg_ok negC_ok fe_int) (fe_cons fe_int (fe_cons fe_int (fe_cons fe_str (fe_cons (fe_tup fe_nil) (fe_cons fe_str (fe_cons fe_str fe_nil)))))))))))))))))
    (fs_cons (fs_set (i := 4) l.b.nd rfl (by first | exact Or.inl rfl | exact Or.inr rfl) (fe_call h__law_some (fun _ _ h => h) l.b l.pass eo (fe_cons (fe_pv (pv 0)) (fe_cons (fe_pv (pv 3)) fe_nil))))
    (fs_cons (fs_set (i := 5) l.b.nd rfl (by first | exact Or.inl rfl | exact Or.inr rfl) (fe_op (add_ok l.b) addC_ok (fe_op (add_ok l.b) addC_ok (fe_slice l.b (fe_pv (pv 1)) fo_none (fo_some (fe_pv (pv 2)))) (fe_tup (fe_cons (fe_pv (pv 4)) fe_nil))) (fe_slice l.b (fe_pv (pv 1)) (fo_some (fe_op (add_ok l.b) addC_ok (fe_pv (pv 2)) fe_int)) fo_none)))
    (fs_cons (fs_if (ft_cmp lt_ok cmpC_ok (fe_pv (pv 2)) fe_int) (fs_one (fs_set (i := 6) l.b.nd rfl (by first | exact Or.inl rfl | exact Or.inr rfl) (fe_and (fe_callB (isi_ok l.b) isiC_ok boot_isinstance z_isinstance (fe_cons (fe_pv (pv 4)) (fe_cons (fe_ty (n := "str") z_str (by decide +kernel)) fe_nil))) (pe_one (fe_cmp (in_ok l.b) inC_ok (fe_pv (pv 4)) (fe_ix l.b ixC_ok (fe_tup (fe_cons (fe_tup (fe_cons fe_str (fe_cons fe_str fe_nil))) (fe_cons (fe_tup (fe_cons fe_str (fe_cons fe_str (fe_cons fe_str fe_nil)))) fe_nil))) (fe_pv (pv 2)))))))) (fs_one (fs_if (ft_cmp (eq_ok l.b) eqC_ok (fe_pv (pv 2)) fe_int) (fs_one (fs_set (i := 6) l.b.nd rfl (by first | exact Or.inl rfl | exact Or.inr rfl) (fe_callB (isi_ok l.b) isiC_ok boot_isinstance z_isinstance (fe_cons (fe_pv (pv 4)) (fe_cons (fe_ty (n := "bool") z_bool (by decide +kernel)) fe_nil))))) (fs_one (fs_set (i := 6) l.b.nd rfl (by first | exact Or.inl rfl | exact Or.inr rfl) (fe_and (fe_callB (isi_ok l.b) isiC_ok boot_isinstance z_isinstance (fe_cons (fe_pv (pv 4)) (fe_cons (fe_ty (n := "int") z_int (by decide +kernel)) fe_nil))) (fe_and (fe_not (fe_callB (isi_ok l.b) isiC_ok boot_isinstance z_isinstance (fe_cons (fe_pv (pv 4)) (fe_cons (fe_ty (n := "bool") z_bool (by decide +kernel)) fe_nil)))) (pe_one (fe_chain le_ok cmpC_ok le_ok cmpC_ok fe_int (fe_pv (pv 4)) fe_int)))))))))
    (fs_cons (fs_set (i := 7) l.b.nd rfl (by first | exact Or.inl rfl | exact Or.inr rfl) (fe_call h_is_card (fun _ _ h => h) l.b l.pass eo (fe_cons (fe_pv (pv 5)) fe_nil)))
    (fs_one (fs_ret (fe_and (fe_callB (isi_ok l.b) isiC_ok boot_isinstance z_isinstance (fe_cons (fe_pv (pv 7)) (fe_cons (fe_ty (n := "bool") z_bool (by decide +kernel)) fe_nil))) (pe_one (fe_cmp (eq_ok l.b) eqC_ok (fe_pv (pv 7)) (fe_pv (pv 6)))))))))))))
end
end Fl

set_option Elab.async false
set_option linter.all false
set_option maxRecDepth 100000
set_option maxHeartbeats 4000000
namespace Fl
open PySem PySem.Spec PyProof.Rows L2 Dl R
def spLaw (K : PySem.W.Frag) (T : Tbs) : Sp := fun vs H Q _ => ∃ (a : Addr) (ns : List Int), vs = [.ref a] ∧ SqL K H a (ns.map V.int) ∧ ns.length ≤ 63 ∧ LamX.Tabs T H ∧ ∀ H', Q (.bl true) H'
section
variable {P : Program} {w : World} {K : PySem.W.Frag} {mg : Str → Option Value} {base : Heap} {T : Tbs}
abbrev s_law : Stmt := top 44
abbrev N_law : List Str := ["_law_script", "_law_cup_here", "_law_empty", "_law_turn", "_law_odds", "_law_odd", "_law_calls", "_law_call", "_law_p", "_law_due", "_law_full"]
theorem sc_law : FnScope N_law ["_law_script"] (defScope s_law) := ⟨rfl, rfl, rfl, by decide +kernel, rfl, by decide +kernel, by decide +kernel⟩
theorem has_law (F : Bk.At K mg "law" s_law) (hb : ∀ (q : Out → Prop) (er : Str → Prop), q (.rt (.d (.bool true))) → wp (c_law [none, some .cup, none, none, none, none, none, none, none, none, none]) q er) (HC : Has P w K mg base CX0 1 "_law_cup" ["_law_script"] (Bk.spCup K T))
    (z_range : mg "range" = none) (h__law_card : DHas P w K mg base T 3 "_law_card" ["_law_cup_here"] (gR m__law_card)) (h__law_near_right : DHas P w K mg base T 3 "_law_near_right" ["_law_cup_here", "_law_card_here"] (gR m__law_near_right)) (h__law_some : DHas P w K mg base T 2 "_law_some" ["_law_cup_here", "_law_things"] (gR m__law_some)) (h__law_walk_right : DHas P w K mg base T 10 "_law_walk_right" ["_law_cup_here", "_law_card_here"] (gR m__law_walk_right)) (h_card_behind : DHas P w K mg base T 6 "card_behind" ["card", "deed"] (gR m_card_behind)) (h_card_events : DHas P w K mg base T 6 "card_events" ["card"] (gR m_card_events)) (h_is_card : DHas P w K mg base T 2 "is_card" ["value"] (gR m_is_card)) (h_is_possible : DHas P w K mg base T 4 "is_possible" ["card"] (gR m_is_possible)) (b_law : TbQ K mg base T "law" "law.<locals>.<lambda>") (e_err : ErrD P w K mg base T 1 "_law_error" "_law_name" "_law_e" s__law_error tabE) :
    Bk.Has P w K mg base CX0 11 "law" ["_law_script"] (spLaw K T) := by
  refine F.ok0 sc_law (fun _ _ _ _ _ _ us hl => match us, hl with | [_], _ => rfl) (fun vs H Q E h => ?_) fun A outer s H vs Q E hr h => ?_
  · obtain ⟨a, ns, rfl, _⟩ := h
    rfl
  obtain ⟨a, ns, rfl, hS, hl, tb, q⟩ := h
  refine ⟨_, pss_cons (ps_set (i := 1) sc_law.nd rfl (by first | exact Or.inl rfl | exact Or.inr rfl) (Bk.Has.call HC (hr.mono (by decide)) pass0 (pa_cons (pv 0) pa_nil)))
    (dsx (K := K) (T := T) fun c hid0 H0 => have l := lv_nox (K := K) (T := T) (c := c) (hid0 := hid0) (H0 := H0) sc_law.nd hr; have eo : EOk ⟨K, T, c, hid0, H0⟩ (fun _ => False) (fun _ _ _ => False) := EOk.never; show PSs _ _ (tS _ (upS (fun _ => False) c_law)) from (fs_cons (fs_set (i := 2) l.b.nd rfl (by first | exact Or.inl rfl | exact Or.inr rfl) (fe_tup (fe_cons (fe_call h__law_some (fun _ _ h => h) l.b l.pass eo (fe_cons (fe_pv (pv 1)) (fe_cons (fe_lst (fe_cons fe_str (fe_cons fe_str fe_nil))) fe_nil))) (fe_cons fe_str (fe_cons fe_bl (fe_cons fe_int (fe_cons fe_int (fe_cons fe_int (fe_cons fe_int fe_nil)))))))))
    (fs_cons (fs_if (PW.pt (fw_or (ft_not (ft_val (fe_call h__law_walk_right (fun _ _ h => h) l.b l.pass eo (fe_cons (fe_pv (pv 1)) (fe_cons (fe_pv (pv 2)) fe_nil))))) (pw_or1 (ft_not (ft_val (fe_call h__law_walk_right (fun _ _ h => h) l.b l.pass eo (fe_cons (fe_pv (pv 1)) (fe_cons (fe_call h__law_card (fun _ _ h => h) l.b l.pass eo (fe_cons (fe_pv (pv 1)) fe_nil)) fe_nil)))))))) (fs_one (fs_ret fe_bl)) fs_nil)
    (fs_cons (fs_for (ow := [3]) l (fi_rng1 z_range fe_int) (fg_name (i := 3) l.b.nd rfl (by first | exact Or.inl rfl | exact Or.inr rfl)) (fs_one (fs_if (ft_not (ft_val (fe_call h__law_near_right (fun _ _ h => h) l.b l.pass eo (fe_cons (fe_pv (pv 1)) (fe_cons (fe_call h__law_card (fun _ _ h => h) l.b l.pass eo (fe_cons (fe_pv (pv 1)) fe_nil)) fe_nil))))) (fs_one (fs_ret fe_bl)) fs_nil)))
    (fs_cons (fs_set (i := 4) l.b.nd rfl (by first | exact Or.inl rfl | exact Or.inr rfl) (fe_lst (fe_cons fe_non (fe_cons (fe_tup fe_nil) (fe_cons (fe_tup (fe_cons fe_str fe_nil)) (fe_cons (fe_op (mul2_ok l.b) mulC2_ok (fe_lst (fe_cons fe_str fe_nil)) fe_int) (fe_cons (fe_tup (fe_cons fe_str (fe_cons fe_str (fe_cons fe_bl (fe_cons fe_int (fe_cons fe_int (fe_cons fe_int fe_nil))))))) fe_nil)))))))
    (fs_cons (fs_for (ow := [5]) l (fi_seq l.b (fe_op (add_ok l.b) addC_ok (fe_pv (pv 4)) (fe_lst (fe_cons (fe_tup (fe_cons fe_str (fe_cons fe_str (fe_cons fe_int (fe_cons fe_int (fe_cons fe_int (fe_cons fe_int (fe_cons fe_int fe_nil)))))))) fe_nil)))) (fg_name (i := 5) l.b.nd rfl (by first | exact Or.inl rfl | exact Or.inr rfl)) (fs_fns3O (k := 6) (iy := 6) rfl (ps_fns0 (f := "law") (q := "law.<locals>.<lambda>") l.b.nd rfl (by first | exact Or.inl rfl | exact Or.inr rfl) (LamK.mk (LamX.lamS_by (by show LamX.lamSB (defScope s_law) _ = true; decide +kernel)) rfl (by intro _ _ _ _ _; rfl) (fun _ _ _ _ _ _ _ _ _ _ ll1 eo1 => (fe_call h_is_possible (fun _ _ h => h) ll1.b ll1.pass eo1 (fe_cons (fe_pv (pv 5)) fe_nil)))) b_law rfl rfl)
    (ps_fns1 (f := "law") (q := "law.<locals>.<lambda>") (by decide) (pv 6) (LamK.mk (LamX.lamS_by (by show LamX.lamSB (defScope s_law) _ = true; decide +kernel)) rfl (by intro _ _ _ _ _; rfl) (fun _ _ _ _ _ _ _ _ _ _ ll2 eo2 => (fe_call h_card_events (fun _ _ h => h) ll2.b ll2.pass eo2 (fe_cons (fe_pv (pv 5)) fe_nil)))) b_law rfl rfl)
    (ps_fns1 (f := "law") (q := "law.<locals>.<lambda>") (by decide) (pv 6) (LamK.mk (LamX.lamS_by (by show LamX.lamSB (defScope s_law) _ = true; decide +kernel)) rfl (by intro _ _ _ _ _; rfl) (fun _ _ _ _ _ _ _ _ _ _ ll3 eo3 => (fe_call h_card_behind (fun _ _ h => h) ll3.b ll3.pass eo3 (fe_cons (fe_pv (pv 5)) (fe_cons fe_non fe_nil))))) b_law rfl rfl)
    (ps_fnsIfO l.b (ft_cmp isNot_ok isC_ok (fe_call h_is_card (fun _ _ h => h) l.b l.pass eo (fe_cons (fe_pv (pv 5)) fe_nil)) fe_bl) (fe_lcV (own := [("_law_call", 7)]) (i := 7) (iy := 6) l.b e_err.at' sc__law_error rfl (.inl rfl) (fun _ _ _ _ _ _ us hl => match us, hl with | [_], _ => rfl) (fun _ _ _ _ _ _ => g__law_error e_err.nm (by decide)) (by decide) rfl rfl (by first | exact Or.inl rfl | exact Or.inr (Or.inl rfl)) (by decide) (blk_by (by show BlkD N_law (defScope s_law) _ [("_law_call", 7)]; decide +kernel)) (fun _ _ _ _ _ => rfl) (fun _ _ _ _ _ => Or.inl rfl) (fun _ _ _ _ _ => Or.inr rfl) (fun _ _ _ _ _ => Or.inl rfl)) (fe_op (mul2_ok l.b) mulC2_ok (fe_lst (fe_cons fe_str fe_nil)) fe_int) (fs_one (fs_ret fe_bl)) fs_nil)
    fs_nil))
    (fs_cons (fs_set (i := 8) l.b.nd rfl (by first | exact Or.inl rfl | exact Or.inr rfl) (fe_tup (fe_cons fe_str (fe_cons fe_str (fe_cons fe_bl (fe_cons fe_int (fe_cons fe_int (fe_cons fe_int (fe_cons fe_int fe_nil)))))))))
    (fs_cons (fs_if (ft_cmp (ne_ok l.b) neC_ok (fe_call h_card_events (fun _ _ h => h) l.b l.pass eo (fe_cons (fe_pv (pv 8)) fe_nil)) (fe_lst (fe_cons (fe_tup (fe_cons fe_str fe_nil)) (fe_cons (fe_tup (fe_cons fe_str (fe_cons fe_str fe_nil))) (fe_cons (fe_tup (fe_cons fe_str (fe_cons fe_str fe_nil))) (fe_cons (fe_tup (fe_cons fe_str (fe_cons fe_str fe_nil))) fe_nil)))))) (fs_one (fs_ret fe_bl)) fs_nil)
    (fs_cons (fs_if (ft_cmp (ne_ok l.b) neC_ok (fe_call h_card_behind (fun _ _ h => h) l.b l.pass eo (fe_cons (fe_pv (pv 8)) (fe_cons (fe_tup (fe_cons fe_str (fe_cons fe_str fe_nil))) fe_nil))) (fe_tup (fe_cons fe_str (fe_cons fe_str (fe_cons fe_bl (fe_cons fe_int (fe_cons fe_int (fe_cons fe_int (fe_cons fe_int fe_nil))))))))) (fs_one (fs_ret fe_bl)) fs_nil)
    (fs_cons (fs_if (ft_cmp (ne_ok l.b) neC_ok (fe_call h_card_behind (fun _ _ h => h) l.b l.pass eo (fe_cons (fe_pv (pv 8)) (fe_cons (fe_tup (fe_cons fe_str fe_nil)) fe_nil))) (fe_tup (fe_cons fe_str (fe_cons fe_str (fe_cons fe_bl (fe_cons fe_int (fe_cons fe_int (fe_cons fe_int (fe_cons fe_int fe_nil))))))))) (fs_one (fs_ret fe_bl)) fs_nil)
    (fs_cons (fs_if (ft_cmp (ne_ok l.b) neC_ok (fe_call h_card_behind (fun _ _ h => h) l.b l.pass eo (fe_cons (fe_tup (fe_cons fe_str (fe_cons fe_str (fe_cons fe_bl (fe_cons fe_int (fe_cons fe_int (fe_cons fe_int (fe_cons fe_int fe_nil)))))))) (fe_cons (fe_tup (fe_cons fe_str (fe_cons fe_str fe_nil))) fe_nil))) (fe_tup (fe_cons fe_str (fe_cons fe_str (fe_cons fe_bl (fe_cons fe_int (fe_cons fe_int (fe_cons fe_int (fe_cons fe_int fe_nil))))))))) (fs_one (fs_ret fe_bl)) fs_nil)
    (fs_cons (fs_set (i := 9) l.b.nd rfl (by first | exact Or.inl rfl | exact Or.inr rfl) (fe_tup (fe_cons fe_str (fe_cons fe_str (fe_cons fe_bl (fe_cons fe_int (fe_cons fe_int (fe_cons fe_int (fe_cons fe_int fe_nil)))))))))
    (fs_cons (fs_if (ft_cmp (ne_ok l.b) neC_ok (fe_call h_card_behind (fun _ _ h => h) l.b l.pass eo (fe_cons (fe_tup (fe_cons fe_str (fe_cons fe_str (fe_cons fe_bl (fe_cons fe_int (fe_cons fe_int (fe_cons fe_int (fe_cons fe_int fe_nil)))))))) (fe_cons (fe_tup (fe_cons fe_str (fe_cons fe_str fe_nil))) fe_nil))) (fe_pv (pv 9))) (fs_one (fs_ret fe_bl)) fs_nil)
    (fs_cons (fs_if (ft_cmp (ne_ok l.b) neC_ok (fe_call h_card_behind (fun _ _ h => h) l.b l.pass eo (fe_cons (fe_tup (fe_cons fe_str (fe_cons fe_str (fe_cons fe_bl (fe_cons fe_int (fe_cons fe_int (fe_cons fe_int (fe_cons fe_int fe_nil)))))))) (fe_cons (fe_tup (fe_cons fe_str (fe_cons fe_str fe_nil))) fe_nil))) (fe_tup (fe_cons fe_str (fe_cons fe_str (fe_cons fe_bl (fe_cons fe_int (fe_cons fe_int (fe_cons fe_int (fe_cons fe_int fe_nil))))))))) (fs_one (fs_ret fe_bl)) fs_nil)
    (fs_cons (fs_if (ft_cmp (ne_ok l.b) neC_ok (fe_call h_card_behind (fun _ _ h => h) l.b l.pass eo (fe_cons (fe_tup (fe_cons fe_str (fe_cons fe_str (fe_cons fe_bl (fe_cons fe_int (fe_cons fe_int (fe_cons fe_int (fe_cons fe_int fe_nil)))))))) (fe_cons (fe_tup (fe_cons fe_str (fe_cons fe_str fe_nil))) fe_nil))) (fe_tup (fe_cons fe_str (fe_cons fe_str (fe_cons fe_bl (fe_cons fe_int (fe_cons fe_int (fe_cons fe_int (fe_cons fe_int fe_nil))))))))) (fs_one (fs_ret fe_bl)) fs_nil)
    (fs_cons (fs_if (ft_cmp (ne_ok l.b) neC_ok (fe_call h_card_behind (fun _ _ h => h) l.b l.pass eo (fe_cons (fe_tup (fe_cons fe_str (fe_cons fe_str (fe_cons fe_bl (fe_cons fe_int (fe_cons fe_int (fe_cons fe_int (fe_cons fe_int fe_nil)))))))) (fe_cons (fe_tup (fe_cons fe_str fe_nil)) fe_nil))) (fe_tup (fe_cons fe_str (fe_cons fe_str (fe_cons fe_bl (fe_cons fe_int (fe_cons fe_int (fe_cons fe_int (fe_cons fe_int fe_nil))))))))) (fs_one (fs_ret fe_bl)) fs_nil)
    (fs_cons (fs_set (i := 4) l.b.nd rfl (by first | exact Or.inl rfl | exact Or.inr rfl) (fe_lst (fe_cons fe_non (fe_cons (fe_tup (fe_cons fe_str fe_nil)) (fe_cons (fe_tup (fe_cons fe_str fe_nil)) (fe_cons (fe_tup (fe_cons fe_str (fe_cons fe_str fe_nil))) (fe_cons (fe_lst (fe_cons fe_str fe_nil)) (fe_cons (fe_tup (fe_cons fe_str (fe_cons fe_str fe_nil))) (fe_cons (fe_tup fe_nil) fe_nil)))))))))
    (fs_cons (fs_for (ow := [5]) l (fi_seq l.b (fe_op (add_ok l.b) addC_ok (fe_pv (pv 4)) (fe_lst (fe_cons (fe_tup (fe_cons fe_str (fe_cons fe_str fe_nil))) fe_nil)))) (fg_name (i := 5) l.b.nd rfl (by first | exact Or.inl rfl | exact Or.inr rfl)) (fs_one (fs_if (ft_cmp (ne_ok l.b) neC_ok (fe_err (f := "law") (q := "law.<locals>.<lambda>") (k := 6) l.b e_err.at' sc__law_error rfl (.inl rfl) (fun _ _ _ _ _ _ us hl => match us, hl with | [_], _ => rfl) (fun _ _ => g__law_error e_err.nm (by decide)) b_law rfl rfl (by decide) (LamX.lamS_by (by show LamX.lamSB (defScope s_law) _ = true; decide +kernel)) (fun _ _ _ _ _ _ _ _ _ _ ll4 eo4 => (fe_call h_card_behind (fun _ _ h => h) ll4.b ll4.pass eo4 (fe_cons (fe_pv (pv 8)) (fe_cons (fe_pv (pv 5)) fe_nil))))) fe_str) (fs_one (fs_ret fe_bl)) fs_nil)))
    (fs_cons (fs_set (i := 10) l.b.nd rfl (by first | exact Or.inl rfl | exact Or.inr rfl) (fe_tup (fe_cons fe_str (fe_cons fe_str (fe_cons fe_bl (fe_cons fe_int (fe_cons fe_int (fe_cons fe_int (fe_cons fe_int fe_nil)))))))))
    (fs_one (fs_ret (fe_cmp (eq_ok l.b) eqC_ok (fe_call h_card_events (fun _ _ h => h) l.b l.pass eo (fe_cons (fe_pv (pv 10)) fe_nil)) (fe_lst (fe_cons (fe_tup (fe_cons fe_str (fe_cons fe_str fe_nil))) (fe_cons (fe_tup (fe_cons fe_str (fe_cons fe_str fe_nil))) (fe_cons (fe_tup (fe_cons fe_str (fe_cons fe_str fe_nil))) fe_nil)))))))))))))))))))))))))), ?_⟩
  refine ⟨_, rfl, a, ns, rfl, hS, hl, tb, fun p H1 g1 cup => ?_⟩
  refine ⟨some p, [p], H1, [p], [none, some .cup, none, none, none, none, none, none, none, none, none], { nx := fun _ => False, rt := fun x => x = .d (.bool true) }, start_ok g1.tabs cup rfl ?_, ?_, ends_law q⟩
  · intro i x e
    match i, e with
    | 1, e => cases e; exact ⟨_, rfl, ⟨p, rfl, rfl⟩, trivial⟩
    | 0, e => cases e
    | 2, e => cases e
    | 3, e => cases e
    | 4, e => cases e
    | 5, e => cases e
    | 6, e => cases e
    | 7, e => cases e
    | 8, e => cases e
    | 9, e => cases e
    | 10, e => cases e
    | _ + 11, e => cases e
  · exact hb _ _ rfl
end
end Fl

set_option Elab.async false
set_option linter.all false
set_option maxRecDepth 100000
set_option maxHeartbeats 400000
namespace Fl
open PySem PySem.Spec PyProof.Rows L2 Dl R
theorem tab_in {cl z : Str} (h : tabE cl = some z) : cl ∈ clsL := by
  have h1 := tabOf_mem h
  revert h1
  show (cl, z) ∈ tabL → _
  intro h1
  have h2 : cl ∈ tabL.map (·.1) := List.mem_map_of_mem (f := fun e : Str × Str => e.1) h1
  exact h2
def wordsE : List Str := ["card", "sizes", "events", "names", "side", "world", "cannot"]
theorem sp0 : Txt.split ("card sizes events names side world cannot" : String) (" " : String) = wordsE := by decide +kernel
theorem sp1 : splitC ("card sizes events names side world cannot" : String) (.d (.str (" " : String))) = ok (.d (.list (wordsE.map .str))) := by
  unfold splitC strR
  rw [bind_ok, sp0, show (decide ((" " : Str).length ≠ 0 ∧ ("card sizes events names side world cannot" : Str).length ≤ 1000000) && wordsE.all PyData.strOk) = true by decide +kernel]
  rfl
theorem isE0 {a : Addr} {b : Bool} {r : Rho} : cIsE 0 a b (some (.ex a) :: r) = ok (.d (.bool b)) := isE_ok rfl
theorem name_of {cl z : Str} (h : (cl, z) ∈ tabL) (a : Addr) : m__law_name a cl = ok (.d (.str z)) := by
  unfold tabL at h
  simp only [List.mem_cons, List.not_mem_nil, or_false, Prod.mk.injEq] at h
  rcases h with ⟨rfl, rfl⟩ | ⟨rfl, rfl⟩
  all_goals
    unfold m__law_name ms__law_name body
    simp -implicitDefEqProofs only [List.map_cons, List.map_nil, List.cons_append, List.nil_append, List.replicate, cSeq, cSet, cLst, cCons, cNil, bind_ok, isE0, List.set_cons_succ, List.set_cons_zero, cOp, cVar, List.getElem?_cons_zero, List.getElem?_cons_succ, dsR, datas, chk, iff, notOwnB, List.length_cons, List.length_nil, Nat.zero_add, beq_self_eq_true, addHC, Nat.reduceAdd, Nat.reduceLeDiff, decide_true, cLc, cZipH, c_split, cM1, cC, strR, sp1, c_join, cRet]
    kernel_rfl
theorem name_ok {a : Addr} {cl z : Str} (h : tabE cl = some z) : m__law_name a cl = ok (.d (.str z)) := name_of (tabOf_mem h) a
end Fl

set_option Elab.async false
set_option linter.all false
set_option maxRecDepth 100000
set_option maxHeartbeats 4000000
/-! a head's facts over a given list of addresses, the run's equation in parts -/
namespace Hz
open PySem PySem.Spec PyProof.Rows L2
def obsZ (as : List Addr) (fa : List He.Fa) (fn : List He.DefD) (ts : List He.Tab) (tf : List He.Defn) (ex : PySem.W.Frag → Bool) (g : Addr → Option Obj) : He.AlX := (He.obsT fa fn ts (He.frT g as), ex (He.frT g as) && He.tabsB g tf (He.frT g as))
theorem saysZ_of {as : List Addr} {fa : List He.Fa} {fn : List He.DefD} {ts : List He.Tab} {tf : List He.Defn} {ex : PySem.W.Frag → Bool} {w : World} {h : Heap} (e : obsZ as fa fn ts tf ex h.get? = He.valX fn ts w) : He.SaysX fa fn ts tf ex w h (He.frT h.get? as) := by
  have e1 : He.obsT fa fn ts (He.frT h.get? as) = He.valT fn ts w := congrArg (fun z : He.AlX => z.1) e
  have e2 : (ex (He.frT h.get? as) && He.tabsB h.get? tf (He.frT h.get? as)) = true := congrArg (fun z : He.AlX => z.2) e
  obtain ⟨h1, h2⟩ := He.ba e2
  have key : ∀ p ∈ tf, PySem.W.codeHdIn (He.frT h.get? as) (He.cT (He.frT h.get? as) p).1 (He.cT (He.frT h.get? as) p).2 = true ∧ ∃ o, h.get? (He.cT (He.frT h.get? as) p).2 = some o ∧ He.emptyTab o = true := fun p hp => by
    obtain ⟨h3, h4⟩ := He.ba (List.all_eq_true.mp h2 p hp)
    refine ⟨h3, ?_⟩
    cases q : h.get? (He.cT (He.frT h.get? as) p).2 with
    | none =>
      rw [q] at h4
      cases h4
    | some o =>
      rw [q] at h4
      exact ⟨o, rfl, h4⟩
  exact ⟨e1, h1, fun p hp => (key p hp).1, fun p hp => by
    obtain ⟨_, o, q, z⟩ := key p hp
    exact He.frT_none q z, fun p hp => by
    obtain ⟨_, o, q, z⟩ := key p hp
    rw [q, He.emptyTab_eq z]⟩
def hookZ (as : List Addr) (fa : List He.Fa) (fn : List He.DefD) (ts : List He.Tab) (tf : List He.Defn) (ex : PySem.W.Frag → Bool) : PySem.W.Hook where
  α := He.AlX
  obs := fun s => obsZ as fa fn ts tf ex s.heap.get?
  val := fun w => He.valX fn ts w
  says := fun w h => ∃ K : PySem.W.Frag, K.In h ∧ He.SaysX fa fn ts tf ex w h K
  of := fun _ _ e => ⟨_, He.frT_in, saysZ_of e⟩
  keeps := fun _ _ _ ⟨K, hK, c⟩ k => ⟨K, PySem.W.Frag.In.keeps hK k, ⟨c.t, c.more, c.hd, c.out, fun p hp => k _ _ (c.empty p hp)⟩⟩
theorem obsZ_eq {as : List Addr} {fa : List He.Fa} {fn : List He.DefD} {ts : List He.Tab} {tf : List He.Defn} {ex : PySem.W.Frag → Bool} {g : Addr → Option Obj} {s : Shared} (h : ∀ a, g a = s.heap.get? a) : obsZ as fa fn ts tf ex g = (hookZ as fa fn ts tf ex).obs s := by
  have e : g = s.heap.get? := funext h
  rw [e] <;> rfl
/-! ### in parts -/
section
variable {α β : Type} {e : Option PySem.W.SharedT}
theorem map2 {f : PySem.W.SharedT → α} {g : PySem.W.SharedT → β} {a : α} {b : β} (h1 : e.map f = some a) (h2 : e.map g = some b) : e.map (fun s => (f s, g s)) = some (a, b) := by
  cases e with
  | none => cases h1
  | some s =>
    have e1 : f s = a := Option.some.inj h1
    have e2 : g s = b := Option.some.inj h2
    rw [← e1, ← e2]
    rfl
/-- facts, defs in two parts -/
theorem obsZ_two {as : List Addr} {fa fa' : List He.Fa} {fn fn' : List He.DefD} {ts ts' : List He.Tab} {tf tf' : List He.Defn} {ex ex' : PySem.W.Frag → Bool} {g : Addr → Option Obj} {w : World}
    (h1 : obsZ as fa fn ts tf ex g = He.valX fn ts w) (h2 : obsZ as fa' fn' ts' tf' ex' g = He.valX fn' ts' w) : obsZ as (fa ++ fa') (fn ++ fn') (ts ++ ts') (tf ++ tf') (fun K => ex K && ex' K) g = He.valX (fn ++ fn') (ts ++ ts') w := by
  unfold obsZ He.valX He.obsT He.valT He.obsD He.valD at h1 h2 ⊢
  generalize He.frT g as = K at h1 h2 ⊢
  simp only [Prod.mk.injEq] at h1 h2
  obtain ⟨⟨⟨a1, a2⟩, a3⟩, a4⟩ := h1
  obtain ⟨⟨⟨b1, b2⟩, b3⟩, b4⟩ := h2
  obtain ⟨a5, a6⟩ := He.ba a1
  obtain ⟨b5, b6⟩ := He.ba b1
  obtain ⟨a7, a8⟩ := He.ba a4
  obtain ⟨b7, b8⟩ := He.ba b4
  have t1 : He.tabsB g (tf ++ tf') K = true := by
    unfold He.tabsB at a8 b8 ⊢
    rw [List.all_append, a8, b8]
    rfl
  rw [List.all_append, List.all_append, List.map_append, List.map_append, List.map_append, List.map_append, a5, a6, b5, b6, a2, a3, b2, b3, t1]
  show (_, (ex K && ex' K) && true) = _
  rw [a7, b7]
  rfl
theorem map_of {f g : PySem.W.SharedT → α} {a b : α} {f' : PySem.W.SharedT → β} {b' : β} (h1 : e.map f = some a) (h2 : e.map f' = some b') (k : ∀ s, f s = a → f' s = b' → g s = b) : e.map g = some b := by
  cases e with
  | none => cases h1
  | some s => exact congrArg some (k s (Option.some.inj h1) (Option.some.inj h2))
end
/-- behind the top, as the run tells -/
noncomputable abbrev endW (r : PySem.W.OpenRow) (M : Nat) (w : World) (os : OsState) : Option PySem.W.SharedT := HandSHeadRun.endF (HandSHeadRun.stepQ (HandSHeadRun.denQ HandSHeadRun.tabQ) r.prog w) M r.prog w os
def LooksAt (r : PySem.W.OpenRow) (M : Nat) (w : World) : Prop := ∀ os : OsState, (endW r M w os).map (fun s => HandSHeadRun.looksF r.prog (PySem.W.boot_heap w.params) s.abs) = some true
def SeenAt (r : PySem.W.OpenRow) (q : Program) (M : Nat) (loose : List Str) (w : World) : Prop := ∀ os : OsState, (endW r M w os).map (fun s => HandSHeadRun.seenQ q loose (importedModules r.prog.main.body) (fun s => PySem.W.xlAt q [] s && PySem.W.recOk r.toRowW.records s) s.abs) = some (PySem.W.openGood q loose)
def ObAt (r : PySem.W.OpenRow) (as : List Addr) (fa : List He.Fa) (fn : List He.DefD) (ts : List He.Tab) (tf : List He.Defn) (ex : PySem.W.Frag → Bool) (M : Nat) (w : World) : Prop := ∀ os : OsState, (endW r M w os).map (fun s => obsZ as fa fn ts tf ex (HandSHeadRun.getT s)) = some (He.valX fn ts w)
theorem ObAt.two {r : PySem.W.OpenRow} {as : List Addr} {fa fa' : List He.Fa} {fn fn' : List He.DefD} {ts ts' : List He.Tab} {tf tf' : List He.Defn} {ex ex' : PySem.W.Frag → Bool} {M : Nat} {w : World} (h1 : ObAt r as fa fn ts tf ex M w) (h2 : ObAt r as fa' fn' ts' tf' ex' M w) :
    ObAt r as (fa ++ fa') (fn ++ fn') (ts ++ ts') (tf ++ tf') (fun K => ex K && ex' K) M w := fun os => map_of (h1 os) (h2 os) fun s a b => obsZ_two a b
theorem run_of {r : PySem.W.OpenRow} {q : Program} {as : List Addr} {fa : List He.Fa} {fn : List He.DefD} {ts : List He.Tab} {tf : List He.Defn} {ex : PySem.W.Frag → Bool} {M : Nat} {loose : List Str} {w : World} (h1 : LooksAt r M w) (h2 : SeenAt r q M loose w) (h3 : ObAt r as fa fn ts tf ex M w) :
    HandSHeadRun.RunEq r q (hookZ as fa fn ts tf ex) (fun s => obsZ as fa fn ts tf ex (HandSHeadRun.getT s)) M loose w := fun os => map2 (h1 os) (map2 (h2 os) (h3 os))
end Hz

set_option Elab.async false
set_option linter.all false
set_option maxRecDepth 100000
set_option maxHeartbeats 4000000
/-! the tables of the defs that hold a generator or a lambda, as a head tells them -/
namespace Fl
open PySem PySem.Spec PyProof.Rows L2 Dl R
def tblA (K : PySem.W.Frag) (x : Str) : Addr := (He.cT K (x, none)).2
def tblT (tN : List (Str × Str)) (K : PySem.W.Frag) : Tbs := tN.map fun p => (tblA K p.1, p.2)
def tblF (tN : List (Str × Str)) : List He.Defn := tN.map fun p => (p.1, none)
def tblB (tN : List (Str × Str)) (K : PySem.W.Frag) : Bool := decide ((tN.map fun p => tblA K p.1).Nodup)
theorem tbl_un {g : Str → Addr} : ∀ (l : List (Str × Str)), (l.map fun p => g p.1).Nodup → ∀ x q, (x, q) ∈ l → ∀ p ∈ l.map (fun p => (g p.1, p.2)), p.1 = g x → p.2 = q
  | [], _, _, _, h, _, _, _ => absurd h List.not_mem_nil
  | y :: r, nd, x, q, h, p, hp, e => by
    obtain ⟨n1, n2⟩ := List.nodup_cons.mp (show (g y.1 :: r.map fun p => g p.1).Nodup from nd)
    have out : ∀ a b : Str × Str, a ∈ r → g a.1 = g b.1 → b = y → False := fun a b ha eg eb => n1 (by rw [← eb, ← eg]; exact List.mem_map_of_mem (f := fun p : Str × Str => g p.1) ha)
    rcases List.mem_cons.mp h with h1 | h1 <;> rcases List.mem_cons.mp (show p ∈ (g y.1, y.2) :: r.map (fun p => (g p.1, p.2)) from hp) with h2 | h2
    · rw [h2, ← h1]
    · obtain ⟨u, hu, eu⟩ := List.mem_map.mp h2
      exact (out u (x, q) hu (by rw [← e, ← eu]) h1).elim
    · exact (out (x, q) y h1 (by rw [← e, h2]) rfl).elim
    · exact tbl_un r n2 x q h1 p h2 e
theorem tbl_q {tN : List (Str × Str)} {K : PySem.W.Frag} {mg : Str → Option Value} {base : Heap} (nd : tblB tN K = true) (tb : ∀ p ∈ (tblF tN).map (He.cT K), LamX.TabB base mg p.1 p.2) {x q : Str} (h : (x, q) ∈ tN) : TbQ K mg base (tblT tN K) x q :=
  ⟨tb _ (List.mem_map_of_mem (List.mem_map_of_mem (f := fun p : Str × Str => ((p.1, none) : He.Defn)) h)), List.mem_map_of_mem (f := fun p : Str × Str => (tblA K p.1, p.2)) h, tbl_un tN (of_decide_eq_true nd) x q h⟩
end Fl

set_option Elab.async false
set_option linter.all false
set_option maxRecDepth 100000
set_option maxHeartbeats 0
namespace Fx
open PySem PySem.Spec PyProof.Rows L2
/-! ### the head: what the walk needs of the top -/
def top (i : Nat) : Stmt := PySem.Challenge.pw_heardonce_k17_whole_cards_and_their_even.main.body.getD i (.Pass ⟨0, 0, 0, 0⟩)
def dd (x : Str) (i : Nat) : He.DefD := ⟨(x, none), x, x, defArgs (top i), defBody (top i), defScope (top i), [], []⟩
def fn : List He.DefD := [dd "is_integer" 1, dd "is_card" 16, dd "check_card" 17, dd "can_be" 18, dd "is_possible" 19, dd "with_change" 20, dd "behind_given" 21, dd "behind_again" 22, dd "behind_answer" 23, dd "behind_arrival" 24, dd "behind_double" 25, dd "behind_deed" 26, dd "possible_deeds" 27, dd "card_events" 28, dd "card_behind" 29, dd "_law_cup" 31, dd "_law_roll" 32, dd "_law_some" 33, dd "_law_deeds" 34, dd "_law_set" 35, dd "_law_card_after" 36, dd "_law_possible" 37, dd "_law_card" 38, dd "_law_name" 39, dd "_law_error" 40, dd "_law_step_right" 41, dd "_law_walk_right" 42, dd "_law_near_right" 43, dd "law" 44]
def fa : List He.Fa := [.glo "is_integer", .glo "is_card", .glo "check_card", .glo "can_be", .glo "is_possible", .glo "with_change", .glo "behind_given", .glo "behind_again", .glo "behind_answer", .glo "behind_arrival", .glo "behind_double", .glo "behind_deed", .glo "possible_deeds", .glo "card_events", .glo "card_behind", .glo "_law_cup", .glo "_law_roll", .glo "_law_some", .glo "_law_deeds", .glo "_law_set", .glo "_law_card_after", .glo "_law_possible", .glo "_law_card", .glo "_law_name", .glo "_law_error", .glo "_law_step_right", .glo "_law_walk_right", .glo "_law_near_right", .glo "law", .free "abs", .free "all", .free "bool", .free "int", .free "isinstance", .free "len", .free "list", .free "max", .free "min", .free "range", .free "sorted", .free "str", .free "sum", .free "tuple", .free "zip", .int "MOST_FRAMES" 12, .glo "CARD_WAYS", .glo "KINDS", .glo "STATES", .glo "CannotHappen", .glo "InvalidCard", .glo "HeardError", .glo "InvalidEvents", .glo "InvalidNames", .glo "InvalidSide", .glo "InvalidSizes", .glo "InvalidWorld", .exc "CannotHappen", .exc "InvalidCard"]
def tN : List (Str × Str) := [("_law_step_right", "_law_step_right.<locals>.<lambda>"), ("law", "law.<locals>.<lambda>")]
def tf : List He.Defn := Fl.tblF tN
def ex (K : PySem.W.Frag) : Bool := Fl.clsB K Fl.clsL Fl.clsM && (Fl.topB K "CARD_WAYS" Fl.k_CARD_WAYS && (Fl.topB K "KINDS" Fl.k_KINDS && (Fl.topB K "STATES" Fl.k_STATES && (Fl.tblB tN K))))
abbrev TT (K : PySem.W.Frag) : Dl.Tbs := Fl.tblT tN K
theorem facts {P : Program} {w : World} {K : PySem.W.Frag} {h : Heap} {mg : Str → Option Value} (X : K.In h) (G : h.Ns mainGlobals mg) (c : He.SaysD fa fn K) (more : ex K = true) :
    ∃ fd : FuncData, (∀ (s : Shared) (v : Value), BindsTo s fd ⟨[v], []⟩ [("_law_script", v)]) ∧ mg "law" = some (.ref (He.ga K "law")) ∧ ∀ base : Heap, (∀ p ∈ tf.map (He.cT K), LamX.TabB base mg p.1 p.2) → FnOk P w K mg base CX0 11 (He.ga K "law") fd ["_law_script"] (Fl.spLaw K (TT K)) := by
  obtain ⟨m_cls, moreE⟩ := He.ba more
  obtain ⟨m_CARD_WAYS, more0⟩ := He.ba moreE
  obtain ⟨m_KINDS, more1⟩ := He.ba more0
  obtain ⟨m_STATES, more2⟩ := He.ba more1
  have nd := more2
  have c_CARD_WAYS : Fl.TopD K mg "CARD_WAYS" Fl.k_CARD_WAYS := Fl.topB_ok m_CARD_WAYS (He.glo_ok X G (c.fact 45 (f := .glo "CARD_WAYS") rfl))
  have c_KINDS : Fl.TopD K mg "KINDS" Fl.k_KINDS := Fl.topB_ok m_KINDS (He.glo_ok X G (c.fact 46 (f := .glo "KINDS") rfl))
  have i_KINDS : Fl.TopX K "KINDS" := Fl.topB_x m_KINDS
  have c_STATES : Fl.TopD K mg "STATES" Fl.k_STATES := Fl.topB_ok m_STATES (He.glo_ok X G (c.fact 47 (f := .glo "STATES") rfl))
  obtain ⟨fd, FL⟩ := c.def_ 28 (d := dd "law" 44) rfl
  refine ⟨fd, fun s v => FunD.bindsA (ps := ["_law_script"]) FL (fun _ _ _ _ _ _ us hl => match us, hl with | [_], _ => rfl) s [v] rfl, (He.glo_ok X G (c.fact 28 (f := .glo "law") rfl)), fun base tb => ?_⟩
  have b__law_step_right : Fl.TbQ K mg base (TT K) "_law_step_right" "_law_step_right.<locals>.<lambda>" := Fl.tbl_q (tN := tN) (x := "_law_step_right") (q := "_law_step_right.<locals>.<lambda>") nd tb (by simp [tN])
  have b_law : Fl.TbQ K mg base (TT K) "law" "law.<locals>.<lambda>" := Fl.tbl_q (tN := tN) (x := "law") (q := "law.<locals>.<lambda>") nd tb (by simp [tN])
  have x_CannotHappen : Bk.Exc K mg "CannotHappen" := ⟨(He.glo_ok X G (c.fact 48 (f := .glo "CannotHappen") rfl)), He.exc_ok (c.fact 56 (f := .exc "CannotHappen") rfl)⟩
  have x_InvalidCard : Bk.Exc K mg "InvalidCard" := ⟨(He.glo_ok X G (c.fact 49 (f := .glo "InvalidCard") rfl)), He.exc_ok (c.fact 57 (f := .exc "InvalidCard") rfl)⟩
  have A_is_integer : Bk.At K mg "is_integer" (top 1) := ⟨(He.glo_ok X G (c.fact 0 (f := .glo "is_integer") rfl)), c.def_ 0 (d := dd "is_integer" 1) rfl⟩
  have A_is_card : Bk.At K mg "is_card" (top 16) := ⟨(He.glo_ok X G (c.fact 1 (f := .glo "is_card") rfl)), c.def_ 1 (d := dd "is_card" 16) rfl⟩
  have A_check_card : Bk.At K mg "check_card" (top 17) := ⟨(He.glo_ok X G (c.fact 2 (f := .glo "check_card") rfl)), c.def_ 2 (d := dd "check_card" 17) rfl⟩
  have A_can_be : Bk.At K mg "can_be" (top 18) := ⟨(He.glo_ok X G (c.fact 3 (f := .glo "can_be") rfl)), c.def_ 3 (d := dd "can_be" 18) rfl⟩
  have A_is_possible : Bk.At K mg "is_possible" (top 19) := ⟨(He.glo_ok X G (c.fact 4 (f := .glo "is_possible") rfl)), c.def_ 4 (d := dd "is_possible" 19) rfl⟩
  have A_with_change : Bk.At K mg "with_change" (top 20) := ⟨(He.glo_ok X G (c.fact 5 (f := .glo "with_change") rfl)), c.def_ 5 (d := dd "with_change" 20) rfl⟩
  have A_behind_given : Bk.At K mg "behind_given" (top 21) := ⟨(He.glo_ok X G (c.fact 6 (f := .glo "behind_given") rfl)), c.def_ 6 (d := dd "behind_given" 21) rfl⟩
  have A_behind_again : Bk.At K mg "behind_again" (top 22) := ⟨(He.glo_ok X G (c.fact 7 (f := .glo "behind_again") rfl)), c.def_ 7 (d := dd "behind_again" 22) rfl⟩
  have A_behind_answer : Bk.At K mg "behind_answer" (top 23) := ⟨(He.glo_ok X G (c.fact 8 (f := .glo "behind_answer") rfl)), c.def_ 8 (d := dd "behind_answer" 23) rfl⟩
  have A_behind_arrival : Bk.At K mg "behind_arrival" (top 24) := ⟨(He.glo_ok X G (c.fact 9 (f := .glo "behind_arrival") rfl)), c.def_ 9 (d := dd "behind_arrival" 24) rfl⟩
  have A_behind_double : Bk.At K mg "behind_double" (top 25) := ⟨(He.glo_ok X G (c.fact 10 (f := .glo "behind_double") rfl)), c.def_ 10 (d := dd "behind_double" 25) rfl⟩
  have A_behind_deed : Bk.At K mg "behind_deed" (top 26) := ⟨(He.glo_ok X G (c.fact 11 (f := .glo "behind_deed") rfl)), c.def_ 11 (d := dd "behind_deed" 26) rfl⟩
  have A_possible_deeds : Bk.At K mg "possible_deeds" (top 27) := ⟨(He.glo_ok X G (c.fact 12 (f := .glo "possible_deeds") rfl)), c.def_ 12 (d := dd "possible_deeds" 27) rfl⟩
  have A_card_events : Bk.At K mg "card_events" (top 28) := ⟨(He.glo_ok X G (c.fact 13 (f := .glo "card_events") rfl)), c.def_ 13 (d := dd "card_events" 28) rfl⟩
  have A_card_behind : Bk.At K mg "card_behind" (top 29) := ⟨(He.glo_ok X G (c.fact 14 (f := .glo "card_behind") rfl)), c.def_ 14 (d := dd "card_behind" 29) rfl⟩
  have A__law_cup : Bk.At K mg "_law_cup" (top 31) := ⟨(He.glo_ok X G (c.fact 15 (f := .glo "_law_cup") rfl)), c.def_ 15 (d := dd "_law_cup" 31) rfl⟩
  have A__law_roll : Bk.At K mg "_law_roll" (top 32) := ⟨(He.glo_ok X G (c.fact 16 (f := .glo "_law_roll") rfl)), c.def_ 16 (d := dd "_law_roll" 32) rfl⟩
  have A__law_some : Bk.At K mg "_law_some" (top 33) := ⟨(He.glo_ok X G (c.fact 17 (f := .glo "_law_some") rfl)), c.def_ 17 (d := dd "_law_some" 33) rfl⟩
  have A__law_deeds : Bk.At K mg "_law_deeds" (top 34) := ⟨(He.glo_ok X G (c.fact 18 (f := .glo "_law_deeds") rfl)), c.def_ 18 (d := dd "_law_deeds" 34) rfl⟩
  have A__law_set : Bk.At K mg "_law_set" (top 35) := ⟨(He.glo_ok X G (c.fact 19 (f := .glo "_law_set") rfl)), c.def_ 19 (d := dd "_law_set" 35) rfl⟩
  have A__law_card_after : Bk.At K mg "_law_card_after" (top 36) := ⟨(He.glo_ok X G (c.fact 20 (f := .glo "_law_card_after") rfl)), c.def_ 20 (d := dd "_law_card_after" 36) rfl⟩
  have A__law_possible : Bk.At K mg "_law_possible" (top 37) := ⟨(He.glo_ok X G (c.fact 21 (f := .glo "_law_possible") rfl)), c.def_ 21 (d := dd "_law_possible" 37) rfl⟩
  have A__law_card : Bk.At K mg "_law_card" (top 38) := ⟨(He.glo_ok X G (c.fact 22 (f := .glo "_law_card") rfl)), c.def_ 22 (d := dd "_law_card" 38) rfl⟩
  have A__law_name : Bk.At K mg "_law_name" (top 39) := ⟨(He.glo_ok X G (c.fact 23 (f := .glo "_law_name") rfl)), c.def_ 23 (d := dd "_law_name" 39) rfl⟩
  have A__law_error : Bk.At K mg "_law_error" (top 40) := ⟨(He.glo_ok X G (c.fact 24 (f := .glo "_law_error") rfl)), c.def_ 24 (d := dd "_law_error" 40) rfl⟩
  have A__law_step_right : Bk.At K mg "_law_step_right" (top 41) := ⟨(He.glo_ok X G (c.fact 25 (f := .glo "_law_step_right") rfl)), c.def_ 25 (d := dd "_law_step_right" 41) rfl⟩
  have A__law_walk_right : Bk.At K mg "_law_walk_right" (top 42) := ⟨(He.glo_ok X G (c.fact 26 (f := .glo "_law_walk_right") rfl)), c.def_ 26 (d := dd "_law_walk_right" 42) rfl⟩
  have A__law_near_right : Bk.At K mg "_law_near_right" (top 43) := ⟨(He.glo_ok X G (c.fact 27 (f := .glo "_law_near_right") rfl)), c.def_ 27 (d := dd "_law_near_right" 43) rfl⟩
  have A_law : Bk.At K mg "law" (top 44) := ⟨(He.glo_ok X G (c.fact 28 (f := .glo "law") rfl)), c.def_ 28 (d := dd "law" 44) rfl⟩
  have z_abs : mg "abs" = none := (He.free_ok X G (c.fact 29 (f := .free "abs") rfl))
  have z_all : mg "all" = none := (He.free_ok X G (c.fact 30 (f := .free "all") rfl))
  have z_bool : mg "bool" = none := (He.free_ok X G (c.fact 31 (f := .free "bool") rfl))
  have z_int : mg "int" = none := (He.free_ok X G (c.fact 32 (f := .free "int") rfl))
  have z_isinstance : mg "isinstance" = none := (He.free_ok X G (c.fact 33 (f := .free "isinstance") rfl))
  have z_len : mg "len" = none := (He.free_ok X G (c.fact 34 (f := .free "len") rfl))
  have z_list : mg "list" = none := (He.free_ok X G (c.fact 35 (f := .free "list") rfl))
  have z_max : mg "max" = none := (He.free_ok X G (c.fact 36 (f := .free "max") rfl))
  have z_min : mg "min" = none := (He.free_ok X G (c.fact 37 (f := .free "min") rfl))
  have z_range : mg "range" = none := (He.free_ok X G (c.fact 38 (f := .free "range") rfl))
  have z_sorted : mg "sorted" = none := (He.free_ok X G (c.fact 39 (f := .free "sorted") rfl))
  have z_str : mg "str" = none := (He.free_ok X G (c.fact 40 (f := .free "str") rfl))
  have z_sum : mg "sum" = none := (He.free_ok X G (c.fact 41 (f := .free "sum") rfl))
  have z_tuple : mg "tuple" = none := (He.free_ok X G (c.fact 42 (f := .free "tuple") rfl))
  have z_zip : mg "zip" = none := (He.free_ok X G (c.fact 43 (f := .free "zip") rfl))
  have c_MOST_FRAMES := (He.int_ok X G (c.fact 44 (f := .int "MOST_FRAMES" 12) rfl))
  have g_CannotHappen : mg "CannotHappen" = some (.ref (He.ga K "CannotHappen")) := (He.glo_ok X G (c.fact 48 (f := .glo "CannotHappen") rfl))
  have g_HeardError : mg "HeardError" = some (.ref (He.ga K "HeardError")) := (He.glo_ok X G (c.fact 50 (f := .glo "HeardError") rfl))
  have g_InvalidCard : mg "InvalidCard" = some (.ref (He.ga K "InvalidCard")) := (He.glo_ok X G (c.fact 49 (f := .glo "InvalidCard") rfl))
  have g_InvalidEvents : mg "InvalidEvents" = some (.ref (He.ga K "InvalidEvents")) := (He.glo_ok X G (c.fact 51 (f := .glo "InvalidEvents") rfl))
  have g_InvalidNames : mg "InvalidNames" = some (.ref (He.ga K "InvalidNames")) := (He.glo_ok X G (c.fact 52 (f := .glo "InvalidNames") rfl))
  have g_InvalidSide : mg "InvalidSide" = some (.ref (He.ga K "InvalidSide")) := (He.glo_ok X G (c.fact 53 (f := .glo "InvalidSide") rfl))
  have g_InvalidSizes : mg "InvalidSizes" = some (.ref (He.ga K "InvalidSizes")) := (He.glo_ok X G (c.fact 54 (f := .glo "InvalidSizes") rfl))
  have g_InvalidWorld : mg "InvalidWorld" = some (.ref (He.ga K "InvalidWorld")) := (He.glo_ok X G (c.fact 55 (f := .glo "InvalidWorld") rfl))
  have r_roll : Bk.Has P w K mg base CX0 1 "_law_roll" ["_law_cup_here", "_law_many"] Bk.spRoll := Bk.has_roll A__law_roll z_int
  have r_cup : Bk.Has P w K mg base CX0 1 "_law_cup" ["_law_script"] (Bk.spCup K (TT K)) := Bk.has_cup A__law_cup z_list z_abs z_int
  have h__law_roll : Dl.DHas P w K mg base (TT K) 1 "_law_roll" ["_law_cup_here", "_law_many"] (Fl.gR Fl.m__law_roll) := Fl.b_roll r_roll
  have CL : Fl.Clss K Fl.clsL Fl.clsM := Fl.clsB_ok m_cls
  have e_err : Fl.ErrD P w K mg base (TT K) 1 "_law_error" "_law_name" "_law_e" (top 40) Fl.tabE := ⟨A__law_error, ⟨g_HeardError, fun cl z h => CL.exm cl (Fl.tab_in h), fun p cl z h hz => ⟨_, Fl.p__law_name A__law_name z_isinstance z_zip g_InvalidEvents g_InvalidSizes g_InvalidCard g_InvalidWorld g_InvalidSide g_InvalidNames g_CannotHappen CL p cl (Fl.tab_in h) hz, Fl.name_ok h⟩⟩⟩
  have h_is_integer : Dl.DHas P w K mg base (TT K) 1 "is_integer" ["value", "low", "high"] (Fl.gR Fl.m_is_integer) := Fl.d_is_integer A_is_integer z_bool z_int z_isinstance
  have h_is_card : Dl.DHas P w K mg base (TT K) 2 "is_card" ["value"] (Fl.gR Fl.m_is_card) := Fl.d_is_card A_is_card z_all z_bool z_isinstance z_len z_tuple c_CARD_WAYS c_MOST_FRAMES c_STATES h_is_integer
  have h_check_card : Dl.DHas P w K mg base (TT K) 3 "check_card" ["card"] (Fl.gR Fl.m_check_card) := Fl.d_check_card A_check_card x_InvalidCard h_is_card
  have h_can_be : Dl.DHas P w K mg base (TT K) 1 "can_be" ["card"] (Fl.gR Fl.m_can_be) := Fl.d_can_be A_can_be 
  have h_is_possible : Dl.DHas P w K mg base (TT K) 4 "is_possible" ["card"] (Fl.gR Fl.m_is_possible) := Fl.d_is_possible A_is_possible h_can_be h_check_card
  have h_with_change : Dl.DHas P w K mg base (TT K) 1 "with_change" ["card", "kind", "change"] (Fl.gR Fl.m_with_change) := Fl.d_with_change A_with_change c_KINDS c_MOST_FRAMES i_KINDS
  have h_behind_given : Dl.DHas P w K mg base (TT K) 2 "behind_given" ["card"] (Fl.gR Fl.m_behind_given) := Fl.d_behind_given A_behind_given z_sum h_with_change
  have h_behind_again : Dl.DHas P w K mg base (TT K) 2 "behind_again" ["card"] (Fl.gR Fl.m_behind_again) := Fl.d_behind_again A_behind_again h_with_change
  have h_behind_answer : Dl.DHas P w K mg base (TT K) 2 "behind_answer" ["card"] (Fl.gR Fl.m_behind_answer) := Fl.d_behind_answer A_behind_answer h_with_change
  have h_behind_arrival : Dl.DHas P w K mg base (TT K) 3 "behind_arrival" ["card", "kind"] (Fl.gR Fl.m_behind_arrival) := Fl.d_behind_arrival A_behind_arrival h_behind_answer h_with_change
  have h_behind_double : Dl.DHas P w K mg base (TT K) 2 "behind_double" ["card", "kind"] (Fl.gR Fl.m_behind_double) := Fl.d_behind_double A_behind_double c_KINDS i_KINDS h_with_change
  have h_behind_deed : Dl.DHas P w K mg base (TT K) 4 "behind_deed" ["card", "deed"] (Fl.gR Fl.m_behind_deed) := Fl.d_behind_deed A_behind_deed h_behind_again h_behind_arrival h_behind_double h_behind_given h_with_change
  have h_possible_deeds : Dl.DHas P w K mg base (TT K) 5 "possible_deeds" ["card"] (Fl.gR Fl.m_possible_deeds) := Fl.d_possible_deeds A_possible_deeds z_sorted c_KINDS h_behind_deed
  have h_card_events : Dl.DHas P w K mg base (TT K) 6 "card_events" ["card"] (Fl.gR Fl.m_card_events) := Fl.d_card_events A_card_events h_check_card h_possible_deeds
  have h_card_behind : Dl.DHas P w K mg base (TT K) 6 "card_behind" ["card", "deed"] (Fl.gR Fl.m_card_behind) := Fl.d_card_behind A_card_behind x_CannotHappen h_behind_deed h_check_card h_possible_deeds
  have h__law_some : Dl.DHas P w K mg base (TT K) 2 "_law_some" ["_law_cup_here", "_law_things"] (Fl.gR Fl.m__law_some) := Fl.d__law_some A__law_some z_len h__law_roll
  have h__law_deeds : Dl.DHas P w K mg base (TT K) 1 "_law_deeds" [] (Fl.gR Fl.m__law_deeds) := Fl.d__law_deeds A__law_deeds z_sorted
  have h__law_set : Dl.DHas P w K mg base (TT K) 1 "_law_set" ["_law_card_here", "_law_changes"] (Fl.gR Fl.m__law_set) := Fl.d__law_set A__law_set z_list z_max z_min z_tuple
  have h__law_card_after : Dl.DHas P w K mg base (TT K) 2 "_law_card_after" ["_law_card_here", "_law_deed"] (Fl.gR Fl.m__law_card_after) := Fl.d__law_card_after A__law_card_after h__law_set
  have h__law_possible : Dl.DHas P w K mg base (TT K) 1 "_law_possible" ["_law_card_here"] (Fl.gR Fl.m__law_possible) := Fl.d__law_possible A__law_possible 
  have h__law_card : Dl.DHas P w K mg base (TT K) 3 "_law_card" ["_law_cup_here"] (Fl.gR Fl.m__law_card) := Fl.d__law_card A__law_card z_range z_tuple h__law_roll h__law_some
  have h__law_step_right : Dl.DHas P w K mg base (TT K) 9 "_law_step_right" ["_law_card_here"] (Fl.gR Fl.m__law_step_right) := Fl.d__law_step_right A__law_step_right b__law_step_right e_err h__law_card_after h__law_deeds h_card_behind h_card_events h_is_card
  have h__law_walk_right : Dl.DHas P w K mg base (TT K) 10 "_law_walk_right" ["_law_cup_here", "_law_card_here"] (Fl.gR Fl.m__law_walk_right) := Fl.d__law_walk_right A__law_walk_right z_range h__law_possible h__law_some h__law_step_right h_card_behind h_card_events h_is_possible
  have h__law_near_right : Dl.DHas P w K mg base (TT K) 3 "_law_near_right" ["_law_cup_here", "_law_card_here"] (Fl.gR Fl.m__law_near_right) := Fl.d__law_near_right A__law_near_right z_bool z_int z_isinstance z_str h__law_roll h__law_some h_is_card
  exact (Fl.has_law A_law (fun q er hq => (Fl.law_wp hq).to) r_cup z_range h__law_card h__law_near_right h__law_some h__law_walk_right h_card_behind h_card_events h_is_card h_is_possible b_law e_err).fn FL
abbrev R : PySem.W.OpenRow := PySem.W.OpenLaw.row PySem.Challenge.rw_heardonce_k17_whole_cards_and_their_even
def as : List Addr := mainGlobals :: List.range' 4 428
abbrev hk : PySem.W.Hook := Hz.hookZ as fa fn [] tf ex
def ob (s : PySem.W.SharedT) : He.AlX := Hz.obsZ as fa fn [] tf ex (HandSHeadRun.getT s)
theorem ob_eq (s : PySem.W.SharedT) : ob s = hk.obs s.abs := Hz.obsZ_eq (HandSHeadRun.getT_eq s)
def nm0 : List Str := ["is_integer", "HeardError", "InvalidNames", "InvalidSide", "InvalidWorld", "InvalidEvents", "CannotHappen", "InvalidCard", "InvalidSizes"]
def nm1 : List Str := ["MOST_FRAMES", "CARD_WAYS", "STATES", "KINDS", "is_card", "check_card", "can_be", "is_possible", "with_change"]
def nm2 : List Str := ["behind_given", "behind_again", "behind_answer", "behind_arrival", "behind_double", "behind_deed", "possible_deeds", "card_events", "card_behind"]
def nm3 : List Str := ["_law_cup", "_law_roll", "_law_some", "_law_deeds", "_law_set", "_law_card_after", "_law_possible", "_law_card", "_law_name"]
def nm4 : List Str := ["_law_error", "_law_step_right", "_law_walk_right", "_law_near_right"]
def nms : List Str := nm0 ++ (nm1 ++ (nm2 ++ (nm3 ++ (nm4))))
end Fx

set_option Elab.async false
set_option linter.all false
set_option maxRecDepth 100000
set_option maxHeartbeats 0
namespace Fx
open PySem PySem.Spec PyProof.Rows L2
theorem looks (w : World) : Hz.LooksAt R 4000 w := by
  intro os
  kernel_rfl
theorem seen (w : World) : Hz.SeenAt R (PySem.W.view R.prog [44]) 4000 nms w := by
  intro os
  kernel_rfl
theorem obs (w : World) : Hz.ObAt R as fa fn [] tf ex 4000 w := by
  intro os
  kernel_rfl
theorem run (w : World) : HandSHeadRun.RunEq R (PySem.W.view R.prog [44]) hk ob 4000 nms w := Hz.run_of (looks w) (seen w) (obs w)
end Fx
open PySem PySem.W PySem.Calls PyProof.Rows
theorem PySem.Challenge.cw_heardonce_k17_whole_cards_and_their_even_holds : PySem.Challenge.rw_heardonce_k17_whole_cards_and_their_even.Holds := by
  w_on; o_law
  refine HandSHeadRun.head_any (r := OpenLaw.row PySem.Challenge.rw_heardonce_k17_whole_cards_and_their_even) (q := view (OpenLaw.row PySem.Challenge.rw_heardonce_k17_whole_cards_and_their_even).prog [44]) (H := Fx.hk) (ob := Fx.ob) (M := 4000) (loose := Fx.nms) (d := HandSHeadRun.topDef (OpenLaw.row PySem.Challenge.rw_heardonce_k17_whole_cards_and_their_even).prog 44) (kwd := []) Fx.ob_eq
    (by kernel_rfl) (fun s => by kernel_rfl) Fx.run (by kernel_rfl) (by kernel_rfl) (by kernel_rfl) (by rfl) (by first | assumption | decide +kernel) (by decide +kernel) ⟨rfl, rfl, rfl, rfl, rfl, by decide +kernel⟩ ?hw ?hc
  case hw => w_witness2
  case hc =>
    refine LamX.walk_ofTsE (l := PySem.Challenge.rw_heardonce_k17_whole_cards_and_their_even) (n := 63) (k := 11) (x := "_law_script") (CX := fun _ => L2.CX0) rfl (by decide) (by kernel_rfl) ⟨rfl, by decide, by decide⟩ ?F (fun _ _ _ _ _ z => z)
    intro w mg fa h Y G hmg0
    obtain ⟨K, KX, c⟩ := Y
    have hmg : mg ("law" : PySem.Str) = some (.ref fa) := by
      have e : (HandSHeadRun.topDef (OpenLaw.row PySem.Challenge.rw_heardonce_k17_whole_cards_and_their_even).prog 44).name = ("law" : PySem.Str) := by kernel_rfl
      rw [← e]
      exact hmg0
    obtain ⟨fd, hb, hm, hF⟩ := Fx.facts (P := (PySem.Challenge.rw_heardonce_k17_whole_cards_and_their_even).prog) (w := w) KX G c.t.d c.more
    cases hmg.symm.trans hm
    refine ⟨K, KX, fd, Fx.tf.map (He.cT K), Fl.spLaw K (Fx.TT K), fun p hp => ?_, fun p hp => ?_, fun p hp => ?_, hb, fun H a ns hl _ hT hS => ⟨a, ns, rfl, hS, hl, fun p hp => ?_, fun _ => rfl⟩, fun base _ _ tb => hF base tb⟩
    · obtain ⟨q, hq, rfl⟩ := List.mem_map.mp hp
      exact c.empty q hq
    · obtain ⟨q, hq, rfl⟩ := List.mem_map.mp hp
      exact c.out q hq
    · obtain ⟨q, hq, rfl⟩ := List.mem_map.mp hp
      exact codeHd_of_K KX (c.hd q hq)
    · obtain ⟨q, hq, rfl⟩ := List.mem_map.mp hp
      exact LamX.TabS.nil (hT _ (List.mem_map_of_mem (List.mem_map_of_mem (f := fun p : PySem.Str × PySem.Str => ((p.1, none) : He.Defn)) hq)))
