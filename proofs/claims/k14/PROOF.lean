import PyProof.Rows.All
import Wide.All
import OpenK.AllK
import Wide.FinOn
import HandS.ForMost
import HandS.AnyAll
import HandS.Lambda
import HandS.GenList
import HandS.Walk
import HandS.Exc
import HandS.WordsExc
import HandS.Defaults
import HandS.IsInst
import HandS.Flow
import HandS.Style
import HandS.ExcOwn
import HandS.Strs
import HandS.TryMany
import HandS.Wide
import HandS.StrMore
import HandS.EndTab
import HandS.HeadEnd
import HandS.HeadHook4
import HandS.HeadWalk
import PySem.Challenge.RW_heardonce_k14_whole_rules_left_out_and_r
import KE.GoesEnum
import HandS.Zip
import HandS.Deep
import HandS.DictComp
import HandS.CallLocal
import HandS.TupAny
import HandS.TupLe
import HandS.TupMul
import HandS.Codes
import HandS.Conv
import KE.KStateDown
import HandS.Head0
import HandS.Head1
import HandS.Head2
import HandS.HeadHook1
import HandS.HeadHook2
import HandS.HeadHook3
set_option Elab.async false
set_option linter.all false
set_option maxRecDepth 100000
set_option maxHeartbeats 4000000
/-! all(..), any(..) of a generator expression whose element is any expression of the layer -/
namespace Gx
open PySem PySem.Spec PyProof.Rows L2 GenW

/-- the expression's own slots at its start: what they take over of the def's -/
def stG (src : List (Option Nat)) (σ : L2.St) : L2.St := src.map fun o => o.bind fun i => (σ[i]?).join
theorem ne_of_none' {H : Hp} {a b : Addr} {o : HO} (h : H a = none) (h' : H b = some o) : a ≠ b := fun e => by
  rw [e, h'] at h
  cases h
theorem stG_length (src : List (Option Nat)) (σ : L2.St) : (stG src σ).length = src.length := List.length_map ..
/-- N, sc: the def's slots and scope; Ng: the expression's slots; src: where each is taken from -/
structure GSc (N : List Str) (sc : Scope) (Ng : List Str) (src : List (Option Nat)) (scope : Scope) : Prop where
  kind : scope.kind = .function
  co : scope.isCoroutine = false
  cell : ∀ y ∈ scope.names, y.2 ≠ .cell
  dot : scope.names.lookup (".0" : Str) = some NameKind.local
  free : ∀ y ∈ scope.names, y.2 = .free → sc.names.lookup y.1 = some .cell ∨ sc.names.lookup y.1 = some .free
  nd : Ng.Nodup
  len : src.length = Ng.length
  src : ∀ (j i : Nat) (x : Str), src[j]? = some (some i) → Ng[j]? = some x → N[i]? = some x ∧ scope.names.lookup x ≠ some .local
def gscB (N : List Str) (sc : Scope) (Ng : List Str) (src : List (Option Nat)) (scope : Scope) : Bool :=
  decide (scope.kind = .function) && !scope.isCoroutine && (scope.names.all fun y => !decide (y.2 = .cell) && (!decide (y.2 = .free) || decide (sc.names.lookup y.1 = some .cell) || decide (sc.names.lookup y.1 = some .free))) &&
    decide (scope.names.lookup (".0" : Str) = some NameKind.local) && decide Ng.Nodup && decide (src.length = Ng.length) &&
    ((src.zip Ng).all fun p => match p.1 with | none => true | some i => decide (N[i]? = some p.2) && !decide (scope.names.lookup p.2 = some .local))
theorem gsc_by {N : List Str} {sc : Scope} {Ng : List Str} {src : List (Option Nat)} {scope : Scope} (h : gscB N sc Ng src scope = true) : GSc N sc Ng src scope := by
  unfold gscB at h
  simp only [Bool.and_eq_true, Bool.or_eq_true, Bool.not_eq_true', decide_eq_true_eq, decide_eq_false_iff_not, List.all_eq_true] at h
  obtain ⟨⟨⟨⟨⟨⟨h1, h2⟩, h3⟩, h4⟩, h5⟩, h6⟩, h7⟩ := h
  refine ⟨h1, h2, fun y hy => (h3 y hy).1, h4, fun y hy e => ?_, h5, h6, fun j i x e1 e2 => ?_⟩
  · rcases (h3 y hy).2 with (z | z) | z
    · exact absurd e z
    · exact .inl z
    · exact .inr z
  · have hm : ((some i, x) : Option Nat × Str) ∈ src.zip Ng := by
      refine List.mem_of_getElem? (i := j) ?_
      rw [List.getElem?_zip_eq_some]
      exact ⟨e1, e2⟩
    have q := h7 _ hm
    simp only [Bool.and_eq_true, Bool.not_eq_true', decide_eq_true_eq, decide_eq_false_iff_not] at q
    exact q

/-- the generator's frame -/
abbrev gEnv (X : Cx) (scope : Scope) (C : Addr) (code : Value) : Env := genEnv scope (cloFrom X.env.cells scope.names []) C code builtinsNs X.env
/-- the context of the expression's parts: the generator was made at s, H in the def's context X; fp: the iterator that it walks -/
abbrev gCx (X : Cx) (Ng : List Str) (A : Around) (env : Env) (s : Shared) (H : Hp) (fp : List Addr) : Cx :=
  { prog := X.prog, w := X.w, K := X.K, mg := X.mg, base := X.base, A := A, N := Ng, s_0 := s, H_0 := H, env := env, outer := X.stack, stack := env :: X.stack, ex := fp, fn := fun _ => false, calm := true, pn := [], xe := fun _ _ => False }

section
variable {X : Cx} {pins : List (Addr × Obj)} {σ : L2.St} {H : Hp} {s : Shared}
theorem g_start {Ng : List Str} {src : List (Option Nat)} {scope : Scope} {A : Around} {code it : Value} {fp : List Addr} {h' : Heap} {g' : Array GenState} {tk : Nat} (I : Inv X pins σ H s) (S : GSc X.N X.env.scope Ng src scope) (hfp : ∀ b ∈ fp, FpOk X pins H b) (hlt : ∀ b ∈ fp, b < s.heap.objs.size)
    (hA : A.handled = none) (hfr : A.frames = some (gEnv X scope s.heap.objs.size code :: X.stack)) (hn : h'.Ns s.heap.objs.size (fun y => if y = ".0" then some it else none)) (kp : ∀ b o, s.heap.get? b = some o → h'.get? b = some o) (hg : AllBare g') :
    Inv (gCx X Ng A (gEnv X scope s.heap.objs.size code) s H fp) [] (stG src σ) H { s with heap := h', gens := g', toks := tk } := by
  have hfree : ∀ y ∈ scope.names, y.2 = .free → ∃ c, X.env.cells.lookup y.1 = some c := fun y hy e => by
    rcases S.free y hy e with k | k
    · exact I.ok.has _ (.inl k)
    · exact I.ok.has _ (.inr k)
  have back : ∀ {y c}, (cloFrom X.env.cells scope.names []).lookup y = some c → X.env.cells.lookup y = some c := fun {y c} e => by
    rcases cloFrom_mem (PySem.mem_of_lookup e) with z | ⟨h1, h2⟩
    · cases z
    · obtain ⟨c1, q⟩ := hfree _ h1 rfl
      have q : X.env.cells.lookup y = some c1 := q
      rw [q] at h2
      rw [q, h2]
      rfl
  have fwd : ∀ {y}, scope.names.lookup y = some .free → ∃ c, (cloFrom X.env.cells scope.names []).lookup y = some c := fun {y} e =>
    mem_lookup (cloFrom_has (cells := X.env.cells) (acc := []) (PySem.mem_of_lookup e))
  have noCell : ∀ {y}, scope.names.lookup y ≠ some .cell := fun {y} e => S.cell _ (PySem.mem_of_lookup e) rfl
  have okG : (gCx X Ng A (gEnv X scope s.heap.objs.size code) s H fp).Ok := by
    refine ⟨I.ok.mod, S.kind, I.ok.glob, rfl, Nat.le_refl _, fun y z c e1 e2 => I.ok.inj y z c (back e1) (back e2), fun y hy => ?_, fun y c z _ => ?_, fun _ => hA, hfr, .inr ⟨rfl, rfl⟩, fun b hb => ⟨Nat.ne_of_lt (hlt b hb), fun y c e => (hfp b hb).2.2.2.2.1 y c (back e)⟩,
      I.bs, Nat.le_trans I.ok.bsz I.sz, fun b o e hb => ?_, fun b hb z => ?_, I.stack, I.stkFree⟩
    · rcases hy with q | q
      · exact absurd q noCell
      · exact fwd q
    · have z : false = true := z
      cases z
    · rcases (hfp b hb).2.2.2.1 with q | q
      · exact I.ok.noex b o e q
      · have h1 := Heap.lt_size e
        have h2 := Nat.le_trans I.ok.bsz q
        exact Nat.lt_irrefl _ (Nat.lt_of_lt_of_le h1 h2)
    · rcases List.mem_cons.mp (I.stkSub b z) with q | q
      · exact (hfp b hb).2.1 q
      · exact (hfp b hb).2.2.1 q
  refine ⟨okG, rfl, hg, Un.kept kp, ⟨_, hn, fun j x v e1 e2 e3 => ?_⟩, fun y c e => ?_, I.hok.fresh (Nat.le_refl _), fun y c e => I.freeC y c (back e), fun q hq => absurd (show q ∈ ([] : List (Addr × Obj)) ++ [] from hq) (by simp), I.hok.kept kp, ?_⟩
  · -- a slot that is taken over
    have e2' : (src[j]?).map (fun o => o.bind fun i => (σ[i]?).join) = some (some v) := by rw [← List.getElem?_map]; exact e2
    obtain ⟨o, ho, e4⟩ := Option.map_eq_some_iff.mp e2'
    cases o with
    | none => cases e4
    | some i =>
      have e5 : (σ[i]?).join = some v := e4
      have e6 : σ[i]? = some (some v) := by
        cases q : σ[i]? with
        | none => rw [q] at e5; cases e5
        | some r => rw [q] at e5; rw [show r = some v from e5]
      obtain ⟨hN, hnl⟩ := S.src j i x ho e1
      have hfr2 : scope.names.lookup x = some .free := by
        rcases (show Vis scope x from e3) with q | q | q
        · exact absurd q hnl
        · exact absurd q noCell
        · exact q
      have hX := S.free _ (PySem.mem_of_lookup hfr2) rfl
      obtain ⟨m, _, hl⟩ := I.loc
      obtain ⟨u, r, l⟩ := hl i x v hN e6 (.inr hX)
      refine ⟨u, r, .inr ⟨.inr hfr2, ?_⟩⟩
      obtain ⟨c1, hc1⟩ := fwd hfr2
      rcases l with ⟨k', _⟩ | ⟨_, c3, e', z⟩
      · have k' : X.env.scope.names.lookup x = some .local := k'
        rcases hX with q | q <;> (rw [show X.env.scope.names.lookup x = _ from q] at k'; cases k')
      · have := back hc1
        rw [e'] at this
        cases this
        obtain ⟨ob, ho2, hd2⟩ := z
        exact ⟨_, hc1, ob, kp _ _ ho2, hd2⟩
  · obtain ⟨v, ob, ho2, hd2⟩ := I.cell y c (back e)
    exact ⟨v, ob, kp _ _ ho2, hd2⟩
  · show (stG src σ).length = Ng.length
    rw [stG_length, S.len]
/-- the table of generators written -/
theorem inv_gen {g : Nat} {x : GenState} (I : Inv X pins σ H s) (hx : x.bare = true) : Inv X pins σ H (s.setGen g x) :=
  ⟨I.ok, I.os, allBare_setGen I.bare hx, I.base, I.loc, I.cell, I.free, I.freeC, I.pin, I.hok, I.len⟩
/-- one more object is pinned -/
theorem inv_pin {a : Addr} {o : Obj} (I : Inv X pins σ H s) (ha : s.heap.get? a = some o) (hn : H a = none) (hL : a ≠ X.env.locals) (hf : a ∉ X.fs) (hd : ∀ v, o.data ≠ .cell v) : Inv X ((a, o) :: pins) σ H s :=
  I.pins_of fun p hp => by
    rcases List.mem_cons.mp hp with e | e
    · rw [e]; exact ⟨ha, hn, hL, hf, hd⟩
    · exact I.pin p (List.mem_append_right _ e)
end

/-! ### the generator's own run -/
/-- ahead of turn i -/
def GSt (X : Cx) (ip : List (Addr × Obj)) (fp : List Addr) (tn : Nat → Heap → Prop) (W : L2.St → Hp → Prop) (i : Nat) (s : Shared) : Prop :=
  ∃ σ H, Inv X ip σ H s ∧ tn i s.heap ∧ (∀ b ∈ fp, H b = none) ∧ W σ H
/-- what stands where it hands out y at turn i; m: the measure there -/
def GPr (X : Cx) (ip : List (Addr × Obj)) (fp : List Addr) (tn : Nat → Heap → Prop) (W : Nat → Nat → L2.St → Hp → Prop) (Z : (L2.St → Hp → Prop) → V → L2.St → Hp → Prop) : Protocol := fun k s₀ v s kap =>
  ∃ y σ H i m, RelV y v ∧ m ≤ k ∧ Inv X ip σ H s ∧ tn (i + 1) s.heap ∧ (∀ b ∈ fp, H b = none) ∧ Z (fun σ' H' => ∃ m', m' < m ∧ W (i + 1) m' σ' H') y σ H ∧
    ∀ s'' m', m' < m → GSt X ip fp tn (W (i + 1) m') (i + 1) s'' → kap (.send .none) s''
def GFin (X : Cx) (ip : List (Addr × Obj)) (Fin : L2.St → Hp → Prop) (_ : Nat) (_ s : Shared) : Prop := ∃ σ H, Inv X ip σ H s ∧ Fin σ H
abbrev GEnd (X : Cx) (ip : List (Addr × Obj)) (Fin : L2.St → Hp → Prop) : GenEnd := fun n s₀ r s => r = .ok .next ∧ GFin X ip Fin n s₀ s
/-- the turns, as they are asked -/
def GTurn (J : It) (g : TG) (tt : TT) (te : TE) (W : Nat → Nat → L2.St → Hp → Prop) (Fin : L2.St → Hp → Prop) (Z : (L2.St → Hp → Prop) → V → L2.St → Hp → Prop) : Prop :=
  (∀ N N' : L2.St → Hp → Prop, (∀ σ H, N σ H → N' σ H) → ∀ y σ H, Z N y σ H → Z N' y σ H) ∧ ∀ i m σ H, W i m σ H → (J.stop i H ∧ Fin σ H) ∨ (J.go i H ∧ ∃ N : L2.St → Hp → Prop, (∀ σ' H', N σ' H' → ∃ m', m' < m ∧ W (i + 1) m' σ' H') ∧
    ∀ x H', J.yld i H x H' → g x σ H' fun σ2 H2 => tt σ2 H2 fun ok H3 => if ok = true then te σ2 H3 fun y H4 => Z N y σ2 H4 else N σ2 H3)
section
variable {X : Cx} {A : Around} {elt tg iter : Expr} {ifs : List Expr} {scope : Scope} {pos : Pos} {it : Addr} {fp : List Addr} {tn : Nat → Heap → Prop} {J : It} {ip : List (Addr × Obj)} {g : TG} {tt : TT} {te : TE}
  {W : Nat → Nat → L2.St → Hp → Prop} {Fin : L2.St → Hp → Prop} {Z : (L2.St → Hp → Prop) → V → L2.St → Hp → Prop}
theorem seg_turns (hc : X.calm = true) (hx : X.xe = fun _ _ => False) (hA : A.over (.compLoop (.GeneratorExp elt [⟨tg, iter, ifs, 0⟩] scope pos) 0 (.ref it) .none X.env) [] = X.A) (hex : X.ex = fp)
    (T : Turn X.prog X.w X.K tg J fp it tn) (hip : ∀ p ∈ X.pn ++ ip, ∀ b ∈ fp, p.1 ≠ b) (pg : PG X tg g) (pt : PTs X ifs tt) (pe : PE X elt te) (hco : X.env.scope.isCoroutine = false) (turn : GTurn J g tt te W Fin Z) :
    ∀ (m n i : Nat) (s₀ s : Shared), m < n → GSt X ip fp tn (W i m) i s →
      Seg (model X.prog X.w) A (GEnd X ip Fin) (GPr X ip fp tn W Z) n s₀ (.compLoop (.GeneratorExp elt [⟨tg, iter, ifs, 0⟩] scope pos) 0 (.ref it) .none X.env)
        ((model X.prog X.w).den (.compLoop (.GeneratorExp elt [⟨tg, iter, ifs, 0⟩] scope pos) 0 (.ref it) .none X.env)) [] s := by
  have noX : ∀ {α : Type} {t : Sem α} {Q : α → Shared → Prop} {E : Value → Shared → Prop} {s : Shared}, wpAny (model X.prog X.w) X.A t Q X.xe s → wpAny (model X.prog X.w) X.A t Q E s := fun {α t Q E s} h => by
    rw [hx] at h
    exact wpAny_mono h (fun _ _ q => q) fun _ _ z => z.elim
  intro m
  induction m using Nat.strongRecOn with
  | ind m ih =>
    intro n i s₀ s hmn hst
    obtain ⟨σ, H, I, st, nf, w⟩ := hst
    have stat : ∀ {σ' : L2.St} {H' : Hp} {s' : Shared}, Inv X ip σ' H' s' → (∀ b ∈ fp, H' b = none) → ∀ b ∈ fp, FpOk X ip H' b := fun {σ' H' s'} I' hn b hb =>
      ⟨hn b hb, (I'.ok.exf b (by rw [hex]; exact hb)).1, I'.ok.exfs b (by rw [hex]; exact hb), .inl (by rw [hex]; exact hb), fun x c e => (I'.ok.exf b (by rw [hex]; exact hb)).2 x c e, fun p hp => hip p hp b hb⟩
    show Seg _ A _ _ _ s₀ _ ((compTurn (.GeneratorExp elt [⟨tg, iter, ifs, 0⟩] scope pos) 0 (.ref it) .none X.env).onRaise (leaving X.env)) [] s
    rw [compTurn_gen, Sem.onRaise_eq_wrap]
    refine seg_bind_wrap (wpAny_standAt ?_)
    rcases turn.2 i m σ H w with ⟨stop, fin⟩ | ⟨go, N, hN, step⟩
    · refine seg_bind_wrap ?_
      rw [hA]
      refine wpAny_mono (T.done X rfl rfl rfl hc i ip s σ H (fun _ _ => False) I (stat I nf) st stop) (fun r s1 hr => ?_) fun _ _ z => z.elim
      obtain ⟨er, I1⟩ := hr
      subst er
      exact seg_end (.ok .next) ⟨rfl, σ, H, I1, fin⟩
    · refine seg_bind_wrap ?_
      rw [hA]
      refine wpAny_mono (T.item X rfl rfl rfl hc i ip s σ H (fun _ _ => False) I (stat I nf) st go) (fun r s1 hr => ?_) fun _ _ z => z.elim
      obtain ⟨u, er, h1⟩ := hr
      subst er
      refine seg_bind_wrap ?_
      rw [hA]
      refine wpAny_mono h1 (fun _ s2 h2 => ?_) fun _ _ z => z.elim
      obtain ⟨x, H2, I2, r2, y2, st2, nf2⟩ := h2
      have I2' := I2.pinned (stat I2 nf2) (T.obj _ _ st2)
      refine seg_bind_wrap ?_
      rw [hA]
      refine noX (thn (pg.run _ s2 σ H2 x u _ I2' r2 (step x H2 y2)) fun _ s3 h3 => ?_)
      obtain ⟨σ3, H3, I3, q3⟩ := h3
      refine seg_bind_wrap ?_
      rw [hA]
      refine noX (thn (pt.run _ s3 σ3 H3 _ I3 q3) fun ok s4 h4 => ?_)
      obtain ⟨H4, I4, q4⟩ := h4
      -- back at the turn's end
      have fin : ∀ {s' : Shared} {σ' : L2.St} {H' : Hp}, Inv X (ip ++ pinsAt fp s2.heap) σ' H' s' → Inv X ip σ' H' s' ∧ tn (i + 1) s'.heap ∧ ∀ b ∈ fp, H' b = none := fun {s' σ' H'} I' => by
        have pin' : ∀ b ∈ fp, ∀ o, s2.heap.get? b = some o → s'.heap.get? b = some o ∧ H' b = none := fun b hb o e =>
          let z := I'.pin (b, o) (List.mem_append_right _ (List.mem_append_right _ (mem_pinsAt hb e)))
          ⟨z.1, z.2.1⟩
        refine ⟨I'.unpinned, T.keep _ _ _ st2 fun b hb o e => (pin' b hb o e).1, fun b hb => ?_⟩
        obtain ⟨o, e, _⟩ := T.obj _ _ st2 b hb
        exact (pin' b hb o e).2
      cases ok with
      | false =>
        simp only [Bool.false_eq_true, if_false] at q4 ⊢
        obtain ⟨m', hm, w'⟩ := hN _ _ q4
        obtain ⟨f1, f2, f3⟩ := fin I4
        exact seg_again rfl (ih m' hm n (i + 1) s₀ s4 (by omega) ⟨σ3, H4, f1, f2, f3, w'⟩)
      | true =>
        simp only [if_true] at q4 ⊢
        have hy : ∀ v, yieldOut X.env v = yieldValue v := fun v => by simp only [yieldOut, hco, Bool.false_eq_true, if_false]
        simp only [hy]
        rw [Sem.bind_eq_wrap', Sem.bind_eq_wrap', Sem.wrap_wrap, Sem.wrap_wrap]
        refine seg_wrap ?_
        rw [hA]
        refine noX (thn (pe.run _ s4 σ3 H4 _ I4 q4) fun v s5 h5 => ?_)
        obtain ⟨y, H5, I5, r5, z5⟩ := h5
        obtain ⟨f1, f2, f3⟩ := fin I5
        obtain ⟨k, rfl⟩ : ∃ k, n = k + 1 := ⟨n - 1, by omega⟩
        refine seg_at (seg_yield rfl rfl rfl ⟨y, σ3, H5, i, m, r5, by omega, f1, f2, f3, turn.1 _ _ hN _ _ _ z5, fun s'' m' hm' hst' => ?_⟩)
        exact seg_again rfl (ih m' hm' k (i + 1) s'' s'' (by omega) hst')
theorem seg_begin (hc : X.calm = true) (hx : X.xe = fun _ _ => False) (hA : A.over (.compLoop (.GeneratorExp elt [⟨tg, iter, ifs, 0⟩] scope pos) 0 (.ref it) .none X.env) [] = X.A) (hex : X.ex = fp)
    (T : Turn X.prog X.w X.K tg J fp it tn) (hip : ∀ p ∈ X.pn ++ ip, ∀ b ∈ fp, p.1 ≠ b) (pg : PG X tg g) (pt : PTs X ifs tt) (pe : PE X elt te) (hco : X.env.scope.isCoroutine = false) (turn : GTurn J g tt te W Fin Z)
    {m n : Nat} {s₀ s : Shared} (hmn : m < n) (hst : GSt X ip fp tn (W 0 m) 0 s) :
      Seg (model X.prog X.w) A (GEnd X ip Fin) (GPr X ip fp tn W Z) n s₀ (.compStart (.GeneratorExp elt [⟨tg, iter, ifs, 0⟩] scope pos) 0 (.ref it) .none X.env)
        ((model X.prog X.w).den (.compStart (.GeneratorExp elt [⟨tg, iter, ifs, 0⟩] scope pos) 0 (.ref it) .none X.env)) [] s := by
  have loop := seg_turns hc hx hA hex T hip pg pt pe hco turn m n 0 s₀ s hmn hst
  obtain ⟨σ, H, I, st, nf, w⟩ := hst
  show Seg _ A _ _ _ s₀ _ ((compStart (.GeneratorExp elt [⟨tg, iter, ifs, 0⟩] scope pos) 0 (.ref it) .none X.env).onRaise (leaving X.env)) [] s
  unfold compStart
  rw [Sem.onRaise_eq_wrap]
  show Seg _ A _ _ _ s₀ _ ((ask >>= _).wrap _ _ _ _) [] s
  refine seg_bind_wrap (wpAny_askSetting ?_)
  split
  · exact seg_again rfl loop
  · refine seg_bind_wrap (wpAny_rule ?_)
    first
      | exact seg_bind_wrap (wpAny_standAt (seg_bind_wrap (T.self _ 0 s _ _ st (seg_again rfl loop))))
      | (show Seg _ A _ _ _ s₀ _ ((standAt iter.pos >>= _).wrap _ _ _ _) [] s; exact seg_bind_wrap (wpAny_standAt (seg_bind_wrap (T.self _ 0 s _ _ st (seg_again rfl loop)))))
end

/-! ### the consumers -/
/-- of all: at an item that is False it ends -/
def ZAll (Qf : Hp → Prop) : (L2.St → Hp → Prop) → V → L2.St → Hp → Prop := fun More y σ H => ∃ b, y = .bl b ∧ if b = true then More σ H else Qf H
/-- of any -/
def ZAny (Qt : Hp → Prop) : (L2.St → Hp → Prop) → V → L2.St → Hp → Prop := fun More y σ H => ∃ b, y = .bl b ∧ if b = true then Qt H else More σ H
section
variable {X : Cx} {ip : List (Addr × Obj)} {fp : List Addr} {tn : Nat → Heap → Prop} {W : Nat → Nat → L2.St → Hp → Prop} {Fin : L2.St → Hp → Prop} {Qf : Hp → Prop} {B : Around} {a : Addr} {g : Nat} {R : Result → Shared → Prop}
theorem all_loop (hh : B.handled = none) (hroom : B.depth < recursionLimit) (hgen : ∀ s σ H, Inv X ip σ H s → s.heap.IsGen a g)
    (hT : ∀ s σ H, Inv X ip σ H s → Fin σ H → R (.ok (.ret (.bool true))) s) (hF : ∀ s σ H, Inv X ip σ H s → Qf H → R (.ok (.ret (.bool false))) s) :
    ∀ (n : Nat) (W' : L2.St → Hp → Prop) (i : Nat) (s : Shared) (gs : GenState), g + 1 ≤ s.gens.size → s.gens[g]? = some gs →
      (∀ s'', GSt X ip fp tn W' i s'' → gs.Goes (model X.prog X.w) B.in1.in1 (GEnd X ip Fin) (GPr X ip fp tn W (ZAll Qf)) n (.send .none) s'') → GSt X ip fp tn W' i s →
      codeAny (model X.prog X.w) B (.builtin "all.loop" ⟨[.ref a], []⟩) R s := by
  intro n
  induction n with
  | zero =>
    intro W' i s gs hsz hgs hgo hst
    have go := hgo (s.setGen g .running) (by obtain ⟨σ, H, I, r⟩ := hst; exact ⟨σ, H, inv_gen I rfl, r⟩)
    obtain ⟨σ, H, I, st⟩ := hst
    refine codeAny_builtin F.entry_all_loop ?_
    rw [Around.under_plainId F.plain_all_loop _]
    show wpAny _ B.in1 (pyNext (.ref a) >>= _) _ _ s
    refine wpAny_bind (wpAny_gsz hsz (wpAny_pyNext_genexpQ (A := B.in1) (P := GFin X ip Fin) hh I.nolimit hroom (hgen s σ H I) hgs go (fun v s₁ gs' hb hv => ?_) (fun s₁ hp h' hk => ?_)))
    · obtain ⟨y, σ', H', i', m', rv, hm, I', st', nf', hz, kap⟩ := hv
      obtain ⟨b, ey, hz⟩ := hz
      subst ey
      obtain rfl : v = Value.bool b := rv
      intro hs'
      refine wpAny_bind (wpAny_holding (wpAny_truthy_bool ?_))
      refine wpAny_bind (wpAny_letGo ?_)
      cases b with
      | true =>
        obtain ⟨m2, hm2, _⟩ := hz
        exact absurd hm2 (by omega)
      | false =>
        simp only [Bool.false_eq_true, if_false]
        exact wpAny_bind (wpAny_rule (wpAny_pure (hF _ σ' H' (inv_gen I' hb) hz)))
    · obtain ⟨σ', H', I', fin⟩ := hp
      intro hs'
      refine wpAny_bind (wpAny_rule (wpAny_pure ?_))
      exact hT _ σ' H' ((inv_gen (g := g) (x := .finished) I' rfl).kept (t' := s₁.toks) hk) fin
  | succ n ih =>
    intro W' i s gs hsz hgs hgo hst
    have go := hgo (s.setGen g .running) (by obtain ⟨σ, H, I, r⟩ := hst; exact ⟨σ, H, inv_gen I rfl, r⟩)
    obtain ⟨σ, H, I, st⟩ := hst
    refine codeAny_builtin F.entry_all_loop ?_
    rw [Around.under_plainId F.plain_all_loop _]
    show wpAny _ B.in1 (pyNext (.ref a) >>= _) _ _ s
    refine wpAny_bind (wpAny_gsz hsz (wpAny_pyNext_genexpQ (A := B.in1) (P := GFin X ip Fin) hh I.nolimit hroom (hgen s σ H I) hgs go (fun v s₁ gs' hb hv => ?_) (fun s₁ hp h' hk => ?_)))
    · obtain ⟨y, σ', H', i', m', rv, hm, I', st', nf', hz, kap⟩ := hv
      obtain ⟨b, ey, hz⟩ := hz
      subst ey
      obtain rfl : v = Value.bool b := rv
      intro hs'
      refine wpAny_bind (wpAny_holding (wpAny_truthy_bool ?_))
      refine wpAny_bind (wpAny_letGo ?_)
      cases b with
      | true =>
        obtain ⟨m2, hm2, w2⟩ := hz
        simp only [if_true]
        refine wpAny_pure ⟨plainId_quiet F.plain_all_loop _, ih (W (i' + 1) m2) (i' + 1) _ gs' hs' ?_ (fun s'' hst2 => kap s'' m2 hm2 hst2) ⟨σ', H', inv_gen I' hb, st', nf', w2⟩⟩
        rw [setGen_size] at hs'
        simp only [Shared.setGen]
        rw [Array.getElem?_setIfInBounds_self_of_lt (by omega)]
      | false =>
        simp only [Bool.false_eq_true, if_false]
        exact wpAny_bind (wpAny_rule (wpAny_pure (hF _ σ' H' (inv_gen I' hb) hz)))
    · obtain ⟨σ', H', I', fin⟩ := hp
      intro hs'
      refine wpAny_bind (wpAny_rule (wpAny_pure ?_))
      exact hT _ σ' H' ((inv_gen (g := g) (x := .finished) I' rfl).kept (t' := s₁.toks) hk) fin
end

/-! ### the expression is made -/
/-- the generator's object -/
abbrev gObj (g : Nat) (q : Str) (t1 t2 : Tok) : Obj := { cls := .type "generator", data := .fields #[.int g 0, .str "<genexpr>" t1, .str q t2] }
/-- made, not begun: s4, H2 in the def's context; the generator stands at a -/
structure Made (X : Cx) (pins : List (Addr × Obj)) (σ : L2.St) (Ng : List Str) (src : List (Option Nat)) (elt tg iter : Expr) (ifs : List Expr) (scope : Scope) (gpos : Pos) (J : It) (H2 : Hp) (s4 s5 : Shared) (a : Addr) (code : Value) (it : Addr) (fp : List Addr) (tn : Nat → Heap → Prop) (go : Obj) : Prop where
  inv : Inv X pins σ H2 s4
  turn : Turn X.prog X.w X.K tg J fp it tn
  fpk : ∀ b ∈ fp, FpOk X pins H2 b
  ne : ∀ b ∈ fp, a ≠ b
  gen : ∃ t1 t2, go = gObj s4.gens.size (X.env.qual ++ "<genexpr>") t1 t2
  inG : ∀ A : Around, A.handled = none → A.frames = some (gEnv X scope s4.heap.objs.size code :: X.stack) → Inv (gCx X Ng A (gEnv X scope s4.heap.objs.size code) s4 H2 fp) [(a, go)] (stG src σ) H2 s5
  at0 : tn 0 s5.heap
  gs : s5.gens[s4.gens.size]? = some (.fresh (.compStart (.GeneratorExp elt [⟨tg, iter, ifs, 0⟩] scope gpos) 0 (.ref it) .none (gEnv X scope s4.heap.objs.size code)))
  sz : s4.gens.size + 1 ≤ s5.gens.size
theorem gObj_isGen {h : Heap} {a : Addr} {g : Nat} {q : Str} {t1 t2 : Tok} (e : h.get? a = some (gObj g q t1 t2)) : h.IsGen a g := ⟨_, _, _, e, rfl, rfl, rfl⟩
section
variable {X : Cx} {pins : List (Addr × Obj)} {σ : L2.St} {H : Hp} {s : Shared}
theorem gen_make {T : List (Addr × Str)} {c P : Addr} {k : Nat} {Ng : List Str} {src : List (Option Nat)} {elt tg iter : Expr} {ifs : List Expr} {scope : Scope} {gpos : Pos} {wi : TI} {R : It → Hp → Prop} {Q : Value → Shared → Prop}
    (hr : Room k X.A) (TB : LamX.TabB X.base X.mg c P) (hcode : X.env.code = .ref c) (hmT : (P, X.env.qual ++ "<genexpr>") ∈ T) (hu : ∀ p ∈ T, p.1 = P → p.2 = X.env.qual ++ "<genexpr>")
    (S : GSc X.N X.env.scope Ng src scope) (hi : PI X tg iter wi) (hs : ∀ v, genFold iter X.env v = pure v) (I : Inv X pins σ H s)
    (h : wi σ H fun J H1 => LamX.Tabs T H1 ∧ ∀ H2, LamX.ExtN H1 H2 → LamX.Tabs T H2 → R J H2)
    (hQ : ∀ J H2 s4 s5 a code it fp tn go, R J H2 → Made X pins σ Ng src elt tg iter ifs scope gpos J H2 s4 s5 a code it fp tn go → Q (.ref a) s5) :
    wpAny (model X.prog X.w) X.A (eval (.GeneratorExp elt [⟨tg, iter, ifs, 0⟩] scope gpos) X.env) Q X.xe s := by
  have hfree : ∀ y ∈ scope.names, y.2 = .free → ∃ c, X.env.cells.lookup y.1 = some c := fun y hy e => by
    rcases S.free y hy e with q | q
    · exact I.ok.has _ (.inl q)
    · exact I.ok.has _ (.inr q)
  refine wpAny_GeneratorExp_make S.co (closure_ok hfree) S.cell S.dot S.kind (by have := hr.dp; omega) ?_ hs
  refine thn (hi.run pins s σ H _ I h) fun xv s1 hx => thn hx fun itv s2 h2 => ?_
  obtain ⟨it, fp, tn, J, H1, e, I1, Tn, st, fk, tabs, hR⟩ := h2
  subst e
  obtain ⟨ps, hP, htr, ha⟩ := tabs _ hmT
  have hPs : s2.heap.get? P = some { cls := .none, data := .fields ps } := I1.hok P _ hP
  have cd : PySem.W.CodeHd s2.heap c P := TB.code.keeps I1.bk
  refine ⟨I1.nolimit, ?_⟩
  have nP : ∀ b ∈ fp, b ≠ P := fun b hb => ne_of_none' (fk b hb).1 hP
  -- once the code object is there
  have cont : ∀ (code : Value) (H2 : Hp) (s3 : Shared), Inv X pins σ H2 s3 → LamX.ExtN H1 H2 → LamX.Tabs T H2 → (∀ b ∈ fp, H2 b = none) → (∀ b ∈ fp, ∀ o, s2.heap.get? b = some o → s3.heap.get? b = some o) →
      wpAny (model X.prog X.w) X.A (builtinsFor X.env.globals X.env.builtins) (fun bi s₄ => ∀ h', h'.Ns s₄.heap.objs.size (fun y => if y = ".0" then some (.ref it) else none) → Heap.SameBut s₄.heap.objs.size (s₄.heap.push { cls := .type "frame", data := .dict #[] }) h' →
          Q (.ref h'.objs.size) { s₄ with
            gens := s₄.gens.push (.fresh (.compStart (.GeneratorExp elt [⟨tg, iter, ifs, 0⟩] scope gpos) 0 (.ref it) .none (genEnv scope (cloFrom X.env.cells scope.names []) s₄.heap.objs.size code bi X.env)))
            toks := s₄.toks + 1 + 1 + 1
            heap := h'.push (gObj s₄.gens.size (X.env.qual ++ "<genexpr>") (s₄.toks + 1) (s₄.toks + 1 + 1)) }) X.xe s3 := by
    intro code H2 s3 I3 eN T3 nf kf
    obtain ⟨bm, ob, b1, b2, _, b4, b5, b6, b7, b8⟩ := TB.bm.keeps I3.bk
    refine wpAny_builtinsFor (m := X.mg) (by rw [I3.ok.glob]; exact I3.mod.glob.keeps I3.bk) b1 b2 b5 b6 b7 b8 fun h' hn hsb => ?_
    have kp : ∀ b o, s3.heap.get? b = some o → h'.get? b = some o := fun b o e => hsb.extBut b o (Nat.ne_of_lt (Heap.lt_size e)) (Heap.get?_push_of_some _ e)
    have hsz : h'.objs.size = s3.heap.objs.size + 1 := by rw [hsb.1, Heap.size_push]
    have kp5 : ∀ b o, s3.heap.get? b = some o → (h'.push (gObj s3.gens.size (X.env.qual ++ "<genexpr>") (s3.toks + 1) (s3.toks + 1 + 1))).get? b = some o := fun b o e => Heap.get?_push_of_some _ (kp b o e)
    have lt3 : ∀ b ∈ fp, b < s3.heap.objs.size := fun b hb => by
      obtain ⟨o, e, _⟩ := Tn.obj _ _ st b hb
      exact Heap.lt_size (kf b hb o e)
    have hlt : s3.heap.objs.size ≤ h'.objs.size := by omega
    refine hQ J H2 s3 _ h'.objs.size code it fp tn (gObj s3.gens.size (X.env.qual ++ "<genexpr>") (s3.toks + 1) (s3.toks + 1 + 1)) (hR H2 eN T3) ⟨I3, Tn, fun b hb => ⟨nf b hb, (fk b hb).2⟩, fun b hb z => ?_, ⟨s3.toks + 1, s3.toks + 1 + 1, rfl⟩, fun A hA hfr => ?_, ?_, ?_, ?_⟩
    · have q := lt3 b hb
      rw [← z] at q
      exact absurd q (Nat.not_lt.mpr hlt)
    · have J0 := g_start (g' := s3.gens.push (.fresh (.compStart (.GeneratorExp elt [⟨tg, iter, ifs, 0⟩] scope gpos) 0 (.ref it) .none (gEnv X scope s3.heap.objs.size code)))) (tk := s3.toks + 1 + 1 + 1) I3 S (fun b hb => ⟨nf b hb, (fk b hb).2⟩) lt3 hA hfr (hn.push (gObj s3.gens.size (X.env.qual ++ "<genexpr>") (s3.toks + 1) (s3.toks + 1 + 1))) kp5 (I3.bare.push rfl)
      refine inv_pin J0 (Heap.get?_push_size _ rfl) (I3.hok.fresh hlt) (show h'.objs.size ≠ s3.heap.objs.size by omega) (fun z => ?_) fun v z => by cases z
      have z : h'.objs.size ∈ frs X.stack := z
      rcases List.mem_cons.mp (I3.stkSub _ z) with q | q
      · have q2 := I3.lt
        rw [← q] at q2
        exact absurd q2 (Nat.not_lt.mpr hlt)
      · exact I3.nofs hlt q
    · exact Tn.keep _ _ _ st fun b hb o e => kp5 b o (kf b hb o e)
    · show (s3.gens.push _)[s3.gens.size]? = _
      rw [Array.getElem?_push_size]
    · show s3.gens.size + 1 ≤ (s3.gens.push _).size
      rw [Array.size_push]
      exact Nat.le_refl _
  cases hf : codeAmong gpos ps.toList with
  | some cv =>
    refine wpAny_genexprCode_hit hcode (cd.code hPs htr) hf ?_
    exact cont cv H1 s2 I1 (LamX.ExtN.refl _) tabs (fun b hb => (fk b hb).1) fun _ _ _ e => e
  | none =>
    refine wpAny_genexprCodeX hcode (cd.code hPs htr) (cd.tab hPs) hf fun c' h' tk hx hge hclt _ hrec htab _ => ?_
    obtain ⟨c2, oc, vs, t, e2, hoc, hd, hv⟩ := hrec
    cases e2
    have I3 := LamX.inv_table (t' := tk) (more := #[rawInt gpos.line, rawInt gpos.col, .ref c']) (h' := h') I1 hP hx htab.2 hge ⟨oc, vs, t, hoc, hd, hv⟩
    have nC : H1 c' = none := I1.hok.fresh hge
    have hE : LamX.ExtN H1 (upd (upd H1 P (.tbl (ps ++ #[rawInt gpos.line, rawInt gpos.col, .ref c']))) c' (LamX.CodeO c' (X.env.qual ++ "<genexpr>"))) := fun b o e n => by
      rw [upd_ne (ne_of_none e nC), upd_ne (fun z => n ps (Option.some.inj (e.symm.trans (by rw [z]; exact hP))))]
      exact e
    have eL : (ps ++ #[rawInt gpos.line, rawInt gpos.col, Value.ref c']).toList = ps.toList ++ [rawInt gpos.line, rawInt gpos.col, .ref c'] := by simp
    refine cont (.ref c') _ _ I3 hE (fun p hp => ?_) (fun b hb => ?_) fun b hb o e => hx b o (nP b hb) e
    · by_cases hb : p.1 = P
      · rw [hu p hp hb, hb]
        refine ⟨_, by rw [upd_ne (ne_of_none hP nC), upd_same], by rw [eL]; exact PySem.TriplesOk_snoc _ _ _ _ htr, fun p' cv hcv => ?_⟩
        rw [eL] at hcv
        rcases LamX.among_app _ htr hcv with z | z
        · obtain ⟨c0, e1, e2⟩ := ha p' cv z
          exact ⟨c0, e1, hE _ _ e2 LamX.codeO_ne⟩
        · exact ⟨c', z, upd_same⟩
      · obtain ⟨ps', a1, a2, a3⟩ := tabs p hp
        refine ⟨ps', by rw [upd_ne (ne_of_none a1 nC), upd_ne hb]; exact a1, a2, fun p' cv hcv => ?_⟩
        obtain ⟨c0, e1, e2⟩ := a3 p' cv hcv
        exact ⟨c0, e1, hE _ _ e2 LamX.codeO_ne⟩
    · obtain ⟨o, e, _⟩ := Tn.obj _ _ st b hb
      rw [upd_ne (Nat.ne_of_lt (Nat.lt_of_lt_of_le (Heap.lt_size e) hge)), upd_ne (nP b hb)]
      exact (fk b hb).1
/-- the around of the expression's parts -/
abbrev gA (X : Cx) (elt tg iter : Expr) (ifs : List Expr) (scope : Scope) (gpos : Pos) (it : Addr) (env : Env) : Around := X.A.in1.in1.over (.compLoop (.GeneratorExp elt [⟨tg, iter, ifs, 0⟩] scope gpos) 0 (.ref it) .none env) []
def tAllG (T : List (Addr × Str)) (src : List (Option Nat)) (wi : TI) (g : TG) (tt : TT) (te : TE) : TE := fun σ H Q => wi σ H fun J H1 => LamX.Tabs T H1 ∧ ∀ H2, LamX.ExtN H1 H2 → LamX.Tabs T H2 →
  ∃ W, (∃ m, W 0 m (stG src σ) H2) ∧ GTurn J g tt te W (fun _ H' => Q (.bl true) H') (ZAll fun H' => Q (.bl false) H')
/-- all(elt for tg in iter if ..) -/
theorem pe_allG {T : List (Addr × Str)} {c P : Addr} {k : Nat} {Ng : List Str} {src : List (Option Nat)} {elt tg iter : Expr} {ifs : List Expr} {scope : Scope} {p pos gpos : Pos} {wi : TI} {g : TG} {tt : TT} {te : TE}
    (hr : Room (k + 1) X.A) (hg : Gl X "all") (hm : X.mg "all" = none) (TB : LamX.TabB X.base X.mg c P) (hcode : X.env.code = .ref c) (hmT : (P, X.env.qual ++ "<genexpr>") ∈ T) (hu : ∀ p ∈ T, p.1 = P → p.2 = X.env.qual ++ "<genexpr>")
    (S : GSc X.N X.env.scope Ng src scope) (hi : PI X tg iter wi)
    (pg : ∀ (A : Around) (C : Addr) (code : Value) (s : Shared) (H : Hp) (fp : List Addr), Room k A → PG (gCx X Ng A (gEnv X scope C code) s H fp) tg g)
    (pt : ∀ (A : Around) (C : Addr) (code : Value) (s : Shared) (H : Hp) (fp : List Addr), Room k A → PTs (gCx X Ng A (gEnv X scope C code) s H fp) ifs tt)
    (pe : ∀ (A : Around) (C : Addr) (code : Value) (s : Shared) (H : Hp) (fp : List Addr), Room k A → PE (gCx X Ng A (gEnv X scope C code) s H fp) elt te)
    (hb : bootBuiltins "all" = some (.builtin "all") := by decide +kernel) (hs : ∀ v, genFold iter X.env v = pure v := by intro _; rfl)
    (he : starEach [.GeneratorExp elt [⟨tg, iter, ifs, 0⟩] scope gpos] X.env = (false, eval (.GeneratorExp elt [⟨tg, iter, ifs, 0⟩] scope gpos) X.env) :: starEach [] X.env := by rfl) :
    PE X (.Call (.Name "all" p) [.GeneratorExp elt [⟨tg, iter, ifs, 0⟩] scope gpos] [] pos) (tAllG T src wi g tt te) := by
  refine ⟨fun pins s σ H Q I h => ?_⟩
  refine wpAny_Call_Name_kw (ld_blt I hg hm hb ?_)
  refine PyProof.Rows.callWith_builtin1 ?_ he (by rfl)
  rw [he]
  show wpAny _ _ (spliced ((false, eval (.GeneratorExp elt [⟨tg, iter, ifs, 0⟩] scope gpos) X.env) :: backTo pos (starEach [] X.env))) _ _ s
  refine Calls.spliced_cons (gen_make (Ng := Ng) (src := src) (hr.mono (Nat.le_succ k)) TB hcode hmT hu S hi hs I h fun J H2 s4 s5 a code it fp tn go hR M => ?_)
  obtain ⟨W, ⟨m, w0⟩, turn⟩ := hR
  refine Calls.spliced_nil ?_
  obtain ⟨t1, t2, ego⟩ := M.gen
  have hfr : (gA X elt tg iter ifs scope gpos it (gEnv X scope s4.heap.objs.size code)).frames = some (gEnv X scope s4.heap.objs.size code :: X.stack) := by
    show pushEnvs [gEnv X scope s4.heap.objs.size code] X.A.frames = _
    rw [M.inv.ok.frames]
    rfl
  have hrA : Room k (gA X elt tg iter ifs scope gpos it (gEnv X scope s4.heap.objs.size code)) := by
    refine ⟨hr.hd, ?_, ?_⟩
    · have := hr.dp
      show X.A.depth + 1 + 3 * k + 5 < _
      omega
    · have := hr.un
      show X.A.units + 1 + 1 + 3 + 16 * k + 200 < _
      omega
  have IG := M.inG (gA X elt tg iter ifs scope gpos it (gEnv X scope s4.heap.objs.size code)) hr.hd hfr
  have isG : ∀ s' σ' H', Inv (gCx X Ng (gA X elt tg iter ifs scope gpos it (gEnv X scope s4.heap.objs.size code)) (gEnv X scope s4.heap.objs.size code) s4 H2 fp) [(a, go)] σ' H' s' → s'.heap.IsGen a s4.gens.size := fun s' σ' H' I' => by
    have e := (I'.pin (a, go) (List.mem_append_right _ (List.mem_singleton.mpr rfl))).1
    rw [ego] at e
    exact gObj_isGen e
  have back : ∀ (s' : Shared) (σ' : L2.St) (H' : Hp) (b : Bool), Inv (gCx X Ng (gA X elt tg iter ifs scope gpos it (gEnv X scope s4.heap.objs.size code)) (gEnv X scope s4.heap.objs.size code) s4 H2 fp) [(a, go)] σ' H' s' → Q (.bl b) H' → EP X pins σ Q (.bool b) s' := fun s' σ' H' b I' q =>
    ⟨.bl b, H', M.inv.call' (ch := fp) I'.os I'.base I'.hok I'.bare fun x hx => ⟨(M.fpk x hx).2.2.2.1, (M.fpk x hx).2.1, (M.fpk x hx).2.2.2.2.1, (M.fpk x hx).2.2.2.2.2⟩, rfl, q⟩
  refine call_function_tree F.kind_all F.plain_all F.entry_all (F.args_all1 _) ?_
  unfold Builtin.«all»
  refine wpAny_bind (m := oneArg "all" _) (wpAny_pure (wpAny_bind (wpAny_pyIter_gen (isG _ _ _ IG) (wpAny_pure ⟨plainId_quiet F.plain_all_loop _, ?_⟩))))
  have begun : ∀ s'', GSt (gCx X Ng (gA X elt tg iter ifs scope gpos it (gEnv X scope s4.heap.objs.size code)) (gEnv X scope s4.heap.objs.size code) s4 H2 fp) [(a, go)] fp tn (W 0 m) 0 s'' →
      (GenState.fresh (.compStart (.GeneratorExp elt [⟨tg, iter, ifs, 0⟩] scope gpos) 0 (.ref it) .none (gEnv X scope s4.heap.objs.size code))).Goes (model X.prog X.w) X.A.in1.in1 (GEnd (gCx X Ng (gA X elt tg iter ifs scope gpos it (gEnv X scope s4.heap.objs.size code)) (gEnv X scope s4.heap.objs.size code) s4 H2 fp) [(a, go)] (fun _ H' => Q (.bl true) H')) (GPr (gCx X Ng (gA X elt tg iter ifs scope gpos it (gEnv X scope s4.heap.objs.size code)) (gEnv X scope s4.heap.objs.size code) s4 H2 fp) [(a, go)] fp tn W (ZAll fun H' => Q (.bl false) H')) (m + 1) (.send .none) s'' := fun s'' hst =>
    ⟨rfl, seg_begin (X := gCx X Ng (gA X elt tg iter ifs scope gpos it (gEnv X scope s4.heap.objs.size code)) (gEnv X scope s4.heap.objs.size code) s4 H2 fp) rfl rfl rfl rfl M.turn (fun p hp b hb => by
      have : p = (a, go) := List.mem_singleton.mp (show p ∈ [(a, go)] from hp)
      rw [this]
      exact M.ne b hb) (pg _ _ _ _ _ _ hrA) (pt _ _ _ _ _ _ hrA) (pe _ _ _ _ _ _ hrA) S.co turn (Nat.lt_succ_self m) hst⟩
  exact all_loop (X := gCx X Ng (gA X elt tg iter ifs scope gpos it (gEnv X scope s4.heap.objs.size code)) (gEnv X scope s4.heap.objs.size code) s4 H2 fp) (ip := [(a, go)]) (fp := fp) (tn := tn) (W := W) (Fin := fun _ H' => Q (.bl true) H') (Qf := fun H' => Q (.bl false) H') (g := s4.gens.size)
    hr.hd (by have := hr.dp; omega) isG (fun s' σ' H' I' q => back s' σ' H' true I' q) (fun s' σ' H' I' q => back s' σ' H' false I' q) (m + 1) (W 0 m) 0 s5 _ M.sz M.gs begun ⟨stG src σ, H2, IG, M.at0, fun b hb => (M.fpk b hb).1, w0⟩
end

theorem zall_mono {Qf : Hp → Prop} (N N' : L2.St → Hp → Prop) (h : ∀ σ H, N σ H → N' σ H) (y : V) (σ : L2.St) (H : Hp) (z : ZAll Qf N y σ H) : ZAll Qf N' y σ H := by
  obtain ⟨b, e, q⟩ := z
  refine ⟨b, e, ?_⟩
  cases b with
  | true => exact h _ _ q
  | false => exact q
/-- the turns of all over a walk: Pv by the turn, the slots and the heap -/
theorem all_by {J : It} {n : Nat} {G : Hp → Prop} {Y : Nat → Hp → V → Hp → Prop} (w : Walk J n G Y) {g : TG} {tt : TT} {te : TE} {σ : L2.St} {H : Hp} {Q : VK} (Pv : Nat → L2.St → Hp → Prop) (h0 : Pv 0 σ H) (hG : ∀ i σ H, i ≤ n → Pv i σ H → G H)
    (hs : ∀ i x σ H H', i < n → Pv i σ H → Y i H x H' → g x σ H' fun σ2 H2 => tt σ2 H2 fun ok H3 => if ok = true then te σ2 H3 fun y H4 => ∃ b, y = .bl b ∧ (if b = true then Pv (i + 1) σ2 H4 else Q (.bl false) H4) else Pv (i + 1) σ2 H3)
    (hd : ∀ σ H, Pv n σ H → Q (.bl true) H) : ∃ W : Nat → Nat → L2.St → Hp → Prop, (∃ m, W 0 m σ H) ∧ GTurn J g tt te W (fun _ H' => Q (.bl true) H') (ZAll fun H' => Q (.bl false) H') := by
  refine ⟨fun i m σ H => m = n - i ∧ i ≤ n ∧ Pv i σ H, ⟨n, by simp, Nat.zero_le _, h0⟩, zall_mono, ?_⟩
  rintro i m σ H ⟨rfl, hi, p⟩
  have q := hG i σ H hi p
  by_cases hlt : i < n
  · exact .inr ⟨w.goes i H hlt q, Pv (i + 1), fun σ' H' p' => ⟨n - (i + 1), by omega, rfl, hlt, p'⟩, fun x H' y => hs i x σ H H' hlt p (w.yields i H x H' hlt q y)⟩
  · have e : i = n := by omega
    subst e
    exact .inl ⟨w.stops H q, hd σ H p⟩
/-- .. of a list's items: f their truths -/
theorem all_in {α : Type} {J : It} {xs : List α} {G : Hp → Prop} {Y : Nat → Hp → V → Hp → Prop} (w : Walk J xs.length G Y) {g : TG} {te : TE} {σ : L2.St} {H : Hp} {Q : VK} (f : α → Bool) (Pv : L2.St → Hp → Prop) (h0 : Pv σ H) (hG : ∀ σ H, Pv σ H → G H)
    (hs : ∀ i a x σ H H', xs[i]? = some a → Pv σ H → Y i H x H' → ∀ (R : Bool → L2.St → Hp → Prop), (∀ σ2 H4, Pv σ2 H4 → R (f a) σ2 H4) → g x σ H' fun σ2 H2 => te σ2 H2 fun y H4 => ∃ b, y = .bl b ∧ R b σ2 H4)
    (hd : ∀ σ H, Pv σ H → Q (.bl (xs.all f)) H) : ∃ W : Nat → Nat → L2.St → Hp → Prop, (∃ m, W 0 m σ H) ∧ GTurn J g tYes te W (fun _ H' => Q (.bl true) H') (ZAll fun H' => Q (.bl false) H') := by
  refine all_by w (fun i σ H => Pv σ H ∧ ∀ a ∈ xs.take i, f a = true) ⟨h0, fun a ha => by simp at ha⟩ (fun i σ H _ p => hG σ H p.1) (fun i x σ H H' hi p y => ?_) fun σ H p => ?_
  · have ei : xs[i]? = some xs[i] := List.getElem?_eq_getElem hi
    refine hs i xs[i] x σ H H' ei p.1 y (fun b σ2 H4 => if b = true then Pv σ2 H4 ∧ ∀ a ∈ xs.take (i + 1), f a = true else Q (.bl false) H4) fun σ2 H4 p4 => ?_
    cases e : f xs[i] with
    | true =>
      refine ⟨p4, fun a ha => ?_⟩
      rw [List.take_add_one, ei] at ha
      rcases List.mem_append.mp ha with q | q
      · exact p.2 a q
      · rw [List.mem_singleton.mp q]; exact e
    | false =>
      have q := hd _ _ p4
      have e2 : xs.all f = false := by
        rw [List.all_eq_false]
        exact ⟨xs[i], List.getElem_mem hi, by rw [e]; simp⟩
      rw [e2] at q
      exact q
  · have e : xs.all f = true := by
      rw [List.all_eq_true]
      intro a ha
      refine p.2 a ?_
      rw [List.take_length]
      exact ha
    have q := hd _ _ p.1
    rw [e] at q
    exact q
end Gx

set_option Elab.async false
set_option linter.all false
set_option maxRecDepth 100000
set_option maxHeartbeats 4000000
namespace Bk
open PySem PySem.Spec PyProof.Rows L2
/-! ### a def of the top by its name -/
section
variable (P : Program) (w : World) (K : PySem.W.Frag) (mg : Str → Option Value) (base : Heap)
/-- the def of this name keeps the promise sp -/
def Has (CX : CXT) (k : Nat) (x : Str) (ps : List Str) (sp : Sp) : Prop :=
  ∃ fd, Binds K fd ps [] ∧ PySem.W.keepIn K (.ref (He.ga K x)) = true ∧ mg x = some (.ref (He.ga K x)) ∧ FnOk P w K mg base CX k (He.ga K x) fd ps sp ∧ ∃ oc od osl, K.lookup (He.ga K x) = some ⟨oc, od, .func fd, osl⟩
/-- it stands there, as the text has it -/
def At (x : Str) (st : Stmt) : Prop := mg x = some (.ref (He.ga K x)) ∧ ∃ fd, FunD K x x (defArgs st) (defBody st) (defScope st) [] [] (He.ga K x) fd
end
abbrev cdv (K : PySem.W.Frag) (x : Str) : Value := .ref (He.codeOf K (x, none))
section
variable {P : Program} {w : World} {K : PySem.W.Frag} {mg : Str → Option Value} {base : Heap}
theorem At.ok {CX : CXT} {x : Str} {st : Stmt} {N ps : List Str} {k : Nat} {sp : Sp} (F : At K mg x st) (S : FnScope N ps (defScope st))
    (hb : ∀ (kV doc pm : Value) (an : Option Addr) (cd ct : Value) (us : List Value), us.length = ps.length → bindArgs (PySem.W.fnOf x x (defArgs st) (defBody st) (defScope st) .none kV doc pm an cd ct) ⟨us, []⟩ = pure (ps.zip us))
    (len : ∀ vs H Q E, sp vs H Q E → vs.length = ps.length)
    (hbody : ∀ (A : Around) (outer : List Env) (s : Shared) (H : Hp) (vs : List V) (Q : VK) (E : XK), Room k (A.deeper (envOfC x (defScope st) s.heap.objs.size (He.ga K x) (cdv K x))) → sp vs H Q E →
      ∃ t, PSs (cxOf CX P w K mg base N x (defScope st) (He.ga K x) (cdv K x) A outer s H E) (defBody st) t ∧ t { nx := fun _ H' => Q .non H', rt := Q } (start N vs) H) : Has P w K mg base CX (k + 1) x ps sp := by
  obtain ⟨gm, fd, F⟩ := F
  have bn := F.bindsN hb
  have kp := F.kp
  obtain ⟨oc, od, dV, kV, doc, pm, an, cd, ct, osl, rfl, lk, hcd, _, _⟩ := F.ex
  refine ⟨_, bn, kp, gm, ?_, _, _, _, lk⟩
  obtain ⟨c, rfl⟩ := He.codeIn_ref hcd
  have e : He.codeOf K (x, none) = c := He.codeOf_eq (p := (x, none)) lk rfl
  refine fn_of lk hcd S len fun A outer s H vs Q E hr hsp => ?_
  have q := hbody A outer s H vs Q E
  rw [cdv, e] at q
  exact q hr hsp
/-- where nothing is raised -/
theorem At.ok0 {x : Str} {st : Stmt} {N ps : List Str} {k : Nat} {sp : Sp} (F : At K mg x st) (S : FnScope N ps (defScope st))
    (hb : ∀ (kV doc pm : Value) (an : Option Addr) (cd ct : Value) (us : List Value), us.length = ps.length → bindArgs (PySem.W.fnOf x x (defArgs st) (defBody st) (defScope st) .none kV doc pm an cd ct) ⟨us, []⟩ = pure (ps.zip us))
    (len : ∀ vs H Q E, sp vs H Q E → vs.length = ps.length)
    (hbody : ∀ (A : Around) (outer : List Env) (s : Shared) (H : Hp) (vs : List V) (Q : VK) (E : XK), Room k (A.deeper (envOfC x (defScope st) s.heap.objs.size (He.ga K x) (cdv K x))) → sp vs H Q E →
      ∃ t, PSs (cxOf CX0 P w K mg base N x (defScope st) (He.ga K x) (cdv K x) A outer s H E).nox (defBody st) t ∧ t { nx := fun _ H' => Q .non H', rt := Q } (start N vs) H) : Has P w K mg base CX0 (k + 1) x ps sp :=
  F.ok S hb len fun A outer s H vs Q E hr h => let ⟨t, h1, h2⟩ := hbody A outer s H vs Q E hr h; ⟨t, h1.nox, h2⟩
end
section
variable {X : Cx} {CX : CXT} {k : Nat} {x : Str} {ps : List Str} {sp : Sp} {E : XK}
/-- x(e, ..) -/
theorem Has.call {e : Expr} {es : List Expr} {t : TA} {p pos : Pos} (h : Has X.prog X.w X.K X.mg X.base CX k x ps sp) (hr : Room k X.A) (hx : Passes CX X E) (ha : PA X (e :: es) t) (hg : Gl X x := by rfl) (hdb : (x == ("__debug__" : Str)) = false := by decide)
    (he : starEach (e :: es) X.env = (false, eval e X.env) :: starEach es X.env := by rfl) (hpl : (backTo pos (starEach es X.env)).any (·.1) = false := by rfl) : PE X (.Call (.Name x p) (e :: es) [] pos) (tCall sp [] E t) := by
  obtain ⟨fd, b, kp, gm, F, _⟩ := h
  exact pe_call F hr hg gm kp b .nil hx ha hdb he hpl
theorem Has.mono {P : Program} {w : World} {K : PySem.W.Frag} {mg : Str → Option Value} {base : Heap} {j : Nat} (h : Has P w K mg base CX j x ps sp) (hk : j ≤ k) : Has P w K mg base CX k x ps sp := by
  obtain ⟨fd, b, kp, gm, F, lk⟩ := h
  exact ⟨fd, b, kp, gm, F.mono hk, lk⟩
/-- the function object is the one that stands there -/
theorem Has.fn {P : Program} {w : World} {K : PySem.W.Frag} {mg : Str → Option Value} {base : Heap} {fd : FuncData} {q : Str} {pr : Arguments} {bd : List Stmt} {sc : Scope} {dvs : List V} {kws : List (Str × V)} (h : Has P w K mg base CX k x ps sp) (F : FunD K x q pr bd sc dvs kws (He.ga K x) fd) :
    FnOk P w K mg base CX k (He.ga K x) fd ps sp := by
  obtain ⟨fd2, _, _, _, F2, oc, od, osl, lk⟩ := h
  obtain ⟨oc1, od1, dV, kV, doc, pm, an, cd, ct, osl1, _, lk1, _, _, _⟩ := F.ex
  rw [lk] at lk1
  injection lk1 with e
  injection e with e1 e2 e3 e4
  injection e3 with e5
  rw [← e5]
  exact F2
end
/-! ### heaps and tables -/
abbrev Tbs := List (Addr × Str)
/-- H' goes on from H: what stood stands, the tables of code objects may have grown -/
structure Gr (T : Tbs) (H H' : Hp) : Prop where
  ext : LamX.ExtN H H'
  tabs : LamX.Tabs T H'
theorem Gr.refl {T : Tbs} {H : Hp} (h : LamX.Tabs T H) : Gr T H H := ⟨LamX.ExtN.refl H, h⟩
theorem Gr.trans {T : Tbs} {H H1 H2 : Hp} (a : Gr T H H1) (b : Gr T H1 H2) : Gr T H H2 := ⟨a.ext.trans b.ext, b.tabs⟩
theorem Gr.new {T : Tbs} {H : Hp} (h : LamX.Tabs T H) {p : Addr} (hp : H p = none) (o : HO) : Gr T H (upd H p o) := by
  have e : ∀ b u, H b = some u → upd H p o b = some u := fun b u q => by rw [upd_ne (ne_of_none q hp)]; exact q
  exact ⟨LamX.ExtN.of e, h.ext e⟩
theorem Gr.lst {T : Tbs} {H H' : Hp} (g : Gr T H H') {a : Addr} {xs : List V} (h : H a = some (.lst xs)) : H' a = some (.lst xs) := g.ext a _ h (fun _ z => by cases z)
theorem Gr.tup {T : Tbs} {H H' : Hp} (g : Gr T H H') {a : Addr} {xs : List V} (h : H a = some (.tup xs)) : H' a = some (.tup xs) := g.ext a _ h (fun _ z => by cases z)
/-! ### any value, as far as isinstance with str asks -/
/-- a text that is not too long, None, an int, a bool, a list or a tuple -/
def AnyV (_ : PySem.W.Frag) (H : Hp) (x : V) : Prop := (∃ z, x = .str z ∧ z.length ≤ 1000) ∨ x = .non ∨ (∃ i, x = .int i) ∨ (∃ b, x = .bl b) ∨ ∃ a xs, x = .ref a ∧ (H a = some (.lst xs) ∨ H a = some (.tup xs))
theorem AnyV.gr {K : PySem.W.Frag} {T : Tbs} {H H' : Hp} {x : V} (g : Gr T H H') (h : AnyV K H x) : AnyV K H' x := by
  rcases h with h | h | h | h | ⟨a, xs, e, h | h⟩
  · exact .inl h
  · exact .inr (.inl h)
  · exact .inr (.inr (.inl h))
  · exact .inr (.inr (.inr (.inl h)))
  · exact .inr (.inr (.inr (.inr ⟨a, xs, e, .inl (g.lst h)⟩)))
  · exact .inr (.inr (.inr (.inr ⟨a, xs, e, .inr (g.tup h)⟩)))
theorem AnyV.isi {K : PySem.W.Frag} {H : Hp} {x : V} (h : AnyV K H x) : ∃ t b, TyX K H x t ∧ PySem.W.kitOne K t (.type "str") = some b ∧ ((b = true ∧ ∃ z, x = .str z ∧ z.length ≤ 1000) ∨ (b = false ∧ ∀ z, x ≠ .str z)) := by
  rcases h with ⟨z, rfl, hz⟩ | rfl | ⟨i, rfl⟩ | ⟨b, rfl⟩ | ⟨a, xs, rfl, h | h⟩
  · exact ⟨_, true, .base (.str z), kit_ty (by decide +kernel), .inl ⟨rfl, z, rfl, hz⟩⟩
  · exact ⟨_, false, .base .non, kit_ty (by decide +kernel), .inr ⟨rfl, fun z q => by cases q⟩⟩
  · exact ⟨_, false, .base (.int i), kit_ty (by decide +kernel), .inr ⟨rfl, fun z q => by cases q⟩⟩
  · exact ⟨_, false, .base (.bl b), kit_ty (by decide +kernel), .inr ⟨rfl, fun z q => by cases q⟩⟩
  · exact ⟨_, false, .base (.lst h), kit_ty (by decide +kernel), .inr ⟨rfl, fun z q => by cases q⟩⟩
  · exact ⟨_, false, .base (.tup h), kit_ty (by decide +kernel), .inr ⟨rfl, fun z q => by cases q⟩⟩
end Bk

set_option Elab.async false
set_option linter.all false
set_option maxRecDepth 100000
set_option maxHeartbeats 4000000
namespace Bk
open PySem PySem.Spec PyProof.Rows L2
/-! ### a list comprehension over any walk, each item of which makes one; all(..), any(..) of it -/
theorem lx_tabs {T : Tbs} {a : Addr} {H : Hp} {xs ys : List V} (t : LamX.Tabs T H) (h : H a = some (.lst xs)) : LamX.Tabs T (upd H a (.lst ys)) := by
  intro p hp
  obtain ⟨ps, h1, h2, h3⟩ := t p hp
  refine ⟨ps, ?_, h2, fun pos cv hc => ?_⟩
  · rw [upd_ne (fun e => by rw [e, h] at h1; cases h1)]; exact h1
  · obtain ⟨c, e1, e2⟩ := h3 pos cv hc
    refine ⟨c, e1, ?_⟩
    rw [upd_ne (fun e => by rw [e, h] at e2; cases e2)]
    exact e2
/-- a new list of one's own may change -/
theorem Gr.own1 {T : Tbs} {D : Addr} {H H' : Hp} {xs ys : List V} (g : Gr T H H') (hD : H D = none) (e : H' D = some (.lst xs)) : Gr T H (upd H' D (.lst ys)) := by
  refine ⟨fun b o h z => ?_, lx_tabs g.tabs e⟩
  rw [upd_ne (fun q => by rw [q, hD] at h; cases h)]
  exact g.ext b o h z
theorem lx_yes {σ : L2.St} {H : Hp} {A B : Hp → Prop} (h : A H) : tYes σ H fun b H3 => if b = true then A H3 else B H3 := by
  unfold tYes
  show (if true = true then A H else B H)
  rw [if_pos rfl]
  exact h
/-- the i-th item makes f of it; the list itself is not changed by the block -/
theorem lc_gr {T : Tbs} {α : Type} {J : It} {G : Hp → Prop} {Y : Nat → Hp → V → Hp → Prop} {xs : List α} (w : Walk J xs.length G Y) (f : α → V) {g : TG} {tt : TT} {te : TE} {vs : List Nat} {σ : L2.St} {H1 : Hp} {D : Addr} {Qd : Hp → Prop} (tb : LamX.Tabs T H1) (hD : H1 D = none) (hsz : xs.length ≤ sizeLine)
    (hG : ∀ H, Gr T H1 H → G H)
    (hs : ∀ i a x H H', xs[i]? = some a → Gr T H1 H → Y i H x H' → ∀ (Ok : V → Hp → Prop) (No : Hp → Prop), (∀ H4, Gr T H H4 → Ok (f a) H4) → g x (wipe σ vs) H' fun σ2 H2 => wipe σ2 vs = wipe σ vs ∧ tt σ2 H2 fun b H3 => if b = true then te σ2 H3 fun y H4 => Ok y H4 else No H3)
    (hd : ∀ H, Gr T H1 H → H D = some (.lst (xs.map f)) → Qd H) :
    ∃ W : Nat → Nat → Hp → Prop, (∃ m, W 0 m (upd H1 D (.lst []))) ∧ ∀ i m H, W i m H →
      (J.stop i H ∧ Qd H) ∨ (J.go i H ∧ ∃ Nx : Hp → Prop, (∀ H', Nx H' → ∃ m', m' < m ∧ W (i + 1) m' H') ∧ ∀ x H', J.yld i H x H' → g x (wipe σ vs) H' fun σ2 H2 => wipe σ2 vs = wipe σ vs ∧ tt σ2 H2 fun b H3 =>
        if b = true then te σ2 H3 fun y H4 => ∃ acc, H4 D = some (.lst acc) ∧ acc.length < sizeLine ∧ Nx (upd H4 D (.lst (acc ++ [y]))) else Nx H3) := by
  refine lc_it (n := xs.length) w (fun i H => Gr T H1 H ∧ H D = some (.lst ((xs.take i).map f))) ⟨Gr.new tb hD _, by rw [List.take_zero]; exact upd_same⟩ (fun i H _ p => hG H p.1) (fun i x H H' hi p y => ?_) fun H p => hd H p.1 (by rw [p.2, List.take_length])
  obtain ⟨a, ea⟩ : ∃ a, xs[i]? = some a := ⟨xs[i], by simp [hi]⟩
  refine hs i a x H H' ea p.1 y (fun y H4 => ∃ acc, H4 D = some (.lst acc) ∧ acc.length < sizeLine ∧ (Gr T H1 (upd H4 D (.lst (acc ++ [y]))) ∧ (upd H4 D (.lst (acc ++ [y]))) D = some (.lst ((xs.take (i + 1)).map f)))) _ fun H4 g4 => ?_
  have e4 := g4.lst p.2
  refine ⟨_, e4, ?_, (p.1.trans g4).own1 hD e4, ?_⟩
  · rw [List.length_map, List.length_take]
    exact Nat.lt_of_lt_of_le (Nat.lt_of_le_of_lt (Nat.min_le_left _ _) hi) hsz
  · rw [upd_same, List.take_succ, ea, List.map_append]
    rfl
theorem all_bl {α : Type} (xs : List α) (f : α → Bool) : (xs.map f).all id = xs.all f := by
  rw [List.all_map]; rfl
theorem any_bl {α : Type} (xs : List α) (f : α → Bool) : (xs.map f).any id = xs.any f := by
  rw [List.any_map]; rfl
theorem map_bl {α : Type} (xs : List α) (f : α → Bool) : xs.map (fun a => V.bl (f a)) = (xs.map f).map V.bl := by
  rw [List.map_map]; rfl
/-- its end, where all(..) asks it -/
theorem all_end {K : PySem.W.Frag} {α : Type} {xs : List α} {f : α → Bool} {H : Hp} {D : Addr} {Q : VK} (h : H D = some (.lst (xs.map fun a => V.bl (f a)))) (q : Q (.bl (xs.all f)) H) : rAll K [V.ref D] H Q :=
  ⟨D, xs.map f, rfl, SqL.of (by rw [h, map_bl]), by rw [all_bl]; exact q⟩
theorem any_end {K : PySem.W.Frag} {α : Type} {xs : List α} {f : α → Bool} {H : Hp} {D : Addr} {Q : VK} (h : H D = some (.lst (xs.map fun a => V.bl (f a)))) (q : Q (.bl (xs.any f)) H) : rAny K [V.ref D] H Q :=
  ⟨D, xs.map f, rfl, SqL.of (by rw [h, map_bl]), by rw [any_bl]; exact q⟩
end Bk

set_option Elab.async false
set_option linter.all false
set_option maxRecDepth 100000
set_option maxHeartbeats 4000000
namespace Bk
open PySem PySem.Spec PyProof.Rows L2
def top (i : Nat) : Stmt := PySem.Challenge.pw_heardonce_k14_whole_rules_left_out_and_r.main.body.getD i (.Pass ⟨0, 0, 0, 0⟩)
abbrev s_is_name : Stmt := top 10
abbrev s_is_topic : Stmt := top 11
abbrev s_is_wish : Stmt := top 12
/-- x's code object tells its table; it is told by T under the name q, there alone -/
structure Tb (K : PySem.W.Frag) (mg : Str → Option Value) (base : Heap) (T : Tbs) (x q : Str) : Prop where
  tb : LamX.TabB base mg (He.codeOf K (x, none)) (He.cT K (x, none)).2
  mem : ((He.cT K (x, none)).2, q) ∈ T
  un : ∀ p ∈ T, p.1 = (He.cT K (x, none)).2 → p.2 = q
/-! ### the mathematics of names -/
abbrev LETTERS : Str := "abcdefghijklmnopqrstuvwxyz"
def letB (c : Nat) : Bool := decide (c ∈ LETTERS.cps.toList)
def nameB (z : Str) : Bool := decide ((1 : Int) ≤ z.length) && (decide ((z.length : Int) ≤ 6) && z.cps.toList.all letB)
def nameV : V → Bool
  | .str z => nameB z
  | _ => false
theorem nameV_not {x : V} (h : ∀ z, x ≠ .str z) : nameV x = false := by
  cases x with
  | str z => exact absurd rfl (h z)
  | _ => rfl
def signB (c : Nat) : Bool := decide (c < 128) && (Unicode.isAlpha c && !(Unicode.isUpper c || Unicode.isTitle c))
theorem sign_few : (List.range 128).all (fun c => (signB c == letB c) && (!letB c || Unicode.isLower c)) = true := by decide +kernel
theorem let_few : LETTERS.cps.toList.all (fun c => decide (c < 128)) = true := by decide +kernel
theorem let_lt {c : Nat} (h : letB c = true) : c < 128 := of_decide_eq_true (List.all_eq_true.mp let_few c (of_decide_eq_true h))
theorem sign_let (c : Nat) : signB c = letB c := by
  by_cases h : c < 128
  · have q := List.all_eq_true.mp sign_few c (List.mem_range.mpr h)
    exact eq_of_beq (Bool.and_eq_true _ _ ▸ q).1
  · have e : letB c = false := by
      cases e : letB c with
      | false => rfl
      | true => exact absurd (let_lt e) h
    rw [e]
    unfold signB
    rw [decide_eq_false h]
    rfl
theorem let_low {c : Nat} (h : letB c = true) : Unicode.isLower c = true := by
  have q := (Bool.and_eq_true _ _ ▸ List.all_eq_true.mp sign_few c (List.mem_range.mpr (let_lt h))).2
  rw [h] at q
  exact q
/-- the three questions of a text that is not empty -/
theorem low_ok {z : Str} (h : 1 ≤ z.length) : (Txt.isascii z && (Txt.isalpha z && Txt.islower z)) = z.cps.toList.all letB := by
  have hl : z.cps.toList.length = z.length := by simp [Str.length]
  rw [Bool.eq_iff_iff]
  unfold Txt.isascii Txt.isalpha Txt.islower
  simp only [Bool.and_eq_true, Bool.not_eq_true', decide_eq_true_eq, ← Array.all_toList, ← Array.any_toList, List.all_eq_true, List.any_eq_true, List.any_eq_false]
  constructor
  · rintro ⟨h1, ⟨_, h2⟩, _, h3⟩ c hc
    rw [← sign_let]
    unfold signB
    have h3 := h3 c hc
    simp only [Bool.not_eq_true] at h3
    rw [h2 c hc, h3]
    simpa using h1 c hc
  · intro q
    refine ⟨fun c hc => by simpa using let_lt (q c hc), ⟨h, fun c hc => ?_⟩, ?_, fun c hc => ?_⟩
    · have := sign_let c
      rw [q c hc] at this
      unfold signB at this
      simp only [Bool.and_eq_true] at this
      exact this.2.1
    · cases e : z.cps.toList with
      | nil => rw [e] at hl; simp at hl; omega
      | cons c r => exact ⟨c, List.mem_cons_self, let_low (q c (by rw [e]; exact List.mem_cons_self))⟩
    · have := sign_let c
      rw [q c hc] at this
      unfold signB at this
      simp only [Bool.and_eq_true, Bool.not_eq_true'] at this
      simpa using this.2.2
/-- a def of one value that hands back a truth value, whatever the value; tables may grow -/
def spB (K : PySem.W.Frag) (T : Tbs) (f : V → Bool) : Sp := fun vs H Q _ => ∃ x, vs = [x] ∧ AnyV K H x ∧ LamX.Tabs T H ∧ ∀ H', Gr T H H' → Q (.bl (f x)) H'
theorem nd1 (x : Str) : [x].Nodup := by simp
section
variable {P : Program} {w : World} {K : PySem.W.Frag} {mg : Str → Option Value} {base : Heap} {T : Tbs}
theorem sc_is_name : FnScope ["value"] ["value"] (defScope s_is_name) := ⟨rfl, rfl, rfl, by decide +kernel, rfl, by decide +kernel, by decide +kernel⟩
theorem has_is_name (F : At K mg "is_name" s_is_name) (zi : mg "isinstance" = none) (zs : mg "str" = none) (zl : mg "len" = none) (cM : ∃ t, mg "MOST_LETTERS" = some (.int 6 t)) :
    Has P w K mg base CX0 2 "is_name" ["value"] (spB K T nameV) := by
  obtain ⟨tM, cM⟩ := cM
  refine F.ok0 sc_is_name (fun _ _ _ _ _ _ us hl => match us, hl with | [_], _ => rfl) (fun vs H Q E h => ?_) fun A outer s H vs Q E hr h => ?_
  · obtain ⟨x, rfl, _⟩ := h
    rfl
  obtain ⟨x, rfl, ax, tb, q⟩ := h
  refine ⟨_, pss_cons (ps_if (PW.pt (pw_or (pt_not (pt_val (pe_callB call_isi rfl zi boot_isinstance (pa_cons (pv 0) (pa_cons (pe_bltn (v := .ty "str") rfl zs boot_str rfl) pa_nil)))))
      (pw_or1 (pt_not (pt_chain op_le op_le pe_int (pe_callB call_len_str rfl zl PySem.boot_len (pa_cons (pv 0) pa_nil)) (pe_glob (v := .int 6) rfl cM ⟨_, rfl⟩)))))) (pss_one (ps_ret pe_bl)) pss_nil)
    (pss_one (ps_ret (pe_and (pe_bm0 PySem.F.plainAttrs_str PySem.F.slot_str_isascii PySem.F.type_str_isascii mt_isascii (pv 0)) (pe_and (pe_bm0 PySem.F.plainAttrs_str PySem.F.slot_str_isalpha PySem.F.type_str_isalpha mt_isalpha (pv 0))
      (pe_one (pe_bm0 PySem.F.plainAttrs_str PySem.F.slot_str_islower PySem.F.type_str_islower mt_islower (pv 0))))))), ?_⟩
  obtain ⟨t, b, ty, ki, hb⟩ := ax.isi
  refine ⟨x, rfl, x, .ty "str", t, _, b, rfl, .ty "str", ty, ki, b, rfl, ?_⟩
  rcases hb with ⟨rfl, z, rfl, hz⟩ | ⟨rfl, hz⟩
  · refine iteF ?_
    have hsz : z.length ≤ sizeLine := Nat.le_of_lt (small1000 hz)
    have fin : ∀ b, b = nameB z → Q (.bl b) H := fun b e => by
      have := q H (Gr.refl tb)
      rw [e]
      exact this
    refine ⟨_, rfl, z, rfl, hsz, _, _, rfl, rfl, _, rfl, ?_⟩
    cases e1 : decide ((1 : Int) ≤ z.length) with
    | false => exact iteF ⟨_, rfl, iteT (fin false (by unfold nameB; rw [e1]; rfl))⟩
    | true =>
      refine iteT ⟨_, _, rfl, rfl, _, rfl, ?_⟩
      cases e2 : decide ((z.length : Int) ≤ 6) with
      | false => exact fin false (by unfold nameB; rw [e1, e2]; rfl)
      | true =>
        skip
        have h1 : 1 ≤ z.length := by have := of_decide_eq_true e1; omega
        have el : nameB z = (Txt.isascii z && (Txt.isalpha z && Txt.islower z)) := by
          rw [low_ok h1]
          unfold nameB
          rw [e1, e2]
          rfl
        refine ⟨_, rfl, rfl, z, rfl, rfl, trivial, _, rfl, ?_⟩
        cases e3 : Txt.isascii z with
        | false => exact iteF (fin false (by rw [el, e3]; rfl))
        | true =>
          refine iteT ⟨_, rfl, rfl, z, rfl, rfl, trivial, _, rfl, ?_⟩
          cases e4 : Txt.isalpha z with
          | false => exact iteF (fin false (by rw [el, e3, e4]; rfl))
          | true => exact iteT ⟨_, rfl, rfl, z, rfl, rfl, trivial, fin _ (by rw [el, e3, e4]; rfl)⟩
  · refine iteT ?_
    have := q H (Gr.refl tb)
    rw [nameV_not hz] at this
    exact this
end
end Bk

set_option Elab.async false
set_option linter.all false
set_option maxRecDepth 100000
set_option maxHeartbeats 4000000
namespace Bk
open PySem PySem.Spec PyProof.Rows L2
/-! ### steps -/
def stepsOf (z : Str) : List Str := Txt.split z "/"
theorem tl_slash : TL.tl ("/" : Str) = [47] := TL.tl_ofString "/"
theorem stepsOf_tl (z : Str) : (stepsOf z).map TL.tl = TL.spl [47] 0 [] (TL.tl z) := by
  have h := TL.split_spl z "/" (by rw [tl_slash]; simp) (TL.kind_ok (by decide +kernel))
  rw [tl_slash] at h
  exact h
theorem spl_len (S : List Nat) : ∀ (l : List Nat) (k : Nat) (acc : List Nat), ∀ p ∈ TL.spl S k acc l, p.length ≤ acc.length + l.length := by
  intro l
  induction l with
  | nil =>
    intro k acc p hp
    rw [TL.spl_nil] at hp
    rw [List.mem_singleton.mp hp]
    exact Nat.le_add_right _ _
  | cons c r ih =>
    intro k acc p hp
    cases k with
    | succ k =>
      have := ih k acc p hp
      rw [List.length_cons]
      omega
    | zero =>
      cases e : TL.pre S (c :: r) with
      | true =>
        rw [TL.spl_hit e] at hp
        rcases List.mem_cons.mp hp with q | q
        · rw [q]; exact Nat.le_add_right _ _
        · have := ih _ _ p q
          rw [List.length_cons]
          simp at this
          omega
      | false =>
        rw [TL.spl_miss e] at hp
        have := ih _ _ p hp
        rw [List.length_append, List.length_singleton] at this
        rw [List.length_cons]
        omega
theorem spl_many (S : List Nat) : ∀ (l : List Nat) (k : Nat) (acc : List Nat), (TL.spl S k acc l).length ≤ l.length + 1 := by
  intro l
  induction l with
  | nil => intro k acc; rw [TL.spl_nil]; exact Nat.le_refl _
  | cons c r ih =>
    intro k acc
    cases k with
    | succ k => exact Nat.le_succ_of_le (ih k acc)
    | zero =>
      cases e : TL.pre S (c :: r) with
      | true => rw [TL.spl_hit e, List.length_cons]; exact Nat.succ_le_succ (ih _ _)
      | false => rw [TL.spl_miss e]; exact Nat.le_succ_of_le (ih _ _)
theorem spl_ne (S : List Nat) : ∀ (l : List Nat) (k : Nat) (acc : List Nat), TL.spl S k acc l ≠ [] := by
  intro l
  induction l with
  | nil => intro k acc; rw [TL.spl_nil]; simp
  | cons c r ih =>
    intro k acc
    cases k with
    | succ k => exact ih k acc
    | zero =>
      cases e : TL.pre S (c :: r) with
      | true => rw [TL.spl_hit e]; simp
      | false => rw [TL.spl_miss e]; exact ih _ _
theorem steps_len {z s : Str} (h : s ∈ stepsOf z) : s.length ≤ z.length := by
  have h2 : TL.tl s ∈ (stepsOf z).map TL.tl := List.mem_map_of_mem h
  rw [stepsOf_tl] at h2
  have := spl_len [47] (TL.tl z) 0 [] _ h2
  rw [TL.len_tl, TL.len_tl]
  simpa using this
theorem steps_many (z : Str) : (stepsOf z).length ≤ z.length + 1 := by
  have := spl_many [47] (TL.tl z) 0 []
  rw [← stepsOf_tl, List.length_map, ← TL.len_tl] at this
  exact this
theorem steps_ne (z : Str) : stepsOf z ≠ [] := fun e => spl_ne [47] (TL.tl z) 0 [] (by rw [← stepsOf_tl, e]; rfl)
theorem two_more {n : Nat} (h : n ≤ 1000) : n + 2 ≤ sizeLine := Nat.le_trans (Nat.add_le_add_right h 2) (by decide)
theorem list_str {K : PySem.W.Frag} (p : Addr) (l : List Str) : Walk (Itl K p) l.length (fun H => SqL K H p (l.map V.str)) (YAt (l.map V.str)) := by
  have w := walk_list (K := K) (a := p) (xs := l.map V.str)
  rw [List.length_map] at w
  exact w
def topicB (z : Str) : Bool := decide (((stepsOf z).length : Int) ≤ 5) && (stepsOf z).all nameB
def topicV : V → Bool
  | .str z => topicB z
  | _ => false
theorem topicV_not {x : V} (h : ∀ z, x ≠ .str z) : topicV x = false := by
  cases x with
  | str z => exact absurd rfl (h z)
  | _ => rfl
section
variable {P : Program} {w : World} {K : PySem.W.Frag} {mg : Str → Option Value} {base : Heap} {T : Tbs}
theorem nd_topic : (["value", "steps", "step"] : List Str).Nodup := by decide
theorem sc_is_topic : FnScope ["value", "steps", "step"] ["value"] (defScope s_is_topic) := ⟨rfl, rfl, rfl, by decide +kernel, rfl, by decide +kernel, by decide +kernel⟩
theorem has_is_topic (F : At K mg "is_topic" s_is_topic) (zi : mg "isinstance" = none) (zs : mg "str" = none) (zl : mg "len" = none) (za : mg "all" = none) (cS : ∃ t, mg "MOST_STEPS" = some (.int 5 t))
    (HN : Has P w K mg base CX0 2 "is_name" ["value"] (spB K T nameV)) : Has P w K mg base CX0 4 "is_topic" ["value"] (spB K T topicV) := by
  obtain ⟨tS, cS⟩ := cS
  refine F.ok0 sc_is_topic (fun _ _ _ _ _ _ us hl => match us, hl with | [_], _ => rfl) (fun vs H Q E h => ?_) fun A outer s H vs Q E hr h => ?_
  · obtain ⟨x, rfl, _⟩ := h
    rfl
  obtain ⟨x, rfl, ax, tb, q⟩ := h
  refine ⟨_, pss_cons (ps_if (pt_not (pt_val (pe_callB call_isi rfl zi boot_isinstance (pa_cons (pv 0) (pa_cons (pe_bltn (v := .ty "str") rfl zs boot_str rfl) pa_nil))))) (pss_one (ps_ret pe_bl)) pss_nil)
    (pss_cons (ps_set (i := 1) sc_is_topic.nd rfl (Or.inl rfl) (pe_split (pv 0) pe_str))
    (pss_one (ps_ret (pe_and (pe_cmpR op_le (pe_callB call_len_seq rfl zl PySem.boot_len (pa_cons (pv 1) pa_nil)) (pe_glob (v := .int 5) rfl cS ⟨_, rfl⟩) (nomark _))
    (pe_one (pe_callB (cr_all rfl) rfl za (by decide +kernel) (pa_cons (pe_lc (own := [("step", 2)]) (g := gName 2) rfl sc_is_topic.nd (pi_list (pv 1)) (blkOk_by (own := [("step", 2)]) (N := ["value", "steps", "step"]) (sc := defScope s_is_topic) (by decide +kernel)) (fun _ _ _ _ _ => pg_name (i := 2) nd_topic rfl (Or.inl rfl)) (fun _ _ _ _ _ => pts_nil)
      (fun _ _ _ _ _ => Has.call HN (hr.mono (by decide)) pass0 (pa_cons (pv 2) pa_nil))) pa_nil))))))), ?_⟩
  obtain ⟨t, b, ty, ki, hb⟩ := ax.isi
  refine ⟨x, rfl, x, .ty "str", t, _, b, rfl, .ty "str", ty, ki, b, rfl, ?_⟩
  rcases hb with ⟨rfl, z, rfl, hz⟩ | ⟨rfl, hz⟩
  · refine iteF ?_
    refine ⟨_, rfl, ⟨z, rfl⟩, z, "/", rfl, rfl, rfl, ?_, fun p hp => ?_⟩
    · exact two_more hz
    have fin : ∀ H' b, Gr T H H' → b = topicB z → Q (.bl b) H' := fun H' b g e => by
      have := q H' g
      rw [e]
      exact this
    have g1 : Gr T H (upd H p (.lst ((stepsOf z).map V.str))) := Gr.new tb hp _
    have e1 : (upd H p (.lst ((stepsOf z).map V.str))) p = some (.lst ((stepsOf z).map V.str)) := upd_same
    refine ⟨_, rfl, p, _, rfl, .inl (SqL.of e1), _, _, rfl, rfl, _, rfl, ?_⟩
    have el : ((stepsOf z).map V.str).length = (stepsOf z).length := List.length_map _
    rw [el]
    cases e2 : decide (((stepsOf z).length : Int) ≤ 5) with
    | false => exact iteF (fin _ false g1 (by unfold topicB; rw [e2]; rfl))
    | true =>
      refine iteT ⟨_, rfl, p, rfl, ⟨_, SqL.of e1⟩, fun D hD => ?_⟩
      refine lc_gr (T := T) (xs := stepsOf z) (list_str (K := K) p (stepsOf z)) (fun s => V.bl (nameB s)) g1.tabs hD (by have := of_decide_eq_true e2; exact Nat.le_trans (by omega : _ ≤ 5) (by decide)) (fun H2 g2 => SqL.of (g2.lst e1)) (fun i a x H2 H3 ei g2 y Ok No hOk => ?_) fun H2 g2 eD => ?_
      · obtain ⟨rfl, ex⟩ := y
        have ex2 : x = V.str a := by
          rw [List.getElem?_map, ei] at ex
          exact (Option.some.inj ex).symm
        subst ex2
        exact ⟨rfl, lx_yes ⟨_, rfl, _, rfl, .inl ⟨a, rfl, Nat.le_trans (steps_len (List.mem_of_getElem? ei)) hz⟩, g2.tabs, fun H5 g5 => hOk _ g5⟩⟩
      · exact all_end eD (fin _ _ (g1.trans g2) (by unfold topicB; rw [e2]; rfl))
  · refine iteT ?_
    have := q H (Gr.refl tb)
    rw [topicV_not hz] at this
    exact this
end
end Bk

set_option Elab.async false
set_option linter.all false
set_option maxRecDepth 100000
set_option maxHeartbeats 4000000
namespace Bk
open PySem PySem.Spec PyProof.Rows L2
abbrev s_check_topic : Stmt := top 13
/-! ### wishes -/
/-- the steps without a "#" at their end -/
def stemL (l : List Str) : List Str := if l.getLast? = some ("#" : Str) then l.dropLast else l
def stepB (s : Str) : Bool := decide (s = "+") || nameB s
def wishB (z : Str) : Bool := if decide (((stepsOf z).length : Int) > 5) = true then false else (stemL (stepsOf z)).all stepB
def wishV : V → Bool
  | .str z => wishB z
  | _ => false
theorem wishV_not {x : V} (h : ∀ z, x ≠ .str z) : wishV x = false := by
  cases x with
  | str z => exact absurd rfl (h z)
  | _ => rfl
theorem snoc_of {α : Type} {l : List α} (h : l ≠ []) : ∃ r z, l = r ++ [z] := ⟨l.dropLast, l.getLast h, (List.dropLast_concat_getLast h).symm⟩
theorem cut_last (r : List V) (z : V) : cutV (r ++ [z]) none (some (-1)) = r := by
  unfold cutV
  rw [HT.sIx_none, List.drop_zero, Nat.sub_zero]
  have e : HT.sIx (r ++ [z]).length (r ++ [z]).length (some (-1)) = r.length := by
    show (if (-1 : Int) < 0 then ((-1 : Int) + ((r ++ [z]).length : Int)).toNat else min (-1 : Int).toNat (r ++ [z]).length) = _
    rw [if_pos (by decide), List.length_append, List.length_singleton]
    omega
  rw [e]
  simp
theorem stem_sub {l : List Str} {s : Str} (h : s ∈ stemL l) : s ∈ l := by
  unfold stemL at h
  split at h
  · exact List.dropLast_subset _ h
  · exact h
/-! ### ways -/
abbrev ways : List Str := ["light", "marked", "paired"]
def wayB (z : Str) : Bool := inV (.str z) (ways.map V.str)
def wayV : V → Bool
  | .str z => wayB z
  | _ => false
theorem wayV_not {x : V} (h : ∀ z, x ≠ .str z) : wayV x = false := by
  cases x with
  | str z => exact absurd rfl (h z)
  | _ => rfl
/-! ### checks -/
/-- what is known of an own exception class of the top -/
structure Exc (K : PySem.W.Frag) (mg : Str → Option Value) (x : Str) : Prop where
  g : mg x = some (.ref (He.ga K x))
  e : PySem.W.excIn K (He.ga K x) He.veBase "ValueError.__new__" = true ∧ PySem.W.keepIn K (.ref (He.ga K x)) = true ∧ PySem.W.subIn K (.ref (He.ga K x)) (.type "BaseException") = some true ∧ PySem.W.typeIn K (.ref (He.ga K x)) = some (.type "type")
/-- raises C where f is false -/
def spCk (K : PySem.W.Frag) (T : Tbs) (f : V → Bool) (C : Addr) : Sp := fun vs H Q E => ∃ x, vs = [x] ∧ AnyV K H x ∧ LamX.Tabs T H ∧ (f x = true → ∀ H', Gr T H H' → Q .non H') ∧ (f x = false → ∀ H', Gr T H H' → E (.ref C) none H')
section
variable {P : Program} {w : World} {K : PySem.W.Frag} {mg : Str → Option Value} {base : Heap} {T : Tbs}
theorem sc_is_wish : FnScope ["value", "steps", "step"] ["value"] (defScope s_is_wish) := ⟨rfl, rfl, rfl, by decide +kernel, rfl, by decide +kernel, by decide +kernel⟩
theorem has_is_wish (F : At K mg "is_wish" s_is_wish) (zi : mg "isinstance" = none) (zs : mg "str" = none) (zl : mg "len" = none) (za : mg "all" = none) (cS : ∃ t, mg "MOST_STEPS" = some (.int 5 t))
    (HN : Has P w K mg base CX0 2 "is_name" ["value"] (spB K T nameV)) : Has P w K mg base CX0 4 "is_wish" ["value"] (spB K T wishV) := by
  obtain ⟨tS, cS⟩ := cS
  refine F.ok0 sc_is_wish (fun _ _ _ _ _ _ us hl => match us, hl with | [_], _ => rfl) (fun vs H Q E h => ?_) fun A outer s H vs Q E hr h => ?_
  · obtain ⟨x, rfl, _⟩ := h
    rfl
  obtain ⟨x, rfl, ax, tb, q⟩ := h
  refine ⟨_, pss_cons (ps_if (pt_not (pt_val (pe_callB call_isi rfl zi boot_isinstance (pa_cons (pv 0) (pa_cons (pe_bltn (v := .ty "str") rfl zs boot_str rfl) pa_nil))))) (pss_one (ps_ret pe_bl)) pss_nil)
    (pss_cons (ps_set (i := 1) sc_is_wish.nd rfl (Or.inl rfl) (pe_split (pv 0) pe_str))
    (pss_cons (ps_if (pt_cmpR op_gt (pe_callB call_len_seq rfl zl PySem.boot_len (pa_cons (pv 1) pa_nil)) (pe_glob (v := .int 5) rfl cS ⟨_, rfl⟩) (nomark _)) (pss_one (ps_ret pe_bl)) pss_nil)
    (pss_cons (ps_if (pt_cmpR op_eq (pe_ix ix_list (pv 1) (pe_un un_neg pe_int) (fun _ _ => rfl)) pe_str (nomark _)) (pss_one (ps_set (i := 1) sc_is_wish.nd rfl (Or.inl rfl) (pe_slice sl_list (pv 1) po_none (po_some (pe_un un_neg pe_int))))) pss_nil)
    (pss_one (ps_ret (pe_callB (cr_all rfl) rfl za (by decide +kernel) (pa_cons (pe_lc (own := [("step", 2)]) (g := gName 2) rfl sc_is_wish.nd (pi_list (pv 1)) (blkOk_by (own := [("step", 2)]) (N := ["value", "steps", "step"]) (sc := defScope s_is_wish) (by decide +kernel)) (fun _ _ _ _ _ => pg_name (i := 2) nd_topic rfl (Or.inl rfl)) (fun _ _ _ _ _ => pts_nil)
      (fun _ _ _ _ _ => pe_or (pe_cmpR op_eq (pv 2) pe_str (nomark _)) (pe_one (Has.call HN (hr.mono (by decide)) pass0 (pa_cons (pv 2) pa_nil))))) pa_nil))))))), ?_⟩
  obtain ⟨t, b, ty, ki, hb⟩ := ax.isi
  refine ⟨x, rfl, x, .ty "str", t, _, b, rfl, .ty "str", ty, ki, b, rfl, ?_⟩
  rcases hb with ⟨rfl, z, rfl, hz⟩ | ⟨rfl, hz⟩
  · refine iteF ?_
    refine ⟨_, rfl, ⟨z, rfl⟩, z, "/", rfl, rfl, rfl, two_more hz, fun p hp => ?_⟩
    have fin : ∀ H' b, Gr T H H' → b = wishB z → Q (.bl b) H' := fun H' b g e => by
      have := q H' g
      rw [e]
      exact this
    have g1 : Gr T H (upd H p (.lst ((stepsOf z).map V.str))) := Gr.new tb hp _
    have e1 : (upd H p (.lst ((stepsOf z).map V.str))) p = some (.lst ((stepsOf z).map V.str)) := upd_same
    refine ⟨_, rfl, p, _, rfl, .inl (SqL.of e1), _, _, rfl, rfl, _, rfl, ?_⟩
    have el : ((stepsOf z).map V.str).length = (stepsOf z).length := List.length_map _
    rw [el]
    cases e2 : decide (((stepsOf z).length : Int) > 5) with
    | true => exact iteT (fin _ false g1 (by unfold wishB; rw [e2]; rfl))
    | false =>
      refine iteF ?_
      obtain ⟨r, lastS, er⟩ := snoc_of (steps_ne z)
      have hlen : (stepsOf z).length ≤ 5 := by have := of_decide_eq_false e2; omega
      -- whatever the steps that are looked at
      have rest : ∀ (H1 : Hp) (p1 : Addr) (l : List Str), Gr T H H1 → H1 p1 = some (.lst (l.map V.str)) → l = stemL (stepsOf z) →
          tCB (rAll K) (tCons (tLc (iList K (tVar 1)) (gName 2) tYes (tOrV (tOp rEq (tVar 2) (tC (.str "+"))) (tCall (spB K T nameV) [] E0 (tCons (tVar 2) tNil))) [2]) tNil) [some (V.str z), some (V.ref p1), none] H1 Q := by
        intro H1 p1 l ga ea el2
        refine ⟨_, rfl, p1, rfl, ⟨_, SqL.of ea⟩, fun D hD => ?_⟩
        have hl5 : l.length ≤ sizeLine := by
          have : l.length ≤ (stepsOf z).length := by rw [el2]; unfold stemL; split <;> simp
          exact Nat.le_trans this (Nat.le_trans hlen (by decide))
        refine lc_gr (T := T) (xs := l) (list_str (K := K) p1 l) (fun s => V.bl (stepB s)) ga.tabs hD hl5 (fun H2 g2 => SqL.of (g2.lst ea)) (fun i a x H2 H3 ei g2 y Ok No hOk => ?_) fun H2 g2 eD => ?_
        · obtain ⟨rfl, ex⟩ := y
          have ex2 : x = V.str a := by
            rw [List.getElem?_map, ei] at ex
            exact (Option.some.inj ex).symm
          subst ex2
          have ha : a ∈ stepsOf z := stem_sub (by rw [← el2]; exact List.mem_of_getElem? ei)
          refine ⟨rfl, lx_yes ⟨_, rfl, rfl, _, rfl, ?_⟩⟩
          have ed : decide (V.str a = V.str "+") = decide (a = "+") := by
            by_cases c : a = "+"
            · rw [c]; simp
            · have c2 : ¬ V.str a = V.str "+" := fun q => c (V.str.inj q)
              rw [decide_eq_false c, decide_eq_false c2]
          rw [ed]
          cases e3 : decide (a = "+") with
          | true => exact iteT (by have := hOk _ (Gr.refl g2.tabs); unfold stepB at this; rw [e3] at this; exact this)
          | false =>
            refine iteF ⟨_, rfl, _, rfl, .inl ⟨a, rfl, Nat.le_trans (steps_len ha) hz⟩, g2.tabs, fun H5 g5 => ?_⟩
            have := hOk _ g5
            unfold stepB at this
            rw [e3] at this
            exact this
        · exact all_end eD (fin _ _ (ga.trans g2) (by unfold wishB; rw [e2, if_neg Bool.false_ne_true, el2]))
      have el3 : atI ((stepsOf z).map V.str) (-1) = some (V.str lastS) := by
        rw [er, List.map_append]
        exact atI_last _ _
      refine ⟨_, rfl, 1, rfl, p, _, -1, _, rfl, rfl, SqL.of e1, el3, rfl, _, rfl, ?_⟩
      have egl : (stepsOf z).getLast? = some lastS := by rw [er]; simp
      refine ite2 (fun c => ?_) (fun c => ?_)
      · have c2 : lastS = "#" := V.str.inj (of_decide_eq_true c)
        refine ⟨_, rfl, 1, rfl, -1, rfl, p, _, rfl, SqL.of e1, fun p1 hp1 => ?_⟩
        refine rest _ p1 r (g1.trans (Gr.new g1.tabs hp1 _)) ?_ ?_
        · rw [er, List.map_append, show [lastS].map V.str = [V.str lastS] from rfl, cut_last]
          exact upd_same
        · unfold stemL
          rw [egl, c2, if_pos rfl, er]
          simp
      · have c2 : ¬ lastS = "#" := fun q => c (decide_eq_true (by rw [q]))
        refine rest _ p (stepsOf z) g1 e1 ?_
        unfold stemL
        rw [egl, if_neg (fun q => c2 (Option.some.inj q))]
  · refine iteT ?_
    have := q H (Gr.refl tb)
    rw [wishV_not hz] at this
    exact this
end
end Bk

set_option Elab.async false
set_option linter.all false
set_option maxRecDepth 100000
set_option maxHeartbeats 4000000
namespace Bk
open PySem PySem.Spec PyProof.Rows L2
abbrev s_is_met : Stmt := top 14
/-- what is known of the ways' tuple -/
structure Ways (K : PySem.W.Frag) (mg : Str → Option Value) : Prop where
  g : mg "WAYS" = some (.ref (He.ga K "WAYS"))
  t : ∀ H, SqT K H (He.ga K "WAYS") (ways.map V.str)
  d : ∃ o, K.lookup (He.ga K "WAYS") = some o ∧ o.cls = .type "tuple" ∧ o.dict = none
def wix (z : Str) : Nat := ways.findIdx (fun y => decide (y = z))
theorem way_cases {z : Str} (h : wayB z = true) : z = "light" ∨ z = "marked" ∨ z = "paired" := by
  unfold wayB inV at h
  simp only [List.map_cons, List.map_nil, List.any_cons, List.any_nil, eqV, Bool.or_false, Bool.or_eq_true, beq_iff_eq] at h
  rcases h with h | h | h
  · exact .inl h.symm
  · exact .inr (.inl h.symm)
  · exact .inr (.inr h.symm)
theorem way_at {z : Str} (h : wayB z = true) : ways[wix z]? = some z ∧ ∀ m, m < wix z → ways[m]? ≠ some z := by
  rcases way_cases h with rfl | rfl | rfl
  · exact ⟨by decide +kernel, by decide +kernel⟩
  · exact ⟨by decide +kernel, by decide +kernel⟩
  · exact ⟨by decide +kernel, by decide +kernel⟩
/-! ### meeting -/
def pairB (p : Str × Str) : Bool := inV (.str p.1) [.str "+", .str p.2]
def metS (st wa : List Str) : Bool := decide ((st.length : Int) = wa.length) && (wa.zip st).all pairB
def metL (st wa : List Str) : Bool := if wa.getLast? = some ("#" : Str) then metS (st.take (wa.length - 1)) wa.dropLast else metS st wa
def metB (t w : Str) : Bool := metL (stepsOf t) (stepsOf w)
theorem zip_str {K : PySem.W.Frag} (a b : Addr) (l m : List Str) : Walk (Itz K a b) (l.zip m).length (fun H => SqL K H a (l.map V.str) ∧ SqL K H b (m.map V.str)) (YPair (fun i => (l.map V.str)[i]?) (fun i => (m.map V.str)[i]?)) :=
  walk_zip (by rw [List.length_zip, List.length_map, List.length_map])
theorem cut_take (r : List V) (n : Nat) (h : n ≤ r.length) : cutV r none (some (n : Int)) = r.take n := by
  unfold cutV
  rw [HT.sIx_none, HT.sIx_nat, List.drop_zero, Nat.sub_zero, Nat.min_eq_left h]
theorem cut_take2 (r : List V) (n : Nat) : cutV r none (some (n : Int)) = r.take n := by
  unfold cutV
  rw [HT.sIx_none, HT.sIx_nat, List.drop_zero, Nat.sub_zero]
  by_cases h : n ≤ r.length
  · rw [Nat.min_eq_left h]
  · rw [Nat.min_eq_right (by omega), List.take_of_length_le (Nat.le_refl _), List.take_of_length_le (by omega)]
def spMet (K : PySem.W.Frag) (T : Tbs) : Sp := fun vs H Q _ => ∃ t w : Str, vs = [.str t, .str w] ∧ t.length ≤ 1000 ∧ w.length ≤ 1000 ∧ LamX.Tabs T H ∧ ∀ H', Gr T H H' → Q (.bl (metB t w)) H'
/-- meets: the first value that is none raises -/
def spMeets (K : PySem.W.Frag) (T : Tbs) (CT CW : Addr) : Sp := fun vs H Q E => ∃ x y, vs = [x, y] ∧ AnyV K H x ∧ AnyV K H y ∧ LamX.Tabs T H ∧ (topicV x = false → ∀ H', Gr T H H' → E (.ref CT) none H') ∧ (topicV x = true → wishV y = false → ∀ H', Gr T H H' → E (.ref CW) none H') ∧
  (∀ t w, x = .str t → y = .str w → topicB t = true → wishB w = true → ∀ H', Gr T H H' → Q (.bl (metB t w)) H')
def spUp : Sp := fun vs H Q _ => ∃ a b : Str, vs = [.str a, .str b] ∧ wayB a = true ∧ wayB b = true ∧ Q (.bl (decide ((wix a : Int) ≤ wix b))) H
def spLess (K : PySem.W.Frag) (CW : Addr) : Sp := fun vs H Q E => ∃ x y, vs = [x, y] ∧ AnyV K H x ∧ AnyV K H y ∧ (wayV x = false → E (.ref CW) none H) ∧ (wayV x = true → wayV y = false → E (.ref CW) none H) ∧
  (∀ a b, x = .str a → y = .str b → wayB a = true → wayB b = true → Q (.str (if decide ((wix a : Int) ≤ wix b) = true then a else b)) H)
/-- a def of one value that hands back a truth value and leaves all as it was -/
def spB0 (K : PySem.W.Frag) (f : V → Bool) : Sp := fun vs H Q _ => ∃ x, vs = [x] ∧ AnyV K H x ∧ Q (.bl (f x)) H
def spCk0 (K : PySem.W.Frag) (f : V → Bool) (C : Addr) : Sp := fun vs H Q E => ∃ x, vs = [x] ∧ AnyV K H x ∧ (f x = true → Q .non H) ∧ (f x = false → E (.ref C) none H)
section
variable {P : Program} {w : World} {K : PySem.W.Frag} {mg : Str → Option Value} {base : Heap} {T : Tbs}
/-! ### checks -/
theorem sc_check_topic : FnScope ["topic"] ["topic"] (defScope s_check_topic) := ⟨rfl, rfl, rfl, by decide +kernel, rfl, by decide +kernel, by decide +kernel⟩
theorem has_check_topic (F : At K mg "check_topic" s_check_topic) (X : Exc K mg "InvalidTopic") (HT : Has P w K mg base CX0 4 "is_topic" ["value"] (spB K T topicV)) : Has P w K mg base (L2.CX P w) 5 "check_topic" ["topic"] (spCk K T topicV (He.ga K "InvalidTopic")) := by
  refine F.ok sc_check_topic (fun _ _ _ _ _ _ us hl => match us, hl with | [_], _ => rfl) (fun vs H Q E h => ?_) fun A outer s H vs Q E hr h => ?_
  · obtain ⟨x, rfl, _⟩ := h
    rfl
  obtain ⟨x, rfl, ax, tb, q1, q2⟩ := h
  refine ⟨_, pss_one (ps_if (pt_not (pt_val (Has.call HT hr pass0 (pa_cons (pv 0) pa_nil)))) (pss_one (ps_raise rfl (takes_of rfl rfl rfl rfl) (pmk_own PySem.F.excBase_ValueError X.e.1 X.g X.e.2.1 (raises_own X.e.2.2.1 X.e.2.2.2) rfl))) pss_nil), ?_⟩
  refine ⟨x, rfl, x, rfl, ax, tb, fun H' g => ⟨_, rfl, ?_⟩⟩
  cases e : topicV x with
  | true => exact iteF (q1 e H' g)
  | false => exact iteT (q2 e H' g)
/-! ### meets -/
theorem in_seq {X : Cx} {K : PySem.W.Frag} (h : X.K = K) : OpR X (compareOp .In) (rIn K false) := by
  subst h
  exact op_in_seq
theorem tup_g {X : Cx} {K : PySem.W.Frag} {pos : Pos} {es : List Expr} {k n : Nat} {t : TGs} (hK : X.K = K) (hc : X.calm = true) (h : PGs X es t) (hn : (assignEach es X.env).length = n := by rfl) (hst : (assignEach es X.env).findIdx? (·.1) = none := by rfl) : PG X (.Tuple es k pos) (gTup K n t) := by
  subst hK
  exact pg_tup hc h hn hst
theorem nd2 {x y : Str} (h : x ≠ y) : [x, y].Nodup := by simp [h]
theorem sc_is_met : FnScope ["topic", "wish", "steps", "wanted", "want", "step"] ["topic", "wish"] (defScope s_is_met) := ⟨rfl, rfl, rfl, by decide +kernel, rfl, by decide +kernel, by decide +kernel⟩
theorem metS_self (st : List Str) : metS st st = true := by
  unfold metS
  rw [decide_eq_true rfl, Bool.true_and, List.all_eq_true]
  intro p hp
  obtain ⟨i, hi, e⟩ := List.getElem_of_mem hp
  rw [List.getElem_zip] at e
  rw [← e]
  unfold pairB inV
  simp [eqV]
theorem metB_self (t : Str) : metB t t = true := by
  unfold metB metL
  split
  · rw [List.dropLast_eq_take]
    exact metS_self _
  · exact metS_self _
theorem metB_hash (t : Str) : metB t "#" = true := by
  have e : stepsOf "#" = [("#" : Str)] := by decide +kernel
  unfold metB metL
  rw [e, if_pos (by decide +kernel)]
  show metS ((stepsOf t).take 0) [] = true
  rw [List.take_zero]
  exact metS_self _
theorem two_more' {n : Nat} (h : n ≤ 1000 + 1) : n ≤ sizeLine := Nat.le_trans h (by decide)
theorem has_is_met (F : At K mg "is_met" s_is_met) (zl : mg "len" = none) (za : mg "all" = none) (zz : mg "zip" = none) : Has P w K mg base CX0 3 "is_met" ["topic", "wish"] (spMet K T) := by
  refine F.ok0 sc_is_met (fun _ _ _ _ _ _ us hl => match us, hl with | [_, _], _ => rfl) (fun vs H Q E h => ?_) fun A outer s H vs Q E hr h => ?_
  · obtain ⟨x, y, rfl, _⟩ := h
    rfl
  obtain ⟨t, wi, rfl, ht, hw, tb, q⟩ := h
  refine ⟨_, pss_cons (ps_if (pt_cmpR (in_seq (K := K) rfl) (pv 1) (pe_tup (pa_cons pe_str (pa_cons (pv 0) pa_nil))) rfl) (pss_one (ps_ret pe_bl)) pss_nil)
    (pss_cons (ps_par (i := 2) (j := 3) rfl sc_is_met.nd rfl rfl (by decide) rfl rfl (pa_cons (pe_split (pv 0) pe_str) (pa_cons (pe_split (pv 1) pe_str) pa_nil)) (by rfl))
    (pss_cons (ps_if (pt_cmpR op_eq (pe_ix ix_list (pv 3) (pe_un un_neg pe_int) (fun _ _ => rfl)) pe_str (nomark _)) (pss_cons (ps_set (i := 3) sc_is_met.nd rfl (Or.inl rfl) (pe_slice sl_list (pv 3) po_none (po_some (pe_un un_neg pe_int))))
        (pss_one (ps_set (i := 2) sc_is_met.nd rfl (Or.inl rfl) (pe_slice sl_list (pv 2) po_none (po_some (pe_callB call_len_seq rfl zl PySem.boot_len (pa_cons (pv 3) pa_nil))))))) pss_nil)
    (pss_one (ps_ret (pe_and (pe_cmpR op_eq (pe_callB call_len_seq rfl zl PySem.boot_len (pa_cons (pv 2) pa_nil)) (pe_callB call_len_seq rfl zl PySem.boot_len (pa_cons (pv 3) pa_nil)) (nomark _))
      (pe_one (pe_callB (cr_all rfl) rfl za (by decide +kernel) (pa_cons (pe_lc (own := [("want", 4), ("step", 5)]) (g := gTup K 2 (gCons (gName 4) (gCons (gName 5) gNil))) rfl sc_is_met.nd (pi_zip rfl zz (pa_cons (pv 3) (pa_cons (pv 2) pa_nil))) (blkOk_by (own := [("want", 4), ("step", 5)]) (N := ["topic", "wish", "steps", "wanted", "want", "step"]) (sc := defScope s_is_met) (by decide +kernel))
        (fun _ _ _ _ _ => tup_g (K := K) (n := 2) rfl rfl (pgs_cons (pg_name (i := 4) sc_is_met.nd rfl (Or.inl rfl) (Or.inr rfl)) (pgs_cons (pg_name (i := 5) sc_is_met.nd rfl (Or.inl rfl) (Or.inr rfl)) pgs_nil))) (fun _ _ _ _ _ => pts_nil)
        (fun _ _ _ _ _ => pe_cmpR (in_seq (K := K) rfl) (pv 4) (pe_tup (pa_cons pe_str (pa_cons (pv 5) pa_nil))) rfl)) pa_nil)))))))), ?_⟩
  refine ⟨_, rfl, _, rfl, (by show 2 ≤ sizeLine; decide), fun p0 hp0 => ?_⟩
  have g00 := Gr.new tb hp0 (.tup [V.str "#", V.str t])
  refine ⟨p0, _, rfl, .inr (.inl (.inl upd_same)), rfl, rfl, _, rfl, ?_⟩
  refine ite2 (fun c => ?_) (fun c => ?_)
  · have e : metB t wi = true := by
      have c : inV (V.str wi) [V.str "#", V.str t] = true := c
      unfold inV at c
      simp only [List.any_cons, List.any_nil, eqV, Bool.or_false, Bool.or_eq_true, beq_iff_eq] at c
      rcases c with c | c
      · rw [← c]; exact metB_hash t
      · rw [← c]; exact metB_self t
    have := q _ g00
    rw [e] at this
    exact this
  have q : ∀ H', Gr T (upd H p0 (.tup [V.str "#", V.str t])) H' → Q (.bl (metB t wi)) H' := fun H' g => q H' (g00.trans g)
  have tb := g00.tabs
  obtain ⟨H0, eH0⟩ : ∃ H0, H0 = upd H p0 (.tup [V.str "#", V.str t]) := ⟨_, rfl⟩
  rw [← eH0] at q tb ⊢
  refine ⟨_, rfl, ⟨t, rfl⟩, t, "/", rfl, rfl, rfl, two_more ht, fun p hp => ?_⟩
  refine ⟨_, rfl, ⟨wi, rfl⟩, wi, "/", rfl, rfl, rfl, two_more hw, fun p2 hp2 => ?_⟩
  refine ⟨_, _, rfl, ?_⟩
  have g1 : Gr T H0 (upd H0 p (.lst ((stepsOf t).map V.str))) := Gr.new tb hp _
  have g2 : Gr T _ (upd (upd H0 p (.lst ((stepsOf t).map V.str))) p2 (.lst ((stepsOf wi).map V.str))) := Gr.new g1.tabs hp2 _
  have e1 : (upd (upd H0 p (.lst ((stepsOf t).map V.str))) p2 (.lst ((stepsOf wi).map V.str))) p = some (.lst ((stepsOf t).map V.str)) := g2.lst upd_same
  have e2 : (upd (upd H0 p (.lst ((stepsOf t).map V.str))) p2 (.lst ((stepsOf wi).map V.str))) p2 = some (.lst ((stepsOf wi).map V.str)) := upd_same
  have g0 := g1.trans g2
  have fin : ∀ H' b, Gr T H0 H' → b = metB t wi → Q (.bl b) H' := fun H' b g e => by
    rw [e]
    exact q H' g
  -- what is returned, whatever the two lists
  have rest : ∀ (H1 : Hp) (pa pb : Addr) (st wa : List Str), Gr T H0 H1 → H1 pa = some (.lst (st.map V.str)) → H1 pb = some (.lst (wa.map V.str)) → st.length ≤ t.length + 1 → metS st wa = metB t wi →
      tAndV (tOp rEq (tCB (fun xs H Q => ∃ p ys, xs = [.ref p] ∧ (SqL K H p ys ∨ SqT K H p ys) ∧ Q (.int ys.length) H) (tCons (tVar 2) tNil)) (tCB (fun xs H Q => ∃ p ys, xs = [.ref p] ∧ (SqL K H p ys ∨ SqT K H p ys) ∧ Q (.int ys.length) H) (tCons (tVar 3) tNil)))
        (tCB (rAll K) (tCons (tLc (iZip K (tCons (tVar 3) (tCons (tVar 2) tNil))) (gTup K 2 (gCons (gName 4) (gCons (gName 5) gNil))) tYes (tOp (rIn K false) (tVar 4) (tTup (tCons (tC (.str "+")) (tCons (tVar 5) tNil)))) [4, 5]) tNil)) [some (.str t), some (.str wi), some (.ref pa), some (.ref pb), none, none] H1 Q := by
    intro H1 pa pb st wa ga ea eb hst em
    refine ⟨_, rfl, pa, _, rfl, .inl (SqL.of ea), _, rfl, pb, _, rfl, .inl (SqL.of eb), rfl, _, rfl, ?_⟩
    have el : decide (V.int ((st.map V.str).length : Nat) = V.int ((wa.map V.str).length : Nat)) = decide ((st.length : Int) = wa.length) := by
      rw [List.length_map, List.length_map]
      by_cases c : (st.length : Int) = wa.length
      · rw [decide_eq_true c, decide_eq_true (congrArg V.int c)]
      · rw [decide_eq_false c, decide_eq_false (fun q => c (V.int.inj q))]
    rw [el]
    cases e3 : decide ((st.length : Int) = wa.length) with
    | false => exact iteF (fin _ false ga (by rw [← em]; unfold metS; rw [e3]; rfl))
    | true =>
      have el1 : st.length ≤ sizeLine := by
        have := hst
        exact two_more' (Nat.le_trans this (Nat.succ_le_succ ht))
      refine iteT ⟨_, rfl, _, rfl, pb, pa, _, _, rfl, SqL.of eb, SqL.of ea, fun D hD => ?_⟩
      refine lc_gr (T := T) (xs := wa.zip st) (zip_str (K := K) pb pa wa st) (fun p => V.bl (pairB p)) ga.tabs hD (by rw [List.length_zip]; exact Nat.le_trans (Nat.min_le_right _ _) el1) (fun H2 g2 => ⟨SqL.of (g2.lst eb), SqL.of (g2.lst ea)⟩) (fun i a x H2 H3 ei g2 y Ok No hOk => ?_) fun H2 g2 eD => ?_
      · obtain ⟨Tp, y1, y2, rfl, hT, rfl, f1, f2⟩ := y
        obtain ⟨q1, q2⟩ := List.getElem?_zip_eq_some.mp ei
        have f1 : (wa.map V.str)[i]? = some y1 := f1
        have f2 : (st.map V.str)[i]? = some y2 := f2
        rw [List.getElem?_map, q1] at f1
        rw [List.getElem?_map, q2] at f2
        have e4 : y1 = V.str a.1 := (Option.some.inj f1).symm
        have e5 : y2 = V.str a.2 := (Option.some.inj f2).symm
        subst e4 e5
        have g4 := Gr.new g2.tabs hT (.tup [V.str a.1, V.str a.2])
        refine ⟨Tp, _, rfl, .inl (.inl upd_same), rfl, _, _, rfl, _, _, rfl, rfl, rfl, lx_yes ?_⟩
        refine ⟨_, rfl, _, rfl, (by show 2 ≤ sizeLine; decide), fun p5 hp5 => ?_⟩
        exact ⟨p5, _, rfl, .inr (.inl (.inl upd_same)), rfl, rfl, hOk _ (g4.trans (Gr.new g4.tabs hp5 _))⟩
      · exact all_end eD (fin _ _ (ga.trans g2) (by rw [← em]; unfold metS; rw [e3]; rfl))
  obtain ⟨r, lastS, er⟩ := snoc_of (steps_ne wi)
  have el3 : atI ((stepsOf wi).map V.str) (-1) = some (V.str lastS) := by
    rw [er, List.map_append]
    exact atI_last _ _
  have egl : (stepsOf wi).getLast? = some lastS := by rw [er]; simp
  refine ⟨_, rfl, 1, rfl, p2, _, -1, _, rfl, rfl, SqL.of e2, el3, rfl, _, rfl, ?_⟩
  refine ite2 (fun c => ?_) (fun c => ?_)
  · have c2 : lastS = "#" := V.str.inj (of_decide_eq_true c)
    refine ⟨_, rfl, 1, rfl, -1, rfl, p2, _, rfl, SqL.of e2, fun p3 hp3 => ?_⟩
    have g3 := Gr.new g0.tabs hp3 (.lst (cutV ((stepsOf wi).map V.str) none (some (-1))))
    have e3 : cutV ((stepsOf wi).map V.str) none (some (-1)) = r.map V.str := by
      rw [er, List.map_append, show [lastS].map V.str = [V.str lastS] from rfl, cut_last]
    rw [e3] at g3 ⊢
    refine ⟨_, rfl, _, rfl, p3, _, rfl, .inl (SqL.of upd_same), _, rfl, p, _, rfl, SqL.of (g3.lst e1), fun p4 hp4 => ?_⟩
    have g4 := Gr.new g3.tabs hp4 (.lst (cutV ((stepsOf t).map V.str) none (some ((r.map V.str).length : Int))))
    have e4 : cutV ((stepsOf t).map V.str) none (some ((r.map V.str).length : Int)) = ((stepsOf t).take r.length).map V.str := by
      rw [cut_take2, List.length_map, List.map_take]
    rw [e4] at g4 ⊢
    refine rest _ p4 p3 ((stepsOf t).take r.length) r (g0.trans (g3.trans g4)) upd_same (g4.lst upd_same) (by rw [List.length_take]; exact Nat.le_trans (Nat.min_le_right _ _) (steps_many t)) ?_
    unfold metB metL
    rw [egl, c2, if_pos rfl, er]
    simp
  · have c2 : ¬ lastS = "#" := fun q => c (decide_eq_true (by rw [q]))
    refine rest _ p p2 (stepsOf t) (stepsOf wi) g0 e1 e2 (steps_many t) ?_
    unfold metB metL
    rw [egl, if_neg (fun q => c2 (Option.some.inj q))]
end
end Bk

set_option Elab.async false
set_option linter.all false
set_option maxRecDepth 100000
set_option maxHeartbeats 4000000
namespace Bk
open PySem PySem.Spec PyProof.Rows L2
abbrev s_cup : Stmt := top 39
abbrev s_roll : Stmt := top 40
abbrev s_some : Stmt := top 41
/-! ### the law's cup -/
def CupOk (g s : Int) : Prop := 0 ≤ g ∧ 0 ≤ s ∧ s < 4294967296
/-- the cup stands at a -/
def Cup (H : Hp) (a : Addr) : Prop := ∃ g s, H a = some (.lst [.int g, .int s]) ∧ CupOk g s
def spCup (K : PySem.W.Frag) (T : Tbs) : Sp := fun vs H Q _ => ∃ (a : Addr) (ns : List Int), vs = [.ref a] ∧ SqL K H a (ns.map V.int) ∧ ns.length ≤ 63 ∧ LamX.Tabs T H ∧ ∀ p H', Gr T H H' → Cup H' p → Q (.ref p) H'
def spRoll : Sp := fun vs H Q _ => ∃ (a : Addr) (g s many : Int), vs = [.ref a, .int many] ∧ H a = some (.lst [.int g, .int s]) ∧ CupOk g s ∧ 0 < many ∧ many < 1000000 ∧ ∀ r g' s', 0 ≤ r → r < many → CupOk g' s' → Q (.int r) (upd H a (.lst [.int g', .int s']))
def spSome (K : PySem.W.Frag) : Sp := fun vs H Q _ => ∃ (a b : Addr) (g s : Int) (xs : List V), vs = [.ref a, .ref b] ∧ H a = some (.lst [.int g, .int s]) ∧ CupOk g s ∧ H b = some (.lst xs) ∧ a ≠ b ∧ xs ≠ [] ∧ xs.length < 1000000 ∧
  ∀ x g' s', x ∈ xs → CupOk g' s' → Q x (upd H a (.lst [.int g', .int s']))
section
variable {P : Program} {w : World} {K : PySem.W.Frag} {mg : Str → Option Value} {base : Heap} {T : Tbs}
/-! ### the law's cup, rolls -/
theorem sc_roll : FnScope ["_law_cup_here", "_law_many", "_law_found", "_law_deep"] ["_law_cup_here", "_law_many"] (defScope s_roll) := ⟨rfl, rfl, rfl, by decide +kernel, rfl, by decide +kernel, by decide +kernel⟩
theorem has_roll (F : At K mg "_law_roll" s_roll) (zi : mg "int" = none) : Has P w K mg base CX0 1 "_law_roll" ["_law_cup_here", "_law_many"] spRoll := by
  refine F.ok0 sc_roll (fun _ _ _ _ _ _ us hl => match us, hl with | [_, _], _ => rfl) (fun vs H Q E h => ?_) fun A outer s H vs Q E hr h => ?_
  · obtain ⟨a, g, s, many, rfl, _⟩ := h
    rfl
  obtain ⟨a, g, sd, many, rfl, ha, ⟨g0, s0, s1⟩, m0, m1, q⟩ := h
  refine ⟨_, pss_cons (ps_if (pt_cmpR op_gt (pe_ix ix_list (pv 0) pe_int (fun _ _ => rfl)) pe_int (nomark _))
      (pss_cons (ps_set (i := 2) sc_roll.nd rfl (Or.inl rfl) (pe_op op_mod (pe_callTy call_int1 rfl zi boot_int (pa_cons (pe_ix ix_list (pv 0) pe_int (fun _ _ => rfl)) pa_nil)) (pv 1)))
      (pss_cons (ps_asg (pe_op op_fdiv (pe_ix ix_list (pv 0) pe_int (fun _ _ => rfl)) (pv 1)) (pg_sub (pv 0) pe_int set_list))
      (pss_one (ps_ret (pv 2))))) pss_nil)
    (pss_cons (ps_asg (pe_op op_mod (pe_callTy call_int1 rfl zi boot_int (pa_cons (pe_op op_add (pe_op op_mul (pe_ix ix_list (pv 0) pe_int (fun _ _ => rfl)) pe_int) pe_int) pa_nil)) pe_int) (pg_sub (pv 0) pe_int set_list))
    (pss_cons (ps_set (i := 3) sc_roll.nd rfl (Or.inl rfl) (pe_op op_mod (pe_callTy call_int1 rfl zi boot_int (pa_cons (pe_op op_mul (pe_ix ix_list (pv 0) pe_int (fun _ _ => rfl)) (pe_op op_add (pe_ix ix_list (pv 0) pe_int (fun _ _ => rfl)) pe_int)) pa_nil)) pe_int))
    (pss_one (ps_ret (pe_op op_mod (pe_callTy call_int1 rfl zi boot_int (pa_cons (pe_op op_fdiv (pv 3) pe_int) pa_nil)) (pv 1)))))), ?_⟩
  refine ⟨_, rfl, a, _, 0, .int g, rfl, rfl, SqL.of ha, rfl, g, 0, rfl, rfl, _, rfl, ite2 (fun c => ?_) (fun c => ?_)⟩
  · refine ⟨_, rfl, a, _, 0, .int g, rfl, rfl, SqL.of ha, rfl, .inl ⟨g, rfl, ?_⟩⟩
    refine ⟨_, rfl, g, many, rfl, rfl, m0, ?_⟩
    refine ⟨_, rfl, a, _, 0, .int g, rfl, rfl, SqL.of ha, rfl, _, rfl, g, many, rfl, rfl, ⟨m0, by omega⟩, ?_⟩
    refine ⟨_, rfl, a, _, 0, 0, rfl, rfl, ha, rfl, ?_⟩
    refine ⟨_, rfl, ?_⟩
    exact q (g % many) (g / many) sd (Int.emod_nonneg _ (by omega)) (Int.emod_lt_of_pos _ m0) ⟨Int.ediv_nonneg g0 (by omega), s0, s1⟩
  · refine ⟨_, rfl, a, _, 1, .int sd, rfl, rfl, SqL.of ha, rfl, sd, 30671, rfl, rfl, .inr ⟨by decide, by decide⟩, ?_⟩
    refine ⟨_, _, rfl, rfl, .inl ⟨_, rfl, ?_⟩⟩
    refine ⟨_, _, rfl, rfl, (by show (0 : Int) < 2147483549; decide), ?_⟩
    refine ⟨_, rfl, a, _, 1, 1, rfl, rfl, ha, rfl, ?_⟩
    have h0 : 0 ≤ (sd * 30671 + 7919) % 2147483549 := Int.emod_nonneg _ (by decide)
    have h1 : (sd * 30671 + 7919) % 2147483549 < 2147483549 := Int.emod_lt_of_pos _ (by decide)
    have hb : (upd H a (.lst ([V.int g, V.int sd].set 1 (V.int ((sd * 30671 + 7919) % 2147483549))))) a = some (.lst [V.int g, V.int ((sd * 30671 + 7919) % 2147483549)]) := upd_same
    refine ⟨_, rfl, a, _, 1, _, rfl, rfl, SqL.of hb, rfl, _, rfl, a, _, 1, _, rfl, rfl, SqL.of hb, rfl, _, 131, rfl, rfl, ?_⟩
    refine ⟨_, _, rfl, rfl, .inl ⟨by omega, by omega⟩, .inl ⟨_, rfl, ?_⟩⟩
    refine ⟨_, _, rfl, rfl, (by show (0 : Int) < 2147483587; decide), ?_⟩
    refine ⟨_, rfl, _, 709, rfl, rfl, ⟨by decide, by decide⟩, .inl ⟨_, rfl, ?_⟩⟩
    refine ⟨_, rfl, _, many, rfl, rfl, m0, ?_⟩
    exact q _ g ((sd * 30671 + 7919) % 2147483549) (Int.emod_nonneg _ (by omega)) (Int.emod_lt_of_pos _ m0) ⟨g0, h0, by omega⟩
theorem sc_some : FnScope ["_law_cup_here", "_law_things"] ["_law_cup_here", "_law_things"] (defScope s_some) := ⟨rfl, rfl, rfl, by decide +kernel, rfl, by decide +kernel, by decide +kernel⟩
theorem has_some (F : At K mg "_law_some" s_some) (zl : mg "len" = none) (HR : Has P w K mg base CX0 1 "_law_roll" ["_law_cup_here", "_law_many"] spRoll) : Has P w K mg base CX0 2 "_law_some" ["_law_cup_here", "_law_things"] (spSome K) := by
  refine F.ok0 sc_some (fun _ _ _ _ _ _ us hl => match us, hl with | [_, _], _ => rfl) (fun vs H Q E h => ?_) fun A outer s H vs Q E hr h => ?_
  · obtain ⟨a, b, g, s, xs, rfl, _⟩ := h
    rfl
  obtain ⟨a, b, g, sd, xs, rfl, ha, hc, hb, hab, hne, hl, q⟩ := h
  refine ⟨_, pss_one (ps_ret (pe_ix ix_list (pv 1) (Has.call HR hr pass0 (pa_cons (pv 0) (pa_cons (pe_callB call_len_seq rfl zl PySem.boot_len (pa_cons (pv 1) pa_nil)) pa_nil))) (fun _ _ => rfl))), ?_⟩
  have hpos : 0 < xs.length := List.length_pos_iff.mpr hne
  refine ⟨_, rfl, _, rfl, _, rfl, b, xs, rfl, .inl (SqL.of hb), a, g, sd, _, rfl, ha, hc, by omega, by omega, fun r g' s' r0 r1 hc' => ?_⟩
  have hb' : (upd H a (.lst [.int g', .int s'])) b = some (.lst xs) := by rw [upd_ne (Ne.symm hab)]; exact hb
  have hr2 : r.toNat < xs.length := by omega
  have er : r = ((r.toNat : Nat) : Int) := by omega
  refine ⟨b, xs, r, xs[r.toNat], rfl, rfl, SqL.of hb', ?_, q _ g' s' (List.getElem_mem hr2) hc'⟩
  have q2 : atI xs ((r.toNat : Nat) : Int) = some xs[r.toNat] := atI_nat (List.getElem?_eq_getElem hr2)
  rw [← er] at q2
  exact q2
theorem sc_cup : FnScope ["_law_script", "_law_cell", "_law_great"] ["_law_script"] (defScope s_cup) := ⟨rfl, rfl, rfl, by decide +kernel, rfl, by decide +kernel, by decide +kernel⟩
theorem has_cup (F : At K mg "_law_cup" s_cup) (zl : mg "list" = none) (za : mg "abs" = none) (zi : mg "int" = none) : Has P w K mg base CX0 1 "_law_cup" ["_law_script"] (spCup K T) := by
  refine F.ok0 sc_cup (fun _ _ _ _ _ _ us hl => match us, hl with | [_], _ => rfl) (fun vs H Q E h => ?_) fun A outer s H vs Q E hr h => ?_
  · obtain ⟨a, ns, rfl, _⟩ := h
    rfl
  obtain ⟨a, ns, rfl, hS, hl, tb, q⟩ := h
  refine ⟨_, pss_cons (ps_set (i := 1) sc_cup.nd rfl (Or.inl rfl) (pe_callB call_abs rfl za (by decide +kernel) (pa_cons (pe_ix ix_list (pe_op op_cat (pe_callTy call_list_of rfl zl (by decide +kernel) (pa_cons (pv 0) pa_nil)) (pe_lst (pa_cons pe_int pa_nil))) pe_int (fun _ _ => rfl)) pa_nil)))
    (pss_cons (ps_set (i := 2) sc_cup.nd rfl (Or.inl rfl) (pe_ifExp (pt_cmpR op_ge (pv 1) (pe_op op_pow pe_int pe_int) (nomark _)) (pe_op op_fdiv (pv 1) pe_int) pe_int))
    (pss_one (ps_ret (pe_lst (pa_cons (pv 2) (pa_cons (pe_op op_add (pe_op op_mod (pe_callTy call_int1 rfl zi boot_int (pa_cons (pe_op op_add (pe_op op_mul (pv 1) pe_int) pe_int) pa_nil)) pe_int) pe_int) pa_nil)))))), ?_⟩
  refine ⟨_, rfl, a, _, rfl, .inl hS, fun l1 hl1 => ?_⟩
  have g1 := Gr.new tb hl1 (.lst (ns.map V.int))
  refine ⟨by show 1 ≤ sizeLine; decide, fun l2 hl2 => ?_⟩
  have g2 := Gr.new g1.tabs hl2 (.lst [V.int 0])
  refine ⟨l1, l2, ns.map V.int, [V.int 0], rfl, rfl, g2.lst upd_same, upd_same, ?_, fun l3 hl3 => ?_⟩
  · rw [List.length_map]
    show ns.length + 1 ≤ sizeLine
    exact Nat.le_trans (Nat.succ_le_succ hl) (by decide)
  have g3 := Gr.new g2.tabs hl3 (.lst (ns.map V.int ++ [V.int 0]))
  have hat : ∃ c : Int, atI (ns.map V.int ++ [V.int 0]) 0 = some (V.int c) := by
    cases ns with
    | nil => exact ⟨0, rfl⟩
    | cons n r => exact ⟨n, atI_nat (j := 0) rfl⟩
  obtain ⟨c, hat⟩ := hat
  refine ⟨l3, _, 0, .int c, rfl, rfl, SqL.of upd_same, hat, c, rfl, ?_⟩
  have c0 : 0 ≤ (if c < 0 then -c else c) := by split <;> omega
  generalize (if c < 0 then -c else c) = cell at c0 ⊢
  -- what is returned
  have rest : ∀ great : Int, 0 ≤ great → tRet (tLst (tCons (tVar 2) (tCons (tOp (rI0 fun i j => .int (i + j)) (tOp (rI (fun _ j => 0 < j) fun i j => .int (i % j)) (tCB (fun xs H Q => (∃ i, xs = [.int i] ∧ Q (.int i) H) ∨ ∃ k, xs = [.bl k] ∧ Q (.int (if k then 1 else 0)) H) (tCons (tOp (rI0 fun i j => .int (i + j)) (tOp (rI CMul fun i j => .int (i * j)) (tVar 1) (tC (.int 193))) (tC (.int 1201))) tNil)) (tC (.int 2077504273))) (tC (.int 89))) tNil)))
      { nx := fun _ H' => Q .non H', rt := Q } [some (.ref a), some (.int cell), some (.int great)] (upd (upd (upd H l1 (.lst (ns.map V.int))) l2 (.lst [V.int 0])) l3 (.lst (ns.map V.int ++ [V.int 0]))) := by
    intro great hg
    refine ⟨_, rfl, _, rfl, cell, 193, rfl, rfl, .inr ⟨by decide, by decide⟩, _, _, rfl, rfl, .inl ⟨_, rfl, ?_⟩⟩
    refine ⟨_, _, rfl, rfl, (by show (0 : Int) < 2077504273; decide), _, _, rfl, rfl, (by show 2 ≤ sizeLine; decide), fun p hp => ?_⟩
    refine q p _ (g1.trans (g2.trans (g3.trans (Gr.new g3.tabs hp _)))) ⟨great, _, upd_same, hg, ?_, ?_⟩
    · have := Int.emod_nonneg (cell * 193 + 1201) (show (2077504273 : Int) ≠ 0 by decide)
      omega
    · have := Int.emod_lt_of_pos (cell * 193 + 1201) (show (0 : Int) < 2077504273 by decide)
      omega
  refine ⟨_, rfl, 10, 18, rfl, rfl, ⟨by decide, by decide, by decide⟩, cell, _, rfl, rfl, _, rfl, ite2 (fun c => ?_) (fun c => ?_)⟩
  · exact ⟨_, rfl, cell, 11, rfl, rfl, ⟨by decide, by decide⟩, rest _ (Int.ediv_nonneg c0 (by decide))⟩
  · exact rest 0 (Int.le_refl 0)
end
end Bk

set_option Elab.async false
set_option linter.all false
set_option maxRecDepth 100000
set_option maxHeartbeats 4000000
namespace Bk
open PySem PySem.Spec PyProof.Rows L2
abbrev s_lmet : Stmt := top 42
/-! ### lists of texts, as data -/
def OkS (z : Str) : Prop := PyData.strOk z = true
theorem dp_strs {K : PySem.W.Frag} {H : Hp} : ∀ l : List Str, DpAll K H (l.map V.str) (l.map PyData.str)
  | [] => .nil
  | x :: r => .cons (.str x) (dp_strs r)
theorem canLay_strs : ∀ l : List Str, (∀ s ∈ l, OkS s) → PyData.canLayAll0 (l.map PyData.str) = true
  | [], _ => by simp [PyData.canLayAll0]
  | x :: r, h => by
    have h1 : PyData.strOk x = true := h x List.mem_cons_self
    have h2 := canLay_strs r fun s hs => h s (List.mem_cons_of_mem _ hs)
    simp only [List.map_cons, PyData.canLayAll0, PyData.canLay0, h1, h2, Bool.and_self]
theorem depth_strs : ∀ l : List Str, PyData.depthAll (l.map PyData.str) = 0
  | [] => by simp [PyData.depthAll]
  | x :: r => by simp only [List.map_cons, PyData.depthAll, PyData.depth, depth_strs r, Nat.max_self]
theorem shaped_strs {l : List Str} (h : ∀ s ∈ l, OkS s) : SeqAt.shaped (.list (l.map PyData.str)) = true := by
  unfold SeqAt.shaped
  simp only [PyData.canLay0, PyData.depth, canLay_strs l h, depth_strs, Bool.true_and]
  decide
theorem eqv_strs : ∀ l m : List Str, PyData.eqvAll (l.map PyData.str) (m.map PyData.str) = decide (l = m)
  | [], [] => by simp [PyData.eqvAll]
  | [], y :: m => by simp [PyData.eqvAll]
  | x :: l, [] => by simp [PyData.eqvAll]
  | x :: l, y :: m => by
    simp only [List.map_cons, PyData.eqvAll, PyData.eqv, eqv_strs l m]
    by_cases h1 : x = y
    · by_cases h2 : l = m
      · simp [h1, h2]
      · simp [h1, h2]
    · simp [h1]
def rEqS (K : PySem.W.Frag) (neg : Bool) : R2 := fun x y H Q => ∃ (a b : Addr) (l m : List Str), x = .ref a ∧ y = .ref b ∧ SqL K H a (l.map V.str) ∧ SqL K H b (m.map V.str) ∧ (∀ s ∈ l, OkS s) ∧ (∀ s ∈ m, OkS s) ∧ Q (.bl (if neg = true then !decide (l = m) else decide (l = m))) H
/-- == of two lists of texts -/
theorem eq_strs {X : Cx} {k : Nat} (hr : Room k X.A) {K : PySem.W.Frag} (hK : X.K = K) : OpR X (compareOp .Eq) (rEqS K false) := by
  subst hK
  intro pins s σ H x y v u Q I rx ry h
  obtain ⟨a, b, l, m, rfl, rfl, h1, h2, h3, h4, q⟩ := h
  refine op_eqD (by have := hr.un; omega) pins s σ H _ _ v u Q I rx ry ⟨.list (l.map PyData.str), .list (m.map PyData.str), .lst h1 (dp_strs l), .lst h2 (dp_strs m), shaped_strs h3, shaped_strs h4, ?_⟩
  rw [show PyData.eqv (.list (l.map PyData.str)) (.list (m.map PyData.str)) = decide (l = m) by simp only [PyData.eqv]; exact eqv_strs l m]
  exact q
theorem ne_strs {X : Cx} {k : Nat} (hr : Room k X.A) {K : PySem.W.Frag} (hK : X.K = K) : OpR X (compareOp .NotEq) (rEqS K true) := by
  subst hK
  intro pins s σ H x y v u Q I rx ry h
  obtain ⟨a, b, l, m, rfl, rfl, h1, h2, h3, h4, q⟩ := h
  refine op_neD (by have := hr.un; omega) pins s σ H _ _ v u Q I rx ry ⟨.list (l.map PyData.str), .list (m.map PyData.str), .lst h1 (dp_strs l), .lst h2 (dp_strs m), shaped_strs h3, shaped_strs h4, ?_⟩
  rw [show PyData.eqv (.list (l.map PyData.str)) (.list (m.map PyData.str)) = decide (l = m) by simp only [PyData.eqv]; exact eqv_strs l m]
  exact q
theorem notIn_seq {X : Cx} {K : PySem.W.Frag} (h : X.K = K) : OpR X (compareOp .NotIn) (rIn K true) := by
  subst h
  exact op_notIn_seq
/-- the steps of an orderly text are orderly -/
theorem spl_sub (S : List Nat) : ∀ (l : List Nat) (k : Nat) (acc : List Nat), ∀ p ∈ TL.spl S k acc l, ∀ c ∈ p, c ∈ acc ∨ c ∈ l := by
  intro l
  induction l with
  | nil =>
    intro k acc p hp c hc
    rw [TL.spl_nil] at hp
    rw [List.mem_singleton.mp hp] at hc
    exact .inl hc
  | cons x r ih =>
    intro k acc p hp c hc
    cases k with
    | succ k =>
      rcases ih k acc p hp c hc with q | q
      · exact .inl q
      · exact .inr (List.mem_cons_of_mem _ q)
    | zero =>
      cases e : TL.pre S (x :: r) with
      | true =>
        rw [TL.spl_hit e] at hp
        rcases List.mem_cons.mp hp with q | q
        · rw [q] at hc; exact .inl hc
        · rcases ih _ _ p q c hc with z | z
          · simp at z
          · exact .inr (List.mem_cons_of_mem _ z)
      | false =>
        rw [TL.spl_miss e] at hp
        rcases ih _ _ p hp c hc with z | z
        · rcases List.mem_append.mp z with z | z
          · exact .inl z
          · rw [List.mem_singleton.mp z]; exact .inr List.mem_cons_self
        · exact .inr (List.mem_cons_of_mem _ z)
theorem okS_iff {z : Str} : OkS z ↔ ∀ c ∈ TL.tl z, c < 0x110000 := by
  unfold OkS PyData.strOk
  rw [Array.all_eq_true']
  constructor
  · intro h c hc
    have := h c (Array.mem_def.mpr hc)
    simpa using this
  · intro h c hc
    have := h c (Array.mem_def.mp hc)
    simpa using this
theorem steps_ok {z s : Str} (hz : OkS z) (h : s ∈ stepsOf z) : OkS s := by
  rw [okS_iff] at hz ⊢
  have h2 : TL.tl s ∈ (stepsOf z).map TL.tl := List.mem_map_of_mem h
  rw [stepsOf_tl] at h2
  intro c hc
  rcases spl_sub [47] (TL.tl z) 0 [] _ h2 c hc with q | q
  · simp at q
  · exact hz c q
/-! ### the law's own meeting -/
def lawMet : List Str → List Str → Bool
  | st, [] => st.isEmpty
  | [], a :: r => decide (a = "#" ∧ r = [])
  | s :: st, a :: r => if a = "#" ∧ r = [] then true else if inV (.str a) [.str "+", .str s] = true then lawMet st r else false
theorem lawMet_hash (st : List Str) : lawMet st [(("#" : String) : Str)] = true := by
  cases st with
  | nil => unfold lawMet; simp
  | cons s r => unfold lawMet; simp
theorem metS_cons (s a : Str) (st wa : List Str) : metS (s :: st) (a :: wa) = (pairB (a, s) && metS st wa) := by
  unfold metS
  rw [List.zip_cons_cons, List.all_cons]
  have e : decide (((s :: st).length : Int) = (a :: wa).length) = decide ((st.length : Int) = wa.length) := by
    simp only [List.length_cons]
    by_cases h : st.length = wa.length
    · simp [h]
    · rw [decide_eq_false (by omega), decide_eq_false (by omega)]
  rw [e]
  cases decide ((st.length : Int) = wa.length) <;> cases pairB (a, s) <;> simp
theorem metS_nil_cons (a : Str) (wa : List Str) : metS [] (a :: wa) = false := by
  unfold metS
  rw [decide_eq_false (by simp only [List.length_nil, List.length_cons]; omega)]
  rfl
theorem metL_law : ∀ wa st : List Str, lawMet st wa = metL st wa := by
  intro wa
  induction wa with
  | nil =>
    intro st
    unfold metL metS
    cases st with
    | nil => simp [lawMet]
    | cons s r =>
      simp only [lawMet, List.isEmpty_cons, List.getLast?_nil, List.zip_nil_left, List.all_nil, Bool.and_true]
      rw [if_neg (by simp)]
      rw [decide_eq_false (by simp only [List.length_nil, List.length_cons]; omega)]
  | cons a r ih =>
    intro st
    cases r with
    | nil =>
      by_cases ha : a = "#"
      · subst ha
        rw [lawMet_hash]
        unfold metL
        rw [show ([("#" : Str)]).getLast? = some (("#" : String) : Str) from rfl, if_pos rfl]
        show true = metS (st.take 0) []
        rw [List.take_zero]
        rfl
      · have e1 : ([a] : List Str).getLast? = some a := rfl
        unfold metL
        rw [e1, if_neg (fun q => ha (Option.some.inj q))]
        cases st with
        | nil => rw [metS_nil_cons]; simp [lawMet, ha]
        | cons s st' =>
          rw [metS_cons]
          have e2 : metS st' [] = st'.isEmpty := by
            have := ih st'
            unfold lawMet metL at this
            rw [if_neg (by simp)] at this
            cases st' <;> exact this.symm
          rw [e2]
          unfold lawMet
          rw [if_neg (fun q => ha q.1)]
          show (if pairB (a, s) = true then lawMet st' [] else false) = _
          cases pairB (a, s) with
          | true => rw [if_pos rfl, Bool.true_and]; cases st' <;> rfl
          | false => rfl
    | cons b r' =>
      have e1 : (a :: b :: r').getLast? = (b :: r').getLast? := List.getLast?_cons_cons
      have nh : ¬ (a = "#" ∧ b :: r' = []) := fun q => by cases q.2
      cases st with
      | nil =>
        have e2 : lawMet [] (a :: b :: r') = false := by unfold lawMet; exact decide_eq_false nh
        rw [e2]
        unfold metL
        rw [e1]
        split
        · rw [show (a :: b :: r').dropLast = a :: (b :: r').dropLast from rfl, List.take_nil, metS_nil_cons]
        · rw [metS_nil_cons]
      | cons s st' =>
        have e2 : lawMet (s :: st') (a :: b :: r') = (pairB (a, s) && lawMet st' (b :: r')) := by
          rw [lawMet, if_neg nh]
          show (if pairB (a, s) = true then _ else _) = _
          cases pairB (a, s) <;> rfl
        rw [e2, ih st']
        unfold metL
        rw [e1]
        split
        · rw [show (a :: b :: r').dropLast = a :: (b :: r').dropLast from rfl]
          have e3 : (a :: b :: r').length - 1 = ((b :: r').length - 1) + 1 := by simp
          rw [e3, List.take_succ_cons, metS_cons]
        · rw [metS_cons]
/-- one turn -/
theorem lawMet_turn {s a : Str} {st r : List Str} (nh : a :: r ≠ [(("#" : String) : Str)]) : lawMet (s :: st) (a :: r) = if inV (.str a) [.str "+", .str s] = true then lawMet st r else false := by
  rw [lawMet, if_neg (fun q => nh (by rw [q.1, q.2]))]
theorem lawMet_out {a : Str} {r : List Str} (nh : a :: r ≠ [(("#" : String) : Str)]) : lawMet [] (a :: r) = false := by
  unfold lawMet
  exact decide_eq_false (fun q => nh (by rw [q.1, q.2]))
theorem cut_one (xs : List V) : cutV xs (some 1) none = xs.drop 1 := by
  unfold cutV
  rw [show HT.sIx xs.length 0 (some 1) = min 1 xs.length from HT.sIx_nat xs.length 0 1, HT.sIx_none]
  cases xs with
  | nil => rfl
  | cons x r =>
    rw [show min 1 (x :: r).length = 1 by rw [List.length_cons]; omega]
    show (List.take ((x :: r).length - 1) r) = r
    rw [List.length_cons, Nat.add_sub_cancel]
    exact List.take_length
abbrev hashL : List Str := [(("#" : String) : Str)]
def IvMet (T : Tbs) (t wi : Str) (H : Hp) (m : Nat) (σ : L2.St) (H' : Hp) : Prop := ∃ (pa pb : Addr) (st wa : List Str), σ = [some (.str t), some (.str wi), some (.ref pa), some (.ref pb)] ∧ m = wa.length ∧ Gr T H H' ∧ H' pa = some (.lst (st.map V.str)) ∧ H' pb = some (.lst (wa.map V.str)) ∧ (∀ s ∈ st, OkS s) ∧ (∀ s ∈ wa, OkS s) ∧ lawMet st wa = lawMet (stepsOf t) (stepsOf wi)
def spLawMet (T : Tbs) : Sp := fun vs H Q _ => ∃ t w : Str, vs = [.str t, .str w] ∧ t.length ≤ 1000 ∧ w.length ≤ 1000 ∧ OkS t ∧ OkS w ∧ LamX.Tabs T H ∧ ∀ H', Gr T H H' → Q (.bl (metB t w)) H'
section
variable {P : Program} {w : World} {K : PySem.W.Frag} {mg : Str → Option Value} {base : Heap} {T : Tbs}
theorem ok_hash : ∀ s ∈ hashL, OkS s := fun s h => by
  rw [List.mem_singleton.mp h]
  show PyData.strOk ("#" : Str) = true
  decide +kernel
end
end Bk

set_option Elab.async false
set_option linter.all false
set_option maxRecDepth 100000
set_option maxHeartbeats 4000000
namespace Bk
open PySem PySem.Spec PyProof.Rows L2
/-! ### texts made of steps -/
def names4 : List Str := ["a", "b", "ab", "abcdef"]
def signs2 : List Str := ["+", "#"]
abbrev plusS : Str := ("+" : String)
abbrev hashS : Str := ("#" : String)
abbrev slashS : Str := ("/" : String)
def joinS (qs : List Str) : Str := Txt.join slashS qs
/-- one to five steps, each one of six -/
structure Mk (qs : List Str) : Prop where
  ne : qs ≠ []
  le : qs.length ≤ 5
  mem : ∀ q ∈ qs, q ∈ names4 ∨ q = plusS ∨ q = hashS
theorem part_of {Pr : Str → Prop} (h4 : ∀ q ∈ names4, Pr q) (h1 : Pr plusS) (h2 : Pr hashS) {qs : List Str} (m : Mk qs) : ∀ q ∈ qs, Pr q := fun q hq => by
  rcases m.mem q hq with h | rfl | rfl
  · exact h4 q h
  · exact h1
  · exact h2
theorem Mk.noSlash {qs : List Str} (m : Mk qs) : ∀ q ∈ qs, 47 ∉ TL.tl q := part_of (by decide +kernel) (by decide +kernel) (by decide +kernel) m
theorem Mk.steps {qs : List Str} (m : Mk qs) : stepsOf (joinS qs) = qs := TL.split_join (s := 47) (S := []) tl_slash (by decide +kernel) m.ne m.noSlash
theorem Mk.okAll {qs : List Str} (m : Mk qs) : ∀ q ∈ qs, OkS q := part_of (by unfold OkS; decide +kernel) (by unfold OkS; decide +kernel) (by unfold OkS; decide +kernel) m
theorem Mk.lenAll {qs : List Str} (m : Mk qs) : ∀ q ∈ qs, (TL.tl q).length ≤ 6 := part_of (by decide +kernel) (by decide +kernel) (by decide +kernel) m
theorem joinL_len (S : List Nat) (hS : S.length ≤ 1) : ∀ l : List (List Nat), (∀ q ∈ l, q.length ≤ 6) → (TL.joinL S l).length ≤ 7 * l.length
  | [], _ => by simp [TL.joinL]
  | [p], h => by
    have := h p List.mem_cons_self
    show p.length ≤ 7 * 1
    omega
  | p :: q :: r, h => by
    have h1 := h p List.mem_cons_self
    have h2 := joinL_len S hS (q :: r) fun x hx => h x (List.mem_cons_of_mem _ hx)
    show (p ++ (S ++ TL.joinL S (q :: r))).length ≤ _
    rw [List.length_append, List.length_append]
    rw [List.length_cons (a := p)]
    omega
theorem joinL_mem (S : List Nat) : ∀ (l : List (List Nat)) (c : Nat), c ∉ S → (c ∈ TL.joinL S l ↔ ∃ p ∈ l, c ∈ p)
  | [], c, _ => by simp [TL.joinL]
  | [p], c, _ => by simp [TL.joinL]
  | p :: q :: r, c, h => by
    show c ∈ p ++ (S ++ TL.joinL S (q :: r)) ↔ _
    rw [List.mem_append, List.mem_append, joinL_mem S (q :: r) c h]
    constructor
    · rintro (x | x | ⟨z, hz, x⟩)
      · exact ⟨p, List.mem_cons_self, x⟩
      · exact absurd x h
      · exact ⟨z, List.mem_cons_of_mem _ hz, x⟩
    · rintro ⟨z, hz, x⟩
      rcases List.mem_cons.mp hz with rfl | hz
      · exact .inl x
      · exact .inr (.inr ⟨z, hz, x⟩)
theorem tl_joinS (qs : List Str) : TL.tl (joinS qs) = TL.joinL [47] (qs.map TL.tl) := by
  unfold joinS
  rw [TL.join_eq, TL.tl_join, tl_slash]
theorem Mk.len {qs : List Str} (m : Mk qs) : (joinS qs).length ≤ 1000 := by
  rw [TL.len_tl, tl_joinS]
  have h := joinL_len [47] (by simp) (qs.map TL.tl) fun x hx => by
    obtain ⟨q, hq, rfl⟩ := List.mem_map.mp hx
    exact m.lenAll q hq
  rw [List.length_map] at h
  have := m.le
  omega
theorem Mk.ok {qs : List Str} (m : Mk qs) : OkS (joinS qs) := by
  rw [okS_iff]
  intro c hc
  rw [tl_joinS] at hc
  by_cases h : c ∈ [47]
  · rw [List.mem_singleton.mp h]; decide
  · rw [joinL_mem _ _ _ h] at hc
    obtain ⟨p, hp, hc⟩ := hc
    obtain ⟨q, hq, rfl⟩ := List.mem_map.mp hp
    exact okS_iff.mp (m.okAll q hq) c hc
theorem joinS_has {qs : List Str} (c : Nat) (h : c ≠ 47) : c ∈ TL.tl (joinS qs) ↔ ∃ q ∈ qs, c ∈ TL.tl q := by
  rw [tl_joinS, joinL_mem _ _ _ (by simpa using h)]
  constructor
  · rintro ⟨p, hp, hc⟩
    obtain ⟨q, hq, rfl⟩ := List.mem_map.mp hp
    exact ⟨q, hq, hc⟩
  · rintro ⟨q, hq, hc⟩
    exact ⟨_, List.mem_map_of_mem hq, hc⟩
theorem cnt_nn (c : Nat) : ∀ l : List Nat, 0 ≤ cnt c l ∧ (cnt c l = 0 ↔ c ∉ l)
  | [] => by rw [cnt_nil]; simp
  | n :: r => by
    obtain ⟨h1, h2⟩ := cnt_nn c r
    rw [cnt_cons]
    by_cases e : n = c
    · rw [if_pos e]
      subst e
      constructor
      · omega
      · constructor
        · intro h; omega
        · intro h; exact absurd List.mem_cons_self h
    · rw [if_neg e]
      constructor
      · omega
      · rw [Int.zero_add, h2]
        simp [Ne.symm e]
theorem plus_eq : plusS = ⟨#[43]⟩ := by decide +kernel
theorem hash_eq : hashS = ⟨#[35]⟩ := by decide +kernel
/-- no sign of "+" and "#" -/
theorem count_none (z : Str) : decide (Txt.count z plusS + Txt.count z hashS = 0) = decide (43 ∉ TL.tl z ∧ 35 ∉ TL.tl z) := by
  rw [plus_eq, hash_eq, count_cnt, count_cnt]
  have h1 := cnt_nn 43 z.cps.toList
  have h2 := cnt_nn 35 z.cps.toList
  refine decide_eq_decide.mpr ⟨fun h => ⟨h1.2.mp (by omega), h2.2.mp (by omega)⟩, fun h => ?_⟩
  have a := h1.2.mpr h.1
  have b := h2.2.mpr h.2
  omega
theorem Mk.topic {qs : List Str} (m : Mk qs) : topicB (joinS qs) = qs.all nameB := by
  unfold topicB
  rw [m.steps, decide_eq_true (by have := m.le; omega), Bool.true_and]
theorem name_iff : (∀ q ∈ names4, nameB q = true ∧ 43 ∉ TL.tl q ∧ 35 ∉ TL.tl q ∧ q ≠ plusS ∧ q ≠ hashS) := by decide +kernel
theorem Mk.topic_count {qs : List Str} (m : Mk qs) : topicB (joinS qs) = decide (Txt.count (joinS qs) plusS + Txt.count (joinS qs) hashS = 0) := by
  rw [count_none, m.topic, Bool.eq_iff_iff, decide_eq_true_iff, List.all_eq_true]
  rw [joinS_has 43 (by decide), joinS_has 35 (by decide)]
  constructor
  · intro h
    constructor
    · rintro ⟨q, hq, hc⟩
      rcases m.mem q hq with h4 | rfl | rfl
      · exact (name_iff q h4).2.1 hc
      · have := h _ hq; revert this; decide +kernel
      · have := h _ hq; revert this; decide +kernel
    · rintro ⟨q, hq, hc⟩
      rcases m.mem q hq with h4 | rfl | rfl
      · exact (name_iff q h4).2.2.1 hc
      · have := h _ hq; revert this; decide +kernel
      · have := h _ hq; revert this; decide +kernel
  · rintro ⟨h1, h2⟩ q hq
    rcases m.mem q hq with h4 | rfl | rfl
    · exact (name_iff q h4).1
    · exact absurd ⟨_, hq, by decide +kernel⟩ h1
    · exact absurd ⟨_, hq, by decide +kernel⟩ h2
/-! ### topics, and wishes made of them -/
structure Mt (ps : List Str) : Prop where
  ne : ps ≠ []
  le : ps.length ≤ 5
  mem : ∀ p ∈ ps, p ∈ names4
theorem Mt.k {ps : List Str} (m : Mt ps) : Mk ps := ⟨m.ne, m.le, fun p hp => .inl (m.mem p hp)⟩
theorem Mt.topic {ps : List Str} (m : Mt ps) : topicB (joinS ps) = true := by
  rw [m.k.topic, List.all_eq_true]
  exact fun q hq => (name_iff q (m.mem q hq)).1
theorem last_mem {l : List Str} {z : Str} (h : l.getLast? = some z) : z ∈ l := List.mem_of_getLast? h
theorem Mt.wish {ps : List Str} (m : Mt ps) : wishB (joinS ps) = true := by
  unfold wishB
  rw [m.k.steps, if_neg (by have := m.le; simp only [decide_eq_true_iff]; omega)]
  unfold stemL
  rw [if_neg (fun e => (name_iff _ (m.mem _ (last_mem e))).2.2.2.2 rfl), List.all_eq_true]
  intro q hq
  unfold stepB
  rw [(name_iff q (m.mem q hq)).1, Bool.or_true]
inductive Op : List Str → List Str → Prop
  | nil : Op [] []
  | same (p : Str) {ps qs} : Op ps qs → Op (p :: ps) (p :: qs)
  | open_ (p : Str) {ps qs} : Op ps qs → Op (p :: ps) (plusS :: qs)
theorem Op.len {ps qs : List Str} (o : Op ps qs) : ps.length = qs.length := by
  induction o with
  | nil => rfl
  | same p _ ih => rw [List.length_cons, List.length_cons, ih]
  | open_ p _ ih => rw [List.length_cons, List.length_cons, ih]
theorem Op.mem {ps qs : List Str} (o : Op ps qs) : ∀ q ∈ qs, q ∈ ps ∨ q = plusS := by
  induction o with
  | nil => intro q hq; cases hq
  | same p _ ih =>
    intro q hq
    rcases List.mem_cons.mp hq with rfl | hq
    · exact .inl List.mem_cons_self
    · exact (ih q hq).imp (List.mem_cons_of_mem _) id
  | open_ p _ ih =>
    intro q hq
    rcases List.mem_cons.mp hq with rfl | hq
    · exact .inr rfl
    · exact (ih q hq).imp (List.mem_cons_of_mem _) id
theorem lawMet_step {s a : Str} {st r : List Str} (h : inV (.str a) [.str plusS, .str s] = true) (k : lawMet st r = true) : lawMet (s :: st) (a :: r) = true := by
  unfold lawMet
  by_cases c : a = hashS ∧ r = []
  · rw [if_pos c]
  · rw [if_neg c, if_pos h]; exact k
theorem inV_same (p : Str) : inV (.str p) [.str plusS, .str p] = true := by
  unfold inV
  simp [eqV]
theorem inV_plus (p : Str) : inV (.str plusS) [.str plusS, .str p] = true := by
  unfold inV
  simp [eqV]
theorem Op.met {ps qs : List Str} (o : Op ps qs) : lawMet ps qs = true := by
  induction o with
  | nil => rfl
  | same p _ ih => exact lawMet_step (inV_same p) ih
  | open_ p _ ih => exact lawMet_step (inV_plus p) ih
theorem Op.metCut {ps qs : List Str} (o : Op ps qs) : ∀ n, lawMet ps (qs.take n ++ [hashS]) = true := by
  induction o with
  | nil => intro n; rw [List.take_nil]; exact lawMet_hash []
  | same p _ ih =>
    intro n
    cases n with
    | zero => exact lawMet_hash _
    | succ n => rw [List.take_succ_cons]; exact lawMet_step (inV_same p) (ih n)
  | open_ p _ ih =>
    intro n
    cases n with
    | zero => exact lawMet_hash _
    | succ n => rw [List.take_succ_cons]; exact lawMet_step (inV_plus p) (ih n)
/-- the steps of a wish made of a topic -/
def Opened (ps ws : List Str) : Prop := ∃ qs, Op ps qs ∧ (ws = qs ∨ ∃ n, n < qs.length ∧ ws = qs.take n ++ [hashS])
theorem Opened.mk {ps ws : List Str} (m : Mt ps) (o : Opened ps ws) : Mk ws := by
  obtain ⟨qs, h, rfl | ⟨n, hn, rfl⟩⟩ := o
  · refine ⟨fun e => m.ne (List.length_eq_zero_iff.mp (by rw [h.len, e]; rfl)), by rw [← h.len]; exact m.le, fun q hq => (h.mem q hq).elim (fun z => .inl (m.mem q z)) fun z => .inr (.inl z)⟩
  · refine ⟨by simp, ?_, fun q hq => ?_⟩
    · rw [List.length_append, List.length_take, List.length_singleton]
      have := m.le
      have := h.len
      omega
    · rcases List.mem_append.mp hq with hq | hq
      · exact (h.mem q (List.mem_of_mem_take hq)).elim (fun z => .inl (m.mem q z)) fun z => .inr (.inl z)
      · exact .inr (.inr (List.mem_singleton.mp hq))
theorem Opened.met {ps ws : List Str} (m : Mt ps) (o : Opened ps ws) : metB (joinS ps) (joinS ws) = true := by
  unfold metB
  rw [m.k.steps, (o.mk m).steps, ← metL_law]
  obtain ⟨qs, h, rfl | ⟨n, hn, rfl⟩⟩ := o
  · exact h.met
  · exact h.metCut n
theorem step_of {q : Str} (h : q ∈ names4 ∨ q = plusS) : stepB q = true := by
  unfold stepB
  rcases h with h | rfl
  · rw [(name_iff q h).1, Bool.or_true]
  · rw [decide_eq_true rfl]; rfl
theorem Opened.wish {ps ws : List Str} (m : Mt ps) (o : Opened ps ws) : wishB (joinS ws) = true := by
  have k := o.mk m
  unfold wishB
  rw [k.steps, if_neg (by have := k.le; simp only [decide_eq_true_iff]; omega)]
  obtain ⟨qs, h, e⟩ := o
  have hs : ∀ q ∈ qs, stepB q = true := fun q hq => step_of ((h.mem q hq).imp (m.mem q) id)
  have hn : ∀ q ∈ qs, q ≠ hashS := fun q hq e => by
    rcases h.mem q hq with z | z
    · exact (name_iff q (m.mem q z)).2.2.2.2 e
    · rw [z] at e; revert e; decide +kernel
  unfold stemL
  rcases e with rfl | ⟨n, hl, rfl⟩
  · rw [if_neg (fun e => hn _ (last_mem e) rfl), List.all_eq_true]
    exact hs
  · rw [if_pos (by rw [List.getLast?_append]; rfl), List.dropLast_concat, List.all_eq_true]
    exact fun q hq => hs q (List.mem_of_mem_take hq)
/-- two topics: one meets the other just if they are the same -/
theorem lawMet_names : ∀ ps qs : List Str, (∀ q ∈ qs, q ∈ names4) → lawMet ps qs = decide (ps = qs)
  | [], [], _ => rfl
  | s :: r, [], _ => by simp [lawMet]
  | [], a :: r, h => by
    have := name_iff a (h a List.mem_cons_self)
    unfold lawMet
    rw [decide_eq_false (fun e => this.2.2.2.2 e.1)]
    simp
  | s :: st, a :: r, h => by
    have ha := name_iff a (h a List.mem_cons_self)
    have ih := lawMet_names st r fun q hq => h q (List.mem_cons_of_mem _ hq)
    unfold lawMet
    rw [if_neg (fun e => ha.2.2.2.2 e.1), ih]
    have e : inV (.str a) [.str ("+" : String), .str s] = decide (s = a) := by
      show inV (.str a) [.str plusS, .str s] = decide (s = a)
      unfold inV
      have := ha.2.2.2.1
      by_cases e : s = a
      · subst e
        simp [eqV, this]
      · simp [eqV, Ne.symm this, e]
    rw [e]
    by_cases e1 : s = a
    · subst e1
      by_cases e2 : st = r <;> simp [e2]
    · simp [e1]
theorem Mt.same {ps qs : List Str} (m : Mt ps) (k : Mt qs) : metB (joinS ps) (joinS qs) = decide (joinS ps = joinS qs) := by
  unfold metB
  rw [m.k.steps, k.k.steps, ← metL_law, lawMet_names _ _ k.mem]
  refine decide_eq_decide.mpr ⟨fun e => by rw [e], fun e => ?_⟩
  have := m.k.steps
  rw [e, k.k.steps] at this
  exact this.symm
end Bk

set_option Elab.async false
set_option linter.all false
set_option maxRecDepth 100000
set_option maxHeartbeats 4000000
namespace Bk
open PySem PySem.Spec PyProof.Rows L2
/-! ### the cup's own list may change, all else goes on -/
structure GrC (T : Tbs) (a : Addr) (H H' : Hp) : Prop where
  ext : ∀ b o, b ≠ a → H b = some o → (∀ ps, o ≠ .tbl ps) → H' b = some o
  tabs : LamX.Tabs T H'
  cup : Cup H' a
theorem Gr.cupd {T : Tbs} {H H' : Hp} {a : Addr} (g : Gr T H H') (c : Cup H a) : Cup H' a := by
  obtain ⟨x, s, h, k⟩ := c
  exact ⟨x, s, g.lst h, k⟩
theorem Gr.c {T : Tbs} {H H' : Hp} {a : Addr} (g : Gr T H H') (c : Cup H a) : GrC T a H H' := ⟨fun b o _ h n => g.ext b o h n, g.tabs, g.cupd c⟩
theorem GrC.trans {T : Tbs} {a : Addr} {H H1 H2 : Hp} (x : GrC T a H H1) (y : GrC T a H1 H2) : GrC T a H H2 := ⟨fun b o n h k => y.ext b o n (x.ext b o n h k) k, y.tabs, y.cup⟩
theorem GrC.lst {T : Tbs} {a : Addr} {H H' : Hp} (g : GrC T a H H') {b : Addr} {xs : List V} (n : b ≠ a) (h : H b = some (.lst xs)) : H' b = some (.lst xs) := g.ext b _ n h (fun _ z => by cases z)
theorem GrC.tup {T : Tbs} {a : Addr} {H H' : Hp} (g : GrC T a H H') {b : Addr} {xs : List V} (c : Cup H a) (h : H b = some (.tup xs)) : H' b = some (.tup xs) := g.ext b _ (fun e => by
  obtain ⟨x, s, k, _⟩ := c
  rw [e, k] at h
  cases h) h (fun _ z => by cases z)
theorem tabs_upd {T : Tbs} {a : Addr} {H : Hp} {xs ys : List V} (t : LamX.Tabs T H) (h : H a = some (.lst xs)) : LamX.Tabs T (upd H a (.lst ys)) := by
  intro p hp
  obtain ⟨ps, h1, h2, h3⟩ := t p hp
  refine ⟨ps, ?_, h2, fun pos cv hc => ?_⟩
  · rw [upd_ne (fun e => by rw [e, h] at h1; cases h1)]; exact h1
  · obtain ⟨c, e1, e2⟩ := h3 pos cv hc
    refine ⟨c, e1, ?_⟩
    rw [upd_ne (fun e => by rw [e, h] at e2; cases e2)]
    exact e2
theorem GrC.put {T : Tbs} {a : Addr} {H : Hp} {xs : List V} (t : LamX.Tabs T H) (h : H a = some (.lst xs)) {g s : Int} (k : CupOk g s) : GrC T a H (upd H a (.lst [.int g, .int s])) :=
  ⟨fun b o n e _ => by rw [upd_ne n]; exact e, tabs_upd t h, ⟨g, s, upd_same, k⟩⟩
/-- a new object is not the cup -/
theorem new_ne {H : Hp} {a p : Addr} (c : Cup H a) (h : H p = none) : p ≠ a := fun e => by
  obtain ⟨x, s, k, _⟩ := c
  rw [e, k] at h
  cases h
theorem GrC.new {T : Tbs} {a : Addr} {H H1 : Hp} (g : GrC T a H H1) {p : Addr} (hp : H1 p = none) (o : HO) : GrC T a H (upd H1 p o) := g.trans ((Gr.new g.tabs hp o).c g.cup)
/-- a list of one's own may grow -/
theorem GrC.own {T : Tbs} {a D : Addr} {H H' : Hp} {xs ys : List V} (g : GrC T a H H') (hD : H D = none) (n : D ≠ a) (e : H' D = some (.lst xs)) : GrC T a H (upd H' D (.lst ys)) := by
  refine ⟨fun b o k h z => ?_, tabs_upd g.tabs e, ?_⟩
  · rw [upd_ne (fun q => by rw [q, hD] at h; cases h)]
    exact g.ext b o k h z
  · obtain ⟨x, s, h, k⟩ := g.cup
    exact ⟨x, s, by rw [upd_ne (Ne.symm n)]; exact h, k⟩
theorem yes_if {σ : L2.St} {H : Hp} {A B : Hp → Prop} (h : A H) : tYes σ H fun b H3 => if b = true then A H3 else B H3 := by
  unfold tYes
  show (if true = true then A H else B H)
  rw [if_pos rfl]
  exact h
def BlkD (N : List Str) (sc scope : Scope) (own : List (Str × Nat)) : Prop := scope.kind = .function ∧ (∀ y ∈ scope.names, scope.names.lookup y.1 = some y.2) ∧ (∀ p ∈ own, N[p.2]? = some p.1) ∧ (∀ y ∈ scope.names, y.2 = .free → sc.names.lookup y.1 = some .cell ∨ sc.names.lookup y.1 = some .free) ∧ (∀ y ∈ scope.names, y.2 = .local ∨ y.2 = .cell → y.1 ∈ own.map (·.1) ∨ y.1 ∉ N)
instance {N : List Str} {sc scope : Scope} {own : List (Str × Nat)} : Decidable (BlkD N sc scope own) := by unfold BlkD; infer_instance
theorem blk_by {N : List Str} {sc scope : Scope} {own : List (Str × Nat)} (h : BlkD N sc scope own) : BlkOk N sc scope own := ⟨h.1, h.2.1, h.2.2.1, h.2.2.2.1, h.2.2.2.2⟩
section
variable {P : Program} {w : World} {K : PySem.W.Frag} {mg : Str → Option Value} {base : Heap} {T : Tbs}
theorem nd_ab {x y : Str} (h : x ≠ y) : [x, y].Nodup := by simp [h]
theorem sum_le {n : Nat} : ∀ ps : List Str, (∀ p ∈ ps, (TL.tl p).length ≤ n) → (ps.map (·.length)).sum ≤ n * ps.length
  | [], _ => by simp
  | p :: r, h => by
    have h1 := h p List.mem_cons_self
    have h2 := sum_le r fun x hx => h x (List.mem_cons_of_mem _ hx)
    rw [List.map_cons, List.sum_cons, List.length_cons]
    rw [← TL.len_tl] at h1
    have : n * (r.length + 1) = n * r.length + n := Nat.mul_succ _ _
    omega
theorem Mk.sum {qs : List Str} (m : Mk qs) : (qs.map (·.length)).sum + qs.length * slashS.length ≤ 16777216 := by
  have h1 := sum_le qs m.lenAll
  have h2 := m.le
  have h3 : slashS.length = 1 := by decide +kernel
  rw [h3]
  omega
theorem Op.snoc {ps qs : List Str} (o : Op ps qs) {p q : Str} (h : q = p ∨ q = plusS) : Op (ps ++ [p]) (qs ++ [q]) := by
  induction o with
  | nil =>
    rcases h with rfl | rfl
    · exact .same _ .nil
    · exact .open_ _ .nil
  | same x _ ih => exact .same x ih
  | open_ x _ ih => exact .open_ x ih
theorem cut_nat (xs : List V) (n : Nat) (h : n ≤ xs.length) : cutV xs none (some (n : Int)) = xs.take n := by
  unfold cutV
  rw [HT.sIx_none, List.drop_zero, Nat.sub_zero, HT.sIx_nat, Nat.min_eq_left h]
end
end Bk

set_option Elab.async false
set_option linter.all false
set_option maxRecDepth 100000
set_option maxHeartbeats 4000000
/-! zip of a tuple and a list; enumerate over a tuple; in a tuple of data -/
namespace Mx
open PySem PySem.Spec PyProof.Rows L2
/-! helpers: what holds of each of a few addresses -/
theorem all2 {p : Addr → Prop} {a b : Addr} (ha : p a) (hb : p b) : ∀ c ∈ [a, b], p c := List.forall_mem_cons.mpr ⟨ha, List.forall_mem_cons.mpr ⟨hb, nofun⟩⟩
theorem all5 {p : Addr → Prop} {a b c d e : Addr} (ha : p a) (hb : p b) (hc : p c) (hd : p d) (he : p e) : ∀ x ∈ [a, b, c, d, e], p x :=
  List.forall_mem_cons.mpr ⟨ha, List.forall_mem_cons.mpr ⟨hb, List.forall_mem_cons.mpr ⟨hc, all2 hd he⟩⟩⟩
/-- an object that is no cell -/
def NoCell (h : Heap) (c : Addr) : Prop := ∃ o, h.get? c = some o ∧ ∀ v, o.data ≠ .cell v
theorem titer_nc {h : Heap} {it a : Addr} {i : Nat} : h.IsTupleIter it a i → NoCell h it
  | ⟨o, e, _, d⟩ => ⟨o, e, fun v => by rw [d]; nofun⟩
theorem liter_nc {h : Heap} {it a : Addr} {i : Nat} : h.IsListIter it a i → NoCell h it
  | ⟨o, e, _, d⟩ => ⟨o, e, fun v => by rw [d]; nofun⟩
theorem titer_lt {h : Heap} {it a : Addr} {i : Nat} : h.IsTupleIter it a i → it < h.objs.size
  | ⟨_, e, _⟩ => Heap.lt_size e
theorem liter_lt {h : Heap} {it a : Addr} {i : Nat} : h.IsListIter it a i → it < h.objs.size
  | ⟨_, e, _⟩ => Heap.lt_size e
theorem same_at {us : List Value} {i : Nat} {x u : Value} (h : us.toArray[i]? = some x) (k : us[i]? = some u) : x = u := by
  simp only [List.getElem?_toArray] at h
  exact Option.some.inj (h.symm.trans k)
theorem in_size {us : List Value} {i : Nat} {u : Value} (k : us[i]? = some u) : i < us.toArray.size := by
  rw [List.size_toArray]
  exact (List.getElem?_eq_some_iff.mp k).1
/-- a new pair -/
theorem pair_ok {P : Program} {w : World} {H : Hp} {h : Heap} {T : Addr} {x y : V} {u v : Value} (rx : RelV x u) (ry : RelV y v) (g : h.get? T = some { cls := .type "tuple", data := .seq #[u, v] }) : ObjOk P w (upd H T (.tup [x, y])) h T (.tup [x, y]) :=
  ⟨(show 2 ≤ sizeLine by decide), [u, v], .cons rx (.cons ry .nil), ⟨_, g, rfl, _, rfl⟩⟩
/-- the tuple at a and the list at b as they stand at each turn, the items in new pairs -/
def ItzM (K : PySem.W.Frag) (a b : Addr) : It :=
  ⟨fun i H => ∃ (xs ys : List V) (x y : V), SqT K H a xs ∧ SqL K H b ys ∧ xs[i]? = some x ∧ ys[i]? = some y,
    fun i H v H' => ∃ T x y, v = .ref T ∧ H T = none ∧ H' = upd H T (.tup [x, y]) ∧ (∀ xs, SqT K H a xs → xs[i]? = some x) ∧ ∀ ys, SqL K H b ys → ys[i]? = some y,
    fun i H => ∃ xs ys : List V, SqT K H a xs ∧ SqL K H b ys ∧ i ≤ xs.length ∧ i ≤ ys.length ∧ (i = xs.length ∨ i = ys.length)⟩
/-- how the zip stands ahead of turn i -/
structure ZAt (z TI TO i1 i2 a b : Addr) (i : Nat) (h : Heap) : Prop where
  z : IsZip h z TI TO .none
  ti : IsTupOf2 h TI (.ref i1) (.ref i2)
  to : ∃ x y, IsTupOf2 h TO x y
  one : h.IsTupleIter i1 a i
  two : h.IsListIter i2 b i
theorem ZAt.lt {z TI TO i1 i2 a b : Addr} {i : Nat} {h : Heap} (t : ZAt z TI TO i1 i2 a b i h) : ∀ c ∈ [z, TI, TO, i1, i2], c < h.objs.size :=
  all5 (Heap.lt_size t.z) (Heap.lt_size t.ti) (t.to.elim fun _ q => q.elim fun _ q => Heap.lt_size q) (titer_lt t.one) (liter_lt t.two)
theorem turn_zipM {P : Program} {w : World} {K : PySem.W.Frag} {elts : List Expr} {kk : Nat} {tpos : Pos} {a b z TI TO i1 i2 : Addr} (S : ZipSep2 z TI TO i1 i2 [i1, a] [i2, b]) (na : a ≠ i1) (nb : b ≠ i2) :
    Turn P w K (.Tuple elts kk tpos) (ItzM K a b) [z, TI, TO, i1, i2] z (ZAt z TI TO i1 i2 a b) where
  mem := List.mem_cons_self
  obj := fun _ h t => all5 (p := NoCell h) ⟨_, t.z, nofun⟩ ⟨_, t.ti, nofun⟩ (t.to.elim fun _ q => q.elim fun _ q => ⟨_, q, nofun⟩) (titer_nc t.one) (liter_nc t.two)
  keep := fun _ h h' t k => by
    have k : ∀ c ∈ [z, TI, TO, i1, i2], ∀ o, h.get? c = some o → h'.get? c = some o := k
    simp only [List.forall_mem_cons] at k
    obtain ⟨kz, ki, ko, k1, k2, _⟩ := k
    obtain ⟨x, y, q⟩ := t.to
    exact ⟨kz _ t.z, ki _ t.ti, ⟨x, y, ko _ q⟩, t.one.at k1, t.two.at k2⟩
  item := by
    rintro X rfl rfl rfl calm i pins s σ H E I fp t ⟨xs, ys, x, y, qx, qy, hx, hy⟩
    obtain ⟨us, ru, pu, _⟩ := I.tuple qx
    obtain ⟨vs, rv, pv, _⟩ := I.list qy
    obtain ⟨u, hu, rxu⟩ := ru.get hx
    obtain ⟨v, hv, ryv⟩ := rv.get hy
    obtain ⟨x0, y0, hto⟩ := t.to
    have idle := I.ok.hd calm
    refine wpAny_pyNext_zipD2_item S (Draws.tuple (A := X.A.in1) idle i1 a na us.toArray) (Draws.list (A := X.A.in1) idle i2 b nb vs.toArray) t.z t.ti hto ⟨t.one, pu⟩ ⟨t.two, pv.isList⟩ (in_size hu) (in_size hv) fun u' v' h' tk eu ev z1 to1 one1 two1 pr sz old => ?_
    obtain rfl := same_at eu hu
    obtain rfl := same_at ev hv
    refine ⟨_, rfl, wpAny_letOwnedTupleGo_zip (s := { s with heap := h', toks := tk }) z1 fun h2 z2 sb => ?_⟩
    have nz : s.heap.objs.size ≠ z := Nat.ne_of_gt (t.lt z List.mem_cons_self)
    have frame : ∀ c o, c ∉ [z, TI, TO, i1, i2] → s.heap.get? c = some o → h2.get? c = some o := fun c o n g => by
      simp only [List.mem_cons, List.not_mem_nil, or_false, not_or] at n
      exact (sb.2 c n.1).trans (old c o n.1 n.2.2.1 n.2.2.2.1 n.2.2.2.2 g)
    have J := I.turnedNew (t' := tk) (ch := [z, TI, TO, i1, i2]) frame fp (Nat.le_refl _) (pair_ok rxu ryv ((sb.2 _ nz).trans pr))
    refine ⟨.ref s.heap.objs.size, _, J, rfl, ⟨_, x, y, rfl, I.hok.fresh (Nat.le_refl _), rfl, fun l hl => I.tuple_inj hl qx ▸ hx, fun l hl => I.list_inj hl qy ▸ hy⟩, ?_, fun c hc => ?_⟩
    · exact ⟨z2, (sb.2 _ S.TIz).trans (old _ _ S.TIz S.TITO S.TIi1 S.TIi2 t.ti), ⟨_, _, (sb.2 _ S.TOz).trans to1⟩, one1.1.at fun o q => (sb.2 _ S.zi1.symm).trans q, two1.1.at fun o q => (sb.2 _ S.zi2.symm).trans q⟩
    · exact (upd_ne (Nat.ne_of_lt (t.lt c hc))).trans (fp c hc).1
  done := by
    rintro X rfl rfl rfl calm i pins s σ H E I fp t ⟨xs, ys, qx, qy, lx, ly, over⟩
    obtain ⟨us, ru, pu, _⟩ := I.tuple qx
    obtain ⟨vs, rv, pv, _⟩ := I.list qy
    obtain ⟨x0, y0, hto⟩ := t.to
    have idle := I.ok.hd calm
    have e1 : us.toArray.size = xs.length := by rw [List.size_toArray, ru.length]
    have e2 : vs.toArray.size = ys.length := by rw [List.size_toArray, rv.length]
    refine wpAny_pyNext_zipD2_end S (Draws.tuple (A := X.A.in1) idle i1 a na us.toArray) (Draws.list (A := X.A.in1) idle i2 b nb vs.toArray) t.z t.ti hto ⟨t.one, pu⟩ ⟨t.two, pv.isList⟩ (e1 ▸ lx) (e2 ▸ ly) (by rw [e1, e2]; omega) fun h' tk old => ⟨rfl, I.turnedL (t' := tk) (ch := [z, TI, TO, i1, i2]) (fun c o n g => ?_) fp⟩
    simp only [List.mem_cons, List.not_mem_nil, or_false, not_or] at n
    exact old c o n.1 n.2.2.1 n.2.2.2.1 n.2.2.2.2 g
  self := fun _ _ _ _ _ t q => wpAny_pyIter_zip t.z q
theorem off2 {x a b : Nat} (h : (x < a ∨ a < x) ∧ (x < b ∨ b < x)) : x ∉ [a, b] := by
  simp only [List.mem_cons, List.not_mem_nil, or_false, not_or]
  omega
theorem sep2 (N a b : Nat) (la : a < N) (lb : b < N) : ZipSep2 (N + 4) (N + 2) (N + 3) N (N + 1) [N, a] [N + 1, b] := by
  constructor <;> first | exact List.mem_cons_self | exact Nat.ne_of_lt (by omega) | exact Nat.ne_of_gt (by omega) | exact off2 (by omega)
/-- what is new and above all is free -/
theorem fresh_of {X : Cx} {pins : List (Addr × Obj)} {σ : L2.St} {H : Hp} {s : Shared} (I : Inv X pins σ H s) {c : Addr} (h : s.heap.objs.size ≤ c) : FpOk X pins H c := I.fpOk h (I.hok.fresh h)
def iZipM (K : PySem.W.Frag) (ta : TA) : TI := fun σ H R => ta σ H fun vs H1 => ∃ a b xs ys, vs = [.ref a, .ref b] ∧ SqT K H1 a xs ∧ SqL K H1 b ys ∧ R (ItzM K a b) H1
theorem pi_zipM {X : Cx} {e e2 : Expr} {ta : TA} {p pos tpos : Pos} {elts : List Expr} {kk : Nat} (hg : Gl X "zip") (hm : X.mg "zip" = none) (ha : PA X [e, e2] ta)
    (hs : starEach [e, e2] X.env = (false, eval e X.env) :: starEach [e2] X.env := by rfl) (hpl : (backTo pos (starEach [e2] X.env)).any (·.1) = false := by rfl) :
    PI X (.Tuple elts kk tpos) (.Call (.Name "zip" p) [e, e2] [] pos) (iZipM X.K ta) where
  run pins s σ H R I h := Call_ (ld_blt I hg hm boot_zip (callWith_type1 (thn (ha.run pos pins s σ H _ I h) fun us z ⟨vs, H1, J, rv, a, b, xs, ys, e, qx, qy, q⟩ => by
    subst e
    obtain _ | ⟨rfl, _ | ⟨rfl, ⟨⟩⟩⟩ := rv
    obtain ⟨us, ru, pu, _⟩ := J.tuple qx
    obtain ⟨vs, rw', pv, _⟩ := J.list qy
    have la : a < z.heap.objs.size := by
      obtain ⟨_, g, _⟩ := pu
      exact Heap.lt_size g
    refine zip_begins2 (begins_tuple a us.toArray) (begins_list b vs.toArray) pu pv.isList fun h' hz ti to g1 g2 _ keep => wpAny_pyIter_zip hz ?_
    exact ⟨_, _, _, _, H1, rfl, J.kept (t' := z.toks) keep, turn_zipM (sep2 _ a b la pv.lt) (Nat.ne_of_lt la) (Nat.ne_of_lt (Nat.lt_succ_of_lt pv.lt)), ⟨hz, ti, ⟨_, _, to⟩, ⟨_, g1, rfl, rfl⟩, ⟨_, g2, rfl, rfl⟩⟩,
      all5 (fresh_of J (Nat.le_add_right _ _)) (fresh_of J (Nat.le_add_right _ _)) (fresh_of J (Nat.le_add_right _ _)) (fresh_of J (Nat.le_refl _)) (fresh_of J (Nat.le_add_right _ _)), q⟩) hs hpl))
theorem walk_zipM {K : PySem.W.Frag} (a b : Addr) (xs ys : List V) : Walk (ItzM K a b) (xs.zip ys).length (fun H => SqT K H a xs ∧ SqL K H b ys) (fun i H v H' => ∃ T p, (xs.zip ys)[i]? = some p ∧ v = .ref T ∧ H T = none ∧ H' = upd H T (.tup [p.1, p.2])) := by
  refine ⟨fun i _ hi q => ?_, fun _ q => ⟨_, _, q.1, q.2, ?_⟩, fun i H v H' hi q y => ?_⟩
  · rw [List.length_zip] at hi
    have h1 : i < xs.length := by omega
    have h2 : i < ys.length := by omega
    exact ⟨_, _, xs[i], ys[i], q.1, q.2, List.getElem?_eq_getElem h1, List.getElem?_eq_getElem h2⟩
  · rw [List.length_zip]; omega
  · obtain ⟨T, x, z, h1, h2, h3, h4, h5⟩ := y
    have e1 := h4 _ q.1
    have e2 := h5 _ q.2
    exact ⟨T, (x, z), List.getElem?_zip_eq_some.mpr ⟨e1, e2⟩, h1, h2, h3⟩
/-! ### enumerate over a tuple -/
/-- a new enumerate over the iterator at c -/
abbrev enumO (c : Addr) : Obj := { cls := .type "enumerate", data := .fields #[.none, .bool false, .ref c, rawInt 0, .none, .none] }
set_option maxHeartbeats 1000000 in
theorem enum_new {v : Value} {o : Obj} {Hs : Heap → Prop} (B : Begins v o Hs) : Meets (Builtin.«enumerate.__new__» ⟨[.type "enumerate", v], []⟩) fun _ R s => Hs s.heap ∧
    R (.ok (.ret (.ref (s.heap.push o).objs.size))) { s with heap := (s.heap.push o).push (enumO s.heap.objs.size) } := by
  refine .of_wp fun P w A R ⟨hp, gs, dr, tk, os⟩ ⟨is, r⟩ => ?_
  have := sub_enumerate
  have it {A' : Around} {E F : Value → Shared → Prop} (f : F (.ref hp.objs.size) ⟨hp.push o, gs, dr, tk, os⟩) : wpAny (model P w) A' (pyIter v) F E ⟨hp, gs, dr, tk, os⟩ := B.iter P w _ _ _ _ is f
  wp_walk using it
  refine wpAny_stack_any fun st => wpAny_pure ?_
  split
  case h_2 => wp_walk using it; exact ⟨_, rfl, r⟩
  case h_1 c _ _ _ _ _ => cases (c == Value.type "enumerate") <;> (wp_walk using it; exact ⟨_, rfl, r⟩)
theorem enum_starts {P : Program} {w : World} {A : Around} {s : Shared} {E : Value → Shared → Prop} {v : Value} {o : Obj} {Hs : Heap → Prop} {Fv : Value → Shared → Prop} (B : Begins v o Hs) (is : Hs s.heap)
    (f : ∀ h', IsEnum h' (s.heap.objs.size + 1) s.heap.objs.size 0 .none → h'.get? s.heap.objs.size = some o → (∀ b u, s.heap.get? b = some u → h'.get? b = some u) → Fv (.ref (s.heap.objs.size + 1)) { s with heap := h' }) :
    wpAny (model P w) A (call (.type "enumerate") [v]) Fv E s := by
  have top : (s.heap.push o).objs.size = s.heap.objs.size + 1 := Heap.size_push ..
  have en : IsEnum ((s.heap.push o).push (enumO s.heap.objs.size)) (s.heap.objs.size + 1) s.heap.objs.size 0 .none := top ▸ Heap.get?_push_size (s.heap.push o) rfl
  refine callType_new F.called_enumerate (by decide) (F.typeCall_enumerate_1 _) (F.newCall_enumerate_1 _) (fun x => F.args_object_init_2 x _) F.entry_enumerate_new (enum_new B) ⟨is, ?_⟩
  show _ ∧ Fv _ _
  rw [top]
  exact ⟨⟨_, en, rfl⟩, f _ en (Heap.get?_push_of_some _ (Heap.get?_push_size _ B.free)) fun _ _ g => Heap.get?_push_of_some _ (Heap.get?_push_of_some _ g)⟩
/-- the tuple at a as it stands at each turn, each item in a new pair -/
def IteT (K : PySem.W.Frag) (a : Addr) : It :=
  ⟨fun i H => ∃ (xs : List V) (x : V), SqT K H a xs ∧ xs[i]? = some x, fun i H v H' => ∃ T x, v = .ref T ∧ H T = none ∧ H' = upd H T (.tup [.int (i : Nat), x]) ∧ ∀ xs, SqT K H a xs → xs[i]? = some x, fun i H => ∃ xs : List V, SqT K H a xs ∧ i = xs.length⟩
/-- how the enumerate stands ahead of turn i -/
structure EAt (e it a : Addr) (i : Nat) (h : Heap) : Prop where
  en : ∃ x, IsEnum h e it ((i : Nat) : Int) x
  one : h.IsTupleIter it a i
theorem EAt.lt {e it a : Addr} {i : Nat} {h : Heap} (t : EAt e it a i h) : ∀ c ∈ [e, it], c < h.objs.size := all2 (t.en.elim fun _ q => Heap.lt_size q) (titer_lt t.one)
theorem turn_enumT {P : Program} {w : World} {K : PySem.W.Frag} {elts : List Expr} {kk : Nat} {tpos : Pos} (a e it : Addr) (na : a ≠ it) (ne : e ≠ it) (nea : e ≠ a) :
    Turn P w K (.Tuple elts kk tpos) (IteT K a) [e, it] e (EAt e it a) where
  mem := List.mem_cons_self
  obj := fun _ h t => all2 (p := NoCell h) (t.en.elim fun _ q => ⟨_, q, nofun⟩) (titer_nc t.one)
  keep := fun _ h h' t k => by
    have k : ∀ c ∈ [e, it], ∀ o, h.get? c = some o → h'.get? c = some o := k
    simp only [List.forall_mem_cons] at k
    exact ⟨t.en.imp fun _ q => k.1 _ q, t.one.at k.2.1⟩
  item := by
    rintro X rfl rfl rfl calm i pins s σ H E I fp t ⟨xs, x, q, hx⟩
    obtain ⟨us, ru, pu, _⟩ := I.tuple q
    obtain ⟨u, hu, rxu⟩ := ru.get hx
    obtain ⟨y, en⟩ := t.en
    refine wpAny_pyNext_enum_itemD (Draws.tuple (A := X.A.in1) (I.ok.hd calm) it a na us.toArray) en ⟨t.one, pu⟩ (in_size hu) ne (by simp only [List.mem_cons, List.not_mem_nil, or_false, not_or]; exact ⟨ne, nea⟩) fun u' h' tk eu ho one1 pr sz old => ?_
    obtain rfl := same_at eu hu
    refine ⟨_, rfl, wpAny_letOwnedTupleGo_enum (s := { s with heap := h', toks := tk + 1 }) ho fun h2 en2 sb => ?_⟩
    have nz : s.heap.objs.size ≠ e := Nat.ne_of_gt (t.lt e List.mem_cons_self)
    have frame : ∀ c o, c ∉ [e, it] → s.heap.get? c = some o → h2.get? c = some o := fun c o n g => by
      simp only [List.mem_cons, List.not_mem_nil, or_false, not_or] at n
      exact (sb.2 c n.1).trans (old c o n.1 n.2 g)
    have J := I.turnedNew (t' := tk + 1) (ch := [e, it]) frame fp (Nat.le_refl _) (pair_ok (x := .int (i : Nat)) ⟨_, rfl⟩ rxu ((sb.2 _ nz).trans pr))
    refine ⟨.ref s.heap.objs.size, _, J, rfl, ⟨_, x, rfl, I.hok.fresh (Nat.le_refl _), rfl, fun l hl => I.tuple_inj hl q ▸ hx⟩, ⟨⟨u', ?_⟩, one1.1.at fun o g => (sb.2 it ne.symm).trans g⟩, fun c hc => (upd_ne (Nat.ne_of_lt (t.lt c hc))).trans (fp c hc).1⟩
    exact (by omega : (i : Int) + 1 = ((i + 1 : Nat) : Int)) ▸ en2
  done := by
    rintro X rfl rfl rfl calm i pins s σ H E I fp t ⟨xs, q, over⟩
    obtain ⟨us, ru, pu, _⟩ := I.tuple q
    obtain ⟨y, en⟩ := t.en
    have size : us.toArray.size = i := by rw [List.size_toArray, ← ru.length, over]
    obtain ⟨f0, f1, _, f3, f4, f5⟩ := fp it (List.mem_cons_of_mem _ List.mem_cons_self)
    exact wpAny_pyNext_enum_endD (Draws.tuple (A := X.A.in1) (I.ok.hd calm) it a na us.toArray) en (size.symm ▸ ⟨t.one, pu⟩) fun h' old => ⟨rfl, I.turned (t' := s.toks) old f0 f1 f3 f4 f5⟩
  self := fun _ _ _ _ _ t q => t.en.elim fun _ en => wpAny_pyIter_enum en q
def iEnumT (K : PySem.W.Frag) (ta : TA) : TI := fun σ H R => ta σ H fun vs H1 => ∃ a xs, vs = [.ref a] ∧ SqT K H1 a xs ∧ R (IteT K a) H1
theorem pi_enumT {X : Cx} {e : Expr} {ta : TA} {p pos tpos : Pos} {elts : List Expr} {kk : Nat} (hg : Gl X "enumerate") (hm : X.mg "enumerate" = none) (ha : PA X [e] ta) (hs : starEach [e] X.env = [(false, eval e X.env)] := by rfl) :
    PI X (.Tuple elts kk tpos) (.Call (.Name "enumerate" p) [e] [] pos) (iEnumT X.K ta) where
  run pins s σ H R I h := Call_ (ld_blt I hg hm boot_enumerate (callWith_type1 (thn (ha.run pos pins s σ H _ I h) fun us z ⟨vs, H1, J, rv, a, xs, e, qx, q⟩ => by
    subst e
    obtain _ | ⟨rfl, ⟨⟩⟩ := rv
    obtain ⟨us, ru, pu, _⟩ := J.tuple qx
    have la : a < z.heap.objs.size := by
      obtain ⟨_, g, _⟩ := pu
      exact Heap.lt_size g
    exact enum_starts (begins_tuple a us.toArray) pu fun h' en g keep => wpAny_pyIter_enum en ⟨_, _, _, _, H1, rfl, J.kept (t' := z.toks) keep, turn_enumT a _ _ (Nat.ne_of_lt la) (Nat.succ_ne_self _) (Nat.ne_of_gt (Nat.lt_succ_of_lt la)), ⟨⟨.none, en⟩, ⟨_, g, rfl, rfl⟩⟩,
      all2 (fresh_of J (Nat.le_add_right _ _)) (fresh_of J (Nat.le_refl _)), q⟩) hs rfl))
theorem walk_enumT {K : PySem.W.Frag} (a : Addr) (xs : List V) : Walk (IteT K a) xs.length (fun H => SqT K H a xs) (fun i H v H' => ∃ T x, xs[i]? = some x ∧ v = .ref T ∧ H T = none ∧ H' = upd H T (.tup [.int ((i : Nat) : Int), x])) := by
  refine ⟨fun i _ hi q => ⟨_, xs[i], q, List.getElem?_eq_getElem hi⟩, fun _ q => ⟨_, q, rfl⟩, fun i H v H' hi q y => ?_⟩
  obtain ⟨T, x, h1, h2, h3, h4⟩ := y
  exact ⟨T, x, h4 _ q, h1, h2, h3⟩
/-! ### in a tuple of data -/
def rInDT (K : PySem.W.Frag) : R2 := fun x y H Q => ∃ d ds, Dp K H x d ∧ Dp K H y (.tuple ds) ∧ SeqAt.shaped d = true ∧ SeqAt.shaped (.tuple ds) = true ∧ Q (.bl (ds.any fun z => PyData.eqv z d)) H
theorem op_inDT {X : Cx} (hu : X.A.units + 65 < cLine) : OpR X (compareOp .In) (rInDT X.K) := by
  intro pins s σ H x y v u Q I rx ry h
  obtain ⟨d, ds, hd, he, sd, se, q⟩ := h
  obtain ⟨as, r1⟩ := Dp.reads I d x v hd rx
  obtain ⟨bs, r2⟩ := Dp.reads I (.tuple ds) y u he ry
  exact SeqAt.in_tuple_reads r2 r1 (SeqAt.canLay_of_shaped se) (SeqAt.canLay_of_shaped sd) (room_in_shaped sd hu) ⟨.bl _, H, I, rfl, q⟩
end Mx

set_option Elab.async false
set_option linter.all false
set_option maxRecDepth 100000
set_option maxHeartbeats 4000000
/-! a dict comprehension of two clauses, neither with a test -/
namespace Dc2
open PySem PySem.Spec PyProof.Rows L2
/-- a walk that comes to its end, from H0 to Fin; what is done with an item leads to the next -/
def WalkTo (J : It) (H0 : Hp) (Fin : Hp → Prop) (turn : (Hp → Prop) → V → Hp → Prop) : Prop :=
  ∃ W : Nat → Nat → Hp → Prop, (∃ m, W 0 m H0) ∧ ∀ i m H1, W i m H1 → (J.stop i H1 ∧ Fin H1) ∨
    (J.go i H1 ∧ ∃ Nx : Hp → Prop, (∀ H2, Nx H2 → ∃ k, k < m ∧ W (i + 1) k H2) ∧ ∀ x H2, J.yld i H1 x H2 → turn Nx x H2)
/-- σ' knows what σ knows -/
def Wk (σ σ' : L2.St) : Prop := σ.length = σ'.length ∧ ∀ (i : Nat) v, σ[i]? = some (some v) → σ'[i]? = some (some v)
theorem Wk.refl (σ : L2.St) : Wk σ σ := ⟨rfl, fun _ _ e => e⟩
theorem Wk.trans {a b c : L2.St} (h : Wk a b) (k : Wk b c) : Wk a c := ⟨h.1.trans k.1, fun i v e => k.2 i v (h.2 i v e)⟩
theorem wk_wipe {a b : L2.St} {vs : List Nat} (h : wipe b vs = wipe a vs) : Wk (wipe a vs) b :=
  ⟨by rw [← h, wipe_length], fun i v e => by rw [← h] at e; exact (wipe_some e).1⟩
theorem wk_both {a b : L2.St} {vs ws : List Nat} (h : wipe b vs = wipe a vs) (hv : ∀ i ∈ ws, i ∈ vs) : Wk (wipe a vs) (wipe b ws) :=
  ⟨by rw [← h, wipe_length, wipe_length], fun i v e => by
    rw [← h] at e
    obtain ⟨e1, e2⟩ := wipe_some e; rw [wipe_out fun z => e2 (hv i z)]
    exact e1⟩
/-- {kx: vx for t0 in i0 for t1 in i1} -/
abbrev two (kx vx t0 i0 t1 i1 : Expr) (scope : Scope) (pos : Pos) : Expr := .DictComp kx vx [⟨t0, i0, [], 0⟩, ⟨t1, i1, [], 0⟩] scope pos
section
variable {prog : Program} {w : World} {A : Around} {R : Result → Shared → Prop} {s : Shared} {kx vx t0 i0 t1 i1 : Expr} {scope : Scope} {pos : Pos}
/-- a loop of it whose turn is: next, then G of the item, which comes again -/
theorem loopB {c : Nat} {it acc : Value} {env : Env} {p : Pos} {G : Value → Sem Fin}
    (he : compTurn (two kx vx t0 i0 t1 i1 scope pos) c it acc env = (standAt p >>= fun _ => pyNext it >>= fun r => match r with | none => pure (.done .next) | some v => G v))
    (I : Nat → Shared → Prop)
    (turn : ∀ n s, I n s → wpAny (model prog w) A (pyNext it) (fun r s1 => match r with
      | none => R (.ok .next) s1
      | some v => wpAny (model prog w) A (G v) (fun f s2 => f = .again (.compLoop (two kx vx t0 i0 t1 i1 scope pos) c it acc env) ∧ ∃ m, m < n ∧ I m s2) (fun _ _ => False) s1) (fun _ _ => False) s) (n : Nat) (h : I n s) :
    codeAny (model prog w) A (.compLoop (two kx vx t0 i0 t1 i1 scope pos) c it acc env) R s := by
  refine codeAny_loop rfl I (fun k t hI => ?_) n h
  show wpAny _ A ((compTurn (two kx vx t0 i0 t1 i1 scope pos) c it acc env).onRaise (fun x => noteFrame x env >>= fun _ => theTreesLotGoes x)) _ _ t
  refine wpAny_noted ?_
  rw [he]
  refine wpAny_bind (wpAny_standAt (wpAny_bind (wpAny_mono (turn k t hI) (fun r s1 h1 => ?_) fun _ _ z => z.elim)))
  match r, h1 with
  | none, h1 => exact wpAny_pure h1
  | some v, h1 => exact wpAny_mono h1 (fun f s2 ⟨ef, h2⟩ => by subst ef; exact ⟨rfl, h2⟩) fun _ _ z => z.elim
/-- a turn of the first clause -/
theorem turn_out (it : Value) (D : Addr) (env : Env) : compTurn (two kx vx t0 i0 t1 i1 scope pos) 0 it (.ref D) env = (standAt i0.pos >>= fun _ => pyNext it >>= fun r => match r with
    | none => pure (.done .next)
    | some v => letOwnedTupleGo t0 it v >>= fun _ => (do assign t0 env v; let mut ok := true; for c in ([] : List Expr) do { if ok then { ok ← isTrue c env (eval c env) } }
                                                         if ok then { let x ← eval i1 env; standAt i1.pos; let x ← foldedSetIterable i1 env x; let _ ← runOwn (.compStart (two kx vx t0 i0 t1 i1 scope pos) 1 (← holding [x] (pyIter x)) (.ref D) env) env }
                                                         again (.compLoop (two kx vx t0 i0 t1 i1 scope pos) 0 it (.ref D) env))) := by rfl
/-- a turn of the second -/
theorem turn_in (it : Value) (D : Addr) (env : Env) : compTurn (two kx vx t0 i0 t1 i1 scope pos) 1 it (.ref D) env = (standAt i1.pos >>= fun _ => pyNext it >>= fun r => match r with
    | none => pure (.done .next)
    | some v => letOwnedTupleGo t1 it v >>= fun _ => (do assign t1 env v; let mut ok := true; for c in ([] : List Expr) do { if ok then { ok ← isTrue c env (eval c env) } }
                                                         if ok then { (do let k ← eval kx env; let y ← holding [k] (eval vx env); standAt { kx.pos with endLine := vx.pos.endLine, endCol := vx.pos.endCol }; holding [k, y] (dictSet D k y)) }
                                                         again (.compLoop (two kx vx t0 i0 t1 i1 scope pos) 1 it (.ref D) env))) := by rfl
end
section
variable {X : Cx} {pins : List (Addr × Obj)} {σ : L2.St} {H : Hp} {s : Shared} {R : Result → Shared → Prop} {kx vx t0 i0 t1 i1 : Expr} {scope : Scope} {pos : Pos}
/-- the same over a walk -/
theorem loopW (hc : X.calm = true) {tg : Expr} {c : Nat} {it : Addr} {acc : Value} {p : Pos} {rest : Value → Sem Fin} {J : It} {fp : List Addr} {tn : Nat → Heap → Prop} {Fin : Hp → Prop} {turn : (Hp → Prop) → V → Hp → Prop}
    (he : compTurn (two kx vx t0 i0 t1 i1 scope pos) c (.ref it) acc X.env = (standAt p >>= fun _ => pyNext (.ref it) >>= fun r => match r with | none => pure (.done .next) | some v => letOwnedTupleGo tg (.ref it) v >>= fun _ => rest v))
    (T : Turn X.prog X.w X.K tg J fp it tn) (I : Inv X pins σ H s) (st : tn 0 s.heap) (hf : ∀ b ∈ fp, FpOk X pins H b) (hw : WalkTo J H Fin turn)
    (hd : ∀ s' H', Inv X pins σ H' s' → Fin H' → R (.ok .next) s')
    (hb : ∀ (ps : List (Addr × Obj)) (s' : Shared) (H' : Hp) (x : V) (u : Value) (Nx : Hp → Prop), Inv X (pins ++ ps) σ H' s' → RelV x u → turn Nx x H' →
      wpAny (model X.prog X.w) X.A (rest u) (fun f s2 => f = .again (.compLoop (two kx vx t0 i0 t1 i1 scope pos) c (.ref it) acc X.env) ∧ ∃ σ2 H2, Inv X (pins ++ ps) σ2 H2 s2 ∧ Nx H2 ∧ Wk σ σ2) (fun _ _ => False) s') :
    codeAny (model X.prog X.w) X.A (.compLoop (two kx vx t0 i0 t1 i1 scope pos) c (.ref it) acc X.env) R s := by
  obtain ⟨W, ⟨m0, w0⟩, tr⟩ := hw
  have fo : ∀ {H' : Hp}, (∀ b ∈ fp, H' b = none) → ∀ b ∈ fp, FpOk X pins H' b := fun hn b hb => ⟨hn b hb, (hf b hb).2⟩
  refine loopB he (fun n t => ∃ i H', Inv X pins σ H' t ∧ tn i t.heap ∧ (∀ b ∈ fp, H' b = none) ∧ W i n H') ?_ m0 ⟨0, H, I, st, fun b hb => (hf b hb).1, w0⟩
  rintro n t ⟨i, H', I', st', n', w'⟩
  rcases tr i n H' w' with ⟨stop, fin⟩ | ⟨go, Nx, hNx, step⟩
  · refine thnF (T.done X rfl rfl rfl hc i pins t σ H' (fun _ _ => False) I' (fo n') st' stop) fun r t1 ⟨hr, I1⟩ => ?_
    subst hr
    exact hd t1 H' I1 fin
  · refine thnF (T.item X rfl rfl rfl hc i pins t σ H' (fun _ _ => False) I' (fo n') st' go) fun r t1 ⟨u, hr, h1⟩ => ?_
    subst hr
    refine wpAny_bind (thnF h1 fun _ t2 ⟨x, H2, I2, r2, y2, st2, n2⟩ => ?_)
    refine thnF (hb _ t2 H2 x u Nx (I2.pinned (fo n2) (T.obj _ _ st2)) r2 (step x H2 y2)) fun f t3 ⟨ef, σ3, H3, I3, nx, wk⟩ => ⟨ef, ?_⟩
    obtain ⟨k, hk, wk'⟩ := hNx H3 nx
    have pin : ∀ b ∈ fp, ∀ o, t2.heap.get? b = some o → t3.heap.get? b = some o ∧ H3 b = none := fun b hb o ee =>
      let z := I3.pin (b, o) (List.mem_append_right _ (List.mem_append_right _ (mem_pinsAt hb ee)))
      ⟨z.1, z.2.1⟩
    refine ⟨k, hk, i + 1, H3, I3.unpinned.weak wk.1 wk.2, T.keep _ _ _ st2 fun b hb o ee => (pin b hb o ee).1, fun b hb => ?_, wk'⟩
    obtain ⟨o, ee, _⟩ := T.obj _ _ st2 b hb
    exact (pin b hb o ee).2
end
section
variable {X : Cx}
/-- its meaning: D the new dict; vs the slots of both targets, ws those of the second -/
def tDc2 (wi : TI) (g : TG) (wj : TI) (gj : TG) (tk tv : TE) (vs ws : List Nat) : TE := fun σ H Q => wi σ H fun J H1 => ∀ D, H1 D = none →
  WalkTo J (upd H1 D (.dK [])) (Q (.ref D)) fun Nx x H2 => g x (wipe σ vs) H2 fun a H3 => wipe a vs = wipe σ vs ∧ wj a H3 fun Jj H4 =>
    WalkTo Jj H4 Nx fun Ny y H5 => gj y (wipe a ws) H5 fun b H6 => wipe b ws = wipe a ws ∧ tk b H6 fun k H7 => tv b H7 fun z H8 =>
      ∃ kvs kk, k = kV kk ∧ H8 D = some (.dK kvs) ∧ kvs.length < sizeLine ∧ Ny (upd H8 D (.dK (putK kvs kk z)))
variable {kx vx t0 i0 t1 i1 : Expr} {scope : Scope} {pos : Pos} {own : List (Str × Nat)} {ws : List Nat} {wi wj : TI} {g gj : TG} {tk tv : TE}
/-- where the inner walk starts -/
theorem start_in {prog : Program} {w : World} {A : Around} {R : Result → Shared → Prop} {s : Shared} {it acc : Value} {env : Env}
    (h0 : codeAny (model prog w) A (.compLoop (two kx vx t0 i0 t1 i1 scope pos) 1 it acc env) R s)
    (h : wpAny (model prog w) A (pyIter it) (fun j s' => codeAny (model prog w) A (.compLoop (two kx vx t0 i0 t1 i1 scope pos) 1 j acc env) R s') (fun _ _ => False) s) :
    codeAny (model prog w) A (.compStart (two kx vx t0 i0 t1 i1 scope pos) 1 it acc env) R s := by
  refine codeAny_of_tree ?_
  show wpAny _ A ((compStart (two kx vx t0 i0 t1 i1 scope pos) 1 it acc env).onRaise (fun x => noteFrame x env >>= fun _ => standAt theWindowsPlace)) _ _ s
  refine wpAny_notedAt ?_
  unfold compStart
  show wpAny _ A (ask >>= _) _ _ _
  refine wpAny_bind (wpAny_askSetting (wpAny_ite ?_)); split
  · first | exact wpAny_bind (wpAny_pure (wpAny_pure ⟨rfl, h0⟩)) | exact wpAny_pure ⟨rfl, h0⟩
  · refine wpAny_bind (wpAny_rule ?_); show wpAny _ _ (standAt i1.pos >>= _) _ _ _
    exact wpAny_bind (wpAny_standAt (wpAny_bind (wpAny_mono h (fun j s' hj => wpAny_pure ⟨rfl, hj⟩) fun _ _ z => z.elim)))
theorem core2 {pins : List (Addr × Obj)} {s : Shared} {σ : L2.St} {H : Hp} {Q : VK} {pos' : Pos} {use : Option (Value → Sem Unit)} {Qf : Value → Shared → Prop} (hc : X.calm = true) (hN : X.N.Nodup) (I : Inv X pins σ H s) (hi : PI X t0 i0 wi)
    (ok : BlkOk X.N X.env.scope scope own) (hv : ∀ i ∈ ws, i ∈ own.map (·.2)) (hg : ∀ (t : Shared) (G : Hp) (C : Addr) (cl : List (Str × Addr)) (fp : List Addr), PG (X.blk t G scope (compEnvC scope cl C X.env) fp) t0 g) (hj : ∀ (t : Shared) (G : Hp) (C : Addr) (cl : List (Str × Addr)) (fp : List Addr), PI (X.blk t G scope (compEnvC scope cl C X.env) fp) t1 i1 wj) (hgj : ∀ (t : Shared) (G : Hp) (C : Addr) (cl : List (Str × Addr)) (fp : List Addr), PG (X.blk t G scope (compEnvC scope cl C X.env) fp) t1 gj) (hk : ∀ (t : Shared) (G : Hp) (C : Addr) (cl : List (Str × Addr)) (fp : List Addr), PE (X.blk t G scope (compEnvC scope cl C X.env) fp) kx tk) (he : ∀ (t : Shared) (G : Hp) (C : Addr) (cl : List (Str × Addr)) (fp : List Addr), PE (X.blk t G scope (compEnvC scope cl C X.env) fp) vx tv)
    (hs : ∀ x, foldedSetIterable i0 X.env x = pure x) (hsj : ∀ env x, foldedSetIterable i1 env x = pure x) (h : tDc2 wi g wj gj tk tv (own.map (·.2)) ws σ H Q)
    (fin : ∀ D C s' m H', Inv X pins σ H' s' → Q (.ref D) H' → s'.heap.Ns C m → FpOk X pins H' C → compPost (model X.prog X.w) X.A X.xe use Qf (.ref D) C (.ok .next) s') :
    wpAny (model X.prog X.w) X.A (comprehension (two kx vx t0 i0 t1 i1 scope pos) scope X.env pos' newDict false (eval i0 X.env) use) Qf X.xe s := by
  have hfree : ∀ y ∈ scope.names, y.2 = .free → ∃ c, X.env.cells.lookup y.1 = some c := fun y hy e => (ok.free y hy e).elim (fun k => I.ok.has _ (.inl k)) fun k => I.ok.has _ (.inr k)
  refine wpAny_comprehension_free (use := use) rfl hs (closure_ok hfree) ok.kind (fun y hy e => by rw [ok.uniq y hy, e]) (thn (hi.run pins s σ H _ I h) fun xv s1 hx => thn hx fun itv s2 h2 => ?_)
  obtain ⟨it, fp, tn, J, H2, e, I2, T, st2, f2, q⟩ := h2; subst e
  refine wpAny_newObj_type (newEnv_comp ?_); generalize eD : s2.heap.objs.size = D
  have q := q D (I2.hok.fresh (Nat.le_of_eq eD))
  generalize e3 : ({ s2 with heap := s2.heap.push { cls := .type "dict", data := .dict #[] } } : Shared) = s3
  have p3 : s3.heap = s2.heap.push { cls := .type "dict", data := .dict #[] } := by rw [← e3]
  have kp : ∀ b o, s2.heap.get? b = some o → s3.heap.get? b = some o := fun b o z => by rw [p3]; exact Heap.get?_push_of_some _ z
  have I3 : Inv X pins σ (upd H2 D (.dK [])) s3 := by
    rw [← e3]
    refine I2.laid (t' := s2.toks) (fun b o z => Heap.get?_push_of_some _ z) (Nat.le_of_eq eD) ?_
    rw [← eD]; exact dk_empty s2.heap I2.big
  have lt2 : ∀ b ∈ fp, b < s2.heap.objs.size := fun b hb => let ⟨o, z, _⟩ := T.obj _ _ st2 b hb; Heap.lt_size z
  have f3 : ∀ b ∈ fp, FpOk X pins (upd H2 D (.dK [])) b ∧ b < s3.heap.objs.size := fun b hb =>
    ⟨⟨by rw [upd_ne (by rw [← eD]; exact Nat.ne_of_lt (lt2 b hb))]; exact (f2 b hb).1, (f2 b hb).2⟩, by rw [p3, Heap.size_push]; exact Nat.lt_succ_of_lt (lt2 b hb)⟩
  have I4 := block_start I3 ok hN f3; generalize ecl : cellsFrom (s3.heap.objs.size + 1) scope.names (cloFrom X.env.cells scope.names []) = cl at I4
  have kg := hg s3 (upd H2 D (.dK [])) s3.heap.objs.size cl fp
  have kj := hj s3 (upd H2 D (.dK [])) s3.heap.objs.size cl fp
  have kgj := hgj s3 (upd H2 D (.dK [])) s3.heap.objs.size cl fp
  have kk := hk s3 (upd H2 D (.dK [])) s3.heap.objs.size cl fp
  have kv := he s3 (upd H2 D (.dK [])) s3.heap.objs.size cl fp
  subst ecl
  show codeAny _ _ (.compStart (two kx vx t0 i0 t1 i1 scope pos) 0 (.ref it) (.ref D) (compEnvC scope (cellsFrom (s3.heap.objs.size + 1) scope.names (cloFrom X.env.cells scope.names [])) s3.heap.objs.size X.env)) (compPost (model X.prog X.w) X.A X.xe use Qf (.ref D) s3.heap.objs.size) { s3 with heap := pushCells (s3.heap.push { cls := .type "dict", data := .dict #[] }) scope.names }
  generalize ece : compEnvC scope (cellsFrom (s3.heap.objs.size + 1) scope.names (cloFrom X.env.cells scope.names [])) s3.heap.objs.size X.env = ce at I4 kg kj kgj kk kv ⊢
  have cL : ce.locals = s3.heap.objs.size := by subst ece; rfl
  generalize e4 : ({ s3 with heap := pushCells (s3.heap.push { cls := .type "dict", data := .dict #[] }) scope.names } : Shared) = s4 at I4 ⊢
  have st4 : tn 0 s4.heap := T.keep _ _ _ st2 fun b _ o z => by rw [← e4]; exact pushCells_keeps _ _ _ _ (Heap.get?_push_of_some _ (kp b o z))
  generalize eB : X.blk s3 (upd H2 D (.dK [])) scope ce fp = B at I4 kg kj kgj kk kv
  have f4 : ∀ b ∈ fp, FpOk B [] (upd H2 D (.dK [])) b := fun b hb => by
    subst eB
    exact ⟨(f3 b hb).1.1, (I4.ok.exf b hb).1, I4.ok.exfs b hb, .inl hb, fun x c z => (I4.ok.exf b hb).2 x c z, fun p hp => absurd (show p ∈ ([] : List (Addr × Obj)) ++ [] from hp) (by simp)⟩
  have loop : codeAny (model B.prog B.w) B.A (.compLoop (two kx vx t0 i0 t1 i1 scope pos) 0 (.ref it) (.ref D) B.env) (compPost (model X.prog X.w) X.A X.xe use Qf (.ref D) s3.heap.objs.size) s4 := by
    refine loopW (X := B) (pins := []) (by subst eB; exact hc) (turn_out (.ref it) D B.env) (by subst eB; exact T) I4 st4 f4 q (fun s' H' I' qq => ?_) (fun ps s' H' x u Nx I' r' step => ?_)
    · subst eB
      have I7 : Inv X pins σ H' s' := I3.call' (ch := fp) I'.os I'.base I'.hok I'.bare fun b hb => ⟨(f3 b hb).1.2.2.2.1, (f3 b hb).1.2.1, (f3 b hb).1.2.2.2.2.1, (f3 b hb).1.2.2.2.2.2⟩
      have nC : H' s3.heap.objs.size = none := by have z : H' ce.locals = none := I'.free; rwa [cL] at z
      obtain ⟨m, hn, _⟩ := I'.loc
      exact fin D s3.heap.objs.size s' m H' I7 qq (by have z : s'.heap.Ns ce.locals m := hn; rwa [cL] at z) (I3.fpOk (Nat.le_refl _) nC)
    · have xe : B.xe = fun _ _ => False := by subst eB; rfl
      refine wpAny_bind (thnF (xe ▸ kg.run _ s' _ H' x u _ I' r' step) fun _ s5 ⟨a, H5, I5, ha, q5⟩ => ?_)
      refine wpAny_bind (wpAny_pure ?_); refine wpAny_bind (thnF (xe ▸ kj.run _ s5 a H5 _ I5 q5) fun xv s6 hx => wpAny_bind (wpAny_standAt (wpAny_bind (wpAny_of_eq (hsj _ xv) (wpAny_bind (wpAny_holding (thnF hx fun itv s7 h7 => ?_)))))))
      obtain ⟨jt, fq, tm, Jj, H7, ej, I7, Tj, st7, f7, w7⟩ := h7
      subst ej
      refine wpAny_bind (wpAny_runOwn ?_); rw [Around.mark_none]
      have lq : codeAny (model B.prog B.w) B.A (.compLoop (two kx vx t0 i0 t1 i1 scope pos) 1 (.ref jt) (.ref D) B.env) (fun r t => match r with
          | .ok _ => ∃ σ2 H2, Inv B ([] ++ ps) σ2 H2 t ∧ Nx H2 ∧ Wk (wipe σ (own.map (·.2))) σ2
          | .error _ => False) s7 := by
        refine loopW (X := B) (pins := [] ++ ps) (σ := wipe a ws) (by subst eB; exact hc) (turn_in (.ref jt) D B.env) Tj (I7.weak (wipe_length _ _) fun i v z => (wipe_some z).1) st7 f7 w7 (fun t H8 I8 nx => ⟨_, H8, I8, nx, wk_both ha hv⟩) (fun pq t H8 y uy Ny I8 ry step1 => ?_)
        refine wpAny_bind (thnF (xe ▸ kgj.run _ t _ H8 y uy _ I8 ry step1) fun _ t1 ⟨b, H9, I9, hb, q9⟩ => ?_)
        refine wpAny_bind (wpAny_pure ?_); refine wpAny_bind (wpAny_bind (thnF (xe ▸ kk.run _ t1 b H9 _ I9 q9) fun z1 t2 ⟨y1, Ha, Ia, ra, qa⟩ => ?_))
        refine wpAny_bind (wpAny_holding (thnF (xe ▸ kv.run _ t2 b Ha _ Ia qa) fun z2 t3 ⟨y2, Hb, Ib, rb, kvs, key, ey, hDb, hzb, ny⟩ => ?_))
        subst ey
        refine wpAny_bind (wpAny_standAt (wpAny_holding (d_dictSet Ib hDb hzb ra rb fun t4 I10 => ?_)))
        exact wpAny_pure ⟨rfl, b, _, I10, ny, wk_wipe hb⟩
      refine codeAny_mono (start_in lq (Tj.self _ _ _ _ _ st7 lq)) fun r t hr => ?_
      match r, hr with
      | .ok f, hr => exact wpAny_pure ⟨rfl, hr⟩
      | .error x, hr => exact hr.elim
  subst eB
  exact codeAny_compStart_dict loop (T.self X.A 0 _ _ _ st4 loop)
/-- as a value -/
theorem pe_dc2 (hc : X.calm = true) (hN : X.N.Nodup) (hi : PI X t0 i0 wi) (ok : BlkOk X.N X.env.scope scope own) (hv : ∀ i ∈ ws, i ∈ own.map (·.2)) (hg : ∀ (t : Shared) (G : Hp) (C : Addr) (cl : List (Str × Addr)) (fp : List Addr), PG (X.blk t G scope (compEnvC scope cl C X.env) fp) t0 g) (hj : ∀ (t : Shared) (G : Hp) (C : Addr) (cl : List (Str × Addr)) (fp : List Addr), PI (X.blk t G scope (compEnvC scope cl C X.env) fp) t1 i1 wj) (hgj : ∀ (t : Shared) (G : Hp) (C : Addr) (cl : List (Str × Addr)) (fp : List Addr), PG (X.blk t G scope (compEnvC scope cl C X.env) fp) t1 gj) (hk : ∀ (t : Shared) (G : Hp) (C : Addr) (cl : List (Str × Addr)) (fp : List Addr), PE (X.blk t G scope (compEnvC scope cl C X.env) fp) kx tk) (he : ∀ (t : Shared) (G : Hp) (C : Addr) (cl : List (Str × Addr)) (fp : List Addr), PE (X.blk t G scope (compEnvC scope cl C X.env) fp) vx tv) (hs : ∀ x, foldedSetIterable i0 X.env x = pure x := by intro _; rfl) (hsj : ∀ env x, foldedSetIterable i1 env x = pure x := by intro _ _; rfl) : PE X (two kx vx t0 i0 t1 i1 scope pos) (tDc2 wi g wj gj tk tv (own.map (·.2)) ws) := by
  refine ⟨fun pins s σ H Q I h => ?_⟩; show wpAny _ _ (eval (.DictComp kx vx [⟨t0, i0, [], 0⟩, ⟨t1, i1, [], 0⟩] scope pos) X.env) _ _ _
  rw [arm_eval_DictComp]
  refine core2 hc hN I hi ok hv hg hj hgj hk he hs hsj h fun D C s' m H' I' q hn f => ⟨m, hn, fun h1 sb => ?_⟩
  obtain ⟨f0, f1, f2, f3, f4, f5⟩ := f; exact ⟨.ref D, H', I'.turned (t' := s'.toks) (fun b o hb z => (sb.2 b hb).trans z) f0 f1 f3 f4 f5, rfl, q⟩
/-- put into a name of one's own -/
theorem ps_setDc2 {n : Nat} {y : Str} {py spos : Pos} (hc : X.calm = true) (hN : X.N.Nodup) (hy : X.N[n]? = some y) (hyl : X.env.scope.names.lookup y = some .local) (hsw : swapsWith (two kx vx t0 i0 t1 i1 scope pos) (some (.Name y py)) spos.line X.env = pure true)
    (hi : PI X t0 i0 wi) (ok : BlkOk X.N X.env.scope scope own) (hv : ∀ i ∈ ws, i ∈ own.map (·.2)) (hg : ∀ (t : Shared) (G : Hp) (C : Addr) (cl : List (Str × Addr)) (fp : List Addr), PG (X.blk t G scope (compEnvC scope cl C X.env) fp) t0 g) (hj : ∀ (t : Shared) (G : Hp) (C : Addr) (cl : List (Str × Addr)) (fp : List Addr), PI (X.blk t G scope (compEnvC scope cl C X.env) fp) t1 i1 wj) (hgj : ∀ (t : Shared) (G : Hp) (C : Addr) (cl : List (Str × Addr)) (fp : List Addr), PG (X.blk t G scope (compEnvC scope cl C X.env) fp) t1 gj) (hk : ∀ (t : Shared) (G : Hp) (C : Addr) (cl : List (Str × Addr)) (fp : List Addr), PE (X.blk t G scope (compEnvC scope cl C X.env) fp) kx tk) (he : ∀ (t : Shared) (G : Hp) (C : Addr) (cl : List (Str × Addr)) (fp : List Addr), PE (X.blk t G scope (compEnvC scope cl C X.env) fp) vx tv) (hs : ∀ x, foldedSetIterable i0 X.env x = pure x := by intro _; rfl) (hsj : ∀ env x, foldedSetIterable i1 env x = pure x := by intro _ _; rfl) :
    PS X (.Assign [.Name y py] (two kx vx t0 i0 t1 i1 scope pos) spos) (tAsg (tDc2 wi g wj gj tk tv (own.map (·.2)) ws) (gName n)) := by
  refine ⟨fun pins s σ H Dn I h => ?_⟩
  rw [exec_Assign_Name_used _ _ _ _ hsw]; refine wpAny_bind (wpAny_standAt (wpAny_bind ?_))
  show wpAny _ X.A (comprehension (two kx vx t0 i0 t1 i1 scope pos) scope X.env (firstIterPos [⟨t0, i0, [], 0⟩, ⟨t1, i1, [], 0⟩] pos) newDict false (eval i0 X.env) (some (assign (.Name y py) X.env)) >>= fun _ => pure ()) _ _ s
  refine wpAny_bind (thn (core2 (Q := fun x H1 => gName n x σ H1 Dn.nx) (Qf := fun _ s' => SP X pins Dn .next s') hc hN I hi ok hv hg hj hgj hk he hs hsj h fun D C s' m H' I' q hn f => ?_) fun _ s' z => wpAny_pure (wpAny_pure z))
  refine wpAny_assign_Name (store_ok2 (v := V.ref D) I' hN hy (.inl hyl) rfl (fun t It ⟨a, sb, ha⟩ => ?_) (.inr hyl))
  have haC : C ≠ a := ha.elim (fun z => by rw [z]; exact f.2.1) fun z e => f.2.2.2.2.1 y a z e.symm
  refine ⟨m, hn.sameBut sb haC, fun h1 sb1 => ⟨_, H', It.turned (t' := t.toks) (fun b o hb z => (sb1.2 b hb).trans z) f.1 f.2.1 f.2.2.2.1 f.2.2.2.2.1 f.2.2.2.2.2, q⟩⟩
theorem sw_two {py : Pos} {y : Str} {l : Nat} {env : Env} (hk : env.scope.kind = .function) (hy : env.scope.names.lookup y = some .local) (hl : (py.line == pos.line) = true) (ha : (scope.names.any fun p => p.1 == y && (p.2 == .local || p.2 == .cell)) = false) :
    swapsWith (two kx vx t0 i0 t1 i1 scope pos) (some (.Name y py)) l env = pure true := by
  have ky : env.kindOf y = some .local := hy; have hb : env.blockKind = .function := by
    unfold Env.blockKind
    rw [hk]
    rfl
  have ha : (scope.names.any fun (n, k) => n == y && (k == .local || k == .cell)) = false := ha
  unfold swapsWith
  simp only [two, hb, ky, ha, Expr.pos, hl]
  first | done | rfl
end
end Dc2

set_option Elab.async false
set_option linter.all false
set_option maxRecDepth 100000
set_option maxHeartbeats 4000000
namespace Bk
open PySem PySem.Spec PyProof.Rows L2
abbrev s_pattern : Stmt := top 17
abbrev s_common_steps : Stmt := top 18
abbrev s_common_of : Stmt := top 19
abbrev s_fresh_name : Stmt := top 20
abbrev s_topic_beyond : Stmt := top 21
/-! ### what a wish asks of topics of so many steps -/
def patL (l : List Str) (n : Nat) : Option (List Str) :=
  if l.getLast? = some ("#" : Str) then (if l.length - 1 ≤ n then some (l.dropLast ++ List.replicate (n - (l.length - 1)) ("+" : Str)) else none) else if l.length = n then some l else none
/-- a list of texts, or None -/
def HandsL (H' : Hp) (Q : VK) : Option (List Str) → Prop
  | none => Q .non H'
  | some l => ∀ p, H' p = some (.lst (l.map V.str)) → Q (.ref p) H'
def spPat (T : Tbs) : Sp := fun vs H Q _ => ∃ (wi : Str) (n : Nat), vs = [.str wi, .int n] ∧ wi.length ≤ 1000 ∧ n ≤ 1000 ∧ LamX.Tabs T H ∧ ∀ H', Gr T H H' → HandsL H' Q (patL (stepsOf wi) n)
section
variable {P : Program} {w : World} {K : PySem.W.Frag} {mg : Str → Option Value} {base : Heap} {T : Tbs}
theorem sc_pattern : FnScope ["wish", "many", "steps", "stem"] ["wish", "many"] (defScope s_pattern) := ⟨rfl, rfl, rfl, by decide +kernel, rfl, by decide +kernel, by decide +kernel⟩
theorem has_pattern (F : At K mg "pattern" s_pattern) (zl : mg "len" = none) : Has P w K mg base CX0 1 "pattern" ["wish", "many"] (spPat T) := by
  refine F.ok0 sc_pattern (fun _ _ _ _ _ _ us hl => match us, hl with | [_, _], _ => rfl) (fun vs H Q E h => ?_) fun A outer s H vs Q E hr h => ?_
  · obtain ⟨_, _, rfl, _⟩ := h
    rfl
  obtain ⟨wi, n, rfl, hw, hn, tb, q⟩ := h
  refine ⟨_, pss_cons (ps_set (i := 2) sc_pattern.nd rfl (Or.inl rfl) (pe_split (pv 0) pe_str))
    (pss_cons (ps_if (pt_cmpR op_ne (pe_ix ix_list (pv 2) (pe_un un_neg pe_int) (fun _ _ => rfl)) pe_str (nomark _))
        (pss_one (ps_ret (pe_ifExp (pt_cmpR op_eq (pe_callB call_len_seq rfl zl PySem.boot_len (pa_cons (pv 2) pa_nil)) (pv 1) (nomark _)) (pv 2) pe_non))) pss_nil)
    (pss_cons (ps_set (i := 3) sc_pattern.nd rfl (Or.inl rfl) (pe_slice sl_list (pv 2) po_none (po_some (pe_un un_neg pe_int))))
    (pss_one (ps_ret (pe_ifExp (pt_cmpR op_le (pe_callB call_len_seq rfl zl PySem.boot_len (pa_cons (pv 3) pa_nil)) (pv 1) (nomark _))
      (pe_op op_cat (pv 3) (pe_op op_rep (pe_lst (pa_cons pe_str pa_nil)) (pe_op op_sub (pv 1) (pe_callB call_len_seq rfl zl PySem.boot_len (pa_cons (pv 3) pa_nil))))) pe_non))))), ?_⟩
  refine ⟨_, rfl, ⟨wi, rfl⟩, wi, "/", rfl, rfl, rfl, two_more hw, fun p hp => ?_⟩
  have g1 : Gr T H (upd H p (.lst ((stepsOf wi).map V.str))) := Gr.new tb hp _
  have e1 : (upd H p (.lst ((stepsOf wi).map V.str))) p = some (.lst ((stepsOf wi).map V.str)) := upd_same
  obtain ⟨r, lastS, er⟩ := snoc_of (steps_ne wi)
  have hlen : r.length ≤ 1000 := by
    have := steps_many wi
    rw [er, List.length_append, List.length_singleton] at this
    omega
  have el3 : atI ((stepsOf wi).map V.str) (-1) = some (V.str lastS) := by
    rw [er, List.map_append]
    exact atI_last _ _
  have egl : (stepsOf wi).getLast? = some lastS := by rw [er]; simp
  refine ⟨_, rfl, 1, rfl, p, _, -1, _, rfl, rfl, SqL.of e1, el3, rfl, _, rfl, ?_⟩
  refine ite2 (fun c => ?_) (fun c => ?_)
  · have c2 : ¬ lastS = "#" := fun z => by rw [z] at c; simp at c
    have ep : patL (stepsOf wi) n = if (stepsOf wi).length = n then some (stepsOf wi) else none := by
      unfold patL
      rw [egl, if_neg (fun z => c2 (Option.some.inj z))]
    refine ⟨_, rfl, p, _, rfl, .inl (SqL.of e1), _, rfl, rfl, _, rfl, ?_⟩
    have q1 := q _ g1
    rw [ep] at q1
    rw [List.length_map]
    refine ite2 (fun d => ?_) (fun d => ?_)
    · rw [if_pos (by have := V.int.inj (of_decide_eq_true d); omega)] at q1
      exact ⟨_, rfl, q1 p e1⟩
    · rw [if_neg (fun z => d (by rw [z]; simp))] at q1
      exact q1
  · have c2 : lastS = "#" := by
      by_cases z : lastS = "#"
      · exact z
      · exact absurd (by simp [z]) c
    have ep : patL (stepsOf wi) n = if r.length ≤ n then some (r ++ List.replicate (n - r.length) ("+" : Str)) else none := by
      unfold patL
      rw [egl, c2, if_pos rfl, er]
      simp
    refine ⟨_, rfl, 1, rfl, -1, rfl, p, _, rfl, SqL.of e1, fun p1 hp1 => ?_⟩
    have e3 : cutV ((stepsOf wi).map V.str) none (some (-1)) = r.map V.str := by
      rw [er, List.map_append, show [lastS].map V.str = [V.str lastS] from rfl, cut_last]
    rw [e3]
    have g2 := Gr.new g1.tabs hp1 (.lst (r.map V.str))
    have e2 : (upd (upd H p (.lst ((stepsOf wi).map V.str))) p1 (.lst (r.map V.str))) p1 = some (.lst (r.map V.str)) := upd_same
    refine ⟨_, rfl, p1, _, rfl, .inl (SqL.of e2), _, rfl, _, _, rfl, rfl, _, rfl, ?_⟩
    rw [List.length_map]
    refine ite2 (fun d => ?_) (fun d => ?_)
    · have d1 : r.length ≤ n := by have := of_decide_eq_true d; omega
      refine ⟨_, rfl, (by show 1 ≤ sizeLine; decide), fun p2 hp2 => ?_⟩
      have g3 := Gr.new g2.tabs hp2 (.lst [V.str "+"])
      refine ⟨_, rfl, _, rfl, p1, _, rfl, .inl (SqL.of (g3.lst e2)), n, (r.length : Int), rfl, by rw [List.length_map], ?_⟩
      have en : ((n : Int) - (r.length : Int)).toNat = n - r.length := by omega
      refine ⟨p2, _, [V.str "+"], rfl, rfl, upd_same, by omega, by omega, by rw [en, List.length_singleton]; exact Nat.le_trans (by omega : _ ≤ 1000) (by decide), fun p3 hp3 => ?_⟩
      rw [en]
      have er2 : (List.replicate (n - r.length) [V.str "+"]).flatten = (List.replicate (n - r.length) ("+" : Str)).map V.str := by simp
      rw [er2]
      have g4 := Gr.new g3.tabs hp3 (.lst ((List.replicate (n - r.length) ("+" : Str)).map V.str))
      refine ⟨p1, p3, _, _, rfl, rfl, g4.lst (g3.lst e2), upd_same, by rw [List.length_map, List.length_map, List.length_replicate]; exact Nat.le_trans (by omega : _ ≤ 2000) (by decide), fun p4 hp4 => ?_⟩
      rw [← List.map_append]
      have g5 := Gr.new g4.tabs hp4 (.lst ((r ++ List.replicate (n - r.length) ("+" : Str)).map V.str))
      have q1 := q _ (g1.trans (g2.trans (g3.trans (g4.trans g5))))
      rw [ep, if_pos d1] at q1
      exact q1 p4 upd_same
    · have d1 : ¬ r.length ≤ n := fun z => d (by simp; omega)
      have q1 := q _ (g1.trans g2)
      rw [ep, if_neg d1] at q1
      exact q1
end
end Bk

set_option Elab.async false
set_option linter.all false
set_option maxRecDepth 100000
set_option maxHeartbeats 4000000
namespace Bk
open PySem PySem.Spec PyProof.Rows L2
/-! ### what is common to two patterns -/
/-- a step and another one that nothing meets both of -/
def apart (p : Str × Str) : Bool := (!inV (.str "+") [.str p.1, .str p.2]) && !decide (V.str p.1 = V.str p.2)
def pickS (p : Str × Str) : Str := if p.1 = "+" then p.2 else p.1
def commL (l m : List Str) : Option (List Str) := if (l.zip m).any apart = true then none else some ((l.zip m).map pickS)
def spCom (T : Tbs) : Sp := fun vs H Q _ => ∃ (a b : Addr) (l m : List Str), vs = [.ref a, .ref b] ∧ H a = some (.lst (l.map V.str)) ∧ H b = some (.lst (m.map V.str)) ∧ l.length ≤ 2000 ∧ LamX.Tabs T H ∧ ∀ H', Gr T H H' → HandsL H' Q (commL l m)
theorem any_take {α : Type} (f : α → Bool) (xs : List α) {i : Nat} {a : α} (h : xs[i]? = some a) : (xs.take (i + 1)).any f = ((xs.take i).any f || f a) := by
  rw [List.take_add_one, h, List.any_append]
  simp
section
variable {P : Program} {w : World} {K : PySem.W.Frag} {mg : Str → Option Value} {base : Heap} {T : Tbs}
theorem sc_common_steps : FnScope ["steps", "others", "common", "step", "other"] ["steps", "others"] (defScope s_common_steps) := ⟨rfl, rfl, rfl, by decide +kernel, rfl, by decide +kernel, by decide +kernel⟩
theorem has_common_steps (F : At K mg "common_steps" s_common_steps) (zz : mg "zip" = none) : Has P w K mg base CX0 1 "common_steps" ["steps", "others"] (spCom T) := by
  refine F.ok0 sc_common_steps (fun _ _ _ _ _ _ us hl => match us, hl with | [_, _], _ => rfl) (fun vs H Q E h => ?_) fun A outer s H vs Q E hr h => ?_
  · obtain ⟨_, _, _, _, rfl, _⟩ := h
    rfl
  obtain ⟨a, b, l, m, rfl, ea, eb, hl, tb, q⟩ := h
  refine ⟨_, pss_cons (ps_set (i := 2) sc_common_steps.nd rfl (Or.inl rfl) (pe_lst pa_nil))
    (pss_cons (ps_for PassesOwn.never rfl (pi_zip rfl zz (pa_cons (pv 0) (pa_cons (pv 1) pa_nil)))
        (tup_g (K := K) (n := 2) rfl rfl (pgs_cons (pg_name (i := 3) sc_common_steps.nd rfl (Or.inl rfl) (Or.inr rfl)) (pgs_cons (pg_name (i := 4) sc_common_steps.nd rfl (Or.inl rfl) (Or.inr rfl)) pgs_nil)))
      (pss_cons (ps_if (PW.pt (pw_and (pt_cmpR (notIn_seq (K := K) rfl) pe_str (pe_tup (pa_cons (pv 3) (pa_cons (pv 4) pa_nil))) rfl) (pw_and1 (pt_cmpR op_ne (pv 3) (pv 4) (nomark _))))) (pss_one (ps_ret pe_non)) pss_nil)
      (pss_one (ps_expr (pe_bm PySem.F.plainAttrs_list PySem.F.slot_list_append PySem.F.type_list_append mt_append (pv 2) (pa_cons (pe_ifExp (pt_cmpR op_eq (pv 3) pe_str (nomark _)) (pv 4) (pv 3)) pa_nil))))))
    (pss_one (ps_ret (pv 2)))), ?_⟩
  refine ⟨by show 0 ≤ sizeLine; decide, fun D hD => ?_⟩
  have g0 : Gr T H (upd H D (.lst [])) := Gr.new tb hD _
  refine ⟨_, rfl, _, rfl, a, b, _, _, rfl, SqL.of (g0.lst ea), SqL.of (g0.lst eb), ?_⟩
  refine for_it (n := (l.zip m).length) (zip_str (K := K) a b l m) (fun i σ H' => (∃ o1 o2, σ = [some (.ref a), some (.ref b), some (.ref D), o1, o2]) ∧ Gr T H H' ∧ H' D = some (.lst ((((l.zip m).take i).map pickS).map V.str)) ∧ ((l.zip m).take i).any apart = false)
    ⟨⟨none, none, rfl⟩, g0, upd_same, rfl⟩ (fun i σ H' _ p => ⟨SqL.of (p.2.1.lst ea), SqL.of (p.2.1.lst eb)⟩) ?_ ?_
  · rintro i x σ H1 H2 hi ⟨⟨o1, o2, rfl⟩, g1, eD, no⟩ y
    obtain ⟨Tp, y1, y2, rfl, hT, rfl, f1, f2⟩ := y
    obtain ⟨c, ec⟩ : ∃ c, (l.zip m)[i]? = some c := ⟨_, List.getElem?_eq_getElem hi⟩
    obtain ⟨q1, q2⟩ := List.getElem?_zip_eq_some.mp ec
    have f1 : (l.map V.str)[i]? = some y1 := f1
    have f2 : (m.map V.str)[i]? = some y2 := f2
    rw [List.getElem?_map, q1] at f1
    rw [List.getElem?_map, q2] at f2
    have e4 : y1 = V.str c.1 := (Option.some.inj f1).symm
    have e5 : y2 = V.str c.2 := (Option.some.inj f2).symm
    subst e4 e5
    have g2 := Gr.new g1.tabs hT (.tup [V.str c.1, V.str c.2])
    refine ⟨Tp, _, rfl, .inl (.inl upd_same), rfl, _, _, rfl, _, _, rfl, rfl, ?_⟩
    refine ⟨_, rfl, _, rfl, (by show 2 ≤ sizeLine; decide), fun p5 hp5 => ?_⟩
    have g3 := Gr.new g2.tabs hp5 (.tup [V.str c.1, V.str c.2])
    have ga := g1.trans (g2.trans g3)
    have eD3 := (g2.trans g3).lst eD
    have st := any_take apart (l.zip m) ec
    have tk : (l.zip m).take (i + 1) = (l.zip m).take i ++ [c] := by rw [List.take_add_one, ec]; rfl
    -- the step that is taken
    obtain ⟨H3, eH3⟩ : ∃ H3, H3 = upd (upd H1 Tp (.tup [V.str c.1, V.str c.2])) p5 (.tup [V.str c.1, V.str c.2]) := ⟨_, rfl⟩
    have ein : SqT K H3 p5 [V.str c.1, V.str c.2] := by rw [eH3]; exact SqT.of upd_same
    rw [← eH3] at ga eD3 ⊢
    have app : apart c = false → ∀ Dn : Ends, (∀ H', Gr T H H' → H' D = some (.lst ((((l.zip m).take (i + 1)).map pickS).map V.str)) → ((l.zip m).take (i + 1)).any apart = false → Dn.nx [some (.ref a), some (.ref b), some (.ref D), some (.str c.1), some (.str c.2)] H') →
        tDrop (tBM K "list" rAppend (tVar 2) (tCons (tIf (tTest (tOp rEq (tVar 3) (tC (.str "+")))) (tVar 4) (tVar 3)) tNil)) Dn [some (.ref a), some (.ref b), some (.ref D), some (.str c.1), some (.str c.2)] H3 := by
      intro hap Dn hDn
      have go : ∀ z, z = pickS c → rAppend (V.ref D) [V.str z] H3 fun _ H' => Dn.nx [some (.ref a), some (.ref b), some (.ref D), some (.str c.1), some (.str c.2)] H' := by
        intro z ez
        refine ⟨D, _, _, rfl, rfl, eD3, ?_, hDn _ (ga.own1 hD eD3) ?_ ?_⟩
        · rw [List.length_map, List.length_map, List.length_take, List.length_zip]
          exact Nat.lt_of_le_of_lt (Nat.le_trans (Nat.min_le_right _ _) (Nat.le_trans (Nat.min_le_left _ _) hl)) (by decide)
        · rw [upd_same, tk, List.map_append, List.map_append, ez]; rfl
        · rw [st, no, hap]; rfl
      refine ⟨_, rfl, .inl ⟨rfl, _, SqL.of eD3⟩, _, rfl, rfl, _, rfl, ite2 (fun h => ⟨_, rfl, ?_⟩) fun h => ⟨_, rfl, ?_⟩⟩
      · exact go _ (by unfold pickS; rw [if_pos (V.str.inj (of_decide_eq_true h))])
      · exact go _ (by unfold pickS; rw [if_neg (fun z => h (by rw [z]; simp))])
    refine ⟨p5, _, rfl, .inr ein, rfl, rfl, _, rfl, ?_⟩
    cases e1 : (!inV (.str "+") [.str c.1, .str c.2]) with
    | false => exact iteF (iteF (app (by unfold apart; rw [e1]; rfl) _ fun H' p1 p2 p3 => ⟨⟨_, _, rfl⟩, p1, p2, p3⟩))
    | true =>
      refine iteT ⟨_, rfl, _, rfl, rfl, _, rfl, ?_⟩
      cases e2 : (!decide (V.str c.1 = V.str c.2)) with
      | false => exact iteF (app (by unfold apart; rw [e2, Bool.and_false]) _ fun H' p1 p2 p3 => ⟨⟨_, _, rfl⟩, p1, p2, p3⟩)
      | true =>
        refine iteT ?_
        have q1 := q _ ga
        have yes : (l.zip m).any apart = true := List.any_eq_true.mpr ⟨c, List.mem_of_getElem? ec, by unfold apart; rw [e1, e2]; rfl⟩
        unfold commL at q1
        rw [if_pos yes] at q1
        exact q1
  · rintro σ H2 ⟨⟨o1, o2, rfl⟩, g1, eD, no⟩
    have q1 := q H2 g1
    rw [List.take_length] at eD no
    unfold commL at q1
    rw [no, if_neg Bool.false_ne_true] at q1
    exact ⟨_, rfl, q1 D eD⟩
end
end Bk

set_option Elab.async false
set_option linter.all false
set_option maxRecDepth 100000
set_option maxHeartbeats 4000000
namespace Bk
open PySem PySem.Spec PyProof.Rows L2
/-! ### a step of a wish; texts joined of such -/
/-- a name or a sign -/
def stepH (s : Str) : Bool := stepB s || decide (s = "#")
theorem name_len {s : Str} (h : nameB s = true) : 1 ≤ s.length ∧ s.length ≤ 6 ∧ ∀ c ∈ TL.tl s, letB c = true := by
  unfold nameB at h
  simp only [Bool.and_eq_true, decide_eq_true_eq, List.all_eq_true] at h
  exact ⟨by omega, by omega, h.2.2⟩
theorem let_not {c : Nat} (h : letB c = true) : c ≠ 47 ∧ c ≠ 43 ∧ c ≠ 35 ∧ c < 128 :=
  ⟨fun e => by subst e; revert h; decide +kernel, fun e => by subst e; revert h; decide +kernel, fun e => by subst e; revert h; decide +kernel, let_lt h⟩
theorem step_cases {s : Str} (h : stepH s = true) : nameB s = true ∨ s = plusS ∨ s = hashS := by
  unfold stepH stepB at h
  simp only [Bool.or_eq_true, decide_eq_true_eq] at h
  rcases h with (h | h) | h
  · exact .inr (.inl h)
  · exact .inl h
  · exact .inr (.inr h)
theorem name_not {s : Str} (h : nameB s = true) : s ≠ plusS ∧ s ≠ hashS :=
  ⟨fun e => by subst e; revert h; decide +kernel, fun e => by subst e; revert h; decide +kernel⟩
theorem stepH_len {s : Str} (h : stepH s = true) : 1 ≤ (TL.tl s).length ∧ (TL.tl s).length ≤ 6 ∧ 47 ∉ TL.tl s ∧ OkS s := by
  rcases step_cases h with h | rfl | rfl
  · obtain ⟨h1, h2, h3⟩ := name_len h
    rw [TL.len_tl] at h1 h2
    refine ⟨h1, h2, fun c => (let_not (h3 _ c)).1 rfl, okS_iff.mpr fun c hc => ?_⟩
    have := (let_not (h3 c hc)).2.2.2
    omega
  · exact ⟨by decide +kernel, by decide +kernel, by decide +kernel, by unfold OkS; decide +kernel⟩
  · exact ⟨by decide +kernel, by decide +kernel, by decide +kernel, by unfold OkS; decide +kernel⟩
theorem stepB_H {s : Str} (h : stepB s = true) : stepH s = true := by unfold stepH; rw [h]; rfl
theorem stepB_not {s : Str} (h : stepB s = true) : s ≠ hashS := fun e => by subst e; revert h; decide +kernel
theorem steps_join {qs : List Str} (hn : qs ≠ []) (h : ∀ q ∈ qs, stepH q = true) : stepsOf (joinS qs) = qs :=
  TL.split_join (s := 47) (S := []) tl_slash (by decide +kernel) hn fun q hq => (stepH_len (h q hq)).2.2.1
theorem join_len {qs : List Str} (h : ∀ q ∈ qs, stepH q = true) : (joinS qs).length ≤ 7 * qs.length := by
  rw [TL.len_tl, tl_joinS]
  have := joinL_len [47] (by simp) (qs.map TL.tl) fun x hx => by
    obtain ⟨q, hq, rfl⟩ := List.mem_map.mp hx
    exact (stepH_len (h q hq)).2.1
  rwa [List.length_map] at this
theorem join_ok {qs : List Str} (h : ∀ q ∈ qs, stepH q = true) : OkS (joinS qs) := by
  rw [okS_iff]
  intro c hc
  by_cases e : c = 47
  · omega
  · obtain ⟨q, hq, hc⟩ := (joinS_has c e).mp hc
    exact okS_iff.mp (stepH_len (h q hq)).2.2.2 c hc
theorem join_sum {qs : List Str} (h : ∀ q ∈ qs, stepH q = true) (hl : qs.length ≤ 2000000) : (qs.map (·.length)).sum + qs.length * slashS.length ≤ 16777216 := by
  have := sum_le (n := 6) qs fun q hq => (stepH_len (h q hq)).2.1
  have e : slashS.length = 1 := by decide +kernel
  rw [e]
  omega
/-- splitting and joining again -/
theorem joinL_spl : ∀ (l acc : List Nat), TL.joinL [47] (TL.spl [47] 0 acc l) = acc ++ l := by
  intro l
  induction l with
  | nil => intro acc; rw [TL.spl_nil]; simp [TL.joinL]
  | cons c r ih =>
    intro acc
    cases e : TL.pre [47] (c :: r) with
    | true =>
      rw [TL.spl_hit e]
      have ec : c = 47 := by simpa [TL.pre] using e
      have hne := spl_ne [47] r 0 []
      have := ih []
      show TL.joinL [47] (acc :: TL.spl [47] 0 [] r) = _
      cases q : TL.spl [47] 0 [] r with
      | nil => exact absurd q hne
      | cons x y =>
        rw [q] at this
        show acc ++ ([47] ++ TL.joinL [47] (x :: y)) = _
        rw [this, ec]
        simp
    | false =>
      rw [TL.spl_miss e, ih]
      simp
theorem join_steps (z : Str) : joinS (stepsOf z) = z := by
  refine TL.ext_tl ?_
  rw [tl_joinS, stepsOf_tl, joinL_spl]
  rfl
theorem joinL_last (S : List Nat) : ∀ (ps : List (List Nat)) (q : List Nat) (c : Nat), ps.getLast? = some q → q.getLast? = some c → (TL.joinL S ps).getLast? = some c
  | [], _, _, h, _ => by simp at h
  | [p], q, c, h, k => by
    have e : p = q := by simpa using h
    subst e
    exact k
  | p :: x :: r, q, c, h, k => by
    have ih := joinL_last S (x :: r) q c (by rw [List.getLast?_cons_cons] at h; exact h) k
    show (p ++ (S ++ TL.joinL S (x :: r))).getLast? = _
    rw [List.getLast?_append, List.getLast?_append, ih]
    rfl
theorem atI_getLast {α : Type} {l : List α} {c : α} (h : l.getLast? = some c) : atI l (-1) = some c := by
  have hn : l ≠ [] := fun e => by rw [e] at h; simp at h
  obtain ⟨r, z, e⟩ : ∃ r z, l = r ++ [z] := ⟨l.dropLast, l.getLast hn, (List.dropLast_concat_getLast hn).symm⟩
  rw [e] at h ⊢
  rw [atI_last]
  simpa using h
/-- whether a wish goes on with all below -/
def hE (w : Str) : Bool := decide ((stepsOf w).getLast? = some ("#" : Str))
theorem wish_steps {z : Str} (h : wishB z = true) : (stepsOf z).length ≤ 5 ∧ (∀ s ∈ stemL (stepsOf z), stepB s = true) ∧ ∀ s ∈ stepsOf z, stepH s = true := by
  unfold wishB at h
  have h5 : ¬ decide (((stepsOf z).length : Int) > 5) = true := fun e => by rw [if_pos e] at h; cases h
  rw [if_neg h5] at h
  have hs : ∀ s ∈ stemL (stepsOf z), stepB s = true := fun s hs => List.all_eq_true.mp h s hs
  refine ⟨by simp at h5; omega, hs, fun s hm => ?_⟩
  unfold stemL at hs
  by_cases c : (stepsOf z).getLast? = some ("#" : Str)
  · rw [if_pos c] at hs
    obtain ⟨r, x, e⟩ := snoc_of (steps_ne z)
    rw [e] at hs hm c
    have ex : x = "#" := by simpa using c
    rcases List.mem_append.mp hm with m | m
    · exact stepB_H (hs s (by simpa using m))
    · rw [List.mem_singleton.mp m, ex]
      decide +kernel
  · rw [if_neg c] at hs
    exact stepB_H (hs s hm)
theorem wish_len {z : Str} (h : wishB z = true) : z.length ≤ 35 := by
  have := join_len (wish_steps h).2.2
  rw [join_steps] at this
  have := (wish_steps h).1
  omega
theorem wish_ok {z : Str} (h : wishB z = true) : OkS z := by
  have := join_ok (wish_steps h).2.2
  rwa [join_steps] at this
theorem wish_sign {z : Str} (h : wishB z = true) : ∃ c, atI z.cps.toList (-1) = some c ∧ decide (V.str ⟨#[c]⟩ = V.str "#") = hE z := by
  obtain ⟨r, x, e⟩ := snoc_of (steps_ne z)
  have hx := (wish_steps h).2.2 x (by rw [e]; simp)
  have ll := stepH_len hx
  obtain ⟨c, ec⟩ : ∃ c, (TL.tl x).getLast? = some c := by
    cases q : (TL.tl x).getLast? with
    | none => rw [List.getLast?_eq_none_iff] at q; rw [q] at ll; simp at ll
    | some c => exact ⟨c, rfl⟩
  have ez : (TL.tl z).getLast? = some c := by
    have := joinL_last [47] ((stepsOf z).map TL.tl) (TL.tl x) c (by rw [e]; simp) ec
    rwa [← tl_joinS, join_steps] at this
  refine ⟨c, atI_getLast ez, ?_⟩
  have eh : hE z = decide (x = hashS) := by
    unfold hE
    rw [e]
    simp
  rw [eh]
  have hh : ("#" : Str) = ⟨#[35]⟩ := hash_eq
  have key : c = 35 ↔ x = hashS := by
    rcases step_cases hx with k | k | k
    · have := (let_not ((name_len k).2.2 c (List.mem_of_getLast? ec))).2.2.1
      exact ⟨fun z => absurd z this, fun z => absurd z (name_not k).2⟩
    · subst k
      have e43 : (TL.tl plusS).getLast? = some 43 := by decide +kernel
      rw [e43] at ec
      have : c = 43 := (Option.some.inj ec).symm
      subst this
      exact ⟨fun z => (by cases z), fun z => absurd z (by decide +kernel)⟩
    · subst k
      have e35 : (TL.tl hashS).getLast? = some 35 := by decide +kernel
      rw [e35] at ec
      exact ⟨fun _ => rfl, fun _ => (Option.some.inj ec).symm⟩
  by_cases d : c = 35
  · rw [decide_eq_true (key.mp d), d, hh]
    exact decide_eq_true rfl
  · rw [decide_eq_false (fun z => d (key.mpr z)), hh]
    refine decide_eq_false fun z => d ?_
    have := V.str.inj z
    injection this with this
    simpa using this
end Bk

set_option Elab.async false
set_option linter.all false
set_option maxRecDepth 100000
set_option maxHeartbeats 4000000
namespace Bk
open PySem PySem.Spec PyProof.Rows L2
/-! ### what is common to two wishes -/
def comN (w o : Str) : Nat := if hE w = true then (if hE o = true then max (stepsOf w).length (stepsOf o).length - 1 else (stepsOf o).length) else (stepsOf w).length
def comEnd (w o : Str) : List Str := if hE w = true then (if hE o = true then ["#"] else []) else []
def comOf (w o : Str) : Option Str := (patL (stepsOf w) (comN w o)).bind fun l => (patL (stepsOf o) (comN w o)).bind fun m => (commL l m).map fun c => joinS (c ++ comEnd w o)
/-- a text, or None -/
def HandsS (H' : Hp) (Q : VK) : Option Str → Prop
  | none => Q .non H'
  | some z => Q (.str z) H'
def spCof (T : Tbs) : Sp := fun vs H Q _ => ∃ w o : Str, vs = [.str w, .str o] ∧ wishB w = true ∧ wishB o = true ∧ LamX.Tabs T H ∧ ∀ H', Gr T H H' → HandsS H' Q (comOf w o)
theorem pat_step {w : Str} (h : wishB w = true) {n : Nat} {l : List Str} (e : patL (stepsOf w) n = some l) : l.length = n ∧ ∀ s ∈ l, stepB s = true := by
  have hs := (wish_steps h).2.1
  unfold stemL at hs
  unfold patL at e
  by_cases c : (stepsOf w).getLast? = some ("#" : Str)
  · rw [if_pos c] at e hs
    by_cases d : (stepsOf w).length - 1 ≤ n
    · rw [if_pos d] at e
      obtain rfl := Option.some.inj e
      refine ⟨by rw [List.length_append, List.length_dropLast, List.length_replicate]; omega, fun s m => ?_⟩
      rcases List.mem_append.mp m with m | m
      · exact hs s m
      · rw [(List.mem_replicate.mp m).2]; decide +kernel
    · rw [if_neg d] at e; cases e
  · rw [if_neg c] at e hs
    by_cases d : (stepsOf w).length = n
    · rw [if_pos d] at e
      obtain rfl := Option.some.inj e
      exact ⟨d, hs⟩
    · rw [if_neg d] at e; cases e
theorem comm_step {l m c : List Str} (hl : ∀ s ∈ l, stepB s = true) (hm : ∀ s ∈ m, stepB s = true) (e : commL l m = some c) : c.length = min l.length m.length ∧ ∀ s ∈ c, stepB s = true := by
  unfold commL at e
  split at e
  · cases e
  · obtain rfl := Option.some.inj e
    refine ⟨by rw [List.length_map, List.length_zip], fun s hs => ?_⟩
    obtain ⟨p, hp, rfl⟩ := List.mem_map.mp hs
    have hq := List.of_mem_zip (a := p.1) (b := p.2) hp
    unfold pickS
    split
    · exact hm _ hq.2
    · exact hl _ hq.1
theorem comEnd_step (w o : Str) : ∀ s ∈ comEnd w o, stepH s = true := by
  intro s hs
  unfold comEnd at hs
  split at hs
  · split at hs
    · rw [List.mem_singleton.mp hs]; decide +kernel
    · cases hs
  · cases hs
theorem comEnd_len (w o : Str) : (comEnd w o).length ≤ 1 := by
  unfold comEnd
  split
  · split
    · exact Nat.le_refl _
    · exact Nat.zero_le _
  · exact Nat.zero_le _
def rJoin (K : PySem.W.Frag) : V → List V → Hp → VK → Prop := fun x xs H Q => ∃ a p, ∃ ys : List Str, x = .str a ∧ xs = [.ref p] ∧ (SqL K H p (ys.map V.str) ∨ SqT K H p (ys.map V.str)) ∧ (ys.map fun x => x.length).sum + ys.length * a.length ≤ 16777216 ∧ Q (.str (Txt.join a ys)) H
def rIsNon : R2 := fun x y H Q => y = V.non ∧ Q (V.bl (decide (x = V.non))) H
/-- the end of common_of, from the two patterns on -/
def tCofR (K : PySem.W.Frag) (T : Tbs) : TS := tSeq (tPar 5 6 (tCons (tCall (spPat T) [] E0 (tCons (tVar 0) (tCons (tVar 2) tNil))) (tCons (tCall (spPat T) [] E0 (tCons (tVar 1) (tCons (tVar 2) tNil))) tNil)))
  (tSeq (tIfS (tOr (tTest (tOp rIsNon (tVar 5) (tC V.non))) (tTest (tOp rIsNon (tVar 6) (tC V.non)))) (tRet (tC V.non)) tNext)
  (tSeq (tAsg (tCall (spCom T) [] E0 (tCons (tVar 5) (tCons (tVar 6) tNil))) (gName 7))
    (tRet (tIf (tTest (tOp rIsNon (tVar 7) (tC V.non))) (tC V.non) (tBM K "str" (rJoin K) (tC (V.str "/")) (tCons (tOp rCat (tVar 7) (tVar 4)) tNil))))))
theorem handsL_of {H' : Hp} {Q : VK} {x : Option (List Str)} (h : ∀ v, (x = none → v = V.non) → (∀ l, x = some l → ∃ p, v = .ref p ∧ H' p = some (.lst (l.map V.str))) → Q v H') : HandsL H' Q x := by
  cases x with
  | none => exact h .non (fun _ => rfl) (fun l e => by cases e)
  | some l => exact fun p e => h (.ref p) (fun e => by cases e) (fun l2 e2 => ⟨p, rfl, by rw [← Option.some.inj e2]; exact e⟩)
section
variable {P : Program} {w : World} {K : PySem.W.Frag} {mg : Str → Option Value} {base : Heap} {T : Tbs}
theorem sc_common_of : FnScope ["wish", "other", "many", "other_many", "end", "steps", "others", "common"] ["wish", "other"] (defScope s_common_of) := ⟨rfl, rfl, rfl, by decide +kernel, rfl, by decide +kernel, by decide +kernel⟩
theorem has_common_of (F : At K mg "common_of" s_common_of) (zl : mg "len" = none) (zm : mg "max" = none) (HP : Has P w K mg base CX0 1 "pattern" ["wish", "many"] (spPat T)) (HC : Has P w K mg base CX0 1 "common_steps" ["steps", "others"] (spCom T)) : Has P w K mg base CX0 2 "common_of" ["wish", "other"] (spCof T) := by
  refine F.ok0 sc_common_of (fun _ _ _ _ _ _ us hl => match us, hl with | [_, _], _ => rfl) (fun vs H Q E h => ?_) fun A outer s H vs Q E hr h => ?_
  · obtain ⟨_, _, rfl, _⟩ := h
    rfl
  obtain ⟨wi, ot, rfl, hw, ho, tb, q⟩ := h
  refine ⟨_, pss_cons (ps_par (i := 2) (j := 3) rfl sc_common_of.nd rfl rfl (by decide) rfl rfl (pa_cons (pe_callB call_len_seq rfl zl PySem.boot_len (pa_cons (pe_split (pv 0) pe_str) pa_nil)) (pa_cons (pe_callB call_len_seq rfl zl PySem.boot_len (pa_cons (pe_split (pv 1) pe_str) pa_nil)) pa_nil)) (by rfl))
    (pss_cons (ps_set (i := 4) sc_common_of.nd rfl (Or.inl rfl) (pe_lst pa_nil))
    (pss_cons (ps_if (PW.pt (pw_and (pt_cmpR op_eq (pe_ix ix_str (pv 0) (pe_un un_neg pe_int) (fun _ _ => rfl)) pe_str (nomark _)) (pw_and1 (pt_cmpR op_eq (pe_ix ix_str (pv 1) (pe_un un_neg pe_int) (fun _ _ => rfl)) pe_str (nomark _)))))
        (pss_one (ps_par (i := 2) (j := 4) rfl sc_common_of.nd rfl rfl (by decide) rfl rfl (pa_cons (pe_op op_sub (pe_callB (call_max2 rfl) rfl zm (by decide +kernel) (pa_cons (pv 2) (pa_cons (pv 3) pa_nil))) pe_int) (pa_cons (pe_lst (pa_cons pe_str pa_nil)) pa_nil)) (by rfl)))
        (pss_one (ps_if (pt_cmpR op_eq (pe_ix ix_str (pv 0) (pe_un un_neg pe_int) (fun _ _ => rfl)) pe_str (nomark _)) (pss_one (ps_set (i := 2) sc_common_of.nd rfl (Or.inl rfl) (pv 3))) pss_nil)))
    (pss_cons (ps_par (i := 5) (j := 6) rfl sc_common_of.nd rfl rfl (by decide) rfl rfl (pa_cons (Has.call HP hr pass0 (pa_cons (pv 0) (pa_cons (pv 2) pa_nil))) (pa_cons (Has.call HP hr pass0 (pa_cons (pv 1) (pa_cons (pv 2) pa_nil))) pa_nil)) (by rfl))
    (pss_cons (ps_if (PW.pt (pw_or (pt_cmpR op_isN (pv 5) pe_non (nomark _)) (pw_or1 (pt_cmpR op_isN (pv 6) pe_non (nomark _))))) (pss_one (ps_ret pe_non)) pss_nil)
    (pss_cons (ps_set (i := 7) sc_common_of.nd rfl (Or.inl rfl) (Has.call HC hr pass0 (pa_cons (pv 5) (pa_cons (pv 6) pa_nil))))
    (pss_one (ps_ret (pe_ifExp (pt_cmpR op_isN (pv 7) pe_non (nomark _)) pe_non (pe_bm PySem.F.plainAttrs_str PySem.F.slot_str_join PySem.F.type_str_join mt_join pe_str (pa_cons (pe_op op_cat (pv 7) (pv 4)) pa_nil)))))))))), ?_⟩
  have lw := wish_len hw
  have lo := wish_len ho
  refine ⟨_, rfl, ⟨wi, rfl⟩, wi, "/", rfl, rfl, rfl, two_more (by omega), fun p1 hp1 => ?_⟩
  have g1 := Gr.new tb hp1 (.lst ((stepsOf wi).map V.str))
  refine ⟨p1, _, rfl, .inl (SqL.of upd_same), ?_⟩
  refine ⟨_, rfl, ⟨ot, rfl⟩, ot, "/", rfl, rfl, rfl, two_more (by omega), fun p2 hp2 => ?_⟩
  have g2 := Gr.new g1.tabs hp2 (.lst ((stepsOf ot).map V.str))
  refine ⟨p2, _, rfl, .inl (SqL.of upd_same), _, _, rfl, by show 0 ≤ sizeLine; decide, fun p3 hp3 => ?_⟩
  have g3 := Gr.new g2.tabs hp3 (.lst [])
  rw [List.length_map, List.length_map]
  have ga := g1.trans (g2.trans g3)
  obtain ⟨H3, eH3⟩ : ∃ H3, H3 = upd (upd (upd H p1 (.lst ((stepsOf wi).map V.str))) p2 (.lst ((stepsOf ot).map V.str))) p3 (.lst []) := ⟨_, rfl⟩
  have e3 : H3 p3 = some (.lst []) := by rw [eH3]; exact upd_same
  have ga : Gr T H H3 := by rw [eH3]; exact ga
  obtain ⟨cw, aw, dw⟩ := wish_sign hw
  obtain ⟨co, ao, dO⟩ := wish_sign ho
  have rest : ∀ (n : Nat) (p4 : Addr) (H4 : Hp) (Dn : Ends), Dn.rt = Q → n = comN wi ot → Gr T H H4 → H4 p4 = some (.lst ((comEnd wi ot).map V.str)) → n ≤ 5 →
      tCofR K T Dn [some (.str wi), some (.str ot), some (.int (n : Int)), some (.int ((stepsOf ot).length : Int)), some (.ref p4), none, none, none] H4 := by
    intro n p4 H4 Dn hrt en g4 e4 hn
    have q := fun H' g => q H' (g4.trans g)
    unfold comOf at q
    rw [← en] at q
    refine ⟨_, rfl, _, rfl, wi, n, rfl, by omega, by omega, g4.tabs, fun H5 g5 => ?_⟩
    refine handsL_of fun v1 v1n v1s => ?_
    refine ⟨_, rfl, _, rfl, ot, n, rfl, by omega, by omega, g5.tabs, fun H6 g6 => ?_⟩
    refine handsL_of fun v2 v2n v2s => ?_
    refine ⟨_, _, rfl, _, rfl, rfl, _, rfl, ?_⟩
    have qn : (patL (stepsOf wi) n = none ∨ patL (stepsOf ot) n = none) → Dn.rt V.non H6 := fun h => by
      have := q H6 (g5.trans g6)
      rw [hrt]
      rcases h with h | h
      · rw [h] at this; exact this
      · cases e : patL (stepsOf wi) n with
        | none => rw [e] at this; exact this
        | some l => rw [e, h] at this; exact this
    cases el : patL (stepsOf wi) n with
    | none =>
      rw [v1n el]
      exact iteT (iteT (qn (.inl el)))
    | some l =>
      obtain ⟨pl, rfl, hl⟩ := v1s l el
      refine iteF ⟨_, rfl, rfl, _, rfl, ?_⟩
      cases em : patL (stepsOf ot) n with
      | none =>
        rw [v2n em]
        exact iteT (qn (.inr em))
      | some m =>
        obtain ⟨pm, rfl, hm⟩ := v2s m em
        have lstep := pat_step hw el
        have mstep := pat_step ho em
        refine iteF ⟨_, rfl, _, rfl, pl, pm, l, m, rfl, g6.lst hl, hm, by omega, g6.tabs, fun H7 g7 => ?_⟩
        refine handsL_of fun v3 v3n v3s => ?_
        refine ⟨_, rfl, rfl, _, rfl, ?_⟩
        have gg := g5.trans (g6.trans g7)
        have qr : ∀ H8, Gr T H7 H8 → HandsS H8 Dn.rt ((commL l m).map fun c => joinS (c ++ comEnd wi ot)) := fun H8 g8 => by
          have := q H8 (gg.trans g8)
          rw [el, em] at this
          rw [hrt]
          exact this
        cases ec : commL l m with
        | none =>
          rw [v3n ec]
          have := qr H7 (Gr.refl g7.tabs)
          rw [ec] at this
          exact iteT this
        | some c =>
          obtain ⟨pc, rfl, hc⟩ := v3s c ec
          have cst := comm_step lstep.2 mstep.2 ec
          have ends := comEnd_step wi ot
          have all : ∀ s ∈ c ++ comEnd wi ot, stepH s = true := fun s hs => (List.mem_append.mp hs).elim (fun z => stepB_H (cst.2 s z)) (ends s)
          have elen := comEnd_len wi ot
          refine iteF ⟨rfl, _, rfl, _, rfl, pc, p4, _, _, rfl, rfl, hc, gg.lst e4, ?_, fun p9 hp9 => ?_⟩
          · rw [List.length_map, List.length_map, cst.1]
            exact Nat.le_trans (by omega : _ ≤ 10) (by decide)
          rw [← List.map_append]
          have g9 := Gr.new g7.tabs hp9 (.lst ((c ++ comEnd wi ot).map V.str))
          have := qr _ g9
          rw [ec] at this
          refine ⟨slashS, p9, c ++ comEnd wi ot, rfl, rfl, .inl (SqL.of upd_same), join_sum all (by rw [List.length_append, cst.1]; omega), this⟩
  have lw5 := (wish_steps hw).1
  have lo5 := (wish_steps ho).1
  have gst : Gr T H (upd (upd (upd H p1 (.lst ((stepsOf wi).map V.str))) p2 (.lst ((stepsOf ot).map V.str))) p3 (.lst [])) := by rw [← eH3]; exact ga
  have est : (upd (upd (upd H p1 (.lst ((stepsOf wi).map V.str))) p2 (.lst ((stepsOf ot).map V.str))) p3 (.lst [])) p3 = some (.lst []) := upd_same
  refine ⟨_, rfl, 1, rfl, wi, -1, cw, rfl, rfl, Nat.le_trans lw (by decide), aw, rfl, _, rfl, ?_⟩
  cases hw2 : hE wi with
  | false =>
    rw [dw, hw2]
    refine iteF (iteF ⟨_, rfl, 1, rfl, wi, -1, cw, rfl, rfl, Nat.le_trans lw (by decide), aw, rfl, _, rfl, ?_⟩)
    rw [dw, hw2]
    refine iteF (rest _ p3 _ _ rfl (by unfold comN; rw [hw2]; rfl) gst (by unfold comEnd; rw [hw2]; exact est) lw5)
  | true =>
    rw [dw, hw2]
    refine iteT ⟨_, rfl, 1, rfl, ot, -1, co, rfl, rfl, Nat.le_trans lo (by decide), ao, rfl, _, rfl, ?_⟩
    cases ho2 : hE ot with
    | false =>
      rw [dO, ho2]
      refine iteF ⟨_, rfl, 1, rfl, wi, -1, cw, rfl, rfl, Nat.le_trans lw (by decide), aw, rfl, _, rfl, ?_⟩
      rw [dw, hw2]
      refine iteT ⟨_, rfl, rest _ p3 _ _ rfl (by unfold comN; rw [hw2, ho2]; rfl) gst (by unfold comEnd; rw [hw2, ho2]; exact est) lo5⟩
    | true =>
      rw [dO, ho2]
      refine iteT ⟨_, rfl, _, rfl, _, _, rfl, _, _, rfl, rfl, (by show 1 ≤ sizeLine; decide), fun p4 hp4 => ?_⟩
      have g4 := Gr.new gst.tabs hp4 (.lst [V.str "#"])
      have em : ((if ((stepsOf ot).length : Int) > ((stepsOf wi).length : Int) then ((stepsOf ot).length : Int) else ((stepsOf wi).length : Int)) - 1) = ((comN wi ot : Nat) : Int) := by
        have : 0 < (stepsOf wi).length := List.length_pos_iff.mpr (steps_ne wi)
        unfold comN
        rw [hw2, ho2, if_pos rfl, if_pos rfl]
        split <;> omega
      refine ⟨_, _, rfl, ?_⟩
      have := rest (comN wi ot) p4 _ { nx := fun x H' => Q V.non H', rt := Q } rfl rfl (gst.trans g4) (by unfold comEnd; rw [hw2, ho2]; exact upd_same) (by unfold comN; rw [hw2, ho2, if_pos rfl, if_pos rfl]; omega)
      rw [← em] at this
      exact this
end
end Bk

set_option Elab.async false
set_option linter.all false
set_option maxRecDepth 100000
set_option maxHeartbeats 4000000
namespace Bk
open PySem PySem.Spec PyProof.Rows L2
/-! ### a name that stands in none of some wishes -/
theorem lx_tabsK {T : Tbs} {a : Addr} {H : Hp} {xs ys : List (Key × V)} (t : LamX.Tabs T H) (h : H a = some (.dK xs)) : LamX.Tabs T (upd H a (.dK ys)) := by
  intro p hp
  obtain ⟨ps, h1, h2, h3⟩ := t p hp
  refine ⟨ps, ?_, h2, fun pos cv hc => ?_⟩
  · rw [upd_ne (fun e => by rw [e, h] at h1; cases h1)]; exact h1
  · obtain ⟨c, e1, e2⟩ := h3 pos cv hc
    refine ⟨c, e1, ?_⟩
    rw [upd_ne (fun e => by rw [e, h] at e2; cases e2)]
    exact e2
theorem Gr.ownK {T : Tbs} {D : Addr} {H H' : Hp} {xs ys : List (Key × V)} (g : Gr T H H') (hD : H D = none) (e : H' D = some (.dK xs)) : Gr T H (upd H' D (.dK ys)) := by
  refine ⟨fun b o h z => ?_, lx_tabsK g.tabs e⟩
  rw [upd_ne (fun q => by rw [q, hD] at h; cases h)]
  exact g.ext b o h z
theorem Gr.dk {T : Tbs} {H H' : Hp} (g : Gr T H H') {a : Addr} {xs : List (Key × V)} (h : H a = some (.dK xs)) : H' a = some (.dK xs) := g.ext a _ h (fun _ z => by cases z)
theorem nodup_le {α : Type} [DecidableEq α] : ∀ (l m : List α), l.Nodup → (∀ x ∈ l, x ∈ m) → l.length ≤ m.length
  | [], _, _, _ => Nat.zero_le _
  | x :: r, m, hn, hs => by
    obtain ⟨hx, hr⟩ := List.nodup_cons.mp hn
    obtain ⟨a, b, e⟩ := List.append_of_mem (hs x List.mem_cons_self)
    have ih := nodup_le r (a ++ b) hr fun y hy => by
      have := hs y (List.mem_cons_of_mem _ hy)
      rw [e] at this
      rcases List.mem_append.mp this with h | h
      · exact List.mem_append_left _ h
      · rcases List.mem_cons.mp h with h | h
        · subst h; exact absurd hy hx
        · exact List.mem_append_right _ h
    rw [e]
    simp only [List.length_append, List.length_cons] at ih ⊢
    omega
theorem valV_mem {κ : Type} [DecidableEq κ] {kvs : List (κ × V)} {k : κ} (h : (valV kvs k).isSome = true) : k ∈ kvs.map Prod.fst := by
  rw [← valV_any] at h
  obtain ⟨p, hp, e⟩ := List.any_eq_true.mp h
  exact List.mem_map.mpr ⟨p, hp, of_decide_eq_true e⟩
/-- two letters -/
def duo (a b : Nat) : Str := ⟨#[a]⟩ ++ ⟨#[b]⟩
theorem tl_duo (a b : Nat) : TL.tl (duo a b) = [a, b] := rfl
abbrev lets : List Nat := LETTERS.cps.toList
def duos : List Str := lets.flatMap fun a => lets.map fun b => duo a b
theorem duo_inj {a b c d : Nat} (h : duo a b = duo c d) : a = c ∧ b = d := by
  have := congrArg TL.tl h
  rw [tl_duo, tl_duo] at this
  simpa using this
theorem lets_nd : lets.Nodup := by decide +kernel
theorem duos_nd : duos.Nodup := by
  refine List.pairwise_flatMap.mpr ⟨fun a _ => ?_, ?_⟩
  · exact List.pairwise_map.mpr (List.Pairwise.imp (fun hab e => hab (duo_inj e).2) lets_nd)
  · refine List.Pairwise.imp (fun hab x hx y hy e => ?_) lets_nd
    obtain ⟨b, _, rfl⟩ := List.mem_map.mp hx
    obtain ⟨d, _, rfl⟩ := List.mem_map.mp hy
    exact hab (duo_inj e).1
theorem duos_len : duos.length = 676 := by decide +kernel
theorem lets_let {c : Nat} (h : c ∈ lets) : letB c = true := decide_eq_true h
theorem duo_name {a b : Nat} (ha : a ∈ lets) (hb : b ∈ lets) : nameB (duo a b) = true := by
  unfold nameB
  have e : (duo a b).length = 2 := rfl
  rw [e]
  have : (duo a b).cps.toList = [a, b] := rfl
  rw [this]
  simp [lets_let ha, lets_let hb]
/-- f stands in none of them -/
def Fresh (f : Str) (ws : List Str) : Prop := nameB f = true ∧ ∀ w ∈ ws, f ∉ stepsOf w
def Uses (ws : List Str) (s : Str) : Prop := ∃ w ∈ ws, s ∈ stepsOf w
def spFresh (T : Tbs) : Sp := fun vs H Q _ => ∃ (a : Addr) (ws : List Str), vs = [.ref a] ∧ H a = some (.lst (ws.map V.str)) ∧ (∀ w ∈ ws, wishB w = true) ∧ ws.length ≤ 100 ∧ LamX.Tabs T H ∧ ∀ f H', Fresh f ws → Gr T H H' → Q (.str f) H'
/-- the dict that has the steps of some wishes for keys -/
def UsedD (kvs : List (Key × V)) (U : Str → Prop) (n : Nat) : Prop := (∀ s, (valV kvs (.inr s)).isSome = true ↔ U s) ∧ kvs.length ≤ n
theorem UsedD.put {kvs : List (Key × V)} {U : Str → Prop} {n : Nat} (h : UsedD kvs U n) (s : Str) (v : V) : UsedD (putK kvs (.inr s) v) (fun z => U z ∨ z = s) (n + 1) := by
  refine ⟨fun z => ?_, Nat.le_trans (length_putK _ _ _) (Nat.succ_le_succ h.2)⟩
  rw [valV_put]
  by_cases e : (Sum.inr z : Key) = Sum.inr s
  · rw [if_pos e]
    exact ⟨fun _ => .inr (Sum.inr.inj e), fun _ => rfl⟩
  · rw [if_neg e, h.1 z]
    exact ⟨.inl, fun q => q.elim id fun q => absurd (by rw [q]) e⟩
theorem UsedD.none {kvs : List (Key × V)} {U : Str → Prop} {n : Nat} (h : UsedD kvs U n) (hn : n < 676) : ∃ a ∈ lets, ∃ b ∈ lets, ¬ U (duo a b) := by
  refine Classical.byContradiction fun no => ?_
  have hall : ∀ z ∈ duos.map (fun d => (Sum.inr d : Key)), z ∈ kvs.map Prod.fst := by
    intro z hz
    obtain ⟨d, hd, rfl⟩ := List.mem_map.mp hz
    obtain ⟨a, ha, hd⟩ := List.mem_flatMap.mp hd
    obtain ⟨b, hb, rfl⟩ := List.mem_map.mp hd
    refine valV_mem ((h.1 _).mpr ?_)
    exact Classical.byContradiction fun q => no ⟨a, ha, b, hb, q⟩
  have := nodup_le (duos.map fun d => (Sum.inr d : Key)) _ (List.pairwise_map.mpr (List.Pairwise.imp (fun hab e => hab (Sum.inr.inj e)) duos_nd)) hall
  rw [List.length_map, List.length_map, duos_len] at this
  have := h.2
  omega
end Bk

set_option Elab.async false
set_option linter.all false
set_option maxRecDepth 100000
set_option maxHeartbeats 4000000
namespace Bk
open PySem PySem.Spec PyProof.Rows L2 Dc2
/-- a walk of whose turns each leads from Pv i to Pv (i + 1) -/
theorem walkTo_of {J : It} {n : Nat} {G : Hp → Prop} {Y : Nat → Hp → V → Hp → Prop} (w : Walk J n G Y) {H0 : Hp} {Fin : Hp → Prop} {turn : (Hp → Prop) → V → Hp → Prop} (Pv : Nat → Hp → Prop) (h0 : Pv 0 H0) (hG : ∀ i H, i ≤ n → Pv i H → G H)
    (hs : ∀ i x H H', i < n → Pv i H → Y i H x H' → turn (Pv (i + 1)) x H') (hd : ∀ H, Pv n H → Fin H) : WalkTo J H0 Fin turn := by
  refine ⟨fun i m H => m = n - i ∧ i ≤ n ∧ Pv i H, ⟨n, by simp, Nat.zero_le _, h0⟩, ?_⟩
  rintro i m H ⟨rfl, hi, p⟩
  rcases Nat.lt_or_ge i n with h | h
  · exact .inr ⟨w.goes i H h (hG i H hi p), Pv (i + 1), fun H2 p2 => ⟨n - (i + 1), by omega, rfl, h, p2⟩, fun x H2 y => hs i x H H2 h p (w.yields i H x H2 h (hG i H hi p) y)⟩
  · have e : i = n := by omega
    subst e
    exact .inl ⟨w.stops H (hG i H hi p), hd H p⟩
theorem pi_listK {X : Cx} {K : PySem.W.Frag} (h : X.K = K) {tg l : Expr} {tl : TE} (hl : PE X l tl) : PI X tg l (iList K tl) := by
  subst h
  exact pi_list hl
theorem room_un {A : Around} {k : Nat} (hr : Room k A) : A.units + 1 < cLine := by have := hr.un; omega
section
variable {P : Program} {w : World} {K : PySem.W.Frag} {mg : Str → Option Value} {base : Heap} {T : Tbs}
abbrev frN : List Str := ["wishes", "used", "first", "second", "wish", "step"]
theorem sc_fresh_name : FnScope frN ["wishes"] (defScope s_fresh_name) := ⟨rfl, rfl, rfl, by decide +kernel, rfl, by decide +kernel, by decide +kernel⟩
theorem has_fresh_name (F : At K mg "fresh_name" s_fresh_name) (cL : ∃ t, mg "LETTERS" = some (.str LETTERS t)) : Has P w K mg base CX0 1 "fresh_name" ["wishes"] (spFresh T) := by
  obtain ⟨tL, cL⟩ := cL
  refine F.ok0 sc_fresh_name (fun _ _ _ _ _ _ us hl => match us, hl with | [_], _ => rfl) (fun vs H Q E h => ?_) fun A outer s H vs Q E hr h => ?_
  · obtain ⟨_, _, rfl, _⟩ := h
    rfl
  obtain ⟨a, ws, rfl, ea, hw, hn, tb, q⟩ := h
  refine ⟨_, pss_cons (ps_setDc2 (n := 1) (own := [("wish", 4), ("step", 5)]) (ws := [5]) (g := gName 4) (gj := gName 5) rfl sc_fresh_name.nd rfl rfl (sw_two rfl rfl rfl (by decide +kernel)) (pi_list (pv 0))
        (blkOk_by (own := [("wish", 4), ("step", 5)]) (N := frN) (sc := defScope s_fresh_name) (by decide +kernel)) (by decide)
        (fun _ _ _ _ _ => pg_name (i := 4) sc_fresh_name.nd rfl (Or.inl rfl)) (fun _ _ _ _ _ => pi_listK (K := K) rfl (pe_split (pv 4) pe_str)) (fun _ _ _ _ _ => pg_name (i := 5) sc_fresh_name.nd rfl (Or.inl rfl)) (fun _ _ _ _ _ => pv 5) (fun _ _ _ _ _ => pe_bl))
    (pss_cons (ps_for PassesOwn.never rfl (pi_str (pe_glob (v := .str LETTERS) rfl cL ⟨_, rfl⟩)) (pg_name (i := 2) sc_fresh_name.nd rfl (Or.inl rfl))
      (pss_one (ps_for PassesOwn.never rfl (pi_str (pe_glob (v := .str LETTERS) rfl cL ⟨_, rfl⟩)) (pg_name (i := 3) sc_fresh_name.nd rfl (Or.inl rfl))
        (pss_one (ps_if (pt_cmp (pc_dnotin (room_un hr) (pe_op op_add_str (pv 2) (pv 3)) (pv 1))) (pss_one (ps_ret (pe_op op_add_str (pv 2) (pv 3)))) pss_nil)))))
    (pss_one (ps_ret pe_non))), ?_⟩
  refine ⟨_, rfl, a, rfl, ⟨_, SqL.of ea⟩, fun D hD => ?_⟩
  have U0 : UsedD [] (Uses (ws.take 0)) (5 * 0) := ⟨fun s => ⟨fun h => by simp [valV_nil] at h, fun ⟨w, h, _⟩ => by simp at h⟩, Nat.le_refl _⟩
  refine walkTo_of (n := ws.length) (list_str (K := K) a ws) (fun i H' => Gr T H H' ∧ ∃ kvs, H' D = some (.dK kvs) ∧ UsedD kvs (Uses (ws.take i)) (5 * i)) ⟨Gr.new tb hD _, [], upd_same, U0⟩ (fun i H' _ p => SqL.of (p.1.lst ea)) ?_ ?_
  · rintro i x H1 H2 hi ⟨g1, kvs, eD, us⟩ ⟨rfl, ex⟩
    have hwi : ws[i]? = some ws[i] := List.getElem?_eq_getElem hi
    rw [List.getElem?_map, hwi] at ex
    obtain rfl : V.str ws[i] = x := Option.some.inj ex
    have hwm : wishB ws[i] = true := hw _ (List.getElem_mem hi)
    refine ⟨rfl, _, rfl, ⟨_, rfl⟩, ws[i], "/", rfl, rfl, rfl, two_more (Nat.le_trans (wish_len hwm) (by decide)), fun p hp => ?_⟩
    have g2 := Gr.new g1.tabs hp (.lst ((stepsOf ws[i]).map V.str))
    refine ⟨p, rfl, ⟨_, SqL.of upd_same⟩, ?_⟩
    have hlen := (wish_steps hwm).1
    refine walkTo_of (n := (stepsOf ws[i]).length) (list_str (K := K) p (stepsOf ws[i])) (fun j H' => Gr T H H' ∧ H' p = some (.lst ((stepsOf ws[i]).map V.str)) ∧ ∃ kvs, H' D = some (.dK kvs) ∧ UsedD kvs (fun s => Uses (ws.take i) s ∨ s ∈ (stepsOf ws[i]).take j) (5 * i + j))
      ⟨g1.trans g2, upd_same, kvs, g2.dk eD, fun s => by rw [us.1 s]; simp, us.2⟩ (fun j H' _ p2 => SqL.of p2.2.1) ?_ ?_
    · rintro j y H3 H4 hj ⟨g3, ep, kvs3, eD3, us3⟩ ⟨rfl, ey⟩
      have hsj : (stepsOf ws[i])[j]? = some (stepsOf ws[i])[j] := List.getElem?_eq_getElem hj
      rw [List.getElem?_map, hsj] at ey
      obtain rfl : V.str (stepsOf ws[i])[j] = y := Option.some.inj ey
      have np : p ≠ D := fun e => by rw [e, eD3] at ep; cases ep
      refine ⟨rfl, _, rfl, kvs3, .inr (stepsOf ws[i])[j], rfl, eD3, Nat.lt_of_le_of_lt us3.2 (Nat.lt_of_le_of_lt (by omega : _ ≤ 600) (by decide)), g3.ownK hD eD3, by rw [upd_ne np]; exact ep, _, upd_same, ?_⟩
      have u4 := us3.put (stepsOf ws[i])[j] (V.bl true)
      refine ⟨fun s => ?_, u4.2⟩
      rw [u4.1 s, List.take_add_one, hsj]
      show (Uses (ws.take i) s ∨ s ∈ (stepsOf ws[i]).take j) ∨ s = (stepsOf ws[i])[j] ↔ Uses (ws.take i) s ∨ s ∈ (stepsOf ws[i]).take j ++ [(stepsOf ws[i])[j]]
      rw [or_assoc, List.mem_append, List.mem_singleton]
    · rintro H3 ⟨g3, _, kvs3, eD3, us3⟩
      refine ⟨g3, kvs3, eD3, fun s => ?_, Nat.le_trans us3.2 (by omega)⟩
      rw [us3.1 s, List.take_length, List.take_add_one, hwi]
      unfold Uses
      constructor
      · rintro (⟨w, hw, hs⟩ | hs)
        · exact ⟨w, List.mem_append_left _ hw, hs⟩
        · exact ⟨_, List.mem_append_right _ List.mem_cons_self, hs⟩
      · rintro ⟨w, hw, hs⟩
        rcases List.mem_append.mp hw with hw | hw
        · exact .inl ⟨w, hw, hs⟩
        · have : w = ws[i] := by simpa using hw
          rw [this] at hs
          exact .inr hs
  · rintro H1 ⟨g1, kvs, eD, us⟩
    rw [List.take_length] at us
    have hLt : ∀ (i c : Nat), LETTERS.cps[i]? = some c → c ∈ lets := fun i c e => by
      have : LETTERS.cps.toList[i]? = some c := by rw [Array.getElem?_toList]; exact e
      exact List.mem_of_getElem? this
    have hsz : LETTERS.cps.size = lets.length := rfl
    -- all pairs that came are used
    refine ⟨LETTERS, rfl, for_it (n := LETTERS.cps.size) (walk_str (z := LETTERS)) (fun i σ H' => (∃ o2 o3, σ = [some (.ref a), some (.ref D), o2, o3, none, none]) ∧ H' = H1 ∧ ∀ x ∈ lets.take i, ∀ y ∈ lets, Uses ws (duo x y)) ⟨⟨_, _, rfl⟩, rfl, fun x hx => by simp at hx⟩ (fun _ _ _ _ _ => trivial) ?_ ?_⟩
    · rintro i x σ H2 H3 hi ⟨⟨o2, o3, rfl⟩, rfl, all⟩ ⟨rfl, c, ec, rfl⟩
      refine ⟨LETTERS, rfl, for_it (n := LETTERS.cps.size) (walk_str (z := LETTERS)) (fun j σ H' => (∃ o3, σ = [some (.ref a), some (.ref D), some (.str ⟨#[c]⟩), o3, none, none]) ∧ H' = H3 ∧ ∀ y ∈ lets.take j, Uses ws (duo c y)) ⟨⟨_, rfl⟩, rfl, fun x hx => by simp at hx⟩ (fun _ _ _ _ _ => trivial) ?_ ?_⟩
      · rintro j x σ H4 H5 hj ⟨⟨o3, rfl⟩, rfl, all2⟩ ⟨rfl, d, ed, rfl⟩
        have el : (⟨#[c]⟩ : Str).length + (⟨#[d]⟩ : Str).length ≤ sizeLine := by show 1 + 1 ≤ sizeLine; decide
        refine ⟨_, rfl, _, rfl, _, _, rfl, rfl, el, _, rfl, D, _, rfl, .inl ⟨kvs, .inr (duo c d), .inl eD, rfl, rfl⟩, _, rfl, ite2 (fun z => ?_) (fun z => ?_)⟩
        · refine ⟨_, rfl, _, rfl, _, _, rfl, rfl, el, q _ _ ⟨duo_name (hLt _ _ ec) (hLt _ _ ed), fun w hw hs => ?_⟩ g1⟩
          have : (valV kvs (.inr (duo c d))).isSome = true := (us.1 _).mpr ⟨w, hw, hs⟩
          rw [this] at z
          cases z
        · refine ⟨⟨_, rfl⟩, rfl, fun y hy => ?_⟩
          have ed' : lets[j]? = some d := by rw [Array.getElem?_toList]; exact ed
          rw [List.take_add_one, ed'] at hy
          rcases List.mem_append.mp hy with hy | hy
          · exact all2 y hy
          · have : y = d := by simpa using hy
            subst this
            refine (us.1 _).mp ?_
            cases e : (valV kvs (.inr (duo c y))).isSome with
            | true => rfl
            | false => rw [e] at z; exact absurd rfl z
      · rintro σ H4 ⟨⟨o3, rfl⟩, rfl, all2⟩
        refine ⟨⟨_, _, rfl⟩, rfl, fun x hx y hy => ?_⟩
        have ec' : lets[i]? = some c := by rw [Array.getElem?_toList]; exact ec
        rw [List.take_add_one, ec'] at hx
        rcases List.mem_append.mp hx with hx | hx
        · exact all x hx y hy
        · have : x = c := by simpa using hx
          subst this
          exact all2 y (by rw [hsz, List.take_length]; exact hy)
    · rintro σ H2 ⟨⟨o2, o3, rfl⟩, rfl, all⟩
      obtain ⟨x, hx, y, hy, no⟩ := us.none (by omega)
      exact absurd (all x (by rw [hsz, List.take_length]; exact hx) y hy) no
end
end Bk

set_option Elab.async false
set_option linter.all false
set_option maxRecDepth 100000
set_option maxHeartbeats 4000000
namespace Bk
open PySem PySem.Spec PyProof.Rows L2
/-! ### topics that meet a wish and none of some others -/
theorem pairB_iff (a s : Str) : pairB (a, s) = true ↔ a = "+" ∨ a = s := by
  unfold pairB inV
  simp only [List.any_cons, List.any_nil, eqV, Bool.or_false, Bool.or_eq_true, beq_iff_eq]
  constructor
  · rintro (h | h)
    · exact .inl h.symm
    · exact .inr h.symm
  · rintro (h | h)
    · exact .inl h.symm
    · exact .inr h.symm
/-- a pattern and steps that meet it -/
def Cov (l st : List Str) : Prop := l.length = st.length ∧ ∀ (i : Nat) a s, l[i]? = some a → st[i]? = some s → a = "+" ∨ a = s
theorem zip_all (l st : List Str) : (l.zip st).all pairB = true ↔ ∀ (i : Nat) a s, l[i]? = some a → st[i]? = some s → a = "+" ∨ a = s := by
  rw [List.all_eq_true]
  constructor
  · intro h i a s ea es
    exact (pairB_iff a s).mp (h (a, s) (List.mem_of_getElem? (i := i) (List.getElem?_zip_eq_some.mpr ⟨ea, es⟩)))
  · rintro h ⟨a, s⟩ hp
    obtain ⟨i, hi⟩ := List.mem_iff_getElem?.mp hp
    obtain ⟨h1, h2⟩ := List.getElem?_zip_eq_some.mp hi
    exact (pairB_iff a s).mpr (h i a s h1 h2)
theorem metS_cov (st wa : List Str) : metS st wa = true ↔ Cov wa st := by
  unfold metS Cov
  rw [Bool.and_eq_true, zip_all, decide_eq_true_eq]
  constructor
  · rintro ⟨h1, h2⟩; exact ⟨by omega, h2⟩
  · rintro ⟨h1, h2⟩; exact ⟨by omega, h2⟩
theorem met_pat (st wa : List Str) : metL st wa = true ↔ ∃ l, patL wa st.length = some l ∧ Cov l st := by
  unfold metL patL
  by_cases c : wa.getLast? = some ("#" : Str)
  · rw [if_pos c, if_pos c, metS_cov]
    by_cases d : wa.length - 1 ≤ st.length
    · rw [if_pos d]
      constructor
      · rintro ⟨h1, h2⟩
        refine ⟨_, rfl, by rw [List.length_append, List.length_dropLast, List.length_replicate]; omega, fun i a s ea es => ?_⟩
        rcases Nat.lt_or_ge i wa.dropLast.length with hi | hi
        · rw [List.getElem?_append_left hi] at ea
          rw [List.length_dropLast] at hi
          exact h2 i a s ea (by rw [List.getElem?_take_of_lt hi]; exact es)
        · rw [List.getElem?_append_right hi, List.getElem?_replicate] at ea
          split at ea
          · exact .inl (Option.some.inj ea).symm
          · cases ea
      · rintro ⟨l, e, h1, h2⟩
        obtain rfl := Option.some.inj e
        refine ⟨by rw [List.length_dropLast, List.length_take]; omega, fun i a s ea es => ?_⟩
        have hi : i < wa.dropLast.length := by
          rcases Nat.lt_or_ge i wa.dropLast.length with hi | hi
          · exact hi
          · rw [List.getElem?_eq_none hi] at ea; cases ea
        refine h2 i a s (by rw [List.getElem?_append_left hi]; exact ea) ?_
        rw [List.length_dropLast] at hi
        rwa [List.getElem?_take_of_lt hi] at es
    · rw [if_neg d]
      constructor
      · rintro ⟨h1, _⟩
        rw [List.length_dropLast, List.length_take] at h1
        omega
      · rintro ⟨l, e, _⟩; cases e
  · rw [if_neg c, if_neg c, metS_cov]
    by_cases d : wa.length = st.length
    · rw [if_pos d]
      exact ⟨fun h => ⟨_, rfl, h⟩, fun ⟨l, e, h⟩ => by obtain rfl := Option.some.inj e; exact h⟩
    · rw [if_neg d]
      exact ⟨fun h => absurd h.1 d, fun ⟨l, e, _⟩ => by cases e⟩
theorem pat_mem {wa l : List Str} {n : Nat} (e : patL wa n = some l) {s : Str} (h : s ∈ l) : s ∈ wa ∨ s = "+" := by
  unfold patL at e
  split at e
  · split at e
    · obtain rfl := Option.some.inj e
      rcases List.mem_append.mp h with h | h
      · exact .inl (List.dropLast_subset _ h)
      · exact .inr (List.mem_replicate.mp h).2
    · cases e
  · split at e
    · obtain rfl := Option.some.inj e
      exact .inl h
    · cases e
/-- a name put for each "+" -/
def subF (f : Str) (l : List Str) : List Str := l.map fun (s : Str) => if s = ("+" : Str) then f else s
theorem sub_cov (f : Str) (l : List Str) : Cov l (subF f l) := by
  refine ⟨by unfold subF; rw [List.length_map], fun i a s ea es => ?_⟩
  unfold subF at es
  rw [List.getElem?_map, ea] at es
  have : (if a = "+" then f else a) = s := Option.some.inj es
  by_cases c : a = "+"
  · exact .inl c
  · rw [if_neg c] at this; exact .inr this
/-- what meets the fresh topic and a wish meets each topic of as many steps -/
theorem fresh_all {f : Str} {wa wo l st : List Str} (hf : nameB f = true) (hfo : f ∉ wo) (e : patL wa st.length = some l) (hc : Cov l st) (hm : metL (subF f l) wo = true) : metL st wo = true := by
  obtain ⟨lo, eo, c1, c2⟩ := (met_pat _ _).mp hm
  have len : (subF f l).length = st.length := by unfold subF; rw [List.length_map]; exact hc.1
  rw [len] at eo c1
  refine (met_pat _ _).mpr ⟨lo, eo, c1, fun i a s ea es => ?_⟩
  have hi : i < l.length := by
    rw [hc.1]
    rcases Nat.lt_or_ge i st.length with h | h
    · exact h
    · rw [List.getElem?_eq_none h] at es; cases es
  have el : l[i]? = some l[i] := List.getElem?_eq_getElem hi
  have e2 : (subF f l)[i]? = some (if l[i] = "+" then f else l[i]) := by unfold subF; rw [List.getElem?_map, el]; rfl
  rcases c2 i a _ ea e2 with h | h
  · exact .inl h
  · by_cases c : l[i] = "+"
    · rw [if_pos c] at h
      rcases pat_mem eo (List.mem_of_getElem? ea) with q | q
      · rw [h] at q; exact absurd q hfo
      · exact .inl q
    · rw [if_neg c] at h
      rcases hc.2 i _ s el es with q | q
      · exact absurd q c
      · exact .inr (h.trans q)
theorem topic_steps {t : Str} (h : topicB t = true) : 1 ≤ (stepsOf t).length ∧ (stepsOf t).length ≤ 5 ∧ ∀ s ∈ stepsOf t, nameB s = true := by
  unfold topicB at h
  rw [Bool.and_eq_true, decide_eq_true_eq, List.all_eq_true] at h
  exact ⟨List.length_pos_iff.mpr (steps_ne t), by omega, h.2⟩
theorem topic_of {st : List Str} (h1 : st ≠ []) (h5 : st.length ≤ 5) (h : ∀ s ∈ st, nameB s = true) : topicB (joinS st) = true ∧ stepsOf (joinS st) = st := by
  have hs : ∀ s ∈ st, stepH s = true := fun s hs => stepB_H (by unfold stepB; rw [h s hs, Bool.or_true])
  have e := steps_join h1 hs
  refine ⟨?_, e⟩
  unfold topicB
  rw [e, Bool.and_eq_true, decide_eq_true_eq, List.all_eq_true]
  exact ⟨by omega, h⟩
/-- the fresh topic of n steps -/
theorem fresh_topic {f w : Str} {l : List Str} {n : Nat} (hw : wishB w = true) (hf : nameB f = true) (h1 : 1 ≤ n) (h5 : n ≤ 5) (e : patL (stepsOf w) n = some l) :
    topicB (joinS (subF f l)) = true ∧ stepsOf (joinS (subF f l)) = subF f l ∧ metB (joinS (subF f l)) w = true ∧ ∀ s ∈ subF f l, stepH s = true := by
  obtain ⟨hl, hs⟩ := pat_step hw e
  have len : (subF f l).length = n := by unfold subF; rw [List.length_map]; exact hl
  have hn : ∀ s ∈ subF f l, nameB s = true := fun s m => by
    obtain ⟨a, ha, rfl⟩ := List.mem_map.mp m
    have := hs a ha
    unfold stepB at this
    by_cases c : a = "+"
    · rw [if_pos c]; exact hf
    · rw [if_neg c]
      rw [decide_eq_false c, Bool.false_or] at this
      exact this
  obtain ⟨ht, es⟩ := topic_of (st := subF f l) (fun z => by rw [z] at len; simp at len; omega) (by omega) hn
  refine ⟨ht, es, ?_, fun s m => stepB_H (by unfold stepB; rw [hn s m, Bool.or_true])⟩
  unfold metB
  rw [es]
  exact (met_pat _ _).mpr ⟨l, by rw [len]; exact e, sub_cov f l⟩
/-- no topic of n steps meets w and none of the others -/
theorem none_of {f w : Str} {os : List Str} (hf : Fresh f os) {n : Nat} (h : ∀ l, patL (stepsOf w) n = some l → ∃ o ∈ os, metB (joinS (subF f l)) o = true ∧ stepsOf (joinS (subF f l)) = subF f l) {t : Str} (hn : (stepsOf t).length = n) (hm : metB t w = true) : ∃ o ∈ os, metB t o = true := by
  obtain ⟨l, e, c⟩ := (met_pat _ _).mp (show metL (stepsOf t) (stepsOf w) = true from hm)
  have e2 := e
  rw [hn] at e2
  obtain ⟨o, ho, hmo, hst⟩ := h l e2
  refine ⟨o, ho, ?_⟩
  unfold metB at hmo ⊢
  rw [hst] at hmo
  exact fresh_all hf.1 (hf.2 o ho) e c hmo
end Bk

set_option Elab.async false
set_option linter.all false
set_option maxRecDepth 100000
set_option maxHeartbeats 4000000
namespace Bk
open PySem PySem.Spec PyProof.Rows L2
def spBeyond (T : Tbs) : Sp := fun vs H Q _ => ∃ (w : Str) (a : Addr) (os : List Str), vs = [.str w, .ref a] ∧ wishB w = true ∧ H a = some (.lst (os.map V.str)) ∧ (∀ o ∈ os, wishB o = true) ∧ os.length ≤ 100 ∧ LamX.Tabs T H ∧
  (∀ H' t, Gr T H H' → topicB t = true → metB t w = true → (∀ o ∈ os, metB t o = false) → Q (.str t) H') ∧ (∀ H', Gr T H H' → (∀ t, topicB t = true → metB t w = true → ∃ o ∈ os, metB t o = true) → Q .non H')
theorem topic_len {t : Str} (h : topicB t = true) : t.length ≤ 35 := by
  obtain ⟨h1, h2, h3⟩ := topic_steps h
  have := join_len (qs := stepsOf t) fun q hq => stepB_H (by unfold stepB; rw [h3 q hq, Bool.or_true])
  rw [join_steps] at this
  omega
section
variable {P : Program} {w : World} {K : PySem.W.Frag} {mg : Str → Option Value} {base : Heap} {T : Tbs}
abbrev tbN : List Str := ["wish", "others", "fresh", "many", "steps", "topic", "step", "other"]
theorem sc_topic_beyond : FnScope tbN ["wish", "others"] (defScope s_topic_beyond) := ⟨rfl, rfl, rfl, by decide +kernel, rfl, by decide +kernel, by decide +kernel⟩
theorem has_topic_beyond (F : At K mg "topic_beyond" s_topic_beyond) (zr : mg "range" = none) (zy : mg "any" = none) (cS : ∃ t, mg "MOST_STEPS" = some (.int 5 t)) (HF : Has P w K mg base CX0 1 "fresh_name" ["wishes"] (spFresh T)) (HP : Has P w K mg base CX0 1 "pattern" ["wish", "many"] (spPat T))
    (HM : Has P w K mg base CX0 3 "is_met" ["topic", "wish"] (spMet K T)) : Has P w K mg base CX0 4 "topic_beyond" ["wish", "others"] (spBeyond T) := by
  obtain ⟨tS, cS⟩ := cS
  refine F.ok0 sc_topic_beyond (fun _ _ _ _ _ _ us hl => match us, hl with | [_, _], _ => rfl) (fun vs H Q E h => ?_) fun A outer s H vs Q E hr h => ?_
  · obtain ⟨_, _, _, rfl, _⟩ := h
    rfl
  obtain ⟨wi, a, os, rfl, hw, ea, ho, hn, tb, q1, q2⟩ := h
  refine ⟨_, pss_cons (ps_set (i := 2) sc_topic_beyond.nd rfl (Or.inr rfl) (Has.call HF (hr.mono (by decide)) pass0 (pa_cons (pv 1) pa_nil)))
    (pss_cons (ps_for PassesOwn.never rfl (pi_range2 rfl zr (pa_cons pe_int (pa_cons (pe_op op_add (pe_glob (v := .int 5) rfl cS ⟨_, rfl⟩) pe_int) pa_nil))) (pg_name (i := 3) sc_topic_beyond.nd rfl (Or.inl rfl))
      (pss_cons (ps_set (i := 4) sc_topic_beyond.nd rfl (Or.inl rfl) (Has.call HP (hr.mono (by decide)) pass0 (pa_cons (pv 0) (pa_cons (pv 3) pa_nil))))
      (pss_one (ps_if (pt_cmpR op_notN (pv 4) pe_non (nomark _))
        (pss_cons (ps_set (i := 5) sc_topic_beyond.nd rfl (Or.inr rfl) (pe_bm PySem.F.plainAttrs_str PySem.F.slot_str_join PySem.F.type_str_join mt_join pe_str (pa_cons (pe_lc (own := [("step", 6)]) (g := gName 6) rfl sc_topic_beyond.nd (pi_list (pv 4)) (blkOk_by (own := [("step", 6)]) (N := tbN) (sc := defScope s_topic_beyond) (by decide +kernel)) (fun _ _ _ _ _ => pg_name (i := 6) sc_topic_beyond.nd rfl (Or.inl rfl)) (fun _ _ _ _ _ => pts_nil)
            (fun _ _ _ _ _ => pe_ifExp (pt_cmpR op_eq (pv 6) pe_str (nomark _)) (pv 2) (pv 6))) pa_nil)))
        (pss_one (ps_if (pt_not (pt_val (pe_callB (cr_any rfl) rfl zy (by decide +kernel) (pa_cons (pe_lc (own := [("other", 7)]) (g := gName 7) rfl sc_topic_beyond.nd (pi_list (pv 1)) (blkOk_by (own := [("other", 7)]) (N := tbN) (sc := defScope s_topic_beyond) (by decide +kernel)) (fun _ _ _ _ _ => pg_name (i := 7) sc_topic_beyond.nd rfl (Or.inl rfl)) (fun _ _ _ _ _ => pts_nil)
            (fun _ _ _ _ _ => Has.call HM hr pass0 (pa_cons (pv 5) (pa_cons (pv 7) pa_nil)))) pa_nil)))) (pss_one (ps_ret (pv 5))) pss_nil))) pss_nil))))
    (pss_one (ps_ret pe_non))), ?_⟩
  refine ⟨_, rfl, a, os, rfl, ea, ho, hn, tb, fun f H1 hf g1 => ?_⟩
  refine ⟨_, _, rfl, rfl, 1, 6, rfl, by decide, for_it (n := 5) walk_range (fun i σ H' => (∃ o3 o4 o5, σ = [some (.str wi), some (.ref a), some (.str f), o3, o4, o5, none, none]) ∧ Gr T H H' ∧ ∀ t, topicB t = true → metB t wi = true → (stepsOf t).length ≤ i → ∃ o ∈ os, metB t o = true)
    ⟨⟨_, _, _, rfl⟩, g1, fun t ht _ h0 => absurd h0 (by have := (topic_steps ht).1; omega)⟩ (fun _ _ _ _ _ => trivial) ?_ ?_⟩
  · rintro i x σ H2 H3 hi ⟨⟨o3, o4, o5, rfl⟩, g2, all⟩ ⟨rfl, rfl⟩
    have all' : (∀ t, topicB t = true → metB t wi = true → (stepsOf t).length = i + 1 → ∃ o ∈ os, metB t o = true) → ∀ t, topicB t = true → metB t wi = true → (stepsOf t).length ≤ i + 1 → ∃ o ∈ os, metB t o = true := fun h t ht hm hl => by
      rcases Nat.lt_or_ge i (stepsOf t).length with k | k
      · exact h t ht hm (by omega)
      · exact all t ht hm k
    refine ⟨_, rfl, _, rfl, wi, i + 1, (by show [V.str wi, V.int (1 + (i : Int))] = _; rw [show (1 + (i : Int)) = ((i + 1 : Nat) : Int) by omega]), Nat.le_trans (wish_len hw) (by decide), by omega, g2.tabs, fun H4 g4 => ?_⟩
    refine handsL_of fun v vn vs => ?_
    refine ⟨_, rfl, rfl, _, rfl, ?_⟩
    have g24 := g2.trans g4
    cases e : patL (stepsOf wi) (i + 1) with
    | none =>
      rw [vn e]
      exact iteF ⟨⟨_, _, _, rfl⟩, g24, all' fun t ht hm hl => by
        obtain ⟨l, el, _⟩ := (met_pat _ _).mp (show metL (stepsOf t) (stepsOf wi) = true from hm)
        rw [hl, e] at el
        cases el⟩
    | some l =>
      obtain ⟨pl, rfl, hl⟩ := vs l e
      obtain ⟨ft, fs, fm, fh⟩ := fresh_topic hw hf.1 (by omega) (by omega) e
      have ll := (pat_step hw e).1
      refine iteT ⟨rfl, _, rfl, pl, rfl, ⟨_, SqL.of hl⟩, fun D hD => ?_⟩
      refine lc_gr (T := T) (xs := l) (list_str (K := K) pl l) (fun (s : Str) => V.str (if s = ("+" : Str) then f else s)) g4.tabs hD (by rw [ll]; exact Nat.le_trans (by omega : _ ≤ 5) (by decide)) (fun H5 g5 => SqL.of (g5.lst hl)) (fun j s x H5 H6 ej g5 y Ok No hOk => ?_) fun H5 g5 eD => ?_
      · obtain ⟨rfl, ex⟩ := y
        rw [List.getElem?_map, ej] at ex
        obtain rfl : V.str s = x := Option.some.inj ex
        have k := hOk _ (Gr.refl g5.tabs)
        refine ⟨rfl, lx_yes ⟨_, rfl, rfl, _, rfl, ite2 (fun h => ⟨_, rfl, ?_⟩) fun h => ⟨_, rfl, ?_⟩⟩⟩
        · rw [if_pos (V.str.inj (of_decide_eq_true h))] at k
          exact k
        · rw [if_neg (fun z => h (by rw [z]; simp))] at k
          exact k
      · have eD2 : H5 D = some (.lst ((subF f l).map V.str)) := by
          rw [eD]
          unfold subF
          rw [List.map_map]
          rfl
        have sl : (subF f l).length = i + 1 := by unfold subF; rw [List.length_map]; exact ll
        refine ⟨slashS, D, subF f l, rfl, rfl, .inl (SqL.of eD2), join_sum fh (by omega), ?_⟩
        have ea5 := (g24.trans g5).lst ea
        refine ⟨_, rfl, a, rfl, ⟨_, SqL.of ea5⟩, fun D2 hD2 => ?_⟩
        have tl := topic_len ft
        refine lc_gr (T := T) (xs := os) (list_str (K := K) a os) (fun o => V.bl (metB (joinS (subF f l)) o)) g5.tabs hD2 (Nat.le_trans hn (by decide)) (fun H6 g6 => SqL.of (g6.lst ea5)) (fun j o x H6 H7 ej g6 y Ok No hOk => ?_) fun H6 g6 eD3 => ?_
        · obtain ⟨rfl, ex⟩ := y
          rw [List.getElem?_map, ej] at ex
          obtain rfl : V.str o = x := Option.some.inj ex
          exact ⟨rfl, lx_yes ⟨_, rfl, _, rfl, _, o, rfl, Nat.le_trans tl (by decide), Nat.le_trans (wish_len (ho o (List.mem_of_getElem? ej))) (by decide), g6.tabs, fun H8 g8 => hOk _ g8⟩⟩
        · unfold tNil
          show rAny K [V.ref D2] H6 _
          refine any_end eD3 ⟨_, rfl, ?_⟩
          have ga := g24.trans (g5.trans g6)
          cases an : os.any (fun o => metB (joinS (subF f l)) o) with
          | false =>
            refine iteT ⟨_, rfl, q1 _ _ ga ft fm fun o hom => ?_⟩
            rw [List.any_eq_false] at an
            have := an o hom
            show metB (joinS (subF f l)) o = false
            simpa using this
          | true =>
            refine iteF ⟨⟨_, _, _, rfl⟩, ga, all' fun t ht hm hlen => ?_⟩
            obtain ⟨o, hom, mo⟩ := List.any_eq_true.mp an
            exact none_of hf (n := i + 1) (fun l2 el2 => by
              rw [e] at el2
              obtain rfl := Option.some.inj el2
              exact ⟨o, hom, mo, fs⟩) hlen hm
  · rintro σ H2 ⟨⟨o3, o4, o5, rfl⟩, g2, all⟩
    exact q2 H2 g2 fun t ht hm => all t ht hm (topic_steps ht).2.1
end
end Bk

set_option Elab.async false
set_option linter.all false
set_option maxRecDepth 100000
set_option maxHeartbeats 4000000
namespace Bk
open PySem PySem.Spec PyProof.Rows L2
abbrev s_is_row : Stmt := top 1
abbrev s_is_rule : Stmt := top 26
abbrev s_are_rights : Stmt := top 27
/-! ### any data on the heap -/
mutual
inductive Da (H : Hp) : V → PyData → Prop
  | non : Da H .non .none
  | bl (b : Bool) : Da H (.bl b) (.bool b)
  | int (i : Int) : Da H (.int i) (.int i)
  | str (x : Str) : Da H (.str x) (.str x)
  | lst {a : Addr} {xs : List V} {ds : List PyData} : H a = some (.lst xs) → DaAll H xs ds → Da H (.ref a) (.list ds)
  | tup {a : Addr} {xs : List V} {ds : List PyData} : H a = some (.tup xs) → DaAll H xs ds → Da H (.ref a) (.tuple ds)
inductive DaAll (H : Hp) : List V → List PyData → Prop
  | nil : DaAll H [] []
  | cons {v : V} {vs : List V} {d : PyData} {ds : List PyData} : Da H v d → DaAll H vs ds → DaAll H (v :: vs) (d :: ds)
end
mutual
theorem Da.gr {T : Tbs} {H H' : Hp} (g : Gr T H H') : ∀ (d : PyData) (v : V), Da H v d → Da H' v d
  | .none, _, h => by cases h; exact .non
  | .bool b, _, h => by cases h; exact .bl b
  | .int i, _, h => by cases h; exact .int i
  | .str x, _, h => by cases h; exact .str x
  | .list ds, _, h => by
    cases h with
    | lst q r => exact .lst (g.lst q) (DaAll.gr g ds _ r)
  | .tuple ds, _, h => by
    cases h with
    | tup q r => exact .tup (g.tup q) (DaAll.gr g ds _ r)
  | .dict _, _, h => by cases h
theorem DaAll.gr {T : Tbs} {H H' : Hp} (g : Gr T H H') : ∀ (ds : List PyData) (vs : List V), DaAll H vs ds → DaAll H' vs ds
  | [], _, h => by cases h; exact .nil
  | d :: ds, _, h => by
    cases h with
    | cons x y => exact .cons (Da.gr g d _ x) (DaAll.gr g ds _ y)
end
mutual
theorem Da.dp {K : PySem.W.Frag} {H : Hp} : ∀ (d : PyData) (v : V), Da H v d → Dp K H v d
  | .none, _, h => by cases h; exact .non
  | .bool b, _, h => by cases h; exact .bl b
  | .int i, _, h => by cases h; exact .int i
  | .str x, _, h => by cases h; exact .str x
  | .list ds, _, h => by
    cases h with
    | lst q r => exact .lst (SqL.of q) (DaAll.dp ds _ r)
  | .tuple ds, _, h => by
    cases h with
    | tup q r => exact .tup (SqT.of q) (DaAll.dp ds _ r)
  | .dict _, _, h => by cases h
theorem DaAll.dp {K : PySem.W.Frag} {H : Hp} : ∀ (ds : List PyData) (vs : List V), DaAll H vs ds → DpAll K H vs ds
  | [], _, h => by cases h; exact .nil
  | d :: ds, _, h => by
    cases h with
    | cons x y => exact .cons (Da.dp d _ x) (DaAll.dp ds _ y)
end
theorem DaAll.len {H : Hp} : ∀ {vs : List V} {ds : List PyData}, DaAll H vs ds → vs.length = ds.length
  | [], _, h => by cases h; rfl
  | v :: vs, _, h => by
    cases h with
    | cons x y => rw [List.length_cons, List.length_cons, DaAll.len y]
theorem DaAll.at {H : Hp} : ∀ {vs : List V} {ds : List PyData} {i : Nat} {v : V}, DaAll H vs ds → vs[i]? = some v → ∃ d, ds[i]? = some d ∧ Da H v d
  | [], _, i, v, h, e => by simp at e
  | x :: vs, _, 0, v, h, e => by
    cases h with
    | cons p q =>
      obtain rfl : x = v := by simpa using e
      exact ⟨_, rfl, p⟩
  | x :: vs, _, i + 1, v, h, e => by
    cases h with
    | cons p q =>
      obtain ⟨d, h1, h2⟩ := DaAll.at q (i := i) (v := v) (by simpa using e)
      exact ⟨d, by simpa using h1, h2⟩
/-- texts in it are not too long -/
def shortD : PyData → Prop
  | .str z => z.length ≤ 1000
  | _ => True
theorem Da.any {K : PySem.W.Frag} {H : Hp} {v : V} {d : PyData} (h : Da H v d) (k : shortD d) : AnyV K H v := by
  cases h with
  | non => exact .inr (.inl rfl)
  | bl b => exact .inr (.inr (.inr (.inl ⟨b, rfl⟩)))
  | int i => exact .inr (.inr (.inl ⟨i, rfl⟩))
  | str x => exact .inl ⟨x, rfl, k⟩
  | lst q r => exact .inr (.inr (.inr (.inr ⟨_, _, rfl, .inl q⟩)))
  | tup q r => exact .inr (.inr (.inr (.inr ⟨_, _, rfl, .inr q⟩)))
def isTupD : PyData → Bool
  | .tuple _ => true
  | _ => false
/-- isinstance(.., tuple) -/
theorem Da.tup? {K : PySem.W.Frag} {H : Hp} {v : V} {d : PyData} (h : Da H v d) : ∃ t, TyX K H v t ∧ PySem.W.kitOne K t (.type "tuple") = some (isTupD d) := by
  cases h with
  | non => exact ⟨_, .base .non, kit_ty (by decide +kernel)⟩
  | bl b => exact ⟨_, .base (.bl b), kit_ty (show kitB "bool" "tuple" = some false by decide +kernel)⟩
  | int i => exact ⟨_, .base (.int i), kit_ty (show kitB "int" "tuple" = some false by decide +kernel)⟩
  | str x => exact ⟨_, .base (.str x), kit_ty (show kitB "str" "tuple" = some false by decide +kernel)⟩
  | lst q r => exact ⟨_, .base (.lst q), kit_ty (show kitB "list" "tuple" = some false by decide +kernel)⟩
  | tup q r => exact ⟨_, .base (.tup q), kit_ty (show kitB "tuple" "tuple" = some true by decide +kernel)⟩
/-! ### rules -/
def inD (d : PyData) (l : List Str) : Bool := (l.map PyData.str).any fun z => PyData.eqv z d
def wishD : PyData → Bool
  | .str z => wishB z
  | _ => false
theorem Da.wish {H : Hp} {v : V} {d : PyData} (h : Da H v d) : wishV v = wishD d := by
  cases h <;> rfl
def rule3 (a b c : PyData) : Bool := inD a ["let", "bar"] && (inD b ["give", "hear", "both"] && wishD c)
def ruleD : PyData → Bool
  | .tuple [a, b, c] => rule3 a b c
  | _ => false
theorem ruleD_len {ds : List PyData} (h : ds.length ≠ 3) : ruleD (.tuple ds) = false := by
  match ds, h with
  | [], _ => rfl
  | [_], _ => rfl
  | [_, _], _ => rfl
  | [_, _, _], h => exact absurd rfl h
  | _ :: _ :: _ :: _ :: _, _ => rfl
/-- a value that may be asked whether it is a rule -/
def itemOk (d : PyData) : Prop := SeqAt.shaped d = true ∧ shortD d
def RuleOk : PyData → Prop
  | .tuple ds => ds.length ≤ 1000 ∧ ∀ d ∈ ds, itemOk d
  | _ => True
def spData (T : Tbs) (f : PyData → Bool) (ok : PyData → Prop) : Sp := fun vs H Q _ => ∃ x d, vs = [x] ∧ Da H x d ∧ ok d ∧ LamX.Tabs T H ∧ ∀ H', Gr T H H' → Q (.bl (f d)) H'
theorem shaped_lits {l : List Str} (h : ∀ s ∈ l, OkS s) : SeqAt.shaped (.tuple (l.map PyData.str)) = true := by
  unfold SeqAt.shaped
  simp only [PyData.canLay0, PyData.depth, canLay_strs l h, depth_strs, Bool.true_and]
  decide
section
variable {P : Program} {w : World} {K : PySem.W.Frag} {mg : Str → Option Value} {base : Heap} {T : Tbs}
theorem in_dt {X : Cx} {k : Nat} (hr : Room k X.A) {K : PySem.W.Frag} (h : X.K = K) : OpR X (compareOp .In) (Mx.rInDT K) := by
  subst h
  exact Mx.op_inDT (by have := hr.un; omega)
theorem sc_is_rule : FnScope ["value"] ["value"] (defScope s_is_rule) := ⟨rfl, rfl, rfl, by decide +kernel, rfl, by decide +kernel, by decide +kernel⟩
theorem has_is_rule (F : At K mg "is_rule" s_is_rule) (zi : mg "isinstance" = none) (zt : mg "tuple" = none) (zl : mg "len" = none) (HW : Has P w K mg base CX0 4 "is_wish" ["value"] (spB K T wishV)) : Has P w K mg base CX0 5 "is_rule" ["value"] (spData T ruleD RuleOk) := by
  refine F.ok0 sc_is_rule (fun _ _ _ _ _ _ us hl => match us, hl with | [_], _ => rfl) (fun vs H Q E h => ?_) fun A outer s H vs Q E hr h => ?_
  · obtain ⟨_, _, rfl, _⟩ := h
    rfl
  obtain ⟨v, d, rfl, hd, hk, tb, q⟩ := h
  refine ⟨_, pss_one (ps_ret (pe_and (pe_callB call_isi rfl zi boot_isinstance (pa_cons (pv 0) (pa_cons (pe_bltn (v := .ty "tuple") rfl zt (by decide +kernel) rfl) pa_nil)))
    (pe_and (pe_cmpR op_eq (pe_callB call_len_seq rfl zl PySem.boot_len (pa_cons (pv 0) pa_nil)) pe_int (nomark _))
    (pe_and (pe_cmpR (in_dt (k := 4) hr (K := K) rfl) (pe_ix ix_tup (pv 0) pe_int (fun _ _ => rfl)) (pe_tup (pa_cons pe_str (pa_cons pe_str pa_nil))) rfl)
    (pe_and (pe_cmpR (in_dt (k := 4) hr (K := K) rfl) (pe_ix ix_tup (pv 0) pe_int (fun _ _ => rfl)) (pe_tup (pa_cons pe_str (pa_cons pe_str (pa_cons pe_str pa_nil)))) rfl)
    (pe_one (Has.call HW hr pass0 (pa_cons (pe_ix ix_tup (pv 0) pe_int (fun _ _ => rfl)) pa_nil)))))))), ?_⟩
  obtain ⟨t, ty, ki⟩ := hd.tup? (K := K)
  refine ⟨v, rfl, v, .ty "tuple", t, _, _, rfl, .ty "tuple", ty, ki, isTupD d, rfl, ?_⟩
  have fin : ∀ H' b, Gr T H H' → b = ruleD d → Q (.bl b) H' := fun H' b g e => by
    rw [e]
    exact q H' g
  cases hd with
  | non => exact iteF (fin _ _ (Gr.refl tb) rfl)
  | bl b => exact iteF (fin _ _ (Gr.refl tb) rfl)
  | int i => exact iteF (fin _ _ (Gr.refl tb) rfl)
  | str x => exact iteF (fin _ _ (Gr.refl tb) rfl)
  | lst q r => exact iteF (fin _ _ (Gr.refl tb) rfl)
  | @tup a xs ds ha r =>
    refine iteT ⟨_, rfl, a, xs, rfl, .inr (SqT.of ha), rfl, _, rfl, ?_⟩
    have hl := r.len
    have ok3 := hk.2
    refine ite2 (fun c => ?_) (fun c => ?_)
    · have l3 : xs.length = 3 := by have := V.int.inj (of_decide_eq_true c); omega
      rw [l3] at hl
      match xs, ds, l3, hl, r, ok3 with
      | [x, y, z], [dx, dy, dz], _, _, r, ok3 =>
        cases r with
        | cons rx r => cases r with
          | cons ry r => cases r with
            | cons rz r =>
              have ox := ok3 dx (by simp)
              have oy := ok3 dy (by simp)
              have oz := ok3 dz (by simp)
              have e0 : ruleD (.tuple [dx, dy, dz]) = (inD dx ["let", "bar"] && (inD dy ["give", "hear", "both"] && wishD dz)) := rfl
              refine ⟨_, rfl, a, _, 0, x, rfl, rfl, SqT.of ha, rfl, (by show 2 ≤ sizeLine; decide), fun p1 hp1 => ?_⟩
              have g1 := Gr.new tb hp1 (.tup [V.str "let", V.str "bar"])
              refine ⟨dx, [PyData.str "let", PyData.str "bar"], (Da.gr g1 _ _ rx).dp, .tup (SqT.of upd_same) (.cons (.str _) (.cons (.str _) .nil)), ox.1, shaped_lits (l := ["let", "bar"]) (by unfold OkS; decide +kernel), _, rfl, ?_⟩
              cases e1 : inD dx ["let", "bar"] with
              | false => exact ite2 (fun c => absurd (e1.symm.trans c) (by decide)) fun _ => fin _ _ g1 (by rw [e0, e1]; rfl)
              | true =>
                refine ite2 (fun _ => ?_) (fun c => absurd e1 c)
                have ha1 := g1.tup ha
                refine ⟨_, rfl, a, _, 1, y, rfl, rfl, SqT.of ha1, rfl, (by show 3 ≤ sizeLine; decide), fun p2 hp2 => ?_⟩
                have g2 := Gr.new g1.tabs hp2 (.tup [V.str "give", V.str "hear", V.str "both"])
                have g12 := g1.trans g2
                refine ⟨dy, [PyData.str "give", PyData.str "hear", PyData.str "both"], (Da.gr g12 _ _ ry).dp, .tup (SqT.of upd_same) (.cons (.str _) (.cons (.str _) (.cons (.str _) .nil))), oy.1, shaped_lits (l := ["give", "hear", "both"]) (by unfold OkS; decide +kernel), _, rfl, ?_⟩
                cases e2 : inD dy ["give", "hear", "both"] with
                | false => exact ite2 (fun c => absurd (e2.symm.trans c) (by decide)) fun _ => fin _ _ g12 (by rw [e0, e1, e2]; rfl)
                | true =>
                  refine ite2 (fun _ => ?_) (fun c => absurd e2 c)
                  have ha2 := g12.tup ha
                  refine ⟨_, rfl, a, _, 2, z, rfl, rfl, SqT.of ha2, rfl, z, rfl, (Da.gr g12 _ _ rz).any oz.2, g12.tabs, fun H' g' => fin _ _ (g12.trans g') ?_⟩
                  rw [e0, e1, e2, rz.wish]
                  rfl
    · refine fin _ _ (Gr.refl tb) ?_
      rw [ruleD_len (fun z => c (by rw [hl, z]; simp))]
end
end Bk

set_option Elab.async false
set_option linter.all false
set_option maxRecDepth 100000
set_option maxHeartbeats 4000000
namespace Bk
open PySem PySem.Spec PyProof.Rows L2
abbrev s_check_rights : Stmt := top 28
abbrev s_check_deed : Stmt := top 29
/-! ### a tuple of so many items of a kind; rights -/
def rowD (f : PyData → Bool) (lo hi : Int) : PyData → Bool
  | .tuple ds => decide (lo ≤ (ds.length : Int)) && (decide ((ds.length : Int) ≤ hi) && ds.all f)
  | _ => false
def RowOk (ok : PyData → Prop) : PyData → Prop
  | .tuple ds => ds.length ≤ 1000 ∧ ∀ d ∈ ds, ok d
  | _ => True
def spRowD (T : Tbs) (f : PyData → Bool) (ok : PyData → Prop) (C : Addr) : Sp := fun vs H Q _ => ∃ x d lo hi, vs = [x, .int lo, .int hi, .ref C] ∧ Da H x d ∧ RowOk ok d ∧ LamX.Tabs T H ∧ ∀ H', Gr T H H' → Q (.bl (rowD f lo hi d)) H'
section
variable {P : Program} {w : World} {K : PySem.W.Frag} {mg : Str → Option Value} {base : Heap} {T : Tbs}
theorem sc_is_row : FnScope ["value", "least", "most", "is_item", "item"] ["value", "least", "most", "is_item"] (defScope s_is_row) := ⟨rfl, rfl, rfl, by decide +kernel, rfl, by decide +kernel, by decide +kernel⟩
theorem has_is_row (F : At K mg "is_row" s_is_row) (zi : mg "isinstance" = none) (zt : mg "tuple" = none) (zl : mg "len" = none) (za : mg "all" = none) {x : Str} {f : PyData → Bool} {ok : PyData → Prop} (HO : Has P w K mg base CX0 5 x ["value"] (spData T f ok)) :
    Has P w K mg base CX0 6 "is_row" ["value", "least", "most", "is_item"] (spRowD T f ok (He.ga K x)) := by
  obtain ⟨fd, fb, kp, gm, FO, _⟩ := HO
  refine F.ok0 sc_is_row (fun _ _ _ _ _ _ us hl => match us, hl with | [_, _, _, _], _ => rfl) (fun vs H Q E h => ?_) fun A outer s H vs Q E hr h => ?_
  · obtain ⟨_, _, _, _, rfl, _⟩ := h
    rfl
  obtain ⟨v, d, lo, hi, rfl, hd, hk, tb, q⟩ := h
  refine ⟨_, pss_one (ps_ret (pe_and (pe_callB call_isi rfl zi boot_isinstance (pa_cons (pv 0) (pa_cons (pe_bltn (v := .ty "tuple") rfl zt (by decide +kernel) rfl) pa_nil)))
    (pe_and (pe_chain op_le op_le (pv 1) (pe_callB call_len_seq rfl zl PySem.boot_len (pa_cons (pv 0) pa_nil)) (pv 2))
    (pe_one (pe_callB (cr_all rfl) rfl za (by decide +kernel) (pa_cons (pe_lc (own := [("item", 4)]) (g := gName 4) rfl sc_is_row.nd (pi_tup (pv 0)) (blkOk_by (own := [("item", 4)]) (N := ["value", "least", "most", "is_item", "item"]) (sc := defScope s_is_row) (by decide +kernel)) (fun _ _ _ _ _ => pg_name (i := 4) sc_is_row.nd rfl (Or.inl rfl)) (fun _ _ _ _ _ => pts_nil)
      (fun _ _ _ _ _ => L2.pe_callL (i := 3) FO hr rfl (Or.inr (Or.inl rfl)) kp fb .nil pass0 (pa_cons (pv 4) pa_nil))) pa_nil)))))), ?_⟩
  obtain ⟨t, ty, ki⟩ := hd.tup? (K := K)
  refine ⟨v, rfl, v, .ty "tuple", t, _, _, rfl, .ty "tuple", ty, ki, isTupD d, rfl, ?_⟩
  have fin : ∀ H' b, Gr T H H' → b = rowD f lo hi d → Q (.bl b) H' := fun H' b g e => by
    rw [e]
    exact q H' g
  cases hd with
  | non => exact iteF (fin _ _ (Gr.refl tb) rfl)
  | bl b => exact iteF (fin _ _ (Gr.refl tb) rfl)
  | int i => exact iteF (fin _ _ (Gr.refl tb) rfl)
  | str x => exact iteF (fin _ _ (Gr.refl tb) rfl)
  | lst q r => exact iteF (fin _ _ (Gr.refl tb) rfl)
  | @tup a xs ds ha r =>
    have hl := r.len
    obtain ⟨hlen, hok⟩ := hk
    refine iteT ⟨_, rfl, _, rfl, a, _, rfl, .inr (SqT.of ha), _, _, rfl, rfl, _, rfl, ?_⟩
    rw [hl]
    have e0 : rowD f lo hi (.tuple ds) = (decide (lo ≤ (ds.length : Int)) && (decide ((ds.length : Int) ≤ hi) && ds.all f)) := rfl
    cases e1 : decide (lo ≤ (ds.length : Int)) with
    | false => exact iteF ⟨_, rfl, iteF (fin H false (Gr.refl tb) (by rw [e0, e1]; rfl))⟩
    | true =>
      refine iteT ⟨_, rfl, _, _, rfl, rfl, _, rfl, ?_⟩
      cases e2 : decide ((ds.length : Int) ≤ hi) with
      | false => exact iteF (fin H false (Gr.refl tb) (by rw [e0, e1, e2]; rfl))
      | true =>
        refine iteT ⟨_, rfl, a, rfl, ⟨_, SqT.of ha⟩, fun D hD => ?_⟩
        have wk : Walk (Itt K a) ds.length (fun H => SqT K H a xs) (YAt xs) := by
          have := walk_tup (K := K) (a := a) (xs := xs)
          rwa [hl] at this
        refine lc_gr (T := T) (xs := ds) wk (fun e => V.bl (f e)) tb hD (Nat.le_trans hlen (by decide)) (fun H2 g2 => SqT.of (g2.tup ha)) (fun i e y H3 H4 ei g2 yy Ok No hOk => ?_) fun H2 g2 eD => all_end eD (fin _ _ g2 (by rw [e0, e1, e2]; rfl))
        obtain ⟨rfl, ey⟩ := yy
        obtain ⟨e', ee, da⟩ := r.at ey
        rw [ei] at ee
        obtain rfl := Option.some.inj ee
        exact ⟨rfl, lx_yes ⟨rfl, _, rfl, y, e, rfl, Da.gr g2 _ _ da, hok e (List.mem_of_getElem? ei), g2.tabs, fun H5 g5 => hOk _ g5⟩⟩
def rightsD (d : PyData) : Bool := rowD ruleD 0 12 d
abbrev RightsOk : PyData → Prop := RowOk RuleOk
theorem sc_are_rights : FnScope ["value"] ["value"] (defScope s_are_rights) := ⟨rfl, rfl, rfl, by decide +kernel, rfl, by decide +kernel, by decide +kernel⟩
theorem has_are_rights (F : At K mg "are_rights" s_are_rights) (cM : ∃ t, mg "MOST_RULES" = some (.int 12 t)) (hx : mg "is_rule" = some (.ref (He.ga K "is_rule"))) (hkeep : PySem.W.keepIn K (.ref (He.ga K "is_rule")) = true)
    (HR : Has P w K mg base CX0 6 "is_row" ["value", "least", "most", "is_item"] (spRowD T ruleD RuleOk (He.ga K "is_rule"))) : Has P w K mg base CX0 7 "are_rights" ["value"] (spData T rightsD RightsOk) := by
  obtain ⟨tM, cM⟩ := cM
  refine F.ok0 sc_are_rights (fun _ _ _ _ _ _ us hl => match us, hl with | [_], _ => rfl) (fun vs H Q E h => ?_) fun A outer s H vs Q E hr h => ?_
  · obtain ⟨_, _, rfl, _⟩ := h
    rfl
  obtain ⟨v, d, rfl, hd, hk, tb, q⟩ := h
  refine ⟨_, pss_one (ps_ret (Has.call HR hr pass0 (pa_cons (pv 0) (pa_cons pe_int (pa_cons (pe_glob (v := .int 12) rfl cM ⟨_, rfl⟩) (pa_cons (pe_glob (v := .ref (He.ga K "is_rule")) rfl hx rfl) pa_nil)))))), ?_⟩
  exact ⟨_, rfl, v, d, 0, 12, rfl, hd, hk, tb, q⟩
end
end Bk

set_option Elab.async false
set_option linter.all false
set_option maxRecDepth 100000
set_option maxHeartbeats 4000000
namespace Bk
open PySem PySem.Spec PyProof.Rows L2
abbrev s_rows_for : Stmt := top 30
/-! ### rights as lists of rules; the rows for a deed -/
abbrev Rule3 := Str × Str × Str
def ruleOf (r : Rule3) : PyData := .tuple [.str r.1, .str r.2.1, .str r.2.2]
def rightsOf (rs : List Rule3) : PyData := .tuple (rs.map ruleOf)
abbrev words2 : List Str := ["let", "bar"]
abbrev owns3 : List Str := ["give", "hear", "both"]
abbrev deeds2 : List Str := ["give", "hear"]
structure GoodR (r : Rule3) : Prop where
  w : r.1 ∈ words2
  o : r.2.1 ∈ owns3
  z : wishB r.2.2 = true
structure Good (rs : List Rule3) : Prop where
  le : rs.length ≤ 12
  r : ∀ r ∈ rs, GoodR r
theorem shaped_str {z : Str} (h : OkS z) : SeqAt.shaped (.str z) = true := by
  unfold SeqAt.shaped
  simp only [PyData.canLay0, PyData.depth, Bool.and_eq_true]
  exact ⟨h, rfl⟩
theorem words2_ok : ∀ s ∈ words2, OkS s ∧ s.length ≤ 1000 ∧ inD (.str s) ["let", "bar"] = true := by unfold OkS; decide +kernel
theorem owns3_ok : ∀ s ∈ owns3, OkS s ∧ s.length ≤ 1000 ∧ inD (.str s) ["give", "hear", "both"] = true := by unfold OkS; decide +kernel
theorem GoodR.ok {r : Rule3} (h : GoodR r) : RuleOk (ruleOf r) ∧ ruleD (ruleOf r) = true := by
  have h1 := words2_ok _ h.w
  have h2 := owns3_ok _ h.o
  refine ⟨⟨(by show 3 ≤ 1000; decide), fun d hd => ?_⟩, ?_⟩
  · have hd : d = .str r.1 ∨ d = .str r.2.1 ∨ d = .str r.2.2 := by simpa using hd
    rcases hd with rfl | rfl | rfl
    · exact ⟨shaped_str h1.1, h1.2.1⟩
    · exact ⟨shaped_str h2.1, h2.2.1⟩
    · exact ⟨shaped_str (wish_ok h.z), Nat.le_trans (wish_len h.z) (by decide)⟩
  · show (inD (.str r.1) ["let", "bar"] && (inD (.str r.2.1) ["give", "hear", "both"] && wishB r.2.2)) = true
    rw [h1.2.2, h2.2.2, h.z]
    rfl
theorem Good.ok {rs : List Rule3} (h : Good rs) : RightsOk (rightsOf rs) ∧ rightsD (rightsOf rs) = true := by
  have hl := h.le
  refine ⟨⟨by rw [List.length_map]; omega, fun d hd => ?_⟩, ?_⟩
  · obtain ⟨r, hr, rfl⟩ := List.mem_map.mp hd
    exact (h.r r hr).ok.1
  · show (decide ((0 : Int) ≤ ((rs.map ruleOf).length : Int)) && (decide (((rs.map ruleOf).length : Int) ≤ 12) && (rs.map ruleOf).all ruleD)) = true
    rw [List.length_map, decide_eq_true (by omega), decide_eq_true (by omega), Bool.true_and, Bool.true_and, List.all_eq_true]
    intro d hd
    obtain ⟨r, hr, rfl⟩ := List.mem_map.mp hd
    exact (h.r r hr).ok.2
abbrev lastRule : Rule3 := ("bar", "both", "#")
/-- whether a rule is one for a deed -/
def forDeed (deed : Str) (r : Rule3) : Bool := inV (.str r.2.1) [.str deed, .str "both"]
abbrev Row := Str × Str
def rowsOf (rs : List Rule3) (deed : Str) : List Row := ((rs ++ [lastRule]).filter (forDeed deed)).map fun r => (r.1, r.2.2)
/-- the pairs on the heap -/
def RowsAt (H : Hp) : List V → List Row → Prop
  | [], [] => True
  | v :: vs, r :: rs => (∃ p, v = .ref p ∧ H p = some (.tup [.str r.1, .str r.2])) ∧ RowsAt H vs rs
  | _, _ => False
theorem RowsAt.gr {T : Tbs} {H H' : Hp} (g : Gr T H H') : ∀ {vs : List V} {rs : List Row}, RowsAt H vs rs → RowsAt H' vs rs
  | [], [], _ => True.intro
  | v :: vs, r :: rs, ⟨⟨p, e, h⟩, k⟩ => ⟨⟨p, e, g.tup h⟩, RowsAt.gr g k⟩
theorem RowsAt.snoc {H : Hp} : ∀ {vs : List V} {rs : List Row} {v : V} {r : Row}, RowsAt H vs rs → (∃ p, v = .ref p ∧ H p = some (.tup [.str r.1, .str r.2])) → RowsAt H (vs ++ [v]) (rs ++ [r])
  | [], [], _, _, _, h => ⟨h, True.intro⟩
  | _ :: _, _ :: _, _, _, ⟨a, k⟩, h => ⟨a, RowsAt.snoc k h⟩
theorem RowsAt.len {H : Hp} : ∀ {vs : List V} {rs : List Row}, RowsAt H vs rs → vs.length = rs.length
  | [], [], _ => rfl
  | _ :: _, _ :: _, ⟨_, k⟩ => by rw [List.length_cons, List.length_cons, RowsAt.len k]
theorem RowsAt.keep {H H' : Hp} (k : ∀ b zs, H b = some (.tup zs) → H' b = some (.tup zs)) : ∀ {vs : List V} {rs : List Row}, RowsAt H vs rs → RowsAt H' vs rs
  | [], [], _ => True.intro
  | _ :: _, _ :: _, ⟨⟨p, e, h⟩, r⟩ => ⟨⟨p, e, k _ _ h⟩, RowsAt.keep k r⟩
/-- a tuple of the top, of texts -/
structure TopT (K : PySem.W.Frag) (mg : Str → Option Value) (x : Str) (l : List Str) : Prop where
  g : mg x = some (.ref (He.ga K x))
  t : ∀ H, SqT K H (He.ga K x) (l.map V.str)
def spRows (T : Tbs) : Sp := fun vs H Q _ => ∃ v rs deed, vs = [v, .str deed] ∧ Da H v (rightsOf rs) ∧ Good rs ∧ LamX.Tabs T H ∧ ∀ H' p ws, Gr T H H' → H' p = some (.lst ws) → RowsAt H' ws (rowsOf rs deed) → Q (.ref p) H'
def spCkD (T : Tbs) : Sp := fun vs H Q _ => ∃ v rs, vs = [v] ∧ Da H v (rightsOf rs) ∧ Good rs ∧ LamX.Tabs T H ∧ ∀ H', Gr T H H' → Q .non H'
def spCkDeed (T : Tbs) : Sp := fun vs H Q _ => ∃ d : Str, vs = [.str d] ∧ d ∈ deeds2 ∧ Q .non H
section
variable {P : Program} {w : World} {K : PySem.W.Frag} {mg : Str → Option Value} {base : Heap} {T : Tbs}
theorem sc_check_rights : FnScope ["rights"] ["rights"] (defScope s_check_rights) := ⟨rfl, rfl, rfl, by decide +kernel, rfl, by decide +kernel, by decide +kernel⟩
theorem has_check_rights (F : At K mg "check_rights" s_check_rights) (X : Exc K mg "InvalidRights") (HT : Has P w K mg base CX0 7 "are_rights" ["value"] (spData T rightsD RightsOk)) : Has P w K mg base (L2.CX P w) 8 "check_rights" ["rights"] (spCkD T) := by
  refine F.ok sc_check_rights (fun _ _ _ _ _ _ us hl => match us, hl with | [_], _ => rfl) (fun vs H Q E h => ?_) fun A outer s H vs Q E hr h => ?_
  · obtain ⟨x, _, rfl, _⟩ := h
    rfl
  obtain ⟨x, rs, rfl, hd, hg, tb, q⟩ := h
  refine ⟨_, pss_one (ps_if (pt_not (pt_val (Has.call HT hr pass0 (pa_cons (pv 0) pa_nil)))) (pss_one (ps_raise rfl (takes_of rfl rfl rfl rfl) (pmk_own PySem.F.excBase_ValueError X.e.1 X.g X.e.2.1 (raises_own X.e.2.2.1 X.e.2.2.2) rfl))) pss_nil), ?_⟩
  refine ⟨x, rfl, x, rightsOf rs, rfl, hd, hg.ok.1, tb, fun H' g => ⟨_, rfl, ?_⟩⟩
  rw [hg.ok.2]
  exact iteF (q H' g)
theorem sc_check_deed : FnScope ["deed"] ["deed"] (defScope s_check_deed) := ⟨rfl, rfl, rfl, by decide +kernel, rfl, by decide +kernel, by decide +kernel⟩
theorem has_check_deed (F : At K mg "check_deed" s_check_deed) (X : Exc K mg "InvalidDeed") (W : TopT K mg "DEEDS" deeds2) : Has P w K mg base (L2.CX P w) 1 "check_deed" ["deed"] (spCkDeed T) := by
  refine F.ok sc_check_deed (fun _ _ _ _ _ _ us hl => match us, hl with | [_], _ => rfl) (fun vs H Q E h => ?_) fun A outer s H vs Q E hr h => ?_
  · obtain ⟨x, rfl, _⟩ := h
    rfl
  obtain ⟨x, rfl, hm, q⟩ := h
  refine ⟨_, pss_one (ps_if (pt_cmpR (notIn_seq (K := K) rfl) (pv 0) (pe_glob (v := .ref (He.ga K "DEEDS")) rfl W.g rfl) rfl) (pss_one (ps_raise rfl (takes_of rfl rfl rfl rfl) (pmk_own PySem.F.excBase_ValueError X.e.1 X.g X.e.2.1 (raises_own X.e.2.2.1 X.e.2.2.2) rfl))) pss_nil), ?_⟩
  refine ⟨_, rfl, _, _, rfl, .inr (W.t H), rfl, rfl, _, rfl, ?_⟩
  have e : inV (.str x) (deeds2.map V.str) = true := by
    have : ∀ x ∈ deeds2, inV (.str x) (deeds2.map V.str) = true := by decide +kernel
    exact this x hm
  rw [e]
  exact iteF q
abbrev rfN : List Str := ["rights", "deed", "word", "told", "wish"]
theorem sc_rows_for : FnScope rfN ["rights", "deed"] (defScope s_rows_for) := ⟨rfl, rfl, rfl, by decide +kernel, rfl, by decide +kernel, by decide +kernel⟩
theorem has_rows_for (F : At K mg "rows_for" s_rows_for) (W : TopT K mg "LAST_RULE" ["bar", "both", "#"]) : Has P w K mg base CX0 1 "rows_for" ["rights", "deed"] (spRows T) := by
  refine F.ok0 sc_rows_for (fun _ _ _ _ _ _ us hl => match us, hl with | [_, _], _ => rfl) (fun vs H Q E h => ?_) fun A outer s H vs Q E hr h => ?_
  · obtain ⟨_, _, _, rfl, _⟩ := h
    rfl
  obtain ⟨v, rs, deed, rfl, hd, hg, tb, q⟩ := h
  refine ⟨_, pss_one (ps_ret (pe_lc (own := [("word", 2), ("told", 3), ("wish", 4)]) rfl sc_rows_for.nd (pi_tup (pe_op op_catA (pv 0) (pe_tup (pa_cons (pe_glob (v := .ref (He.ga K "LAST_RULE")) rfl W.g rfl) pa_nil))))
      (blkOk_by (own := [("word", 2), ("told", 3), ("wish", 4)]) (N := rfN) (sc := defScope s_rows_for) (by decide +kernel))
      (fun _ _ _ _ _ => tup_g (K := K) (n := 3) rfl rfl (pgs_cons (pg_name (i := 2) sc_rows_for.nd rfl (Or.inl rfl) (Or.inr rfl)) (pgs_cons (pg_name (i := 3) sc_rows_for.nd rfl (Or.inl rfl) (Or.inr rfl)) (pgs_cons (pg_name (i := 4) sc_rows_for.nd rfl (Or.inl rfl) (Or.inr rfl)) pgs_nil))))
      (fun _ _ _ _ _ => pts_one (pt_cmpR (in_seq (K := K) rfl) (pv 3) (pe_tup (pa_cons (pv 1) (pa_cons pe_str pa_nil))) rfl))
      (fun _ _ _ _ _ => pe_tup (pa_cons (pv 2) (pa_cons (pv 4) pa_nil))))), ?_⟩
  obtain ⟨Rr, eR⟩ : ∃ Rr, Rr = rs ++ [lastRule] := ⟨_, rfl⟩
  cases hd with
  | @tup a xs ds ha da =>
    have hl := da.len
    rw [List.length_map] at hl
    have hle := hg.le
    refine ⟨_, rfl, (by show 1 ≤ sizeLine; decide), fun p1 hp1 => ?_⟩
    have g1 := Gr.new tb hp1 (.tup [V.ref (He.ga K "LAST_RULE")])
    have rule_at : ∀ (i : Nat) x, (xs ++ [V.ref (He.ga K "LAST_RULE")])[i]? = some x → ∀ r, Rr[i]? = some r → ∀ H', Gr T H H' → ∃ p, x = .ref p ∧ SqT K H' p [.str r.1, .str r.2.1, .str r.2.2] := by
      intro i x ex r er H' g
      rw [eR] at er
      rcases Nat.lt_or_ge i rs.length with h | h
      · rw [List.getElem?_append_left (by omega)] at ex er
        obtain ⟨d, ed, dx⟩ := da.at ex
        rw [List.getElem?_map, er] at ed
        obtain rfl : ruleOf r = d := Option.some.inj ed
        cases dx with
        | tup hp r3 =>
          refine ⟨_, rfl, SqT.of (g.tup ?_)⟩
          rw [hp]
          cases r3 with
          | cons x1 r3 => cases r3 with
            | cons x2 r3 => cases r3 with
              | cons x3 r3 =>
                cases x1; cases x2; cases x3; cases r3
                rfl
      · rw [List.getElem?_append_right (by omega)] at ex er
        have hi : i < rs.length + 1 := by
          rcases Nat.lt_or_ge i (rs.length + 1) with k | k
          · exact k
          · rw [List.getElem?_eq_none (by simp; omega)] at er; cases er
        have : i - xs.length = 0 := by omega
        rw [this] at ex
        have : i - rs.length = 0 := by omega
        rw [this] at er
        obtain rfl : V.ref (He.ga K "LAST_RULE") = x := by simpa using ex
        obtain rfl : lastRule = r := by simpa using er
        exact ⟨_, rfl, W.t H'⟩
    have fin : ∀ (H1 : Hp) (c : Addr), Gr T H H1 → H1 c = some (.tup (xs ++ [V.ref (He.ga K "LAST_RULE")])) →
        tLc (iTup K (tC (V.ref c))) (gTup K 3 (gCons (gName 2) (gCons (gName 3) (gCons (gName 4) gNil)))) (tTest (tOp (rIn K false) (tVar 3) (tTup (tCons (tVar 1) (tCons (tC (.str "both")) tNil))))) (tTup (tCons (tVar 2) (tCons (tVar 4) tNil))) [2, 3, 4] [some (.ref a), some (.str deed), none, none, none] H1 Q := by
      intro H1 c g hc
      have wk : Walk (Itt K c) Rr.length (fun H => SqT K H c (xs ++ [V.ref (He.ga K "LAST_RULE")])) (YAt (xs ++ [V.ref (He.ga K "LAST_RULE")])) := by
        have := walk_tup (K := K) (a := c) (xs := xs ++ [V.ref (He.ga K "LAST_RULE")])
        rwa [show (xs ++ [V.ref (He.ga K "LAST_RULE")]).length = Rr.length by rw [eR, List.length_append, List.length_append, hl]; rfl] at this
      refine ⟨c, rfl, ⟨_, SqT.of hc⟩, fun D hD => ?_⟩
      refine lc_it wk (fun i H' => Gr T H1 H' ∧ ∃ ws, H' D = some (.lst ws) ∧ RowsAt H' ws (((Rr.take i).filter (forDeed deed)).map fun r => (r.1, r.2.2))) ⟨Gr.new g.tabs hD _, [], upd_same, True.intro⟩ (fun i H' _ p => SqT.of (p.1.tup hc)) (fun i x H2 H3 hi ⟨g2, ws, eD, rw2⟩ y => ?_) fun H2 ⟨g2, ws, eD, rw2⟩ => ?_
      · obtain ⟨rfl, ex⟩ := y
        have er : Rr[i]? = some Rr[i] := List.getElem?_eq_getElem hi
        obtain ⟨p, rfl, sq⟩ := rule_at i x ex _ er H3 (g.trans g2)
        generalize Rr[i] = r at er sq
        have tk : Rr.take (i + 1) = Rr.take i ++ [r] := by rw [List.take_add_one, er]; rfl
        refine ⟨p, _, rfl, sq, rfl, _, _, rfl, _, _, rfl, _, _, rfl, rfl, rfl, ?_⟩
        refine ⟨_, rfl, _, rfl, (by show 2 ≤ sizeLine; decide), fun p5 hp5 => ?_⟩
        have g5 := Gr.new g2.tabs hp5 (.tup [V.str deed, V.str "both"])
        refine ⟨p5, _, rfl, .inr (SqT.of upd_same), rfl, rfl, _, rfl, ?_⟩
        cases ef : forDeed deed r with
        | false =>
          refine ite2 (fun z => absurd (ef.symm.trans z) (by decide)) fun _ => ⟨g2.trans g5, ws, g5.lst eD, ?_⟩
          rw [tk, List.filter_append, List.filter_cons_of_neg (by rw [ef]; decide), List.filter_nil, List.append_nil]
          exact rw2.gr g5
        | true =>
          refine ite2 (fun _ => ?_) fun z => absurd ef z
          refine ⟨_, rfl, _, rfl, (by show 2 ≤ sizeLine; decide), fun p6 hp6 => ?_⟩
          have g6 := Gr.new g5.tabs hp6 (.tup [V.str r.1, V.str r.2.2])
          have eD6 := (g5.trans g6).lst eD
          have gz := (g2.trans (g5.trans g6))
          have gown := gz.own1 (ys := ws ++ [V.ref p6]) hD eD6
          refine ⟨ws, eD6, ?_, gown, _, upd_same, ?_⟩
          · have l1 := rw2.len
            rw [l1, List.length_map]
            refine Nat.lt_of_le_of_lt (Nat.le_trans (List.length_filter_le _ _) (Nat.le_trans (List.length_take_le _ _) ?_)) (show 13 < sizeLine by decide)
            have : Rr.length = rs.length + 1 := by rw [eR]; simp
            omega
          · rw [tk, List.filter_append, List.filter_cons_of_pos ef, List.filter_nil, List.map_append]
            have keep : ∀ (b : Addr) zs, (upd (upd H3 p5 (.tup [V.str deed, V.str "both"])) p6 (.tup [V.str r.1, V.str r.2.2])) b = some (.tup zs) → (upd (upd (upd H3 p5 (.tup [V.str deed, V.str "both"])) p6 (.tup [V.str r.1, V.str r.2.2])) D (.lst (ws ++ [V.ref p6]))) b = some (.tup zs) := fun b zs hb => by
              rw [upd_ne (fun z => by rw [z, eD6] at hb; cases hb)]
              exact hb
            refine RowsAt.snoc (RowsAt.keep keep (rw2.gr (g5.trans g6))) ⟨p6, rfl, keep _ _ upd_same⟩
      · rw [List.take_length, eR] at rw2
        exact q H2 D ws (g.trans g2) eD rw2
    refine ⟨a, p1, xs, _, rfl, rfl, SqT.of (g1.tup ha), SqT.of upd_same, ?_, fun h0 => fin _ p1 g1 (by rw [h0]; exact upd_same), fun _ h => (by cases h), fun _ _ p2 hp2 => fin _ p2 (g1.trans (Gr.new g1.tabs hp2 _)) upd_same⟩
    rw [hl]
    exact Nat.le_trans (show rs.length + 1 ≤ 13 by omega) (by decide)
end
end Bk

set_option Elab.async false
set_option linter.all false
set_option maxRecDepth 100000
set_option maxHeartbeats 4000000
namespace Bk
open PySem PySem.Spec PyProof.Rows L2
/-! ### what is common to two wishes is met by what meets both -/
theorem apart_iff (a b : Str) : apart (a, b) = true ↔ a ≠ "+" ∧ b ≠ "+" ∧ a ≠ b := by
  unfold apart inV
  simp only [List.any_cons, List.any_nil, eqV, Bool.or_false, Bool.and_eq_true, Bool.not_eq_true', Bool.or_eq_false_iff, beq_eq_false_iff_ne, decide_eq_false_iff_not]
  constructor
  · rintro ⟨⟨h1, h2⟩, h3⟩
    exact ⟨h1, h2, fun e => h3 (by rw [e])⟩
  · rintro ⟨h1, h2, h3⟩
    exact ⟨⟨h1, h2⟩, fun e => h3 (V.str.inj e)⟩
theorem at_len {α β : Type} {l : List α} {m : List β} (h : l.length = m.length) {i : Nat} {a : α} (e : l[i]? = some a) : ∃ b, m[i]? = some b := by
  have hi : i < l.length := by
    rcases Nat.lt_or_ge i l.length with k | k
    · exact k
    · rw [List.getElem?_eq_none k] at e; cases e
  exact ⟨m[i]'(h ▸ hi), List.getElem?_eq_getElem (h ▸ hi)⟩
theorem cov_com {l m st : List Str} (h : l.length = m.length) : (Cov l st ∧ Cov m st) ↔ ∃ c, commL l m = some c ∧ Cov c st := by
  constructor
  · rintro ⟨⟨l1, l2⟩, ⟨m1, m2⟩⟩
    have no : (l.zip m).any apart = false := by
      rw [List.any_eq_false]
      rintro ⟨a, b⟩ hp z
      obtain ⟨i, hi⟩ := List.mem_iff_getElem?.mp hp
      obtain ⟨ea, eb⟩ := List.getElem?_zip_eq_some.mp hi
      obtain ⟨s, es⟩ := at_len l1 ea
      obtain ⟨n1, n2, n3⟩ := (apart_iff a b).mp z
      rcases l2 i a s ea es with q | q
      · exact n1 q
      · rcases m2 i b s eb es with r | r
        · exact n2 r
        · exact n3 (q.trans r.symm)
    refine ⟨_, by unfold commL; rw [no, if_neg Bool.false_ne_true], by rw [List.length_map, List.length_zip]; omega, fun i c s ec es => ?_⟩
    rw [List.getElem?_map] at ec
    cases e : (l.zip m)[i]? with
    | none => rw [e] at ec; cases ec
    | some p =>
      rw [e] at ec
      obtain rfl : pickS p = c := Option.some.inj ec
      obtain ⟨ea, eb⟩ := List.getElem?_zip_eq_some.mp e
      unfold pickS
      split
      · exact m2 i _ s eb es
      · exact l2 i _ s ea es
  · rintro ⟨c, ec, c1, c2⟩
    unfold commL at ec
    split at ec
    · cases ec
    · rename_i no
      obtain rfl := Option.some.inj ec
      rw [List.length_map, List.length_zip] at c1
      have key : ∀ (i : Nat) a b s, l[i]? = some a → m[i]? = some b → st[i]? = some s → (a = "+" ∨ a = s) ∧ (b = "+" ∨ b = s) := by
        intro i a b s ea eb es
        have ez : (l.zip m)[i]? = some (a, b) := List.getElem?_zip_eq_some.mpr ⟨ea, eb⟩
        have hp := c2 i (pickS (a, b)) s (by rw [List.getElem?_map, ez]; rfl) es
        have hn : ¬ apart (a, b) = true := fun z => no (List.any_eq_true.mpr ⟨_, List.mem_of_getElem? ez, z⟩)
        rw [apart_iff] at hn
        unfold pickS at hp
        by_cases k : a = "+"
        · rw [if_pos k] at hp
          exact ⟨.inl k, hp⟩
        · rw [if_neg k] at hp
          have ha : a = s := hp.elim (fun z => absurd z k) id
          refine ⟨.inr ha, ?_⟩
          by_cases kb : b = "+"
          · exact .inl kb
          · by_cases kc : a = b
            · exact .inr (kc.symm.trans ha)
            · exact absurd ⟨k, kb, kc⟩ hn
      refine ⟨⟨by omega, fun i a s ea es => ?_⟩, by omega, fun i b s eb es => ?_⟩
      · obtain ⟨b, eb⟩ := at_len h ea
        exact (key i a b s ea eb es).1
      · obtain ⟨a, ea⟩ := at_len h.symm eb
        exact (key i a b s ea eb es).2
theorem cov_plus {l st : List Str} {n : Nat} (hs : st.length = n) (hl : l.length ≤ n) : Cov (l ++ List.replicate (n - l.length) ("+" : Str)) st ↔ Cov l (st.take l.length) := by
  unfold Cov
  rw [List.length_append, List.length_replicate, List.length_take]
  constructor
  · rintro ⟨_, h⟩
    refine ⟨by omega, fun i a s ea es => ?_⟩
    have hi : i < l.length := by
      rcases Nat.lt_or_ge i l.length with k | k
      · exact k
      · rw [List.getElem?_eq_none k] at ea; cases ea
    rw [List.getElem?_take_of_lt hi] at es
    exact h i a s (by rw [List.getElem?_append_left hi]; exact ea) es
  · rintro ⟨_, h⟩
    refine ⟨by omega, fun i a s ea es => ?_⟩
    rcases Nat.lt_or_ge i l.length with hi | hi
    · rw [List.getElem?_append_left hi] at ea
      exact h i a s ea (by rw [List.getElem?_take_of_lt hi]; exact es)
    · rw [List.getElem?_append_right hi, List.getElem?_replicate] at ea
      split at ea
      · exact .inl (Option.some.inj ea).symm
      · cases ea
theorem take_take' (st : List Str) {k N : Nat} (h : k ≤ N) : (st.take N).take k = st.take k := by rw [List.take_take, Nat.min_eq_left h]
/-- a stem with all below -/
theorem met_hash {st r : List Str} : metL st (r ++ [("#" : Str)]) = true ↔ r.length ≤ st.length ∧ Cov r (st.take r.length) := by
  rw [met_pat]
  unfold patL
  rw [if_pos (by simp), List.length_append, List.length_singleton, Nat.add_sub_cancel, List.dropLast_concat]
  constructor
  · rintro ⟨l, e, c⟩
    by_cases d : r.length ≤ st.length
    · rw [if_pos d] at e
      obtain rfl := Option.some.inj e
      exact ⟨d, (cov_plus rfl d).mp c⟩
    · rw [if_neg d] at e; cases e
  · rintro ⟨d, c⟩
    exact ⟨_, by rw [if_pos d], (cov_plus rfl d).mpr c⟩
theorem met_plain {st wa : List Str} (h : ¬ wa.getLast? = some ("#" : Str)) : metL st wa = true ↔ Cov wa st := by
  unfold metL
  rw [if_neg h, metS_cov]
theorem hash_split {wa : List Str} (h : wa.getLast? = some ("#" : Str)) : ∃ r, wa = r ++ [("#" : Str)] ∧ r.length = wa.length - 1 := by
  have hn : wa ≠ [] := fun e => by rw [e] at h; simp at h
  obtain ⟨r, z, e⟩ := snoc_of hn
  rw [e] at h
  have : z = "#" := by simpa using h
  subst this
  exact ⟨r, e, by rw [e]; simp⟩
/-- what is common: the wish z is met by just what meets both -/
def ComIs (w o : Str) (x : Option Str) : Prop := match x with
  | none => ∀ t, topicB t = true → metB t w = true → metB t o = true → False
  | some z => wishB z = true ∧ ∀ t, topicB t = true → (metB t z = true ↔ metB t w = true ∧ metB t o = true)
theorem wish_of {c e : List Str} (hc : ∀ s ∈ c, stepB s = true) (he : e = [] ∨ e = [("#" : Str)]) (hn : c ++ e ≠ []) (h5 : (c ++ e).length ≤ 5) : wishB (joinS (c ++ e)) = true ∧ stepsOf (joinS (c ++ e)) = c ++ e := by
  have hs : ∀ s ∈ c ++ e, stepH s = true := fun s h => by
    rcases List.mem_append.mp h with h | h
    · exact stepB_H (hc s h)
    · rcases he with rfl | rfl
      · cases h
      · rw [List.mem_singleton.mp h]; decide +kernel
  have es := steps_join hn hs
  refine ⟨?_, es⟩
  unfold wishB
  rw [es, if_neg (by simp; simp at h5; omega), List.all_eq_true]
  intro s hm
  unfold stemL at hm
  rcases he with rfl | rfl
  · rw [List.append_nil] at hm
    split at hm
    · exact hc s (List.dropLast_subset _ hm)
    · exact hc s hm
  · rw [if_pos (by simp), List.dropLast_concat] at hm
    exact hc s hm
/-- where one of them has no "#": topics of N steps -/
theorem com_plain {w o : Str} {N : Nat} (hw : wishB w = true) (ho : wishB o = true) (h1 : 1 ≤ N) (h5 : N ≤ 5) (hN : ∀ t, metB t w = true → metB t o = true → (stepsOf t).length = N) :
    ComIs w o ((patL (stepsOf w) N).bind fun l => (patL (stepsOf o) N).bind fun m => (commL l m).map fun c => joinS (c ++ [])) := by
  have both : ∀ t, metB t w = true → metB t o = true → ∃ l m c, patL (stepsOf w) N = some l ∧ patL (stepsOf o) N = some m ∧ commL l m = some c ∧ Cov c (stepsOf t) := by
    intro t m1 m2
    have hn := hN t m1 m2
    obtain ⟨l, el, cl⟩ := (met_pat _ _).mp (show metL (stepsOf t) (stepsOf w) = true from m1)
    obtain ⟨m, em, cm⟩ := (met_pat _ _).mp (show metL (stepsOf t) (stepsOf o) = true from m2)
    rw [hn] at el em
    obtain ⟨c, ec, cc⟩ := (cov_com (cl.1.trans cm.1.symm)).mp ⟨cl, cm⟩
    exact ⟨l, m, c, el, em, ec, cc⟩
  cases el : patL (stepsOf w) N with
  | none => exact fun t _ m1 m2 => by obtain ⟨l, _, _, e, _⟩ := both t m1 m2; rw [el] at e; cases e
  | some l =>
    cases em : patL (stepsOf o) N with
    | none => exact fun t _ m1 m2 => by obtain ⟨_, m, _, _, e, _⟩ := both t m1 m2; rw [em] at e; cases e
    | some m =>
      have ls := pat_step hw el
      have ms := pat_step ho em
      cases ec : commL l m with
      | none =>
        show ComIs w o ((commL l m).map fun c => joinS (c ++ []))
        rw [ec]
        intro t _ m1 m2
        obtain ⟨l2, m2, c, e1, e2, e3, _⟩ := both t m1 m2
        rw [el] at e1; rw [em] at e2
        obtain rfl := Option.some.inj e1
        obtain rfl := Option.some.inj e2
        rw [ec] at e3; cases e3
      | some c =>
        show ComIs w o ((commL l m).map fun c => joinS (c ++ []))
        rw [ec]
        have cs := comm_step ls.2 ms.2 ec
        have cl : c.length = N := by rw [cs.1, ls.1, ms.1]; exact Nat.min_self N
        obtain ⟨hz, ez⟩ := wish_of (c := c) (e := []) cs.2 (.inl rfl) (fun z => by simp at z; rw [z] at cl; simp at cl; omega) (by simp; omega)
        refine ⟨hz, fun t ht => ?_⟩
        have nh : ¬ (c ++ []).getLast? = some ("#" : Str) := fun z => by
          rw [List.append_nil] at z
          exact stepB_not (cs.2 _ (List.mem_of_getLast? z)) rfl
        have mz : metB t (joinS (c ++ [])) = true ↔ Cov c (stepsOf t) := by
          unfold metB
          rw [ez, met_plain nh, List.append_nil]
        rw [mz]
        constructor
        · intro hc
          obtain ⟨c1, c2⟩ := (cov_com (ls.1.trans ms.1.symm)).mpr ⟨c, ec, hc⟩
          have hn : (stepsOf t).length = N := hc.1.symm.trans cl
          exact ⟨(met_pat _ _).mpr ⟨l, by rw [hn]; exact el, c1⟩, (met_pat _ _).mpr ⟨m, by rw [hn]; exact em, c2⟩⟩
        · rintro ⟨m1, m2⟩
          obtain ⟨l2, m2, c2, e1, e2, e3, hc⟩ := both t m1 m2
          rw [el] at e1; rw [em] at e2
          obtain rfl := Option.some.inj e1
          obtain rfl := Option.some.inj e2
          rw [ec] at e3
          obtain rfl := Option.some.inj e3
          exact hc
end Bk

set_option Elab.async false
set_option linter.all false
set_option maxRecDepth 100000
set_option maxHeartbeats 4000000
namespace Bk
open PySem PySem.Spec PyProof.Rows L2
theorem hE_iff (w : Str) : hE w = true ↔ (stepsOf w).getLast? = some ("#" : Str) := by
  unfold hE
  rw [decide_eq_true_eq]
/-- both go on with all below -/
theorem com_hash {w o : Str} {r1 r2 : List Str} (hw : wishB w = true) (ho : wishB o = true) (e1 : stepsOf w = r1 ++ [("#" : Str)]) (e2 : stepsOf o = r2 ++ [("#" : Str)]) {N : Nat} (hN : N = max r1.length r2.length) :
    ComIs w o ((patL (stepsOf w) N).bind fun l => (patL (stepsOf o) N).bind fun m => (commL l m).map fun c => joinS (c ++ [("#" : Str)])) := by
  have l1 : r1.length ≤ N := by omega
  have l2 : r2.length ≤ N := by omega
  have el : patL (stepsOf w) N = some (r1 ++ List.replicate (N - r1.length) ("+" : Str)) := by
    unfold patL
    rw [e1, if_pos (by simp), List.length_append, List.length_singleton, Nat.add_sub_cancel, List.dropLast_concat, if_pos l1]
  have em : patL (stepsOf o) N = some (r2 ++ List.replicate (N - r2.length) ("+" : Str)) := by
    unfold patL
    rw [e2, if_pos (by simp), List.length_append, List.length_singleton, Nat.add_sub_cancel, List.dropLast_concat, if_pos l2]
  have h5 : N ≤ 4 := by
    have a := (wish_steps hw).1
    have b := (wish_steps ho).1
    rw [e1, List.length_append, List.length_singleton] at a
    rw [e2, List.length_append, List.length_singleton] at b
    omega
  have ls := pat_step hw el
  have ms := pat_step ho em
  have mw : ∀ t, metB t w = true ↔ r1.length ≤ (stepsOf t).length ∧ Cov r1 ((stepsOf t).take r1.length) := fun t => by unfold metB; rw [e1]; exact met_hash
  have mo : ∀ t, metB t o = true ↔ r2.length ≤ (stepsOf t).length ∧ Cov r2 ((stepsOf t).take r2.length) := fun t => by unfold metB; rw [e2]; exact met_hash
  have both : ∀ t, (metB t w = true ∧ metB t o = true) ↔ (N ≤ (stepsOf t).length ∧ ∃ c, commL (r1 ++ List.replicate (N - r1.length) ("+" : Str)) (r2 ++ List.replicate (N - r2.length) ("+" : Str)) = some c ∧ Cov c ((stepsOf t).take N)) := by
    intro t
    rw [mw, mo]
    have key : N ≤ (stepsOf t).length → ((Cov r1 ((stepsOf t).take r1.length) ∧ Cov r2 ((stepsOf t).take r2.length)) ↔ ∃ c, commL (r1 ++ List.replicate (N - r1.length) ("+" : Str)) (r2 ++ List.replicate (N - r2.length) ("+" : Str)) = some c ∧ Cov c ((stepsOf t).take N)) := by
      intro hn
      have sl : ((stepsOf t).take N).length = N := by rw [List.length_take]; exact Nat.min_eq_left hn
      rw [← cov_com (ls.1.trans ms.1.symm), cov_plus sl l1, cov_plus sl l2, take_take' _ l1, take_take' _ l2]
    constructor
    · rintro ⟨⟨a1, a2⟩, b1, b2⟩
      have hn : N ≤ (stepsOf t).length := by omega
      exact ⟨hn, (key hn).mp ⟨a2, b2⟩⟩
    · rintro ⟨hn, h⟩
      obtain ⟨a, b⟩ := (key hn).mpr h
      exact ⟨⟨by omega, a⟩, by omega, b⟩
  rw [el, em]
  show ComIs w o ((commL (r1 ++ List.replicate (N - r1.length) ("+" : Str)) (r2 ++ List.replicate (N - r2.length) ("+" : Str))).map fun c => joinS (c ++ [("#" : Str)]))
  cases ec : commL (r1 ++ List.replicate (N - r1.length) ("+" : Str)) (r2 ++ List.replicate (N - r2.length) ("+" : Str)) with
  | none =>
    intro t _ m1 m2
    obtain ⟨_, c, e, _⟩ := (both t).mp ⟨m1, m2⟩
    rw [ec] at e
    cases e
  | some c =>
    have cs := comm_step ls.2 ms.2 ec
    have cl : c.length = N := by rw [cs.1, ls.1, ms.1]; exact Nat.min_self N
    obtain ⟨hz, ez⟩ := wish_of (c := c) (e := [("#" : Str)]) cs.2 (.inr rfl) (by simp) (by rw [List.length_append, List.length_singleton]; omega)
    refine ⟨hz, fun t ht => ?_⟩
    rw [both t, show (metB t (joinS (c ++ [("#" : Str)])) = true ↔ c.length ≤ (stepsOf t).length ∧ Cov c ((stepsOf t).take c.length)) by unfold metB; rw [ez]; exact met_hash, cl]
    constructor
    · rintro ⟨a, b⟩; exact ⟨a, c, ec, b⟩
    · rintro ⟨a, c2, e, b⟩
      rw [ec] at e
      obtain rfl := Option.some.inj e
      exact ⟨a, b⟩
theorem comOf_is {w o : Str} (hw : wishB w = true) (ho : wishB o = true) : ComIs w o (comOf w o) := by
  have w5 := (wish_steps hw).1
  have o5 := (wish_steps ho).1
  have w1 : 1 ≤ (stepsOf w).length := List.length_pos_iff.mpr (steps_ne w)
  have o1 : 1 ≤ (stepsOf o).length := List.length_pos_iff.mpr (steps_ne o)
  have plainW : hE w = false → ∀ t, metB t w = true → (stepsOf t).length = (stepsOf w).length := fun h t m => by
    have nh : ¬ (stepsOf w).getLast? = some ("#" : Str) := fun z => by rw [← hE_iff, h] at z; cases z
    exact ((met_plain nh).mp (show metL (stepsOf t) (stepsOf w) = true from m)).1.symm
  have plainO : hE o = false → ∀ t, metB t o = true → (stepsOf t).length = (stepsOf o).length := fun h t m => by
    have nh : ¬ (stepsOf o).getLast? = some ("#" : Str) := fun z => by rw [← hE_iff, h] at z; cases z
    exact ((met_plain nh).mp (show metL (stepsOf t) (stepsOf o) = true from m)).1.symm
  unfold comOf comN comEnd
  cases h1 : hE w with
  | false => exact com_plain hw ho w1 w5 fun t m _ => plainW h1 t m
  | true =>
    cases h2 : hE o with
    | false => exact com_plain hw ho o1 o5 fun t _ m => plainO h2 t m
    | true =>
      obtain ⟨r1, e1, k1⟩ := hash_split ((hE_iff w).mp h1)
      obtain ⟨r2, e2, k2⟩ := hash_split ((hE_iff o).mp h2)
      exact com_hash hw ho e1 e2 (by rw [if_pos rfl, if_pos rfl]; omega)
end Bk

set_option Elab.async false
set_option linter.all false
set_option maxRecDepth 100000
set_option maxHeartbeats 4000000
namespace Bk
open PySem PySem.Spec PyProof.Rows L2
abbrev s_topic_told : Stmt := top 32
/-! ### a topic that a row from a start on tells first -/
def Told (rows : List Row) (start : Nat) (asked : Str) (t : Str) : Prop := ∃ i told, start ≤ i ∧ rows[i]? = some (asked, told) ∧ metB t told = true ∧ ∀ j r, j < i → rows[j]? = some r → metB t r.2 = false
def spTold (T : Tbs) : Sp := fun vs H Q _ => ∃ (p : Addr) (ws : List V) (rows : List Row) (start : Nat) (asked wi : Str), vs = [.ref p, .int start, .str asked, .str wi] ∧ H p = some (.lst ws) ∧ RowsAt H ws rows ∧ (∀ r ∈ rows, wishB r.2 = true) ∧ rows.length ≤ 50 ∧ start ≤ 50 ∧ wishB wi = true ∧ LamX.Tabs T H ∧
  (∀ H' t, Gr T H H' → topicB t = true → metB t wi = true → Told rows start asked t → Q (.str t) H') ∧ (∀ H', Gr T H H' → (∀ t, topicB t = true → metB t wi = true → ¬ Told rows start asked t) → Q .non H')
theorem RowsAt.at {H : Hp} : ∀ {vs : List V} {rs : List Row} {i : Nat} {r : Row}, RowsAt H vs rs → rs[i]? = some r → ∃ p, vs[i]? = some (.ref p) ∧ H p = some (.tup [.str r.1, .str r.2])
  | [], [], _, _, _, e => by simp at e
  | v :: vs, x :: rs, 0, r, ⟨⟨p, e, h⟩, k⟩, er => by
    obtain rfl : x = r := by simpa using er
    exact ⟨p, by simp [e], h⟩
  | v :: vs, x :: rs, i + 1, r, ⟨_, k⟩, er => by
    obtain ⟨p, h1, h2⟩ := RowsAt.at k (i := i) (r := r) (by simpa using er)
    exact ⟨p, by simpa using h1, h2⟩
theorem RowsAt.take {H : Hp} : ∀ {vs : List V} {rs : List Row} (n : Nat), RowsAt H vs rs → RowsAt H (vs.take n) (rs.take n)
  | [], [], n, _ => by simp [RowsAt]
  | _ :: _, _ :: _, 0, _ => True.intro
  | _ :: _, _ :: _, n + 1, ⟨a, k⟩ => ⟨a, RowsAt.take n k⟩
section
variable {P : Program} {w : World} {K : PySem.W.Frag} {mg : Str → Option Value} {base : Heap} {T : Tbs}
abbrev ttN : List Str := ["rows", "start", "asked", "wish", "index", "word", "told", "common", "topic", "_", "earlier"]
theorem sc_topic_told : FnScope ttN ["rows", "start", "asked", "wish"] (defScope s_topic_told) := ⟨rfl, rfl, rfl, by decide +kernel, rfl, by decide +kernel, by decide +kernel⟩
theorem has_topic_told (F : At K mg "topic_told" s_topic_told) (zr : mg "range" = none) (zl : mg "len" = none) (HC : Has P w K mg base CX0 2 "common_of" ["wish", "other"] (spCof T)) (HB : Has P w K mg base CX0 4 "topic_beyond" ["wish", "others"] (spBeyond T)) :
    Has P w K mg base CX0 5 "topic_told" ["rows", "start", "asked", "wish"] (spTold T) := by
  refine F.ok0 sc_topic_told (fun _ _ _ _ _ _ us hl => match us, hl with | [_, _, _, _], _ => rfl) (fun vs H Q E h => ?_) fun A outer s H vs Q E hr h => ?_
  · obtain ⟨_, _, _, _, _, _, rfl, _⟩ := h
    rfl
  obtain ⟨p, ws, rows, start, asked, wi, rfl, hp, hR, hw, hn, hst, hwi, tb, q1, q2⟩ := h
  refine ⟨_, pss_cons (ps_for PassesOwn.never rfl (pi_range2 rfl zr (pa_cons (pv 1) (pa_cons (pe_callB call_len_seq rfl zl PySem.boot_len (pa_cons (pv 0) pa_nil)) pa_nil))) (pg_name (i := 4) sc_topic_told.nd rfl (Or.inl rfl))
      (pss_cons (ps_asg (pe_ix ix_list (pv 0) (pv 4) (fun _ _ => rfl)) (tup_g (K := K) (n := 2) rfl rfl (pgs_cons (pg_name (i := 5) sc_topic_told.nd rfl (Or.inl rfl) (Or.inr rfl)) (pgs_cons (pg_name (i := 6) sc_topic_told.nd rfl (Or.inl rfl) (Or.inr rfl)) pgs_nil))))
      (pss_cons (ps_set (i := 7) sc_topic_told.nd rfl (Or.inl rfl) (pe_ifExp (pt_cmpR op_eq (pv 5) (pv 2) (nomark _)) (Has.call HC (hr.mono (by decide)) pass0 (pa_cons (pv 3) (pa_cons (pv 6) pa_nil))) pe_non))
      (pss_one (ps_if (pt_cmpR op_notN (pv 7) pe_non (nomark _))
        (pss_cons (ps_set (i := 8) sc_topic_told.nd rfl (Or.inl rfl) (Has.call HB hr pass0 (pa_cons (pv 7) (pa_cons (pe_lc (own := [("_", 9), ("earlier", 10)]) rfl sc_topic_told.nd (pi_list (pe_slice sl_list (pv 0) po_none (po_some (pv 4)))) (blkOk_by (own := [("_", 9), ("earlier", 10)]) (N := ttN) (sc := defScope s_topic_told) (by decide +kernel))
            (fun _ _ _ _ _ => tup_g (K := K) (n := 2) rfl rfl (pgs_cons (pg_name (i := 9) sc_topic_told.nd rfl (Or.inl rfl) (Or.inr rfl)) (pgs_cons (pg_name (i := 10) sc_topic_told.nd rfl (Or.inl rfl) (Or.inr rfl)) pgs_nil))) (fun _ _ _ _ _ => pts_nil) (fun _ _ _ _ _ => pv 10)) pa_nil))))
        (pss_one (ps_if (pt_cmpR op_notN (pv 8) pe_non (nomark _)) (pss_one (ps_ret (pv 8))) pss_nil))) pss_nil)))))
    (pss_one (ps_ret pe_non)), ?_⟩
  have hlen := hR.len
  refine ⟨_, rfl, _, rfl, p, _, rfl, .inl (SqL.of hp), (start : Int), (rows.length : Int), by rw [hlen], ⟨by omega, by omega, by omega, by omega⟩, ?_⟩
  refine for_it (n := ((rows.length : Int) - (start : Int)).toNat) walk_range (fun i σ H' => (∃ o4 o5 o6 o7 o8, σ = [some (.ref p), some (.int start), some (.str asked), some (.str wi), o4, o5, o6, o7, o8, none, none]) ∧ Gr T H H' ∧
      ∀ k told, start ≤ k → k < start + i → rows[k]? = some (asked, told) → ∀ t, topicB t = true → metB t wi = true → metB t told = true → ∃ j r, j < k ∧ rows[j]? = some r ∧ metB t r.2 = true)
    ⟨⟨_, _, _, _, _, rfl⟩, Gr.refl tb, fun k _ h1 h2 => by omega⟩ (fun _ _ _ _ _ => trivial) ?_ ?_
  · rintro i x σ H2 H3 hi ⟨⟨o4, o5, o6, o7, o8, rfl⟩, g2, all⟩ ⟨rfl, rfl⟩
    have hk : start + i < rows.length := by omega
    obtain ⟨r, er⟩ : ∃ r, rows[start + i]? = some r := ⟨_, List.getElem?_eq_getElem hk⟩
    obtain ⟨pr, ewr, hpr⟩ := hR.at er
    have all' : ((∀ told, r = (asked, told) → ∀ t, topicB t = true → metB t wi = true → metB t told = true → ∃ j r, j < start + i ∧ rows[j]? = some r ∧ metB t r.2 = true)) → ∀ k told, start ≤ k → k < start + (i + 1) → rows[k]? = some (asked, told) → ∀ t, topicB t = true → metB t wi = true → metB t told = true → ∃ j r, j < k ∧ rows[j]? = some r ∧ metB t r.2 = true := by
      intro h k told h1 h2 h3
      by_cases e : k = start + i
      · subst e
        rw [er] at h3
        exact h told (Option.some.inj h3)
      · exact all k told h1 (by omega) h3
    have eix : atI ws ((start : Int) + (i : Int)) = some (V.ref pr) := by
      rw [show (start : Int) + (i : Int) = ((start + i : Nat) : Int) by omega]
      exact atI_nat ewr
    refine ⟨_, rfl, _, rfl, p, ws, _, V.ref pr, rfl, rfl, SqL.of (g2.lst hp), eix, pr, _, rfl, SqT.of (g2.tup hpr), rfl, _, _, rfl, _, _, rfl, rfl, ?_⟩
    refine ⟨_, rfl, _, rfl, rfl, _, rfl, ?_⟩
    have hrw := hw r (List.mem_of_getElem? er)
    refine ite2 (fun ha => ?_) (fun ha => ?_)
    · have ha : r.1 = asked := V.str.inj (of_decide_eq_true ha)
      refine ⟨_, rfl, _, rfl, wi, r.2, rfl, hwi, hrw, g2.tabs, fun H4 g4 => ?_⟩
      have ci := comOf_is hwi hrw
      have g24 := g2.trans g4
      cases ec : comOf wi r.2 with
      | none =>
        rw [ec] at ci
        exact ⟨_, rfl, rfl, _, rfl, iteF ⟨⟨_, _, _, _, _, rfl⟩, g24, all' fun told e t ht hm hmt => by
          rw [e] at ci
          exact absurd hmt (fun z => ci t ht hm z)⟩⟩
      | some z =>
        rw [ec] at ci
        obtain ⟨hz, mz⟩ := ci
        refine ⟨_, rfl, rfl, _, rfl, iteT ⟨_, rfl, _, rfl, _, rfl, _, rfl, p, ws, rfl, SqL.of (g24.lst hp), fun p1 hp1 => ?_⟩⟩
        have ek : cutV ws none (some ((start : Int) + (i : Int))) = ws.take (start + i) := by
          rw [show (start : Int) + (i : Int) = ((start + i : Nat) : Int) by omega]
          exact cut_take2 ws (start + i)
        have g5 := Gr.new g4.tabs hp1 (.lst (ws.take (start + i)))
        have ep1 : (upd H4 p1 (.lst (cutV ws none (some ((start : Int) + (i : Int)))))) p1 = some (.lst (ws.take (start + i))) := by rw [ek]; exact upd_same
        rw [← ek] at g5
        refine ⟨p1, rfl, ⟨_, SqL.of ep1⟩, fun D hD => ?_⟩
        have tl : (ws.take (start + i)).length = (rows.take (start + i)).length := by rw [List.length_take, List.length_take, hlen]
        have wk : Walk (Itl K p1) (rows.take (start + i)).length (fun H => SqL K H p1 (ws.take (start + i))) (YAt (ws.take (start + i))) := by
          have := walk_list (K := K) (a := p1) (xs := ws.take (start + i))
          rwa [tl] at this
        have g25 := g24.trans g5
        refine lc_gr (T := T) (xs := rows.take (start + i)) wk (fun r => V.str r.2) g5.tabs hD (by rw [List.length_take]; exact Nat.le_trans (Nat.min_le_right _ _) (Nat.le_trans hn (by decide))) (fun H6 g6 => SqL.of (g6.lst ep1)) (fun j r2 y H6 H7 ej g6 yy Ok No hOk => ?_) fun H6 g6 eD => ?_
        · obtain ⟨rfl, ey⟩ := yy
          obtain ⟨pp, ep, hpp⟩ := (hR.take (start + i)).at ej
          rw [ep] at ey
          obtain rfl : V.ref pp = y := Option.some.inj ey
          exact ⟨pp, _, rfl, SqT.of ((g25.trans g6).tup hpp), rfl, _, _, rfl, _, _, rfl, rfl, rfl, lx_yes ⟨_, rfl, hOk _ (Gr.refl g6.tabs)⟩⟩
        · have eD2 : H6 D = some (.lst (((rows.take (start + i)).map (·.2)).map V.str)) := by rw [eD, List.map_map]; rfl
          have ga := g25.trans g6
          have memT : ∀ r2 : Row, r2 ∈ rows.take (start + i) ↔ ∃ j, j < start + i ∧ rows[j]? = some r2 := fun r2 => by
            rw [List.mem_iff_getElem?]
            constructor
            · rintro ⟨j, e⟩
              rw [List.getElem?_take] at e
              split at e
              · exact ⟨j, by assumption, e⟩
              · cases e
            · rintro ⟨j, h, e⟩
              exact ⟨j, by rw [List.getElem?_take_of_lt h]; exact e⟩
          refine ⟨z, D, (rows.take (start + i)).map (·.2), rfl, hz, eD2, fun o ho => ?_, by rw [List.length_map, List.length_take]; omega, g6.tabs, fun H7 t g7 ht hm hno => ?_, fun H7 g7 hno => ?_⟩
          · obtain ⟨r2, hr2, rfl⟩ := List.mem_map.mp ho
            exact hw r2 (List.take_subset _ _ hr2)
          · obtain ⟨mw, mr⟩ := (mz t ht).mp hm
            refine ⟨_, rfl, rfl, _, rfl, iteT ⟨_, rfl, q1 _ t (ga.trans g7) ht mw ⟨start + i, r.2, by omega, by rw [er, ← ha], mr, fun j r2 hj e2 => hno r2.2 (List.mem_map.mpr ⟨r2, (memT r2).mpr ⟨j, hj, e2⟩, rfl⟩)⟩⟩⟩
          · refine ⟨_, rfl, rfl, _, rfl, iteF ⟨⟨_, _, _, _, _, rfl⟩, ga.trans g7, all' fun told e t ht hm hmt => ?_⟩⟩
            obtain ⟨o, ho, hmo⟩ := hno t ht ((mz t ht).mpr ⟨hm, by rw [e]; exact hmt⟩)
            obtain ⟨r2, hr2, rfl⟩ := List.mem_map.mp ho
            obtain ⟨j, hj, e2⟩ := (memT r2).mp hr2
            exact ⟨j, r2, hj, e2, hmo⟩
    · have ha : ¬ r.1 = asked := fun z => ha (by rw [z]; simp)
      exact ⟨_, rfl, rfl, _, rfl, iteF ⟨⟨_, _, _, _, _, rfl⟩, g2, all' fun told e => absurd (by rw [e]) ha⟩⟩
  · rintro σ H2 ⟨⟨o4, o5, o6, o7, o8, rfl⟩, g2, all⟩
    refine q2 H2 g2 fun t ht hm hT => ?_
    obtain ⟨k, told, h1, h2, h3, h4⟩ := hT
    have hk : k < rows.length := by
      rcases Nat.lt_or_ge k rows.length with z | z
      · exact z
      · rw [List.getElem?_eq_none z] at h2; cases h2
    obtain ⟨j, r, hj, er, hmr⟩ := all k told h1 (by omega) h2 t ht hm h3
    rw [h4 j r hj er] at hmr
    cases hmr
end
end Bk

set_option Elab.async false
set_option linter.all false
set_option maxRecDepth 100000
set_option maxHeartbeats 4000000
namespace Bk
open PySem PySem.Spec PyProof.Rows L2
abbrev s_is_let : Stmt := top 31
/-! ### what is let -/
/-- whether a topic is let: by the first row that it meets -/
def lettB (rows : List Row) (t : Str) : Bool := match rows.find? (fun r => metB t r.2) with
  | some r => decide (r.1 = "let")
  | none => false
theorem rows_last (rs : List Rule3) {deed : Str} : (("bar", "#") : Row) ∈ rowsOf rs deed := by
  refine List.mem_map.mpr ⟨lastRule, List.mem_filter.mpr ⟨by simp, ?_⟩, rfl⟩
  unfold forDeed inV
  simp [eqV]
theorem rows_find (rs : List Rule3) (deed t : Str) : ∃ r, (rowsOf rs deed).find? (fun r => metB t r.2) = some r := by
  cases e : (rowsOf rs deed).find? (fun r => metB t r.2) with
  | some r => exact ⟨r, rfl⟩
  | none =>
    have := List.find?_eq_none.mp e _ (rows_last rs (deed := deed))
    exact absurd (metB_hash t) this
theorem hash_wish : wishB "#" = true := by
  have e : stepsOf "#" = [("#" : Str)] := by decide +kernel
  unfold wishB stemL
  rw [e]
  decide +kernel
theorem rows_good {rs : List Rule3} (h : Good rs) (deed : Str) : (∀ r ∈ rowsOf rs deed, wishB r.2 = true) ∧ (rowsOf rs deed).length ≤ 13 := by
  constructor
  · intro r hr
    obtain ⟨x, hx, rfl⟩ := List.mem_map.mp hr
    rcases List.mem_append.mp (List.mem_filter.mp hx).1 with h2 | h2
    · exact (h.r x h2).z
    · rw [List.mem_singleton.mp h2]; exact hash_wish
  · have hl := h.le
    refine Nat.le_trans (by unfold rowsOf; rw [List.length_map]; exact List.length_filter_le _ _) ?_
    rw [List.length_append, List.length_singleton]
    omega
def spIsLet (T : Tbs) : Sp := fun vs H Q _ => ∃ (v : V) (rs : List Rule3) (deed t : Str), vs = [v, .str deed, .str t] ∧ Da H v (rightsOf rs) ∧ Good rs ∧ deed ∈ deeds2 ∧ topicB t = true ∧ LamX.Tabs T H ∧ ∀ H', Gr T H H' → Q (.bl (lettB (rowsOf rs deed) t)) H'
section
variable {P : Program} {w : World} {K : PySem.W.Frag} {mg : Str → Option Value} {base : Heap} {T : Tbs}
abbrev ilN : List Str := ["rights", "deed", "topic", "word", "wish"]
theorem sc_is_let : FnScope ilN ["rights", "deed", "topic"] (defScope s_is_let) := ⟨rfl, rfl, rfl, by decide +kernel, rfl, by decide +kernel, by decide +kernel⟩
theorem has_is_let (F : At K mg "is_let" s_is_let) (HR : Has P w K mg base (L2.CX P w) 8 "check_rights" ["rights"] (spCkD T)) (HD : Has P w K mg base (L2.CX P w) 1 "check_deed" ["deed"] (spCkDeed T)) {C : Addr} (HT : Has P w K mg base (L2.CX P w) 5 "check_topic" ["topic"] (spCk K T topicV C))
    (HF : Has P w K mg base CX0 1 "rows_for" ["rights", "deed"] (spRows T)) (HM : Has P w K mg base CX0 3 "is_met" ["topic", "wish"] (spMet K T)) : Has P w K mg base (L2.CX P w) 9 "is_let" ["rights", "deed", "topic"] (spIsLet T) := by
  refine F.ok sc_is_let (fun _ _ _ _ _ _ us hl => match us, hl with | [_, _, _], _ => rfl) (fun vs H Q E h => ?_) fun A outer s H vs Q E hr h => ?_
  · obtain ⟨_, _, _, _, rfl, _⟩ := h
    rfl
  obtain ⟨v, rs, deed, t, rfl, hd, hg, hdd, ht, tb, q⟩ := h
  refine ⟨_, pss_cons (ps_expr (Has.call HR hr (passes_call (takes_of rfl rfl rfl rfl) (fun _ _ _ _ h => h)) (pa_cons (pv 0) pa_nil)))
    (pss_cons (ps_expr (Has.call HD (hr.mono (by decide)) (passes_call (takes_of rfl rfl rfl rfl) (fun _ _ _ _ h => h)) (pa_cons (pv 1) pa_nil)))
    (pss_cons (ps_expr (Has.call HT (hr.mono (by decide)) (passes_call (takes_of rfl rfl rfl rfl) (fun _ _ _ _ h => h)) (pa_cons (pv 2) pa_nil)))
    (pss_one (ps_ret (pe_cmpR op_eq (pe_ix ix_list (pe_lc (own := [("word", 3), ("wish", 4)]) rfl sc_is_let.nd (pi_list (Has.call HF (hr.mono (by decide)) pass0 (pa_cons (pv 0) (pa_cons (pv 1) pa_nil))))
        (blkOk_by (own := [("word", 3), ("wish", 4)]) (N := ilN) (sc := defScope s_is_let) (by decide +kernel))
        (fun _ _ _ _ _ => tup_g (K := K) (n := 2) rfl rfl (pgs_cons (pg_name (i := 3) sc_is_let.nd rfl (Or.inl rfl) (Or.inr rfl)) (pgs_cons (pg_name (i := 4) sc_is_let.nd rfl (Or.inl rfl) (Or.inr rfl)) pgs_nil)))
        (fun _ _ _ _ _ => pts_one (pt_val (Has.call HM (hr.mono (by decide)) pass0 (pa_cons (pv 2) (pa_cons (pv 4) pa_nil)))))
        (fun _ _ _ _ _ => pv 3)) pe_int (fun _ _ => rfl)) pe_str (nomark _)))))), ?_⟩
  refine ⟨v, rfl, v, rs, rfl, hd, hg, tb, fun H1 g1 => ?_⟩
  refine ⟨_, rfl, deed, rfl, hdd, ?_⟩
  refine ⟨_, rfl, .str t, rfl, .inl ⟨t, rfl, Nat.le_trans (topic_len ht) (by decide)⟩, g1.tabs, fun _ H2 g2 => ?_, fun z => absurd (z.symm.trans ht) (by decide)⟩
  have g12 := g1.trans g2
  refine ⟨_, rfl, _, rfl, v, rs, deed, rfl, Da.gr g12 _ _ hd, hg, g2.tabs, fun H3 p ws g3 ep hR => ?_⟩
  have g13 := g12.trans g3
  obtain ⟨rows, erows⟩ : ∃ rows, rows = rowsOf rs deed := ⟨_, rfl⟩
  have rg := rows_good hg deed
  obtain ⟨r0, hf⟩ := rows_find rs deed t
  rw [← erows] at hR rg hf q
  refine ⟨p, rfl, ⟨_, SqL.of ep⟩, fun D hD => ?_⟩
  have wk : Walk (Itl K p) rows.length (fun H => SqL K H p ws) (YAt ws) := by
    have := walk_list (K := K) (a := p) (xs := ws)
    rwa [hR.len] at this
  refine lc_it wk (fun i H' => Gr T H3 H' ∧ H' D = some (.lst ((((rows.take i).filter fun r => metB t r.2).map (·.1)).map V.str))) ⟨Gr.new g3.tabs hD _, upd_same⟩ (fun i H' _ k => SqL.of (k.1.lst ep)) (fun i x H4 H5 hi ⟨g4, eD⟩ y => ?_) fun H4 ⟨g4, eD⟩ => ?_
  · obtain ⟨rfl, ex⟩ := y
    obtain ⟨r, er⟩ : ∃ r, rows[i]? = some r := ⟨_, List.getElem?_eq_getElem hi⟩
    obtain ⟨pr, epr, hpr⟩ := hR.at er
    rw [epr] at ex
    obtain rfl : V.ref pr = x := Option.some.inj ex
    have tk : rows.take (i + 1) = rows.take i ++ [r] := by rw [List.take_add_one, er]; rfl
    refine ⟨pr, _, rfl, SqT.of (g4.tup hpr), rfl, _, _, rfl, _, _, rfl, rfl, rfl, ?_⟩
    refine ⟨_, rfl, _, rfl, t, r.2, rfl, Nat.le_trans (topic_len ht) (by decide), Nat.le_trans (wish_len (rg.1 r (List.mem_of_getElem? er))) (by decide), g4.tabs, fun H6 g6 => ⟨_, rfl, ?_⟩⟩
    have eD6 := g6.lst eD
    cases em : metB t r.2 with
    | false =>
      refine iteF ⟨g4.trans g6, ?_⟩
      rw [tk, List.filter_append, List.filter_cons_of_neg (by rw [em]; decide), List.filter_nil, List.append_nil]
      exact eD6
    | true =>
      refine iteT ⟨_, rfl, _, eD6, ?_, (g4.trans g6).own1 hD eD6, ?_⟩
      · rw [List.length_map, List.length_map]
        exact Nat.lt_of_le_of_lt (Nat.le_trans (List.length_filter_le _ _) (Nat.le_trans (List.length_take_le _ _) (Nat.le_trans (Nat.le_of_lt hi) rg.2))) (by decide)
      · rw [tk, List.filter_append, List.filter_cons_of_pos (p := fun r : Row => metB t r.2) em, List.filter_nil, List.map_append, List.map_append]
        exact upd_same
  · rw [List.take_length] at eD
    have e0 : atI (((rows.filter fun r => metB t r.2).map (·.1)).map V.str) 0 = some (.str r0.1) := by
      refine atI_nat (j := 0) ?_
      have : (rows.filter fun r => metB t r.2)[0]? = some r0 := by
        rw [← List.head?_eq_getElem?, List.head?_filter]
        exact hf
      rw [List.getElem?_map, List.getElem?_map, this]
      rfl
    refine ⟨D, _, 0, _, rfl, rfl, SqL.of eD, e0, rfl, ?_⟩
    have qq := q H4 (g13.trans g4)
    unfold lettB at qq
    rw [hf] at qq
    have : decide (V.str r0.1 = V.str "let") = decide (r0.1 = "let") := by
      by_cases c : r0.1 = "let"
      · rw [c]; simp
      · rw [decide_eq_false c, decide_eq_false (fun z => c (V.str.inj z))]
    show Q (.bl (decide (V.str r0.1 = V.str "let"))) H4
    rw [this]
    exact qq
end
end Bk

set_option Elab.async false
set_option linter.all false
set_option maxRecDepth 100000
set_option maxHeartbeats 4000000
namespace Bk
open PySem PySem.Spec PyProof.Rows L2
def spCkFor (T : Tbs) : Sp := fun vs H Q _ => ∃ (v : V) (rs : List Rule3) (deed wi : Str), vs = [v, .str deed, .str wi] ∧ Da H v (rightsOf rs) ∧ Good rs ∧ deed ∈ deeds2 ∧ wishB wi = true ∧ LamX.Tabs T H ∧ ∀ H', Gr T H H' → Q .non H'
/-- a topic that meets a wish and is told by a word, or None -/
def TellsT (T : Tbs) (H : Hp) (Q : VK) (rows : List Row) (word wi : Str) : Prop :=
  (∀ H' t, Gr T H H' → topicB t = true → metB t wi = true → Told rows 0 word t → Q (.str t) H') ∧ (∀ H', Gr T H H' → (∀ t, topicB t = true → metB t wi = true → ¬ Told rows 0 word t) → Q .non H')
def spTopicFor (T : Tbs) (word : Str) : Sp := fun vs H Q _ => ∃ (v : V) (rs : List Rule3) (deed wi : Str), vs = [v, .str deed, .str wi] ∧ Da H v (rightsOf rs) ∧ Good rs ∧ deed ∈ deeds2 ∧ wishB wi = true ∧ LamX.Tabs T H ∧ TellsT T H Q (rowsOf rs deed) word wi
def NoneTold (rows : List Row) (word wi : Str) : Prop := ∀ t, topicB t = true → metB t wi = true → ¬ Told rows 0 word t
def OneTold (rows : List Row) (word wi : Str) : Prop := ∃ t, topicB t = true ∧ metB t wi = true ∧ Told rows 0 word t
def spPart (T : Tbs) : Sp := fun vs H Q _ => ∃ (v : V) (rs : List Rule3) (deed wi : Str), vs = [v, .str deed, .str wi] ∧ Da H v (rightsOf rs) ∧ Good rs ∧ deed ∈ deeds2 ∧ wishB wi = true ∧ LamX.Tabs T H ∧
  ∀ H', Gr T H H' → (NoneTold (rowsOf rs deed) "let" wi → Q (.str "none") H') ∧ (OneTold (rowsOf rs deed) "let" wi → NoneTold (rowsOf rs deed) "bar" wi → Q (.str "all") H') ∧ (OneTold (rowsOf rs deed) "let" wi → OneTold (rowsOf rs deed) "bar" wi → Q (.str "some") H')
section
variable {P : Program} {w : World} {K : PySem.W.Frag} {mg : Str → Option Value} {base : Heap} {T : Tbs}
end
end Bk

set_option Elab.async false
set_option linter.all false
set_option maxRecDepth 100000
set_option maxHeartbeats 4000000
namespace Bk
open PySem PySem.Spec PyProof.Rows L2
/-! ### the law's own words: the first rule that is met; names that stand for all others -/
theorem find_iff {α : Type} (f : α → Bool) : ∀ (l : List α) (a : α), l.find? f = some a ↔ ∃ i : Nat, l[i]? = some a ∧ f a = true ∧ ∀ j b, j < i → l[j]? = some b → f b = false
  | [], a => by simp
  | x :: r, a => by
    have ih := find_iff f r a
    cases e : f x with
    | true =>
      rw [List.find?_cons_of_pos e]
      constructor
      · intro h
        obtain rfl := Option.some.inj h
        exact ⟨0, rfl, e, fun j b hj => absurd hj (Nat.not_lt_zero j)⟩
      · rintro ⟨i, h1, h2, h3⟩
        cases i with
        | zero => simpa using h1
        | succ i =>
          have := h3 0 x (Nat.succ_pos i) rfl
          rw [e] at this; cases this
    | false =>
      rw [List.find?_cons_of_neg (by rw [e]; decide), ih]
      constructor
      · rintro ⟨i, h1, h2, h3⟩
        refine ⟨i + 1, by simpa using h1, h2, fun j b hj hb => ?_⟩
        cases j with
        | zero =>
          obtain rfl : x = b := by simpa using hb
          exact e
        | succ j => exact h3 j b (by omega) (by simpa using hb)
      · rintro ⟨i, h1, h2, h3⟩
        cases i with
        | zero =>
          obtain rfl : x = a := by simpa using h1
          rw [e] at h2; cases h2
        | succ i => exact ⟨i, by simpa using h1, h2, fun j b hj hb => h3 (j + 1) b (by omega) (by simpa using hb)⟩
theorem told_find (rows : List Row) (w t : Str) : Told rows 0 w t ↔ ∃ told, rows.find? (fun r => metB t r.2) = some (w, told) := by
  constructor
  · rintro ⟨i, told, _, h1, h2, h3⟩
    exact ⟨told, (find_iff _ _ _).mpr ⟨i, h1, h2, fun j b hj hb => h3 j b hj hb⟩⟩
  · rintro ⟨told, h⟩
    obtain ⟨i, h1, h2, h3⟩ := (find_iff _ _ _).mp h
    exact ⟨i, told, Nat.zero_le _, h1, h2, fun j r hj hr => h3 j r hj hr⟩
theorem rows_word {rs : List Rule3} (h : Good rs) {deed : Str} {r : Row} (hr : r ∈ rowsOf rs deed) : r.1 ∈ words2 := by
  obtain ⟨x, hx, rfl⟩ := List.mem_map.mp hr
  rcases List.mem_append.mp (List.mem_filter.mp hx).1 with h2 | h2
  · exact (h.r x h2).w
  · rw [List.mem_singleton.mp h2]; decide +kernel
/-- told by "let", just if it is let; by "bar", just if it is not -/
theorem told_let {rs : List Rule3} (deed t : Str) : Told (rowsOf rs deed) 0 "let" t ↔ lettB (rowsOf rs deed) t = true := by
  rw [told_find]
  unfold lettB
  constructor
  · rintro ⟨told, e⟩
    rw [e]
    exact decide_eq_true rfl
  · intro h
    cases e : (rowsOf rs deed).find? (fun r => metB t r.2) with
    | none => rw [e] at h; cases h
    | some r =>
      rw [e] at h
      have : r.1 = "let" := of_decide_eq_true h
      exact ⟨r.2, by rw [← this]⟩
theorem told_bar {rs : List Rule3} (hg : Good rs) (deed t : Str) : Told (rowsOf rs deed) 0 "bar" t ↔ lettB (rowsOf rs deed) t = false := by
  rw [told_find]
  unfold lettB
  constructor
  · rintro ⟨told, e⟩
    rw [e]
    exact decide_eq_false (show ¬ (("bar" : Str) = "let") by decide +kernel)
  · intro h
    obtain ⟨r, e⟩ := rows_find rs deed t
    rw [e] at h
    have hn : ¬ r.1 = "let" := of_decide_eq_false h
    have hw := rows_word hg (List.mem_of_find?_eq_some e)
    have : r.1 = "bar" := by
      rcases List.mem_cons.mp hw with h | h
      · exact absurd h hn
      · exact List.mem_singleton.mp h
    exact ⟨r.2, by rw [e, ← this]⟩
/-- the law's own: the first rule for the deed that is met -/
def lawLets (rs : List Rule3) (deed t : Str) : Bool := match rs.find? (fun r => forDeed deed r && metB t r.2.2) with
  | some r => decide (r.1 = "let")
  | none => false
theorem lets_eq (deed t : Str) : ∀ rs : List Rule3, lettB (rowsOf rs deed) t = lawLets rs deed t
  | [] => by
    have e : rowsOf [] deed = [((("bar" : Str), ("#" : Str)) : Row)] := by
      have : forDeed deed lastRule = true := by unfold forDeed inV; simp [eqV]
      unfold rowsOf
      rw [List.nil_append, List.filter_cons_of_pos this]
      rfl
    rw [e]
    unfold lettB lawLets
    rw [List.find?_cons_of_pos (p := fun r : Row => metB t r.2) (metB_hash t)]
    exact decide_eq_false (by decide +kernel)
  | r :: rs => by
    have ih := lets_eq deed t rs
    unfold lettB lawLets at ih ⊢
    unfold rowsOf at ih ⊢
    rw [List.cons_append]
    cases ef : forDeed deed r with
    | false =>
      rw [List.filter_cons_of_neg (by rw [ef]; decide), List.find?_cons_of_neg (by rw [ef]; simp)]
      exact ih
    | true =>
      rw [List.filter_cons_of_pos ef, List.map_cons]
      cases em : metB t r.2.2 with
      | true => rw [List.find?_cons_of_pos (by exact em), List.find?_cons_of_pos (by rw [ef, em]; rfl)]
      | false =>
        rw [List.find?_cons_of_neg (by show ¬ metB t r.2.2 = true; rw [em]; decide), List.find?_cons_of_neg (by rw [ef, em]; decide)]
        exact ih
/-! ### zz stands for all other names -/
abbrev names3 : List Str := ["a", "b", "zz"]
def zzS (s : Str) : Str := if s = "a" then "a" else if s = "b" then "b" else "zz"
theorem zzS_mem (s : Str) : zzS s ∈ names3 := by
  unfold zzS
  split
  · decide +kernel
  · split <;> decide +kernel
theorem names3_name : ∀ s ∈ names3, nameB s = true := by decide +kernel
theorem zzS_eq {a s : Str} (ha : a = "a" ∨ a = "b" ∨ a = "+") (hn : nameB s = true) : (a = "+" ∨ a = s) ↔ (a = "+" ∨ a = zzS s) := by
  unfold zzS
  rcases ha with rfl | rfl | rfl
  · constructor
    · rintro (h | h)
      · exact .inl h
      · rw [if_pos h.symm]; exact .inr rfl
    · rintro (h | h)
      · exact .inl h
      · by_cases c : s = "a"
        · exact .inr c.symm
        · rw [if_neg c] at h
          split at h
          · exact absurd h (by decide +kernel)
          · exact absurd h (by decide +kernel)
  · constructor
    · rintro (h | h)
      · exact .inl h
      · rw [← h, if_neg (by decide +kernel), if_pos rfl]; exact .inr rfl
    · rintro (h | h)
      · exact .inl h
      · by_cases c : s = "a"
        · rw [if_pos c] at h; exact absurd h (by decide +kernel)
        · rw [if_neg c] at h
          by_cases d : s = "b"
          · exact .inr d.symm
          · rw [if_neg d] at h; exact absurd h (by decide +kernel)
  · exact ⟨fun _ => .inl rfl, fun _ => .inl rfl⟩
/-- a wish whose names are a and b -/
def AbW (w : Str) : Prop := ∀ s ∈ stepsOf w, s = "a" ∨ s = "b" ∨ s = "+" ∨ s = "#"
def zzT (t : Str) : Str := joinS ((stepsOf t).map zzS)
theorem zzT_topic {t : Str} (h : topicB t = true) : topicB (zzT t) = true ∧ stepsOf (zzT t) = (stepsOf t).map zzS := by
  obtain ⟨h1, h2, h3⟩ := topic_steps h
  exact topic_of (st := (stepsOf t).map zzS) (fun z => by rw [List.map_eq_nil_iff] at z; exact steps_ne t z) (by rw [List.length_map]; exact h2) fun s hs => by
    obtain ⟨x, _, rfl⟩ := List.mem_map.mp hs
    exact names3_name _ (zzS_mem x)
theorem zz_met {t w : Str} (ht : topicB t = true) (hw : wishB w = true) (ha : AbW w) : metB (zzT t) w = metB t w := by
  obtain ⟨h1, h2, h3⟩ := topic_steps ht
  have key : metB (zzT t) w = true ↔ metB t w = true := by
    unfold metB
    rw [(zzT_topic ht).2, met_pat, met_pat, List.length_map]
    have cv : ∀ l, patL (stepsOf w) (stepsOf t).length = some l → (Cov l ((stepsOf t).map zzS) ↔ Cov l (stepsOf t)) := by
      intro l el
      have hl : ∀ a ∈ l, a = "a" ∨ a = "b" ∨ a = "+" := fun a m => by
        have hb := (pat_step hw el).2 a m
        rcases pat_mem el m with q | q
        · rcases ha a q with k | k | k | k
          · exact .inl k
          · exact .inr (.inl k)
          · exact .inr (.inr k)
          · exact absurd k (stepB_not hb)
        · exact .inr (.inr q)
      unfold Cov
      rw [List.length_map]
      constructor
      · rintro ⟨c1, c2⟩
        exact ⟨c1, fun i a s ea es => (zzS_eq (hl a (List.mem_of_getElem? ea)) (h3 s (List.mem_of_getElem? es))).mpr (c2 i a _ ea (by rw [List.getElem?_map, es]; rfl))⟩
      · rintro ⟨c1, c2⟩
        refine ⟨c1, fun i a s ea es => ?_⟩
        rw [List.getElem?_map] at es
        cases e : (stepsOf t)[i]? with
        | none => rw [e] at es; cases es
        | some x =>
          rw [e] at es
          obtain rfl : zzS x = s := Option.some.inj es
          exact (zzS_eq (hl a (List.mem_of_getElem? ea)) (h3 x (List.mem_of_getElem? e))).mp (c2 i a x ea e)
    constructor
    · rintro ⟨l, el, c⟩; exact ⟨l, el, (cv l el).mp c⟩
    · rintro ⟨l, el, c⟩; exact ⟨l, el, (cv l el).mpr c⟩
  cases e : metB t w with
  | true => exact key.mpr e
  | false =>
    cases e2 : metB (zzT t) w with
    | false => rfl
    | true => rw [key.mp e2] at e; cases e
theorem zz_lets {t deed : Str} (ht : topicB t = true) : ∀ {rs : List Rule3}, Good rs → (∀ r ∈ rs, AbW r.2.2) → lawLets rs deed (zzT t) = lawLets rs deed t := by
  intro rs hg ha
  unfold lawLets
  have : ∀ l : List Rule3, (∀ r ∈ l, wishB r.2.2 = true ∧ AbW r.2.2) → l.find? (fun r => forDeed deed r && metB (zzT t) r.2.2) = l.find? (fun r => forDeed deed r && metB t r.2.2) := by
    intro l
    induction l with
    | nil => intro _; rfl
    | cons r l ih =>
      intro h
      have h1 := h r List.mem_cons_self
      rw [List.find?_cons, List.find?_cons, zz_met ht h1.1 h1.2, ih fun x hx => h x (List.mem_cons_of_mem _ hx)]
  rw [this rs fun r hr => ⟨(hg.r r hr).z, ha r hr⟩]
end Bk

set_option Elab.async false
set_option linter.all false
set_option maxRecDepth 100000
set_option maxHeartbeats 4000000
namespace Bk
open PySem PySem.Spec PyProof.Rows L2
abbrev s_lets : Stmt := top 46
def spTruly (T : Tbs) : Sp := fun vs H Q _ => ∃ a b : Bool, vs = [.bl a, .bl b] ∧ Q (.bl (decide (a = b))) H
def spLets (T : Tbs) : Sp := fun vs H Q _ => ∃ (v : V) (rs : List Rule3) (deed t : Str), vs = [v, .str deed, .str t] ∧ Da H v (rightsOf rs) ∧ Good rs ∧ topicB t = true ∧ LamX.Tabs T H ∧ ∀ H', Gr T H H' → Q (.bl (lawLets rs deed t)) H'
theorem topic_ok {t : Str} (h : topicB t = true) : OkS t := by
  obtain ⟨h1, h2, h3⟩ := topic_steps h
  have := join_ok (qs := stepsOf t) fun q hq => stepB_H (by unfold stepB; rw [h3 q hq, Bool.or_true])
  rwa [join_steps] at this
section
variable {P : Program} {w : World} {K : PySem.W.Frag} {mg : Str → Option Value} {base : Heap} {T : Tbs}
theorem sc_lmet : FnScope ["_law_topic", "_law_wish_here", "_law_steps", "_law_asked"] ["_law_topic", "_law_wish_here"] (defScope s_lmet) := ⟨rfl, rfl, rfl, by decide +kernel, rfl, by decide +kernel, by decide +kernel⟩
theorem has_lmet (F : At K mg "_law_met" s_lmet) : Has P w K mg base CX0 1 "_law_met" ["_law_topic", "_law_wish_here"] (spLawMet T) := by
  refine F.ok0 sc_lmet (fun _ _ _ _ _ _ us hl => match us, hl with | [_, _], _ => rfl) (fun vs H Q E h => ?_) fun A outer s H vs Q E hr h => ?_
  · obtain ⟨x, y, rfl, _⟩ := h
    rfl
  obtain ⟨t, wi, rfl, ht, hw, ot, ow, tb, q⟩ := h
  refine ⟨_, pss_cons (ps_par (i := 2) (j := 3) rfl sc_lmet.nd rfl rfl (by decide) rfl rfl (pa_cons (pe_split (pv 0) pe_str) (pa_cons (pe_split (pv 1) pe_str) pa_nil)) (by rfl))
    (pss_cons (ps_while PassesOwn.never (pw_and (pt_cmpR (ne_strs hr (K := K) rfl) (pv 3) (pe_lst pa_nil) (nomark _)) (pw_and1 (pt_cmpR (ne_strs hr (K := K) rfl) (pv 3) (pe_lst (pa_cons pe_str pa_nil)) (nomark _)))).pt
      (pss_cons (ps_if (pw_or (pt_cmpR (eq_strs hr (K := K) rfl) (pv 2) (pe_lst pa_nil) (nomark _)) (pw_or1 (pt_cmpR (notIn_seq (K := K) rfl) (pe_ix ix_list (pv 3) pe_int (fun _ _ => rfl)) (pe_tup (pa_cons pe_str (pa_cons (pe_ix ix_list (pv 2) pe_int (fun _ _ => rfl)) pa_nil))) rfl))).pt (pss_one (ps_ret pe_bl)) pss_nil)
      (pss_one (ps_par (i := 2) (j := 3) rfl sc_lmet.nd rfl rfl (by decide) rfl rfl (pa_cons (pe_slice sl_list (pv 2) (po_some pe_int) po_none) (pa_cons (pe_slice sl_list (pv 3) (po_some pe_int) po_none) pa_nil)) (by rfl)))))
    (pss_one (ps_ret (pe_or (pe_cmpR (eq_strs hr (K := K) rfl) (pv 3) (pe_lst (pa_cons pe_str pa_nil)) (nomark _)) (pe_one (pe_cmpR (eq_strs hr (K := K) rfl) (pv 2) (pe_lst pa_nil) (nomark _))))))), ?_⟩
  refine ⟨_, rfl, ⟨t, rfl⟩, t, "/", rfl, rfl, rfl, two_more ht, fun p hp => ?_⟩
  refine ⟨_, rfl, ⟨wi, rfl⟩, wi, "/", rfl, rfl, rfl, two_more hw, fun p2 hp2 => ?_⟩
  refine ⟨_, _, rfl, ?_⟩
  have g1 : Gr T H (upd H p (.lst ((stepsOf t).map V.str))) := Gr.new tb hp _
  have g2 : Gr T _ (upd (upd H p (.lst ((stepsOf t).map V.str))) p2 (.lst ((stepsOf wi).map V.str))) := Gr.new g1.tabs hp2 _
  have fin : ∀ H' b, Gr T H H' → b = lawMet (stepsOf t) (stepsOf wi) → Q (.bl b) H' := fun H' b g e => by
    rw [e, metL_law]
    exact q H' g
  refine ⟨IvMet T t wi H,
    ⟨_, p, p2, stepsOf t, stepsOf wi, rfl, rfl, g1.trans g2, g2.lst upd_same, upd_same, fun s hs => steps_ok ot hs, fun s hs => steps_ok ow hs, rfl⟩, ?_⟩
  rintro m σ H1 ⟨pa, pb, st, wa, rfl, rfl, ga, ea, eb, oa, ob, el⟩
  refine ⟨_, rfl, Nat.zero_le _, fun p3 hp3 => ?_⟩
  have g3 := Gr.new ga.tabs hp3 (.lst [])
  refine ⟨pb, p3, wa, [], rfl, rfl, SqL.of (g3.lst eb), SqL.of upd_same, ob, fun s hs => by simp at hs, _, rfl, ?_⟩
  by_cases h0 : wa = []
  · show (if (if true = true then !decide (wa = []) else decide (wa = [])) = true then _ else _)
    rw [if_neg (by rw [h0]; decide)]
    refine ⟨_, rfl, (by decide), fun p4 hp4 => ?_⟩
    have g4 := Gr.new g3.tabs hp4 (.lst [V.str "#"])
    have g34 := g3.trans g4
    refine ⟨pb, p4, wa, hashL, rfl, rfl, SqL.of (g34.lst eb), SqL.of upd_same, ob, ok_hash, _, rfl, ?_⟩
    rw [if_neg (by rw [h0]; decide)]
    refine ⟨_, rfl, (by decide), fun p5 hp5 => ?_⟩
    have g5 := Gr.new g34.tabs hp5 (.lst [])
    have g35 := g34.trans g5
    refine ⟨pa, p5, st, [], rfl, rfl, SqL.of (g35.lst ea), SqL.of upd_same, oa, (fun s hs => by simp at hs), ?_⟩
    refine fin _ _ (ga.trans g35) ?_
    rw [← el, h0]
    show decide (st = []) = _
    cases st <;> rfl
  · show (if (if true = true then !decide (wa = []) else decide (wa = [])) = true then _ else _)
    rw [if_pos (by rw [decide_eq_false h0]; rfl)]
    refine ⟨_, rfl, (by decide), fun p4 hp4 => ?_⟩
    have g4 := Gr.new g3.tabs hp4 (.lst [V.str "#"])
    have g34 := g3.trans g4
    refine ⟨pb, p4, wa, hashL, rfl, rfl, SqL.of (g34.lst eb), SqL.of upd_same, ob, ok_hash, _, rfl, ?_⟩
    by_cases h1 : wa = hashL
    · show (if (if true = true then !decide (wa = hashL) else decide (wa = hashL)) = true then _ else _)
      rw [if_neg (by rw [decide_eq_true h1]; decide)]
      refine ⟨_, rfl, (by decide), fun p5 hp5 => ?_⟩
      have g5 := Gr.new g34.tabs hp5 (.lst [V.str "#"])
      have g35 := g34.trans g5
      refine ⟨pb, p5, wa, hashL, rfl, rfl, SqL.of (g35.lst eb), SqL.of upd_same, ob, ok_hash, _, rfl, ?_⟩
      rw [if_pos (by rw [decide_eq_true h1]; rfl)]
      refine fin _ _ (ga.trans g35) ?_
      rw [← el, h1]
      exact (lawMet_hash st).symm
    · show (if (if true = true then !decide (wa = hashL) else decide (wa = hashL)) = true then _ else _)
      rw [if_pos (by rw [decide_eq_false h1]; rfl)]
      obtain ⟨a, r, rfl⟩ : ∃ a r, wa = a :: r := by cases wa with | nil => exact absurd rfl h0 | cons a r => exact ⟨a, r, rfl⟩
      refine ⟨_, fun _ _ h => h, _, rfl, Nat.zero_le _, fun p5 hp5 => ?_⟩
      have g5 := Gr.new g34.tabs hp5 (.lst [])
      have g35 := g34.trans g5
      refine ⟨pa, p5, st, [], rfl, rfl, SqL.of (g35.lst ea), SqL.of upd_same, oa, (fun s hs => by simp at hs), _, rfl, ?_⟩
      cases st with
      | nil =>
        show (if true = true then _ else _)
        rw [if_pos rfl]
        refine fin _ _ (ga.trans g35) ?_
        rw [← el]
        exact (lawMet_out h1).symm
      | cons z st =>
        show (if false = true then _ else _)
        rw [if_neg (by decide)]
        refine ⟨_, rfl, pb, _, 0, .str a, rfl, rfl, SqL.of (g35.lst eb), atI_nat (j := 0) rfl, ?_⟩
        refine ⟨_, rfl, pa, _, 0, .str z, rfl, rfl, SqL.of (g35.lst ea), atI_nat (j := 0) rfl, ?_⟩
        refine ⟨(by show 2 ≤ sizeLine; decide), fun p6 hp6 => ?_⟩
        have g6 := Gr.new g35.tabs hp6 (.tup [V.str "+", V.str z])
        have g36 := g35.trans g6
        refine ⟨p6, [V.str "+", V.str z], rfl, .inr (SqT.of upd_same), rfl, rfl, _, rfl, ?_⟩
        show (if (if true = true then !inV (.str a) [.str "+", .str z] else inV (.str a) [.str "+", .str z]) = true then _ else _)
        by_cases hm : inV (.str a) [.str "+", .str z] = true
        · rw [if_neg (by rw [hm]; decide)]
          refine ⟨_, rfl, 1, rfl, pa, _, rfl, SqL.of (g36.lst ea), fun p7 hp7 => ?_⟩
          rw [cut_one]
          have g7 := Gr.new g36.tabs hp7 (.lst ((z :: st).map V.str |>.drop 1))
          have g37 := g36.trans g7
          refine ⟨_, rfl, 1, rfl, pb, _, rfl, SqL.of (g37.lst eb), fun p8 hp8 => ?_⟩
          rw [cut_one]
          have g8 := Gr.new g37.tabs hp8 (.lst ((a :: r).map V.str |>.drop 1))
          refine ⟨_, _, rfl, ?_⟩
          refine ⟨r.length, Nat.lt_succ_self _, p7, p8, st, r, rfl, rfl, ga.trans (g37.trans g8), g8.lst upd_same, upd_same, fun s hs => oa s (List.mem_cons_of_mem _ hs), fun s hs => ob s (List.mem_cons_of_mem _ hs), ?_⟩
          rw [← el, lawMet_turn h1, if_pos hm]
        · rw [if_pos (by rw [Bool.eq_false_iff.mpr hm]; rfl)]
          refine fin _ _ (ga.trans g36) ?_
          rw [← el, lawMet_turn h1, if_neg hm]
abbrev leN : List Str := ["_law_rights_here", "_law_deed", "_law_topic", "_law_word", "_law_own", "_law_wish_here"]
theorem sc_lets : FnScope leN ["_law_rights_here", "_law_deed", "_law_topic"] (defScope s_lets) := ⟨rfl, rfl, rfl, by decide +kernel, rfl, by decide +kernel, by decide +kernel⟩
theorem da_rule {H : Hp} {x : V} {r : Rule3} (d : Da H x (ruleOf r)) : ∃ p, x = .ref p ∧ H p = some (.tup [.str r.1, .str r.2.1, .str r.2.2]) := by
  cases d with
  | tup hp r3 =>
    refine ⟨_, rfl, ?_⟩
    rw [hp]
    cases r3 with
    | cons x1 r3 => cases r3 with
      | cons x2 r3 => cases r3 with
        | cons x3 r3 =>
          cases x1; cases x2; cases x3; cases r3
          rfl
theorem has_lets (F : At K mg "_law_lets" s_lets) (HM : Has P w K mg base CX0 1 "_law_met" ["_law_topic", "_law_wish_here"] (spLawMet T)) : Has P w K mg base CX0 2 "_law_lets" ["_law_rights_here", "_law_deed", "_law_topic"] (spLets T) := by
  refine F.ok0 sc_lets (fun _ _ _ _ _ _ us hl => match us, hl with | [_, _, _], _ => rfl) (fun vs H Q E h => ?_) fun A outer s H vs Q E hr h => ?_
  · obtain ⟨_, _, _, _, rfl, _⟩ := h
    rfl
  obtain ⟨v, rs, deed, t, rfl, hd, hg, ht, tb, q⟩ := h
  refine ⟨_, pss_cons (ps_for PassesOwn.never rfl (pi_tup (pv 0)) (tup_g (K := K) (n := 3) rfl rfl (pgs_cons (pg_name (i := 3) sc_lets.nd rfl (Or.inl rfl) (Or.inr rfl)) (pgs_cons (pg_name (i := 4) sc_lets.nd rfl (Or.inl rfl) (Or.inr rfl)) (pgs_cons (pg_name (i := 5) sc_lets.nd rfl (Or.inl rfl) (Or.inr rfl)) pgs_nil))))
      (pss_one (ps_if (PW.pt (pw_and (pt_cmpR (in_seq (K := K) rfl) (pv 4) (pe_tup (pa_cons (pv 1) (pa_cons pe_str pa_nil))) rfl) (pw_and1 (pt_val (Has.call HM hr pass0 (pa_cons (pv 2) (pa_cons (pv 5) pa_nil))))))) (pss_one (ps_ret (pe_cmpR op_eq (pv 3) pe_str (nomark _)))) pss_nil)))
    (pss_one (ps_ret pe_bl)), ?_⟩
  cases hd with
  | @tup a xs ds ha da =>
    have hl := da.len
    rw [List.length_map] at hl
    have wk : Walk (Itt K a) rs.length (fun H => SqT K H a xs) (YAt xs) := by
      have := walk_tup (K := K) (a := a) (xs := xs)
      rwa [hl] at this
    refine ⟨_, rfl, a, rfl, ⟨_, SqT.of ha⟩, for_it (n := rs.length) wk (fun i σ H' => (∃ o3 o4 o5, σ = [some (.ref a), some (.str deed), some (.str t), o3, o4, o5]) ∧ Gr T H H' ∧ ∀ j r, j < i → rs[j]? = some r → (forDeed deed r && metB t r.2.2) = false)
      ⟨⟨_, _, _, rfl⟩, Gr.refl tb, fun j r hj => absurd hj (Nat.not_lt_zero j)⟩ (fun i σ H' _ p => SqT.of (p.2.1.tup ha)) ?_ ?_⟩
    · rintro i x σ H1 H2 hi ⟨⟨o3, o4, o5, rfl⟩, g1, no⟩ ⟨rfl, ex⟩
      obtain ⟨r, er⟩ : ∃ r, rs[i]? = some r := ⟨_, List.getElem?_eq_getElem hi⟩
      obtain ⟨d, ed, dx⟩ := da.at ex
      rw [List.getElem?_map, er] at ed
      obtain rfl : ruleOf r = d := Option.some.inj ed
      obtain ⟨p, rfl, hp⟩ := da_rule dx
      have hz := (hg.r r (List.mem_of_getElem? er)).z
      have nx : (forDeed deed r && metB t r.2.2) = false → ∀ j r', j < i + 1 → rs[j]? = some r' → (forDeed deed r' && metB t r'.2.2) = false := fun h j r' hj er' => by
        rcases Nat.lt_or_ge j i with k | k
        · exact no j r' k er'
        · have : j = i := by omega
          subst this
          rw [er] at er'
          obtain rfl := Option.some.inj er'
          exact h
      refine ⟨p, _, rfl, SqT.of (g1.tup hp), rfl, _, _, rfl, _, _, rfl, _, _, rfl, rfl, ?_⟩
      refine ⟨_, rfl, _, rfl, (by show 2 ≤ sizeLine; decide), fun p5 hp5 => ?_⟩
      have g5 := Gr.new g1.tabs hp5 (.tup [V.str deed, V.str "both"])
      refine ⟨p5, _, rfl, .inr (SqT.of upd_same), rfl, rfl, _, rfl, ?_⟩
      cases ef : forDeed deed r with
      | false => exact ite2 (fun z => absurd (ef.symm.trans z) (by decide)) fun _ => iteF ⟨⟨_, _, _, rfl⟩, g1.trans g5, nx (by rw [ef]; rfl)⟩
      | true =>
        refine ite2 (fun _ => ?_) fun z => absurd ef z
        refine ⟨_, rfl, _, rfl, t, r.2.2, rfl, Nat.le_trans (topic_len ht) (by decide), Nat.le_trans (wish_len hz) (by decide), topic_ok ht, wish_ok hz, g5.tabs, fun H6 g6 => ⟨_, rfl, ?_⟩⟩
        have ga := g1.trans (g5.trans g6)
        cases em : metB t r.2.2 with
        | false => exact iteF ⟨⟨_, _, _, rfl⟩, ga, nx (by rw [em, Bool.and_false])⟩
        | true =>
          refine iteT ⟨_, rfl, rfl, ?_⟩
          have ff : rs.find? (fun r => forDeed deed r && metB t r.2.2) = some r := (find_iff _ _ _).mpr ⟨i, er, by rw [ef, em]; rfl, fun j b hj hb => no j b hj hb⟩
          have := q _ ga
          unfold lawLets at this
          rw [ff] at this
          have e2 : decide (V.str r.1 = V.str "let") = decide (r.1 = "let") := by
            by_cases c : r.1 = "let"
            · rw [c]; simp
            · rw [decide_eq_false c, decide_eq_false (fun z => c (V.str.inj z))]
          show Q (.bl (decide (V.str r.1 = V.str "let"))) H6
          rw [e2]
          exact this
    · rintro σ H1 ⟨⟨o3, o4, o5, rfl⟩, g1, no⟩
      have ff : rs.find? (fun r => forDeed deed r && metB t r.2.2) = none := by
        rw [List.find?_eq_none]
        intro r hr
        obtain ⟨j, hj⟩ := List.mem_iff_getElem?.mp hr
        have hjl : j < rs.length := by
          rcases Nat.lt_or_ge j rs.length with z | z
          · exact z
          · rw [List.getElem?_eq_none z] at hj; cases hj
        rw [no j r hjl hj]
        decide
      have := q _ g1
      unfold lawLets at this
      rw [ff] at this
      exact this
end
end Bk

set_option Elab.async false
set_option linter.all false
set_option maxRecDepth 100000
set_option maxHeartbeats 4000000
namespace Bk
open PySem PySem.Spec PyProof.Rows L2
abbrev s_ltopics : Stmt := top 43
/-! ### all topics of three names -/
def lineN : Nat → List (List Str)
  | 0 => [[]]
  | n + 1 => (lineN n).flatMap fun l => names3.map fun x => l ++ [x]
def foundN : Nat → List Str
  | 0 => []
  | n + 1 => foundN n ++ (lineN (n + 1)).map joinS
/-- tuples of texts -/
def TupsAt (H : Hp) : List V → List (List Str) → Prop
  | [], [] => True
  | v :: vs, l :: ls => (∃ p, v = .ref p ∧ H p = some (.tup (l.map V.str))) ∧ TupsAt H vs ls
  | _, _ => False
theorem TupsAt.gr {T : Tbs} {H H' : Hp} (g : Gr T H H') : ∀ {vs : List V} {rs : List (List Str)}, TupsAt H vs rs → TupsAt H' vs rs
  | [], [], _ => True.intro
  | v :: vs, r :: rs, ⟨⟨p, e, h⟩, k⟩ => ⟨⟨p, e, g.tup h⟩, TupsAt.gr g k⟩
theorem TupsAt.keep {H H' : Hp} (k : ∀ b zs, H b = some (.tup zs) → H' b = some (.tup zs)) : ∀ {vs : List V} {rs : List (List Str)}, TupsAt H vs rs → TupsAt H' vs rs
  | [], [], _ => True.intro
  | _ :: _, _ :: _, ⟨⟨p, e, h⟩, r⟩ => ⟨⟨p, e, k _ _ h⟩, TupsAt.keep k r⟩
theorem TupsAt.app {H : Hp} : ∀ {vs us : List V} {rs ss : List (List Str)}, TupsAt H vs rs → TupsAt H us ss → TupsAt H (vs ++ us) (rs ++ ss)
  | [], _, [], _, _, h => h
  | _ :: _, _, _ :: _, _, ⟨a, k⟩, h => ⟨a, TupsAt.app k h⟩
theorem TupsAt.len {H : Hp} : ∀ {vs : List V} {rs : List (List Str)}, TupsAt H vs rs → vs.length = rs.length
  | [], [], _ => rfl
  | _ :: _, _ :: _, ⟨_, k⟩ => by rw [List.length_cons, List.length_cons, TupsAt.len k]
theorem TupsAt.at {H : Hp} : ∀ {vs : List V} {rs : List (List Str)} {i : Nat} {r : List Str}, TupsAt H vs rs → rs[i]? = some r → ∃ p, vs[i]? = some (.ref p) ∧ H p = some (.tup (r.map V.str))
  | [], [], _, _, _, e => by simp at e
  | v :: vs, x :: rs, 0, r, ⟨⟨p, e, h⟩, k⟩, er => by
    obtain rfl : x = r := by simpa using er
    exact ⟨p, by simp [e], h⟩
  | v :: vs, x :: rs, i + 1, r, ⟨_, k⟩, er => by
    obtain ⟨p, h1, h2⟩ := TupsAt.at k (i := i) (r := r) (by simpa using er)
    exact ⟨p, by simpa using h1, h2⟩
theorem line_mem : ∀ (n : Nat) (l : List Str), l ∈ lineN n ↔ l.length = n ∧ ∀ s ∈ l, s ∈ names3
  | 0, l => by
    show l ∈ [[]] ↔ _
    rw [List.mem_singleton]
    constructor
    · rintro rfl; exact ⟨rfl, fun s h => by cases h⟩
    · rintro ⟨h, _⟩; exact List.length_eq_zero_iff.mp h
  | n + 1, l => by
    show l ∈ (lineN n).flatMap _ ↔ _
    rw [List.mem_flatMap]
    constructor
    · rintro ⟨a, ha, hl⟩
      obtain ⟨x, hx, rfl⟩ := List.mem_map.mp hl
      obtain ⟨h1, h2⟩ := (line_mem n a).mp ha
      refine ⟨by rw [List.length_append, h1]; rfl, fun s hs => ?_⟩
      rcases List.mem_append.mp hs with h | h
      · exact h2 s h
      · rw [List.mem_singleton.mp h]; exact hx
    · rintro ⟨h1, h2⟩
      have hn : l ≠ [] := fun e => by rw [e] at h1; simp at h1
      obtain ⟨r, z, e⟩ := snoc_of hn
      subst e
      rw [List.length_append, List.length_singleton] at h1
      exact ⟨r, (line_mem n r).mpr ⟨by omega, fun s hs => h2 s (List.mem_append_left _ hs)⟩, List.mem_map.mpr ⟨z, h2 z (by simp), rfl⟩⟩
theorem line_len : ∀ n, (lineN n).length = 3 ^ n
  | 0 => rfl
  | n + 1 => by
    show ((lineN n).flatMap _).length = _
    rw [List.length_flatMap, List.map_congr_left (g := fun _ => 3) (fun a _ => by rw [List.length_map]; rfl), List.map_const', List.sum_replicate_nat, line_len n, Nat.pow_succ]
theorem found_mem : ∀ (n : Nat) (t : Str), t ∈ foundN n ↔ ∃ l, 1 ≤ l.length ∧ l.length ≤ n ∧ (∀ s ∈ l, s ∈ names3) ∧ t = joinS l
  | 0, t => by
    constructor
    · intro h; cases h
    · rintro ⟨l, h1, h2, _⟩; omega
  | n + 1, t => by
    show t ∈ foundN n ++ _ ↔ _
    rw [List.mem_append, found_mem n t, List.mem_map]
    constructor
    · rintro (⟨l, h1, h2, h3, h4⟩ | ⟨l, hl, e⟩)
      · exact ⟨l, h1, by omega, h3, h4⟩
      · obtain ⟨a, b⟩ := (line_mem (n + 1) l).mp hl
        exact ⟨l, by omega, by omega, b, e.symm⟩
    · rintro ⟨l, h1, h2, h3, h4⟩
      by_cases c : l.length ≤ n
      · exact .inl ⟨l, h1, c, h3, h4⟩
      · exact .inr ⟨l, (line_mem (n + 1) l).mpr ⟨by omega, h3⟩, h4.symm⟩
theorem found_len : ∀ n, n ≤ 5 → (foundN n).length ≤ 363
  | 0, _ => by decide
  | 1, _ => by unfold foundN foundN; rw [List.length_append, List.length_map, line_len]; decide
  | n + 2, h => by
    have : ∀ k, (foundN (k + 1)).length = (foundN k).length + 3 ^ (k + 1) := fun k => by
      show (foundN k ++ (lineN (k + 1)).map joinS).length = _
      rw [List.length_append, List.length_map, line_len]
    have e0 : (foundN 0).length = 0 := rfl
    have e1 := this 0
    have e2 := this 1
    have e3 := this 2
    have e4 := this 3
    have e5 := this 4
    have : n + 2 = 2 ∨ n + 2 = 3 ∨ n + 2 = 4 ∨ n + 2 = 5 := by omega
    simp only [Nat.reduceAdd, Nat.reducePow] at e1 e2 e3 e4 e5
    rcases this with h | h | h | h <;> rw [h] <;> omega
/-- each topic's image under zz is one of them -/
theorem zzT_found {t : Str} (h : topicB t = true) : zzT t ∈ foundN 5 := by
  obtain ⟨h1, h2, h3⟩ := topic_steps h
  exact (found_mem 5 _).mpr ⟨(stepsOf t).map zzS, by rw [List.length_map]; exact h1, by rw [List.length_map]; exact h2, fun s hs => by
    obtain ⟨x, _, rfl⟩ := List.mem_map.mp hs
    exact zzS_mem x, rfl⟩
theorem found_topic {t : Str} (h : t ∈ foundN 5) : topicB t = true := by
  obtain ⟨l, h1, h2, h3, rfl⟩ := (found_mem 5 _).mp h
  exact (topic_of (st := l) (fun z => by rw [z] at h1; simp at h1) h2 fun s hs => names3_name s (h3 s hs)).1
end Bk

set_option Elab.async false
set_option linter.all false
set_option maxRecDepth 100000
set_option maxHeartbeats 4000000
namespace Bk
open PySem PySem.Spec PyProof.Rows L2
def spLTopics (T : Tbs) : Sp := fun vs H Q _ => vs = [] ∧ LamX.Tabs T H ∧ ∀ H' p, Gr T H H' → H' p = some (.lst ((foundN 5).map V.str)) → Q (.ref p) H'
section
variable {P : Program} {w : World} {K : PySem.W.Frag} {mg : Str → Option Value} {base : Heap} {T : Tbs}
theorem cat_a {X : Cx} {K : PySem.W.Frag} (h : X.K = K) : OpR X (binaryOp .Add) (rCatA K) := by
  subst h
  exact op_catA
theorem join_k {X : Cx} {K : PySem.W.Frag} (h : X.K = K) {o e : Expr} {to : TE} {t : TA} {apos cpos : Pos} (ho : PE X o to) (ha : PA X [e] t) (hbase : attributeBase o "join" X.env (eval o X.env) = eval o X.env := by rfl)
    (hfew : ((backTo cpos (starEach [e] X.env)).all (fun x => !x.1) && (backToKw cpos (keywordEach [] X.env)).all (fun x => x.1.isSome) && decide ([e].length + ([] : List Keyword).length + (if ([] : List Keyword).isEmpty then 0 else 1) < 30)) = true := by rfl)
    (hline : (apos.endLine == cpos.line) = true := by rfl) (hs : starEach [e] X.env = (false, eval e X.env) :: starEach [] X.env := by rfl) (hplain : (backTo cpos (starEach [] X.env)).any (·.1) = false := by rfl) : PE X (.Call (.Attribute o "join" apos) [e] [] cpos) (tBM K "str" (rJoin K) to t) := by
  subst h
  exact pe_bm PySem.F.plainAttrs_str PySem.F.slot_str_join PySem.F.type_str_join mt_join ho ha hbase hfew hline hs hplain
abbrev tpN : List Str := ["_law_found", "_law_line", "_law_many", "_law_longer", "_law_steps", "_law_name"]
theorem sc_ltopics : FnScope tpN [] (defScope s_ltopics) := ⟨rfl, rfl, rfl, by decide +kernel, rfl, by decide +kernel, by decide +kernel⟩
theorem has_ltopics (F : At K mg "_law_topics" s_ltopics) (zr : mg "range" = none) : Has P w K mg base CX0 1 "_law_topics" [] (spLTopics T) := by
  refine F.ok0 sc_ltopics (fun _ _ _ _ _ _ us hl => match us, hl with | [], _ => rfl) (fun vs H Q E h => ?_) fun A outer s H vs Q E hr h => ?_
  · obtain ⟨rfl, _⟩ := h
    rfl
  obtain ⟨rfl, tb, q⟩ := h
  refine ⟨_, pss_cons (ps_par (i := 0) (j := 1) rfl sc_ltopics.nd rfl rfl (by decide) rfl rfl (pa_cons (pe_lst pa_nil) (pa_cons (pe_lst (pa_cons (pe_tup pa_nil) pa_nil)) pa_nil)) (by rfl))
    (pss_cons (ps_for PassesOwn.never rfl (pi_range1 rfl zr (pa_cons pe_int pa_nil)) (pg_name (i := 2) sc_ltopics.nd rfl (Or.inl rfl))
      (pss_cons (ps_set (i := 3) sc_ltopics.nd rfl (Or.inl rfl) (pe_lst pa_nil))
      (pss_cons (ps_for PassesOwn.never rfl (pi_list (pv 1)) (pg_name (i := 4) sc_ltopics.nd rfl (Or.inr rfl))
        (pss_one (ps_set (i := 3) sc_ltopics.nd rfl (Or.inl rfl) (pe_op op_cat (pv 3) (pe_lc (own := [("_law_name", 5)]) (g := gName 5) rfl sc_ltopics.nd (pi_tup (pe_tup (pa_cons pe_str (pa_cons pe_str (pa_cons pe_str pa_nil)))))
          (blkOk_by (own := [("_law_name", 5)]) (N := tpN) (sc := defScope s_ltopics) (by decide +kernel)) (fun _ _ _ _ _ => pg_name (i := 5) sc_ltopics.nd rfl (Or.inl rfl)) (fun _ _ _ _ _ => pts_nil) (fun _ _ _ _ _ => pe_op (cat_a (K := K) rfl) (pv 4) (pe_tup (pa_cons (pv 5) pa_nil))))))))
      (pss_cons (ps_set (i := 1) sc_ltopics.nd rfl (Or.inl rfl) (pv 3))
      (pss_one (ps_set (i := 0) sc_ltopics.nd rfl (Or.inl rfl) (pe_op op_cat (pv 0) (pe_lc (own := [("_law_steps", 4)]) (g := gName 4) rfl sc_ltopics.nd (pi_list (pv 1))
          (blkOk_by (own := [("_law_steps", 4)]) (N := tpN) (sc := defScope s_ltopics) (by decide +kernel)) (fun _ _ _ _ _ => pg_name (i := 4) sc_ltopics.nd rfl (Or.inl rfl)) (fun _ _ _ _ _ => pts_nil) (fun _ _ _ _ _ => join_k (K := K) rfl pe_str (pa_cons (pv 4) pa_nil))))))))))
    (pss_one (ps_ret (pv 0)))), ?_⟩
  refine ⟨by show 0 ≤ sizeLine; decide, fun pf hpf => ⟨by show 0 ≤ sizeLine; decide, fun pe hpe => ⟨by show 1 ≤ sizeLine; decide, fun pl hpl => ⟨_, _, rfl, ?_⟩⟩⟩⟩
  have g1 := Gr.new tb hpf (.lst [])
  have g2 := Gr.new g1.tabs hpe (.tup [])
  have g3 := Gr.new g2.tabs hpl (.lst [V.ref pe])
  have gs := g1.trans (g2.trans g3)
  have three : ∀ n, n ≤ 5 → 3 ^ n ≤ 243 := fun n hn => Nat.pow_le_pow_right (n := 3) (by decide) hn
  refine ⟨5, rfl, by decide, by decide, for_it (n := (5 : Int).toNat) walk_range (fun i σ H' => ∃ pf pl o2 o3 o4, σ = [some (.ref pf), some (.ref pl), o2, o3, o4, none] ∧ Gr T H H' ∧ H' pf = some (.lst ((foundN i).map V.str)) ∧ ∃ ws, H' pl = some (.lst ws) ∧ TupsAt H' ws (lineN i))
    ⟨pf, pl, none, none, none, rfl, gs, (g2.trans g3).lst upd_same, [V.ref pe], upd_same, ⟨pe, rfl, g3.tup upd_same⟩, True.intro⟩ (fun _ _ _ _ _ => trivial) ?_ ?_⟩
  · rintro i x σ H2 H3 hi ⟨pf, pl, o2, o3, o4, rfl, ga, ef, ws, el, tw⟩ ⟨rfl, rfl⟩
    have hi5 : i < 5 := hi
    refine ⟨by show 0 ≤ sizeLine; decide, fun pg hpg => ?_⟩
    have g4 := Gr.new ga.tabs hpg (.lst [])
    have el4 := g4.lst el
    have wk : Walk (Itl K pl) (lineN i).length (fun H => SqL K H pl ws) (YAt ws) := by
      have := walk_list (K := K) (a := pl) (xs := ws)
      rwa [tw.len] at this
    refine ⟨_, rfl, pl, rfl, ⟨_, SqL.of el4⟩, for_it (n := (lineN i).length) wk (fun j σ H' => ∃ pg o4, σ = [some (.ref pf), some (.ref pl), some (.int (0 + (i : Int))), some (.ref pg), o4, none] ∧ Gr T H3 H' ∧ ∃ us, H' pg = some (.lst us) ∧ TupsAt H' us (((lineN i).take j).flatMap fun l => names3.map fun x => l ++ [x]))
      ⟨pg, o4, rfl, g4, [], upd_same, True.intro⟩ (fun j σ H' _ ⟨_, _, _, g, _⟩ => SqL.of (g.lst el)) ?_ ?_⟩
    · rintro j y σ H4 H5 hj ⟨pg, o4, rfl, g5, us, eg, tu⟩ ⟨rfl, ey⟩
      obtain ⟨l, er⟩ : ∃ l, (lineN i)[j]? = some l := ⟨_, List.getElem?_eq_getElem hj⟩
      obtain ⟨p, ep, hp⟩ := tw.at er
      rw [ep] at ey
      obtain rfl : V.ref p = y := Option.some.inj ey
      have ll := (line_mem i l).mp (List.mem_of_getElem? er)
      refine ⟨_, rfl, by show 3 ≤ sizeLine; decide, fun pt hpt => ?_⟩
      have g6 := Gr.new g5.tabs hpt (.tup (names3.map V.str))
      have et : (upd H5 pt (.tup (names3.map V.str))) pt = some (.tup (names3.map V.str)) := upd_same
      refine ⟨pt, rfl, ⟨_, SqT.of et⟩, fun D hD => ?_⟩
      obtain ⟨H6, eH6⟩ : ∃ H6, H6 = upd H5 pt (.tup (names3.map V.str)) := ⟨_, rfl⟩
      have g6 : Gr T H5 H6 := by rw [eH6]; exact g6
      have et : H6 pt = some (.tup (names3.map V.str)) := by rw [eH6]; exact et
      have hD : H6 D = none := by rw [eH6]; exact hD
      have hp6 := (g5.trans g6).tup hp
      show ∃ W : Nat → Nat → Hp → Prop, (∃ m, W 0 m (upd (upd H5 pt (.tup (names3.map V.str))) D (.lst []))) ∧ _
      rw [← eH6]
      refine lc_it (n := 3) (walk_tup (K := K) (a := pt) (xs := names3.map V.str)) (fun k H' => Gr T H6 H' ∧ ∃ vs, H' D = some (.lst vs) ∧ TupsAt H' vs ((names3.take k).map fun x => l ++ [x])) ⟨Gr.new g6.tabs hD _, [], upd_same, True.intro⟩ (fun k H' _ z => SqT.of (z.1.tup et)) (fun k x H7 H8 hk ⟨g7, vs, eD, tv⟩ z => ?_) fun H7 ⟨g7, vs, eD, tv⟩ => ?_
      · obtain ⟨rfl, ex⟩ := z
        obtain ⟨x0, e0⟩ : ∃ x0, names3[k]? = some x0 := ⟨_, List.getElem?_eq_getElem hk⟩
        rw [List.getElem?_map, e0] at ex
        obtain rfl : V.str x0 = x := Option.some.inj ex
        refine ⟨rfl, lx_yes ⟨_, rfl, _, rfl, (by show 1 ≤ sizeLine; decide), fun p5 hp5 => ?_⟩⟩
        have g8 := Gr.new g7.tabs hp5 (.tup [V.str x0])
        have tk : (names3.take (k + 1)).map (fun x => l ++ [x]) = (names3.take k).map (fun x => l ++ [x]) ++ [l ++ [x0]] := by rw [List.take_add_one, e0, List.map_append]; rfl
        have fin : ∀ (q0 : Addr) H9, Gr T H8 H9 → H9 q0 = some (.tup ((l ++ [x0]).map V.str)) → ∃ acc, H9 D = some (.lst acc) ∧ acc.length < sizeLine ∧ (Gr T H6 (upd H9 D (.lst (acc ++ [V.ref q0]))) ∧ ∃ vs, (upd H9 D (.lst (acc ++ [V.ref q0]))) D = some (.lst vs) ∧ TupsAt (upd H9 D (.lst (acc ++ [V.ref q0]))) vs ((names3.take (k + 1)).map fun x => l ++ [x])) := by
          intro q0 H9 g9 e9
          have eD9 := g9.lst eD
          have keep : ∀ (b : Addr) zs, H9 b = some (.tup zs) → (upd H9 D (.lst (vs ++ [V.ref q0]))) b = some (.tup zs) := fun b zs hb => by
            rw [upd_ne (fun z => by rw [z, eD9] at hb; cases hb)]
            exact hb
          refine ⟨vs, eD9, ?_, (g7.trans g9).own1 hD eD9, _, upd_same, ?_⟩
          · rw [tv.len, List.length_map]
            exact Nat.lt_of_le_of_lt (List.length_take_le _ _) (Nat.lt_trans hk (by decide))
          · rw [tk]
            exact TupsAt.app (TupsAt.keep keep (tv.gr g9)) ⟨⟨q0, rfl, keep _ _ e9⟩, True.intro⟩
        refine ⟨p, p5, l.map V.str, [V.str x0], rfl, rfl, SqT.of ((g7.trans g8).tup hp6), SqT.of upd_same, ?_, fun h0 => ?_, fun _ h => (by cases h), fun _ _ p6 hp6 => ?_⟩
        · rw [List.length_map, ll.1]
          exact Nat.le_trans (show i + 1 ≤ 6 by omega) (by decide)
        · have : l = [] := List.map_eq_nil_iff.mp h0
          exact fin p5 _ g8 (by rw [this]; exact upd_same)
        · exact fin p6 _ (g8.trans (Gr.new g8.tabs hp6 _)) (by rw [List.map_append]; exact upd_same)
      · have tv : TupsAt H7 vs (names3.map fun x => l ++ [x]) := tv
        have g57 := g6.trans g7
        have eg7 := g57.lst eg
        have tk : ((lineN i).take (j + 1)).flatMap (fun l => names3.map fun x => l ++ [x]) = ((lineN i).take j).flatMap (fun l => names3.map fun x => l ++ [x]) ++ (names3.map fun x => l ++ [x]) := by
          rw [List.take_add_one, er, List.flatMap_append]
          simp
        refine ⟨pg, D, us, vs, rfl, rfl, eg7, eD, ?_, fun p9 hp9 => ?_⟩
        · have := three i (by omega)
          have e1 : us.length ≤ 729 := by
            rw [tu.len, List.length_flatMap, List.map_congr_left (g := fun _ => 3) (fun a _ => by rw [List.length_map]; rfl), List.map_const', List.sum_replicate_nat]
            have := List.length_take_le j (lineN i)
            have := List.length_take_le' j (lineN i)
            rw [line_len] at this
            omega
          rw [tv.len, List.length_map]
          exact Nat.le_trans (show us.length + 3 ≤ 800 by omega) (by decide)
        · have g9 := Gr.new g7.tabs hp9 (.lst (us ++ vs))
          refine ⟨p9, _, rfl, g5.trans (g57.trans g9), us ++ vs, upd_same, ?_⟩
          rw [tk]
          exact TupsAt.app (tu.gr (g57.trans g9)) (tv.gr g9)
    · rintro σ H4 ⟨pg, o4, rfl, g5, us, eg, tu⟩
      rw [List.take_length] at tu
      have tu : TupsAt H4 us (lineN (i + 1)) := tu
      have wk2 : Walk (Itl K pg) (lineN (i + 1)).length (fun H => SqL K H pg us) (YAt us) := by
        have := walk_list (K := K) (a := pg) (xs := us)
        rwa [tu.len] at this
      refine ⟨_, rfl, _, rfl, _, rfl, pg, rfl, ⟨_, SqL.of eg⟩, fun D hD => ?_⟩
      have l5 := three (i + 1) (by omega)
      refine lc_gr (T := T) (xs := lineN (i + 1)) wk2 (fun l => V.str (joinS l)) g5.tabs hD (by rw [line_len]; exact Nat.le_trans l5 (by decide)) (fun H6 g6 => SqL.of (g6.lst eg)) (fun k l y H6 H7 ej g6 yy Ok No hOk => ?_) fun H6 g6 eD => ?_
      · obtain ⟨rfl, ey⟩ := yy
        obtain ⟨pp, ep, hpp⟩ := tu.at ej
        rw [ep] at ey
        obtain rfl : V.ref pp = y := Option.some.inj ey
        obtain ⟨k1, k2⟩ := (line_mem (i + 1) l).mp (List.mem_of_getElem? ej)
        have hs : ∀ s ∈ l, stepH s = true := fun s hs => stepB_H (by unfold stepB; rw [names3_name s (k2 s hs), Bool.or_true])
        exact ⟨rfl, lx_yes ⟨rfl, _, rfl, slashS, pp, l, rfl, rfl, .inr (SqT.of (g6.tup hpp)), join_sum hs (by omega), hOk _ (Gr.refl g6.tabs)⟩⟩
      · have eD2 : H6 D = some (.lst (((lineN (i + 1)).map joinS).map V.str)) := by rw [eD, List.map_map]; rfl
        have ga6 := g5.trans g6
        refine ⟨pf, D, _, _, rfl, rfl, ga6.lst ef, eD2, ?_, fun p9 hp9 => ?_⟩
        · have := found_len i (by omega)
          rw [List.length_map, List.length_map, List.length_map, line_len]
          exact Nat.le_trans (show (foundN i).length + 3 ^ (i + 1) ≤ 606 by omega) (by decide)
        · have g9 := Gr.new g6.tabs hp9 (.lst ((foundN i).map V.str ++ ((lineN (i + 1)).map joinS).map V.str))
          refine ⟨p9, pg, _, _, _, rfl, ga.trans (ga6.trans g9), ?_, us, (g6.trans g9).lst eg, tu.gr (g6.trans g9)⟩
          rw [upd_same]
          show _ = some (HO.lst ((foundN i ++ (lineN (i + 1)).map joinS).map V.str))
          rw [List.map_append]
  · rintro σ H2 ⟨pf, pl, o2, o3, o4, rfl, ga, ef, _⟩
    exact ⟨_, rfl, q H2 pf ga ef⟩
end
end Bk

set_option Elab.async false
set_option linter.all false
set_option maxRecDepth 100000
set_option maxHeartbeats 4000000
namespace Bk
open PySem PySem.Spec PyProof.Rows L2
abbrev s_lwish : Stmt := top 44
/-! ### the law's random wish -/
abbrev abS : List Str := ["a", "b", "+", "+"]
abbrev manyI : List Int := [1, 1, 2, 2, 3, 3, 4, 5]
theorem abS_step : ∀ s ∈ abS, stepB s = true ∧ (s = "a" ∨ s = "b" ∨ s = "+" ∨ s = "#") := by decide +kernel
def spLWish (T : Tbs) : Sp := fun vs H Q _ => ∃ a, vs = [.ref a] ∧ Cup H a ∧ LamX.Tabs T H ∧ ∀ z H', wishB z = true → AbW z → GrC T a H H' → Q (.str z) H'
theorem ab_join {c e : List Str} (hc : ∀ s ∈ c, s ∈ abS) (he : e = [] ∨ e = [("#" : Str)]) (hn : c ++ e ≠ []) (h5 : (c ++ e).length ≤ 5) : wishB (joinS (c ++ e)) = true ∧ AbW (joinS (c ++ e)) := by
  obtain ⟨h1, h2⟩ := wish_of (fun s hs => (abS_step s (hc s hs)).1) he hn h5
  refine ⟨h1, fun s hs => ?_⟩
  rw [h2] at hs
  rcases List.mem_append.mp hs with h | h
  · exact (abS_step s (hc s h)).2
  · rcases he with rfl | rfl
    · cases h
    · exact .inr (.inr (.inr (List.mem_singleton.mp h)))
section
variable {P : Program} {w : World} {K : PySem.W.Frag} {mg : Str → Option Value} {base : Heap} {T : Tbs}
abbrev lwN : List Str := ["_law_cup_here", "_law_steps", "_law_at"]
theorem sc_lwish : FnScope lwN ["_law_cup_here"] (defScope s_lwish) := ⟨rfl, rfl, rfl, by decide +kernel, rfl, by decide +kernel, by decide +kernel⟩
theorem has_lwish (F : At K mg "_law_wish" s_lwish) (zr : mg "range" = none) (HR : Has P w K mg base CX0 1 "_law_roll" ["_law_cup_here", "_law_many"] spRoll) (HS : Has P w K mg base CX0 2 "_law_some" ["_law_cup_here", "_law_things"] (spSome K)) :
    Has P w K mg base CX0 3 "_law_wish" ["_law_cup_here"] (spLWish T) := by
  refine F.ok0 sc_lwish (fun _ _ _ _ _ _ us hl => match us, hl with | [_], _ => rfl) (fun vs H Q E h => ?_) fun A outer s H vs Q E hr h => ?_
  · obtain ⟨x, rfl, _⟩ := h
    rfl
  obtain ⟨a, rfl, hc, tb, q⟩ := h
  refine ⟨_, pss_cons (ps_setLc (i := 1) (own := [("_law_at", 2)]) rfl sc_lwish.nd rfl rfl (by rfl)
      (pi_range1 rfl zr (pa_cons (Has.call HS hr pass0 (pa_cons (pv 0) (pa_cons (pe_lst (pa_cons pe_int (pa_cons pe_int (pa_cons pe_int (pa_cons pe_int (pa_cons pe_int (pa_cons pe_int (pa_cons pe_int (pa_cons pe_int pa_nil))))))))) pa_nil))) pa_nil))
      (blk_by (by show BlkD lwN (defScope s_lwish) _ [("_law_at", 2)]; decide +kernel))
      (fun _ _ _ _ _ => pg_name (i := 2) sc_lwish.nd rfl (Or.inl rfl)) (fun _ _ _ _ _ => pts_nil)
      (fun _ _ _ _ _ => Has.call HS hr pass0 (pa_cons (pv 0) (pa_cons (pe_lst (pa_cons pe_str (pa_cons pe_str (pa_cons pe_str (pa_cons pe_str pa_nil))))) pa_nil))))
    (pss_cons (ps_if (pt_cmpR op_eq (Has.call HR (hr.mono (by decide)) pass0 (pa_cons (pv 0) (pa_cons pe_int pa_nil))) pe_int (nomark _))
      (pss_one (ps_set (i := 1) sc_lwish.nd rfl (Or.inl rfl) (pe_op op_cat (pe_slice sl_list (pv 1) po_none (po_some pe_int)) (pe_lst (pa_cons pe_str pa_nil))))) pss_nil)
    (pss_one (ps_ret (pe_ifExp (pt_cmpR op_gt (Has.call HR (hr.mono (by decide)) pass0 (pa_cons (pv 0) (pa_cons pe_int pa_nil))) pe_int (nomark _)) (pe_bm PySem.F.plainAttrs_str PySem.F.slot_str_join PySem.F.type_str_join mt_join pe_str (pa_cons (pv 1) pa_nil)) pe_str)))), ?_⟩
  refine ⟨_, rfl, by show 8 ≤ sizeLine; decide, fun p hp => ?_⟩
  obtain ⟨g, sd, ha, k⟩ := id hc
  have np : p ≠ a := new_ne hc hp
  have gn : GrC T a H (upd H p (.lst (manyI.map V.int))) := (Gr.new tb hp _).c hc
  have ha1 : (upd H p (.lst (manyI.map V.int))) a = some (.lst [.int g, .int sd]) := by rw [upd_ne (Ne.symm np)]; exact ha
  refine ⟨a, p, g, sd, manyI.map V.int, rfl, ha1, k, upd_same, Ne.symm np, by decide, by decide, fun y g1 s1 hy k1 => ?_⟩
  obtain ⟨n, hn, rfl⟩ := List.mem_map.mp hy
  have hn1 : 1 ≤ n ∧ n ≤ 5 := by
    have : ∀ n ∈ manyI, 1 ≤ n ∧ n ≤ 5 := by decide
    exact this n hn
  have gc0 := gn.trans (GrC.put gn.tabs ha1 k1)
  refine ⟨n, rfl, by omega, by omega, fun D hD => ?_⟩
  have nD : D ≠ a := new_ne gc0.cup hD
  have hDH : H D = none := by
    rw [upd_ne nD] at hD
    by_cases e : D = p
    · rw [e, upd_same] at hD; cases hD
    · rwa [upd_ne e] at hD
  refine lc_it (n := n.toNat) walk_range (fun i H' => ∃ ps : List Str, ps.length = i ∧ (∀ s ∈ ps, s ∈ abS) ∧ H' D = some (.lst (ps.map V.str)) ∧ GrC T a H H') ⟨[], rfl, fun _ hx => absurd hx List.not_mem_nil, upd_same, gc0.new hD _⟩ (fun _ _ _ _ => trivial) ?_ ?_
  · rintro i x H1 H2 hi ⟨ps, el, em, eD, gc⟩ ⟨rfl, rfl⟩
    obtain ⟨g2, s2, ha2, k2⟩ := gc.cup
    refine ⟨rfl, yes_if ?_⟩
    refine ⟨_, rfl, by show 4 ≤ sizeLine; decide, fun p hp => ?_⟩
    have np : p ≠ a := new_ne gc.cup hp
    have gn := gc.new hp (.lst (abS.map V.str))
    have ha3 : (upd H2 p (.lst (abS.map V.str))) a = some (.lst [.int g2, .int s2]) := by rw [upd_ne (Ne.symm np)]; exact ha2
    refine ⟨a, p, g2, s2, abS.map V.str, rfl, ha3, k2, upd_same, Ne.symm np, by decide, by decide, fun y g3 s3 hy k3 => ?_⟩
    obtain ⟨z, hz, rfl⟩ := List.mem_map.mp hy
    have hpD : D ≠ p := fun e => by rw [← e, eD] at hp; cases hp
    have gp := gn.trans (GrC.put gn.tabs ha3 k3)
    have eD3 : (upd (upd H2 p (.lst (abS.map V.str))) a (.lst [.int g3, .int s3])) D = some (.lst (ps.map V.str)) := by
      rw [upd_ne nD, upd_ne hpD]; exact eD
    refine ⟨ps.map V.str, eD3, by rw [List.length_map, el]; show _ < 16777216; omega, ps ++ [z], by rw [List.length_append, el]; rfl, fun x hx => ?_, ?_, gp.own hDH nD eD3⟩
    · rcases List.mem_append.mp hx with hx | hx
      · exact em x hx
      · rw [List.mem_singleton.mp hx]; exact hz
    · rw [upd_same, List.map_append]; rfl
  · rintro H1 ⟨ps, el, em, eD, gc⟩
    obtain ⟨g2, s2, ha2, k2⟩ := gc.cup
    -- the end, whatever the steps
    have fin : ∀ (c e : List Str) (pp : Addr) (H2 : Hp), (∀ s ∈ c, s ∈ abS) → (e = [] ∨ e = [("#" : Str)]) → c ++ e ≠ [] → (c ++ e).length ≤ 5 → GrC T a H H2 → H2 pp = some (.lst ((c ++ e).map V.str)) →
        tRet (tIf (tTest (tOp (rI0 fun i j => .bl (decide (j < i))) (tCall spRoll [] E0 (tCons (tVar 0) (tCons (tC (.int 20)) tNil))) (tC (.int 0)))) (tBM K "str" (rJoin K) (tC (.str "/")) (tCons (tVar 1) tNil)) (tC (.str "#"))) { nx := fun x H' => Q V.non H', rt := Q } [some (.ref a), some (.ref pp), none] H2 := by
      intro c e pp H2 h1 h2 h3 h4 g2c e2
      obtain ⟨g3, s3, ha3, k3⟩ := g2c.cup
      refine ⟨_, rfl, a, g3, s3, 20, rfl, ha3, k3, by decide, by decide, fun r g4 s4 _ _ k4 => ⟨_, _, rfl, rfl, _, rfl, ?_⟩⟩
      have gp := g2c.trans (GrC.put g2c.tabs ha3 k4)
      obtain ⟨hz, hab⟩ := ab_join h1 h2 h3 h4
      refine ite2 (fun _ => ?_) (fun _ => ?_)
      · have npp : pp ≠ a := fun z => by
          rw [z, ha3] at e2
          have := Option.some.inj e2
          injection this with this
          cases hce : c ++ e with
          | nil => exact h3 hce
          | cons x y => rw [hce] at this; simp at this
        have hs : ∀ s ∈ c ++ e, stepH s = true := fun s hs => by
          rcases List.mem_append.mp hs with h | h
          · exact stepB_H (abS_step s (h1 s h)).1
          · rcases h2 with rfl | rfl
            · cases h
            · rw [List.mem_singleton.mp h]; decide +kernel
        refine ⟨rfl, _, rfl, slashS, pp, c ++ e, rfl, rfl, .inl (SqL.of (by rw [upd_ne npp]; exact e2)), join_sum hs (by omega), q _ _ hz hab gp⟩
      · exact q _ _ hash_wish (fun s hs => by
          rw [show stepsOf "#" = [("#" : Str)] by decide +kernel] at hs
          exact .inr (.inr (.inr (List.mem_singleton.mp hs)))) gp
    refine ⟨_, rfl, a, g2, s2, 3, rfl, ha2, k2, by decide, by decide, fun r g3 s3 _ _ k3 => ⟨rfl, _, rfl, ?_⟩⟩
    have gp := gc.trans (GrC.put gc.tabs ha2 k3)
    have eD2 : (upd H1 a (.lst [.int g3, .int s3])) D = some (.lst (ps.map V.str)) := by rw [upd_ne nD]; exact eD
    have pl : 1 ≤ ps.length ∧ ps.length ≤ 5 := by omega
    refine ite2 (fun _ => ?_) (fun _ => ?_)
    · refine ⟨_, rfl, 4, rfl, D, _, rfl, SqL.of eD2, fun p4 hp4 => ?_⟩
      have ek : cutV (ps.map V.str) none (some 4) = (ps.take 4).map V.str := by
        rw [List.map_take]
        exact cut_take2 _ 4
      rw [ek]
      have g5 := gp.new hp4 (.lst ((ps.take 4).map V.str))
      refine ⟨by show 1 ≤ sizeLine; decide, fun p5 hp5 => ?_⟩
      have n45 : p4 ≠ p5 := fun e => by rw [← e, upd_same] at hp5; cases hp5
      have g6 := g5.new hp5 (.lst [V.str "#"])
      refine ⟨p4, p5, _, _, rfl, rfl, by rw [upd_ne n45]; exact upd_same, upd_same, ?_, fun p6 hp6 => ?_⟩
      · rw [List.length_map, List.length_take]
        exact Nat.le_trans (show min 4 ps.length + 1 ≤ 6 by omega) (by decide)
      · have g7 := g6.new hp6 (.lst ((ps.take 4).map V.str ++ [V.str "#"]))
        refine fin (ps.take 4) ["#"] p6 _ (fun s hs => em s (List.take_subset _ _ hs)) (.inr rfl) (by simp) (by rw [List.length_append, List.length_take]; simp; omega) g7 ?_
        rw [upd_same, List.map_append]
        rfl
    · refine fin ps [] D _ em (.inl rfl) (fun z => by rw [List.append_nil] at z; rw [z] at pl; simp at pl) (by rw [List.append_nil]; exact pl.2) gp ?_
      rw [List.append_nil]
      exact eD2
end
end Bk

set_option Elab.async false
set_option linter.all false
set_option maxRecDepth 100000
set_option maxHeartbeats 4000000
namespace Bk
open PySem PySem.Spec PyProof.Rows L2
abbrev s_lrights : Stmt := top 45
/-! ### the law's random rights -/
def spSomeT (K : PySem.W.Frag) : Sp := fun vs H Q _ => ∃ (a b : Addr) (g s : Int) (xs : List V), vs = [.ref a, .ref b] ∧ H a = some (.lst [.int g, .int s]) ∧ CupOk g s ∧ H b = some (.tup xs) ∧ xs ≠ [] ∧ xs.length < 1000000 ∧
  ∀ x g' s', x ∈ xs → CupOk g' s' → Q x (upd H a (.lst [.int g', .int s']))
/-- rules, rights as they stand -/
def RulesAt (H : Hp) : List V → List Rule3 → Prop
  | [], [] => True
  | v :: vs, r :: rs => (∃ p, v = .ref p ∧ H p = some (.tup [.str r.1, .str r.2.1, .str r.2.2])) ∧ RulesAt H vs rs
  | _, _ => False
theorem RulesAt.keep {H H' : Hp} (k : ∀ b zs, H b = some (.tup zs) → H' b = some (.tup zs)) : ∀ {vs : List V} {rs : List Rule3}, RulesAt H vs rs → RulesAt H' vs rs
  | [], [], _ => True.intro
  | _ :: _, _ :: _, ⟨⟨p, e, h⟩, r⟩ => ⟨⟨p, e, k _ _ h⟩, RulesAt.keep k r⟩
theorem RulesAt.snoc {H : Hp} : ∀ {vs : List V} {rs : List Rule3} {v : V} {r : Rule3}, RulesAt H vs rs → (∃ p, v = .ref p ∧ H p = some (.tup [.str r.1, .str r.2.1, .str r.2.2])) → RulesAt H (vs ++ [v]) (rs ++ [r])
  | [], [], _, _, _, h => ⟨h, True.intro⟩
  | _ :: _, _ :: _, _, _, ⟨a, k⟩, h => ⟨a, RulesAt.snoc k h⟩
theorem RulesAt.len {H : Hp} : ∀ {vs : List V} {rs : List Rule3}, RulesAt H vs rs → vs.length = rs.length
  | [], [], _ => rfl
  | _ :: _, _ :: _, ⟨_, k⟩ => by rw [List.length_cons, List.length_cons, RulesAt.len k]
theorem RulesAt.mem {H : Hp} : ∀ {vs : List V} {rs : List Rule3} {v : V}, RulesAt H vs rs → v ∈ vs → ∃ r ∈ rs, ∃ p, v = .ref p ∧ H p = some (.tup [.str r.1, .str r.2.1, .str r.2.2])
  | x :: vs, r :: rs, v, ⟨a, k⟩, m => by
    rcases List.mem_cons.mp m with rfl | m
    · exact ⟨r, List.mem_cons_self, a⟩
    · obtain ⟨r', h, z⟩ := RulesAt.mem k m
      exact ⟨r', List.mem_cons_of_mem _ h, z⟩
theorem RulesAt.da {H : Hp} : ∀ {vs : List V} {rs : List Rule3}, RulesAt H vs rs → DaAll H vs (rs.map ruleOf)
  | [], [], _ => .nil
  | _ :: _, _ :: _, ⟨⟨p, e, h⟩, k⟩ => by
    subst e
    exact .cons (.tup h (.cons (.str _) (.cons (.str _) (.cons (.str _) .nil)))) (RulesAt.da k)
def RtAt (H : Hp) (v : V) (rs : List Rule3) : Prop := ∃ p vs, v = .ref p ∧ H p = some (.tup vs) ∧ RulesAt H vs rs
theorem RtAt.da {H : Hp} {v : V} {rs : List Rule3} (h : RtAt H v rs) : Da H v (rightsOf rs) := by
  obtain ⟨p, vs, rfl, hp, k⟩ := h
  exact .tup hp k.da
theorem canLay_rules : ∀ rs : List Rule3, (∀ r ∈ rs, GoodR r) → PyData.canLayAll0 (rs.map ruleOf) = true
  | [], _ => by simp [PyData.canLayAll0]
  | r :: rs, h => by
    have h0 := h r List.mem_cons_self
    have h1 : PyData.strOk r.1 = true := (words2_ok _ h0.w).1
    have h2 : PyData.strOk r.2.1 = true := (owns3_ok _ h0.o).1
    have h3 : PyData.strOk r.2.2 = true := wish_ok h0.z
    have ih := canLay_rules rs fun x hx => h x (List.mem_cons_of_mem _ hx)
    simp only [List.map_cons, PyData.canLayAll0, ruleOf, PyData.canLay0, h1, h2, h3, Bool.and_self, Bool.true_and]
    exact ih
theorem depth_rules : ∀ rs : List Rule3, PyData.depthAll (rs.map ruleOf) ≤ 1
  | [] => by simp [PyData.depthAll]
  | r :: rs => by
    have ih := depth_rules rs
    simp only [List.map_cons, PyData.depthAll, ruleOf, PyData.depth] at ih ⊢
    omega
theorem shaped_rights {rs : List Rule3} (h : Good rs) : SeqAt.shaped (rightsOf rs) = true := by
  have d := depth_rules rs
  unfold SeqAt.shaped rightsOf
  rw [Bool.and_eq_true]
  refine ⟨by simp only [PyData.canLay0]; exact canLay_rules rs h.r, decide_eq_true ?_⟩
  simp only [PyData.depth]
  omega
theorem eqv_none {rs : List Rule3} (h : PyData.eqv (rightsOf rs) (.tuple []) = false) : rs ≠ [] := fun e => by
  subst e
  simp [rightsOf, PyData.eqv, PyData.eqvAll] at h
def spLRights (T : Tbs) : Sp := fun vs H Q _ => ∃ (a : Addr) (most : Int), vs = [.ref a, .int most] ∧ 0 ≤ most ∧ most ≤ 6 ∧ Cup H a ∧ LamX.Tabs T H ∧ ∀ v rs H', RtAt H' v rs → Good rs → (∀ r ∈ rs, AbW r.2.2) → GrC T a H H' → Q v H'
section
variable {P : Program} {w : World} {K : PySem.W.Frag} {mg : Str → Option Value} {base : Heap} {T : Tbs}
theorem eq_d {X : Cx} {k : Nat} (hr : Room k X.A) {K : PySem.W.Frag} (h : X.K = K) : OpR X (compareOp .Eq) (rEqD K) := by
  subst h
  exact op_eqD (by have := hr.un; omega)
theorem has_someT (F : At K mg "_law_some" s_some) (zl : mg "len" = none) (HR : Has P w K mg base CX0 1 "_law_roll" ["_law_cup_here", "_law_many"] spRoll) : Has P w K mg base CX0 2 "_law_some" ["_law_cup_here", "_law_things"] (spSomeT K) := by
  refine F.ok0 sc_some (fun _ _ _ _ _ _ us hl => match us, hl with | [_, _], _ => rfl) (fun vs H Q E h => ?_) fun A outer s H vs Q E hr h => ?_
  · obtain ⟨a, b, g, s, xs, rfl, _⟩ := h
    rfl
  obtain ⟨a, b, g, sd, xs, rfl, ha, hc, hb, hne, hl, q⟩ := h
  refine ⟨_, pss_one (ps_ret (pe_ix ix_tup (pv 1) (Has.call HR hr pass0 (pa_cons (pv 0) (pa_cons (pe_callB call_len_seq rfl zl PySem.boot_len (pa_cons (pv 1) pa_nil)) pa_nil))) (fun _ _ => rfl))), ?_⟩
  have hpos : 0 < xs.length := List.length_pos_iff.mpr hne
  have hab : b ≠ a := fun e => by rw [e, ha] at hb; cases hb
  refine ⟨_, rfl, _, rfl, _, rfl, b, xs, rfl, .inr (SqT.of hb), a, g, sd, _, rfl, ha, hc, by omega, by omega, fun r g' s' r0 r1 hc' => ?_⟩
  have hb' : (upd H a (.lst [.int g', .int s'])) b = some (.tup xs) := by rw [upd_ne hab]; exact hb
  have hr2 : r.toNat < xs.length := by omega
  have er : r = ((r.toNat : Nat) : Int) := by omega
  refine ⟨b, xs, r, xs[r.toNat], rfl, rfl, SqT.of hb', ?_, q _ g' s' (List.getElem_mem hr2) hc'⟩
  have q2 : atI xs ((r.toNat : Nat) : Int) = some xs[r.toNat] := atI_nat (List.getElem?_eq_getElem hr2)
  rw [← er] at q2
  exact q2
abbrev lrN : List Str := ["_law_cup_here", "_law_most", "_law_found", "_law_turn", "_law_wish_here", "_law_rule"]
theorem sc_lrights : FnScope lrN ["_law_cup_here", "_law_most"] (defScope s_lrights) := ⟨rfl, rfl, rfl, by decide +kernel, rfl, by decide +kernel, by decide +kernel⟩
theorem has_lrights (F : At K mg "_law_rights" s_lrights) (zr : mg "range" = none) (HR : Has P w K mg base CX0 1 "_law_roll" ["_law_cup_here", "_law_many"] spRoll) (HS : Has P w K mg base CX0 2 "_law_some" ["_law_cup_here", "_law_things"] (spSome K)) (HST : Has P w K mg base CX0 2 "_law_some" ["_law_cup_here", "_law_things"] (spSomeT K))
    (HW : Has P w K mg base CX0 3 "_law_wish" ["_law_cup_here"] (spLWish T)) : Has P w K mg base CX0 4 "_law_rights" ["_law_cup_here", "_law_most"] (spLRights T) := by
  refine F.ok0 sc_lrights (fun _ _ _ _ _ _ us hl => match us, hl with | [_, _], _ => rfl) (fun vs H Q E h => ?_) fun A outer s H vs Q E hr h => ?_
  · obtain ⟨_, _, rfl, _⟩ := h
    rfl
  obtain ⟨a, most, rfl, m0, m6, hc, tb, q⟩ := h
  refine ⟨_, pss_cons (ps_set (i := 2) sc_lrights.nd rfl (Or.inl rfl) (pe_tup pa_nil))
    (pss_cons (ps_for PassesOwn.never rfl (pi_range1 rfl zr (pa_cons (Has.call HR (hr.mono (by decide)) pass0 (pa_cons (pv 0) (pa_cons (pe_op op_add (pv 1) pe_int) pa_nil))) pa_nil)) (pg_name (i := 3) sc_lrights.nd rfl (Or.inl rfl))
      (pss_cons (ps_set (i := 4) sc_lrights.nd rfl (Or.inl rfl) (pe_ifExp (PW.pt (pw_or (pt_cmpR (eq_d hr (K := K) rfl) (pv 2) (pe_tup pa_nil) (nomark _)) (pw_or1 (pt_cmpR op_gt (Has.call HR (hr.mono (by decide)) pass0 (pa_cons (pv 0) (pa_cons pe_int pa_nil))) pe_int (nomark _)))))
          (Has.call HW hr pass0 (pa_cons (pv 0) pa_nil)) (pe_ix ix_tup (Has.call HST (hr.mono (by decide)) pass0 (pa_cons (pv 0) (pa_cons (pv 2) pa_nil))) pe_int (fun _ _ => rfl))))
      (pss_cons (ps_set (i := 5) sc_lrights.nd rfl (Or.inl rfl) (pe_tup (pa_cons (Has.call HS (hr.mono (by decide)) pass0 (pa_cons (pv 0) (pa_cons (pe_lst (pa_cons pe_str (pa_cons pe_str (pa_cons pe_str pa_nil)))) pa_nil)))
          (pa_cons (Has.call HS (hr.mono (by decide)) pass0 (pa_cons (pv 0) (pa_cons (pe_lst (pa_cons pe_str (pa_cons pe_str (pa_cons pe_str (pa_cons pe_str pa_nil))))) pa_nil))) (pa_cons (pv 4) pa_nil)))))
      (pss_one (ps_set (i := 2) sc_lrights.nd rfl (Or.inl rfl) (pe_op op_catA (pv 2) (pe_tup (pa_cons (pv 5) pa_nil))))))))
    (pss_one (ps_ret (pv 2)))), ?_⟩
  refine ⟨by show 0 ≤ sizeLine; decide, fun pf hpf => ?_⟩
  have gc1 : GrC T a H (upd H pf (.tup [])) := (Gr.new tb hpf _).c hc
  obtain ⟨g, sd, ha, k⟩ := gc1.cup
  refine ⟨_, rfl, _, rfl, _, _, rfl, rfl, a, g, sd, most + 1, rfl, ha, k, by omega, by omega, fun r g1 s1 r0 r1 k1 => ?_⟩
  have gc2 := gc1.trans (GrC.put gc1.tabs ha k1)
  have npf : pf ≠ a := new_ne hc hpf
  refine ⟨r, rfl, by omega, by omega, for_it (n := r.toNat) walk_range (fun i σ H' => ∃ v rs o3 o4 o5, σ = [some (.ref a), some (.int most), some v, o3, o4, o5] ∧ RtAt H' v rs ∧ Good rs ∧ (∀ r ∈ rs, AbW r.2.2) ∧ rs.length ≤ i ∧ GrC T a H H')
    ⟨_, [], none, none, none, rfl, ⟨pf, [], rfl, by rw [upd_ne npf]; exact upd_same, True.intro⟩, ⟨Nat.zero_le _, fun _ h => (by cases h)⟩, fun _ h => (by cases h), Nat.le_refl _, gc2⟩ (fun _ _ _ _ _ => trivial) ?_ ?_⟩
  · rintro i x σ H2 H3 hi ⟨v, rs, o3, o4, o5, rfl, ⟨p, vs, rfl, hp, hv⟩, hg, hab, hl, gc⟩ ⟨rfl, rfl⟩
    have hi6 : i < 7 := by omega
    -- behind the wish
    have rest : ∀ (z : Str) (H4 : Hp), wishB z = true → AbW z → GrC T a H3 H4 → tSeq (tAsg (tTup (tCons (tCall (spSome K) [] E0 (tCons (tVar 0) (tCons (tLst (tCons (tC (.str "let")) (tCons (tC (.str "let")) (tCons (tC (.str "bar")) tNil)))) tNil)))
          (tCons (tCall (spSome K) [] E0 (tCons (tVar 0) (tCons (tLst (tCons (tC (.str "give")) (tCons (tC (.str "hear")) (tCons (tC (.str "both")) (tCons (tC (.str "both")) tNil))))) tNil))) (tCons (tVar 4) tNil)))) (gName 5))
          (tAsg (tOp (rCatA K) (tVar 2) (tTup (tCons (tVar 5) tNil))) (gName 2)) { nx := fun σ H' => ∃ v rs o3 o4 o5, σ = [some (.ref a), some (.int most), some v, o3, o4, o5] ∧ RtAt H' v rs ∧ Good rs ∧ (∀ r ∈ rs, AbW r.2.2) ∧ rs.length ≤ i + 1 ∧ GrC T a H H', rt := Q } [some (.ref a), some (.int most), some (.ref p), some (.int (0 + (i : Int))), some (.str z), o5] H4 := by
      intro z H4 hz hzab g4
      have cupAt : ∀ (H5 : Hp) (o : HO) (p1 : Addr), GrC T a H3 H5 → H5 p1 = none → ∃ g7 s7, (upd H5 p1 o) a = some (.lst [.int g7, .int s7]) ∧ CupOk g7 s7 ∧ a ≠ p1 ∧ ∀ g9 s9, CupOk g9 s9 → GrC T a H3 (upd (upd H5 p1 o) a (.lst [.int g9, .int s9])) := by
        intro H5 o p1 g5 hp1
        obtain ⟨g7, s7, ha7, k7⟩ := g5.cup
        have np1 : p1 ≠ a := new_ne g5.cup hp1
        have gn := g5.new hp1 o
        have ha8 : (upd H5 p1 o) a = some (.lst [.int g7, .int s7]) := by rw [upd_ne (Ne.symm np1)]; exact ha7
        exact ⟨g7, s7, ha8, k7, Ne.symm np1, fun g9 s9 k9 => gn.trans (GrC.put gn.tabs ha8 k9)⟩
      refine ⟨_, rfl, (by show 3 ≤ sizeLine; decide), fun pa hpa => ?_⟩
      obtain ⟨g1', s1', a1, c1, n1, gg1⟩ := cupAt H4 (.lst ([V.str "let", V.str "let", V.str "bar"])) pa g4 hpa
      refine ⟨a, pa, g1', s1', [V.str "let", V.str "let", V.str "bar"], rfl, a1, c1, upd_same, n1, by decide, by decide, fun y1 ga sa hy1 ka => ?_⟩
      obtain ⟨s1, h1, rfl⟩ : ∃ s, s ∈ (["let", "let", "bar"] : List Str) ∧ V.str s = y1 := List.mem_map.mp hy1
      have g5 := gg1 ga sa ka
      refine ⟨_, rfl, (by show 4 ≤ sizeLine; decide), fun pb hpb => ?_⟩
      obtain ⟨g2', s2', a2, c2, n2, gg2⟩ := cupAt _ (.lst ([V.str "give", V.str "hear", V.str "both", V.str "both"])) pb g5 hpb
      refine ⟨a, pb, g2', s2', [V.str "give", V.str "hear", V.str "both", V.str "both"], rfl, a2, c2, upd_same, n2, by decide, by decide, fun y2 gb sb hy2 kb => ?_⟩
      obtain ⟨s2, h2, rfl⟩ : ∃ s, s ∈ (["give", "hear", "both", "both"] : List Str) ∧ V.str s = y2 := List.mem_map.mp hy2
      have g6 := gg2 gb sb kb
      generalize eH6 : upd (upd (upd (upd H4 pa (.lst ([V.str "let", V.str "let", V.str "bar"]))) a (.lst [.int ga, .int sa])) pb (.lst ([V.str "give", V.str "hear", V.str "both", V.str "both"]))) a (.lst [.int gb, .int sb]) = H6 at g6
      refine ⟨_, rfl, (by show 3 ≤ sizeLine; decide), fun p7 hp7 => ?_⟩
      have g7 := g6.new hp7 (.tup [V.str s1, V.str s2, V.str z])
      refine ⟨_, rfl, _, rfl, (by show 1 ≤ sizeLine; decide), fun p8 hp8 => ?_⟩
      have g8 := g7.new hp8 (.tup [V.ref p7])
      have n78 : p7 ≠ p8 := fun e => by rw [← e, upd_same] at hp8; cases hp8
      have gr : GoodR (s1, s2, z) := by
        refine ⟨?_, ?_, hz⟩
        · have : ∀ s ∈ (["let", "let", "bar"] : List Str), s ∈ words2 := by decide +kernel
          exact this s1 h1
        · have : ∀ s ∈ (["give", "hear", "both", "both"] : List Str), s ∈ owns3 := by decide +kernel
          exact this s2 h2
      have fin : ∀ (q0 : Addr) (H9 : Hp) (σ : L2.St), (∃ o3 o4 o5, σ = [some (.ref a), some (.int most), some (.ref q0), o3, o4, o5]) → GrC T a H3 H9 → H9 q0 = some (.tup (vs ++ [V.ref p7])) → H9 p7 = some (.tup [V.str s1, V.str s2, V.str z]) →
          ∃ v rs o3 o4 o5, σ = [some (.ref a), some (.int most), some v, o3, o4, o5] ∧ RtAt H9 v rs ∧ Good rs ∧ (∀ r ∈ rs, AbW r.2.2) ∧ rs.length ≤ i + 1 ∧ GrC T a H H9 := by
        rintro q0 H9 σ ⟨o3, o4, o5, rfl⟩ g9 e9 e7
        refine ⟨_, rs ++ [(s1, s2, z)], o3, o4, o5, rfl, ⟨q0, _, rfl, e9, RulesAt.snoc (hv.keep fun b zs hb => g9.tup gc.cup hb) ⟨p7, rfl, e7⟩⟩, ⟨?_, fun r hr => ?_⟩, fun r hr => ?_, ?_, gc.trans g9⟩
        · rw [List.length_append, List.length_singleton]; omega
        · rcases List.mem_append.mp hr with h | h
          · exact hg.r r h
          · rw [List.mem_singleton.mp h]; exact gr
        · rcases List.mem_append.mp hr with h | h
          · exact hab r h
          · rw [List.mem_singleton.mp h]; exact hzab
        · rw [List.length_append, List.length_singleton]; omega
      have e7 : (upd (upd H6 p7 (.tup [V.str s1, V.str s2, V.str z])) p8 (.tup [V.ref p7])) p7 = some (.tup [V.str s1, V.str s2, V.str z]) := by rw [upd_ne n78]; exact upd_same
      refine ⟨p, p8, vs, [V.ref p7], rfl, rfl, SqT.of (g8.tup gc.cup hp), SqT.of upd_same, ?_, fun h0 => ?_, fun _ h => (by cases h), fun _ _ p9 hp9 => ?_⟩
      · rw [hv.len]
        exact Nat.le_trans (show rs.length + 1 ≤ 20 by omega) (by decide)
      · exact fin p8 _ _ ⟨_, _, _, rfl⟩ g8 (by rw [h0]; exact upd_same) e7
      · have n79 : p7 ≠ p9 := fun e => by rw [← e, e7] at hp9; cases hp9
        exact fin p9 _ _ ⟨_, _, _, rfl⟩ (g8.new hp9 _) upd_same (by rw [upd_ne n79]; exact e7)
    have base0 : GrC T a H3 H3 := (Gr.refl gc.tabs).c gc.cup
    refine ⟨_, rfl, by show 0 ≤ sizeLine; decide, fun p1 hp1 => ?_⟩
    have g1 := base0.new hp1 (.tup [])
    have hv1 : RtAt (upd H3 p1 (.tup [])) (.ref p) rs := ⟨p, vs, rfl, g1.tup gc.cup hp, hv.keep fun b zs hb => g1.tup gc.cup hb⟩
    refine ⟨rightsOf rs, .tuple [], hv1.da.dp, .tup (SqT.of upd_same) .nil, shaped_rights hg, by decide, _, rfl, ?_⟩
    cases ee : PyData.eqv (rightsOf rs) (.tuple []) with
    | true => exact iteT (iteT ⟨_, rfl, a, rfl, g1.cup, g1.tabs, fun z H5 hz hzab g5 => rest z H5 hz hzab (g1.trans g5)⟩)
    | false =>
      refine iteF ?_
      obtain ⟨g7, s7, ha7, k7⟩ := g1.cup
      refine ⟨_, rfl, a, g7, s7, 3, rfl, ha7, k7, by decide, by decide, fun r2 g8 s8 _ _ k8 => ⟨_, _, rfl, rfl, _, rfl, ite2 (fun _ => ?_) (fun _ => ?_)⟩⟩
      · have gz := g1.trans (GrC.put g1.tabs ha7 k8)
        exact ⟨_, rfl, a, rfl, gz.cup, gz.tabs, fun z H5 hz hzab g5 => rest z H5 hz hzab (gz.trans g5)⟩
      · have g9 := g1.trans (GrC.put g1.tabs ha7 k8)
        obtain ⟨g10, s10, ha10, k10⟩ := g9.cup
        have hp9 := g9.tup gc.cup hp
        have hne : vs ≠ [] := fun e => eqv_none ee (List.length_eq_zero_iff.mp (by rw [← hv.len, e]; rfl))
        refine ⟨_, rfl, _, rfl, a, p, g10, s10, vs, rfl, ha10, k10, hp9, hne, by rw [hv.len]; omega, fun y g11 s11 hy k11 => ?_⟩
        have g12 := g9.trans (GrC.put g9.tabs ha10 k11)
        obtain ⟨r3, hr3, q3, rfl, hq3⟩ := hv.mem hy
        refine ⟨q3, _, 2, .str r3.2.2, rfl, rfl, SqT.of (g12.tup gc.cup hq3), rfl, ?_⟩
        exact rest r3.2.2 _ (hg.r r3 hr3).z (hab r3 hr3) g12
  · rintro σ H2 ⟨v, rs, o3, o4, o5, rfl, hv, hg, hab, hl, gc⟩
    exact ⟨_, rfl, q v rs H2 hv hg hab gc⟩
end
end Bk

set_option Elab.async false
set_option linter.all false
set_option maxRecDepth 100000
set_option maxHeartbeats 4000000
namespace Bk
open PySem PySem.Spec PyProof.Rows L2
/-! ### whether a topic is told as due -/
def dueOf (rs : List Rule3) (deed : Str) (due : Bool) (l : List Str) : List Str := l.filter fun t => decide (lawLets rs deed t = due)
def toldRight (rs : List Rule3) (deed : Str) (due : Bool) (l : List Str) : Option Str → Bool
  | none => decide (dueOf rs deed due l = [])
  | some t => !decide (dueOf rs deed due l = []) && decide (lawLets rs deed t = due)
def optV : Option Str → V
  | none => .non
  | some t => .str t
def spToldR (T : Tbs) : Sp := fun vs H Q _ => ∃ (x : Option Str) (v : V) (rs : List Rule3) (deed : Str) (p : Addr) (l : List Str) (due : Bool), vs = [optV x, v, .str deed, .ref p, .bl due] ∧ (∀ t, x = some t → topicB t = true) ∧ Da H v (rightsOf rs) ∧ Good rs ∧ H p = some (.lst (l.map V.str)) ∧ (∀ t ∈ l, topicB t = true) ∧ l.length ≤ 1000 ∧ LamX.Tabs T H ∧
  ∀ H', Gr T H H' → Q (.bl (toldRight rs deed due l x)) H'
section
variable {P : Program} {w : World} {K : PySem.W.Frag} {mg : Str → Option Value} {base : Heap} {T : Tbs}
abbrev trN : List Str := ["_law_told", "_law_rights_here", "_law_deed", "_law_some_here", "_law_is_due", "_law_due", "_law_topic"]
theorem dec_bl (a b : Bool) : decide (V.bl a = V.bl b) = decide (a = b) := by cases a <;> cases b <;> decide
end
end Bk

set_option Elab.async false
set_option linter.all false
set_option maxRecDepth 100000
set_option maxHeartbeats 4000000
namespace Bk
open PySem PySem.Spec PyProof.Rows L2
/-! ### what is told, counted among the topics of three names -/
def someL (wi : Str) : List Str := (foundN 5).filter fun t => metB t wi
def wordOf (due : Bool) : Str := if due = true then "let" else "bar"
theorem some_topic {wi t : Str} (h : t ∈ someL wi) : topicB t = true ∧ metB t wi = true := by
  obtain ⟨h1, h2⟩ := List.mem_filter.mp h
  exact ⟨found_topic h1, h2⟩
theorem told_word {rs : List Rule3} (hg : Good rs) (deed t : Str) (due : Bool) : Told (rowsOf rs deed) 0 (wordOf due) t ↔ lawLets rs deed t = due := by
  rw [← lets_eq]
  cases due with
  | true => exact told_let deed t
  | false => exact told_bar hg deed t
theorem zz_some {rs : List Rule3} (hg : Good rs) (hab : ∀ r ∈ rs, AbW r.2.2) {wi deed t : Str} (hw : wishB wi = true) (haw : AbW wi) (ht : topicB t = true) (hm : metB t wi = true) : zzT t ∈ someL wi ∧ lawLets rs deed (zzT t) = lawLets rs deed t :=
  ⟨List.mem_filter.mpr ⟨zzT_found ht, by rw [zz_met ht hw haw]; exact hm⟩, zz_lets ht hg hab⟩
theorem due_mem {rs : List Rule3} {deed : Str} {due : Bool} {l : List Str} {t : Str} : t ∈ dueOf rs deed due l ↔ t ∈ l ∧ lawLets rs deed t = due := by
  unfold dueOf
  rw [List.mem_filter, decide_eq_true_eq]
/-- one is told, just if one of those is due -/
theorem one_due {rs : List Rule3} (hg : Good rs) (hab : ∀ r ∈ rs, AbW r.2.2) {wi deed : Str} (hw : wishB wi = true) (haw : AbW wi) (due : Bool) : OneTold (rowsOf rs deed) (wordOf due) wi ↔ dueOf rs deed due (someL wi) ≠ [] := by
  constructor
  · rintro ⟨t, ht, hm, hT⟩ e
    obtain ⟨h1, h2⟩ := zz_some (deed := deed) hg hab hw haw ht hm
    have : zzT t ∈ dueOf rs deed due (someL wi) := due_mem.mpr ⟨h1, h2.trans ((told_word hg deed t due).mp hT)⟩
    rw [e] at this
    cases this
  · intro h
    obtain ⟨t, hm⟩ := List.exists_mem_of_ne_nil _ h
    obtain ⟨h1, h2⟩ := due_mem.mp hm
    obtain ⟨h3, h4⟩ := some_topic h1
    exact ⟨t, h3, h4, (told_word hg deed t due).mpr h2⟩
theorem none_due {rs : List Rule3} (hg : Good rs) (hab : ∀ r ∈ rs, AbW r.2.2) {wi deed : Str} (hw : wishB wi = true) (haw : AbW wi) (due : Bool) : NoneTold (rowsOf rs deed) (wordOf due) wi ↔ dueOf rs deed due (someL wi) = [] := by
  have h := one_due (deed := deed) hg hab hw haw due
  constructor
  · intro n
    refine Classical.byContradiction fun c => ?_
    obtain ⟨t, a, b, d⟩ := h.mpr c
    exact n t a b d
  · intro e t a b d
    exact h.mp ⟨t, a, b, d⟩ e
/-- what is let of some is all of them, just if none of them is barred -/
theorem lets_all (rs : List Rule3) (deed : Str) : ∀ l : List Str, (dueOf rs deed true l = l ↔ dueOf rs deed false l = [])
  | [] => by simp [dueOf]
  | t :: l => by
    have ih := lets_all rs deed l
    unfold dueOf at ih ⊢
    cases e : lawLets rs deed t with
    | true =>
      rw [List.filter_cons_of_pos (by rw [e]; decide), List.filter_cons_of_neg (by rw [e]; decide), ← ih]
      constructor
      · intro h; exact (List.cons.inj h).2
      · intro h; rw [h]
    | false =>
      rw [List.filter_cons_of_neg (by rw [e]; decide), List.filter_cons_of_pos (by rw [e]; decide)]
      constructor
      · intro h
        have := congrArg List.length h
        have h2 := List.length_filter_le (fun t => decide (lawLets rs deed t = true)) l
        rw [List.length_cons] at this
        omega
      · intro h; cases h
/-- the word for how much is let -/
def partW (rs : List Rule3) (deed wi : Str) : Str := if dueOf rs deed true (someL wi) = [] then "none" else if dueOf rs deed true (someL wi) = someL wi then "all" else "some"
/-- part_let tells it -/
theorem part_is {rs : List Rule3} (hg : Good rs) (hab : ∀ r ∈ rs, AbW r.2.2) {wi deed : Str} (hw : wishB wi = true) (haw : AbW wi) {Q : Str → Prop}
    (h : (NoneTold (rowsOf rs deed) "let" wi → Q "none") ∧ (OneTold (rowsOf rs deed) "let" wi → NoneTold (rowsOf rs deed) "bar" wi → Q "all") ∧ (OneTold (rowsOf rs deed) "let" wi → OneTold (rowsOf rs deed) "bar" wi → Q "some")) : Q (partW rs deed wi) := by
  have n1 := none_due (deed := deed) hg hab hw haw true
  have o1 := one_due (deed := deed) hg hab hw haw true
  have n2 := none_due (deed := deed) hg hab hw haw false
  have o2 := one_due (deed := deed) hg hab hw haw false
  unfold partW
  by_cases c : dueOf rs deed true (someL wi) = []
  · rw [if_pos c]
    exact h.1 (n1.mpr c)
  · rw [if_neg c]
    by_cases d : dueOf rs deed true (someL wi) = someL wi
    · rw [if_pos d]
      exact h.2.1 (o1.mpr c) (n2.mpr ((lets_all rs deed _).mp d))
    · rw [if_neg d]
      exact h.2.2 (o1.mpr c) (o2.mpr fun z => d ((lets_all rs deed _).mpr z))
/-- let_topic and barred_topic tell as is due -/
theorem told_is {rs : List Rule3} (hg : Good rs) (hab : ∀ r ∈ rs, AbW r.2.2) {wi deed : Str} (hw : wishB wi = true) (haw : AbW wi) (due : Bool) :
    (∀ t, topicB t = true → metB t wi = true → Told (rowsOf rs deed) 0 (wordOf due) t → toldRight rs deed due (someL wi) (some t) = true) ∧
    ((∀ t, topicB t = true → metB t wi = true → ¬ Told (rowsOf rs deed) 0 (wordOf due) t) → toldRight rs deed due (someL wi) none = true) := by
  constructor
  · intro t ht hm hT
    have h1 := (one_due (deed := deed) hg hab hw haw due).mp ⟨t, ht, hm, hT⟩
    show (!decide (dueOf rs deed due (someL wi) = []) && decide (lawLets rs deed t = due)) = true
    rw [decide_eq_false h1, decide_eq_true ((told_word hg deed t due).mp hT)]
    rfl
  · intro h
    exact decide_eq_true ((none_due (deed := deed) hg hab hw haw due).mp h)
end Bk

set_option Elab.async false
set_option linter.all false
set_option maxRecDepth 100000
set_option maxHeartbeats 4000000
/-! what a def does, told of data alone -/
namespace Dl
open PySem PySem.Spec PyProof.Rows L2
abbrev Tbs := List (Addr × Str)
def CupOk (g s : Int) : Prop := 0 ≤ g ∧ 0 ≤ s ∧ s < 4294967296
def Cup (H : Hp) (a : Addr) : Prop := ∃ g s, H a = some (.lst [.int g, .int s]) ∧ CupOk g s
/-- data, the cup, a def of the top by its name, a list of a slot's own -/
inductive Dv where
  | d (x : PyData) | cup | fn (x : Str) | own (xs : List PyData) | ty (n : String)
abbrev Rho := List (Option Dv)
abbrev DE := Rho → (Dv → Prop) → Prop
abbrev DT := Rho → (Bool → Prop) → Prop
abbrev DAs := Rho → (List Dv → Prop) → Prop
structure DEnds where
  nx : Rho → Prop
  rt : Dv → Prop
  bk : Rho → Prop := fun _ => False
  ct : Rho → Prop := fun _ => False
abbrev DS := DEnds → Rho → Prop
/-! ### data on the heap -/
def hide (hid : List Addr) (H : Hp) : Hp := fun a => if a ∈ hid then none else H a
theorem hide_some {hid : List Addr} {H : Hp} {a : Addr} {o : HO} (h : hide hid H a = some o) : a ∉ hid ∧ H a = some o := by
  unfold hide at h
  split at h
  · cases h
  · exact ⟨by assumption, h⟩
theorem hide_of {hid : List Addr} {H : Hp} {a : Addr} {o : HO} (h1 : a ∉ hid) (h2 : H a = some o) : hide hid H a = some o := by
  unfold hide
  rw [if_neg h1]
  exact h2
/-- whether every tuple stands on the heap -/
def Md : Prop := False
def SqH (K : PySem.W.Frag) (H : Hp) (a : Addr) (xs : List V) : Prop := SqT K H a xs ∧ (Md → H a = some (.tup xs))
theorem SqH.of {K : PySem.W.Frag} {H : Hp} {a : Addr} {xs : List V} (h : H a = some (.tup xs)) : SqH K H a xs := ⟨SqT.of h, fun _ => h⟩
mutual
inductive Dd (K : PySem.W.Frag) (H : Hp) : V → PyData → Prop
  | non : Dd K H .non .none
  | bl (b : Bool) : Dd K H (.bl b) (.bool b)
  | int (i : Int) : Dd K H (.int i) (.int i)
  | str (x : Str) : PyData.strOk x = true → Dd K H (.str x) (.str x)
  | lst {a : Addr} {xs : List V} {ds : List PyData} : H a = some (.lst xs) → DdAll K H xs ds → Dd K H (.ref a) (.list ds)
  | tup {a : Addr} {xs : List V} {ds : List PyData} : SqH K H a xs → DdAll K H xs ds → Dd K H (.ref a) (.tuple ds)
inductive DdAll (K : PySem.W.Frag) (H : Hp) : List V → List PyData → Prop
  | nil : DdAll K H [] []
  | cons {v : V} {vs : List V} {d : PyData} {ds : List PyData} : Dd K H v d → DdAll K H vs ds → DdAll K H (v :: vs) (d :: ds)
end
/-- H' knows what H knows -/
def Mono (H H' : Hp) : Prop := ∀ b o, H b = some o → (∀ ps, o ≠ .tbl ps) → H' b = some o
theorem Mono.sqT {K : PySem.W.Frag} {H H' : Hp} (m : Mono H H') {a : Addr} {xs : List V} (h : SqT K H a xs) : SqT K H' a xs := by
  rcases h with (h | ⟨o, h⟩) | h
  · exact .inl (.inl (m _ _ h (fun _ z => by cases z)))
  · exact .inl (.inr ⟨o, m _ _ h (fun _ z => by cases z)⟩)
  · exact .inr h
theorem Mono.sqH {K : PySem.W.Frag} {H H' : Hp} (m : Mono H H') {a : Addr} {xs : List V} (h : SqH K H a xs) : SqH K H' a xs := ⟨m.sqT h.1, fun z => m _ _ (h.2 z) (fun _ z => by cases z)⟩
mutual
theorem Dd.mono {K : PySem.W.Frag} {H H' : Hp} (m : Mono H H') : ∀ (d : PyData) (v : V), Dd K H v d → Dd K H' v d
  | .none, _, h => by cases h; exact .non
  | .bool b, _, h => by cases h; exact .bl b
  | .int i, _, h => by cases h; exact .int i
  | .str x, _, h => by cases h with | str _ k => exact .str x k
  | .list ds, _, h => by
    cases h with
    | lst q r => exact .lst (m _ _ q (fun _ z => by cases z)) (DdAll.mono m ds _ r)
  | .tuple ds, _, h => by
    cases h with
    | tup q r => exact .tup (m.sqH q) (DdAll.mono m ds _ r)
  | .dict _, _, h => by cases h
theorem DdAll.mono {K : PySem.W.Frag} {H H' : Hp} (m : Mono H H') : ∀ (ds : List PyData) (vs : List V), DdAll K H vs ds → DdAll K H' vs ds
  | [], _, h => by cases h; exact .nil
  | d :: ds, _, h => by
    cases h with
    | cons x y => exact .cons (Dd.mono m d _ x) (DdAll.mono m ds _ y)
end
mutual
theorem Dd.dp {K : PySem.W.Frag} {H : Hp} : ∀ (d : PyData) (v : V), Dd K H v d → Dp K H v d
  | .none, _, h => by cases h; exact .non
  | .bool b, _, h => by cases h; exact .bl b
  | .int i, _, h => by cases h; exact .int i
  | .str x, _, h => by cases h; exact .str x
  | .list ds, _, h => by
    cases h with
    | lst q r => exact .lst (SqL.of q) (DdAll.dp ds _ r)
  | .tuple ds, _, h => by
    cases h with
    | tup q r => exact .tup q.1 (DdAll.dp ds _ r)
  | .dict _, _, h => by cases h
theorem DdAll.dp {K : PySem.W.Frag} {H : Hp} : ∀ (ds : List PyData) (vs : List V), DdAll K H vs ds → DpAll K H vs ds
  | [], _, h => by cases h; exact .nil
  | d :: ds, _, h => by
    cases h with
    | cons x y => exact .cons (Dd.dp d _ x) (DdAll.dp ds _ y)
end
mutual
theorem Dd.can {K : PySem.W.Frag} {H : Hp} : ∀ (d : PyData) (v : V), Dd K H v d → d.canLay0 = true
  | .none, _, _ => by simp only [PyData.canLay0]
  | .bool b, _, _ => by simp only [PyData.canLay0]
  | .int i, _, _ => by simp only [PyData.canLay0]
  | .str x, _, h => by cases h with | str _ k => simp only [PyData.canLay0]; exact k
  | .list ds, _, h => by
    cases h with
    | lst q r => simp only [PyData.canLay0]; exact DdAll.can ds _ r
  | .tuple ds, _, h => by
    cases h with
    | tup q r => simp only [PyData.canLay0]; exact DdAll.can ds _ r
  | .dict _, _, h => by cases h
theorem DdAll.can {K : PySem.W.Frag} {H : Hp} : ∀ (ds : List PyData) (vs : List V), DdAll K H vs ds → PyData.canLayAll0 ds = true
  | [], _, _ => by simp only [PyData.canLayAll0]
  | d :: ds, _, h => by
    cases h with
    | cons x y => simp only [PyData.canLayAll0, Dd.can d _ x, DdAll.can ds _ y, Bool.and_self]
end
theorem Dd.shaped {K : PySem.W.Frag} {H : Hp} {d : PyData} {v : V} (h : Dd K H v d) (k : d.depth ≤ 64) : SeqAt.shaped d = true := by
  unfold SeqAt.shaped
  rw [h.can, decide_eq_true k]
  rfl
theorem DdAll.len {K : PySem.W.Frag} {H : Hp} : ∀ {vs : List V} {ds : List PyData}, DdAll K H vs ds → vs.length = ds.length
  | [], _, h => by cases h; rfl
  | v :: vs, _, h => by
    cases h with
    | cons x y => rw [List.length_cons, List.length_cons, DdAll.len y]
theorem DdAll.at {K : PySem.W.Frag} {H : Hp} : ∀ {vs : List V} {ds : List PyData} {i : Nat} {v : V}, DdAll K H vs ds → vs[i]? = some v → ∃ d, ds[i]? = some d ∧ Dd K H v d
  | [], _, i, v, h, e => by simp at e
  | x :: vs, _, 0, v, h, e => by
    cases h with
    | cons p q =>
      obtain rfl : x = v := by simpa using e
      exact ⟨_, rfl, p⟩
  | x :: vs, _, i + 1, v, h, e => by
    cases h with
    | cons p q =>
      obtain ⟨d, h1, h2⟩ := DdAll.at q (i := i) (v := v) (by simpa using e)
      exact ⟨d, by simpa using h1, h2⟩
theorem DdAll.to {K : PySem.W.Frag} {H : Hp} : ∀ {vs : List V} {ds : List PyData} {i : Nat} {d : PyData}, DdAll K H vs ds → ds[i]? = some d → ∃ v, vs[i]? = some v ∧ Dd K H v d
  | [], _, i, d, h, e => by cases h; simp at e
  | x :: vs, _, 0, d, h, e => by
    cases h with
    | @cons _ _ d1 _ p q =>
      obtain rfl : d1 = d := by simpa using e
      exact ⟨_, rfl, p⟩
  | x :: vs, _, i + 1, d, h, e => by
    cases h with
    | cons p q =>
      obtain ⟨v, h1, h2⟩ := DdAll.to q (i := i) (d := d) (by simpa using e)
      exact ⟨v, by simpa using h1, h2⟩
theorem DdAll.append {K : PySem.W.Frag} {H : Hp} : ∀ {vs ws : List V} {ds es : List PyData}, DdAll K H vs ds → DdAll K H ws es → DdAll K H (vs ++ ws) (ds ++ es)
  | [], _, _, _, h, k => by cases h; exact k
  | _ :: _, _, _, _, h, k => by
    cases h with
    | cons x y => exact .cons x (DdAll.append y k)
theorem DdAll.take {K : PySem.W.Frag} {H : Hp} : ∀ (n : Nat) {vs : List V} {ds : List PyData}, DdAll K H vs ds → DdAll K H (vs.take n) (ds.take n)
  | 0, _, _, _ => .nil
  | n + 1, [], _, h => by cases h; exact .nil
  | n + 1, _ :: _, _, h => by
    cases h with
    | cons x y => exact .cons x (DdAll.take n y)
theorem DdAll.drop {K : PySem.W.Frag} {H : Hp} : ∀ (n : Nat) {vs : List V} {ds : List PyData}, DdAll K H vs ds → DdAll K H (vs.drop n) (ds.drop n)
  | 0, _, _, h => h
  | n + 1, [], _, h => by cases h; exact .nil
  | n + 1, _ :: _, _, h => by
    cases h with
    | cons x y => exact DdAll.drop n y
theorem DdAll.strs {K : PySem.W.Frag} {H : Hp} : ∀ {l : List Str}, (∀ s ∈ l, PyData.strOk s = true) → DdAll K H (l.map V.str) (l.map PyData.str)
  | [], _ => .nil
  | s :: l, h => .cons (.str s (h s List.mem_cons_self)) (DdAll.strs fun x hx => h x (List.mem_cons_of_mem _ hx))
/-! ### where data is read -/
structure DC where
  K : PySem.W.Frag
  T : Tbs
  c : Option Addr
  hid0 : List Addr
  H0 : Hp
/-- no data stands there -/
def Fr (H : Hp) (b : Addr) : Prop := ∀ o, H b = some o → ∃ ps, o = .tbl ps
theorem Fr.of {H : Hp} {b : Addr} (h : H b = none) : Fr H b := fun o e => by rw [h] at e; cases e
/-- all but the cup goes on -/
def Ext (c : Option Addr) (H H' : Hp) : Prop := ∀ b o, c ≠ some b → H b = some o → (∀ ps, o ≠ .tbl ps) → H' b = some o
theorem Ext.refl {c : Option Addr} {H : Hp} : Ext c H H := fun _ _ _ h _ => h
theorem Ext.trans {c : Option Addr} {H H1 H2 : Hp} (x : Ext c H H1) (y : Ext c H1 H2) : Ext c H H2 := fun b o n h k => y b o n (x b o n h k) k
theorem Ext.new {c : Option Addr} {H : Hp} {p : Addr} (hp : H p = none) (o : HO) : Ext c H (upd H p o) := fun b u _ h _ => by
  rw [upd_ne (ne_of_none h hp)]
  exact h
structure HpOk (C : DC) (hid : List Addr) (H : Hp) : Prop where
  tabs : LamX.Tabs C.T H
  cup : ∀ a, C.c = some a → a ∈ hid ∧ Cup H a
  some : ∀ a ∈ hid, ∃ xs, H a = some (.lst xs)
  sub : ∀ a ∈ C.hid0, a ∈ hid
  ext : Ext C.c C.H0 H
theorem HpOk.nn {C : DC} {hid : List Addr} {H : Hp} (h : HpOk C hid H) (a : Addr) (ha : a ∈ hid) (z : H a = none) : False := by
  obtain ⟨xs, e⟩ := h.some a ha
  rw [z] at e
  cases e
theorem tabs_new {T : Tbs} {H : Hp} (h : LamX.Tabs T H) {p : Addr} (hp : H p = none) (o : HO) : LamX.Tabs T (upd H p o) := by
  have e : ∀ b u, H b = some u → upd H p o b = some u := fun b u q => by rw [upd_ne (ne_of_none q hp)]; exact q
  exact h.ext e
theorem HpOk.new {C : DC} {hid : List Addr} {H : Hp} (h : HpOk C hid H) {p : Addr} (hp : H p = none) (o : HO) : HpOk C hid (upd H p o) where
  tabs := tabs_new h.tabs hp o
  cup := fun a e => ⟨(h.cup a e).1, by
    obtain ⟨g, s, k, z⟩ := (h.cup a e).2
    exact ⟨g, s, by rw [upd_ne (ne_of_none k hp)]; exact k, z⟩⟩
  some := fun a ha => by
    by_cases e : a = p
    · subst e
      obtain ⟨xs, z⟩ := h.some a ha
      rw [hp] at z; cases z
    · rw [upd_ne e]; exact h.some a ha
  sub := h.sub
  ext := h.ext.trans (Ext.new hp o)
theorem HpOk.newNo {C : DC} {hid : List Addr} {H : Hp} (h : HpOk C hid H) {p : Addr} (hp : H p = none) : p ∉ hid := fun z => h.nn p z hp
theorem Ext.mono {C : DC} {hid : List Addr} {H H' : Hp} (x : Ext C.c H H') (h : HpOk C hid H) : Mono (hide hid H) (hide hid H') := fun b o e k => by
  obtain ⟨h1, h2⟩ := hide_some e
  exact hide_of h1 (x b o (fun z => h1 (h.cup b z).1) h2 k)
/-- what a value holds -/
def VR (C : DC) (hid : List Addr) (H : Hp) : V → Dv → Prop
  | v, .d x => Dd C.K (hide hid H) v x
  | v, .cup => ∃ a, C.c = some a ∧ v = .ref a
  | v, .fn x => v = .ref (He.ga C.K x)
  | v, .ty n => v = .ty n
  | v, .own xs => ∃ p vs, v = .ref p ∧ p ∈ hid ∧ C.c ≠ some p ∧ (p ∉ C.hid0 ∧ Fr C.H0 p) ∧ H p = some (.lst vs) ∧ DdAll C.K (hide hid H) vs xs
theorem VR.ext {C : DC} {hid : List Addr} {H H' : Hp} (x : Ext C.c H H') (h : HpOk C hid H) {v : V} : ∀ {a : Dv}, VR C hid H v a → VR C hid H' v a
  | .d _, k => Dd.mono (x.mono h) _ _ k
  | .cup, k => k
  | .fn _, k => k
  | .ty _, k => k
  | .own _, ⟨p, vs, h1, h2, h3, h5, h4, k⟩ => ⟨p, vs, h1, h2, h3, h5, x p _ h3 h4 (fun _ z => by cases z), DdAll.mono (x.mono h) _ _ k⟩
/-- slots -/
structure SR (C : DC) (hid : List Addr) (σ : L2.St) (H : Hp) (ρ : Rho) : Prop where
  len : σ.length = ρ.length
  at' : ∀ (i : Nat) (x : Dv), ρ[i]? = some (some x) → ∃ v : V, σ[i]? = some (some v) ∧ VR C hid H v x
theorem SR.ext {C : DC} {hid : List Addr} {σ : L2.St} {H H' : Hp} {ρ : Rho} (x : Ext C.c H H') (h : HpOk C hid H) (s : SR C hid σ H ρ) : SR C hid σ H' ρ :=
  ⟨s.len, fun i y e => by
    obtain ⟨v, h1, h2⟩ := s.at' i y e
    exact ⟨v, h1, h2.ext x h⟩⟩
inductive VRs (C : DC) (hid : List Addr) (H : Hp) : List V → List Dv → Prop
  | nil : VRs C hid H [] []
  | cons {v : V} {vs : List V} {x : Dv} {xs : List Dv} : VR C hid H v x → VRs C hid H vs xs → VRs C hid H (v :: vs) (x :: xs)
theorem VRs.ext {C : DC} {hid : List Addr} {H H' : Hp} (x : Ext C.c H H') (h : HpOk C hid H) : ∀ {vs : List V} {xs : List Dv}, VRs C hid H vs xs → VRs C hid H' vs xs
  | _, _, .nil => .nil
  | _, _, .cons a b => .cons (a.ext x h) (VRs.ext x h b)
theorem VRs.len {C : DC} {hid : List Addr} {H : Hp} : ∀ {vs : List V} {xs : List Dv}, VRs C hid H vs xs → vs.length = xs.length
  | _, _, .nil => rfl
  | _, _, .cons a b => by rw [List.length_cons, List.length_cons, VRs.len b]
/-! ### readings that tell of data -/
def tE (C : DC) (A : DE) : TE := fun σ H Q => ∃ hid ρ q, HpOk C hid H ∧ SR C hid σ H ρ ∧ A ρ q ∧ ∀ v x H', Ext C.c H H' → HpOk C hid H' → VR C hid H' v x → q x → Q v H'
def tT (C : DC) (B : DT) : TT := fun σ H Q => ∃ hid ρ q, HpOk C hid H ∧ SR C hid σ H ρ ∧ B ρ q ∧ ∀ b H', Ext C.c H H' → HpOk C hid H' → q b → Q b H'
def tAs (C : DC) (n : Nat) (A : DAs) : TA := fun σ H Q => ∃ hid ρ q, HpOk C hid H ∧ SR C hid σ H ρ ∧ A ρ q ∧ ∀ vs xs H', Ext C.c H H' → HpOk C hid H' → VRs C hid H' vs xs → xs.length = n → q xs → Q vs H'
def rD (C : DC) (f : Dv → Dv → (Dv → Prop) → Prop) : R2 := fun x y H Q => ∃ hid dx dy q, HpOk C hid H ∧ VR C hid H x dx ∧ VR C hid H y dy ∧ f dx dy q ∧ ∀ v d H', Ext C.c H H' → HpOk C hid H' → VR C hid H' v d → q d → Q v H'
def rU1 (C : DC) (f : Dv → (Dv → Prop) → Prop) : V → Hp → VK → Prop := fun x H Q => ∃ hid dx q, HpOk C hid H ∧ VR C hid H x dx ∧ f dx q ∧ ∀ v d H', Ext C.c H H' → HpOk C hid H' → VR C hid H' v d → q d → Q v H'
def rL (C : DC) (f : List Dv → (Dv → Prop) → Prop) : List V → Hp → VK → Prop := fun xs H Q => ∃ hid ds q, HpOk C hid H ∧ VRs C hid H xs ds ∧ f ds q ∧ ∀ v d H', Ext C.c H H' → HpOk C hid H' → VR C hid H' v d → q d → Q v H'
/-! the words -/
/-- one way or the other -/
inductive Tg {α : Type} (x : α) : Type
  | mk
def brT (b : Bool) (x y : Prop) (_ : Tg x) (_ : Tg y) : Prop := if b = true then x else y
abbrev br (b : Bool) (x y : Prop) : Prop := brT b x y .mk .mk
theorem br_t {x y : Prop} : brT true x y .mk .mk = x := rfl
theorem br_f {x y : Prop} : brT false x y .mk .mk = y := rfl
theorem br2 {b : Bool} {x y : Prop} (h1 : b = true → x) (h2 : b = false → y) : br b x y := by
  cases b with
  | true => exact h1 rfl
  | false => exact h2 rfl
def dVar (i : Nat) (ρ : Rho) (q : Dv → Prop) : Prop := match ρ[i]? with
  | some (some x) => q x
  | _ => False
def dC (x : PyData) (_ : Rho) (q : Dv → Prop) : Prop := q (.d x)
def dFn (x : Str) (_ : Rho) (q : Dv → Prop) : Prop := q (.fn x)
def dOp (f : Dv → Dv → (Dv → Prop) → Prop) (A B : DE) (ρ : Rho) (q : Dv → Prop) : Prop := A ρ fun x => B ρ fun y => f x y q
def dUn (f : Dv → (Dv → Prop) → Prop) (A : DE) (ρ : Rho) (q : Dv → Prop) : Prop := A ρ fun x => f x q
def dNil (_ : Rho) (q : List Dv → Prop) : Prop := q []
def dCons (A : DE) (B : DAs) (ρ : Rho) (q : List Dv → Prop) : Prop := A ρ fun x => B ρ fun xs => q (x :: xs)
def onB (x : Dv) (q : Bool → Prop) : Prop := match x with
  | .d (.bool b) => q b
  | _ => False
def dB (A : DE) (ρ : Rho) (q : Bool → Prop) : Prop := A ρ fun x => onB x q
def dNot (B : DT) (ρ : Rho) (q : Bool → Prop) : Prop := B ρ fun b => q (!b)
def dAndT (A B : DT) (ρ : Rho) (q : Bool → Prop) : Prop := A ρ fun b => br b (B ρ q) (q false)
def dOrT (A B : DT) (ρ : Rho) (q : Bool → Prop) : Prop := A ρ fun b => br b (q true) (B ρ q)
def dIfE (T : DT) (A B : DE) (ρ : Rho) (q : Dv → Prop) : Prop := T ρ fun b => br b (A ρ q) (B ρ q)
def dAnd (A B : DE) (ρ : Rho) (q : Dv → Prop) : Prop := A ρ fun x => onB x fun b => br b (B ρ q) (q (.d (.bool false)))
def dOr (A B : DE) (ρ : Rho) (q : Dv → Prop) : Prop := A ρ fun x => onB x fun b => br b (q (.d (.bool true))) (B ρ q)
def dNotE (A : DE) (ρ : Rho) (q : Dv → Prop) : Prop := A ρ fun x => onB x fun b => q (.d (.bool (!b)))
/-- the data of values -/
def datas : List Dv → Option (List PyData)
  | [] => some []
  | .d x :: r => match datas r with
    | some l => some (x :: l)
    | none => none
  | _ :: _ => none
def onDs (xs : List Dv) (q : List PyData → Prop) : Prop := match datas xs with
  | some l => q l
  | none => False
def dTup (A : DAs) (ρ : Rho) (q : Dv → Prop) : Prop := A ρ fun xs => onDs xs fun l => q (.d (.tuple l))
def dLst (A : DAs) (ρ : Rho) (q : Dv → Prop) : Prop := A ρ fun xs => onDs xs fun l => q (.d (.list l))
section
variable {X : Cx} {C : DC}
theorem _root_.L2.PE.imp {e : Expr} {t t' : TE} (h : PE X e t) (k : ∀ σ H Q, t' σ H Q → t σ H Q) : PE X e t' := ⟨fun pins s σ H Q I x => h.run pins s σ H Q I (k σ H Q x)⟩
theorem _root_.L2.PT.imp {e : Expr} {t t' : TT} (h : PT X e t) (k : ∀ σ H Q, t' σ H Q → t σ H Q) : PT X e t' := ⟨fun pins s σ H Q I x => h.run pins s σ H Q I (k σ H Q x)⟩
theorem _root_.L2.PW.imp {e : Expr} {t t' : TT} (h : PW X e t) (k : ∀ σ H Q, t' σ H Q → t σ H Q) : PW X e t' := ⟨fun wh pins s σ H Q I x => h.run wh pins s σ H Q I (k σ H Q x)⟩
theorem _root_.L2.PA.imp {e : List Expr} {t t' : TA} (h : PA X e t) (k : ∀ σ H Q, t' σ H Q → t σ H Q) : PA X e t' := ⟨fun pos pins s σ H Q I x => h.run pos pins s σ H Q I (k σ H Q x)⟩
theorem de_pv {x : Str} {i : Nat} {pos : Pos} (h : PE X (.Name x pos) (tVar i)) : PE X (.Name x pos) (tE C (dVar i)) := h.imp fun σ H Q ⟨hid, ρ, q, hp, sr, a, k⟩ => by
  unfold dVar at a
  split at a
  · rename_i y e
    obtain ⟨v, h1, h2⟩ := sr.at' i y e
    exact ⟨v, h1, k v y H .refl hp h2 a⟩
  · exact a.elim
theorem de_c {e : Expr} {v : V} {x : PyData} (h : PE X e (tC v)) (r : ∀ H, Dd C.K H v x) : PE X e (tE C (dC x)) := h.imp fun σ H Q ⟨hid, ρ, q, hp, sr, a, k⟩ => k v (.d x) H .refl hp (r _) a
theorem de_int {i j pos} : PE X (.Constant (.int i) j pos) (tE C (dC (.int i))) := de_c pe_int fun _ => .int i
theorem de_bl {i j pos} : PE X (.Constant (.bool i) j pos) (tE C (dC (.bool i))) := de_c pe_bl fun _ => .bl i
theorem de_non {j pos} : PE X (.Constant .none j pos) (tE C (dC .none)) := de_c pe_non fun _ => .non
theorem de_str {x j pos} (h : PyData.strOk x = true := by decide +kernel) : PE X (.Constant (.str x) j pos) (tE C (dC (.str x))) := de_c pe_str fun _ => .str x h
theorem de_fn {x : Str} {pos : Pos} (hg : Gl X x) (hm : X.mg x = some (.ref (He.ga C.K x))) (hd : (x == ("__debug__" : Str)) = false := by decide) : PE X (.Name x pos) (tE C (dFn x)) :=
  (pe_glob (v := .ref (He.ga C.K x)) hg hm rfl hd).imp fun σ H Q ⟨hid, ρ, q, hp, sr, a, k⟩ => k _ (.fn x) H .refl hp rfl a
theorem de_nil : PA X [] (tAs C 0 dNil) := pa_nil.imp fun σ H Q ⟨hid, ρ, q, hp, sr, a, k⟩ => k [] [] H .refl hp .nil rfl a
theorem de_cons {e : Expr} {es : List Expr} {n : Nat} {A : DE} {B : DAs} (ha : PE X e (tE C A)) (hb : PA X es (tAs C n B)) (he : starEach (e :: es) X.env = (false, eval e X.env) :: starEach es X.env := by rfl) : PA X (e :: es) (tAs C (n + 1) (dCons A B)) :=
  (pa_cons ha hb he).imp fun σ H Q ⟨hid, ρ, q, hp, sr, a, k⟩ => ⟨hid, ρ, _, hp, sr, a, fun v x H1 e1 o1 r1 a1 => ⟨hid, ρ, _, o1, sr.ext e1 hp, a1, fun vs xs H2 e2 o2 r2 l2 a2 => k _ (x :: xs) H2 (e1.trans e2) o2 (.cons (r1.ext e2 o1) r2) (by rw [List.length_cons, l2]) a2⟩⟩
theorem op_both {r : R2} {f : Dv → Dv → (Dv → Prop) → Prop} {A B : DE} (hr : ∀ x y H Q, rD C f x y H Q → r x y H Q) (σ : L2.St) (H : Hp) (Q : VK) : tE C (dOp f A B) σ H Q → tOp r (tE C A) (tE C B) σ H Q :=
  fun ⟨hid, ρ, q, hp, sr, a, k⟩ => ⟨hid, ρ, _, hp, sr, a, fun v x H1 e1 o1 r1 a1 => ⟨hid, ρ, _, o1, sr.ext e1 hp, a1, fun w y H2 e2 o2 r2 a2 => hr _ _ _ _ ⟨hid, x, y, q, o2, r1.ext e2 o1, r2, a2, fun z d H3 e3 => k z d H3 (e1.trans (e2.trans e3))⟩⟩⟩
theorem de_op {a b : Expr} {pos : Pos} {op : Operator} {f : Dv → Dv → (Dv → Prop) → Prop} {A B : DE} (ho : OpR X (binaryOp op) (rD C f)) (ha : PE X a (tE C A)) (hb : PE X b (tE C B)) : PE X (.BinOp a op b pos) (tE C (dOp f A B)) :=
  (pe_op ho ha hb).imp (op_both fun _ _ _ _ h => h)
theorem de_cmp {a b : Expr} {pos : Pos} {op : CmpOp} {f : Dv → Dv → (Dv → Prop) → Prop} {A B : DE} (ho : OpR X (compareOp op) (rD C f)) (ha : PE X a (tE C A)) (hb : PE X b (tE C B)) (hm : behindInMarks op b = false := by rfl) : PE X (.Compare a [op] [b] pos) (tE C (dOp f A B)) :=
  (pe_cmpR ho ha hb hm).imp (op_both fun _ _ _ _ h => h)
theorem de_un {a : Expr} {pos : Pos} {op : UnaryOp} {f : Dv → (Dv → Prop) → Prop} {A : DE} (ho : UnR X (unaryOp op) (rU1 C f)) (ha : PE X a (tE C A)) : PE X (.UnaryOp op a pos) (tE C (dUn f A)) :=
  (pe_un ho ha).imp fun σ H Q ⟨hid, ρ, q, hp, sr, a, k⟩ => ⟨hid, ρ, _, hp, sr, a, fun v x H1 e1 o1 r1 a1 => ⟨hid, x, q, o1, r1, a1, fun z d H3 e3 => k z d H3 (e1.trans e3)⟩⟩
theorem of_onB {hid : List Addr} {H : Hp} {v : V} {x : Dv} {q : Bool → Prop} (r : VR C hid H v x) (h : onB x q) : ∃ b, v = .bl b ∧ x = .d (.bool b) ∧ q b := by
  unfold onB at h
  split at h
  · rename_i b
    cases r
    exact ⟨b, rfl, rfl, h⟩
  · exact h.elim
theorem dt_val {e : Expr} {A : DE} (h : PE X e (tE C A)) (hs : ∀ whole : Sem Value, isTrue e X.env whole = (do let v ← whole; standAt e.pos; holding [v] (truthy v)) := by intro _; rfl) : PT X e (tT C (dB A)) :=
  (pt_val h hs).imp fun σ H Q ⟨hid, ρ, q, hp, sr, a, k⟩ => ⟨hid, ρ, _, hp, sr, a, fun v x H1 e1 o1 r1 a1 => by
    obtain ⟨b, rfl, _, a2⟩ := of_onB r1 a1
    exact ⟨b, rfl, k b H1 e1 o1 a2⟩⟩
theorem dt_not {a : Expr} {pos : Pos} {B : DT} (h : PT X a (tT C B)) : PT X (.UnaryOp .Not a pos) (tT C (dNot B)) :=
  (pt_not h).imp fun σ H Q ⟨hid, ρ, q, hp, sr, a, k⟩ => ⟨hid, ρ, _, hp, sr, a, fun b H1 e1 o1 a1 => k _ H1 e1 o1 a1⟩
theorem dw_and {a b : Expr} {rest : List Expr} {pos : Pos} {A B : DT} (ha : PT X a (tT C A)) (hb : PW X (.BoolOp .And (b :: rest) pos) (tT C B)) : PW X (.BoolOp .And (a :: b :: rest) pos) (tT C (dAndT A B)) :=
  (pw_and ha hb).imp fun σ H Q ⟨hid, ρ, q, hp, sr, a, k⟩ => ⟨hid, ρ, _, hp, sr, a, fun b H1 e1 o1 a1 => by
    cases b with
    | true => exact ⟨hid, ρ, q, o1, sr.ext e1 hp, a1, fun b H2 e2 => k b H2 (e1.trans e2)⟩
    | false => exact k false H1 e1 o1 a1⟩
theorem dw_or {a b : Expr} {rest : List Expr} {pos : Pos} {A B : DT} (ha : PT X a (tT C A)) (hb : PW X (.BoolOp .Or (b :: rest) pos) (tT C B)) : PW X (.BoolOp .Or (a :: b :: rest) pos) (tT C (dOrT A B)) :=
  (pw_or ha hb).imp fun σ H Q ⟨hid, ρ, q, hp, sr, a, k⟩ => ⟨hid, ρ, _, hp, sr, a, fun b H1 e1 o1 a1 => by
    cases b with
    | true => exact k true H1 e1 o1 a1
    | false => exact ⟨hid, ρ, q, o1, sr.ext e1 hp, a1, fun b H2 e2 => k b H2 (e1.trans e2)⟩⟩
theorem de_and {a b : Expr} {rest : List Expr} {pos : Pos} {A B : DE} (ha : PE X a (tE C A)) (hb : PE X (.BoolOp .And (b :: rest) pos) (tE C B)) : PE X (.BoolOp .And (a :: b :: rest) pos) (tE C (dAnd A B)) :=
  (pe_and ha hb).imp fun σ H Q ⟨hid, ρ, q, hp, sr, a, k⟩ => ⟨hid, ρ, _, hp, sr, a, fun v x H1 e1 o1 r1 a1 => by
    obtain ⟨b, rfl, _, a1⟩ := of_onB r1 a1
    refine ⟨b, rfl, ?_⟩
    cases b with
    | true => exact ⟨hid, ρ, q, o1, sr.ext e1 hp, a1, fun v x H2 e2 => k v x H2 (e1.trans e2)⟩
    | false => exact k _ (.d (.bool false)) H1 e1 o1 (Dd.bl false) a1⟩
theorem de_or {a b : Expr} {rest : List Expr} {pos : Pos} {A B : DE} (ha : PE X a (tE C A)) (hb : PE X (.BoolOp .Or (b :: rest) pos) (tE C B)) : PE X (.BoolOp .Or (a :: b :: rest) pos) (tE C (dOr A B)) :=
  (pe_or ha hb).imp fun σ H Q ⟨hid, ρ, q, hp, sr, a, k⟩ => ⟨hid, ρ, _, hp, sr, a, fun v x H1 e1 o1 r1 a1 => by
    obtain ⟨b, rfl, _, a1⟩ := of_onB r1 a1
    refine ⟨b, rfl, ?_⟩
    cases b with
    | true => exact k _ (.d (.bool true)) H1 e1 o1 (Dd.bl true) a1
    | false => exact ⟨hid, ρ, q, o1, sr.ext e1 hp, a1, fun v x H2 e2 => k v x H2 (e1.trans e2)⟩⟩
theorem de_not {a : Expr} {pos : Pos} {A : DE} (h : PE X a (tE C A)) : PE X (.UnaryOp .Not a pos) (tE C (dNotE A)) :=
  (pe_not h).imp fun σ H Q ⟨hid, ρ, q, hp, sr, a, k⟩ => ⟨hid, ρ, _, hp, sr, a, fun v x H1 e1 o1 r1 a1 => by
    obtain ⟨b, rfl, _, a1⟩ := of_onB r1 a1
    exact ⟨b, rfl, k _ (.d (.bool (!b))) H1 e1 o1 (Dd.bl _) a1⟩⟩
theorem de_ifE {c a b : Expr} {pos : Pos} {T : DT} {A B : DE} (hc : PT X c (tT C T)) (ha : PE X a (tE C A)) (hb : PE X b (tE C B)) : PE X (.IfExp c a b pos) (tE C (dIfE T A B)) :=
  (pe_ifExp hc ha hb).imp fun σ H Q ⟨hid, ρ, q, hp, sr, a, k⟩ => ⟨hid, ρ, _, hp, sr, a, fun b H1 e1 o1 a1 => by
    cases b with
    | true => exact ⟨hid, ρ, q, o1, sr.ext e1 hp, a1, fun v x H2 e2 => k v x H2 (e1.trans e2)⟩
    | false => exact ⟨hid, ρ, q, o1, sr.ext e1 hp, a1, fun v x H2 e2 => k v x H2 (e1.trans e2)⟩⟩
theorem datas_map : ∀ {xs : List Dv} {l : List PyData}, datas xs = some l → xs = l.map Dv.d
  | [], l, h => by cases h; rfl
  | .d x :: r, l, h => by
    unfold datas at h
    split at h
    · rename_i m e
      cases h
      rw [List.map_cons, datas_map e]
    · cases h
  | .cup :: _, l, h => by cases h
  | .fn _ :: _, l, h => by cases h
  | .own _ :: _, l, h => by cases h
  | .ty _ :: _, l, h => by cases h
theorem of_onDs {xs : List Dv} {q : List PyData → Prop} (h : onDs xs q) : ∃ l, xs = l.map Dv.d ∧ q l := by
  unfold onDs at h
  split at h
  · rename_i l e
    exact ⟨l, datas_map e, h⟩
  · exact h.elim
theorem VRs.dd {hid : List Addr} {H : Hp} : ∀ {vs : List V} {ds : List PyData}, VRs C hid H vs (ds.map Dv.d) → DdAll C.K (hide hid H) vs ds
  | [], [], _ => .nil
  | _ :: _, [], h => by cases h
  | [], _ :: _, h => by cases h
  | _ :: _, _ :: _, h => by
    cases h with
    | cons a b => exact .cons a (VRs.dd b)
/-- a new list, a new tuple -/
theorem new_tup {hid : List Addr} {H : Hp} {vs : List V} {ds : List PyData} (hp : HpOk C hid H) (h : DdAll C.K (hide hid H) vs ds) {p : Addr} (np : H p = none) : VR C hid (upd H p (.tup vs)) (.ref p) (.d (.tuple ds)) :=
  .tup (SqH.of (hide_of (hp.newNo np) upd_same)) (DdAll.mono (Ext.mono (Ext.new np _) hp) _ _ h)
theorem new_lst {hid : List Addr} {H : Hp} {vs : List V} {ds : List PyData} (hp : HpOk C hid H) (h : DdAll C.K (hide hid H) vs ds) {p : Addr} (np : H p = none) : VR C hid (upd H p (.lst vs)) (.ref p) (.d (.list ds)) :=
  .lst (hide_of (hp.newNo np) upd_same) (DdAll.mono (Ext.mono (Ext.new np _) hp) _ _ h)
theorem de_tup {es : List Expr} {n : Nat} {A : DAs} {pos : Pos} {x1 : Nat} (h : PA X es (tAs C n A)) (hn : n ≤ 1000 := by decide) : PE X (.Tuple es x1 pos) (tE C (dTup A)) :=
  (pe_tup h).imp fun σ H Q ⟨hid, ρ, q, hp, sr, a, k⟩ => ⟨hid, ρ, _, hp, sr, a, fun vs xs H1 e1 o1 r1 l1 a1 => by
    obtain ⟨l, rfl, a2⟩ := of_onDs a1
    refine ⟨by rw [r1.len, l1]; exact Nat.le_trans hn (by decide), fun p np => ?_⟩
    exact k _ _ _ (e1.trans (Ext.new np _)) (o1.new np _) (new_tup o1 r1.dd np) a2⟩
theorem de_lst {es : List Expr} {n : Nat} {A : DAs} {pos : Pos} (h : PA X es (tAs C n A)) (hn : n ≤ 1000 := by decide) : PE X (.List es pos) (tE C (dLst A)) :=
  (pe_lst h).imp fun σ H Q ⟨hid, ρ, q, hp, sr, a, k⟩ => ⟨hid, ρ, _, hp, sr, a, fun vs xs H1 e1 o1 r1 l1 a1 => by
    obtain ⟨l, rfl, a2⟩ := of_onDs a1
    refine ⟨by rw [r1.len, l1]; exact Nat.le_trans hn (by decide), fun p np => ?_⟩
    exact k _ _ _ (e1.trans (Ext.new np _)) (o1.new np _) (new_lst o1 r1.dd np) a2⟩
end
end Dl

set_option Elab.async false
set_option linter.all false
set_option maxRecDepth 100000
set_option maxHeartbeats 4000000
namespace Dl
open PySem PySem.Spec PyProof.Rows L2
/-! ### statements -/
structure StOk (C : DC) (hid : List Addr) (σ : L2.St) (H : Hp) (ρ : Rho) : Prop where
  hp : HpOk C hid H
  sr : SR C hid σ H ρ
  inj : ∀ (i j : Nat) (xs ys : List PyData) (v : V), i ≠ j → ρ[i]? = some (some (.own xs)) → ρ[j]? = some (some (.own ys)) → σ[i]? = some (some v) → σ[j]? ≠ some (some v)
/-- from one state of the heap to another: what isn't hidden stays, what comes to be hidden is new -/
structure Stp (hid : List Addr) (H : Hp) (hid' : List Addr) (H' : Hp) : Prop where
  fz : ∀ b o, b ∉ hid → H b = some o → (∀ ps, o ≠ .tbl ps) → H' b = some o
  fr : ∀ b ∈ hid', b ∈ hid ∨ Fr H b
theorem Stp.refl {hid : List Addr} {H : Hp} : Stp hid H hid H := ⟨fun _ _ _ h _ => h, fun _ h => .inl h⟩
theorem Stp.trans {h0 h1 h2 : List Addr} {H0 H1 H2 : Hp} (a : Stp h0 H0 h1 H1) (b : Stp h1 H1 h2 H2) : Stp h0 H0 h2 H2 where
  fz := fun x o n e k => by
    refine b.fz x o (fun z => ?_) (a.fz x o n e k) k
    rcases a.fr x z with q | q
    · exact n q
    · obtain ⟨ps, hps⟩ := q o e
      exact k ps hps
  fr := fun x hx => by
    rcases b.fr x hx with q | q
    · exact a.fr x q
    · by_cases n : x ∈ h0
      · exact .inl n
      · refine .inr fun o e => ?_
        refine Classical.byContradiction fun c => ?_
        have k : ∀ ps, o ≠ .tbl ps := fun ps z => c ⟨ps, z⟩
        exact c (q o (a.fz x o n e k))
theorem Stp.ext {C : DC} {hid : List Addr} {H H' : Hp} (x : Ext C.c H H') (h : HpOk C hid H) : Stp hid H hid H' :=
  ⟨fun b o n e k => x b o (fun z => n (h.cup b z).1) e k, fun _ h => .inl h⟩
theorem Stp.mono {hid hid' : List Addr} {H H' : Hp} (s : Stp hid H hid' H') : Mono (hide hid H) (hide hid' H') := fun b o e k => by
  obtain ⟨h1, h2⟩ := hide_some e
  refine hide_of (fun z => ?_) (s.fz b o h1 h2 k)
  rcases s.fr b z with q | q
  · exact h1 q
  · obtain ⟨ps, hps⟩ := q o h2
    exact k ps hps
theorem StOk.ext {C : DC} {hid : List Addr} {σ : L2.St} {H H' : Hp} {ρ : Rho} (s : StOk C hid σ H ρ) (x : Ext C.c H H') (h : HpOk C hid H') : StOk C hid σ H' ρ := ⟨h, s.sr.ext x s.hp, s.inj⟩
def notOwn : Dv → Prop
  | .own _ => False
  | _ => True
/-- what is wanted behind a statement, told of data, is what is wanted -/
structure EndsR (C : DC) (hid : List Addr) (H : Hp) (d : DEnds) (D : Ends) : Prop where
  nx : ∀ hid' σ' H' ρ', StOk C hid' σ' H' ρ' → Stp hid H hid' H' → d.nx ρ' → D.nx σ' H'
  bk : ∀ hid' σ' H' ρ', StOk C hid' σ' H' ρ' → Stp hid H hid' H' → d.bk ρ' → D.bk σ' H'
  ct : ∀ hid' σ' H' ρ', StOk C hid' σ' H' ρ' → Stp hid H hid' H' → d.ct ρ' → D.ct σ' H'
  rt : ∀ v x hid' H', HpOk C hid' H' → VR C hid' H' v x → notOwn x → d.rt x → D.rt v H'
theorem EndsR.step {C : DC} {hid hid1 : List Addr} {H H1 : Hp} {d : DEnds} {D : Ends} (e : EndsR C hid H d D) (s : Stp hid H hid1 H1) : EndsR C hid1 H1 d D :=
  ⟨fun h σ' H' ρ' a b => e.nx h σ' H' ρ' a (s.trans b), fun h σ' H' ρ' a b => e.bk h σ' H' ρ' a (s.trans b), fun h σ' H' ρ' a b => e.ct h σ' H' ρ' a (s.trans b), e.rt⟩
def tS (C : DC) (S : DS) : TS := fun D σ H => ∃ hid ρ d, StOk C hid σ H ρ ∧ S d ρ ∧ EndsR C hid H d D
def dNext (d : DEnds) (ρ : Rho) : Prop := d.nx ρ
def dSeq (s t : DS) (d : DEnds) (ρ : Rho) : Prop := s { d with nx := t d } ρ
def dIf (c : DT) (s t : DS) (d : DEnds) (ρ : Rho) : Prop := c ρ fun b => br b (s d ρ) (t d ρ)
def onOwn (x : Dv) (p : Prop) : Prop := match x with
  | .own _ => False
  | _ => p
def dSet (i : Nat) (A : DE) (d : DEnds) (ρ : Rho) : Prop := A ρ fun x => onOwn x (d.nx (ρ.set i (some x)))
def dOwnL (i : Nat) (A : DAs) (d : DEnds) (ρ : Rho) : Prop := A ρ fun xs => onDs xs fun l => d.nx (ρ.set i (some (.own l)))
def onD (x : Dv) (q : PyData → Prop) : Prop := match x with
  | .d y => q y
  | _ => False
def dApp (i : Nat) (A : DE) (d : DEnds) (ρ : Rho) : Prop := match ρ[i]? with
  | some (some (.own xs)) => A ρ fun y => onD y fun y => xs.length ≤ 1000000 ∧ d.nx (ρ.set i (some (.own (xs ++ [y]))))
  | _ => False
/-- a list of one's own is data from here on -/
def frz (ρ : Rho) (i : Nat) : Rho := match ρ[i]? with
  | some (some (.own xs)) => ρ.set i (some (.d (.list xs)))
  | _ => ρ
def dFrz (i : Nat) (s : DS) (d : DEnds) (ρ : Rho) : Prop := s d (frz ρ i)
def retD (x : Dv) (q : Dv → Prop) : Prop := match x with
  | .own l => q (.d (.list l))
  | x => q x
def dRet (A : DE) (d : DEnds) (ρ : Rho) : Prop := A ρ fun x => retD x d.rt
def dRetN (d : DEnds) (_ : Rho) : Prop := d.rt (.d .none)
def dDrop (A : DE) (d : DEnds) (ρ : Rho) : Prop := A ρ fun _ => d.nx ρ
def dBreak (d : DEnds) (ρ : Rho) : Prop := d.bk ρ
def dCont (d : DEnds) (ρ : Rho) : Prop := d.ct ρ
def dRaise (cl : Str) (er : Str → Prop) (_ : DEnds) (_ : Rho) : Prop := er cl
theorem of_onOwn {x : Dv} {p : Prop} (h : onOwn x p) : notOwn x ∧ p := by
  cases x with
  | own _ => exact h.elim
  | _ => exact ⟨trivial, h⟩
theorem of_onD {x : Dv} {q : PyData → Prop} (h : onD x q) : ∃ y, x = .d y ∧ q y := by
  cases x with
  | d y => exact ⟨y, rfl, h⟩
  | _ => exact h.elim
theorem _root_.L2.PS.imp {X : Cx} {e : Stmt} {t t' : TS} (h : PS X e t) (k : ∀ D σ H, t' D σ H → t D σ H) : PS X e t' := ⟨fun pins s σ H D I x => h.run pins s σ H D I (k D σ H x)⟩
theorem _root_.L2.PSs.imp {X : Cx} {e : List Stmt} {t t' : TS} (h : PSs X e t) (k : ∀ D σ H, t' D σ H → t D σ H) : PSs X e t' := ⟨fun pins s σ H D I x => h.run pins s σ H D I (k D σ H x)⟩
theorem get_set {α : Type} {l : List (Option α)} {i j : Nat} {x y : α} (h : (l.set i (some x))[j]? = some (some y)) : (i = j ∧ i < l.length ∧ x = y) ∨ (i ≠ j ∧ l[j]? = some (some y)) := by
  rw [List.getElem?_set] at h
  by_cases e : i = j
  · rw [if_pos e] at h
    by_cases k : i < l.length
    · rw [if_pos k] at h
      exact .inl ⟨e, k, Option.some.inj (Option.some.inj h)⟩
    · rw [if_neg k] at h; cases h
  · rw [if_neg e] at h
    exact .inr ⟨e, h⟩
theorem set_get {α : Type} {l : List (Option α)} {i : Nat} {x : α} (h : i < l.length) : (l.set i (some x))[i]? = some (some x) := by
  rw [List.getElem?_set, if_pos rfl, if_pos h]
theorem set_ne {α : Type} {l : List (Option α)} {i j : Nat} {x : α} (h : i ≠ j) : (l.set i (some x))[j]? = l[j]? := by
  rw [List.getElem?_set, if_neg h]
theorem SR.set {C : DC} {hid : List Addr} {σ : L2.St} {H : Hp} {ρ : Rho} (s : SR C hid σ H ρ) {v : V} {x : Dv} (r : VR C hid H v x) (i : Nat) : SR C hid (σ.set i (some v)) H (ρ.set i (some x)) where
  len := by rw [List.length_set, List.length_set]; exact s.len
  at' := fun j y e => by
    rcases get_set e with ⟨rfl, k, rfl⟩ | ⟨n, e⟩
    · exact ⟨v, set_get (by rw [s.len]; exact k), r⟩
    · obtain ⟨u, h1, h2⟩ := s.at' j y e
      exact ⟨u, by rw [set_ne n]; exact h1, h2⟩
theorem StOk.set {C : DC} {hid : List Addr} {σ : L2.St} {H : Hp} {ρ : Rho} (s : StOk C hid σ H ρ) {v : V} {x : Dv} (r : VR C hid H v x) (no : notOwn x) (i : Nat) : StOk C hid (σ.set i (some v)) H (ρ.set i (some x)) where
  hp := s.hp
  sr := s.sr.set r i
  inj := fun a b xs ys w n ea eb sa => by
    rcases get_set ea with ⟨_, _, rfl⟩ | ⟨na, ea⟩
    · exact no.elim
    · rcases get_set eb with ⟨_, _, rfl⟩ | ⟨nb, eb⟩
      · exact no.elim
      · rw [set_ne na] at sa
        rw [set_ne nb]
        exact s.inj a b xs ys w n ea eb sa
/-- with fewer hidden, what is no list of one's own is as before -/
theorem VR.less {C : DC} {hid hid' : List Addr} {H : Hp} (h : ∀ a ∈ hid', a ∈ hid) {v : V} : ∀ {x : Dv}, notOwn x → VR C hid H v x → VR C hid' H v x
  | .d _, _, k => Dd.mono (fun b o e _ => by
      obtain ⟨h1, h2⟩ := hide_some e
      exact hide_of (fun z => h1 (h b z)) h2) _ _ k
  | .cup, _, k => k
  | .fn _, _, k => k
  | .ty _, _, k => k
section
variable {X : Cx} {C : DC}
theorem ds_nil : PSs X [] (tS C dNext) := pss_nil.imp fun D σ H ⟨hid, ρ, d, so, s, e⟩ => e.nx hid σ H ρ so .refl s
theorem ds_one {st : Stmt} {s : DS} (h : PS X st (tS C s)) : PSs X [st] (tS C s) := pss_one h
theorem ds_cons {st : Stmt} {rest : List Stmt} {s t : DS} (h : PS X st (tS C s)) (k : PSs X rest (tS C t)) : PSs X (st :: rest) (tS C (dSeq s t)) :=
  (pss_cons h k).imp fun D σ H ⟨hid, ρ, d, so, s, e⟩ => ⟨hid, ρ, _, so, s, ⟨fun hid' σ' H' ρ' so' st' n => ⟨hid', ρ', d, so', n, e.step st'⟩, e.bk, e.ct, e.rt⟩⟩
theorem ds_if {pos : Pos} {c : Expr} {a b : List Stmt} {T : DT} {s t : DS} (hc : PT X c (tT C T)) (ha : PSs X a (tS C s)) (hb : PSs X b (tS C t)) : PS X (.If c a b pos) (tS C (dIf T s t)) :=
  (ps_if hc ha hb).imp fun D σ H ⟨hid, ρ, d, so, s, e⟩ => ⟨hid, ρ, _, so.hp, so.sr, s, fun b H1 e1 o1 a1 => by
    cases b with
    | true => exact ⟨hid, ρ, d, so.ext e1 o1, a1, e.step (Stp.ext e1 so.hp)⟩
    | false => exact ⟨hid, ρ, d, so.ext e1 o1, a1, e.step (Stp.ext e1 so.hp)⟩⟩
theorem ds_pass {pos : Pos} : PS X (.Pass pos) (tS C dNext) := ps_pass.imp fun D σ H ⟨hid, ρ, d, so, s, e⟩ => e.nx hid σ H ρ so .refl s
theorem ds_break {pos : Pos} : PS X (.Break pos) (tS C dBreak) := ps_break.imp fun D σ H ⟨hid, ρ, d, so, s, e⟩ => e.bk hid σ H ρ so .refl s
theorem ds_expr {e : Expr} {A : DE} {pos : Pos} (h : PE X e (tE C A)) (hs : swapsWith e none pos.line X.env = pure false := by rfl) : PS X (.Expr e pos) (tS C (dDrop A)) :=
  (ps_expr h hs).imp fun D σ H ⟨hid, ρ, d, so, s, e⟩ => ⟨hid, ρ, _, so.hp, so.sr, s, fun v x H1 e1 o1 r1 a1 => e.nx hid σ H1 ρ (so.ext e1 o1) (Stp.ext e1 so.hp) a1⟩
theorem ds_retN {pos : Pos} : PS X (.Return none pos) (tS C dRetN) := ps_retN.imp fun D σ H ⟨hid, ρ, d, so, s, e⟩ => e.rt .non (.d .none) hid H so.hp Dd.non trivial s
theorem own_dd {hid : List Addr} {H : Hp} {v : V} {l : List PyData} (h : HpOk C hid H) (r : VR C hid H v (.own l)) : ∃ hid', HpOk C hid' H ∧ VR C hid' H v (.d (.list l)) := by
  obtain ⟨p, vs, rfl, h1, h2, ⟨h3, h3'⟩, h4, h5⟩ := r
  have sub : ∀ a ∈ hid.filter (fun a => decide (a ≠ p)), a ∈ hid := fun a ha => (List.mem_filter.mp ha).1
  refine ⟨hid.filter (fun a => decide (a ≠ p)), ⟨h.tabs, fun a e => ⟨List.mem_filter.mpr ⟨(h.cup a e).1, decide_eq_true fun z => h2 (by rw [e, z])⟩, (h.cup a e).2⟩, fun a ha => h.some a (sub a ha), fun a ha => List.mem_filter.mpr ⟨h.sub a ha, decide_eq_true fun z => h3 (z ▸ ha)⟩, h.ext⟩, ?_⟩
  refine .lst (hide_of (fun z => ?_) h4) (DdAll.mono (fun b o e _ => ?_) _ _ h5)
  · have := (List.mem_filter.mp z).2
    simp at this
  · obtain ⟨k1, k2⟩ := hide_some e
    exact hide_of (fun z => k1 (sub b z)) k2
theorem ds_ret {e : Expr} {A : DE} {pos : Pos} (h : PE X e (tE C A)) : PS X (.Return (some e) pos) (tS C (dRet A)) :=
  (ps_ret h).imp fun D σ H ⟨hid, ρ, d, so, s, e⟩ => ⟨hid, ρ, _, so.hp, so.sr, s, fun v x H1 e1 o1 r1 a1 => by
    cases x with
    | own l =>
      obtain ⟨hid', h1, h2⟩ := own_dd o1 r1
      exact e.rt v _ hid' H1 h1 h2 trivial a1
    | d y => exact e.rt v (.d y) hid H1 o1 r1 trivial a1
    | cup => exact e.rt v .cup hid H1 o1 r1 trivial a1
    | fn y => exact e.rt v (.fn y) hid H1 o1 r1 trivial a1
    | ty y => exact e.rt v (.ty y) hid H1 o1 r1 trivial a1⟩
theorem ds_set {pos : Pos} {i : Nat} {x : Str} {e : Expr} {A : DE} {pos' : Pos} (hN : X.N.Nodup) (hi : X.N[i]? = some x) (hl : L2.Loc X.env.scope x) (h : PE X e (tE C A)) (hs : swapsWith e (some (.Name x pos')) pos.line X.env = pure false := by rfl)
    (hf : X.fn x = true ∨ X.env.scope.names.lookup x = some .local := by first | exact Or.inl rfl | exact Or.inr rfl) : PS X (.Assign [.Name x pos'] e pos) (tS C (dSet i A)) :=
  (ps_set hN hi hl h hs hf).imp fun D σ H ⟨hid, ρ, d, so, s, e⟩ => ⟨hid, ρ, _, so.hp, so.sr, s, fun v y H1 e1 o1 r1 a1 => by
    obtain ⟨no, a1⟩ := of_onOwn a1
    exact e.nx hid _ H1 _ ((so.ext e1 o1).set r1 no i) (Stp.ext e1 so.hp) a1⟩
theorem Fr.new {hid : List Addr} {H : Hp} (h : HpOk C hid H) {p : Addr} (np : H p = none) : Fr C.H0 p := fun o e => by
  refine Classical.byContradiction fun c => ?_
  have := h.ext p o (fun z => h.nn p (h.cup p z).1 np) e (fun ps z => c ⟨ps, z⟩)
  rw [np] at this
  cases this
/-- a new list is one's own -/
theorem StOk.newOwn {hid : List Addr} {σ : L2.St} {H : Hp} {ρ : Rho} (s : StOk C hid σ H ρ) {vs : List V} {l : List PyData} (k : DdAll C.K (hide hid H) vs l) {p : Addr} (np : H p = none) (i : Nat) :
    StOk C (p :: hid) (σ.set i (some (.ref p))) (upd H p (.lst vs)) (ρ.set i (some (.own l))) ∧ Stp hid H (p :: hid) (upd H p (.lst vs)) := by
  have h := s.hp
  have sp : Stp hid H (p :: hid) (upd H p (.lst vs)) := ⟨fun b o n e _ => by rw [upd_ne (ne_of_none e np)]; exact e, fun b hb => by
    rcases List.mem_cons.mp hb with rfl | hb
    · exact .inr (.of np)
    · exact .inl hb⟩
  have h1 := h.new np (.lst vs)
  have cp : C.c ≠ some p := fun z => h.nn p (h.cup p z).1 np
  have hp' : HpOk C (p :: hid) (upd H p (.lst vs)) := ⟨h1.tabs, fun a e => ⟨List.mem_cons_of_mem _ (h1.cup a e).1, (h1.cup a e).2⟩, fun a ha => by
    rcases List.mem_cons.mp ha with rfl | ha
    · exact ⟨vs, upd_same⟩
    · exact h1.some a ha, fun a ha => List.mem_cons_of_mem _ (h1.sub a ha), h1.ext⟩
  have vr : ∀ {v : V} {x : Dv}, VR C hid H v x → VR C (p :: hid) (upd H p (.lst vs)) v x := fun {v x} r => by
    cases x with
    | d y => exact Dd.mono sp.mono _ _ r
    | cup => exact r
    | fn y => exact r
    | ty y => exact r
    | own y =>
      obtain ⟨a, ws, e1, e2, e3, e4, e5, e6⟩ := r
      exact ⟨a, ws, e1, List.mem_cons_of_mem _ e2, e3, e4, by rw [upd_ne (ne_of_none e5 np)]; exact e5, DdAll.mono sp.mono _ _ e6⟩
  have ownne : ∀ (j : Nat) xs, ρ[j]? = some (some (.own xs)) → σ[j]? ≠ some (some (.ref p)) := fun j xs e z => by
    obtain ⟨v, h2, h3⟩ := s.sr.at' j _ e
    rw [z] at h2
    obtain rfl := Option.some.inj (Option.some.inj h2)
    obtain ⟨a, ws, e1, e2, _⟩ := h3
    cases e1
    exact h.nn p e2 np
  refine ⟨⟨hp', ?_, fun a b xs ys w n ea eb sa => ?_⟩, sp⟩
  · have sr0 : SR C (p :: hid) σ (upd H p (.lst vs)) ρ := ⟨s.sr.len, fun j y e => by
      obtain ⟨v, h2, h3⟩ := s.sr.at' j y e
      exact ⟨v, h2, vr h3⟩⟩
    exact sr0.set (x := .own l) ⟨p, vs, rfl, List.mem_cons_self, cp, ⟨fun z => h.nn p (h.sub p z) np, Fr.new h np⟩, upd_same, DdAll.mono sp.mono _ _ k⟩ i
  · rcases get_set ea with ⟨rfl, ka, _⟩ | ⟨na, ea⟩
    · rw [set_get (by rw [s.sr.len]; exact ka)] at sa
      obtain rfl := Option.some.inj (Option.some.inj sa)
      rcases get_set eb with ⟨rfl, _, _⟩ | ⟨nb, eb⟩
      · exact absurd rfl n
      · rw [set_ne nb]
        exact ownne b ys eb
    · rw [set_ne na] at sa
      rcases get_set eb with ⟨rfl, kb, _⟩ | ⟨nb, eb⟩
      · rw [set_get (by rw [s.sr.len]; exact kb)]
        intro z
        have z : V.ref p = w := Option.some.inj (Option.some.inj z)
        subst z
        exact ownne a xs ea sa
      · rw [set_ne nb]
        exact s.inj a b xs ys w n ea eb sa
theorem ds_ownL {pos : Pos} {i n : Nat} {x : Str} {es : List Expr} {A : DAs} {pos' lpos : Pos} (hN : X.N.Nodup) (hi : X.N[i]? = some x) (hl : L2.Loc X.env.scope x) (h : PA X es (tAs C n A)) (hn : n ≤ 1000 := by decide) (hs : swapsWith (.List es lpos) (some (.Name x pos')) pos.line X.env = pure false := by rfl)
    (hf : X.fn x = true ∨ X.env.scope.names.lookup x = some .local := by first | exact Or.inl rfl | exact Or.inr rfl) : PS X (.Assign [.Name x pos'] (.List es lpos) pos) (tS C (dOwnL i A)) :=
  (ps_set hN hi hl (pe_lst h) hs hf).imp fun D σ H ⟨hid, ρ, d, so, s, e⟩ => ⟨hid, ρ, _, so.hp, so.sr, s, fun vs xs H1 e1 o1 r1 l1 a1 => by
    obtain ⟨l, rfl, a2⟩ := of_onDs a1
    refine ⟨by rw [r1.len, l1]; exact Nat.le_trans hn (by decide), fun p np => ?_⟩
    obtain ⟨s2, s3⟩ := (so.ext e1 o1).newOwn r1.dd np i
    exact e.nx _ _ _ _ s2 ((Stp.ext e1 so.hp).trans s3) a2⟩
theorem tabs_upd {T : Tbs} {a : Addr} {H : Hp} {xs : List V} {o : HO} (t : LamX.Tabs T H) (h : H a = some (.lst xs)) : LamX.Tabs T (upd H a o) := by
  intro p hp
  obtain ⟨ps, h1, h2, h3⟩ := t p hp
  refine ⟨ps, ?_, h2, fun pos cv hc => ?_⟩
  · rw [upd_ne (fun e => by rw [e, h] at h1; cases h1)]; exact h1
  · obtain ⟨c, e1, e2⟩ := h3 pos cv hc
    refine ⟨c, e1, ?_⟩
    rw [upd_ne (fun e => by rw [e, h] at e2; cases e2)]
    exact e2
/-- a list of one's own is changed -/
theorem StOk.putOwn {hid : List Addr} {σ : L2.St} {H : Hp} {ρ : Rho} (s : StOk C hid σ H ρ) {i : Nat} {p : Addr} {xs ys : List PyData} {vs ws : List V} (e : ρ[i]? = some (some (.own xs))) (es : σ[i]? = some (some (.ref p))) (hm : p ∈ hid) (hc : C.c ≠ some p) (h0 : p ∉ C.hid0 ∧ Fr C.H0 p) (hH : H p = some (.lst vs)) (k : DdAll C.K (hide hid H) ws ys) :
    StOk C hid σ (upd H p (.lst ws)) (ρ.set i (some (.own ys))) ∧ Stp hid H hid (upd H p (.lst ws)) := by
  have h := s.hp
  have sp : Stp hid H hid (upd H p (.lst ws)) := ⟨fun b o n q _ => by rw [upd_ne (fun z => n (by rw [z]; exact hm))]; exact q, fun b hb => .inl hb⟩
  have hil : i < ρ.length := by
    rcases Nat.lt_or_ge i ρ.length with q | q
    · exact q
    · rw [List.getElem?_eq_none q] at e; cases e
  have hp' : HpOk C hid (upd H p (.lst ws)) := ⟨tabs_upd h.tabs hH, fun a ea => ⟨(h.cup a ea).1, by
    obtain ⟨g, sd, q, z⟩ := (h.cup a ea).2
    exact ⟨g, sd, by rw [upd_ne (fun y => hc (by rw [ea, y]))]; exact q, z⟩⟩, fun a ha => by
      by_cases y : a = p
      · exact ⟨ws, by rw [y, upd_same]⟩
      · rw [upd_ne y]; exact h.some a ha, h.sub, fun b o n q t => by
      have := h.ext b o n q t
      by_cases y : b = p
      · subst y
        obtain ⟨ps, z⟩ := h0.2 o q
        exact absurd z (t ps)
      · rw [upd_ne y]; exact this⟩
  refine ⟨⟨hp', ⟨by rw [List.length_set]; exact s.sr.len, fun j y ej => ?_⟩, fun a b xs' ys' w n ea eb sa => ?_⟩, sp⟩
  · rcases get_set ej with ⟨rfl, _, rfl⟩ | ⟨n, ej⟩
    · exact ⟨.ref p, es, p, ws, rfl, hm, hc, h0, upd_same, DdAll.mono sp.mono _ _ k⟩
    · obtain ⟨v, h1, h2⟩ := s.sr.at' j y ej
      refine ⟨v, h1, ?_⟩
      cases y with
      | d z => exact Dd.mono sp.mono _ _ h2
      | cup => exact h2
      | fn z => exact h2
      | ty z => exact h2
      | own z =>
        obtain ⟨a, us, e1, e2, e3, e4, e5, e6⟩ := h2
        subst e1
        have : a ≠ p := fun q => by
          subst q
          exact s.inj i j xs z _ n e ej es h1
        exact ⟨a, us, rfl, e2, e3, e4, by rw [upd_ne this]; exact e5, DdAll.mono sp.mono _ _ e6⟩
  · rcases get_set ea with ⟨rfl, ka, _⟩ | ⟨na, ea⟩
    · rcases get_set eb with ⟨rfl, _, _⟩ | ⟨nb, eb⟩
      · exact absurd rfl n
      · exact s.inj i b xs ys' w n e eb sa
    · rcases get_set eb with ⟨rfl, kb, _⟩ | ⟨nb, eb⟩
      · exact s.inj a i xs' xs w n ea e sa
      · exact s.inj a b xs' ys' w n ea eb sa
theorem ds_app {pos : Pos} {i : Nat} {x : Str} {e : Expr} {A : DE} {npos apos cpos : Pos} (hv : PE X (.Name x npos) (tVar i)) (h : PE X e (tE C A))
    (hb : attributeBase (.Name x npos) "append" X.env (eval (.Name x npos) X.env) = eval (.Name x npos) X.env := by rfl)
    (h2 : (((backTo cpos (starEach [e] X.env)).all fun x => !x.1) && (backToKw cpos (keywordEach [] X.env)).all (fun x => x.1.isSome) && decide (([e] : List Expr).length + ([] : List Keyword).length + (if ([] : List Keyword).isEmpty then 0 else 1) < 30)) = true := by rfl)
    (h3 : (apos.endLine == cpos.line) = true := by rfl) (h4 : starEach [e] X.env = (false, eval e X.env) :: starEach [] X.env := by rfl) (h5 : (backTo cpos (starEach ([] : List Expr) X.env)).any (·.1) = false := by rfl)
    (hs : swapsWith (.Call (.Attribute (.Name x npos) "append" apos) [e] [] cpos) none pos.line X.env = pure false := by rfl) :
    PS X (.Expr (.Call (.Attribute (.Name x npos) "append" apos) [e] [] cpos) pos) (tS C (dApp i A)) :=
  (ps_expr (pe_bm PySem.F.plainAttrs_list PySem.F.slot_list_append PySem.F.type_list_append mt_append hv (pa_cons h pa_nil h4) hb h2 h3 h4 h5) hs).imp fun D σ H ⟨hid, ρ, d, so, s, en⟩ => by
    unfold dApp at s
    split at s
    · rename_i xs ei
      obtain ⟨v, h1, p, vs, rfl, m1, m2, m3, m4, m5⟩ := so.sr.at' i _ ei
      refine ⟨_, h1, .inl ⟨rfl, _, SqL.of m4⟩, hid, ρ, _, so.hp, so.sr, s, fun w y H1 e1 o1 r1 a1 => ?_⟩
      obtain ⟨y, rfl, ln, a1⟩ := of_onD a1
      have m4' := e1 p _ m2 m4 (fun _ z => by cases z)
      have m5' := DdAll.mono (e1.mono so.hp) _ _ m5
      refine ⟨p, vs, w, rfl, rfl, m4', by rw [m5.len]; exact Nat.lt_of_le_of_lt ln (by decide), ?_⟩
      obtain ⟨s2, s3⟩ := (so.ext e1 o1).putOwn ei h1 m1 m2 m3 m4' (m5'.append (.cons r1 .nil))
      exact en.nx _ _ _ _ s2 ((Stp.ext e1 so.hp).trans s3) a1
    · exact s.elim
/-- ahead of a statement -/
theorem StOk.frz {hid : List Addr} {σ : L2.St} {H : Hp} {ρ : Rho} (s : StOk C hid σ H ρ) (i : Nat) : ∃ hid', StOk C hid' σ H (frz ρ i) ∧ Stp hid H hid' H := by
  unfold Dl.frz
  split
  · rename_i xs ei
    obtain ⟨v, h1, p, vs, rfl, m1, m2, ⟨m3, m3'⟩, m4, m5⟩ := s.sr.at' i _ ei
    have h := s.hp
    have sub : ∀ a ∈ hid.filter (fun a => decide (a ≠ p)), a ∈ hid := fun a ha => (List.mem_filter.mp ha).1
    have mon : Mono (hide hid H) (hide (hid.filter (fun a => decide (a ≠ p))) H) := fun b o e _ => by
      obtain ⟨k1, k2⟩ := hide_some e
      exact hide_of (fun z => k1 (sub b z)) k2
    have hil : i < ρ.length := by
      rcases Nat.lt_or_ge i ρ.length with q | q
      · exact q
      · rw [List.getElem?_eq_none q] at ei; cases ei
    refine ⟨hid.filter (fun a => decide (a ≠ p)), ⟨⟨h.tabs, fun a e => ⟨List.mem_filter.mpr ⟨(h.cup a e).1, decide_eq_true fun z => m2 (by rw [e, z])⟩, (h.cup a e).2⟩, fun a ha => h.some a (sub a ha), fun a ha => List.mem_filter.mpr ⟨h.sub a ha, decide_eq_true fun z => m3 (z ▸ ha)⟩, h.ext⟩, ⟨by rw [List.length_set]; exact s.sr.len, fun j y ej => ?_⟩, fun a b xs' ys' w n ea eb sa => ?_⟩, ⟨fun b o _ e _ => e, fun b hb => .inl (sub b hb)⟩⟩
    · rcases get_set ej with ⟨rfl, _, rfl⟩ | ⟨n, ej⟩
      · refine ⟨.ref p, h1, .lst (hide_of (fun z => ?_) m4) (DdAll.mono mon _ _ m5)⟩
        have := (List.mem_filter.mp z).2
        simp at this
      · obtain ⟨v, k1, k2⟩ := s.sr.at' j y ej
        refine ⟨v, k1, ?_⟩
        cases y with
        | d z => exact Dd.mono mon _ _ k2
        | cup => exact k2
        | fn z => exact k2
        | ty z => exact k2
        | own z =>
          obtain ⟨a, us, e1, e2, e3, e4, e5, e6⟩ := k2
          subst e1
          have : a ≠ p := fun q => by
            subst q
            exact s.inj i j xs z _ n ei ej h1 k1
          exact ⟨a, us, rfl, List.mem_filter.mpr ⟨e2, decide_eq_true this⟩, e3, e4, e5, DdAll.mono mon _ _ e6⟩
    · rcases get_set ea with ⟨_, _, q⟩ | ⟨na, ea⟩
      · cases q
      · rcases get_set eb with ⟨_, _, q⟩ | ⟨nb, eb⟩
        · cases q
        · exact s.inj a b xs' ys' w n ea eb sa
  · exact ⟨hid, s, .refl⟩
theorem ds_frz {st : Stmt} {s : DS} (i : Nat) (h : PS X st (tS C s)) : PS X st (tS C (dFrz i s)) := h.imp fun D σ H ⟨hid, ρ, d, so, s, e⟩ => by
  obtain ⟨hid', s1, s2⟩ := so.frz i
  exact ⟨hid', _, d, s1, s, e.step s2⟩
/-- errors -/
def EOk (C : DC) (er : Str → Prop) (E : XK) : Prop := ∀ cl hid H, HpOk C hid H → er cl → E (.ref (He.ga C.K cl)) none H
theorem EOk.never {E : XK} : EOk C (fun _ => False) E := fun _ _ _ _ h => h.elim
/-- what is known of where one stands -/
structure Lv0 (X : Cx) (C : DC) (k : Nat) : Prop where
  K : X.K = C.K
  calm : X.calm = true
  nd : X.N.Nodup
  room : Room k X.A
structure Lv (X : Cx) (C : DC) (E : XK) (k : Nat) : Prop where
  b : Lv0 X C k
  own : PassesOwn (model X.prog X.w) X.A X.env X.xe
  tk : Takes X fun cls d _ H => E cls d H
theorem Lv.pass {E : XK} {k : Nat} (l : Lv X C E k) : Passes (L2.CX X.prog X.w) X E := passes_call l.tk fun _ _ _ _ h => h
theorem pass_none : Passes (L2.CX X.prog X.w) X fun _ _ _ => False := fun pins σ H s e s' I ⟨a, B, H', cls, d, _, _, _, _, _, _, _, z⟩ => z.elim
theorem Lv0.blk {k : Nat} (l : Lv0 X C k) {s : Shared} {H : Hp} {scope : Scope} {env : Env} {fp : List Addr} : Lv0 (X.blk s H scope env fp) C k := ⟨l.K, l.calm, l.nd, l.room⟩
theorem ds_raise {x m : Str} {j k : Nat} {p p2 pos rpos : Pos} {er : Str → Prop} {E : XK} (l : Lv X C E k) (eo : EOk C er E) (mk : PMk X (.Call (.Name x p) [.Constant (.str m) j p2] [] pos) (fun _ H Q => Q (.ref (He.ga C.K x)) none H)) :
    PS X (.Raise (some (.Call (.Name x p) [.Constant (.str m) j p2] [] pos)) none rpos) (tS C (dRaise x er)) :=
  (ps_raise l.b.calm l.tk mk).imp fun D σ H ⟨hid, ρ, d, so, s, e⟩ => eo x hid H so.hp s
end
end Dl

set_option Elab.async false
set_option linter.all false
set_option maxRecDepth 100000
set_option maxHeartbeats 4000000
namespace Dl
open PySem PySem.Spec PyProof.Rows L2
/-! ### a def of the top by its name -/
abbrev cdv (K : PySem.W.Frag) (x : Str) : Value := .ref (He.codeOf K (x, none))
section
variable (P : Program) (w : World) (K : PySem.W.Frag) (mg : Str → Option Value) (base : Heap)
def Has (CX : CXT) (k : Nat) (x : Str) (ps : List Str) (sp : Sp) : Prop :=
  ∃ fd, Binds K fd ps [] ∧ PySem.W.keepIn K (.ref (He.ga K x)) = true ∧ mg x = some (.ref (He.ga K x)) ∧ FnOk P w K mg base CX k (He.ga K x) fd ps sp ∧ ∃ oc od osl, K.lookup (He.ga K x) = some ⟨oc, od, .func fd, osl⟩
def At (x : Str) (st : Stmt) : Prop := mg x = some (.ref (He.ga K x)) ∧ ∃ fd, FunD K x x (defArgs st) (defBody st) (defScope st) [] [] (He.ga K x) fd
/-- what a def does, told of data: what it hands back, what it raises -/
abbrev DF := List Dv → (Dv → Prop) → (Str → Prop) → Prop
def spD (T : Tbs) (g : DF) : Sp := fun vs H Q E => ∃ (c : Option Addr) (hid : List Addr) (xs : List Dv) (q : Dv → Prop) (er : Str → Prop), HpOk ⟨K, T, c, hid, H⟩ hid H ∧ VRs ⟨K, T, c, hid, H⟩ hid H vs xs ∧ (∀ x ∈ xs, notOwn x) ∧ g xs q er ∧
  (∀ v x H', Ext c H H' → HpOk ⟨K, T, c, hid, H⟩ hid H' → VR ⟨K, T, c, hid, H⟩ hid H' v x → notOwn x → q x → Q v H') ∧ ∀ cl H', Ext c H H' → HpOk ⟨K, T, c, hid, H⟩ hid H' → er cl → E (.ref (He.ga K cl)) none H'
def DHas (T : Tbs) (k : Nat) (x : Str) (ps : List Str) (g : DF) : Prop := Has P w K mg base (L2.CX P w) k x ps (spD K T g)
end
def startR (N : List Str) (xs : List Dv) : Rho := xs.map some ++ List.replicate (N.length - xs.length) none
section
variable {P : Program} {w : World} {K : PySem.W.Frag} {mg : Str → Option Value} {base : Heap} {T : Tbs}
theorem Has.mono {CX : CXT} {x : Str} {ps : List Str} {sp : Sp} {j k : Nat} (h : Has P w K mg base CX j x ps sp) (hk : j ≤ k) : Has P w K mg base CX k x ps sp := by
  obtain ⟨fd, b, kp, gm, F, lk⟩ := h
  exact ⟨fd, b, kp, gm, F.mono hk, lk⟩
theorem Has.imp {CX : CXT} {x : Str} {ps : List Str} {sp sp' : Sp} {k : Nat} (h : Has P w K mg base CX k x ps sp) (hk : ∀ vs H Q E, sp' vs H Q E → sp vs H Q E) : Has P w K mg base CX k x ps sp' := by
  obtain ⟨fd, b, kp, gm, F, lk⟩ := h
  exact ⟨fd, b, kp, gm, F.imp hk, lk⟩
/-- what is told of it, said otherwise -/
theorem DHas.imp {x : Str} {ps : List Str} {g g' : DF} {k : Nat} (h : DHas P w K mg base T k x ps g) (hk : ∀ xs q er, g' xs q er → g xs q er) : DHas P w K mg base T k x ps g' :=
  Has.imp h fun vs H Q E ⟨c, hid, xs, q, er, h1, h2, h3, h4, h5⟩ => ⟨c, hid, xs, q, er, h1, h2, h3, hk _ _ _ h4, h5⟩
theorem VR.ctx {C C' : DC} {hid : List Addr} {H : Hp} {v : V} (hK : C.K = C'.K) (hc : C.c = C'.c) : ∀ {x : Dv}, notOwn x → VR C hid H v x → VR C' hid H v x
  | .d _, _, k => by unfold VR at k ⊢; rw [← hK]; exact k
  | .cup, _, k => by unfold VR at k ⊢; rw [← hc]; exact k
  | .fn _, _, k => by unfold VR at k ⊢; rw [← hK]; exact k
  | .ty _, _, k => by unfold VR at k ⊢; exact k
theorem VRs.ctx {C C' : DC} {hid : List Addr} {H : Hp} (hK : C.K = C'.K) (hc : C.c = C'.c) : ∀ {vs : List V} {xs : List Dv}, (∀ x ∈ xs, notOwn x) → VRs C hid H vs xs → VRs C' hid H vs xs
  | _, _, _, .nil => .nil
  | _, _, n, .cons a b => .cons (a.ctx hK hc (n _ List.mem_cons_self)) (VRs.ctx hK hc (fun x hx => n x (List.mem_cons_of_mem _ hx)) b)
theorem VRs.at {C : DC} {hid : List Addr} {H : Hp} : ∀ {vs : List V} {xs : List Dv} {i : Nat} {x : Dv}, VRs C hid H vs xs → xs[i]? = some x → ∃ v, vs[i]? = some v ∧ VR C hid H v x
  | _, _, i, x, .nil, e => by simp at e
  | _, _, 0, x, .cons a b, e => by
    obtain rfl := Option.some.inj (show some _ = some x from by simpa using e)
    exact ⟨_, rfl, a⟩
  | _, _, i + 1, x, .cons a b, e => by
    obtain ⟨v, h1, h2⟩ := VRs.at b (i := i) (x := x) (by simpa using e)
    exact ⟨v, by simpa using h1, h2⟩
theorem startR_at {N : List Str} {xs : List Dv} {i : Nat} {x : Dv} (e : (startR N xs)[i]? = some (some x)) : xs[i]? = some x := by
  unfold startR at e
  rcases Nat.lt_or_ge i xs.length with k | k
  · rw [List.getElem?_append_left (by rw [List.length_map]; exact k), List.getElem?_map] at e
    cases q : xs[i]? with
    | none => rw [q] at e; cases e
    | some y => rw [q] at e; rw [Option.some.inj (Option.some.inj e)]
  · rw [List.getElem?_append_right (by rw [List.length_map]; exact k), List.getElem?_replicate] at e
    split at e <;> cases e
theorem sr_start {C : DC} {hid : List Addr} {H : Hp} {vs : List V} {xs : List Dv} (N : List Str) (r : VRs C hid H vs xs) : SR C hid (L2.start N vs) H (startR N xs) where
  len := by unfold L2.start startR; rw [List.length_append, List.length_append, List.length_map, List.length_map, List.length_replicate, List.length_replicate, r.len]
  at' := fun i x e => by
    have e2 := startR_at e
    obtain ⟨v, h1, h2⟩ := r.at e2
    refine ⟨v, ?_, h2⟩
    have hi : i < vs.length := by
      rcases Nat.lt_or_ge i vs.length with k | k
      · exact k
      · rw [List.getElem?_eq_none k] at h1; cases h1
    unfold L2.start
    rw [List.getElem?_append_left (by rw [List.length_map]; exact hi), List.getElem?_map, h1]
    rfl
/-- a def by its body -/
theorem At.okD {x : Str} {st : Stmt} {N ps : List Str} {k : Nat} {g : DF} (F : At K mg x st) (S : FnScope N ps (defScope st))
    (hb : ∀ (kV doc pm : Value) (an : Option Addr) (cd ct : Value) (us : List Value), us.length = ps.length → bindArgs (PySem.W.fnOf x x (defArgs st) (defBody st) (defScope st) .none kV doc pm an cd ct) ⟨us, []⟩ = pure (ps.zip us))
    (len : ∀ xs q er, g xs q er → xs.length = ps.length)
    (hbody : ∀ (A : Around) (outer : List Env) (s : Shared) (H : Hp) (E : XK) (c : Option Addr) (hid : List Addr) (er : Str → Prop), Lv (cxOf (L2.CX P w) P w K mg base N x (defScope st) (He.ga K x) (cdv K x) A outer s H E) ⟨K, T, c, hid, H⟩ E k → EOk ⟨K, T, c, hid, H⟩ er E →
      ∃ S, PSs (cxOf (L2.CX P w) P w K mg base N x (defScope st) (He.ga K x) (cdv K x) A outer s H E) (defBody st) (tS ⟨K, T, c, hid, H⟩ S) ∧ ∀ xs q, g xs q er → S { nx := fun _ => q (.d .none), rt := q } (startR N xs)) : DHas P w K mg base T (k + 1) x ps g := by
  obtain ⟨gm, fd, F⟩ := F
  have bn := F.bindsN hb
  have kp := F.kp
  obtain ⟨oc, od, dV, kV, doc, pm, an, cd, ct, osl, rfl, lk, hcd, _, _⟩ := F.ex
  refine ⟨_, bn, kp, gm, ?_, _, _, _, lk⟩
  obtain ⟨cc, rfl⟩ := He.codeIn_ref hcd
  have e : He.codeOf K (x, none) = cc := He.codeOf_eq (p := (x, none)) lk rfl
  refine fn_of lk hcd S (fun vs H Q E ⟨c, hid, xs, q, er, _, r, _, h, _⟩ => by rw [r.len, len xs q er h]) fun A outer s H vs Q E hr ⟨c, hid, xs, q, er, h1, h2, h3, h4, h5, h6⟩ => ?_
  have hw := hbody A outer s H E c hid er
  rw [cdv, e] at hw
  obtain ⟨S', hS, hg⟩ := hw ⟨⟨rfl, rfl, S.nd, hr⟩, passes_of rfl, takes_of rfl rfl rfl rfl⟩ fun cl hid' H' ok hcl => h6 cl H' ok.ext ⟨ok.tabs, fun a ea => ⟨(h1.cup a ea).1, (ok.cup a ea).2⟩, fun a ha => ok.some a (ok.sub a ha), fun a ha => ha, ok.ext⟩ hcl
  refine ⟨_, hS, hid, _, _, ⟨h1, sr_start N h2, fun i j ys zs v n ei ej si => ?_⟩, hg xs q h4, ?_⟩
  · exact (h3 _ (List.mem_of_getElem? (startR_at ei))).elim
  · have less : ∀ hid' H', HpOk ⟨K, T, c, hid, H⟩ hid' H' → HpOk ⟨K, T, c, hid, H⟩ hid H' := fun hid' H' ok => ⟨ok.tabs, fun a ea => ⟨(h1.cup a ea).1, (ok.cup a ea).2⟩, fun a ha => ok.some a (ok.sub a ha), fun a ha => ha, ok.ext⟩
    exact ⟨fun hid' σ' H' ρ' so st n => h5 .non (.d .none) H' so.hp.ext (less _ _ so.hp) Dd.non trivial n, fun _ _ _ _ _ _ z => z.elim, fun _ _ _ _ _ _ z => z.elim,
      fun v y hid' H' ok r no h => h5 v y H' ok.ext (less _ _ ok) (r.less (fun a ha => ok.sub a ha) no) no h⟩
end
/-! ### calls -/
def noOwn (xs : List Dv) (p : Prop) : Prop := match xs with
  | [] => p
  | x :: r => onOwn x (noOwn r p)
theorem of_noOwn : ∀ {xs : List Dv} {p : Prop}, noOwn xs p → (∀ x ∈ xs, notOwn x) ∧ p
  | [], _, h => ⟨fun _ z => (by cases z), h⟩
  | x :: r, _, h => by
    obtain ⟨h1, h2⟩ := of_onOwn h
    obtain ⟨h3, h4⟩ := of_noOwn h2
    exact ⟨fun y hy => by
      rcases List.mem_cons.mp hy with rfl | hy
      · exact h1
      · exact h3 y hy, h4⟩
def callT (g : DF) (xs : List Dv) (q : Dv → Prop) (er : Str → Prop) (_ : Tg q) : Prop := g xs q er
abbrev call (g : DF) (xs : List Dv) (q : Dv → Prop) (er : Str → Prop) : Prop := callT g xs q er .mk
def dCall (g : DF) (er : Str → Prop) (A : DAs) (ρ : Rho) (q : Dv → Prop) : Prop := A ρ fun xs => noOwn xs (call g xs q er)
section
variable {X : Cx} {C : DC} {k n : Nat} {x : Str} {ps : List Str} {g : DF} {er : Str → Prop} {E : XK}
theorem call_sp {hid : List Addr} {H : Hp} {vs : List V} {xs : List Dv} {q : Dv → Prop} {Q : VK} (hp : HpOk C hid H) (r : VRs C hid H vs xs) (no : ∀ x ∈ xs, notOwn x) (h : g xs q er) (eo : EOk C er E) (k : ∀ v x H', Ext C.c H H' → HpOk C hid H' → VR C hid H' v x → q x → Q v H') : spD C.K C.T g vs H Q E := by
  have back : ∀ H', Ext C.c H H' → HpOk ⟨C.K, C.T, C.c, hid, H⟩ hid H' → HpOk C hid H' := fun H' e ok => ⟨ok.tabs, ok.cup, ok.some, hp.sub, hp.ext.trans e⟩
  exact ⟨C.c, hid, xs, q, er, ⟨hp.tabs, hp.cup, hp.some, fun _ h => h, .refl⟩, VRs.ctx (C := C) (C' := ⟨C.K, C.T, C.c, hid, H⟩) rfl rfl no r, no, h, fun v y H' e ok r no hq => k v y H' e (back H' e ok) (VR.ctx (C := ⟨C.K, C.T, C.c, hid, H⟩) (C' := C) rfl rfl no r) hq, fun cl H' e ok hcl => eo cl hid H' (back H' e ok) hcl⟩
theorem de_call {e : Expr} {es : List Expr} {A : DAs} {p pos : Pos} {j : Nat} (h : DHas X.prog X.w X.K X.mg X.base C.T j x ps g) (l : Lv0 X C k) (hx : Passes (L2.CX X.prog X.w) X E) (eo : EOk C er E) (ha : PA X (e :: es) (tAs C n A)) (hjk : j ≤ k := by decide) (hg : Gl X x := by rfl) (hdb : (x == ("__debug__" : Str)) = false := by decide)
    (he : starEach (e :: es) X.env = (false, eval e X.env) :: starEach es X.env := by rfl) (hpl : (backTo pos (starEach es X.env)).any (·.1) = false := by rfl) : PE X (.Call (.Name x p) (e :: es) [] pos) (tE C (dCall g er A)) := by
  obtain ⟨fd, b, kp, gm, F, _⟩ := h
  have c := pe_call (p := p) (pos := pos) F (l.room.mono hjk) hg gm kp b .nil hx ha hdb he hpl
  rw [l.K] at c
  exact c.imp fun σ H Q ⟨hid, ρ, q, hp, sr, a, k⟩ => ⟨hid, ρ, _, hp, sr, a, fun vs xs H1 e1 o1 r1 l1 a1 => by
    obtain ⟨no, a2⟩ := of_noOwn a1
    show spD C.K C.T g (vs ++ []) H1 Q E
    rw [List.append_nil]
    exact call_sp o1 r1 no a2 eo fun v x H2 e2 => k v x H2 (e1.trans e2)⟩
end
end Dl

set_option Elab.async false
set_option linter.all false
set_option maxRecDepth 100000
set_option maxHeartbeats 4000000
namespace Dl
open PySem PySem.Spec PyProof.Rows L2
/-! ### targets -/
abbrev DG := Dv → Rho → (Rho → Prop) → Prop
abbrev DGs := List Dv → Rho → (Rho → Prop) → Prop
def Inj (σ : L2.St) (ρ : Rho) : Prop := ∀ (i j : Nat) (xs ys : List PyData) (v : V), i ≠ j → ρ[i]? = some (some (.own xs)) → ρ[j]? = some (some (.own ys)) → σ[i]? = some (some v) → σ[j]? ≠ some (some v)
def tG (C : DC) (ow : List Nat) (G : DG) : TG := fun v σ H Q => ∃ hid ρ x q, HpOk C hid H ∧ SR C hid σ H ρ ∧ VR C hid H v x ∧ G x ρ q ∧ ∀ σ' ρ', SR C hid σ' H ρ' → (Inj σ ρ → Inj σ' ρ') → wipe σ' ow = wipe σ ow → q ρ' → Q σ' H
def tGs (C : DC) (ow : List Nat) (G : DGs) : TGs := fun vs σ H Q => ∃ hid ρ xs q, HpOk C hid H ∧ SR C hid σ H ρ ∧ VRs C hid H vs xs ∧ G xs ρ q ∧ ∀ σ' ρ', SR C hid σ' H ρ' → (Inj σ ρ → Inj σ' ρ') → wipe σ' ow = wipe σ ow → q ρ' → Q σ' H
def gN (i : Nat) (x : Dv) (ρ : Rho) (q : Rho → Prop) : Prop := onOwn x (q (ρ.set i (some x)))
def gsNil (xs : List Dv) (ρ : Rho) (q : Rho → Prop) : Prop := match xs with
  | [] => q ρ
  | _ => False
def gsCons (G : DG) (Gs : DGs) (xs : List Dv) (ρ : Rho) (q : Rho → Prop) : Prop := match xs with
  | x :: r => G x ρ fun ρ1 => Gs r ρ1 q
  | [] => False
def gT (n : Nat) (Gs : DGs) (x : Dv) (ρ : Rho) (q : Rho → Prop) : Prop := match x with
  | .d (.tuple ds) => ds.length = n ∧ Gs (ds.map Dv.d) ρ q
  | _ => False
theorem wipe_at (σ : L2.St) : ∀ (ow : List Nat) (j : Nat), (wipe σ ow)[j]? = if j ∈ ow then (σ[j]?.map fun _ => none) else σ[j]?
  | [], j => by rw [if_neg (by simp)]; rfl
  | o :: r, j => by
    show ((wipe σ r).set o none)[j]? = _
    rw [List.getElem?_set, wipe_length]
    by_cases e : o = j
    · subst e
      rw [if_pos rfl, if_pos List.mem_cons_self]
      by_cases k : o < σ.length
      · rw [if_pos k, List.getElem?_eq_getElem k]; rfl
      · rw [if_neg k, List.getElem?_eq_none (by omega)]; rfl
    · rw [if_neg e, wipe_at σ r j]
      by_cases m : j ∈ r
      · rw [if_pos m, if_pos (List.mem_cons_of_mem _ m)]
      · rw [if_neg m, if_neg (fun z => by
          rcases List.mem_cons.mp z with z | z
          · exact e z.symm
          · exact m z)]
theorem wipe_set {σ : L2.St} {ow : List Nat} {i : Nat} {v : V} (h : i ∈ ow) : wipe (σ.set i (some v)) ow = wipe σ ow := by
  refine List.ext_getElem? fun j => ?_
  rw [wipe_at, wipe_at]
  by_cases m : j ∈ ow
  · rw [if_pos m, if_pos m, List.getElem?_set]
    by_cases e : i = j
    · subst e
      by_cases k : i < σ.length
      · rw [if_pos rfl, if_pos k, List.getElem?_eq_getElem k]; rfl
      · rw [if_pos rfl, if_neg k, List.getElem?_eq_none (by omega)]
    · rw [if_neg e]
  · rw [if_neg m, if_neg m, List.getElem?_set, if_neg (fun (e : i = j) => m (e ▸ h))]
theorem Inj.set {σ : L2.St} {ρ : Rho} (h : Inj σ ρ) {v : V} {x : Dv} (no : notOwn x) (i : Nat) : Inj (σ.set i (some v)) (ρ.set i (some x)) := fun a b xs ys w n ea eb sa => by
  rcases get_set ea with ⟨_, _, rfl⟩ | ⟨na, ea⟩
  · exact no.elim
  · rcases get_set eb with ⟨_, _, rfl⟩ | ⟨nb, eb⟩
    · exact no.elim
    · rw [set_ne na] at sa
      rw [set_ne nb]
      exact h a b xs ys w n ea eb sa
section
variable {X : Cx} {C : DC} {ow : List Nat}
theorem _root_.L2.PG.imp {e : Expr} {t t' : TG} (h : PG X e t) (k : ∀ v σ H Q, t' v σ H Q → t v σ H Q) : PG X e t' := ⟨fun pins s σ H x u Q I r y => h.run pins s σ H x u Q I r (k x σ H Q y)⟩
theorem _root_.L2.PGs.imp {e : List Expr} {t t' : TGs} (h : PGs X e t) (k : ∀ v σ H Q, t' v σ H Q → t v σ H Q) : PGs X e t' := ⟨fun pins s σ H x u Q I r y => h.run pins s σ H x u Q I r (k x σ H Q y)⟩
theorem dg_name {pos : Pos} {i : Nat} {x : Str} (hN : X.N.Nodup) (hi : X.N[i]? = some x) (hl : L2.Loc X.env.scope x) (hf : X.fn x = true ∨ X.env.scope.names.lookup x = some .local := by first | exact Or.inl rfl | exact Or.inr rfl) (ho : i ∈ ow := by decide) : PG X (.Name x pos) (tG C ow (gN i)) :=
  (pg_name hN hi hl hf).imp fun v σ H Q ⟨hid, ρ, x, q, hp, sr, r, g, k⟩ => by
    obtain ⟨no, g⟩ := of_onOwn g
    exact k _ _ (sr.set r i) (fun ij => ij.set no i) (wipe_set ho) g
theorem dgs_nil : PGs X [] (tGs C ow gsNil) := pgs_nil.imp fun vs σ H Q ⟨hid, ρ, xs, q, hp, sr, r, g, k⟩ => by
  cases r with
  | nil => exact ⟨rfl, k σ ρ sr id rfl g⟩
  | cons a b => exact g.elim
theorem dgs_cons {e : Expr} {es : List Expr} {G : DG} {Gs : DGs} (h : PG X e (tG C ow G)) (hs : PGs X es (tGs C ow Gs)) (he : (assignEach (e :: es) X.env).map (·.2) = assign e X.env :: (assignEach es X.env).map (·.2) := by rfl) : PGs X (e :: es) (tGs C ow (gsCons G Gs)) :=
  (pgs_cons h hs he).imp fun vs σ H Q ⟨hid, ρ, xs, q, hp, sr, r, g, k⟩ => by
    cases r with
    | nil => exact g.elim
    | @cons v vs x xs a b => exact ⟨v, vs, rfl, hid, ρ, x, _, hp, sr, a, g, fun σ1 ρ1 s1 i1 w1 g1 => ⟨hid, ρ1, xs, q, hp, s1, b, g1, fun σ2 ρ2 s2 i2 w2 g2 => k σ2 ρ2 s2 (fun z => i2 (i1 z)) (w2.trans w1) g2⟩⟩
theorem dd_vrs {hid : List Addr} {H : Hp} : ∀ {vs : List V} {ds : List PyData}, DdAll C.K (hide hid H) vs ds → VRs C hid H vs (ds.map Dv.d)
  | [], _, h => by cases h; exact .nil
  | _ :: _, _, h => by
    cases h with
    | cons a b => exact .cons a (dd_vrs b)
theorem hide_mono {hid : List Addr} {H : Hp} : Mono (hide hid H) H := fun b o e _ => (hide_some e).2
theorem dg_tup {pos : Pos} {es : List Expr} {kt n : Nat} {Gs : DGs} {k : Nat} (l : Lv0 X C k) (h : PGs X es (tGs C ow Gs)) (hn : (assignEach es X.env).length = n := by rfl) (hf : (assignEach es X.env).findIdx? (·.1) = none := by rfl) : PG X (.Tuple es kt pos) (tG C ow (gT n Gs)) :=
  (pg_tup l.calm h hn hf).imp fun v σ H Q ⟨hid, ρ, x, q, hp, sr, r, g, k⟩ => by
    unfold gT at g
    split at g
    · rename_i ds
      obtain ⟨gl, g⟩ := g
      cases r with
      | @tup a xs _ h1 h2 => exact ⟨a, xs, rfl, by rw [l.K]; exact hide_mono.sqT h1.1, by rw [h2.len]; exact gl, hid, ρ, _, q, hp, sr, dd_vrs h2, g, k⟩
    · exact g.elim
/-- x, y = e -/
def dAsg (A : DE) (G : DG) (d : DEnds) (ρ : Rho) : Prop := A ρ fun x => G x ρ d.nx
theorem ds_asg {pos : Pos} {tg e : Expr} {A : DE} {G : DG} (he : PE X e (tE C A)) (hg : PG X tg (tG C ow G)) (h1 : swapsWithSole [tg] e pos.line X.env = pure false := by rfl) (h2 : swappedStores [tg] e X.env = pure none := by rfl) (h3 : (assignEach [tg] X.env).map (·.2) = [assign tg X.env] := by rfl) :
    PS X (.Assign [tg] e pos) (tS C (dAsg A G)) :=
  (ps_asg he hg h1 h2 h3).imp fun D σ H ⟨hid, ρ, d, so, s, e⟩ => ⟨hid, ρ, _, so.hp, so.sr, s, fun v x H1 e1 o1 r1 a1 => ⟨hid, ρ, x, _, o1, so.sr.ext e1 so.hp, r1, a1, fun σ' ρ' sr' ij _ g => e.nx hid σ' H1 ρ' ⟨o1, sr', ij so.inj⟩ (Stp.ext e1 so.hp) g⟩⟩
/-! ### what is walked -/
abbrev DI := Rho → (List PyData → Prop) → Prop
structure WalkD (C : DC) (hid : List Addr) (J : It) (ds : List PyData) (H : Hp) : Prop where
  ex : ∃ (G : Hp → Prop) (Y : Nat → Hp → V → Hp → Prop), Walk J ds.length G Y ∧ (∀ hid' H', Stp hid H hid' H' → G H') ∧
    ∀ i hid' H1 v H2, i < ds.length → Stp hid H hid' H1 → HpOk C hid' H1 → Y i H1 v H2 → ∃ d, ds[i]? = some d ∧ (H2 = H1 ∨ ∃ T o, H1 T = none ∧ H2 = upd H1 T o) ∧ Dd C.K (hide hid' H2) v d
def tI (C : DC) (I : DI) : TI := fun σ H R => ∃ hid ρ q, HpOk C hid H ∧ SR C hid σ H ρ ∧ I ρ q ∧ ∀ J ds H', Ext C.c H H' → HpOk C hid H' → WalkD C hid J ds H' → q ds → R J H'
theorem _root_.L2.PI.imp {tg e : Expr} {t t' : TI} (h : PI X tg e t) (k : ∀ σ H R, t' σ H R → t σ H R) : PI X tg e t' := ⟨fun pins s σ H R I y => h.run pins s σ H R I (k σ H R y)⟩
/-- the signs of a text, each as a text -/
def signs (z : Str) : List PyData := z.cps.toList.map fun c => .str ⟨#[c]⟩
def onSeq (x : Dv) (q : List PyData → Prop) : Prop := match x with
  | .d (.list ds) => q ds
  | .d (.tuple ds) => q ds
  | .d (.str z) => q (signs z)
  | _ => False
def dIt (A : DE) (ρ : Rho) (q : List PyData → Prop) : Prop := A ρ fun x => onSeq x q
theorem stp_keep {hid hid' : List Addr} {H H' : Hp} (s : Stp hid H hid' H') {d : PyData} {v : V} (h : Dd C.K (hide hid H) v d) : Dd C.K (hide hid' H') v d := Dd.mono s.mono _ _ h
theorem walkd_seq {hid : List Addr} {H : Hp} {J : It} {a : Addr} {vs : List V} {ds : List PyData} (rd : Hp → Prop) (hw : Walk J vs.length rd (YAt vs)) (hr : ∀ hid' H', Stp hid H hid' H' → rd H') (h : DdAll C.K (hide hid H) vs ds) : WalkD C hid J ds H := by
  refine ⟨rd, YAt vs, by rw [← h.len]; exact hw, hr, fun i hid' H1 v H2 hi st ok ⟨y1, y2⟩ => ?_⟩
  subst y1
  obtain ⟨d, e, k⟩ := h.at y2
  exact ⟨d, e, .inl rfl, stp_keep st k⟩
theorem one_it {pins : List (Addr × Obj)} {σ : L2.St} {H : Hp} {s : Shared} (I : Inv X pins σ H s) : ∀ b ∈ [s.heap.objs.size], FpOk X pins H b := fun b hb => by
  rw [List.mem_singleton.mp hb]
  exact I.fpOk (Nat.le_refl _) (I.hok.fresh (Nat.le_refl _))
theorem di_seq {tg e : Expr} {A : DE} {k : Nat} (l : Lv0 X C k) (h : PE X e (tE C A)) : PI X tg e (tI C (dIt A)) := by
  refine ⟨fun pins s σ H R I ⟨hid, ρ, q, hp, sr, a, kk⟩ => ?_⟩
  refine thn (h.run pins s σ H (fun v H1 => ∃ x, Ext C.c H H1 ∧ HpOk C hid H1 ∧ VR C hid H1 v x ∧ onSeq x q) I ⟨hid, ρ, _, hp, sr, a, fun v x H1 e1 o1 r1 a1 => ⟨x, e1, o1, r1, a1⟩⟩) fun v s1 ⟨u, H1, I1, r1, x, e1, o1, vr, a1⟩ => ?_
  unfold onSeq at a1
  split at a1
  · rename_i ds
    cases vr with
    | @lst p vs _ hl hd =>
      cases r1
      have hl' : SqL X.K H1 p vs := SqL.of (hide_some hl).2
      obtain ⟨us, rv, pl, _⟩ := I1.list hl'
      have wd : WalkD C hid (Itl X.K p) ds H1 := walkd_seq (a := p) (fun H => SqL X.K H p vs) walk_list (fun hid' H' st => SqL.of (st.fz p _ (hide_some hl).1 (hide_some hl).2 (fun _ z => by cases z))) hd
      exact wpAny_pyIter_list pl.isList ⟨_, [s1.heap.objs.size], _, _, H1, rfl,
        I1.kept (t' := s1.toks) (fun b o e => Heap.get?_push_of_some _ e), turn_list p _,
        ⟨_, Heap.get?_push_size _ rfl, rfl, rfl⟩, one_it I1, kk _ _ _ e1 o1 wd a1⟩
  · rename_i ds
    cases vr with
    | @tup p vs _ hl hd =>
      cases r1
      have hl' : SqT X.K H1 p vs := by rw [l.K]; exact hide_mono.sqT hl.1
      obtain ⟨us, rv, pl, _⟩ := I1.tuple hl'
      have wd : WalkD C hid (Itt X.K p) ds H1 := walkd_seq (a := p) (fun H => SqT X.K H p vs) walk_tup (fun hid' H' st => by rw [l.K]; exact hide_mono.sqT (st.mono.sqT hl.1)) hd
      exact wpAny_pyIter_tuple (show s1.heap.IsTuple p us.toArray from pl) ⟨_, [s1.heap.objs.size], _, _, H1, rfl,
        I1.kept (t' := s1.toks) (fun b o e => Heap.get?_push_of_some _ e), turn_tuple p _,
        ⟨_, Heap.get?_push_size _ rfl, rfl, rfl⟩, one_it I1, kk _ _ _ e1 o1 wd a1⟩
  · rename_i z
    cases vr with
    | str _ hz =>
      obtain ⟨t, rfl⟩ := r1
      have wd : WalkD C hid (Its z) (signs z) H1 := by
        have hl : (signs z).length = z.cps.size := by unfold signs; rw [List.length_map, Array.length_toList]
        refine ⟨fun _ => True, (fun i H v H' => H' = H ∧ ∃ c, z.cps[i]? = some c ∧ v = .str ⟨#[c]⟩), by rw [hl]; exact walk_str, fun _ _ _ => trivial, fun i hid' H2 v H3 hi st ok ⟨y1, c, y2, y3⟩ => ?_⟩
        subst y1 y3
        have hc : c ∈ z.cps := Array.mem_of_getElem? y2
        refine ⟨.str ⟨#[c]⟩, by unfold signs; rw [List.getElem?_map, Array.getElem?_toList, y2]; rfl, .inl rfl, .str _ ?_⟩
        unfold PyData.strOk at hz ⊢
        simpa using (Array.all_eq_true_iff_forall_mem.mp hz) c hc
      cases ha : z.cps.all (· < 128)
      · exact wpAny_pyIter_wide ha (pi_one (tk := s1.toks) I1 _ (turn_str _ z t "str_iterator" (.inr rfl))
          ⟨_, Heap.get?_push_size _ rfl, rfl, rfl⟩ (kk _ _ _ e1 o1 wd a1))
      · exact wpAny_pyIter_ascii ha (pi_one (tk := s1.toks) I1 _ (turn_str _ z t "str_ascii_iterator" (.inl rfl))
          ⟨_, Heap.get?_push_size _ rfl, rfl, rfl⟩ (kk _ _ _ e1 o1 wd a1))
  · exact a1.elim
/-- range(n), range(a, b) -/
def intsD (lo : Int) (n : Nat) : List PyData := (List.range n).map fun i => .int (lo + (i : Nat))
def small (i : Int) : Bool := decide (-(2 ^ 62) ≤ i ∧ i < 2 ^ 62)
def dRng1 (A : DE) (ρ : Rho) (q : List PyData → Prop) : Prop := A ρ fun x => match x with
  | .d (.int j) => small j = true ∧ q (intsD 0 j.toNat)
  | _ => False
def dRng2 (A B : DE) (ρ : Rho) (q : List PyData → Prop) : Prop := A ρ fun x => B ρ fun y => match x, y with
  | .d (.int i), .d (.int j) => small i = true ∧ small j = true ∧ q (intsD i (j - i).toNat)
  | _, _ => False
theorem intsD_at {lo : Int} {n i : Nat} (h : i < n) : (intsD lo n)[i]? = some (.int (lo + (i : Nat))) := by
  unfold intsD
  rw [List.getElem?_map, List.getElem?_range h]
  rfl
theorem walkd_rng {hid : List Addr} {H : Hp} (lo : Int) (n : Nat) : WalkD C hid (Itr lo n) (intsD lo n) H := by
  have hl : (intsD lo n).length = n := by unfold intsD; rw [List.length_map, List.length_range]
  refine ⟨fun _ => True, (YFn fun i => .int (lo + i)), by rw [hl]; exact walk_range, fun _ _ _ => trivial, fun i hid' H1 v H2 hi st ok ⟨y1, y2⟩ => ?_⟩
  subst y1 y2
  rw [hl] at hi
  exact ⟨_, intsD_at hi, .inl rfl, .int _⟩
theorem di_rng1 {tg a : Expr} {A : DE} {p pos : Pos} (hm : X.mg "range" = none) (h : PE X a (tE C A)) (hg : Gl X "range" := by rfl) (hs : starEach [a] X.env = [(false, eval a X.env)] := by rfl) : PI X tg (.Call (.Name "range" p) [a] [] pos) (tI C (dRng1 A)) :=
  (pi_range1 hg hm (pa_cons h pa_nil hs) hs).imp fun σ H R ⟨hid, ρ, q, hp, sr, a, kk⟩ => ⟨hid, ρ, _, hp, sr, a, fun v x H1 e1 o1 r1 a1 => by
    cases x with
    | d y =>
      cases y with
      | int j =>
        cases r1
        have b := of_decide_eq_true a1.1
        exact ⟨j, rfl, b.1, b.2, kk _ _ _ e1 o1 (walkd_rng 0 j.toNat) a1.2⟩
      | _ => exact a1.elim
    | _ => exact a1.elim⟩
theorem di_rng2 {tg a b : Expr} {A B : DE} {p pos : Pos} (hm : X.mg "range" = none) (h : PE X a (tE C A)) (h' : PE X b (tE C B)) (hg : Gl X "range" := by rfl) (hs : starEach [a, b] X.env = [(false, eval a X.env), (false, eval b X.env)] := by rfl) (hs2 : starEach [b] X.env = [(false, eval b X.env)] := by rfl) : PI X tg (.Call (.Name "range" p) [a, b] [] pos) (tI C (dRng2 A B)) :=
  (pi_range2 hg hm (pa_cons h (pa_cons h' pa_nil hs2) (by rw [hs, hs2])) hs hs2).imp fun σ H R ⟨hid, ρ, q, hp, sr, a, kk⟩ => ⟨hid, ρ, _, hp, sr, a, fun v x H1 e1 o1 r1 a1 => ⟨hid, ρ, _, o1, sr.ext e1 hp, a1, fun w y H2 e2 o2 r2 a2 => by
    cases x with
    | d x =>
      cases x with
      | int i =>
        cases y with
        | d y =>
          cases y with
          | int j =>
            cases r1
            cases r2
            have b1 := of_decide_eq_true a2.1
            have b2 := of_decide_eq_true a2.2.1
            exact ⟨i, j, rfl, ⟨b1.1, b1.2, b2.1, b2.2⟩, kk _ _ _ (e1.trans e2) o2 (walkd_rng i (j - i).toNat) a2.2.2⟩
          | _ => exact a2.elim
        | _ => exact a2.elim
      | _ => exact a2.elim
    | _ => exact a2.elim⟩⟩
end
end Dl

set_option Elab.async false
set_option linter.all false
set_option maxRecDepth 100000
set_option maxHeartbeats 4000000
namespace Dl
open PySem PySem.Spec PyProof.Rows L2
/-! ### loops -/
def dForGo (G : DG) (S : DS) (d : DEnds) : List PyData → Rho → Prop
  | [] => d.nx
  | x :: r => fun ρ => G (.d x) ρ fun ρ1 => S { nx := dForGo G S d r, rt := d.rt, bk := d.nx, ct := dForGo G S d r } ρ1
def forT (G : DG) (S : DS) (d : DEnds) (ds : List PyData) (ρ : Rho) (_ : Tg d) : Prop := dForGo G S d ds ρ
def dFor (I : DI) (G : DG) (S : DS) (d : DEnds) (ρ : Rho) : Prop := I ρ fun ds => forT G S d ds ρ .mk
def dWhile (T : DT) (S : DS) (d : DEnds) (ρ : Rho) : Prop := ∃ I : Nat → Rho → Prop, (∃ m, I m ρ) ∧ ∀ m ρ, I m ρ → T ρ fun b => br b (S { nx := fun ρ' => ∃ k, k < m ∧ I k ρ', rt := d.rt, bk := d.nx, ct := fun ρ' => ∃ k, k < m ∧ I k ρ' } ρ) (d.nx ρ)
theorem drop_at {α : Type} {l : List α} {i : Nat} {x : α} (h : l[i]? = some x) : l.drop i = x :: l.drop (i + 1) := by
  obtain ⟨hi, e⟩ := List.getElem?_eq_some_iff.mp h
  rw [List.drop_eq_getElem_cons hi, e]
section
variable {X : Cx} {C : DC} {ow : List Nat}
theorem yld_ok {hid : List Addr} {H H' : Hp} (hp : HpOk C hid H) (h : H' = H ∨ ∃ T o, H T = none ∧ H' = upd H T o) : Ext C.c H H' ∧ HpOk C hid H' := by
  rcases h with rfl | ⟨t, o, hn, rfl⟩
  · exact ⟨.refl, hp⟩
  · exact ⟨Ext.new hn o, hp.new hn o⟩
theorem ds_for {tg iter : Expr} {body : List Stmt} {I : DI} {G : DG} {S : DS} {pos : Pos} {E : XK} {k : Nat} (l : Lv X C E k) (hi : PI X tg iter (tI C I)) (hg : PG X tg (tG C ow G)) (hb : PSs X body (tS C S)) (hs : ∀ x, foldedSetIterable iter X.env x = pure x := by intro _; rfl) :
    PS X (.For tg iter body [] pos) (tS C (dFor I G S)) :=
  (ps_for l.own l.b.calm hi hg hb hs).imp fun D σ H ⟨hid, ρ, d, so, s, e⟩ => ⟨hid, ρ, _, so.hp, so.sr, s, fun J ds H1 e1 o1 wd a1 => by
    obtain ⟨Gp, Y, walk, hG, hY⟩ := wd.ex
    have st1 : Stp hid H hid H1 := Stp.ext e1 so.hp
    refine for_it walk (fun i σ H' => ∃ hid' ρ', StOk C hid' σ H' ρ' ∧ Stp hid H1 hid' H' ∧ dForGo G S d (ds.drop i) ρ') ⟨hid, ρ, so.ext e1 o1, .refl, a1⟩ (fun i σ H' _ ⟨hid', ρ', _, st, _⟩ => hG _ _ st) (fun i x σ H' H'' hil ⟨hid', ρ', so', st, go⟩ y => ?_) fun σ H' ⟨hid', ρ', so', st, go⟩ => ?_
    · obtain ⟨x', ex, hh, dd⟩ := hY i hid' H' x H'' hil st so'.hp y
      obtain ⟨e2, o2⟩ := yld_ok so'.hp hh
      rw [drop_at ex] at go
      refine ⟨hid', ρ', .d x', _, o2, so'.sr.ext e2 so'.hp, dd, go, fun σ2 ρ2 sr2 ij _ g2 => ⟨hid', ρ2, _, ⟨o2, sr2, ij so'.inj⟩, g2, ?_⟩⟩
      have st2 : Stp hid H1 hid' H'' := st.trans (Stp.ext e2 so'.hp)
      exact ⟨fun h3 σ3 H3 ρ3 so3 st3 n3 => ⟨h3, ρ3, so3, st2.trans st3, n3⟩, fun h3 σ3 H3 ρ3 so3 st3 n3 => e.nx h3 σ3 H3 ρ3 so3 (st1.trans (st2.trans st3)) n3, fun h3 σ3 H3 ρ3 so3 st3 n3 => ⟨h3, ρ3, so3, st2.trans st3, n3⟩, e.rt⟩
    · rw [List.drop_length] at go
      exact e.nx _ _ _ _ so' (st1.trans st) go⟩
theorem ds_while {c : Expr} {body : List Stmt} {T : DT} {S : DS} {pos : Pos} {E : XK} {k : Nat} (l : Lv X C E k) (hc : PT X c (tT C T)) (hb : PSs X body (tS C S)) : PS X (.While c body [] pos) (tS C (dWhile T S)) :=
  (ps_while l.own hc hb).imp fun D σ H ⟨hid, ρ, d, so, s, e⟩ => by
    obtain ⟨I, ⟨m, hm⟩, step⟩ := s
    refine ⟨fun m σ H' => ∃ hid' ρ', StOk C hid' σ H' ρ' ∧ Stp hid H hid' H' ∧ I m ρ', ⟨m, hid, ρ, so, .refl, hm⟩, fun m σ H' ⟨hid', ρ', so', st, hi⟩ => ⟨hid', ρ', _, so'.hp, so'.sr, step m ρ' hi, fun b H1 e1 o1 a1 => ?_⟩⟩
    have st1 : Stp hid H hid' H1 := st.trans (Stp.ext e1 so'.hp)
    cases b with
    | true =>
      exact ⟨fun σ' H' => ∃ k, k < m ∧ ∃ hid' ρ', StOk C hid' σ' H' ρ' ∧ Stp hid H hid' H' ∧ I k ρ', fun σ' H' ⟨k, hk, z⟩ => ⟨k, hk, z⟩, hid', ρ', _, so'.ext e1 o1, a1, fun h3 σ3 H3 ρ3 so3 st3 ⟨k, hk, n3⟩ => ⟨k, hk, h3, ρ3, so3, st1.trans st3, n3⟩, fun h3 σ3 H3 ρ3 so3 st3 n3 => e.nx h3 σ3 H3 ρ3 so3 (st1.trans st3) n3, fun h3 σ3 H3 ρ3 so3 st3 ⟨k, hk, n3⟩ => ⟨k, hk, h3, ρ3, so3, st1.trans st3, n3⟩, e.rt⟩
    | false => exact e.nx _ _ _ _ (so'.ext e1 o1) st1 a1
/-! ### comprehensions -/
def wipeR (ρ : Rho) : List Nat → Rho
  | [] => ρ
  | v :: vs => (wipeR ρ vs).set v none
def dLcGo (G : DG) (T : DT) (A : DE) (ρ : Rho) : List PyData → List PyData → (List PyData → Prop) → Prop
  | [], acc, q => q acc
  | x :: r, acc, q => G (.d x) ρ fun ρ1 => T ρ1 fun b => br b (A ρ1 fun y => onD y fun y => acc.length ≤ 1000000 ∧ dLcGo G T A ρ r (acc ++ [y]) q) (dLcGo G T A ρ r acc q)
def lcT (G : DG) (T : DT) (A : DE) (ρ : Rho) (ds : List PyData) (q : List PyData → Prop) (_ : Tg q) : Prop := dLcGo G T A ρ ds [] q
def dLc (I : DI) (G : DG) (T : DT) (A : DE) (vs : List Nat) (ρ : Rho) (q : Dv → Prop) : Prop := I ρ fun ds => lcT G T A (wipeR ρ vs) ds (fun l => q (.d (.list l))) .mk
def dYes (_ : Rho) (q : Bool → Prop) : Prop := q true
def tTs (C : DC) (T : DT) : TT := tT C T
theorem dts_nil : PTs X [] (tT C dYes) := ⟨fun pins s σ H Q I ⟨hid, ρ, q, hp, sr, a, k⟩ => pts_nil.run pins s σ H Q I (k true H .refl hp a)⟩
theorem dts_one {c : Expr} {T : DT} (h : PT X c (tT C T)) : PTs X [c] (tT C T) := pts_one h
theorem wipeR_len (ρ : Rho) : ∀ vs : List Nat, (wipeR ρ vs).length = ρ.length
  | [] => rfl
  | v :: vs => by unfold wipeR; rw [List.length_set, wipeR_len ρ vs]
theorem wipeR_at {ρ : Rho} {x : Dv} : ∀ {vs : List Nat} {j : Nat}, (wipeR ρ vs)[j]? = some (some x) → j ∉ vs ∧ ρ[j]? = some (some x)
  | [], j, h => ⟨by simp, h⟩
  | v :: vs, j, h => by
    unfold wipeR at h
    rw [List.getElem?_set] at h
    by_cases e : v = j
    · rw [if_pos e] at h
      split at h <;> cases h
    · rw [if_neg e] at h
      obtain ⟨h1, h2⟩ := wipeR_at h
      exact ⟨fun z => by
        rcases List.mem_cons.mp z with z | z
        · exact e z.symm
        · exact h1 z, h2⟩
theorem sr_wipe {hid : List Addr} {σ : L2.St} {H : Hp} {ρ : Rho} (s : SR C hid σ H ρ) (vs : List Nat) : SR C hid (wipe σ vs) H (wipeR ρ vs) where
  len := by rw [wipe_length, wipeR_len]; exact s.len
  at' := fun j x e => by
    obtain ⟨h1, h2⟩ := wipeR_at e
    obtain ⟨v, h3, h4⟩ := s.at' j x h2
    exact ⟨v, by rw [wipe_at, if_neg h1]; exact h3, h4⟩
theorem wipe_idem (σ : L2.St) (vs : List Nat) : wipe (wipe σ vs) vs = wipe σ vs := by
  refine List.ext_getElem? fun j => ?_
  rw [wipe_at, wipe_at]
  by_cases m : j ∈ vs
  · rw [if_pos m, if_pos m]
    cases σ[j]? <;> rfl
  · rw [if_neg m, if_neg m]
/-- while a new list is made at D -/
theorem HpOk.more {hid : List Addr} {H : Hp} (h : HpOk C hid H) {D : Addr} (hn : ∃ xs, H D = Option.some (HO.lst xs)) : HpOk C (D :: hid) H :=
  ⟨h.tabs, fun a e => ⟨List.mem_cons_of_mem _ (h.cup a e).1, (h.cup a e).2⟩, fun a ha => by
    rcases List.mem_cons.mp ha with rfl | ha
    · exact hn
    · exact h.some a ha, fun a ha => List.mem_cons_of_mem _ (h.sub a ha), h.ext⟩
theorem HpOk.drop {hid : List Addr} {H : Hp} {D : Addr} (h : HpOk C (D :: hid) H) (hc : C.c ≠ Option.some D) (h0 : D ∉ C.hid0) : HpOk C hid H :=
  ⟨h.tabs, fun a e => ⟨by
    rcases List.mem_cons.mp (h.cup a e).1 with z | z
    · exact absurd (by rw [e, z]) hc
    · exact z, (h.cup a e).2⟩, fun a ha => h.some a (List.mem_cons_of_mem _ ha), fun a ha => by
    rcases List.mem_cons.mp (h.sub a ha) with z | z
    · exact absurd (z ▸ ha) h0
    · exact z, h.ext⟩
theorem VR.more {hid : List Addr} {H H' : Hp} {D : Addr} (hn : H D = none) (hf : ∀ b o, b ≠ D → H b = some o → (∀ ps, o ≠ .tbl ps) → H' b = some o) {v : V} : ∀ {x : Dv}, VR C hid H v x → VR C (D :: hid) H' v x := by
  have m : Mono (hide hid H) (hide (D :: hid) H') := fun b o e k => by
    obtain ⟨h1, h2⟩ := hide_some e
    have ne : b ≠ D := fun z => by rw [z, hn] at h2; cases h2
    exact hide_of (fun z => by
      rcases List.mem_cons.mp z with z | z
      · exact ne z
      · exact h1 z) (hf b o ne h2 k)
  intro x k
  cases x with
  | d y => exact Dd.mono m _ _ k
  | cup => exact k
  | fn y => exact k
  | ty y => exact k
  | own y =>
    obtain ⟨p, vs, h1, h2, h3, h4, h5, h6⟩ := k
    exact ⟨p, vs, h1, List.mem_cons_of_mem _ h2, h3, h4, hf p _ (fun z => by rw [z, hn] at h5; cases h5) h5 (fun _ z => by cases z), DdAll.mono m _ _ h6⟩
theorem lc_imp {I : DI} {G : DG} {T : DT} {A : DE} {vs : List Nat} (σ : L2.St) (H : Hp) (Q : VK) : tE C (dLc I G T A vs) σ H Q → tLc (tI C I) (tG C vs G) (tT C T) (tE C A) vs σ H Q := by
  rintro ⟨hid, ρ, q, hp, sr, a, k⟩
  refine ⟨hid, ρ, _, hp, sr, a, fun J ds H1 e1 o1 wd a1 D hD => ?_⟩
  obtain ⟨Gp, Y, walk, hG, hY⟩ := wd.ex
  have cD : C.c ≠ some D := fun z => o1.nn D (o1.cup D z).1 hD
  have hD0 : D ∉ C.hid0 := fun z => o1.nn D (o1.sub D z) hD
  have hDh : D ∉ hid := fun z => o1.nn D z hD
  have sr1 : SR C hid σ H1 ρ := sr.ext e1 hp
  have stp0 : Stp hid H1 (D :: hid) (upd H1 D (.lst [])) := ⟨fun b o n e _ => by rw [upd_ne (ne_of_none e hD)]; exact e, fun b hb => by
    rcases List.mem_cons.mp hb with rfl | hb
    · exact .inr (.of hD)
    · exact .inl hb⟩
  have frD : Fr C.H0 D := Fr.new o1 hD
  -- a list that grows at D
  have grow : ∀ (H' : Hp) (ys zs : List V), HpOk C (D :: hid) H' → H' D = some (.lst ys) → HpOk C (D :: hid) (upd H' D (.lst zs)) ∧ Stp (D :: hid) H' (D :: hid) (upd H' D (.lst zs)) := fun H' ys zs ok hh => by
    refine ⟨⟨tabs_upd ok.tabs hh, fun b eb => ⟨(ok.cup b eb).1, ?_⟩, fun b hb => ?_, ok.sub, fun b o n e t => ?_⟩, ⟨fun b o n e _ => by rw [upd_ne (fun z => n (by rw [z]; exact List.mem_cons_self))]; exact e, fun b hb => .inl hb⟩⟩
    · obtain ⟨g, sd, z1, z2⟩ := (ok.cup b eb).2
      exact ⟨g, sd, by rw [upd_ne (fun z => cD (by rw [eb, z]))]; exact z1, z2⟩
    · by_cases z : b = D
      · exact ⟨zs, by rw [z, upd_same]⟩
      · rw [upd_ne z]; exact ok.some b hb
    · have h1 := ok.ext b o n e t
      by_cases z : b = D
      · subst z
        obtain ⟨ps, w⟩ := frD o e
        exact absurd w (t ps)
      · rw [upd_ne z]; exact h1
  refine lc_it walk (fun i H' => ∃ ys acc, HpOk C (D :: hid) H' ∧ Stp hid H1 (D :: hid) H' ∧ (∀ b o, b ≠ D → C.c ≠ some b → H1 b = some o → (∀ ps, o ≠ .tbl ps) → H' b = some o) ∧ H' D = some (.lst ys) ∧ DdAll C.K (hide (D :: hid) H') ys acc ∧ dLcGo G T A (wipeR ρ vs) (ds.drop i) acc fun l => q (.d (.list l)))
    ⟨[], [], (o1.new hD _).more ⟨_, upd_same⟩, stp0, fun b o n _ e _ => by rw [upd_ne n]; exact e, upd_same, .nil, a1⟩ (fun i H' _ ⟨_, _, _, st, _⟩ => hG _ _ st) (fun i x H' H'' hil ⟨ys, acc, ok, st, all, hh, da, go⟩ y => ?_) fun H' ⟨ys, acc, ok, st, all, hh, da, go⟩ => ?_
  · obtain ⟨x', ex, hy, dd⟩ := hY i _ H' x H'' hil st ok y
    obtain ⟨e2, o2⟩ := yld_ok ok hy
    rw [drop_at ex] at go
    -- the slots, with D hidden
    have sr2 : SR C (D :: hid) (wipe σ vs) H'' (wipeR ρ vs) := sr_wipe ⟨sr1.len, fun j z ej => by
      obtain ⟨v, h1, h2⟩ := sr1.at' j z ej
      refine ⟨v, h1, ?_⟩
      have h3 : VR C (D :: hid) H' v z := by
        have m : Mono (hide hid H1) (hide (D :: hid) H') := st.mono
        cases z with
        | d y => exact Dd.mono m _ _ h2
        | cup => exact h2
        | fn y => exact h2
        | ty y => exact h2
        | own y =>
          obtain ⟨p, ws, k1, k2, k3, k4, k5, k6⟩ := h2
          exact ⟨p, ws, k1, List.mem_cons_of_mem _ k2, k3, k4, all p _ (fun z => hDh (z ▸ k2)) k3 k5 (fun _ z => by cases z), DdAll.mono m _ _ k6⟩
      exact h3.ext e2 ok⟩ vs
    refine ⟨D :: hid, wipeR ρ vs, .d x', _, o2, sr2, dd, go, fun σ3 ρ3 sr3 _ w3 g3 => ⟨w3.trans (wipe_idem σ vs), D :: hid, ρ3, _, o2, sr3, g3, fun b H3 e3 o3 g4 => ?_⟩⟩
    have all3 : ∀ H4, Ext C.c H'' H4 → ∀ b o, b ≠ D → C.c ≠ some b → H1 b = some o → (∀ ps, o ≠ .tbl ps) → H4 b = some o := fun H4 e4 b o n c e t => e4 b o c (e2 b o c (all b o n c e t) t) t
    cases b with
    | true =>
      refine ⟨D :: hid, ρ3, _, o3, sr3.ext e3 o2, g4, fun v z H4 e4 o4 r4 g5 => ?_⟩
      obtain ⟨z, rfl, ln, g5⟩ := of_onD g5
      have et := (e2.trans e3).trans e4
      have hh4 : H4 D = some (.lst ys) := et D _ cD hh (fun _ z => by cases z)
      have da4 := DdAll.mono (et.mono ok) _ _ da
      obtain ⟨o5, s5⟩ := grow H4 ys (ys ++ [v]) o4 hh4
      refine ⟨ys, hh4, by rw [da4.len]; exact Nat.lt_of_le_of_lt ln (by decide), ys ++ [v], acc ++ [z], o5, ?_, fun b o n c e t => by rw [upd_ne n]; exact all3 H4 (e3.trans e4) b o n c e t, upd_same, ?_, g5⟩
      · exact (st.trans (Stp.ext et ok)).trans s5
      · exact DdAll.mono s5.mono _ _ (da4.append (.cons r4 .nil))
    | false =>
      have et := e2.trans e3
      exact ⟨ys, acc, o3, st.trans (Stp.ext et ok), all3 H3 e3, et D _ cD hh (fun _ z => by cases z), DdAll.mono (et.mono ok) _ _ da, g4⟩
  · rw [List.drop_length] at go
    have go : q (.d (.list acc)) := go
    have okh : HpOk C hid H' := ok.drop cD hD0
    refine k (.ref D) _ H' (fun b o n e t => ?_) okh ?_ go
    · have he := e1 b o n e t
      exact all b o (fun z => by rw [z, hD] at he; cases he) n he t
    · refine .lst (hide_of hDh hh) (DdAll.mono (fun b o e _ => ?_) _ _ da)
      obtain ⟨h1, h2⟩ := hide_some e
      exact hide_of (fun z => h1 (List.mem_cons_of_mem _ z)) h2
theorem de_lc {elt tg iter : Expr} {ifs : List Expr} {scope : Scope} {own : List (Str × Nat)} {pos : Pos} {I : DI} {G : DG} {T : DT} {A : DE} {k : Nat} (l : Lv0 X C k) (hi : PI X tg iter (tI C I)) (ok : BlkOk X.N X.env.scope scope own)
    (hg : ∀ (s : Shared) (H : Hp) (c : Addr) (cl : List (Str × Addr)) (fp : List Addr), Lv0 (X.blk s H scope (compEnvC scope cl c X.env) fp) C k → PG (X.blk s H scope (compEnvC scope cl c X.env) fp) tg (tG C (own.map (·.2)) G))
    (ht : ∀ (s : Shared) (H : Hp) (c : Addr) (cl : List (Str × Addr)) (fp : List Addr), Lv0 (X.blk s H scope (compEnvC scope cl c X.env) fp) C k → PTs (X.blk s H scope (compEnvC scope cl c X.env) fp) ifs (tT C T))
    (he : ∀ (s : Shared) (H : Hp) (c : Addr) (cl : List (Str × Addr)) (fp : List Addr), Lv0 (X.blk s H scope (compEnvC scope cl c X.env) fp) C k → PE (X.blk s H scope (compEnvC scope cl c X.env) fp) elt (tE C A)) (hs : ∀ x, foldedSetIterable iter X.env x = pure x := by intro _; rfl) :
    PE X (.ListComp elt [⟨tg, iter, ifs, 0⟩] scope pos) (tE C (dLc I G T A (own.map (·.2)))) :=
  (pe_lc l.calm l.nd hi ok (fun s H c cl fp => hg s H c cl fp l.blk) (fun s H c cl fp => ht s H c cl fp l.blk) (fun s H c cl fp => he s H c cl fp l.blk) hs).imp lc_imp
/-- name = [.. for ..] on one line -/
theorem ds_setLc {i : Nat} {y : Str} {py : Pos} {elt tg iter : Expr} {ifs : List Expr} {scope : Scope} {own : List (Str × Nat)} {pos spos : Pos} {I : DI} {G : DG} {T : DT} {A : DE} {k : Nat} (l : Lv0 X C k) (hy : X.N[i]? = some y) (hyl : X.env.scope.names.lookup y = some .local)
    (hsw : swapsWith (.ListComp elt [⟨tg, iter, ifs, 0⟩] scope pos) (some (.Name y py)) spos.line X.env = pure true) (hi : PI X tg iter (tI C I)) (ok : BlkOk X.N X.env.scope scope own)
    (hg : ∀ (s : Shared) (H : Hp) (c : Addr) (cl : List (Str × Addr)) (fp : List Addr), Lv0 (X.blk s H scope (compEnvC scope cl c X.env) fp) C k → PG (X.blk s H scope (compEnvC scope cl c X.env) fp) tg (tG C (own.map (·.2)) G))
    (ht : ∀ (s : Shared) (H : Hp) (c : Addr) (cl : List (Str × Addr)) (fp : List Addr), Lv0 (X.blk s H scope (compEnvC scope cl c X.env) fp) C k → PTs (X.blk s H scope (compEnvC scope cl c X.env) fp) ifs (tT C T))
    (he : ∀ (s : Shared) (H : Hp) (c : Addr) (cl : List (Str × Addr)) (fp : List Addr), Lv0 (X.blk s H scope (compEnvC scope cl c X.env) fp) C k → PE (X.blk s H scope (compEnvC scope cl c X.env) fp) elt (tE C A)) (hs : ∀ x, foldedSetIterable iter X.env x = pure x := by intro _; rfl) :
    PS X (.Assign [.Name y py] (.ListComp elt [⟨tg, iter, ifs, 0⟩] scope pos) spos) (tS C (dSet i (dLc I G T A (own.map (·.2))))) :=
  (ps_setLc l.calm l.nd hy hyl hsw hi ok (fun s H c cl fp => hg s H c cl fp l.blk) (fun s H c cl fp => ht s H c cl fp l.blk) (fun s H c cl fp => he s H c cl fp l.blk) hs).imp fun D σ H ⟨hid, ρ, d, so, s, e⟩ =>
    lc_imp σ H _ ⟨hid, ρ, _, so.hp, so.sr, s, fun v y H1 e1 o1 r1 a1 => by
      obtain ⟨no, a1⟩ := of_onOwn a1
      exact e.nx hid _ H1 _ ((so.ext e1 o1).set r1 no i) (Stp.ext e1 so.hp) a1⟩
end
end Dl

set_option Elab.async false
set_option linter.all false
set_option maxRecDepth 100000
set_option maxHeartbeats 4000000
namespace Dl
open PySem PySem.Spec PyProof.Rows L2
/-! ### operators, told of data -/
def asD : Dv → Option PyData
  | .d x => some x
  | .own xs => some (.list xs)
  | _ => none
def lstD : Dv → Option (List PyData)
  | .d (.list xs) => some xs
  | .own xs => some xs
  | _ => none
def addD (x y : Dv) (q : Dv → Prop) : Prop := match x, y with
  | .d (.int i), .d (.int j) => q (.d (.int (i + j)))
  | .d (.str a), .d (.str b) => a.length + b.length ≤ 1000000 ∧ q (.d (.str (a ++ b)))
  | .d (.tuple a), .d (.tuple b) => a.length + b.length ≤ 1000000 ∧ q (.d (.tuple (a ++ b)))
  | .d (.list a), .d (.list b) => a.length + b.length ≤ 1000000 ∧ q (.d (.list (a ++ b)))
  | .own a, .d (.list b) => a.length + b.length ≤ 1000000 ∧ q (.d (.list (a ++ b)))
  | .d (.list a), .own b => a.length + b.length ≤ 1000000 ∧ q (.d (.list (a ++ b)))
  | .own a, .own b => a.length + b.length ≤ 1000000 ∧ q (.d (.list (a ++ b)))
  | _, _ => False
def subD (x y : Dv) (q : Dv → Prop) : Prop := match x, y with
  | .d (.int i), .d (.int j) => q (.d (.int (i - j)))
  | _, _ => False
def mulOk (i j : Int) : Bool := decide (-(2 ^ 64) < i ∧ i < 2 ^ 64) || decide (-(2 ^ 64) < j ∧ j < 2 ^ 64)
def repD (l : List PyData) (k : Int) : List PyData := (List.replicate k.toNat l).flatten
def mulD (x y : Dv) (q : Dv → Prop) : Prop := match x, y with
  | .d (.int i), .d (.int j) => mulOk i j = true ∧ q (.d (.int (i * j)))
  | .d (.list a), .d (.int k) => (-(2 ^ 62) ≤ k ∧ k < 2 ^ 62 ∧ a.length * k.toNat ≤ 1000000) ∧ q (.d (.list (repD a k)))
  | .d (.tuple a), .d (.int k) => (a ≠ [] ∧ 2 ≤ k ∧ k ≤ 1000 ∧ a.length ≤ 1000) ∧ q (.d (.tuple (repD a k)))
  | _, _ => False
def modD (x y : Dv) (q : Dv → Prop) : Prop := match x, y with
  | .d (.int i), .d (.int j) => 0 < j ∧ q (.d (.int (i % j)))
  | _, _ => False
def fdivD (x y : Dv) (q : Dv → Prop) : Prop := match x, y with
  | .d (.int i), .d (.int j) => (0 < j ∧ j < 1073741824) ∧ q (.d (.int (i / j)))
  | _, _ => False
def onTwo (x y : Dv) (q : PyData → PyData → Prop) : Prop := match asD x, asD y with
  | some a, some b => q a b
  | _, _ => False
def eqD (x y : Dv) (q : Dv → Prop) : Prop := onTwo x y fun a b => (a.depth ≤ 64 ∧ b.depth ≤ 64) ∧ q (.d (.bool (PyData.eqv a b)))
def neD (x y : Dv) (q : Dv → Prop) : Prop := onTwo x y fun a b => (a.depth ≤ 64 ∧ b.depth ≤ 64) ∧ q (.d (.bool (!PyData.eqv a b)))
def cmpD (f : Int → Int → Bool) (x y : Dv) (q : Dv → Prop) : Prop := match x, y with
  | .d (.int i), .d (.int j) => q (.d (.bool (f i j)))
  | _, _ => False
abbrev ltD := cmpD fun i j => decide (i < j)
abbrev leD := cmpD fun i j => decide (i ≤ j)
abbrev gtD := cmpD fun i j => decide (j < i)
abbrev geD := cmpD fun i j => decide (j ≤ i)
def memD (ds : List PyData) (a : PyData) : Bool := ds.any fun z => PyData.eqv z a
def oneS (s : Str) : Option Nat := match s.cps.toList with
  | [c] => some c
  | _ => none
def inQ (f : Bool → Bool) (x y : Dv) (q : Dv → Prop) : Prop := match asD x, y with
  | some a, .d (.tuple ds) => (a.depth ≤ 64 ∧ (PyData.tuple ds).depth ≤ 64) ∧ q (.d (.bool (f (memD ds a))))
  | some a, .d (.list ds) => (a.depth ≤ 64 ∧ (PyData.list ds).depth ≤ 64) ∧ q (.d (.bool (f (memD ds a))))
  | some a, .own ds => (a.depth ≤ 64 ∧ (PyData.list ds).depth ≤ 64) ∧ q (.d (.bool (f (memD ds a))))
  | some (.str s), .d (.str z) => match oneS s with
    | some c => q (.d (.bool (f (decide (c ∈ z.cps.toList)))))
    | none => False
  | _, _ => False
abbrev inD := inQ fun b => b
abbrev notInD := inQ not
def isNonD : Dv → Bool
  | .d .none => true
  | _ => false
def isQ (f : Bool → Bool) (x y : Dv) (q : Dv → Prop) : Prop := match y with
  | .d .none => q (.d (.bool (f (isNonD x))))
  | .d (.bool b) => match x with
    | .d (.bool a) => q (.d (.bool (f (decide (a = b)))))
    | _ => False
  | _ => False
abbrev isD := isQ fun b => b
abbrev isNotD := isQ not
def negD (x : Dv) (q : Dv → Prop) : Prop := match x with
  | .d (.int i) => q (.d (.int (-i)))
  | _ => False
def onAtT (xs : List PyData) (i : Int) (q : PyData → Prop) (_ : Tg q) : Prop := match atI xs i with
  | some x => q x
  | none => False
abbrev onAt (xs : List PyData) (i : Int) (q : PyData → Prop) : Prop := onAtT xs i q .mk
theorem onAt_of {xs : List PyData} {i : Int} {q : PyData → Prop} {x : PyData} (e : atI xs i = some x) (h : q x) : onAtT xs i q .mk := by
  unfold onAtT
  rw [e]
  exact h
theorem onAt_0 {x : PyData} {l : List PyData} {q : PyData → Prop} : onAtT (x :: l) 0 q .mk = q x := by
  unfold onAtT
  rw [show atI (x :: l) 0 = some x from atI_nat (j := 0) rfl]
theorem onAt_1 {x y : PyData} {l : List PyData} {q : PyData → Prop} : onAtT (x :: y :: l) 1 q .mk = q y := by
  unfold onAtT
  rw [show atI (x :: y :: l) 1 = some y from atI_nat (j := 1) rfl]
theorem onAt_2 {x y z : PyData} {l : List PyData} {q : PyData → Prop} : onAtT (x :: y :: z :: l) 2 q .mk = q z := by
  unfold onAtT
  rw [show atI (x :: y :: z :: l) 2 = some z from atI_nat (j := 2) rfl]
theorem onAt_3 {x y z u : PyData} {l : List PyData} {q : PyData → Prop} : onAtT (x :: y :: z :: u :: l) 3 q .mk = q u := by
  unfold onAtT
  rw [show atI (x :: y :: z :: u :: l) 3 = some u from atI_nat (j := 3) rfl]
theorem onAt_4 {x y z u v : PyData} {l : List PyData} {q : PyData → Prop} : onAtT (x :: y :: z :: u :: v :: l) 4 q .mk = q v := by
  unfold onAtT
  rw [show atI (x :: y :: z :: u :: v :: l) 4 = some v from atI_nat (j := 4) rfl]
def ixD (x y : Dv) (q : Dv → Prop) : Prop := match y with
  | .d (.int i) => match x with
    | .d (.list xs) => onAt xs i fun z => q (.d z)
    | .own xs => onAt xs i fun z => q (.d z)
    | .d (.tuple xs) => onAt xs i fun z => q (.d z)
    | .d (.str z) => z.length ≤ 1000000 ∧ onAt (signs z) i fun z => q (.d z)
    | _ => False
  | _ => False
section
variable {X : Cx} {C : DC}
theorem VR.dp {hid : List Addr} {H : Hp} {v : V} {x : Dv} {a : PyData} (r : VR C hid H v x) (e : asD x = some a) : Dd C.K H v a := by
  cases x with
  | d y => cases e; exact Dd.mono hide_mono _ _ r
  | own xs =>
    cases e
    obtain ⟨p, vs, rfl, _, _, _, h, k⟩ := r
    exact .lst h (DdAll.mono hide_mono _ _ k)
  | cup => cases e
  | fn _ => cases e
  | ty _ => cases e
theorem VR.lst {hid : List Addr} {H : Hp} {v : V} {x : Dv} {xs : List PyData} (r : VR C hid H v x) (e : lstD x = some xs) : ∃ p vs, v = .ref p ∧ H p = some (.lst vs) ∧ DdAll C.K (hide hid H) vs xs := by
  cases x with
  | d y =>
    cases y with
    | list l => cases e; cases r with
      | lst h k => exact ⟨_, _, rfl, (hide_some h).2, k⟩
    | _ => cases e
  | own l => cases e; obtain ⟨p, vs, rfl, _, _, _, h, k⟩ := r; exact ⟨p, vs, rfl, h, k⟩
  | cup => cases e
  | fn _ => cases e
  | ty _ => cases e
theorem VR.tup {hid : List Addr} {H : Hp} {v : V} {xs : List PyData} (r : VR C hid H v (.d (.tuple xs))) : ∃ p vs, v = .ref p ∧ SqT C.K H p vs ∧ DdAll C.K (hide hid H) vs xs := by
  cases r with
  | tup h k => exact ⟨_, _, rfl, hide_mono.sqT h.1, k⟩
theorem of_onTwo {x y : Dv} {q : PyData → PyData → Prop} (h : onTwo x y q) : ∃ a b, asD x = some a ∧ asD y = some b ∧ q a b := by
  unfold onTwo at h
  split at h
  · rename_i a b e1 e2
    exact ⟨a, b, e1, e2, h⟩
  · exact h.elim
theorem d_of {hid : List Addr} {H : Hp} {v : V} {p : PyData} (r : VR C hid H v (.d p)) : Dd C.K (hide hid H) v p := r
theorem str_app {a b : Str} (h1 : PyData.strOk a = true) (h2 : PyData.strOk b = true) : PyData.strOk (a ++ b) = true := by
  unfold PyData.strOk at *
  have : (a ++ b).cps = a.cps ++ b.cps := rfl
  rw [this, Array.all_append, h1, h2]
  rfl
theorem add_lst {hid : List Addr} {H : Hp} {x y : Dv} {a b : List PyData} {v w : V} {pins : List (Addr × Obj)} {s : Shared} {σ : L2.St} {u1 u2 : Value} {Q : VK} {q : Dv → Prop} (I : Inv X pins σ H s) (rx : RelV v u1) (ry : RelV w u2) (hp : HpOk C hid H) (r1 : VR C hid H v x) (r2 : VR C hid H w y) (e1 : lstD x = some a) (e2 : lstD y = some b)
    (hl : a.length + b.length ≤ 1000000) (h : q (.d (.list (a ++ b)))) (k : ∀ v d H', Ext C.c H H' → HpOk C hid H' → VR C hid H' v d → q d → Q v H') : wpAny (model X.prog X.w) X.A (binaryOp .Add u1 u2) (EP X pins σ Q) X.xe s := by
  obtain ⟨p1, vs1, rfl, h1, d1⟩ := r1.lst e1
  obtain ⟨p2, vs2, rfl, h2, d2⟩ := r2.lst e2
  refine op_cat pins s σ H _ _ u1 u2 Q I rx ry ⟨p1, p2, vs1, vs2, rfl, rfl, h1, h2, by rw [d1.len, d2.len]; exact Nat.le_trans hl (by decide), fun p np => ?_⟩
  exact k _ _ _ (Ext.new np _) (hp.new np _) (new_lst hp (d1.append d2) np) h
theorem add_ok {k : Nat} (l : Lv0 X C k) : OpR X (binaryOp .Add) (rD C addD) := by
  intro pins s σ H x y u1 u2 Q I rx ry ⟨hid, dx, dy, q, hp, r1, r2, h, kk⟩
  unfold addD at h
  split at h
  · cases r1; cases r2
    exact op_add pins s σ H _ _ u1 u2 Q I rx ry ⟨_, _, rfl, rfl, kk _ (.d (.int _)) H .refl hp (Dd.int _) h⟩
  · cases r1 with
    | str _ k1 => cases r2 with
      | str _ k2 => exact op_add_str pins s σ H _ _ u1 u2 Q I rx ry ⟨_, _, rfl, rfl, Nat.le_trans h.1 (by decide), kk _ (.d (.str _)) H .refl hp (Dd.str _ (str_app k1 k2)) h.2⟩
  · rename_i a b
    obtain ⟨p1, vs1, rfl, h1, d1⟩ := r1.tup
    obtain ⟨p2, vs2, rfl, h2, d2⟩ := r2.tup
    have l1 := d1.len
    have l2 := d2.len
    refine op_catA pins s σ H _ _ u1 u2 Q I rx ry ⟨p1, p2, vs1, vs2, rfl, rfl, by rw [l.K]; exact h1, by rw [l.K]; exact h2, by rw [l1, l2]; exact Nat.le_trans h.1 (by decide), fun e => ?_, fun _ e => ?_, fun _ _ p np => ?_⟩
    · have : a = [] := by rw [e] at l1; exact List.length_eq_zero_iff.mp l1.symm
      rw [this, List.nil_append] at h
      exact kk _ _ H .refl hp r2 h.2
    · have : b = [] := by rw [e] at l2; exact List.length_eq_zero_iff.mp l2.symm
      rw [this, List.append_nil] at h
      exact kk _ _ H .refl hp r1 h.2
    · exact kk _ _ _ (Ext.new np _) (hp.new np _) (new_tup hp (d1.append d2) np) h.2
  · exact add_lst I rx ry hp r1 r2 rfl rfl h.1 h.2 kk
  · exact add_lst I rx ry hp r1 r2 rfl rfl h.1 h.2 kk
  · exact add_lst I rx ry hp r1 r2 rfl rfl h.1 h.2 kk
  · exact add_lst I rx ry hp r1 r2 rfl rfl h.1 h.2 kk
  · exact h.elim
theorem sub_ok : OpR X (binaryOp .Sub) (rD C subD) := by
  intro pins s σ H x y u1 u2 Q I rx ry ⟨hid, dx, dy, q, hp, r1, r2, h, kk⟩
  unfold subD at h
  split at h
  · cases r1; cases r2
    exact op_sub pins s σ H _ _ u1 u2 Q I rx ry ⟨_, _, rfl, rfl, kk _ (.d (.int _)) H .refl hp (Dd.int _) h⟩
  · exact h.elim
theorem DdAll.flat {K : PySem.W.Frag} {H : Hp} {vs : List V} {ds : List PyData} (h : DdAll K H vs ds) : ∀ n : Nat, DdAll K H (List.replicate n vs).flatten (List.replicate n ds).flatten
  | 0 => .nil
  | n + 1 => by
    rw [List.replicate_succ, List.replicate_succ, List.flatten_cons, List.flatten_cons]
    exact h.append (DdAll.flat h n)
theorem mul_ok {k : Nat} (l : Lv0 X C k) : OpR X (binaryOp .Mult) (rD C mulD) := by
  intro pins s σ H x y u1 u2 Q I rx ry ⟨hid, dx, dy, q, hp, r1, r2, h, kk⟩
  unfold mulD at h
  split at h
  · rename_i i j
    cases r1; cases r2
    have hc := h.1
    unfold mulOk at hc
    have hc : CMul i j := by
      rcases Bool.or_eq_true_iff.mp hc with z | z
      · exact .inl (of_decide_eq_true z)
      · exact .inr (of_decide_eq_true z)
    exact op_mul pins s σ H _ _ u1 u2 Q I rx ry ⟨_, _, rfl, rfl, hc, kk _ (.d (.int _)) H .refl hp (Dd.int _) h.2⟩
  · obtain ⟨p, vs, rfl, h1, d1⟩ := r1.lst rfl
    cases r2
    obtain ⟨⟨h2, h3, h4⟩, h5⟩ := h
    refine op_rep pins s σ H _ _ u1 u2 Q I rx ry ⟨p, _, vs, rfl, rfl, h1, by omega, by omega, by rw [d1.len]; exact Nat.le_trans h4 (by decide), fun p np => ?_⟩
    exact kk _ _ _ (Ext.new np _) (hp.new np _) (new_lst hp (d1.flat _) np) h5
  · rename_i a k'
    obtain ⟨p, vs, rfl, h1, d1⟩ := r1.tup
    cases r2
    obtain ⟨⟨h2, h3, h4, h6⟩, h5⟩ := h
    have l1 := d1.len
    refine op_repT pins s σ H _ _ u1 u2 Q I rx ry ⟨p, _, vs, rfl, rfl, by rw [l.K]; exact h1, fun e => h2 (by rw [e] at l1; exact List.length_eq_zero_iff.mp l1.symm), h3, h4, by rw [l1]; exact h6, fun p np => ?_⟩
    exact kk _ _ _ (Ext.new np _) (hp.new np _) (new_tup hp (d1.flat _) np) h5
  · exact h.elim
theorem mod_ok : OpR X (binaryOp .Mod) (rD C modD) := by
  intro pins s σ H x y u1 u2 Q I rx ry ⟨hid, dx, dy, q, hp, r1, r2, h, kk⟩
  unfold modD at h
  split at h
  · cases r1; cases r2
    exact op_mod pins s σ H _ _ u1 u2 Q I rx ry ⟨_, _, rfl, rfl, h.1, kk _ (.d (.int _)) H .refl hp (Dd.int _) h.2⟩
  · exact h.elim
theorem fdiv_ok : OpR X (binaryOp .FloorDiv) (rD C fdivD) := by
  intro pins s σ H x y u1 u2 Q I rx ry ⟨hid, dx, dy, q, hp, r1, r2, h, kk⟩
  unfold fdivD at h
  split at h
  · cases r1; cases r2
    exact op_fdiv pins s σ H _ _ u1 u2 Q I rx ry ⟨_, _, rfl, rfl, h.1, kk _ (.d (.int _)) H .refl hp (Dd.int _) h.2⟩
  · exact h.elim
theorem eq_ok {k : Nat} (l : Lv0 X C k) : OpR X (compareOp .Eq) (rD C eqD) := by
  intro pins s σ H x y u1 u2 Q I rx ry ⟨hid, dx, dy, q, hp, r1, r2, h, kk⟩
  obtain ⟨a, b, e1, e2, ⟨k1, k2⟩, h⟩ := of_onTwo h
  have d1 := r1.dp e1
  have d2 := r2.dp e2
  exact op_eqD (by have := l.room.un; omega) pins s σ H _ _ u1 u2 Q I rx ry ⟨a, b, by rw [l.K]; exact Dd.dp _ _ d1, by rw [l.K]; exact Dd.dp _ _ d2, d1.shaped k1, d2.shaped k2, kk _ (.d (.bool _)) H .refl hp (Dd.bl _) h⟩
theorem ne_ok {k : Nat} (l : Lv0 X C k) : OpR X (compareOp .NotEq) (rD C neD) := by
  intro pins s σ H x y u1 u2 Q I rx ry ⟨hid, dx, dy, q, hp, r1, r2, h, kk⟩
  obtain ⟨a, b, e1, e2, ⟨k1, k2⟩, h⟩ := of_onTwo h
  have d1 := r1.dp e1
  have d2 := r2.dp e2
  exact op_neD (by have := l.room.un; omega) pins s σ H _ _ u1 u2 Q I rx ry ⟨a, b, by rw [l.K]; exact Dd.dp _ _ d1, by rw [l.K]; exact Dd.dp _ _ d2, d1.shaped k1, d2.shaped k2, kk _ (.d (.bool _)) H .refl hp (Dd.bl _) h⟩
theorem cmp_ok {op : CmpOp} {f : Int → Int → Bool} (ho : OpR X (compareOp op) (rI0 fun i j => .bl (f i j))) : OpR X (compareOp op) (rD C (cmpD f)) := by
  intro pins s σ H x y u1 u2 Q I rx ry ⟨hid, dx, dy, q, hp, r1, r2, h, kk⟩
  unfold cmpD at h
  split at h
  · cases r1; cases r2
    exact ho pins s σ H _ _ u1 u2 Q I rx ry ⟨_, _, rfl, rfl, kk _ (.d (.bool _)) H .refl hp (Dd.bl _) h⟩
  · exact h.elim
theorem lt_ok : OpR X (compareOp .Lt) (rD C ltD) := cmp_ok op_lt
theorem le_ok : OpR X (compareOp .LtE) (rD C leD) := cmp_ok op_le
theorem gt_ok : OpR X (compareOp .Gt) (rD C gtD) := cmp_ok op_gt
theorem ge_ok : OpR X (compareOp .GtE) (rD C geD) := cmp_ok op_ge
/-- not in a tuple of data -/
theorem op_notInTup (hu : X.A.units + 65 < cLine) : OpR X (compareOp .NotIn) (fun x y H Q => ∃ d ds, Dp X.K H x d ∧ Dp X.K H y (.tuple ds) ∧ SeqAt.shaped d = true ∧ SeqAt.shaped (.tuple ds) = true ∧ Q (.bl (!ds.any fun z => PyData.eqv z d)) H) := by
  intro pins s σ H x y v u Q I rx ry ⟨d, ds, hd, he, sd, se, q⟩
  obtain ⟨l1, q1⟩ := hd.reads I _ _ _ rx
  obtain ⟨l2, q2⟩ := he.reads I _ _ _ ry
  exact SeqAt.notIn_tuple_reads q2 q1 (SeqAt.canLay_of_shaped se) (SeqAt.canLay_of_shaped sd) (room_in_shaped sd hu) ⟨.bl _, H, I, rfl, q⟩
theorem oneS_eq {s : Str} {c : Nat} (h : oneS s = some c) : s = ⟨#[c]⟩ := by
  unfold oneS at h
  split at h
  · rename_i d e
    cases h
    exact TL.ext_tl e
  · cases h
theorem in_gen {op : CmpOp} {f : Bool → Bool} {k : Nat} (l : Lv0 X C k)
    (ht : OpR X (compareOp op) (fun x y H Q => ∃ d ds, Dp X.K H x d ∧ Dp X.K H y (.tuple ds) ∧ SeqAt.shaped d = true ∧ SeqAt.shaped (.tuple ds) = true ∧ Q (.bl (f (ds.any fun z => PyData.eqv z d))) H))
    (hl : OpR X (compareOp op) (fun x y H Q => ∃ d ds, Dp X.K H x d ∧ Dp X.K H y (.list ds) ∧ SeqAt.shaped d = true ∧ SeqAt.shaped (.list ds) = true ∧ Q (.bl (f (ds.any fun z => PyData.eqv z d))) H))
    (hs : OpR X (compareOp op) (fun x y H Q => ∃ (c : Nat) (z : Str), x = .str ⟨#[c]⟩ ∧ y = .str z ∧ Q (.bl (f (decide (c ∈ z.cps.toList)))) H)) : OpR X (compareOp op) (rD C (inQ f)) := by
  intro pins s σ H x y u1 u2 Q I rx ry ⟨hid, dx, dy, q, hp, r1, r2, h, kk⟩
  unfold inQ at h
  split at h
  · rename_i a ds e1
    have d1 := r1.dp e1
    have d2 := r2.dp (a := .tuple ds) rfl
    exact ht pins s σ H _ _ u1 u2 Q I rx ry ⟨a, ds, by rw [l.K]; exact Dd.dp _ _ d1, by rw [l.K]; exact Dd.dp _ _ d2, d1.shaped h.1.1, d2.shaped h.1.2, kk _ (.d (.bool _)) H .refl hp (Dd.bl _) h.2⟩
  · rename_i a ds e1
    have d1 := r1.dp e1
    have d2 := r2.dp (a := .list ds) rfl
    exact hl pins s σ H _ _ u1 u2 Q I rx ry ⟨a, ds, by rw [l.K]; exact Dd.dp _ _ d1, by rw [l.K]; exact Dd.dp _ _ d2, d1.shaped h.1.1, d2.shaped h.1.2, kk _ (.d (.bool _)) H .refl hp (Dd.bl _) h.2⟩
  · rename_i a ds e1
    have d1 := r1.dp e1
    have d2 := r2.dp (a := .list ds) rfl
    exact hl pins s σ H _ _ u1 u2 Q I rx ry ⟨a, ds, by rw [l.K]; exact Dd.dp _ _ d1, by rw [l.K]; exact Dd.dp _ _ d2, d1.shaped h.1.1, d2.shaped h.1.2, kk _ (.d (.bool _)) H .refl hp (Dd.bl _) h.2⟩
  · rename_i s0 z e1
    split at h
    · rename_i c eo
      obtain rfl := oneS_eq eo
      have d1 := r1.dp e1
      cases d1
      cases r2
      exact hs pins s σ H _ _ u1 u2 Q I rx ry ⟨c, z, rfl, rfl, kk _ (.d (.bool _)) H .refl hp (Dd.bl _) h⟩
    · exact h.elim
  · exact h.elim
theorem in_ok {k : Nat} (l : Lv0 X C k) : OpR X (compareOp .In) (rD C inD) := in_gen l (Mx.op_inDT (by have := l.room.un; omega)) (op_inD (by have := l.room.un; omega)) op_in_sign
theorem notIn_ok {k : Nat} (l : Lv0 X C k) : OpR X (compareOp .NotIn) (rD C notInD) := in_gen l (op_notInTup (by have := l.room.un; omega)) (op_notInD (by have := l.room.un; omega)) op_notIn_sign
theorem non_of {hid : List Addr} {H : Hp} {v : V} {x : Dv} (r : VR C hid H v x) : decide (v = .non) = isNonD x := by
  cases x with
  | d y =>
    cases r with
    | non => rfl
    | _ => exact decide_eq_false (fun z => by cases z)
  | cup => obtain ⟨a, _, rfl⟩ := r; exact decide_eq_false (fun z => by cases z)
  | fn y => cases (show v = _ from r); exact decide_eq_false (fun z => by cases z)
  | ty y => cases (show v = _ from r); exact decide_eq_false (fun z => by cases z)
  | own y => obtain ⟨p, vs, rfl, _⟩ := r; exact decide_eq_false (fun z => by cases z)
theorem is_gen {op : CmpOp} {f : Bool → Bool} (hn : OpR X (compareOp op) (fun x y H Q => y = .non ∧ Q (.bl (f (decide (x = .non)))) H)) (hb : OpR X (compareOp op) (fun x y H Q => ∃ a b, x = .bl a ∧ y = .bl b ∧ Q (.bl (f (decide (a = b)))) H)) : OpR X (compareOp op) (rD C (isQ f)) := by
  intro pins s σ H x y u1 u2 Q I rx ry ⟨hid, dx, dy, q, hp, r1, r2, h, kk⟩
  unfold isQ at h
  split at h
  · cases r2
    rw [← non_of r1] at h
    exact hn pins s σ H _ _ u1 u2 Q I rx ry ⟨rfl, kk _ (.d (.bool _)) H .refl hp (Dd.bl _) h⟩
  · cases r2
    split at h
    · cases r1
      exact hb pins s σ H _ _ u1 u2 Q I rx ry ⟨_, _, rfl, rfl, kk _ (.d (.bool _)) H .refl hp (Dd.bl _) h⟩
    · exact h.elim
  · exact h.elim
theorem is_ok : OpR X (compareOp .Is) (rD C isD) := is_gen op_isN op_is_bl
theorem isNot_ok : OpR X (compareOp .IsNot) (rD C isNotD) := is_gen op_notN op_isnot_bl
theorem neg_ok : UnR X (unaryOp .USub) (rU1 C negD) := by
  intro pins s σ H x u Q I rx ⟨hid, dx, q, hp, r1, h, kk⟩
  unfold negD at h
  split at h
  · cases r1
    exact un_neg pins s σ H _ u Q I rx ⟨_, rfl, kk _ (.d (.int _)) H .refl hp (Dd.int _) h⟩
  · exact h.elim
theorem of_onAt {xs : List PyData} {i : Int} {q : PyData → Prop} (h : onAt xs i q) : ∃ x, atI xs i = some x ∧ q x := by
  unfold onAt onAtT at h
  split at h
  · rename_i x e; exact ⟨x, e, h⟩
  · exact h.elim
theorem DdAll.atI {K : PySem.W.Frag} {H : Hp} {vs : List V} {ds : List PyData} {i : Int} {d : PyData} (h : DdAll K H vs ds) (e : L2.atI ds i = some d) : ∃ v, L2.atI vs i = some v ∧ Dd K H v d := by
  unfold L2.atI at e ⊢
  rw [h.len]
  cases q : ixN ds.length i with
  | none => rw [q] at e; cases e
  | some j =>
    rw [q] at e
    obtain ⟨v, h1, h2⟩ := h.to (i := j) (d := d) e
    exact ⟨v, h1, h2⟩
theorem ix_ok {k : Nat} (l : Lv0 X C k) : IxR X (rD C ixD) := by
  intro va sl pins s σ H x y u1 u2 Q I rx ry ⟨hid, dx, dy, q, hp, r1, r2, h, kk⟩ hsub
  unfold ixD at h
  split at h
  · cases r2
    split at h
    · obtain ⟨z, e, h⟩ := of_onAt h
      obtain ⟨p, vs, rfl, h1, d1⟩ := r1.lst rfl
      obtain ⟨v, e1, e2⟩ := d1.atI e
      exact ix_list va sl pins s σ H _ _ u1 u2 Q I rx ry ⟨p, vs, _, v, rfl, rfl, SqL.of h1, e1, kk _ (.d z) H .refl hp e2 h⟩ hsub
    · obtain ⟨z, e, h⟩ := of_onAt h
      obtain ⟨p, vs, rfl, h1, d1⟩ := r1.lst rfl
      obtain ⟨v, e1, e2⟩ := d1.atI e
      exact ix_list va sl pins s σ H _ _ u1 u2 Q I rx ry ⟨p, vs, _, v, rfl, rfl, SqL.of h1, e1, kk _ (.d z) H .refl hp e2 h⟩ hsub
    · obtain ⟨z, e, h⟩ := of_onAt h
      obtain ⟨p, vs, rfl, h1, d1⟩ := r1.tup
      obtain ⟨v, e1, e2⟩ := d1.atI e
      exact ix_tup va sl pins s σ H _ _ u1 u2 Q I rx ry ⟨p, vs, _, v, rfl, rfl, by rw [l.K]; exact h1, e1, kk _ (.d z) H .refl hp e2 h⟩ hsub
    · rename_i i _ z
      obtain ⟨hl, h⟩ := h
      obtain ⟨w, e, h⟩ := of_onAt h
      cases r1 with
      | str _ hz =>
        have e' : ∃ c, L2.atI z.cps.toList i = some c ∧ w = .str ⟨#[c]⟩ ∧ c ∈ z.cps := by
          unfold L2.atI signs at e
          unfold L2.atI
          rw [List.length_map] at e
          cases q2 : ixN z.cps.toList.length i with
          | none => rw [q2] at e; cases e
          | some j =>
            rw [q2] at e
            have e : (z.cps.toList.map fun c => PyData.str ⟨#[c]⟩)[j]? = some w := e
            rw [List.getElem?_map] at e
            cases q3 : z.cps.toList[j]? with
            | none => rw [q3] at e; cases e
            | some c =>
              rw [q3] at e
              cases e
              exact ⟨c, q3, rfl, Array.mem_toList_iff.mp (List.mem_of_getElem? q3)⟩
        obtain ⟨c, e1, rfl, hc⟩ := e'
        have ok : PyData.strOk ⟨#[c]⟩ = true := by
          unfold PyData.strOk at hz ⊢
          simpa using (Array.all_eq_true_iff_forall_mem.mp hz) c hc
        exact ix_str va sl pins s σ H _ _ u1 u2 Q I rx ry ⟨z, _, c, rfl, rfl, Nat.le_trans hl (by decide), e1, kk _ (.d (.str _)) H .refl hp (Dd.str _ ok) h⟩ hsub
    · exact h.elim
  · exact h.elim
theorem de_ix {a b : Expr} {pos : Pos} {A B : DE} {k : Nat} (l : Lv0 X C k) (ha : PE X a (tE C A)) (hb : PE X b (tE C B)) (hs : PlainIx b := by intro _ _; rfl) : PE X (.Subscript a b pos) (tE C (dOp ixD A B)) :=
  (pe_ix (ix_ok l) ha hb hs).imp (op_both fun _ _ _ _ h => h)
/-! ### slices -/
abbrev DO := Rho → (Option Int → Prop) → Prop
def tPO (C : DC) (P : DO) : L2.St → Hp → (Option Int → Hp → Prop) → Prop := fun σ H Q => ∃ hid ρ q, HpOk C hid H ∧ SR C hid σ H ρ ∧ P ρ q ∧ ∀ o H', Ext C.c H H' → HpOk C hid H' → q o → Q o H'
def dNoPart (_ : Rho) (q : Option Int → Prop) : Prop := q none
def dPart (A : DE) (ρ : Rho) (q : Option Int → Prop) : Prop := A ρ fun x => match x with
  | .d (.int i) => q (some i)
  | _ => False
theorem _root_.L2.PO.imp {e : Option Expr} {t t' : TO} (h : PO X e t) (k : ∀ σ H Q, t' σ H Q → t σ H Q) : PO X e t' := ⟨fun pins s σ H Q I y => h.run pins s σ H Q I (k σ H Q y)⟩
theorem do_none : PO X none (tPO C dNoPart) := po_none.imp fun σ H Q ⟨hid, ρ, q, hp, sr, a, k⟩ => k none H .refl hp a
theorem do_some {e : Expr} {A : DE} (h : PE X e (tE C A)) : PO X (some e) (tPO C (dPart A)) := (po_some h).imp fun σ H Q ⟨hid, ρ, q, hp, sr, a, k⟩ => ⟨hid, ρ, _, hp, sr, a, fun v x H1 e1 o1 r1 a1 => by
  cases x with
  | d y => cases y with
    | int i => cases r1; exact ⟨i, rfl, k _ H1 e1 o1 a1⟩
    | _ => exact a1.elim
  | _ => exact a1.elim⟩
def cutD (xs : List PyData) (lo hi : Option Int) : List PyData := (xs.drop (HT.sIx xs.length 0 lo)).take (HT.sIx xs.length xs.length hi - HT.sIx xs.length 0 lo)
def sliceD (x : Dv) (lo hi : Option Int) (q : Dv → Prop) : Prop := match x with
  | .d (.list xs) => q (.d (.list (cutD xs lo hi)))
  | .own xs => q (.d (.list (cutD xs lo hi)))
  | .d (.tuple xs) => q (.d (.tuple (cutD xs lo hi)))
  | .d (.str z) => (z.length ≤ 1000000 ∧ PyData.strOk (Txt.slice z lo hi) = true) ∧ q (.d (.str (Txt.slice z lo hi)))
  | _ => False
def dSl (A : DE) (L U : DO) (ρ : Rho) (q : Dv → Prop) : Prop := A ρ fun x => L ρ fun lo => U ρ fun hi => sliceD x lo hi q
theorem DdAll.cut {K : PySem.W.Frag} {H : Hp} {vs : List V} {ds : List PyData} (h : DdAll K H vs ds) (lo hi : Option Int) : DdAll K H (cutV vs lo hi) (cutD ds lo hi) := by
  unfold cutV cutD
  rw [h.len]
  exact (h.drop _).take _
def rSlD (C : DC) : V → Option Int → Option Int → Hp → VK → Prop := fun x lo hi H Q => ∃ hid dx q, HpOk C hid H ∧ VR C hid H x dx ∧ sliceD dx lo hi q ∧ ∀ v d H', Ext C.c H H' → HpOk C hid H' → VR C hid H' v d → q d → Q v H'
theorem cutD_full {xs : List PyData} {lo hi : Option Int} (h : HT.sIx xs.length 0 lo = 0 ∧ HT.sIx xs.length xs.length hi = xs.length) : cutD xs lo hi = xs := by
  unfold cutD
  rw [h.1, h.2, List.drop_zero, Nat.sub_zero, List.take_length]
theorem sl_ok {k : Nat} (l : Lv0 X C k) : SlR X (rSlD C) := by
  intro pins s σ H x v vl vu lo hi sl Q I rx hs pl pu ⟨hid, dx, q, hp, r1, h, kk⟩
  unfold sliceD at h
  split at h
  · obtain ⟨p, vs, rfl, h1, d1⟩ := r1.lst rfl
    exact sl_list pins s σ H _ v vl vu lo hi sl Q I rx hs pl pu ⟨p, vs, rfl, SqL.of h1, fun p np => kk _ _ _ (Ext.new np _) (hp.new np _) (new_lst hp (d1.cut lo hi) np) h⟩
  · obtain ⟨p, vs, rfl, h1, d1⟩ := r1.lst rfl
    exact sl_list pins s σ H _ v vl vu lo hi sl Q I rx hs pl pu ⟨p, vs, rfl, SqL.of h1, fun p np => kk _ _ _ (Ext.new np _) (hp.new np _) (new_lst hp (d1.cut lo hi) np) h⟩
  · rename_i xs
    obtain ⟨p, vs, rfl, h1, d1⟩ := r1.tup
    have ll := d1.len
    refine sl_tupA pins s σ H _ v vl vu lo hi sl Q I rx hs pl pu ⟨p, vs, rfl, by rw [l.K]; exact h1, fun e => ?_, fun _ p np => kk _ _ _ (Ext.new np _) (hp.new np _) (new_tup hp (d1.cut lo hi) np) h⟩
    rw [ll] at e
    rw [cutD_full e] at h
    exact kk _ _ H .refl hp r1 h
  · cases r1
    exact C8.sl_txt pins s σ H _ v vl vu lo hi sl Q I rx hs pl pu ⟨_, rfl, Nat.le_trans h.1.1 (by decide), kk _ (.d (.str _)) H .refl hp (Dd.str _ h.1.2) h.2⟩
  · exact h.elim
theorem de_slice {e : Expr} {lo hi : Option Expr} {p2 pos : Pos} {A : DE} {L U : DO} {k : Nat} (l : Lv0 X C k) (he : PE X e (tE C A)) (hl : PO X lo (tPO C L)) (hu : PO X hi (tPO C U)) : PE X (.Subscript e (.Slice lo hi none p2) pos) (tE C (dSl A L U)) :=
  (pe_slice (sl_ok l) he hl hu).imp fun σ H Q ⟨hid, ρ, q, hp, sr, a, k⟩ => ⟨hid, ρ, _, hp, sr, a, fun v x H1 e1 o1 r1 a1 => ⟨hid, ρ, _, o1, sr.ext e1 hp, a1, fun lo H2 e2 o2 a2 =>
    ⟨hid, ρ, _, o2, (sr.ext e1 hp).ext e2 o1, a2, fun hi H3 e3 o3 a3 => ⟨hid, x, q, o3, (r1.ext e2 o1).ext e3 o2, a3, fun w d H4 e4 => k w d H4 (e1.trans (e2.trans (e3.trans e4)))⟩⟩⟩⟩
/-! ### chains -/
def dChain (f g : Dv → Dv → (Dv → Prop) → Prop) (A B D : DE) (ρ : Rho) (q : Dv → Prop) : Prop := A ρ fun x => B ρ fun y => f x y fun z => onB z fun b => br b (D ρ fun w => g y w q) (q (.d (.bool false)))
theorem chain_imp {f g : Dv → Dv → (Dv → Prop) → Prop} {A B D : DE} (σ : L2.St) (H : Hp) (Q : VK) : tE C (dChain f g A B D) σ H Q → tChain (rD C f) (rD C g) (tE C A) (tE C B) (tE C D) σ H Q :=
  fun ⟨hid, ρ, q, hp, sr, a, k⟩ => ⟨hid, ρ, _, hp, sr, a, fun v x H1 e1 o1 r1 a1 => ⟨hid, ρ, _, o1, sr.ext e1 hp, a1, fun w y H2 e2 o2 r2 a2 => ⟨hid, x, y, _, o2, r1.ext e2 o1, r2, a2, fun z d H3 e3 o3 r3 a3 => by
    obtain ⟨b, rfl, _, a3⟩ := of_onB r3 a3
    refine ⟨b, rfl, ?_⟩
    have e12 := e1.trans e2
    cases b with
    | true => exact ⟨hid, ρ, _, o3, sr.ext (e12.trans e3) hp, a3, fun u w' H4 e4 o4 r4 a4 => ⟨hid, y, w', q, o4, (r2.ext e3 o2).ext e4 o3, r4, a4, fun v d H5 e5 => k v d H5 (e12.trans (e3.trans (e4.trans e5)))⟩⟩
    | false => exact k _ (.d (.bool false)) H3 (e12.trans e3) o3 (Dd.bl false) a3⟩⟩⟩
theorem de_chain {a b c : Expr} {pos : Pos} {op op' : CmpOp} {f g : Dv → Dv → (Dv → Prop) → Prop} {A B D : DE} (ho : OpR X (compareOp op) (rD C f)) (ho' : OpR X (compareOp op') (rD C g)) (ha : PE X a (tE C A)) (hb : PE X b (tE C B)) (hc : PE X c (tE C D)) (hm : lastMarks [op, op'] [b, c] = false := by with_unfolding_all rfl) : PE X (.Compare a [op, op'] [b, c] pos) (tE C (dChain f g A B D)) :=
  (pe_chain ho ho' ha hb hc hm).imp chain_imp
theorem dt_chain {a b c : Expr} {pos : Pos} {op op' : CmpOp} {f g : Dv → Dv → (Dv → Prop) → Prop} {A B D : DE} (ho : OpR X (compareOp op) (rD C f)) (ho' : OpR X (compareOp op') (rD C g)) (ha : PE X a (tE C A)) (hb : PE X b (tE C B)) (hc : PE X c (tE C D)) (hm : lastMarks [op, op'] [b, c] = false := by with_unfolding_all rfl) : PT X (.Compare a [op, op'] [b, c] pos) (tT C (dB (dChain f g A B D))) :=
  (pt_chain ho ho' ha hb hc hm).imp fun σ H Q ⟨hid, ρ, q, hp, sr, a, k⟩ => chain_imp σ H _ ⟨hid, ρ, _, hp, sr, a, fun v x H1 e1 o1 r1 a1 => by
    obtain ⟨b, rfl, _, a2⟩ := of_onB r1 a1
    exact ⟨b, rfl, k b H1 e1 o1 a2⟩⟩
theorem dt_cmp {a b : Expr} {pos : Pos} {op : CmpOp} {f : Dv → Dv → (Dv → Prop) → Prop} {A B : DE} (ho : OpR X (compareOp op) (rD C f)) (ha : PE X a (tE C A)) (hb : PE X b (tE C B)) (hm : behindInMarks op b = false := by rfl) : PT X (.Compare a [op] [b] pos) (tT C (dB (dOp f A B))) :=
  (pt_cmpR ho ha hb hm).imp fun σ H Q ⟨hid, ρ, q, hp, sr, a, k⟩ => op_both (fun _ _ _ _ h => h) σ H _ ⟨hid, ρ, _, hp, sr, a, fun v x H1 e1 o1 r1 a1 => by
    obtain ⟨b, rfl, _, a2⟩ := of_onB r1 a1
    exact ⟨b, rfl, k b H1 e1 o1 a2⟩⟩
end
end Dl

set_option Elab.async false
set_option linter.all false
set_option maxRecDepth 100000
set_option maxHeartbeats 4000000
namespace Dl
open PySem PySem.Spec PyProof.Rows L2
/-! ### calls of what is built in -/
def dTy (n : String) (_ : Rho) (q : Dv → Prop) : Prop := q (.ty n)
def dFun (f : List Dv → (Dv → Prop) → Prop) (A : DAs) (ρ : Rho) (q : Dv → Prop) : Prop := A ρ fun xs => f xs q
def lenD (xs : List Dv) (q : Dv → Prop) : Prop := match xs with
  | [.d (.str z)] => z.length ≤ 1000000 ∧ q (.d (.int z.length))
  | [.d (.list l)] => q (.d (.int l.length))
  | [.d (.tuple l)] => q (.d (.int l.length))
  | [.own l] => q (.d (.int l.length))
  | _ => False
def kindD : PyData → String
  | .none => "NoneType"
  | .bool _ => "bool"
  | .int _ => "int"
  | .str _ => "str"
  | .list _ => "list"
  | .tuple _ => "tuple"
  | .dict _ => "dict"
def isaK (t k : String) : Bool := t == k || (k == "bool" && t == "int")
def isaD (t : String) (a : PyData) : Bool := isaK t (kindD a)
def isiD (xs : List Dv) (q : Dv → Prop) : Prop := match xs with
  | [x, .ty t] => match asD x with
    | some a => t ∈ ["str", "int", "bool", "tuple", "list"] ∧ q (.d (.bool (isaD t a)))
    | none => False
  | _ => False
def listD (xs : List Dv) (q : Dv → Prop) : Prop := match xs with
  | [.d (.list l)] => q (.d (.list l))
  | [.d (.tuple l)] => q (.d (.list l))
  | [.own l] => q (.d (.list l))
  | _ => False
def tupleD (xs : List Dv) (q : Dv → Prop) : Prop := match xs with
  | [.d (.list l)] => q (.d (.tuple l))
  | [.d (.tuple l)] => q (.d (.tuple l))
  | [.own l] => q (.d (.tuple l))
  | _ => False
def absD (xs : List Dv) (q : Dv → Prop) : Prop := match xs with
  | [.d (.int i)] => q (.d (.int (if i < 0 then -i else i)))
  | _ => False
section
variable {X : Cx} {C : DC}
theorem de_ty {x : Str} {n : String} {p : Pos} (hm : X.mg x = none) (hv : bootBuiltins x = some (.type n)) (hg : Gl X x := by rfl) (hn : x ≠ "__name__" := by decide) (hd : (x == ("__debug__" : Str)) = false := by decide) : PE X (.Name x p) (tE C (dTy n)) :=
  (pe_bltn (v := .ty n) hg hm hv rfl hn hd).imp fun σ H Q ⟨hid, ρ, q, hp, sr, a, k⟩ => k (.ty n) (.ty n) H .refl hp rfl a
theorem de_callB {x : Str} {id : String} {e : Expr} {es : List Expr} {n : Nat} {p pos : Pos} {f : List Dv → (Dv → Prop) → Prop} {A : DAs} (hc : CallR X (.builtin id) (rL C f)) (hv : bootBuiltins x = some (.builtin id)) (hm : X.mg x = none) (ha : PA X (e :: es) (tAs C n A)) (hg : Gl X x := by rfl) (hn : x ≠ "__name__" := by decide) (hdb : (x == ("__debug__" : Str)) = false := by decide)
    (he : starEach (e :: es) X.env = (false, eval e X.env) :: starEach es X.env := by rfl) (hpl : (backTo pos (starEach es X.env)).any (·.1) = false := by rfl) : PE X (.Call (.Name x p) (e :: es) [] pos) (tE C (dFun f A)) :=
  (pe_callB hc hg hm hv ha hn hdb he hpl).imp fun σ H Q ⟨hid, ρ, q, hp, sr, a, k⟩ => ⟨hid, ρ, _, hp, sr, a, fun vs xs H1 e1 o1 r1 l1 a1 => ⟨hid, xs, q, o1, r1, a1, fun v d H2 e2 => k v d H2 (e1.trans e2)⟩⟩
theorem de_callT {x : Str} {id : String} {e : Expr} {es : List Expr} {n : Nat} {p pos : Pos} {f : List Dv → (Dv → Prop) → Prop} {A : DAs} (hc : CallR X (.type id) (rL C f)) (hv : bootBuiltins x = some (.type id)) (hm : X.mg x = none) (ha : PA X (e :: es) (tAs C n A)) (hg : Gl X x := by rfl) (hn : x ≠ "__name__" := by decide) (hdb : (x == ("__debug__" : Str)) = false := by decide)
    (he : starEach (e :: es) X.env = (false, eval e X.env) :: starEach es X.env := by rfl) (hpl : (backTo pos (starEach es X.env)).any (·.1) = false := by rfl) : PE X (.Call (.Name x p) (e :: es) [] pos) (tE C (dFun f A)) :=
  (pe_callTy hc hg hm hv ha hn hdb he hpl).imp fun σ H Q ⟨hid, ρ, q, hp, sr, a, k⟩ => ⟨hid, ρ, _, hp, sr, a, fun vs xs H1 e1 o1 r1 l1 a1 => ⟨hid, xs, q, o1, r1, a1, fun v d H2 e2 => k v d H2 (e1.trans e2)⟩⟩
theorem VRs.one {hid : List Addr} {H : Hp} {vs : List V} {x : Dv} (r : VRs C hid H vs [x]) : ∃ v, vs = [v] ∧ VR C hid H v x := by
  cases r with
  | cons a b => cases b; exact ⟨_, rfl, a⟩
theorem VRs.two {hid : List Addr} {H : Hp} {vs : List V} {x y : Dv} (r : VRs C hid H vs [x, y]) : ∃ v w, vs = [v, w] ∧ VR C hid H v x ∧ VR C hid H w y := by
  cases r with
  | cons a b =>
    obtain ⟨w, rfl, c⟩ := b.one
    exact ⟨_, _, rfl, a, c⟩
theorem len_ok {k : Nat} (l : Lv0 X C k) : CallR X (.builtin "len") (rL C lenD) := by
  intro pins s σ H vs us Q I r ⟨hid, ds, q, hp, rs, h, kk⟩
  unfold lenD at h
  split at h
  · obtain ⟨v, rfl, r1⟩ := rs.one
    cases r1
    exact call_len_str pins s σ H _ us Q I r ⟨_, rfl, Nat.le_trans h.1 (by decide), kk _ (.d (.int _)) H .refl hp (Dd.int _) h.2⟩
  · obtain ⟨v, rfl, r1⟩ := rs.one
    obtain ⟨p, ws, rfl, h1, d1⟩ := r1.lst rfl
    rw [← d1.len] at h
    exact call_len_seq pins s σ H _ us Q I r ⟨p, ws, rfl, .inl (SqL.of h1), kk _ (.d (.int _)) H .refl hp (Dd.int _) h⟩
  · obtain ⟨v, rfl, r1⟩ := rs.one
    obtain ⟨p, ws, rfl, h1, d1⟩ := r1.tup
    rw [← d1.len] at h
    exact call_len_seq pins s σ H _ us Q I r ⟨p, ws, rfl, .inr (by rw [l.K]; exact h1), kk _ (.d (.int _)) H .refl hp (Dd.int _) h⟩
  · obtain ⟨v, rfl, r1⟩ := rs.one
    obtain ⟨p, ws, rfl, h1, d1⟩ := r1.lst rfl
    rw [← d1.len] at h
    exact call_len_seq pins s σ H _ us Q I r ⟨p, ws, rfl, .inl (SqL.of h1), kk _ (.d (.int _)) H .refl hp (Dd.int _) h⟩
  · exact h.elim
theorem Dd.tyx {K : PySem.W.Frag} {H : Hp} {v : V} {a : PyData} (h : Dd K H v a) : TyX K H v (.type (kindD a)) := by
  cases h with
  | non => exact .base .non
  | bl b => exact .base (.bl b)
  | int i => exact .base (.int i)
  | str x _ => exact .base (.str x)
  | lst e _ => exact .base (.lst e)
  | tup e _ =>
    rcases e.1 with (e | ⟨o, e⟩) | ⟨o, its, n, e, c, _⟩
    · exact .base (.tup e)
    · exact .fTuple e
    · exact .kTuple e c
theorem kit_isa {K : PySem.W.Frag} {t : String} (ht : t ∈ ["str", "int", "bool", "tuple", "list"]) {a : PyData} (hd : ∀ l, a ≠ .dict l) : PySem.W.kitOne K (.type (kindD a)) (.type t) = some (isaD t a) := by
  have all : ∀ t ∈ ["str", "int", "bool", "tuple", "list"], ∀ k ∈ ["NoneType", "bool", "int", "str", "list", "tuple"], kitB k t = some (isaK t k) := by decide +kernel
  have hk : kindD a ∈ ["NoneType", "bool", "int", "str", "list", "tuple"] := by
    cases a with
    | dict l => exact absurd rfl (hd l)
    | _ => simp [kindD]
  exact kit_ty (all t ht _ hk)
theorem isi_ok {k : Nat} (l : Lv0 X C k) : CallR X (.builtin "isinstance") (rL C isiD) := by
  intro pins s σ H vs us Q I r ⟨hid, ds, q, hp, rs, h, kk⟩
  unfold isiD at h
  split at h
  · obtain ⟨v, w, rfl, r1, r2⟩ := rs.two
    cases (show w = _ from r2)
    split at h
    · rename_i t _ a ea
      have d := r1.dp ea
      exact call_isi pins s σ H _ us Q I r ⟨v, _, _, _, _, rfl, .ty t, by rw [l.K]; exact d.tyx, kit_isa h.1 (fun l e => by rw [e] at d; cases d), kk _ (.d (.bool _)) H .refl hp (Dd.bl _) h.2⟩
    · exact h.elim
  · exact h.elim
theorem list_ok {k : Nat} (l : Lv0 X C k) : CallR X (.type "list") (rL C listD) := by
  intro pins s σ H vs us Q I r ⟨hid, ds, q, hp, rs, h, kk⟩
  unfold listD at h
  split at h
  · obtain ⟨v, rfl, r1⟩ := rs.one
    obtain ⟨p, ws, rfl, h1, d1⟩ := r1.lst rfl
    exact call_list_of pins s σ H _ us Q I r ⟨p, ws, rfl, .inl (SqL.of h1), fun p np => kk _ _ _ (Ext.new np _) (hp.new np _) (new_lst hp d1 np) h⟩
  · obtain ⟨v, rfl, r1⟩ := rs.one
    obtain ⟨p, ws, rfl, h1, d1⟩ := r1.tup
    exact call_list_of pins s σ H _ us Q I r ⟨p, ws, rfl, .inr (by rw [l.K]; exact h1), fun p np => kk _ _ _ (Ext.new np _) (hp.new np _) (new_lst hp d1 np) h⟩
  · obtain ⟨v, rfl, r1⟩ := rs.one
    obtain ⟨p, ws, rfl, h1, d1⟩ := r1.lst rfl
    exact call_list_of pins s σ H _ us Q I r ⟨p, ws, rfl, .inl (SqL.of h1), fun p np => kk _ _ _ (Ext.new np _) (hp.new np _) (new_lst hp d1 np) h⟩
  · exact h.elim
theorem tuple_ok {k : Nat} (l : Lv0 X C k) : CallR X (.type "tuple") (rL C tupleD) := by
  intro pins s σ H vs us Q I r ⟨hid, ds, q, hp, rs, h, kk⟩
  unfold tupleD at h
  split at h
  · obtain ⟨v, rfl, r1⟩ := rs.one
    obtain ⟨p, ws, rfl, h1, d1⟩ := r1.lst rfl
    exact call_tuple_of pins s σ H _ us Q I r ⟨p, ws, rfl, .inl ⟨SqL.of h1, fun p np => kk _ _ _ (Ext.new np _) (hp.new np _) (new_tup hp d1 np) h⟩⟩
  · obtain ⟨v, rfl, r1⟩ := rs.one
    obtain ⟨p, ws, rfl, h1, d1⟩ := r1.tup
    exact call_tuple_of pins s σ H _ us Q I r ⟨p, ws, rfl, .inr ⟨by rw [l.K]; exact h1, kk _ _ H .refl hp r1 h⟩⟩
  · obtain ⟨v, rfl, r1⟩ := rs.one
    obtain ⟨p, ws, rfl, h1, d1⟩ := r1.lst rfl
    exact call_tuple_of pins s σ H _ us Q I r ⟨p, ws, rfl, .inl ⟨SqL.of h1, fun p np => kk _ _ _ (Ext.new np _) (hp.new np _) (new_tup hp d1 np) h⟩⟩
  · exact h.elim
theorem abs_ok : CallR X (.builtin "abs") (rL C absD) := by
  intro pins s σ H vs us Q I r ⟨hid, ds, q, hp, rs, h, kk⟩
  unfold absD at h
  split at h
  · obtain ⟨v, rfl, r1⟩ := rs.one
    cases r1
    exact call_abs pins s σ H _ us Q I r ⟨_, rfl, kk _ (.d (.int _)) H .refl hp (Dd.int _) h⟩
  · exact h.elim
/-! ### two names at once -/
def dPar (i j : Nat) (A : DAs) (d : DEnds) (ρ : Rho) : Prop := A ρ fun xs => match xs with
  | [x, y] => onOwn x (onOwn y (d.nx ((ρ.set i (some x)).set j (some y))))
  | _ => False
theorem ds_par {i j n : Nat} {x y : Str} {a b : Expr} {A : DAs} {px py pt pos : Pos} {kt k2 pt2} {k : Nat} (l : Lv0 X C k) (hi : X.N[i]? = some x) (hj : X.N[j]? = some y)
    (ha : PA X [a, b] (tAs C n A)) (hij : i ≠ j := by decide) (hx : X.env.scope.names.lookup x = some .local := by rfl) (hy : X.env.scope.names.lookup y = some .local := by rfl)
    (hw : swappedStores [.Tuple [.Name x px, .Name y py] kt pt] (.Tuple [a, b] k2 pt2) X.env = pure (some [x, y]) := by rfl)
    (hs : swapsWithSole [.Tuple [.Name x px, .Name y py] kt pt] (.Tuple [a, b] k2 pt2) pos.line X.env = pure false := by rfl) :
    PS X (.Assign [.Tuple [.Name x px, .Name y py] kt pt] (.Tuple [a, b] k2 pt2) pos) (tS C (dPar i j A)) :=
  (ps_par l.calm l.nd hi hj hij hx hy ha hw hs).imp fun D σ H ⟨hid, ρ, d, so, s, e⟩ => ⟨hid, ρ, _, so.hp, so.sr, s, fun vs xs H1 e1 o1 r1 l1 a1 => by
    split at a1
    · obtain ⟨v, w, rfl, r2, r3⟩ := r1.two
      obtain ⟨n1, a1⟩ := of_onOwn a1
      obtain ⟨n2, a1⟩ := of_onOwn a1
      exact ⟨v, w, rfl, e.nx hid _ H1 _ (((so.ext e1 o1).set r2 n1 i).set r3 n2 j) (Stp.ext e1 so.hp) a1⟩
    · exact a1.elim⟩
end
end Dl

set_option Elab.async false
set_option linter.all false
set_option maxRecDepth 100000
set_option maxHeartbeats 4000000
namespace Dl
open PySem PySem.Spec PyProof.Rows L2
/-! ### a def that lets no exception out -/
section
variable {P : Program} {w : World} {K : PySem.W.Frag} {mg : Str → Option Value} {base : Heap}
theorem fn_cx {k : Nat} {f : Addr} {fd : FuncData} {ps : List Str} {sp : Sp} (F : FnOk P w K mg base CX0 k f fd ps sp) : FnOk P w K mg base (L2.CX P w) k f fd ps sp :=
  ⟨F.len, fun A outer s H args us vs Q E hr he hb hv hs => codeAny_mono (F.run A outer s H args us vs Q E hr he hb hv hs) fun r s' h => by
    cases r with
    | ok c => cases c <;> exact h
    | error e => exact h.elim⟩
theorem Has.cx {x : Str} {ps : List Str} {sp : Sp} {k : Nat} (h : Has P w K mg base CX0 k x ps sp) : Has P w K mg base (L2.CX P w) k x ps sp := by
  obtain ⟨fd, b, kp, gm, F, lk⟩ := h
  exact ⟨fd, b, kp, gm, fn_cx F, lk⟩
end
section
variable {X : Cx} {C : DC} {k : Nat} {x : Str} {g : DF} {er : Str → Prop} {E : XK}
def dCall0 (g : DF) (er : Str → Prop) (_ : Rho) (q : Dv → Prop) : Prop := call g [] q er
theorem de_call0 {p pos : Pos} {j : Nat} (h : DHas X.prog X.w X.K X.mg X.base C.T j x [] g) (l : Lv0 X C k) (hx : Passes (L2.CX X.prog X.w) X E) (eo : EOk C er E) (hjk : j ≤ k := by decide) (hg : Gl X x := by rfl) (hdb : (x == ("__debug__" : Str)) = false := by decide) :
    PE X (.Call (.Name x p) [] [] pos) (tE C (dCall0 g er)) := by
  obtain ⟨fd, b, kp, gm, F, _⟩ := h
  have c := pe_call0 (p := p) (pos := pos) F (l.room.mono hjk) hg gm kp b .nil hx hdb
  rw [l.K] at c
  exact c.imp fun σ H Q ⟨hid, ρ, q, hp, sr, a, k⟩ => call_sp (C := C) (vs := []) hp .nil (fun _ z => by cases z) a eo k
/-! ### t[::-1] -/
/-- n places from the last one down -/
theorem rev_places (n : Nat) : Builtin.Slice.slicePlaces ((n : Int) - 1) (-1) (-1) = n := by
  have neg : ¬ (-1 : Int) > 0 := by decide
  have one : (- -1 : Int) = 1 := by decide
  simp only [Builtin.Slice.slicePlaces, if_neg neg, one, Int.ediv_one]
  split <;> omega
/-- what stands there: the items from behind -/
theorem rev_pick (us : Array Value) : (List.range us.size).filterMap (fun m : Nat => us[(((us.size : Int) - 1) + (m : Int) * (-1)).toNat]?) = us.toList.reverse := by
  have down : ∀ m ∈ List.range us.size, us[(((us.size : Int) - 1) + (m : Int) * (-1)).toNat]? = (us[·]?) (us.size - 1 - m) := fun m hm => by
    have : (((us.size : Int) - 1) + (m : Int) * (-1)).toNat = us.size - 1 - m := by have := List.mem_range.mp hm; omega
    rw [this]
  have same : ∀ l : List Nat, (∀ m ∈ l, us[(((us.size : Int) - 1) + (m : Int) * (-1)).toNat]? = (us[·]?) (us.size - 1 - m)) → l.filterMap (fun m : Nat => us[(((us.size : Int) - 1) + (m : Int) * (-1)).toNat]?) = (l.map fun m => us.size - 1 - m).filterMap (us[·]?) := by
    intro l
    induction l with
    | nil => exact fun _ => rfl
    | cons m r ih =>
      intro h
      simp only [List.filterMap_cons, List.map_cons, h m List.mem_cons_self, ih fun x hx => h x (List.mem_cons_of_mem _ hx)]
  rw [same _ down, PySem.W.krv_range, List.filterMap_reverse, PySem.W.krv_all]
section
variable {P : Program} {w : World} {A : Around} {F : Value → Shared → Prop} {s : Shared} {t sl : Addr} {us : Array Value} {u : Tok} {E' : Value → Shared → Prop}
/-- the figures of [::-1] for n items -/
theorem rev_applied {n : Nat} {G : Int × Int × Nat → Shared → Prop} (hs : s.heap.IsSliceOf sl .none .none (.int (-1) u)) (g : G ((n : Int) - 1, -1, n) s) : wpAny (model P w) A (Builtin.Slice.sliceApplied (.ref sl) (pure (n : Int))) G E' s := by
  obtain ⟨o, ho, _, hd⟩ := hs
  simp only [Builtin.Slice.sliceApplied, Builtin.Slice.sliceFields]
  refine wpAny_bind (wpAny_bind (wpAny_field ho hd (x := .none) rfl (wpAny_bind (wpAny_field ho hd (x := .none) rfl (wpAny_bind (wpAny_field ho hd (x := .int (-1) u) rfl (wpAny_pure (wpAny_bind (HT.slicePart_ (o := some (-1)) (.int (-1) u) ?_)))))))))
  exact wpAny_bind (HT.slicePart_ .none (wpAny_bind (HT.slicePart_ .none (wpAny_bind (wpAny_pure (show wpAny _ _ (pure ((n : Int) - 1, (-1 : Int), Builtin.Slice.slicePlaces ((n : Int) - 1) (-1) (-1))) _ _ s from wpAny_pure (by rw [rev_places]; exact g)))))))
theorem revTup_get (ht : IsTup s.heap t us) (hs : s.heap.IsSliceOf sl .none .none (.int (-1) u)) (f : F (.ref s.heap.objs.size) { s with heap := s.heap.push { cls := .type "tuple", data := .seq us.toList.reverse.toArray } }) (small : us.size ≤ sizeLine) :
    wpAny (model P w) A (getItem (.ref t) (.ref sl)) F E' s := by
  have room : sizeOk (.seq us.toList.reverse.toArray) := show us.toList.reverse.toArray.size ≤ sizeLine by simpa using small
  have is : s.TypeIs (.ref sl) "slice" := hs.imp fun _ q => ⟨q.1, q.2.1⟩
  unfold getItem
  refine wpAny_holding (wpAny_bind (wpAny_sequenceKey ht.typeIs (by decide) ?_))
  refine wpAny_bind (wpAny_callSpecial?_slot (name := "__getitem__") ht.typeIs slot_tuple_getitem (wpAny_call_entry slot_tuple_getitem ht.typeIs entry_tuple_getitem ?_ (args_tuple_getitem _ _)))
  refine wpAny_bind (m := Builtin.Tuple.tupleItemsOf (.ref t)) (tupleItemsOf_ ht (wpAny_bind (wpAny_typeOf is ?_)))
  rw [if_pos (by decide)]
  refine wpAny_bind (rev_applied (n := us.size) hs ?_)
  have other : ((((us.size : Int) - 1) == 0 && (-1 : Int) == 1) && us.size == us.size) = false := by simp
  have pick := congrArg List.toArray (rev_pick us)
  dsimp only
  rw [other, pick, if_neg (by decide)]
  exact wpAny_bind (m := Builtin.Tuple.tupleExact _) (wpAny_newObj_type (wpAny_pure ⟨_, rfl, wpAny_pure f⟩) room)
end
def dRev (A : DE) (ρ : Rho) (q : Dv → Prop) : Prop := A ρ fun x => match x with
  | .d (.tuple l) => l.length ≤ 1000000 ∧ q (.d (.tuple l.reverse))
  | .d (.list l) => q (.d (.list l.reverse))
  | .own l => q (.d (.list l.reverse))
  | _ => False
theorem DdAll.reverse {K : PySem.W.Frag} {H : Hp} : ∀ {vs : List V} {ds : List PyData}, DdAll K H vs ds → DdAll K H vs.reverse ds.reverse
  | [], _, h => by cases h; exact .nil
  | _ :: _, _, h => by
    cases h with
    | cons x y =>
      rw [List.reverse_cons, List.reverse_cons]
      exact (DdAll.reverse y).append (.cons x .nil)
theorem de_rev {e : Expr} {A : DE} {k1 k : Nat} {p1 p2 p3 pos : Pos} (l : Lv0 X C k1) (he : PE X e (tE C A)) : PE X (.Subscript e (.Slice none none (some (.UnaryOp .USub (.Constant (.int 1) k p1) p2)) p3) pos) (tE C (dRev A)) := by
  refine ⟨fun pins s σ H Q I ⟨hid, ρ, q, hp, sr, a, kk⟩ => ?_⟩
  by_cases L : ∃ (hid : List Addr) (l : List PyData), HpOk C hid H ∧ True
  · refine Subscript_ (thn (he.run pins s σ H (fun v H1 => ∃ x, Ext C.c H H1 ∧ HpOk C hid H1 ∧ VR C hid H1 v x ∧ (match x with
      | .d (.tuple l) => l.length ≤ 1000000 ∧ q (.d (.tuple l.reverse))
      | .d (.list l) => q (.d (.list l.reverse))
      | .own l => q (.d (.list l.reverse))
      | _ => False)) I ⟨hid, ρ, _, hp, sr, a, fun v x H1 e1 o1 r1 a1 => ⟨x, e1, o1, r1, a1⟩⟩) fun v s1 ⟨x, H1, I1, rx, dx, e1, o1, r1, a1⟩ => ?_)
    refine wpAny_Slice (thn (po_none.run _ _ _ _ (fun o G => o = none ∧ G = H1) I1 ⟨rfl, rfl⟩) ?_)
    rintro vl s2 ⟨_, _, I2, pl, rfl, e2⟩
    subst e2
    refine thn (po_none.run _ _ _ _ (fun o G => o = none ∧ G = _) I2 ⟨rfl, rfl⟩) ?_
    rintro vu s3 ⟨_, _, I3, pu, rfl, e3⟩
    subst e3
    refine thn ((po_some (pe_un un_neg pe_int)).run _ _ _ _ (fun o G => o = some (-1) ∧ G = _) I3 ⟨1, rfl, -1, rfl, rfl, rfl⟩) ?_
    rintro vs s4 ⟨_, H4, I4, ps, rfl, e4⟩
    subst e4
    have I5 := I4.kept (t' := s4.toks) (h' := s4.heap.push { cls := .type "slice", data := .fields #[vl, vu, vs] }) fun _ _ g => Heap.get?_push_of_some _ g
    have lists : ∀ {l : List PyData} {p : Addr} {ws : List V}, x = .ref p → H4 p = some (.lst ws) → DdAll C.K (hide hid H4) ws l → q (.d (.list l.reverse)) → wpAny (model X.prog X.w) X.A (subscriptTail e (.Slice none none (some (.UnaryOp .USub (.Constant (.int 1) k p1) p2)) p3) v (.ref s4.heap.objs.size)) (EP X pins σ Q) X.xe { s4 with heap := s4.heap.push { cls := .type "slice", data := .fields #[vl, vu, vs] } } := fun {l p ws} ex h1 d1 hq => by
      subst ex
      cases rx
      obtain ⟨its, r, ht, hz⟩ := I5.list (SqL.of h1)
      refine tail_any (ops := [.ref p, .ref s4.heap.objs.size]) ht.isList.typeIs (PySem.slot_list_getitem.lookup) ?_ (by with_unfolding_all rfl)
      refine wpAny_getItem_list_slice ht.isList (Heap.IsSliceOf.new _ vl vu vs) pl pu ps (by decide) ?_ (by rw [List.size_toArray]; have := r.length; omega)
      rw [PySem.W.krv_pick]
      refine ⟨.ref _, _, I5.laid (t' := s4.toks) (o := .lst ws.reverse) (fun b ob q => Heap.get?_push_of_some _ q) (Nat.le_refl _) ?_, rfl, ?_⟩
      · exact ⟨by rw [List.length_reverse]; exact hz, _, 0, r.reverse, Heap.get?_push_size _ rfl⟩
      · have np := I5.hok.fresh (Nat.le_refl _)
        exact kk _ _ _ (e1.trans (Ext.new np _)) (o1.new np _) (new_lst o1 d1.reverse np) hq
    split at a1
    · rename_i l0
      obtain ⟨p, ws, ex, h1, d1⟩ := r1.tup
      subst ex
      cases rx
      obtain ⟨its, r, ht, hz⟩ := I5.tuple (by rw [l.K]; exact h1)
      have hlen := r.length
      cases pl
      cases pu
      cases ps
      refine tail_any (ops := [.ref p, .ref s4.heap.objs.size]) ht.typeIs (PyProof.Rows.slot_tuple_getitem.lookup) ?_ (by with_unfolding_all rfl)
      refine revTup_get ht (Heap.IsSliceOf.new _ _ _ _) ?_ (by rw [List.size_toArray]; omega)
      refine ⟨.ref _, _, I5.laid (t' := s4.toks) (o := .tup ws.reverse) (fun b ob q => Heap.get?_push_of_some _ q) (Nat.le_refl _) ?_, rfl, ?_⟩
      · exact ⟨by rw [List.length_reverse]; exact hz, _, r.reverse, IsTup.new _ _⟩
      · have np := I5.hok.fresh (Nat.le_refl _)
        exact kk _ _ _ (e1.trans (Ext.new np _)) (o1.new np _) (new_tup o1 d1.reverse np) a1.2
    · obtain ⟨p, ws, ex, h1, d1⟩ := r1.lst rfl
      exact lists ex h1 d1 a1
    · obtain ⟨p, ws, ex, h1, d1⟩ := r1.lst rfl
      exact lists ex h1 d1 a1
    · exact a1.elim
  · exact absurd ⟨hid, [], hp, trivial⟩ L
end
end Dl

set_option Elab.async false
set_option linter.all false
set_option maxRecDepth 100000
set_option maxHeartbeats 4000000
namespace Dl
open PySem PySem.Spec PyProof.Rows L2
/-! ### data beside data -/
theorem eqvAll_nil : ∀ l : List PyData, PyData.eqvAll l [] = l.isEmpty
  | [] => by simp only [PyData.eqvAll]; rfl
  | _ :: _ => by simp only [PyData.eqvAll]; rfl
theorem depth_of_le {n : Nat} : ∀ {l : List PyData}, (∀ x ∈ l, x.depth ≤ n) → PyData.depthAll l ≤ n
  | [], _ => by simp [PyData.depthAll]
  | x :: l, h => by
    have h1 := h x List.mem_cons_self
    have h2 := depth_of_le (l := l) fun y hy => h y (List.mem_cons_of_mem _ hy)
    simp only [PyData.depthAll]
    omega
theorem isa_str {d : PyData} (h : isaD "str" d = true) : ∃ z, d = .str z := by
  cases d with
  | str z => exact ⟨z, rfl⟩
  | _ => exact absurd (show false = true from h) Bool.false_ne_true
/-! ### kinds -/
theorem isa_str_none  : isaD "str" .none = false := by rfl
theorem isa_str_bool (x : Bool) : isaD "str" (.bool x) = false := by rfl
theorem isa_str_int (x : Int) : isaD "str" (.int x) = false := by rfl
theorem isa_str_str (x : Str) : isaD "str" (.str x) = true := by rfl
theorem isa_str_list (x : List PyData) : isaD "str" (.list x) = false := by rfl
theorem isa_str_tuple (x : List PyData) : isaD "str" (.tuple x) = false := by rfl
theorem isa_str_dict (x : List (PyData × PyData)) : isaD "str" (.dict x) = false := by rfl
theorem isa_int_none  : isaD "int" .none = false := by rfl
theorem isa_int_bool (x : Bool) : isaD "int" (.bool x) = true := by rfl
theorem isa_int_int (x : Int) : isaD "int" (.int x) = true := by rfl
theorem isa_int_str (x : Str) : isaD "int" (.str x) = false := by rfl
theorem isa_int_list (x : List PyData) : isaD "int" (.list x) = false := by rfl
theorem isa_int_tuple (x : List PyData) : isaD "int" (.tuple x) = false := by rfl
theorem isa_int_dict (x : List (PyData × PyData)) : isaD "int" (.dict x) = false := by rfl
theorem isa_bool_none  : isaD "bool" .none = false := by rfl
theorem isa_bool_bool (x : Bool) : isaD "bool" (.bool x) = true := by rfl
theorem isa_bool_int (x : Int) : isaD "bool" (.int x) = false := by rfl
theorem isa_bool_str (x : Str) : isaD "bool" (.str x) = false := by rfl
theorem isa_bool_list (x : List PyData) : isaD "bool" (.list x) = false := by rfl
theorem isa_bool_tuple (x : List PyData) : isaD "bool" (.tuple x) = false := by rfl
theorem isa_bool_dict (x : List (PyData × PyData)) : isaD "bool" (.dict x) = false := by rfl
theorem isa_tuple_none  : isaD "tuple" .none = false := by rfl
theorem isa_tuple_bool (x : Bool) : isaD "tuple" (.bool x) = false := by rfl
theorem isa_tuple_int (x : Int) : isaD "tuple" (.int x) = false := by rfl
theorem isa_tuple_str (x : Str) : isaD "tuple" (.str x) = false := by rfl
theorem isa_tuple_list (x : List PyData) : isaD "tuple" (.list x) = false := by rfl
theorem isa_tuple_tuple (x : List PyData) : isaD "tuple" (.tuple x) = true := by rfl
theorem isa_tuple_dict (x : List (PyData × PyData)) : isaD "tuple" (.dict x) = false := by rfl
theorem isa_list_none  : isaD "list" .none = false := by rfl
theorem isa_list_bool (x : Bool) : isaD "list" (.bool x) = false := by rfl
theorem isa_list_int (x : Int) : isaD "list" (.int x) = false := by rfl
theorem isa_list_str (x : Str) : isaD "list" (.str x) = false := by rfl
theorem isa_list_list (x : List PyData) : isaD "list" (.list x) = true := by rfl
theorem isa_list_tuple (x : List PyData) : isaD "list" (.tuple x) = false := by rfl
theorem isa_list_dict (x : List (PyData × PyData)) : isaD "list" (.dict x) = false := by rfl
/-! ### a block's scope -/
def BlkD (N : List Str) (sc scope : Scope) (own : List (Str × Nat)) : Prop := scope.kind = .function ∧ (∀ y ∈ scope.names, scope.names.lookup y.1 = some y.2) ∧ (∀ p ∈ own, N[p.2]? = some p.1) ∧ (∀ y ∈ scope.names, y.2 = .free → sc.names.lookup y.1 = some .cell ∨ sc.names.lookup y.1 = some .free) ∧ (∀ y ∈ scope.names, y.2 = .local ∨ y.2 = .cell → y.1 ∈ own.map (·.1) ∨ y.1 ∉ N)
instance {N : List Str} {sc scope : Scope} {own : List (Str × Nat)} : Decidable (BlkD N sc scope own) := by unfold BlkD; infer_instance
theorem blk_by {N : List Str} {sc scope : Scope} {own : List (Str × Nat)} (h : BlkD N sc scope own) : BlkOk N sc scope own := ⟨h.1, h.2.1, h.2.2.1, h.2.2.2.1, h.2.2.2.2⟩
/-- one statement at a time -/
theorem seq_k {s t : DS} {d : DEnds} {ρ : Rho} (h : ∀ K : Rho → Prop, (∀ ρ', t d ρ' → K ρ') → s { d with nx := K } ρ) : dSeq s t d ρ := h (t d) fun _ x => x
/-- an expression of one value -/
theorem val_of {A : DE} {ρ : Rho} {q : Dv → Prop} (v : Dv) (h : ∀ k : Dv → Prop, k v → A ρ k) (hq : q v) : A ρ q := h q hq
/-! ### loops, told of what one round does -/
theorem lcGo_of {G : DG} {T : DT} {A : DE} {ρ : Rho} (f : PyData → Bool) (g : PyData → PyData) : ∀ (ds acc : List PyData) (q : List PyData → Prop),
    (∀ x ∈ ds, ∀ (k : PyData → Prop) (n : Prop), (f x = true → k (g x)) → (f x = false → n) → G (.d x) ρ fun ρ1 => T ρ1 fun b => br b (A ρ1 fun y => onD y k) n) →
    acc.length + ds.length ≤ 1000000 → q (acc ++ (ds.filter f).map g) → dLcGo G T A ρ ds acc q
  | [], acc, q, _, _, hq => by
    unfold dLcGo
    rw [List.filter_nil, List.map_nil, List.append_nil] at hq
    exact hq
  | x :: r, acc, q, h, hl, hq => by
    unfold dLcGo
    rw [List.length_cons] at hl
    refine h x List.mem_cons_self _ _ (fun e => ⟨by omega, lcGo_of f g r _ q (fun y hy => h y (List.mem_cons_of_mem _ hy)) (by rw [List.length_append, List.length_singleton]; omega) ?_⟩) fun e => lcGo_of f g r acc q (fun y hy => h y (List.mem_cons_of_mem _ hy)) (by omega) ?_
    · rw [List.filter_cons, if_pos e, List.map_cons] at hq
      rw [List.append_assoc]
      exact hq
    · rw [List.filter_cons, if_neg (by rw [e]; decide)] at hq
      exact hq
theorem forGo_of {G : DG} {S : DS} {d : DEnds} (I : Nat → Rho → Prop) (ds : List PyData) (step : ∀ i x ρ, ds[i]? = some x → I i ρ → ∀ N : Rho → Prop, (∀ ρ', I (i + 1) ρ' → N ρ') → G (.d x) ρ fun ρ1 => S { nx := N, rt := d.rt, bk := d.nx, ct := N } ρ1)
    (fin : ∀ ρ, I ds.length ρ → d.nx ρ) : ∀ (n i : Nat), i + n = ds.length → ∀ ρ, I i ρ → dForGo G S d (ds.drop i) ρ
  | 0, i, e, ρ, h => by
    have e : i = ds.length := by omega
    subst e
    rw [List.drop_length]
    exact fin ρ h
  | n + 1, i, e, ρ, h => by
    have hi : i < ds.length := by omega
    rw [List.drop_eq_getElem_cons hi]
    unfold dForGo
    exact step i _ ρ (List.getElem?_eq_getElem hi) h _ fun ρ' h' => forGo_of I ds step fin n (i + 1) (by omega) ρ' h'
theorem lc_of {G : DG} {T : DT} {A : DE} {ρ : Rho} {ds : List PyData} {q : List PyData → Prop} (f : PyData → Bool) (g : PyData → PyData)
    (h : ∀ x ∈ ds, ∀ (k : PyData → Prop) (n : Prop), (f x = true → k (g x)) → (f x = false → n) → G (.d x) ρ fun ρ1 => T ρ1 fun b => br b (A ρ1 fun y => onD y k) n)
    (hl : ds.length ≤ 1000000) (hq : q ((ds.filter f).map g)) : lcT G T A ρ ds q .mk :=
  lcGo_of f g ds [] q h (by rw [List.length_nil]; omega) (by rw [List.nil_append]; exact hq)
theorem for_of {G : DG} {S : DS} {d : DEnds} {ρ : Rho} {ds : List PyData} (J : Nat → Rho → Prop) (h0 : J 0 ρ) (step : ∀ i x ρ, ds[i]? = some x → J i ρ → ∀ N : Rho → Prop, (∀ ρ', J (i + 1) ρ' → N ρ') → G (.d x) ρ fun ρ1 => S { nx := N, rt := d.rt, bk := d.nx, ct := N } ρ1)
    (fin : ∀ ρ, J ds.length ρ → d.nx ρ) : forT G S d ds ρ .mk := forGo_of J ds step fin ds.length 0 (by omega) ρ h0
end Dl

set_option Elab.async false
set_option linter.all false
set_option maxRecDepth 100000
set_option maxHeartbeats 4000000
namespace Dl
open PySem PySem.Spec PyProof.Rows L2
/-! ### from the heap to data, midway -/
def tSx (K : PySem.W.Frag) (T : Tbs) (S : DS) : TS := fun D σ H => ∃ (c : Option Addr) (hid0 : List Addr) (H0 : Hp), tS ⟨K, T, c, hid0, H0⟩ S D σ H
theorem dsx {X : Cx} {K : PySem.W.Frag} {T : Tbs} {sts : List Stmt} {S : DS} (h : ∀ (c : Option Addr) (hid0 : List Addr) (H0 : Hp), PSs X sts (tS ⟨K, T, c, hid0, H0⟩ S)) : PSs X sts (tSx K T S) :=
  ⟨fun pins s σ H D I ⟨c, hid0, H0, x⟩ => (h c hid0 H0).run pins s σ H D I x⟩
section
variable {P : Program} {w : World} {K : PySem.W.Frag} {mg : Str → Option Value} {base : Heap} {T : Tbs}
theorem lv_nox {N : List Str} {x : Str} {sc : Scope} {ga : Addr} {cd : Value} {A : Around} {outer : List Env} {s : Shared} {H : Hp} {E : XK} {k : Nat} {c : Option Addr} {hid0 : List Addr} {H0 : Hp} (nd : N.Nodup) (hr : Room k (cxOf CX0 P w K mg base N x sc ga cd A outer s H E).nox.A) :
    Lv (cxOf CX0 P w K mg base N x sc ga cd A outer s H E).nox ⟨K, T, c, hid0, H0⟩ (fun _ _ _ => False) k :=
  ⟨⟨rfl, rfl, nd, hr⟩, PassesOwn.never, fun u s' ⟨a, B, sI, pins, σ, H, cls, d, e, I, nb, up, sky, na, os, ag, z⟩ => z.elim⟩
theorem Has.call0 {X : Cx} {CX : CXT} {k : Nat} {x : Str} {sp : Sp} {E : XK} {p pos : Pos} (h : Has X.prog X.w X.K X.mg X.base CX k x [] sp) (hr : Room k X.A) (hx : Passes CX X E) (hg : Gl X x := by rfl) (hdb : (x == ("__debug__" : Str)) = false := by decide) : PE X (.Call (.Name x p) [] [] pos) (tCall sp [] E tNil) := by
  obtain ⟨fd, b, kp, gm, F, _⟩ := h
  exact pe_call0 F hr hg gm kp b .nil hx hdb
/-- a new cup: what stands behind it -/
theorem start_ok {H : Hp} {p : Addr} {σ : L2.St} {ρ : Rho} (tb : LamX.Tabs T H) (cup : Cup H p) (len : σ.length = ρ.length) (sl : ∀ (i : Nat) (x : Dv), ρ[i]? = some (some x) → ∃ v : V, σ[i]? = some (some v) ∧ VR ⟨K, T, some p, [p], H⟩ [p] H v x ∧ notOwn x) : StOk ⟨K, T, some p, [p], H⟩ [p] σ H ρ :=
  ⟨⟨tb, fun a e => by cases e; exact ⟨List.mem_singleton_self _, cup⟩, fun a ha => by
    obtain ⟨g, s, h, _⟩ := cup
    rw [List.mem_singleton.mp ha]
    exact ⟨_, h⟩, fun a ha => ha, .refl⟩, ⟨len, fun i x e => by
    obtain ⟨v, h1, h2, _⟩ := sl i x e
    exact ⟨v, h1, h2⟩⟩, fun i j xs ys v n ei _ _ => by
    obtain ⟨_, _, _, no⟩ := sl i _ ei
    exact no.elim⟩
/-- a law's end -/
theorem ends_law {C : DC} {hid : List Addr} {H : Hp} {Q : VK} (h : ∀ H', Q (.bl true) H') : EndsR C hid H { nx := fun _ => False, rt := fun x => x = .d (.bool true) } { nx := fun _ H' => Q .non H', rt := Q } :=
  ⟨fun _ _ _ _ _ _ z => z.elim, fun _ _ _ _ _ _ z => z.elim, fun _ _ _ _ _ _ z => z.elim, fun v x hid' H' ok r no e => by
    subst e
    cases r
    exact h H'⟩
end
end Dl

set_option Elab.async false
set_option linter.all false
set_option maxRecDepth 100000
set_option maxHeartbeats 4000000
/-! a def as a function of data, that can be reckoned -/
namespace Fl
open PySem PySem.Spec PyProof.Rows L2 Dl
/-- an answer, an error's class, neither, or any answer of a lot -/
inductive R (α : Type) : Type where
  | ok (a : α)
  | er (c : Str)
  | no
  | ch (S : PyData → Prop) (k : PyData → R α)
namespace R
variable {α β γ : Type}
def bind : R α → (α → R β) → R β
  | ok a, f => f a
  | er c, _ => er c
  | no, _ => no
  | ch S k, f => ch S fun d => bind (k d) f
def wp : R α → (α → Prop) → (Str → Prop) → Prop
  | ok a, q, _ => q a
  | er c, _, e => e c
  | no, _, _ => False
  | ch S k, q, e => ∀ d, S d → wp (k d) q e
theorem wp_bind (e : Str → Prop) : ∀ (m : R α) (f : α → R β) (q : β → Prop), wp (m.bind f) q e = wp m (fun a => wp (f a) q e) e
  | ok a, f, q => rfl
  | er c, f, q => rfl
  | no, f, q => rfl
  | ch S k, f, q => by
    show (∀ d, S d → wp ((k d).bind f) q e) = ∀ d, S d → wp (k d) (fun a => wp (f a) q e) e
    exact forall_congr fun d => by rw [wp_bind e (k d) f q]
theorem wp_mono {e : Str → Prop} : ∀ {m : R α} {q q' : α → Prop}, (∀ a, q a → q' a) → wp m q e → wp m q' e
  | ok a, q, q', h, k => h a k
  | er c, q, q', h, k => k
  | no, q, q', h, k => k
  | ch S k, q, q', h, w => fun d hd => wp_mono h (w d hd)
theorem bind_ok {a : α} {f : α → R β} : (ok a).bind f = f a := rfl
theorem bind_er {c : Str} {f : α → R β} : (er c).bind f = er c := rfl
theorem bind_no {f : α → R β} : (no : R α).bind f = no := rfl
theorem bind_ch {S : PyData → Prop} {k : PyData → R α} {f : α → R β} : (ch S k).bind f = ch S fun d => (k d).bind f := rfl
theorem bind_assoc : ∀ (m : R α) (f : α → R β) (g : β → R γ), (m.bind f).bind g = m.bind fun a => (f a).bind g
  | ok _, _, _ => rfl
  | er _, _, _ => rfl
  | no, _, _ => rfl
  | ch S k, f, g => by
    show ch S (fun d => ((k d).bind f).bind g) = ch S fun d => (k d).bind fun a => (f a).bind g
    congr 1
    funext d
    exact bind_assoc (k d) f g
end R
open R
/-! ### the words -/
abbrev CE := Rho → R Dv
abbrev CT := Rho → R Bool
abbrev CA := Rho → R (List Dv)
inductive Out where
  | nx (ρ : Rho) | rt (v : Dv) | bk (ρ : Rho) | ct (ρ : Rho)
abbrev CS := Rho → R Out
def up {α : Type} (er : Str → Prop) (a : Rho → R α) : Rho → (α → Prop) → Prop := fun ρ q => wp (a ρ) q er
def outK (d : DEnds) : Out → Prop
  | .nx ρ => d.nx ρ
  | .rt v => d.rt v
  | .bk ρ => d.bk ρ
  | .ct ρ => d.ct ρ
def upS (er : Str → Prop) (a : CS) : DS := fun d ρ => wp (a ρ) (outK d) er
def cVar (i : Nat) (ρ : Rho) : R Dv := match ρ[i]? with
  | some (some x) => ok x
  | _ => no
def cC (x : PyData) (_ : Rho) : R Dv := ok (.d x)
def cFn (x : Str) (_ : Rho) : R Dv := ok (.fn x)
def cTy (n : String) (_ : Rho) : R Dv := ok (.ty n)
def cOp (f : Dv → Dv → R Dv) (a b : CE) (ρ : Rho) : R Dv := (a ρ).bind fun x => (b ρ).bind fun y => f x y
def cUn (f : Dv → R Dv) (a : CE) (ρ : Rho) : R Dv := (a ρ).bind f
def cNil (_ : Rho) : R (List Dv) := ok []
def cCons (a : CE) (b : CA) (ρ : Rho) : R (List Dv) := (a ρ).bind fun x => (b ρ).bind fun xs => ok (x :: xs)
def boolR : Dv → R Bool
  | .d (.bool b) => ok b
  | _ => no
def cB (a : CE) (ρ : Rho) : R Bool := (a ρ).bind boolR
def cNot (b : CT) (ρ : Rho) : R Bool := (b ρ).bind fun b => ok (!b)
def iff {α : Type} (b : Bool) (x y : R α) : R α := match b with
  | true => x
  | false => y
def cAndT (a b : CT) (ρ : Rho) : R Bool := (a ρ).bind fun v => iff v (b ρ) (ok false)
def cOrT (a b : CT) (ρ : Rho) : R Bool := (a ρ).bind fun v => iff v (ok true) (b ρ)
def cIfE (t : CT) (a b : CE) (ρ : Rho) : R Dv := (t ρ).bind fun v => iff v (a ρ) (b ρ)
def cAnd (a b : CE) (ρ : Rho) : R Dv := (a ρ).bind fun x => (boolR x).bind fun v => iff v (b ρ) (ok (.d (.bool false)))
def cOr (a b : CE) (ρ : Rho) : R Dv := (a ρ).bind fun x => (boolR x).bind fun v => iff v (ok (.d (.bool true))) (b ρ)
def cNotE (a : CE) (ρ : Rho) : R Dv := (a ρ).bind fun x => (boolR x).bind fun v => ok (.d (.bool (!v)))
def dsR (xs : List Dv) : R (List PyData) := match datas xs with
  | some l => ok l
  | none => no
def cTup (a : CA) (ρ : Rho) : R Dv := (a ρ).bind fun xs => (dsR xs).bind fun l => ok (.d (.tuple l))
def cLst (a : CA) (ρ : Rho) : R Dv := (a ρ).bind fun xs => (dsR xs).bind fun l => ok (.d (.list l))
def notOwnB : Dv → Bool
  | .own _ => false
  | _ => true
theorem notOwnB_iff {x : Dv} : notOwnB x = true → notOwn x := by
  cases x <;> intro h <;> first | trivial | cases h
/-! ### statements -/
def cNext (ρ : Rho) : R Out := ok (.nx ρ)
def cSeq (s t : CS) (ρ : Rho) : R Out := (s ρ).bind fun o => match o with
  | .nx ρ' => t ρ'
  | o => ok o
def cIf (c : CT) (s t : CS) (ρ : Rho) : R Out := (c ρ).bind fun b => iff b (s ρ) (t ρ)
def chk {α : Type} (b : Bool) (x : R α) : R α := iff b x no
def cSet (i : Nat) (a : CE) (ρ : Rho) : R Out := (a ρ).bind fun x => chk (notOwnB x) (ok (.nx (ρ.set i (some x))))
def cOwnL (i : Nat) (a : CA) (ρ : Rho) : R Out := (a ρ).bind fun xs => (dsR xs).bind fun l => ok (.nx (ρ.set i (some (.own l))))
def dR : Dv → R PyData
  | .d y => ok y
  | _ => no
def cApp (i : Nat) (a : CE) (ρ : Rho) : R Out := match ρ[i]? with
  | some (some (.own xs)) => (a ρ).bind fun y => (dR y).bind fun y => chk (decide (xs.length ≤ 1000000)) (ok (.nx (ρ.set i (some (.own (xs ++ [y]))))))
  | _ => no
def retR : Dv → Dv
  | .own l => .d (.list l)
  | x => x
def cRet (a : CE) (ρ : Rho) : R Out := (a ρ).bind fun x => ok (.rt (retR x))
def cRetN (_ : Rho) : R Out := ok (.rt (.d .none))
def cDrop (a : CE) (ρ : Rho) : R Out := (a ρ).bind fun _ => ok (.nx ρ)
def cBreak (ρ : Rho) : R Out := ok (.bk ρ)
def cRaise (cl : Str) (_ : Rho) : R Out := er cl
def cFrz (i : Nat) (s : CS) (ρ : Rho) : R Out := s (frz ρ i)
def cPar (i j : Nat) (a : CA) (ρ : Rho) : R Out := (a ρ).bind fun xs => match xs with
  | [x, y] => chk (notOwnB x && notOwnB y) (ok (.nx ((ρ.set i (some x)).set j (some y))))
  | _ => no
/-! targets -/
abbrev CG := Dv → Rho → R Rho
abbrev CGs := List Dv → Rho → R Rho
def tgN (i : Nat) (x : Dv) (ρ : Rho) : R Rho := chk (notOwnB x) (ok (ρ.set i (some x)))
def tgsNil (xs : List Dv) (ρ : Rho) : R Rho := match xs with
  | [] => ok ρ
  | _ => no
def tgsCons (g : CG) (gs : CGs) (xs : List Dv) (ρ : Rho) : R Rho := match xs with
  | x :: r => (g x ρ).bind fun ρ1 => gs r ρ1
  | [] => no
def tgT (n : Nat) (gs : CGs) (x : Dv) (ρ : Rho) : R Rho := match x with
  | .d (.tuple ds) => chk (ds.length == n) (gs (ds.map Dv.d) ρ)
  | _ => no
def cAsg (a : CE) (g : CG) (ρ : Rho) : R Out := (a ρ).bind fun x => (g x ρ).bind fun ρ' => ok (.nx ρ')
/-! loops -/
abbrev CI := Rho → R (List PyData)
def forR (g : CG) (s : CS) : List PyData → Rho → R Out
  | [], ρ => ok (.nx ρ)
  | x :: r, ρ => (g (.d x) ρ).bind fun ρ1 => (s ρ1).bind fun o => match o with
    | .nx ρ' => forR g s r ρ'
    | .ct ρ' => forR g s r ρ'
    | .bk ρ' => ok (.nx ρ')
    | .rt v => ok (.rt v)
def cFor (i : CI) (g : CG) (s : CS) (ρ : Rho) : R Out := (i ρ).bind fun ds => forR g s ds ρ
def whileR (c : CT) (s : CS) : Nat → Rho → R Out
  | 0, _ => no
  | n + 1, ρ => (c ρ).bind fun b => iff b ((s ρ).bind fun o => match o with
    | .nx ρ' => whileR c s n ρ'
    | .ct ρ' => whileR c s n ρ'
    | .bk ρ' => ok (.nx ρ')
    | .rt v => ok (.rt v)) (ok (.nx ρ))
def cWhile (n : Nat) (c : CT) (s : CS) (ρ : Rho) : R Out := whileR c s n ρ
def seqR : Dv → R (List PyData)
  | .d (.list ds) => ok ds
  | .d (.tuple ds) => ok ds
  | .d (.str z) => ok (signs z)
  | _ => no
def cIt (a : CE) (ρ : Rho) : R (List PyData) := (a ρ).bind seqR
def lcR (g : CG) (t : CT) (a : CE) (ρ : Rho) : List PyData → R (List PyData)
  | [] => ok []
  | x :: r => (g (.d x) ρ).bind fun ρ1 => (t ρ1).bind fun b => iff b ((a ρ1).bind fun y => (dR y).bind fun y => (lcR g t a ρ r).bind fun l => ok (y :: l)) (lcR g t a ρ r)
def cLc (i : CI) (g : CG) (t : CT) (a : CE) (vs : List Nat) (ρ : Rho) : R Dv := (i ρ).bind fun ds => chk (decide (ds.length ≤ 1000000)) ((lcR g t a (wipeR ρ vs) ds).bind fun l => ok (.d (.list l)))
def cYes (_ : Rho) : R Bool := ok true
/-! calls -/
def cCall (m : List Dv → R Dv) (a : CA) (ρ : Rho) : R Dv := (a ρ).bind fun xs => chk (xs.all notOwnB) (m xs)
def cCall0 (m : List Dv → R Dv) (_ : Rho) : R Dv := m []
def cFun (f : List Dv → R Dv) (a : CA) (ρ : Rho) : R Dv := (a ρ).bind f
/-- a def's body -/
def body (n k : Nat) (s : CS) (xs : List Dv) : R Dv := chk (xs.length == n) ((s (xs.map some ++ List.replicate k none)).bind fun o => match o with
  | .nx _ => ok (.d .none)
  | .rt v => ok v
  | _ => no)
def gR (m : List Dv → R Dv) : DF := fun xs q er => wp (m xs) q er
/-! ### adequacy -/
section
variable {X : Cx} {C : DC} {er : Str → Prop}
theorem mE {A A' : DE} (h : ∀ ρ q, A' ρ q → A ρ q) (σ : L2.St) (H : Hp) (Q : VK) (x : tE C A' σ H Q) : tE C A σ H Q := by
  obtain ⟨hid, ρ, q, hp, sr, a, k⟩ := x
  exact ⟨hid, ρ, q, hp, sr, h ρ q a, k⟩
theorem mT {A A' : DT} (h : ∀ ρ q, A' ρ q → A ρ q) (σ : L2.St) (H : Hp) (Q : Bool → Hp → Prop) (x : tT C A' σ H Q) : tT C A σ H Q := by
  obtain ⟨hid, ρ, q, hp, sr, a, k⟩ := x
  exact ⟨hid, ρ, q, hp, sr, h ρ q a, k⟩
theorem mA {A A' : DAs} {n : Nat} (h : ∀ ρ q, A' ρ q → A ρ q) (σ : L2.St) (H : Hp) (Q : List V → Hp → Prop) (x : tAs C n A' σ H Q) : tAs C n A σ H Q := by
  obtain ⟨hid, ρ, q, hp, sr, a, k⟩ := x
  exact ⟨hid, ρ, q, hp, sr, h ρ q a, k⟩
theorem mI {A A' : DI} (h : ∀ ρ q, A' ρ q → A ρ q) (σ : L2.St) (H : Hp) (Q : It → Hp → Prop) (x : tI C A' σ H Q) : tI C A σ H Q := by
  obtain ⟨hid, ρ, q, hp, sr, a, k⟩ := x
  exact ⟨hid, ρ, q, hp, sr, h ρ q a, k⟩
theorem mS {A A' : DS} (h : ∀ d ρ, A' d ρ → A d ρ) (D : Ends) (σ : L2.St) (H : Hp) (x : tS C A' D σ H) : tS C A D σ H := by
  obtain ⟨hid, ρ, d, so, a, k⟩ := x
  exact ⟨hid, ρ, d, so, h d ρ a, k⟩
theorem mG {A A' : DG} {ow : List Nat} (h : ∀ x ρ q, A' x ρ q → A x ρ q) (v : V) (σ : L2.St) (H : Hp) (Q : L2.St → Hp → Prop) (x : tG C ow A' v σ H Q) : tG C ow A v σ H Q := by
  obtain ⟨hid, ρ, x, q, hp, sr, r, a, k⟩ := x
  exact ⟨hid, ρ, x, q, hp, sr, r, h x ρ q a, k⟩
theorem mGs {A A' : DGs} {ow : List Nat} (h : ∀ x ρ q, A' x ρ q → A x ρ q) (v : List V) (σ : L2.St) (H : Hp) (Q : L2.St → Hp → Prop) (x : tGs C ow A' v σ H Q) : tGs C ow A v σ H Q := by
  obtain ⟨hid, ρ, x, q, hp, sr, r, a, k⟩ := x
  exact ⟨hid, ρ, x, q, hp, sr, r, h x ρ q a, k⟩
/-- targets, as a relation of what is hoped for -/
def upG (er : Str → Prop) (g : CG) : DG := fun x ρ q => wp (g x ρ) q er
def upGs (er : Str → Prop) (g : CGs) : DGs := fun x ρ q => wp (g x ρ) q er
theorem chk_wp {α : Type} {b : Bool} {x : R α} {q : α → Prop} (h : wp (chk b x) q er) : b = true ∧ wp x q er := by
  cases b with
  | true => exact ⟨rfl, h⟩
  | false => exact h.elim
theorem iff_br {α : Type} {b : Bool} {x y : R α} {q : α → Prop} {p1 p2 : Prop} (h : wp (iff b x y) q er) (h1 : wp x q er → p1) (h2 : wp y q er → p2) : br b p1 p2 := by
  cases b with
  | true => exact h1 h
  | false => exact h2 h
theorem boolR_wp {x : Dv} {q : Bool → Prop} (h : wp (boolR x) q er) : onB x q := by
  cases x with
  | d y =>
    cases y with
    | bool b => exact h
    | _ => exact h.elim
  | _ => exact h.elim
theorem dsR_wp {xs : List Dv} {q : List PyData → Prop} (h : wp (dsR xs) q er) : onDs xs q := by
  unfold dsR at h
  unfold onDs
  split at h
  · rename_i l e
    try rw [e]
    exact h
  · exact h.elim
theorem dR_wp {x : Dv} {q : PyData → Prop} (h : wp (dR x) q er) : onD x q := by
  cases x with
  | d y => exact h
  | _ => exact h.elim
theorem fe_pv {x : Str} {i : Nat} {pos : Pos} (h : PE X (.Name x pos) (tVar i)) : PE X (.Name x pos) (tE C (up er (cVar i))) := (de_pv h).imp (mE fun ρ q h => by
  unfold up cVar at h
  unfold dVar
  split at h
  · rename_i y e
    try rw [e]
    exact h
  · exact h.elim)
theorem fe_c {e : Expr} {x : PyData} (h : PE X e (tE C (dC x))) : PE X e (tE C (up er (cC x))) := h.imp (mE fun ρ q h => h)
theorem fe_int {i j pos} : PE X (.Constant (.int i) j pos) (tE C (up er (cC (.int i)))) := fe_c de_int
theorem fe_bl {i j pos} : PE X (.Constant (.bool i) j pos) (tE C (up er (cC (.bool i)))) := fe_c de_bl
theorem fe_non {j pos} : PE X (.Constant .none j pos) (tE C (up er (cC .none))) := fe_c de_non
theorem fe_str {x j pos} (h : PyData.strOk x = true := by decide +kernel) : PE X (.Constant (.str x) j pos) (tE C (up er (cC (.str x)))) := fe_c (de_str h)
theorem fe_fn {x : Str} {pos : Pos} (hg : Gl X x) (hm : X.mg x = some (.ref (He.ga C.K x))) (hd : (x == ("__debug__" : Str)) = false := by decide) : PE X (.Name x pos) (tE C (up er (cFn x))) := (de_fn hg hm hd).imp (mE fun ρ q h => h)
theorem fe_ty {x : Str} {n : String} {p : Pos} (hm : X.mg x = none) (hv : bootBuiltins x = some (.type n)) (hg : Gl X x := by rfl) (hn : x ≠ "__name__" := by decide) (hd : (x == ("__debug__" : Str)) = false := by decide) : PE X (.Name x p) (tE C (up er (cTy n))) := (de_ty hm hv hg hn hd).imp (mE fun ρ q h => h)
theorem fe_nil : PA X [] (tAs C 0 (up er cNil)) := de_nil.imp (mA fun ρ q h => h)
theorem fe_cons {e : Expr} {es : List Expr} {n : Nat} {A : CE} {B : CA} (ha : PE X e (tE C (up er A))) (hb : PA X es (tAs C n (up er B))) (he : starEach (e :: es) X.env = (false, eval e X.env) :: starEach es X.env := by rfl) : PA X (e :: es) (tAs C (n + 1) (up er (cCons A B))) :=
  (de_cons ha hb he).imp (mA fun ρ q h => by
    unfold up cCons at h
    rw [wp_bind] at h
    exact wp_mono (fun x h => by rw [wp_bind] at h; exact h) h)
theorem op_mono {f : Dv → Dv → R Dv} {g : Dv → Dv → (Dv → Prop) → Prop} {A B : CE} (hf : ∀ x y q, wp (f x y) q er → g x y q) (ρ : Rho) (q : Dv → Prop) (h : up er (cOp f A B) ρ q) : dOp g (up er A) (up er B) ρ q := by
  unfold up cOp at h
  rw [wp_bind] at h
  exact wp_mono (fun x h => by rw [wp_bind] at h; exact wp_mono (fun y h => hf x y q h) h) h
theorem fe_op {a b : Expr} {pos : Pos} {op : Operator} {f : Dv → Dv → R Dv} {g : Dv → Dv → (Dv → Prop) → Prop} {A B : CE} (ho : OpR X (binaryOp op) (rD C g)) (hf : ∀ er x y q, wp (f x y) q er → g x y q) (ha : PE X a (tE C (up er A))) (hb : PE X b (tE C (up er B))) : PE X (.BinOp a op b pos) (tE C (up er (cOp f A B))) :=
  (de_op ho ha hb).imp (mE (op_mono (hf er)))
theorem fe_cmp {a b : Expr} {pos : Pos} {op : CmpOp} {f : Dv → Dv → R Dv} {g : Dv → Dv → (Dv → Prop) → Prop} {A B : CE} (ho : OpR X (compareOp op) (rD C g)) (hf : ∀ er x y q, wp (f x y) q er → g x y q) (ha : PE X a (tE C (up er A))) (hb : PE X b (tE C (up er B))) (hm : behindInMarks op b = false := by rfl) : PE X (.Compare a [op] [b] pos) (tE C (up er (cOp f A B))) :=
  (de_cmp ho ha hb hm).imp (mE (op_mono (hf er)))
theorem fe_ix {a b : Expr} {pos : Pos} {k : Nat} {f : Dv → Dv → R Dv} {A B : CE} (l : Lv0 X C k) (hf : ∀ er x y q, wp (f x y) q er → ixD x y q) (ha : PE X a (tE C (up er A))) (hb : PE X b (tE C (up er B))) (hs : PlainIx b := by intro _ _; rfl) : PE X (.Subscript a b pos) (tE C (up er (cOp f A B))) :=
  (de_ix l ha hb hs).imp (mE (op_mono (hf er)))
theorem cB_mono {A : CE} (ρ : Rho) (q : Bool → Prop) (h : up er (cB A) ρ q) : dB (up er A) ρ q := by
  unfold up cB at h
  rw [wp_bind] at h
  exact wp_mono (fun x h => boolR_wp h) h
theorem ft_cmp {a b : Expr} {pos : Pos} {op : CmpOp} {f : Dv → Dv → R Dv} {g : Dv → Dv → (Dv → Prop) → Prop} {A B : CE} (ho : OpR X (compareOp op) (rD C g)) (hf : ∀ er x y q, wp (f x y) q er → g x y q) (ha : PE X a (tE C (up er A))) (hb : PE X b (tE C (up er B))) (hm : behindInMarks op b = false := by rfl) : PT X (.Compare a [op] [b] pos) (tT C (up er (cB (cOp f A B)))) :=
  (dt_cmp ho ha hb hm).imp (mT fun ρ q h => by
    have h := cB_mono ρ q h
    unfold dB at h ⊢
    exact op_mono (hf er) ρ _ h)
theorem fe_un {a : Expr} {pos : Pos} {op : UnaryOp} {f : Dv → R Dv} {g : Dv → (Dv → Prop) → Prop} {A : CE} (ho : UnR X (unaryOp op) (rU1 C g)) (hf : ∀ er x q, wp (f x) q er → g x q) (ha : PE X a (tE C (up er A))) : PE X (.UnaryOp op a pos) (tE C (up er (cUn f A))) :=
  (de_un ho ha).imp (mE fun ρ q h => by
    unfold up cUn at h
    rw [wp_bind] at h
    exact wp_mono (fun x h => hf er x q h) h)
theorem ft_val {e : Expr} {A : CE} (h : PE X e (tE C (up er A))) (hs : ∀ whole : Sem Value, isTrue e X.env whole = (do let v ← whole; standAt e.pos; holding [v] (truthy v)) := by intro _; rfl) : PT X e (tT C (up er (cB A))) := (dt_val h hs).imp (mT cB_mono)
theorem ft_not {a : Expr} {pos : Pos} {B : CT} (h : PT X a (tT C (up er B))) : PT X (.UnaryOp .Not a pos) (tT C (up er (cNot B))) := (dt_not h).imp (mT fun ρ q h => by
  unfold up cNot at h
  rw [wp_bind] at h
  exact h)
theorem fw_one {c : Expr} {B : CT} {op : BoolOp} {pos : Pos} (h : PW X (.BoolOp op [c] pos) (tT C (up er B))) : PW X (.BoolOp op [c] pos) (tT C (up er B)) := h
theorem fw_and {a b : Expr} {rest : List Expr} {pos : Pos} {A B : CT} (ha : PT X a (tT C (up er A))) (hb : PW X (.BoolOp .And (b :: rest) pos) (tT C (up er B))) : PW X (.BoolOp .And (a :: b :: rest) pos) (tT C (up er (cAndT A B))) := (dw_and ha hb).imp (mT fun ρ q h => by
  unfold up cAndT at h
  rw [wp_bind] at h
  exact wp_mono (fun b h => iff_br h id id) h)
theorem fw_or {a b : Expr} {rest : List Expr} {pos : Pos} {A B : CT} (ha : PT X a (tT C (up er A))) (hb : PW X (.BoolOp .Or (b :: rest) pos) (tT C (up er B))) : PW X (.BoolOp .Or (a :: b :: rest) pos) (tT C (up er (cOrT A B))) := (dw_or ha hb).imp (mT fun ρ q h => by
  unfold up cOrT at h
  rw [wp_bind] at h
  exact wp_mono (fun b h => iff_br h id id) h)
theorem fe_and {a b : Expr} {rest : List Expr} {pos : Pos} {A B : CE} (ha : PE X a (tE C (up er A))) (hb : PE X (.BoolOp .And (b :: rest) pos) (tE C (up er B))) : PE X (.BoolOp .And (a :: b :: rest) pos) (tE C (up er (cAnd A B))) := (de_and ha hb).imp (mE fun ρ q h => by
  unfold up cAnd at h
  rw [wp_bind] at h
  exact wp_mono (fun x h => by rw [wp_bind] at h; exact boolR_wp (wp_mono (fun b h => iff_br h id id) h)) h)
theorem fe_or {a b : Expr} {rest : List Expr} {pos : Pos} {A B : CE} (ha : PE X a (tE C (up er A))) (hb : PE X (.BoolOp .Or (b :: rest) pos) (tE C (up er B))) : PE X (.BoolOp .Or (a :: b :: rest) pos) (tE C (up er (cOr A B))) := (de_or ha hb).imp (mE fun ρ q h => by
  unfold up cOr at h
  rw [wp_bind] at h
  exact wp_mono (fun x h => by rw [wp_bind] at h; exact boolR_wp (wp_mono (fun b h => iff_br h id id) h)) h)
theorem fe_not {a : Expr} {pos : Pos} {A : CE} (h : PE X a (tE C (up er A))) : PE X (.UnaryOp .Not a pos) (tE C (up er (cNotE A))) := (de_not h).imp (mE fun ρ q h => by
  unfold up cNotE at h
  rw [wp_bind] at h
  exact wp_mono (fun x h => by rw [wp_bind] at h; exact boolR_wp h) h)
theorem fe_ifE {c a b : Expr} {pos : Pos} {T : CT} {A B : CE} (hc : PT X c (tT C (up er T))) (ha : PE X a (tE C (up er A))) (hb : PE X b (tE C (up er B))) : PE X (.IfExp c a b pos) (tE C (up er (cIfE T A B))) := (de_ifE hc ha hb).imp (mE fun ρ q h => by
  unfold up cIfE at h
  rw [wp_bind] at h
  exact wp_mono (fun b h => iff_br h id id) h)
theorem fe_tup {es : List Expr} {n : Nat} {A : CA} {pos : Pos} {x1 : Nat} (h : PA X es (tAs C n (up er A))) (hn : n ≤ 1000 := by decide) : PE X (.Tuple es x1 pos) (tE C (up er (cTup A))) := (de_tup h hn).imp (mE fun ρ q h => by
  unfold up cTup at h
  rw [wp_bind] at h
  exact wp_mono (fun x h => by rw [wp_bind] at h; exact dsR_wp h) h)
theorem fe_lst {es : List Expr} {n : Nat} {A : CA} {pos : Pos} (h : PA X es (tAs C n (up er A))) (hn : n ≤ 1000 := by decide) : PE X (.List es pos) (tE C (up er (cLst A))) := (de_lst h hn).imp (mE fun ρ q h => by
  unfold up cLst at h
  rw [wp_bind] at h
  exact wp_mono (fun x h => by rw [wp_bind] at h; exact dsR_wp h) h)
/-! statements -/
theorem outK_nx {d : DEnds} {K : Rho → Prop} {o : Out} (h : ∀ ρ, o = .nx ρ → K ρ) (h2 : (∀ ρ, o ≠ .nx ρ) → outK d o) : outK { d with nx := K } o := by
  cases o with
  | nx ρ => exact h ρ rfl
  | rt v => exact h2 (fun _ z => by cases z)
  | bk ρ => exact h2 (fun _ z => by cases z)
  | ct ρ => exact h2 (fun _ z => by cases z)
theorem fs_nil : PSs X [] (tS C (upS er cNext)) := ds_nil.imp (mS fun d ρ h => h)
theorem fs_one {st : Stmt} {s : CS} (h : PS X st (tS C (upS er s))) : PSs X [st] (tS C (upS er s)) := ds_one h
theorem fs_cons {st : Stmt} {rest : List Stmt} {s t : CS} (h : PS X st (tS C (upS er s))) (k : PSs X rest (tS C (upS er t))) : PSs X (st :: rest) (tS C (upS er (cSeq s t))) := (ds_cons h k).imp (mS fun d ρ h => by
  unfold upS cSeq at h
  rw [wp_bind] at h
  exact wp_mono (fun o h => by cases o <;> exact h) h)
theorem fs_if {pos : Pos} {c : Expr} {a b : List Stmt} {T : CT} {s t : CS} (hc : PT X c (tT C (up er T))) (ha : PSs X a (tS C (upS er s))) (hb : PSs X b (tS C (upS er t))) : PS X (.If c a b pos) (tS C (upS er (cIf T s t))) := (ds_if hc ha hb).imp (mS fun d ρ h => by
  unfold upS cIf at h
  rw [wp_bind] at h
  exact wp_mono (fun b h => iff_br h id id) h)
theorem fs_pass {pos : Pos} : PS X (.Pass pos) (tS C (upS er cNext)) := ds_pass.imp (mS fun d ρ h => h)
theorem fs_break {pos : Pos} : PS X (.Break pos) (tS C (upS er cBreak)) := ds_break.imp (mS fun d ρ h => h)
theorem fs_expr {e : Expr} {A : CE} {pos : Pos} (h : PE X e (tE C (up er A))) (hs : swapsWith e none pos.line X.env = pure false := by rfl) : PS X (.Expr e pos) (tS C (upS er (cDrop A))) := (ds_expr h hs).imp (mS fun d ρ h => by
  unfold upS cDrop at h
  rw [wp_bind] at h
  exact h)
theorem fs_retN {pos : Pos} : PS X (.Return none pos) (tS C (upS er cRetN)) := ds_retN.imp (mS fun d ρ h => h)
theorem fs_ret {e : Expr} {A : CE} {pos : Pos} (h : PE X e (tE C (up er A))) : PS X (.Return (some e) pos) (tS C (upS er (cRet A))) := (ds_ret h).imp (mS fun d ρ h => by
  unfold upS cRet at h
  rw [wp_bind] at h
  exact wp_mono (fun x h => by cases x <;> exact h) h)
theorem on_own {x : Dv} {α : Type} {m : R α} {q : α → Prop} {p : Prop} (h : wp (chk (notOwnB x) m) q er) (k : wp m q er → p) : onOwn x p := by
  obtain ⟨h1, h2⟩ := chk_wp h
  cases x with
  | own _ => cases h1
  | _ => exact k h2
theorem fs_set {pos : Pos} {i : Nat} {x : Str} {e : Expr} {A : CE} {pos' : Pos} (hN : X.N.Nodup) (hi : X.N[i]? = some x) (hl : L2.Loc X.env.scope x) (h : PE X e (tE C (up er A))) (hs : swapsWith e (some (.Name x pos')) pos.line X.env = pure false := by rfl)
    (hf : X.fn x = true ∨ X.env.scope.names.lookup x = some .local := by first | exact Or.inl rfl | exact Or.inr rfl) : PS X (.Assign [.Name x pos'] e pos) (tS C (upS er (cSet i A))) := (ds_set hN hi hl h hs hf).imp (mS fun d ρ h => by
  unfold upS cSet at h
  rw [wp_bind] at h
  exact wp_mono (fun x h => on_own h id) h)
theorem fs_ownL {pos : Pos} {i n : Nat} {x : Str} {es : List Expr} {A : CA} {pos' lpos : Pos} (hN : X.N.Nodup) (hi : X.N[i]? = some x) (hl : L2.Loc X.env.scope x) (h : PA X es (tAs C n (up er A))) (hn : n ≤ 1000 := by decide) (hs : swapsWith (.List es lpos) (some (.Name x pos')) pos.line X.env = pure false := by rfl)
    (hf : X.fn x = true ∨ X.env.scope.names.lookup x = some .local := by first | exact Or.inl rfl | exact Or.inr rfl) : PS X (.Assign [.Name x pos'] (.List es lpos) pos) (tS C (upS er (cOwnL i A))) := (ds_ownL hN hi hl h hn hs hf).imp (mS fun d ρ h => by
  unfold upS cOwnL at h
  rw [wp_bind] at h
  exact wp_mono (fun x h => by rw [wp_bind] at h; exact dsR_wp h) h)
theorem fs_app {pos : Pos} {i : Nat} {x : Str} {e : Expr} {A : CE} {npos apos cpos : Pos} (hv : PE X (.Name x npos) (tVar i)) (h : PE X e (tE C (up er A)))
    (hb : attributeBase (.Name x npos) "append" X.env (eval (.Name x npos) X.env) = eval (.Name x npos) X.env := by rfl)
    (h2 : (((backTo cpos (starEach [e] X.env)).all fun x => !x.1) && (backToKw cpos (keywordEach [] X.env)).all (fun x => x.1.isSome) && decide (([e] : List Expr).length + ([] : List Keyword).length + (if ([] : List Keyword).isEmpty then 0 else 1) < 30)) = true := by rfl)
    (h3 : (apos.endLine == cpos.line) = true := by rfl) (h4 : starEach [e] X.env = (false, eval e X.env) :: starEach [] X.env := by rfl) (h5 : (backTo cpos (starEach ([] : List Expr) X.env)).any (·.1) = false := by rfl)
    (hs : swapsWith (.Call (.Attribute (.Name x npos) "append" apos) [e] [] cpos) none pos.line X.env = pure false := by rfl) :
    PS X (.Expr (.Call (.Attribute (.Name x npos) "append" apos) [e] [] cpos) pos) (tS C (upS er (cApp i A))) := (ds_app hv h hb h2 h3 h4 h5 hs).imp (mS fun d ρ h => by
  unfold upS cApp at h
  unfold dApp
  split at h
  · rename_i xs e
    try rw [e]
    rw [wp_bind] at h
    refine wp_mono (fun y h => ?_) h
    rw [wp_bind] at h
    refine dR_wp (wp_mono (q' := fun y => xs.length ≤ 1000000 ∧ d.nx (ρ.set i (some (.own (xs ++ [y]))))) (fun y h => ?_) h)
    obtain ⟨h1, h2⟩ := chk_wp h
    exact ⟨of_decide_eq_true h1, h2⟩
  · exact h.elim)
theorem fs_frz {st : Stmt} {s : CS} (i : Nat) (h : PS X st (tS C (upS er s))) : PS X st (tS C (upS er (cFrz i s))) := (ds_frz i h).imp (mS fun d ρ h => h)
theorem fs_raise {x m : Str} {j k : Nat} {p p2 pos rpos : Pos} {E : XK} (l : Lv X C E k) (eo : EOk C er E) (mk : PMk X (.Call (.Name x p) [.Constant (.str m) j p2] [] pos) (fun _ H Q => Q (.ref (He.ga C.K x)) none H)) :
    PS X (.Raise (some (.Call (.Name x p) [.Constant (.str m) j p2] [] pos)) none rpos) (tS C (upS er (cRaise x))) := (ds_raise l eo mk).imp (mS fun d ρ h => h)
theorem fs_par {i j n : Nat} {x y : Str} {a b : Expr} {A : CA} {px py pt pos : Pos} {kt k2 pt2} {k : Nat} (l : Lv0 X C k) (hi : X.N[i]? = some x) (hj : X.N[j]? = some y)
    (ha : PA X [a, b] (tAs C n (up er A))) (hij : i ≠ j := by decide) (hx : X.env.scope.names.lookup x = some .local := by rfl) (hy : X.env.scope.names.lookup y = some .local := by rfl)
    (hw : swappedStores [.Tuple [.Name x px, .Name y py] kt pt] (.Tuple [a, b] k2 pt2) X.env = pure (some [x, y]) := by rfl)
    (hs : swapsWithSole [.Tuple [.Name x px, .Name y py] kt pt] (.Tuple [a, b] k2 pt2) pos.line X.env = pure false := by rfl) :
    PS X (.Assign [.Tuple [.Name x px, .Name y py] kt pt] (.Tuple [a, b] k2 pt2) pos) (tS C (upS er (cPar i j A))) := (ds_par l hi hj ha hij hx hy hw hs).imp (mS fun d ρ h => by
  unfold upS cPar at h
  rw [wp_bind] at h
  refine wp_mono (fun xs h => ?_) h
  match xs, h with
  | [], h => exact h.elim
  | [_], h => exact h.elim
  | [u, v], h =>
    obtain ⟨h1, h2⟩ := chk_wp h
    rw [Bool.and_eq_true] at h1
    cases u with
    | own _ => cases h1.1
    | _ => cases v with
      | own _ => cases h1.2
      | _ => exact h2
  | _ :: _ :: _ :: _, h => exact h.elim)
end
end Fl

set_option Elab.async false
set_option linter.all false
set_option maxRecDepth 100000
set_option maxHeartbeats 4000000
namespace Fl
open PySem PySem.Spec PyProof.Rows L2 Dl R
/-! ### operators -/
def lim {α : Type} (n : Nat) (x : R α) : R α := chk (decide (n ≤ 1000000)) x
def addC (x y : Dv) : R Dv := match x, y with
  | .d (.int i), .d (.int j) => ok (.d (.int (i + j)))
  | .d (.str a), .d (.str b) => lim (a.length + b.length) (ok (.d (.str (a ++ b))))
  | .d (.tuple a), .d (.tuple b) => lim (a.length + b.length) (ok (.d (.tuple (a ++ b))))
  | .d (.list a), .d (.list b) => lim (a.length + b.length) (ok (.d (.list (a ++ b))))
  | .own a, .d (.list b) => lim (a.length + b.length) (ok (.d (.list (a ++ b))))
  | .d (.list a), .own b => lim (a.length + b.length) (ok (.d (.list (a ++ b))))
  | .own a, .own b => lim (a.length + b.length) (ok (.d (.list (a ++ b))))
  | _, _ => no
def subC (x y : Dv) : R Dv := match x, y with
  | .d (.int i), .d (.int j) => ok (.d (.int (i - j)))
  | _, _ => no
def mulC (x y : Dv) : R Dv := match x, y with
  | .d (.int i), .d (.int j) => chk (mulOk i j) (ok (.d (.int (i * j))))
  | .d (.list a), .d (.int k) => chk (decide (-(2 ^ 62) ≤ k ∧ k < 2 ^ 62 ∧ a.length * k.toNat ≤ 1000000)) (ok (.d (.list (repD a k))))
  | .d (.tuple a), .d (.int k) => chk (decide (a.length ≠ 0 ∧ 2 ≤ k ∧ k ≤ 1000 ∧ a.length ≤ 1000)) (ok (.d (.tuple (repD a k))))
  | _, _ => no
def modC (x y : Dv) : R Dv := match x, y with
  | .d (.int i), .d (.int j) => chk (decide (0 < j)) (ok (.d (.int (i % j))))
  | _, _ => no
def fdivC (x y : Dv) : R Dv := match x, y with
  | .d (.int i), .d (.int j) => chk (decide (0 < j ∧ j < 1073741824)) (ok (.d (.int (i / j))))
  | _, _ => no
def twoR (f : PyData → PyData → R Dv) (x y : Dv) : R Dv := match asD x, asD y with
  | some a, some b => f a b
  | _, _ => no
def eqC : Dv → Dv → R Dv := twoR fun a b => chk (decide (a.depth ≤ 64) && decide (b.depth ≤ 64)) (ok (.d (.bool (PyData.eqv a b))))
def neC : Dv → Dv → R Dv := twoR fun a b => chk (decide (a.depth ≤ 64) && decide (b.depth ≤ 64)) (ok (.d (.bool (!PyData.eqv a b))))
def cmpC (f : Int → Int → Bool) (x y : Dv) : R Dv := match x, y with
  | .d (.int i), .d (.int j) => ok (.d (.bool (f i j)))
  | _, _ => no
abbrev ltC := cmpC fun i j => decide (i < j)
abbrev leC := cmpC fun i j => decide (i ≤ j)
abbrev gtC := cmpC fun i j => decide (j < i)
abbrev geC := cmpC fun i j => decide (j ≤ i)
def inC (f : Bool → Bool) (x y : Dv) : R Dv := match asD x, y with
  | some a, .d (.tuple ds) => chk (decide (a.depth ≤ 64) && decide ((PyData.tuple ds).depth ≤ 64)) (ok (.d (.bool (f (memD ds a)))))
  | some a, .d (.list ds) => chk (decide (a.depth ≤ 64) && decide ((PyData.list ds).depth ≤ 64)) (ok (.d (.bool (f (memD ds a)))))
  | some a, .own ds => chk (decide (a.depth ≤ 64) && decide ((PyData.list ds).depth ≤ 64)) (ok (.d (.bool (f (memD ds a)))))
  | some (.str s), .d (.str z) => match oneS s with
    | some c => ok (.d (.bool (f (decide (c ∈ z.cps.toList)))))
    | none => no
  | _, _ => no
abbrev isinC := inC fun b => b
abbrev notInC := inC not
def isQC (f : Bool → Bool) (x y : Dv) : R Dv := match y with
  | .d .none => ok (.d (.bool (f (isNonD x))))
  | .d (.bool b) => match x with
    | .d (.bool a) => ok (.d (.bool (f (decide (a = b)))))
    | _ => no
  | _ => no
abbrev isC := isQC fun b => b
abbrev isNotC := isQC not
def negC (x : Dv) : R Dv := match x with
  | .d (.int i) => ok (.d (.int (-i)))
  | _ => no
def atR (xs : List PyData) (i : Int) : R Dv := match atI xs i with
  | some x => ok (.d x)
  | none => no
def ixC (x y : Dv) : R Dv := match y with
  | .d (.int i) => match x with
    | .d (.list xs) => atR xs i
    | .own xs => atR xs i
    | .d (.tuple xs) => atR xs i
    | .d (.str z) => lim z.length (atR (signs z) i)
    | _ => no
  | _ => no
section
variable {er : Str → Prop}
theorem lim_wp {α : Type} {n : Nat} {x : R α} {q : α → Prop} (h : wp (lim n x) q er) : n ≤ 1000000 ∧ wp x q er := by
  obtain ⟨h1, h2⟩ := chk_wp h
  exact ⟨of_decide_eq_true h1, h2⟩
theorem addC_ok (er : Str → Prop) (x y : Dv) (q : Dv → Prop) (h : wp (addC x y) q er) : addD x y q := by
  unfold addC at h
  split at h <;> first | exact h.elim | exact h | exact lim_wp h
theorem subC_ok (er : Str → Prop) (x y : Dv) (q : Dv → Prop) (h : wp (subC x y) q er) : subD x y q := by
  unfold subC at h
  split at h <;> first | exact h.elim | exact h
theorem mulC_ok (er : Str → Prop) (x y : Dv) (q : Dv → Prop) (h : wp (mulC x y) q er) : mulD x y q := by
  unfold mulC at h
  split at h
  · exact chk_wp h
  · obtain ⟨h1, h2⟩ := chk_wp h
    exact ⟨of_decide_eq_true h1, h2⟩
  · obtain ⟨h1, h2⟩ := chk_wp h
    have h1 := of_decide_eq_true h1
    exact ⟨⟨fun e => h1.1 (by rw [e]; rfl), h1.2⟩, h2⟩
  · exact h.elim
theorem modC_ok (er : Str → Prop) (x y : Dv) (q : Dv → Prop) (h : wp (modC x y) q er) : modD x y q := by
  unfold modC at h
  split at h
  · obtain ⟨h1, h2⟩ := chk_wp h
    exact ⟨of_decide_eq_true h1, h2⟩
  · exact h.elim
theorem fdivC_ok (er : Str → Prop) (x y : Dv) (q : Dv → Prop) (h : wp (fdivC x y) q er) : fdivD x y q := by
  unfold fdivC at h
  split at h
  · obtain ⟨h1, h2⟩ := chk_wp h
    exact ⟨of_decide_eq_true h1, h2⟩
  · exact h.elim
theorem and_dec {a b : Nat} (h : (decide (a ≤ 64) && decide (b ≤ 64)) = true) : a ≤ 64 ∧ b ≤ 64 := by
  rw [Bool.and_eq_true] at h
  exact ⟨of_decide_eq_true h.1, of_decide_eq_true h.2⟩
theorem twoR_wp {f : PyData → PyData → R Dv} {x y : Dv} {q : Dv → Prop} {g : PyData → PyData → Prop} (h : wp (twoR f x y) q er) (k : ∀ a b, wp (f a b) q er → g a b) : onTwo x y g := by
  unfold twoR at h
  unfold onTwo
  split at h
  · rename_i a b e1 e2
    try rw [e1, e2]
    exact k a b h
  · exact h.elim
theorem eqC_ok (er : Str → Prop) (x y : Dv) (q : Dv → Prop) (h : wp (eqC x y) q er) : eqD x y q := twoR_wp h fun a b h => by
  obtain ⟨h1, h2⟩ := chk_wp h
  exact ⟨and_dec h1, h2⟩
theorem neC_ok (er : Str → Prop) (x y : Dv) (q : Dv → Prop) (h : wp (neC x y) q er) : neD x y q := twoR_wp h fun a b h => by
  obtain ⟨h1, h2⟩ := chk_wp h
  exact ⟨and_dec h1, h2⟩
theorem cmpC_ok {f : Int → Int → Bool} (er : Str → Prop) (x y : Dv) (q : Dv → Prop) (h : wp (cmpC f x y) q er) : cmpD f x y q := by
  unfold cmpC at h
  split at h
  · exact h
  · exact h.elim
theorem inC_ok {f : Bool → Bool} (er : Str → Prop) (x y : Dv) (q : Dv → Prop) (h : wp (inC f x y) q er) : inQ f x y q := by
  unfold inC at h
  unfold inQ
  split at h
  · rename_i e
    try rw [e]
    obtain ⟨h1, h2⟩ := chk_wp h
    exact ⟨and_dec h1, h2⟩
  · rename_i e
    try rw [e]
    obtain ⟨h1, h2⟩ := chk_wp h
    exact ⟨and_dec h1, h2⟩
  · rename_i e
    try rw [e]
    obtain ⟨h1, h2⟩ := chk_wp h
    exact ⟨and_dec h1, h2⟩
  · rename_i e
    try rw [e]
    split at h
    · rename_i c ec
      try simp only [ec]
      exact h
    · exact h.elim
  · exact h.elim
theorem isC_ok {f : Bool → Bool} (er : Str → Prop) (x y : Dv) (q : Dv → Prop) (h : wp (isQC f x y) q er) : isQ f x y q := by
  unfold isQC at h
  split at h
  · exact h
  · split at h
    · exact h
    · exact h.elim
  · exact h.elim
theorem negC_ok (er : Str → Prop) (x : Dv) (q : Dv → Prop) (h : wp (negC x) q er) : negD x q := by
  unfold negC at h
  split at h
  · exact h
  · exact h.elim
theorem atR_wp {xs : List PyData} {i : Int} {q : Dv → Prop} (h : wp (atR xs i) q er) : onAt xs i fun z => q (.d z) := by
  unfold atR at h
  split at h
  · rename_i x e
    exact onAt_of e h
  · exact h.elim
theorem ixC_ok (er : Str → Prop) (x y : Dv) (q : Dv → Prop) (h : wp (ixC x y) q er) : ixD x y q := by
  unfold ixC at h
  split at h
  · split at h
    · exact atR_wp h
    · exact atR_wp h
    · exact atR_wp h
    · obtain ⟨h1, h2⟩ := lim_wp h
      exact ⟨h1, atR_wp h2⟩
    · exact h.elim
  · exact h.elim
end
/-! ### slices, chains, turned round -/
abbrev CO := Rho → R (Option Int)
def cNoPart (_ : Rho) : R (Option Int) := ok none
def intR : Dv → R Int
  | .d (.int i) => ok i
  | _ => no
def cPart (a : CE) (ρ : Rho) : R (Option Int) := (a ρ).bind fun x => (intR x).bind fun i => ok (some i)
def sliceC (x : Dv) (lo hi : Option Int) : R Dv := match x with
  | .d (.list xs) => ok (.d (.list (cutD xs lo hi)))
  | .own xs => ok (.d (.list (cutD xs lo hi)))
  | .d (.tuple xs) => ok (.d (.tuple (cutD xs lo hi)))
  | .d (.str z) => lim z.length (chk (PyData.strOk (Txt.slice z lo hi)) (ok (.d (.str (Txt.slice z lo hi)))))
  | _ => no
def cSl (a : CE) (l u : CO) (ρ : Rho) : R Dv := (a ρ).bind fun x => (l ρ).bind fun lo => (u ρ).bind fun hi => sliceC x lo hi
def cChain (f g : Dv → Dv → R Dv) (a b d : CE) (ρ : Rho) : R Dv := (a ρ).bind fun x => (b ρ).bind fun y => (f x y).bind fun z => (boolR z).bind fun v => iff v ((d ρ).bind fun w => g y w) (ok (.d (.bool false)))
def revC (x : Dv) : R Dv := match x with
  | .d (.tuple l) => lim l.length (ok (.d (.tuple l.reverse)))
  | .d (.list l) => ok (.d (.list l.reverse))
  | .own l => ok (.d (.list l.reverse))
  | _ => no
def cRev (a : CE) (ρ : Rho) : R Dv := (a ρ).bind revC
section
variable {X : Cx} {C : DC} {er : Str → Prop}
theorem mO {A A' : DO} (h : ∀ ρ q, A' ρ q → A ρ q) (σ : L2.St) (H : Hp) (Q : Option Int → Hp → Prop) (x : tPO C A' σ H Q) : tPO C A σ H Q := by
  obtain ⟨hid, ρ, q, hp, sr, a, k⟩ := x
  exact ⟨hid, ρ, q, hp, sr, h ρ q a, k⟩
theorem fo_none : PO X none (tPO C (up er cNoPart)) := do_none.imp (mO fun ρ q h => h)
theorem fo_some {e : Expr} {A : CE} (h : PE X e (tE C (up er A))) : PO X (some e) (tPO C (up er (cPart A))) := (do_some h).imp (mO fun ρ q h => by
  unfold up cPart at h
  rw [wp_bind] at h
  refine wp_mono (fun x h => ?_) h
  rw [wp_bind] at h
  unfold intR at h
  split at h
  · exact h
  · exact h.elim)
theorem fe_slice {e : Expr} {lo hi : Option Expr} {p2 pos : Pos} {A : CE} {L U : CO} {k : Nat} (l : Lv0 X C k) (he : PE X e (tE C (up er A))) (hl : PO X lo (tPO C (up er L))) (hu : PO X hi (tPO C (up er U))) : PE X (.Subscript e (.Slice lo hi none p2) pos) (tE C (up er (cSl A L U))) := (de_slice l he hl hu).imp (mE fun ρ q h => by
  unfold up cSl at h
  rw [wp_bind] at h
  refine wp_mono (fun x h => ?_) h
  rw [wp_bind] at h
  refine wp_mono (fun lo h => ?_) h
  rw [wp_bind] at h
  refine wp_mono (fun hi h => ?_) h
  unfold sliceC at h
  split at h
  · exact h
  · exact h
  · exact h
  · obtain ⟨h1, h2⟩ := lim_wp h
    obtain ⟨h3, h4⟩ := chk_wp h2
    exact ⟨⟨h1, h3⟩, h4⟩
  · exact h.elim)
theorem chain_mono {f g : Dv → Dv → R Dv} {f' g' : Dv → Dv → (Dv → Prop) → Prop} {A B D : CE} (hf : ∀ er x y q, wp (f x y) q er → f' x y q) (hg : ∀ er x y q, wp (g x y) q er → g' x y q) (ρ : Rho) (q : Dv → Prop) (h : up er (cChain f g A B D) ρ q) : dChain f' g' (up er A) (up er B) (up er D) ρ q := by
  unfold up cChain at h
  rw [wp_bind] at h
  refine wp_mono (fun x h => ?_) h
  rw [wp_bind] at h
  refine wp_mono (fun y h => ?_) h
  rw [wp_bind] at h
  refine hf er _ _ _ (wp_mono (fun z h => ?_) h)
  rw [wp_bind] at h
  refine boolR_wp (wp_mono (fun b h => ?_) h)
  refine iff_br h (fun h => ?_) id
  rw [wp_bind] at h
  exact wp_mono (fun w h => hg er _ _ _ h) h
theorem fe_chain {a b c : Expr} {pos : Pos} {op op' : CmpOp} {f g : Dv → Dv → R Dv} {f' g' : Dv → Dv → (Dv → Prop) → Prop} {A B D : CE} (ho : OpR X (compareOp op) (rD C f')) (hf : ∀ er x y q, wp (f x y) q er → f' x y q) (ho' : OpR X (compareOp op') (rD C g')) (hg : ∀ er x y q, wp (g x y) q er → g' x y q) (ha : PE X a (tE C (up er A))) (hb : PE X b (tE C (up er B))) (hc : PE X c (tE C (up er D))) (hm : lastMarks [op, op'] [b, c] = false := by with_unfolding_all rfl) : PE X (.Compare a [op, op'] [b, c] pos) (tE C (up er (cChain f g A B D))) :=
  (de_chain ho ho' ha hb hc hm).imp (mE (chain_mono hf hg))
theorem ft_chain {a b c : Expr} {pos : Pos} {op op' : CmpOp} {f g : Dv → Dv → R Dv} {f' g' : Dv → Dv → (Dv → Prop) → Prop} {A B D : CE} (ho : OpR X (compareOp op) (rD C f')) (hf : ∀ er x y q, wp (f x y) q er → f' x y q) (ho' : OpR X (compareOp op') (rD C g')) (hg : ∀ er x y q, wp (g x y) q er → g' x y q) (ha : PE X a (tE C (up er A))) (hb : PE X b (tE C (up er B))) (hc : PE X c (tE C (up er D))) (hm : lastMarks [op, op'] [b, c] = false := by with_unfolding_all rfl) : PT X (.Compare a [op, op'] [b, c] pos) (tT C (up er (cB (cChain f g A B D)))) :=
  (dt_chain ho ho' ha hb hc hm).imp (mT fun ρ q h => by
    have h := cB_mono ρ q h
    unfold dB at h ⊢
    exact chain_mono hf hg ρ _ h)
theorem fe_rev {e : Expr} {A : CE} {k1 k : Nat} {p1 p2 p3 pos : Pos} (l : Lv0 X C k1) (he : PE X e (tE C (up er A))) : PE X (.Subscript e (.Slice none none (some (.UnaryOp .USub (.Constant (.int 1) k p1) p2)) p3) pos) (tE C (up er (cRev A))) := (de_rev l he).imp (mE fun ρ q h => by
  unfold up cRev at h
  rw [wp_bind] at h
  refine wp_mono (fun x h => ?_) h
  unfold revC at h
  split at h
  · exact lim_wp h
  · exact h
  · exact h
  · exact h.elim)
/-! ### targets, loops -/
variable {ow : List Nat}
theorem fg_name {pos : Pos} {i : Nat} {x : Str} (hN : X.N.Nodup) (hi : X.N[i]? = some x) (hl : L2.Loc X.env.scope x) (hf : X.fn x = true ∨ X.env.scope.names.lookup x = some .local := by first | exact Or.inl rfl | exact Or.inr rfl) (ho : i ∈ ow := by decide) : PG X (.Name x pos) (tG C ow (upG er (tgN i))) :=
  (dg_name hN hi hl hf ho).imp (mG fun x ρ q h => on_own h id)
theorem fgs_nil : PGs X [] (tGs C ow (upGs er tgsNil)) := dgs_nil.imp (mGs fun x ρ q h => by
  unfold upGs tgsNil at h
  split at h
  · exact h
  · exact h.elim)
theorem fgs_cons {e : Expr} {es : List Expr} {G : CG} {Gs : CGs} (h : PG X e (tG C ow (upG er G))) (hs : PGs X es (tGs C ow (upGs er Gs))) (he : (assignEach (e :: es) X.env).map (·.2) = assign e X.env :: (assignEach es X.env).map (·.2) := by rfl) : PGs X (e :: es) (tGs C ow (upGs er (tgsCons G Gs))) := (dgs_cons h hs he).imp (mGs fun x ρ q h => by
  unfold upGs tgsCons at h
  split at h
  · rw [wp_bind] at h
    exact h
  · exact h.elim)
theorem fg_tup {pos : Pos} {es : List Expr} {kt n : Nat} {Gs : CGs} {k : Nat} (l : Lv0 X C k) (h : PGs X es (tGs C ow (upGs er Gs))) (hn : (assignEach es X.env).length = n := by rfl) (hf : (assignEach es X.env).findIdx? (·.1) = none := by rfl) : PG X (.Tuple es kt pos) (tG C ow (upG er (tgT n Gs))) := (dg_tup l h hn hf).imp (mG fun x ρ q h => by
  unfold upG tgT at h
  split at h
  · obtain ⟨h1, h2⟩ := chk_wp h
    exact ⟨eq_of_beq h1, h2⟩
  · exact h.elim)
theorem fs_asg {pos : Pos} {tg e : Expr} {A : CE} {G : CG} (he : PE X e (tE C (up er A))) (hg : PG X tg (tG C ow (upG er G))) (h1 : swapsWithSole [tg] e pos.line X.env = pure false := by rfl) (h2 : swappedStores [tg] e X.env = pure none := by rfl) (h3 : (assignEach [tg] X.env).map (·.2) = [assign tg X.env] := by rfl) :
    PS X (.Assign [tg] e pos) (tS C (upS er (cAsg A G))) := (ds_asg he hg h1 h2 h3).imp (mS fun d ρ h => by
  unfold upS cAsg at h
  rw [wp_bind] at h
  refine wp_mono (fun x h => ?_) h
  rw [wp_bind] at h
  exact h)
theorem fi_seq {tg e : Expr} {A : CE} {k : Nat} (l : Lv0 X C k) (h : PE X e (tE C (up er A))) : PI X tg e (tI C (up er (cIt A))) := (di_seq l h).imp (mI fun ρ q h => by
  unfold up cIt at h
  rw [wp_bind] at h
  refine wp_mono (fun x h => ?_) h
  unfold seqR at h
  split at h
  · exact h
  · exact h
  · exact h
  · exact h.elim)
/-- so that nothing looks into it -/
@[irreducible] def smallC (i : Int) : Bool := small i
theorem smallC_eq (i : Int) : smallC i = small i := by unfold smallC; rfl
theorem smallC_ok {i : Int} (h1 : -1000000000 ≤ i) (h2 : i ≤ 1000000000) : smallC i = true := by
  rw [smallC_eq]
  unfold small
  exact decide_eq_true ⟨by omega, by omega⟩
def cRng1 (a : CE) (ρ : Rho) : R (List PyData) := (a ρ).bind fun x => (intR x).bind fun j => chk (smallC j) (ok (intsD 0 j.toNat))
def cRng2 (a b : CE) (ρ : Rho) : R (List PyData) := (a ρ).bind fun x => (b ρ).bind fun y => (intR x).bind fun i => (intR y).bind fun j => chk (smallC i && smallC j) (ok (intsD i (j - i).toNat))
theorem fi_rng1 {tg a : Expr} {A : CE} {p pos : Pos} (hm : X.mg "range" = none) (h : PE X a (tE C (up er A))) (hg : Gl X "range" := by rfl) (hs : starEach [a] X.env = [(false, eval a X.env)] := by rfl) : PI X tg (.Call (.Name "range" p) [a] [] pos) (tI C (up er (cRng1 A))) := (di_rng1 hm h hg hs).imp (mI fun ρ q h => by
  unfold up cRng1 at h
  rw [wp_bind] at h
  refine wp_mono (fun x h => ?_) h
  rw [wp_bind] at h
  unfold intR at h
  split at h
  · obtain ⟨h1, h2⟩ := chk_wp h
    rw [smallC_eq] at h1
    exact ⟨h1, h2⟩
  · exact h.elim)
theorem fi_rng2 {tg a b : Expr} {A B : CE} {p pos : Pos} (hm : X.mg "range" = none) (h : PE X a (tE C (up er A))) (h' : PE X b (tE C (up er B))) (hg : Gl X "range" := by rfl) (hs : starEach [a, b] X.env = [(false, eval a X.env), (false, eval b X.env)] := by rfl) (hs2 : starEach [b] X.env = [(false, eval b X.env)] := by rfl) : PI X tg (.Call (.Name "range" p) [a, b] [] pos) (tI C (up er (cRng2 A B))) := (di_rng2 hm h h' hg hs hs2).imp (mI fun ρ q h => by
  unfold up cRng2 at h
  rw [wp_bind] at h
  refine wp_mono (fun x h => ?_) h
  rw [wp_bind] at h
  refine wp_mono (fun y h => ?_) h
  rw [wp_bind] at h
  unfold intR at h
  split at h
  · change wp (R.bind _ _) q er at h
    rw [wp_bind] at h
    split at h
    · obtain ⟨h1, h2⟩ := chk_wp h
      rw [Bool.and_eq_true, smallC_eq, smallC_eq] at h1
      exact ⟨h1.1, h1.2, h2⟩
    · exact h.elim
  · exact h.elim)
theorem forR_go {g : CG} {s : CS} {d : DEnds} : ∀ {ds : List PyData} {ρ : Rho}, wp (forR g s ds ρ) (outK d) er → dForGo (upG er g) (upS er s) d ds ρ
  | [], ρ, h => h
  | x :: r, ρ, h => by
    unfold forR at h
    rw [wp_bind] at h
    unfold dForGo
    refine wp_mono (fun ρ1 h => ?_) h
    rw [wp_bind] at h
    refine wp_mono (fun o h => ?_) h
    cases o with
    | nx ρ' => exact forR_go h
    | ct ρ' => exact forR_go h
    | bk ρ' => exact h
    | rt v => exact h
theorem fs_for {tg iter : Expr} {body : List Stmt} {I : CI} {G : CG} {S : CS} {pos : Pos} {E : XK} {k : Nat} (l : Lv X C E k) (hi : PI X tg iter (tI C (up er I))) (hg : PG X tg (tG C ow (upG er G))) (hb : PSs X body (tS C (upS er S))) (hs : ∀ x, foldedSetIterable iter X.env x = pure x := by intro _; rfl) :
    PS X (.For tg iter body [] pos) (tS C (upS er (cFor I G S))) := (ds_for l hi hg hb hs).imp (mS fun d ρ h => by
  unfold upS cFor at h
  rw [wp_bind] at h
  exact wp_mono (fun ds h => forR_go h) h)
theorem fs_while (n : Nat) {c : Expr} {body : List Stmt} {T : CT} {S : CS} {pos : Pos} {E : XK} {k : Nat} (l : Lv X C E k) (hc : PT X c (tT C (up er T))) (hb : PSs X body (tS C (upS er S))) : PS X (.While c body [] pos) (tS C (upS er (cWhile n T S))) := (ds_while l hc hb).imp (mS fun d ρ h => by
  refine ⟨fun m ρ => wp (whileR T S m ρ) (outK d) er, ⟨n, h⟩, fun m ρ h => ?_⟩
  cases m with
  | zero => exact h.elim
  | succ m =>
    unfold whileR at h
    rw [wp_bind] at h
    refine wp_mono (fun b h => ?_) h
    refine iff_br h (fun h => ?_) id
    rw [wp_bind] at h
    refine wp_mono (fun o h => ?_) h
    cases o with
    | nx ρ' => exact ⟨m, Nat.lt_succ_self m, h⟩
    | ct ρ' => exact ⟨m, Nat.lt_succ_self m, h⟩
    | bk ρ' => exact h
    | rt v => exact h)
theorem lcR_go {g : CG} {t : CT} {a : CE} {ρ : Rho} {q : List PyData → Prop} : ∀ {ds acc : List PyData}, acc.length + ds.length ≤ 1000000 → wp (lcR g t a ρ ds) (fun l => q (acc ++ l)) er → dLcGo (upG er g) (up er t) (up er a) ρ ds acc q
  | [], acc, _, h => by
    have h : q (acc ++ []) := h
    rw [List.append_nil] at h
    exact h
  | x :: r, acc, hl, h => by
    rw [List.length_cons] at hl
    unfold lcR at h
    rw [wp_bind] at h
    unfold dLcGo
    refine wp_mono (fun ρ1 h => ?_) h
    rw [wp_bind] at h
    refine wp_mono (fun b h => ?_) h
    refine iff_br h (fun h => ?_) (fun h => lcR_go (by omega) h)
    rw [wp_bind] at h
    refine wp_mono (fun y h => ?_) h
    rw [wp_bind] at h
    refine dR_wp (wp_mono (fun y h => ?_) h)
    rw [wp_bind] at h
    refine ⟨by omega, lcR_go (by rw [List.length_append, List.length_singleton]; omega) (wp_mono (fun l h => ?_) h)⟩
    have h : q (acc ++ y :: l) := h
    rw [List.append_assoc]
    exact h
theorem cLc_mono {i : CI} {g : CG} {t : CT} {a : CE} {vs : List Nat} (ρ : Rho) (q : Dv → Prop) (h : up er (cLc i g t a vs) ρ q) : dLc (up er i) (upG er g) (up er t) (up er a) vs ρ q := by
  unfold up cLc at h
  rw [wp_bind] at h
  refine wp_mono (fun ds h => ?_) h
  obtain ⟨h1, h⟩ := chk_wp h
  rw [wp_bind] at h
  exact lcR_go (by have := of_decide_eq_true h1; rw [List.length_nil]; omega) (wp_mono (fun l h => by rw [List.nil_append]; exact h) h)
theorem fts_nil : PTs X [] (tT C (up er cYes)) := dts_nil
theorem fts_one {c : Expr} {T : CT} (h : PT X c (tT C (up er T))) : PTs X [c] (tT C (up er T)) := dts_one h
theorem fe_lc {elt tg iter : Expr} {ifs : List Expr} {scope : Scope} {own : List (Str × Nat)} {pos : Pos} {I : CI} {G : CG} {T : CT} {A : CE} {k : Nat} (l : Lv0 X C k) (hi : PI X tg iter (tI C (up er I))) (ok : BlkOk X.N X.env.scope scope own)
    (hg : ∀ (s : Shared) (H : Hp) (c : Addr) (cl : List (Str × Addr)) (fp : List Addr), Lv0 (X.blk s H scope (compEnvC scope cl c X.env) fp) C k → PG (X.blk s H scope (compEnvC scope cl c X.env) fp) tg (tG C (own.map (·.2)) (upG er G)))
    (ht : ∀ (s : Shared) (H : Hp) (c : Addr) (cl : List (Str × Addr)) (fp : List Addr), Lv0 (X.blk s H scope (compEnvC scope cl c X.env) fp) C k → PTs (X.blk s H scope (compEnvC scope cl c X.env) fp) ifs (tT C (up er T)))
    (he : ∀ (s : Shared) (H : Hp) (c : Addr) (cl : List (Str × Addr)) (fp : List Addr), Lv0 (X.blk s H scope (compEnvC scope cl c X.env) fp) C k → PE (X.blk s H scope (compEnvC scope cl c X.env) fp) elt (tE C (up er A))) (hs : ∀ x, foldedSetIterable iter X.env x = pure x := by intro _; rfl) :
    PE X (.ListComp elt [⟨tg, iter, ifs, 0⟩] scope pos) (tE C (up er (cLc I G T A (own.map (·.2))))) := (de_lc l hi ok hg ht he hs).imp (mE cLc_mono)
theorem fs_setLc {i : Nat} {y : Str} {py : Pos} {elt tg iter : Expr} {ifs : List Expr} {scope : Scope} {own : List (Str × Nat)} {pos spos : Pos} {I : CI} {G : CG} {T : CT} {A : CE} {k : Nat} (l : Lv0 X C k) (hy : X.N[i]? = some y) (hyl : X.env.scope.names.lookup y = some .local)
    (hsw : swapsWith (.ListComp elt [⟨tg, iter, ifs, 0⟩] scope pos) (some (.Name y py)) spos.line X.env = pure true) (hi : PI X tg iter (tI C (up er I))) (ok : BlkOk X.N X.env.scope scope own)
    (hg : ∀ (s : Shared) (H : Hp) (c : Addr) (cl : List (Str × Addr)) (fp : List Addr), Lv0 (X.blk s H scope (compEnvC scope cl c X.env) fp) C k → PG (X.blk s H scope (compEnvC scope cl c X.env) fp) tg (tG C (own.map (·.2)) (upG er G)))
    (ht : ∀ (s : Shared) (H : Hp) (c : Addr) (cl : List (Str × Addr)) (fp : List Addr), Lv0 (X.blk s H scope (compEnvC scope cl c X.env) fp) C k → PTs (X.blk s H scope (compEnvC scope cl c X.env) fp) ifs (tT C (up er T)))
    (he : ∀ (s : Shared) (H : Hp) (c : Addr) (cl : List (Str × Addr)) (fp : List Addr), Lv0 (X.blk s H scope (compEnvC scope cl c X.env) fp) C k → PE (X.blk s H scope (compEnvC scope cl c X.env) fp) elt (tE C (up er A))) (hs : ∀ x, foldedSetIterable iter X.env x = pure x := by intro _; rfl) :
    PS X (.Assign [.Name y py] (.ListComp elt [⟨tg, iter, ifs, 0⟩] scope pos) spos) (tS C (upS er (cSet i (cLc I G T A (own.map (·.2)))))) := (ds_setLc l hy hyl hsw hi ok hg ht he hs).imp (mS fun d ρ h => by
  unfold upS cSet at h
  rw [wp_bind] at h
  exact cLc_mono ρ _ (wp_mono (fun x h => on_own h id) h))
/-! ### calls -/
theorem all_notOwn : ∀ {xs : List Dv} {p : Prop}, xs.all notOwnB = true → p → noOwn xs p
  | [], _, _, h => h
  | x :: r, p, e, h => by
    rw [List.all_cons, Bool.and_eq_true] at e
    have k := all_notOwn (p := p) e.2 h
    cases x with
    | own _ => cases e.1
    | _ => exact k
theorem fe_call {x : Str} {ps : List Str} {m : List Dv → R Dv} {g : DF} {n k : Nat} {E : XK} {e : Expr} {es : List Expr} {A : CA} {p pos : Pos} {j : Nat} (h : DHas X.prog X.w X.K X.mg X.base C.T j x ps g) (hm : ∀ xs q, wp (m xs) q er → g xs q er) (l : Lv0 X C k) (hx : Passes (L2.CX X.prog X.w) X E) (eo : EOk C er E) (ha : PA X (e :: es) (tAs C n (up er A))) (hjk : j ≤ k := by decide) (hg : Gl X x := by rfl) (hdb : (x == ("__debug__" : Str)) = false := by decide)
    (he : starEach (e :: es) X.env = (false, eval e X.env) :: starEach es X.env := by rfl) (hpl : (backTo pos (starEach es X.env)).any (·.1) = false := by rfl) : PE X (.Call (.Name x p) (e :: es) [] pos) (tE C (up er (cCall m A))) := (de_call h l hx eo ha hjk hg hdb he hpl).imp (mE fun ρ q h => by
  unfold up cCall at h
  rw [wp_bind] at h
  refine wp_mono (fun xs h => ?_) h
  obtain ⟨h1, h2⟩ := chk_wp h
  exact all_notOwn h1 (hm xs q h2))
theorem fe_call0 {x : Str} {m : List Dv → R Dv} {g : DF} {k : Nat} {E : XK} {p pos : Pos} {j : Nat} (h : DHas X.prog X.w X.K X.mg X.base C.T j x [] g) (hm : ∀ xs q, wp (m xs) q er → g xs q er) (l : Lv0 X C k) (hx : Passes (L2.CX X.prog X.w) X E) (eo : EOk C er E) (hjk : j ≤ k := by decide) (hg : Gl X x := by rfl) (hdb : (x == ("__debug__" : Str)) = false := by decide) :
    PE X (.Call (.Name x p) [] [] pos) (tE C (up er (cCall0 m))) := (de_call0 h l hx eo hjk hg hdb).imp (mE fun ρ q h => hm [] q h)
/-- a call of what raises nothing where nothing may be raised -/
theorem fun_mono {f : List Dv → R Dv} {g : List Dv → (Dv → Prop) → Prop} {A : CA} (hf : ∀ er xs q, wp (f xs) q er → g xs q) (ρ : Rho) (q : Dv → Prop) (h : up er (cFun f A) ρ q) : dFun g (up er A) ρ q := by
  unfold up cFun at h
  rw [wp_bind] at h
  exact wp_mono (fun x h => hf er x q h) h
theorem fe_callB {x : Str} {id : String} {e : Expr} {es : List Expr} {n : Nat} {p pos : Pos} {f : List Dv → R Dv} {g : List Dv → (Dv → Prop) → Prop} {A : CA} (hc : CallR X (.builtin id) (rL C g)) (hf : ∀ er xs q, wp (f xs) q er → g xs q) (hv : bootBuiltins x = some (.builtin id)) (hm : X.mg x = none) (ha : PA X (e :: es) (tAs C n (up er A))) (hg : Gl X x := by rfl) (hn : x ≠ "__name__" := by decide) (hdb : (x == ("__debug__" : Str)) = false := by decide)
    (he : starEach (e :: es) X.env = (false, eval e X.env) :: starEach es X.env := by rfl) (hpl : (backTo pos (starEach es X.env)).any (·.1) = false := by rfl) : PE X (.Call (.Name x p) (e :: es) [] pos) (tE C (up er (cFun f A))) := (de_callB hc hv hm ha hg hn hdb he hpl).imp (mE (fun_mono hf))
theorem fe_callT {x : Str} {id : String} {e : Expr} {es : List Expr} {n : Nat} {p pos : Pos} {f : List Dv → R Dv} {g : List Dv → (Dv → Prop) → Prop} {A : CA} (hc : CallR X (.type id) (rL C g)) (hf : ∀ er xs q, wp (f xs) q er → g xs q) (hv : bootBuiltins x = some (.type id)) (hm : X.mg x = none) (ha : PA X (e :: es) (tAs C n (up er A))) (hg : Gl X x := by rfl) (hn : x ≠ "__name__" := by decide) (hdb : (x == ("__debug__" : Str)) = false := by decide)
    (he : starEach (e :: es) X.env = (false, eval e X.env) :: starEach es X.env := by rfl) (hpl : (backTo pos (starEach es X.env)).any (·.1) = false := by rfl) : PE X (.Call (.Name x p) (e :: es) [] pos) (tE C (up er (cFun f A))) := (de_callT hc hv hm ha hg hn hdb he hpl).imp (mE (fun_mono hf))
def lenC (xs : List Dv) : R Dv := match xs with
  | [.d (.str z)] => lim z.length (ok (.d (.int z.length)))
  | [.d (.list l)] => ok (.d (.int l.length))
  | [.d (.tuple l)] => ok (.d (.int l.length))
  | [.own l] => ok (.d (.int l.length))
  | _ => no
def isiC (xs : List Dv) : R Dv := match xs with
  | [x, .ty t] => match asD x with
    | some a => chk (["str", "int", "bool", "tuple", "list"].elem t) (ok (.d (.bool (isaD t a))))
    | none => no
  | _ => no
def listC (xs : List Dv) : R Dv := match xs with
  | [.d (.list l)] => ok (.d (.list l))
  | [.d (.tuple l)] => ok (.d (.list l))
  | [.own l] => ok (.d (.list l))
  | _ => no
def tupleC (xs : List Dv) : R Dv := match xs with
  | [.d (.list l)] => ok (.d (.tuple l))
  | [.d (.tuple l)] => ok (.d (.tuple l))
  | [.own l] => ok (.d (.tuple l))
  | _ => no
def absC (xs : List Dv) : R Dv := match xs with
  | [.d (.int i)] => ok (.d (.int (if i < 0 then -i else i)))
  | _ => no
theorem lenC_ok (er : Str → Prop) (xs : List Dv) (q : Dv → Prop) (h : wp (lenC xs) q er) : lenD xs q := by
  unfold lenC at h
  split at h <;> first | exact h.elim | exact h | exact lim_wp h
theorem isiC_ok (er : Str → Prop) (xs : List Dv) (q : Dv → Prop) (h : wp (isiC xs) q er) : isiD xs q := by
  unfold isiC at h
  split at h
  · rename_i x t
    show (match asD x with
      | some a => t ∈ ["str", "int", "bool", "tuple", "list"] ∧ q (.d (.bool (isaD t a)))
      | none => False)
    split at h
    · rename_i a e
      obtain ⟨h1, h2⟩ := chk_wp h
      exact ⟨List.elem_iff.mp h1, h2⟩
    · exact h.elim
  · exact h.elim
theorem listC_ok (er : Str → Prop) (xs : List Dv) (q : Dv → Prop) (h : wp (listC xs) q er) : listD xs q := by
  unfold listC at h
  split at h <;> first | exact h.elim | exact h
theorem tupleC_ok (er : Str → Prop) (xs : List Dv) (q : Dv → Prop) (h : wp (tupleC xs) q er) : tupleD xs q := by
  unfold tupleC at h
  split at h <;> first | exact h.elim | exact h
theorem absC_ok (er : Str → Prop) (xs : List Dv) (q : Dv → Prop) (h : wp (absC xs) q er) : absD xs q := by
  unfold absC at h
  split at h <;> first | exact h.elim | exact h
end
/-! ### a def by its body -/
section
variable {P : Program} {w : World} {K : PySem.W.Frag} {mg : Str → Option Value} {base : Heap} {T : Tbs}
theorem okF {x : Str} {st : Stmt} {N ps : List Str} {k : Nat} {s : CS} (F : At K mg x st) (S : FnScope N ps (defScope st))
    (hb : ∀ (kV doc pm : Value) (an : Option Addr) (cd ct : Value) (us : List Value), us.length = ps.length → bindArgs (PySem.W.fnOf x x (defArgs st) (defBody st) (defScope st) .none kV doc pm an cd ct) ⟨us, []⟩ = pure (ps.zip us))
    (hbody : ∀ (A : Around) (outer : List Env) (s0 : Shared) (H : Hp) (E : XK) (c : Option Addr) (hid : List Addr) (er : Str → Prop), Lv (cxOf (L2.CX P w) P w K mg base N x (defScope st) (He.ga K x) (cdv K x) A outer s0 H E) ⟨K, T, c, hid, H⟩ E k → EOk ⟨K, T, c, hid, H⟩ er E →
      PSs (cxOf (L2.CX P w) P w K mg base N x (defScope st) (He.ga K x) (cdv K x) A outer s0 H E) (defBody st) (tS ⟨K, T, c, hid, H⟩ (upS er s))) {n j : Nat} (hn : ps.length = n := by rfl) (hj : N.length - n = j := by rfl) : DHas P w K mg base T (k + 1) x ps (gR (body n j s)) := by
  refine F.okD S hb (fun xs q er h => ?_) fun A outer s0 H E c hid er l eo => ⟨_, hbody A outer s0 H E c hid er l eo, fun xs q h => ?_⟩
  · obtain ⟨h1, _⟩ := chk_wp h
    rw [hn]
    exact eq_of_beq h1
  · obtain ⟨h1, h⟩ := chk_wp h
    have h1 := eq_of_beq h1
    have h : wp (R.bind _ _) q er := h
    rw [wp_bind] at h
    have e : startR N xs = xs.map some ++ List.replicate j none := by
      unfold startR
      rw [h1, hj]
    rw [e]
    show wp (s _) (outK _) er
    refine wp_mono (fun o h => ?_) h
    cases o with
    | nx ρ => exact h
    | rt v => exact h
    | bk ρ => exact h.elim
    | ct ρ => exact h.elim
end
end Fl

set_option Elab.async false
set_option linter.all false
set_option maxRecDepth 100000
set_option maxHeartbeats 4000000
namespace Fl
open PySem PySem.Spec PyProof.Rows L2 Dl R
/-! ### all(..), any(..) of a list of bools -/
def blsD : List PyData → Option (List Bool)
  | [] => some []
  | .bool b :: r => (blsD r).map (b :: ·)
  | _ :: _ => none
theorem blsD_eq : ∀ {l : List PyData} {bs : List Bool}, blsD l = some bs → l = bs.map .bool
  | [], bs, h => by cases h; rfl
  | x :: r, bs, h => by
    cases x with
    | bool b =>
      unfold blsD at h
      cases e : blsD r with
      | none => rw [e] at h; cases h
      | some cs =>
        rw [e] at h
        cases h
        rw [blsD_eq e]
        rfl
    | _ => cases h
theorem dd_bls {K : PySem.W.Frag} {H : Hp} : ∀ {vs : List V} {bs : List Bool}, DdAll K H vs (bs.map PyData.bool) → vs = bs.map V.bl
  | [], [], _ => rfl
  | [], _ :: _, h => by cases h
  | _ :: _, [], h => by cases h
  | _ :: _, _ :: _, h => by
    cases h with
    | cons a b => cases a; rw [dd_bls b]; rfl
def foldB (f : List Bool → Bool) (xs : List Dv) : R Dv := match xs with
  | [.d (.list l)] => match blsD l with
    | some bs => ok (.d (.bool (f bs)))
    | none => no
  | _ => no
def foldQ (f : List Bool → Bool) (xs : List Dv) (q : Dv → Prop) : Prop := ∃ l bs, xs = [.d (.list l)] ∧ blsD l = some bs ∧ q (.d (.bool (f bs)))
abbrev allC := foldB fun bs => bs.all id
abbrev anyC := foldB fun bs => bs.any id
theorem foldB_ok {f : List Bool → Bool} (er : Str → Prop) (xs : List Dv) (q : Dv → Prop) (h : wp (foldB f xs) q er) : foldQ f xs q := by
  unfold foldB at h
  split at h
  · split at h
    · rename_i l _ bs e
      exact ⟨l, bs, rfl, e, h⟩
    · exact h.elim
  · exact h.elim
section
variable {X : Cx} {C : DC} {er : Str → Prop}
theorem all_ok {k : Nat} (l : Lv0 X C k) : CallR X (.builtin "all") (rL C (foldQ fun bs => bs.all id)) := by
  intro pins s σ H vs us Q I r ⟨hid, ds, q, hp, rs, ⟨l0, bs, e1, e2, h⟩, kk⟩
  subst e1
  obtain ⟨v, rfl, r1⟩ := rs.one
  obtain ⟨p, ws, rfl, h1, d1⟩ := r1.lst rfl
  rw [blsD_eq e2] at d1
  rw [dd_bls d1] at h1
  exact cr_all l.calm pins s σ H _ us Q I r ⟨p, bs, rfl, SqL.of h1, kk _ (.d (.bool _)) H .refl hp (Dd.bl _) h⟩
theorem any_ok {k : Nat} (l : Lv0 X C k) : CallR X (.builtin "any") (rL C (foldQ fun bs => bs.any id)) := by
  intro pins s σ H vs us Q I r ⟨hid, ds, q, hp, rs, ⟨l0, bs, e1, e2, h⟩, kk⟩
  subst e1
  obtain ⟨v, rfl, r1⟩ := rs.one
  obtain ⟨p, ws, rfl, h1, d1⟩ := r1.lst rfl
  rw [blsD_eq e2] at d1
  rw [dd_bls d1] at h1
  exact cr_any l.calm pins s σ H _ us Q I r ⟨p, bs, rfl, SqL.of h1, kk _ (.d (.bool _)) H .refl hp (Dd.bl _) h⟩
/-! ### enumerate -/
def pairD (a b : PyData) : PyData := .tuple [a, b]
def enumD (ds : List PyData) : List PyData := ds.mapIdx fun i d => pairD (.int (i : Nat)) d
def seqLR : Dv → R (List PyData)
  | .d (.list ds) => ok ds
  | _ => no
def cEnum (a : CE) (ρ : Rho) : R (List PyData) := (a ρ).bind fun x => (seqLR x).bind fun ds => ok (enumD ds)
theorem enumD_at {ds : List PyData} {i : Nat} {d : PyData} (h : ds[i]? = some d) : (enumD ds)[i]? = some (pairD (.int (i : Nat)) d) := by
  unfold enumD
  rw [List.getElem?_mapIdx, h]
  rfl
theorem enumD_len {ds : List PyData} : (enumD ds).length = ds.length := by
  unfold enumD
  rw [List.length_mapIdx]
theorem new_pair {hid : List Addr} {H : Hp} {x y : V} {a b : PyData} (hp : HpOk C hid H) (h1 : Dd C.K (hide hid H) x a) (h2 : Dd C.K (hide hid H) y b) {p : Addr} (np : H p = none) : Dd C.K (hide hid (upd H p (.tup [x, y]))) (.ref p) (pairD a b) :=
  new_tup hp (.cons h1 (.cons h2 .nil)) np
theorem fi_enum {e : Expr} {A : CE} {p pos tpos : Pos} {elts : List Expr} {kk k : Nat} (l : Lv0 X C k) (hm : X.mg "enumerate" = none) (h : PE X e (tE C (up er A))) (hg : Gl X "enumerate" := by rfl) (hs : starEach [e] X.env = [(false, eval e X.env)] := by rfl) :
    PI X (.Tuple elts kk tpos) (.Call (.Name "enumerate" p) [e] [] pos) (tI C (up er (cEnum A))) := by
  refine (pi_enum hg hm (pa_cons h pa_nil hs) hs).imp fun σ H R' ⟨hid, ρ, q, hp, sr, a, kk⟩ => ⟨hid, ρ, _, hp, sr, (by
    unfold up cEnum at a
    rw [wp_bind] at a
    exact a), fun v x H1 e1 o1 r1 a1 => ?_⟩
  rw [wp_bind] at a1
  have a2 : ∃ ds, x = .d (.list ds) ∧ q (enumD ds) := by
    unfold seqLR at a1
    split at a1
    · exact ⟨_, rfl, a1⟩
    · exact a1.elim
  obtain ⟨ds, rfl, a2⟩ := a2
  cases r1 with
  | @lst t vs _ hl d1 =>
    refine ⟨t, vs, rfl, SqL.of (hide_some hl).2, kk _ _ H1 e1 o1 ⟨fun H => SqL X.K H t vs, YPair (fun i => some (.int (i : Nat))) (fun i => vs[i]?), by rw [enumD_len, ← d1.len]; exact walk_enum, fun hid' H' st => SqL.of (st.fz t _ (hide_some hl).1 (hide_some hl).2 (fun _ z => by cases z)), fun i hid' H2 v H3 hi st ok ⟨T, a, b, y1, y2, y3, y4, y5⟩ => ?_⟩ a2⟩
    obtain rfl := Option.some.inj y4
    subst y1 y3
    obtain ⟨d, ed, dd⟩ := d1.at y5
    exact ⟨_, enumD_at ed, .inr ⟨T, _, y2, rfl⟩, new_pair ok (.int _) (Dd.mono st.mono _ _ dd) y2⟩
/-! ### a, b = e, [..] -/
def cParL (i j : Nat) (a : CE) (b : CA) (ρ : Rho) : R Out := (a ρ).bind fun x => (b ρ).bind fun xs => (dsR xs).bind fun l => chk (notOwnB x) (ok (.nx ((ρ.set i (some x)).set j (some (.own l)))))
theorem fs_parL {i j n : Nat} {x y : Str} {a : Expr} {es : List Expr} {A : CE} {B : CA} {px py pt pos lpos : Pos} {kt k2 pt2} {k : Nat} (l : Lv0 X C k) (hi : X.N[i]? = some x) (hj : X.N[j]? = some y)
    (ha : PE X a (tE C (up er A))) (hb : PA X es (tAs C n (up er B))) (hn : n ≤ 1000 := by decide) (hij : i ≠ j := by decide) (hx : X.env.scope.names.lookup x = some .local := by rfl) (hy : X.env.scope.names.lookup y = some .local := by rfl)
    (h0 : starEach [a, .List es lpos] X.env = (false, eval a X.env) :: starEach [.List es lpos] X.env := by rfl) (h1 : starEach [.List es lpos] X.env = (false, eval (.List es lpos) X.env) :: starEach [] X.env := by rfl)
    (hw : swappedStores [.Tuple [.Name x px, .Name y py] kt pt] (.Tuple [a, .List es lpos] k2 pt2) X.env = pure (some [x, y]) := by rfl)
    (hs : swapsWithSole [.Tuple [.Name x px, .Name y py] kt pt] (.Tuple [a, .List es lpos] k2 pt2) pos.line X.env = pure false := by rfl) :
    PS X (.Assign [.Tuple [.Name x px, .Name y py] kt pt] (.Tuple [a, .List es lpos] k2 pt2) pos) (tS C (upS er (cParL i j A B))) :=
  (ps_par l.calm l.nd hi hj hij hx hy (pa_cons ha (pa_cons (pe_lst hb) pa_nil h1) h0) hw hs).imp fun D σ H ⟨hid, ρ, d, so, s, e⟩ => ⟨hid, ρ, _, so.hp, so.sr, (by
    unfold upS cParL at s
    rw [wp_bind] at s
    exact s), fun v x H1 e1 o1 r1 a1 => ⟨hid, ρ, _, o1, so.sr.ext e1 so.hp, (by
      rw [wp_bind] at a1
      exact a1), fun vs xs H2 e2 o2 r2 l2 a2 => by
      rw [wp_bind] at a2
      obtain ⟨l0, rfl, a3⟩ := of_onDs (dsR_wp a2)
      obtain ⟨no, a4⟩ := chk_wp a3
      refine ⟨by rw [r2.len, l2]; exact Nat.le_trans hn (by decide), fun p np => ?_⟩
      have s1 := ((so.ext e1 o1).ext e2 o2).set (r1.ext e2 o1) (notOwnB_iff no) i
      obtain ⟨s2, s3⟩ := s1.newOwn r2.dd np j
      exact ⟨v, .ref p, rfl, e.nx _ _ _ _ s2 (((Stp.ext e1 so.hp).trans (Stp.ext e2 o1)).trans s3) a4⟩⟩⟩
end
end Fl

set_option Elab.async false
set_option linter.all false
set_option maxRecDepth 100000
set_option maxHeartbeats 4000000
namespace Fl
open PySem PySem.Spec PyProof.Rows L2 Dl R
/-! ### calls where nothing may be raised -/
def nr {α : Type} : R α → R α
  | .ok a => .ok a
  | .er _ => .no
  | .no => .no
  | .ch S k => .ch S fun d => nr (k d)
theorem nr_wp {α : Type} {er : Str → Prop} {q : α → Prop} : ∀ {m : R α}, wp (nr m) q er → wp m q fun _ => False
  | .ok a, h => h
  | .er _, h => h.elim
  | .no, h => h
  | .ch S k, h => fun d hd => nr_wp (h d hd)
def cCallN (m : List Dv → R Dv) (a : CA) (ρ : Rho) : R Dv := (a ρ).bind fun xs => chk (xs.all notOwnB) (nr (m xs))
def cCallN0 (m : List Dv → R Dv) (_ : Rho) : R Dv := nr (m [])
section
variable {X : Cx} {C : DC} {er : Str → Prop}
theorem fe_callN {x : Str} {ps : List Str} {m : List Dv → R Dv} {n k : Nat} {e : Expr} {es : List Expr} {A : CA} {p pos : Pos} {j : Nat} (h : DHas X.prog X.w X.K X.mg X.base C.T j x ps (gR m)) (l : Lv0 X C k) (ha : PA X (e :: es) (tAs C n (up er A))) (hjk : j ≤ k := by decide) (hg : Gl X x := by rfl) (hdb : (x == ("__debug__" : Str)) = false := by decide)
    (he : starEach (e :: es) X.env = (false, eval e X.env) :: starEach es X.env := by rfl) (hpl : (backTo pos (starEach es X.env)).any (·.1) = false := by rfl) : PE X (.Call (.Name x p) (e :: es) [] pos) (tE C (up er (cCallN m A))) := (de_call h l pass_none EOk.never ha hjk hg hdb he hpl).imp (mE fun ρ q h => by
  unfold up cCallN at h
  rw [wp_bind] at h
  refine wp_mono (fun xs h => ?_) h
  obtain ⟨h1, h2⟩ := chk_wp h
  exact all_notOwn h1 (nr_wp h2))
theorem fe_callN0 {x : Str} {m : List Dv → R Dv} {k : Nat} {p pos : Pos} {j : Nat} (h : DHas X.prog X.w X.K X.mg X.base C.T j x [] (gR m)) (l : Lv0 X C k) (hjk : j ≤ k := by decide) (hg : Gl X x := by rfl) (hdb : (x == ("__debug__" : Str)) = false := by decide) :
    PE X (.Call (.Name x p) [] [] pos) (tE C (up er (cCallN0 m))) := (de_call0 h l pass_none EOk.never hjk hg hdb).imp (mE fun ρ q h => nr_wp h)
/-! ### constants of the top -/
theorem fe_gi {x : Str} {i : Int} {pos : Pos} (h : ∃ t, X.mg x = some (.int i t)) (hg : Gl X x := by rfl) (hd : (x == ("__debug__" : Str)) = false := by decide) : PE X (.Name x pos) (tE C (up er (cC (.int i)))) := by
  obtain ⟨t, h⟩ := h
  exact fe_c (de_c (pe_glob (v := .int i) hg h ⟨t, rfl⟩ hd) fun _ => .int i)
theorem fe_gs {x z : Str} {pos : Pos} (h : ∃ t, X.mg x = some (.str z t)) (hz : PyData.strOk z = true := by decide +kernel) (hg : Gl X x := by rfl) (hd : (x == ("__debug__" : Str)) = false := by decide) : PE X (.Name x pos) (tE C (up er (cC (.str z)))) := by
  obtain ⟨t, h⟩ := h
  exact fe_c (de_c (pe_glob (v := .str z) hg h ⟨t, rfl⟩ hd) fun _ => .str z hz)
/-- a tuple of the top, of texts -/
structure TopD (K : PySem.W.Frag) (mg : Str → Option Value) (x : Str) (ds : List PyData) : Prop where
  g : mg x = some (.ref (He.ga K x))
  t : ∃ vs, ∀ H, SqT K H (He.ga K x) vs ∧ DdAll K H vs ds
def cTop (ds : List PyData) (_ : Rho) : R (List PyData) := ok ds
theorem fi_top {tg : Expr} {x : Str} {ds : List PyData} {pos : Pos} {k : Nat} (l : Lv0 X C k) (h : TopD X.K X.mg x ds) (hg : Gl X x := by rfl) (hd : (x == ("__debug__" : Str)) = false := by decide) : PI X tg (.Name x pos) (tI C (up er (cTop ds))) :=
  (pi_tup (pe_glob (v := .ref (He.ga X.K x)) hg h.g rfl hd)).imp fun σ H R' ⟨hid, ρ, q, hp, sr, a, kk⟩ => by
    obtain ⟨vs, hv⟩ := h.t
    have hdd := (hv (hide hid H)).2
    rw [l.K] at hdd
    exact ⟨_, rfl, ⟨vs, (hv H).1⟩, kk _ _ H .refl hp (walkd_seq (a := He.ga X.K x) (fun H => SqT X.K H (He.ga X.K x) vs) walk_tup (fun _ H' _ => (hv H').1) hdd) a⟩
end
end Fl

set_option Elab.async false
set_option linter.all false
set_option maxRecDepth 100000
set_option maxHeartbeats 4000000
namespace Fl
open PySem PySem.Spec PyProof.Rows L2 Dl R
/-! ### texts -/
def strsD : List PyData → Option (List Str)
  | [] => some []
  | .str b :: r => (strsD r).map (b :: ·)
  | _ :: _ => none
theorem strsD_eq : ∀ {l : List PyData} {bs : List Str}, strsD l = some bs → l = bs.map .str
  | [], bs, h => by cases h; rfl
  | x :: r, bs, h => by
    cases x with
    | str b =>
      unfold strsD at h
      cases e : strsD r with
      | none => rw [e] at h; cases h
      | some cs =>
        rw [e] at h
        cases h
        rw [strsD_eq e]
        rfl
    | _ => cases h
theorem strsD_map : ∀ bs : List Str, strsD (bs.map .str) = some bs
  | [] => rfl
  | b :: r => by
    show (strsD (r.map .str)).map (b :: ·) = _
    rw [strsD_map r]
    rfl
theorem dd_strs {K : PySem.W.Frag} {H : Hp} : ∀ {vs : List V} {l : List Str}, DdAll K H vs (l.map PyData.str) → vs = l.map V.str
  | [], [], _ => rfl
  | [], _ :: _, h => by cases h
  | _ :: _, [], h => by cases h
  | _ :: _, _ :: _, h => by
    cases h with
    | cons a b => cases a; rw [dd_strs b]; rfl
def strR : Dv → R Str
  | .d (.str z) => ok z
  | _ => no
def splitC (a : Str) (y : Dv) : R Dv := (strR y).bind fun b => chk (decide (b.length ≠ 0 ∧ a.length ≤ 1000000) && (Txt.split a b).all PyData.strOk) (ok (.d (.list ((Txt.split a b).map .str))))
def cM1 (f : Str → Dv → R Dv) (a b : CE) (ρ : Rho) : R Dv := (a ρ).bind fun x => (strR x).bind fun z => (b ρ).bind fun y => f z y
def c_split (a b : CE) : CE := cM1 splitC a b
def joinS (a : Str) (l : List PyData) : R Dv := match strsD l with
  | some ys => chk (decide ((ys.map (·.length)).sum + ys.length * a.length ≤ 1000000) && PyData.strOk (Txt.join a ys)) (ok (.d (.str (Txt.join a ys))))
  | none => no
def joinC (a : Str) (y : Dv) : R Dv := match y with
  | .d (.list l) => joinS a l
  | .d (.tuple l) => joinS a l
  | .own l => joinS a l
  | _ => no
def c_join (a b : CE) : CE := cM1 joinC a b
def testC (f : Str → Bool) (x : Dv) : R Dv := match x with
  | .d (.str a) => ok (.d (.bool (f a)))
  | _ => no
def c_isascii (a : CE) : CE := cUn (testC Txt.isascii) a
def c_isalpha (a : CE) : CE := cUn (testC Txt.isalpha) a
def c_islower (a : CE) : CE := cUn (testC Txt.islower) a
section
variable {X : Cx} {C : DC} {er : Str → Prop}
theorem m1_two {f : Str → Dv → R Dv} {a b : CE} {ρ : Rho} {q : Dv → Prop} (h : up er (cM1 f a b) ρ q) : up er a ρ fun x => ∃ z, x = .d (.str z) ∧ up er b ρ fun y => wp (f z y) q er := by
  unfold up cM1 at h
  rw [wp_bind] at h
  refine wp_mono (fun x h => ?_) h
  rw [wp_bind] at h
  unfold strR at h
  split at h
  · rename_i z
    have h : wp (R.bind _ _) q er := h
    rw [wp_bind] at h
    exact ⟨z, rfl, h⟩
  · exact h.elim
theorem fe_split {o e : Expr} {A B : CE} {apos pos : Pos} {k : Nat} (l : Lv0 X C k) (ho : PE X o (tE C (up er A))) (he : PE X e (tE C (up er B))) (hs : starEach [e] X.env = [(false, eval e X.env)] := by rfl) (hbase : attributeBase o "split" X.env (eval o X.env) = eval o X.env := by rfl) (hline : (apos.endLine == pos.line) = true := by rfl) :
    PE X (.Call (.Attribute o "split" apos) [e] [] pos) (tE C (up er (c_split A B))) := (pe_split ho he hs hbase hline).imp fun σ H Q ⟨hid, ρ, q, hp, sr, a, kk⟩ => ⟨hid, ρ, _, hp, sr, m1_two a, fun v x H1 e1 o1 r1 ⟨z, ex, a1⟩ => by
  subst ex
  cases r1 with
  | str _ hz =>
    refine ⟨⟨z, rfl⟩, hid, ρ, _, o1, sr.ext e1 hp, a1, fun w y H2 e2 o2 r2 a2 => ?_⟩
    unfold splitC at a2
    rw [wp_bind] at a2
    unfold strR at a2
    split at a2
    · rename_i b
      obtain ⟨h1, h2⟩ := chk_wp a2
      rw [Bool.and_eq_true] at h1
      have h3 := of_decide_eq_true h1.1
      cases r2
      refine ⟨z, b, rfl, rfl, by simpa using h3.1, Nat.le_trans (Nat.add_le_add_right h3.2 2) (by decide), fun p np => ?_⟩
      exact kk _ _ _ ((e1.trans e2).trans (Ext.new np _)) (o2.new np _) (new_lst o2 (DdAll.strs fun s hs => List.all_eq_true.mp h1.2 s hs) np) h2
    · exact a2.elim⟩
theorem joinS_wp {a : Str} {l : List PyData} {q : Dv → Prop} (h : wp (joinS a l) q er) : ∃ ys : List Str, l = ys.map .str ∧ (ys.map (·.length)).sum + ys.length * a.length ≤ 16777216 ∧ PyData.strOk (Txt.join a ys) = true ∧ q (.d (.str (Txt.join a ys))) := by
  unfold joinS at h
  split at h
  · rename_i ys e
    obtain ⟨h1, h2⟩ := chk_wp h
    rw [Bool.and_eq_true] at h1
    exact ⟨ys, strsD_eq e, Nat.le_trans (of_decide_eq_true h1.1) (by decide), h1.2, h2⟩
  · exact h.elim
theorem fe_join {o e : Expr} {A B : CE} {apos pos : Pos} {k : Nat} (l : Lv0 X C k) (ho : PE X o (tE C (up er A))) (he : PE X e (tE C (up er B))) (hs : starEach [e] X.env = [(false, eval e X.env)] := by rfl) (hbase : attributeBase o "join" X.env (eval o X.env) = eval o X.env := by rfl) (hline : (apos.endLine == pos.line) = true := by rfl) :
    PE X (.Call (.Attribute o "join" apos) [e] [] pos) (tE C (up er (c_join A B))) := (pe_join ho he hs hbase hline).imp fun σ H Q ⟨hid, ρ, q, hp, sr, a, kk⟩ => ⟨hid, ρ, _, hp, sr, m1_two a, fun v x H1 e1 o1 r1 ⟨z, ex, a1⟩ => by
  subst ex
  cases r1 with
  | str _ hz =>
    refine ⟨⟨z, rfl⟩, hid, ρ, _, o1, sr.ext e1 hp, a1, fun w y H2 e2 o2 r2 a2 => ?_⟩
    have fin : ∀ l0, wp (joinS z l0) q er → ∃ ys : List Str, l0 = ys.map .str ∧ (ys.map (·.length)).sum + ys.length * z.length ≤ 16777216 ∧ Q (.str (Txt.join z ys)) H2 := fun l0 h => by
      obtain ⟨ys, h1, h2, h3, h4⟩ := joinS_wp h
      exact ⟨ys, h1, h2, kk _ (.d (.str _)) H2 (e1.trans e2) o2 (Dd.str _ h3) h4⟩
    unfold joinC at a2
    split at a2
    · obtain ⟨ys, rfl, h2, h3⟩ := fin _ a2
      obtain ⟨p, vs, rfl, h4, h5⟩ := r2.lst rfl
      rw [dd_strs h5] at h4
      exact ⟨z, p, ys, rfl, rfl, .inl (SqL.of h4), h2, h3⟩
    · obtain ⟨ys, rfl, h2, h3⟩ := fin _ a2
      obtain ⟨p, vs, rfl, h4, h5⟩ := r2.tup
      rw [dd_strs h5] at h4
      exact ⟨z, p, ys, rfl, rfl, .inr (by rw [l.K]; exact h4), h2, h3⟩
    · obtain ⟨ys, rfl, h2, h3⟩ := fin _ a2
      obtain ⟨p, vs, rfl, h4, h5⟩ := r2.lst rfl
      rw [dd_strs h5] at h4
      exact ⟨z, p, ys, rfl, rfl, .inl (SqL.of h4), h2, h3⟩
    · exact a2.elim⟩
theorem fe_test {id : String} {name : Str} {f : Str → Bool} {o : Expr} {A : CE} {apos pos : Pos} (slot : Slot "str" name id) (ty : typeOf (.builtin id) = pure (.type "method_descriptor")) (rule : MtR X id (fun x xs H Q => ∃ a, x = .str a ∧ xs = [] ∧ True ∧ Q (.bl (f a)) H)) (ho : PE X o (tE C (up er A)))
    (hbase : attributeBase o name X.env (eval o X.env) = eval o X.env := by rfl) (hline : (apos.endLine == pos.line) = true := by rfl) : PE X (.Call (.Attribute o name apos) [] [] pos) (tE C (up er (cUn (testC f) A))) := (pe_m0 slot ty rule ho hbase hline).imp fun σ H Q ⟨hid, ρ, q, hp, sr, a, kk⟩ => ⟨hid, ρ, _, hp, sr, (by
    unfold up cUn at a
    rw [wp_bind] at a
    exact a), fun v x H1 e1 o1 r1 a1 => by
    unfold testC at a1
    split at a1
    · cases r1
      exact ⟨⟨_, rfl⟩, _, rfl, rfl, trivial, kk _ (.d (.bool _)) H1 e1 o1 (Dd.bl _) a1⟩
    · exact a1.elim⟩
theorem fe_isascii {o : Expr} {A : CE} {apos pos : Pos} {k : Nat} (l : Lv0 X C k) (ho : PE X o (tE C (up er A))) (hbase : attributeBase o "isascii" X.env (eval o X.env) = eval o X.env := by rfl) (hline : (apos.endLine == pos.line) = true := by rfl) : PE X (.Call (.Attribute o "isascii" apos) [] [] pos) (tE C (up er (c_isascii A))) := fe_test PySem.F.slot_str_isascii PySem.F.type_str_isascii mt_isascii ho hbase hline
theorem fe_isalpha {o : Expr} {A : CE} {apos pos : Pos} {k : Nat} (l : Lv0 X C k) (ho : PE X o (tE C (up er A))) (hbase : attributeBase o "isalpha" X.env (eval o X.env) = eval o X.env := by rfl) (hline : (apos.endLine == pos.line) = true := by rfl) : PE X (.Call (.Attribute o "isalpha" apos) [] [] pos) (tE C (up er (c_isalpha A))) := fe_test PySem.F.slot_str_isalpha PySem.F.type_str_isalpha mt_isalpha ho hbase hline
theorem fe_islower {o : Expr} {A : CE} {apos pos : Pos} {k : Nat} (l : Lv0 X C k) (ho : PE X o (tE C (up er A))) (hbase : attributeBase o "islower" X.env (eval o X.env) = eval o X.env := by rfl) (hline : (apos.endLine == pos.line) = true := by rfl) : PE X (.Call (.Attribute o "islower" apos) [] [] pos) (tE C (up er (c_islower A))) := fe_test PySem.F.slot_str_islower PySem.F.type_str_islower mt_islower ho hbase hline
/-! ### int(..), max(.., ..), min(.., ..) -/
def intC (xs : List Dv) : R Dv := match xs with
  | [.d (.int i)] => ok (.d (.int i))
  | [.d (.bool b)] => ok (.d (.int (if b then 1 else 0)))
  | _ => no
def fQ (f : List Dv → R Dv) (xs : List Dv) (q : Dv → Prop) : Prop := ∃ d, f xs = .ok d ∧ q d
theorem intC_ok (er : Str → Prop) (xs : List Dv) (q : Dv → Prop) (h : wp (intC xs) q er) : fQ intC xs q := by
  unfold intC at h
  unfold fQ intC
  split at h <;> first | exact h.elim | exact ⟨_, rfl, h⟩
theorem int_ok : CallR X (.type "int") (rL C (fQ intC)) := by
  intro pins s σ H vs us Q I r ⟨hid, ds, q, hp, rs, ⟨d, e, h⟩, kk⟩
  unfold intC at e
  split at e
  · cases e
    obtain ⟨v, rfl, r1⟩ := rs.one
    cases r1
    exact call_int1 pins s σ H _ us Q I r (.inl ⟨_, rfl, kk _ (.d (.int _)) H .refl hp (Dd.int _) h⟩)
  · cases e
    obtain ⟨v, rfl, r1⟩ := rs.one
    cases r1
    exact call_int1 pins s σ H _ us Q I r (.inr ⟨_, rfl, kk _ (.d (.int _)) H .refl hp (Dd.int _) h⟩)
  · cases e
def mxC (f : Int → Int → Int) (xs : List Dv) : R Dv := match xs with
  | [.d (.int i), .d (.int j)] => ok (.d (.int (f i j)))
  | _ => no
abbrev maxC := mxC fun i j => if j > i then j else i
abbrev minC := mxC fun i j => if j < i then j else i
theorem mxC_ok {f : Int → Int → Int} (er : Str → Prop) (xs : List Dv) (q : Dv → Prop) (h : wp (mxC f xs) q er) : fQ (mxC f) xs q := by
  unfold mxC at h
  unfold fQ mxC
  split at h <;> first | exact h.elim | exact ⟨_, rfl, h⟩
theorem mx_ok {id : String} {f : Int → Int → Int} (hr : CallR X (.builtin id) (fun xs H Q => ∃ i j, xs = [.int i, .int j] ∧ Q (.int (f i j)) H)) : CallR X (.builtin id) (rL C (fQ (mxC f))) := by
  intro pins s σ H vs us Q I r ⟨hid, ds, q, hp, rs, ⟨d, e, h⟩, kk⟩
  unfold mxC at e
  split at e
  · cases e
    obtain ⟨v, w, rfl, r1, r2⟩ := rs.two
    cases r1
    cases r2
    exact hr pins s σ H _ us Q I r ⟨_, _, rfl, kk _ (.d (.int _)) H .refl hp (Dd.int _) h⟩
  · cases e
theorem max_ok {k : Nat} (l : Lv0 X C k) : CallR X (.builtin "max") (rL C (fQ maxC)) := mx_ok (call_max2 l.calm)
theorem min_ok {k : Nat} (l : Lv0 X C k) : CallR X (.builtin "min") (rL C (fQ minC)) := mx_ok (call_min2 l.calm)
/-! ### a tuple of the top as a value -/
theorem fe_gt {x : Str} {ds : List PyData} {pos : Pos} {k : Nat} (l : Lv0 X C k) (h : TopD X.K X.mg x ds) (hg : Gl X x := by rfl) (hd : (x == ("__debug__" : Str)) = false := by decide) : PE X (.Name x pos) (tE C (up er (cC (.tuple ds)))) := by
  obtain ⟨vs, hv⟩ := h.t
  refine fe_c (de_c (pe_glob (v := .ref (He.ga X.K x)) hg h.g rfl hd) fun H => ?_)
  obtain ⟨h1, h2⟩ := hv H
  rw [l.K] at h1 h2 ⊢
  exact .tup ⟨h1, fun z => z.elim⟩ h2
/-! ### a call of what a name holds -/
abbrev Tb := List (Str × (List Dv → R Dv))
def cCallL (i : Nat) (tb : Tb) (a : CA) (ρ : Rho) : R Dv := match ρ[i]? with
  | some (some (.fn y)) => match tb.lookup y with
    | some m => (a ρ).bind fun xs => chk (xs.all notOwnB) (nr (m xs))
    | none => no
  | _ => no
structure TbOk (P : Program) (w : World) (K : PySem.W.Frag) (mg : Str → Option Value) (base : Heap) (T : Tbs) (k : Nat) (tb : Tb) : Prop where
  h : ∀ y m, tb.lookup y = some m → ∃ ps, DHas P w K mg base T k y ps (gR m)
theorem TbOk.nil {P : Program} {w : World} {K : PySem.W.Frag} {mg : Str → Option Value} {base : Heap} {T : Tbs} {k : Nat} : TbOk P w K mg base T k [] := ⟨fun y m e => by cases e⟩
theorem TbOk.cons {P : Program} {w : World} {K : PySem.W.Frag} {mg : Str → Option Value} {base : Heap} {T : Tbs} {k j : Nat} {y : Str} {ps : List Str} {m : List Dv → R Dv} {tb : Tb} (h : DHas P w K mg base T j y ps (gR m)) (t : TbOk P w K mg base T k tb) (hj : j ≤ k := by decide) : TbOk P w K mg base T k ((y, m) :: tb) := ⟨fun z n e => by
  rw [List.lookup_cons] at e
  split at e
  · rename_i ez
    cases e
    obtain rfl := eq_of_beq ez
    exact ⟨ps, Has.mono h hj⟩
  · exact t.h z n e⟩
theorem fe_callL {i : Nat} {x : Str} {tb : Tb} {e : Expr} {es : List Expr} {n k j : Nat} {A : CA} {p pos : Pos} (l : Lv0 X C k) (t : TbOk X.prog X.w X.K X.mg X.base C.T j tb) (hN : X.N[i]? = some x) (hv : Vis X.env.scope x) (ha : PA X (e :: es) (tAs C n (up er A))) (hjk : j ≤ k := by decide)
    (hdb : (x == ("__debug__" : Str)) = false := by decide) (hcd : (x == ("__classdict__" : Str)) = false := by decide)
    (he : starEach (e :: es) X.env = (false, eval e X.env) :: starEach es X.env := by rfl) (hpl : (backTo pos (starEach es X.env)).any (·.1) = false := by rfl) : PE X (.Call (.Name x p) (e :: es) [] pos) (tE C (up er (cCallL i tb A))) := by
  refine ⟨fun pins s σ H Q I ⟨hid, ρ, q, hp, sr, a, kk⟩ => ?_⟩
  unfold up cCallL at a
  split at a
  · rename_i y ey
    split at a
    · rename_i m em
      obtain ⟨ps, fd, b, kp, gm, F, _⟩ := t.h y m em
      obtain ⟨v, h1, h2⟩ := sr.at' i _ ey
      cases (show v = _ from h2)
      rw [wp_bind] at a
      refine (pe_callL (i := i) (f := He.ga X.K y) (p := p) (pos := pos) F (l.room.mono hjk) hN hv kp b .nil pass_none ha hdb hcd he hpl).run pins s σ H Q I ⟨by rw [l.K]; exact h1, hid, ρ, _, hp, sr, a, fun vs xs H1 e1 o1 r1 l1 a1 => ?_⟩
      obtain ⟨h3, h4⟩ := chk_wp a1
      obtain ⟨no, a2⟩ := of_noOwn (all_notOwn h3 (nr_wp h4))
      rw [l.K]
      show spD C.K C.T (gR m) (vs ++ []) H1 Q _
      rw [List.append_nil]
      exact call_sp o1 r1 no a2 EOk.never fun v x H2 e2 => kk v x H2 (e1.trans e2)
    · exact a.elim
  · exact a.elim
end
end Fl

set_option Elab.async false
set_option linter.all false
set_option maxRecDepth 100000
set_option maxHeartbeats 4000000
namespace Fl
open PySem PySem.Spec PyProof.Rows L2 Dl R
/-! ### zip, enumerate over lists and tuples -/
theorem _root_.L2.PI.or {X : Cx} {tg e : Expr} {t1 t2 : TI} (h1 : PI X tg e t1) (h2 : PI X tg e t2) : PI X tg e (fun σ H R => t1 σ H R ∨ t2 σ H R) := ⟨fun pins s σ H R I h => h.elim (fun h => h1.run pins s σ H R I h) fun h => h2.run pins s σ H R I h⟩
def zipD (xs ys : List PyData) : List PyData := (xs.zip ys).map fun p => pairD p.1 p.2
theorem zipD_len {xs ys : List PyData} : (zipD xs ys).length = min xs.length ys.length := by
  unfold zipD
  rw [List.length_map, List.length_zip]
theorem zipD_at {xs ys : List PyData} {i : Nat} {a b : PyData} (h1 : xs[i]? = some a) (h2 : ys[i]? = some b) : (zipD xs ys)[i]? = some (pairD a b) := by
  unfold zipD
  rw [List.getElem?_map, show (xs.zip ys)[i]? = some (a, b) from List.getElem?_zip_eq_some.mpr ⟨h1, h2⟩]
  rfl
def zipC (x y : Dv) : R (List PyData) := match x, y with
  | .d (.list xs), .d (.list ys) => ok (zipD xs ys)
  | .d (.tuple xs), .d (.tuple ys) => ok (zipD xs ys)
  | .d (.tuple xs), .d (.list ys) => ok (zipD xs ys)
  | _, _ => no
def cZip (a b : CE) (ρ : Rho) : R (List PyData) := match a ρ with
  | .ok x => match b ρ with
    | .ok y => zipC x y
    | _ => no
  | _ => no
theorem walk_zipTT {K : PySem.W.Frag} (a b : Addr) (xs ys : List V) : Walk (RZ.ItzT K a b) (xs.zip ys).length (fun H => SqT K H a xs ∧ SqT K H b ys) (fun i H v H' => ∃ T p, (xs.zip ys)[i]? = some p ∧ v = .ref T ∧ H T = none ∧ H' = upd H T (.tup [p.1, p.2])) := by
  refine ⟨fun i _ hi q => ?_, fun _ q => ⟨_, _, q.1, q.2, ?_⟩, fun i H v H' hi q y => ?_⟩
  · rw [List.length_zip] at hi
    have h1 : i < xs.length := by omega
    have h2 : i < ys.length := by omega
    exact ⟨_, _, xs[i], ys[i], q.1, q.2, List.getElem?_eq_getElem h1, List.getElem?_eq_getElem h2⟩
  · rw [List.length_zip]; omega
  · obtain ⟨T, x, z, h1, h2, h3, h4, h5⟩ := y
    exact ⟨T, (x, z), List.getElem?_zip_eq_some.mpr ⟨h4 _ q.1, h5 _ q.2⟩, h1, h2, h3⟩
section
variable {X : Cx} {C : DC} {er : Str → Prop}
/-- what a walk of pairs gives -/
theorem walkd_pairs {hid : List Addr} {H : Hp} {J : It} {vs ws : List V} {xs ys : List PyData} {G : Hp → Prop} (hw : Walk J (vs.zip ws).length G (fun i H v H' => ∃ T p, (vs.zip ws)[i]? = some p ∧ v = .ref T ∧ H T = none ∧ H' = upd H T (.tup [p.1, p.2]))) (hr : ∀ hid' H', Stp hid H hid' H' → G H')
    (h1 : DdAll C.K (hide hid H) vs xs) (h2 : DdAll C.K (hide hid H) ws ys) : WalkD C hid J (zipD xs ys) H := by
  refine ⟨G, (fun i H v H' => ∃ T p, (vs.zip ws)[i]? = some p ∧ v = .ref T ∧ H T = none ∧ H' = upd H T (.tup [p.1, p.2])), by rw [zipD_len, ← h1.len, ← h2.len, ← List.length_zip]; exact hw, hr, fun i hid' H1 v H2 hi st ok ⟨T, p, e, y1, y2, y3⟩ => ?_⟩
  subst y1 y3
  obtain ⟨e1, e2⟩ := List.getElem?_zip_eq_some.mp e
  obtain ⟨a, ea, da⟩ := h1.at e1
  obtain ⟨b, eb, db⟩ := h2.at e2
  exact ⟨_, zipD_at ea eb, .inr ⟨T, _, y2, rfl⟩, new_pair ok (Dd.mono st.mono _ _ da) (Dd.mono st.mono _ _ db) y2⟩
theorem walk_zipLL {K : PySem.W.Frag} (a b : Addr) (xs ys : List V) : Walk (Itz K a b) (xs.zip ys).length (fun H => SqL K H a xs ∧ SqL K H b ys) (fun i H v H' => ∃ T p, (xs.zip ys)[i]? = some p ∧ v = .ref T ∧ H T = none ∧ H' = upd H T (.tup [p.1, p.2])) :=
  (walk_zip (n := (xs.zip ys).length) List.length_zip).mono (fun _ h => h) fun i H x H' hi g ⟨T, a, b, h1, h2, h3, h4, h5⟩ => ⟨T, (a, b), List.getElem?_zip_eq_some.mpr ⟨h4, h5⟩, h1, h2, h3⟩
theorem fi_zip {e e2 : Expr} {A B : CE} {p pos tpos : Pos} {elts : List Expr} {kk k : Nat} (l : Lv0 X C k) (hm : X.mg "zip" = none) (ha : PE X e (tE C (up er A))) (hb : PE X e2 (tE C (up er B))) (hg : Gl X "zip" := by rfl)
    (hs : starEach [e, e2] X.env = (false, eval e X.env) :: starEach [e2] X.env := by rfl) (hs2 : starEach [e2] X.env = (false, eval e2 X.env) :: starEach [] X.env := by rfl) (hpl : (backTo pos (starEach [e2] X.env)).any (·.1) = false := by rfl) :
    PI X (.Tuple elts kk tpos) (.Call (.Name "zip" p) [e, e2] [] pos) (tI C (up er (cZip A B))) := by
  have args := pa_cons ha (pa_cons hb pa_nil hs2) hs
  refine ((RZ.pi_zipA hg hm args hs hpl).or (Mx.pi_zipM hg hm args hs hpl)).imp fun σ H R' ⟨hid, ρ, q, hp, sr, a, kk⟩ => ?_
  unfold up cZip at a
  split at a
  · rename_i x ex
    split at a
    · rename_i y ey
      have two : ∀ (F : List V → Hp → Prop), (∀ v w H1 H2, Ext C.c H H1 → HpOk C hid H1 → Ext C.c H1 H2 → HpOk C hid H2 → VR C hid H2 v x → VR C hid H2 w y → F [v, w] H2) → (∀ (n m : Nat), tE C (up er A) σ H fun v H1 => tE C (up er B) σ H1 fun w H2 => F [v, w] H2) := fun F hF _ _ =>
        ⟨hid, ρ, fun z => z = x, hp, sr, by unfold up; rw [ex]; rfl, fun v z H1 e1 o1 r1 ez => by
          subst ez
          exact ⟨hid, ρ, fun z => z = y, o1, sr.ext e1 hp, by unfold up; rw [ey]; rfl, fun w z H2 e2 o2 r2 ez => by
            subst ez
            exact hF v w H1 H2 e1 o1 e2 o2 (r1.ext e2 o1) r2⟩⟩
      unfold zipC at a
      split at a
      · refine .inl (two (fun us H1 => ∃ a b xs ys, us = [.ref a, .ref b] ∧ ((SqL X.K H1 a xs ∧ SqL X.K H1 b ys ∧ R' (Itz X.K a b) H1) ∨ (SqT X.K H1 a xs ∧ SqT X.K H1 b ys ∧ R' (RZ.ItzT X.K a b) H1))) (fun v w H1 H2 e1 o1 e2 o2 r1 r2 => ?_) 0 0)
        cases r1 with
        | @lst p1 vs _ h1 d1 => cases r2 with
          | @lst p2 ws _ h2 d2 =>
            exact ⟨p1, p2, vs, ws, rfl, .inl ⟨SqL.of (hide_some h1).2, SqL.of (hide_some h2).2, kk _ _ H2 (e1.trans e2) o2 (walkd_pairs (walk_zipLL p1 p2 vs ws) (fun hid' H' st => ⟨SqL.of (st.fz p1 _ (hide_some h1).1 (hide_some h1).2 (fun _ z => by cases z)), SqL.of (st.fz p2 _ (hide_some h2).1 (hide_some h2).2 (fun _ z => by cases z))⟩) d1 d2) a⟩⟩
      · refine .inl (two (fun us H1 => ∃ a b xs ys, us = [.ref a, .ref b] ∧ ((SqL X.K H1 a xs ∧ SqL X.K H1 b ys ∧ R' (Itz X.K a b) H1) ∨ (SqT X.K H1 a xs ∧ SqT X.K H1 b ys ∧ R' (RZ.ItzT X.K a b) H1))) (fun v w H1 H2 e1 o1 e2 o2 r1 r2 => ?_) 0 0)
        cases r1 with
        | @tup p1 vs _ h1 d1 => cases r2 with
          | @tup p2 ws _ h2 d2 =>
            rw [l.K]
            exact ⟨p1, p2, vs, ws, rfl, .inr ⟨hide_mono.sqT h1.1, hide_mono.sqT h2.1, kk _ _ H2 (e1.trans e2) o2 (walkd_pairs (walk_zipTT p1 p2 vs ws) (fun hid' H' st => ⟨hide_mono.sqT (st.mono.sqT h1.1), hide_mono.sqT (st.mono.sqT h2.1)⟩) d1 d2) a⟩⟩
      · refine .inr (two (fun us H1 => ∃ a b xs ys, us = [.ref a, .ref b] ∧ SqT X.K H1 a xs ∧ SqL X.K H1 b ys ∧ R' (Mx.ItzM X.K a b) H1) (fun v w H1 H2 e1 o1 e2 o2 r1 r2 => ?_) 0 0)
        cases r1 with
        | @tup p1 vs _ h1 d1 => cases r2 with
          | @lst p2 ws _ h2 d2 =>
            rw [l.K]
            exact ⟨p1, p2, vs, ws, rfl, hide_mono.sqT h1.1, SqL.of (hide_some h2).2, kk _ _ H2 (e1.trans e2) o2 (walkd_pairs (Mx.walk_zipM p1 p2 vs ws) (fun hid' H' st => ⟨hide_mono.sqT (st.mono.sqT h1.1), SqL.of (st.fz p2 _ (hide_some h2).1 (hide_some h2).2 (fun _ z => by cases z))⟩) d1 d2) a⟩
      · exact a.elim
    · exact a.elim
  · exact a.elim
def rlF (env : Env) (p : Str × NameKind) : Str × NameKind := if (p.2 == NameKind.free && env.scope.kind == .function && env.kindOf p.1 == some .cell) = true then (p.1, NameKind.cell) else (p.1, p.2)
theorem relab_look {env : Env} {x : Str} : ∀ {names : List (Str × NameKind)} {k : NameKind}, names.lookup x = some k → (k = .cell ∨ k = .free) → ∃ k', (names.map (rlF env)).lookup x = some k' ∧ (k' = .cell ∨ k' = .free)
  | [], _, h, _ => by simp at h
  | (n, c) :: r, k, h, hk => by
    rw [List.lookup_cons] at h
    rw [List.map_cons]
    have two : rlF env (n, c) = (n, .cell) ∨ rlF env (n, c) = (n, c) := by
      unfold rlF
      split
      · exact .inl rfl
      · exact .inr rfl
    by_cases e : (x == n) = true
    · rw [e] at h
      obtain rfl : c = k := Option.some.inj h
      rcases two with q | q
      · exact ⟨.cell, by rw [q, List.lookup_cons, e], .inl rfl⟩
      · exact ⟨c, by rw [q, List.lookup_cons, e], hk⟩
    · have e : (x == n) = false := by simpa using e
      rw [e] at h
      obtain ⟨k', h1, h2⟩ := relab_look h hk
      refine ⟨k', ?_, h2⟩
      rcases two with q | q
      · rw [q, List.lookup_cons, e]
        exact h1
      · rw [q, List.lookup_cons, e]
        exact h1
theorem blk_in {N : List Str} {s : Shared} {H : Hp} {sc scope : Scope} {cl : List (Str × Addr)} {c : Addr} {fp : List Addr} {own : List (Str × Nat)} (h : BlkOk N sc scope own) : BlkOk N (X.blk s H sc (compEnvC sc cl c X.env) fp).env.scope scope own := by
  obtain ⟨h1, h2, h3, h4, h5⟩ := h
  refine ⟨h1, h2, h3, fun y hy e => ?_, h5⟩
  rcases h4 y hy e with k | k
  · obtain ⟨k', q1, q2⟩ := relab_look (env := X.env) k (.inl rfl)
    rcases q2 with rfl | rfl
    · exact .inl q1
    · exact .inr q1
  · obtain ⟨k', q1, q2⟩ := relab_look (env := X.env) k (.inr rfl)
    rcases q2 with rfl | rfl
    · exact .inl q1
    · exact .inr q1
end
end Fl

set_option Elab.async false
set_option linter.all false
set_option maxRecDepth 100000
set_option maxHeartbeats 4000000
namespace Fl
open PySem PySem.Spec PyProof.Rows L2 Dl R
/-! ### the defs as functions of data -/
def k_DEEDS : List PyData := [.str "give", .str "hear"]
def k_LAST_RULE : List PyData := [.str "bar", .str "both", .str "#"]
/-- a number below n -/
def m__law_roll (xs : List Dv) : R Dv := match xs with
  | [.cup, .d (.int n)] => chk (decide (0 < n ∧ n < 1000000)) (.ch (fun d => ∃ i : Int, d = .int i ∧ 0 ≤ i ∧ i < n) fun d => ok (.d d))
  | _ => no
def m_is_topic (xs : List Dv) : R Dv := match xs with
  | [.d (.str t)] => chk (decide (t.length ≤ 1000)) (ok (.d (.bool (Bk.topicB t))))
  | _ => no
def m_is_wish (xs : List Dv) : R Dv := match xs with
  | [.d (.str t)] => chk (decide (t.length ≤ 1000)) (ok (.d (.bool (Bk.wishB t))))
  | _ => no
def m_is_met (xs : List Dv) : R Dv := match xs with
  | [.d (.str t), .d (.str u)] => chk (decide (t.length ≤ 1000) && decide (u.length ≤ 1000)) (ok (.d (.bool (Bk.metB t u))))
  | _ => no
def m__law_met : List Dv → R Dv := m_is_met
def optD : Option Str → PyData
  | none => .none
  | some t => .str t
def m_common_of (xs : List Dv) : R Dv := match xs with
  | [.d (.str u), .d (.str o)] => chk (Bk.wishB u && Bk.wishB o) (ok (.d (optD (Bk.comOf u o))))
  | _ => no
/-- a topic of which A holds, or none if there is none -/
def topR (A : Str → Prop) : R Dv := .ch (fun d => (∃ t, d = .str t ∧ Bk.topicB t = true ∧ A t) ∨ (d = .none ∧ ∀ t, Bk.topicB t = true → ¬ A t)) fun d => ok (.d d)
def m_topic_beyond (xs : List Dv) : R Dv := match xs with
  | [.d (.str u), .d (.list l)] => match strsD l with
    | some os => chk (Bk.wishB u && (os.all Bk.wishB && decide (os.length ≤ 100))) (topR fun t => Bk.metB t u = true ∧ ∀ o ∈ os, Bk.metB t o = false)
    | none => no
  | _ => no
def m_check_topic (xs : List Dv) : R Dv := match xs with
  | [.d (.str t)] => chk (Bk.topicB t) (ok (.d .none))
  | _ => no
def m_check_deed (xs : List Dv) : R Dv := match xs with
  | [.d (.str t)] => chk (decide (t ∈ Bk.deeds2)) (ok (.d .none))
  | _ => no
def m__law_wish (xs : List Dv) : R Dv := match xs with
  | [.cup] => .ch (fun d => ∃ z : Str, d = .str z ∧ Bk.wishB z = true ∧ Bk.AbW z) fun d => ok (.d d)
  | _ => no
def m_is_rule : List Dv → R Dv := body 1 0 (cRet (cAnd (cFun isiC (cCons (cVar 0) (cCons (cTy "tuple") cNil))) (cAnd (cOp eqC (cFun lenC (cCons (cVar 0) cNil)) (cC (.int 3))) (cAnd (cOp isinC (cOp ixC (cVar 0) (cC (.int 0))) (cTup (cCons (cC (.str "let")) (cCons (cC (.str "bar")) cNil)))) (cAnd (cOp isinC (cOp ixC (cVar 0) (cC (.int 1))) (cTup (cCons (cC (.str "give")) (cCons (cC (.str "hear")) (cCons (cC (.str "both")) cNil))))) (cCall m_is_wish (cCons (cOp ixC (cVar 0) (cC (.int 2))) cNil)))))))
def tb_is_row : Tb := [("is_rule", m_is_rule)]
def m_is_row : List Dv → R Dv := body 4 1 (cRet (cAnd (cFun isiC (cCons (cVar 0) (cCons (cTy "tuple") cNil))) (cAnd (cChain leC leC (cVar 1) (cFun lenC (cCons (cVar 0) cNil)) (cVar 2)) (cFun allC (cCons (cLc (cIt (cVar 0)) (tgN 4) cYes (cCallL 3 tb_is_row (cCons (cVar 4) cNil)) [4]) cNil)))))
def m_are_rights : List Dv → R Dv := body 1 0 (cRet (cCall m_is_row (cCons (cVar 0) (cCons (cC (.int 0)) (cCons (cC (.int 12)) (cCons (cFn "is_rule") cNil))))))
def m_check_rights : List Dv → R Dv := body 1 0 (cIf (cNot (cB (cCall m_are_rights (cCons (cVar 0) cNil)))) (cRaise "InvalidRights") cNext)
def m_rows_for : List Dv → R Dv := body 2 3 (cRet (cLc (cIt (cOp addC (cVar 0) (cTup (cCons (cC (.tuple k_LAST_RULE)) cNil)))) (tgT 3 (tgsCons (tgN 2) (tgsCons (tgN 3) (tgsCons (tgN 4) tgsNil)))) (cB (cOp isinC (cVar 3) (cTup (cCons (cVar 1) (cCons (cC (.str "both")) cNil))))) (cTup (cCons (cVar 2) (cCons (cVar 4) cNil))) [2, 3, 4]))
def m_is_let : List Dv → R Dv := body 3 2 (cSeq (cDrop (cCall m_check_rights (cCons (cVar 0) cNil)))
    (cSeq (cDrop (cCall m_check_deed (cCons (cVar 1) cNil)))
    (cSeq (cDrop (cCall m_check_topic (cCons (cVar 2) cNil)))
    (cRet (cOp eqC (cOp ixC (cLc (cIt (cCall m_rows_for (cCons (cVar 0) (cCons (cVar 1) cNil)))) (tgT 2 (tgsCons (tgN 3) (tgsCons (tgN 4) tgsNil))) (cB (cCallN m_is_met (cCons (cVar 2) (cCons (cVar 4) cNil)))) (cVar 3) [3, 4]) (cC (.int 0))) (cC (.str "let")))))))
def m_topic_told : List Dv → R Dv := body 4 7 (cSeq (cFor (cRng2 (cVar 1) (cFun lenC (cCons (cVar 0) cNil))) (tgN 4) (cSeq (cAsg (cOp ixC (cVar 0) (cVar 4)) (tgT 2 (tgsCons (tgN 5) (tgsCons (tgN 6) tgsNil))))
    (cSeq (cSet 7 (cIfE (cB (cOp eqC (cVar 5) (cVar 2))) (cCall m_common_of (cCons (cVar 3) (cCons (cVar 6) cNil))) (cC .none)))
    (cIf (cB (cOp isNotC (cVar 7) (cC .none))) (cSeq (cSet 8 (cCall m_topic_beyond (cCons (cVar 7) (cCons (cLc (cIt (cSl (cVar 0) cNoPart (cPart (cVar 4)))) (tgT 2 (tgsCons (tgN 9) (tgsCons (tgN 10) tgsNil))) cYes (cVar 10) [9, 10]) cNil))))
    (cIf (cB (cOp isNotC (cVar 8) (cC .none))) (cRet (cVar 8)) cNext)) cNext))))
    (cRet (cC .none)))
def m_topic_let_by_one : List Dv → R Dv := body 3 13 (cSeq (cPar 3 4 (cCons (cCall m_rows_for (cCons (cVar 0) (cCons (cVar 2) cNil))) (cCons (cCall m_rows_for (cCons (cVar 1) (cCons (cVar 2) cNil))) cNil)))
    (cSeq (cFor (cEnum (cVar 3)) (tgT 2 (tgsCons (tgN 5) (tgsCons (tgT 2 (tgsCons (tgN 6) (tgsCons (tgN 7) tgsNil))) tgsNil))) (cFor (cEnum (cVar 4)) (tgT 2 (tgsCons (tgN 8) (tgsCons (tgT 2 (tgsCons (tgN 9) (tgsCons (tgN 10) tgsNil))) tgsNil))) (cSeq (cSet 11 (cIfE (cB (cOp eqC (cTup (cCons (cVar 6) (cCons (cVar 9) cNil))) (cTup (cCons (cC (.str "let")) (cCons (cC (.str "bar")) cNil))))) (cCall m_common_of (cCons (cVar 7) (cCons (cVar 10) cNil))) (cC .none)))
    (cIf (cB (cOp isNotC (cVar 11) (cC .none))) (cSeq (cSet 12 (cLc (cIt (cOp addC (cSl (cVar 3) cNoPart (cPart (cVar 5))) (cSl (cVar 4) cNoPart (cPart (cVar 8))))) (tgT 2 (tgsCons (tgN 13) (tgsCons (tgN 14) tgsNil))) cYes (cVar 14) [13, 14]))
    (cSeq (cSet 15 (cCall m_topic_beyond (cCons (cVar 11) (cCons (cVar 12) cNil))))
    (cIf (cB (cOp isNotC (cVar 15) (cC .none))) (cRet (cVar 15)) cNext))) cNext))))
    (cRet (cC .none))))
def m_topic_apart : List Dv → R Dv := body 3 1 (cSeq (cSet 3 (cCall m_topic_let_by_one (cCons (cVar 0) (cCons (cVar 1) (cCons (cVar 2) cNil)))))
    (cRet (cIfE (cB (cOp isC (cVar 3) (cC .none))) (cCall m_topic_let_by_one (cCons (cVar 1) (cCons (cVar 0) (cCons (cVar 2) cNil)))) (cVar 3))))
def m_is_idle_for : List Dv → R Dv := body 3 5 (cSeq (cAsg (cOp ixC (cVar 0) (cVar 1)) (tgT 3 (tgsCons (tgN 3) (tgsCons (tgN 4) (tgsCons (tgN 5) tgsNil)))))
    (cSeq (cIf (cB (cOp notInC (cVar 4) (cTup (cCons (cVar 2) (cCons (cC (.str "both")) cNil))))) (cRet (cC (.bool true))) cNext)
    (cSeq (cSet 6 (cOp subC (cFun lenC (cCons (cCall m_rows_for (cCons (cSl (cVar 0) cNoPart (cPart (cVar 1))) (cCons (cVar 2) cNil))) cNil)) (cC (.int 1))))
    (cSeq (cSet 7 (cCall m_rows_for (cCons (cOp addC (cSl (cVar 0) cNoPart (cPart (cVar 1))) (cSl (cVar 0) (cPart (cOp addC (cVar 1) (cC (.int 1)))) cNoPart)) (cCons (cVar 2) cNil))))
    (cRet (cOp isC (cCall m_topic_told (cCons (cVar 7) (cCons (cVar 6) (cCons (cIfE (cB (cOp eqC (cVar 3) (cC (.str "let")))) (cC (.str "bar")) (cC (.str "let"))) (cCons (cVar 5) cNil))))) (cC .none)))))))
def less (rs : List Bk.Rule3) (i : Nat) : List Bk.Rule3 := rs.take i ++ rs.drop (i + 1)
/-- leaving a rule out changes nothing for a deed -/
def IdleP (rs : List Bk.Rule3) (i : Nat) (deed : Str) : Prop := ∀ t, Bk.topicB t = true → Bk.lawLets (less rs i) deed t = Bk.lawLets rs deed t
def IdleA (xs : List Dv) (b : Prop → Prop) : Prop := ∃ (rs : List Bk.Rule3) (i : Nat) (r : Bk.Rule3) (deed : Str), xs = [.d (Bk.rightsOf rs), .d (.int i), .d (.str deed)] ∧ Bk.Good rs ∧ rs[i]? = some r ∧ b (IdleP rs i deed)
open Classical in
noncomputable def n_is_idle_for (xs : List Dv) : R Dv := if IdleA xs (fun p => p) then ok (.d (.bool true)) else if IdleA xs (fun p => ¬ p) then ok (.d (.bool false)) else no
noncomputable def m_idle_rules : List Dv → R Dv := body 1 2 (cSeq (cDrop (cCall m_check_rights (cCons (cVar 0) cNil)))
    (cRet (cLc (cRng1 (cFun lenC (cCons (cVar 0) cNil))) (tgN 1) (cB (cFun allC (cCons (cLc (cTop k_DEEDS) (tgN 2) cYes (cCallN n_is_idle_for (cCons (cVar 0) (cCons (cVar 1) (cCons (cVar 2) cNil)))) [2]) cNil))) (cVar 1) [1])))
def m_topic_at_odds : List Dv → R Dv := body 3 0 (cSeq (cDrop (cCall m_check_rights (cCons (cVar 0) cNil)))
    (cSeq (cDrop (cCall m_check_rights (cCons (cVar 1) cNil)))
    (cSeq (cDrop (cCall m_check_deed (cCons (cVar 2) cNil)))
    (cRet (cCall m_topic_apart (cCons (cVar 0) (cCons (cVar 1) (cCons (cVar 2) cNil))))))))
def m__law_some : List Dv → R Dv := body 2 0 (cRet (cOp ixC (cVar 1) (cCall m__law_roll (cCons (cVar 0) (cCons (cFun lenC (cCons (cVar 1) cNil)) cNil)))))
def m__law_rights : List Dv → R Dv := body 2 4 (cSeq (cSet 2 (cTup cNil))
    (cSeq (cFor (cRng1 (cCall m__law_roll (cCons (cVar 0) (cCons (cOp addC (cVar 1) (cC (.int 1))) cNil)))) (tgN 3) (cSeq (cSet 4 (cIfE (cOrT (cB (cOp eqC (cVar 2) (cTup cNil))) (cB (cOp gtC (cCall m__law_roll (cCons (cVar 0) (cCons (cC (.int 3)) cNil))) (cC (.int 0))))) (cCall m__law_wish (cCons (cVar 0) cNil)) (cOp ixC (cCall m__law_some (cCons (cVar 0) (cCons (cVar 2) cNil))) (cC (.int 2)))))
    (cSeq (cSet 5 (cTup (cCons (cCall m__law_some (cCons (cVar 0) (cCons (cLst (cCons (cC (.str "let")) (cCons (cC (.str "let")) (cCons (cC (.str "bar")) cNil)))) cNil))) (cCons (cCall m__law_some (cCons (cVar 0) (cCons (cLst (cCons (cC (.str "give")) (cCons (cC (.str "hear")) (cCons (cC (.str "both")) (cCons (cC (.str "both")) cNil))))) cNil))) (cCons (cVar 4) cNil)))))
    (cSet 2 (cOp addC (cVar 2) (cTup (cCons (cVar 5) cNil)))))))
    (cRet (cVar 2))))
def m__law_lets : List Dv → R Dv := body 3 3 (cSeq (cFor (cIt (cVar 0)) (tgT 3 (tgsCons (tgN 3) (tgsCons (tgN 4) (tgsCons (tgN 5) tgsNil)))) (cIf (cAndT (cB (cOp isinC (cVar 4) (cTup (cCons (cVar 1) (cCons (cC (.str "both")) cNil))))) (cB (cCall m__law_met (cCons (cVar 2) (cCons (cVar 5) cNil))))) (cRet (cOp eqC (cVar 3) (cC (.str "let")))) cNext))
    (cRet (cC (.bool false))))
def m__law_words : List Dv → R Dv := body 3 1 (cRet (cLc (cIt (cVar 2)) (tgN 3) cYes (cCallN m__law_lets (cCons (cVar 0) (cCons (cVar 1) (cCons (cVar 3) cNil)))) [3]))
def m__law_idle : List Dv → R Dv := body 2 5 (cSeq (cParL 2 3 (cLc (cIt (cTup (cCons (cC (.str "give")) (cCons (cC (.str "hear")) cNil)))) (tgN 4) cYes (cCallN m__law_words (cCons (cVar 0) (cCons (cVar 4) (cCons (cVar 1) cNil)))) [4]) cNil)
    (cSeq (cFor (cRng1 (cFun lenC (cCons (cVar 0) cNil))) (tgN 5) (cSeq (cSet 6 (cOp addC (cSl (cVar 0) cNoPart (cPart (cVar 5))) (cSl (cVar 0) (cPart (cOp addC (cVar 5) (cC (.int 1)))) cNoPart)))
    (cIf (cB (cOp eqC (cLc (cIt (cTup (cCons (cC (.str "give")) (cCons (cC (.str "hear")) cNil)))) (tgN 4) cYes (cCallN m__law_words (cCons (cVar 6) (cCons (cVar 4) (cCons (cVar 1) cNil)))) [4]) (cVar 2))) (cApp 3 (cVar 5)) cNext)))
    (cRet (cVar 3))))
def m__law_near : List Dv → R Dv := body 2 3 (cSeq (cSet 2 (cCall m__law_roll (cCons (cVar 0) (cCons (cOp addC (cFun lenC (cCons (cVar 1) cNil)) (cC (.int 1))) cNil))))
    (cSeq (cSet 3 (cTup (cCons (cCall m__law_some (cCons (cVar 0) (cCons (cLst (cCons (cC (.str "let")) (cCons (cC (.str "bar")) cNil))) cNil))) (cCons (cCall m__law_some (cCons (cVar 0) (cCons (cLst (cCons (cC (.str "give")) (cCons (cC (.str "hear")) (cCons (cC (.str "both")) cNil)))) cNil))) (cCons (cCall m__law_wish (cCons (cVar 0) cNil)) cNil)))))
    (cSeq (cSet 4 (cCall m__law_roll (cCons (cVar 0) (cCons (cC (.int 4)) cNil))))
    (cSeq (cIf (cOrT (cB (cOp eqC (cVar 2) (cFun lenC (cCons (cVar 1) cNil)))) (cB (cOp eqC (cVar 4) (cC (.int 0))))) (cRet (cOp addC (cOp addC (cSl (cVar 1) cNoPart (cPart (cVar 2))) (cTup (cCons (cVar 3) cNil))) (cSl (cVar 1) (cPart (cVar 2)) cNoPart))) cNext)
    (cSeq (cIf (cB (cOp eqC (cVar 4) (cC (.int 1)))) (cRet (cOp addC (cSl (cVar 1) cNoPart (cPart (cVar 2))) (cSl (cVar 1) (cPart (cOp addC (cVar 2) (cC (.int 1)))) cNoPart))) cNext)
    (cSeq (cIf (cB (cOp eqC (cVar 4) (cC (.int 2)))) (cRet (cOp addC (cOp addC (cSl (cVar 1) cNoPart (cPart (cVar 2))) (cTup (cCons (cOp addC (cSl (cOp ixC (cVar 1) (cVar 2)) cNoPart (cPart (cC (.int 2)))) (cTup (cCons (cOp ixC (cVar 3) (cC (.int 2))) cNil))) cNil))) (cSl (cVar 1) (cPart (cOp addC (cVar 2) (cC (.int 1)))) cNoPart))) cNext)
    (cRet (cOp addC (cOp addC (cSl (cVar 1) cNoPart (cPart (cVar 2))) (cSl (cVar 1) (cPart (cOp addC (cVar 2) (cC (.int 1)))) cNoPart)) (cTup (cCons (cOp ixC (cVar 1) (cVar 2)) cNil))))))))))
def m__law_odds_right : List Dv → R Dv := body 4 1 (cSeq (cSet 4 (cCall m_topic_at_odds (cCons (cVar 0) (cCons (cVar 1) (cCons (cVar 2) cNil)))))
    (cSeq (cIf (cB (cOp eqC (cCall m__law_words (cCons (cVar 0) (cCons (cVar 2) (cCons (cVar 3) cNil)))) (cCall m__law_words (cCons (cVar 1) (cCons (cVar 2) (cCons (cVar 3) cNil)))))) (cRet (cOp isC (cVar 4) (cC .none))) cNext)
    (cSeq (cIf (cOrT (cB (cOp isNotC (cCall m_is_topic (cCons (cVar 4) cNil)) (cC (.bool true)))) (cB (cOp eqC (cCall m_is_let (cCons (cVar 0) (cCons (cVar 2) (cCons (cVar 4) cNil)))) (cCall m_is_let (cCons (cVar 1) (cCons (cVar 2) (cCons (cVar 4) cNil))))))) (cRet (cC (.bool false))) cNext)
    (cRet (cOp neC (cCall m__law_lets (cCons (cVar 0) (cCons (cVar 2) (cCons (cVar 4) cNil)))) (cCall m__law_lets (cCons (cVar 1) (cCons (cVar 2) (cCons (cVar 4) cNil)))))))))

end Fl

set_option Elab.async false
set_option linter.all false
set_option maxRecDepth 100000
set_option maxHeartbeats 4000000
namespace Dl
open PySem PySem.Spec PyProof.Rows L2
/-! ### promises of the heap as promises of data -/
theorem hp_gr {C : DC} {hid : List Addr} {H H' : Hp} (hp : HpOk C hid H) (g : Bk.Gr C.T H H') : Ext C.c H H' ∧ HpOk C hid H' := by
  have e : Ext C.c H H' := fun b o _ e n => g.ext b o e n
  exact ⟨e, g.tabs, fun a ea => ⟨(hp.cup a ea).1, by
    obtain ⟨x, s, h, k⟩ := (hp.cup a ea).2
    exact ⟨x, s, g.lst h, k⟩⟩, fun a ha => by
    obtain ⟨xs, h⟩ := hp.some a ha
    exact ⟨xs, g.lst h⟩, hp.sub, hp.ext.trans e⟩
theorem hp_grc {C : DC} {hid : List Addr} {H H' : Hp} {a : Addr} (hp : HpOk C hid H) (ca : C.c = some a) (g : Bk.GrC C.T a H H') : Ext C.c H H' ∧ HpOk C hid H' := by
  have e : Ext C.c H H' := fun b o n e k => g.ext b o (fun z => n (by rw [ca, z])) e k
  refine ⟨e, g.tabs, fun b eb => ⟨(hp.cup b eb).1, ?_⟩, fun b hb => ?_, hp.sub, hp.ext.trans e⟩
  · rw [ca] at eb
    cases eb
    exact g.cup
  · by_cases z : b = a
    · subst z
      obtain ⟨x, s, h, _⟩ := g.cup
      exact ⟨_, h⟩
    · obtain ⟨xs, h⟩ := hp.some b hb
      exact ⟨xs, g.lst z h⟩
/-- where a call stands -/
structure At0 (C : DC) (hid : List Addr) (H : Hp) (q : Dv → Prop) (er : Str → Prop) (Q : VK) (E : XK) : Prop where
  hp : HpOk C hid H
  ok : ∀ v x H', Ext C.c H H' → HpOk C hid H' → VR C hid H' v x → notOwn x → q x → Q v H'
  er : ∀ cl H', Ext C.c H H' → HpOk C hid H' → er cl → E (.ref (He.ga C.K cl)) none H'
section
variable {C : DC} {hid : List Addr} {H : Hp} {q : Dv → Prop} {er : Str → Prop} {Q : VK} {E : XK}
theorem At0.tabs (a : At0 C hid H q er Q E) : LamX.Tabs C.T H := a.hp.tabs
theorem At0.gr (a : At0 C hid H q er Q E) {H' : Hp} (g : Bk.Gr C.T H H') {v : V} {x : PyData} (r : Dd C.K (hide hid H') v x) (h : q (.d x)) : Q v H' :=
  a.ok v (.d x) H' (hp_gr a.hp g).1 (hp_gr a.hp g).2 r trivial h
theorem At0.grc (a : At0 C hid H q er Q E) {p : Addr} (ca : C.c = some p) {H' : Hp} (g : Bk.GrC C.T p H H') {v : V} {x : PyData} (r : Dd C.K (hide hid H') v x) (h : q (.d x)) : Q v H' :=
  a.ok v (.d x) H' (hp_grc a.hp ca g).1 (hp_grc a.hp ca g).2 r trivial h
theorem At0.cup (a : At0 C hid H q er Q E) {v : V} (r : VR C hid H v .cup) : ∃ p g s, v = .ref p ∧ C.c = some p ∧ p ∈ hid ∧ H p = some (.lst [.int g, .int s]) ∧ Bk.CupOk g s := by
  obtain ⟨p, cp, rfl⟩ := r
  obtain ⟨h1, g, s, h2, h3⟩ := a.hp.cup p cp
  exact ⟨p, g, s, rfl, cp, h1, h2, h3⟩
end
section
variable {P : Program} {w : World} {K : PySem.W.Frag} {mg : Str → Option Value} {base : Heap} {T : Tbs}
theorem DHas.of {x : Str} {ps : List Str} {sp : Sp} {k : Nat} {g : DF} (h : Has P w K mg base (L2.CX P w) k x ps sp)
    (hk : ∀ (C : DC) (hid : List Addr) (H : Hp) (vs : List V) (xs : List Dv) (q : Dv → Prop) (er : Str → Prop) (Q : VK) (E : XK), C.K = K → C.T = T → At0 C hid H q er Q E → VRs C hid H vs xs → g xs q er → sp vs H Q E) : DHas P w K mg base T k x ps g :=
  Has.imp h fun vs H Q E ⟨c, hid, xs, q, er, h1, h2, h3, h4, h5, h6⟩ => hk ⟨K, T, c, hid, H⟩ hid H vs xs q er Q E rfl rfl ⟨h1, h5, h6⟩ h2 h4
theorem VRs.three {C : DC} {hid : List Addr} {H : Hp} {vs : List V} {x y z : Dv} (r : VRs C hid H vs [x, y, z]) : ∃ v w u, vs = [v, w, u] ∧ VR C hid H v x ∧ VR C hid H w y ∧ VR C hid H u z := by
  cases r with
  | cons a b =>
    obtain ⟨w, u, rfl, b, c⟩ := b.two
    exact ⟨_, _, _, rfl, a, b, c⟩
theorem of_str {C : DC} {hid : List Addr} {H : Hp} {v : V} {z : Str} (r : VR C hid H v (.d (.str z))) : v = .str z ∧ PyData.strOk z = true := by cases r with | str _ k => exact ⟨rfl, k⟩

end
end Dl
namespace Fl
open PySem PySem.Spec PyProof.Rows L2 Dl R
section
variable {P : Program} {w : World} {K : PySem.W.Frag} {mg : Str → Option Value} {base : Heap} {T : Tbs}
theorem b_is_topic {k : Nat} (h : Dl.Has P w K mg base CX0 k "is_topic" ["value"] (Bk.spB K T Bk.topicV)) : DHas P w K mg base T k "is_topic" ["value"] (gR m_is_topic) :=
  DHas.of h.cx fun C hid H vs xs q er Q E eK eT a r g => by
    subst eK eT
    unfold gR m_is_topic at g
    split at g
    · obtain ⟨v, rfl, r1⟩ := r.one
      obtain ⟨rfl, k⟩ := of_str r1
      obtain ⟨h1, h2⟩ := chk_wp g
      exact ⟨_, rfl, .inl ⟨_, rfl, of_decide_eq_true h1⟩, a.tabs, fun H' g' => a.gr g' (Dd.bl _) h2⟩
    · exact g.elim
theorem b_is_wish {k : Nat} (h : Dl.Has P w K mg base CX0 k "is_wish" ["value"] (Bk.spB K T Bk.wishV)) : DHas P w K mg base T k "is_wish" ["value"] (gR m_is_wish) :=
  DHas.of h.cx fun C hid H vs xs q er Q E eK eT a r g => by
    subst eK eT
    unfold gR m_is_wish at g
    split at g
    · obtain ⟨v, rfl, r1⟩ := r.one
      obtain ⟨rfl, k⟩ := of_str r1
      obtain ⟨h1, h2⟩ := chk_wp g
      exact ⟨_, rfl, .inl ⟨_, rfl, of_decide_eq_true h1⟩, a.tabs, fun H' g' => a.gr g' (Dd.bl _) h2⟩
    · exact g.elim
theorem two_dec {a b : Nat} (h : (decide (a ≤ 1000) && decide (b ≤ 1000)) = true) : a ≤ 1000 ∧ b ≤ 1000 := by
  rw [Bool.and_eq_true] at h
  exact ⟨of_decide_eq_true h.1, of_decide_eq_true h.2⟩
theorem b_is_met {k : Nat} (h : Dl.Has P w K mg base CX0 k "is_met" ["topic", "wish"] (Bk.spMet K T)) : DHas P w K mg base T k "is_met" ["topic", "wish"] (gR m_is_met) :=
  DHas.of h.cx fun C hid H vs xs q er Q E eK eT a r g => by
    subst eK eT
    unfold gR m_is_met at g
    split at g
    · obtain ⟨v, u, rfl, r1, r2⟩ := r.two
      obtain ⟨rfl, k1⟩ := of_str r1
      obtain ⟨rfl, k2⟩ := of_str r2
      obtain ⟨h1, h2⟩ := chk_wp g
      exact ⟨_, _, rfl, (two_dec h1).1, (two_dec h1).2, a.tabs, fun H' g' => a.gr g' (Dd.bl _) h2⟩
    · exact g.elim
theorem b_lmet {k : Nat} (h : Dl.Has P w K mg base CX0 k "_law_met" ["_law_topic", "_law_wish_here"] (Bk.spLawMet T)) : DHas P w K mg base T k "_law_met" ["_law_topic", "_law_wish_here"] (gR m__law_met) :=
  DHas.of h.cx fun C hid H vs xs q er Q E eK eT a r g => by
    subst eK eT
    unfold gR m__law_met m_is_met at g
    split at g
    · obtain ⟨v, u, rfl, r1, r2⟩ := r.two
      obtain ⟨rfl, k1⟩ := of_str r1
      obtain ⟨rfl, k2⟩ := of_str r2
      obtain ⟨h1, h2⟩ := chk_wp g
      exact ⟨_, _, rfl, (two_dec h1).1, (two_dec h1).2, k1, k2, a.tabs, fun H' g' => a.gr g' (Dd.bl _) h2⟩
    · exact g.elim
theorem b_common_of {k : Nat} (h : Dl.Has P w K mg base CX0 k "common_of" ["wish", "other"] (Bk.spCof T)) : DHas P w K mg base T k "common_of" ["wish", "other"] (gR m_common_of) :=
  DHas.of h.cx fun C hid H vs xs q er Q E eK eT a r g => by
    subst eK eT
    unfold gR m_common_of at g
    split at g
    · rename_i x y
      obtain ⟨v, u, rfl, r1, r2⟩ := r.two
      obtain ⟨rfl, k1⟩ := of_str r1
      obtain ⟨rfl, k2⟩ := of_str r2
      obtain ⟨h1, h2⟩ := chk_wp g
      rw [Bool.and_eq_true] at h1
      refine ⟨_, _, rfl, h1.1, h1.2, a.tabs, fun H' g' => ?_⟩
      have ci := Bk.comOf_is h1.1 h1.2
      cases e : Bk.comOf x y with
      | none => rw [e] at h2; exact a.gr g' Dd.non h2
      | some z => rw [e] at h2 ci; exact a.gr g' (Dd.str z (Bk.wish_ok ci.1)) h2
    · exact g.elim
theorem b_topic_beyond {k : Nat} (h : Dl.Has P w K mg base CX0 k "topic_beyond" ["wish", "others"] (Bk.spBeyond T)) : DHas P w K mg base T k "topic_beyond" ["wish", "others"] (gR m_topic_beyond) :=
  DHas.of h.cx fun C hid H vs xs q er Q E eK eT a r g => by
    subst eK eT
    unfold gR m_topic_beyond at g
    split at g
    · rename_i u l
      split at g
      · rename_i os eo
        obtain ⟨v, u, rfl, r1, r2⟩ := r.two
        obtain ⟨rfl, k1⟩ := of_str r1
        obtain ⟨p, ws, rfl, hp, hd⟩ := r2.lst rfl
        rw [strsD_eq eo] at hd
        rw [dd_strs hd] at hp
        obtain ⟨h1, h2⟩ := chk_wp g
        rw [Bool.and_eq_true, Bool.and_eq_true] at h1
        refine ⟨_, p, os, rfl, h1.1, hp, fun o ho => List.all_eq_true.mp h1.2.1 o ho, of_decide_eq_true h1.2.2, a.tabs, fun H' t g' ht hm hn => ?_, fun H' g' hn => ?_⟩
        · exact a.gr g' (Dd.str t (Bk.topic_ok ht)) (h2 (.str t) (.inl ⟨t, rfl, ht, hm, hn⟩))
        · exact a.gr g' Dd.non (h2 .none (.inr ⟨rfl, fun t ht z => by
            obtain ⟨o, ho, hm⟩ := hn t ht z.1
            rw [z.2 o ho] at hm
            cases hm⟩))
      · exact g.elim
    · exact g.elim
theorem b_check_topic {k : Nat} (h : Dl.Has P w K mg base (L2.CX P w) k "check_topic" ["topic"] (Bk.spCk K T Bk.topicV (He.ga K "InvalidTopic"))) : DHas P w K mg base T k "check_topic" ["topic"] (gR m_check_topic) :=
  DHas.of h fun C hid H vs xs q er Q E eK eT a r g => by
    subst eK eT
    unfold gR m_check_topic at g
    split at g
    · obtain ⟨v, rfl, r1⟩ := r.one
      obtain ⟨rfl, k⟩ := of_str r1
      obtain ⟨h1, h2⟩ := chk_wp g
      exact ⟨_, rfl, .inl ⟨_, rfl, Nat.le_trans (Bk.topic_len h1) (by decide)⟩, a.tabs, fun _ H' g' => a.gr g' Dd.non h2, fun z => by
        have z : Bk.topicB _ = false := z
        rw [h1] at z
        cases z⟩
    · exact g.elim
theorem b_check_deed {k : Nat} (h : Dl.Has P w K mg base (L2.CX P w) k "check_deed" ["deed"] (Bk.spCkDeed T)) : DHas P w K mg base T k "check_deed" ["deed"] (gR m_check_deed) :=
  DHas.of h fun C hid H vs xs q er Q E eK eT a r g => by
    subst eK eT
    unfold gR m_check_deed at g
    split at g
    · obtain ⟨v, rfl, r1⟩ := r.one
      obtain ⟨rfl, k⟩ := of_str r1
      obtain ⟨h1, h2⟩ := chk_wp g
      exact ⟨_, rfl, of_decide_eq_true h1, a.ok _ (.d .none) H .refl a.hp Dd.non trivial h2⟩
    · exact g.elim
theorem b_lwish {k : Nat} (h : Dl.Has P w K mg base CX0 k "_law_wish" ["_law_cup_here"] (Bk.spLWish T)) : DHas P w K mg base T k "_law_wish" ["_law_cup_here"] (gR m__law_wish) :=
  DHas.of h.cx fun C hid H vs xs q er Q E eK eT a r g => by
    subst eK eT
    unfold gR m__law_wish at g
    split at g
    · obtain ⟨v, rfl, r1⟩ := r.one
      obtain ⟨p, x, s, rfl, cp, _, h2, h3⟩ := a.cup r1
      exact ⟨p, rfl, ⟨x, s, h2, h3⟩, a.tabs, fun z H' wz ab gc => a.grc cp gc (Dd.str z (Bk.wish_ok wz)) (g (.str z) ⟨z, rfl, wz, ab⟩)⟩
    · exact g.elim
theorem b_roll {k : Nat} (h : Dl.Has P w K mg base CX0 k "_law_roll" ["_law_cup_here", "_law_many"] Bk.spRoll) : DHas P w K mg base T k "_law_roll" ["_law_cup_here", "_law_many"] (gR m__law_roll) :=
  DHas.of h.cx fun C hid H vs xs q er Q E eK eT a r g => by
    subst eK eT
    unfold gR m__law_roll at g
    split at g
    · obtain ⟨v, u, rfl, r1, r2⟩ := r.two
      obtain ⟨p, x, s, rfl, cp, hm, h4, h5⟩ := a.cup r1
      cases r2
      obtain ⟨h1, h2⟩ := chk_wp g
      have h1 := of_decide_eq_true h1
      refine ⟨p, x, s, _, rfl, h4, h5, h1.1, h1.2, fun i g' s' i0 i1 ck => ?_⟩
      exact a.grc cp (p := p) ⟨fun b o n e _ => by rw [upd_ne n]; exact e, tabs_upd a.tabs h4, ⟨g', s', upd_same, ck⟩⟩ (Dd.int i) (h2 (.int i) ⟨i, rfl, i0, i1⟩)
    · exact g.elim
end
end Fl

set_option Elab.async false
set_option linter.all false
set_option maxRecDepth 100000
set_option maxHeartbeats 4000000
namespace Fl
open PySem PySem.Spec PyProof.Rows L2 Dl R
abbrev top := Bk.top
section
variable {P : Program} {w : World} {K : PySem.W.Frag} {mg : Str → Option Value} {base : Heap} {T : Tbs}





abbrev s_is_rule : Stmt := top 26
abbrev N_is_rule : List Str := ["value"]
theorem sc_is_rule : FnScope N_is_rule ["value"] (defScope s_is_rule) := ⟨rfl, rfl, rfl, by decide +kernel, rfl, by decide +kernel, by decide +kernel⟩
theorem d_is_rule (F : At K mg "is_rule" s_is_rule) (z_isinstance : mg "isinstance" = none) (z_len : mg "len" = none) (z_tuple : mg "tuple" = none) (h_is_wish : DHas P w K mg base T 4 "is_wish" ["value"] (gR m_is_wish)) : DHas P w K mg base T 5 "is_rule" ["value"] (gR m_is_rule) :=
  okF (s := (cRet (cAnd (cFun isiC (cCons (cVar 0) (cCons (cTy "tuple") cNil))) (cAnd (cOp eqC (cFun lenC (cCons (cVar 0) cNil)) (cC (.int 3))) (cAnd (cOp isinC (cOp ixC (cVar 0) (cC (.int 0))) (cTup (cCons (cC (.str "let")) (cCons (cC (.str "bar")) cNil)))) (cAnd (cOp isinC (cOp ixC (cVar 0) (cC (.int 1))) (cTup (cCons (cC (.str "give")) (cCons (cC (.str "hear")) (cCons (cC (.str "both")) cNil))))) (cCall m_is_wish (cCons (cOp ixC (cVar 0) (cC (.int 2))) cNil)))))))) F sc_is_rule (fun _ _ _ _ _ _ us hl => match us, hl with | [_], _ => rfl) fun A outer s0 H E c hid er l eo => (fs_one (fs_ret (fe_and (fe_callB (isi_ok l.b) isiC_ok boot_isinstance z_isinstance (fe_cons (fe_pv (pv 0)) (fe_cons (fe_ty (n := "tuple") z_tuple (by decide +kernel)) fe_nil))) (fe_and (fe_cmp (eq_ok l.b) eqC_ok (fe_callB (len_ok l.b) lenC_ok PySem.boot_len z_len (fe_cons (fe_pv (pv 0)) fe_nil)) fe_int) (fe_and (fe_cmp (in_ok l.b) inC_ok (fe_ix l.b ixC_ok (fe_pv (pv 0)) fe_int) (fe_tup (fe_cons fe_str (fe_cons fe_str fe_nil)))) (fe_and (fe_cmp (in_ok l.b) inC_ok (fe_ix l.b ixC_ok (fe_pv (pv 0)) fe_int) (fe_tup (fe_cons fe_str (fe_cons fe_str (fe_cons fe_str fe_nil))))) (pe_one (fe_call h_is_wish (fun _ _ h => h) l.b l.pass eo (fe_cons (fe_ix l.b ixC_ok (fe_pv (pv 0)) fe_int) fe_nil)))))))))
abbrev s_is_row : Stmt := top 1
abbrev N_is_row : List Str := ["value", "least", "most", "is_item", "item"]
theorem sc_is_row : FnScope N_is_row ["value", "least", "most", "is_item"] (defScope s_is_row) := ⟨rfl, rfl, rfl, by decide +kernel, rfl, by decide +kernel, by decide +kernel⟩
theorem d_is_row (F : At K mg "is_row" s_is_row) (z_all : mg "all" = none) (z_isinstance : mg "isinstance" = none) (z_len : mg "len" = none) (z_tuple : mg "tuple" = none) (t_is_row : TbOk P w K mg base T 5 tb_is_row) : DHas P w K mg base T 6 "is_row" ["value", "least", "most", "is_item"] (gR m_is_row) :=
  okF (s := (cRet (cAnd (cFun isiC (cCons (cVar 0) (cCons (cTy "tuple") cNil))) (cAnd (cChain leC leC (cVar 1) (cFun lenC (cCons (cVar 0) cNil)) (cVar 2)) (cFun allC (cCons (cLc (cIt (cVar 0)) (tgN 4) cYes (cCallL 3 tb_is_row (cCons (cVar 4) cNil)) [4]) cNil)))))) F sc_is_row (fun _ _ _ _ _ _ us hl => match us, hl with | [_, _, _, _], _ => rfl) fun A outer s0 H E c hid er l eo => (fs_one (fs_ret (fe_and (fe_callB (isi_ok l.b) isiC_ok boot_isinstance z_isinstance (fe_cons (fe_pv (pv 0)) (fe_cons (fe_ty (n := "tuple") z_tuple (by decide +kernel)) fe_nil))) (fe_and (fe_chain le_ok cmpC_ok le_ok cmpC_ok (fe_pv (pv 1)) (fe_callB (len_ok l.b) lenC_ok PySem.boot_len z_len (fe_cons (fe_pv (pv 0)) fe_nil)) (fe_pv (pv 2))) (pe_one (fe_callB (all_ok l.b) foldB_ok (by decide +kernel) z_all (fe_cons (fe_lc (own := [("item", 4)]) l.b (fi_seq l.b (fe_pv (pv 0))) (blk_by (by show BlkD N_is_row (defScope s_is_row) _ [("item", 4)]; decide +kernel)) (fun _ _ _ _ _ l1 => (fg_name (i := 4) l1.nd rfl (by first | exact Or.inl rfl | exact Or.inr rfl))) (fun _ _ _ _ _ l1 => fts_nil) (fun _ _ _ _ _ l1 => (fe_callL (i := 3) l1 t_is_row rfl (by first | exact Or.inl rfl | exact Or.inr (Or.inl rfl) | exact Or.inr (Or.inr rfl)) (fe_cons (fe_pv (pv 4)) fe_nil)))) fe_nil)))))))
abbrev s_are_rights : Stmt := top 27
abbrev N_are_rights : List Str := ["value"]
theorem sc_are_rights : FnScope N_are_rights ["value"] (defScope s_are_rights) := ⟨rfl, rfl, rfl, by decide +kernel, rfl, by decide +kernel, by decide +kernel⟩
theorem d_are_rights (F : At K mg "are_rights" s_are_rights)  (c_MOST_RULES : ∃ t, mg "MOST_RULES" = some (.int 12 t)) (g_is_rule : mg "is_rule" = some (.ref (He.ga K "is_rule"))) (h_is_row : DHas P w K mg base T 6 "is_row" ["value", "least", "most", "is_item"] (gR m_is_row)) : DHas P w K mg base T 7 "are_rights" ["value"] (gR m_are_rights) :=
  okF (s := (cRet (cCall m_is_row (cCons (cVar 0) (cCons (cC (.int 0)) (cCons (cC (.int 12)) (cCons (cFn "is_rule") cNil))))))) F sc_are_rights (fun _ _ _ _ _ _ us hl => match us, hl with | [_], _ => rfl) fun A outer s0 H E c hid er l eo => (fs_one (fs_ret (fe_call h_is_row (fun _ _ h => h) l.b l.pass eo (fe_cons (fe_pv (pv 0)) (fe_cons fe_int (fe_cons (fe_gi c_MOST_RULES) (fe_cons (fe_fn rfl g_is_rule) fe_nil)))))))
abbrev s_check_rights : Stmt := top 28
abbrev N_check_rights : List Str := ["rights"]
theorem sc_check_rights : FnScope N_check_rights ["rights"] (defScope s_check_rights) := ⟨rfl, rfl, rfl, by decide +kernel, rfl, by decide +kernel, by decide +kernel⟩
theorem d_check_rights (F : At K mg "check_rights" s_check_rights)  (x_InvalidRights : Bk.Exc K mg "InvalidRights") (h_are_rights : DHas P w K mg base T 7 "are_rights" ["value"] (gR m_are_rights)) : DHas P w K mg base T 8 "check_rights" ["rights"] (gR m_check_rights) :=
  okF (s := (cIf (cNot (cB (cCall m_are_rights (cCons (cVar 0) cNil)))) (cRaise "InvalidRights") cNext)) F sc_check_rights (fun _ _ _ _ _ _ us hl => match us, hl with | [_], _ => rfl) fun A outer s0 H E c hid er l eo => (fs_one (fs_if (ft_not (ft_val (fe_call h_are_rights (fun _ _ h => h) l.b l.pass eo (fe_cons (fe_pv (pv 0)) fe_nil)))) (fs_one (fs_raise l eo (pmk_own PySem.F.excBase_ValueError x_InvalidRights.e.1 x_InvalidRights.g x_InvalidRights.e.2.1 (raises_own x_InvalidRights.e.2.2.1 x_InvalidRights.e.2.2.2) rfl))) fs_nil))
abbrev s_rows_for : Stmt := top 30
abbrev N_rows_for : List Str := ["rights", "deed", "word", "told", "wish"]
theorem sc_rows_for : FnScope N_rows_for ["rights", "deed"] (defScope s_rows_for) := ⟨rfl, rfl, rfl, by decide +kernel, rfl, by decide +kernel, by decide +kernel⟩
theorem d_rows_for (F : At K mg "rows_for" s_rows_for)  (c_LAST_RULE : TopD K mg "LAST_RULE" k_LAST_RULE) : DHas P w K mg base T 1 "rows_for" ["rights", "deed"] (gR m_rows_for) :=
  okF (s := (cRet (cLc (cIt (cOp addC (cVar 0) (cTup (cCons (cC (.tuple k_LAST_RULE)) cNil)))) (tgT 3 (tgsCons (tgN 2) (tgsCons (tgN 3) (tgsCons (tgN 4) tgsNil)))) (cB (cOp isinC (cVar 3) (cTup (cCons (cVar 1) (cCons (cC (.str "both")) cNil))))) (cTup (cCons (cVar 2) (cCons (cVar 4) cNil))) [2, 3, 4]))) F sc_rows_for (fun _ _ _ _ _ _ us hl => match us, hl with | [_, _], _ => rfl) fun A outer s0 H E c hid er l eo => (fs_one (fs_ret (fe_lc (own := [("word", 2), ("told", 3), ("wish", 4)]) l.b (fi_seq l.b (fe_op (add_ok l.b) addC_ok (fe_pv (pv 0)) (fe_tup (fe_cons (fe_gt l.b c_LAST_RULE) fe_nil)))) (blk_by (by show BlkD N_rows_for (defScope s_rows_for) _ [("word", 2), ("told", 3), ("wish", 4)]; decide +kernel)) (fun _ _ _ _ _ l1 => (fg_tup (n := 3) l1 (fgs_cons (fg_name (i := 2) l1.nd rfl (by first | exact Or.inl rfl | exact Or.inr rfl)) (fgs_cons (fg_name (i := 3) l1.nd rfl (by first | exact Or.inl rfl | exact Or.inr rfl)) (fgs_cons (fg_name (i := 4) l1.nd rfl (by first | exact Or.inl rfl | exact Or.inr rfl)) fgs_nil))))) (fun _ _ _ _ _ l1 => (fts_one (ft_cmp (in_ok l1) inC_ok (fe_pv (pv 3)) (fe_tup (fe_cons (fe_pv (pv 1)) (fe_cons fe_str fe_nil)))))) (fun _ _ _ _ _ l1 => (fe_tup (fe_cons (fe_pv (pv 2)) (fe_cons (fe_pv (pv 4)) fe_nil)))))))
abbrev s_is_let : Stmt := top 31
abbrev N_is_let : List Str := ["rights", "deed", "topic", "word", "wish"]
theorem sc_is_let : FnScope N_is_let ["rights", "deed", "topic"] (defScope s_is_let) := ⟨rfl, rfl, rfl, by decide +kernel, rfl, by decide +kernel, by decide +kernel⟩
theorem d_is_let (F : At K mg "is_let" s_is_let)  (h_check_deed : DHas P w K mg base T 1 "check_deed" ["deed"] (gR m_check_deed)) (h_check_rights : DHas P w K mg base T 8 "check_rights" ["rights"] (gR m_check_rights)) (h_check_topic : DHas P w K mg base T 5 "check_topic" ["topic"] (gR m_check_topic)) (h_is_met : DHas P w K mg base T 3 "is_met" ["topic", "wish"] (gR m_is_met)) (h_rows_for : DHas P w K mg base T 1 "rows_for" ["rights", "deed"] (gR m_rows_for)) : DHas P w K mg base T 9 "is_let" ["rights", "deed", "topic"] (gR m_is_let) :=
  okF (s := (cSeq (cDrop (cCall m_check_rights (cCons (cVar 0) cNil)))
    (cSeq (cDrop (cCall m_check_deed (cCons (cVar 1) cNil)))
    (cSeq (cDrop (cCall m_check_topic (cCons (cVar 2) cNil)))
    (cRet (cOp eqC (cOp ixC (cLc (cIt (cCall m_rows_for (cCons (cVar 0) (cCons (cVar 1) cNil)))) (tgT 2 (tgsCons (tgN 3) (tgsCons (tgN 4) tgsNil))) (cB (cCallN m_is_met (cCons (cVar 2) (cCons (cVar 4) cNil)))) (cVar 3) [3, 4]) (cC (.int 0))) (cC (.str "let")))))))) F sc_is_let (fun _ _ _ _ _ _ us hl => match us, hl with | [_, _, _], _ => rfl) fun A outer s0 H E c hid er l eo => (fs_cons (fs_expr (fe_call h_check_rights (fun _ _ h => h) l.b l.pass eo (fe_cons (fe_pv (pv 0)) fe_nil)))
    (fs_cons (fs_expr (fe_call h_check_deed (fun _ _ h => h) l.b l.pass eo (fe_cons (fe_pv (pv 1)) fe_nil)))
    (fs_cons (fs_expr (fe_call h_check_topic (fun _ _ h => h) l.b l.pass eo (fe_cons (fe_pv (pv 2)) fe_nil)))
    (fs_one (fs_ret (fe_cmp (eq_ok l.b) eqC_ok (fe_ix l.b ixC_ok (fe_lc (own := [("word", 3), ("wish", 4)]) l.b (fi_seq l.b (fe_call h_rows_for (fun _ _ h => h) l.b l.pass eo (fe_cons (fe_pv (pv 0)) (fe_cons (fe_pv (pv 1)) fe_nil)))) (blk_by (by show BlkD N_is_let (defScope s_is_let) _ [("word", 3), ("wish", 4)]; decide +kernel)) (fun _ _ _ _ _ l1 => (fg_tup (n := 2) l1 (fgs_cons (fg_name (i := 3) l1.nd rfl (by first | exact Or.inl rfl | exact Or.inr rfl)) (fgs_cons (fg_name (i := 4) l1.nd rfl (by first | exact Or.inl rfl | exact Or.inr rfl)) fgs_nil)))) (fun _ _ _ _ _ l1 => (fts_one (ft_val (fe_callN h_is_met l1 (fe_cons (fe_pv (pv 2)) (fe_cons (fe_pv (pv 4)) fe_nil)))))) (fun _ _ _ _ _ l1 => (fe_pv (pv 3)))) fe_int) fe_str))))))
abbrev s_topic_told : Stmt := top 32
abbrev N_topic_told : List Str := ["rows", "start", "asked", "wish", "index", "word", "told", "common", "topic", "_", "earlier"]
theorem sc_topic_told : FnScope N_topic_told ["rows", "start", "asked", "wish"] (defScope s_topic_told) := ⟨rfl, rfl, rfl, by decide +kernel, rfl, by decide +kernel, by decide +kernel⟩
theorem d_topic_told (F : At K mg "topic_told" s_topic_told) (z_len : mg "len" = none) (z_range : mg "range" = none) (h_common_of : DHas P w K mg base T 2 "common_of" ["wish", "other"] (gR m_common_of)) (h_topic_beyond : DHas P w K mg base T 4 "topic_beyond" ["wish", "others"] (gR m_topic_beyond)) : DHas P w K mg base T 5 "topic_told" ["rows", "start", "asked", "wish"] (gR m_topic_told) :=
  okF (s := (cSeq (cFor (cRng2 (cVar 1) (cFun lenC (cCons (cVar 0) cNil))) (tgN 4) (cSeq (cAsg (cOp ixC (cVar 0) (cVar 4)) (tgT 2 (tgsCons (tgN 5) (tgsCons (tgN 6) tgsNil))))
    (cSeq (cSet 7 (cIfE (cB (cOp eqC (cVar 5) (cVar 2))) (cCall m_common_of (cCons (cVar 3) (cCons (cVar 6) cNil))) (cC .none)))
    (cIf (cB (cOp isNotC (cVar 7) (cC .none))) (cSeq (cSet 8 (cCall m_topic_beyond (cCons (cVar 7) (cCons (cLc (cIt (cSl (cVar 0) cNoPart (cPart (cVar 4)))) (tgT 2 (tgsCons (tgN 9) (tgsCons (tgN 10) tgsNil))) cYes (cVar 10) [9, 10]) cNil))))
    (cIf (cB (cOp isNotC (cVar 8) (cC .none))) (cRet (cVar 8)) cNext)) cNext))))
    (cRet (cC .none)))) F sc_topic_told (fun _ _ _ _ _ _ us hl => match us, hl with | [_, _, _, _], _ => rfl) fun A outer s0 H E c hid er l eo => (fs_cons (fs_for (ow := [4]) l (fi_rng2 z_range (fe_pv (pv 1)) (fe_callB (len_ok l.b) lenC_ok PySem.boot_len z_len (fe_cons (fe_pv (pv 0)) fe_nil))) (fg_name (i := 4) l.b.nd rfl (by first | exact Or.inl rfl | exact Or.inr rfl)) (fs_cons (fs_asg (ow := [5, 6]) (fe_ix l.b ixC_ok (fe_pv (pv 0)) (fe_pv (pv 4))) (fg_tup (n := 2) l.b (fgs_cons (fg_name (i := 5) l.b.nd rfl (by first | exact Or.inl rfl | exact Or.inr rfl)) (fgs_cons (fg_name (i := 6) l.b.nd rfl (by first | exact Or.inl rfl | exact Or.inr rfl)) fgs_nil))))
    (fs_cons (fs_set (i := 7) l.b.nd rfl (by first | exact Or.inl rfl | exact Or.inr rfl) (fe_ifE (ft_cmp (eq_ok l.b) eqC_ok (fe_pv (pv 5)) (fe_pv (pv 2))) (fe_call h_common_of (fun _ _ h => h) l.b l.pass eo (fe_cons (fe_pv (pv 3)) (fe_cons (fe_pv (pv 6)) fe_nil))) fe_non))
    (fs_one (fs_if (ft_cmp isNot_ok isC_ok (fe_pv (pv 7)) fe_non) (fs_cons (fs_set (i := 8) l.b.nd rfl (by first | exact Or.inl rfl | exact Or.inr rfl) (fe_call h_topic_beyond (fun _ _ h => h) l.b l.pass eo (fe_cons (fe_pv (pv 7)) (fe_cons (fe_lc (own := [("_", 9), ("earlier", 10)]) l.b (fi_seq l.b (fe_slice l.b (fe_pv (pv 0)) fo_none (fo_some (fe_pv (pv 4))))) (blk_by (by show BlkD N_topic_told (defScope s_topic_told) _ [("_", 9), ("earlier", 10)]; decide +kernel)) (fun _ _ _ _ _ l1 => (fg_tup (n := 2) l1 (fgs_cons (fg_name (i := 9) l1.nd rfl (by first | exact Or.inl rfl | exact Or.inr rfl)) (fgs_cons (fg_name (i := 10) l1.nd rfl (by first | exact Or.inl rfl | exact Or.inr rfl)) fgs_nil)))) (fun _ _ _ _ _ l1 => fts_nil) (fun _ _ _ _ _ l1 => (fe_pv (pv 10)))) fe_nil))))
    (fs_one (fs_if (ft_cmp isNot_ok isC_ok (fe_pv (pv 8)) fe_non) (fs_one (fs_ret (fe_pv (pv 8)))) fs_nil))) fs_nil)))))
    (fs_one (fs_ret fe_non)))
abbrev s_topic_let_by_one : Stmt := top 33
abbrev N_topic_let_by_one : List Str := ["rights", "other_rights", "deed", "rows", "others", "index", "word", "wish", "at", "told", "other", "common", "earlier", "_", "barred", "topic"]
theorem sc_topic_let_by_one : FnScope N_topic_let_by_one ["rights", "other_rights", "deed"] (defScope s_topic_let_by_one) := ⟨rfl, rfl, rfl, by decide +kernel, rfl, by decide +kernel, by decide +kernel⟩
theorem d_topic_let_by_one (F : At K mg "topic_let_by_one" s_topic_let_by_one) (z_enumerate : mg "enumerate" = none) (h_common_of : DHas P w K mg base T 2 "common_of" ["wish", "other"] (gR m_common_of)) (h_rows_for : DHas P w K mg base T 1 "rows_for" ["rights", "deed"] (gR m_rows_for)) (h_topic_beyond : DHas P w K mg base T 4 "topic_beyond" ["wish", "others"] (gR m_topic_beyond)) : DHas P w K mg base T 5 "topic_let_by_one" ["rights", "other_rights", "deed"] (gR m_topic_let_by_one) :=
  okF (s := (cSeq (cPar 3 4 (cCons (cCall m_rows_for (cCons (cVar 0) (cCons (cVar 2) cNil))) (cCons (cCall m_rows_for (cCons (cVar 1) (cCons (cVar 2) cNil))) cNil)))
    (cSeq (cFor (cEnum (cVar 3)) (tgT 2 (tgsCons (tgN 5) (tgsCons (tgT 2 (tgsCons (tgN 6) (tgsCons (tgN 7) tgsNil))) tgsNil))) (cFor (cEnum (cVar 4)) (tgT 2 (tgsCons (tgN 8) (tgsCons (tgT 2 (tgsCons (tgN 9) (tgsCons (tgN 10) tgsNil))) tgsNil))) (cSeq (cSet 11 (cIfE (cB (cOp eqC (cTup (cCons (cVar 6) (cCons (cVar 9) cNil))) (cTup (cCons (cC (.str "let")) (cCons (cC (.str "bar")) cNil))))) (cCall m_common_of (cCons (cVar 7) (cCons (cVar 10) cNil))) (cC .none)))
    (cIf (cB (cOp isNotC (cVar 11) (cC .none))) (cSeq (cSet 12 (cLc (cIt (cOp addC (cSl (cVar 3) cNoPart (cPart (cVar 5))) (cSl (cVar 4) cNoPart (cPart (cVar 8))))) (tgT 2 (tgsCons (tgN 13) (tgsCons (tgN 14) tgsNil))) cYes (cVar 14) [13, 14]))
    (cSeq (cSet 15 (cCall m_topic_beyond (cCons (cVar 11) (cCons (cVar 12) cNil))))
    (cIf (cB (cOp isNotC (cVar 15) (cC .none))) (cRet (cVar 15)) cNext))) cNext))))
    (cRet (cC .none))))) F sc_topic_let_by_one (fun _ _ _ _ _ _ us hl => match us, hl with | [_, _, _], _ => rfl) fun A outer s0 H E c hid er l eo => (fs_cons (fs_par (i := 3) (j := 4) l.b rfl rfl (fe_cons (fe_call h_rows_for (fun _ _ h => h) l.b l.pass eo (fe_cons (fe_pv (pv 0)) (fe_cons (fe_pv (pv 2)) fe_nil))) (fe_cons (fe_call h_rows_for (fun _ _ h => h) l.b l.pass eo (fe_cons (fe_pv (pv 1)) (fe_cons (fe_pv (pv 2)) fe_nil))) fe_nil)))
    (fs_cons (fs_for (ow := [5, 6, 7]) l (fi_enum l.b z_enumerate (fe_pv (pv 3))) (fg_tup (n := 2) l.b (fgs_cons (fg_name (i := 5) l.b.nd rfl (by first | exact Or.inl rfl | exact Or.inr rfl)) (fgs_cons (fg_tup (n := 2) l.b (fgs_cons (fg_name (i := 6) l.b.nd rfl (by first | exact Or.inl rfl | exact Or.inr rfl)) (fgs_cons (fg_name (i := 7) l.b.nd rfl (by first | exact Or.inl rfl | exact Or.inr rfl)) fgs_nil))) fgs_nil))) (fs_one (fs_for (ow := [8, 9, 10]) l (fi_enum l.b z_enumerate (fe_pv (pv 4))) (fg_tup (n := 2) l.b (fgs_cons (fg_name (i := 8) l.b.nd rfl (by first | exact Or.inl rfl | exact Or.inr rfl)) (fgs_cons (fg_tup (n := 2) l.b (fgs_cons (fg_name (i := 9) l.b.nd rfl (by first | exact Or.inl rfl | exact Or.inr rfl)) (fgs_cons (fg_name (i := 10) l.b.nd rfl (by first | exact Or.inl rfl | exact Or.inr rfl)) fgs_nil))) fgs_nil))) (fs_cons (fs_set (i := 11) l.b.nd rfl (by first | exact Or.inl rfl | exact Or.inr rfl) (fe_ifE (ft_cmp (eq_ok l.b) eqC_ok (fe_tup (fe_cons (fe_pv (pv 6)) (fe_cons (fe_pv (pv 9)) fe_nil))) (fe_tup (fe_cons fe_str (fe_cons fe_str fe_nil)))) (fe_call h_common_of (fun _ _ h => h) l.b l.pass eo (fe_cons (fe_pv (pv 7)) (fe_cons (fe_pv (pv 10)) fe_nil))) fe_non))
    (fs_one (fs_if (ft_cmp isNot_ok isC_ok (fe_pv (pv 11)) fe_non) (fs_cons (fs_setLc (i := 12) (own := [("_", 13), ("barred", 14)]) l.b rfl rfl rfl (fi_seq l.b (fe_op (add_ok l.b) addC_ok (fe_slice l.b (fe_pv (pv 3)) fo_none (fo_some (fe_pv (pv 5)))) (fe_slice l.b (fe_pv (pv 4)) fo_none (fo_some (fe_pv (pv 8)))))) (blk_by (by show BlkD N_topic_let_by_one (defScope s_topic_let_by_one) _ [("_", 13), ("barred", 14)]; decide +kernel)) (fun _ _ _ _ _ l1 => (fg_tup (n := 2) l1 (fgs_cons (fg_name (i := 13) l1.nd rfl (by first | exact Or.inl rfl | exact Or.inr rfl)) (fgs_cons (fg_name (i := 14) l1.nd rfl (by first | exact Or.inl rfl | exact Or.inr rfl)) fgs_nil)))) (fun _ _ _ _ _ l1 => fts_nil) (fun _ _ _ _ _ l1 => (fe_pv (pv 14))))
    (fs_cons (fs_set (i := 15) l.b.nd rfl (by first | exact Or.inl rfl | exact Or.inr rfl) (fe_call h_topic_beyond (fun _ _ h => h) l.b l.pass eo (fe_cons (fe_pv (pv 11)) (fe_cons (fe_pv (pv 12)) fe_nil))))
    (fs_one (fs_if (ft_cmp isNot_ok isC_ok (fe_pv (pv 15)) fe_non) (fs_one (fs_ret (fe_pv (pv 15)))) fs_nil)))) fs_nil))))))
    (fs_one (fs_ret fe_non))))
abbrev s_topic_apart : Stmt := top 34
abbrev N_topic_apart : List Str := ["rights", "other_rights", "deed", "topic"]
theorem sc_topic_apart : FnScope N_topic_apart ["rights", "other_rights", "deed"] (defScope s_topic_apart) := ⟨rfl, rfl, rfl, by decide +kernel, rfl, by decide +kernel, by decide +kernel⟩
theorem d_topic_apart (F : At K mg "topic_apart" s_topic_apart)  (h_topic_let_by_one : DHas P w K mg base T 5 "topic_let_by_one" ["rights", "other_rights", "deed"] (gR m_topic_let_by_one)) : DHas P w K mg base T 6 "topic_apart" ["rights", "other_rights", "deed"] (gR m_topic_apart) :=
  okF (s := (cSeq (cSet 3 (cCall m_topic_let_by_one (cCons (cVar 0) (cCons (cVar 1) (cCons (cVar 2) cNil)))))
    (cRet (cIfE (cB (cOp isC (cVar 3) (cC .none))) (cCall m_topic_let_by_one (cCons (cVar 1) (cCons (cVar 0) (cCons (cVar 2) cNil)))) (cVar 3))))) F sc_topic_apart (fun _ _ _ _ _ _ us hl => match us, hl with | [_, _, _], _ => rfl) fun A outer s0 H E c hid er l eo => (fs_cons (fs_set (i := 3) l.b.nd rfl (by first | exact Or.inl rfl | exact Or.inr rfl) (fe_call h_topic_let_by_one (fun _ _ h => h) l.b l.pass eo (fe_cons (fe_pv (pv 0)) (fe_cons (fe_pv (pv 1)) (fe_cons (fe_pv (pv 2)) fe_nil)))))
    (fs_one (fs_ret (fe_ifE (ft_cmp is_ok isC_ok (fe_pv (pv 3)) fe_non) (fe_call h_topic_let_by_one (fun _ _ h => h) l.b l.pass eo (fe_cons (fe_pv (pv 1)) (fe_cons (fe_pv (pv 0)) (fe_cons (fe_pv (pv 2)) fe_nil)))) (fe_pv (pv 3))))))
abbrev s_is_idle_for : Stmt := top 35
abbrev N_is_idle_for : List Str := ["rights", "index", "deed", "word", "told", "wish", "start", "left"]
theorem sc_is_idle_for : FnScope N_is_idle_for ["rights", "index", "deed"] (defScope s_is_idle_for) := ⟨rfl, rfl, rfl, by decide +kernel, rfl, by decide +kernel, by decide +kernel⟩
theorem d_is_idle_for (F : At K mg "is_idle_for" s_is_idle_for) (z_len : mg "len" = none) (h_rows_for : DHas P w K mg base T 1 "rows_for" ["rights", "deed"] (gR m_rows_for)) (h_topic_told : DHas P w K mg base T 5 "topic_told" ["rows", "start", "asked", "wish"] (gR m_topic_told)) : DHas P w K mg base T 6 "is_idle_for" ["rights", "index", "deed"] (gR m_is_idle_for) :=
  okF (s := (cSeq (cAsg (cOp ixC (cVar 0) (cVar 1)) (tgT 3 (tgsCons (tgN 3) (tgsCons (tgN 4) (tgsCons (tgN 5) tgsNil)))))
    (cSeq (cIf (cB (cOp notInC (cVar 4) (cTup (cCons (cVar 2) (cCons (cC (.str "both")) cNil))))) (cRet (cC (.bool true))) cNext)
    (cSeq (cSet 6 (cOp subC (cFun lenC (cCons (cCall m_rows_for (cCons (cSl (cVar 0) cNoPart (cPart (cVar 1))) (cCons (cVar 2) cNil))) cNil)) (cC (.int 1))))
    (cSeq (cSet 7 (cCall m_rows_for (cCons (cOp addC (cSl (cVar 0) cNoPart (cPart (cVar 1))) (cSl (cVar 0) (cPart (cOp addC (cVar 1) (cC (.int 1)))) cNoPart)) (cCons (cVar 2) cNil))))
    (cRet (cOp isC (cCall m_topic_told (cCons (cVar 7) (cCons (cVar 6) (cCons (cIfE (cB (cOp eqC (cVar 3) (cC (.str "let")))) (cC (.str "bar")) (cC (.str "let"))) (cCons (cVar 5) cNil))))) (cC .none)))))))) F sc_is_idle_for (fun _ _ _ _ _ _ us hl => match us, hl with | [_, _, _], _ => rfl) fun A outer s0 H E c hid er l eo => (fs_cons (fs_asg (ow := [3, 4, 5]) (fe_ix l.b ixC_ok (fe_pv (pv 0)) (fe_pv (pv 1))) (fg_tup (n := 3) l.b (fgs_cons (fg_name (i := 3) l.b.nd rfl (by first | exact Or.inl rfl | exact Or.inr rfl)) (fgs_cons (fg_name (i := 4) l.b.nd rfl (by first | exact Or.inl rfl | exact Or.inr rfl)) (fgs_cons (fg_name (i := 5) l.b.nd rfl (by first | exact Or.inl rfl | exact Or.inr rfl)) fgs_nil)))))
    (fs_cons (fs_if (ft_cmp (notIn_ok l.b) inC_ok (fe_pv (pv 4)) (fe_tup (fe_cons (fe_pv (pv 2)) (fe_cons fe_str fe_nil)))) (fs_one (fs_ret fe_bl)) fs_nil)
    (fs_cons (fs_set (i := 6) l.b.nd rfl (by first | exact Or.inl rfl | exact Or.inr rfl) (fe_op sub_ok subC_ok (fe_callB (len_ok l.b) lenC_ok PySem.boot_len z_len (fe_cons (fe_call h_rows_for (fun _ _ h => h) l.b l.pass eo (fe_cons (fe_slice l.b (fe_pv (pv 0)) fo_none (fo_some (fe_pv (pv 1)))) (fe_cons (fe_pv (pv 2)) fe_nil))) fe_nil)) fe_int))
    (fs_cons (fs_set (i := 7) l.b.nd rfl (by first | exact Or.inl rfl | exact Or.inr rfl) (fe_call h_rows_for (fun _ _ h => h) l.b l.pass eo (fe_cons (fe_op (add_ok l.b) addC_ok (fe_slice l.b (fe_pv (pv 0)) fo_none (fo_some (fe_pv (pv 1)))) (fe_slice l.b (fe_pv (pv 0)) (fo_some (fe_op (add_ok l.b) addC_ok (fe_pv (pv 1)) fe_int)) fo_none)) (fe_cons (fe_pv (pv 2)) fe_nil))))
    (fs_one (fs_ret (fe_cmp is_ok isC_ok (fe_call h_topic_told (fun _ _ h => h) l.b l.pass eo (fe_cons (fe_pv (pv 7)) (fe_cons (fe_pv (pv 6)) (fe_cons (fe_ifE (ft_cmp (eq_ok l.b) eqC_ok (fe_pv (pv 3)) fe_str) fe_str fe_str) (fe_cons (fe_pv (pv 5)) fe_nil))))) fe_non)))))))
abbrev s_idle_rules : Stmt := top 36
abbrev N_idle_rules : List Str := ["rights", "index", "deed"]
theorem sc_idle_rules : FnScope N_idle_rules ["rights"] (defScope s_idle_rules) := ⟨rfl, rfl, rfl, by decide +kernel, rfl, by decide +kernel, by decide +kernel⟩
theorem d_idle_rules (F : At K mg "idle_rules" s_idle_rules) (z_all : mg "all" = none) (z_len : mg "len" = none) (z_range : mg "range" = none) (c_DEEDS : TopD K mg "DEEDS" k_DEEDS) (h_check_rights : DHas P w K mg base T 8 "check_rights" ["rights"] (gR m_check_rights)) (h_is_idle_for : DHas P w K mg base T 6 "is_idle_for" ["rights", "index", "deed"] (gR n_is_idle_for)) : DHas P w K mg base T 9 "idle_rules" ["rights"] (gR m_idle_rules) :=
  okF (s := (cSeq (cDrop (cCall m_check_rights (cCons (cVar 0) cNil)))
    (cRet (cLc (cRng1 (cFun lenC (cCons (cVar 0) cNil))) (tgN 1) (cB (cFun allC (cCons (cLc (cTop k_DEEDS) (tgN 2) cYes (cCallN n_is_idle_for (cCons (cVar 0) (cCons (cVar 1) (cCons (cVar 2) cNil)))) [2]) cNil))) (cVar 1) [1])))) F sc_idle_rules (fun _ _ _ _ _ _ us hl => match us, hl with | [_], _ => rfl) fun A outer s0 H E c hid er l eo => (fs_cons (fs_expr (fe_call h_check_rights (fun _ _ h => h) l.b l.pass eo (fe_cons (fe_pv (pv 0)) fe_nil)))
    (fs_one (fs_ret (fe_lc (own := [("index", 1)]) l.b (fi_rng1 z_range (fe_callB (len_ok l.b) lenC_ok PySem.boot_len z_len (fe_cons (fe_pv (pv 0)) fe_nil))) (blk_by (by show BlkD N_idle_rules (defScope s_idle_rules) _ [("index", 1)]; decide +kernel)) (fun _ _ _ _ _ l1 => (fg_name (i := 1) l1.nd rfl (by first | exact Or.inl rfl | exact Or.inr rfl))) (fun _ _ _ _ _ l1 => (fts_one (ft_val (fe_callB (all_ok l1) foldB_ok (by decide +kernel) z_all (fe_cons (fe_lc (own := [("deed", 2)]) l1 (fi_top l1 c_DEEDS) (blk_in (blk_by (by show BlkD N_idle_rules _ _ [("deed", 2)]; decide +kernel))) (fun _ _ _ _ _ l2 => (fg_name (i := 2) l2.nd rfl (by first | exact Or.inl rfl | exact Or.inr rfl))) (fun _ _ _ _ _ l2 => fts_nil) (fun _ _ _ _ _ l2 => (fe_callN h_is_idle_for l2 (fe_cons (fe_pv (pv 0)) (fe_cons (fe_pv (pv 1)) (fe_cons (fe_pv (pv 2)) fe_nil)))))) fe_nil))))) (fun _ _ _ _ _ l1 => (fe_pv (pv 1)))))))
abbrev s_topic_at_odds : Stmt := top 37
abbrev N_topic_at_odds : List Str := ["rights", "other_rights", "deed"]
theorem sc_topic_at_odds : FnScope N_topic_at_odds ["rights", "other_rights", "deed"] (defScope s_topic_at_odds) := ⟨rfl, rfl, rfl, by decide +kernel, rfl, by decide +kernel, by decide +kernel⟩
theorem d_topic_at_odds (F : At K mg "topic_at_odds" s_topic_at_odds)  (h_check_deed : DHas P w K mg base T 1 "check_deed" ["deed"] (gR m_check_deed)) (h_check_rights : DHas P w K mg base T 8 "check_rights" ["rights"] (gR m_check_rights)) (h_topic_apart : DHas P w K mg base T 6 "topic_apart" ["rights", "other_rights", "deed"] (gR m_topic_apart)) : DHas P w K mg base T 9 "topic_at_odds" ["rights", "other_rights", "deed"] (gR m_topic_at_odds) :=
  okF (s := (cSeq (cDrop (cCall m_check_rights (cCons (cVar 0) cNil)))
    (cSeq (cDrop (cCall m_check_rights (cCons (cVar 1) cNil)))
    (cSeq (cDrop (cCall m_check_deed (cCons (cVar 2) cNil)))
    (cRet (cCall m_topic_apart (cCons (cVar 0) (cCons (cVar 1) (cCons (cVar 2) cNil))))))))) F sc_topic_at_odds (fun _ _ _ _ _ _ us hl => match us, hl with | [_, _, _], _ => rfl) fun A outer s0 H E c hid er l eo => (fs_cons (fs_expr (fe_call h_check_rights (fun _ _ h => h) l.b l.pass eo (fe_cons (fe_pv (pv 0)) fe_nil)))
    (fs_cons (fs_expr (fe_call h_check_rights (fun _ _ h => h) l.b l.pass eo (fe_cons (fe_pv (pv 1)) fe_nil)))
    (fs_cons (fs_expr (fe_call h_check_deed (fun _ _ h => h) l.b l.pass eo (fe_cons (fe_pv (pv 2)) fe_nil)))
    (fs_one (fs_ret (fe_call h_topic_apart (fun _ _ h => h) l.b l.pass eo (fe_cons (fe_pv (pv 0)) (fe_cons (fe_pv (pv 1)) (fe_cons (fe_pv (pv 2)) fe_nil)))))))))
abbrev s__law_some : Stmt := top 41
abbrev N__law_some : List Str := ["_law_cup_here", "_law_things"]
theorem sc__law_some : FnScope N__law_some ["_law_cup_here", "_law_things"] (defScope s__law_some) := ⟨rfl, rfl, rfl, by decide +kernel, rfl, by decide +kernel, by decide +kernel⟩
theorem d__law_some (F : At K mg "_law_some" s__law_some) (z_len : mg "len" = none) (h__law_roll : DHas P w K mg base T 1 "_law_roll" ["_law_cup_here", "_law_many"] (gR m__law_roll)) : DHas P w K mg base T 2 "_law_some" ["_law_cup_here", "_law_things"] (gR m__law_some) :=
  okF (s := (cRet (cOp ixC (cVar 1) (cCall m__law_roll (cCons (cVar 0) (cCons (cFun lenC (cCons (cVar 1) cNil)) cNil)))))) F sc__law_some (fun _ _ _ _ _ _ us hl => match us, hl with | [_, _], _ => rfl) fun A outer s0 H E c hid er l eo => (fs_one (fs_ret (fe_ix l.b ixC_ok (fe_pv (pv 1)) (fe_call h__law_roll (fun _ _ h => h) l.b l.pass eo (fe_cons (fe_pv (pv 0)) (fe_cons (fe_callB (len_ok l.b) lenC_ok PySem.boot_len z_len (fe_cons (fe_pv (pv 1)) fe_nil)) fe_nil))))))
abbrev s__law_rights : Stmt := top 45
abbrev N__law_rights : List Str := ["_law_cup_here", "_law_most", "_law_found", "_law_turn", "_law_wish_here", "_law_rule"]
theorem sc__law_rights : FnScope N__law_rights ["_law_cup_here", "_law_most"] (defScope s__law_rights) := ⟨rfl, rfl, rfl, by decide +kernel, rfl, by decide +kernel, by decide +kernel⟩
theorem d__law_rights (F : At K mg "_law_rights" s__law_rights) (z_range : mg "range" = none) (h__law_roll : DHas P w K mg base T 1 "_law_roll" ["_law_cup_here", "_law_many"] (gR m__law_roll)) (h__law_some : DHas P w K mg base T 2 "_law_some" ["_law_cup_here", "_law_things"] (gR m__law_some)) (h__law_wish : DHas P w K mg base T 3 "_law_wish" ["_law_cup_here"] (gR m__law_wish)) : DHas P w K mg base T 4 "_law_rights" ["_law_cup_here", "_law_most"] (gR m__law_rights) :=
  okF (s := (cSeq (cSet 2 (cTup cNil))
    (cSeq (cFor (cRng1 (cCall m__law_roll (cCons (cVar 0) (cCons (cOp addC (cVar 1) (cC (.int 1))) cNil)))) (tgN 3) (cSeq (cSet 4 (cIfE (cOrT (cB (cOp eqC (cVar 2) (cTup cNil))) (cB (cOp gtC (cCall m__law_roll (cCons (cVar 0) (cCons (cC (.int 3)) cNil))) (cC (.int 0))))) (cCall m__law_wish (cCons (cVar 0) cNil)) (cOp ixC (cCall m__law_some (cCons (cVar 0) (cCons (cVar 2) cNil))) (cC (.int 2)))))
    (cSeq (cSet 5 (cTup (cCons (cCall m__law_some (cCons (cVar 0) (cCons (cLst (cCons (cC (.str "let")) (cCons (cC (.str "let")) (cCons (cC (.str "bar")) cNil)))) cNil))) (cCons (cCall m__law_some (cCons (cVar 0) (cCons (cLst (cCons (cC (.str "give")) (cCons (cC (.str "hear")) (cCons (cC (.str "both")) (cCons (cC (.str "both")) cNil))))) cNil))) (cCons (cVar 4) cNil)))))
    (cSet 2 (cOp addC (cVar 2) (cTup (cCons (cVar 5) cNil)))))))
    (cRet (cVar 2))))) F sc__law_rights (fun _ _ _ _ _ _ us hl => match us, hl with | [_, _], _ => rfl) fun A outer s0 H E c hid er l eo => (fs_cons (fs_set (i := 2) l.b.nd rfl (by first | exact Or.inl rfl | exact Or.inr rfl) (fe_tup fe_nil))
    (fs_cons (fs_for (ow := [3]) l (fi_rng1 z_range (fe_call h__law_roll (fun _ _ h => h) l.b l.pass eo (fe_cons (fe_pv (pv 0)) (fe_cons (fe_op (add_ok l.b) addC_ok (fe_pv (pv 1)) fe_int) fe_nil)))) (fg_name (i := 3) l.b.nd rfl (by first | exact Or.inl rfl | exact Or.inr rfl)) (fs_cons (fs_set (i := 4) l.b.nd rfl (by first | exact Or.inl rfl | exact Or.inr rfl) (fe_ifE (PW.pt (fw_or (ft_cmp (eq_ok l.b) eqC_ok (fe_pv (pv 2)) (fe_tup fe_nil)) (pw_or1 (ft_cmp gt_ok cmpC_ok (fe_call h__law_roll (fun _ _ h => h) l.b l.pass eo (fe_cons (fe_pv (pv 0)) (fe_cons fe_int fe_nil))) fe_int)))) (fe_call h__law_wish (fun _ _ h => h) l.b l.pass eo (fe_cons (fe_pv (pv 0)) fe_nil)) (fe_ix l.b ixC_ok (fe_call h__law_some (fun _ _ h => h) l.b l.pass eo (fe_cons (fe_pv (pv 0)) (fe_cons (fe_pv (pv 2)) fe_nil))) fe_int)))
    (fs_cons (fs_set (i := 5) l.b.nd rfl (by first | exact Or.inl rfl | exact Or.inr rfl) (fe_tup (fe_cons (fe_call h__law_some (fun _ _ h => h) l.b l.pass eo (fe_cons (fe_pv (pv 0)) (fe_cons (fe_lst (fe_cons fe_str (fe_cons fe_str (fe_cons fe_str fe_nil)))) fe_nil))) (fe_cons (fe_call h__law_some (fun _ _ h => h) l.b l.pass eo (fe_cons (fe_pv (pv 0)) (fe_cons (fe_lst (fe_cons fe_str (fe_cons fe_str (fe_cons fe_str (fe_cons fe_str fe_nil))))) fe_nil))) (fe_cons (fe_pv (pv 4)) fe_nil)))))
    (fs_one (fs_set (i := 2) l.b.nd rfl (by first | exact Or.inl rfl | exact Or.inr rfl) (fe_op (add_ok l.b) addC_ok (fe_pv (pv 2)) (fe_tup (fe_cons (fe_pv (pv 5)) fe_nil))))))))
    (fs_one (fs_ret (fe_pv (pv 2))))))
abbrev s__law_lets : Stmt := top 46
abbrev N__law_lets : List Str := ["_law_rights_here", "_law_deed", "_law_topic", "_law_word", "_law_own", "_law_wish_here"]
theorem sc__law_lets : FnScope N__law_lets ["_law_rights_here", "_law_deed", "_law_topic"] (defScope s__law_lets) := ⟨rfl, rfl, rfl, by decide +kernel, rfl, by decide +kernel, by decide +kernel⟩
theorem d__law_lets (F : At K mg "_law_lets" s__law_lets)  (h__law_met : DHas P w K mg base T 1 "_law_met" ["_law_topic", "_law_wish_here"] (gR m__law_met)) : DHas P w K mg base T 2 "_law_lets" ["_law_rights_here", "_law_deed", "_law_topic"] (gR m__law_lets) :=
  okF (s := (cSeq (cFor (cIt (cVar 0)) (tgT 3 (tgsCons (tgN 3) (tgsCons (tgN 4) (tgsCons (tgN 5) tgsNil)))) (cIf (cAndT (cB (cOp isinC (cVar 4) (cTup (cCons (cVar 1) (cCons (cC (.str "both")) cNil))))) (cB (cCall m__law_met (cCons (cVar 2) (cCons (cVar 5) cNil))))) (cRet (cOp eqC (cVar 3) (cC (.str "let")))) cNext))
    (cRet (cC (.bool false))))) F sc__law_lets (fun _ _ _ _ _ _ us hl => match us, hl with | [_, _, _], _ => rfl) fun A outer s0 H E c hid er l eo => (fs_cons (fs_for (ow := [3, 4, 5]) l (fi_seq l.b (fe_pv (pv 0))) (fg_tup (n := 3) l.b (fgs_cons (fg_name (i := 3) l.b.nd rfl (by first | exact Or.inl rfl | exact Or.inr rfl)) (fgs_cons (fg_name (i := 4) l.b.nd rfl (by first | exact Or.inl rfl | exact Or.inr rfl)) (fgs_cons (fg_name (i := 5) l.b.nd rfl (by first | exact Or.inl rfl | exact Or.inr rfl)) fgs_nil)))) (fs_one (fs_if (PW.pt (fw_and (ft_cmp (in_ok l.b) inC_ok (fe_pv (pv 4)) (fe_tup (fe_cons (fe_pv (pv 1)) (fe_cons fe_str fe_nil)))) (pw_and1 (ft_val (fe_call h__law_met (fun _ _ h => h) l.b l.pass eo (fe_cons (fe_pv (pv 2)) (fe_cons (fe_pv (pv 5)) fe_nil))))))) (fs_one (fs_ret (fe_cmp (eq_ok l.b) eqC_ok (fe_pv (pv 3)) fe_str))) fs_nil)))
    (fs_one (fs_ret fe_bl)))
abbrev s__law_words : Stmt := top 47
abbrev N__law_words : List Str := ["_law_rights_here", "_law_deed", "_law_topics_here", "_law_topic"]
theorem sc__law_words : FnScope N__law_words ["_law_rights_here", "_law_deed", "_law_topics_here"] (defScope s__law_words) := ⟨rfl, rfl, rfl, by decide +kernel, rfl, by decide +kernel, by decide +kernel⟩
theorem d__law_words (F : At K mg "_law_words" s__law_words)  (h__law_lets : DHas P w K mg base T 2 "_law_lets" ["_law_rights_here", "_law_deed", "_law_topic"] (gR m__law_lets)) : DHas P w K mg base T 3 "_law_words" ["_law_rights_here", "_law_deed", "_law_topics_here"] (gR m__law_words) :=
  okF (s := (cRet (cLc (cIt (cVar 2)) (tgN 3) cYes (cCallN m__law_lets (cCons (cVar 0) (cCons (cVar 1) (cCons (cVar 3) cNil)))) [3]))) F sc__law_words (fun _ _ _ _ _ _ us hl => match us, hl with | [_, _, _], _ => rfl) fun A outer s0 H E c hid er l eo => (fs_one (fs_ret (fe_lc (own := [("_law_topic", 3)]) l.b (fi_seq l.b (fe_pv (pv 2))) (blk_by (by show BlkD N__law_words (defScope s__law_words) _ [("_law_topic", 3)]; decide +kernel)) (fun _ _ _ _ _ l1 => (fg_name (i := 3) l1.nd rfl (by first | exact Or.inl rfl | exact Or.inr rfl))) (fun _ _ _ _ _ l1 => fts_nil) (fun _ _ _ _ _ l1 => (fe_callN h__law_lets l1 (fe_cons (fe_pv (pv 0)) (fe_cons (fe_pv (pv 1)) (fe_cons (fe_pv (pv 3)) fe_nil))))))))
abbrev s__law_idle : Stmt := top 48
abbrev N__law_idle : List Str := ["_law_rights_here", "_law_topics_here", "_law_due", "_law_found", "_law_deed", "_law_at", "_law_less"]
theorem sc__law_idle : FnScope N__law_idle ["_law_rights_here", "_law_topics_here"] (defScope s__law_idle) := ⟨rfl, rfl, rfl, by decide +kernel, rfl, by decide +kernel, by decide +kernel⟩
theorem d__law_idle (F : At K mg "_law_idle" s__law_idle) (z_len : mg "len" = none) (z_range : mg "range" = none) (h__law_words : DHas P w K mg base T 3 "_law_words" ["_law_rights_here", "_law_deed", "_law_topics_here"] (gR m__law_words)) : DHas P w K mg base T 4 "_law_idle" ["_law_rights_here", "_law_topics_here"] (gR m__law_idle) :=
  okF (s := (cSeq (cParL 2 3 (cLc (cIt (cTup (cCons (cC (.str "give")) (cCons (cC (.str "hear")) cNil)))) (tgN 4) cYes (cCallN m__law_words (cCons (cVar 0) (cCons (cVar 4) (cCons (cVar 1) cNil)))) [4]) cNil)
    (cSeq (cFor (cRng1 (cFun lenC (cCons (cVar 0) cNil))) (tgN 5) (cSeq (cSet 6 (cOp addC (cSl (cVar 0) cNoPart (cPart (cVar 5))) (cSl (cVar 0) (cPart (cOp addC (cVar 5) (cC (.int 1)))) cNoPart)))
    (cIf (cB (cOp eqC (cLc (cIt (cTup (cCons (cC (.str "give")) (cCons (cC (.str "hear")) cNil)))) (tgN 4) cYes (cCallN m__law_words (cCons (cVar 6) (cCons (cVar 4) (cCons (cVar 1) cNil)))) [4]) (cVar 2))) (cApp 3 (cVar 5)) cNext)))
    (cRet (cVar 3))))) F sc__law_idle (fun _ _ _ _ _ _ us hl => match us, hl with | [_, _], _ => rfl) fun A outer s0 H E c hid er l eo => (fs_cons (fs_parL (i := 2) (j := 3) l.b rfl rfl (fe_lc (own := [("_law_deed", 4)]) l.b (fi_seq l.b (fe_tup (fe_cons fe_str (fe_cons fe_str fe_nil)))) (blk_by (by show BlkD N__law_idle (defScope s__law_idle) _ [("_law_deed", 4)]; decide +kernel)) (fun _ _ _ _ _ l1 => (fg_name (i := 4) l1.nd rfl (by first | exact Or.inl rfl | exact Or.inr rfl))) (fun _ _ _ _ _ l1 => fts_nil) (fun _ _ _ _ _ l1 => (fe_callN h__law_words l1 (fe_cons (fe_pv (pv 0)) (fe_cons (fe_pv (pv 4)) (fe_cons (fe_pv (pv 1)) fe_nil)))))) fe_nil)
    (fs_cons (fs_for (ow := [5]) l (fi_rng1 z_range (fe_callB (len_ok l.b) lenC_ok PySem.boot_len z_len (fe_cons (fe_pv (pv 0)) fe_nil))) (fg_name (i := 5) l.b.nd rfl (by first | exact Or.inl rfl | exact Or.inr rfl)) (fs_cons (fs_set (i := 6) l.b.nd rfl (by first | exact Or.inl rfl | exact Or.inr rfl) (fe_op (add_ok l.b) addC_ok (fe_slice l.b (fe_pv (pv 0)) fo_none (fo_some (fe_pv (pv 5)))) (fe_slice l.b (fe_pv (pv 0)) (fo_some (fe_op (add_ok l.b) addC_ok (fe_pv (pv 5)) fe_int)) fo_none)))
    (fs_one (fs_if (ft_cmp (eq_ok l.b) eqC_ok (fe_lc (own := [("_law_deed", 4)]) l.b (fi_seq l.b (fe_tup (fe_cons fe_str (fe_cons fe_str fe_nil)))) (blk_by (by show BlkD N__law_idle (defScope s__law_idle) _ [("_law_deed", 4)]; decide +kernel)) (fun _ _ _ _ _ l2 => (fg_name (i := 4) l2.nd rfl (by first | exact Or.inl rfl | exact Or.inr rfl))) (fun _ _ _ _ _ l2 => fts_nil) (fun _ _ _ _ _ l2 => (fe_callN h__law_words l2 (fe_cons (fe_pv (pv 6)) (fe_cons (fe_pv (pv 4)) (fe_cons (fe_pv (pv 1)) fe_nil)))))) (fe_pv (pv 2))) (fs_one (fs_app (i := 3) (pv 3) (fe_pv (pv 5)))) fs_nil))))
    (fs_one (fs_ret (fe_pv (pv 3))))))
abbrev s__law_near : Stmt := top 49
abbrev N__law_near : List Str := ["_law_cup_here", "_law_rights_here", "_law_at", "_law_rule", "_law_way"]
theorem sc__law_near : FnScope N__law_near ["_law_cup_here", "_law_rights_here"] (defScope s__law_near) := ⟨rfl, rfl, rfl, by decide +kernel, rfl, by decide +kernel, by decide +kernel⟩
theorem d__law_near (F : At K mg "_law_near" s__law_near) (z_len : mg "len" = none) (h__law_roll : DHas P w K mg base T 1 "_law_roll" ["_law_cup_here", "_law_many"] (gR m__law_roll)) (h__law_some : DHas P w K mg base T 2 "_law_some" ["_law_cup_here", "_law_things"] (gR m__law_some)) (h__law_wish : DHas P w K mg base T 3 "_law_wish" ["_law_cup_here"] (gR m__law_wish)) : DHas P w K mg base T 4 "_law_near" ["_law_cup_here", "_law_rights_here"] (gR m__law_near) :=
  okF (s := (cSeq (cSet 2 (cCall m__law_roll (cCons (cVar 0) (cCons (cOp addC (cFun lenC (cCons (cVar 1) cNil)) (cC (.int 1))) cNil))))
    (cSeq (cSet 3 (cTup (cCons (cCall m__law_some (cCons (cVar 0) (cCons (cLst (cCons (cC (.str "let")) (cCons (cC (.str "bar")) cNil))) cNil))) (cCons (cCall m__law_some (cCons (cVar 0) (cCons (cLst (cCons (cC (.str "give")) (cCons (cC (.str "hear")) (cCons (cC (.str "both")) cNil)))) cNil))) (cCons (cCall m__law_wish (cCons (cVar 0) cNil)) cNil)))))
    (cSeq (cSet 4 (cCall m__law_roll (cCons (cVar 0) (cCons (cC (.int 4)) cNil))))
    (cSeq (cIf (cOrT (cB (cOp eqC (cVar 2) (cFun lenC (cCons (cVar 1) cNil)))) (cB (cOp eqC (cVar 4) (cC (.int 0))))) (cRet (cOp addC (cOp addC (cSl (cVar 1) cNoPart (cPart (cVar 2))) (cTup (cCons (cVar 3) cNil))) (cSl (cVar 1) (cPart (cVar 2)) cNoPart))) cNext)
    (cSeq (cIf (cB (cOp eqC (cVar 4) (cC (.int 1)))) (cRet (cOp addC (cSl (cVar 1) cNoPart (cPart (cVar 2))) (cSl (cVar 1) (cPart (cOp addC (cVar 2) (cC (.int 1)))) cNoPart))) cNext)
    (cSeq (cIf (cB (cOp eqC (cVar 4) (cC (.int 2)))) (cRet (cOp addC (cOp addC (cSl (cVar 1) cNoPart (cPart (cVar 2))) (cTup (cCons (cOp addC (cSl (cOp ixC (cVar 1) (cVar 2)) cNoPart (cPart (cC (.int 2)))) (cTup (cCons (cOp ixC (cVar 3) (cC (.int 2))) cNil))) cNil))) (cSl (cVar 1) (cPart (cOp addC (cVar 2) (cC (.int 1)))) cNoPart))) cNext)
    (cRet (cOp addC (cOp addC (cSl (cVar 1) cNoPart (cPart (cVar 2))) (cSl (cVar 1) (cPart (cOp addC (cVar 2) (cC (.int 1)))) cNoPart)) (cTup (cCons (cOp ixC (cVar 1) (cVar 2)) cNil))))))))))) F sc__law_near (fun _ _ _ _ _ _ us hl => match us, hl with | [_, _], _ => rfl) fun A outer s0 H E c hid er l eo => (fs_cons (fs_set (i := 2) l.b.nd rfl (by first | exact Or.inl rfl | exact Or.inr rfl) (fe_call h__law_roll (fun _ _ h => h) l.b l.pass eo (fe_cons (fe_pv (pv 0)) (fe_cons (fe_op (add_ok l.b) addC_ok (fe_callB (len_ok l.b) lenC_ok PySem.boot_len z_len (fe_cons (fe_pv (pv 1)) fe_nil)) fe_int) fe_nil))))
    (fs_cons (fs_set (i := 3) l.b.nd rfl (by first | exact Or.inl rfl | exact Or.inr rfl) (fe_tup (fe_cons (fe_call h__law_some (fun _ _ h => h) l.b l.pass eo (fe_cons (fe_pv (pv 0)) (fe_cons (fe_lst (fe_cons fe_str (fe_cons fe_str fe_nil))) fe_nil))) (fe_cons (fe_call h__law_some (fun _ _ h => h) l.b l.pass eo (fe_cons (fe_pv (pv 0)) (fe_cons (fe_lst (fe_cons fe_str (fe_cons fe_str (fe_cons fe_str fe_nil)))) fe_nil))) (fe_cons (fe_call h__law_wish (fun _ _ h => h) l.b l.pass eo (fe_cons (fe_pv (pv 0)) fe_nil)) fe_nil)))))
    (fs_cons (fs_set (i := 4) l.b.nd rfl (by first | exact Or.inl rfl | exact Or.inr rfl) (fe_call h__law_roll (fun _ _ h => h) l.b l.pass eo (fe_cons (fe_pv (pv 0)) (fe_cons fe_int fe_nil))))
    (fs_cons (fs_if (PW.pt (fw_or (ft_cmp (eq_ok l.b) eqC_ok (fe_pv (pv 2)) (fe_callB (len_ok l.b) lenC_ok PySem.boot_len z_len (fe_cons (fe_pv (pv 1)) fe_nil))) (pw_or1 (ft_cmp (eq_ok l.b) eqC_ok (fe_pv (pv 4)) fe_int)))) (fs_one (fs_ret (fe_op (add_ok l.b) addC_ok (fe_op (add_ok l.b) addC_ok (fe_slice l.b (fe_pv (pv 1)) fo_none (fo_some (fe_pv (pv 2)))) (fe_tup (fe_cons (fe_pv (pv 3)) fe_nil))) (fe_slice l.b (fe_pv (pv 1)) (fo_some (fe_pv (pv 2))) fo_none)))) fs_nil)
    (fs_cons (fs_if (ft_cmp (eq_ok l.b) eqC_ok (fe_pv (pv 4)) fe_int) (fs_one (fs_ret (fe_op (add_ok l.b) addC_ok (fe_slice l.b (fe_pv (pv 1)) fo_none (fo_some (fe_pv (pv 2)))) (fe_slice l.b (fe_pv (pv 1)) (fo_some (fe_op (add_ok l.b) addC_ok (fe_pv (pv 2)) fe_int)) fo_none)))) fs_nil)
    (fs_cons (fs_if (ft_cmp (eq_ok l.b) eqC_ok (fe_pv (pv 4)) fe_int) (fs_one (fs_ret (fe_op (add_ok l.b) addC_ok (fe_op (add_ok l.b) addC_ok (fe_slice l.b (fe_pv (pv 1)) fo_none (fo_some (fe_pv (pv 2)))) (fe_tup (fe_cons (fe_op (add_ok l.b) addC_ok (fe_slice l.b (fe_ix l.b ixC_ok (fe_pv (pv 1)) (fe_pv (pv 2))) fo_none (fo_some fe_int)) (fe_tup (fe_cons (fe_ix l.b ixC_ok (fe_pv (pv 3)) fe_int) fe_nil))) fe_nil))) (fe_slice l.b (fe_pv (pv 1)) (fo_some (fe_op (add_ok l.b) addC_ok (fe_pv (pv 2)) fe_int)) fo_none)))) fs_nil)
    (fs_one (fs_ret (fe_op (add_ok l.b) addC_ok (fe_op (add_ok l.b) addC_ok (fe_slice l.b (fe_pv (pv 1)) fo_none (fo_some (fe_pv (pv 2)))) (fe_slice l.b (fe_pv (pv 1)) (fo_some (fe_op (add_ok l.b) addC_ok (fe_pv (pv 2)) fe_int)) fo_none)) (fe_tup (fe_cons (fe_ix l.b ixC_ok (fe_pv (pv 1)) (fe_pv (pv 2))) fe_nil)))))))))))
abbrev s__law_odds_right : Stmt := top 50
abbrev N__law_odds_right : List Str := ["_law_one", "_law_other", "_law_deed", "_law_topics_here", "_law_told"]
theorem sc__law_odds_right : FnScope N__law_odds_right ["_law_one", "_law_other", "_law_deed", "_law_topics_here"] (defScope s__law_odds_right) := ⟨rfl, rfl, rfl, by decide +kernel, rfl, by decide +kernel, by decide +kernel⟩
theorem d__law_odds_right (F : At K mg "_law_odds_right" s__law_odds_right)  (h__law_lets : DHas P w K mg base T 2 "_law_lets" ["_law_rights_here", "_law_deed", "_law_topic"] (gR m__law_lets)) (h__law_words : DHas P w K mg base T 3 "_law_words" ["_law_rights_here", "_law_deed", "_law_topics_here"] (gR m__law_words)) (h_is_let : DHas P w K mg base T 9 "is_let" ["rights", "deed", "topic"] (gR m_is_let)) (h_is_topic : DHas P w K mg base T 4 "is_topic" ["value"] (gR m_is_topic)) (h_topic_at_odds : DHas P w K mg base T 9 "topic_at_odds" ["rights", "other_rights", "deed"] (gR m_topic_at_odds)) : DHas P w K mg base T 10 "_law_odds_right" ["_law_one", "_law_other", "_law_deed", "_law_topics_here"] (gR m__law_odds_right) :=
  okF (s := (cSeq (cSet 4 (cCall m_topic_at_odds (cCons (cVar 0) (cCons (cVar 1) (cCons (cVar 2) cNil)))))
    (cSeq (cIf (cB (cOp eqC (cCall m__law_words (cCons (cVar 0) (cCons (cVar 2) (cCons (cVar 3) cNil)))) (cCall m__law_words (cCons (cVar 1) (cCons (cVar 2) (cCons (cVar 3) cNil)))))) (cRet (cOp isC (cVar 4) (cC .none))) cNext)
    (cSeq (cIf (cOrT (cB (cOp isNotC (cCall m_is_topic (cCons (cVar 4) cNil)) (cC (.bool true)))) (cB (cOp eqC (cCall m_is_let (cCons (cVar 0) (cCons (cVar 2) (cCons (cVar 4) cNil)))) (cCall m_is_let (cCons (cVar 1) (cCons (cVar 2) (cCons (cVar 4) cNil))))))) (cRet (cC (.bool false))) cNext)
    (cRet (cOp neC (cCall m__law_lets (cCons (cVar 0) (cCons (cVar 2) (cCons (cVar 4) cNil)))) (cCall m__law_lets (cCons (cVar 1) (cCons (cVar 2) (cCons (cVar 4) cNil)))))))))) F sc__law_odds_right (fun _ _ _ _ _ _ us hl => match us, hl with | [_, _, _, _], _ => rfl) fun A outer s0 H E c hid er l eo => (fs_cons (fs_set (i := 4) l.b.nd rfl (by first | exact Or.inl rfl | exact Or.inr rfl) (fe_call h_topic_at_odds (fun _ _ h => h) l.b l.pass eo (fe_cons (fe_pv (pv 0)) (fe_cons (fe_pv (pv 1)) (fe_cons (fe_pv (pv 2)) fe_nil)))))
    (fs_cons (fs_if (ft_cmp (eq_ok l.b) eqC_ok (fe_call h__law_words (fun _ _ h => h) l.b l.pass eo (fe_cons (fe_pv (pv 0)) (fe_cons (fe_pv (pv 2)) (fe_cons (fe_pv (pv 3)) fe_nil)))) (fe_call h__law_words (fun _ _ h => h) l.b l.pass eo (fe_cons (fe_pv (pv 1)) (fe_cons (fe_pv (pv 2)) (fe_cons (fe_pv (pv 3)) fe_nil))))) (fs_one (fs_ret (fe_cmp is_ok isC_ok (fe_pv (pv 4)) fe_non))) fs_nil)
    (fs_cons (fs_if (PW.pt (fw_or (ft_cmp isNot_ok isC_ok (fe_call h_is_topic (fun _ _ h => h) l.b l.pass eo (fe_cons (fe_pv (pv 4)) fe_nil)) fe_bl) (pw_or1 (ft_cmp (eq_ok l.b) eqC_ok (fe_call h_is_let (fun _ _ h => h) l.b l.pass eo (fe_cons (fe_pv (pv 0)) (fe_cons (fe_pv (pv 2)) (fe_cons (fe_pv (pv 4)) fe_nil)))) (fe_call h_is_let (fun _ _ h => h) l.b l.pass eo (fe_cons (fe_pv (pv 1)) (fe_cons (fe_pv (pv 2)) (fe_cons (fe_pv (pv 4)) fe_nil)))))))) (fs_one (fs_ret fe_bl)) fs_nil)
    (fs_one (fs_ret (fe_cmp (ne_ok l.b) neC_ok (fe_call h__law_lets (fun _ _ h => h) l.b l.pass eo (fe_cons (fe_pv (pv 0)) (fe_cons (fe_pv (pv 2)) (fe_cons (fe_pv (pv 4)) fe_nil)))) (fe_call h__law_lets (fun _ _ h => h) l.b l.pass eo (fe_cons (fe_pv (pv 1)) (fe_cons (fe_pv (pv 2)) (fe_cons (fe_pv (pv 4)) fe_nil))))))))))

end
end Fl

set_option Elab.async false
set_option linter.all false
set_option maxRecDepth 100000
set_option maxHeartbeats 4000000
namespace Fl
open PySem PySem.Spec PyProof.Rows L2 Dl R
/-! ### to reckon by rewriting -/
theorem chk_t {α : Type} {b : Bool} {x : R α} (h : b = true) : chk b x = x := by rw [h]; rfl
theorem iff_t {α : Type} {b : Bool} {x y : R α} (h : b = true) : iff b x y = x := by rw [h]; rfl
theorem iff_f {α : Type} {b : Bool} {x y : R α} (h : b = false) : iff b x y = y := by rw [h]; rfl
theorem wp_ok {α : Type} {a : α} {q : α → Prop} {er : Str → Prop} : wp (ok a) q er = q a := rfl
theorem eqv_str (a b : Str) : PyData.eqv (.str a) (.str b) = decide (a = b) := by simp only [PyData.eqv]; rfl
theorem boolR_b {b : Bool} : boolR (.d (.bool b)) = ok b := rfl
theorem dR_d {d : PyData} : dR (.d d) = ok d := rfl
theorem intR_i {i : Int} : intR (.d (.int i)) = ok i := rfl
theorem seqR_l {l : List PyData} : seqR (.d (.list l)) = ok l := rfl
theorem retR_d {d : PyData} : retR (.d d) = .d d := rfl
theorem retR_o {l : List PyData} : retR (.own l) = .d (.list l) := rfl
theorem retR_c : retR .cup = .cup := rfl
theorem seqR_t {l : List PyData} : seqR (.d (.tuple l)) = ok l := rfl
theorem atR_0 {x : PyData} {l : List PyData} : atR (x :: l) 0 = ok (.d x) := by
  unfold atR
  rw [show atI (x :: l) 0 = some x from atI_nat (j := 0) rfl]
theorem atR_1 {x y : PyData} {l : List PyData} : atR (x :: y :: l) 1 = ok (.d y) := by
  unfold atR
  rw [show atI (x :: y :: l) 1 = some y from atI_nat (j := 1) rfl]
theorem atR_2 {x y z : PyData} {l : List PyData} : atR (x :: y :: z :: l) 2 = ok (.d z) := by
  unfold atR
  rw [show atI (x :: y :: z :: l) 2 = some z from atI_nat (j := 2) rfl]
local macro_rules | `(tactic| subst_eqs) => `(tactic| simp -implicitDefEqProofs (disch := first | assumption | decide +kernel | (simp only [Bool.and_eq_true, decide_eq_true_eq] <;> (try simp only [PyData.depth, PyData.depthAll]) <;> omega) | fail) only [body, lim, chk_t, iff_t, iff_f, boolR_b, dR_d, intR_i, seqR_l, seqR_t, cSeq, cIf, cNext, cSet, cRet, cRetN, cDrop, cBreak, cVar, cC, cTy, cFn, cOp, cUn, cNil, cCons, cB, cNot, cAndT, cOrT, cIfE, cAnd, cOr, cNotE, cTup, cLst, dsR, datas, notOwnB, bind_ok, bind_er, bind_no, bind_ch, wp_ok, eqv_str, retR_d, retR_o, retR_c, isinC, notInC, isC, isNotC, ltC, leC, gtC, geC, allC, anyC,
  cCall, cCall0, cCallN, cCallN0, cCallL, cFun, cSl, cPart, cNoPart, cIt, cLc, wipeR, cFor, cAsg, tgN, tgT, tgsCons, tgsNil, cPar, cParL, cOwnL, cApp, cRaise, cYes, addC, subC, mulC, modC, fdivC, eqC, twoR, asD, neC, cmpC, inC, isQC, isNonD, negC, lenC, isiC, listC, tupleC, absC, sliceC, revC, cRev, nr, cRng1, cRng2, cEnum, seqLR, cTop, ixC, atR_0, atR_1, atR_2, cChain,
  List.map_cons, List.map_nil, List.cons_append, List.nil_append, List.append_nil, List.getElem?_cons_zero, List.getElem?_cons_succ, List.set_cons_zero, List.set_cons_succ, List.replicate, List.all_cons, List.all_nil, List.length_cons, List.length_nil, Nat.zero_add, Nat.reduceAdd, Nat.reduceBEq, beq_self_eq_true,
  isa_str_none, isa_str_bool, isa_str_int, isa_str_str, isa_str_list, isa_str_tuple, isa_int_none, isa_int_bool, isa_int_int, isa_int_str, isa_int_list, isa_int_tuple, isa_bool_none, isa_bool_bool, isa_bool_int, isa_bool_str, isa_bool_list, isa_bool_tuple, isa_tuple_none, isa_tuple_bool, isa_tuple_int, isa_tuple_str, isa_tuple_list, isa_tuple_tuple, isa_list_none, isa_list_bool, isa_list_int, isa_list_str, isa_list_list, isa_list_tuple,
  Bool.false_eq_true, Bool.not_true, Bool.not_false, Bool.true_and, Bool.and_true, Bool.false_and, Bool.and_false, Bool.or_true, Bool.true_or, Bool.or_false, Bool.false_or, Bool.and_self, Bool.true_eq_false, reduceIte, id_eq, decide_true, decide_false, reduceCtorEq])
/-! ### what is known of loops -/
theorem atR_of {l : List PyData} {i : Nat} {x : PyData} (h : l[i]? = some x) : atR l (i : Nat) = ok (.d x) := by
  unfold atR
  rw [atI_nat h]
theorem lcR_map {α : Type} {g : CG} {t : CT} {a : CE} {ρ : Rho} (enc : α → PyData) (c : α → Bool) (e : α → PyData) : ∀ (l : List α), (∀ x ∈ l, ∃ ρ1, g (.d (enc x)) ρ = ok ρ1 ∧ t ρ1 = ok (c x) ∧ (c x = true → a ρ1 = ok (.d (e x)))) → lcR g t a ρ (l.map enc) = ok ((l.filter c).map e)
  | [], _ => rfl
  | x :: l, h => by
    obtain ⟨ρ1, h1, h2, h3⟩ := h x List.mem_cons_self
    have ih := lcR_map enc c e l fun y hy => h y (List.mem_cons_of_mem _ hy)
    show (g (.d (enc x)) ρ).bind _ = _
    rw [h1, bind_ok, h2, bind_ok, ih]
    cases ec : c x with
    | true =>
      rw [List.filter_cons, if_pos ec, List.map_cons]
      show (a ρ1).bind _ = _
      rw [h3 ec]
      rfl
    | false =>
      rw [List.filter_cons, if_neg (by rw [ec]; decide)]
      rfl
theorem bind_inv {α β : Type} {m : R α} {f : α → R β} {b : β} (h : m.bind f = ok b) : ∃ a, m = ok a ∧ f a = ok b := by
  cases m with
  | ok a => exact ⟨a, rfl, h⟩
  | er c => cases h
  | no => cases h
  | ch S k => cases h
/-- one turn of a list comprehension -/
def lcT1 (g : CG) (t : CT) (a : CE) (ρ : Rho) (x : PyData) : R (Option PyData) := (g (.d x) ρ).bind fun ρ1 => (t ρ1).bind fun b => iff b ((a ρ1).bind fun y => (dR y).bind fun y => ok (some y)) (ok none)
theorem lcR_of {α : Type} {g : CG} {t : CT} {a : CE} {ρ : Rho} (enc : α → PyData) (c : α → Bool) (e : α → PyData) : ∀ (l : List α), (∀ x ∈ l, lcT1 g t a ρ (enc x) = ok (if c x = true then some (e x) else none)) → lcR g t a ρ (l.map enc) = ok ((l.filter c).map e)
  | [], _ => rfl
  | x :: l, h => by
    have ih := lcR_of enc c e l fun y hy => h y (List.mem_cons_of_mem _ hy)
    have hx := h x List.mem_cons_self
    unfold lcT1 at hx
    obtain ⟨ρ1, h1, hx⟩ := bind_inv hx
    obtain ⟨b, h2, hx⟩ := bind_inv hx
    show (g (.d (enc x)) ρ).bind _ = _
    rw [h1, bind_ok, h2, bind_ok, ih]
    cases b with
    | true =>
      obtain ⟨y, h3, hx⟩ := bind_inv (show (a ρ1).bind _ = _ from hx)
      obtain ⟨z, h4, hx⟩ := bind_inv hx
      have hx := R.ok.inj hx
      have ec : c x = true := by
        cases ec : c x with
        | true => rfl
        | false => rw [ec] at hx; cases hx
      rw [if_pos ec] at hx
      cases hx
      rw [List.filter_cons, if_pos ec, List.map_cons]
      show (a ρ1).bind _ = _
      rw [h3, bind_ok, h4]
      rfl
    | false =>
      have hx : ok none = _ := hx
      have hx := R.ok.inj hx
      have ec : ¬ c x = true := fun ec => by rw [if_pos ec] at hx; cases hx
      rw [List.filter_cons, if_neg ec]
      rfl
/-- a loop by what holds ahead of each turn -/
theorem forR_wp {g : CG} {s : CS} {er : Str → Prop} {K : Out → Prop} {ds : List PyData} (J : Nat → Rho → Prop)
    (step : ∀ i x ρ, ds[i]? = some x → J i ρ → wp (g (.d x) ρ) (fun ρ1 => wp (s ρ1) (fun o => match o with
      | .nx ρ' => J (i + 1) ρ'
      | .ct ρ' => J (i + 1) ρ'
      | .bk ρ' => K (.nx ρ')
      | .rt v => K (.rt v)) er) er) (fin : ∀ ρ, J ds.length ρ → K (.nx ρ)) : ∀ (n i : Nat), i + n = ds.length → ∀ ρ, J i ρ → wp (forR g s (ds.drop i) ρ) K er
  | 0, i, e, ρ, h => by
    have e : i = ds.length := by omega
    subst e
    rw [List.drop_length]
    exact fin ρ h
  | n + 1, i, e, ρ, h => by
    have hi : i < ds.length := by omega
    rw [List.drop_eq_getElem_cons hi]
    unfold forR
    rw [wp_bind]
    refine wp_mono (fun ρ1 h1 => ?_) (step i _ ρ (List.getElem?_eq_getElem hi) h)
    rw [wp_bind]
    refine wp_mono (fun o h2 => ?_) h1
    cases o with
    | nx ρ' => exact forR_wp J step fin n (i + 1) (by omega) ρ' h2
    | ct ρ' => exact forR_wp J step fin n (i + 1) (by omega) ρ' h2
    | bk ρ' => exact h2
    | rt v => exact h2
theorem for_wp {g : CG} {s : CS} {er : Str → Prop} {K : Out → Prop} {ds : List PyData} {ρ : Rho} (J : Nat → Rho → Prop) (h0 : J 0 ρ)
    (step : ∀ i x ρ, ds[i]? = some x → J i ρ → wp (g (.d x) ρ) (fun ρ1 => wp (s ρ1) (fun o => match o with
      | .nx ρ' => J (i + 1) ρ'
      | .ct ρ' => J (i + 1) ρ'
      | .bk ρ' => K (.nx ρ')
      | .rt v => K (.rt v)) er) er) (fin : ∀ ρ, J ds.length ρ → K (.nx ρ)) : wp (forR g s ds ρ) K er := by
  have := forR_wp J step fin ds.length 0 (by omega) ρ h0
  rwa [List.drop_zero] at this
/-! ### rules, rights -/
theorem e_is_wish {z : Str} (h : z.length ≤ 1000) : m_is_wish [Dv.d (.str z)] = ok (.d (.bool (Bk.wishB z))) := chk_t (decide_eq_true h)
open Bk in
theorem e_is_rule {r : Rule3} (h : GoodR r) : m_is_rule [Dv.d (ruleOf r)] = ok (Dv.d (.bool true)) := by
  obtain ⟨a, b, c⟩ := r
  have hc := Nat.le_trans (wish_len h.z) (by decide : 35 ≤ 1000)
  have hz := h.z
  have hw := h.w
  have ho := h.o
  unfold m_is_rule ruleOf
  simp only [List.mem_cons, List.not_mem_nil, or_false] at hw ho hz hc
  rcases hw with rfl | rfl <;> rcases ho with rfl | rfl | rfl
  all_goals
    subst_eqs
    rw [e_is_wish hc, hz]
    subst_eqs
theorem foldB_of {f : List Bool → Bool} {l : List PyData} {bs : List Bool} (h : blsD l = some bs) : foldB f [.d (.list l)] = ok (.d (.bool (f bs))) := by
  simp only [foldB, h]
theorem blsD_map {α : Type} (f : α → Bool) : ∀ l : List α, blsD (l.map fun x => .bool (f x)) = some (l.map f)
  | [] => rfl
  | a :: r => by
    show (blsD (r.map fun x => .bool (f x))).map _ = _
    rw [blsD_map f r]
    rfl
theorem filt_t {α : Type} (l : List α) : (l.filter fun _ => true) = l := List.filter_eq_self.mpr fun _ _ => rfl
theorem look_rule : List.lookup (α := Str) "is_rule" tb_is_row = some m_is_rule := rfl
theorem e_are {rs : List Bk.Rule3} (h : Bk.Good rs) : m_are_rights [.d (Bk.rightsOf rs)] = ok (.d (.bool true)) := by
  have hl : (rs.map Bk.ruleOf).length ≤ 12 := by rw [List.length_map]; exact h.le
  unfold m_are_rights m_is_row Bk.rightsOf
  subst_eqs
  rw [lcR_of Bk.ruleOf (fun _ => true) (fun _ => .bool true) rs fun r hr => ?_]
  · rw [filt_t]
    subst_eqs
    rw [foldB_of (blsD_map (fun _ => true) rs)]
    have ha : ((rs.map fun _ => true).all id) = true := by rw [List.all_map]; exact List.all_eq_true.mpr fun _ _ => rfl
    rw [ha]
    subst_eqs
  · have e := e_is_rule (h.r r hr)
    unfold lcT1
    subst_eqs
    rw [look_rule]
    subst_eqs
    rw [e]
    subst_eqs
theorem e_check_rights {rs : List Bk.Rule3} (h : Bk.Good rs) : m_check_rights [.d (Bk.rightsOf rs)] = ok (.d .none) := by
  have e := e_are h
  unfold m_check_rights
  unfold Bk.rightsOf at e ⊢
  subst_eqs
  rw [e]
  subst_eqs
def rowD (r : Bk.Row) : PyData := .tuple [.str r.1, .str r.2]
theorem mem_two (a b s : Str) : memD [.str a, .str b] (.str s) = (decide (a = s) || decide (b = s)) := by
  unfold memD
  simp only [List.any_cons, List.any_nil, PyData.eqv, Bool.or_false]
  rfl
theorem for_mem (deed : Str) (r : Bk.Rule3) : memD [.str deed, .str "both"] (.str r.2.1) = Bk.forDeed deed r := by
  rw [mem_two]
  unfold Bk.forDeed inV
  simp only [List.any_cons, List.any_nil, Bool.or_false, eqV]
  rfl
theorem e_rows_for {rs : List Bk.Rule3} (h : rs.length ≤ 100) (deed : Str) : m_rows_for [.d (Bk.rightsOf rs), .d (.str deed)] = ok (.d (.list ((Bk.rowsOf rs deed).map rowD))) := by
  have hl : (rs.map Bk.ruleOf).length ≤ 100 := by rw [List.length_map]; exact h
  have el : rs.map Bk.ruleOf ++ [.tuple k_LAST_RULE] = (rs ++ [Bk.lastRule]).map Bk.ruleOf := by
    rw [List.map_append]; rfl
  have hl2 : ((rs ++ [Bk.lastRule]).map Bk.ruleOf).length ≤ 101 := by rw [← el, List.length_append]; simp; omega
  unfold m_rows_for Bk.rightsOf
  subst_eqs
  rw [el]
  subst_eqs
  rw [lcR_of Bk.ruleOf (Bk.forDeed deed) (fun r => rowD (r.1, r.2.2)) (rs ++ [Bk.lastRule]) fun r hr => ?_]
  · subst_eqs
    unfold Bk.rowsOf
    rw [List.map_map]
    rfl
  · unfold Bk.ruleOf lcT1
    subst_eqs
    rw [for_mem]
    cases Bk.forDeed deed r
    · subst_eqs
    · subst_eqs
      rfl
end Fl

set_option Elab.async false
set_option linter.all false
set_option maxRecDepth 100000
set_option maxHeartbeats 4000000
namespace Fl
open PySem PySem.Spec PyProof.Rows L2 Dl R
local macro_rules | `(tactic| subst_eqs) => `(tactic| simp -implicitDefEqProofs (disch := first | assumption | decide +kernel | (simp only [Bool.and_eq_true, decide_eq_true_eq] <;> (try simp only [PyData.depth, PyData.depthAll]) <;> omega) | fail) only [body, lim, chk_t, iff_t, iff_f, boolR_b, dR_d, intR_i, seqR_l, seqR_t, cSeq, cIf, cNext, cSet, cRet, cRetN, cDrop, cBreak, cVar, cC, cTy, cFn, cOp, cUn, cNil, cCons, cB, cNot, cAndT, cOrT, cIfE, cAnd, cOr, cNotE, cTup, cLst, dsR, datas, notOwnB, bind_ok, bind_er, bind_no, bind_ch, wp_ok, eqv_str, retR_d, retR_o, retR_c, isinC, notInC, isC, isNotC, ltC, leC, gtC, geC, allC, anyC,
  cCall, cCall0, cCallN, cCallN0, cCallL, cFun, cSl, cPart, cNoPart, cIt, cLc, wipeR, cFor, cAsg, tgN, tgT, tgsCons, tgsNil, cPar, cParL, cOwnL, cApp, cRaise, cYes, addC, subC, mulC, modC, fdivC, eqC, twoR, asD, neC, cmpC, inC, isQC, isNonD, negC, lenC, isiC, listC, tupleC, absC, sliceC, revC, cRev, nr, cRng1, cRng2, cEnum, seqLR, cTop, ixC, atR_0, atR_1, atR_2, cChain,
  List.map_cons, List.map_nil, List.cons_append, List.nil_append, List.append_nil, List.getElem?_cons_zero, List.getElem?_cons_succ, List.set_cons_zero, List.set_cons_succ, List.replicate, List.all_cons, List.all_nil, List.length_cons, List.length_nil, Nat.zero_add, Nat.reduceAdd, Nat.reduceBEq, beq_self_eq_true,
  isa_str_none, isa_str_bool, isa_str_int, isa_str_str, isa_str_list, isa_str_tuple, isa_int_none, isa_int_bool, isa_int_int, isa_int_str, isa_int_list, isa_int_tuple, isa_bool_none, isa_bool_bool, isa_bool_int, isa_bool_str, isa_bool_list, isa_bool_tuple, isa_tuple_none, isa_tuple_bool, isa_tuple_int, isa_tuple_str, isa_tuple_list, isa_tuple_tuple, isa_list_none, isa_list_bool, isa_list_int, isa_list_str, isa_list_list, isa_list_tuple,
  Bool.false_eq_true, Bool.not_true, Bool.not_false, Bool.true_and, Bool.and_true, Bool.false_and, Bool.and_false, Bool.or_true, Bool.true_or, Bool.or_false, Bool.false_or, Bool.and_self, Bool.true_eq_false, reduceIte, id_eq, decide_true, decide_false, reduceCtorEq])
/-! ### is_let, topic_told -/
theorem e_met {t u : Str} (h1 : t.length ≤ 1000) (h2 : u.length ≤ 1000) : m_is_met [.d (.str t), .d (.str u)] = ok (.d (.bool (Bk.metB t u))) := by
  unfold m_is_met
  exact chk_t (by rw [decide_eq_true h1, decide_eq_true h2]; rfl)
theorem e_lmet {t u : Str} (h1 : t.length ≤ 1000) (h2 : u.length ≤ 1000) : m__law_met [.d (.str t), .d (.str u)] = ok (.d (.bool (Bk.metB t u))) := e_met h1 h2
theorem e_ctopic {t : Str} (h : Bk.topicB t = true) : m_check_topic [.d (.str t)] = ok (.d .none) := chk_t h
theorem e_cdeed {t : Str} (h : t ∈ Bk.deeds2) : m_check_deed [.d (.str t)] = ok (.d .none) := chk_t (decide_eq_true h)
theorem find_filter {α : Type} (f : α → Bool) : ∀ l : List α, (l.filter f)[0]? = l.find? f
  | [] => rfl
  | a :: r => by
    rw [List.filter_cons, List.find?_cons]
    cases e : f a with
    | true => rw [if_pos rfl]; rfl
    | false => rw [if_neg (by decide)]; exact find_filter f r
theorem row_len {rs : List Bk.Rule3} (h : Bk.Good rs) {deed : Str} {r : Bk.Row} (hr : r ∈ Bk.rowsOf rs deed) : r.2.length ≤ 1000 := Nat.le_trans (Bk.wish_len ((Bk.rows_good h deed).1 r hr)) (by decide)
theorem e_is_let {rs : List Bk.Rule3} (h : Bk.Good rs) {deed t : Str} (hd : deed ∈ Bk.deeds2) (ht : Bk.topicB t = true) : m_is_let [.d (Bk.rightsOf rs), .d (.str deed), .d (.str t)] = ok (.d (.bool (Bk.lettB (Bk.rowsOf rs deed) t))) := by
  have e1 := e_check_rights h
  have e2 := e_cdeed hd
  have e3 := e_ctopic ht
  have e4 := e_rows_for (rs := rs) (Nat.le_trans h.le (by decide)) deed
  have hl : ((Bk.rowsOf rs deed).map rowD).length ≤ 13 := by rw [List.length_map]; exact (Bk.rows_good h deed).2
  have htl := Nat.le_trans (Bk.topic_len ht) (by decide : 35 ≤ 1000)
  unfold m_is_let
  subst_eqs
  rw [e1]
  subst_eqs
  rw [e2]
  subst_eqs
  rw [e3]
  subst_eqs
  rw [e4]
  subst_eqs
  rw [lcR_of rowD (fun r => Bk.metB t r.2) (fun r => .str r.1) (Bk.rowsOf rs deed) fun r hr => ?_]
  · subst_eqs
    obtain ⟨r, er⟩ := Bk.rows_find rs deed t
    have e5 := find_filter (fun r => Bk.metB t r.2) (Bk.rowsOf rs deed)
    rw [er] at e5
    have e6 : ((List.filter (fun r => Bk.metB t r.2) (Bk.rowsOf rs deed)).map fun r => PyData.str r.1)[0]? = some (.str r.1) := by rw [List.getElem?_map, e5]; rfl
    have e7 := atR_of e6
    rw [show ((0 : Nat) : Int) = 0 from rfl] at e7
    rw [e7]
    have e8 : Bk.lettB (Bk.rowsOf rs deed) t = decide (r.1 = "let") := by unfold Bk.lettB; rw [er]
    rw [e8]
    subst_eqs
  · have e := e_met htl (row_len h hr)
    unfold lcT1 rowD
    subst_eqs
    rw [e]
    cases Bk.metB t r.2
    · subst_eqs
    · subst_eqs
theorem cut_to (xs : List PyData) (n : Nat) : Dl.cutD xs none (some (n : Int)) = xs.take n := by
  unfold Dl.cutD
  rw [HT.sIx_none, HT.sIx_nat, List.drop_zero, Nat.sub_zero]
  by_cases h : n ≤ xs.length
  · rw [Nat.min_eq_left h]
  · rw [Nat.min_eq_right (by omega), List.take_of_length_le (Nat.le_refl _), List.take_of_length_le (by omega)]
theorem cut_from (xs : List PyData) (n : Nat) : Dl.cutD xs (some (n : Int)) none = xs.drop n := by
  unfold Dl.cutD
  rw [HT.sIx_none, HT.sIx_nat]
  by_cases h : n ≤ xs.length
  · rw [Nat.min_eq_left h, List.take_of_length_le (by rw [List.length_drop]; omega)]
  · rw [Nat.min_eq_right (by omega), List.drop_of_length_le (by omega), List.drop_of_length_le (by omega), List.take_nil]
theorem beyond_wp {u : Str} {os : List Str} {q : Dv → Prop} {er : Str → Prop} (hw : Bk.wishB u = true) (ho : ∀ o ∈ os, Bk.wishB o = true) (hl : os.length ≤ 100) (h1 : ∀ t, Bk.topicB t = true → Bk.metB t u = true → (∀ o ∈ os, Bk.metB t o = false) → q (.d (.str t)))
    (h2 : (∀ t, Bk.topicB t = true → Bk.metB t u = true → ∃ o ∈ os, Bk.metB t o = true) → q (.d .none)) : wp (m_topic_beyond [.d (.str u), .d (.list (os.map .str))]) q er := by
  unfold m_topic_beyond
  simp only [strsD_map]
  rw [chk_t (by rw [hw, List.all_eq_true.mpr ho, decide_eq_true hl]; rfl)]
  rintro d (⟨t, rfl, ht, hm, hn⟩ | ⟨rfl, hn⟩)
  · exact h1 t ht hm hn
  · refine h2 fun t ht hm => ?_
    refine Classical.byContradiction fun c => hn t ht ⟨hm, fun o ho => ?_⟩
    cases e : Bk.metB t o with
    | false => rfl
    | true => exact absurd ⟨o, ho, e⟩ c
theorem com_cases {u o : Str} (hw : Bk.wishB u = true) (ho : Bk.wishB o = true) : m_common_of [.d (.str u), .d (.str o)] = ok (.d (optD (Bk.comOf u o))) := by
  unfold m_common_of
  exact chk_t (by rw [hw, ho]; rfl)
theorem rows_snd (rows : List Bk.Row) (i : Nat) : ((rows.map rowD).take i) = (rows.take i).map rowD := by rw [List.map_take]
theorem e_firsts (g : CG) (ρ : Rho) (rows : List Bk.Row) (i j : Nat) (hg : ∀ r : Bk.Row, ∃ ρ1, g (.d (rowD r)) ρ = ok ρ1 ∧ ρ1[j]? = some (some (.d (.str r.2)))) : lcR g cYes (cVar j) ρ (rows.map rowD) = ok ((rows.map Prod.snd).map .str) := by
  rw [lcR_of rowD (fun _ => true) (fun r => .str r.2) rows fun r _ => ?_]
  · rw [filt_t, List.map_map]
    rfl
  · obtain ⟨ρ1, h1, h2⟩ := hg r
    unfold lcT1 cVar
    rw [h1]
    subst_eqs
    rw [h2]
    subst_eqs
def toldBody : CS := cSeq (cAsg (cOp ixC (cVar 0) (cVar 4)) (tgT 2 (tgsCons (tgN 5) (tgsCons (tgN 6) tgsNil))))
    (cSeq (cSet 7 (cIfE (cB (cOp eqC (cVar 5) (cVar 2))) (cCall m_common_of (cCons (cVar 3) (cCons (cVar 6) cNil))) (cC .none)))
    (cIf (cB (cOp isNotC (cVar 7) (cC .none))) (cSeq (cSet 8 (cCall m_topic_beyond (cCons (cVar 7) (cCons (cLc (cIt (cSl (cVar 0) cNoPart (cPart (cVar 4)))) (tgT 2 (tgsCons (tgN 9) (tgsCons (tgN 10) tgsNil))) cYes (cVar 10) [9, 10]) cNil))))
    (cIf (cB (cOp isNotC (cVar 8) (cC .none))) (cRet (cVar 8)) cNext)) cNext))
theorem told_body : m_topic_told = body 4 7 (cSeq (cFor (cRng2 (cVar 1) (cFun lenC (cCons (cVar 0) cNil))) (tgN 4) toldBody) (cRet (cC .none))) := rfl
theorem pair_row (r : Bk.Row) : rowD r = .tuple [.str r.1, .str r.2] := rfl
theorem told_turn {rows : List Bk.Row} {k : Nat} {asked wi : Str} {o1 o5 o6 o7 o8 : Option Dv} {r : Bk.Row} {q : Out → Prop} {er : Str → Prop} (hk : rows[k]? = some r) (hn : rows.length ≤ 50) (hw : ∀ r ∈ rows, Bk.wishB r.2 = true) (hwi : Bk.wishB wi = true)
    (h1 : r.1 = asked → ∀ t, Bk.topicB t = true → Bk.metB t wi = true → Bk.metB t r.2 = true → (∀ j r', j < k → rows[j]? = some r' → Bk.metB t r'.2 = false) → q (.rt (.d (.str t))))
    (h2 : (r.1 = asked → ∀ t, Bk.topicB t = true → Bk.metB t wi = true → Bk.metB t r.2 = true → ∃ j r', j < k ∧ rows[j]? = some r' ∧ Bk.metB t r'.2 = true) → ∀ o5 o6 o7 o8, q (.nx [some (.d (.list (rows.map rowD))), o1, some (.d (.str asked)), some (.d (.str wi)), some (.d (.int k)), o5, o6, o7, o8, none, none])) :
    wp (toldBody [some (.d (.list (rows.map rowD))), o1, some (.d (.str asked)), some (.d (.str wi)), some (.d (.int k)), o5, o6, o7, o8, none, none]) q er := by
  have hr : r ∈ rows := List.mem_of_getElem? hk
  have e1 : (rows.map rowD)[k]? = some (rowD r) := by rw [List.getElem?_map, hk]; rfl
  have hlen : ((rows.take k).map rowD).length ≤ 50 := by rw [List.length_map, List.length_take]; omega
  unfold toldBody
  subst_eqs
  rw [atR_of e1, pair_row]
  subst_eqs
  by_cases ea : r.1 = asked
  · rw [decide_eq_true ea]
    subst_eqs
    rw [com_cases hwi (hw r hr)]
    have ci := Bk.comOf_is hwi (hw r hr)
    cases ec : Bk.comOf wi r.2 with
    | none =>
      rw [ec] at ci
      unfold optD
      subst_eqs
      exact h2 (fun _ t ht hm ho => (ci t ht hm ho).elim) _ _ _ _
    | some z =>
      rw [ec] at ci
      unfold optD
      subst_eqs
      rw [cut_to, ← List.map_take]
      subst_eqs
      rw [e_firsts _ _ _ k 10 fun r => ⟨_, by rw [pair_row]; subst_eqs; rfl, rfl⟩]
      subst_eqs
      rw [wp_bind, wp_bind]
      refine beyond_wp ci.1 (fun o ho => ?_) (by rw [List.length_map, List.length_take]; omega) (fun t ht hm hno => ?_) (fun hall => ?_)
      · obtain ⟨r', hr', rfl⟩ := List.mem_map.mp ho
        exact hw r' (List.mem_of_mem_take hr')
      · subst_eqs
        have hb := (ci.2 t ht).mp hm
        refine h1 ea t ht hb.1 hb.2 fun j r' hj er' => hno _ (List.mem_map.mpr ⟨r', ?_, rfl⟩)
        exact List.mem_of_getElem? (i := j) (by rw [List.getElem?_take_of_lt hj]; exact er')
      · subst_eqs
        refine h2 (fun _ t ht hm ho => ?_) _ _ _ _
        obtain ⟨o, ho', hmo⟩ := hall t ht ((ci.2 t ht).mpr ⟨hm, ho⟩)
        obtain ⟨r', hr', rfl⟩ := List.mem_map.mp ho'
        obtain ⟨j, hj⟩ := List.getElem?_of_mem hr'
        have hj' : j < k := by
          have := (List.getElem?_eq_some_iff.mp hj).1
          rw [List.length_take] at this
          omega
        rw [List.getElem?_take_of_lt hj'] at hj
        exact ⟨j, r', hj', hj, hmo⟩
  · rw [decide_eq_false ea]
    subst_eqs
    exact h2 (fun z => absurd z ea) _ _ _ _
theorem told_wp {rows : List Bk.Row} {start : Nat} {asked wi : Str} {q : Dv → Prop} {er : Str → Prop} (hw : ∀ r ∈ rows, Bk.wishB r.2 = true) (hn : rows.length ≤ 50) (hs : start ≤ 50) (hwi : Bk.wishB wi = true)
    (h1 : ∀ t, Bk.topicB t = true → Bk.metB t wi = true → Bk.Told rows start asked t → q (.d (.str t))) (h2 : (∀ t, Bk.topicB t = true → Bk.metB t wi = true → ¬ Bk.Told rows start asked t) → q (.d .none)) : wp (m_topic_told [.d (.list (rows.map rowD)), .d (.int start), .d (.str asked), .d (.str wi)]) q er := by
  rw [told_body]
  have sm1 : smallC (start : Int) = true := smallC_ok (by omega) (by omega)
  have hl : (rows.map rowD).length ≤ 50 := by rw [List.length_map]; exact hn
  have sm2 : smallC ((rows.map rowD).length : Int) = true := smallC_ok (by omega) (by omega)
  subst_eqs
  rw [sm1, sm2]
  subst_eqs
  rw [wp_bind, wp_bind]
  have hd : (((rows.map rowD).length : Int) - (start : Int)).toNat = rows.length - start := by rw [List.length_map]; omega
  rw [hd]
  have il : (intsD (start : Int) (rows.length - start)).length = rows.length - start := by unfold intsD; rw [List.length_map, List.length_range]
  refine for_wp (fun i ρ => (∃ o4 o5 o6 o7 o8, ρ = [some (.d (.list (rows.map rowD))), some (.d (.int start)), some (.d (.str asked)), some (.d (.str wi)), o4, o5, o6, o7, o8, none, none]) ∧
      ∀ k told, start ≤ k → k < start + i → rows[k]? = some (asked, told) → ∀ t, Bk.topicB t = true → Bk.metB t wi = true → Bk.metB t told = true → ∃ j r, j < k ∧ rows[j]? = some r ∧ Bk.metB t r.2 = true)
    ⟨⟨_, _, _, _, _, rfl⟩, fun k _ h1 h2 => by omega⟩ ?_ ?_
  · rintro i x ρ ex ⟨⟨o4, o5, o6, o7, o8, rfl⟩, all⟩
    have hi : i < rows.length - start := by
      have := (List.getElem?_eq_some_iff.mp ex).1
      omega
    rw [intsD_at hi] at ex
    obtain rfl := Option.some.inj ex
    obtain ⟨r, er'⟩ : ∃ r, rows[start + i]? = some r := ⟨_, List.getElem?_eq_getElem (by omega)⟩
    rw [show (start : Int) + ((i : Nat) : Int) = ((start + i : Nat) : Int) by omega]
    subst_eqs
    refine told_turn er' hn hw hwi (fun ea t ht hm ho hno => ?_) (fun hall p5 p6 p7 p8 => ?_)
    · subst_eqs
      exact h1 t ht hm ⟨start + i, r.2, by omega, by rw [er', ← ea], ho, hno⟩
    · refine ⟨⟨_, _, _, _, _, rfl⟩, fun k told hk1 hk2 hk3 => ?_⟩
      by_cases e : k = start + i
      · subst e
        rw [er'] at hk3
        obtain rfl := Option.some.inj hk3
        exact hall rfl
      · exact all k told hk1 (by omega) hk3
  · rintro ρ ⟨_, all⟩
    subst_eqs
    refine h2 fun t ht hm ⟨k, told, hk1, hk2, hk3, hk4⟩ => ?_
    have hkl := (List.getElem?_eq_some_iff.mp hk2).1
    obtain ⟨j, r, hj, er', hr⟩ := all k told hk1 (by rw [il]; omega) hk2 t ht hm hk3
    rw [hk4 j r hj er'] at hr
    cases hr
/-! ### what one lets and the other bars -/
theorem enum_at {ds : List PyData} {i : Nat} {x : PyData} (h : (enumD ds)[i]? = some x) : ∃ d, ds[i]? = some d ∧ x = pairD (.int (i : Nat)) d := by
  unfold enumD at h
  rw [List.getElem?_mapIdx] at h
  cases e : ds[i]? with
  | none => rw [e] at h; cases h
  | some d => rw [e] at h; exact ⟨d, rfl, (Option.some.inj h).symm⟩
def oneInner : CS := cSeq (cSet 11 (cIfE (cB (cOp eqC (cTup (cCons (cVar 6) (cCons (cVar 9) cNil))) (cTup (cCons (cC (.str "let")) (cCons (cC (.str "bar")) cNil))))) (cCall m_common_of (cCons (cVar 7) (cCons (cVar 10) cNil))) (cC .none)))
    (cIf (cB (cOp isNotC (cVar 11) (cC .none))) (cSeq (cSet 12 (cLc (cIt (cOp addC (cSl (cVar 3) cNoPart (cPart (cVar 5))) (cSl (cVar 4) cNoPart (cPart (cVar 8))))) (tgT 2 (tgsCons (tgN 13) (tgsCons (tgN 14) tgsNil))) cYes (cVar 14) [13, 14]))
    (cSeq (cSet 15 (cCall m_topic_beyond (cCons (cVar 11) (cCons (cVar 12) cNil))))
    (cIf (cB (cOp isNotC (cVar 15) (cC .none))) (cRet (cVar 15)) cNext))) cNext)
theorem one_body : m_topic_let_by_one = body 3 13 (cSeq (cPar 3 4 (cCons (cCall m_rows_for (cCons (cVar 0) (cCons (cVar 2) cNil))) (cCons (cCall m_rows_for (cCons (cVar 1) (cCons (cVar 2) cNil))) cNil)))
    (cSeq (cFor (cEnum (cVar 3)) (tgT 2 (tgsCons (tgN 5) (tgsCons (tgT 2 (tgsCons (tgN 6) (tgsCons (tgN 7) tgsNil))) tgsNil))) (cFor (cEnum (cVar 4)) (tgT 2 (tgsCons (tgN 8) (tgsCons (tgT 2 (tgsCons (tgN 9) (tgsCons (tgN 10) tgsNil))) tgsNil))) oneInner)) (cRet (cC .none)))) := rfl
theorem let_bar {a b : Str} : PyData.eqv (.tuple [.str a, .str b]) (.tuple [.str "let", .str "bar"]) = (decide (a = "let") && decide (b = "bar")) := by
  simp only [PyData.eqv, PyData.eqvAll, Bool.and_true]
  rfl
abbrev rowsS (rows : List Bk.Row) : Option Dv := some (.d (.list (rows.map rowD)))
theorem one_turn {rows others : List Bk.Row} {i k : Nat} {a0 a1 a2 o11 o12 o13 o14 o15 : Option Dv} {r r' : Bk.Row} {q : Out → Prop} {er : Str → Prop} (hi : rows[i]? = some r) (hk : others[k]? = some r') (hn : rows.length ≤ 50) (hn' : others.length ≤ 50) (hw : ∀ r ∈ rows, Bk.wishB r.2 = true) (hw' : ∀ r ∈ others, Bk.wishB r.2 = true)
    (h1 : r.1 = "let" → r'.1 = "bar" → ∀ t, Bk.topicB t = true → Bk.metB t r.2 = true → Bk.metB t r'.2 = true → (∀ j s, j < i → rows[j]? = some s → Bk.metB t s.2 = false) → (∀ j s, j < k → others[j]? = some s → Bk.metB t s.2 = false) → q (.rt (.d (.str t))))
    (h2 : (r.1 = "let" → r'.1 = "bar" → ∀ t, Bk.topicB t = true → Bk.metB t r.2 = true → Bk.metB t r'.2 = true → (∃ j s, j < i ∧ rows[j]? = some s ∧ Bk.metB t s.2 = true) ∨ ∃ j s, j < k ∧ others[j]? = some s ∧ Bk.metB t s.2 = true) → ∀ o11 o12 o15,
      q (.nx [a0, a1, a2, rowsS rows, rowsS others, some (.d (.int i)), some (.d (.str r.1)), some (.d (.str r.2)), some (.d (.int k)), some (.d (.str r'.1)), some (.d (.str r'.2)), o11, o12, o13, o14, o15])) :
    wp (oneInner [a0, a1, a2, rowsS rows, rowsS others, some (.d (.int i)), some (.d (.str r.1)), some (.d (.str r.2)), some (.d (.int k)), some (.d (.str r'.1)), some (.d (.str r'.2)), o11, o12, o13, o14, o15]) q er := by
  have hr : r ∈ rows := List.mem_of_getElem? hi
  have hr' : r' ∈ others := List.mem_of_getElem? hk
  have l1 : ((rows.map rowD).take i).length ≤ 50 := by rw [List.length_take, List.length_map]; omega
  have l2 : ((others.map rowD).take k).length ≤ 50 := by rw [List.length_take, List.length_map]; omega
  have l3 : ((rows.take i ++ others.take k).map rowD).length ≤ 100 := by rw [List.length_map, List.length_append, List.length_take, List.length_take]; omega
  unfold oneInner
  subst_eqs
  rw [let_bar]
  by_cases ea : r.1 = "let" ∧ r'.1 = "bar"
  · rw [decide_eq_true ea.1, decide_eq_true ea.2]
    subst_eqs
    rw [com_cases (hw r hr) (hw' r' hr')]
    have ci := Bk.comOf_is (hw r hr) (hw' r' hr')
    cases ec : Bk.comOf r.2 r'.2 with
    | none =>
      rw [ec] at ci
      unfold optD
      subst_eqs
      exact h2 (fun _ _ t ht hm ho => (ci t ht hm ho).elim) _ _ _
    | some z =>
      rw [ec] at ci
      unfold optD
      subst_eqs
      rw [cut_to, cut_to]
      subst_eqs
      rw [← List.map_take, ← List.map_take, ← List.map_append]
      subst_eqs
      rw [e_firsts _ _ _ 0 14 fun r => ⟨_, by rw [pair_row]; subst_eqs; rfl, rfl⟩]
      subst_eqs
      rw [wp_bind, wp_bind]
      refine beyond_wp ci.1 (fun o ho => ?_) (by rw [List.length_map]; rw [List.length_map] at l3; exact l3) (fun t ht hm hno => ?_) (fun hall => ?_)
      · obtain ⟨s, hs, rfl⟩ := List.mem_map.mp ho
        rcases List.mem_append.mp hs with hs | hs
        · exact hw s (List.mem_of_mem_take hs)
        · exact hw' s (List.mem_of_mem_take hs)
      · subst_eqs
        have hb := (ci.2 t ht).mp hm
        refine h1 ea.1 ea.2 t ht hb.1 hb.2 (fun j s hj es => hno _ (List.mem_map.mpr ⟨s, List.mem_append.mpr (.inl ?_), rfl⟩)) fun j s hj es => hno _ (List.mem_map.mpr ⟨s, List.mem_append.mpr (.inr ?_), rfl⟩)
        · exact List.mem_of_getElem? (i := j) (by rw [List.getElem?_take_of_lt hj]; exact es)
        · exact List.mem_of_getElem? (i := j) (by rw [List.getElem?_take_of_lt hj]; exact es)
      · subst_eqs
        refine h2 (fun _ _ t ht hm ho => ?_) _ _ _
        obtain ⟨o, ho', hmo⟩ := hall t ht ((ci.2 t ht).mpr ⟨hm, ho⟩)
        obtain ⟨s, hs, rfl⟩ := List.mem_map.mp ho'
        have tk : ∀ {l : List Bk.Row} {n : Nat}, s ∈ l.take n → ∃ j s', j < n ∧ l[j]? = some s' ∧ Bk.metB t s'.2 = true := fun {l n} hs => by
          obtain ⟨j, hj⟩ := List.getElem?_of_mem hs
          have hj' : j < n := by
            have := (List.getElem?_eq_some_iff.mp hj).1
            rw [List.length_take] at this
            omega
          rw [List.getElem?_take_of_lt hj'] at hj
          exact ⟨j, s, hj', hj, hmo⟩
        rcases List.mem_append.mp hs with hs | hs
        · exact .inl (tk hs)
        · exact .inr (tk hs)
  · have e : (decide (r.1 = "let") && decide (r'.1 = "bar")) = false := by
      rw [Bool.and_eq_false_iff, decide_eq_false_iff_not, decide_eq_false_iff_not]
      by_cases c : r.1 = "let"
      · exact .inr fun d => ea ⟨c, d⟩
      · exact .inl c
    rw [e]
    subst_eqs
    exact h2 (fun z1 z2 => absurd ⟨z1, z2⟩ ea) _ _ _
end Fl

set_option Elab.async false
set_option linter.all false
set_option maxRecDepth 100000
set_option maxHeartbeats 4000000
namespace Fl
open PySem PySem.Spec PyProof.Rows L2 Dl R
local macro_rules | `(tactic| subst_eqs) => `(tactic| simp -implicitDefEqProofs (disch := first | assumption | decide +kernel | (simp only [Bool.and_eq_true, decide_eq_true_eq] <;> (try simp only [PyData.depth, PyData.depthAll]) <;> omega) | fail) only [body, lim, chk_t, iff_t, iff_f, boolR_b, dR_d, intR_i, seqR_l, seqR_t, cSeq, cIf, cNext, cSet, cRet, cRetN, cDrop, cBreak, cVar, cC, cTy, cFn, cOp, cUn, cNil, cCons, cB, cNot, cAndT, cOrT, cIfE, cAnd, cOr, cNotE, cTup, cLst, dsR, datas, notOwnB, bind_ok, bind_er, bind_no, bind_ch, wp_ok, eqv_str, retR_d, retR_o, retR_c, isinC, notInC, isC, isNotC, ltC, leC, gtC, geC, allC, anyC,
  cCall, cCall0, cCallN, cCallN0, cCallL, cFun, cSl, cPart, cNoPart, cIt, cLc, wipeR, cFor, cAsg, tgN, tgT, tgsCons, tgsNil, cPar, cParL, cOwnL, cApp, cRaise, cYes, addC, subC, mulC, modC, fdivC, eqC, twoR, asD, neC, cmpC, inC, isQC, isNonD, negC, lenC, isiC, listC, tupleC, absC, sliceC, revC, cRev, nr, cRng1, cRng2, cEnum, seqLR, cTop, ixC, atR_0, atR_1, atR_2, cChain,
  List.map_cons, List.map_nil, List.cons_append, List.nil_append, List.append_nil, List.getElem?_cons_zero, List.getElem?_cons_succ, List.set_cons_zero, List.set_cons_succ, List.replicate, List.all_cons, List.all_nil, List.length_cons, List.length_nil, Nat.zero_add, Nat.reduceAdd, Nat.reduceBEq, beq_self_eq_true,
  isa_str_none, isa_str_bool, isa_str_int, isa_str_str, isa_str_list, isa_str_tuple, isa_int_none, isa_int_bool, isa_int_int, isa_int_str, isa_int_list, isa_int_tuple, isa_bool_none, isa_bool_bool, isa_bool_int, isa_bool_str, isa_bool_list, isa_bool_tuple, isa_tuple_none, isa_tuple_bool, isa_tuple_int, isa_tuple_str, isa_tuple_list, isa_tuple_tuple, isa_list_none, isa_list_bool, isa_list_int, isa_list_str, isa_list_list, isa_list_tuple,
  Bool.false_eq_true, Bool.not_true, Bool.not_false, Bool.true_and, Bool.and_true, Bool.false_and, Bool.and_false, Bool.or_true, Bool.true_or, Bool.or_false, Bool.false_or, Bool.and_self, Bool.true_eq_false, reduceIte, id_eq, decide_true, decide_false, reduceCtorEq])
/-! ### a topic that one lets and the other bars -/
def LetBy (rows others : List Bk.Row) (t : Str) : Prop := Bk.Told rows 0 "let" t ∧ Bk.Told others 0 "bar" t
theorem one_wp {rs ss : List Bk.Rule3} (h : Bk.Good rs) (h' : Bk.Good ss) {deed : Str} {q : Dv → Prop} {er : Str → Prop}
    (h1 : ∀ t, Bk.topicB t = true → LetBy (Bk.rowsOf rs deed) (Bk.rowsOf ss deed) t → q (.d (.str t))) (h2 : (∀ t, Bk.topicB t = true → ¬ LetBy (Bk.rowsOf rs deed) (Bk.rowsOf ss deed) t) → q (.d .none)) : wp (m_topic_let_by_one [.d (Bk.rightsOf rs), .d (Bk.rightsOf ss), .d (.str deed)]) q er := by
  have e1 := e_rows_for (rs := rs) (Nat.le_trans h.le (by decide)) deed
  have e2 := e_rows_for (rs := ss) (Nat.le_trans h'.le (by decide)) deed
  obtain ⟨hw, hn⟩ := Bk.rows_good h deed
  obtain ⟨hw', hn'⟩ := Bk.rows_good h' deed
  obtain ⟨rows, er1⟩ : ∃ rows, rows = Bk.rowsOf rs deed := ⟨_, rfl⟩
  obtain ⟨others, er2⟩ : ∃ rows, rows = Bk.rowsOf ss deed := ⟨_, rfl⟩
  rw [← er1] at e1 hw hn h1 h2
  rw [← er2] at e2 hw' hn' h1 h2
  rw [one_body]
  subst_eqs
  rw [e1]
  subst_eqs
  rw [e2]
  subst_eqs
  rw [wp_bind, wp_bind]
  have il : ∀ l : List Bk.Row, (enumD (l.map rowD)).length = l.length := fun l => by rw [enumD_len, List.length_map]
  have at' : ∀ (l : List Bk.Row) (i : Nat) (x : PyData), (enumD (l.map rowD))[i]? = some x → ∃ r, l[i]? = some r ∧ x = .tuple [.int (i : Nat), .tuple [.str r.1, .str r.2]] := fun l i x e => by
    obtain ⟨d, ed, rfl⟩ := enum_at e
    rw [List.getElem?_map] at ed
    cases er : l[i]? with
    | none => rw [er] at ed; cases ed
    | some r => rw [er] at ed; cases ed; exact ⟨r, rfl, rfl⟩
  -- no topic so far: rows ahead of i with all others
  let No (i : Nat) : Prop := ∀ j s, j < i → rows[j]? = some s → s.1 = "let" → ∀ t, Bk.topicB t = true → Bk.metB t s.2 = true → (∀ a b, a < j → rows[a]? = some b → Bk.metB t b.2 = false) → ¬ Bk.Told others 0 "bar" t
  refine for_wp (fun i ρ => (∃ a0 a1 a2 o5 o6 o7 o8 o9 o10 o11 o12 o13 o14 o15, ρ = [a0, a1, a2, rowsS rows, rowsS others, o5, o6, o7, o8, o9, o10, o11, o12, o13, o14, o15]) ∧ No i) ⟨⟨_, _, _, _, _, _, _, _, _, _, _, _, _, _, rfl⟩, fun j s hj => by omega⟩ ?_ ?_
  · rintro i x ρ ex ⟨⟨a0, a1, a2, o5, o6, o7, o8, o9, o10, o11, o12, o13, o14, o15, rfl⟩, no⟩
    obtain ⟨r, hr, rfl⟩ := at' rows i x ex
    subst_eqs
    refine for_wp (fun k ρ => (∃ o8 o9 o10 o11 o12 o13 o14 o15, ρ = [a0, a1, a2, rowsS rows, rowsS others, some (.d (.int i)), some (.d (.str r.1)), some (.d (.str r.2)), o8, o9, o10, o11, o12, o13, o14, o15]) ∧
        (r.1 = "let" → ∀ k' s, k' < k → others[k']? = some s → s.1 = "bar" → ∀ t, Bk.topicB t = true → Bk.metB t r.2 = true → (∀ a b, a < i → rows[a]? = some b → Bk.metB t b.2 = false) → Bk.metB t s.2 = true → (∀ a b, a < k' → others[a]? = some b → Bk.metB t b.2 = false) → False)) ⟨⟨_, _, _, _, _, _, _, _, rfl⟩, fun _ k' s hk => by omega⟩ ?_ ?_
    · rintro k x ρ ex ⟨⟨p8, p9, p10, p11, p12, p13, p14, p15, rfl⟩, none⟩
      obtain ⟨r', hr', rfl⟩ := at' others k x ex
      subst_eqs
      refine one_turn hr hr' (by omega) (by omega) hw hw' (fun ea eb t ht hm hm' n1 n2 => ?_) (fun hall p11 p12 p15 => ?_)
      · subst_eqs
        exact h1 t ht ⟨⟨i, r.2, by omega, by rw [hr, ← ea], hm, n1⟩, ⟨k, r'.2, by omega, by rw [hr', ← eb], hm', n2⟩⟩
      · refine ⟨⟨_, _, _, _, _, _, _, _, rfl⟩, fun ea k' s hk hs eb t ht hm n1 hm' n2 => ?_⟩
        by_cases e : k' = k
        · subst e
          rw [hr'] at hs
          obtain rfl := Option.some.inj hs
          rcases hall ea eb t ht hm hm' with ⟨j, s, hj, es, z⟩ | ⟨j, s, hj, es, z⟩
          · rw [n1 j s hj es] at z; cases z
          · rw [n2 j s hj es] at z; cases z
        · exact none ea k' s (by omega) hs eb t ht hm n1 hm' n2
    · rintro ρ ⟨⟨p8, p9, p10, p11, p12, p13, p14, p15, rfl⟩, none⟩
      refine ⟨⟨_, _, _, _, _, _, _, _, _, _, _, _, _, _, rfl⟩, fun j s hj hs ea t ht hm n1 => ?_⟩
      by_cases e : j = i
      · subst e
        rw [hr] at hs
        obtain rfl := Option.some.inj hs
        rintro ⟨k, told, _, hk, hm', n2⟩
        have hkl := (List.getElem?_eq_some_iff.mp hk).1
        exact none ea k _ (by rw [il]; exact hkl) hk rfl t ht hm n1 hm' n2
      · exact no j s (by omega) hs ea t ht hm n1
  · rintro ρ ⟨_, no⟩
    subst_eqs
    refine h2 fun t ht ⟨⟨j, told, _, hj, hm, n1⟩, hb⟩ => ?_
    have hjl := (List.getElem?_eq_some_iff.mp hj).1
    exact no j _ (by rw [il]; exact hjl) hj rfl t ht hm n1 hb
/-- the two let otherwise -/
def Odds (rs ss : List Bk.Rule3) (deed t : Str) : Prop := Bk.lawLets rs deed t ≠ Bk.lawLets ss deed t
theorem letBy_iff {rs ss : List Bk.Rule3} (h' : Bk.Good ss) (deed t : Str) : LetBy (Bk.rowsOf rs deed) (Bk.rowsOf ss deed) t ↔ Bk.lawLets rs deed t = true ∧ Bk.lawLets ss deed t = false := by
  unfold LetBy
  rw [Bk.told_let, Bk.told_bar h', Bk.lets_eq, Bk.lets_eq]
theorem apart_wp {rs ss : List Bk.Rule3} (h : Bk.Good rs) (h' : Bk.Good ss) {deed : Str} {q : Dv → Prop} {er : Str → Prop}
    (h1 : ∀ t, Bk.topicB t = true → Odds rs ss deed t → q (.d (.str t))) (h2 : (∀ t, Bk.topicB t = true → ¬ Odds rs ss deed t) → q (.d .none)) : wp (m_topic_apart [.d (Bk.rightsOf rs), .d (Bk.rightsOf ss), .d (.str deed)]) q er := by
  unfold m_topic_apart
  subst_eqs
  rw [wp_bind, wp_bind, wp_bind]
  refine one_wp h h' (fun t ht lb => ?_) fun no => ?_
  · rw [letBy_iff h'] at lb
    subst_eqs
    exact h1 t ht (by unfold Odds; rw [lb.1, lb.2]; decide)
  · subst_eqs
    rw [wp_bind]
    refine one_wp h' h (fun t ht lb => ?_) fun no' => ?_
    · rw [letBy_iff h] at lb
      subst_eqs
      exact h1 t ht (by unfold Odds; rw [lb.1, lb.2]; decide)
    · subst_eqs
      refine h2 fun t ht od => ?_
      have n1 := no t ht
      have n2 := no' t ht
      rw [letBy_iff h'] at n1
      rw [letBy_iff h] at n2
      unfold Odds at od
      cases e1 : Bk.lawLets rs deed t <;> cases e2 : Bk.lawLets ss deed t
      · exact od (by rw [e1, e2])
      · exact n2 ⟨e2, e1⟩
      · exact n1 ⟨e1, e2⟩
      · exact od (by rw [e1, e2])
theorem odds_wp {rs ss : List Bk.Rule3} (h : Bk.Good rs) (h' : Bk.Good ss) {deed : Str} (hd : deed ∈ Bk.deeds2) {q : Dv → Prop} {er : Str → Prop}
    (h1 : ∀ t, Bk.topicB t = true → Odds rs ss deed t → q (.d (.str t))) (h2 : (∀ t, Bk.topicB t = true → ¬ Odds rs ss deed t) → q (.d .none)) : wp (m_topic_at_odds [.d (Bk.rightsOf rs), .d (Bk.rightsOf ss), .d (.str deed)]) q er := by
  have e1 := e_check_rights h
  have e2 := e_check_rights h'
  have e3 := e_cdeed hd
  unfold m_topic_at_odds
  subst_eqs
  rw [e1]
  subst_eqs
  rw [e2]
  subst_eqs
  rw [e3]
  subst_eqs
  rw [wp_bind, wp_bind]
  refine apart_wp h h' (fun t ht od => ?_) fun no => ?_
  · subst_eqs
    exact h1 t ht od
  · subst_eqs
    exact h2 no
end Fl

set_option Elab.async false
set_option linter.all false
set_option maxRecDepth 100000
set_option maxHeartbeats 4000000
namespace Fl
open PySem PySem.Spec PyProof.Rows L2 Dl R
local macro_rules | `(tactic| subst_eqs) => `(tactic| simp -implicitDefEqProofs (disch := first | assumption | decide +kernel | (simp only [Bool.and_eq_true, decide_eq_true_eq] <;> (try simp only [PyData.depth, PyData.depthAll]) <;> omega) | fail) only [body, lim, chk_t, iff_t, iff_f, boolR_b, dR_d, intR_i, seqR_l, seqR_t, cSeq, cIf, cNext, cSet, cRet, cRetN, cDrop, cBreak, cVar, cC, cTy, cFn, cOp, cUn, cNil, cCons, cB, cNot, cAndT, cOrT, cIfE, cAnd, cOr, cNotE, cTup, cLst, dsR, datas, notOwnB, bind_ok, bind_er, bind_no, bind_ch, wp_ok, eqv_str, retR_d, retR_o, retR_c, isinC, notInC, isC, isNotC, ltC, leC, gtC, geC, allC, anyC,
  cCall, cCall0, cCallN, cCallN0, cCallL, cFun, cSl, cPart, cNoPart, cIt, cLc, wipeR, cFor, cAsg, tgN, tgT, tgsCons, tgsNil, cPar, cParL, cOwnL, cApp, cRaise, cYes, addC, subC, mulC, modC, fdivC, eqC, twoR, asD, neC, cmpC, inC, isQC, isNonD, negC, lenC, isiC, listC, tupleC, absC, sliceC, revC, cRev, nr, cRng1, cRng2, cEnum, seqLR, cTop, ixC, atR_0, atR_1, atR_2, cChain,
  List.map_cons, List.map_nil, List.cons_append, List.nil_append, List.append_nil, List.getElem?_cons_zero, List.getElem?_cons_succ, List.set_cons_zero, List.set_cons_succ, List.replicate, List.all_cons, List.all_nil, List.length_cons, List.length_nil, Nat.zero_add, Nat.reduceAdd, Nat.reduceBEq, beq_self_eq_true,
  isa_str_none, isa_str_bool, isa_str_int, isa_str_str, isa_str_list, isa_str_tuple, isa_int_none, isa_int_bool, isa_int_int, isa_int_str, isa_int_list, isa_int_tuple, isa_bool_none, isa_bool_bool, isa_bool_int, isa_bool_str, isa_bool_list, isa_bool_tuple, isa_tuple_none, isa_tuple_bool, isa_tuple_int, isa_tuple_str, isa_tuple_list, isa_tuple_tuple, isa_list_none, isa_list_bool, isa_list_int, isa_list_str, isa_list_list, isa_list_tuple,
  Bool.false_eq_true, Bool.not_true, Bool.not_false, Bool.true_and, Bool.and_true, Bool.false_and, Bool.and_false, Bool.or_true, Bool.true_or, Bool.or_false, Bool.false_or, Bool.and_self, Bool.true_eq_false, reduceIte, id_eq, decide_true, decide_false, reduceCtorEq])
/-! ### rules that are idle -/
def part (rs : List Bk.Rule3) (deed : Str) : List Bk.Row := (rs.filter (Bk.forDeed deed)).map fun r => (r.1, r.2.2)
theorem rows_part (rs : List Bk.Rule3) (deed : Str) : Bk.rowsOf rs deed = part (rs ++ [Bk.lastRule]) deed := rfl
theorem part_app (a b : List Bk.Rule3) (deed : Str) : part (a ++ b) deed = part a deed ++ part b deed := by
  unfold part
  rw [List.filter_append, List.map_append]
theorem part_one {r : Bk.Rule3} {deed : Str} (h : Bk.forDeed deed r = true) : part [r] deed = [(r.1, r.2.2)] := by
  unfold part
  rw [List.filter_cons, if_pos h]
  rfl
theorem part_none {r : Bk.Rule3} {deed : Str} (h : Bk.forDeed deed r = false) : part [r] deed = [] := by
  unfold part
  rw [List.filter_cons, if_neg (by rw [h]; decide)]
  rfl
theorem for_last (deed : Str) : Bk.forDeed deed Bk.lastRule = true := by
  rw [← for_mem, mem_two]
  simp [Bk.lastRule]
theorem split_at {rs : List Bk.Rule3} {i : Nat} {r : Bk.Rule3} (h : rs[i]? = some r) : rs = rs.take i ++ [r] ++ rs.drop (i + 1) := by
  have hi := (List.getElem?_eq_some_iff.mp h)
  obtain ⟨hi, e⟩ := hi
  rw [List.append_assoc, List.singleton_append, ← e, List.getElem_cons_drop, List.take_append_drop]
theorem good_less {rs : List Bk.Rule3} (h : Bk.Good rs) (i : Nat) : Bk.Good (less rs i) := ⟨by
  unfold less
  rw [List.length_append, List.length_take, List.length_drop]
  have := h.le
  by_cases c : i < rs.length <;> omega, fun r hr => by
  rcases List.mem_append.mp hr with q | q
  · exact h.r r (List.mem_of_mem_take q)
  · exact h.r r (List.mem_of_mem_drop q)⟩
theorem good_take {rs : List Bk.Rule3} (h : Bk.Good rs) (i : Nat) : Bk.Good (rs.take i) := ⟨by rw [List.length_take]; have := h.le; omega, fun r hr => h.r r (List.mem_of_mem_take hr)⟩
theorem told_start {A B : List Bk.Row} {w t : Str} : Bk.Told (A ++ B) A.length w t ↔ (∀ a ∈ A, Bk.metB t a.2 = false) ∧ ∃ told, (A ++ B).find? (fun r => Bk.metB t r.2) = some (w, told) := by
  constructor
  · rintro ⟨i, told, hi, e, hm, no⟩
    refine ⟨fun a ha => ?_, (Bk.told_find (A ++ B) w t).mp ⟨i, told, Nat.zero_le _, e, hm, no⟩⟩
    obtain ⟨j, hj⟩ := List.getElem?_of_mem ha
    have hl := (List.getElem?_eq_some_iff.mp hj).1
    exact no j a (by omega) (by rw [List.getElem?_append_left hl]; exact hj)
  · rintro ⟨ha, hf⟩
    obtain ⟨i, told, _, e, hm, no⟩ := (Bk.told_find (A ++ B) w t).mpr hf
    refine ⟨i, told, ?_, e, hm, no⟩
    refine Classical.byContradiction fun c => ?_
    rw [List.getElem?_append_left (by omega)] at e
    rw [ha _ (List.mem_of_getElem? e)] at hm
    cases hm
def otherW (w : Str) : Str := if w = "let" then "bar" else "let"
theorem idle_t {A B : List Bk.Row} {x : Bk.Row} {t : Str} (hx : x.1 ∈ Bk.words2) (hB : ∀ b ∈ B, b.1 ∈ Bk.words2) (hf : ∃ b, B.find? (fun r => Bk.metB t r.2) = some b) :
    (Bk.metB t x.2 = true → ¬ Bk.Told (A ++ B) A.length (otherW x.1) t) ↔ Bk.lettB (A ++ B) t = Bk.lettB (A ++ [x] ++ B) t := by
  unfold Bk.lettB
  rw [told_start, List.find?_append, List.find?_append, List.find?_append]
  cases hA : A.find? (fun r => Bk.metB t r.2) with
  | some a =>
    have h1 := List.find?_some hA
    have h2 := List.mem_of_find?_eq_some hA
    simp only [Option.some_or]
    exact ⟨fun _ => trivial, fun _ _ z => by
      have z := z.1 a h2
      rw [z] at h1
      cases h1⟩
  | none =>
    simp only [Option.none_or]
    obtain ⟨b, hb⟩ := hf
    have hbB := List.mem_of_find?_eq_some hb
    have none : ∀ a ∈ A, Bk.metB t a.2 = false := fun a ha => by
      have := List.find?_eq_none.mp hA a ha
      simpa using this
    cases hm : Bk.metB t x.2 with
    | false =>
      have : [x].find? (fun r => Bk.metB t r.2) = Option.none := by simp [hm]
      rw [this, Option.none_or]
      exact ⟨fun _ => rfl, fun _ z => by cases z⟩
    | true =>
      have : [x].find? (fun r => Bk.metB t r.2) = some x := by simp [hm]
      rw [this, Option.some_or, hb]
      have w1 := hB b hbB
      simp only [List.mem_cons, List.not_mem_nil, or_false] at w1 hx
      have key : (¬ ((∀ a ∈ A, Bk.metB t a.2 = false) ∧ ∃ told, some b = some (otherW x.1, told))) ↔ b.1 ≠ otherW x.1 := by
        constructor
        · intro h e
          exact h ⟨none, b.2, by rw [← e]⟩
        · rintro h ⟨_, told, e⟩
          exact h (by rw [Option.some.inj e])
      have key2 : (true = true → ¬ ((∀ a ∈ A, Bk.metB t a.2 = false) ∧ ∃ told, some b = some (otherW x.1, told))) ↔ b.1 ≠ otherW x.1 := ⟨fun h => key.mp (h rfl), fun h _ => key.mpr h⟩
      rw [key2]
      unfold otherW
      show b.1 ≠ _ ↔ decide (b.1 = "let") = decide (x.1 = "let")
      rcases w1 with e1 | e1 <;> rcases hx with e2 | e2 <;> rw [e1, e2] <;> decide
theorem idle_iff {rs : List Bk.Rule3} (h : Bk.Good rs) {i : Nat} {r : Bk.Rule3} (hi : rs[i]? = some r) {deed : Str} (hd : Bk.forDeed deed r = true) :
    (∀ t, Bk.topicB t = true → Bk.metB t r.2.2 = true → ¬ Bk.Told (Bk.rowsOf (less rs i) deed) (part (rs.take i) deed).length (otherW r.1) t) ↔ IdleP rs i deed := by
  have e1 : Bk.rowsOf (less rs i) deed = part (rs.take i) deed ++ part (rs.drop (i + 1) ++ [Bk.lastRule]) deed := by
    rw [rows_part, less, List.append_assoc, part_app]
  have e2 : Bk.rowsOf rs deed = part (rs.take i) deed ++ [(r.1, r.2.2)] ++ part (rs.drop (i + 1) ++ [Bk.lastRule]) deed := by
    conv => lhs; rw [split_at hi]
    rw [rows_part, List.append_assoc, List.append_assoc, part_app, part_app, part_one hd, List.append_assoc]
  have hr := h.r r (List.mem_of_getElem? hi)
  have hB : ∀ b ∈ part (rs.drop (i + 1) ++ [Bk.lastRule]) deed, b.1 ∈ Bk.words2 := fun b hb => by
    refine Bk.rows_word (good_less h i) (deed := deed) ?_
    rw [e1]
    exact List.mem_append.mpr (.inr hb)
  have one : ∀ t, Bk.topicB t = true → ((Bk.metB t r.2.2 = true → ¬ Bk.Told (Bk.rowsOf (less rs i) deed) (part (rs.take i) deed).length (otherW r.1) t) ↔ Bk.lawLets (less rs i) deed t = Bk.lawLets rs deed t) := fun t ht => by
    rw [← Bk.lets_eq, ← Bk.lets_eq, e1, e2]
    refine idle_t (x := (r.1, r.2.2)) hr.w hB ?_
    obtain ⟨b, hb⟩ := Bk.rows_find (rs.drop (i + 1)) deed t
    exact ⟨b, hb⟩
  constructor
  · intro k t ht
    exact (one t ht).mp (k t ht)
  · intro k t ht
    exact (one t ht).mpr (k t ht)
theorem idle_not {rs : List Bk.Rule3} {i : Nat} {r : Bk.Rule3} (hi : rs[i]? = some r) {deed : Str} (hd : Bk.forDeed deed r = false) : IdleP rs i deed := by
  intro t ht
  rw [← Bk.lets_eq, ← Bk.lets_eq]
  have e2 : Bk.rowsOf rs deed = Bk.rowsOf (less rs i) deed := by
    conv => lhs; rw [split_at hi]
    rw [rows_part, rows_part, less, List.append_assoc, List.append_assoc, part_app, part_app, part_none hd, List.nil_append, List.append_assoc, part_app (rs.take i)]
  rw [e2]
theorem atR_rule {rs : List Bk.Rule3} {i : Nat} {r : Bk.Rule3} (h : rs[i]? = some r) : atR (rs.map Bk.ruleOf) (i : Nat) = ok (.d (Bk.ruleOf r)) := atR_of (by rw [List.getElem?_map, h]; rfl)
theorem idle_wp {rs : List Bk.Rule3} (h : Bk.Good rs) {i : Nat} {r : Bk.Rule3} (hi : rs[i]? = some r) {deed : Str} {q : Dv → Prop} {er : Str → Prop} (h1 : IdleP rs i deed → q (.d (.bool true))) (h2 : ¬ IdleP rs i deed → q (.d (.bool false))) :
    wp (m_is_idle_for [.d (Bk.rightsOf rs), .d (.int i), .d (.str deed)]) q er := by
  have hr := h.r r (List.mem_of_getElem? hi)
  have el : (rs.take i ++ rs.drop (i + 1)).map Bk.ruleOf = (rs.map Bk.ruleOf).take i ++ (rs.map Bk.ruleOf).drop (i + 1) := by rw [List.map_append, List.map_take, List.map_drop]
  have hlen : ((rs.map Bk.ruleOf).take i).length + ((rs.map Bk.ruleOf).drop (i + 1)).length ≤ 100 := by
    rw [List.length_take, List.length_drop, List.length_map]
    have := h.le
    omega
  have e1 := e_rows_for (rs := rs.take i) (Nat.le_trans (good_take h i).le (by decide)) deed
  have e2 := e_rows_for (rs := less rs i) (Nat.le_trans (good_less h i).le (by decide)) deed
  have hst : ((Bk.rowsOf (rs.take i) deed).map rowD).length = (part (rs.take i) deed).length + 1 := by
    rw [List.length_map, rows_part, part_app, part_one (for_last deed), List.length_append]
    rfl
  unfold Bk.rightsOf at e1 e2
  unfold less at e2
  rw [el] at e2
  rw [List.map_take] at e1
  unfold m_is_idle_for Bk.rightsOf
  subst_eqs
  rw [atR_rule hi, show Bk.ruleOf r = .tuple [.str r.1, .str r.2.1, .str r.2.2] from rfl]
  subst_eqs
  rw [for_mem]
  cases hd : Bk.forDeed deed r with
  | false =>
    subst_eqs
    exact h1 (idle_not hi hd)
  | true =>
    subst_eqs
    rw [cut_to]
    subst_eqs
    rw [e1]
    subst_eqs
    rw [hst, cut_to, show ((i : Int) + 1) = ((i + 1 : Nat) : Int) from rfl, cut_from]
    subst_eqs
    rw [e2]
    subst_eqs
    rw [show (((part (rs.take i) deed).length + 1 : Nat) : Int) - 1 = ((part (rs.take i) deed).length : Int) by omega]
    have hw : ∀ b ∈ Bk.rowsOf (less rs i) deed, Bk.wishB b.2 = true := (Bk.rows_good (good_less h i) deed).1
    have hn := (Bk.rows_good (good_less h i) deed).2
    have hp : (part (rs.take i) deed).length ≤ 50 := by
      have := (Bk.rows_good (good_take h i) deed).2
      rw [List.length_map] at hst
      omega
    by_cases ew : r.1 = "let"
    · have eu : otherW r.1 = "bar" := by unfold otherW; rw [if_pos ew]
      rw [decide_eq_true ew]
      subst_eqs
      rw [wp_bind, wp_bind, wp_bind]
      refine told_wp hw (Nat.le_trans hn (by decide)) hp hr.z (fun t ht hm tt => ?_) fun hno => ?_
      · subst_eqs
        exact h2 fun ip => (idle_iff h hi hd).mpr ip t ht hm (by rw [eu]; exact tt)
      · subst_eqs
        exact h1 ((idle_iff h hi hd).mp (by rw [eu]; exact hno))
    · have eu : otherW r.1 = "let" := by unfold otherW; rw [if_neg ew]
      rw [decide_eq_false ew]
      subst_eqs
      rw [wp_bind, wp_bind, wp_bind]
      refine told_wp hw (Nat.le_trans hn (by decide)) hp hr.z (fun t ht hm tt => ?_) fun hno => ?_
      · subst_eqs
        exact h2 fun ip => (idle_iff h hi hd).mpr ip t ht hm (by rw [eu]; exact tt)
      · subst_eqs
        exact h1 ((idle_iff h hi hd).mp (by rw [eu]; exact hno))
/-- as a def that tells a bool -/
theorem part_len (rs : List Bk.Rule3) (deed : Str) : (part rs deed).length ≤ rs.length := by
  unfold part
  rw [List.length_map]
  exact List.length_filter_le _ _
end Fl

set_option Elab.async false
set_option linter.all false
set_option maxRecDepth 100000
set_option maxHeartbeats 4000000
namespace Fl
open PySem PySem.Spec PyProof.Rows L2 Dl R
local macro_rules | `(tactic| subst_eqs) => `(tactic| simp -implicitDefEqProofs (disch := first | assumption | decide +kernel | (simp only [Bool.and_eq_true, decide_eq_true_eq] <;> (try simp only [PyData.depth, PyData.depthAll]) <;> omega) | fail) only [body, lim, chk_t, iff_t, iff_f, boolR_b, dR_d, intR_i, seqR_l, seqR_t, cSeq, cIf, cNext, cSet, cRet, cRetN, cDrop, cBreak, cVar, cC, cTy, cFn, cOp, cUn, cNil, cCons, cB, cNot, cAndT, cOrT, cIfE, cAnd, cOr, cNotE, cTup, cLst, dsR, datas, notOwnB, bind_ok, bind_er, bind_no, bind_ch, wp_ok, eqv_str, retR_d, retR_o, retR_c, isinC, notInC, isC, isNotC, ltC, leC, gtC, geC, allC, anyC,
  cCall, cCall0, cCallN, cCallN0, cCallL, cFun, cSl, cPart, cNoPart, cIt, cLc, wipeR, cFor, cAsg, tgN, tgT, tgsCons, tgsNil, cPar, cParL, cOwnL, cApp, cRaise, cYes, addC, subC, mulC, modC, fdivC, eqC, twoR, asD, neC, cmpC, inC, isQC, isNonD, negC, lenC, isiC, listC, tupleC, absC, sliceC, revC, cRev, nr, cRng1, cRng2, cEnum, seqLR, cTop, ixC, atR_0, atR_1, atR_2, cChain,
  List.map_cons, List.map_nil, List.cons_append, List.nil_append, List.append_nil, List.getElem?_cons_zero, List.getElem?_cons_succ, List.set_cons_zero, List.set_cons_succ, List.replicate, List.all_cons, List.all_nil, List.length_cons, List.length_nil, Nat.zero_add, Nat.reduceAdd, Nat.reduceBEq, beq_self_eq_true,
  isa_str_none, isa_str_bool, isa_str_int, isa_str_str, isa_str_list, isa_str_tuple, isa_int_none, isa_int_bool, isa_int_int, isa_int_str, isa_int_list, isa_int_tuple, isa_bool_none, isa_bool_bool, isa_bool_int, isa_bool_str, isa_bool_list, isa_bool_tuple, isa_tuple_none, isa_tuple_bool, isa_tuple_int, isa_tuple_str, isa_tuple_list, isa_tuple_tuple, isa_list_none, isa_list_bool, isa_list_int, isa_list_str, isa_list_list, isa_list_tuple,
  Bool.false_eq_true, Bool.not_true, Bool.not_false, Bool.true_and, Bool.and_true, Bool.false_and, Bool.and_false, Bool.or_true, Bool.true_or, Bool.or_false, Bool.false_or, Bool.and_self, Bool.true_eq_false, reduceIte, id_eq, decide_true, decide_false, reduceCtorEq])
/-! ### the law's own words -/
theorem wish_short {r : Bk.Rule3} (h : Bk.GoodR r) : r.2.2.length ≤ 1000 := Nat.le_trans (Bk.wish_len h.z) (by decide)
def letBody : CS := cIf (cAndT (cB (cOp isinC (cVar 4) (cTup (cCons (cVar 1) (cCons (cC (.str "both")) cNil))))) (cB (cCall m__law_met (cCons (cVar 2) (cCons (cVar 5) cNil))))) (cRet (cOp eqC (cVar 3) (cC (.str "let")))) cNext
def letTg : CG := tgT 3 (tgsCons (tgN 3) (tgsCons (tgN 4) (tgsCons (tgN 5) tgsNil)))
theorem let_body : m__law_lets = body 3 3 (cSeq (cFor (cIt (cVar 0)) letTg letBody) (cRet (cC (.bool false)))) := rfl
theorem let_for {a : Option Dv} {deed t : Str} (ht : t.length ≤ 1000) : ∀ (rs : List Bk.Rule3), (∀ r ∈ rs, Bk.GoodR r) → ∀ o3 o4 o5, match rs.find? (fun r => Bk.forDeed deed r && Bk.metB t r.2.2) with
    | some r => forR letTg letBody (rs.map Bk.ruleOf) [a, some (.d (.str deed)), some (.d (.str t)), o3, o4, o5] = ok (.rt (.d (.bool (decide (r.1 = "let")))))
    | none => ∃ p3 p4 p5, forR letTg letBody (rs.map Bk.ruleOf) [a, some (.d (.str deed)), some (.d (.str t)), o3, o4, o5] = ok (.nx [a, some (.d (.str deed)), some (.d (.str t)), p3, p4, p5])
  | [], _, o3, o4, o5 => ⟨o3, o4, o5, rfl⟩
  | r :: rs, h, o3, o4, o5 => by
    have ih := let_for (a := a) (deed := deed) ht rs fun x hx => h x (List.mem_cons_of_mem _ hx)
    have e := e_lmet ht (wish_short (h r List.mem_cons_self))
    have tg : letTg (.d (Bk.ruleOf r)) [a, some (.d (.str deed)), some (.d (.str t)), o3, o4, o5] = ok [a, some (.d (.str deed)), some (.d (.str t)), some (.d (.str r.1)), some (.d (.str r.2.1)), some (.d (.str r.2.2))] := by
      rw [show Bk.ruleOf r = .tuple [.str r.1, .str r.2.1, .str r.2.2] from rfl]
      unfold letTg
      subst_eqs
    have bd : letBody [a, some (.d (.str deed)), some (.d (.str t)), some (.d (.str r.1)), some (.d (.str r.2.1)), some (.d (.str r.2.2))] = (if (Bk.forDeed deed r && Bk.metB t r.2.2) = true then ok (.rt (.d (.bool (decide (r.1 = "let"))))) else ok (.nx [a, some (.d (.str deed)), some (.d (.str t)), some (.d (.str r.1)), some (.d (.str r.2.1)), some (.d (.str r.2.2))])) := by
      unfold letBody
      subst_eqs
      rw [for_mem]
      cases Bk.forDeed deed r
      · subst_eqs
      · subst_eqs
        rw [e]
        cases Bk.metB t r.2.2
        · subst_eqs
        · subst_eqs
    rw [List.find?_cons, List.map_cons]
    have un : ∀ ρ, forR letTg letBody (Bk.ruleOf r :: rs.map Bk.ruleOf) ρ = (letTg (.d (Bk.ruleOf r)) ρ).bind fun ρ1 => (letBody ρ1).bind fun o => match o with
      | .nx ρ' => forR letTg letBody (rs.map Bk.ruleOf) ρ'
      | .ct ρ' => forR letTg letBody (rs.map Bk.ruleOf) ρ'
      | .bk ρ' => ok (.nx ρ')
      | .rt v => ok (.rt v) := fun ρ => rfl
    rw [un, tg, bind_ok, bd]
    cases ec : (Bk.forDeed deed r && Bk.metB t r.2.2) with
    | true =>
      rw [if_pos rfl]
      rfl
    | false =>
      rw [if_neg (by decide), bind_ok]
      exact ih _ _ _
theorem e_lets {rs : List Bk.Rule3} (h : Bk.Good rs) (deed : Str) {t : Str} (ht : t.length ≤ 1000) : m__law_lets [.d (Bk.rightsOf rs), .d (.str deed), .d (.str t)] = ok (.d (.bool (Bk.lawLets rs deed t))) := by
  rw [let_body]
  unfold Bk.rightsOf Bk.lawLets
  have key := let_for (a := some (.d (.tuple (rs.map Bk.ruleOf)))) (deed := deed) ht rs h.r none none none
  subst_eqs
  cases ef : rs.find? (fun r => Bk.forDeed deed r && Bk.metB t r.2.2) with
  | some r =>
    rw [ef] at key
    rw [key]
    subst_eqs
  | none =>
    rw [ef] at key
    obtain ⟨p3, p4, p5, key⟩ := key
    rw [key]
    subst_eqs
def wordsL (rs : List Bk.Rule3) (deed : Str) (ts : List Str) : List PyData := ts.map fun t => .bool (Bk.lawLets rs deed t)
theorem e_words {rs : List Bk.Rule3} (h : Bk.Good rs) (deed : Str) {ts : List Str} (ht : ∀ t ∈ ts, Bk.topicB t = true) (hl : ts.length ≤ 1000) : m__law_words [.d (Bk.rightsOf rs), .d (.str deed), .d (.list (ts.map .str))] = ok (.d (.list (wordsL rs deed ts))) := by
  have hl' : (ts.map PyData.str).length ≤ 1000 := by rw [List.length_map]; exact hl
  unfold m__law_words
  subst_eqs
  rw [lcR_of PyData.str (fun _ => true) (fun t => .bool (Bk.lawLets rs deed t)) ts fun t h' => ?_]
  · subst_eqs
    rw [filt_t]
    rfl
  · have e := e_lets h deed (Nat.le_trans (Bk.topic_len (ht t h')) (by decide : 35 ≤ 1000))
    unfold lcT1
    subst_eqs
    rw [e]
    subst_eqs
theorem bools_depth : ∀ l : List Bool, PyData.depthAll (l.map .bool) = 0
  | [] => by simp [PyData.depthAll]
  | b :: r => by
    have := bools_depth r
    simp only [List.map_cons, PyData.depthAll, PyData.depth, this]
    rfl
theorem words_depth (rs : List Bk.Rule3) (deed : Str) (ts : List Str) : PyData.depthAll (wordsL rs deed ts) = 0 := by
  have : wordsL rs deed ts = (ts.map (Bk.lawLets rs deed)).map .bool := by unfold wordsL; rw [List.map_map]; rfl
  rw [this, bools_depth]
theorem bools_eqv : ∀ l m : List Bool, PyData.eqvAll (l.map .bool) (m.map .bool) = decide (l = m)
  | [], [] => by simp [PyData.eqvAll]
  | [], _ :: _ => by simp [PyData.eqvAll]
  | _ :: _, [] => by simp [PyData.eqvAll]
  | a :: l, b :: m => by
    have ih := bools_eqv l m
    simp only [List.map_cons, PyData.eqvAll, ih, PyData.eqv]
    cases a <;> cases b <;> simp
theorem words_eqv (rs ss : List Bk.Rule3) (deed : Str) (ts : List Str) : PyData.eqvAll (wordsL rs deed ts) (wordsL ss deed ts) = decide (∀ t ∈ ts, Bk.lawLets rs deed t = Bk.lawLets ss deed t) := by
  have e : ∀ qs, wordsL qs deed ts = (ts.map (Bk.lawLets qs deed)).map .bool := fun qs => by unfold wordsL; rw [List.map_map]; rfl
  rw [e, e, bools_eqv]
  refine decide_eq_decide.mpr ?_
  exact List.map_inj_left
def twoW (rs : List Bk.Rule3) (ts : List Str) : List PyData := [.list (wordsL rs "give" ts), .list (wordsL rs "hear" ts)]
theorem two_eqv (rs ss : List Bk.Rule3) (ts : List Str) : PyData.eqv (.list (twoW rs ts)) (.list (twoW ss ts)) = decide (∀ d ∈ Bk.deeds2, ∀ t ∈ ts, Bk.lawLets rs d t = Bk.lawLets ss d t) := by
  unfold twoW
  simp only [PyData.eqv, PyData.eqvAll, words_eqv, Bool.and_true]
  rw [← Bool.decide_and]
  refine decide_eq_decide.mpr ?_
  simp
theorem two_depth (rs : List Bk.Rule3) (ts : List Str) : (PyData.list (twoW rs ts)).depth ≤ 64 := by
  unfold twoW
  simp only [PyData.depth, PyData.depthAll, words_depth]
  decide
/-- both lists of words -/
theorem e_two {g : CG} {t : CT} {a : CE} {ρ : Rho} {rs : List Bk.Rule3} {ts : List Str} (h : ∀ d ∈ Bk.deeds2, lcT1 g t a ρ (.str d) = ok (some (.list (wordsL rs d ts)))) : lcR g t a ρ [.str "give", .str "hear"] = ok (twoW rs ts) := by
  have := lcR_of (g := g) (t := t) (a := a) (ρ := ρ) PyData.str (fun _ => true) (fun d => .list (wordsL rs d ts)) Bk.deeds2 fun d hd => h d hd
  rw [filt_t] at this
  exact this
end Fl

set_option Elab.async false
set_option linter.all false
set_option maxRecDepth 100000
set_option maxHeartbeats 4000000
namespace Fl
open PySem PySem.Spec PyProof.Rows L2 Dl R
local macro_rules | `(tactic| subst_eqs) => `(tactic| simp -implicitDefEqProofs (disch := first | assumption | decide +kernel | (simp only [Bool.and_eq_true, decide_eq_true_eq] <;> (try simp only [PyData.depth, PyData.depthAll]) <;> omega) | fail) only [body, lim, chk_t, iff_t, iff_f, boolR_b, dR_d, intR_i, seqR_l, seqR_t, cSeq, cIf, cNext, cSet, cRet, cRetN, cDrop, cBreak, cVar, cC, cTy, cFn, cOp, cUn, cNil, cCons, cB, cNot, cAndT, cOrT, cIfE, cAnd, cOr, cNotE, cTup, cLst, dsR, datas, notOwnB, bind_ok, bind_er, bind_no, bind_ch, wp_ok, eqv_str, retR_d, retR_o, retR_c, isinC, notInC, isC, isNotC, ltC, leC, gtC, geC, allC, anyC,
  cCall, cCall0, cCallN, cCallN0, cCallL, cFun, cSl, cPart, cNoPart, cIt, cLc, wipeR, cFor, cAsg, tgN, tgT, tgsCons, tgsNil, cPar, cParL, cOwnL, cApp, cRaise, cYes, addC, subC, mulC, modC, fdivC, eqC, twoR, asD, neC, cmpC, inC, isQC, isNonD, negC, lenC, isiC, listC, tupleC, absC, sliceC, revC, cRev, nr, cRng1, cRng2, cEnum, seqLR, cTop, ixC, atR_0, atR_1, atR_2, cChain,
  List.map_cons, List.map_nil, List.cons_append, List.nil_append, List.append_nil, List.getElem?_cons_zero, List.getElem?_cons_succ, List.set_cons_zero, List.set_cons_succ, List.replicate, List.all_cons, List.all_nil, List.length_cons, List.length_nil, Nat.zero_add, Nat.reduceAdd, Nat.reduceBEq, beq_self_eq_true,
  isa_str_none, isa_str_bool, isa_str_int, isa_str_str, isa_str_list, isa_str_tuple, isa_int_none, isa_int_bool, isa_int_int, isa_int_str, isa_int_list, isa_int_tuple, isa_bool_none, isa_bool_bool, isa_bool_int, isa_bool_str, isa_bool_list, isa_bool_tuple, isa_tuple_none, isa_tuple_bool, isa_tuple_int, isa_tuple_str, isa_tuple_list, isa_tuple_tuple, isa_list_none, isa_list_bool, isa_list_int, isa_list_str, isa_list_list, isa_list_tuple,
  Bool.false_eq_true, Bool.not_true, Bool.not_false, Bool.true_and, Bool.and_true, Bool.false_and, Bool.and_false, Bool.or_true, Bool.true_or, Bool.or_false, Bool.false_or, Bool.and_self, Bool.true_eq_false, reduceIte, id_eq, decide_true, decide_false, reduceCtorEq])
/-! ### which rules are idle, both ways -/
theorem rule_inj {r s : Bk.Rule3} (h : Bk.ruleOf r = Bk.ruleOf s) : r = s := by
  unfold Bk.ruleOf at h
  injection h with h
  simp only [List.cons.injEq, PyData.str.injEq, and_true] at h
  obtain ⟨a, b, c⟩ := r
  obtain ⟨a', b', c'⟩ := s
  simp only at h
  obtain ⟨rfl, rfl, rfl⟩ := h
  rfl
theorem rules_inj : ∀ {rs ss : List Bk.Rule3}, rs.map Bk.ruleOf = ss.map Bk.ruleOf → rs = ss
  | [], [], _ => rfl
  | [], _ :: _, h => by cases h
  | _ :: _, [], h => by cases h
  | r :: rs, s :: ss, h => by
    rw [List.map_cons, List.map_cons] at h
    injection h with h1 h2
    rw [rule_inj h1, rules_inj h2]
theorem rights_inj {rs ss : List Bk.Rule3} (h : Bk.rightsOf rs = Bk.rightsOf ss) : rs = ss := by
  unfold Bk.rightsOf at h
  injection h with h
  exact rules_inj h
open Classical in
theorem n_idle {rs : List Bk.Rule3} (h : Bk.Good rs) {i : Nat} {r : Bk.Rule3} (hi : rs[i]? = some r) (deed : Str) : n_is_idle_for [.d (Bk.rightsOf rs), .d (.int i), .d (.str deed)] = ok (.d (.bool (decide (IdleP rs i deed)))) := by
  have same : ∀ b : Prop → Prop, IdleA [.d (Bk.rightsOf rs), .d (.int i), .d (.str deed)] b ↔ b (IdleP rs i deed) := fun b => by
    constructor
    · rintro ⟨ss, j, s, d, e, _, _, hb⟩
      simp only [List.cons.injEq, Dv.d.injEq, PyData.int.injEq, PyData.str.injEq, and_true] at e
      obtain ⟨e1, e2, rfl⟩ := e
      obtain rfl := rights_inj e1
      obtain rfl : i = j := by omega
      exact hb
    · intro hb
      exact ⟨rs, i, r, deed, rfl, h, hi, hb⟩
  unfold n_is_idle_for
  by_cases c : IdleP rs i deed
  · rw [if_pos ((same _).mpr c), decide_eq_true c]
  · rw [if_neg (fun z => c ((same _).mp z)), if_pos ((same _).mpr c), decide_eq_false c]
theorem n_wp {xs : List Dv} {q : Dv → Prop} {er : Str → Prop} (h : wp (n_is_idle_for xs) q er) : wp (m_is_idle_for xs) q er := by
  unfold n_is_idle_for at h
  split at h
  · rename_i c
    obtain ⟨rs, i, r, deed, rfl, hg, hi, hp⟩ := c
    exact idle_wp hg hi (fun _ => h) fun z => absurd hp z
  · split at h
    · rename_i c
      obtain ⟨rs, i, r, deed, rfl, hg, hi, hp⟩ := c
      exact idle_wp hg hi (fun z => absurd z hp) fun _ => h
    · exact h.elim
open Classical in
noncomputable def idleC (rs : List Bk.Rule3) (i : Nat) : Bool := decide (∀ d ∈ Bk.deeds2, IdleP rs i d)
def intD (i : Nat) : PyData := .int ((0 : Int) + (i : Nat))
theorem ints_map (n : Nat) : intsD 0 n = (List.range n).map intD := rfl
open Classical in
theorem e_idle_rules {rs : List Bk.Rule3} (h : Bk.Good rs) : m_idle_rules [.d (Bk.rightsOf rs)] = ok (.d (.list (((List.range rs.length).filter (idleC rs)).map intD))) := by
  have e1 := e_check_rights h
  have hl : (rs.map Bk.ruleOf).length ≤ 12 := by rw [List.length_map]; exact h.le
  have sm : smallC ((rs.map Bk.ruleOf).length : Int) = true := smallC_ok (by omega) (by omega)
  unfold m_idle_rules
  unfold Bk.rightsOf at e1 ⊢
  subst_eqs
  rw [e1]
  subst_eqs
  have il : (intsD 0 ((((rs.map Bk.ruleOf).length : Nat) : Int)).toNat).length ≤ 12 := by
    unfold intsD
    rw [List.length_map, List.length_range]
    omega
  rw [chk_t (b := decide _) (decide_eq_true (Nat.le_trans il (by decide)))]
  rw [show ((((rs.map Bk.ruleOf).length : Nat) : Int)).toNat = rs.length by rw [List.length_map]; omega, ints_map, lcR_of intD (idleC rs) intD (List.range rs.length) fun i hi => ?_]
  · subst_eqs
  · obtain ⟨r, er⟩ : ∃ r, rs[i]? = some r := ⟨_, List.getElem?_eq_getElem (List.mem_range.mp hi)⟩
    have n1 := n_idle h er
    unfold Bk.rightsOf at n1
    unfold lcT1 intD
    rw [Int.zero_add]
    subst_eqs
    have dd : k_DEEDS = Bk.deeds2.map .str := rfl
    rw [dd, lcR_of PyData.str (fun _ => true) (fun d => .bool (decide (IdleP rs i d))) Bk.deeds2 fun d hd => ?_]
    · subst_eqs
      rw [filt_t]
      subst_eqs
      rw [foldB_of (bs := [decide (IdleP rs i "give"), decide (IdleP rs i "hear")]) rfl]
      have e2 : (([decide (IdleP rs i "give"), decide (IdleP rs i "hear")] : List Bool).all id) = idleC rs i := by
        unfold idleC
        rw [Bool.eq_iff_iff, List.all_eq_true, decide_eq_true_iff]
        simp
      rw [e2]
      cases idleC rs i
      · subst_eqs
      · subst_eqs
    · unfold lcT1
      subst_eqs
      rw [n1 d]
      subst_eqs
def idleL (rs : List Bk.Rule3) (ts : List Str) (i : Nat) : Bool := decide (∀ d ∈ Bk.deeds2, ∀ t ∈ ts, Bk.lawLets (less rs i) d t = Bk.lawLets rs d t)
theorem idle_law_wp {rs : List Bk.Rule3} (h : Bk.Good rs) {ts : List Str} (ht : ∀ t ∈ ts, Bk.topicB t = true) (hl : ts.length ≤ 1000) {q : Dv → Prop} {er : Str → Prop} (hq : q (.d (.list (((List.range rs.length).filter (idleL rs ts)).map intD)))) :
    wp (m__law_idle [.d (Bk.rightsOf rs), .d (.list (ts.map .str))]) q er := by
  have hl0 : (rs.map Bk.ruleOf).length ≤ 12 := by rw [List.length_map]; exact h.le
  have sm : smallC ((rs.map Bk.ruleOf).length : Int) = true := smallC_ok (by omega) (by omega)
  unfold m__law_idle
  unfold Bk.rightsOf
  subst_eqs
  have w1 : ∀ d ∈ Bk.deeds2, _ := fun d _ => e_words h d ht hl
  unfold Bk.rightsOf at w1
  rw [e_two (rs := rs) (ts := ts) fun d hd => ?a]
  case a =>
    unfold lcT1
    subst_eqs
    rw [w1 d hd]
    subst_eqs
  subst_eqs
  have il : (intsD 0 ((((rs.map Bk.ruleOf).length : Nat) : Int)).toNat).length = rs.length := by
    unfold intsD
    rw [List.length_map, List.length_range, List.length_map]
    omega
  rw [wp_bind, wp_bind]
  refine for_wp (fun i ρ => ∃ o4 o5 o6, ρ = [some (.d (.tuple (rs.map Bk.ruleOf))), some (.d (.list (ts.map .str))), some (.d (.list (twoW rs ts))), some (.own (((List.range i).filter (idleL rs ts)).map intD)), o4, o5, o6]) ⟨_, _, _, rfl⟩ ?_ ?_
  · rintro i x ρ ex ⟨o4, o5, o6, rfl⟩
    have hi : i < rs.length := by
      have := (List.getElem?_eq_some_iff.mp ex).1
      omega
    rw [show ((((rs.map Bk.ruleOf).length : Nat) : Int)).toNat = rs.length by rw [List.length_map]; omega, intsD_at hi] at ex
    obtain rfl := Option.some.inj ex
    have hlen : ((rs.map Bk.ruleOf).take i).length + ((rs.map Bk.ruleOf).drop (i + 1)).length ≤ 100 := by
      rw [List.length_take, List.length_drop, List.length_map]
      have := h.le
      omega
    have el : (rs.map Bk.ruleOf).take i ++ (rs.map Bk.ruleOf).drop (i + 1) = (less rs i).map Bk.ruleOf := by unfold less; rw [List.map_append, List.map_take, List.map_drop]
    have w2 : ∀ d ∈ Bk.deeds2, _ := fun d _ => e_words (good_less h i) d ht hl
    unfold Bk.rightsOf at w2
    have d1 := two_depth rs ts
    have d2 := two_depth (less rs i) ts
    have fl : (((List.range i).filter (idleL rs ts)).map intD).length ≤ 12 := by
      rw [List.length_map]
      have := List.length_filter_le (idleL rs ts) (List.range i)
      rw [List.length_range] at this
      have := h.le
      omega
    rw [Int.zero_add]
    subst_eqs
    rw [cut_to, show ((i : Int) + 1) = ((i + 1 : Nat) : Int) from rfl, cut_from]
    subst_eqs
    rw [el]
    rw [e_two (rs := less rs i) (ts := ts) fun d hd => ?a]
    case a =>
      unfold lcT1
      subst_eqs
      rw [w2 d hd]
      subst_eqs
    subst_eqs
    rw [two_eqv, show decide (∀ d ∈ Bk.deeds2, ∀ t ∈ ts, Bk.lawLets (less rs i) d t = Bk.lawLets rs d t) = idleL rs ts i from rfl]
    have rg : (List.range (i + 1)).filter (idleL rs ts) = (List.range i).filter (idleL rs ts) ++ (if idleL rs ts i = true then [i] else []) := by
      rw [List.range_succ, List.filter_append]
      congr 1
      cases e : idleL rs ts i <;> simp [e]
    cases ei : idleL rs ts i with
    | true =>
      rw [ei] at rg
      subst_eqs
      rw [chk_t (by rw [decide_eq_true d2, decide_eq_true d1]; rfl)]
      subst_eqs
      have fin : ((List.range (i + 1)).filter (idleL rs ts)).map intD = ((List.range i).filter (idleL rs ts)).map intD ++ [.int (i : Nat)] := by
        rw [rg, if_pos rfl, List.map_append]
        unfold intD
        rw [List.map_cons, Int.zero_add]
        rfl
      rw [fin]
      exact ⟨_, _, _, rfl⟩
    | false =>
      rw [ei] at rg
      subst_eqs
      rw [chk_t (by rw [decide_eq_true d2, decide_eq_true d1]; rfl)]
      subst_eqs
      have fin : ((List.range (i + 1)).filter (idleL rs ts)).map intD = ((List.range i).filter (idleL rs ts)).map intD := by rw [rg, if_neg (by decide), List.append_nil]
      rw [fin]
      exact ⟨_, _, _, rfl⟩
  · rintro ρ ⟨o4, o5, o6, rfl⟩
    rw [il]
    subst_eqs
    exact hq
theorem lets_same {rs ss : List Bk.Rule3} (h : Bk.Good rs) (h' : Bk.Good ss) (ha : ∀ r ∈ rs, Bk.AbW r.2.2) (ha' : ∀ r ∈ ss, Bk.AbW r.2.2) (d : Str) : (∀ t ∈ Bk.foundN 5, Bk.lawLets rs d t = Bk.lawLets ss d t) ↔ ∀ t, Bk.topicB t = true → Bk.lawLets rs d t = Bk.lawLets ss d t := by
  constructor
  · intro k t ht
    have := k _ (Bk.zzT_found ht)
    rw [Bk.zz_lets ht h ha, Bk.zz_lets ht h' ha'] at this
    exact this
  · intro k t ht
    exact k t (Bk.found_topic ht)
theorem ab_less {rs : List Bk.Rule3} (ha : ∀ r ∈ rs, Bk.AbW r.2.2) (i : Nat) : ∀ r ∈ less rs i, Bk.AbW r.2.2 := fun r hr => by
  rcases List.mem_append.mp hr with q | q
  · exact ha r (List.mem_of_mem_take q)
  · exact ha r (List.mem_of_mem_drop q)
theorem idle_same {rs : List Bk.Rule3} (h : Bk.Good rs) (ha : ∀ r ∈ rs, Bk.AbW r.2.2) (i : Nat) : idleC rs i = idleL rs (Bk.foundN 5) i := by
  unfold idleC idleL
  refine decide_eq_decide.mpr ?_
  constructor
  · intro k d hd
    exact (lets_same (good_less h i) h (ab_less ha i) ha d).mpr (k d hd)
  · intro k d hd
    exact (lets_same (good_less h i) h (ab_less ha i) ha d).mp (k d hd)
end Fl

set_option Elab.async false
set_option linter.all false
set_option maxRecDepth 100000
set_option maxHeartbeats 4000000
namespace Fl
open PySem PySem.Spec PyProof.Rows L2 Dl R
local macro_rules | `(tactic| subst_eqs) => `(tactic| simp -implicitDefEqProofs (disch := first | assumption | decide +kernel | (simp only [Bool.and_eq_true, decide_eq_true_eq] <;> (try simp only [PyData.depth, PyData.depthAll]) <;> omega) | fail) only [body, lim, chk_t, iff_t, iff_f, boolR_b, dR_d, intR_i, seqR_l, seqR_t, cSeq, cIf, cNext, cSet, cRet, cRetN, cDrop, cBreak, cVar, cC, cTy, cFn, cOp, cUn, cNil, cCons, cB, cNot, cAndT, cOrT, cIfE, cAnd, cOr, cNotE, cTup, cLst, dsR, datas, notOwnB, bind_ok, bind_er, bind_no, bind_ch, wp_ok, eqv_str, retR_d, retR_o, retR_c, isinC, notInC, isC, isNotC, ltC, leC, gtC, geC, allC, anyC,
  cCall, cCall0, cCallN, cCallN0, cCallL, cFun, cSl, cPart, cNoPart, cIt, cLc, wipeR, cFor, cAsg, tgN, tgT, tgsCons, tgsNil, cPar, cParL, cOwnL, cApp, cRaise, cYes, addC, subC, mulC, modC, fdivC, eqC, twoR, asD, neC, cmpC, inC, isQC, isNonD, negC, lenC, isiC, listC, tupleC, absC, sliceC, revC, cRev, nr, cRng1, cRng2, cEnum, seqLR, cTop, ixC, atR_0, atR_1, atR_2, cChain,
  List.map_cons, List.map_nil, List.cons_append, List.nil_append, List.append_nil, List.getElem?_cons_zero, List.getElem?_cons_succ, List.set_cons_zero, List.set_cons_succ, List.replicate, List.all_cons, List.all_nil, List.length_cons, List.length_nil, Nat.zero_add, Nat.reduceAdd, Nat.reduceBEq, beq_self_eq_true,
  isa_str_none, isa_str_bool, isa_str_int, isa_str_str, isa_str_list, isa_str_tuple, isa_int_none, isa_int_bool, isa_int_int, isa_int_str, isa_int_list, isa_int_tuple, isa_bool_none, isa_bool_bool, isa_bool_int, isa_bool_str, isa_bool_list, isa_bool_tuple, isa_tuple_none, isa_tuple_bool, isa_tuple_int, isa_tuple_str, isa_tuple_list, isa_tuple_tuple, isa_list_none, isa_list_bool, isa_list_int, isa_list_str, isa_list_list, isa_list_tuple,
  Bool.false_eq_true, Bool.not_true, Bool.not_false, Bool.true_and, Bool.and_true, Bool.false_and, Bool.and_false, Bool.or_true, Bool.true_or, Bool.or_false, Bool.false_or, Bool.and_self, Bool.true_eq_false, reduceIte, id_eq, decide_true, decide_false, reduceCtorEq])
/-! ### what is drawn -/
theorem seq_wp {s t : CS} {ρ : Rho} {K : Out → Prop} {er : Str → Prop} (J : Rho → Prop) (h1 : wp (s ρ) (fun o => ∃ ρ', o = .nx ρ' ∧ J ρ') er) (h2 : ∀ ρ', J ρ' → wp (t ρ') K er) : wp (cSeq s t ρ) K er := by
  unfold cSeq
  rw [wp_bind]
  refine wp_mono (fun o h => ?_) h1
  obtain ⟨ρ', rfl, hj⟩ := h
  exact h2 ρ' hj
theorem roll_wp {n : Int} {q : Dv → Prop} {er : Str → Prop} (h0 : 0 < n) (h1 : n < 1000000) (h : ∀ i, 0 ≤ i → i < n → q (.d (.int i))) : wp (m__law_roll [.cup, .d (.int n)]) q er := by
  unfold m__law_roll
  simp only []
  rw [chk_t (decide_eq_true ⟨h0, h1⟩)]
  rintro d ⟨i, rfl, i0, i1⟩
  exact h i i0 i1
theorem wish_wp {q : Dv → Prop} {er : Str → Prop} (h : ∀ z, Bk.wishB z = true → Bk.AbW z → q (.d (.str z))) : wp (m__law_wish [.cup]) q er := by
  rintro d ⟨z, rfl, hz, ha⟩
  exact h z hz ha
theorem some_wp {l : List PyData} {x : PyData} (hx : x = .list l ∨ x = .tuple l) {q : Dv → Prop} {er : Str → Prop} (h0 : 0 < l.length) (h1 : l.length < 1000000) (h : ∀ d ∈ l, q (.d d)) : wp (m__law_some [.cup, .d x]) q er := by
  have key : ∀ i : Int, 0 ≤ i → i < l.length → ∃ d ∈ l, atR l i = ok (.d d) := fun i i0 i1 => by
    obtain ⟨j, rfl⟩ : ∃ j : Nat, i = j := ⟨i.toNat, by omega⟩
    have hj : j < l.length := by omega
    exact ⟨_, List.getElem_mem hj, atR_of (List.getElem?_eq_getElem hj)⟩
  unfold m__law_some
  rcases hx with rfl | rfl
  · subst_eqs
    repeat rw [wp_bind]
    refine roll_wp (by omega) (by omega) fun i i0 i1 => ?_
    obtain ⟨d, hd, e⟩ := key i i0 i1
    subst_eqs
    rw [e]
    subst_eqs
    exact h d hd
  · subst_eqs
    repeat rw [wp_bind]
    refine roll_wp (by omega) (by omega) fun i i0 i1 => ?_
    obtain ⟨d, hd, e⟩ := key i i0 i1
    subst_eqs
    rw [e]
    subst_eqs
    exact h d hd
def AbR (rs : List Bk.Rule3) : Prop := ∀ r ∈ rs, Bk.GoodR r ∧ Bk.AbW r.2.2
theorem rules_dp (rs : List Bk.Rule3) : (PyData.tuple (rs.map Bk.ruleOf)).depth ≤ 64 := by
  have := Bk.depth_rules rs
  simp only [PyData.depth]
  omega
def drawA : CS := cSet 4 (cIfE (cOrT (cB (cOp eqC (cVar 2) (cTup cNil))) (cB (cOp gtC (cCall m__law_roll (cCons (cVar 0) (cCons (cC (.int 3)) cNil))) (cC (.int 0))))) (cCall m__law_wish (cCons (cVar 0) cNil)) (cOp ixC (cCall m__law_some (cCons (cVar 0) (cCons (cVar 2) cNil))) (cC (.int 2))))
def drawB : CS := cSeq (cSet 5 (cTup (cCons (cCall m__law_some (cCons (cVar 0) (cCons (cLst (cCons (cC (.str "let")) (cCons (cC (.str "let")) (cCons (cC (.str "bar")) cNil)))) cNil))) (cCons (cCall m__law_some (cCons (cVar 0) (cCons (cLst (cCons (cC (.str "give")) (cCons (cC (.str "hear")) (cCons (cC (.str "both")) (cCons (cC (.str "both")) cNil))))) cNil))) (cCons (cVar 4) cNil)))))
    (cSet 2 (cOp addC (cVar 2) (cTup (cCons (cVar 5) cNil))))
theorem rights_body : m__law_rights = body 2 4 (cSeq (cSet 2 (cTup cNil)) (cSeq (cFor (cRng1 (cCall m__law_roll (cCons (cVar 0) (cCons (cOp addC (cVar 1) (cC (.int 1))) cNil)))) (tgN 3) (cSeq drawA drawB)) (cRet (cVar 2)))) := rfl
theorem drawA_wp {rs : List Bk.Rule3} (h : AbR rs) (hl : rs.length ≤ 12) {o1 o3 o4 o5 : Option Dv} {er : Str → Prop} : wp (drawA [some .cup, o1, some (.d (.tuple (rs.map Bk.ruleOf))), o3, o4, o5])
    (fun o => ∃ ρ', o = .nx ρ' ∧ ∃ z, Bk.wishB z = true ∧ Bk.AbW z ∧ ρ' = [some .cup, o1, some (.d (.tuple (rs.map Bk.ruleOf))), o3, some (.d (.str z)), o5]) er := by
  have hd := rules_dp rs
  have h0 : (PyData.tuple []).depth ≤ 64 := by decide
  unfold drawA
  subst_eqs
  rw [chk_t (by rw [decide_eq_true hd, decide_eq_true h0]; rfl)]
  have e : PyData.eqv (.tuple (rs.map Bk.ruleOf)) (.tuple []) = rs.isEmpty := by
    simp only [PyData.eqv, eqvAll_nil]
    cases rs <;> rfl
  rw [e]
  subst_eqs
  cases ee : rs.isEmpty with
  | true =>
    subst_eqs
    repeat rw [wp_bind]
    refine wish_wp fun z hz ha => ?_
    subst_eqs
    exact ⟨_, rfl, z, hz, ha, rfl⟩
  | false =>
    subst_eqs
    repeat rw [wp_bind]
    refine roll_wp (by decide) (by decide) fun i i0 i1 => ?_
    subst_eqs
    by_cases c : 0 < i
    · rw [decide_eq_true c]
      subst_eqs
      repeat rw [wp_bind]
      refine wish_wp fun z hz ha => ?_
      subst_eqs
      exact ⟨_, rfl, z, hz, ha, rfl⟩
    · rw [decide_eq_false c]
      subst_eqs
      repeat rw [wp_bind]
      have hlen : 0 < (rs.map Bk.ruleOf).length := by
        rw [List.length_map]
        cases rs with
        | nil => cases ee
        | cons a b => exact Nat.succ_pos _
      refine some_wp (.inr rfl) hlen (by rw [List.length_map]; omega) fun d hd => ?_
      obtain ⟨r, hr, rfl⟩ := List.mem_map.mp hd
      rw [show Bk.ruleOf r = .tuple [.str r.1, .str r.2.1, .str r.2.2] from rfl]
      subst_eqs
      exact ⟨_, rfl, r.2.2, (h r hr).1.z, (h r hr).2, rfl⟩
theorem drawB_wp {rs : List Bk.Rule3} (h : AbR rs) (hl : rs.length ≤ 12) {z : Str} (hz : Bk.wishB z = true) (ha : Bk.AbW z) {o1 o3 o5 : Option Dv} {K : Out → Prop} {er : Str → Prop} (hk : ∀ rs' o5', AbR rs' → rs'.length = rs.length + 1 → K (.nx [some .cup, o1, some (.d (.tuple (rs'.map Bk.ruleOf))), o3, some (.d (.str z)), o5'])) :
    wp (drawB [some .cup, o1, some (.d (.tuple (rs.map Bk.ruleOf))), o3, some (.d (.str z)), o5]) K er := by
  have hl2 : (rs.map Bk.ruleOf).length ≤ 12 := by rw [List.length_map]; exact hl
  unfold drawB
  subst_eqs
  repeat rw [wp_bind]
  refine some_wp (.inl rfl) (by decide) (by decide) fun d hd => ?_
  simp only [List.mem_cons, List.not_mem_nil, or_false] at hd
  obtain ⟨u, rfl, hu⟩ : ∃ u : Str, d = .str u ∧ u ∈ Bk.words2 := by
    rcases hd with rfl | rfl | rfl
    · exact ⟨_, rfl, by decide⟩
    · exact ⟨_, rfl, by decide⟩
    · exact ⟨_, rfl, by decide⟩
  subst_eqs
  repeat rw [wp_bind]
  refine some_wp (.inl rfl) (by decide) (by decide) fun d hd => ?_
  simp only [List.mem_cons, List.not_mem_nil, or_false] at hd
  obtain ⟨v, rfl, hv⟩ : ∃ u : Str, d = .str u ∧ u ∈ Bk.owns3 := by
    rcases hd with rfl | rfl | rfl | rfl
    · exact ⟨_, rfl, by decide⟩
    · exact ⟨_, rfl, by decide⟩
    · exact ⟨_, rfl, by decide⟩
    · exact ⟨_, rfl, by decide⟩
  subst_eqs
  have e : rs.map Bk.ruleOf ++ [.tuple [.str u, .str v, .str z]] = (rs ++ [(u, v, z)]).map Bk.ruleOf := by rw [List.map_append]; rfl
  rw [e]
  refine hk (rs ++ [(u, v, z)]) _ (fun r hr => ?_) (by rw [List.length_append]; rfl)
  rcases List.mem_append.mp hr with q | q
  · exact h r q
  · rw [List.mem_singleton.mp q]
    exact ⟨⟨hu, hv, hz⟩, ha⟩
theorem rights_wp {most : Int} (m0 : 0 ≤ most) (m6 : most ≤ 6) {q : Dv → Prop} {er : Str → Prop} (hq : ∀ rs, AbR rs → rs.length ≤ 6 → q (.d (Bk.rightsOf rs))) : wp (m__law_rights [.cup, .d (.int most)]) q er := by
  rw [rights_body]
  subst_eqs
  repeat rw [wp_bind]
  refine roll_wp (by omega) (by omega) fun k k0 k1 => ?_
  have sm : smallC k = true := smallC_ok (by omega) (by omega)
  subst_eqs
  repeat rw [wp_bind]
  have il : (intsD 0 k.toNat).length = k.toNat := by unfold intsD; rw [List.length_map, List.length_range]
  refine for_wp (fun i ρ => ∃ rs o3 o4 o5, AbR rs ∧ rs.length = i ∧ ρ = [some .cup, some (.d (.int most)), some (.d (.tuple (rs.map Bk.ruleOf))), o3, o4, o5]) ⟨[], none, none, none, (fun r hr => by cases hr), rfl, rfl⟩ ?_ ?_
  · rintro i x ρ ex ⟨rs, o3, o4, o5, ab, hl, rfl⟩
    have hi : i < k.toNat := by
      have := (List.getElem?_eq_some_iff.mp ex).1
      omega
    rw [intsD_at hi] at ex
    obtain rfl := Option.some.inj ex
    subst_eqs
    refine seq_wp _ (drawA_wp ab (by omega)) ?_
    rintro ρ' ⟨z, hz, ha, rfl⟩
    refine drawB_wp ab (by omega) hz ha fun rs' o5' ab' hl' => ?_
    exact ⟨rs', _, _, _, ab', by omega, rfl⟩
  · rintro ρ ⟨rs, o3, o4, o5, ab, hl, rfl⟩
    subst_eqs
    exact hq rs ab (by omega)
end Fl

set_option Elab.async false
set_option linter.all false
set_option maxRecDepth 100000
set_option maxHeartbeats 4000000
namespace Fl
open PySem PySem.Spec PyProof.Rows L2 Dl R
theorem eqv_int (a b : Int) : PyData.eqv (.int a) (.int b) = decide (a = b) := by simp only [PyData.eqv]; rfl
theorem eqv_bool (a b : Bool) : PyData.eqv (.bool a) (.bool b) = decide (a = b) := by simp only [PyData.eqv]; cases a <;> cases b <;> rfl
local macro_rules | `(tactic| subst_eqs) => `(tactic| simp -implicitDefEqProofs (disch := first | assumption | decide +kernel | (simp only [Bool.and_eq_true, decide_eq_true_eq] <;> (try simp only [PyData.depth, PyData.depthAll]) <;> omega) | fail) only [body, lim, chk_t, iff_t, iff_f, boolR_b, dR_d, intR_i, seqR_l, seqR_t, cSeq, cIf, cNext, cSet, cRet, cRetN, cDrop, cBreak, cVar, cC, cTy, cFn, cOp, cUn, cNil, cCons, cB, cNot, cAndT, cOrT, cIfE, cAnd, cOr, cNotE, cTup, cLst, dsR, datas, notOwnB, bind_ok, bind_er, bind_no, bind_ch, wp_ok, eqv_str, eqv_int, eqv_bool, retR_d, retR_o, retR_c, isinC, notInC, isC, isNotC, ltC, leC, gtC, geC, allC, anyC,
  cCall, cCall0, cCallN, cCallN0, cCallL, cFun, cSl, cPart, cNoPart, cIt, cLc, wipeR, cFor, cAsg, tgN, tgT, tgsCons, tgsNil, cPar, cParL, cOwnL, cApp, cRaise, cYes, addC, subC, mulC, modC, fdivC, eqC, twoR, asD, neC, cmpC, inC, isQC, isNonD, negC, lenC, isiC, listC, tupleC, absC, sliceC, revC, cRev, nr, cRng1, cRng2, cEnum, seqLR, cTop, ixC, atR_0, atR_1, atR_2, cChain,
  List.map_cons, List.map_nil, List.cons_append, List.nil_append, List.append_nil, List.getElem?_cons_zero, List.getElem?_cons_succ, List.set_cons_zero, List.set_cons_succ, List.replicate, List.all_cons, List.all_nil, List.length_cons, List.length_nil, Nat.zero_add, Nat.reduceAdd, Nat.reduceBEq, beq_self_eq_true,
  isa_str_none, isa_str_bool, isa_str_int, isa_str_str, isa_str_list, isa_str_tuple, isa_int_none, isa_int_bool, isa_int_int, isa_int_str, isa_int_list, isa_int_tuple, isa_bool_none, isa_bool_bool, isa_bool_int, isa_bool_str, isa_bool_list, isa_bool_tuple, isa_tuple_none, isa_tuple_bool, isa_tuple_int, isa_tuple_str, isa_tuple_list, isa_tuple_tuple, isa_list_none, isa_list_bool, isa_list_int, isa_list_str, isa_list_list, isa_list_tuple,
  Bool.false_eq_true, Bool.not_true, Bool.not_false, Bool.true_and, Bool.and_true, Bool.false_and, Bool.and_false, Bool.or_true, Bool.true_or, Bool.or_false, Bool.false_or, Bool.and_self, Bool.true_eq_false, reduceIte, id_eq, decide_true, decide_false, reduceCtorEq])
/-! ### rights near others -/
theorem ab_app {a b : List Bk.Rule3} (h : AbR a) (k : AbR b) : AbR (a ++ b) := fun r hr => by
  rcases List.mem_append.mp hr with q | q
  · exact h r q
  · exact k r q
theorem ab_take {a : List Bk.Rule3} (h : AbR a) (n : Nat) : AbR (a.take n) := fun r hr => h r (List.mem_of_mem_take hr)
theorem ab_drop {a : List Bk.Rule3} (h : AbR a) (n : Nat) : AbR (a.drop n) := fun r hr => h r (List.mem_of_mem_drop hr)
theorem ab_one {r : Bk.Rule3} (h : Bk.GoodR r) (k : Bk.AbW r.2.2) : AbR [r] := fun s hs => by
  rw [List.mem_singleton.mp hs]
  exact ⟨h, k⟩
theorem near_wp {rs : List Bk.Rule3} (h : AbR rs) (hl : rs.length ≤ 6) {q : Dv → Prop} {er : Str → Prop} (hq : ∀ ss, AbR ss → ss.length ≤ 7 → q (.d (Bk.rightsOf ss))) : wp (m__law_near [.cup, .d (Bk.rightsOf rs)]) q er := by
  have hl2 : (rs.map Bk.ruleOf).length ≤ 6 := by rw [List.length_map]; exact hl
  have el : (rs.map Bk.ruleOf).length = rs.length := List.length_map _
  unfold m__law_near Bk.rightsOf
  subst_eqs
  repeat rw [wp_bind]
  refine roll_wp (by omega) (by omega) fun i i0 i1 => ?_
  obtain ⟨k, rfl⟩ : ∃ k : Nat, i = k := ⟨i.toNat, by omega⟩
  subst_eqs
  repeat rw [wp_bind]
  refine some_wp (.inl rfl) (by decide) (by decide) fun d hd => ?_
  simp only [List.mem_cons, List.not_mem_nil, or_false] at hd
  obtain ⟨u, rfl, hu⟩ : ∃ u : Str, d = .str u ∧ u ∈ Bk.words2 := by
    rcases hd with rfl | rfl
    · exact ⟨_, rfl, by decide⟩
    · exact ⟨_, rfl, by decide⟩
  subst_eqs
  repeat rw [wp_bind]
  refine some_wp (.inl rfl) (by decide) (by decide) fun d hd => ?_
  simp only [List.mem_cons, List.not_mem_nil, or_false] at hd
  obtain ⟨v, rfl, hv⟩ : ∃ u : Str, d = .str u ∧ u ∈ Bk.owns3 := by
    rcases hd with rfl | rfl | rfl
    · exact ⟨_, rfl, by decide⟩
    · exact ⟨_, rfl, by decide⟩
    · exact ⟨_, rfl, by decide⟩
  subst_eqs
  repeat rw [wp_bind]
  refine wish_wp fun z hz ha => ?_
  subst_eqs
  repeat rw [wp_bind]
  refine roll_wp (by decide) (by decide) fun w w0 w1 => ?_
  have ab0 : AbR [(u, v, z)] := ab_one ⟨hu, hv, hz⟩ ha
  have lt : ((rs.map Bk.ruleOf).take k).length + ((rs.map Bk.ruleOf).drop (k + 1)).length ≤ 6 := by
    rw [List.length_take, List.length_drop]
    omega
  have lt2 : ((rs.map Bk.ruleOf).take k).length + ((rs.map Bk.ruleOf).drop k).length ≤ 6 := by
    rw [List.length_take, List.length_drop]
    omega
  have lt3 : ((rs.map Bk.ruleOf).take k).length ≤ 6 := by omega
  have bang : ∀ (b c : List PyData) (x : PyData), b.length + c.length ≤ 6 → (b ++ [x]).length + c.length ≤ 7 := fun b c x hb => by
    rw [List.length_append]
    show b.length + 1 + c.length ≤ 7
    omega
  subst_eqs
  rw [el]
  by_cases c1 : (k : Int) = (rs.length : Int) ∨ w = 0
  · have go : q (.d (.tuple ((rs.map Bk.ruleOf).take k ++ [.tuple [.str u, .str v, .str z]] ++ (rs.map Bk.ruleOf).drop k))) := by
      have e : (rs.map Bk.ruleOf).take k ++ [.tuple [.str u, .str v, .str z]] ++ (rs.map Bk.ruleOf).drop k = (rs.take k ++ [(u, v, z)] ++ rs.drop k).map Bk.ruleOf := by
        rw [List.map_append, List.map_append, List.map_take, List.map_drop]; rfl
      rw [e]
      refine hq _ (ab_app (ab_app (ab_take h k) ab0) (ab_drop h k)) ?_
      rw [List.length_append, List.length_append, List.length_take, List.length_drop]
      show _ + 1 + _ ≤ 7
      omega
    have b1 := bang _ _ (.tuple [.str u, .str v, .str z]) lt2
    by_cases c2 : (k : Int) = (rs.length : Int)
    · rw [decide_eq_true c2]
      subst_eqs
      rw [cut_to, cut_from]
      subst_eqs
      exact go
    · have c3 := c1.resolve_left c2
      rw [decide_eq_false c2, decide_eq_true c3]
      subst_eqs
      rw [cut_to, cut_from]
      subst_eqs
      exact go
  · have c2 : ¬ (k : Int) = (rs.length : Int) := fun z => c1 (.inl z)
    have c3 : ¬ w = 0 := fun z => c1 (.inr z)
    have hk : k < rs.length := by omega
    obtain ⟨r, hr⟩ : ∃ r, rs[k]? = some r := ⟨_, List.getElem?_eq_getElem hk⟩
    have gr := h r (List.mem_of_getElem? hr)
    have abr : AbR [r] := ab_one gr.1 gr.2
    rw [decide_eq_false c2, decide_eq_false c3]
    subst_eqs
    by_cases c4 : w = 1
    · rw [decide_eq_true c4]
      subst_eqs
      rw [cut_to, show ((k : Int) + 1) = ((k + 1 : Nat) : Int) from rfl, cut_from]
      subst_eqs
      have e : (rs.map Bk.ruleOf).take k ++ (rs.map Bk.ruleOf).drop (k + 1) = (rs.take k ++ rs.drop (k + 1)).map Bk.ruleOf := by
        rw [List.map_append, List.map_take, List.map_drop]
      rw [e]
      refine hq _ (ab_app (ab_take h k) (ab_drop h (k + 1))) ?_
      rw [List.length_append, List.length_take, List.length_drop]
      omega
    · rw [decide_eq_false c4]
      subst_eqs
      by_cases c5 : w = 2
      · rw [decide_eq_true c5]
        subst_eqs
        rw [atR_rule hr, show Bk.ruleOf r = .tuple [.str r.1, .str r.2.1, .str r.2.2] from rfl]
        subst_eqs
        have b2 := bang _ _ (.tuple [.str r.1, .str r.2.1, .str z]) lt
        rw [cut_to, show ((k : Int) + 1) = ((k + 1 : Nat) : Int) from rfl, cut_from, show Dl.cutD [PyData.str r.1, .str r.2.1, .str r.2.2] none (some 2) = [.str r.1, .str r.2.1] from cut_to _ 2]
        subst_eqs
        have e : (rs.map Bk.ruleOf).take k ++ [.tuple [.str r.1, .str r.2.1, .str z]] ++ (rs.map Bk.ruleOf).drop (k + 1) = (rs.take k ++ [(r.1, r.2.1, z)] ++ rs.drop (k + 1)).map Bk.ruleOf := by
          rw [List.map_append, List.map_append, List.map_take, List.map_drop]; rfl
        rw [e]
        refine hq _ (ab_app (ab_app (ab_take h k) (ab_one ⟨gr.1.w, gr.1.o, hz⟩ ha)) (ab_drop h (k + 1))) ?_
        rw [List.length_append, List.length_append, List.length_take, List.length_drop]
        show _ + 1 + _ ≤ 7
        omega
      · rw [decide_eq_false c5]
        subst_eqs
        rw [atR_rule hr]
        subst_eqs
        have b3 : ((rs.map Bk.ruleOf).take k ++ (rs.map Bk.ruleOf).drop (k + 1)).length ≤ 6 := by rw [List.length_append]; exact lt
        rw [cut_to, show ((k : Int) + 1) = ((k + 1 : Nat) : Int) from rfl, cut_from]
        subst_eqs
        have e : (rs.map Bk.ruleOf).take k ++ (rs.map Bk.ruleOf).drop (k + 1) ++ [Bk.ruleOf r] = (rs.take k ++ rs.drop (k + 1) ++ [r]).map Bk.ruleOf := by
          rw [List.map_append, List.map_append, List.map_take, List.map_drop]; rfl
        rw [e]
        refine hq _ (ab_app (ab_app (ab_take h k) (ab_drop h (k + 1))) abr) ?_
        rw [List.length_append, List.length_append, List.length_take, List.length_drop]
        show _ + 1 ≤ 7
        omega
end Fl

set_option Elab.async false
set_option linter.all false
set_option maxRecDepth 100000
set_option maxHeartbeats 4000000
namespace Fl
open PySem PySem.Spec PyProof.Rows L2 Dl R
local macro_rules | `(tactic| subst_eqs) => `(tactic| simp -implicitDefEqProofs (disch := first | assumption | decide +kernel | (simp only [Bool.and_eq_true, decide_eq_true_eq] <;> (try simp only [PyData.depth, PyData.depthAll]) <;> omega) | fail) only [body, lim, chk_t, iff_t, iff_f, boolR_b, dR_d, intR_i, seqR_l, seqR_t, cSeq, cIf, cNext, cSet, cRet, cRetN, cDrop, cBreak, cVar, cC, cTy, cFn, cOp, cUn, cNil, cCons, cB, cNot, cAndT, cOrT, cIfE, cAnd, cOr, cNotE, cTup, cLst, dsR, datas, notOwnB, bind_ok, bind_er, bind_no, bind_ch, wp_ok, eqv_str, retR_d, retR_o, retR_c, isinC, notInC, isC, isNotC, ltC, leC, gtC, geC, allC, anyC,
  cCall, cCall0, cCallN, cCallN0, cCallL, cFun, cSl, cPart, cNoPart, cIt, cLc, wipeR, cFor, cAsg, tgN, tgT, tgsCons, tgsNil, cPar, cParL, cOwnL, cApp, cRaise, cYes, addC, subC, mulC, modC, fdivC, eqC, twoR, asD, neC, cmpC, inC, isQC, isNonD, negC, lenC, isiC, listC, tupleC, absC, sliceC, revC, cRev, nr, cRng1, cRng2, cEnum, seqLR, cTop, ixC, atR_0, atR_1, atR_2, cChain,
  List.map_cons, List.map_nil, List.cons_append, List.nil_append, List.append_nil, List.getElem?_cons_zero, List.getElem?_cons_succ, List.set_cons_zero, List.set_cons_succ, List.replicate, List.all_cons, List.all_nil, List.length_cons, List.length_nil, Nat.zero_add, Nat.reduceAdd, Nat.reduceBEq, beq_self_eq_true,
  isa_str_none, isa_str_bool, isa_str_int, isa_str_str, isa_str_list, isa_str_tuple, isa_int_none, isa_int_bool, isa_int_int, isa_int_str, isa_int_list, isa_int_tuple, isa_bool_none, isa_bool_bool, isa_bool_int, isa_bool_str, isa_bool_list, isa_bool_tuple, isa_tuple_none, isa_tuple_bool, isa_tuple_int, isa_tuple_str, isa_tuple_list, isa_tuple_tuple, isa_list_none, isa_list_bool, isa_list_int, isa_list_str, isa_list_list, isa_list_tuple,
  Bool.false_eq_true, Bool.not_true, Bool.not_false, Bool.true_and, Bool.and_true, Bool.false_and, Bool.and_false, Bool.or_true, Bool.true_or, Bool.or_false, Bool.false_or, Bool.and_self, Bool.true_eq_false, reduceIte, id_eq, decide_true, decide_false, reduceCtorEq])
/-! ### rights at odds, as the law asks -/
theorem e_is_topic {t : Str} (h : t.length ≤ 1000) : m_is_topic [.d (.str t)] = ok (.d (.bool (Bk.topicB t))) := chk_t (decide_eq_true h)
theorem ab_good {rs : List Bk.Rule3} (h : AbR rs) (hl : rs.length ≤ 12) : Bk.Good rs := ⟨hl, fun r hr => (h r hr).1⟩
theorem ab_ab {rs : List Bk.Rule3} (h : AbR rs) : ∀ r ∈ rs, Bk.AbW r.2.2 := fun r hr => (h r hr).2
def topicsD : PyData := .list ((Bk.foundN 5).map .str)
theorem topics_ok : (∀ t ∈ Bk.foundN 5, Bk.topicB t = true) ∧ (Bk.foundN 5).length ≤ 1000 := ⟨fun t h => Bk.found_topic h, Nat.le_trans (Bk.found_len 5 (Nat.le_refl _)) (by decide)⟩
theorem wl_depth (rs : List Bk.Rule3) (d : Str) (ts : List Str) : (PyData.list (wordsL rs d ts)).depth ≤ 64 := by
  simp only [PyData.depth, words_depth]
  decide
theorem wl_eqv (rs ss : List Bk.Rule3) (d : Str) (ts : List Str) : PyData.eqv (.list (wordsL rs d ts)) (.list (wordsL ss d ts)) = decide (∀ t ∈ ts, Bk.lawLets rs d t = Bk.lawLets ss d t) := by
  simp only [PyData.eqv]
  exact words_eqv rs ss d ts
theorem bool_ne {a b : Bool} (h : ¬ a = b) : PyData.eqv (.bool a) (.bool b) = false := by
  cases a <;> cases b <;> first | rfl | exact absurd rfl h
theorem odds_right_ts {ts : List Str} (ht : ∀ t ∈ ts, Bk.topicB t = true) (htl : ts.length ≤ 1000) {rs ss : List Bk.Rule3} (g : Bk.Good rs) (g' : Bk.Good ss) {deed : Str} (ls : (∀ t ∈ ts, Bk.lawLets rs deed t = Bk.lawLets ss deed t) ↔ ∀ t, Bk.topicB t = true → Bk.lawLets rs deed t = Bk.lawLets ss deed t) (hd : deed ∈ Bk.deeds2) {q : Dv → Prop} {er : Str → Prop} (hq : q (.d (.bool true))) :
    wp (m__law_odds_right [.d (Bk.rightsOf rs), .d (Bk.rightsOf ss), .d (.str deed), .d (.list (ts.map .str))]) q er := by
  have kO : ∀ (q : Dv → Prop) (er : Str → Prop), (∀ t, Bk.topicB t = true → Odds rs ss deed t → q (.d (.str t))) → ((∀ t, Bk.topicB t = true → ¬ Odds rs ss deed t) → q (.d .none)) → wp (m_topic_at_odds [.d (Bk.rightsOf rs), .d (Bk.rightsOf ss), .d (.str deed)]) q er := by
    intro q er h1 h2
    with_reducible exact odds_wp g g' hd h1 h2
  have w1 := e_words g deed ht htl
  have w2 := e_words g' deed ht htl
  have kT : ∀ t, Bk.topicB t = true → m_is_topic [.d (.str t)] = ok (.d (.bool true)) := fun t h => by rw [e_is_topic (Nat.le_trans (Bk.topic_len h) (by decide : 35 ≤ 1000)), h]
  have k1 : ∀ t, Bk.topicB t = true → _ := fun t h => e_is_let g hd h
  have k2 : ∀ t, Bk.topicB t = true → _ := fun t h => e_is_let g' hd h
  have k3 : ∀ t : Str, t.length ≤ 1000 → _ := fun t h => e_lets g deed h
  have k4 : ∀ t : Str, t.length ≤ 1000 → _ := fun t h => e_lets g' deed h
  have d1 := wl_depth rs deed ts
  have d2 := wl_depth ss deed ts
  have ev := wl_eqv rs ss deed ts
  unfold m__law_odds_right
  revert kO w1 w2 kT k1 k2 k3 k4 d1 d2 ev
  generalize m_topic_at_odds = MO
  generalize m__law_words = MW
  generalize m_is_topic = MT
  generalize m_is_let = MI
  generalize m__law_lets = ML
  generalize wordsL rs deed ts = A
  generalize wordsL ss deed ts = B
  generalize PyData.list (ts.map .str) = TS
  intro kO w1 w2 kT k1 k2 k3 k4 d1 d2 ev
  subst_eqs
  rw [wp_bind, wp_bind, wp_bind]
  with_reducible refine kO _ _ (fun t ht0 od => ?_) fun no => ?_
  · have htl0 := Nat.le_trans (Bk.topic_len ht0) (by decide : 35 ≤ 1000)
    have k1 := k1 t ht0
    have k2 := k2 t ht0
    have k3 := k3 t htl0
    have k4 := k4 t htl0
    have kT := kT t ht0
    have nw : decide (∀ t ∈ ts, Bk.lawLets rs deed t = Bk.lawLets ss deed t) = false := decide_eq_false fun z => od (ls.mp z t ht0)
    rw [nw] at ev
    clear nw
    subst_eqs
    rw [w1]
    subst_eqs
    rw [w2]
    subst_eqs
    rw [chk_t (by rw [decide_eq_true d1, decide_eq_true d2]; rfl), ev]
    subst_eqs
    rw [kT]
    subst_eqs
    rw [k1]
    subst_eqs
    rw [k2]
    subst_eqs
    rw [Bk.lets_eq, Bk.lets_eq, bool_ne (show ¬ Bk.lawLets rs deed t = Bk.lawLets ss deed t from od)]
    subst_eqs
    rw [k3]
    subst_eqs
    rw [k4]
    subst_eqs
    rw [bool_ne (show ¬ Bk.lawLets rs deed t = Bk.lawLets ss deed t from od)]
    subst_eqs
    exact hq
  · have yw : decide (∀ t ∈ ts, Bk.lawLets rs deed t = Bk.lawLets ss deed t) = true := decide_eq_true (ls.mpr fun t ht => Classical.not_not.mp (no t ht))
    rw [yw] at ev
    clear yw
    subst_eqs
    rw [w1]
    subst_eqs
    rw [w2]
    subst_eqs
    rw [chk_t (by rw [decide_eq_true d1, decide_eq_true d2]; rfl), ev]
    subst_eqs
    exact hq
theorem odds_right_wp {rs ss : List Bk.Rule3} (h : AbR rs) (hl : rs.length ≤ 12) (h' : AbR ss) (hl' : ss.length ≤ 12) {deed : Str} (hd : deed ∈ Bk.deeds2) {q : Dv → Prop} {er : Str → Prop} (hq : q (.d (.bool true))) :
    wp (m__law_odds_right [.d (Bk.rightsOf rs), .d (Bk.rightsOf ss), .d (.str deed), .d topicsD]) q er := by
  have l := lets_same (ab_good h hl) (ab_good h' hl') (ab_ab h) (ab_ab h') deed
  have t1 := topics_ok.1
  have t2 := topics_ok.2
  unfold topicsD
  revert t1 t2 l
  generalize Bk.foundN 5 = ts
  intro l t1 t2
  with_reducible exact odds_right_ts t1 t2 (ab_good h hl) (ab_good h' hl') l hd hq
end Fl

set_option Elab.async false
set_option linter.all false
set_option maxRecDepth 100000
set_option maxHeartbeats 4000000
namespace Fl
open PySem PySem.Spec PyProof.Rows L2 Dl R
/-! ### the law, statement by statement -/
noncomputable def c_law1 : CS := (cSet 3 (cCall m__law_rights (cCons (cVar 1) (cCons (cC (.int 4)) cNil))))
noncomputable def c_law2 : CS := (cIf (cB (cOp neC (cCall m_idle_rules (cCons (cVar 3) cNil)) (cCall m__law_idle (cCons (cVar 3) (cCons (cVar 2) cNil))))) (cRet (cC (.bool false))) cNext)
noncomputable def c_law3 : CS := (cFor (cIt (cTup (cCons (cC (.int 3)) (cCons (cC (.int 6)) cNil)))) (tgN 4) (cSeq (cSet 5 (cCall m__law_rights (cCons (cVar 1) (cCons (cVar 4) cNil))))
    (cSeq (cPar 6 7 (cCons (cCall m__law_near (cCons (cVar 1) (cCons (cVar 5) cNil))) (cCons (cCall m__law_some (cCons (cVar 1) (cCons (cLst (cCons (cC (.str "give")) (cCons (cC (.str "hear")) cNil))) cNil))) cNil)))
    (cSeq (cIf (cOrT (cNot (cB (cCall m__law_odds_right (cCons (cVar 5) (cCons (cVar 6) (cCons (cVar 7) (cCons (cVar 2) cNil))))))) (cNot (cB (cCall m__law_odds_right (cCons (cVar 6) (cCons (cVar 5) (cCons (cVar 7) (cCons (cVar 2) cNil)))))))) (cRet (cC (.bool false))) cNext)
    (cSeq (cIf (cB (cOp isNotC (cCall m_topic_at_odds (cCons (cVar 5) (cCons (cVar 5) (cCons (cVar 7) cNil)))) (cC .none))) (cRet (cC (.bool false))) cNext)
    (cFor (cIt (cSl (cCall m_idle_rules (cCons (cVar 5) cNil)) cNoPart (cPart (cC (.int 1))))) (tgN 8) (cIf (cB (cOp isNotC (cCall m_topic_at_odds (cCons (cVar 5) (cCons (cOp addC (cSl (cVar 5) cNoPart (cPart (cVar 8))) (cSl (cVar 5) (cPart (cOp addC (cVar 8) (cC (.int 1)))) cNoPart)) (cCons (cVar 7) cNil)))) (cC .none))) (cRet (cC (.bool false))) cNext)))))))
noncomputable def c_law4 : CS := (cSet 3 (cTup (cCons (cTup (cCons (cC (.str "bar")) (cCons (cC (.str "hear")) (cCons (cC (.str "a/+")) cNil)))) (cCons (cTup (cCons (cC (.str "let")) (cCons (cC (.str "both")) (cCons (cC (.str "a/#")) cNil)))) cNil))))
noncomputable def c_law5 : CS := (cIf (cOrT (cB (cOp neC (cCall m_idle_rules (cCons (cVar 3) cNil)) (cLst cNil))) (cB (cOp neC (cCall m_idle_rules (cCons (cTup (cCons (cTup (cCons (cC (.str "let")) (cCons (cC (.str "both")) (cCons (cC (.str "#")) cNil)))) (cCons (cTup (cCons (cC (.str "bar")) (cCons (cC (.str "hear")) (cCons (cC (.str "a")) cNil)))) cNil))) cNil)) (cLst (cCons (cC (.int 1)) cNil))))) (cRet (cC (.bool false))) cNext)
noncomputable def c_law6 : CS := (cIf (cOrT (cB (cOp neC (cCall m_idle_rules (cCons (cTup (cCons (cTup (cCons (cC (.str "bar")) (cCons (cC (.str "hear")) (cCons (cC (.str "b")) cNil)))) cNil)) cNil)) (cLst (cCons (cC (.int 0)) cNil)))) (cB (cOp neC (cCall m_idle_rules (cCons (cTup cNil) cNil)) (cLst cNil)))) (cRet (cC (.bool false))) cNext)
noncomputable def c_law7 : CS := (cIf (cOrT (cB (cOp isNotC (cCall m_topic_at_odds (cCons (cVar 3) (cCons (cVar 3) (cCons (cC (.str "hear")) cNil)))) (cC .none))) (cB (cOp isNotC (cCall m_topic_at_odds (cCons (cVar 3) (cCons (cSl (cVar 3) (cPart (cC (.int 1))) cNoPart) (cCons (cC (.str "give")) cNil)))) (cC .none)))) (cRet (cC (.bool false))) cNext)
noncomputable def c_law8 : CS := (cSet 9 (cCall m_topic_at_odds (cCons (cVar 3) (cCons (cSl (cVar 3) (cPart (cC (.int 1))) cNoPart) (cCons (cC (.str "hear")) cNil)))))
noncomputable def c_law9 : CS := (cIf (cOrT (cNot (cB (cCall m__law_met (cCons (cVar 9) (cCons (cC (.str "a/+")) cNil))))) (cB (cOp neC (cCall m_topic_at_odds (cCons (cTup (cCons (cTup (cCons (cC (.str "let")) (cCons (cC (.str "give")) (cCons (cC (.str "a")) cNil)))) cNil)) (cCons (cTup cNil) (cCons (cC (.str "give")) cNil)))) (cC (.str "a"))))) (cRet (cC (.bool false))) cNext)
noncomputable def c_law10 : CS := (cSet 10 (cFun tupleC (cCons (cLc (cIt (cTup (cCons (cC (.str "a")) (cCons (cC (.str "a/+")) (cCons (cC (.str "a/+/+")) (cCons (cC (.str "a/+/+/+")) (cCons (cC (.str "a/+/+/+/+")) cNil))))))) (tgN 11) cYes (cTup (cCons (cC (.str "let")) (cCons (cC (.str "both")) (cCons (cVar 11) cNil)))) [11]) cNil)))
noncomputable def c_law11 : CS := (cIf (cOrT (cB (cOp neC (cCall m_idle_rules (cCons (cOp addC (cVar 10) (cTup (cCons (cTup (cCons (cC (.str "bar")) (cCons (cC (.str "both")) (cCons (cC (.str "a/#")) cNil)))) cNil))) cNil)) (cLst (cCons (cC (.int 5)) cNil)))) (cB (cOp neC (cCall m_idle_rules (cCons (cOp addC (cTup (cCons (cTup (cCons (cC (.str "bar")) (cCons (cC (.str "both")) (cCons (cC (.str "a/b")) cNil)))) cNil)) (cSl (cVar 10) cNoPart (cPart (cC (.int 2))))) cNil)) (cLst cNil)))) (cRet (cC (.bool false))) cNext)
noncomputable def c_law12 : CS := (cSet 12 (cTup (cCons (cTup (cCons (cC (.str "let")) (cCons (cC (.str "hear")) (cCons (cC (.str "a/b")) cNil)))) (cCons (cTup (cCons (cC (.str "let")) (cCons (cC (.str "hear")) (cCons (cC (.str "a/#")) cNil)))) cNil))))
noncomputable def c_law13 : CS := (cIf (cOrT (cB (cOp neC (cCall m_idle_rules (cCons (cVar 12) cNil)) (cLst (cCons (cC (.int 0)) cNil)))) (cB (cOp neC (cCall m_idle_rules (cCons (cRev (cVar 12)) cNil)) (cLst (cCons (cC (.int 1)) cNil))))) (cRet (cC (.bool false))) cNext)
noncomputable def c_law14 : CS := (cIf (cB (cOp neC (cCall m_topic_at_odds (cCons (cTup (cCons (cTup (cCons (cC (.str "let")) (cCons (cC (.str "hear")) (cCons (cC (.str "a/+")) cNil)))) cNil)) (cCons (cTup (cCons (cTup (cCons (cC (.str "bar")) (cCons (cC (.str "hear")) (cCons (cC (.str "+/b")) cNil)))) (cCons (cTup (cCons (cC (.str "let")) (cCons (cC (.str "hear")) (cCons (cC (.str "a/+")) cNil)))) cNil))) (cCons (cC (.str "hear")) cNil)))) (cC (.str "a/b")))) (cRet (cC (.bool false))) cNext)
noncomputable def c_law15 : CS := (cRet (cOp eqC (cCall m_idle_rules (cCons (cTup (cCons (cTup (cCons (cC (.str "let")) (cCons (cC (.str "hear")) (cCons (cC (.str "a/b")) cNil)))) (cCons (cTup (cCons (cC (.str "bar")) (cCons (cC (.str "hear")) (cCons (cC (.str "+/b")) cNil)))) (cCons (cTup (cCons (cC (.str "let")) (cCons (cC (.str "hear")) (cCons (cC (.str "a/#")) cNil)))) cNil)))) cNil)) (cLst (cCons (cC (.int 1)) cNil))))
noncomputable def c_law : CS := cSeq c_law1 (cSeq c_law2 (cSeq c_law3 (cSeq c_law4 (cSeq c_law5 (cSeq c_law6 (cSeq c_law7 (cSeq c_law8 (cSeq c_law9 (cSeq c_law10 (cSeq c_law11 (cSeq c_law12 (cSeq c_law13 (cSeq c_law14 (c_law15))))))))))))))
end Fl

set_option Elab.async false
set_option linter.all false
set_option maxRecDepth 100000
set_option maxHeartbeats 1000000
namespace Fl
open PySem PySem.Spec PyProof.Rows L2 Dl R
local macro_rules | `(tactic| subst_eqs) => `(tactic| simp -implicitDefEqProofs (disch := first | assumption | decide +kernel | (simp only [Bool.and_eq_true, decide_eq_true_eq] <;> (try simp only [PyData.depth, PyData.depthAll]) <;> omega) | fail) only [body, lim, chk_t, iff_t, iff_f, boolR_b, dR_d, intR_i, seqR_l, seqR_t, cSeq, cIf, cNext, cSet, cRet, cRetN, cDrop, cBreak, cVar, cC, cTy, cFn, cOp, cUn, cNil, cCons, cB, cNot, cAndT, cOrT, cIfE, cAnd, cOr, cNotE, cTup, cLst, dsR, datas, notOwnB, bind_ok, bind_er, bind_no, bind_ch, wp_ok, eqv_str, retR_d, retR_o, retR_c, isinC, notInC, isC, isNotC, ltC, leC, gtC, geC, allC, anyC,
  cCall, cCall0, cCallN, cCallN0, cCallL, cFun, cSl, cPart, cNoPart, cIt, cLc, wipeR, cFor, cAsg, tgN, tgT, tgsCons, tgsNil, cPar, cParL, cOwnL, cApp, cRaise, cYes, addC, subC, mulC, modC, fdivC, eqC, twoR, asD, neC, cmpC, inC, isQC, isNonD, negC, lenC, isiC, listC, tupleC, absC, sliceC, revC, cRev, nr, cRng1, cRng2, cEnum, seqLR, cTop, ixC, atR_0, atR_1, atR_2, cChain,
  List.map_cons, List.map_nil, List.cons_append, List.nil_append, List.append_nil, List.getElem?_cons_zero, List.getElem?_cons_succ, List.set_cons_zero, List.set_cons_succ, List.replicate, List.all_cons, List.all_nil, List.length_cons, List.length_nil, Nat.zero_add, Nat.reduceAdd, Nat.reduceBEq, beq_self_eq_true,
  isa_str_none, isa_str_bool, isa_str_int, isa_str_str, isa_str_list, isa_str_tuple, isa_int_none, isa_int_bool, isa_int_int, isa_int_str, isa_int_list, isa_int_tuple, isa_bool_none, isa_bool_bool, isa_bool_int, isa_bool_str, isa_bool_list, isa_bool_tuple, isa_tuple_none, isa_tuple_bool, isa_tuple_int, isa_tuple_str, isa_tuple_list, isa_tuple_tuple, isa_list_none, isa_list_bool, isa_list_int, isa_list_str, isa_list_list, isa_list_tuple,
  Bool.false_eq_true, Bool.not_true, Bool.not_false, Bool.true_and, Bool.and_true, Bool.false_and, Bool.and_false, Bool.or_true, Bool.true_or, Bool.or_false, Bool.false_or, Bool.and_self, Bool.true_eq_false, reduceIte, id_eq, decide_true, decide_false, reduceCtorEq])
/-! ### idle rules and rights at odds at given rights -/
theorem ints_depth (l : List Nat) : PyData.depthAll (l.map intD) = 0 := by
  induction l with
  | nil => rfl
  | cons a l ih => simp only [List.map_cons, PyData.depthAll, intD, PyData.depth, ih]; rfl
theorem ints_dp (l : List Nat) : (PyData.list (l.map intD)).depth ≤ 64 := by
  simp only [PyData.depth, ints_depth]
  decide
theorem ints_same (l : List Nat) : PyData.eqvAll (l.map intD) (l.map intD) = true := by
  induction l with
  | nil => rfl
  | cons a l ih => simp only [List.map_cons, PyData.eqvAll, intD, PyData.eqv, ih]; simp
theorem ints_eqv (l : List Nat) : PyData.eqv (.list (l.map intD)) (.list (l.map intD)) = true := by
  simp only [PyData.eqv]
  exact ints_same l
theorem idle_lit {rs : List Bk.Rule3} (h : AbR rs) (hl : rs.length ≤ 12) {l : List Nat} (e : (List.range rs.length).filter (idleL rs (Bk.foundN 5)) = l) : m_idle_rules [.d (Bk.rightsOf rs)] = ok (.d (.list (l.map intD))) := by
  rw [e_idle_rules (ab_good h hl), ← e]
  congr 3
  refine congrArg _ (List.filter_congr fun i _ => ?_)
  exact idle_same (ab_good h hl) (ab_ab h) i
def oddL (rs ss : List Bk.Rule3) (deed : Str) : List Str := (Bk.foundN 5).filter fun t => !(Bk.lawLets rs deed t == Bk.lawLets ss deed t)
theorem odds_lit {rs ss : List Bk.Rule3} (h : AbR rs) (hl : rs.length ≤ 12) (h' : AbR ss) (hl' : ss.length ≤ 12) {deed : Str} (hd : deed ∈ Bk.deeds2) {L : List Str} (hL : oddL rs ss deed = L) {q : Dv → Prop} {er : Str → Prop} (h1 : ∀ t, Bk.topicB t = true → Bk.zzT t ∈ L → q (.d (.str t))) (h2 : L = [] → q (.d .none)) :
    wp (m_topic_at_odds [.d (Bk.rightsOf rs), .d (Bk.rightsOf ss), .d (.str deed)]) q er := by
  with_reducible refine odds_wp (ab_good h hl) (ab_good h' hl') hd (fun t ht od => ?_) fun no => ?_
  · refine h1 t ht ?_
    rw [← hL]
    refine List.mem_filter.mpr ⟨Bk.zzT_found ht, ?_⟩
    rw [Bk.zz_lets ht (ab_good h hl) (ab_ab h), Bk.zz_lets ht (ab_good h' hl') (ab_ab h')]
    have : ¬ Bk.lawLets rs deed t = Bk.lawLets ss deed t := od
    simp [this]
  · refine h2 ?_
    rw [← hL]
    refine List.filter_eq_nil_iff.mpr fun t ht => ?_
    have := Classical.not_not.mp (no t (Bk.found_topic ht))
    simp [this]
theorem zz_same {t u : Str} (ht : Bk.topicB t = true) (e : Bk.zzT t = u) (hs : ∀ s ∈ Bk.stepsOf u, s = "a" ∨ s = "b") : t = u := by
  have es := (Bk.zzT_topic ht).2
  rw [e] at es
  have same : Bk.stepsOf t = Bk.stepsOf u := by
    rw [es]
    refine (List.map_id _).symm.trans (List.map_congr_left fun s hs' => ?_)
    have := hs (Bk.zzS s) (by rw [es]; exact List.mem_map_of_mem hs')
    unfold Bk.zzS at this ⊢
    by_cases c : s = "a"
    · rw [if_pos c]; exact c
    · rw [if_neg c] at this ⊢
      by_cases d : s = "b"
      · rw [if_pos d]; exact d
      · rw [if_neg d] at this
        rcases this with z | z <;> exact absurd z (by decide +kernel)
  rw [← Bk.join_steps t, same, Bk.join_steps u]
theorem odds_none {rs ss : List Bk.Rule3} (h : AbR rs) (hl : rs.length ≤ 12) (h' : AbR ss) (hl' : ss.length ≤ 12) {deed : Str} (hd : deed ∈ Bk.deeds2) (hL : oddL rs ss deed = []) {q : Dv → Prop} {er : Str → Prop} (hq : q (.d .none)) :
    wp (m_topic_at_odds [.d (Bk.rightsOf rs), .d (Bk.rightsOf ss), .d (.str deed)]) q er := by
  with_reducible exact odds_lit h hl h' hl' hd hL (fun t _ z => absurd z List.not_mem_nil) fun _ => hq
theorem odds_one {rs ss : List Bk.Rule3} (h : AbR rs) (hl : rs.length ≤ 12) (h' : AbR ss) (hl' : ss.length ≤ 12) {deed u : Str} (hd : deed ∈ Bk.deeds2) (hL : oddL rs ss deed = [u]) (hs : ∀ s ∈ Bk.stepsOf u, s = "a" ∨ s = "b") {q : Dv → Prop} {er : Str → Prop} (hq : q (.d (.str u))) :
    wp (m_topic_at_odds [.d (Bk.rightsOf rs), .d (Bk.rightsOf ss), .d (.str deed)]) q er := by
  with_reducible refine odds_lit h hl h' hl' hd hL (fun t ht z => ?_) fun z => absurd z (List.cons_ne_nil _ _)
  rw [zz_same ht (List.mem_singleton.mp z) hs]
  exact hq
end Fl

set_option Elab.async false
set_option linter.all false
set_option maxRecDepth 100000
set_option maxHeartbeats 1000000
namespace Fl
open PySem PySem.Spec PyProof.Rows L2 Dl R
/-! ### the rights that the law names -/
def r1 : List Bk.Rule3 := [("bar", "hear", "a/+"), ("let", "both", "a/#")]
def r2 : List Bk.Rule3 := [("let", "both", "#"), ("bar", "hear", "a")]
def r3 : List Bk.Rule3 := [("bar", "hear", "b")]
def r4 : List Bk.Rule3 := [("let", "give", "a")]
def r5 : List Bk.Rule3 := [("let", "both", "a"), ("let", "both", "a/+"), ("let", "both", "a/+/+"), ("let", "both", "a/+/+/+"), ("let", "both", "a/+/+/+/+")]
def r6 : List Bk.Rule3 := [("bar", "both", "a/#")]
def r7 : List Bk.Rule3 := [("bar", "both", "a/b")]
def r8 : List Bk.Rule3 := [("let", "hear", "a/b"), ("let", "hear", "a/#")]
def rA : List Bk.Rule3 := [("let", "hear", "a/+")]
def rB : List Bk.Rule3 := [("bar", "hear", "+/b"), ("let", "hear", "a/+")]
def r9 : List Bk.Rule3 := [("let", "hear", "a/b"), ("bar", "hear", "+/b"), ("let", "hear", "a/#")]
instance {r : Bk.Rule3} : Decidable (Bk.GoodR r) := decidable_of_iff (r.1 ∈ Bk.words2 ∧ r.2.1 ∈ Bk.owns3 ∧ Bk.wishB r.2.2 = true) ⟨fun h => ⟨h.1, h.2.1, h.2.2⟩, fun h => ⟨h.w, h.o, h.z⟩⟩
instance {w : Str} : Decidable (Bk.AbW w) := by unfold Bk.AbW; infer_instance
instance {rs : List Bk.Rule3} : Decidable (AbR rs) := by unfold AbR; infer_instance
abbrev idleI (rs : List Bk.Rule3) : List Nat := (List.range rs.length).filter (idleL rs (Bk.foundN 5))
theorem ab_r1 : AbR r1 := by decide +kernel
theorem ab_r1t : AbR r1.tail := by decide +kernel
theorem ab_r2 : AbR r2 := by decide +kernel
theorem ab_r3 : AbR r3 := by decide +kernel
theorem ab_r4 : AbR r4 := by decide +kernel
theorem ab_r0 : AbR [] := by decide +kernel
theorem ab_r56 : AbR (r5 ++ r6) := by decide +kernel
theorem ab_r75 : AbR (r7 ++ r5.take 2) := by decide +kernel
theorem ab_r8 : AbR r8 := by decide +kernel
theorem ab_r8r : AbR r8.reverse := by decide +kernel
theorem ab_rA : AbR rA := by decide +kernel
theorem ab_rB : AbR rB := by decide +kernel
theorem ab_r9 : AbR r9 := by decide +kernel
theorem i_r1 : idleI r1 = [] := by decide +kernel
theorem i_r2 : idleI r2 = [1] := by decide +kernel
theorem i_r3 : idleI r3 = [0] := by decide +kernel
theorem i_r0 : idleI [] = [] := by decide +kernel
theorem i_r56 : idleI (r5 ++ r6) = [5] := by decide +kernel
theorem i_r75 : idleI (r7 ++ r5.take 2) = [] := by decide +kernel
theorem i_r8 : idleI r8 = [0] := by decide +kernel
theorem i_r8r : idleI r8.reverse = [1] := by decide +kernel
theorem i_r9 : idleI r9 = [1] := by decide +kernel
theorem o1 : oddL r1 r1 "hear" = [] := by decide +kernel
theorem o2 : oddL r1 r1.tail "give" = [] := by decide +kernel
theorem o3 : (oddL r1 r1.tail "hear").isEmpty = false ∧ (oddL r1 r1.tail "hear").all (fun t => Bk.metB t "a/+") = true := by decide +kernel
theorem o4 : oddL r4 [] "give" = (["a"] : List Str) := by decide +kernel
theorem o5 : oddL rA rB "hear" = (["a/b"] : List Str) := by decide +kernel
end Fl

set_option Elab.async false
set_option linter.all false
set_option maxRecDepth 100000
set_option maxHeartbeats 4000000
namespace Fl
open PySem PySem.Spec PyProof.Rows L2 Dl R
def spLaw (K : PySem.W.Frag) (T : Tbs) : Sp := fun vs H Q _ => ∃ (a : Addr) (ns : List Int), vs = [.ref a] ∧ SqL K H a (ns.map V.int) ∧ ns.length ≤ 63 ∧ LamX.Tabs T H ∧ ∀ H', Q (.bl true) H'
theorem dd_of_strs {K : PySem.W.Frag} {H : Hp} : ∀ {l : List Str}, (∀ t ∈ l, PyData.strOk t = true) → DdAll K H (l.map V.str) (l.map PyData.str)
  | [], _ => .nil
  | _ :: _, h => .cons (.str _ (h _ List.mem_cons_self)) (dd_of_strs fun t ht => h t (List.mem_cons_of_mem _ ht))
section
variable {P : Program} {w : World} {K : PySem.W.Frag} {mg : Str → Option Value} {base : Heap} {T : Tbs}
abbrev s_law : Stmt := top 51
abbrev N_law : List Str := ["_law_script", "_law_cup_here", "_law_topics_here", "_law_rights_here", "_law_most", "_law_one", "_law_other", "_law_deed", "_law_at", "_law_told", "_law_steps", "_law_wish_here", "_law_two"]
theorem sc_law : FnScope N_law ["_law_script"] (defScope s_law) := ⟨rfl, rfl, rfl, by decide +kernel, rfl, by decide +kernel, by decide +kernel⟩
theorem topics_vr {H1 H2 : Hp} {p p2 : Addr} (g2 : Bk.Gr T H1 H2) (cup : Bk.Cup H1 p) (ht : H2 p2 = some (.lst ((Bk.foundN 5).map V.str))) : VR ⟨K, T, some p, [p], H2⟩ [p] H2 (.ref p2) (.d topicsD) := by
  obtain ⟨l, el⟩ : ∃ l, l = Bk.foundN 5 := ⟨_, rfl⟩
  have l3 : l.length = 363 := by rw [el]; decide +kernel
  unfold topicsD
  rw [← el] at ht ⊢
  have np : p2 ∉ [p] := fun z => by
    rw [List.mem_singleton.mp z] at ht
    obtain ⟨x, y, hc, _⟩ := g2.cupd cup
    rw [hc] at ht
    have e2 := congrArg List.length (HO.lst.inj (Option.some.inj ht))
    rw [List.length_map, l3] at e2
    exact absurd e2 (show ¬ 2 = 363 by decide)
  exact Dd.lst (hide_of np ht) (dd_of_strs fun t ht => Bk.topic_ok (Bk.found_topic (el ▸ ht)))
theorem has_law (F : Bk.At K mg "law" s_law) (hb : ∀ (q : Out → Prop) (er : Str → Prop), q (.rt (.d (.bool true))) → wp (c_law [none, some .cup, some (.d topicsD), none, none, none, none, none, none, none, none, none, none]) q er) (HC : Has P w K mg base CX0 1 "_law_cup" ["_law_script"] (Bk.spCup K T)) (HT : Has P w K mg base CX0 1 "_law_topics" [] (Bk.spLTopics T))
    (z_tuple : mg "tuple" = none) (h__law_idle : DHas P w K mg base T 4 "_law_idle" ["_law_rights_here", "_law_topics_here"] (gR m__law_idle)) (h__law_met : DHas P w K mg base T 1 "_law_met" ["_law_topic", "_law_wish_here"] (gR m__law_met)) (h__law_near : DHas P w K mg base T 4 "_law_near" ["_law_cup_here", "_law_rights_here"] (gR m__law_near)) (h__law_odds_right : DHas P w K mg base T 10 "_law_odds_right" ["_law_one", "_law_other", "_law_deed", "_law_topics_here"] (gR m__law_odds_right)) (h__law_rights : DHas P w K mg base T 4 "_law_rights" ["_law_cup_here", "_law_most"] (gR m__law_rights)) (h__law_some : DHas P w K mg base T 2 "_law_some" ["_law_cup_here", "_law_things"] (gR m__law_some)) (h_idle_rules : DHas P w K mg base T 9 "idle_rules" ["rights"] (gR m_idle_rules)) (h_topic_at_odds : DHas P w K mg base T 9 "topic_at_odds" ["rights", "other_rights", "deed"] (gR m_topic_at_odds)) :
    Bk.Has P w K mg base CX0 11 "law" ["_law_script"] (spLaw K T) := by
  refine F.ok0 sc_law (fun _ _ _ _ _ _ us hl => match us, hl with | [_], _ => rfl) (fun vs H Q E h => ?_) fun A outer s H vs Q E hr h => ?_
  · obtain ⟨a, ns, rfl, _⟩ := h
    rfl
  obtain ⟨a, ns, rfl, hS, hl, tb, q⟩ := h
  refine ⟨_, pss_cons (ps_par (i := 1) (j := 2) rfl sc_law.nd rfl rfl (by decide) rfl rfl (pa_cons (Bk.Has.call HC (hr.mono (by decide)) pass0 (pa_cons (pv 0) pa_nil)) (pa_cons (Has.call0 HT (hr.mono (by decide)) pass0) pa_nil)) (by rfl))
    (dsx (K := K) (T := T) fun c hid0 H0 => have l := lv_nox (K := K) (T := T) (c := c) (hid0 := hid0) (H0 := H0) sc_law.nd hr; have eo : EOk ⟨K, T, c, hid0, H0⟩ (fun _ => False) (fun _ _ _ => False) := EOk.never; show PSs _ _ (tS _ (upS (fun _ => False) c_law)) from (fs_cons (fs_set (i := 3) l.b.nd rfl (by first | exact Or.inl rfl | exact Or.inr rfl) (fe_call h__law_rights (fun _ _ h => h) l.b l.pass eo (fe_cons (fe_pv (pv 1)) (fe_cons fe_int fe_nil))))
    (fs_cons (fs_if (ft_cmp (ne_ok l.b) neC_ok (fe_call h_idle_rules (fun _ _ h => h) l.b l.pass eo (fe_cons (fe_pv (pv 3)) fe_nil)) (fe_call h__law_idle (fun _ _ h => h) l.b l.pass eo (fe_cons (fe_pv (pv 3)) (fe_cons (fe_pv (pv 2)) fe_nil)))) (fs_one (fs_ret fe_bl)) fs_nil)
    (fs_cons (fs_for (ow := [4]) l (fi_seq l.b (fe_tup (fe_cons fe_int (fe_cons fe_int fe_nil)))) (fg_name (i := 4) l.b.nd rfl (by first | exact Or.inl rfl | exact Or.inr rfl)) (fs_cons (fs_set (i := 5) l.b.nd rfl (by first | exact Or.inl rfl | exact Or.inr rfl) (fe_call h__law_rights (fun _ _ h => h) l.b l.pass eo (fe_cons (fe_pv (pv 1)) (fe_cons (fe_pv (pv 4)) fe_nil))))
    (fs_cons (fs_par (i := 6) (j := 7) l.b rfl rfl (fe_cons (fe_call h__law_near (fun _ _ h => h) l.b l.pass eo (fe_cons (fe_pv (pv 1)) (fe_cons (fe_pv (pv 5)) fe_nil))) (fe_cons (fe_call h__law_some (fun _ _ h => h) l.b l.pass eo (fe_cons (fe_pv (pv 1)) (fe_cons (fe_lst (fe_cons fe_str (fe_cons fe_str fe_nil))) fe_nil))) fe_nil)))
    (fs_cons (fs_if (PW.pt (fw_or (ft_not (ft_val (fe_call h__law_odds_right (fun _ _ h => h) l.b l.pass eo (fe_cons (fe_pv (pv 5)) (fe_cons (fe_pv (pv 6)) (fe_cons (fe_pv (pv 7)) (fe_cons (fe_pv (pv 2)) fe_nil))))))) (pw_or1 (ft_not (ft_val (fe_call h__law_odds_right (fun _ _ h => h) l.b l.pass eo (fe_cons (fe_pv (pv 6)) (fe_cons (fe_pv (pv 5)) (fe_cons (fe_pv (pv 7)) (fe_cons (fe_pv (pv 2)) fe_nil)))))))))) (fs_one (fs_ret fe_bl)) fs_nil)
    (fs_cons (fs_if (ft_cmp isNot_ok isC_ok (fe_call h_topic_at_odds (fun _ _ h => h) l.b l.pass eo (fe_cons (fe_pv (pv 5)) (fe_cons (fe_pv (pv 5)) (fe_cons (fe_pv (pv 7)) fe_nil)))) fe_non) (fs_one (fs_ret fe_bl)) fs_nil)
    (fs_one (fs_for (ow := [8]) l (fi_seq l.b (fe_slice l.b (fe_call h_idle_rules (fun _ _ h => h) l.b l.pass eo (fe_cons (fe_pv (pv 5)) fe_nil)) fo_none (fo_some fe_int))) (fg_name (i := 8) l.b.nd rfl (by first | exact Or.inl rfl | exact Or.inr rfl)) (fs_one (fs_if (ft_cmp isNot_ok isC_ok (fe_call h_topic_at_odds (fun _ _ h => h) l.b l.pass eo (fe_cons (fe_pv (pv 5)) (fe_cons (fe_op (add_ok l.b) addC_ok (fe_slice l.b (fe_pv (pv 5)) fo_none (fo_some (fe_pv (pv 8)))) (fe_slice l.b (fe_pv (pv 5)) (fo_some (fe_op (add_ok l.b) addC_ok (fe_pv (pv 8)) fe_int)) fo_none)) (fe_cons (fe_pv (pv 7)) fe_nil)))) fe_non) (fs_one (fs_ret fe_bl)) fs_nil)))))))))
    (fs_cons (fs_set (i := 3) l.b.nd rfl (by first | exact Or.inl rfl | exact Or.inr rfl) (fe_tup (fe_cons (fe_tup (fe_cons fe_str (fe_cons fe_str (fe_cons fe_str fe_nil)))) (fe_cons (fe_tup (fe_cons fe_str (fe_cons fe_str (fe_cons fe_str fe_nil)))) fe_nil))))
    (fs_cons (fs_if (PW.pt (fw_or (ft_cmp (ne_ok l.b) neC_ok (fe_call h_idle_rules (fun _ _ h => h) l.b l.pass eo (fe_cons (fe_pv (pv 3)) fe_nil)) (fe_lst fe_nil)) (pw_or1 (ft_cmp (ne_ok l.b) neC_ok (fe_call h_idle_rules (fun _ _ h => h) l.b l.pass eo (fe_cons (fe_tup (fe_cons (fe_tup (fe_cons fe_str (fe_cons fe_str (fe_cons fe_str fe_nil)))) (fe_cons (fe_tup (fe_cons fe_str (fe_cons fe_str (fe_cons fe_str fe_nil)))) fe_nil))) fe_nil)) (fe_lst (fe_cons fe_int fe_nil)))))) (fs_one (fs_ret fe_bl)) fs_nil)
    (fs_cons (fs_if (PW.pt (fw_or (ft_cmp (ne_ok l.b) neC_ok (fe_call h_idle_rules (fun _ _ h => h) l.b l.pass eo (fe_cons (fe_tup (fe_cons (fe_tup (fe_cons fe_str (fe_cons fe_str (fe_cons fe_str fe_nil)))) fe_nil)) fe_nil)) (fe_lst (fe_cons fe_int fe_nil))) (pw_or1 (ft_cmp (ne_ok l.b) neC_ok (fe_call h_idle_rules (fun _ _ h => h) l.b l.pass eo (fe_cons (fe_tup fe_nil) fe_nil)) (fe_lst fe_nil))))) (fs_one (fs_ret fe_bl)) fs_nil)
    (fs_cons (fs_if (PW.pt (fw_or (ft_cmp isNot_ok isC_ok (fe_call h_topic_at_odds (fun _ _ h => h) l.b l.pass eo (fe_cons (fe_pv (pv 3)) (fe_cons (fe_pv (pv 3)) (fe_cons fe_str fe_nil)))) fe_non) (pw_or1 (ft_cmp isNot_ok isC_ok (fe_call h_topic_at_odds (fun _ _ h => h) l.b l.pass eo (fe_cons (fe_pv (pv 3)) (fe_cons (fe_slice l.b (fe_pv (pv 3)) (fo_some fe_int) fo_none) (fe_cons fe_str fe_nil)))) fe_non)))) (fs_one (fs_ret fe_bl)) fs_nil)
    (fs_cons (fs_set (i := 9) l.b.nd rfl (by first | exact Or.inl rfl | exact Or.inr rfl) (fe_call h_topic_at_odds (fun _ _ h => h) l.b l.pass eo (fe_cons (fe_pv (pv 3)) (fe_cons (fe_slice l.b (fe_pv (pv 3)) (fo_some fe_int) fo_none) (fe_cons fe_str fe_nil)))))
    (fs_cons (fs_if (PW.pt (fw_or (ft_not (ft_val (fe_call h__law_met (fun _ _ h => h) l.b l.pass eo (fe_cons (fe_pv (pv 9)) (fe_cons fe_str fe_nil))))) (pw_or1 (ft_cmp (ne_ok l.b) neC_ok (fe_call h_topic_at_odds (fun _ _ h => h) l.b l.pass eo (fe_cons (fe_tup (fe_cons (fe_tup (fe_cons fe_str (fe_cons fe_str (fe_cons fe_str fe_nil)))) fe_nil)) (fe_cons (fe_tup fe_nil) (fe_cons fe_str fe_nil)))) fe_str)))) (fs_one (fs_ret fe_bl)) fs_nil)
    (fs_cons (fs_set (i := 10) l.b.nd rfl (by first | exact Or.inl rfl | exact Or.inr rfl) (fe_callT (tuple_ok l.b) tupleC_ok PyProof.Rows.boot_tuple z_tuple (fe_cons (fe_lc (own := [("_law_wish_here", 11)]) l.b (fi_seq l.b (fe_tup (fe_cons fe_str (fe_cons fe_str (fe_cons fe_str (fe_cons fe_str (fe_cons fe_str fe_nil))))))) (blk_by (by show BlkD N_law (defScope s_law) _ [("_law_wish_here", 11)]; decide +kernel)) (fun _ _ _ _ _ l1 => (fg_name (i := 11) l1.nd rfl (by first | exact Or.inl rfl | exact Or.inr rfl))) (fun _ _ _ _ _ l1 => fts_nil) (fun _ _ _ _ _ l1 => (fe_tup (fe_cons fe_str (fe_cons fe_str (fe_cons (fe_pv (pv 11)) fe_nil)))))) fe_nil)))
    (fs_cons (fs_if (PW.pt (fw_or (ft_cmp (ne_ok l.b) neC_ok (fe_call h_idle_rules (fun _ _ h => h) l.b l.pass eo (fe_cons (fe_op (add_ok l.b) addC_ok (fe_pv (pv 10)) (fe_tup (fe_cons (fe_tup (fe_cons fe_str (fe_cons fe_str (fe_cons fe_str fe_nil)))) fe_nil))) fe_nil)) (fe_lst (fe_cons fe_int fe_nil))) (pw_or1 (ft_cmp (ne_ok l.b) neC_ok (fe_call h_idle_rules (fun _ _ h => h) l.b l.pass eo (fe_cons (fe_op (add_ok l.b) addC_ok (fe_tup (fe_cons (fe_tup (fe_cons fe_str (fe_cons fe_str (fe_cons fe_str fe_nil)))) fe_nil)) (fe_slice l.b (fe_pv (pv 10)) fo_none (fo_some fe_int))) fe_nil)) (fe_lst fe_nil))))) (fs_one (fs_ret fe_bl)) fs_nil)
    (fs_cons (fs_set (i := 12) l.b.nd rfl (by first | exact Or.inl rfl | exact Or.inr rfl) (fe_tup (fe_cons (fe_tup (fe_cons fe_str (fe_cons fe_str (fe_cons fe_str fe_nil)))) (fe_cons (fe_tup (fe_cons fe_str (fe_cons fe_str (fe_cons fe_str fe_nil)))) fe_nil))))
    (fs_cons (fs_if (PW.pt (fw_or (ft_cmp (ne_ok l.b) neC_ok (fe_call h_idle_rules (fun _ _ h => h) l.b l.pass eo (fe_cons (fe_pv (pv 12)) fe_nil)) (fe_lst (fe_cons fe_int fe_nil))) (pw_or1 (ft_cmp (ne_ok l.b) neC_ok (fe_call h_idle_rules (fun _ _ h => h) l.b l.pass eo (fe_cons (fe_rev l.b (fe_pv (pv 12))) fe_nil)) (fe_lst (fe_cons fe_int fe_nil)))))) (fs_one (fs_ret fe_bl)) fs_nil)
    (fs_cons (fs_if (ft_cmp (ne_ok l.b) neC_ok (fe_call h_topic_at_odds (fun _ _ h => h) l.b l.pass eo (fe_cons (fe_tup (fe_cons (fe_tup (fe_cons fe_str (fe_cons fe_str (fe_cons fe_str fe_nil)))) fe_nil)) (fe_cons (fe_tup (fe_cons (fe_tup (fe_cons fe_str (fe_cons fe_str (fe_cons fe_str fe_nil)))) (fe_cons (fe_tup (fe_cons fe_str (fe_cons fe_str (fe_cons fe_str fe_nil)))) fe_nil))) (fe_cons fe_str fe_nil)))) fe_str) (fs_one (fs_ret fe_bl)) fs_nil)
    (fs_one (fs_ret (fe_cmp (eq_ok l.b) eqC_ok (fe_call h_idle_rules (fun _ _ h => h) l.b l.pass eo (fe_cons (fe_tup (fe_cons (fe_tup (fe_cons fe_str (fe_cons fe_str (fe_cons fe_str fe_nil)))) (fe_cons (fe_tup (fe_cons fe_str (fe_cons fe_str (fe_cons fe_str fe_nil)))) (fe_cons (fe_tup (fe_cons fe_str (fe_cons fe_str (fe_cons fe_str fe_nil)))) fe_nil)))) fe_nil)) (fe_lst (fe_cons fe_int fe_nil)))))))))))))))))))), ?_⟩
  refine ⟨_, rfl, a, ns, rfl, hS, hl, tb, fun p H1 g1 cup => ⟨rfl, g1.tabs, fun H2 p2 g2 ht => ?_⟩⟩
  have vt : VR ⟨K, T, some p, [p], H2⟩ [p] H2 (.ref p2) (.d topicsD) := topics_vr g2 cup ht
  revert hb
  obtain ⟨O, eO⟩ : ∃ O, O = topicsD := ⟨_, rfl⟩
  rw [← eO] at vt ⊢
  intro hb
  refine ⟨_, _, rfl, some p, [p], H2, [p], [none, some .cup, some (.d O), none, none, none, none, none, none, none, none, none, none], { nx := fun _ => False, rt := fun x => x = .d (.bool true) }, start_ok g2.tabs (g2.cupd cup) rfl ?_, ?_, ends_law q⟩
  · intro i x e
    match i, e with
    | 1, e => cases e; exact ⟨_, rfl, ⟨p, rfl, rfl⟩, trivial⟩
    | 2, e =>
      cases e
      exact ⟨_, rfl, vt, trivial⟩
    | 0, e => cases e
    | 3, e => cases e
    | 4, e => cases e
    | 5, e => cases e
    | 6, e => cases e
    | 7, e => cases e
    | 8, e => cases e
    | 9, e => cases e
    | 10, e => cases e
    | 11, e => cases e
    | 12, e => cases e
    | _ + 13, e => cases e
  · exact hb _ _ rfl
end
end Fl

set_option Elab.async false
set_option linter.all false
set_option maxRecDepth 100000
set_option maxHeartbeats 1000000
namespace Fl
open PySem PySem.Spec PyProof.Rows L2 Dl R
local macro_rules | `(tactic| subst_eqs) => `(tactic| simp -implicitDefEqProofs (disch := first | assumption | decide +kernel | (simp only [Bool.and_eq_true, decide_eq_true_eq] <;> (try simp only [PyData.depth, PyData.depthAll]) <;> omega) | fail) only [body, lim, chk_t, iff_t, iff_f, boolR_b, dR_d, intR_i, seqR_l, seqR_t, cSeq, cIf, cNext, cSet, cRet, cRetN, cDrop, cBreak, cVar, cC, cTy, cFn, cOp, cUn, cNil, cCons, cB, cNot, cAndT, cOrT, cIfE, cAnd, cOr, cNotE, cTup, cLst, dsR, datas, notOwnB, bind_ok, bind_er, bind_no, bind_ch, wp_ok, eqv_str, retR_d, retR_o, retR_c, isinC, notInC, isC, isNotC, ltC, leC, gtC, geC, allC, anyC,
  cCall, cCall0, cCallN, cCallN0, cCallL, cFun, cSl, cPart, cNoPart, cIt, cLc, wipeR, cFor, cAsg, tgN, tgT, tgsCons, tgsNil, cPar, cParL, cOwnL, cApp, cRaise, cYes, addC, subC, mulC, modC, fdivC, eqC, twoR, asD, neC, cmpC, inC, isQC, isNonD, negC, lenC, isiC, listC, tupleC, absC, sliceC, revC, cRev, nr, cRng1, cRng2, cEnum, seqLR, cTop, ixC, atR_0, atR_1, atR_2, cChain,
  List.map_cons, List.map_nil, List.cons_append, List.nil_append, List.append_nil, List.getElem?_cons_zero, List.getElem?_cons_succ, List.set_cons_zero, List.set_cons_succ, List.replicate, List.all_cons, List.all_nil, List.length_cons, List.length_nil, Nat.zero_add, Nat.reduceAdd, Nat.reduceBEq, beq_self_eq_true,
  isa_str_none, isa_str_bool, isa_str_int, isa_str_str, isa_str_list, isa_str_tuple, isa_int_none, isa_int_bool, isa_int_int, isa_int_str, isa_int_list, isa_int_tuple, isa_bool_none, isa_bool_bool, isa_bool_int, isa_bool_str, isa_bool_list, isa_bool_tuple, isa_tuple_none, isa_tuple_bool, isa_tuple_int, isa_tuple_str, isa_tuple_list, isa_tuple_tuple, isa_list_none, isa_list_bool, isa_list_int, isa_list_str, isa_list_list, isa_list_tuple,
  Bool.false_eq_true, Bool.not_true, Bool.not_false, Bool.true_and, Bool.and_true, Bool.false_and, Bool.and_false, Bool.or_true, Bool.true_or, Bool.or_false, Bool.false_or, Bool.and_self, Bool.true_eq_false, reduceIte, id_eq, decide_true, decide_false, reduceCtorEq])
/-! ### the law: rights that are drawn -/
section
variable {ts : List Str} (ht : ∀ t ∈ ts, Bk.topicB t = true) (htl : ts.length ≤ 1000)
def IdAll (ts : List Str) : Prop := ∀ rs, AbR rs → rs.length ≤ 12 → (List.range rs.length).filter (idleC rs) = (List.range rs.length).filter (idleL rs ts)
def LsAll (ts : List Str) : Prop := ∀ rs ss deed, AbR rs → rs.length ≤ 12 → AbR ss → ss.length ≤ 12 → ((∀ t ∈ ts, Bk.lawLets rs deed t = Bk.lawLets ss deed t) ↔ ∀ t, Bk.topicB t = true → Bk.lawLets rs deed t = Bk.lawLets ss deed t)
theorem some_deed {q : Dv → Prop} {er : Str → Prop} (h : ∀ u ∈ Bk.deeds2, q (.d (.str u))) : wp (m__law_some [.cup, .d (.list [.str "give", .str "hear"])]) q er := by
  with_reducible refine some_wp (.inl rfl) (by decide) (by decide) fun d hd => ?_
  simp only [List.mem_cons, List.not_mem_nil, or_false] at hd
  rcases hd with rfl | rfl
  · exact h _ (by decide)
  · exact h _ (by decide)
theorem odds_self {rs : List Bk.Rule3} (g : Bk.Good rs) {deed : Str} (hd : deed ∈ Bk.deeds2) {q : Dv → Prop} {er : Str → Prop} (hq : q (.d .none)) : wp (m_topic_at_odds [.d (Bk.rightsOf rs), .d (Bk.rightsOf rs), .d (.str deed)]) q er := by
  have n : ∀ t, ¬ Odds rs rs deed t := fun t od => od rfl
  with_reducible exact odds_wp g g hd (fun t _ od => absurd od (n t)) fun _ => hq
open Classical in
theorem odds_idle {rs : List Bk.Rule3} (g : Bk.Good rs) {i : Nat} (hi : idleC rs i = true) {deed : Str} (hd : deed ∈ Bk.deeds2) {q : Dv → Prop} {er : Str → Prop} (hq : q (.d .none)) : wp (m_topic_at_odds [.d (.tuple (rs.map Bk.ruleOf)), .d (.tuple ((less rs i).map Bk.ruleOf)), .d (.str deed)]) q er := by
  unfold idleC at hi
  have k0 := @of_decide_eq_true _ _ hi
  have k1 : ∀ t, Bk.topicB t = true → Bk.lawLets (less rs i) deed t = Bk.lawLets rs deed t := k0 deed hd
  have n : ∀ t, Bk.topicB t = true → ¬ Odds rs (less rs i) deed t := fun t ht od => od (k1 t ht).symm
  have k : wp (m_topic_at_odds [.d (Bk.rightsOf rs), .d (Bk.rightsOf (less rs i)), .d (.str deed)]) q er := by
    with_reducible exact odds_wp g (good_less g i) hd (fun t ht od => absurd od (n t ht)) fun _ => hq
  unfold Bk.rightsOf at k
  with_reducible exact k
theorem l1_wp {O : Dv} {er : Str → Prop} : wp (c_law1 [none, some .cup, some O, none, none, none, none, none, none, none, none, none, none]) (fun o => ∃ ρ', o = .nx ρ' ∧ ∃ rs, AbR rs ∧ rs.length ≤ 6 ∧ ρ' = [none, some .cup, some O, some (.d (Bk.rightsOf rs)), none, none, none, none, none, none, none, none, none]) er := by
  unfold c_law1
  subst_eqs
  repeat rw [wp_bind]
  with_reducible refine rights_wp (by decide) (by decide) fun rs h hl => ?_
  subst_eqs
  exact ⟨_, rfl, rs, h, hl, rfl⟩
include ht htl in
theorem l2_wp (hi : IdAll ts) {rs : List Bk.Rule3} (h : AbR rs) (hl : rs.length ≤ 6) {er : Str → Prop} : wp (c_law2 [none, some .cup, some (.d (.list (ts.map .str))), some (.d (Bk.rightsOf rs)), none, none, none, none, none, none, none, none, none]) (fun o => ∃ ρ', o = .nx ρ' ∧ ρ' = [none, some .cup, some (.d (.list (ts.map .str))), some (.d (Bk.rightsOf rs)), none, none, none, none, none, none, none, none, none]) er := by
  have g := ab_good h (by omega : rs.length ≤ 12)
  have e1 := e_idle_rules g
  rw [hi rs h (by omega)] at e1
  unfold c_law2
  subst_eqs
  rw [e1]
  subst_eqs
  repeat rw [wp_bind]
  with_reducible refine idle_law_wp g ht htl ?_
  subst_eqs
  rw [chk_t (by rw [decide_eq_true (ints_dp _)]), ints_eqv]
  subst_eqs
  exact ⟨_, rfl, rfl⟩
include ht htl in
theorem l3_wp (hi : IdAll ts) (hs : LsAll ts) {R : Dv} {er : Str → Prop} : wp (c_law3 [none, some .cup, some (.d (.list (ts.map .str))), some R, none, none, none, none, none, none, none, none, none]) (fun o => ∃ ρ', o = .nx ρ' ∧ ∃ o4 o5 o6 o7 o8, ρ' = [none, some .cup, some (.d (.list (ts.map .str))), some R, o4, o5, o6, o7, o8, none, none, none, none]) er := by
  unfold c_law3
  subst_eqs
  repeat rw [wp_bind]
  refine for_wp (fun _ ρ => ∃ o4 o5 o6 o7 o8, ρ = [none, some .cup, some (.d (.list (ts.map .str))), some R, o4, o5, o6, o7, o8, none, none, none, none]) ⟨_, _, _, _, _, rfl⟩ ?_ ?_
  · rintro i x ρ ex ⟨o4, o5, o6, o7, o8, rfl⟩
    obtain ⟨m, rfl, m0, m6⟩ : ∃ m : Int, x = .int m ∧ 0 ≤ m ∧ m ≤ 6 := by
      have hx := List.mem_of_getElem? ex
      simp only [List.mem_cons, List.not_mem_nil, or_false] at hx
      rcases hx with rfl | rfl
      · exact ⟨3, rfl, by decide, by decide⟩
      · exact ⟨6, rfl, by decide, by decide⟩
    subst_eqs
    repeat rw [wp_bind]
    with_reducible refine rights_wp m0 m6 fun rs h hl => ?_
    subst_eqs
    repeat rw [wp_bind]
    with_reducible refine near_wp h hl fun ss h' hl' => ?_
    subst_eqs
    repeat rw [wp_bind]
    with_reducible refine some_deed fun deed hd => ?_
    have g := ab_good h (by omega : rs.length ≤ 12)
    have g' := ab_good h' (by omega : ss.length ≤ 12)
    have l1 := hs rs ss deed h (by omega) h' (by omega)
    have l2 := hs ss rs deed h' (by omega) h (by omega)
    subst_eqs
    repeat rw [wp_bind]
    with_reducible refine odds_right_ts ht htl g g' l1 hd ?_
    subst_eqs
    repeat rw [wp_bind]
    with_reducible refine odds_right_ts ht htl g' g l2 hd ?_
    subst_eqs
    repeat rw [wp_bind]
    with_reducible refine odds_self g hd ?_
    have e1 := e_idle_rules g
    subst_eqs
    rw [e1]
    subst_eqs
    unfold Bk.rightsOf
    with_reducible refine for_wp (fun _ ρ => ∃ o8, ρ = [none, some .cup, some (.d (.list (ts.map .str))), some R, some (.d (.int m)), some (.d (.tuple (rs.map Bk.ruleOf))), some (.d (.tuple (ss.map Bk.ruleOf))), some (.d (.str deed)), o8, none, none, none, none]) ⟨_, rfl⟩ ?_ ?_
    · rintro j x ρ ex ⟨o8, rfl⟩
      obtain ⟨i, rfl, il, ic⟩ : ∃ i : Nat, x = .int (i : Nat) ∧ i < rs.length ∧ idleC rs i = true := by
        rw [show (some (1 : Int)) = some ((1 : Nat) : Int) from rfl, cut_to] at ex
        obtain ⟨i, hi, rfl⟩ := List.mem_map.mp (List.mem_of_mem_take (List.mem_of_getElem? ex))
        obtain ⟨h1, h2⟩ := List.mem_filter.mp hi
        exact ⟨i, by unfold intD; rw [Int.zero_add], List.mem_range.mp h1, h2⟩
      have hlen : ((rs.map Bk.ruleOf).take i).length + ((rs.map Bk.ruleOf).drop (i + 1)).length ≤ 100 := by
        rw [List.length_take, List.length_drop, List.length_map]
        omega
      have el : (rs.map Bk.ruleOf).take i ++ (rs.map Bk.ruleOf).drop (i + 1) = (less rs i).map Bk.ruleOf := by unfold less; rw [List.map_append, List.map_take, List.map_drop]
      subst_eqs
      rw [cut_to, show ((i : Int) + 1) = ((i + 1 : Nat) : Int) from rfl, cut_from]
      subst_eqs
      rw [el]
      repeat rw [wp_bind]
      with_reducible refine odds_idle g ic hd ?_
      subst_eqs
      exact ⟨_, rfl⟩
    · rintro ρ ⟨o8, rfl⟩
      subst_eqs
      exact ⟨_, _, _, _, _, rfl⟩
  · rintro ρ ⟨o4, o5, o6, o7, o8, rfl⟩
    subst_eqs
    exact ⟨_, rfl, _, _, _, _, _, rfl⟩
end
end Fl

set_option Elab.async false
set_option linter.all false
set_option maxRecDepth 100000
set_option maxHeartbeats 1000000
namespace Fl
open PySem PySem.Spec PyProof.Rows L2 Dl R
local macro_rules | `(tactic| subst_eqs) => `(tactic| simp -implicitDefEqProofs (disch := first | assumption | decide +kernel | (simp only [Bool.and_eq_true, decide_eq_true_eq] <;> (try simp only [PyData.depth, PyData.depthAll]) <;> omega) | fail) only [body, lim, chk_t, iff_t, iff_f, boolR_b, dR_d, intR_i, seqR_l, seqR_t, cSeq, cIf, cNext, cSet, cRet, cRetN, cDrop, cBreak, cVar, cC, cTy, cFn, cOp, cUn, cNil, cCons, cB, cNot, cAndT, cOrT, cIfE, cAnd, cOr, cNotE, cTup, cLst, dsR, datas, notOwnB, bind_ok, bind_er, bind_no, bind_ch, wp_ok, eqv_str, retR_d, retR_o, retR_c, isinC, notInC, isC, isNotC, ltC, leC, gtC, geC, allC, anyC,
  cCall, cCall0, cCallN, cCallN0, cCallL, cFun, cSl, cPart, cNoPart, cIt, cLc, wipeR, cFor, cAsg, tgN, tgT, tgsCons, tgsNil, cPar, cParL, cOwnL, cApp, cRaise, cYes, addC, subC, mulC, modC, fdivC, eqC, twoR, asD, neC, cmpC, inC, isQC, isNonD, negC, lenC, isiC, listC, tupleC, absC, sliceC, revC, cRev, nr, cRng1, cRng2, cEnum, seqLR, cTop, ixC, atR_0, atR_1, atR_2, cChain,
  List.map_cons, List.map_nil, List.cons_append, List.nil_append, List.append_nil, List.getElem?_cons_zero, List.getElem?_cons_succ, List.set_cons_zero, List.set_cons_succ, List.replicate, List.all_cons, List.all_nil, List.length_cons, List.length_nil, Nat.zero_add, Nat.reduceAdd, Nat.reduceBEq, beq_self_eq_true,
  isa_str_none, isa_str_bool, isa_str_int, isa_str_str, isa_str_list, isa_str_tuple, isa_int_none, isa_int_bool, isa_int_int, isa_int_str, isa_int_list, isa_int_tuple, isa_bool_none, isa_bool_bool, isa_bool_int, isa_bool_str, isa_bool_list, isa_bool_tuple, isa_tuple_none, isa_tuple_bool, isa_tuple_int, isa_tuple_str, isa_tuple_list, isa_tuple_tuple, isa_list_none, isa_list_bool, isa_list_int, isa_list_str, isa_list_list, isa_list_tuple,
  Bool.false_eq_true, Bool.not_true, Bool.not_false, Bool.true_and, Bool.and_true, Bool.false_and, Bool.and_false, Bool.or_true, Bool.true_or, Bool.or_false, Bool.false_or, Bool.and_self, Bool.true_eq_false, reduceIte, id_eq, decide_true, decide_false, reduceCtorEq])
/-! ### the law: the rights that it names -/
section
variable {O : Dv} {R : Option Dv} {o4 o5 o6 o7 o8 : Option Dv} {er : Str → Prop}
abbrev D1 : PyData := .tuple [.tuple [.str "bar", .str "hear", .str "a/+"], .tuple [.str "let", .str "both", .str "a/#"]]
theorem l4_wp : wp (c_law4 [none, some .cup, some O, R, o4, o5, o6, o7, o8, none, none, none, none]) (fun o => ∃ ρ', o = .nx ρ' ∧ ρ' = [none, some .cup, some O, some (.d D1), o4, o5, o6, o7, o8, none, none, none, none]) er := by
  unfold c_law4
  subst_eqs
  exact ⟨_, rfl, rfl⟩
theorem l5_wp : wp (c_law5 [none, some .cup, some O, some (.d D1), o4, o5, o6, o7, o8, none, none, none, none]) (fun o => ∃ ρ', o = .nx ρ' ∧ ρ' = [none, some .cup, some O, some (.d D1), o4, o5, o6, o7, o8, none, none, none, none]) er := by
  have k1 : m_idle_rules [.d D1] = ok (.d (.list [])) := idle_lit ab_r1 (by decide) i_r1
  have k2 : m_idle_rules [.d (.tuple [.tuple [.str "let", .str "both", .str "#"], .tuple [.str "bar", .str "hear", .str "a"]])] = ok (.d (.list [.int 1])) := idle_lit ab_r2 (by decide) i_r2
  unfold c_law5
  subst_eqs
  rw [k1]
  subst_eqs
  rw [k2]
  subst_eqs
  exact ⟨_, rfl, rfl⟩
theorem l6_wp : wp (c_law6 [none, some .cup, some O, some (.d D1), o4, o5, o6, o7, o8, none, none, none, none]) (fun o => ∃ ρ', o = .nx ρ' ∧ ρ' = [none, some .cup, some O, some (.d D1), o4, o5, o6, o7, o8, none, none, none, none]) er := by
  have k1 : m_idle_rules [.d (.tuple [])] = ok (.d (.list [])) := idle_lit ab_r0 (by decide) i_r0
  have k2 : m_idle_rules [.d (.tuple [.tuple [.str "bar", .str "hear", .str "b"]])] = ok (.d (.list [.int 0])) := idle_lit ab_r3 (by decide) i_r3
  unfold c_law6
  subst_eqs
  rw [k2]
  subst_eqs
  rw [k1]
  subst_eqs
  exact ⟨_, rfl, rfl⟩
abbrev D1t : PyData := .tuple [.tuple [.str "let", .str "both", .str "a/#"]]
theorem q1 {q : Dv → Prop} (hq : q (.d .none)) : wp (m_topic_at_odds [.d D1, .d D1, .d (.str "hear")]) q er := by
  have k : wp (m_topic_at_odds [.d (Bk.rightsOf r1), .d (Bk.rightsOf r1), .d (.str "hear")]) q er := by
    with_reducible exact odds_none ab_r1 (by decide) ab_r1 (by decide) (by decide) o1 hq
  have e : Bk.rightsOf r1 = D1 := rfl
  rw [e] at k
  with_reducible exact k
theorem q2 {q : Dv → Prop} (hq : q (.d .none)) : wp (m_topic_at_odds [.d D1, .d D1t, .d (.str "give")]) q er := by
  have k : wp (m_topic_at_odds [.d (Bk.rightsOf r1), .d (Bk.rightsOf r1.tail), .d (.str "give")]) q er := by
    with_reducible exact odds_none ab_r1 (by decide) ab_r1t (by decide) (by decide) o2 hq
  have e : Bk.rightsOf r1 = D1 := rfl
  have e' : Bk.rightsOf r1.tail = D1t := rfl
  rw [e, e'] at k
  with_reducible exact k
theorem q3 {q : Dv → Prop} (hq : ∀ t, Bk.topicB t = true → Bk.metB t "a/+" = true → q (.d (.str t))) : wp (m_topic_at_odds [.d D1, .d D1t, .d (.str "hear")]) q er := by
  have k : wp (m_topic_at_odds [.d (Bk.rightsOf r1), .d (Bk.rightsOf r1.tail), .d (.str "hear")]) q er := by
    have a := List.all_eq_true.mp o3.2
    have w : Bk.wishB "a/+" = true := by decide +kernel
    have aw : Bk.AbW "a/+" := by decide +kernel
    have k1 : ∀ t, Bk.topicB t = true → Bk.zzT t ∈ oddL r1 r1.tail "hear" → q (.d (.str t)) := fun t ht z => hq t ht (by
      have := a _ z
      rw [Bk.zz_met ht w aw] at this
      exact this)
    have k2 : oddL r1 r1.tail "hear" = [] → q (.d .none) := fun z => by
      have := o3.1
      rw [z] at this
      cases this
    with_reducible exact odds_lit ab_r1 (by decide) ab_r1t (by decide) (by decide) rfl k1 k2
  have e : Bk.rightsOf r1 = D1 := rfl
  have e' : Bk.rightsOf r1.tail = D1t := rfl
  rw [e, e'] at k
  with_reducible exact k
theorem q4 {q : Dv → Prop} (hq : q (.d (.str "a"))) : wp (m_topic_at_odds [.d (.tuple [.tuple [.str "let", .str "give", .str "a"]]), .d (.tuple []), .d (.str "give")]) q er := by
  have k : wp (m_topic_at_odds [.d (Bk.rightsOf r4), .d (Bk.rightsOf []), .d (.str "give")]) q er := by
    with_reducible exact odds_one ab_r4 (by decide) ab_r0 (by decide) (by decide) o4 (by decide +kernel) hq
  have e : Bk.rightsOf r4 = .tuple [.tuple [.str "let", .str "give", .str "a"]] := rfl
  have e' : Bk.rightsOf [] = .tuple [] := rfl
  rw [e, e'] at k
  with_reducible exact k
theorem q5 {q : Dv → Prop} (hq : q (.d (.str "a/b"))) : wp (m_topic_at_odds [.d (.tuple [.tuple [.str "let", .str "hear", .str "a/+"]]), .d (.tuple [.tuple [.str "bar", .str "hear", .str "+/b"], .tuple [.str "let", .str "hear", .str "a/+"]]), .d (.str "hear")]) q er := by
  have k : wp (m_topic_at_odds [.d (Bk.rightsOf rA), .d (Bk.rightsOf rB), .d (.str "hear")]) q er := by
    with_reducible exact odds_one ab_rA (by decide) ab_rB (by decide) (by decide) o5 (by decide +kernel) hq
  have e : Bk.rightsOf rA = .tuple [.tuple [.str "let", .str "hear", .str "a/+"]] := rfl
  have e' : Bk.rightsOf rB = .tuple [.tuple [.str "bar", .str "hear", .str "+/b"], .tuple [.str "let", .str "hear", .str "a/+"]] := rfl
  rw [e, e'] at k
  with_reducible exact k
theorem cutT : Dl.cutD [.tuple [.str "bar", .str "hear", .str "a/+"], .tuple [.str "let", .str "both", .str "a/#"]] (some 1) none = [.tuple [.str "let", .str "both", .str "a/#"]] := rfl
theorem l7_wp : wp (c_law7 [none, some .cup, some O, some (.d D1), o4, o5, o6, o7, o8, none, none, none, none]) (fun o => ∃ ρ', o = .nx ρ' ∧ ρ' = [none, some .cup, some O, some (.d D1), o4, o5, o6, o7, o8, none, none, none, none]) er := by
  unfold c_law7
  subst_eqs
  repeat rw [wp_bind]
  with_reducible refine q1 ?_
  subst_eqs
  rw [cutT]
  repeat rw [wp_bind]
  with_reducible refine q2 ?_
  subst_eqs
  exact ⟨_, rfl, rfl⟩
theorem l8_wp : wp (c_law8 [none, some .cup, some O, some (.d D1), o4, o5, o6, o7, o8, none, none, none, none]) (fun o => ∃ ρ', o = .nx ρ' ∧ ∃ t, Bk.topicB t = true ∧ Bk.metB t "a/+" = true ∧ ρ' = [none, some .cup, some O, some (.d D1), o4, o5, o6, o7, o8, some (.d (.str t)), none, none, none]) er := by
  unfold c_law8
  subst_eqs
  rw [cutT]
  repeat rw [wp_bind]
  with_reducible refine q3 fun t ht hm => ?_
  subst_eqs
  exact ⟨_, rfl, t, ht, hm, rfl⟩
theorem l9_wp {t : Str} (ht : Bk.topicB t = true) (hm : Bk.metB t "a/+" = true) : wp (c_law9 [none, some .cup, some O, some (.d D1), o4, o5, o6, o7, o8, some (.d (.str t)), none, none, none]) (fun o => ∃ ρ', o = .nx ρ' ∧ ρ' = [none, some .cup, some O, some (.d D1), o4, o5, o6, o7, o8, some (.d (.str t)), none, none, none]) er := by
  have k := e_lmet (u := "a/+") (Nat.le_trans (Bk.topic_len ht) (by decide : 35 ≤ 1000)) (by decide)
  rw [hm] at k
  unfold c_law9
  subst_eqs
  rw [k]
  subst_eqs
  repeat rw [wp_bind]
  with_reducible refine q4 ?_
  subst_eqs
  exact ⟨_, rfl, rfl⟩
abbrev D5l : List PyData := [.tuple [.str "let", .str "both", .str "a"], .tuple [.str "let", .str "both", .str "a/+"], .tuple [.str "let", .str "both", .str "a/+/+"], .tuple [.str "let", .str "both", .str "a/+/+/+"], .tuple [.str "let", .str "both", .str "a/+/+/+/+"]]
theorem l10_wp {T9 : Option Dv} : wp (c_law10 [none, some .cup, some O, some (.d D1), o4, o5, o6, o7, o8, T9, none, none, none]) (fun o => ∃ ρ', o = .nx ρ' ∧ ρ' = [none, some .cup, some O, some (.d D1), o4, o5, o6, o7, o8, T9, some (.d (.tuple D5l)), none, none]) er := by
  unfold c_law10
  subst_eqs
  have e : ([.str "a", .str "a/+", .str "a/+/+", .str "a/+/+/+", .str "a/+/+/+/+"] : List PyData) = (["a", "a/+", "a/+/+", "a/+/+/+", "a/+/+/+/+"] : List Str).map .str := rfl
  rw [e, lcR_of PyData.str (fun _ => true) (fun d => .tuple [.str "let", .str "both", .str d]) (["a", "a/+", "a/+/+", "a/+/+/+", "a/+/+/+/+"] : List Str) fun d hd => ?a]
  case a =>
    unfold lcT1
    subst_eqs
  clear e
  rw [filt_t]
  subst_eqs
  exact ⟨_, rfl, rfl⟩
abbrev D8 : PyData := .tuple [.tuple [.str "let", .str "hear", .str "a/b"], .tuple [.str "let", .str "hear", .str "a/#"]]
theorem l11_wp {T9 : Option Dv} : wp (c_law11 [none, some .cup, some O, some (.d D1), o4, o5, o6, o7, o8, T9, some (.d (.tuple D5l)), none, none]) (fun o => ∃ ρ', o = .nx ρ' ∧ ρ' = [none, some .cup, some O, some (.d D1), o4, o5, o6, o7, o8, T9, some (.d (.tuple D5l)), none, none]) er := by
  have k1 : m_idle_rules [.d (.tuple [.tuple [.str "let", .str "both", .str "a"], .tuple [.str "let", .str "both", .str "a/+"], .tuple [.str "let", .str "both", .str "a/+/+"], .tuple [.str "let", .str "both", .str "a/+/+/+"], .tuple [.str "let", .str "both", .str "a/+/+/+/+"], .tuple [.str "bar", .str "both", .str "a/#"]])] = ok (.d (.list [.int 5])) := idle_lit ab_r56 (by decide) i_r56
  have k2 : m_idle_rules [.d (.tuple [.tuple [.str "bar", .str "both", .str "a/b"], .tuple [.str "let", .str "both", .str "a"], .tuple [.str "let", .str "both", .str "a/+"]])] = ok (.d (.list [])) := idle_lit ab_r75 (by decide) i_r75
  have c : Dl.cutD D5l none (some 2) = [.tuple [.str "let", .str "both", .str "a"], .tuple [.str "let", .str "both", .str "a/+"]] := rfl
  unfold c_law11
  subst_eqs
  rw [k1]
  subst_eqs
  rw [c]
  subst_eqs
  rw [k2]
  subst_eqs
  exact ⟨_, rfl, rfl⟩
theorem l12_wp {T9 : Option Dv} : wp (c_law12 [none, some .cup, some O, some (.d D1), o4, o5, o6, o7, o8, T9, some (.d (.tuple D5l)), none, none]) (fun o => ∃ ρ', o = .nx ρ' ∧ ρ' = [none, some .cup, some O, some (.d D1), o4, o5, o6, o7, o8, T9, some (.d (.tuple D5l)), none, some (.d D8)]) er := by
  unfold c_law12
  subst_eqs
  exact ⟨_, rfl, rfl⟩
theorem l13_wp {T9 : Option Dv} : wp (c_law13 [none, some .cup, some O, some (.d D1), o4, o5, o6, o7, o8, T9, some (.d (.tuple D5l)), none, some (.d D8)]) (fun o => ∃ ρ', o = .nx ρ' ∧ ρ' = [none, some .cup, some O, some (.d D1), o4, o5, o6, o7, o8, T9, some (.d (.tuple D5l)), none, some (.d D8)]) er := by
  have k1 : m_idle_rules [.d D8] = ok (.d (.list [.int 0])) := idle_lit ab_r8 (by decide) i_r8
  have k2 : m_idle_rules [.d (.tuple [.tuple [.str "let", .str "hear", .str "a/#"], .tuple [.str "let", .str "hear", .str "a/b"]])] = ok (.d (.list [.int 1])) := idle_lit ab_r8r (by decide) i_r8r
  have c : ([.tuple [.str "let", .str "hear", .str "a/b"], .tuple [.str "let", .str "hear", .str "a/#"]] : List PyData).reverse = [.tuple [.str "let", .str "hear", .str "a/#"], .tuple [.str "let", .str "hear", .str "a/b"]] := rfl
  unfold c_law13
  subst_eqs
  rw [k1]
  subst_eqs
  rw [c]
  subst_eqs
  rw [k2]
  subst_eqs
  exact ⟨_, rfl, rfl⟩
theorem l14_wp {T9 : Option Dv} : wp (c_law14 [none, some .cup, some O, some (.d D1), o4, o5, o6, o7, o8, T9, some (.d (.tuple D5l)), none, some (.d D8)]) (fun o => ∃ ρ', o = .nx ρ' ∧ ρ' = [none, some .cup, some O, some (.d D1), o4, o5, o6, o7, o8, T9, some (.d (.tuple D5l)), none, some (.d D8)]) er := by
  unfold c_law14
  subst_eqs
  repeat rw [wp_bind]
  with_reducible refine q5 ?_
  subst_eqs
  exact ⟨_, rfl, rfl⟩
theorem l15_wp {T9 : Option Dv} {q : Out → Prop} (hq : q (.rt (.d (.bool true)))) : wp (c_law15 [none, some .cup, some O, some (.d D1), o4, o5, o6, o7, o8, T9, some (.d (.tuple D5l)), none, some (.d D8)]) q er := by
  have k1 : m_idle_rules [.d (.tuple [.tuple [.str "let", .str "hear", .str "a/b"], .tuple [.str "bar", .str "hear", .str "+/b"], .tuple [.str "let", .str "hear", .str "a/#"]])] = ok (.d (.list [.int 1])) := idle_lit ab_r9 (by decide) i_r9
  unfold c_law15
  subst_eqs
  rw [k1]
  subst_eqs
  exact hq
end
end Fl

set_option Elab.async false
set_option linter.all false
set_option maxRecDepth 100000
set_option maxHeartbeats 1000000
namespace Fl
open PySem PySem.Spec PyProof.Rows L2 Dl R
/-! ### the law as a whole -/
theorem law_wp {q : Out → Prop} {er : Str → Prop} (hq : q (.rt (.d (.bool true)))) : wp (c_law [none, some .cup, some (.d topicsD), none, none, none, none, none, none, none, none, none, none]) q er := by
  have hi : IdAll (Bk.foundN 5) := fun rs h hl => List.filter_congr fun i _ => idle_same (ab_good h hl) (ab_ab h) i
  have hs : LsAll (Bk.foundN 5) := fun rs ss deed h hl h' hl' => lets_same (ab_good h hl) (ab_good h' hl') (ab_ab h) (ab_ab h') deed
  have t1 := topics_ok.1
  have t2 := topics_ok.2
  unfold topicsD
  revert hi hs t1 t2
  generalize Bk.foundN 5 = ts
  intro hi hs t1 t2
  unfold c_law
  with_reducible refine seq_wp _ l1_wp ?_
  rintro ρ ⟨rs, h, hl, rfl⟩
  with_reducible refine seq_wp _ (l2_wp t1 t2 hi h hl) ?_
  rintro ρ rfl
  with_reducible refine seq_wp _ (l3_wp t1 t2 hi hs) ?_
  rintro ρ ⟨o4, o5, o6, o7, o8, rfl⟩
  with_reducible refine seq_wp _ l4_wp ?_
  rintro ρ rfl
  with_reducible refine seq_wp _ l5_wp ?_
  rintro ρ rfl
  with_reducible refine seq_wp _ l6_wp ?_
  rintro ρ rfl
  with_reducible refine seq_wp _ l7_wp ?_
  rintro ρ rfl
  with_reducible refine seq_wp _ l8_wp ?_
  rintro ρ ⟨t, ht, hm, rfl⟩
  with_reducible refine seq_wp _ (l9_wp ht hm) ?_
  rintro ρ rfl
  with_reducible refine seq_wp _ l10_wp ?_
  rintro ρ rfl
  with_reducible refine seq_wp _ l11_wp ?_
  rintro ρ rfl
  with_reducible refine seq_wp _ l12_wp ?_
  rintro ρ rfl
  with_reducible refine seq_wp _ l13_wp ?_
  rintro ρ rfl
  with_reducible refine seq_wp _ l14_wp ?_
  rintro ρ rfl
  with_reducible exact l15_wp hq
end Fl

set_option Elab.async false
set_option linter.all false
set_option maxRecDepth 100000
set_option maxHeartbeats 1000000
namespace Fl
open PySem PySem.Spec PyProof.Rows L2 Dl R
theorem top_d {K : PySem.W.Frag} {mg : Str → Option Value} {x : Str} {l : List Str} (h : Bk.TopT K mg x l) (ok : ∀ t ∈ l, PyData.strOk t = true) : TopD K mg x (l.map .str) :=
  ⟨h.g, l.map V.str, fun H => ⟨h.t H, dd_of_strs ok⟩⟩
end Fl

set_option Elab.async false
set_option linter.all false
set_option maxRecDepth 100000
set_option maxHeartbeats 0
namespace Fx
open PySem PySem.Spec PyProof.Rows L2
/-! ### the head: what the walk needs of the top -/
def top (i : Nat) : Stmt := PySem.Challenge.pw_heardonce_k14_whole_rules_left_out_and_r.main.body.getD i (.Pass ⟨0, 0, 0, 0⟩)
def dd (x : Str) (i : Nat) : He.DefD := ⟨(x, none), x, x, defArgs (top i), defBody (top i), defScope (top i), [], []⟩
def fn : List He.DefD := [dd "is_row" 1, dd "is_name" 10, dd "is_topic" 11, dd "is_wish" 12, dd "check_topic" 13, dd "is_met" 14, dd "pattern" 17, dd "common_steps" 18, dd "common_of" 19, dd "fresh_name" 20, dd "topic_beyond" 21, dd "is_rule" 26, dd "are_rights" 27, dd "check_rights" 28, dd "check_deed" 29, dd "rows_for" 30, dd "is_let" 31, dd "topic_told" 32, dd "topic_let_by_one" 33, dd "topic_apart" 34, dd "is_idle_for" 35, dd "idle_rules" 36, dd "topic_at_odds" 37, dd "_law_cup" 39, dd "_law_roll" 40, dd "_law_some" 41, dd "_law_met" 42, dd "_law_topics" 43, dd "_law_wish" 44, dd "_law_rights" 45, dd "_law_lets" 46, dd "_law_words" 47, dd "_law_idle" 48, dd "_law_near" 49, dd "_law_odds_right" 50, dd "law" 51]
def fa : List He.Fa := [.glo "is_row", .glo "is_name", .glo "is_topic", .glo "is_wish", .glo "check_topic", .glo "is_met", .glo "pattern", .glo "common_steps", .glo "common_of", .glo "fresh_name", .glo "topic_beyond", .glo "is_rule", .glo "are_rights", .glo "check_rights", .glo "check_deed", .glo "rows_for", .glo "is_let", .glo "topic_told", .glo "topic_let_by_one", .glo "topic_apart", .glo "is_idle_for", .glo "idle_rules", .glo "topic_at_odds", .glo "_law_cup", .glo "_law_roll", .glo "_law_some", .glo "_law_met", .glo "_law_topics", .glo "_law_wish", .glo "_law_rights", .glo "_law_lets", .glo "_law_words", .glo "_law_idle", .glo "_law_near", .glo "_law_odds_right", .glo "law", .free "all", .free "any", .free "len", .free "isinstance", .free "str", .free "tuple", .free "zip", .free "range", .free "list", .free "abs", .free "int", .free "max", .free "enumerate", .int "MOST_LETTERS" 6, .int "MOST_STEPS" 5, .int "MOST_RULES" 12, .str "LETTERS" "abcdefghijklmnopqrstuvwxyz", .glo "DEEDS", .glo "LAST_RULE", .glo "InvalidTopic", .glo "InvalidRights", .glo "InvalidDeed", .exc "InvalidTopic", .exc "InvalidRights", .exc "InvalidDeed"]
def tf : List He.Defn := []
def ex (K : PySem.W.Frag) : Bool := He.tupB K "DEEDS" [.str "give", .str "hear"] && (He.tupB K "LAST_RULE" [.str "bar", .str "both", .str "#"])
theorem facts {P : Program} {w : World} {K : PySem.W.Frag} {h : Heap} {mg : Str → Option Value} (X : K.In h) (G : h.Ns mainGlobals mg) (c : He.SaysD fa fn K) (more : ex K = true) :
    ∃ fd : FuncData, (∀ (s : Shared) (v : Value), BindsTo s fd ⟨[v], []⟩ [("_law_script", v)]) ∧ mg "law" = some (.ref (He.ga K "law")) ∧ ∀ base : Heap, FnOk P w K mg base CX0 11 (He.ga K "law") fd ["_law_script"] (Fl.spLaw K []) := by
  obtain ⟨m0, m0r⟩ := He.ba more
  have m1 := m0r
  have W_DEEDS : Bk.TopT K mg "DEEDS" ["give", "hear"] := ⟨(He.glo_ok X G (c.fact 53 (f := .glo "DEEDS") rfl)), fun H => He.tupB_ok m0 H⟩
  have W_LAST_RULE : Bk.TopT K mg "LAST_RULE" ["bar", "both", "#"] := ⟨(He.glo_ok X G (c.fact 54 (f := .glo "LAST_RULE") rfl)), fun H => He.tupB_ok m1 H⟩
  obtain ⟨fd, FL⟩ := c.def_ 35 (d := dd "law" 51) rfl
  refine ⟨fd, fun s v => FunD.bindsA (ps := ["_law_script"]) FL (fun _ _ _ _ _ _ us hl => match us, hl with | [_], _ => rfl) s [v] rfl, (He.glo_ok X G (c.fact 35 (f := .glo "law") rfl)), fun base => ?_⟩
  have X_InvalidTopic : Bk.Exc K mg "InvalidTopic" := ⟨(He.glo_ok X G (c.fact 55 (f := .glo "InvalidTopic") rfl)), He.exc_ok (c.fact 58 (f := .exc "InvalidTopic") rfl)⟩
  have X_InvalidRights : Bk.Exc K mg "InvalidRights" := ⟨(He.glo_ok X G (c.fact 56 (f := .glo "InvalidRights") rfl)), He.exc_ok (c.fact 59 (f := .exc "InvalidRights") rfl)⟩
  have X_InvalidDeed : Bk.Exc K mg "InvalidDeed" := ⟨(He.glo_ok X G (c.fact 57 (f := .glo "InvalidDeed") rfl)), He.exc_ok (c.fact 60 (f := .exc "InvalidDeed") rfl)⟩
  have A_is_row : Bk.At K mg "is_row" (top 1) := ⟨(He.glo_ok X G (c.fact 0 (f := .glo "is_row") rfl)), c.def_ 0 (d := dd "is_row" 1) rfl⟩
  have A_is_name : Bk.At K mg "is_name" (top 10) := ⟨(He.glo_ok X G (c.fact 1 (f := .glo "is_name") rfl)), c.def_ 1 (d := dd "is_name" 10) rfl⟩
  have A_is_topic : Bk.At K mg "is_topic" (top 11) := ⟨(He.glo_ok X G (c.fact 2 (f := .glo "is_topic") rfl)), c.def_ 2 (d := dd "is_topic" 11) rfl⟩
  have A_is_wish : Bk.At K mg "is_wish" (top 12) := ⟨(He.glo_ok X G (c.fact 3 (f := .glo "is_wish") rfl)), c.def_ 3 (d := dd "is_wish" 12) rfl⟩
  have A_check_topic : Bk.At K mg "check_topic" (top 13) := ⟨(He.glo_ok X G (c.fact 4 (f := .glo "check_topic") rfl)), c.def_ 4 (d := dd "check_topic" 13) rfl⟩
  have A_is_met : Bk.At K mg "is_met" (top 14) := ⟨(He.glo_ok X G (c.fact 5 (f := .glo "is_met") rfl)), c.def_ 5 (d := dd "is_met" 14) rfl⟩
  have A_pattern : Bk.At K mg "pattern" (top 17) := ⟨(He.glo_ok X G (c.fact 6 (f := .glo "pattern") rfl)), c.def_ 6 (d := dd "pattern" 17) rfl⟩
  have A_common_steps : Bk.At K mg "common_steps" (top 18) := ⟨(He.glo_ok X G (c.fact 7 (f := .glo "common_steps") rfl)), c.def_ 7 (d := dd "common_steps" 18) rfl⟩
  have A_common_of : Bk.At K mg "common_of" (top 19) := ⟨(He.glo_ok X G (c.fact 8 (f := .glo "common_of") rfl)), c.def_ 8 (d := dd "common_of" 19) rfl⟩
  have A_fresh_name : Bk.At K mg "fresh_name" (top 20) := ⟨(He.glo_ok X G (c.fact 9 (f := .glo "fresh_name") rfl)), c.def_ 9 (d := dd "fresh_name" 20) rfl⟩
  have A_topic_beyond : Bk.At K mg "topic_beyond" (top 21) := ⟨(He.glo_ok X G (c.fact 10 (f := .glo "topic_beyond") rfl)), c.def_ 10 (d := dd "topic_beyond" 21) rfl⟩
  have A_is_rule : Bk.At K mg "is_rule" (top 26) := ⟨(He.glo_ok X G (c.fact 11 (f := .glo "is_rule") rfl)), c.def_ 11 (d := dd "is_rule" 26) rfl⟩
  have A_are_rights : Bk.At K mg "are_rights" (top 27) := ⟨(He.glo_ok X G (c.fact 12 (f := .glo "are_rights") rfl)), c.def_ 12 (d := dd "are_rights" 27) rfl⟩
  have A_check_rights : Bk.At K mg "check_rights" (top 28) := ⟨(He.glo_ok X G (c.fact 13 (f := .glo "check_rights") rfl)), c.def_ 13 (d := dd "check_rights" 28) rfl⟩
  have A_check_deed : Bk.At K mg "check_deed" (top 29) := ⟨(He.glo_ok X G (c.fact 14 (f := .glo "check_deed") rfl)), c.def_ 14 (d := dd "check_deed" 29) rfl⟩
  have A_rows_for : Bk.At K mg "rows_for" (top 30) := ⟨(He.glo_ok X G (c.fact 15 (f := .glo "rows_for") rfl)), c.def_ 15 (d := dd "rows_for" 30) rfl⟩
  have A_is_let : Bk.At K mg "is_let" (top 31) := ⟨(He.glo_ok X G (c.fact 16 (f := .glo "is_let") rfl)), c.def_ 16 (d := dd "is_let" 31) rfl⟩
  have A_topic_told : Bk.At K mg "topic_told" (top 32) := ⟨(He.glo_ok X G (c.fact 17 (f := .glo "topic_told") rfl)), c.def_ 17 (d := dd "topic_told" 32) rfl⟩
  have A_topic_let_by_one : Bk.At K mg "topic_let_by_one" (top 33) := ⟨(He.glo_ok X G (c.fact 18 (f := .glo "topic_let_by_one") rfl)), c.def_ 18 (d := dd "topic_let_by_one" 33) rfl⟩
  have A_topic_apart : Bk.At K mg "topic_apart" (top 34) := ⟨(He.glo_ok X G (c.fact 19 (f := .glo "topic_apart") rfl)), c.def_ 19 (d := dd "topic_apart" 34) rfl⟩
  have A_is_idle_for : Bk.At K mg "is_idle_for" (top 35) := ⟨(He.glo_ok X G (c.fact 20 (f := .glo "is_idle_for") rfl)), c.def_ 20 (d := dd "is_idle_for" 35) rfl⟩
  have A_idle_rules : Bk.At K mg "idle_rules" (top 36) := ⟨(He.glo_ok X G (c.fact 21 (f := .glo "idle_rules") rfl)), c.def_ 21 (d := dd "idle_rules" 36) rfl⟩
  have A_topic_at_odds : Bk.At K mg "topic_at_odds" (top 37) := ⟨(He.glo_ok X G (c.fact 22 (f := .glo "topic_at_odds") rfl)), c.def_ 22 (d := dd "topic_at_odds" 37) rfl⟩
  have A__law_cup : Bk.At K mg "_law_cup" (top 39) := ⟨(He.glo_ok X G (c.fact 23 (f := .glo "_law_cup") rfl)), c.def_ 23 (d := dd "_law_cup" 39) rfl⟩
  have A__law_roll : Bk.At K mg "_law_roll" (top 40) := ⟨(He.glo_ok X G (c.fact 24 (f := .glo "_law_roll") rfl)), c.def_ 24 (d := dd "_law_roll" 40) rfl⟩
  have A__law_some : Bk.At K mg "_law_some" (top 41) := ⟨(He.glo_ok X G (c.fact 25 (f := .glo "_law_some") rfl)), c.def_ 25 (d := dd "_law_some" 41) rfl⟩
  have A__law_met : Bk.At K mg "_law_met" (top 42) := ⟨(He.glo_ok X G (c.fact 26 (f := .glo "_law_met") rfl)), c.def_ 26 (d := dd "_law_met" 42) rfl⟩
  have A__law_topics : Bk.At K mg "_law_topics" (top 43) := ⟨(He.glo_ok X G (c.fact 27 (f := .glo "_law_topics") rfl)), c.def_ 27 (d := dd "_law_topics" 43) rfl⟩
  have A__law_wish : Bk.At K mg "_law_wish" (top 44) := ⟨(He.glo_ok X G (c.fact 28 (f := .glo "_law_wish") rfl)), c.def_ 28 (d := dd "_law_wish" 44) rfl⟩
  have A__law_rights : Bk.At K mg "_law_rights" (top 45) := ⟨(He.glo_ok X G (c.fact 29 (f := .glo "_law_rights") rfl)), c.def_ 29 (d := dd "_law_rights" 45) rfl⟩
  have A__law_lets : Bk.At K mg "_law_lets" (top 46) := ⟨(He.glo_ok X G (c.fact 30 (f := .glo "_law_lets") rfl)), c.def_ 30 (d := dd "_law_lets" 46) rfl⟩
  have A__law_words : Bk.At K mg "_law_words" (top 47) := ⟨(He.glo_ok X G (c.fact 31 (f := .glo "_law_words") rfl)), c.def_ 31 (d := dd "_law_words" 47) rfl⟩
  have A__law_idle : Bk.At K mg "_law_idle" (top 48) := ⟨(He.glo_ok X G (c.fact 32 (f := .glo "_law_idle") rfl)), c.def_ 32 (d := dd "_law_idle" 48) rfl⟩
  have A__law_near : Bk.At K mg "_law_near" (top 49) := ⟨(He.glo_ok X G (c.fact 33 (f := .glo "_law_near") rfl)), c.def_ 33 (d := dd "_law_near" 49) rfl⟩
  have A__law_odds_right : Bk.At K mg "_law_odds_right" (top 50) := ⟨(He.glo_ok X G (c.fact 34 (f := .glo "_law_odds_right") rfl)), c.def_ 34 (d := dd "_law_odds_right" 50) rfl⟩
  have A_law : Bk.At K mg "law" (top 51) := ⟨(He.glo_ok X G (c.fact 35 (f := .glo "law") rfl)), c.def_ 35 (d := dd "law" 51) rfl⟩
  have z_all : mg "all" = none := (He.free_ok X G (c.fact 36 (f := .free "all") rfl))
  have z_any : mg "any" = none := (He.free_ok X G (c.fact 37 (f := .free "any") rfl))
  have z_len : mg "len" = none := (He.free_ok X G (c.fact 38 (f := .free "len") rfl))
  have z_isinstance : mg "isinstance" = none := (He.free_ok X G (c.fact 39 (f := .free "isinstance") rfl))
  have z_str : mg "str" = none := (He.free_ok X G (c.fact 40 (f := .free "str") rfl))
  have z_tuple : mg "tuple" = none := (He.free_ok X G (c.fact 41 (f := .free "tuple") rfl))
  have z_zip : mg "zip" = none := (He.free_ok X G (c.fact 42 (f := .free "zip") rfl))
  have z_range : mg "range" = none := (He.free_ok X G (c.fact 43 (f := .free "range") rfl))
  have z_list : mg "list" = none := (He.free_ok X G (c.fact 44 (f := .free "list") rfl))
  have z_abs : mg "abs" = none := (He.free_ok X G (c.fact 45 (f := .free "abs") rfl))
  have z_int : mg "int" = none := (He.free_ok X G (c.fact 46 (f := .free "int") rfl))
  have z_max : mg "max" = none := (He.free_ok X G (c.fact 47 (f := .free "max") rfl))
  have z_enumerate : mg "enumerate" = none := (He.free_ok X G (c.fact 48 (f := .free "enumerate") rfl))
  have c_MOST_LETTERS := (He.int_ok X G (c.fact 49 (f := .int "MOST_LETTERS" 6) rfl))
  have c_MOST_STEPS := (He.int_ok X G (c.fact 50 (f := .int "MOST_STEPS" 5) rfl))
  have c_MOST_RULES := (He.int_ok X G (c.fact 51 (f := .int "MOST_RULES" 12) rfl))
  have c_LETTERS := (He.str_ok X G (c.fact 52 (f := .str "LETTERS" "abcdefghijklmnopqrstuvwxyz") rfl))
  have h_name := Bk.has_is_name (T := []) (P := P) (w := w) (base := base) A_is_name z_isinstance z_str z_len c_MOST_LETTERS
  have h_topic := Bk.has_is_topic A_is_topic z_isinstance z_str z_len z_all c_MOST_STEPS h_name
  have h_wish := Bk.has_is_wish A_is_wish z_isinstance z_str z_len z_all c_MOST_STEPS h_name
  have h_ct := Bk.has_check_topic A_check_topic X_InvalidTopic h_topic
  have h_met : Bk.Has P w K mg base CX0 3 "is_met" ["topic", "wish"] (Bk.spMet K []) := Bk.has_is_met A_is_met z_len z_all z_zip
  have h_pat : Bk.Has P w K mg base CX0 1 "pattern" ["wish", "many"] (Bk.spPat []) := Bk.has_pattern A_pattern z_len
  have h_cs : Bk.Has P w K mg base CX0 1 "common_steps" ["steps", "others"] (Bk.spCom []) := Bk.has_common_steps A_common_steps z_zip
  have h_co := Bk.has_common_of A_common_of z_len z_max h_pat h_cs
  have h_fr : Bk.Has P w K mg base CX0 1 "fresh_name" ["wishes"] (Bk.spFresh []) := Bk.has_fresh_name A_fresh_name c_LETTERS
  have h_tb := Bk.has_topic_beyond A_topic_beyond z_range z_any c_MOST_STEPS h_fr h_pat h_met
  have h_cd : Bk.Has P w K mg base (L2.CX P w) 1 "check_deed" ["deed"] (Bk.spCkDeed []) := Bk.has_check_deed A_check_deed X_InvalidDeed W_DEEDS
  have h_roll : Bk.Has P w K mg base CX0 1 "_law_roll" ["_law_cup_here", "_law_many"] Bk.spRoll := Bk.has_roll A__law_roll z_int
  have h_some := Bk.has_some A__law_some z_len h_roll
  have h_cup : Bk.Has P w K mg base CX0 1 "_law_cup" ["_law_script"] (Bk.spCup K []) := Bk.has_cup A__law_cup z_list z_abs z_int
  have h_lmet : Bk.Has P w K mg base CX0 1 "_law_met" ["_law_topic", "_law_wish_here"] (Bk.spLawMet []) := Bk.has_lmet A__law_met
  have h_ltop : Bk.Has P w K mg base CX0 1 "_law_topics" [] (Bk.spLTopics []) := Bk.has_ltopics A__law_topics z_range
  have h_lw := Bk.has_lwish (T := []) A__law_wish z_range h_roll h_some
  have T_DEEDS : Fl.TopD K mg "DEEDS" Fl.k_DEEDS := Fl.top_d W_DEEDS (by decide +kernel)
  have T_LAST_RULE : Fl.TopD K mg "LAST_RULE" Fl.k_LAST_RULE := Fl.top_d W_LAST_RULE (by decide +kernel)
  have e_topic := Fl.b_is_topic h_topic
  have e_wish := Fl.b_is_wish h_wish
  have e_met := Fl.b_is_met h_met
  have e_lmet := Fl.b_lmet h_lmet
  have e_co := Fl.b_common_of h_co
  have e_tb := Fl.b_topic_beyond h_tb
  have e_ct := Fl.b_check_topic h_ct
  have e_cd := Fl.b_check_deed h_cd
  have e_lw := Fl.b_lwish h_lw
  have e_roll := Fl.b_roll (T := []) h_roll
  have e_rule := Fl.d_is_rule A_is_rule z_isinstance z_len z_tuple e_wish
  have t_row : Fl.TbOk P w K mg base [] 5 Fl.tb_is_row := Fl.TbOk.cons e_rule Fl.TbOk.nil
  have e_row := Fl.d_is_row A_is_row z_all z_isinstance z_len z_tuple t_row
  have e_are := Fl.d_are_rights A_are_rights c_MOST_RULES A_is_rule.1 e_row
  have e_cr := Fl.d_check_rights A_check_rights X_InvalidRights e_are
  have e_rf : Dl.DHas P w K mg base [] 1 "rows_for" ["rights", "deed"] (Fl.gR Fl.m_rows_for) := Fl.d_rows_for A_rows_for T_LAST_RULE
  have e_let := Fl.d_is_let A_is_let e_cd e_cr e_ct e_met e_rf
  have e_told := Fl.d_topic_told A_topic_told z_len z_range e_co e_tb
  have e_one := Fl.d_topic_let_by_one A_topic_let_by_one z_enumerate e_co e_rf e_tb
  have e_apart := Fl.d_topic_apart A_topic_apart e_one
  have e_idle1 := Fl.d_is_idle_for A_is_idle_for z_len e_rf e_told
  have e_idle1 := e_idle1.imp (g' := Fl.gR Fl.n_is_idle_for) fun xs q er h => Fl.n_wp h
  have e_idle := Fl.d_idle_rules A_idle_rules z_all z_len z_range T_DEEDS e_cr e_idle1
  have e_odds := Fl.d_topic_at_odds A_topic_at_odds e_cd e_cr e_apart
  have e_some := Fl.d__law_some A__law_some z_len e_roll
  have e_rights := Fl.d__law_rights A__law_rights z_range e_roll e_some e_lw
  have e_lets := Fl.d__law_lets A__law_lets e_lmet
  have e_words := Fl.d__law_words A__law_words e_lets
  have e_lidle := Fl.d__law_idle A__law_idle z_len z_range e_words
  have e_near := Fl.d__law_near A__law_near z_len e_roll e_some e_lw
  have e_right := Fl.d__law_odds_right A__law_odds_right e_lets e_words e_let e_topic e_odds
  exact (Fl.has_law A_law (fun q er hq => Fl.law_wp hq) h_cup h_ltop z_tuple e_lidle e_lmet e_near e_right e_rights e_some e_idle e_odds).fn FL
abbrev R : PySem.W.OpenRow := PySem.W.OpenLaw.row PySem.Challenge.rw_heardonce_k14_whole_rules_left_out_and_r
abbrev hk : PySem.W.Hook := He.hookX 6 fa fn [] tf ex
def ob (s : PySem.W.SharedT) : He.AlX := He.obsX 6 fa fn [] tf ex (HandSHeadRun.getT s)
theorem ob_eq (s : PySem.W.SharedT) : ob s = hk.obs s.abs := He.obsX_eq (HandSHeadRun.getT_eq s)
def nm0 : List Str := ["is_row", "HeardError", "InvalidTopic", "InvalidRights", "InvalidDeed", "MOST_LETTERS", "MOST_STEPS", "is_name", "is_topic"]
def nm1 : List Str := ["is_wish", "check_topic", "is_met", "LETTERS", "pattern", "common_steps", "common_of", "fresh_name", "topic_beyond"]
def nm2 : List Str := ["MOST_RULES", "DEEDS", "LAST_RULE", "is_rule", "are_rights", "check_rights", "check_deed", "rows_for", "is_let"]
def nm3 : List Str := ["topic_told", "topic_let_by_one", "topic_apart", "is_idle_for", "idle_rules", "topic_at_odds", "_law_cup", "_law_roll", "_law_some"]
def nm4 : List Str := ["_law_met", "_law_topics", "_law_wish", "_law_rights", "_law_lets", "_law_words", "_law_idle", "_law_near", "_law_odds_right"]
def nms : List Str := nm0 ++ (nm1 ++ (nm2 ++ (nm3 ++ (nm4))))
end Fx

set_option Elab.async false
set_option linter.all false
set_option maxRecDepth 100000
set_option maxHeartbeats 0
namespace Fx
open PySem PySem.Spec PyProof.Rows L2
theorem run (w : World) : HandSHeadRun.RunEq R (PySem.W.view R.prog [51]) hk ob 4000 nms w := by
  intro os
  kernel_rfl
end Fx
open PySem PySem.W PySem.Calls PyProof.Rows
theorem PySem.Challenge.cw_heardonce_k14_whole_rules_left_out_and_r_holds : PySem.Challenge.rw_heardonce_k14_whole_rules_left_out_and_r.Holds := by
  w_on; o_law
  refine HandSHeadRun.head_any (r := OpenLaw.row PySem.Challenge.rw_heardonce_k14_whole_rules_left_out_and_r) (q := view (OpenLaw.row PySem.Challenge.rw_heardonce_k14_whole_rules_left_out_and_r).prog [51]) (H := Fx.hk) (ob := Fx.ob) (M := 4000) (loose := Fx.nms) (d := HandSHeadRun.topDef (OpenLaw.row PySem.Challenge.rw_heardonce_k14_whole_rules_left_out_and_r).prog 51) (kwd := []) Fx.ob_eq
    (by kernel_rfl) (fun s => by kernel_rfl) Fx.run (by kernel_rfl) (by kernel_rfl) (by kernel_rfl) (by rfl) (by first | assumption | decide +kernel) (by decide +kernel) ⟨rfl, rfl, rfl, rfl, rfl, by decide +kernel⟩ ?hw ?hc
  case hw => w_witness2
  case hc =>
    refine LamX.walk_ofTsE (l := PySem.Challenge.rw_heardonce_k14_whole_rules_left_out_and_r) (n := 63) (k := 11) (x := "_law_script") (CX := fun _ => L2.CX0) rfl (by decide) (by kernel_rfl) ⟨rfl, by decide, by decide⟩ ?F (fun _ _ _ _ _ z => z)
    intro w mg fa h Y G hmg0
    obtain ⟨K, KX, c⟩ := Y
    have hmg : mg ("law" : PySem.Str) = some (.ref fa) := by
      have e : (HandSHeadRun.topDef (OpenLaw.row PySem.Challenge.rw_heardonce_k14_whole_rules_left_out_and_r).prog 51).name = ("law" : PySem.Str) := by kernel_rfl
      rw [← e]
      exact hmg0
    obtain ⟨fd, hb, hm, hF⟩ := Fx.facts (P := (PySem.Challenge.rw_heardonce_k14_whole_rules_left_out_and_r).prog) (w := w) KX G c.t.d c.more
    cases hmg.symm.trans hm
    refine ⟨K, KX, fd, [], Fl.spLaw K [], (fun p hp => nomatch hp), (fun p hp => nomatch hp), (fun p hp => nomatch hp), hb, (fun H a ns hl _ hT hS => ⟨a, ns, rfl, hS, hl, (fun p hp => nomatch hp), fun _ => rfl⟩), fun base _ _ tb => hF base⟩
