import PyProof.Rows.All
import Wide.All
import OpenK.AllK
import Wide.FinOn
import HandS.ForMost
import HandS.AnyAll
import HandS.GenOver
import HandS.IsInst
import HandS.Strs
import HandS.SetFor
import HandS.Deep
import HandS.Conv
import HandS.Style
import HandS.Sort
import PyProof.ReprRoads
import PyProof.CallFns
import KE.SortData
import HandS.ForExc
import HandS.TryMany
import KE.KExcIs
import HandS.Lambda
import PyProof.ListRange
import HandS.EndTab
import PySem.Challenge.RW_partsmet_k30_tables_refused
set_option Elab.async false
set_option linter.all false
set_option maxRecDepth 100000
set_option maxHeartbeats 4000000
/-! all(..), any(..) of a generator expression of one clause, whose element may do whatever an expression of the layer does. -/
namespace Gx
open PySem PySem.Spec PyProof.Rows L2

/-- the scope of the generator expression, over the scope of the def around -/
structure GScp (N : List Str) (sc scope : Scope) (x : Str) (ix : Nat) : Prop where
  kind : scope.kind = .function
  co : scope.isCoroutine = false
  cell : ∀ y ∈ scope.names, y.2 ≠ .cell
  dot : scope.names.lookup (".0" : Str) = some NameKind.local
  loc : ∀ y, scope.names.lookup y = some .local → y = (".0" : Str) ∨ y = x
  xl : scope.names.lookup x = some .local
  free : ∀ y ∈ scope.names, y.2 = .free → sc.names.lookup y.1 = some .cell ∨ sc.names.lookup y.1 = some .free
  nd : N.Nodup
  spot : N[ix]? = some x
  nodot : (".0" : Str) ∉ N

/-- the context in which the generator's code runs: entered at s -/
def gcx (X : Cx) (A : Around) (s : Shared) (H : Hp) (env : Env) (fp : List Addr) : Cx where
  prog := X.prog
  w := X.w
  K := X.K
  mg := X.mg
  base := X.base
  A := A
  N := X.N
  s_0 := s
  H_0 := H
  env := env
  outer := X.stack
  stack := env :: X.stack
  ex := fp
  fn := fun _ => false
  calm := true
  pn := []
  xe := fun _ _ => False

/-- states with other generators alone -/
theorem inv_gens {X : Cx} {pins : List (Addr × Obj)} {σ : L2.St} {H : Hp} {s : Shared} (I : Inv X pins σ H s) {g' : Array GenState} (hb : AllBare g') : Inv X pins σ H { s with gens := g' } :=
  ⟨I.ok, I.os, hb, I.base, I.loc, I.cell, I.free, I.freeC, I.pin, I.hok, I.len⟩
theorem bare_set {G : Array GenState} {g : Nat} {x : GenState} (h : AllBare G) (hx : x.bare = true) : AllBare (G.setIfInBounds g x) := by
  intro y hy
  rcases Array.mem_or_eq_of_mem_setIfInBounds hy with q | q
  · exact h y q
  · rw [q]; exact hx

section
variable {X : Cx} {pins : List (Addr × Obj)} {σ : L2.St} {H : Hp} {s : Shared}

theorem clo_sub {env : Env} {scope : Scope} (has : ∀ y ∈ scope.names, y.2 = .free → ∃ c, env.cells.lookup y.1 = some c) {y : Str} {c : Addr} (e : (cloFrom env.cells scope.names []).lookup y = some c) : env.cells.lookup y = some c := by
  rcases cloFrom_mem (PySem.mem_of_lookup e) with hm | ⟨h1, h2⟩
  · cases hm
  · obtain ⟨c1, hc⟩ := has _ h1 rfl
    have hc' : env.cells.lookup y = some c1 := hc
    have : c = c1 := by rw [h2, hc'] <;> rfl
    rw [this]; exact hc'

/-- the generator's frame has been laid: the invariant of its context -/
theorem gx_start {N : List Str} {scope : Scope} {x : Str} {ix : Nat} {A : Around} {code : Value} {fp : List Addr} {itv : Value} {h1 : Heap} {tk : Nat} {gens' : Array GenState} {pin : List (Addr × Obj)}
    (I : Inv X pins σ H s) (G : GScp X.N X.env.scope scope x ix)
    (hA : A.frames = some (genEnv scope (cloFrom X.env.cells scope.names []) s.heap.objs.size code builtinsNs X.env :: X.stack)) (hd : A.handled = none)
    (hfp : ∀ b ∈ fp, FpOk X pins H b) (hlt : ∀ b ∈ fp, b < s.heap.objs.size)
    (hns : h1.Ns s.heap.objs.size fun y => if y = (".0" : Str) then some itv else none) (kp : ∀ b o, s.heap.get? b = some o → h1.get? b = some o) (hb : AllBare gens')
    (hpin : ∀ p ∈ pin, h1.get? p.1 = some p.2 ∧ s.heap.objs.size < p.1 ∧ ∀ v, p.2.data ≠ .cell v) :
    Inv (gcx X A s H (genEnv scope (cloFrom X.env.cells scope.names []) s.heap.objs.size code builtinsNs X.env) fp) pin (σ.set ix none) H { s with heap := h1, toks := tk, gens := gens' } := by
  have has : ∀ y ∈ scope.names, y.2 = .free → ∃ c, X.env.cells.lookup y.1 = some c := fun y hy e => by
    rcases G.free y hy e with k | k
    · exact I.ok.has _ (.inl k)
    · exact I.ok.has _ (.inr k)
  have cm : ∀ {y c}, (cloFrom X.env.cells scope.names []).lookup y = some c → X.env.cells.lookup y = some c := fun {y c} e => clo_sub has e
  have look : ∀ {y}, scope.names.lookup y = some .free → ∃ c, (cloFrom X.env.cells scope.names []).lookup y = some c := fun {y} hl => by
    have hy : (y, NameKind.free) ∈ scope.names := PySem.mem_of_lookup hl
    exact mem_lookup (cloFrom_has (cells := X.env.cells) (acc := []) hy)
  have cellK : ∀ {c : Addr} {v : Option Value}, s.heap.IsCell c v → h1.IsCell c v := fun {c v} ⟨o, ho, hd⟩ => ⟨o, kp _ _ ho, hd⟩
  refine ⟨⟨I.ok.mod, G.kind, I.ok.glob, rfl, Nat.le_refl _, fun y z c e1 e2 => I.ok.inj y z c (cm e1) (cm e2), fun y hy => ?_, fun y c z _ => ?_, fun _ => hd, hA, .inr ⟨rfl, rfl⟩, fun b hb => ⟨Nat.ne_of_lt (hlt b hb), fun y c e => ?_⟩, I.bs,
      Nat.le_trans I.ok.bsz I.sz, fun b o e hb => ?_, fun b hb hm => ?_, I.stack, I.stkFree⟩,
    rfl, hb, Un.kept kp, ⟨_, hns, fun i y v e1 e2 e3 => ?_⟩, fun y c e => ?_, I.hok.fresh (Nat.le_refl _), fun y c e => I.freeC y c (cm e), fun p hp => ?_, I.hok.kept kp, ?_⟩
  · have hy : scope.names.lookup y = some .cell ∨ scope.names.lookup y = some .free := hy
    rcases hy with hy | hy
    · exact absurd rfl (G.cell _ (PySem.mem_of_lookup hy))
    · exact look hy
  · cases z
  · exact (hfp b hb).2.2.2.2.1 y c (cm e)
  · obtain ⟨_, _, _, h4, _⟩ := hfp b hb
    rcases h4 with h4 | h4
    · exact I.ok.noex b o e h4
    · exact absurd (Nat.lt_of_lt_of_le (Nat.lt_of_lt_of_le (Heap.lt_size e) I.ok.bsz) h4) (Nat.lt_irrefl _)
  · obtain ⟨_, h2, h3, _⟩ := hfp b hb
    rcases List.mem_cons.mp (I.stkSub b hm) with z | z
    · exact h2 z
    · exact h3 z
  · have e3 : Vis scope y := e3
    have e2' : i ≠ ix ∧ σ[i]? = some (some v) := by
      by_cases hi : i = ix
      · subst hi
        have hl : i < σ.length := by
          rw [I.len]
          exact (List.getElem?_eq_some_iff.mp G.spot).1
        rw [List.getElem?_set_self hl] at e2
        cases e2
      · rw [List.getElem?_set_ne (fun q => hi q.symm)] at e2
        exact ⟨hi, e2⟩
    rcases e3 with k | k | k
    · rcases G.loc y k with z | z
      · exact absurd (List.mem_of_getElem? (show X.N[i]? = some (".0" : Str) by rw [← z]; exact e1)) G.nodot
      · exact absurd (nodup_ix G.nd (show X.N[i]? = some x by rw [← z]; exact e1) G.spot) e2'.1
    · exact absurd rfl (G.cell _ (PySem.mem_of_lookup k))
    · obtain ⟨m, hn, hl⟩ := I.loc
      have hfr := G.free _ (PySem.mem_of_lookup k) rfl
      have hvis : Vis X.env.scope y := hfr.elim (fun k => .inr (.inl k)) (fun k => .inr (.inr k))
      obtain ⟨w', r, q⟩ := hl i y v e1 e2'.2 hvis
      obtain ⟨c2, h2⟩ := look k
      refine ⟨w', r, .inr ⟨.inr k, c2, h2, ?_⟩⟩
      have c1 := cm h2
      rcases q with ⟨k', _⟩ | ⟨_, c3, e', z⟩
      · have k' : X.env.scope.names.lookup y = some .local := k'
        rcases hfr with k2 | k2 <;> rw [show X.env.scope.names.lookup y = _ from k2] at k' <;> cases k'
      · rw [c1] at e'
        cases e'
        exact cellK z
  · obtain ⟨w', z⟩ := I.cell y c (cm e)
    exact ⟨w', cellK z⟩
  · have hp' : p ∈ pin := by
      rcases List.mem_append.mp hp with z | z
      · exact absurd (show p ∈ ([] : List (Addr × Obj)) from z) (by simp)
      · exact z
    obtain ⟨q1, q2, q3⟩ := hpin p hp'
    refine ⟨q1, I.hok.fresh (Nat.le_of_lt q2), Nat.ne_of_gt q2, fun hm => ?_, q3⟩
    have hm' : p.1 ∈ frs X.stack := hm
    rcases List.mem_cons.mp (I.stkSub _ hm') with z | z
    · have := I.lt
      rw [← z] at this
      exact absurd (Nat.lt_trans this q2) (Nat.lt_irrefl _)
    · exact I.nofs (Nat.le_of_lt q2) z
  · rw [List.length_set]; exact I.len
end

/-! ### the turns of the generator -/
/-- what is wanted of it: W between the turns (behind i items), Out behind an item that was handed out and will not be followed, Fin behind the last -/
structure Plan where
  W : Nat → L2.St → Hp → Prop
  Out : Bool → Nat → L2.St → Hp → Prop
  Fin : Hp → Prop
def gY (Z : Cx) (pin : List (Addr × Obj)) (fp : List Addr) (tn : Nat → Heap → Prop) (Pn : Plan) (go : Bool) (n g : Nat) : Protocol := fun m _ v s kap =>
  ∃ (i : Nat) (b : Bool) (σ : L2.St) (H : Hp), i + m + 1 = n ∧ v = .bool b ∧ Inv Z pin σ H s ∧ g < s.gens.size ∧
    (if b = go then Pn.W (i + 1) σ H else Pn.Out b i σ H) ∧
    (b = go → ∀ s'' : Shared, s''.heap = s.heap → s''.os = s.os → AllBare s''.gens → g < s''.gens.size → kap (.send .none) s'')
def gP (Z : Cx) (pin : List (Addr × Obj)) (Pn : Plan) (g : Nat) : Nat → Shared → Shared → Prop := fun _ _ s => ∃ σ H, Inv Z pin σ H s ∧ Pn.Fin H ∧ g < s.gens.size

/-- one item, the plan's way -/
def Turns (J : It) (g : TG) (te : TE) (go : Bool) (n : Nat) (Pn : Plan) : Prop :=
  ∀ i σ H, i ≤ n → Pn.W i σ H → (J.stop i H ∧ Pn.Fin H) ∨ (i < n ∧ J.go i H ∧ ∀ x H', J.yld i H x H' → g x σ H' fun σ2 H2 => te σ2 H2 fun v H3 => ∃ b, v = .bl b ∧ if b = go then Pn.W (i + 1) σ2 H3 else Pn.Out b i σ2 H3)

theorem inv_same {Z : Cx} {pin : List (Addr × Obj)} {σ : L2.St} {H : Hp} {s s' : Shared} (I : Inv Z pin σ H s) (hh : s'.heap = s.heap) (ho : s'.os = s.os) (hb : AllBare s'.gens) : Inv Z pin σ H s' := by
  obtain ⟨hp, gg, d, t, os⟩ := s'
  subst hh
  subst ho
  exact ⟨I.ok, I.os, hb, I.base, I.loc, I.cell, I.free, I.freeC, I.pin, I.hok, I.len⟩

theorem seg_turns {Z : Cx} {elt tg iter : Expr} {scope : Scope} {pos : Pos} {it : Addr} {fp : List Addr} {tn : Nat → Heap → Prop} {J : It} {gt : TG} {te : TE} {A : Around} {pin : List (Addr × Obj)} {go : Bool} {n g : Nat} {Pn : Plan}
    (T : Turn Z.prog Z.w Z.K tg J fp it tn) (hg : PG Z tg gt) (hel : PE Z elt te) (hx : ∀ e s, ¬ Z.xe e s) (hc : Z.calm = true) (hco : Z.env.scope.isCoroutine = false)
    (hA : A.over (.compLoop (.GeneratorExp elt [⟨tg, iter, [], 0⟩] scope pos) 0 (.ref it) .none Z.env) [] = Z.A) (tt : Turns J gt te go n Pn)
    (stat : ∀ {H : Hp}, (∀ d ∈ fp, H d = none) → ∀ d ∈ fp, FpOk Z pin H d) :
    ∀ (k i : Nat) (s₀ s : Shared) (σ : L2.St) (H : Hp), i + k = n → Inv Z pin σ H s → tn i s.heap → (∀ d ∈ fp, H d = none) → g < s.gens.size → Pn.W i σ H →
      Seg (model Z.prog Z.w) A (fun m s₁ r s₂ => r = .ok .next ∧ gP Z pin Pn g m s₁ s₂) (gY Z pin fp tn Pn go n g) k s₀
        (.compLoop (.GeneratorExp elt [⟨tg, iter, [], 0⟩] scope pos) 0 (.ref it) .none Z.env)
        ((model Z.prog Z.w).den (.compLoop (.GeneratorExp elt [⟨tg, iter, [], 0⟩] scope pos) 0 (.ref it) .none Z.env)) [] s := by
  intro k
  induction k with
  | zero =>
    intro i s₀ s σ H hk I hst hn hgz hw
    show Seg _ A _ _ _ s₀ _ ((compTurn (.GeneratorExp elt [⟨tg, iter, [], 0⟩] scope pos) 0 (.ref it) .none Z.env).onRaise (leaving Z.env)) [] s
    rw [compTurn_gen, Sem.onRaise_eq_wrap]
    refine seg_bind_wrap (wpAny_standAt ?_)
    rcases tt i σ H (by omega) hw with ⟨stp, fin⟩ | ⟨hlt, _⟩
    · refine seg_bind_wrap ?_
      rw [hA]
      refine GenW.wpAny_gsz (n := g + 1) hgz (wpAny_mono (T.done Z rfl rfl rfl hc i pin s σ H (fun _ _ => False) I (stat hn) hst stp) (fun r s1 h1 hz => ?_) fun _ _ e => e.elim)
      obtain ⟨hr, I1⟩ := h1
      subst hr
      exact seg_end (.ok .next) ⟨rfl, σ, H, I1, fin, hz⟩
    · exact absurd hlt (by omega)
  | succ k ih =>
    intro i s₀ s σ H hk I hst hn hgz hw
    show Seg _ A _ _ _ s₀ _ ((compTurn (.GeneratorExp elt [⟨tg, iter, [], 0⟩] scope pos) 0 (.ref it) .none Z.env).onRaise (leaving Z.env)) [] s
    rw [compTurn_gen, Sem.onRaise_eq_wrap]
    refine seg_bind_wrap (wpAny_standAt ?_)
    refine seg_bind_wrap ?_
    rw [hA]
    rcases tt i σ H (by omega) hw with ⟨stp, fin⟩ | ⟨hlt, gO, step⟩
    · refine GenW.wpAny_gsz (n := g + 1) hgz (wpAny_mono (T.done Z rfl rfl rfl hc i pin s σ H (fun _ _ => False) I (stat hn) hst stp) (fun r s1 h1 hz => ?_) fun _ _ e => e.elim)
      obtain ⟨hr, I1⟩ := h1
      subst hr
      exact seg_end (.ok .next) ⟨rfl, σ, H, I1, fin, hz⟩
    · refine GenW.wpAny_gsz (n := g + 1) hgz (wpAny_mono (T.item Z rfl rfl rfl hc i pin s σ H (fun _ _ => False) I (stat hn) hst gO) (fun r s1 h1 hz1 => ?_) fun _ _ e => e.elim)
      obtain ⟨u, hr, h1⟩ := h1
      subst hr
      refine seg_bind_wrap ?_
      rw [hA]
      refine GenW.wpAny_gsz (n := g + 1) hz1 (wpAny_mono h1 (fun _ s2 h2 hz2 => ?_) fun _ _ e => e.elim)
      obtain ⟨x, H2, I2, r2, y2, st2, n2⟩ := h2
      have P2 := I2.pinned (stat n2) (T.obj _ _ st2)
      refine seg_bind_wrap ?_
      rw [hA]
      refine GenW.wpAny_gsz (n := g + 1) hz2 (wpAny_mono (hg.run _ s2 σ H2 x u _ P2 r2 (step x H2 y2)) (fun _ s3 h3 hz3 => ?_) fun e s3 he _ => (hx e s3 he).elim)
      obtain ⟨σ3, H3, I3, q3⟩ := h3
      refine seg_bind_wrap ?_
      simp only [List.forIn_nil]
      refine wpAny_pure ?_
      simp only [if_true]
      have hy : ∀ v, yieldOut Z.env v = yieldValue v := fun v => by simp only [yieldOut, hco, Bool.false_eq_true, if_false]
      simp only [hy]
      rw [Sem.bind_eq_wrap', Sem.bind_eq_wrap', Sem.wrap_wrap, Sem.wrap_wrap]
      refine seg_wrap ?_
      rw [hA]
      refine GenW.wpAny_gsz (n := g + 1) hz3 (wpAny_mono (hel.run _ s3 σ3 H3 _ I3 q3) (fun v s4 h4 hz4 => ?_) fun e s4 he _ => (hx e s4 he).elim)
      obtain ⟨w4, H4, I4, r4, b, eb, q4⟩ := h4
      subst eb
      obtain rfl : v = Value.bool b := r4
      have st4 : tn (i + 1) s4.heap := T.keep _ _ _ st2 fun d hd o e => (I4.pin (d, o) (List.mem_append_right _ (List.mem_append_right _ (mem_pinsAt hd e)))).1
      have n4 : ∀ d ∈ fp, H4 d = none := fun d hd => by
        obtain ⟨o, e, _⟩ := T.obj _ _ st2 d hd
        exact (I4.pin (d, o) (List.mem_append_right _ (List.mem_append_right _ (mem_pinsAt hd e)))).2.1
      have I4' := I4.unpinned
      refine seg_at (seg_yield rfl rfl rfl ⟨i, b, σ3, H4, by omega, rfl, I4', hz4, q4, fun hb s'' e1 e2 e3 e4 => ?_⟩)
      rw [if_pos hb] at q4
      exact seg_again rfl (ih (i + 1) s'' s'' σ3 H4 (by omega) (inv_same I4' e1 e2 e3) (by rw [e1]; exact st4) n4 e4 q4)

theorem seg_begin {Z : Cx} {elt tg iter : Expr} {scope : Scope} {pos : Pos} {it : Addr} {fp : List Addr} {tn : Nat → Heap → Prop} {J : It} {gt : TG} {te : TE} {A : Around} {pin : List (Addr × Obj)} {go : Bool} {n g : Nat} {Pn : Plan}
    (T : Turn Z.prog Z.w Z.K tg J fp it tn) (hg : PG Z tg gt) (hel : PE Z elt te) (hx : ∀ e s, ¬ Z.xe e s) (hc : Z.calm = true) (hco : Z.env.scope.isCoroutine = false)
    (hA : A.over (.compLoop (.GeneratorExp elt [⟨tg, iter, [], 0⟩] scope pos) 0 (.ref it) .none Z.env) [] = Z.A) (tt : Turns J gt te go n Pn)
    (stat : ∀ {H : Hp}, (∀ d ∈ fp, H d = none) → ∀ d ∈ fp, FpOk Z pin H d)
    (s₀ s : Shared) (σ : L2.St) (H : Hp) (I : Inv Z pin σ H s) (hst : tn 0 s.heap) (hn : ∀ d ∈ fp, H d = none) (hgz : g < s.gens.size) (hw : Pn.W 0 σ H) :
    Seg (model Z.prog Z.w) A (fun m s₁ r s₂ => r = .ok .next ∧ gP Z pin Pn g m s₁ s₂) (gY Z pin fp tn Pn go n g) n s₀
      (.compStart (.GeneratorExp elt [⟨tg, iter, [], 0⟩] scope pos) 0 (.ref it) .none Z.env)
      ((model Z.prog Z.w).den (.compStart (.GeneratorExp elt [⟨tg, iter, [], 0⟩] scope pos) 0 (.ref it) .none Z.env)) [] s := by
  have lp := seg_turns (pos := pos) T hg hel hx hc hco hA tt stat n 0 s₀ s σ H (by omega) I hst hn hgz hw
  show Seg _ A _ _ _ s₀ _ ((compStart (.GeneratorExp elt [⟨tg, iter, [], 0⟩] scope pos) 0 (.ref it) .none Z.env).onRaise (leaving Z.env)) [] s
  unfold compStart
  rw [Sem.onRaise_eq_wrap]
  show Seg _ A _ _ _ s₀ _ ((ask >>= _).wrap _ _ _ _) [] s
  refine seg_bind_wrap (wpAny_askSetting ?_)
  split
  · exact seg_again rfl lp
  · refine seg_bind_wrap (wpAny_rule ?_)
    show Seg _ A _ _ _ s₀ _ ((standAt iter.pos >>= _).wrap _ _ _ _) [] s
    exact seg_bind_wrap (wpAny_standAt (seg_bind_wrap (T.self _ 0 s _ _ hst (seg_again rfl lp))))

/-! ### the walk by all, by any -/
theorem isGen_pin {Z : Cx} {σ : L2.St} {H : Hp} {s : Shared} {a : Addr} {o : Obj} {g : Nat} {nm qn : Value} (hc : o.cls = .type "generator") (hd : o.data = .fields #[.int g 0, nm, qn]) (hs : o.slots = #[]) (I : Inv Z [(a, o)] σ H s) : s.heap.IsGen a g :=
  ⟨o, nm, qn, (I.pin (a, o) (List.mem_append_right _ (List.mem_singleton.mpr rfl))).1, hc, hd, hs⟩

section
variable {Z : Cx} {fp : List Addr} {tn : Nat → Heap → Prop} {A : Around} {a : Addr} {o : Obj} {n g : Nat} {Pn : Plan} {R : Result → Shared → Prop} {nm qn : Value}

theorem all_walk (hoc : o.cls = .type "generator") (hod : o.data = .fields #[.int g 0, nm, qn]) (hos : o.slots = #[]) (hh : A.handled = none) (hroom : A.depth < recursionLimit)
    (hOut : ∀ i σ H s, Inv Z [(a, o)] σ H s → Pn.Out false i σ H → R (.ok (.ret (.bool false))) s)
    (hFin : ∀ σ H s, Inv Z [(a, o)] σ H s → Pn.Fin H → R (.ok (.ret (.bool true))) s) :
    ∀ (m : Nat) (s : Shared) (gs : GenState) (σ : L2.St) (H : Hp), Inv Z [(a, o)] σ H s → s.gens[g]? = some gs → gs.Goes (model Z.prog Z.w) A.in1.in1 (fun m s₁ r s₂ => r = .ok .next ∧ gP Z [(a, o)] Pn g m s₁ s₂) (gY Z [(a, o)] fp tn Pn true n g) m (.send .none) (s.setGen g .running) →
      codeAny (model Z.prog Z.w) A (.builtin "all.loop" ⟨[.ref a], []⟩) R s := by
  intro m
  induction m with
  | zero =>
    intro s gs σ H I hgs hgo
    refine codeAny_builtin F.entry_all_loop ?_
    rw [Around.under_plainId F.plain_all_loop _]
    show wpAny _ A.in1 (pyNext (.ref a) >>= _) _ _ s
    refine wpAny_bind (wpAny_pyNext_genexpQ (P := gP Z [(a, o)] Pn g) hh I.nolimit hroom (isGen_pin hoc hod hos I) hgs hgo (fun v s₁ gs' hb hv => ?_) (fun s₁ hp h' hk => ?_))
    · obtain ⟨i, b, σ1, H1, hi, rfl, I1, hz, q, hkap⟩ := hv
      cases b with
      | true => exact (hkap rfl s₁ rfl rfl I1.bare hz).elim
      | false =>
        refine wpAny_bind (wpAny_holding (wpAny_truthy_bool ?_))
        refine wpAny_bind (wpAny_letGo ?_)
        simp only [Bool.false_eq_true, if_false]
        refine wpAny_bind (wpAny_rule (wpAny_pure ?_))
        exact hOut i σ1 H1 _ (inv_gens I1 (bare_set I1.bare hb)) (by simpa using q)
    · obtain ⟨σ1, H1, I1, q, hz⟩ := hp
      refine wpAny_bind (wpAny_rule (wpAny_pure ?_))
      exact hFin σ1 H1 _ ((inv_gens I1 (bare_set I1.bare rfl)).kept hk) q
  | succ m ih =>
    intro s gs σ H I hgs hgo
    refine codeAny_builtin F.entry_all_loop ?_
    rw [Around.under_plainId F.plain_all_loop _]
    show wpAny _ A.in1 (pyNext (.ref a) >>= _) _ _ s
    refine wpAny_bind (wpAny_pyNext_genexpQ (P := gP Z [(a, o)] Pn g) hh I.nolimit hroom (isGen_pin hoc hod hos I) hgs hgo (fun v s₁ gs' hb hv => ?_) (fun s₁ hp h' hk => ?_))
    · obtain ⟨i, b, σ1, H1, hi, rfl, I1, hz, q, hkap⟩ := hv
      refine wpAny_bind (wpAny_holding (wpAny_truthy_bool ?_))
      refine wpAny_bind (wpAny_letGo ?_)
      have hz' : g < (s₁.setGen g gs').gens.size := by rw [GenW.setGen_size]; exact hz
      cases b with
      | true =>
        simp only [if_true]
        refine wpAny_pure ⟨plainId_quiet F.plain_all_loop _, ih (s₁.setGen g gs') gs' σ1 H1 (inv_gens I1 (bare_set I1.bare hb)) ?_ ?_⟩
        · show (s₁.gens.setIfInBounds g gs')[g]? = some gs'
          rw [Array.getElem?_setIfInBounds_self_of_lt hz]
        · exact hkap rfl _ rfl rfl (bare_set (bare_set I1.bare hb) rfl) (by rw [GenW.setGen_size]; exact hz')
      | false =>
        simp only [Bool.false_eq_true, if_false]
        refine wpAny_bind (wpAny_rule (wpAny_pure ?_))
        exact hOut i σ1 H1 _ (inv_gens I1 (bare_set I1.bare hb)) (by simpa using q)
    · obtain ⟨σ1, H1, I1, q, hz⟩ := hp
      refine wpAny_bind (wpAny_rule (wpAny_pure ?_))
      exact hFin σ1 H1 _ ((inv_gens I1 (bare_set I1.bare rfl)).kept hk) q

theorem any_walk (hoc : o.cls = .type "generator") (hod : o.data = .fields #[.int g 0, nm, qn]) (hos : o.slots = #[]) (hh : A.handled = none) (hroom : A.depth < recursionLimit)
    (hOut : ∀ i σ H s, Inv Z [(a, o)] σ H s → Pn.Out true i σ H → R (.ok (.ret (.bool true))) s)
    (hFin : ∀ σ H s, Inv Z [(a, o)] σ H s → Pn.Fin H → R (.ok (.ret (.bool false))) s) :
    ∀ (m : Nat) (s : Shared) (gs : GenState) (σ : L2.St) (H : Hp), Inv Z [(a, o)] σ H s → s.gens[g]? = some gs → gs.Goes (model Z.prog Z.w) A.in1.in1 (fun m s₁ r s₂ => r = .ok .next ∧ gP Z [(a, o)] Pn g m s₁ s₂) (gY Z [(a, o)] fp tn Pn false n g) m (.send .none) (s.setGen g .running) →
      codeAny (model Z.prog Z.w) A (.builtin "any.loop" ⟨[.ref a], []⟩) R s := by
  intro m
  induction m with
  | zero =>
    intro s gs σ H I hgs hgo
    refine codeAny_builtin F.entry_any_loop ?_
    rw [Around.under_plainId F.plain_any_loop _]
    show wpAny _ A.in1 (pyNext (.ref a) >>= _) _ _ s
    refine wpAny_bind (wpAny_pyNext_genexpQ (P := gP Z [(a, o)] Pn g) hh I.nolimit hroom (isGen_pin hoc hod hos I) hgs hgo (fun v s₁ gs' hb hv => ?_) (fun s₁ hp h' hk => ?_))
    · obtain ⟨i, b, σ1, H1, hi, rfl, I1, hz, q, hkap⟩ := hv
      cases b with
      | false => exact (hkap rfl s₁ rfl rfl I1.bare hz).elim
      | true =>
        refine wpAny_bind (wpAny_holding (wpAny_truthy_bool ?_))
        refine wpAny_bind (wpAny_letGo ?_)
        simp only [if_true]
        refine wpAny_bind (wpAny_rule (wpAny_pure ?_))
        exact hOut i σ1 H1 _ (inv_gens I1 (bare_set I1.bare hb)) (by simpa using q)
    · obtain ⟨σ1, H1, I1, q, hz⟩ := hp
      refine wpAny_bind (wpAny_rule (wpAny_pure ?_))
      exact hFin σ1 H1 _ ((inv_gens I1 (bare_set I1.bare rfl)).kept hk) q
  | succ m ih =>
    intro s gs σ H I hgs hgo
    refine codeAny_builtin F.entry_any_loop ?_
    rw [Around.under_plainId F.plain_any_loop _]
    show wpAny _ A.in1 (pyNext (.ref a) >>= _) _ _ s
    refine wpAny_bind (wpAny_pyNext_genexpQ (P := gP Z [(a, o)] Pn g) hh I.nolimit hroom (isGen_pin hoc hod hos I) hgs hgo (fun v s₁ gs' hb hv => ?_) (fun s₁ hp h' hk => ?_))
    · obtain ⟨i, b, σ1, H1, hi, rfl, I1, hz, q, hkap⟩ := hv
      refine wpAny_bind (wpAny_holding (wpAny_truthy_bool ?_))
      refine wpAny_bind (wpAny_letGo ?_)
      have hz' : g < (s₁.setGen g gs').gens.size := by rw [GenW.setGen_size]; exact hz
      cases b with
      | false =>
        simp only [Bool.false_eq_true, if_false]
        refine wpAny_pure ⟨plainId_quiet F.plain_any_loop _, ih (s₁.setGen g gs') gs' σ1 H1 (inv_gens I1 (bare_set I1.bare hb)) ?_ ?_⟩
        · show (s₁.gens.setIfInBounds g gs')[g]? = some gs'
          rw [Array.getElem?_setIfInBounds_self_of_lt hz]
        · exact hkap rfl _ rfl rfl (bare_set (bare_set I1.bare hb) rfl) (by rw [GenW.setGen_size]; exact hz')
      | true =>
        simp only [if_true]
        refine wpAny_bind (wpAny_rule (wpAny_pure ?_))
        exact hOut i σ1 H1 _ (inv_gens I1 (bare_set I1.bare hb)) (by simpa using q)
    · obtain ⟨σ1, H1, I1, q, hz⟩ := hp
      refine wpAny_bind (wpAny_rule (wpAny_pure ?_))
      exact hFin σ1 H1 _ ((inv_gens I1 (bare_set I1.bare rfl)).kept hk) q
end

/-! ### the rules -/
/-- the code that runs in the generator's frame, from a builtin's loop -/
abbrev gA (X : Cx) (env : Env) : Around := X.A.in1.in1.deeper env
abbrev gE (X : Cx) (scope : Scope) (C : Addr) (code : Value) : Env := genEnv scope (cloFrom X.env.cells scope.names []) C code builtinsNs X.env
/-- what a walk over the generator leads to: R, from the plan's ends -/
def tAllG (P : Addr) (ix : Nat) (wi : TI) (g : TG) (te : TE) (go : Bool) : TE := fun σ H Q => wi σ H fun J H1 => GxR.TabG H1 P ∧ ∀ H2, GxR.Tabbed P H1 H2 → ∃ (n : Nat) (Pn : Plan), Turns J g te go n Pn ∧ Pn.W 0 (σ.set ix none) H2 ∧
  (∀ i σ' H', Pn.Out (!go) i σ' H' → Q (.bl (!go)) H') ∧ ∀ H', Pn.Fin H' → Q (.bl go) H'

section
variable {X : Cx} {elt iter : Expr} {x : Str} {px p pos gpos : Pos} {scope : Scope} {ix k : Nat} {wi : TI} {g : TG} {te : TE} {P c : Addr}

theorem gen_made {pins : List (Addr × Obj)} {σ : L2.St} {H : Hp} {s : Shared} {go : Bool} {R : V → Hp → Prop} {Q' : Value → Shared → Prop}
    (hr : Room (k + 1) X.A) (TB : GxR.TabB X.base X.mg c P) (hcode : X.env.code = .ref c) (G : GScp X.N X.env.scope scope x ix) (hi : PI X (.Name x px) iter wi)
    (hgt : ∀ (s : Shared) (H : Hp) (C : Addr) (code : Value) (fp : List Addr), PG (gcx X (gA X (gE X scope C code)) s H (gE X scope C code) fp) (.Name x px) g)
    (hel : ∀ (s : Shared) (H : Hp) (C : Addr) (code : Value) (fp : List Addr), Room k (gA X (gE X scope C code)) → PE (gcx X (gA X (gE X scope C code)) s H (gE X scope C code) fp) elt te)
    (hs : ∀ v, genFold iter X.env v = pure v) (I : Inv X pins σ H s) (h : tAllG P ix wi g te go σ H R)
    (hQ : ∀ (Z : Cx) (fp : List Addr) (tn : Nat → Heap → Prop) (a : Addr) (o : Obj) (n gg : Nat) (Pn : Plan) (nm qn : Value) (s5 : Shared) (gs : GenState) (σ5 : L2.St) (H5 : Hp), Z.prog = X.prog → Z.w = X.w →
      o.cls = .type "generator" → o.data = .fields #[.int gg 0, nm, qn] → o.slots = #[] → Inv Z [(a, o)] σ5 H5 s5 → s5.gens[gg]? = some gs →
      gs.Goes (model Z.prog Z.w) X.A.in1.in1 (fun m s₁ r s₂ => r = .ok .next ∧ gP Z [(a, o)] Pn gg m s₁ s₂) (gY Z [(a, o)] fp tn Pn go n gg) n (.send .none) (s5.setGen gg .running) →
      (∀ i σ' H' s', Inv Z [(a, o)] σ' H' s' → Pn.Out (!go) i σ' H' → ∃ H'', Inv X pins σ H'' s' ∧ R (.bl (!go)) H'') →
      (∀ σ' H' s', Inv Z [(a, o)] σ' H' s' → Pn.Fin H' → ∃ H'', Inv X pins σ H'' s' ∧ R (.bl go) H'') → Q' (.ref a) s5) :
    wpAny (model X.prog X.w) X.A (eval (.GeneratorExp elt [⟨.Name x px, iter, [], 0⟩] scope gpos) X.env) Q' X.xe s := by
  have has : ∀ y ∈ scope.names, y.2 = .free → ∃ c, X.env.cells.lookup y.1 = some c := fun y hy e => by
    rcases G.free y hy e with k | k
    · exact I.ok.has _ (.inl k)
    · exact I.ok.has _ (.inr k)
  refine wpAny_GeneratorExp_make G.co (closure_ok has) G.cell G.dot G.kind (by have := hr.dp; omega) ?_ hs
  refine thn (hi.run pins s σ H _ I h) fun xv s1 h1 => thn h1 fun itv s2 h2 => ?_
  obtain ⟨it, fp, tn, J, H1, rfl, I1, T, st1, f1, ⟨ps, hP, ht⟩, plan⟩ := h2
  have hPs : s2.heap.get? P = some { cls := .none, data := .fields ps } := I1.hok P _ hP
  have cd : PySem.W.CodeHd s2.heap c P := TB.code.keeps fun b u e => I1.bk b u e
  have fpP : ∀ b ∈ fp, b ≠ P := fun b hb z => by
    have := (f1 b hb).1
    rw [z, hP] at this
    cases this
  have cont : ∀ (code : Value) (h3 : Heap) (tk : Nat) (ps' : Array Value), Heap.ExtBut P s2.heap h3 → h3.get? P = some { cls := .none, data := .fields ps' } → (∃ more, ps' = ps ++ more) → TriplesOk ps'.toList →
      wpAny (model X.prog X.w) X.A (builtinsFor X.env.globals X.env.builtins) (fun bi s₄ => ∀ h', h'.Ns s₄.heap.objs.size (fun y => if y = (".0" : Str) then some (.ref it) else none) → Heap.SameBut s₄.heap.objs.size (s₄.heap.push { cls := .type "frame", data := .dict #[] }) h' →
          Q' (.ref h'.objs.size) { s₄ with
            gens := s₄.gens.push (.fresh (.compStart (.GeneratorExp elt [⟨.Name x px, iter, [], 0⟩] scope gpos) 0 (.ref it) .none (genEnv scope (cloFrom X.env.cells scope.names []) s₄.heap.objs.size code bi X.env))),
            toks := s₄.toks + 1 + 1 + 1,
            heap := h'.push { cls := .type "generator", data := .fields #[.int s₄.gens.size 0, .str "<genexpr>" (s₄.toks + 1), .str (X.env.qual ++ "<genexpr>") (s₄.toks + 1 + 1)] } }) X.xe { s2 with heap := h3, toks := tk } := by
    intro code h3 tk ps' hx hP3 hmore ht3
    obtain ⟨bm, ob, e1, e2, e3, e4, e5, e6, e7, e8⟩ := TB.bm
    refine wpAny_builtinsFor (m := X.mg) (by rw [I1.ok.glob]; exact (I1.mod.glob.keeps I1.bk).extBut hx TB.gP) e1 e2 (hx _ _ e4 (I1.bk _ _ e5)) e6 e7 e8 ?_
    intro h' hns hsb
    obtain ⟨more, rfl⟩ := hmore
    have I3 : Inv X pins σ (upd H1 P (.tbl (ps ++ more))) { s2 with heap := h3, toks := tk } :=
      GxR.inv_tab (more := more) (h' := h3) (g' := s2.gens) (d' := s2.drawn) (t' := tk) I1 hP (fun b u hb e => hx b u hb e) hP3 I1.bare
    have H2 : GxR.Tabbed P H1 (upd H1 P (.tbl (ps ++ more))) := ⟨⟨ps ++ more, upd_same, ht3⟩, fun b hb => upd_ne hb⟩
    obtain ⟨n, Pn, tt, w0, pOut, pFin⟩ := plan _ H2
    have f3 : ∀ b ∈ fp, FpOk X pins (upd H1 P (.tbl (ps ++ more))) b := fun b hb => ⟨by rw [upd_ne (fpP b hb)]; exact (f1 b hb).1, (f1 b hb).2⟩
    have st3 : tn 0 h3 := T.keep _ _ _ st1 fun b hb o e => hx b o (fpP b hb) e
    have lt3 : ∀ b ∈ fp, b < h3.objs.size := fun b hb => by
      obtain ⟨o, e, _⟩ := T.obj _ _ st3 b hb
      exact Heap.lt_size e
    have hsz : h'.objs.size = h3.objs.size + 1 := by rw [hsb.1, Heap.size_push]
    have kp' : ∀ b o, h3.get? b = some o → h'.get? b = some o := fun b o e => hsb.extBut b o (Nat.ne_of_lt (Heap.lt_size e)) (Heap.get?_push_of_some _ e)
    have key : ∀ (o : Obj) (nm qn : Value), o.cls = .type "generator" → o.data = .fields #[.int s2.gens.size 0, nm, qn] → o.slots = #[] → (h'.push o).get? h'.objs.size = some o →
        Q' (.ref h'.objs.size) { s2 with
            gens := s2.gens.push (.fresh (.compStart (.GeneratorExp elt [⟨.Name x px, iter, [], 0⟩] scope gpos) 0 (.ref it) .none (gE X scope h3.objs.size code))),
            toks := tk + 1 + 1 + 1, heap := h'.push o } := by
      intro o nm qn hc hd hsl hget
      have kp5 : ∀ b u, h3.get? b = some u → (h'.push o).get? b = some u := fun b u e => Heap.get?_push_of_some _ (kp' b u e)
      have bare5 : AllBare (s2.gens.push (.fresh (.compStart (.GeneratorExp elt [⟨.Name x px, iter, [], 0⟩] scope gpos) 0 (.ref it) .none (gE X scope h3.objs.size code)))) := I1.bare.push rfl
      have Rm : Room k (gA X (gE X scope h3.objs.size code)) := ⟨hr.hd, by have := hr.dp; show X.A.depth + 1 + 3 * k + 5 < _; omega, by have := hr.un; show X.A.units + 1 + 1 + 3 + 16 * k + 200 < _; omega⟩
      have J0 := gx_start (A := gA X (gE X scope h3.objs.size code)) (code := code) (fp := fp) (itv := .ref it) (h1 := h'.push o) (tk := tk + 1 + 1 + 1) (pin := [(h'.objs.size, o)])
        (gens' := s2.gens.push (.fresh (.compStart (.GeneratorExp elt [⟨.Name x px, iter, [], 0⟩] scope gpos) 0 (.ref it) .none (gE X scope h3.objs.size code)))) (x := x) (ix := ix) (N := X.N) I3 G
        (Around.frames_deeper I.ok.frames) hr.hd f3 lt3 (hns.push _) kp5 bare5 (fun q hq => by
          rw [List.mem_singleton.mp hq]
          refine ⟨hget, ?_, fun v z => ?_⟩
          · show h3.objs.size < h'.objs.size
            omega
          · rw [hd] at z; cases z)
      have st5 : tn 0 (h'.push o) := T.keep _ _ _ st3 fun b hb u e => kp5 b u e
      have n5 : ∀ d ∈ fp, upd H1 P (.tbl (ps ++ more)) d = none := fun d hd => (f3 d hd).1
      have back : ∀ {σ' : L2.St} {H' : Hp} {s' : Shared}, Inv (gcx X (gA X (gE X scope h3.objs.size code)) { s2 with heap := h3, toks := tk } (upd H1 P (.tbl (ps ++ more))) (gE X scope h3.objs.size code) fp) [(h'.objs.size, o)] σ' H' s' → Inv X pins σ H' s' := fun {σ' H' s'} J =>
        I3.call' (ch := fp) J.os J.base J.hok J.bare fun b hb => ⟨(f3 b hb).2.2.2.1, (f3 b hb).2.1, (f3 b hb).2.2.2.2.1, (f3 b hb).2.2.2.2.2⟩
      have stat : ∀ {HH : Hp}, (∀ d ∈ fp, HH d = none) → ∀ d ∈ fp, FpOk (gcx X (gA X (gE X scope h3.objs.size code)) { s2 with heap := h3, toks := tk } (upd H1 P (.tbl (ps ++ more))) (gE X scope h3.objs.size code) fp) [(h'.objs.size, o)] HH d := fun {HH} hn d hd => by
        refine ⟨hn d hd, Nat.ne_of_lt (lt3 d hd), fun hm => ?_, .inl hd, fun y cc e => (f3 d hd).2.2.2.2.1 y cc (clo_sub has e), fun q hq => ?_⟩
        · have hm' : d ∈ frs X.stack := hm
          rcases List.mem_cons.mp (I3.stkSub d hm') with z | z
          · exact (f3 d hd).2.1 z
          · exact (f3 d hd).2.2.1 z
        · have hq' : q ∈ [(h'.objs.size, o)] := by
            rcases List.mem_append.mp hq with z | z
            · exact absurd (show q ∈ ([] : List (Addr × Obj)) from z) (by simp)
            · exact z
          rw [List.mem_singleton.mp hq']
          show h'.objs.size ≠ d
          exact Nat.ne_of_gt (by rw [hsz]; exact Nat.lt_succ_of_lt (lt3 d hd))
      have gsz : s2.gens.size < (s2.gens.push (GenState.fresh (.compStart (.GeneratorExp elt [⟨.Name x px, iter, [], 0⟩] scope gpos) 0 (.ref it) .none (gE X scope h3.objs.size code)))).size := by
        rw [Array.size_push]; exact Nat.lt_succ_self _
      refine hQ (gcx X (gA X (gE X scope h3.objs.size code)) { s2 with heap := h3, toks := tk } (upd H1 P (.tbl (ps ++ more))) (gE X scope h3.objs.size code) fp) fp tn h'.objs.size o n s2.gens.size Pn nm qn _ _ _ _ rfl rfl hc hd hsl J0 (Array.getElem?_push_size ..) ⟨rfl, ?_⟩ (fun i σ' H' s' J q => ⟨H', back J, pOut i σ' H' q⟩) (fun σ' H' s' J q => ⟨H', back J, pFin H' q⟩)
      refine seg_begin (Z := gcx X (gA X (gE X scope h3.objs.size code)) { s2 with heap := h3, toks := tk } (upd H1 P (.tbl (ps ++ more))) (gE X scope h3.objs.size code) fp) (g := s2.gens.size) (A := X.A.in1.in1)
        T (hgt _ _ _ _ _) (hel _ _ _ _ _ Rm) (fun _ _ z => z) rfl G.co rfl tt stat _ _ _ _ (inv_gens J0 (bare_set bare5 rfl)) st5 n5 ?_ w0
      rw [GenW.setGen_size]
      exact gsz
    exact key _ _ _ rfl rfl rfl (Heap.get?_push_size _ rfl)
  refine ⟨I1.nolimit, ?_⟩
  cases hf : codeAmong gpos ps.toList with
  | none =>
    refine wpAny_genexprCodeX hcode (cd.code hPs ht) (cd.tab hPs) hf fun c' h' tk hx hge hlt hco' _ htab' _ => ?_
    obtain ⟨o1, vs, f1, tf, fl, tg, inF, tx, tt, op, _, _, _, _, _, _, _, _, _, htr, _⟩ := hco'
    exact cont _ h' tk _ hx htab'.2 ⟨_, rfl⟩ htr
  | some cv =>
    refine wpAny_genexprCode_hit hcode (cd.code hPs ht) hf ?_
    exact cont cv s2.heap s2.toks ps (Heap.ExtBut.refl _ _) hPs ⟨#[], by simp⟩ ht

/-- all(elt for x in iter) -/
theorem pe_all (hr : Room (k + 1) X.A) (hga : Gl X "all") (hma : X.mg "all" = none) (TB : GxR.TabB X.base X.mg c P) (hcode : X.env.code = .ref c) (G : GScp X.N X.env.scope scope x ix) (hi : PI X (.Name x px) iter wi)
    (hgt : ∀ (s : Shared) (H : Hp) (C : Addr) (code : Value) (fp : List Addr), PG (gcx X (gA X (gE X scope C code)) s H (gE X scope C code) fp) (.Name x px) g)
    (hel : ∀ (s : Shared) (H : Hp) (C : Addr) (code : Value) (fp : List Addr), Room k (gA X (gE X scope C code)) → PE (gcx X (gA X (gE X scope C code)) s H (gE X scope C code) fp) elt te)
    (hs : ∀ v, genFold iter X.env v = pure v)
    (he : starEach [.GeneratorExp elt [⟨.Name x px, iter, [], 0⟩] scope gpos] X.env = (false, eval (.GeneratorExp elt [⟨.Name x px, iter, [], 0⟩] scope gpos) X.env) :: starEach [] X.env := by rfl) :
    PE X (.Call (.Name "all" p) [.GeneratorExp elt [⟨.Name x px, iter, [], 0⟩] scope gpos] [] pos) (tAllG P ix wi g te true) := by
  refine ⟨fun pins s σ H Q I h => ?_⟩
  refine wpAny_Call_Name_kw (ld_blt I hga hma boot_all ?_)
  refine PyProof.Rows.callWith_builtin1 ?_ he (by rfl)
  rw [he]
  refine Calls.spliced_cons (gen_made hr TB hcode G hi hgt hel hs I h fun Z fp tn a o n gg Pn nm qn s5 gs σ5 H5 e1 e2 hc hd hsl J hgs hgo oOut oFin => ?_)
  refine Calls.spliced_nil ?_
  refine call_function_tree F.kind_all F.plain_all F.entry_all (F.args_all1 _) ?_
  unfold Builtin.«all»
  refine wpAny_bind (m := oneArg "all" _) (wpAny_pure ?_)
  refine wpAny_bind (wpAny_pyIter_gen (isGen_pin hc hd hsl J) ?_)
  refine wpAny_pure ⟨plainId_quiet F.plain_all_loop _, ?_⟩
  rw [← e1, ← e2]
  refine all_walk hc hd hsl hr.hd (by have := hr.dp; show X.A.depth < _; omega) (fun i σ' H' s' J' q => ?_) (fun σ' H' s' J' q => ?_) n s5 gs σ5 H5 J hgs hgo
  · obtain ⟨H'', I', q'⟩ := oOut i σ' H' s' J' q
    exact ⟨.bl false, H'', I', rfl, q'⟩
  · obtain ⟨H'', I', q'⟩ := oFin σ' H' s' J' q
    exact ⟨.bl true, H'', I', rfl, q'⟩
/-- any(elt for x in iter) -/
theorem pe_any (hr : Room (k + 1) X.A) (hga : Gl X "any") (hma : X.mg "any" = none) (TB : GxR.TabB X.base X.mg c P) (hcode : X.env.code = .ref c) (G : GScp X.N X.env.scope scope x ix) (hi : PI X (.Name x px) iter wi)
    (hgt : ∀ (s : Shared) (H : Hp) (C : Addr) (code : Value) (fp : List Addr), PG (gcx X (gA X (gE X scope C code)) s H (gE X scope C code) fp) (.Name x px) g)
    (hel : ∀ (s : Shared) (H : Hp) (C : Addr) (code : Value) (fp : List Addr), Room k (gA X (gE X scope C code)) → PE (gcx X (gA X (gE X scope C code)) s H (gE X scope C code) fp) elt te)
    (hs : ∀ v, genFold iter X.env v = pure v)
    (he : starEach [.GeneratorExp elt [⟨.Name x px, iter, [], 0⟩] scope gpos] X.env = (false, eval (.GeneratorExp elt [⟨.Name x px, iter, [], 0⟩] scope gpos) X.env) :: starEach [] X.env := by rfl) :
    PE X (.Call (.Name "any" p) [.GeneratorExp elt [⟨.Name x px, iter, [], 0⟩] scope gpos] [] pos) (tAllG P ix wi g te false) := by
  refine ⟨fun pins s σ H Q I h => ?_⟩
  refine wpAny_Call_Name_kw (ld_blt I hga hma boot_any ?_)
  refine PyProof.Rows.callWith_builtin1 ?_ he (by rfl)
  rw [he]
  refine Calls.spliced_cons (gen_made hr TB hcode G hi hgt hel hs I h fun Z fp tn a o n gg Pn nm qn s5 gs σ5 H5 e1 e2 hc hd hsl J hgs hgo oOut oFin => ?_)
  refine Calls.spliced_nil ?_
  refine call_function_tree F.kind_any F.plain_any F.entry_any (F.args_any1 _) ?_
  unfold Builtin.«any»
  refine wpAny_bind (m := oneArg "any" _) (wpAny_pure ?_)
  refine wpAny_bind (wpAny_pyIter_gen (isGen_pin hc hd hsl J) ?_)
  refine wpAny_pure ⟨plainId_quiet F.plain_any_loop _, ?_⟩
  rw [← e1, ← e2]
  refine any_walk hc hd hsl hr.hd (by have := hr.dp; show X.A.depth < _; omega) (fun i σ' H' s' J' q => ?_) (fun σ' H' s' J' q => ?_) n s5 gs σ5 H5 J hgs hgo
  · obtain ⟨H'', I', q'⟩ := oOut i σ' H' s' J' q
    exact ⟨.bl true, H'', I', rfl, q'⟩
  · obtain ⟨H'', I', q'⟩ := oFin σ' H' s' J' q
    exact ⟨.bl false, H'', I', rfl, q'⟩
end
end Gx

/-! What the defs of the table law share: heaps with tables of code, data at any depth (an empty dict too), ranges kept, sets of a list, repr of data. -/
namespace Tb
open PySem PySem.Spec PyProof.Rows L2

/-! ### heaps: all but the tables of code stands -/
structure Kp (H H' : Hp) : Prop where
  keep : ∀ b o, H b = some o → (∀ ps, o ≠ .tbl ps) → H' b = some o
  tab : ∀ P, GxR.TabG H P → GxR.TabG H' P
theorem Kp.refl (H : Hp) : Kp H H := ⟨fun _ _ h _ => h, fun _ h => h⟩
theorem Kp.trans {A B C : Hp} (x : Kp A B) (y : Kp B C) : Kp A C := ⟨fun b o h n => y.keep b o (x.keep b o h n) n, fun P h => y.tab P (x.tab P h)⟩
theorem tabG_of {H H' : Hp} {P : Addr} (e : ∀ b o, H b = some o → H' b = some o) (h : GxR.TabG H P) : GxR.TabG H' P := by
  obtain ⟨ps, h1, h2⟩ := h
  exact ⟨ps, e _ _ h1, h2⟩
theorem Kp.of {H H' : Hp} (e : ∀ b o, H b = some o → H' b = some o) : Kp H H' := ⟨fun b o h _ => e b o h, fun _ h => tabG_of e h⟩
theorem Kp.new {H : Hp} {p : Addr} {o : HO} (h : H p = none) : Kp H (upd H p o) := Kp.of fun b u e => by
  rw [upd_ne (ne_of_none e h)]; exact e
theorem Kp.tabbed {P : Addr} {H H' : Hp} (hP : GxR.TabG H P) (t : GxR.Tabbed P H H') : Kp H H' := by
  refine ⟨fun b o h n => ?_, fun Q h => ?_⟩
  · obtain ⟨ps, hp, _⟩ := hP
    have : b ≠ P := fun z => by
      rw [z, hp] at h
      exact n ps (Option.some.inj h).symm
    rw [t.2 b this]; exact h
  · by_cases q : Q = P
    · rw [q]; exact t.1
    · obtain ⟨ps, h1, h2⟩ := h
      exact ⟨ps, by rw [t.2 Q q]; exact h1, h2⟩
theorem Kp.lst {H H' : Hp} (k : Kp H H') {a : Addr} {xs : List V} (h : H a = some (.lst xs)) : H' a = some (.lst xs) := k.keep a _ h fun ps z => by cases z
theorem Kp.tup {H H' : Hp} (k : Kp H H') {a : Addr} {xs : List V} (h : H a = some (.tup xs)) : H' a = some (.tup xs) := k.keep a _ h fun ps z => by cases z
theorem Kp.dK {H H' : Hp} (k : Kp H H') {a : Addr} {xs} (h : H a = some (.dK xs)) : H' a = some (.dK xs) := k.keep a _ h fun ps z => by cases z
theorem Kp.sqL {K : PySem.W.Frag} {H H' : Hp} (k : Kp H H') {a : Addr} {xs : List V} (h : SqL K H a xs) : SqL K H' a xs := by
  rcases h with (h | ⟨o, h⟩) | h
  · exact .inl (.inl (k.lst h))
  · exact .inl (.inr ⟨o, k.keep a _ h fun ps z => by cases z⟩)
  · exact .inr h
theorem Kp.sqT {K : PySem.W.Frag} {H H' : Hp} (k : Kp H H') {a : Addr} {xs : List V} (h : SqT K H a xs) : SqT K H' a xs := by
  rcases h with (h | ⟨o, h⟩) | h
  · exact .inl (.inl (k.tup h))
  · exact .inl (.inr ⟨o, k.keep a _ h fun ps z => by cases z⟩)
  · exact .inr h
/-- the heap without p -/
def del (H : Hp) (p : Addr) : Hp := fun b => if b = p then none else H b
theorem del_ne {H : Hp} {p b : Addr} (h : b ≠ p) : del H p b = H b := if_neg h
theorem del_some {H : Hp} {p b : Addr} {o : HO} (h : del H p b = some o) : b ≠ p ∧ H b = some o := by
  unfold del at h
  split at h
  · cases h
  · exact ⟨by assumption, h⟩
theorem del_sub {H : Hp} {p : Addr} : ∀ b o, del H p b = some o → H b = some o := fun b o h => (del_some h).2
theorem Kp.del {H H' : Hp} (k : Kp H H') (p : Addr) (h : ∀ ps, H p ≠ some (.tbl ps)) : Kp (del H p) (del H' p) := by
  refine ⟨fun b o e n => ?_, fun P t => ?_⟩
  · obtain ⟨h1, h2⟩ := del_some e
    rw [del_ne h1]; exact k.keep b o h2 n
  · obtain ⟨ps, e, t2⟩ := t
    obtain ⟨h1, h2⟩ := del_some e
    obtain ⟨qs, e3, t3⟩ := k.tab P ⟨ps, h2, t2⟩
    exact ⟨qs, by rw [del_ne h1]; exact e3, t3⟩

/-! ### data -/
mutual
inductive Rp (K : PySem.W.Frag) (H : Hp) : V → PyData → Prop
  | non : Rp K H .non .none
  | bl (b : Bool) : Rp K H (.bl b) (.bool b)
  | int (i : Int) : Rp K H (.int i) (.int i)
  | str (x : Str) : Rp K H (.str x) (.str x)
  | lst {a : Addr} {xs : List V} {ds : List PyData} : H a = some (.lst xs) → RpL K H xs ds → Rp K H (.ref a) (.list ds)
  | tup {a : Addr} {xs : List V} {ds : List PyData} : H a = some (.tup xs) → RpL K H xs ds → Rp K H (.ref a) (.tuple ds)
  | dct {a : Addr} : H a = some (.dK []) → Rp K H (.ref a) (.dict [])
inductive RpL (K : PySem.W.Frag) (H : Hp) : List V → List PyData → Prop
  | nil : RpL K H [] []
  | cons {v : V} {vs : List V} {d : PyData} {ds : List PyData} : Rp K H v d → RpL K H vs ds → RpL K H (v :: vs) (d :: ds)
end
variable {K : PySem.W.Frag}
mutual
theorem Rp.kp {H H' : Hp} (k : Kp H H') : ∀ {d : PyData} {v : V}, Rp K H v d → Rp K H' v d
  | _, _, .non => .non
  | _, _, .bl b => .bl b
  | _, _, .int i => .int i
  | _, _, .str x => .str x
  | _, _, .lst h a => .lst (k.lst h) (RpL.kp k a)
  | _, _, .tup h a => .tup (k.tup h) (RpL.kp k a)
  | _, _, .dct h => .dct (k.dK h)
theorem RpL.kp {H H' : Hp} (k : Kp H H') : ∀ {ds : List PyData} {vs : List V}, RpL K H vs ds → RpL K H' vs ds
  | _, _, .nil => .nil
  | _, _, .cons a b => .cons (Rp.kp k a) (RpL.kp k b)
end
theorem RpL.length {H : Hp} : ∀ {ds : List PyData} {vs : List V}, RpL K H vs ds → vs.length = ds.length
  | _, _, .nil => rfl
  | _, _, .cons _ t => congrArg Nat.succ (RpL.length t)
theorem RpL.get {H : Hp} : ∀ {ds : List PyData} {vs : List V} {i : Nat} {v : V}, RpL K H vs ds → vs[i]? = some v → ∃ d, ds[i]? = some d ∧ Rp K H v d
  | _, _, _, _, .nil, e => by simp at e
  | _, _, 0, _, .cons r _, e => by simp at e; subst e; exact ⟨_, rfl, r⟩
  | _, _, i + 1, v, .cons _ t, e => by
    obtain ⟨d, h1, h2⟩ := RpL.get (i := i) (v := v) t (by simpa using e)
    exact ⟨d, by simpa using h1, h2⟩
theorem RpL.app {H : Hp} : ∀ {ds es : List PyData} {vs ws : List V}, RpL K H vs ds → RpL K H ws es → RpL K H (vs ++ ws) (ds ++ es)
  | _, _, _, _, .nil, s => s
  | _, _, _, _, .cons r t, s => .cons r (RpL.app t s)
theorem RpL.ints {H : Hp} : ∀ ns : List Int, RpL K H (ns.map V.int) (ns.map PyData.int)
  | [] => .nil
  | n :: r => .cons (.int n) (RpL.ints r)
theorem RpL.set {H : Hp} {x : V} {d : PyData} (r : Rp K H x d) : ∀ {ds : List PyData} {vs : List V} (i : Nat), RpL K H vs ds → RpL K H (vs.set i x) (ds.set i d)
  | _, _, _, .nil => .nil
  | _, _, 0, .cons _ t => .cons r t
  | _, _, i + 1, .cons q t => .cons q (RpL.set r i t)

mutual
theorem Rp.reads {X : Cx} {pins : List (Addr × Obj)} {σ : L2.St} {H : Hp} {s : Shared} (I : Inv X pins σ H s) : ∀ (d : PyData) (v : V) (u : Value), Rp X.K H v d → RelV v u → ∃ as, Reads s.heap u d as ∧ ∀ a ∈ as, H a ≠ none
  | .none, _, _, h, r => by cases h; cases r; exact ⟨_, Reads.none, fun a z => by cases z⟩
  | .bool b, _, _, h, r => by cases h; cases r; exact ⟨_, Reads.bool b, fun a z => by cases z⟩
  | .int i, _, _, h, r => by cases h; obtain ⟨t, rfl⟩ := r; exact ⟨_, Reads.int i t, fun a z => by cases z⟩
  | .str x, _, _, h, r => by cases h; obtain ⟨t, rfl⟩ := r; exact ⟨_, Reads.str x t, fun a z => by cases z⟩
  | .list ds, _, _, h, r => by
    cases h with
    | lst hs ha =>
      cases r
      obtain ⟨z, its, n, rv, ho⟩ := I.hok _ _ hs
      obtain ⟨as, hr, hn⟩ := RpL.reads I ds _ its ha rv
      refine ⟨_, Reads.list ho rfl rfl hr, fun b hb => ?_⟩
      rcases List.mem_cons.mp hb with e | e
      · rw [e, hs]; simp
      · exact hn b e
  | .tuple ds, _, _, h, r => by
    cases h with
    | tup hs ha =>
      cases r
      obtain ⟨z, its, rv, o, ho, hc, n, hd⟩ := I.hok _ _ hs
      obtain ⟨as, hr, hn⟩ := RpL.reads I ds _ its ha rv
      exact ⟨_, Reads.tuple ho hc hd hr, hn⟩
  | .dict kvs, _, _, h, r => by
    cases h with
    | dct hs =>
      cases r
      obtain ⟨_, _, vs, rv, o, es, ep, ho, hx, hd, hk, hp, _⟩ := I.hok _ _ hs
      cases rv
      have e0 : es.toList = [] := by
        cases q : es.toList with
        | nil => rfl
        | cons x t => rw [q] at hp; cases hp
      refine ⟨_, Reads.dict (kvs := []) (as := []) (bs := []) ho hx.1 hd (by rw [e0]; exact .nil) (by rw [e0]; exact .nil), fun b hb => ?_⟩
      rcases List.mem_append.mp hb with e | e
      · rcases List.mem_cons.mp e with e | e
        · rw [e, hs]; simp
        · cases e
      · cases e
theorem RpL.reads {X : Cx} {pins : List (Addr × Obj)} {σ : L2.St} {H : Hp} {s : Shared} (I : Inv X pins σ H s) : ∀ (ds : List PyData) (vs : List V) (us : List Value), RpL X.K H vs ds → Vals vs us → ∃ as, ReadsAll s.heap us ds as ∧ ∀ a ∈ as, H a ≠ none
  | [], _, _, h, r => by cases h; cases r; exact ⟨_, ReadsAll.nil, fun a z => by cases z⟩
  | d :: ds, _, _, h, r => by
    cases h with
    | cons h1 h2 =>
      cases r with
      | cons r1 r2 =>
        obtain ⟨as, q1, n1⟩ := Rp.reads I d _ _ h1 r1
        obtain ⟨bs, q2, n2⟩ := RpL.reads I ds _ _ h2 r2
        refine ⟨_, ReadsAll.cons q1 q2, fun a ha => ?_⟩
        rcases List.mem_append.mp ha with z | z
        · exact n1 a z
        · exact n2 a z
end

/-! ### isinstance of data -/
def tyN : PyData → String
  | .none => "NoneType"
  | .bool _ => "bool"
  | .int _ => "int"
  | .str _ => "str"
  | .list _ => "list"
  | .tuple _ => "tuple"
  | .dict _ => "dict"
theorem tyX_of {H : Hp} {x : V} {d : PyData} (h : Rp K H x d) : TyX K H x (.type (tyN d)) := by
  cases h with
  | non => exact .base .non
  | bl b => exact .base (.bl b)
  | int i => exact .base (.int i)
  | str y => exact .base (.str y)
  | lst h _ => exact .base (.lst h)
  | tup h _ => exact .base (.tup h)
  | dct h => exact .base (.dK h)
def isI : PyData → Bool
  | .int _ => true
  | _ => false
def isIB : PyData → Bool
  | .int _ => true
  | .bool _ => true
  | _ => false
def isB : PyData → Bool
  | .bool _ => true
  | _ => false
def isSq : PyData → Bool
  | .list _ => true
  | .tuple _ => true
  | _ => false
theorem kit_int : ∀ d : PyData, PySem.W.kitOne K (.type (tyN d)) (.type "int") = some (isIB d)
  | .none => kit_ty (show kitB "NoneType" "int" = some false by decide +kernel)
  | .bool _ => kit_ty (show kitB "bool" "int" = some true by decide +kernel)
  | .int _ => kit_ty (show kitB "int" "int" = some true by decide +kernel)
  | .str _ => kit_ty (show kitB "str" "int" = some false by decide +kernel)
  | .list _ => kit_ty (show kitB "list" "int" = some false by decide +kernel)
  | .tuple _ => kit_ty (show kitB "tuple" "int" = some false by decide +kernel)
  | .dict _ => kit_ty (show kitB "dict" "int" = some false by decide +kernel)
theorem kit_bool : ∀ d : PyData, PySem.W.kitOne K (.type (tyN d)) (.type "bool") = some (isB d)
  | .none => kit_ty (show kitB "NoneType" "bool" = some false by decide +kernel)
  | .bool _ => kit_ty (show kitB "bool" "bool" = some true by decide +kernel)
  | .int _ => kit_ty (show kitB "int" "bool" = some false by decide +kernel)
  | .str _ => kit_ty (show kitB "str" "bool" = some false by decide +kernel)
  | .list _ => kit_ty (show kitB "list" "bool" = some false by decide +kernel)
  | .tuple _ => kit_ty (show kitB "tuple" "bool" = some false by decide +kernel)
  | .dict _ => kit_ty (show kitB "dict" "bool" = some false by decide +kernel)
theorem kit_seq : ∀ d : PyData, PySem.W.kitAny K (.type (tyN d)) [.type "list", .type "tuple"] = some (isSq d)
  | .none => kitAny_cons (b := false) (kit_ty (show kitB "NoneType" "list" = some false by decide +kernel)) (fun _ => kitAny_cons (b := false) (kit_ty (show kitB "NoneType" "tuple" = some false by decide +kernel)) (fun _ => kitAny_nil) (fun z => nomatch z)) (fun z => nomatch z)
  | .bool _ => kitAny_cons (b := false) (kit_ty (show kitB "bool" "list" = some false by decide +kernel)) (fun _ => kitAny_cons (b := false) (kit_ty (show kitB "bool" "tuple" = some false by decide +kernel)) (fun _ => kitAny_nil) (fun z => nomatch z)) (fun z => nomatch z)
  | .int _ => kitAny_cons (b := false) (kit_ty (show kitB "int" "list" = some false by decide +kernel)) (fun _ => kitAny_cons (b := false) (kit_ty (show kitB "int" "tuple" = some false by decide +kernel)) (fun _ => kitAny_nil) (fun z => nomatch z)) (fun z => nomatch z)
  | .str _ => kitAny_cons (b := false) (kit_ty (show kitB "str" "list" = some false by decide +kernel)) (fun _ => kitAny_cons (b := false) (kit_ty (show kitB "str" "tuple" = some false by decide +kernel)) (fun _ => kitAny_nil) (fun z => nomatch z)) (fun z => nomatch z)
  | .list _ => kitAny_cons (b := true) (kit_ty (show kitB "list" "list" = some true by decide +kernel)) (fun z => nomatch z) (fun _ => rfl)
  | .tuple _ => kitAny_cons (b := false) (kit_ty (show kitB "tuple" "list" = some false by decide +kernel)) (fun _ => kitAny_cons (b := true) (kit_ty (show kitB "tuple" "tuple" = some true by decide +kernel)) (fun z => nomatch z) (fun _ => rfl)) (fun z => nomatch z)
  | .dict _ => kitAny_cons (b := false) (kit_ty (show kitB "dict" "list" = some false by decide +kernel)) (fun _ => kitAny_cons (b := false) (kit_ty (show kitB "dict" "tuple" = some false by decide +kernel)) (fun _ => kitAny_nil) (fun z => nomatch z)) (fun z => nomatch z)

/-! ### a list or a tuple -/
/-- at a a list or a tuple of xs is to be read -/
def Sq (K : PySem.W.Frag) (H : Hp) (a : Addr) (xs : List V) : Prop := SqL K H a xs ∨ SqT K H a xs
theorem Kp.sq {H H' : Hp} (k : Kp H H') {a : Addr} {xs : List V} (h : Sq K H a xs) : Sq K H' a xs := h.imp k.sqL k.sqT
def kids : PyData → List PyData
  | .list ds => ds
  | .tuple ds => ds
  | _ => []
theorem Rp.sq {H : Hp} {x : V} {d : PyData} (h : Rp K H x d) (hs : isSq d = true) : ∃ a xs, x = .ref a ∧ Sq K H a xs ∧ RpL K H xs (kids d) := by
  cases h with
  | lst h r => exact ⟨_, _, rfl, .inl (.inl (.inl h)), r⟩
  | tup h r => exact ⟨_, _, rfl, .inr (.inl (.inl h)), r⟩
  | _ => cases hs
/-- what a for, a comprehension walks: a list or a tuple -/
def iSq (K : PySem.W.Frag) (tl : TE) : TI := fun σ H R => tl σ H fun x H1 => ∃ a xs, x = .ref a ∧ ((SqL K H1 a xs ∧ R (Itl K a) H1) ∨ (SqT K H1 a xs ∧ R (Itt K a) H1))
section
variable {X : Cx} {tg l : Expr} {tl : TE}
theorem pi_sq (hl : PE X l tl) : PI X tg l (iSq X.K tl) := by
  refine ⟨fun pins s σ H R I h => ?_⟩
  refine thn (hl.run pins s σ H _ I h) fun u s1 h1 => ?_
  obtain ⟨x, H1, I1, r1, a, xs, rfl, q⟩ := h1
  have pe0 : ∀ (R' : It → Hp → Prop) (w0 : L2.St → Hp → (It → Hp → Prop) → Prop), True := fun _ _ => trivial
  rcases q with ⟨q1, q2⟩ | ⟨q1, q2⟩
  · obtain ⟨its, rv, p, hz⟩ := I1.list q1
    cases r1
    refine wpAny_pyIter_list p.isList ?_
    have I2 : Inv X pins σ H1 { s1 with heap := s1.heap.push { cls := .type "list_iterator", data := .fields #[.ref a, .int 0 0] } } := I1.kept (t' := s1.toks) fun b o e => Heap.get?_push_of_some _ e
    exact ⟨s1.heap.objs.size, [s1.heap.objs.size], _, _, H1, rfl, I2, turn_list a _, ⟨_, Heap.get?_push_size _ rfl, rfl, rfl⟩, fun b hb => by
      rw [List.mem_singleton.mp hb]
      exact I1.fpOk (Nat.le_refl _) (I1.hok.fresh (Nat.le_refl _)), q2⟩
  · obtain ⟨its, rv, p, hz⟩ := I1.tuple q1
    cases r1
    refine wpAny_pyIter_tuple p ?_
    have I2 : Inv X pins σ H1 { s1 with heap := s1.heap.push { cls := .type "tuple_iterator", data := .fields #[.ref a, .int 0 0] } } := I1.kept (t' := s1.toks) fun b o e => Heap.get?_push_of_some _ e
    exact ⟨s1.heap.objs.size, [s1.heap.objs.size], _, _, H1, rfl, I2, turn_tuple a _, ⟨_, Heap.get?_push_size _ rfl, rfl, rfl⟩, fun b hb => by
      rw [List.mem_singleton.mp hb]
      exact I1.fpOk (Nat.le_refl _) (I1.hok.fresh (Nat.le_refl _)), q2⟩
end
/-- all(..), any(..) over it: V between the turns -/
theorem rd_all {P : Addr} {ix : Nat} {te : TE} {go : Bool} {σ : L2.St} {H1 : Hp} {Q : VK} {a : Addr} {xs : List V} (V0 : Nat → Hp → Prop) (hq : Sq K H1 a xs) (hP : GxR.TabG H1 P)
    (h0 : ∀ H2, GxR.Tabbed P H1 H2 → V0 0 H2) (hk : ∀ i H', i ≤ xs.length → V0 i H' → Kp H1 H')
    (hs : ∀ i x H', xs[i]? = some x → V0 i H' → te (σ.set ix (some x)) H' fun v H'' => ∃ b, v = .bl b ∧ if b = go then V0 (i + 1) H'' else Q (.bl (!go)) H'')
    (hf : ∀ H', V0 xs.length H' → Q (.bl go) H') :
    (SqL K H1 a xs ∧ (GxR.TabG H1 P ∧ ∀ H2, GxR.Tabbed P H1 H2 → ∃ (n : Nat) (Pn : Gx.Plan), Gx.Turns (Itl K a) (gName ix) te go n Pn ∧ Pn.W 0 (σ.set ix none) H2 ∧
      (∀ i σ' H', Pn.Out (!go) i σ' H' → Q (.bl (!go)) H') ∧ ∀ H', Pn.Fin H' → Q (.bl go) H')) ∨
    (SqT K H1 a xs ∧ (GxR.TabG H1 P ∧ ∀ H2, GxR.Tabbed P H1 H2 → ∃ (n : Nat) (Pn : Gx.Plan), Gx.Turns (Itt K a) (gName ix) te go n Pn ∧ Pn.W 0 (σ.set ix none) H2 ∧
      (∀ i σ' H', Pn.Out (!go) i σ' H' → Q (.bl (!go)) H') ∧ ∀ H', Pn.Fin H' → Q (.bl go) H')) := by
  have pl : ∀ (J : It), (∀ i H', i ≤ xs.length → V0 i H' → (J.stop i H' ∧ i = xs.length) ∨ (i < xs.length ∧ J.go i H' ∧ ∀ x H'', J.yld i H' x H'' → H'' = H' ∧ xs[i]? = some x)) →
      ∀ H2, GxR.Tabbed P H1 H2 → ∃ (n : Nat) (Pn : Gx.Plan), Gx.Turns J (gName ix) te go n Pn ∧ Pn.W 0 (σ.set ix none) H2 ∧ (∀ i σ' H', Pn.Out (!go) i σ' H' → Q (.bl (!go)) H') ∧ ∀ H', Pn.Fin H' → Q (.bl go) H' := by
    intro J hJ H2 h2
    refine ⟨xs.length, ⟨fun i σ' H' => (∃ v, σ' = σ.set ix v) ∧ V0 i H', fun b _ _ H' => b = (!go) ∧ Q (.bl (!go)) H', fun H' => Q (.bl go) H'⟩, ?_, ⟨⟨none, rfl⟩, h0 H2 h2⟩, fun _ _ _ z => z.2, fun _ z => z⟩
    rintro i σ' H' hi ⟨⟨v, rfl⟩, hv⟩
    rcases hJ i H' hi hv with ⟨s1, s2⟩ | ⟨s1, s2, s3⟩
    · subst s2
      exact .inl ⟨s1, hf H' hv⟩
    · refine .inr ⟨s1, s2, fun x H'' hy => ?_⟩
      obtain ⟨rfl, hx⟩ := s3 x H'' hy
      show te ((σ.set ix v).set ix (some x)) H'' _
      rw [List.set_set]
      have := hs i x H'' hx hv
      have e : (fun (v : V) (H'' : Hp) => ∃ b, v = .bl b ∧ if b = go then V0 (i + 1) H'' else Q (.bl (!go)) H'') = fun (v : V) (H3 : Hp) => ∃ b, v = V.bl b ∧ if b = go then (∃ v, σ.set ix (some x) = σ.set ix v) ∧ V0 (i + 1) H3 else b = (!go) ∧ Q (.bl (!go)) H3 := by
        funext v H3
        apply propext
        constructor
        · rintro ⟨b, rfl, q⟩
          refine ⟨b, rfl, ?_⟩
          by_cases hb : b = go
          · rw [if_pos hb] at q ⊢
            exact ⟨⟨_, rfl⟩, q⟩
          · rw [if_neg hb] at q ⊢
            exact ⟨by cases b <;> cases go <;> first | rfl | exact absurd rfl hb, q⟩
        · rintro ⟨b, rfl, q⟩
          refine ⟨b, rfl, ?_⟩
          by_cases hb : b = go
          · rw [if_pos hb] at q ⊢
            exact q.2
          · rw [if_neg hb] at q ⊢
            exact q.2
      rw [← e]
      exact this
  rcases hq with hq | hq
  · refine .inl ⟨hq, hP, pl _ fun i H' hi hv => ?_⟩
    have h' := (hk i H' hi hv).sqL hq
    rcases Nat.lt_or_ge i xs.length with hlt | hge
    · exact .inr ⟨hlt, ⟨xs, xs[i], h', List.getElem?_eq_getElem hlt⟩, fun x H'' hy => ⟨hy.1, hy.2 xs h'⟩⟩
    · exact .inl ⟨⟨xs, h', hge⟩, by omega⟩
  · refine .inr ⟨hq, hP, pl _ fun i H' hi hv => ?_⟩
    have h' := (hk i H' hi hv).sqT hq
    rcases Nat.lt_or_ge i xs.length with hlt | hge
    · exact .inr ⟨hlt, ⟨xs, xs[i], h', List.getElem?_eq_getElem hlt⟩, fun x H'' hy => ⟨hy.1, hy.2 xs h'⟩⟩
    · exact .inl ⟨⟨xs, h', hge⟩, by omega⟩
end Tb

namespace Tb
open PySem PySem.Spec PyProof.Rows L2

/-! ### a def that wants to know what is being shown around it, and where sys.modules stands -/
structure FnG (P : Program) (w : World) (K : PySem.W.Frag) (mg : Str → Option Value) (base : Heap) (k : Nat) (f : Addr) (fd : FuncData) (ps : List Str) (sp : Sp) : Prop where
  len : ∀ vs H Q E, sp vs H Q E → vs.length = ps.length
  run : ∀ (A : Around) (outer : List Env) (s : Shared) (H : Hp) (args : Args) (us : List Value) (vs : List V) (Q : VK), Room k A → A.guards = some [] → Env0 P w K mg base A outer s H → BindsTo s fd args (ps.zip us) → Vals vs us → sp vs H Q E0 →
    codeAny (model P w) A (.call (.ref f) args) (CR CX0 outer P w H s Q E0) s
section
variable {P : Program} {w : World} {K : PySem.W.Frag} {mg : Str → Option Value} {base : Heap} {N ps : List Str} {qual x : Str} {st : Stmt} {f : Addr} {fd : FuncData} {k : Nat} {sp : Sp}
theorem okG (F : Fun K x qual st f fd) (S : FnScope N ps (defScope st)) (len : ∀ vs H Q E, sp vs H Q E → vs.length = ps.length)
    (hb : ∀ (cdv : Value) (A : Around) (outer : List Env) (s : Shared) (H : Hp) (vs : List V) (Q : VK), Room k (A.deeper (envOfC qual (defScope st) s.heap.objs.size f cdv)) → A.guards = some [] → sp vs H Q E0 →
      ∃ t, PSs (cxOf CX0 P w K mg base N qual (defScope st) f cdv A outer s H E0).nox (defBody st) t ∧ t { nx := fun _ H' => Q .non H', rt := Q } (start N vs) H) : FnG P w K mg base (k + 1) f fd ps sp := by
  obtain ⟨oc, od, kV, doc, pm, an, cdv, ct, osl, rfl, lk, hcd⟩ := F.ex
  refine ⟨len, fun A outer s H args us vs Q hr hgd e0 hbn r hsp => ?_⟩
  have hl := len _ _ _ _ hsp
  have inS : K.In s.heap := e0.mod.kin.keeps fun b o e => (e0.bs b o e).1
  have noL : s.heap.NoLimit := e0.mod.nolimit.keeps fun b o e => (e0.bs b o e).1
  have kinds : ∀ y ∈ ps.zip us, (defScope st).names.lookup y.1 = some .local ∨ ((defScope st).names.lookup y.1 = some .cell ∧ ((cellsFrom (s.heap.objs.size + 1) (defScope st).names []).lookup y.1).isSome = true) := by
    rintro ⟨n, v⟩ hy
    rcases S.par n (List.of_mem_zip hy).1 with q | q
    · exact .inl q
    · exact .inr ⟨q, PySem.W.cellsFrom_some _ _ _ (.inl q)⟩
  refine codeAny_call_function hr.depth (inS _ _ lk) rfl S.co S.gen rfl (PySem.W.codeRec_of inS hcd) (hbn _ _ _ _ ?_)
  refine wpAny_newFunctionEnv_cells S.kind kinds fun env he s1 xc => ?_
  subst he
  refine ⟨noL.keeps xc.toInCall.keep, codeAny_func ?_⟩
  obtain ⟨t, ht, hq⟩ := hb cdv A outer s H vs Q (hr.deeper _) hgd hsp
  have J : Inv (cxOf CX0 P w K mg base N qual (defScope st) f cdv A outer s H E0) [] (start N vs) H s1 := inv_start S hr.hd e0 hl r xc
  refine wpAny_mono (ht.nox.run [] s1 (start N vs) H _ J hq) (fun fl s' hs => ?_) fun e s' hs => hs
  cases fl with
  | ret u =>
    obtain ⟨v, σ', H', I', rv, q⟩ := hs
    exact ⟨v, H', I'.os, I'.bare, I'.base, I'.hok, rv, q⟩
  | next =>
    obtain ⟨σ', H', I', q⟩ := hs
    exact ⟨V.non, H', I'.os, I'.bare, I'.base, I'.hok, rfl, q⟩
  | brk => obtain ⟨_, _, _, q⟩ := hs; exact q.elim
  | cont => obtain ⟨_, _, _, q⟩ := hs; exact q.elim
end
section
variable {X : Cx} {k : Nat} {f : Addr} {fd : FuncData} {ps : List Str} {sp : Sp} {x : Str} {p pos : Pos} {e : Expr} {es : List Expr} {t : TA}
theorem pe_callG (F : FnG X.prog X.w X.K X.mg X.base k f fd ps sp) (hr : Room k X.A) (hgd : X.A.guards = some []) (hg : Gl X x) (hm : X.mg x = some (.ref f)) (hk : PySem.W.keepIn X.K (.ref f) = true) (hb : Binds X.K fd ps [])
    (ha : PA X (e :: es) t) (hdb : (x == ("__debug__" : Str)) = false := by decide) (he : starEach (e :: es) X.env = (false, eval e X.env) :: starEach es X.env := by rfl) (hpl : (backTo pos (starEach es X.env)).any (·.1) = false := by rfl) :
    PE X (.Call (.Name x p) (e :: es) [] pos) (tCall sp [] E0 t) := by
  refine ⟨fun pins s σ H Q I h => ?_⟩
  refine wpAny_Call_Name_kw (ld_glob I hg hm ?_ hdb)
  refine PySem.W.callWith_K (h₀ := X.base) I.ok.mod.kin hk (thn (ha.run pos pins s σ H _ I h) fun us s1 h1 => ?_) he hpl
  obtain ⟨vs, H1, I1, r, q⟩ := h1
  refine ⟨I1.kIn, ?_⟩
  rw [List.append_nil] at q
  have hl : us.length = ps.length := by rw [← r.length]; exact F.len _ _ _ _ q
  have bt := hb s1 us I1.kIn (by rw [List.append_nil]; exact hl)
  rw [List.append_nil] at bt
  refine wpAny_call (codeAny_mono (F.run X.A X.stack s1 H1 ⟨us, []⟩ us vs Q hr hgd I1.env0 bt r q) fun r s' hq => ?_)
  cases r with
  | error e => exact hq.elim
  | ok fl =>
    cases fl with
    | ret u => exact I1.after hq
    | next => exact hq.elim
    | brk => exact hq.elim
    | cont => exact hq.elim
end

/-! ### repr -/
section
variable {X : Cx}
/-- repr of data; of a bool -/
def rRepr (K : PySem.W.Frag) : List V → Hp → VK → Prop := fun vs H Q => ∃ x d, vs = [x] ∧ Rp K H x d ∧ d.showable = true ∧ d.depth ≤ 60 ∧ d.shown.length ≤ sizeLine ∧ Q (.str d.shown) H
theorem cr_repr (hu : X.A.units + 64 < cLine) (hgd : X.A.guards = some []) (hsys : ∃ o, X.base.get? sysModules = some o) : CallR X (.builtin "repr") (rRepr X.K) := by
  intro pins s σ H vs us Q I r h
  obtain ⟨x, d, rfl, hx, hs, hd, hz, q⟩ := h
  obtain ⟨u, rfl, ru⟩ := r.one
  have ref : ∀ a, u = .ref a → wpAny (model X.prog X.w) X.A (call (.builtin "repr") [u]) (EP X pins σ Q) X.xe s := by
    rintro a rfl
    obtain ⟨as, rd, hn⟩ := Rp.reads I d x (.ref a) hx ru
    refine repr_of_reads' (h₀ := s.heap) rd hs (fun _ hm => ?_) hgd (by omega) (fun _ _ e => e) (fun h' u tk hk => ⟨.str d.shown, H, I.kept hk, ⟨u, rfl⟩, q⟩) hz
    obtain ⟨o, ho⟩ := hsys
    exact hn _ hm (I.bs _ _ ho).2
  cases hx with
  | non => cases ru; exact PySem.P.repr_of_none ⟨.str _, H, I.tok _, ⟨_, rfl⟩, q⟩
  | bl b =>
    cases ru
    exact PySem.P.repr_of_bool ⟨.str _, H, I.tok _, ⟨_, rfl⟩, by cases b <;> exact q⟩
  | int i =>
    obtain ⟨t, rfl⟩ := ru
    exact PySem.P.repr_of_int (of_decide_eq_true hs) ⟨.str _, H, I.tok _, ⟨_, rfl⟩, q⟩
  | str y =>
    obtain ⟨t, rfl⟩ := ru
    exact PySem.P.repr_of_str ⟨.str _, H, I.tok _, ⟨_, rfl⟩, q⟩ hz
  | lst h a => exact ref _ ru
  | tup h a => exact ref _ ru
  | dct h => exact ref _ ru
end
end Tb

namespace Tb
open PySem PySem.Spec PyProof.Rows L2
/-! ### set of a list of ints -/
abbrev nso (w : World) : Obj := { cls := .type "set", dict := none, data := .set #[] 0 (.fresh 0 0 (!w.params.followText "set-order")) }
abbrev iso (l : Addr) : Obj := { cls := .type "list_iterator", data := .fields #[.ref l, .int 0 0] }
section
variable {P : Program} {w : World} {A : Around} {E : Value → Shared → Prop} {s : Shared}
theorem set_of_list {l : Addr} {its : Array Value} (zs : List Int) {Q : Value → Shared → Prop} (h0 : A.handled = none) (hL : s.heap.IsList l its) (hI : IntsAre its.toList zs) (hB : zs.length + 1 < scanBound)
    (k : ∀ (g : Heap) (tk c : Nat), SetR w g s.heap.objs.size (fun j => decide (j ∈ zs)) c → c ≤ zs.length → (∀ b o, s.heap.get? b = some o → g.get? b = some o) → Q (.ref s.heap.objs.size) { s with heap := g, toks := tk }) :
    wpAny (model P w) A (call (.type "set") [.ref l]) Q E s := by
  have size : its.size = zs.length := by
    have := IntsAre.length hI
    rwa [Array.length_toList] at this
  obtain ⟨cc, tl, hmro⟩ := F.called_set.mro
  have made := F.called_set.made
  have subs := F.called_set.sub
  refine wpAny_call (codeAny_of_tree ?_)
  show wpAny _ _ (callAny (.type "set") _) _ _ _
  refine wpAny_pure ⟨Code.quiet_builtin _ (by decide +kernel), ?_⟩
  refine codeAny_builtin F.entry_type_call ?_
  rw [Around.under_plain (weight_type_call_type "set" [.ref l] []) rfl]
  have nt := F.called_set.notType
  have cr := F.called_set.canCreate
  have tc := F.typeCall_set_1 (.ref l)
  repeat (any_goals (first | assumption | wp_step))
  refine codeAny_mono (code_set_led1 (.ref l) (E := E) (Q₁ := fun u s1 => u = .ref s.heap.objs.size ∧ s1 = { s with heap := s.heap.push (nso w) }) ⟨rfl, rfl⟩) fun r s1 hr => ?_
  cases r with
  | error e => exact hr
  | ok fl =>
    cases fl with
    | ret u =>
      obtain ⟨rfl, rfl⟩ := hr
      have gS : (s.heap.push (nso w)).get? s.heap.objs.size = some (nso w) := Heap.get?_push_size _ rfl
      have tS : Shared.TypeIs { s with heap := s.heap.push (nso w) } (.ref s.heap.objs.size) "set" := ⟨_, gS, rfl⟩
      have il := F.called_set.init.lookup
      have ib := F.called_set.init.bind (.ref s.heap.objs.size)
      repeat (any_goals (first | assumption | wp_step))
      refine codeAny_mono (codeAny_call_builtin (R := wants (fun r s2 => r = .none ∧ ∃ g tk c, s2 = { s with heap := g, toks := tk } ∧ SetR w g s.heap.objs.size (fun j => decide (j ∈ zs)) c ∧ c ≤ zs.length ∧
          (∀ b o, s.heap.get? b = some o → g.get? b = some o)) E) F.called_set.init.plain F.entry_set_init (check_set_init_1 tS ?_)) fun r2 s2 hr2 => ?_
      · obtain ⟨ol, gl, cl, nl, dl⟩ := hL
        obtain ⟨lc, ld, lt, ls⟩ := ol
        simp only at cl dl
        subst cl; subst dl
        have gl' : (s.heap.push (nso w)).get? l = some { cls := .type "list", dict := ld, data := .seq its nl, slots := ls } := Heap.get?_push_of_some _ gl
        have q1 := F.sub_list_set
        have q2 := F.sub_list_frozenset
        have q3 : (Value.type "list" == Value.type "dict") = false := by decide
        have L1 : (s.heap.push (nso w)).IsList l its := ⟨_, gl', rfl, nl, rfl⟩
        unfold Builtin.«set.__init__» noKeywords Builtin.Frozenset.updateFrom
        generalize hPI : pyIter = PI
        wp_walk
        subst hPI
        refine wpAny_pyIter_list L1 ?_
        refine wpAny_bind (wpAny_runValue ?_)
        have below : l < s.heap.objs.size := Heap.lt_size gl
        have h3 : A.in1.in1.in1.handled = none := by simp [h0]
        have z1 : (s.heap.push (nso w)).objs.size = s.heap.objs.size + 1 := Heap.size_push ..
        have ne1 : l ≠ (s.heap.push (nso w)).objs.size := by
          rw [z1]; exact Nat.ne_of_lt (Nat.lt_succ_of_lt below)
        have nS : s.heap.objs.size ∉ [(s.heap.push (nso w)).objs.size, l] := by
          rw [z1]
          simp only [List.mem_cons, List.mem_singleton, List.not_mem_nil, or_false, not_or]
          exact ⟨Nat.ne_of_lt (Nat.lt_succ_self _), Nat.ne_of_gt below⟩
        have vals : ∀ (i : Nat) (v : Value), its[i]? = some v → ∃ z t, zs[i]? = some z ∧ v = .int z t := by
          intro i v hv
          have hi : i < zs.length := by rw [← size]; exact (Array.getElem?_eq_some_iff.mp hv).1
          obtain ⟨t, e⟩ := PyProof.Rows.IntsAre.int_at hI i v (by rw [Array.getElem?_toList]; exact hv)
          exact ⟨zs[i], t, List.getElem?_eq_getElem hi, by rw [e, List.getD_eq_getElem?_getD, List.getElem?_eq_getElem hi] <;> rfl⟩
        refine set_update_ints ((Walks.list h3 _ l ne1 its).toS) s.heap.objs.size nS zs size hB vals (its.size - 0) 0 _ (by omega) (Nat.zero_le _) ⟨⟨_, Heap.get?_push_size _ rfl, rfl, rfl⟩, (L1.push _)⟩ ?c0 ?c1
        case c0 => exact ⟨0, Nat.le_refl 0, setR_new_at (show ((s.heap.push (nso w)).push (iso l)).get? s.heap.objs.size = some (nso w) from Heap.get?_push_of_some _ gS)⟩
        case c1 =>
          intro s' c' mv lc' R'
          obtain ⟨g, gg, dd, tk', os'⟩ := s'
          have e1 : gg = s.gens := mv.gens
          have e2 : dd = s.drawn := mv.drawn
          have e3 : os' = s.os := mv.os
          subst e1; subst e2; subst e3
          show wpAny _ _ _ _ _ _
          refine wpAny_pure ?_
          show wpAny _ _ (ret Value.none) _ _ _
          rw [size] at lc'
          refine wpAny_pure ⟨rfl, g, tk', c', rfl, R', lc', fun b o e => ?_⟩
          have b0 : b < s.heap.objs.size := Heap.lt_size e
          refine mv.heap b o (fun hm => ?_) (Heap.get?_push_of_some _ (Heap.get?_push_of_some _ e))
          rcases List.mem_cons.mp hm with q | q
          · exact absurd q (Nat.ne_of_lt b0)
          · rcases List.mem_cons.mp q with q | q
            · rw [z1] at q
              exact absurd q (Nat.ne_of_lt (Nat.lt_succ_of_lt b0))
            · cases q
      · cases r2 with
        | error e => exact hr2
        | ok f2 =>
          cases f2 with
          | ret r =>
            obtain ⟨rfl, g, tk, c, rfl, R2, lc2, kk⟩ := hr2
            repeat (any_goals (first | assumption | wp_step))
            exact k _ _ _ R2 lc2 kk
          | next => exact hr2.elim
          | brk => exact hr2.elim
          | cont => exact hr2.elim
    | next => exact hr.elim
    | brk => exact hr.elim
    | cont => exact hr.elim
end
/-- sorted(set(xs)), xs a list of ints -/
def rSetL (w : World) (K : PySem.W.Frag) : List V → Hp → VK → Prop := fun vs H Q => ∃ (l : Addr) (zs : List Int), vs = [.ref l] ∧ SqL K H l (zs.map V.int) ∧ zs.length + 1 < scanBound ∧
  ∀ p c, H p = none → c ≤ zs.length → Q (.ref p) (upd H p (SetO w p (fun j => decide (j ∈ zs)) c))
theorem cr_setL {X : Cx} (hc : X.calm = true) : CallR X (.type "set") (rSetL X.w X.K) := by
  intro pins s σ H vs us Q I r h
  obtain ⟨l, zs, rfl, hl, hb, q⟩ := h
  obtain ⟨u, rfl, ru⟩ := r.one
  cases ru
  obtain ⟨its, rv, p, hz⟩ := I.list hl
  refine set_of_list zs (I.ok.hd hc) p.isList (by simpa using ints_of_vals rv) hb fun g tk c R hc' kp => ?_
  exact ⟨.ref _, upd H s.heap.objs.size (SetO X.w s.heap.objs.size (fun j => decide (j ∈ zs)) c), I.laid kp (Nat.le_refl _) (setO_new R), rfl, q _ c (I.hok.fresh (Nat.le_refl _)) hc'⟩
end Tb

namespace Gx
open PySem PySem.Spec PyProof.Rows L2
theorem turn_out (elt t0 i0 t1 i1 : Expr) (scope : Scope) (pos : Pos) (it acc : Value) (env : Env) :
    compTurn (.GeneratorExp elt [⟨t0, i0, [], 0⟩, ⟨t1, i1, [], 0⟩] scope pos) 0 it acc env = (do
      standAt i0.pos
      match ← pyNext it with
      | none => pure (.done .next)
      | some v =>
        letOwnedTupleGo t0 it v
        assign t0 env v
        let x ← eval i1 env
        standAt i1.pos
        let x ← foldedSetIterable i1 env x
        let _ ← runOwn (.compStart (.GeneratorExp elt [⟨t0, i0, [], 0⟩, ⟨t1, i1, [], 0⟩] scope pos) 1 (← holding [x] (pyIter x)) acc env) env
        again (.compLoop (.GeneratorExp elt [⟨t0, i0, [], 0⟩, ⟨t1, i1, [], 0⟩] scope pos) 0 it acc env)) := by rfl
theorem turn_in (elt t0 i0 t1 i1 : Expr) (scope : Scope) (pos : Pos) (it acc : Value) (env : Env) :
    compTurn (.GeneratorExp elt [⟨t0, i0, [], 0⟩, ⟨t1, i1, [], 0⟩] scope pos) 1 it acc env = (do
      standAt i1.pos
      match ← pyNext it with
      | none => pure (.done .next)
      | some v =>
        letOwnedTupleGo t1 it v
        assign t1 env v
        (do let v ← eval elt env; standAt elt.pos; let _ ← yieldOut env v)
        again (.compLoop (.GeneratorExp elt [⟨t0, i0, [], 0⟩, ⟨t1, i1, [], 0⟩] scope pos) 1 it acc env)) := by rfl
/-- what is wanted of a generator of two clauses: W0 m i ahead of the i-th turn of the first, m items still to come at most; W1 within -/
structure Plan2 where
  W0 : Nat → Nat → L2.St → Hp → Prop
  W1 : It → Nat → Nat → Nat → L2.St → Hp → Prop
  Out : Bool → L2.St → Hp → Prop
  Fin : Hp → Prop
structure Turns2 (J : It) (g0 : TG) (w1 : TI) (g1 : TG) (te : TE) (go : Bool) (n0 : Nat) (Pn : Plan2) : Prop where
  out : ∀ m i σ H, i ≤ n0 → Pn.W0 m i σ H → (J.stop i H ∧ Pn.Fin H) ∨ (i < n0 ∧ J.go i H ∧ ∀ x H', J.yld i H x H' → g0 x σ H' fun σ2 H2 => w1 σ2 H2 fun J1 H3 => Pn.W1 J1 m i 0 σ2 H3)
  inn : ∀ J1 m i j σ H, i < n0 → Pn.W1 J1 m i j σ H → (J1.stop j H ∧ Pn.W0 m (i + 1) σ H) ∨ (J1.go j H ∧ ∃ m', m = m' + 1 ∧ ∀ x H', J1.yld j H x H' → g1 x σ H' fun σ2 H2 => te σ2 H2 fun v H3 => ∃ b, v = .bl b ∧ if b = go then Pn.W1 J1 m' i (j + 1) σ2 H3 else Pn.Out b σ2 H3)
def Plan2.flat (Pn : Plan2) : Plan := ⟨fun _ _ _ => True, fun b _ σ H => Pn.Out b σ H, Pn.Fin⟩
section
variable {Z : Cx} {elt t0 i0 t1 i1 : Expr} {scope : Scope} {pos : Pos} {it : Addr} {fp : List Addr} {tn : Nat → Heap → Prop} {J : It} {g0 g1 : TG} {w1 : TI} {te : TE} {A : Around} {pin : List (Addr × Obj)} {go : Bool} {n n0 g : Nat} {Pn : Plan2}
abbrev ge2 (elt t0 i0 t1 i1 : Expr) (scope : Scope) (pos : Pos) : Expr := .GeneratorExp elt [⟨t0, i0, [], 0⟩, ⟨t1, i1, [], 0⟩] scope pos
abbrev lo0 (elt t0 i0 t1 i1 : Expr) (scope : Scope) (pos : Pos) (it : Addr) (env : Env) : Code := .compLoop (ge2 elt t0 i0 t1 i1 scope pos) 0 (.ref it) .none env
abbrev lo1 (elt t0 i0 t1 i1 : Expr) (scope : Scope) (pos : Pos) (it : Addr) (env : Env) : Code := .compLoop (ge2 elt t0 i0 t1 i1 scope pos) 1 (.ref it) .none env
/-- ahead of a turn of the first clause -/
def SO (Z : Cx) (elt t0 i0 t1 i1 : Expr) (scope : Scope) (pos : Pos) (it : Addr) (fp : List Addr) (tn : Nat → Heap → Prop) (A : Around) (pin : List (Addr × Obj)) (go : Bool) (n g : Nat) (Pn : Plan2) (m i : Nat) : Prop :=
  ∀ (s₀ s : Shared) (σ : L2.St) (H : Hp), Inv Z pin σ H s → tn i s.heap → (∀ d ∈ fp, H d = none) → g < s.gens.size → Pn.W0 m i σ H → m ≤ n →
    Seg (model Z.prog Z.w) A (fun m s₁ r s₂ => r = .ok .next ∧ gP Z pin Pn.flat g m s₁ s₂) (gY Z pin fp tn Pn.flat go n g) m s₀ (lo0 elt t0 i0 t1 i1 scope pos it Z.env) ((model Z.prog Z.w).den (lo0 elt t0 i0 t1 i1 scope pos it Z.env)) [] s
/-- within: the second clause's loop, the first one's turn behind it on the stack -/
def SI (Z : Cx) (elt t0 i0 t1 i1 : Expr) (scope : Scope) (pos : Pos) (it : Addr) (fp : List Addr) (tn : Nat → Heap → Prop) (A : Around) (pin : List (Addr × Obj)) (go : Bool) (n g : Nat) (Pn : Plan2) (m i : Nat) : Prop :=
  ∀ (s₀ s : Shared) (σ : L2.St) (H : Hp) (F0 : Frame) (j : Nat) (it1 : Addr) (fp1 : List Addr) (tn1 : Nat → Heap → Prop) (J1 : It),
    (splitAtGen [F0] = none) → ([F0].any Frame.guarded = false) → (A.over (lo1 elt t0 i0 t1 i1 scope pos it1 Z.env) [F0] = Z.A) →
    (∀ m' s₀' s', Seg (model Z.prog Z.w) A (fun m s₁ r s₂ => r = .ok .next ∧ gP Z pin Pn.flat g m s₁ s₂) (gY Z pin fp tn Pn.flat go n g) m' s₀' (lo0 elt t0 i0 t1 i1 scope pos it Z.env) ((model Z.prog Z.w).den (lo0 elt t0 i0 t1 i1 scope pos it Z.env)) [] s' →
      Seg (model Z.prog Z.w) A (fun m s₁ r s₂ => r = .ok .next ∧ gP Z pin Pn.flat g m s₁ s₂) (gY Z pin fp tn Pn.flat go n g) m' s₀' (lo1 elt t0 i0 t1 i1 scope pos it1 Z.env) (leafOf (.ok .next)) [F0] s') →
    Turn Z.prog Z.w Z.K t1 J1 fp1 it1 tn1 → (∀ {H : Hp}, (∀ d ∈ fp1, H d = none) → ∀ d ∈ fp1, FpOk Z pin H d) → (∀ d ∈ fp, ∀ b ∈ fp1, d ≠ b) →
    Inv Z pin σ H s → tn (i + 1) s.heap → (∀ d ∈ fp, H d = none) → tn1 j s.heap → (∀ d ∈ fp1, H d = none) → g < s.gens.size → Pn.W1 J1 m i j σ H → m ≤ n →
    Seg (model Z.prog Z.w) A (fun m s₁ r s₂ => r = .ok .next ∧ gP Z pin Pn.flat g m s₁ s₂) (gY Z pin fp tn Pn.flat go n g) m s₀ (lo1 elt t0 i0 t1 i1 scope pos it1 Z.env) ((model Z.prog Z.w).den (lo1 elt t0 i0 t1 i1 scope pos it1 Z.env)) [F0] s
theorem fp_more {Z : Cx} {pin : List (Addr × Obj)} {H : Hp} {h : Heap} {fp : List Addr} {b : Addr} (f : FpOk Z pin H b) (d : ∀ a ∈ fp, a ≠ b) : FpOk Z (pin ++ pinsAt fp h) H b := by
  obtain ⟨h1, h2, h3, h4, h5, h6⟩ := f
  refine ⟨h1, h2, h3, h4, h5, fun p hp => ?_⟩
  rcases List.mem_append.mp hp with z | z
  · exact h6 p (List.mem_append_left _ z)
  · rcases List.mem_append.mp z with z | z
    · exact h6 p (List.mem_append_right _ z)
    · exact d _ (of_pinsAt z).1
theorem si_of (T : Turn Z.prog Z.w Z.K t0 J fp it tn) (hg1 : PG Z t1 g1) (hel : PE Z elt te) (hx : ∀ e s, ¬ Z.xe e s) (hc : Z.calm = true) (hco : Z.env.scope.isCoroutine = false) (tt : Turns2 J g0 w1 g1 te go n0 Pn)
    (stat : ∀ {H : Hp}, (∀ d ∈ fp, H d = none) → ∀ d ∈ fp, FpOk Z pin H d) {m i : Nat} (hi : i < n0)
    (ih : ∀ m', m = m' + 1 → SI Z elt t0 i0 t1 i1 scope pos it fp tn A pin go n g Pn m' i) (so : SO Z elt t0 i0 t1 i1 scope pos it fp tn A pin go n g Pn m (i + 1)) : SI Z elt t0 i0 t1 i1 scope pos it fp tn A pin go n g Pn m i := by
  intro s₀ s σ H F0 j it1 fp1 tn1 J1 hF1 hF2 hA hk T1 stat1 dis I st0 n0' st1 n1' hgz hw hm
  show Seg _ A _ _ _ s₀ _ ((compTurn (ge2 elt t0 i0 t1 i1 scope pos) 1 (.ref it1) .none Z.env).onRaise _) [F0] s
  rw [turn_in, Sem.onRaise_eq_wrap]
  refine seg_bind_wrap (wpAny_standAt ?_)
  refine seg_bind_wrap ?_
  rw [hA]
  have P0 := I.pinned (stat n0') (T.obj _ _ st0)
  have f1 : ∀ d ∈ fp1, FpOk Z (pin ++ pinsAt fp s.heap) H d := fun d hd => fp_more (stat1 n1' d hd) fun a ha => dis a ha d hd
  have keep0 : ∀ {pl : List (Addr × Obj)} {σ' : L2.St} {H' : Hp} {s' : Shared}, Inv Z (pin ++ pinsAt fp s.heap ++ pl) σ' H' s' → tn (i + 1) s'.heap ∧ ∀ d ∈ fp, H' d = none := fun {pl σ' H' s'} I' => by
    refine ⟨T.keep _ _ _ st0 fun d hd o e => (I'.pin (d, o) (List.mem_append_right _ (List.mem_append_left _ (List.mem_append_right _ (mem_pinsAt hd e))))).1, fun d hd => ?_⟩
    obtain ⟨o, e, _⟩ := T.obj _ _ st0 d hd
    exact (I'.pin (d, o) (List.mem_append_right _ (List.mem_append_left _ (List.mem_append_right _ (mem_pinsAt hd e))))).2.1
  rcases tt.inn J1 m i j σ H hi hw with ⟨stp, w0⟩ | ⟨gO, m', rfl, step⟩
  · refine GenW.wpAny_gsz (n := g + 1) hgz (wpAny_mono (T1.done Z rfl rfl rfl hc j _ s σ H (fun _ _ => False) P0 f1 st1 stp) (fun r s1 h1 hz => ?_) fun _ _ e => e.elim)
    obtain ⟨hr, I1⟩ := h1
    subst hr
    obtain ⟨a1, a2⟩ := keep0 (pl := []) (by rw [List.append_nil]; exact I1)
    exact hk m _ s1 (so _ s1 σ H I1.unpinned a1 a2 hz w0 hm)
  · refine GenW.wpAny_gsz (n := g + 1) hgz (wpAny_mono (T1.item Z rfl rfl rfl hc j _ s σ H (fun _ _ => False) P0 f1 st1 gO) (fun r s1 h1 hz1 => ?_) fun _ _ e => e.elim)
    obtain ⟨u, hr, h1⟩ := h1
    subst hr
    refine seg_bind_wrap ?_
    rw [hA]
    refine GenW.wpAny_gsz (n := g + 1) hz1 (wpAny_mono h1 (fun _ s2 h2 hz2 => ?_) fun _ _ e => e.elim)
    obtain ⟨x, H2, I2, r2, y2, st2, n2⟩ := h2
    have f2 : ∀ d ∈ fp1, FpOk Z (pin ++ pinsAt fp s.heap) H2 d := fun d hd => ⟨n2 d hd, (f1 d hd).2⟩
    have P2 := I2.pinned f2 (T1.obj _ _ st2)
    refine seg_bind_wrap ?_
    rw [hA]
    refine GenW.wpAny_gsz (n := g + 1) hz2 (wpAny_mono (hg1.run _ s2 σ H2 x u _ P2 r2 (step x H2 y2)) (fun _ s3 h3 hz3 => ?_) fun e s3 he _ => (hx e s3 he).elim)
    obtain ⟨σ3, H3, I3, q3⟩ := h3
    have hy : ∀ v, yieldOut Z.env v = yieldValue v := fun v => by simp only [yieldOut, hco, Bool.false_eq_true, if_false]
    simp only [hy]
    rw [Sem.bind_eq_wrap', Sem.bind_eq_wrap', Sem.wrap_wrap, Sem.wrap_wrap]
    refine seg_wrap ?_
    rw [hA]
    refine GenW.wpAny_gsz (n := g + 1) hz3 (wpAny_mono (hel.run _ s3 σ3 H3 _ I3 q3) (fun v s4 h4 hz4 => ?_) fun e s4 he _ => (hx e s4 he).elim)
    obtain ⟨w4, H4, I4, r4, b, eb, q4⟩ := h4
    subst eb
    obtain rfl : v = Value.bool b := r4
    obtain ⟨a1, a2⟩ := keep0 I4
    have st4 : tn1 (j + 1) s4.heap := T1.keep _ _ _ st2 fun d hd o e => (I4.pin (d, o) (List.mem_append_right _ (List.mem_append_right _ (mem_pinsAt hd e)))).1
    have n4 : ∀ d ∈ fp1, H4 d = none := fun d hd => by
      obtain ⟨o, e, _⟩ := T1.obj _ _ st2 d hd
      exact (I4.pin (d, o) (List.mem_append_right _ (List.mem_append_right _ (mem_pinsAt hd e)))).2.1
    have I4' := I4.unpinned.unpinned
    refine seg_at (seg_yield hF1 rfl hF2 ⟨n - m' - 1, b, σ3, H4, by omega, rfl, I4', hz4, ?_, fun hb s'' e1 e2 e3 e4 => ?_⟩)
    · by_cases hb : b = go
      · rw [if_pos hb]; exact trivial
      · rw [if_neg hb] at q4 ⊢
        exact q4
    · rw [if_pos hb] at q4
      exact seg_again rfl (ih m' rfl s'' s'' σ3 H4 F0 (j + 1) it1 fp1 tn1 J1 hF1 hF2 hA hk T1 stat1 dis (inv_same I4' e1 e2 e3) (by rw [e1]; exact a1) a2 (by rw [e1]; exact st4) n4 e4 q4 (by omega))
theorem so_of (T : Turn Z.prog Z.w Z.K t0 J fp it tn) (hg0 : PG Z t0 g0) (hw1 : PI Z t1 i1 w1) (hx : ∀ e s, ¬ Z.xe e s) (hc : Z.calm = true) (tt : Turns2 J g0 w1 g1 te go n0 Pn)
    (hs1 : ∀ x, foldedSetIterable i1 Z.env x = pure x)
    (hA : A.over (lo0 elt t0 i0 t1 i1 scope pos it Z.env) [] = Z.A)
    (hA1 : ∀ (it1 : Addr) (k g l p), A.over (lo1 elt t0 i0 t1 i1 scope pos it1 Z.env) [.ret k none g l (lo0 elt t0 i0 t1 i1 scope pos it Z.env) p []] = Z.A)
    (stat : ∀ {H : Hp}, (∀ d ∈ fp, H d = none) → ∀ d ∈ fp, FpOk Z pin H d) {m i : Nat} (hi : i ≤ n0)
    (si : i < n0 → SI Z elt t0 i0 t1 i1 scope pos it fp tn A pin go n g Pn m i) : SO Z elt t0 i0 t1 i1 scope pos it fp tn A pin go n g Pn m i := by
  intro s₀ s σ H I hst hn hgz hw hm
  show Seg _ A _ _ _ s₀ _ ((compTurn (ge2 elt t0 i0 t1 i1 scope pos) 0 (.ref it) .none Z.env).onRaise (leaving Z.env)) [] s
  rw [turn_out, Sem.onRaise_eq_wrap]
  refine seg_bind_wrap (wpAny_standAt ?_)
  refine seg_bind_wrap ?_
  rw [hA]
  rcases tt.out m i σ H hi hw with ⟨stp, fin⟩ | ⟨hlt, gO, step⟩
  · refine GenW.wpAny_gsz (n := g + 1) hgz (wpAny_mono (T.done Z rfl rfl rfl hc i pin s σ H (fun _ _ => False) I (stat hn) hst stp) (fun r s1 h1 hz => ?_) fun _ _ e => e.elim)
    obtain ⟨hr, I1⟩ := h1
    subst hr
    exact seg_end (.ok .next) ⟨rfl, σ, H, I1, fin, hz⟩
  · refine GenW.wpAny_gsz (n := g + 1) hgz (wpAny_mono (T.item Z rfl rfl rfl hc i pin s σ H (fun _ _ => False) I (stat hn) hst gO) (fun r s1 h1 hz1 => ?_) fun _ _ e => e.elim)
    obtain ⟨u, hr, h1⟩ := h1
    subst hr
    refine seg_bind_wrap ?_
    rw [hA]
    refine GenW.wpAny_gsz (n := g + 1) hz1 (wpAny_mono h1 (fun _ s2 h2 hz2 => ?_) fun _ _ e => e.elim)
    obtain ⟨x, H2, I2, r2, y2, st2, n2⟩ := h2
    have P2 := I2.pinned (stat n2) (T.obj _ _ st2)
    refine seg_bind_wrap ?_
    rw [hA]
    refine GenW.wpAny_gsz (n := g + 1) hz2 (wpAny_mono (hg0.run _ s2 σ H2 x u _ P2 r2 (step x H2 y2)) (fun _ s3 h3 hz3 => ?_) fun e s3 he _ => (hx e s3 he).elim)
    obtain ⟨σ3, H3, I3, q3⟩ := h3
    refine seg_bind_wrap ?_
    rw [hA]
    refine GenW.wpAny_gsz (n := g + 1) hz3 (wpAny_mono (hw1.run _ s3 σ3 H3 _ I3 q3) (fun v s4 h4 hz4 => ?_) fun e s4 he _ => (hx e s4 he).elim)
    refine seg_bind_wrap (wpAny_standAt ?_)
    rw [hs1]
    refine seg_bind_wrap (wpAny_pure ?_)
    refine seg_bind_wrap ?_
    rw [hA]
    refine GenW.wpAny_gsz (n := g + 1) hz4 (wpAny_holding (wpAny_mono h4 (fun itv s5 h5 hz5 => ?_) fun e s5 he _ => (hx e s5 he).elim))
    obtain ⟨it1, fp1, tn1, J1, H5, rfl, I5, T1, st1, f1, q5⟩ := h5
    have a1 : tn (i + 1) s5.heap := T.keep _ _ _ st2 fun d hd o e => (I5.pin (d, o) (List.mem_append_right _ (List.mem_append_right _ (mem_pinsAt hd e)))).1
    have a2 : ∀ d ∈ fp, H5 d = none := fun d hd => by
      obtain ⟨o, e, _⟩ := T.obj _ _ st2 d hd
      exact (I5.pin (d, o) (List.mem_append_right _ (List.mem_append_right _ (mem_pinsAt hd e)))).2.1
    have dis : ∀ d ∈ fp, ∀ b ∈ fp1, d ≠ b := fun d hd b hb => by
      obtain ⟨o, e, _⟩ := T.obj _ _ st2 d hd
      exact (f1 b hb).2.2.2.2.2 (d, o) (List.mem_append_right _ (List.mem_append_right _ (mem_pinsAt hd e)))
    have stat1 : ∀ {H : Hp}, (∀ d ∈ fp1, H d = none) → ∀ d ∈ fp1, FpOk Z pin H d := fun {H} hn d hd => by
      obtain ⟨_, h2, h3, h4, h5, h6⟩ := f1 d hd
      refine ⟨hn d hd, h2, h3, h4, h5, fun p hp => ?_⟩
      rcases List.mem_append.mp hp with z | z
      · exact h6 p (List.mem_append_left _ z)
      · exact h6 p (List.mem_append_right _ (List.mem_append_left _ z))
    unfold runOwn run
    rw [Sem.onRaise_eq_wrap, Sem.bind_eq_wrap', Sem.wrap_wrap, Sem.wrap_wrap]
    refine seg_call fun p => ?_
    have lp := fun (F0 : Frame) (b1 : splitAtGen [F0] = none) (b2 : [F0].any Frame.guarded = false) b3 b4 => si hlt s₀ s5 σ3 H5 F0 0 it1 fp1 tn1 J1 b1 b2 b3 b4 T1 stat1 dis I5.unpinned a1 a2 st1 (fun d hd => (f1 d hd).1) hz5 q5 hm
    show Seg _ A _ _ _ s₀ _ ((compStart (ge2 elt t0 i0 t1 i1 scope pos) 1 (.ref it1) .none Z.env).onRaise _) [_] s5
    unfold compStart
    rw [Sem.onRaise_eq_wrap]
    show Seg _ A _ _ _ s₀ _ ((ask >>= _).wrap _ _ _ _) [_] s5
    refine seg_bind_wrap (wpAny_askSetting ?_)
    split
    · refine seg_again rfl (lp _ rfl rfl (hA1 _ _ _ _ _) ?_)
      exact fun m' s₀' s' h => seg_leaf (.ok .next) (seg_again rfl h)
    · refine seg_bind_wrap (wpAny_rule ?_)
      show Seg _ A _ _ _ s₀ _ ((standAt i1.pos >>= _).wrap _ _ _ _) [_] s5
      refine seg_bind_wrap (wpAny_standAt (seg_bind_wrap (T1.self _ 0 s5 _ _ st1 (seg_again rfl (lp _ rfl rfl (hA1 _ _ _ _ _) ?_)))))
      exact fun m' s₀' s' h => seg_leaf (.ok .next) (seg_again rfl h)
theorem both (T : Turn Z.prog Z.w Z.K t0 J fp it tn) (hg0 : PG Z t0 g0) (hw1 : PI Z t1 i1 w1) (hg1 : PG Z t1 g1) (hel : PE Z elt te) (hx : ∀ e s, ¬ Z.xe e s) (hc : Z.calm = true) (hco : Z.env.scope.isCoroutine = false) (tt : Turns2 J g0 w1 g1 te go n0 Pn)
    (hs1 : ∀ x, foldedSetIterable i1 Z.env x = pure x)
    (hA : A.over (lo0 elt t0 i0 t1 i1 scope pos it Z.env) [] = Z.A)
    (hA1 : ∀ (it1 : Addr) (k g l p), A.over (lo1 elt t0 i0 t1 i1 scope pos it1 Z.env) [.ret k none g l (lo0 elt t0 i0 t1 i1 scope pos it Z.env) p []] = Z.A)
    (stat : ∀ {H : Hp}, (∀ d ∈ fp, H d = none) → ∀ d ∈ fp, FpOk Z pin H d) :
    ∀ m, (∀ i, i ≤ n0 → SO Z elt t0 i0 t1 i1 scope pos it fp tn A pin go n g Pn m i) ∧ ∀ i, i < n0 → SI Z elt t0 i0 t1 i1 scope pos it fp tn A pin go n g Pn m i := by
  have step : ∀ m, (∀ i, i < n0 → ∀ m', m = m' + 1 → SI Z elt t0 i0 t1 i1 scope pos it fp tn A pin go n g Pn m' i) → (∀ i, i ≤ n0 → SO Z elt t0 i0 t1 i1 scope pos it fp tn A pin go n g Pn m i) ∧ ∀ i, i < n0 → SI Z elt t0 i0 t1 i1 scope pos it fp tn A pin go n g Pn m i := by
    intro m ih
    have so : ∀ d i, i + d = n0 → SO Z elt t0 i0 t1 i1 scope pos it fp tn A pin go n g Pn m i := by
      intro d
      induction d with
      | zero => exact fun i e => so_of T hg0 hw1 hx hc tt hs1 hA hA1 stat (by omega) fun h => absurd h (by omega)
      | succ d id => exact fun i e => so_of T hg0 hw1 hx hc tt hs1 hA hA1 stat (by omega) fun h => si_of T hg1 hel hx hc hco tt stat h (ih i h) (id (i + 1) (by omega))
    exact ⟨fun i h => so (n0 - i) i (by omega), fun i h => si_of T hg1 hel hx hc hco tt stat h (ih i h) (so (n0 - (i + 1)) (i + 1) (by omega))⟩
  intro m
  induction m with
  | zero => exact step 0 fun i _ m' e => by cases e
  | succ m ih =>
    refine step (m + 1) fun i h m' e => ?_
    have : m = m' := by omega
    subst this
    exact ih.2 i h
theorem begin2 (T : Turn Z.prog Z.w Z.K t0 J fp it tn) (hA3 : A.over (.compStart (ge2 elt t0 i0 t1 i1 scope pos) 0 (.ref it) .none Z.env) [] = Z.A) {m : Nat} (so : SO Z elt t0 i0 t1 i1 scope pos it fp tn A pin go n g Pn m 0)
    (s₀ s : Shared) (σ : L2.St) (H : Hp) (I : Inv Z pin σ H s) (hst : tn 0 s.heap) (hn : ∀ d ∈ fp, H d = none) (hgz : g < s.gens.size) (hw : Pn.W0 m 0 σ H) (hm : m ≤ n) :
    Seg (model Z.prog Z.w) A (fun m s₁ r s₂ => r = .ok .next ∧ gP Z pin Pn.flat g m s₁ s₂) (gY Z pin fp tn Pn.flat go n g) m s₀ (.compStart (ge2 elt t0 i0 t1 i1 scope pos) 0 (.ref it) .none Z.env)
      ((model Z.prog Z.w).den (.compStart (ge2 elt t0 i0 t1 i1 scope pos) 0 (.ref it) .none Z.env)) [] s := by
  have lp := so s₀ s σ H I hst hn hgz hw hm
  show Seg _ A _ _ _ s₀ _ ((compStart (ge2 elt t0 i0 t1 i1 scope pos) 0 (.ref it) .none Z.env).onRaise (leaving Z.env)) [] s
  unfold compStart
  rw [Sem.onRaise_eq_wrap]
  show Seg _ A _ _ _ s₀ _ ((ask >>= _).wrap _ _ _ _) [] s
  refine seg_bind_wrap (wpAny_askSetting ?_)
  split
  · exact seg_again rfl lp
  · refine seg_bind_wrap (wpAny_rule ?_)
    show Seg _ A _ _ _ s₀ _ ((standAt i0.pos >>= _).wrap _ _ _ _) [] s
    exact seg_bind_wrap (wpAny_standAt (seg_bind_wrap (T.self _ 0 s _ _ hst (seg_again rfl lp))))
end
/-! ### the generator made, its scope of several names -/
structure GScL (N : List Str) (sc scope : Scope) (own : List (Str × Nat)) : Prop where
  kind : scope.kind = .function
  co : scope.isCoroutine = false
  cell : ∀ y ∈ scope.names, y.2 ≠ .cell
  dot : scope.names.lookup (".0" : Str) = some NameKind.local
  loc : ∀ y, scope.names.lookup y = some .local → y = (".0" : Str) ∨ ∃ i, (y, i) ∈ own
  free : ∀ y ∈ scope.names, y.2 = .free → sc.names.lookup y.1 = some .cell ∨ sc.names.lookup y.1 = some .free
  nd : N.Nodup
  spot : ∀ q ∈ own, N[q.2]? = some q.1
  nodot : (".0" : Str) ∉ N
section
variable {X : Cx} {pins : List (Addr × Obj)} {σ : L2.St} {H : Hp} {s : Shared}
/-- the generator's frame has been laid: the invariant of its context -/
theorem gx_startL {N : List Str} {scope : Scope} {own : List (Str × Nat)} {A : Around} {code : Value} {fp : List Addr} {itv : Value} {h1 : Heap} {tk : Nat} {gens' : Array GenState} {pin : List (Addr × Obj)}
    (I : Inv X pins σ H s) (G : GScL X.N X.env.scope scope own)
    (hA : A.frames = some (genEnv scope (cloFrom X.env.cells scope.names []) s.heap.objs.size code builtinsNs X.env :: X.stack)) (hd : A.handled = none)
    (hfp : ∀ b ∈ fp, FpOk X pins H b) (hlt : ∀ b ∈ fp, b < s.heap.objs.size)
    (hns : h1.Ns s.heap.objs.size fun y => if y = (".0" : Str) then some itv else none) (kp : ∀ b o, s.heap.get? b = some o → h1.get? b = some o) (hb : AllBare gens')
    (hpin : ∀ p ∈ pin, h1.get? p.1 = some p.2 ∧ s.heap.objs.size < p.1 ∧ ∀ v, p.2.data ≠ .cell v) :
    Inv (gcx X A s H (genEnv scope (cloFrom X.env.cells scope.names []) s.heap.objs.size code builtinsNs X.env) fp) pin (wipe σ (own.map (·.2))) H { s with heap := h1, toks := tk, gens := gens' } := by
  have has : ∀ y ∈ scope.names, y.2 = .free → ∃ c, X.env.cells.lookup y.1 = some c := fun y hy e => by
    rcases G.free y hy e with k | k
    · exact I.ok.has _ (.inl k)
    · exact I.ok.has _ (.inr k)
  have cm : ∀ {y c}, (cloFrom X.env.cells scope.names []).lookup y = some c → X.env.cells.lookup y = some c := fun {y c} e => clo_sub has e
  have look : ∀ {y}, scope.names.lookup y = some .free → ∃ c, (cloFrom X.env.cells scope.names []).lookup y = some c := fun {y} hl => by
    have hy : (y, NameKind.free) ∈ scope.names := PySem.mem_of_lookup hl
    exact mem_lookup (cloFrom_has (cells := X.env.cells) (acc := []) hy)
  have cellK : ∀ {c : Addr} {v : Option Value}, s.heap.IsCell c v → h1.IsCell c v := fun {c v} ⟨o, ho, hd⟩ => ⟨o, kp _ _ ho, hd⟩
  refine ⟨⟨I.ok.mod, G.kind, I.ok.glob, rfl, Nat.le_refl _, fun y z c e1 e2 => I.ok.inj y z c (cm e1) (cm e2), fun y hy => ?_, fun y c z _ => ?_, fun _ => hd, hA, .inr ⟨rfl, rfl⟩, fun b hb => ⟨Nat.ne_of_lt (hlt b hb), fun y c e => ?_⟩, I.bs,
      Nat.le_trans I.ok.bsz I.sz, fun b o e hb => ?_, fun b hb hm => ?_, I.stack, I.stkFree⟩,
    rfl, hb, Un.kept kp, ⟨_, hns, fun i y v e1 e2 e3 => ?_⟩, fun y c e => ?_, I.hok.fresh (Nat.le_refl _), fun y c e => I.freeC y c (cm e), fun p hp => ?_, I.hok.kept kp, ?_⟩
  · have hy : scope.names.lookup y = some .cell ∨ scope.names.lookup y = some .free := hy
    rcases hy with hy | hy
    · exact absurd rfl (G.cell _ (PySem.mem_of_lookup hy))
    · exact look hy
  · cases z
  · exact (hfp b hb).2.2.2.2.1 y c (cm e)
  · obtain ⟨_, _, _, h4, _⟩ := hfp b hb
    rcases h4 with h4 | h4
    · exact I.ok.noex b o e h4
    · exact absurd (Nat.lt_of_lt_of_le (Nat.lt_of_lt_of_le (Heap.lt_size e) I.ok.bsz) h4) (Nat.lt_irrefl _)
  · obtain ⟨_, h2, h3, _⟩ := hfp b hb
    rcases List.mem_cons.mp (I.stkSub b hm) with z | z
    · exact h2 z
    · exact h3 z
  · have e3 : Vis scope y := e3
    have e2' := wipe_some e2
    rcases e3 with k | k | k
    · rcases G.loc y k with z | z
      · exact absurd (List.mem_of_getElem? (show X.N[i]? = some (".0" : Str) by rw [← z]; exact e1)) G.nodot
      · obtain ⟨i', hi'⟩ := z
        have := nodup_ix G.nd e1 (G.spot _ hi')
        exact absurd (List.mem_map.mpr ⟨_, hi', this.symm⟩) e2'.2
    · exact absurd rfl (G.cell _ (PySem.mem_of_lookup k))
    · obtain ⟨m, hn, hl⟩ := I.loc
      have hfr := G.free _ (PySem.mem_of_lookup k) rfl
      have hvis : Vis X.env.scope y := hfr.elim (fun k => .inr (.inl k)) (fun k => .inr (.inr k))
      obtain ⟨w', r, q⟩ := hl i y v e1 e2'.1 hvis
      obtain ⟨c2, h2⟩ := look k
      refine ⟨w', r, .inr ⟨.inr k, c2, h2, ?_⟩⟩
      have c1 := cm h2
      rcases q with ⟨k', _⟩ | ⟨_, c3, e', z⟩
      · have k' : X.env.scope.names.lookup y = some .local := k'
        rcases hfr with k2 | k2 <;> rw [show X.env.scope.names.lookup y = _ from k2] at k' <;> cases k'
      · rw [c1] at e'
        cases e'
        exact cellK z
  · obtain ⟨w', z⟩ := I.cell y c (cm e)
    exact ⟨w', cellK z⟩
  · have hp' : p ∈ pin := by
      rcases List.mem_append.mp hp with z | z
      · exact absurd (show p ∈ ([] : List (Addr × Obj)) from z) (by simp)
      · exact z
    obtain ⟨q1, q2, q3⟩ := hpin p hp'
    refine ⟨q1, I.hok.fresh (Nat.le_of_lt q2), Nat.ne_of_gt q2, fun hm => ?_, q3⟩
    have hm' : p.1 ∈ frs X.stack := hm
    rcases List.mem_cons.mp (I.stkSub _ hm') with z | z
    · have := I.lt
      rw [← z] at this
      exact absurd (Nat.lt_trans this q2) (Nat.lt_irrefl _)
    · exact I.nofs (Nat.le_of_lt q2) z
  · rw [wipe_length]; exact I.len
end


end Gx

namespace Gx
open PySem PySem.Spec PyProof.Rows L2
theorem eval_ge (elt target iter : Expr) (rest : List Comprehension) (scope : Scope) (pos : Pos) (env : Env) (hco : scope.isCoroutine = false) :
    eval (.GeneratorExp elt (⟨target, iter, [], 0⟩ :: rest) scope pos) env = (do
      let v ← eval iter env
      standAt iter.pos
      let v ← genFold iter env v
      let iv ← holding [v] (pyIter v)
      enterFrame
      let cl ← closureFor scope env
      let cd ← genexprCode env pos (env.qual ++ "<genexpr>") scope
      let bi ← builtinsFor env.globals env.builtins
      let ce ← newFunctionEnv scope env.globals cl [(".0", iv)] (env.qual ++ "<genexpr>.") none cd none bi
      newGenerator (.compStart (.GeneratorExp elt (⟨target, iter, [], 0⟩ :: rest) scope pos) 0 iv .none ce) "<genexpr>" (env.qual ++ "<genexpr>")) := by
  rw [arm_eval_GeneratorExp]
  simp only [hco, Bool.false_eq_true, if_false]
  cases iter <;> rfl
section
variable {M : Model} {A : Around} {E : Value → Shared → Prop} {s : Shared}
theorem made_ge {env : Env} {elt target iter : Expr} {rest : List Comprehension} {scope : Scope} {cl : List (Str × Addr)} {pos : Pos} {Q : Value → Shared → Prop}
    (hco : scope.isCoroutine = false) (cls : closureFor scope env = pure cl) (hcell : ∀ y ∈ scope.names, y.2 ≠ .cell) (dot : scope.names.lookup (".0" : Str) = some NameKind.local) (kd : scope.kind = .function) (room : A.depth < recursionLimit)
    (h : wpAny M A (eval iter env) (fun xv s1 => wpAny M A (pyIter xv) (fun iv s2 => s2.heap.NoLimit ∧
      wpAny M A (genexprCode env pos (env.qual ++ "<genexpr>") scope) (fun cd s3 => wpAny M A (builtinsFor env.globals env.builtins) (fun bi s4 =>
        ∀ h', h'.Ns s4.heap.objs.size (fun y => if y = (".0" : Str) then some iv else none) → Heap.SameBut s4.heap.objs.size (s4.heap.push { cls := .type "frame", data := .dict #[] }) h' →
          Q (.ref h'.objs.size) { s4 with
            gens := s4.gens.push (.fresh (.compStart (.GeneratorExp elt (⟨target, iter, [], 0⟩ :: rest) scope pos) 0 iv .none (genEnv scope cl s4.heap.objs.size cd bi env))),
            toks := s4.toks + 1 + 1 + 1, heap := h'.push { cls := .type "generator", data := .fields #[.int s4.gens.size 0, .str "<genexpr>" (s4.toks + 1), .str (env.qual ++ "<genexpr>") (s4.toks + 1 + 1)] } }) E s3) E s2) E s1) E s)
    (hs : ∀ v, genFold iter env v = pure v) : wpAny M A (eval (.GeneratorExp elt (⟨target, iter, [], 0⟩ :: rest) scope pos) env) Q E s := by
  rw [eval_ge _ _ _ _ _ _ _ hco, cls]
  refine wpAny_bind (wpAny_mono h (fun v s1 h1 => wpAny_bind (wpAny_standAt (wpAny_bind (wpAny_of_eq (hs v) (wpAny_bind (wpAny_holding (wpAny_mono h1 (fun iv s2 h2 => ?_) fun _ _ e => e))))))) fun _ _ e => e)
  refine wpAny_bind (wpAny_enterFrame h2.1 room (wpAny_bind (wpAny_pure (wpAny_bind (wpAny_mono h2.2 (fun cd s3 h3 => wpAny_bind (wpAny_mono h3 (fun bi s4 h4 => ?_) fun _ _ e => e)) fun _ _ e => e)))))
  refine wpAny_bind (wpAny_newFunctionEnv hcell (fun y hy => ?_) (fun h' hn hb => ?_) kd)
  · rw [List.mem_singleton.mp hy]; exact dot
  have e : (fun y : Str => ([((".0" : Str), iv)] : List (Str × Value)).reverse.lookup y) = fun y : Str => if y = (".0" : Str) then some iv else none := by
    funext y
    by_cases z : y = ".0"
    · subst z; simp
    · have b : (y == (".0" : Str)) = false := by simpa using z
      simp [List.lookup, b, z]
  rw [e] at hn
  simp only [newGenerator, newFields]
  exact wpAny_bind (wpAny_newGen (wpAny_bind (wpAny_mkText (wpAny_bind (wpAny_mkText (wpAny_newObj_type (h4 h' hn hb) (by size_fits)))))))
end
def tAllG2 (P : Addr) (own : List (Str × Nat)) (wi : TI) (g : TG) (w1 : TI) (g1 : TG) (te : TE) (go : Bool) : TE := fun σ H Q => wi σ H fun J H1 => GxR.TabG H1 P ∧ ∀ H2, GxR.Tabbed P H1 H2 → ∃ (n0 n : Nat) (Pn : Plan2), Turns2 J g w1 g1 te go n0 Pn ∧ Pn.W0 n 0 (wipe σ (own.map (·.2))) H2 ∧
  (∀ σ' H', Pn.Out (!go) σ' H' → Q (.bl (!go)) H') ∧ ∀ H', Pn.Fin H' → Q (.bl go) H'
section
variable {X : Cx} {elt t0 t1 iter i1 : Expr} {p pos gpos : Pos} {scope : Scope} {own : List (Str × Nat)} {k : Nat} {wi w1 : TI} {g g1 : TG} {te : TE} {P c : Addr}

theorem gen_made2 {pins : List (Addr × Obj)} {σ : L2.St} {H : Hp} {s : Shared} {go : Bool} {R : V → Hp → Prop} {Q' : Value → Shared → Prop}
    (hr : Room (k + 1) X.A) (TB : GxR.TabB X.base X.mg c P) (hcode : X.env.code = .ref c) (G : GScL X.N X.env.scope scope own) (hi : PI X t0 iter wi)
    (hgt : ∀ (s : Shared) (H : Hp) (C : Addr) (code : Value) (fp : List Addr), PG (gcx X (gA X (gE X scope C code)) s H (gE X scope C code) fp) t0 g)
    (hw1 : ∀ (s : Shared) (H : Hp) (C : Addr) (code : Value) (fp : List Addr), Room k (gA X (gE X scope C code)) → PI (gcx X (gA X (gE X scope C code)) s H (gE X scope C code) fp) t1 i1 w1)
    (hg1 : ∀ (s : Shared) (H : Hp) (C : Addr) (code : Value) (fp : List Addr), PG (gcx X (gA X (gE X scope C code)) s H (gE X scope C code) fp) t1 g1)
    (hel : ∀ (s : Shared) (H : Hp) (C : Addr) (code : Value) (fp : List Addr), Room k (gA X (gE X scope C code)) → PE (gcx X (gA X (gE X scope C code)) s H (gE X scope C code) fp) elt te)
    (hs : ∀ v, genFold iter X.env v = pure v) (hs1 : ∀ env v, foldedSetIterable i1 env v = pure v) (I : Inv X pins σ H s) (h : tAllG2 P own wi g w1 g1 te go σ H R)
    (hQ : ∀ (Z : Cx) (fp : List Addr) (tn : Nat → Heap → Prop) (a : Addr) (o : Obj) (n gg : Nat) (Pn : Plan) (nm qn : Value) (s5 : Shared) (gs : GenState) (σ5 : L2.St) (H5 : Hp), Z.prog = X.prog → Z.w = X.w →
      o.cls = .type "generator" → o.data = .fields #[.int gg 0, nm, qn] → o.slots = #[] → Inv Z [(a, o)] σ5 H5 s5 → s5.gens[gg]? = some gs →
      gs.Goes (model Z.prog Z.w) X.A.in1.in1 (fun m s₁ r s₂ => r = .ok .next ∧ gP Z [(a, o)] Pn gg m s₁ s₂) (gY Z [(a, o)] fp tn Pn go n gg) n (.send .none) (s5.setGen gg .running) →
      (∀ i σ' H' s', Inv Z [(a, o)] σ' H' s' → Pn.Out (!go) i σ' H' → ∃ H'', Inv X pins σ H'' s' ∧ R (.bl (!go)) H'') →
      (∀ σ' H' s', Inv Z [(a, o)] σ' H' s' → Pn.Fin H' → ∃ H'', Inv X pins σ H'' s' ∧ R (.bl go) H'') → Q' (.ref a) s5) :
    wpAny (model X.prog X.w) X.A (eval (.GeneratorExp elt [⟨t0, iter, [], 0⟩, ⟨t1, i1, [], 0⟩] scope gpos) X.env) Q' X.xe s := by
  have has : ∀ y ∈ scope.names, y.2 = .free → ∃ c, X.env.cells.lookup y.1 = some c := fun y hy e => by
    rcases G.free y hy e with k | k
    · exact I.ok.has _ (.inl k)
    · exact I.ok.has _ (.inr k)
  refine made_ge G.co (closure_ok has) G.cell G.dot G.kind (by have := hr.dp; omega) ?_ hs
  refine thn (hi.run pins s σ H _ I h) fun xv s1 h1 => thn h1 fun itv s2 h2 => ?_
  obtain ⟨it, fp, tn, J, H1, rfl, I1, T, st1, f1, ⟨ps, hP, ht⟩, plan⟩ := h2
  have hPs : s2.heap.get? P = some { cls := .none, data := .fields ps } := I1.hok P _ hP
  have cd : PySem.W.CodeHd s2.heap c P := TB.code.keeps fun b u e => I1.bk b u e
  have fpP : ∀ b ∈ fp, b ≠ P := fun b hb z => by
    have := (f1 b hb).1
    rw [z, hP] at this
    cases this
  have cont : ∀ (code : Value) (h3 : Heap) (tk : Nat) (ps' : Array Value), Heap.ExtBut P s2.heap h3 → h3.get? P = some { cls := .none, data := .fields ps' } → (∃ more, ps' = ps ++ more) → TriplesOk ps'.toList →
      wpAny (model X.prog X.w) X.A (builtinsFor X.env.globals X.env.builtins) (fun bi s₄ => ∀ h', h'.Ns s₄.heap.objs.size (fun y => if y = (".0" : Str) then some (.ref it) else none) → Heap.SameBut s₄.heap.objs.size (s₄.heap.push { cls := .type "frame", data := .dict #[] }) h' →
          Q' (.ref h'.objs.size) { s₄ with
            gens := s₄.gens.push (.fresh (.compStart (.GeneratorExp elt [⟨t0, iter, [], 0⟩, ⟨t1, i1, [], 0⟩] scope gpos) 0 (.ref it) .none (genEnv scope (cloFrom X.env.cells scope.names []) s₄.heap.objs.size code bi X.env))),
            toks := s₄.toks + 1 + 1 + 1,
            heap := h'.push { cls := .type "generator", data := .fields #[.int s₄.gens.size 0, .str "<genexpr>" (s₄.toks + 1), .str (X.env.qual ++ "<genexpr>") (s₄.toks + 1 + 1)] } }) X.xe { s2 with heap := h3, toks := tk } := by
    intro code h3 tk ps' hx hP3 hmore ht3
    obtain ⟨bm, ob, e1, e2, e3, e4, e5, e6, e7, e8⟩ := TB.bm
    refine wpAny_builtinsFor (m := X.mg) (by rw [I1.ok.glob]; exact (I1.mod.glob.keeps I1.bk).extBut hx TB.gP) e1 e2 (hx _ _ e4 (I1.bk _ _ e5)) e6 e7 e8 ?_
    intro h' hns hsb
    obtain ⟨more, rfl⟩ := hmore
    have I3 : Inv X pins σ (upd H1 P (.tbl (ps ++ more))) { s2 with heap := h3, toks := tk } :=
      GxR.inv_tab (more := more) (h' := h3) (g' := s2.gens) (d' := s2.drawn) (t' := tk) I1 hP (fun b u hb e => hx b u hb e) hP3 I1.bare
    have H2 : GxR.Tabbed P H1 (upd H1 P (.tbl (ps ++ more))) := ⟨⟨ps ++ more, upd_same, ht3⟩, fun b hb => upd_ne hb⟩
    obtain ⟨n0, n, Pn2, tt, w0, pOut, pFin⟩ := plan _ H2
    have f3 : ∀ b ∈ fp, FpOk X pins (upd H1 P (.tbl (ps ++ more))) b := fun b hb => ⟨by rw [upd_ne (fpP b hb)]; exact (f1 b hb).1, (f1 b hb).2⟩
    have st3 : tn 0 h3 := T.keep _ _ _ st1 fun b hb o e => hx b o (fpP b hb) e
    have lt3 : ∀ b ∈ fp, b < h3.objs.size := fun b hb => by
      obtain ⟨o, e, _⟩ := T.obj _ _ st3 b hb
      exact Heap.lt_size e
    have hsz : h'.objs.size = h3.objs.size + 1 := by rw [hsb.1, Heap.size_push]
    have kp' : ∀ b o, h3.get? b = some o → h'.get? b = some o := fun b o e => hsb.extBut b o (Nat.ne_of_lt (Heap.lt_size e)) (Heap.get?_push_of_some _ e)
    have key : ∀ (o : Obj) (nm qn : Value), o.cls = .type "generator" → o.data = .fields #[.int s2.gens.size 0, nm, qn] → o.slots = #[] → (h'.push o).get? h'.objs.size = some o →
        Q' (.ref h'.objs.size) { s2 with
            gens := s2.gens.push (.fresh (.compStart (.GeneratorExp elt [⟨t0, iter, [], 0⟩, ⟨t1, i1, [], 0⟩] scope gpos) 0 (.ref it) .none (gE X scope h3.objs.size code))),
            toks := tk + 1 + 1 + 1, heap := h'.push o } := by
      intro o nm qn hc hd hsl hget
      have kp5 : ∀ b u, h3.get? b = some u → (h'.push o).get? b = some u := fun b u e => Heap.get?_push_of_some _ (kp' b u e)
      have bare5 : AllBare (s2.gens.push (.fresh (.compStart (.GeneratorExp elt [⟨t0, iter, [], 0⟩, ⟨t1, i1, [], 0⟩] scope gpos) 0 (.ref it) .none (gE X scope h3.objs.size code)))) := I1.bare.push rfl
      have Rm : Room k (gA X (gE X scope h3.objs.size code)) := ⟨hr.hd, by have := hr.dp; show X.A.depth + 1 + 3 * k + 5 < _; omega, by have := hr.un; show X.A.units + 1 + 1 + 3 + 16 * k + 200 < _; omega⟩
      have J0 := gx_startL (A := gA X (gE X scope h3.objs.size code)) (code := code) (fp := fp) (itv := .ref it) (h1 := h'.push o) (tk := tk + 1 + 1 + 1) (pin := [(h'.objs.size, o)])
        (gens' := s2.gens.push (.fresh (.compStart (.GeneratorExp elt [⟨t0, iter, [], 0⟩, ⟨t1, i1, [], 0⟩] scope gpos) 0 (.ref it) .none (gE X scope h3.objs.size code)))) (own := own) (N := X.N) I3 G
        (Around.frames_deeper I.ok.frames) hr.hd f3 lt3 (hns.push _) kp5 bare5 (fun q hq => by
          rw [List.mem_singleton.mp hq]
          refine ⟨hget, ?_, fun v z => ?_⟩
          · show h3.objs.size < h'.objs.size
            omega
          · rw [hd] at z; cases z)
      have st5 : tn 0 (h'.push o) := T.keep _ _ _ st3 fun b hb u e => kp5 b u e
      have n5 : ∀ d ∈ fp, upd H1 P (.tbl (ps ++ more)) d = none := fun d hd => (f3 d hd).1
      have back : ∀ {σ' : L2.St} {H' : Hp} {s' : Shared}, Inv (gcx X (gA X (gE X scope h3.objs.size code)) { s2 with heap := h3, toks := tk } (upd H1 P (.tbl (ps ++ more))) (gE X scope h3.objs.size code) fp) [(h'.objs.size, o)] σ' H' s' → Inv X pins σ H' s' := fun {σ' H' s'} J =>
        I3.call' (ch := fp) J.os J.base J.hok J.bare fun b hb => ⟨(f3 b hb).2.2.2.1, (f3 b hb).2.1, (f3 b hb).2.2.2.2.1, (f3 b hb).2.2.2.2.2⟩
      have stat : ∀ {HH : Hp}, (∀ d ∈ fp, HH d = none) → ∀ d ∈ fp, FpOk (gcx X (gA X (gE X scope h3.objs.size code)) { s2 with heap := h3, toks := tk } (upd H1 P (.tbl (ps ++ more))) (gE X scope h3.objs.size code) fp) [(h'.objs.size, o)] HH d := fun {HH} hn d hd => by
        refine ⟨hn d hd, Nat.ne_of_lt (lt3 d hd), fun hm => ?_, .inl hd, fun y cc e => (f3 d hd).2.2.2.2.1 y cc (clo_sub has e), fun q hq => ?_⟩
        · have hm' : d ∈ frs X.stack := hm
          rcases List.mem_cons.mp (I3.stkSub d hm') with z | z
          · exact (f3 d hd).2.1 z
          · exact (f3 d hd).2.2.1 z
        · have hq' : q ∈ [(h'.objs.size, o)] := by
            rcases List.mem_append.mp hq with z | z
            · exact absurd (show q ∈ ([] : List (Addr × Obj)) from z) (by simp)
            · exact z
          rw [List.mem_singleton.mp hq']
          show h'.objs.size ≠ d
          exact Nat.ne_of_gt (by rw [hsz]; exact Nat.lt_succ_of_lt (lt3 d hd))
      have gsz : s2.gens.size < (s2.gens.push (GenState.fresh (.compStart (.GeneratorExp elt [⟨t0, iter, [], 0⟩, ⟨t1, i1, [], 0⟩] scope gpos) 0 (.ref it) .none (gE X scope h3.objs.size code)))).size := by
        rw [Array.size_push]; exact Nat.lt_succ_self _
      refine hQ (gcx X (gA X (gE X scope h3.objs.size code)) { s2 with heap := h3, toks := tk } (upd H1 P (.tbl (ps ++ more))) (gE X scope h3.objs.size code) fp) fp tn h'.objs.size o n s2.gens.size Pn2.flat nm qn _ _ _ _ rfl rfl hc hd hsl J0 (Array.getElem?_push_size ..) ⟨rfl, ?_⟩ (fun i σ' H' s' J q => ⟨H', back J, pOut σ' H' q⟩) (fun σ' H' s' J q => ⟨H', back J, pFin H' q⟩)
      have bt := both (Z := gcx X (gA X (gE X scope h3.objs.size code)) { s2 with heap := h3, toks := tk } (upd H1 P (.tbl (ps ++ more))) (gE X scope h3.objs.size code) fp) (i0 := iter) (scope := scope) (pos := gpos) (n := n) (g := s2.gens.size) (A := X.A.in1.in1)
        T (hgt _ _ _ _ _) (hw1 _ _ _ _ _ Rm) (hg1 _ _ _ _ _) (hel _ _ _ _ _ Rm) (fun _ _ z => z) rfl G.co tt (hs1 _) rfl (fun _ _ _ _ _ => rfl) stat n
      refine begin2 (Z := gcx X (gA X (gE X scope h3.objs.size code)) { s2 with heap := h3, toks := tk } (upd H1 P (.tbl (ps ++ more))) (gE X scope h3.objs.size code) fp) T rfl (bt.1 0 (Nat.zero_le _)) _ _ _ _ (inv_gens J0 (bare_set bare5 rfl)) st5 n5 ?_ w0 (Nat.le_refl _)
      rw [GenW.setGen_size]
      exact gsz
    exact key _ _ _ rfl rfl rfl (Heap.get?_push_size _ rfl)
  refine ⟨I1.nolimit, ?_⟩
  cases hf : codeAmong gpos ps.toList with
  | none =>
    refine wpAny_genexprCodeX hcode (cd.code hPs ht) (cd.tab hPs) hf fun c' h' tk hx hge hlt hco' _ htab' _ => ?_
    obtain ⟨o1, vs, f1, tf, fl, tg, inF, tx, tt, op, _, _, _, _, _, _, _, _, _, htr, _⟩ := hco'
    exact cont _ h' tk _ hx htab'.2 ⟨_, rfl⟩ htr
  | some cv =>
    refine wpAny_genexprCode_hit hcode (cd.code hPs ht) hf ?_
    exact cont cv s2.heap s2.toks ps (Heap.ExtBut.refl _ _) hPs ⟨#[], by simp⟩ ht

/-- all(elt for x in iter) -/
theorem pe_all2 (hr : Room (k + 1) X.A) (hga : Gl X "all") (hma : X.mg "all" = none) (TB : GxR.TabB X.base X.mg c P) (hcode : X.env.code = .ref c) (G : GScL X.N X.env.scope scope own) (hi : PI X t0 iter wi)
    (hgt : ∀ (s : Shared) (H : Hp) (C : Addr) (code : Value) (fp : List Addr), PG (gcx X (gA X (gE X scope C code)) s H (gE X scope C code) fp) t0 g)
    (hw1 : ∀ (s : Shared) (H : Hp) (C : Addr) (code : Value) (fp : List Addr), Room k (gA X (gE X scope C code)) → PI (gcx X (gA X (gE X scope C code)) s H (gE X scope C code) fp) t1 i1 w1)
    (hg1 : ∀ (s : Shared) (H : Hp) (C : Addr) (code : Value) (fp : List Addr), PG (gcx X (gA X (gE X scope C code)) s H (gE X scope C code) fp) t1 g1)
    (hel : ∀ (s : Shared) (H : Hp) (C : Addr) (code : Value) (fp : List Addr), Room k (gA X (gE X scope C code)) → PE (gcx X (gA X (gE X scope C code)) s H (gE X scope C code) fp) elt te)
    (hs : ∀ v, genFold iter X.env v = pure v) (hs1 : ∀ env v, foldedSetIterable i1 env v = pure v)
    (he : starEach [.GeneratorExp elt [⟨t0, iter, [], 0⟩, ⟨t1, i1, [], 0⟩] scope gpos] X.env = (false, eval (.GeneratorExp elt [⟨t0, iter, [], 0⟩, ⟨t1, i1, [], 0⟩] scope gpos) X.env) :: starEach [] X.env := by rfl) :
    PE X (.Call (.Name "all" p) [.GeneratorExp elt [⟨t0, iter, [], 0⟩, ⟨t1, i1, [], 0⟩] scope gpos] [] pos) (tAllG2 P own wi g w1 g1 te true) := by
  refine ⟨fun pins s σ H Q I h => ?_⟩
  refine wpAny_Call_Name_kw (ld_blt I hga hma boot_all ?_)
  refine PyProof.Rows.callWith_builtin1 ?_ he (by rfl)
  rw [he]
  refine Calls.spliced_cons (gen_made2 hr TB hcode G hi hgt hw1 hg1 hel hs hs1 I h fun Z fp tn a o n gg Pn nm qn s5 gs σ5 H5 e1 e2 hc hd hsl J hgs hgo oOut oFin => ?_)
  refine Calls.spliced_nil ?_
  refine call_function_tree F.kind_all F.plain_all F.entry_all (F.args_all1 _) ?_
  unfold Builtin.«all»
  refine wpAny_bind (m := oneArg "all" _) (wpAny_pure ?_)
  refine wpAny_bind (wpAny_pyIter_gen (isGen_pin hc hd hsl J) ?_)
  refine wpAny_pure ⟨plainId_quiet F.plain_all_loop _, ?_⟩
  rw [← e1, ← e2]
  refine all_walk hc hd hsl hr.hd (by have := hr.dp; show X.A.depth < _; omega) (fun i σ' H' s' J' q => ?_) (fun σ' H' s' J' q => ?_) n s5 gs σ5 H5 J hgs hgo
  · obtain ⟨H'', I', q'⟩ := oOut i σ' H' s' J' q
    exact ⟨.bl false, H'', I', rfl, q'⟩
  · obtain ⟨H'', I', q'⟩ := oFin σ' H' s' J' q
    exact ⟨.bl true, H'', I', rfl, q'⟩
/-- any(elt for x in iter) -/
theorem pe_any2 (hr : Room (k + 1) X.A) (hga : Gl X "any") (hma : X.mg "any" = none) (TB : GxR.TabB X.base X.mg c P) (hcode : X.env.code = .ref c) (G : GScL X.N X.env.scope scope own) (hi : PI X t0 iter wi)
    (hgt : ∀ (s : Shared) (H : Hp) (C : Addr) (code : Value) (fp : List Addr), PG (gcx X (gA X (gE X scope C code)) s H (gE X scope C code) fp) t0 g)
    (hw1 : ∀ (s : Shared) (H : Hp) (C : Addr) (code : Value) (fp : List Addr), Room k (gA X (gE X scope C code)) → PI (gcx X (gA X (gE X scope C code)) s H (gE X scope C code) fp) t1 i1 w1)
    (hg1 : ∀ (s : Shared) (H : Hp) (C : Addr) (code : Value) (fp : List Addr), PG (gcx X (gA X (gE X scope C code)) s H (gE X scope C code) fp) t1 g1)
    (hel : ∀ (s : Shared) (H : Hp) (C : Addr) (code : Value) (fp : List Addr), Room k (gA X (gE X scope C code)) → PE (gcx X (gA X (gE X scope C code)) s H (gE X scope C code) fp) elt te)
    (hs : ∀ v, genFold iter X.env v = pure v) (hs1 : ∀ env v, foldedSetIterable i1 env v = pure v)
    (he : starEach [.GeneratorExp elt [⟨t0, iter, [], 0⟩, ⟨t1, i1, [], 0⟩] scope gpos] X.env = (false, eval (.GeneratorExp elt [⟨t0, iter, [], 0⟩, ⟨t1, i1, [], 0⟩] scope gpos) X.env) :: starEach [] X.env := by rfl) :
    PE X (.Call (.Name "any" p) [.GeneratorExp elt [⟨t0, iter, [], 0⟩, ⟨t1, i1, [], 0⟩] scope gpos] [] pos) (tAllG2 P own wi g w1 g1 te false) := by
  refine ⟨fun pins s σ H Q I h => ?_⟩
  refine wpAny_Call_Name_kw (ld_blt I hga hma boot_any ?_)
  refine PyProof.Rows.callWith_builtin1 ?_ he (by rfl)
  rw [he]
  refine Calls.spliced_cons (gen_made2 hr TB hcode G hi hgt hw1 hg1 hel hs hs1 I h fun Z fp tn a o n gg Pn nm qn s5 gs σ5 H5 e1 e2 hc hd hsl J hgs hgo oOut oFin => ?_)
  refine Calls.spliced_nil ?_
  refine call_function_tree F.kind_any F.plain_any F.entry_any (F.args_any1 _) ?_
  unfold Builtin.«any»
  refine wpAny_bind (m := oneArg "any" _) (wpAny_pure ?_)
  refine wpAny_bind (wpAny_pyIter_gen (isGen_pin hc hd hsl J) ?_)
  refine wpAny_pure ⟨plainId_quiet F.plain_any_loop _, ?_⟩
  rw [← e1, ← e2]
  refine any_walk hc hd hsl hr.hd (by have := hr.dp; show X.A.depth < _; omega) (fun i σ' H' s' J' q => ?_) (fun σ' H' s' J' q => ?_) n s5 gs σ5 H5 J hgs hgo
  · obtain ⟨H'', I', q'⟩ := oOut i σ' H' s' J' q
    exact ⟨.bl true, H'', I', rfl, q'⟩
  · obtain ⟨H'', I', q'⟩ := oFin σ' H' s' J' q
    exact ⟨.bl false, H'', I', rfl, q'⟩
end
end Gx

namespace Tb
open PySem PySem.Spec PyProof.Rows L2
/-! ### sorted(a list of lists of whole numbers) -/
def encL (ns : List Int) : PyData := .list (ns.map PyData.int)
noncomputable def srt (l : List (List Int)) : List (List Int) := l.mergeSort (PySem.W.dataLe false encL)
def rSortLL (K : PySem.W.Frag) : List V → Hp → VK → Prop := fun vs H Q => ∃ (a : Addr) (bs : List (Addr × List Int)), vs = [.ref a] ∧ SqL K H a (bs.map fun q => V.ref q.1) ∧ (∀ q ∈ bs, H q.1 = some (.lst (q.2.map V.int))) ∧
  ∀ p (bs' : List (Addr × List Int)), bs'.map Prod.snd = srt (bs.map Prod.snd) → bs'.Perm bs → H p = none → Q (.ref p) (upd H p (.lst (bs'.map fun q => V.ref q.1)))
theorem alike_l (a b : List Int) : PySem.W.alike (encL a) (encL b) = true := by
  show PySem.W.alike (.list _) (.list _) = true
  simpa [PySem.W.alike] using PySem.W.alike_ints a b
theorem back_refs : ∀ (bs : List (Addr × List Int)) (us : List Value), Vals (bs.map fun q => V.ref q.1) us → us = bs.map fun q => Value.ref q.1
  | [], _, .nil => rfl
  | b :: r, _, .cons h t => by
    have h' : _ = Value.ref b.1 := h
    rw [h', back_refs r _ t]; rfl
theorem to_refs : ∀ bs : List (Addr × List Int), Vals (bs.map fun q => V.ref q.1) (bs.map fun q => Value.ref q.1)
  | [] => .nil
  | b :: r => .cons rfl (to_refs r)
theorem each_refs : ∀ bs : List (Addr × List Int), PySem.W.EachIs (fun v (q : Addr × List Int) => v = Value.ref q.1) (bs.map fun q => Value.ref q.1) bs
  | [] => .nil
  | b :: r => .cons rfl (each_refs r)
theorem of_each : ∀ {vs : List Value} {bs : List (Addr × List Int)}, PySem.W.EachIs (fun v (q : Addr × List Int) => v = Value.ref q.1) vs bs → vs = bs.map fun q => Value.ref q.1
  | _, _, .nil => rfl
  | _, _, .cons h t => by rw [h, of_each t]; rfl
theorem each_imp {α β : Type} {R S : α → β → Prop} : ∀ {as : List α} {bs : List β}, PySem.W.EachIs R as bs → (∀ a b, b ∈ bs → R a b → S a b) → PySem.W.EachIs S as bs
  | _, _, .nil, _ => .nil
  | _, _, .cons h t, f => .cons (f _ _ List.mem_cons_self h) (each_imp t fun a b hb => f a b (List.mem_cons_of_mem _ hb))
theorem reads_ints {h : Heap} : ∀ (ns : List Int) (us : List Value), Vals (ns.map V.int) us → ReadsAll h us (ns.map PyData.int) []
  | [], _, .nil => .nil
  | n :: r, _, .cons hh t => by
    obtain ⟨tk, rfl⟩ := hh
    exact .cons (Reads.int n tk) (reads_ints r _ t)
section
variable {X : Cx}
theorem cr_sortLL (hu : X.A.units + 64 < cLine) : CallR X (.builtin "sorted") (rSortLL X.K) := by
  intro pins s σ H vs us Q I r h
  obtain ⟨a, bs, rfl, hs, hb, q⟩ := h
  obtain ⟨its, rv, hl, hz⟩ := I.list hs
  obtain ⟨u, rfl, ru⟩ := r.one
  obtain rfl : u = Value.ref a := ru
  obtain rfl := back_refs bs its rv
  have rd : ∀ b ∈ bs, ∃ as, Reads s.heap (.ref b.1) (encL b.2) as := fun b hm => by
    obtain ⟨z, i2, n, r2, ho⟩ := I.hok _ _ (hb b hm)
    exact ⟨_, Reads.list ho rfl rfl (reads_ints _ _ r2)⟩
  have dep : ∀ q : Addr × List Int, (encL q.2).depth = 1 := fun q => by
    show PyData.depthAll _ + 1 = 1
    rw [PySem.W.depth_ints]
  refine PySem.W.sorted_data (enc := fun q : Addr × List Int => encL q.2) hl.isList (each_refs bs) (each_imp (each_refs bs) fun v b hm e => by rw [e]; exact rd b hm) (PySem.W.AllAlike.of fun b b' => alike_l _ _)
    (PySem.W.Sortable.others fun b => ⟨(fun z => by cases z), fun xs z => by cases z⟩) (by rw [← List.length_map (f := fun q : Addr × List Int => V.ref q.1)]; exact hz) (fun b _ => by rw [dep]; omega) fun out ho eo => ?_
  have eout := of_each eo
  generalize hbs : bs.mergeSort (PySem.W.dataLe false fun q : Addr × List Int => encL q.2) = bs' at eout eo
  have pm : bs'.Perm bs := by rw [← hbs]; exact List.mergeSort_perm _ _
  have e2 : bs'.map Prod.snd = srt (bs.map Prod.snd) := by
    rw [← hbs]
    unfold srt
    exact List.map_mergeSort fun a _ b _ => rfl
  subst eout
  obtain ⟨c, hc⟩ := sortedAll_at s.heap (bs.map fun q => Value.ref q.1) (bs'.map fun q => Value.ref q.1).toArray
  refine ⟨.ref (s.heap.objs.size + 1), upd H (s.heap.objs.size + 1) (.lst (bs'.map fun q => V.ref q.1)), I.laid (t' := s.toks) (fun b o e => sortedAll_old e) (Nat.le_succ _) ⟨?_, _, c, to_refs bs', hc⟩, rfl, q _ bs' e2 pm (I.hok.fresh (Nat.le_succ _))⟩
  rw [List.length_map, pm.length_eq, ← List.length_map (f := fun q : Addr × List Int => V.ref q.1)]
  exact hz
end
end Tb

/-! errors with one field, of any class below ValueError; isinstance of one that is held -/
namespace PySem
namespace LowX
open PySem.W PySem.Calls PyProof.Rows PySem.HandSPX
/-! ### the text of __init__ -/
def iA (p1 p2 : Pos) : Arguments := { posonlyargs := [], args := [{ arg := "self", annotation := none, pos := p1 }, { arg := "value", annotation := none, pos := p2 }], vararg := none, kwonlyargs := [], kw_defaults := [], kwarg := none, defaults := [] }
def iB (q1 q2 q3 q4 : Pos) : List Stmt := [.Assign [.Attribute (.Name "self" q1) "value" q2] (.Name "value" q3) q4]
def iS : Scope := { kind := .function, names := [(PySem.Str.ofString "self", .local), (PySem.Str.ofString "value", .local)], isGenerator := false, isCoroutine := false, more := [] }
/-- what the written part says of Low, at C, and of its __init__, at fI -/
structure LowTxt (K : Frag) (mg : Str → Option Value) (cn qn : Str) (C fI : Addr) : Prop where
  gC : mg cn = some (.ref C)
  dbg : (cn == ("__debug__" : Str)) = false
  cls : ∃ nm q N bs bm sn sub ab col dd k0 k1 k2 k3 k5, K.lookup C = some (excClassObj nm q C N bs bm true sn sub ab col dd k0 k1 k2 k3 k5 "ValueError.__new__") ∧ refsVE bm = true
  sa : findIn K (.ref C) "__setattr__" = some (some (.builtin "object.__setattr__"))
  ga : findIn K (.ref C) "__getattribute__" = some (some (.builtin "BaseException.__getattribute__"))
  gg : findIn K (.ref C) "__getattr__" = some none
  noN : findIn K (.ref C) "value" = some none
  iC : findIn K (.ref C) "__init__" = some (some (.ref fI))
  tC : typeIn K (.ref fI) = some (.type "function")
  kC : keepIn K (.ref C) = true
  exC : subIn K (.ref C) (.type "BaseException") = some true
  tyC : typeIn K (.ref C) = some (.type "type")
  hdC : hasDictIn K C = true
  te : exmOne K (.ref C) (.ref C) = some true
  fn : ∃ (oc : Value) (od : Option Addr) (doc pm : Value) (an : Option Addr) (cdv ct : Value) (osl : Array (Option Value)) (p1 p2 q1 q2 q3 q4 : Pos),
    K.lookup fI = some ⟨oc, od, .func (fnOf "__init__" qn (iA p1 p2) (iB q1 q2 q3 q4) iS .none .none doc pm an cdv ct), osl⟩ ∧ codeIn K cdv qn = true
theorem one_size (v : Value) : [v].length ≤ sizeLine := by
  rw [sizeLine_eq]
  exact (by decide : 1 ≤ 16777216)
theorem kept_but {K : Frag} {h h' : Heap} {x : Addr} (X : K.In h) (hx : K.lookup x = none) (k : ∀ b o, b ≠ x → h.get? b = some o → h'.get? b = some o) : K.In h' := fun a o e =>
  k a o (fun z => by rw [z, hx] at e; cases e) (X a o e)
theorem ldC {M : Model} {s : Shared} {name : Str} {scope : Scope} {L a : Addr} {cd : Value} {m : Str → Option Value} {x : Str} {pos : Pos} {v : Value} {Q : Value → Shared → Prop} {A : Around} {E : Value → Shared → Prop} (hn : s.heap.Ns L m) (hv : m x = some v) (h : Q v s)
    (hk : scope.kind = .function := by rfl) (hl : (envOfC name scope L a cd).kindOf x = some .local := by rfl) (hd : (x == ("__debug__" : Str)) = false := by decide) :
    wpAny M A (eval (.Name x pos) (envOfC name scope L a cd)) Q E s := wpAny_Name (wpAny_loadName_local hk hl hn hv h) hd
/-- what __init__ leaves of a fresh exception at x -/
structure InitEnd (h h' : Heap) (x C dx t1 : Addr) (v : Value) : Prop where
  keep : ∀ b o, b ≠ x → h.get? b = some o → h'.get? b = some o
  obj : h'.get? x = some { cls := .ref C, dict := some dx, data := .fields #[.ref t1, .none, .none, .none, .bool false, .none] }
  dbig : h.objs.size ≤ dx
  dne : dx ≠ x
  ns : h'.Ns1 dx (fun y => if y = "value" then some v else none)
/-- a made Low -/
structure OwnMade (h h' : Heap) (e C d : Addr) (v : Value) : Prop where
  keep : ∀ b o, h.get? b = some o → h'.get? b = some o
  new : h.objs.size ≤ e
  obj : ∃ oe vs, h'.get? e = some oe ∧ oe.cls = .ref C ∧ oe.dict = some d ∧ oe.data = .fields vs ∧ vs[1]? = some .none
  dbig : h.objs.size ≤ d
  dne : d ≠ e
  ns : h'.Ns1 d (fun y => if y = "value" then some v else none)
section
variable {prog : Program} {w : World} {A : Around} {E : Value → Shared → Prop} {R : Result → Shared → Prop} {s : Shared} {K : Frag} {mg : Str → Option Value} {cn qn : Str} {C fI : Addr}
theorem low_init (T : LowTxt K mg cn qn C fI) {x t0 : Addr} {v : Value} (X : K.In s.heap) (hlim : s.heap.NoLimit) (hx : s.heap.get? x = some (excO C t0)) (hnx : K.lookup x = none) (hroom : A.depth < recursionLimit)
    (hq : ∀ h' tk dx, InitEnd s.heap h' x C dx t0 v → R (.ok (.ret .none)) { s with heap := h', toks := tk }) :
    codeAny (model prog w) A (.call (.ref fI) ⟨[.ref x, v], []⟩) R s := by
  obtain ⟨oc, od, doc, pm, an, cdv, ct, osl, p1, p2, q1, q2, q3, q4, ho, hcd⟩ := T.fn
  obtain ⟨nm, q, N, bs, bm, sn, sub, ab, col, dd, k0, k1, k2, k3, k5, hC, hbm⟩ := T.cls
  have hcl : clsIn K C = some { name := nm, bases := bs, mro := .ref C :: bm, ns := N, qualname := q, hasDict := true, slotNames := sn, subclasses := sub, abstract := ab, collection := col, hasDel := false } := by unfold clsIn; rw [hC] <;> rfl
  refine Att.call_fn (binds := [("self", .ref x), ("value", v)]) X hlim ho hcd hroom (BindsTo.of_eq (by first | rfl | with_unfolding_all rfl)) (by first | rfl | decide | with_unfolding_all rfl) (fun s₁ IC => ?_) rfl rfl rfl
  obtain ⟨h₁, tk₁, rfl⟩ := IC.toInCall.same
  have k : ∀ b o, s.heap.get? b = some o → h₁.get? b = some o := IC.toInCall.keep
  have hn := IC.toInCall.ns
  have hxL : s.heap.objs.size ≠ x := Nat.ne_of_gt (Heap.lt_size hx)
  have X₁ : K.In h₁ := X.keeps k
  have hx₁ := k _ _ hx
  -- self.by = by
  show wpAny _ _ (execs _ _) _ _ _
  refine wpAny_execs_cons (plainObj_wpAny_Assign_Attribute ?_)
  refine ldC (v := v) hn (by first | rfl | with_unfolding_all rfl | kernel_rfl) (ldC (v := .ref x) hn (by first | rfl | with_unfolding_all rfl | kernel_rfl) ?_)
  refine set_plain X₁ (ox := excO C t0) (od := none) ⟨hx₁, rfl, rfl, trivial⟩ T.sa ?_
  refine exc_osa X₁ hx₁ hcl (show refsVE (.ref C :: bm) = true from hbm) rfl T.noN (fun h₃ tk₃ dx k₃ dn dne hx₃ hn₃ => ?_)
  show wpAny _ _ (execs _ _) _ _ _
  have z : s.heap.objs.size < h₁.objs.size := hn.lt
  exact wpAny_execs_nil (hq h₃ tk₃ dx ⟨fun b o hb e => k₃ b o hb (k b o e), hx₃, Nat.le_of_lt (Nat.lt_of_lt_of_le z dn), dne, hn₃⟩)
theorem low_made (T : LowTxt K mg cn qn C fI) {v : Value} (X : K.In s.heap) (hlim : s.heap.NoLimit) (hroom : A.depth + 1 < recursionLimit)
    (hq : ∀ h' tk e d, OwnMade s.heap h' e C d v → R (.ok (.ret (.ref e))) { s with heap := h', toks := tk }) :
    codeAny (model prog w) A (.call (.ref C) ⟨[v], []⟩) R s := by
  obtain ⟨nm, q, N, bs, bm, sn, sub, ab, col, dd, k0, k1, k2, k3, k5, hC, hbm⟩ := T.cls
  obtain ⟨hp, g, dr, tk, os⟩ := s
  have k : ∀ b o, hp.get? b = some o → ((hp.push (kdv_tup [v])).push (excO C hp.objs.size)).get? b = some o := fun b o e => Heap.get?_push_of_some _ (Heap.get?_push_of_some _ e)
  have hget : ((hp.push (kdv_tup [v])).push (excO C hp.objs.size)).get? (hp.objs.size + 1) = some (excO C hp.objs.size) := by heap_get
  have hnx : K.lookup (hp.objs.size + 1) = none := by
    cases e : K.lookup (hp.objs.size + 1) with
    | none => rfl
    | some o =>
      have z : hp.get? (hp.objs.size + 1) = some o := X _ _ e
      exact absurd (Nat.lt_of_succ_lt (Heap.lt_size z)) (Nat.lt_irrefl _)
  refine call_own F.excBase_ValueError (fun X => refsVE_contains X bm hbm) (X _ _ hC) (looks_findIn X T.iC) (fun self => bind_fn X self T.tC) (one_size v) ?_
  refine low_init (s := ⟨(hp.push (kdv_tup [v])).push (excO C hp.objs.size), g, dr, tk, os⟩) T (X.keeps k) (hlim.keeps k) hget hnx ?_ fun h' tk' dx ⟨k', hx, dn, dne, hns⟩ => ?_
  · show A.depth + 1 < recursionLimit
    exact hroom
  · have old : ∀ b o, hp.get? b = some o → h'.get? b = some o := fun b o e => k' b o (Nat.ne_of_lt (Nat.lt_succ_of_lt (Heap.lt_size e))) (k b o e)
    have z : hp.objs.size + 1 + 1 ≤ dx := by
      first
        | (simpa only [Heap.size_push] using dn)
        | exact dn
        | (have q := dn; rw [Heap.size_push, Heap.size_push] at q; exact q)
    exact ⟨rfl, hq h' tk' (hp.objs.size + 1) dx ⟨old, Nat.le_succ _, ⟨_, _, hx, rfl, rfl, rfl, rfl⟩, Nat.le_trans (Nat.le_trans (Nat.le_succ _) (Nat.le_succ _)) z, dne, hns⟩⟩
end
end LowX
end PySem
namespace L2
open PySem PySem.Spec PyProof.Rows
theorem relO_low {v : V} {v' : Value} (r : RelV v v') (f : Str) : RelO (List.lookup f [(("value" : Str), v)]) (if f = "value" then some v' else none) := by
  by_cases hw : f = "value"
  · subst hw
    rw [if_pos rfl]
    have q : List.lookup ("value" : Str) [(("value" : Str), v)] = some v := by simp [List.lookup]
    rw [q]
    exact r
  · rw [if_neg hw]
    have qw : (f == ("value" : Str)) = false := by simpa using hw
    have q2 : List.lookup f [(("value" : Str), v)] = none := by simp [List.lookup, qw]
    rw [q2]
    trivial
section
variable {X : Cx} {cn qn : Str} {C fI : Addr}
/-- Low(e) -/
def tMkLow (C : Addr) (ta : TA) : St → Hp → XK → Prop := fun σ H Q => ta σ H fun vs H1 => ∃ v, vs = [v] ∧ ∀ d, H1 d = none → Q (.ref C) (some d) (upd H1 d (.xd [(("value" : Str), v)]))
theorem pmk_low {a : Expr} {ta : TA} {p pos : Pos} {k : Nat} (T : PySem.LowX.LowTxt X.K X.mg cn qn C fI) (hr : Room k X.A) (ha : PA X [a] ta) (hg : Gl X cn := by rfl)
    (he : starEach (a :: []) X.env = (false, eval a X.env) :: starEach [] X.env := by rfl) (hpl : (backTo pos (starEach [] X.env)).any (·.1) = false := by rfl) :
    PMk X (.Call (.Name cn p) [a] [] pos) (tMkLow C ta) := by
  intro pins s σ H Q I h
  refine wpAny_Call_Name_kw (ld_glob I hg T.gC ?_ T.dbg)
  refine PySem.W.callWith_K (h₀ := X.base) I.ok.mod.kin T.kC (thn (ha.run pos pins s σ H _ I h) fun us s1 hh => ?_) he hpl
  obtain ⟨vs, H1, I1, r1, v, ev, q1⟩ := hh
  subst ev
  refine ⟨I1.kIn, ?_⟩
  cases r1 with
  | cons rv rn =>
    rename_i v' us'
    cases rn
    show wpAny _ _ (call (.ref C) [v']) _ _ _
    have hlim := I1.nolimit
    obtain ⟨hp, g, dr, tk, os⟩ := s1
    refine wpAny_call (PySem.LowX.low_made T I1.kIn hlim (by have := hr.dp; omega) fun h' tk' e d M => ?_)
    show MkP X pins σ Q (.ref e) ⟨h', g, dr, tk', os⟩
    obtain ⟨oe, fv, hoe, hc, hd, hdat, h1⟩ := M.obj
    have hns := M.ns
    obtain ⟨G', g1, g2⟩ := restrict h' fun b => decide (b ≠ e)
    have gk : ∀ b, b ≠ e → G'.get? b = h'.get? b := fun b hb => g1 b (decide_eq_true hb)
    have ge : G'.get? e = none := g2 e (by simp)
    have old : ∀ b o, hp.get? b = some o → G'.get? b = some o := fun b o q => (gk b (Nat.ne_of_lt (Nat.lt_of_lt_of_le (Heap.lt_size q) M.new))).trans (M.keep b o q)
    have ob : ObjOk X.prog X.w (upd H1 d (.xd [(("value" : Str), v)])) G' d (.xd [(("value" : Str), v)]) :=
      ⟨_, hns.at (fun o q => (gk d M.dne).trans q), fun f => relO_low rv f⟩
    have J : Inv X pins σ (upd H1 d (.xd [(("value" : Str), v)])) ⟨G', g, dr, tk', os⟩ := I1.laid (t' := tk') old M.dbig ob
    refine ⟨e, oe, fv, ⟨G', g, dr, tk', os⟩, _, .ref C, some d, rfl, J, fun b o q => ?_, ge, hoe, ⟨hc, hd⟩, hdat, h1, ?_, rfl, I1.bare, raises_own T.exC T.tyC, q1 d (I1.hok.fresh M.dbig)⟩
    · by_cases hb : b = e
      · have q' : G'.get? b = some o := q
        rw [hb, ge] at q'; cases q'
      · exact (gk b hb).symm.trans q
    · rw [upd_ne (Ne.symm M.dne)]
      exact I1.hok.fresh M.new
/-- raise Low(e) -/
def tRaiseLow (C : Addr) (W : WX) (ta : TA) : TS := fun _ σ H => tMkLow C ta σ H fun cls d H' => W cls d σ H'
theorem ps_raiseLow {a : Expr} {ta : TA} {W : WX} {p pos pos2 : Pos} {k : Nat} (hc : X.calm = true) (T : PySem.LowX.LowTxt X.K X.mg cn qn C fI) (hr : Room k X.A) (tk : Takes X W) (ha : PA X [a] ta) (hg : Gl X cn := by rfl)
    (he : starEach (a :: []) X.env = (false, eval a X.env) :: starEach [] X.env := by rfl) (hpl : (backTo pos (starEach [] X.env)).any (·.1) = false := by rfl) :
    PS X (.Raise (some (.Call (.Name cn p) [a] [] pos)) none pos2) (tRaiseLow C W ta) := ps_raise hc tk (pmk_low T hr ha hg he hpl)
/-- low.by, low the exception that the suite holds (at a; its class cls, its dict d) -/
def tByLow (C : Addr) (a : Addr) (cls : Value) (d : Option Addr) (te : TE) : TE := fun σ H Q => te σ H fun x H1 => x = .ref a ∧ cls = .ref C ∧ ∃ (dd : Addr) (v : V), d = some dd ∧ H1 dd = some (.xd [(("value" : Str), v)]) ∧ Q v H1
theorem pe_byLow {a : Addr} {oe : Obj} {cls : Value} {d : Option Addr} {pn : List (Addr × Obj)} {e : Expr} {te : TE} {pos : Pos} (T : PySem.LowX.LowTxt X.K X.mg cn qn C fI) (hz : Zc cls d oe) (hf : ∃ vs, oe.data = .fields vs) (he : PE (X.suite a ((a, oe) :: pn)) e te)
    (hb : attributeBase e "value" X.env (eval e X.env) = eval e X.env := by rfl) :
    PE (X.suite a ((a, oe) :: pn)) (.Attribute e "value" pos) (tByLow C a cls d te) := by
  refine ⟨fun pins s σ H Q I h => ?_⟩
  refine attr_of hb (thn (he.run pins s σ H _ I h) fun u s1 hh => ?_)
  obtain ⟨x, H1, I1, rx, ex, ec, dd, v, ed, ea, q⟩ := hh
  subst ex
  obtain rfl : u = Value.ref a := rx
  subst ec
  subst ed
  obtain ⟨ha, _⟩ := I1.pin (a, oe) (List.mem_append_left _ List.mem_cons_self)
  obtain ⟨vs, hd⟩ := hf
  have hx : ObjOk X.prog X.w H1 s1.heap dd (.xd [(("value" : Str), v)]) := I1.hok dd _ ea
  obtain ⟨mA, hns, hr⟩ := hx
  obtain ⟨od, ho, hl⟩ := lookIn_ns hns
  have l : List.lookup ("value" : Str) [(("value" : Str), v)] = some v := by simp [List.lookup]
  obtain ⟨u, hu, ru⟩ := RelO.some_of (v := v) (o := mA "value") (by rw [← l]; exact hr "value")
  have J : PySem.W.InstAt s1.heap a oe C (some od) := ⟨ha, hz.1, by unfold PySem.W.notCls; rw [hd] <;> rfl, by rw [hz.2]; exact ho⟩
  exact HandSPX.exc_get I1.kIn J T.ga T.gg T.exC (PySem.W.findObj_own T.hdC T.noN rfl (by rw [hl, hu])) (handed_of ru) ⟨v, H1, I1.tok _, ru, q⟩
end
end L2

namespace L2
open PySem PySem.Spec PyProof.Rows
/-- what the class D says, so that isinstance asks what it made -/
structure ErrC (K : PySem.W.Frag) (D : Addr) : Prop where
  cl : (PySem.W.clsIn K D).isSome = true
  hg : PySem.W.findIn K (.ref D) "__getattribute__" = some (some (.builtin "BaseException.__getattribute__"))
  hk : PySem.W.findIn K (.ref D) "__getattr__" = some none
  hs : PySem.W.subIn K (.ref D) (.type "BaseException") = some true
  ha : PySem.W.findIn K (.ref D) "__class__" = some (some (.builtin "object.__class__"))
  hn : PySem.W.specialIn K (.builtin "object.__class__") "__get__" = some (some (.builtin "getset_descriptor.__get__"))
  ht : PySem.W.takesIn K (.builtin "object.__class__") = some true
  hm : PySem.W.mroIn K D (.type "object") = some true
/-- isinstance(e, a class of the program), e what the suite holds, of the class D -/
def rIsErr (K : PySem.W.Frag) (D a : Addr) : List V → Hp → VK → Prop := fun xs H Q => ∃ (B dd : Addr) (fs : List (Str × V)) (b : Bool), xs = [.ref a, .ref B] ∧ H dd = some (.xd fs) ∧ PySem.W.kitOne K (.ref D) (.ref B) = some b ∧ Q (.bl b) H
theorem call_isErr {X : Cx} {a D dd : Addr} {oe : Obj} {pn : List (Addr × Obj)} (C : ErrC X.K D) (hz : Zc (.ref D) (some dd) oe) (hf : ∃ vs, oe.data = .fields vs) :
    CallR (X.suite a ((a, oe) :: pn)) (.builtin "isinstance") (fun xs H Q => ∃ (B : Addr) (fs : List (Str × V)) (b : Bool), xs = [.ref a, .ref B] ∧ H dd = some (.xd fs) ∧ PySem.W.kitOne X.K (.ref D) (.ref B) = some b ∧ Q (.bl b) H) := by
  intro pins s σ H xs us Q I r h
  obtain ⟨B, fs, b, rfl, hdd, e, q⟩ := h
  cases r with
  | cons rx rr =>
    cases rr with
    | cons rt rr =>
      cases rr
      cases rx
      cases rt
      have hx : ObjOk X.prog X.w H s.heap dd (.xd fs) := I.hok dd _ hdd
      obtain ⟨mA, hns, _⟩ := hx
      obtain ⟨od, ho, _⟩ := lookIn_ns hns
      obtain ⟨hget, _⟩ := I.pin (a, oe) (List.mem_append.mpr (.inl List.mem_cons_self))
      obtain ⟨vs, hv⟩ := hf
      have J : PySem.W.InstAt s.heap a oe D (some od) := ⟨hget, hz.1, by unfold PySem.W.notCls; rw [hv] <;> rfl, by rw [hz.2]; exact ho⟩
      exact PySem.W.kia_one (PySem.W.kitx_exc C.cl C.hg C.hk C.hs C.ha C.hn C.ht C.hm) I.kIn J e (fun z => nomatch z) fun tk => ⟨.bl b, H, I.kept (t' := tk) fun _ _ z => z, rfl, q⟩
end L2

/-! lambdas that outlive the def which made them: made, returned with what they captured, called elsewhere. -/
namespace Tb
open PySem PySem.Spec PyProof.Rows L2
open LamX (CodeO TabS TabB)
/-! ### objects that a callee need not know -/
def hid (H : Hp) (D : List Addr) : Hp := fun b => if b ∈ D then none else H b
def bak (H : Hp) (D : List Addr) (H' : Hp) : Hp := fun b => if b ∈ D then H b else H' b
theorem hid_in {H : Hp} {D : List Addr} {b : Addr} (h : b ∈ D) : hid H D b = none := if_pos h
theorem hid_out {H : Hp} {D : List Addr} {b : Addr} (h : b ∉ D) : hid H D b = H b := if_neg h
theorem bak_in {H H' : Hp} {D : List Addr} {b : Addr} (h : b ∈ D) : bak H D H' b = H b := if_pos h
theorem bak_out {H H' : Hp} {D : List Addr} {b : Addr} (h : b ∉ D) : bak H D H' b = H' b := if_neg h
theorem hid_some {H : Hp} {D : List Addr} {b : Addr} {o : HO} (h : hid H D b = some o) : b ∉ D ∧ H b = some o := by
  by_cases hb : b ∈ D
  · rw [hid_in hb] at h; cases h
  · rw [hid_out hb] at h; exact ⟨hb, h⟩
/-- D's objects look at nothing but themselves -/
def Self (H : Hp) (D : List Addr) : Prop := ∀ b ∈ D, (∃ φ, H b = some (.ext φ)) ∨ ∃ ps, H b = some (.tbl ps)
theorem Self.ne {H : Hp} {D : List Addr} (S : Self H D) {b : Addr} {o : HO} (h : H b = some o) (n1 : ∀ φ, o ≠ .ext φ) (n2 : ∀ ps, o ≠ .tbl ps) : b ∉ D := fun hb => by
  rcases S b hb with ⟨φ, e⟩ | ⟨ps, e⟩
  · exact n1 φ (Option.some.inj (h.symm.trans e))
  · exact n2 ps (Option.some.inj (h.symm.trans e))
section
variable {P : Program} {w : World} {H H' : Hp} {h h' : Heap} {D : List Addr}
theorem hok_hid (S : Self H D) (k : HOk P w H h) : HOk P w (hid H D) h := fun b o e => by
  obtain ⟨_, e2⟩ := hid_some e
  exact (k b o e2).stay (fun _ _ _ q => q) (fun c q => by rw [hid_out (S.ne q (fun _ z => by cases z) fun _ z => by cases z)]; exact q)
    (fun c xs q => by rw [hid_out (S.ne q (fun _ z => by cases z) fun _ z => by cases z)]; exact q)
theorem hok_bak (S : Self H D) (k0 : HOk P w H h) (k1 : HOk P w H' h') (st : ∀ b ∈ D, ∀ o, h.get? b = some o → h'.get? b = some o) (nw : ∀ b ∈ D, H' b = none) : HOk P w (bak H D H') h' := fun b o e => by
  have out : ∀ {c : Addr} {u : HO}, H' c = some u → bak H D H' c = some u := fun {c u} q => by
    have : c ∉ D := fun z => by rw [nw c z] at q; cases q
    rw [bak_out this]; exact q
  by_cases hb : b ∈ D
  · rw [bak_in hb] at e
    rcases S b hb with ⟨φ, e2⟩ | ⟨ps, e2⟩
    · rw [e] at e2
      cases e2
      obtain ⟨f1, ⟨u, f2⟩, f3⟩ := k0 b _ e
      exact ⟨f3 h h' f1 (st b hb), ⟨u, st b hb _ f2⟩, f3⟩
    · rw [e] at e2
      cases e2
      exact st b hb _ (k0 b _ e)
  · rw [bak_out hb] at e
    exact (k1 b o e).stay (fun _ _ _ q => q) (fun c q => out q) fun c xs q => out q
theorem self_there (S : Self H D) (k : HOk P w H h) {b : Addr} (hb : b ∈ D) : ∃ o, h.get? b = some o := by
  rcases S b hb with ⟨φ, e⟩ | ⟨ps, e⟩
  · exact (k b _ e).2.1
  · exact ⟨_, k b _ e⟩
end
section
variable {P : Program} {w : World} {K : PySem.W.Frag} {mg : Str → Option Value} {base : Heap} {A : Around} {outer : List Env} {s s' : Shared} {H : Hp} {D : List Addr} {Q : VK} {E : XK} {u : Value}
theorem Env0.hid (S : Self H D) (e0 : Env0 P w K mg base A outer s H) : Env0 P w K mg base A outer s (hid H D) := by
  have nn : ∀ {b : Addr}, H b = none → Tb.hid H D b = none := fun {b} n => by
    by_cases hb : b ∈ D
    · exact hid_in hb
    · rw [hid_out hb]; exact n
  exact ⟨e0.frames, e0.mod, fun b o q => ⟨(e0.bs b o q).1, nn (e0.bs b o q).2⟩, e0.bsz, e0.funs, fun b hb => nn (e0.frf b hb), hok_hid S e0.hok, e0.bare⟩
theorem notFr (S : Self H D) (e0 : Env0 P w K mg base A outer s H) {b : Addr} (hb : b ∈ D) : b ∉ frs outer := fun z => by
  have n := e0.frf b z
  rcases S b hb with ⟨φ, e⟩ | ⟨ps, e⟩ <;> rw [n] at e <;> cases e
theorem ce_bak (S : Self H D) (e0 : Env0 P w K mg base A outer s H) (c : CE outer P w (hid H D) s (fun v H' => (∀ b ∈ D, H' b = none) → Q v (bak H D H')) u s') : CE outer P w H s Q u s' := by
  obtain ⟨v, H1, os, bare, un, hk, rv, q⟩ := c
  have nw : ∀ b ∈ D, H1 b = none := fun b hb => by
    obtain ⟨o, ho⟩ := self_there S e0.hok hb
    exact un.free b o ho (hid_in hb) (by simp)
  have st : ∀ b ∈ D, ∀ o, s.heap.get? b = some o → s'.heap.get? b = some o := fun b hb o ho => un.keep b o ho (hid_in hb) (notFr S e0 hb) (by simp)
  have nn : ∀ {b : Addr}, H b = none → b ∉ D := fun {b} n z => by
    rcases S b z with ⟨φ, e⟩ | ⟨ps, e⟩ <;> rw [n] at e <;> cases e
  have hn : ∀ {b : Addr}, H b = none → hid H D b = none := fun {b} n => by rw [hid_out (nn n)]; exact n
  refine ⟨v, bak H D H1, os, bare, ?_, hok_bak S e0.hok hk st nw, rv, q nw⟩
  exact {
    keep := fun b o e n f x => un.keep b o e (hn n) f x
    slot := fun b o e n f x => un.slot b o e (hn n) f x
    free := fun b o e n x => by rw [bak_out (nn n)]; exact un.free b o e (hn n) x
    there := un.there
    tups := fun b xs e => by
      have nb := S.ne e (fun _ z => by cases z) fun _ z => by cases z
      rw [bak_out nb]
      exact un.tups b xs (by rw [hid_out nb]; exact e)
    frzs := fun b o v e => by
      have nb := S.ne e (fun _ z => by cases z) fun _ z => by cases z
      rw [bak_out nb]
      exact un.frzs b o v (by rw [hid_out nb]; exact e)
    tbls := fun b ps e => by
      by_cases hb : b ∈ D
      · exact ⟨#[], by rw [bak_in hb, e]; simp⟩
      · rw [bak_out hb]
        exact un.tbls b ps (by rw [hid_out hb]; exact e) }
theorem cx_bak (S : Self H D) (e0 : Env0 P w K mg base A outer s H) (c : L2.CX P w outer (hid H D) s (fun cls d H' => (∀ b ∈ D, H' b = none) → E cls d (bak H D H')) u s') : L2.CX P w outer H s E u s' := by
  obtain ⟨a, B, H1, cls, d, eu, fl, hk, ub, na, os, ag, q⟩ := c
  have nw : ∀ b ∈ D, H1 b = none := fun b hb => by
    obtain ⟨o, ho⟩ := self_there S e0.hok hb
    exact ub.free b o ho (hid_in hb)
  have st : ∀ b ∈ D, ∀ o, s.heap.get? b = some o → B.get? b = some o := fun b hb o ho => ub.keep b o ho (hid_in hb) (notFr S e0 hb)
  have nn : ∀ {b : Addr}, H b = none → b ∉ D := fun {b} n z => by
    rcases S b z with ⟨φ, e⟩ | ⟨ps, e⟩ <;> rw [n] at e <;> cases e
  have hn : ∀ {b : Addr}, H b = none → hid H D b = none := fun {b} n => by rw [hid_out (nn n)]; exact n
  have aD : a ∉ D := fun hb => by
    -- what stood is not the new exception: it stands in the ground
    obtain ⟨o, ho⟩ := self_there S e0.hok hb
    have := st a hb o ho
    obtain ⟨f1, f2, f3, oe, vs, T, oT, ts, he, hz, hd, h1, hr⟩ := id fl
    exact absurd this (by rw [f2]; simp)
  refine ⟨a, B, bak H D H1, cls, d, eu, fl, hok_bak S e0.hok hk st nw, ?_, by rw [bak_out aD]; exact na, os, ag, q nw⟩
  exact {
    keep := fun b o e n f => ub.keep b o e (hn n) f
    slot := ub.slot
    free := fun b o e n => by rw [bak_out (nn n)]; exact ub.free b o e (hn n)
    there := ub.there
    tups := fun b xs e => by
      have nb := S.ne e (fun _ z => by cases z) fun _ z => by cases z
      rw [bak_out nb]
      exact ub.tups b xs (by rw [hid_out nb]; exact e)
    frzs := fun b o v e => by
      have nb := S.ne e (fun _ z => by cases z) fun _ z => by cases z
      rw [bak_out nb]
      exact ub.frzs b o v (by rw [hid_out nb]; exact e)
    tbls := fun b ps e => by
      by_cases hb : b ∈ D
      · exact ⟨#[], by rw [bak_in hb, e]; simp⟩
      · rw [bak_out hb]
        exact ub.tbls b ps (by rw [hid_out hb]; exact e) }
end
end Tb

namespace Tb
open PySem PySem.Spec PyProof.Rows L2
open LamX (CodeO TabS TabB)
/-! ### a lambda called, wherever it came from -/
abbrev loEnv (q : Str) (scope : Scope) (L f c' : Addr) (cl : List (Str × Addr)) : Env := PySem.W.envX q scope L f (.ref c') cl
/-- the context of its body -/
def loCx (P : Program) (w : World) (K : PySem.W.Frag) (mg : Str → Option Value) (base : Heap) (N : List Str) (A : Around) (outer : List Env) (s : Shared) (H : Hp) (E : XK) (q : Str) (scope : Scope) (f c' : Addr) (cl : List (Str × Addr)) : Cx where
  prog := P
  w := w
  K := K
  mg := mg
  base := base
  A := A.deeper (loEnv q scope s.heap.objs.size f c' cl)
  N := N
  s_0 := s
  H_0 := H
  env := loEnv q scope s.heap.objs.size f c' cl
  outer := outer
  stack := loEnv q scope s.heap.objs.size f c' cl :: outer
  ex := []
  fn := fun _ => false
  calm := true
  pn := []
  xe := fun e s' => wpAny (model P w) (A.deeper (loEnv q scope s.heap.objs.size f c' cl)) (leaving (loEnv q scope s.heap.objs.size f c' cl) e) (fun _ s'' => L2.CX P w outer H s E e s'') (fun e' s'' => L2.CX P w outer H s E e' s'') s'
/-- its names: captured ones and globals -/
structure LoS (scope : Scope) (cl : List (Str × Addr)) : Prop where
  kind : scope.kind = .function
  co : scope.isCoroutine = false
  gen : scope.isGenerator = false
  own : ∀ y ∈ scope.names, y.2 ≠ .local ∧ y.2 ≠ .cell
  free : ∀ y ∈ scope.names, y.2 = .free → ∃ c, cl.lookup y.1 = some c
/-- what it captured: the cells with their values, the slots of the body -/
structure Caps (H : Hp) (h : Heap) (D : List Addr) (cl : List (Str × Addr)) (N : List Str) (σ : L2.St) : Prop where
  inj : ∀ y z c, cl.lookup y = some c → cl.lookup z = some c → y = z
  cell : ∀ y c, cl.lookup y = some c → c ∈ D ∧ ∃ u, h.IsCell c (some u)
  val : ∀ (i : Nat) (y : Str) (v : V), N[i]? = some y → σ[i]? = some (some v) → ∃ c u, cl.lookup y = some c ∧ h.IsCell c (some u) ∧ RelV v u
  len : σ.length = N.length
section
variable {P : Program} {w : World} {K : PySem.W.Frag} {mg : Str → Option Value} {base : Heap} {A : Around} {outer : List Env} {s : Shared} {H : Hp} {D : List Addr} {Q : VK} {E : XK} {q : Str} {scope : Scope} {f c' : Addr} {cl : List (Str × Addr)} {N : List Str} {σ : L2.St} {k : Nat}
theorem lo_start {h₁ : Heap} {tk : Nat} (e0 : Env0 P w K mg base A outer s (hid H D)) (hd : A.handled = none) (LS : LoS scope cl) (C : Caps H s.heap D cl N σ) (hns : h₁.Ns s.heap.objs.size fun y => ([] : List (Str × Value)).reverse.lookup y)
    (kp : ∀ b o, s.heap.get? b = some o → h₁.get? b = some o) : Inv (loCx P w K mg base N A outer s (hid H D) E q scope f c' cl) [] σ (hid H D) { s with heap := h₁, toks := tk } := by
  have ck : ∀ {c : Addr} {v : Option Value}, s.heap.IsCell c v → h₁.IsCell c v := fun {c v} ⟨o, ho, hd⟩ => ⟨o, kp _ _ ho, hd⟩
  have noA : ∀ b : Addr, b ∉ (loCx P w K mg base N A outer s (hid H D) E q scope f c' cl).ex := fun b z => by cases z
  have kinds : ∀ y k, scope.names.lookup y = some k → (y, k) ∈ scope.names := fun y k e => PySem.mem_of_lookup e
  refine { ok := ?_, os := rfl, bare := e0.bare, base := Un.kept kp, loc := ⟨_, hns, fun i y v e1 e2 e3 => ?_⟩, cell := fun y c e => ?_, free := e0.hok.fresh (Nat.le_refl _), freeC := fun y c e => hid_in (C.cell y c e).1, pin := fun p hp => absurd (show p ∈ ([] : List (Addr × Obj)) from hp) (by simp), hok := e0.hok.kept kp, len := C.len }
  · refine { mod := e0.mod, kind := LS.kind, glob := rfl, blt := rfl, above := Nat.le_refl _, inj := C.inj, has := fun y hy => ?_, cab := fun y c z => absurd (show false = true from z) (by simp), hd := fun _ => hd, frames := Around.frames_deeper e0.frames, stk := .inr ⟨rfl, rfl⟩, exf := fun b z => absurd z (noA b), bs := e0.bs, bsz := e0.bsz, noex := fun b _ _ => noA b, exfs := fun b z => absurd z (noA b), funs := e0.funs, frf := e0.frf }
    rcases hy with hy | hy
    · exact absurd rfl (LS.own _ (kinds _ _ hy)).2
    · exact LS.free _ (kinds _ _ hy) rfl
  · obtain ⟨c, u, h1, h2, h3⟩ := C.val i y v e1 e2
    refine ⟨u, h3, .inr ⟨.inr ?_, c, h1, ck h2⟩⟩
    rcases (show Vis scope y from e3) with z | z | z
    · exact absurd rfl (LS.own _ (kinds _ _ z)).1
    · exact absurd rfl (LS.own _ (kinds _ _ z)).2
    · exact z
  · obtain ⟨u, z⟩ := (C.cell y c e).2
    exact ⟨_, ck z⟩
theorem lo_run {params : Arguments} {body : Expr} {pm ctv : Value} {tb : TE} (hr : Room (k + 1) A) (e0 : Env0 P w K mg base A outer s H) (S : Self H D) (of : s.heap.get? f = some (PySem.W.kla_obj "<lambda>" q params body scope cl pm c' ctv)) (hco : s.heap.CodeRec (.ref c') q)
    (LS : LoS scope cl) (C : Caps H s.heap D cl N σ) (hbind : bindArgs (PySem.W.kla_fn "<lambda>" q params body scope cl pm (.ref c') ctv) ⟨[], []⟩ = pure [])
    (hbody : Room k (A.deeper (loEnv q scope s.heap.objs.size f c' cl)) → PE (loCx P w K mg base N A outer s (hid H D) (fun cls d H' => (∀ b ∈ D, H' b = none) → E cls d (bak H D H')) q scope f c' cl) body tb) (ht : tb σ (hid H D) fun v H' => (∀ b ∈ D, H' b = none) → Q v (bak H D H')) :
    codeAny (model P w) A (.call (.ref f) ⟨[], []⟩) (CR (L2.CX P w) outer P w H s Q E) s := by
  have lim : s.heap.NoLimit := e0.mod.nolimit.keeps fun b o e => (e0.bs b o e).1
  refine PySem.W.kla_callFunE hr.depth of rfl LS.co LS.gen rfl hco ?_
  rw [hbind]
  refine wpAny_pure (wpAny_newFunctionEnv (fun y hy => (LS.own y hy).2) (fun y hy => absurd hy (by simp)) (fun h₁ hns hsb => ⟨lim.fresh _ hsb, ?_⟩) LS.kind)
  show codeAny _ _ (.expr body (loEnv q scope s.heap.objs.size f c' cl)) _ _
  have kp : ∀ b o, s.heap.get? b = some o → h₁.get? b = some o := fun b o e => hsb.extBut b o (Nat.ne_of_lt (Heap.lt_size e)) (Heap.get?_push_of_some _ e)
  have J := lo_start (E := fun cls d H' => (∀ b ∈ D, H' b = none) → E cls d (bak H D H')) (q := q) (f := f) (c' := c') (tk := s.toks + ([] : List (Str × Value)).length) (Env0.hid S e0) hr.hd LS C hns kp
  refine PySem.W.kla_codeExpr (wpAny_mono ((hbody (hr.deeper _)).run [] _ σ (hid H D) _ J ht) (fun v s' hq => ?_) fun e s' hq => ?_)
  · obtain ⟨x, H1, J1, rv, q1⟩ := hq
    exact ce_bak S e0 ⟨x, H1, J1.os, J1.bare, J1.base, J1.hok, rv, q1⟩
  · exact wpAny_mono hq (fun _ s'' z => cx_bak S e0 z) fun e' s'' z => cx_bak S e0 z
end
/-! ### x() where x holds such a lambda -/
/-- what stands at f is a def or a lambda, and a call of it leads to Q or E -/
structure Runs (P : Program) (w : World) (K : PySem.W.Frag) (mg : Str → Option Value) (base : Heap) (k : Nat) (f : Addr) (H : Hp) (Q : VK) (E : XK) : Prop where
  at_ : ∀ h, HOk P w H h → PySem.W.FnAt f h
  run : ∀ (A : Around) (outer : List Env) (s : Shared), Room k A → Env0 P w K mg base A outer s H → codeAny (model P w) A (.call (.ref f) ⟨[], []⟩) (CR (L2.CX P w) outer P w H s Q E) s
def tRun (P : Program) (w : World) (K : PySem.W.Frag) (mg : Str → Option Value) (base : Heap) (k i : Nat) (W : WX) : TE := fun σ H Q => ∃ (f : Addr) (E : XK), σ[i]? = some (some (.ref f)) ∧ (∀ cls d H', E cls d H' → W cls d σ H') ∧ Runs P w K mg base k f H Q E
theorem pe_run {X : Cx} {k i : Nat} {a : Str} {W : WX} {p1 p2 : Pos} (hr : Room k X.A) (hN : X.N[i]? = some a) (hv : Vis X.env.scope a) (tk : Takes X W) (hd : (a == ("__debug__" : Str)) = false := by decide) (hcd : (a == ("__classdict__" : Str)) = false := by decide) :
    PE X (.Call (.Name a p1) [] [] p2) (tRun X.prog X.w X.K X.mg X.base k i W) := by
  refine ⟨fun pins s σ H Q I h => ?_⟩
  obtain ⟨f, E, hs, hW, R⟩ := h
  refine wpAny_Call_Name_kw (thn ((pe_var (pos := p1) (i := i) hN hv hd hcd).run pins s σ H (fun v H1 => v = .ref f ∧ H1 = H) I ⟨.ref f, hs, rfl, rfl⟩) fun u s1 hh => ?_)
  obtain ⟨v, H1, I1, r1, ev, eH⟩ := hh
  subst ev eH
  obtain rfl : u = Value.ref f := r1
  refine PySem.W.callWith_F0 (R.at_ _ I1.hok) (wpAny_call (codeAny_mono (R.run X.A X.stack s1 hr I1.env0) fun r s' hq => ?_))
  cases r with
  | error e => exact tk e s' (XE.of_call I1 hW hq)
  | ok fl =>
    cases fl with
    | ret u => exact I1.after hq
    | next => exact hq.elim
    | brk => exact hq.elim
    | cont => exact hq.elim
end Tb

namespace Tb
open PySem PySem.Spec PyProof.Rows L2
open LamX (CodeO TabS TabB)
/-! ### a lambda made -/
def CloO (f : Addr) (q : Str) (params : Arguments) (body : Expr) (scope : Scope) (cl : List (Str × Addr)) (pm : Value) (c' : Addr) (ctv : Value) : HO := .ext fun h => h.get? f = some (PySem.W.kla_obj "<lambda>" q params body scope cl pm c' ctv)
def CellO (c : Addr) (x : V) : HO := .ext fun h => ∃ u, h.IsCell c (some u) ∧ RelV x u
theorem clo_ok {P : Program} {w : World} {H : Hp} {h : Heap} {f : Addr} {q : Str} {params : Arguments} {body : Expr} {scope : Scope} {cl : List (Str × Addr)} {pm : Value} {c' : Addr} {ctv : Value} (e : h.get? f = some (PySem.W.kla_obj "<lambda>" q params body scope cl pm c' ctv)) : ObjOk P w H h f (CloO f q params body scope cl pm c' ctv) :=
  ⟨e, ⟨_, e⟩, fun _ _ z k => k _ z⟩
theorem clo_at {P : Program} {w : World} {H : Hp} {h : Heap} {f : Addr} {q : Str} {params : Arguments} {body : Expr} {scope : Scope} {cl : List (Str × Addr)} {pm : Value} {c' : Addr} {ctv : Value} (k : HOk P w H h) (e : H f = some (CloO f q params body scope cl pm c' ctv)) : h.get? f = some (PySem.W.kla_obj "<lambda>" q params body scope cl pm c' ctv) := by
  have z : ObjOk P w H h f (.ext fun h => h.get? f = some (PySem.W.kla_obj "<lambda>" q params body scope cl pm c' ctv)) := k f _ e
  exact z.1
theorem cellO_ok {P : Program} {w : World} {H : Hp} {h : Heap} {c : Addr} {x : V} {u : Value} (e : h.IsCell c (some u)) (r : RelV x u) : ObjOk P w H h c (CellO c x) := by
  obtain ⟨o, ho, hd⟩ := e
  exact ⟨⟨u, ⟨o, ho, hd⟩, r⟩, ⟨o, ho⟩, fun _ _ ⟨u', ⟨o', ho', hd'⟩, r'⟩ k => ⟨u', ⟨o', k _ ho', hd'⟩, r'⟩⟩
theorem cellO_at {P : Program} {w : World} {H : Hp} {h : Heap} {c : Addr} {x : V} (k : HOk P w H h) (e : H c = some (CellO c x)) : ∃ u, h.IsCell c (some u) ∧ RelV x u := by
  have z : ObjOk P w H h c (.ext fun h => ∃ u, h.IsCell c (some u) ∧ RelV x u) := k c _ e
  exact z.1
theorem codeO_at {P : Program} {w : World} {H : Hp} {h : Heap} {c : Addr} {q : Str} (k : HOk P w H h) (e : H c = some (CodeO c q)) : h.CodeRec (.ref c) q := by
  have z : ObjOk P w H h c (.ext fun h => ∃ (oc : Obj) (vs : Array Value) (t : Tok), h.get? c = some oc ∧ oc.data = .fields vs ∧ vs[1]? = some (.str q t)) := k c _ e
  obtain ⟨oc, vs, t, h1, h2, h3⟩ := z.1
  exact ⟨c, oc, vs, t, rfl, h1, h2, h3⟩
/-- what the making of a lambda leaves of H: its code stands at c', the table at P may have grown -/
structure Mk (H H1 : Hp) (P : Addr) (q : Str) (c' : Addr) : Prop where
  keep : ∀ b o, b ≠ P → H b = some o → H1 b = some o
  tab : TabS H1 P q
  code : H1 c' = some (CodeO c' q)
theorem TabS.g {H : Hp} {P : Addr} {q : Str} (t : TabS H P q) : GxR.TabG H P := by
  obtain ⟨ps, h1, h2, _⟩ := t
  exact ⟨ps, h1, h2⟩
theorem Mk.kp {H H1 : Hp} {P : Addr} {q : Str} {c' : Addr} (m : Mk H H1 P q c') (t : TabS H P q) : Kp H H1 := by
  refine ⟨fun b o e n => m.keep b o (fun z => ?_) e, fun T h => ?_⟩
  · obtain ⟨ps, e2, _⟩ := t
    rw [z, e2] at e
    exact n ps (Option.some.inj e).symm
  · by_cases z : T = P
    · rw [z]; exact TabS.g m.tab
    · obtain ⟨ps, h1, h2⟩ := h
      exact ⟨ps, m.keep _ _ z h1, h2⟩
def tMk (P : Addr) (q : Str) (cl : List (Str × Addr)) (params : Arguments) (body : Expr) (scope : Scope) : TE := fun _ H Q => TabS H P q ∧ ∀ (f c' : Addr) (pm ctv : Value) (H1 : Hp), Mk H H1 P q c' → H1 f = none → Q (.ref f) (upd H1 f (CloO f q params body scope cl pm c' ctv))
section
variable {X : Cx} {P c : Addr} {params : Arguments} {body : Expr} {scope : Scope} {pos : Pos}
theorem pe_lam (TB : TabB X.base X.mg c P) (hcode : X.env.code = .ref c) (LS : LamX.LamS X.env.scope scope) (hdef : defaultsOf params X.env = ([], [])) :
    PE X (.Lambda params body scope pos) (tMk P (X.env.qual ++ "<lambda>") (cloFrom X.env.cells scope.names []) params body scope) := by
  refine ⟨fun pins s σ H Q I h => ?_⟩
  obtain ⟨tS, q⟩ := h
  obtain ⟨ps, hP, tri, named⟩ := id tS
  have has := LS.has I.ok
  have atP : s.heap.get? P = some { cls := .none, data := .fields ps } := I.hok P _ hP
  have gl : s.heap.Ns mainGlobals X.mg := I.mod.glob.keeps I.bk
  have cd := TB.code.keeps I.bk
  refine PySem.W.kla_eval hdef ?_
  cases found : codeAmong pos ps.toList with
  | some cv =>
    obtain ⟨c', ec, hco⟩ := named pos cv found
    subst ec
    refine PySem.W.kla_makeFunctionHit (mg := X.mg) (c := c) (P := P) (ps := ps) (closure_ok has) I.ok.glob gl hcode cd atP tri found (TB.bm.keeps I.bk) fun ctv h' tk kp sz => ?_
    have J := I.laid (t' := tk) (a := h'.objs.size) (o := CloO h'.objs.size (X.env.qual ++ "<lambda>") params body scope (cloFrom X.env.cells scope.names []) ((X.mg "__name__").getD .none) c' ctv) (h' := h'.push (PySem.W.kla_obj "<lambda>" (X.env.qual ++ "<lambda>") params body scope (cloFrom X.env.cells scope.names []) ((X.mg "__name__").getD .none) c' ctv))
      (fun b o e => Heap.get?_push_of_some _ (kp b o e)) sz (clo_ok (Heap.get?_push_size _ rfl))
    exact ⟨.ref h'.objs.size, _, J, rfl, q h'.objs.size c' _ ctv H ⟨fun _ _ _ e => e, tS, hco⟩ (I.hok.fresh sz)⟩
  | none =>
    refine PySem.W.kla_makeFunction (mg := X.mg) (c := c) (P := P) (ps := ps) (closure_ok has) I.ok.glob gl hcode cd atP tri found TB.gP (TB.bm.keeps I.bk) fun c' ctv h' tk ex ge lt rec tb => ?_
    obtain ⟨c2, oc, vs, t, e2, oco, ocd, ocv⟩ := rec
    cases e2
    have fresh : H c' = none := I.hok.fresh ge
    have nP : P ≠ c' := ne_of_none hP fresh
    have J1 := LamX.inv_table (t' := tk) (q := X.env.qual ++ "<lambda>") (more := #[rawInt pos.line, rawInt pos.col, .ref c']) I hP (fun b o hb e => ex b o hb e) tb ge ⟨oc, vs, t, oco, ocd, ocv⟩
    have J := J1.laid (t' := tk) (a := h'.objs.size) (o := CloO h'.objs.size (X.env.qual ++ "<lambda>") params body scope (cloFrom X.env.cells scope.names []) ((X.mg "__name__").getD .none) c' ctv) (h' := h'.push (PySem.W.kla_obj "<lambda>" (X.env.qual ++ "<lambda>") params body scope (cloFrom X.env.cells scope.names []) ((X.mg "__name__").getD .none) c' ctv))
      (fun b o e => Heap.get?_push_of_some _ e) (Nat.le_refl _) (clo_ok (Heap.get?_push_size _ rfl))
    have el : (ps ++ #[rawInt pos.line, rawInt pos.col, .ref c']).toList = ps.toList ++ [rawInt pos.line, rawInt pos.col, .ref c'] := by simp
    refine ⟨.ref h'.objs.size, _, J, rfl, q h'.objs.size c' _ ctv _ ⟨fun b o nb e => ?_, ?_, upd_same⟩ (J1.hok.fresh (Nat.le_refl _))⟩
    · rw [upd_ne (ne_of_none e fresh), upd_ne nb]; exact e
    · refine ⟨_, by rw [upd_ne nP, upd_same], by rw [el]; exact PySem.TriplesOk_snoc _ _ _ _ tri, fun p' cv hcv => ?_⟩
      rw [el] at hcv
      rcases LamX.among_app _ tri hcv with z | z
      · obtain ⟨c0, a1, a2⟩ := named p' cv z
        refine ⟨c0, a1, ?_⟩
        rw [upd_ne (ne_of_none a2 fresh), upd_ne (fun y => by
          rw [y, hP] at a2
          exact LamX.codeO_ne ps (Option.some.inj a2).symm)]
        exact a2
      · exact ⟨c', z, upd_same⟩
end
/-! ### blocks that end in a return, with the slots as they stand there -/
structure PSr (X : Cx) (ss : List Stmt) (t : (V → L2.St → Hp → Prop) → L2.St → Hp → Prop) : Prop where
  run : ∀ (pins : List (Addr × Obj)) (s : Shared) (σ : L2.St) (H : Hp) (R : V → L2.St → Hp → Prop), Inv X pins σ H s → t R σ H → wpAny (model X.prog X.w) X.A (execs ss X.env) (fun fl s' => ∃ u v σ' H', fl = .ret u ∧ Inv X pins σ' H' s' ∧ RelV v u ∧ R v σ' H') X.xe s
section
variable {X : Cx} {e : Expr} {te : TE} {pos : Pos} {st : Stmt} {ss : List Stmt} {t : TS} {u : (V → L2.St → Hp → Prop) → L2.St → Hp → Prop}
theorem psr_ret (he : PE X e te) : PSr X [.Return (some e) pos] (fun R σ H => te σ H fun v H' => R v σ H') := by
  refine ⟨fun pins s σ H R I h => ?_⟩
  refine wpAny_execs_cons (wpAny_Return_some (thn (he.run pins s σ H _ I h) fun v s1 hh => ?_))
  obtain ⟨x, H1, I1, r1, q1⟩ := hh
  exact ⟨v, x, σ, H1, rfl, I1, r1, q1⟩
theorem psr_cons (h1 : PS X st t) (h2 : PSr X ss u) : PSr X (st :: ss) (fun R σ H => t { nx := fun σ' H' => u R σ' H', rt := fun _ _ => False, bk := fun _ _ => False, ct := fun _ _ => False } σ H) := by
  refine ⟨fun pins s σ H R I h => ?_⟩
  refine wpAny_execs_cons (thn (h1.run pins s σ H _ I h) fun f s1 q => ?_)
  cases f with
  | next =>
    obtain ⟨σ', H', I', q⟩ := q
    exact h2.run pins s1 σ' H' R I' q
  | ret v => obtain ⟨_, _, _, _, _, z⟩ := q; exact z.elim
  | brk => obtain ⟨_, _, _, z⟩ := q; exact z.elim
  | cont => obtain ⟨_, _, _, z⟩ := q; exact z.elim
end
/-- the cells cs, told -/
def addc (cs : List (Addr × V)) (H : Hp) : Hp := fun b => match cs.lookup b with
  | some x => some (CellO b x)
  | none => H b
theorem mem_of_lookup' {α β : Type} [BEq α] [LawfulBEq α] {l : List (α × β)} {a : α} {b : β} (h : l.lookup a = some b) : (a, b) ∈ l := by
  induction l with
  | nil => cases h
  | cons p r ih =>
    obtain ⟨x, y⟩ := p
    rw [List.lookup_cons] at h
    by_cases e : a == x
    · rw [e] at h
      rw [eq_of_beq e, Option.some.inj h]
      exact List.mem_cons_self
    · have e' : (a == x) = false := by simpa using e
      rw [e'] at h
      exact List.mem_cons_of_mem _ (ih h)
section
variable {P : Program} {w : World} {K : PySem.W.Frag} {mg : Str → Option Value} {base : Heap} {N ps : List Str} {qual : Str} {scope : Scope} {f : Addr} {cdv : Value} {A : Around} {outer : List Env} {s s' : Shared} {H H' : Hp} {E : XK} {σ : L2.St}
theorem close_ok {CXq : CXT} {cs : List (Addr × V)} (I : Inv (cxOf CXq P w K mg base N qual scope f cdv A outer s H E) [] σ H' s')
    (hc : ∀ p ∈ cs, ∃ (y : Str) (i : Nat), (cellsFrom (s.heap.objs.size + 1) scope.names []).lookup y = some p.1 ∧ scope.names.lookup y = some .cell ∧ N[i]? = some y ∧ σ[i]? = some (some p.2)) :
    Un (frs outer) [] H (addc cs H') s.heap s'.heap ∧ HOk P w (addc cs H') s'.heap := by
  have none_ : ∀ {b : Addr} {x : V}, cs.lookup b = some x → H' b = none ∧ s.heap.objs.size ≤ b := fun {b x} e => by
    obtain ⟨y, i, h1, h2, h3, h4⟩ := hc _ (mem_of_lookup' e)
    exact ⟨I.freeC y b h1, I.ok.cab y b rfl h1⟩
  have out : ∀ {b : Addr} {o : HO}, H' b = some o → addc cs H' b = some o := fun {b o} e => by
    unfold addc
    cases z : cs.lookup b with
    | none => exact e
    | some x => rw [(none_ z).1] at e; cases e
  have old : ∀ {b : Addr} {o : Obj}, s.heap.get? b = some o → addc cs H' b = H' b := fun {b o} e => by
    unfold addc
    cases z : cs.lookup b with
    | none => rfl
    | some x => exact absurd (Nat.lt_of_lt_of_le (Heap.lt_size e) (none_ z).2) (Nat.lt_irrefl _)
  have un : Un (frs outer) [] H H' s.heap s'.heap := I.base
  refine ⟨{ keep := un.keep, slot := un.slot, free := fun b o e n x => by rw [old e]; exact un.free b o e n x, there := un.there, tups := fun b xs e => out (un.tups b xs e), frzs := fun b o v e => out (un.frzs b o v e), tbls := fun b ps e => ?_ }, fun b o e => ?_⟩
  · obtain ⟨more, z⟩ := un.tbls b ps e
    exact ⟨more, out z⟩
  · cases z : cs.lookup b with
    | none =>
      have e' : H' b = some o := by
        unfold addc at e
        rw [z] at e
        exact e
      exact (I.hok b o e').stay (fun _ _ _ q => q) (fun c q => out q) fun c xs q => out q
    | some x =>
      have e' : some (CellO b x) = some o := by
        unfold addc at e
        rw [z] at e
        exact e
      cases e'
      obtain ⟨y, i, h1, h2, h3, h4⟩ := hc _ (mem_of_lookup' z)
      obtain ⟨m, hn, hl⟩ := I.loc
      obtain ⟨u, r, lk⟩ := hl i y x h3 h4 (.inr (.inl h2))
      rcases lk with ⟨k, _⟩ | ⟨_, c, e1, e2⟩
      · have k' : scope.names.lookup y = some .local := k
        rw [h2] at k'; cases k'
      · have : c = b := Option.some.inj (e1.symm.trans h1)
        subst this
        exact cellO_ok e2 r
end
section
variable {P : Program} {w : World} {K : PySem.W.Frag} {mg : Str → Option Value} {base : Heap} {k : Nat} {x qual : Str} {st : Stmt} {f : Addr} {fd : FuncData} {N ps : List Str} {sp : Sp} {c : Addr}
/-- a def that returns lambdas with what they captured of it -/
theorem ok_clo (F : Fun K x qual st f fd) (hcdv : ∃ oc od kV doc pm an ct osl, fd = PySem.W.fnOf x qual (defArgs st) (defBody st) (defScope st) .none kV doc pm an (.ref c) ct ∧ K.lookup f = some ⟨oc, od, .func fd, osl⟩ ∧ PySem.W.codeIn K (.ref c) qual = true) (S : FnScope N ps (defScope st)) (len : ∀ vs H Q E, sp vs H Q E → vs.length = ps.length)
    (walk : ∀ (A : Around) (outer : List Env) (s : Shared) (H : Hp) (vs : List V) (Q : VK) (E : XK), Room k (A.deeper (envOfC qual (defScope st) s.heap.objs.size f (.ref c))) → sp vs H Q E →
      ∃ t, PSr (cxOf CX0 P w K mg base N qual (defScope st) f (.ref c) A outer s H E0) (defBody st) t ∧
        t (fun v σ' H' => ∃ cs : List (Addr × V), (∀ p ∈ cs, ∃ (y : Str) (i : Nat), (cellsFrom (s.heap.objs.size + 1) (defScope st).names []).lookup y = some p.1 ∧ (defScope st).names.lookup y = some .cell ∧ N[i]? = some y ∧ σ'[i]? = some (some p.2)) ∧ ((∀ p ∈ cs, H' p.1 = none) → Q v (addc cs H'))) (start N vs) H) :
    FnOk P w K mg base CX0 (k + 1) f fd ps sp := by
  obtain ⟨oc, od, kV, doc, pm, an, ct, osl, rfl, lk, hcd⟩ := hcdv
  refine ⟨len, fun A outer s H args us vs Q E hr e0 hb r hsp => ?_⟩
  have hl := len vs H Q E hsp
  have inK : K.In s.heap := e0.mod.kin.keeps fun b o e => (e0.bs b o e).1
  have lim : s.heap.NoLimit := e0.mod.nolimit.keeps fun b o e => (e0.bs b o e).1
  have kinds : ∀ y ∈ ps.zip us, (defScope st).names.lookup y.1 = some .local ∨ ((defScope st).names.lookup y.1 = some .cell ∧ ((cellsFrom (s.heap.objs.size + 1) (defScope st).names []).lookup y.1).isSome = true) := by
    rintro ⟨n, v⟩ hy
    rcases S.par n (List.of_mem_zip hy).1 with z | z
    · exact .inl z
    · exact .inr ⟨z, PySem.W.cellsFrom_some _ _ _ (.inl z)⟩
  refine codeAny_call_function hr.depth (inK _ _ lk) rfl S.co S.gen rfl (PySem.W.codeRec_of inK hcd) (hb _ _ _ _ ?_)
  refine wpAny_newFunctionEnv_cells S.kind kinds fun env he s1 ic => ?_
  subst he
  refine ⟨lim.keeps ic.toInCall.keep, codeAny_func ?_⟩
  obtain ⟨t, ht, hq⟩ := walk A outer s H vs Q E (hr.deeper _) hsp
  have I : Inv (cxOf CX0 P w K mg base N qual (defScope st) f (.ref c) A outer s H E0) [] (start N vs) H s1 := inv_start S hr.hd e0 hl r ic
  refine wpAny_mono (ht.run [] s1 (start N vs) H _ I hq) (fun fl s' hs => ?_) fun e s' hs => hs
  obtain ⟨u, v, σ', H', rfl, J, rv, cs, hcs, q⟩ := hs
  obtain ⟨un, hk⟩ := close_ok J hcs
  exact ⟨v, addc cs H', J.os, J.bare, un, hk, rv, q fun p hp => by
    obtain ⟨y, i, h1, _⟩ := hcs p hp
    exact J.freeC y p.1 h1⟩
end
end Tb

namespace Tb
open PySem PySem.Spec PyProof.Rows L2
/-! ### several except clauses, each with «as n» -/
def endsBut (i : Nat) (D : Ends) : Ends := { nx := fun τ G => D.nx (τ.set i none) G, rt := D.rt, bk := fun τ G => D.bk (τ.set i none) G, ct := fun τ G => D.ct (τ.set i none) G }
def wishAs (K : PySem.W.Frag) (i : Nat) (Wo : WX) (D : Ends) : List (Value × (Addr → Value → Option Addr → TS)) → WX
  | [] => Wo
  | p :: r => fun cls d σ H => ∃ b, PySem.W.exmOne K cls p.1 = some b ∧ (b = true → ∀ a, H a = none → p.2 a cls d (endsBut i D) (σ.set i (some (.ref a))) H) ∧ (b = false → wishAs K i Wo D r cls d σ H)
inductive AsOk (X : Cx) (i : Nat) (n : Str) : List ExceptHandler → List (Value × (Addr → Value → Option Addr → TS)) → Prop
  | nil : AsOk X i n [] []
  | cons {x : Str} {c : Value} {ts : Addr → Value → Option Addr → TS} {b0 : Stmt} {rest : List Stmt} {np hp : Pos} {hs : List ExceptHandler} {l : List (Value × (Addr → Value → Option Addr → TS))} (nm : Names X x c)
      (su : ∀ (a : Addr) (oe : Obj) (cls : Value) (d : Option Addr) (pn : List (Addr × Obj)), Zc cls d oe → (∃ vs, oe.data = .fields vs) → PSs (X.suite a ((a, oe) :: pn)) (b0 :: rest) (ts a cls d)) (r : AsOk X i n hs l) :
      AsOk X i n (.ExceptHandler (some (.Name x np)) (some n) (b0 :: rest) hp :: hs) ((c, ts) :: l)
section
variable {X : Cx} {n : Str} {i : Nat} {body : List Stmt} {hd0 : ExceptHandler} {hds : List ExceptHandler} {l : List (Value × (Addr → Value → Option Addr → TS))} {pos : Pos} {tb : WX → TS} {Wo : WX}
theorem ps_try_ases (hs : X.stack = X.env :: X.outer) (hf : X.env.frame = some X.env.locals) (nd : X.N.Nodup) (hi : X.N[i]? = some n) (hk : X.env.kindOf n = some .local) (tk : Takes X Wo)
    (hb : ∀ (W : WX) (pn : List (Addr × Obj)) (xe : Value → Shared → Prop), Takes (X.tr pn xe) W → PassesOwn (model X.prog X.w) X.A X.env xe → PSs (X.tr pn xe) body (tb W)) (hh : AsOk X i n (hd0 :: hds) l) :
    PS X (.Try body (hd0 :: hds) [] [] pos) (fun D σ H => tb (wishAs X.K i Wo D l) D σ H) := by
  refine ⟨fun pins s σ H D I h => ?_⟩
  have okX := I.ok
  have fr : X.A.frames = some (X.env :: X.outer) := hs ▸ okX.frames
  have here : Loc X.env.scope n := .inl hk
  refine wpAny_Try_except ?_
  refine wpAny_mono ((hb (wishAs X.K i Wo D l) (X.pn ++ pins) (fun e s₁ => wpAny (model X.prog X.w) X.A (noteFrame e X.env) (fun _ s₂ => wpAny (model X.prog X.w) X.A (setFlight e none) (fun _ s₃ =>
    wpAny (model X.prog X.w) X.A (handleBy e X.env (hd0 :: hds)) (SP X pins D) X.xe s₃) X.xe s₂) X.xe s₁) (fun u s' air => ?_) PassesOwn.looking).run [] s σ H D (I.toTry _) h) (fun fl s1 sp => ?_) (fun _ _ z => z)
  · -- an error of the body
    obtain ⟨a, G, sG, pinsG, σG, HG, cls, d, rfl, JG, inG, upG, skyG, naG, osG, bareG, wG⟩ := air
    have J := JG.ofTry okX
    have sky2 : Sky G (X.env :: X.outer) a (Zc cls d) X.env.locals s'.heap := hs ▸ skyG
    refine Sky.land Zc.steady fr hf sky2 fun h3 fly3 up3 => ?_
    have J3 : Inv X pins σG HG { s' with heap := h3 } := J.landed inG fly3.1 (upG.trans up3) osG bareG
    obtain ⟨o3, v3, at3, z3, f3⟩ := fly3.there
    have apart : a ∉ frs (X.env :: X.outer) := fun hm => by
      obtain ⟨_, o', e', no⟩ := fly3.2.2.1.mem hm
      rw [at3] at e'
      cases e'
      exact no _ f3
    have aL : a ≠ X.env.locals := fun z => apart (List.mem_filterMap.mpr ⟨X.env, List.mem_cons_self, by rw [hf, z]⟩)
    have aF : a ∉ X.fs := fun hm => by
      obtain ⟨e, me, q⟩ := List.mem_filterMap.mp hm
      exact apart (List.mem_filterMap.mpr ⟨e, List.mem_cons_of_mem _ me, q⟩)
    have S3 := J3.suite at3 f3 naG aL aF
    have typed : PySem.W.Looks (model X.prog X.w) h3 (typeOf (.ref a)) cls := fun A' Q' E' t kk qq => wpAny_typeOf_ref (kk _ _ at3) (by rw [z3.1]; exact qq)
    have walk : ∀ {hl : List ExceptHandler} {ls : List (Value × (Addr → Value → Option Addr → TS))}, AsOk X i n hl ls → wishAs X.K i Wo D ls cls d σG HG → wpAny (model X.prog X.w) X.A (handleBy (.ref a) X.env hl) (SP X pins D) X.xe { s' with heap := h3 } := by
      intro hl ls ok
      induction ok with
      | nil =>
        intro wish
        refine wpAny_handleBy_nil ?_
        obtain ⟨g1, g2, g3, oe, vs, T, oT, tr, ge, gz, gd, gT, gr⟩ := id fly3
        unfold PySem.passOn
        refine wpAny_bind (wpAny_field ge gd gT ?_)
        rw [if_neg (show ¬ ((Value.ref T == Value.none) = true) by simp)]
        have onward : wpAny (model X.prog X.w) X.A (setFlight (.ref a) X.env.frame) (fun _ t => wpAny (model X.prog X.w) X.A (throw (.ref a) : Sem Flow) (SP X pins D) X.xe t) X.xe { s' with heap := h3 } := by
          rw [hf]
          exact HandSPX.setFlight_upZ fly3 fun h4 held up4 => wpAny_throw (tk _ _ ⟨a, G, sG, pins, σG, HG, cls, d, rfl, J, inG, (upG.trans up3).trans up4, .inr (.inr (hs ▸ held)), naG, osG, bareG, wish⟩)
        first
          | exact wpAny_bind (wpAny_pure (wpAny_bind onward))
          | exact wpAny_bind onward
      | @cons x c ts b0 rest np hp hs2 l2 nm su r ih =>
        intro wish
        obtain ⟨b, em, yes, no⟩ := wish
        refine wpAny_handleBy_cons (codeAny_handlers_test ?_) (by intro z; cases z)
        have matched := PySem.W.exm_one (M := model X.prog X.w) J3.kIn typed em
        have named : ∀ {Q' : Value → Shared → Prop} {E' : Value → Shared → Prop}, Q' c { s' with heap := h3 } → wpAny (model X.prog X.w) (X.A.mark (some (.ref a))) (eval (.Name x np) X.env) Q' E' { s' with heap := h3 } := fun {Q' E'} qq => by
          obtain ⟨g, dbg, z⟩ := nm
          rcases z with z | ⟨z1, z2, z3⟩
          · exact ld_glob (X := X.suite a ((a, o3) :: (X.pn ++ pins))) S3 g z qq dbg
          · exact ld_blt (X := X.suite a ((a, o3) :: (X.pn ++ pins))) S3 g z1 z2 qq z3 dbg
        refine named (matched.here ?_)
        cases b with
        | false =>
          show wpAny _ X.A (handleBy (.ref a) X.env hs2) _ _ _
          exact ih (no rfl)
        | true =>
          refine codeAny_handlers_suite_as (HandSPX.lands_againZ fly3 fun h4 fly4 up4 => ?_)
          have J4 : Inv X pins σG HG { s' with heap := h4 } := J.landed inG fly4.1 ((upG.trans up3).trans up4) osG bareG
          obtain ⟨o4, v4, at4, z4, f4⟩ := fly4.there
          have S4 := J4.suite at4 f4 naG aL aF
          refine store_ok (X := X.suite a ((a, o4) :: (X.pn ++ pins))) (v := .ref a) S4 nd hi here rfl (fun s5 S5 => ?_) (.inr hk)
          refine wpAny_mono ((su a o4 cls d (X.pn ++ pins) z4 ⟨_, f4⟩).run [] s5 _ HG _ S5 (yes rfl a naG)) (fun fl s6 sp => ?_) (fun _ _ z => z.elim)
          have off : ∀ {τ : L2.St} {G6 : Hp} {Q' : Shared → Prop}, Inv (X.suite a ((a, o4) :: (X.pn ++ pins))) [] τ G6 s6 → (∀ s7, Inv X pins (τ.set i none) G6 s7 → Q' s7) →
              wpAny (model X.prog X.w) X.A (do bindName X.env n .none; unbindBehindTheSuite X.env n hp) (fun _ s7 => Q' s7) X.xe s6 := fun {τ G6 Q'} J6 g => gone_ok (J6.unsuite okX) nd hi hk g
          cases fl with
          | next =>
            obtain ⟨τ, G6, J6, g⟩ := sp
            exact off J6 fun s7 J7 => ⟨_, _, J7, g⟩
          | brk =>
            obtain ⟨τ, G6, J6, g⟩ := sp
            exact off J6 fun s7 J7 => ⟨_, _, J7, g⟩
          | cont =>
            obtain ⟨τ, G6, J6, g⟩ := sp
            exact off J6 fun s7 J7 => ⟨_, _, J7, g⟩
          | ret u =>
            obtain ⟨v, τ, G6, J6, rv, g⟩ := sp
            exact off J6 fun s7 J7 => ⟨_, _, _, J7, rv, g⟩
    exact walk hh wG
  · cases fl with
    | next =>
      obtain ⟨τ, G1, J1, g⟩ := sp
      exact wpAny_execs_nil ⟨τ, G1, J1.ofTry okX, g⟩
    | brk =>
      obtain ⟨τ, G1, J1, g⟩ := sp
      exact ⟨τ, G1, J1.ofTry okX, g⟩
    | cont =>
      obtain ⟨τ, G1, J1, g⟩ := sp
      exact ⟨τ, G1, J1.ofTry okX, g⟩
    | ret u =>
      obtain ⟨v, τ, G1, J1, rv, g⟩ := sp
      exact ⟨v, τ, G1, J1.ofTry okX, rv, g⟩
end
/-- isinstance(e, a class of the program), e what the suite holds -/
def rIsErr (K : PySem.W.Frag) (a : Addr) (cls : Value) (d : Option Addr) : List V → Hp → VK → Prop := fun xs H Q => ∃ (D dd B : Addr) (fs : List (Str × V)) (b : Bool), cls = .ref D ∧ d = some dd ∧ ErrC K D ∧ xs = [.ref a, .ref B] ∧ H dd = some (.xd fs) ∧ PySem.W.kitOne K (.ref D) (.ref B) = some b ∧ Q (.bl b) H
theorem cr_isErr {X : Cx} {a : Addr} {cls : Value} {d : Option Addr} {oe : Obj} {pn : List (Addr × Obj)} (hz : Zc cls d oe) (hf : ∃ vs, oe.data = .fields vs) : CallR (X.suite a ((a, oe) :: pn)) (.builtin "isinstance") (rIsErr X.K a cls d) := by
  intro pins s σ H xs us Q I r h
  obtain ⟨D, dd, B, fs, b, ec, ed, C, rfl, hdd, e, q⟩ := h
  subst ec ed
  exact call_isErr C hz hf pins s σ H [.ref a, .ref B] us Q I r ⟨B, fs, b, rfl, hdd, e, q⟩
end Tb

namespace Tb
open PySem PySem.Spec PyProof.Rows L2
def top (i : Nat) : Stmt := PySem.Challenge.pw_partsmet_k30_tables_refused.main.body.getD i (.Pass ⟨0, 0, 0, 0⟩)
abbrev s_is_integer : Stmt := top 1
abbrev s_is_count : Stmt := top 2
abbrev s_is_count_below : Stmt := top 3
abbrev s_is_list : Stmt := top 4
abbrev s_is_table : Stmt := top 11
abbrev s_table_parts : Stmt := top 12
abbrev s_needed : Stmt := top 13
abbrev s_all_lists : Stmt := top 14
abbrev s_has_single_lists : Stmt := top 15
abbrev s_two_lists : Stmt := top 16
abbrev s_meet : Stmt := top 17
abbrev s_is_distributive : Stmt := top 18
abbrev s_has_differences : Stmt := top 19
abbrev s_table_difference : Stmt := top 20
abbrev s_two_differences : Stmt := top 21
abbrev s_check_table : Stmt := top 22
abbrev s_check_number : Stmt := top 23
abbrev s_has_table_form : Stmt := top 24
abbrev s_is_row : Stmt := top 25
abbrev s_keeps_join_rules : Stmt := top 26
abbrev s_lies_within : Stmt := top 27
abbrev s_states_within : Stmt := top 28
abbrev s_without : Stmt := top 29
abbrev s_joined_numbers : Stmt := top 30
abbrev s_joins_to : Stmt := top 31
abbrev s_is_part_in : Stmt := top 32
abbrev s_parts_in : Stmt := top 33
abbrev s_parts_below : Stmt := top 34
abbrev s_is_list_of : Stmt := top 35
abbrev s_lists_of : Stmt := top 36
abbrev s_meet_of : Stmt := top 37
abbrev s_meet_rows : Stmt := top 38
abbrev s_differences_of : Stmt := top 39
abbrev s_least_difference : Stmt := top 40
abbrev s_bare_differences : Stmt := top 41
abbrev s__law_pot : Stmt := top 43
abbrev s__law_draw : Stmt := top 44
abbrev s__law_heard : Stmt := top 45
abbrev s__law_are : Stmt := top 46
abbrev s__law_alone : Stmt := top 47
abbrev s__law_one : Stmt := top 48
abbrev s__law_two : Stmt := top 49
abbrev s__law_right : Stmt := top 50
abbrev s_law : Stmt := top 51
abbrev fnNames : List String := ["is_integer", "is_count", "is_count_below", "is_list", "is_table", "table_parts", "needed", "all_lists", "has_single_lists", "two_lists", "meet", "is_distributive", "has_differences", "table_difference", "two_differences", "check_table", "check_number", "has_table_form", "is_row", "keeps_join_rules", "lies_within", "states_within", "without", "joined_numbers", "joins_to", "is_part_in", "parts_in", "parts_below", "is_list_of", "lists_of", "meet_of", "meet_rows", "differences_of", "least_difference", "bare_differences", "_law_pot", "_law_draw", "_law_heard", "_law_are", "_law_alone", "_law_one", "_law_two", "_law_right", "law"]
abbrev blNames : List String := ["isinstance", "int", "bool", "list", "tuple", "len", "all", "any", "range", "abs", "sum", "max", "divmod", "sorted", "set", "repr", "enumerate", "ValueError"]
end Tb

namespace Tb
open PySem PySem.Spec PyProof.Rows L2
/-- what the module's names hold -/
structure Tx (mg : Str → Option Value) (f : String → Addr) : Prop where
  fn : ∀ x ∈ fnNames, mg (Str.ofString x) = some (.ref (f x))
  bl : ∀ x ∈ blNames, mg (Str.ofString x) = none
  most : ∃ t, mg "MOST_STATES" = some (.int 8 t)
section
variable {P : Program} {w : World} {K : PySem.W.Frag} {mg : Str → Option Value} {base : Heap} {f : String → Addr} {a : Addr} {fd g1 g2 g3 g4 : FuncData}

theorem pe_ty {X : Cx} {x : Str} {n : String} {pos : Pos} (hg : Gl X x) (hm : X.mg x = none) (hv : bootBuiltins x = some (.type n)) (hn : x ≠ "__name__" := by decide) (hdb : (x == ("__debug__" : Str)) = false := by decide) : PE X (.Name x pos) (tC (.ty n)) := pe_bltn (v := .ty n) hg hm hv rfl hn hdb

/-! ### is_integer, is_count, is_count_below, is_list -/
def spIs (K : PySem.W.Frag) (b : PyData → Bool) : Sp := fun vs H Q _ => ∃ x d, vs = [x] ∧ Rp K H x d ∧ ∀ H', Kp H H' → Q (.bl (b d)) H'
def spBel (K : PySem.W.Frag) (b : PyData → Int → Bool) : Sp := fun vs H Q _ => ∃ x d n, vs = [x, .int n] ∧ Rp K H x d ∧ ∀ H', Kp H H' → Q (.bl (b d n)) H'
def isC : PyData → Bool
  | .int i => decide (0 ≤ i)
  | _ => false
def isBel : PyData → Int → Bool
  | .int i, n => decide (0 ≤ i) && decide (i < n)
  | _, _ => false
theorem sc1 : FnScope ["value"] ["value"] (defScope s_is_integer) := ⟨rfl, rfl, rfl, by decide +kernel, rfl, by decide +kernel, by decide +kernel⟩
theorem sc2 : FnScope ["value"] ["value"] (defScope s_is_count) := ⟨rfl, rfl, rfl, by decide +kernel, rfl, by decide +kernel, by decide +kernel⟩
theorem sc3 : FnScope ["value", "bound"] ["value", "bound"] (defScope s_is_count_below) := ⟨rfl, rfl, rfl, by decide +kernel, rfl, by decide +kernel, by decide +kernel⟩
theorem sc4 : FnScope ["value"] ["value"] (defScope s_is_list) := ⟨rfl, rfl, rfl, by decide +kernel, rfl, by decide +kernel, by decide +kernel⟩
theorem bi_isi : bootBuiltins "isinstance" = some (.builtin "isinstance") := by decide +kernel
theorem bi_int : bootBuiltins "int" = some (.type "int") := by decide +kernel
theorem bi_bool : bootBuiltins "bool" = some (.type "bool") := by decide +kernel
theorem bi_list : bootBuiltins "list" = some (.type "list") := by decide +kernel
theorem bi_tuple : bootBuiltins "tuple" = some (.type "tuple") := by decide +kernel
theorem ok1 (T : Tx mg f) (F : Fun K "is_integer" "is_integer" s_is_integer a fd) : FnOk P w K mg base CX0 1 a fd ["value"] (spIs K isI) := by
  refine F.ok sc1 (fun vs H Q E h => ?_) (fun cdv A outer s H vs Q E hr h => ?_)
  · obtain ⟨x, d, rfl, _⟩ := h
    rfl
  obtain ⟨x, d, rfl, hd, q⟩ := h
  refine ⟨_, pss_one (ps_ret (pe_and (pe_callB call_isi rfl (T.bl "isinstance" (by decide)) bi_isi (pa_cons (pv 0) (pa_cons (pe_ty rfl (T.bl "int" (by decide)) bi_int) pa_nil)))
    (pe_one (pe_not (pe_callB call_isi rfl (T.bl "isinstance" (by decide)) bi_isi (pa_cons (pv 0) (pa_cons (pe_ty rfl (T.bl "bool" (by decide)) bi_bool) pa_nil))))))), ?_⟩
  refine ⟨_, rfl, x, .ty "int", _, _, _, rfl, .ty "int", tyX_of hd, kit_int d, _, rfl, ite2 (fun c => ?_) (fun c => ?_)⟩
  · refine ⟨_, rfl, x, .ty "bool", _, _, _, rfl, .ty "bool", tyX_of hd, kit_bool d, _, rfl, ?_⟩
    have e : isI d = !isB d := by cases d <;> first | rfl | cases c
    have := q H (Kp.refl H)
    rw [e] at this
    exact this
  · have e : isI d = false := by cases d <;> first | rfl | exact absurd rfl c
    have := q H (Kp.refl H)
    rw [e] at this
    exact this
theorem ok4 (T : Tx mg f) (F : Fun K "is_list" "is_list" s_is_list a fd) : FnOk P w K mg base CX0 1 a fd ["value"] (spIs K isSq) := by
  refine F.ok sc4 (fun vs H Q E h => ?_) (fun cdv A outer s H vs Q E hr h => ?_)
  · obtain ⟨x, d, rfl, _⟩ := h
    rfl
  obtain ⟨x, d, rfl, hd, q⟩ := h
  refine ⟨_, pss_one (ps_ret (pe_callB call_isiT rfl (T.bl "isinstance" (by decide)) bi_isi (pa_cons (pv 0) (pa_cons (pe_tup (pa_cons (pe_ty rfl (T.bl "list" (by decide)) bi_list) (pa_cons (pe_ty rfl (T.bl "tuple" (by decide)) bi_tuple) pa_nil))) pa_nil)))), ?_⟩
  refine ⟨_, rfl, (by show 2 ≤ sizeLine; decide), fun t ht => ?_⟩
  have k := Kp.new (o := .tup [.ty "list", .ty "tuple"]) ht
  exact ⟨x, t, _, _, _, _, rfl, upd_same, .cons (.ty _) (.cons (.ty _) .nil), tyX_of (hd.kp k), kit_seq d, q _ k⟩
theorem ok2 (T : Tx mg f) (F : Fun K "is_count" "is_count" s_is_count a fd) (G : FnOk P w K mg base CX0 1 (f "is_integer") g1 ["value"] (spIs K isI)) (B : Binds K g1 ["value"] []) (kp : PySem.W.keepIn K (.ref (f "is_integer")) = true) : FnOk P w K mg base CX0 2 a fd ["value"] (spIs K isC) := by
  refine F.ok sc2 (fun vs H Q E h => ?_) (fun cdv A outer s H vs Q E hr h => ?_)
  · obtain ⟨x, d, rfl, _⟩ := h
    rfl
  obtain ⟨x, d, rfl, hd, q⟩ := h
  refine ⟨_, pss_one (ps_ret (pe_and (pe_call G hr rfl (T.fn "is_integer" (by decide)) kp B .nil pass0 (pa_cons (pv 0) pa_nil)) (pe_one (pe_cmpR op_ge (pv 0) pe_int (nomark _))))), ?_⟩
  refine ⟨_, rfl, x, d, rfl, hd, fun H1 k1 => ⟨_, rfl, ite2 (fun c => ?_) (fun c => ?_)⟩⟩
  · cases d <;> first | cases c | skip
    cases hd
    exact ⟨_, rfl, _, _, rfl, rfl, q H1 k1⟩
  · have e : isC d = false := by cases d <;> first | rfl | exact absurd rfl c
    have := q H1 k1
    rw [e] at this
    exact this
theorem ok3 (T : Tx mg f) (F : Fun K "is_count_below" "is_count_below" s_is_count_below a fd) (G : FnOk P w K mg base CX0 2 (f "is_count") g1 ["value"] (spIs K isC)) (B : Binds K g1 ["value"] []) (kp : PySem.W.keepIn K (.ref (f "is_count")) = true) : FnOk P w K mg base CX0 3 a fd ["value", "bound"] (spBel K isBel) := by
  refine F.ok sc3 (fun vs H Q E h => ?_) (fun cdv A outer s H vs Q E hr h => ?_)
  · obtain ⟨x, d, n, rfl, _⟩ := h
    rfl
  obtain ⟨x, d, n, rfl, hd, q⟩ := h
  refine ⟨_, pss_one (ps_ret (pe_and (pe_call G hr rfl (T.fn "is_count" (by decide)) kp B .nil pass0 (pa_cons (pv 0) pa_nil)) (pe_one (pe_cmpR op_lt (pv 0) (pv 1) (nomark _))))), ?_⟩
  refine ⟨_, rfl, x, d, rfl, hd, fun H1 k1 => ⟨_, rfl, ite2 (fun c => ?_) (fun c => ?_)⟩⟩
  · cases d <;> first | cases c | skip
    rename_i i
    cases hd
    have e : isBel (.int i) n = decide (i < n) := by
      have c' : decide (0 ≤ i) = true := c
      show (decide (0 ≤ i) && decide (i < n)) = _
      rw [c', Bool.true_and]
    have := q H1 k1
    rw [e] at this
    exact ⟨_, rfl, _, rfl, _, _, rfl, rfl, this⟩
  · have e : isBel d n = false := by
      cases d <;> first | rfl | skip
      rename_i i
      have c' : decide (0 ≤ i) = false := Bool.eq_false_iff.mpr c
      show (decide (0 ≤ i) && decide (i < n)) = _
      rw [c', Bool.false_and]
    have := q H1 k1
    rw [e] at this
    exact this
end
end Tb

namespace Tb
open PySem PySem.Spec PyProof.Rows L2
/-- a def whose code object is told -/
structure FunC (K : PySem.W.Frag) (x qual : Str) (st : Stmt) (f : Addr) (fd : FuncData) (c : Addr) : Prop where
  ex : ∃ (oc : Value) (od : Option Addr) (kV doc pm : Value) (an : Option Addr) (ct : Value) (osl : Array (Option Value)),
    fd = PySem.W.fnOf x qual (defArgs st) (defBody st) (defScope st) .none kV doc pm an (.ref c) ct ∧ K.lookup f = some ⟨oc, od, .func fd, osl⟩ ∧ PySem.W.codeIn K (.ref c) qual = true
  kp : PySem.W.keepIn K (.ref f) = true
section
variable {P : Program} {w : World} {K : PySem.W.Frag} {mg : Str → Option Value} {base : Heap}
theorem FunC.ok {x qual : Str} {st : Stmt} {f c : Addr} {fd : FuncData} {N ps : List Str} {k : Nat} {sp : Sp} (F : FunC K x qual st f fd c) (S : FnScope N ps (defScope st)) (len : ∀ vs H Q E, sp vs H Q E → vs.length = ps.length)
    (hb : ∀ (A : Around) (outer : List Env) (s : Shared) (H : Hp) (vs : List V) (Q : VK) (E : XK), Room k (A.deeper (envOfC qual (defScope st) s.heap.objs.size f (.ref c))) → sp vs H Q E →
      ∃ t, PSs (cxOf CX0 P w K mg base N qual (defScope st) f (.ref c) A outer s H E).nox (defBody st) t ∧ t { nx := fun _ H' => Q .non H', rt := Q } (start N vs) H) : FnOk P w K mg base CX0 (k + 1) f fd ps sp := by
  obtain ⟨oc, od, kV, doc, pm, an, ct, osl, rfl, lk, hcd⟩ := F.ex
  refine fn_of lk hcd S len fun A outer s H vs Q E hr h => ?_
  obtain ⟨t, h1, h2⟩ := hb A outer s H vs Q E hr h
  exact ⟨t, h1.nox, h2⟩
theorem FunC.fn {x qual : Str} {st : Stmt} {f c : Addr} {fd : FuncData} (F : FunC K x qual st f fd c) : Fun K x qual st f fd := by
  obtain ⟨oc, od, kV, doc, pm, an, ct, osl, h1, lk, hcd⟩ := F.ex
  exact ⟨⟨oc, od, kV, doc, pm, an, .ref c, ct, osl, h1, lk, hcd⟩, F.kp⟩
end
def gscpC (N : List Str) (sc scope : Scope) (x : Str) (ix : Nat) : Bool :=
  decide (scope.kind = .function) && !scope.isCoroutine && decide (scope.names.lookup (".0" : Str) = some NameKind.local) && decide (scope.names.lookup x = some .local) && decide (N[ix]? = some x) && !(N.contains (".0" : Str)) && decide N.Nodup &&
    scope.names.all fun p => !decide (p.2 = .cell) && (!decide (p.2 = .local) || p.1 == (".0" : Str) || p.1 == x) && (!decide (p.2 = .free) || decide (sc.names.lookup p.1 = some .cell) || decide (sc.names.lookup p.1 = some .free))
theorem gscp_by {N : List Str} {sc scope : Scope} {x : Str} {ix : Nat} (h : gscpC N sc scope x ix = true) : Gx.GScp N sc scope x ix := by
  unfold gscpC at h
  simp only [Bool.and_eq_true, decide_eq_true_eq, Bool.not_eq_true', List.all_eq_true, Bool.or_eq_true, beq_iff_eq, decide_eq_false_iff_not] at h
  obtain ⟨⟨⟨⟨⟨⟨⟨h1, h2⟩, h3⟩, h4⟩, h5⟩, h6⟩, h7⟩, h8⟩ := h
  refine ⟨h1, h2, fun y hy => (h8 y hy).1.1, h3, fun y hy => ?_, h4, fun y hy e => ?_, h7, h5, fun hm => ?_⟩
  · rcases (h8 _ (PySem.mem_of_lookup hy)).1.2 with (z | z) | z
    · exact absurd rfl z
    · exact .inl z
    · exact .inr z
  · rcases (h8 y hy).2 with (z | z) | z
    · exact absurd e z
    · exact .inl z
    · exact .inr z
  · rw [List.contains_iff_mem.mpr hm] at h6
    cases h6
section
variable {P : Program} {w : World} {K : PySem.W.Frag} {mg : Str → Option Value} {base : Heap} {f : String → Addr} {a c Pt : Addr} {fd g1 g2 g3 g4 : FuncData}
/-! ### is_row -/
def rowOk (d : PyData) (n : Int) : Bool := isSq d && decide (((kids d).length : Int) = n) && (kids d).all (isBel · n)
def spRow (K : PySem.W.Frag) (Pt : Addr) : Sp := fun vs H Q _ => ∃ x d n, vs = [x, .int n] ∧ Rp K H x d ∧ GxR.TabG H Pt ∧ ∀ H', Kp H H' → Q (.bl (rowOk d n)) H'
theorem sc9 : FnScope ["value", "many", "number"] ["value", "many"] (defScope s_is_row) := ⟨rfl, rfl, rfl, by decide +kernel, rfl, by decide +kernel, by decide +kernel⟩
theorem all_take {α : Type} (p : α → Bool) (l : List α) (i : Nat) (x : α) (h : l[i]? = some x) : (l.take (i + 1)).all p = ((l.take i).all p && p x) := by
  rw [List.take_add_one, h, List.all_append]
  simp
theorem all_false {α : Type} (p : α → Bool) (l : List α) (i : Nat) (x : α) (h : l[i]? = some x) (hp : p x = false) : l.all p = false := by
  cases q : l.all p with
  | false => rfl
  | true =>
    have := List.all_eq_true.mp q x (List.mem_of_getElem? h)
    rw [hp] at this; cases this
theorem ok9 (T : Tx mg f) (F : FunC K "is_row" "is_row" s_is_row a fd c) (TB : GxR.TabB base mg c Pt) (G4 : FnOk P w K mg base CX0 1 (f "is_list") g1 ["value"] (spIs K isSq)) (B4 : Binds K g1 ["value"] []) (kp4 : PySem.W.keepIn K (.ref (f "is_list")) = true)
    (G3 : FnOk P w K mg base CX0 3 (f "is_count_below") g2 ["value", "bound"] (spBel K isBel)) (B3 : Binds K g2 ["value", "bound"] []) (kp3 : PySem.W.keepIn K (.ref (f "is_count_below")) = true) :
    FnOk P w K mg base CX0 5 a fd ["value", "many"] (spRow K Pt) := by
  refine F.ok sc9 (fun vs H Q E h => ?_) (fun A outer s H vs Q E hr h => ?_)
  · obtain ⟨x, d, n, rfl, _⟩ := h
    rfl
  obtain ⟨x, d, n, rfl, hd, hP, q⟩ := h
  refine ⟨_, pss_cons (ps_if (PW.pt (pw_or (pt_not (pt_val (pe_call G4 (hr.mono (by decide)) rfl (T.fn "is_list" (by decide)) kp4 B4 .nil pass0 (pa_cons (pv 0) pa_nil))))
      (pw_or1 (pt_cmpR op_ne (pe_callB call_len_seq rfl (T.bl "len" (by decide)) PySem.boot_len (pa_cons (pv 0) pa_nil)) (pv 1) (nomark _))))) (pss_one (ps_ret pe_bl)) pss_nil)
    (pss_one (ps_ret (Gx.pe_all (k := 3) (ix := 2) hr rfl (T.bl "all" (by decide)) TB rfl (gscp_by (by change gscpC ["value", "many", "number"] (defScope s_is_row) _ _ _ = true; decide +kernel)) (pi_sq (pv 0)) (fun _ _ _ _ _ => pg_name (i := 2) sc9.nd rfl (Or.inl rfl))
      (fun _ _ _ _ _ hr' => pe_call G3 hr' rfl (T.fn "is_count_below" (by decide)) kp3 B3 .nil pass0 (pa_cons (pv 2) (pa_cons (pv 1) pa_nil))) (fun _ => rfl)))), ?_⟩
  refine ⟨_, rfl, x, d, rfl, hd, fun H1 k1 => ⟨_, rfl, ?_⟩⟩
  have hd1 := hd.kp k1
  refine ite2 (fun c1 => ite2 (fun _ => ?_) (fun c => absurd rfl c)) (fun c1 => ?_)
  · have e : rowOk d n = false := by
      have : isSq d = false := by simpa using c1
      unfold rowOk
      rw [this]; rfl
    have := q H1 k1
    rw [e] at this
    exact this
  have hs : isSq d = true := by simpa using c1
  obtain ⟨p, xs, rfl, sq, rl⟩ := hd1.sq hs
  have ln : xs.length = (kids d).length := rl.length
  refine ⟨_, rfl, p, xs, rfl, sq, _, rfl, rfl, _, rfl, ite2 (fun c2 => ?_) (fun c2 => ?_)⟩
  · have e : rowOk d n = false := by
      have : ¬ ((xs.length : Int) = n) := by simpa using c2
      unfold rowOk
      rw [← ln, decide_eq_false this, hs]; rfl
    have := q H1 k1
    rw [e] at this
    exact this
  have hn : (xs.length : Int) = n := by simpa using c2
  refine ⟨_, rfl, p, xs, rfl, ?_⟩
  refine rd_all (fun i H' => Kp H1 H' ∧ ((kids d).take i).all (isBel · n) = true) sq (k1.tab _ hP) (fun H2 t => ⟨Kp.tabbed (k1.tab _ hP) t, rfl⟩) (fun i H' _ v => v.1) (fun i y H' hy v => ?_) (fun H' v => ?_)
  · obtain ⟨dy, hdy, ry⟩ := (rl.kp v.1).get hy
    refine ⟨y, rfl, .int n, rfl, y, dy, n, rfl, ry, fun H2 k2 => ⟨_, rfl, ite2 (fun c3 => ?_) (fun c3 => ?_)⟩⟩
    · refine ⟨v.1.trans k2, ?_⟩
      rw [all_take _ _ _ _ hdy, v.2, c3]; rfl
    · have e : rowOk d n = false := by
        unfold rowOk
        rw [all_false _ _ _ _ hdy (Bool.eq_false_iff.mpr c3), Bool.and_false]
      have := q H2 (k1.trans (v.1.trans k2))
      rw [e] at this
      exact this
  · have e : rowOk d n = true := by
      unfold rowOk
      have := v.2
      rw [ln, List.take_length] at this
      rw [this, hs, ← ln, decide_eq_true hn]; rfl
    have := q H' (k1.trans v.1)
    rw [e] at this
    exact this
end
end Tb

namespace Tb
open PySem PySem.Spec PyProof.Rows L2
/-! ### ranges kept -/
theorem cr_range1 {X : Cx} : CallR X (.type "range") (fun vs H Q => ∃ j, vs = [V.int j] ∧ ∀ p, H p = none → Q (.ref p) (upd H p (.rng 0 j))) := by
  intro pins s σ H vs us Q I r h
  obtain ⟨j, rfl, q⟩ := h
  obtain ⟨u, rfl, t, rfl⟩ := r.one
  refine call_range_1 ⟨.ref s.heap.objs.size, upd H s.heap.objs.size (.rng 0 j), I.laid (t' := s.toks + 1 + 1) (fun b o e => Heap.get?_push_of_some _ e) (Nat.le_refl _) ?_, rfl, q _ (I.hok.fresh (Nat.le_refl _))⟩
  exact ⟨_, _, _, Heap.get?_push_size _ rfl⟩
def iRo (tl : TE) : TI := fun σ H R => tl σ H fun x H1 => ∃ a lo hi, x = .ref a ∧ H1 a = some (.rng lo hi) ∧ (-(2 ^ 62) ≤ lo ∧ lo < 2 ^ 62 ∧ -(2 ^ 62) ≤ hi ∧ hi < 2 ^ 62) ∧ R (Itr lo (hi - lo).toNat) H1
theorem pi_ro {X : Cx} {tg l : Expr} {tl : TE} (hl : PE X l tl) : PI X tg l (iRo tl) := by
  refine ⟨fun pins s σ H R I h => ?_⟩
  refine thn (hl.run pins s σ H _ I h) fun u s1 h1 => ?_
  obtain ⟨x, H1, I1, r1, a, lo, hi, rfl, hr, ⟨b1, b2, b3, b4⟩, q⟩ := h1
  cases r1
  obtain ⟨t, u, v, ho⟩ := I1.hok _ _ hr
  refine wpAny_pyIter_range (show IsRange s1.heap a lo hi 1 t u v from ho) (small_one b1 b2 b3 b4) ?_
  refine ⟨s1.heap.objs.size, [s1.heap.objs.size], _, _, H1, rfl, I1.kept (t' := s1.toks) fun b o e => Heap.get?_push_of_some _ e, turn_range _ lo (hi - lo).toNat, ?_, fun b hb => ?_, q⟩
  · have e1 : lo + ((0 : Nat) : Int) * 1 = lo := by simp
    have e2 : (((hi - lo).toNat : Nat) : Int) - ((0 : Nat) : Int) = Builtin.Range.rangeSize lo hi 1 := by
      rw [rangeSize_one]
      split <;> omega
    show IsRangeIter _ _ (lo + ((0 : Nat) : Int) * 1) ((((hi - lo).toNat : Nat) : Int) - ((0 : Nat) : Int)) 1
    rw [e1, e2]
    exact Heap.get?_push_size _ rfl
  · rw [List.mem_singleton.mp hb]
    exact I1.fpOk (Nat.le_refl _) (I1.hok.fresh (Nat.le_refl _))

/-! ### the matrix -/
def rowAt (d : PyData) (i : Nat) : PyData := (kids d).getD i .none
def cell (d : PyData) (i j : Nat) : Int := match (kids (rowAt d i)).getD j .none with
  | .int z => z
  | _ => 0
def formOk (d : PyData) : Bool := isSq d && decide (1 ≤ (kids d).length) && decide ((kids d).length ≤ 8) && (kids d).all (rowOk · ((kids d).length : Int))
structure Mx (d : PyData) (n : Nat) : Prop where
  sq : isSq d = true
  len : (kids d).length = n
  pos : 1 ≤ n
  le : n ≤ 8
  row : ∀ i, i < n → isSq (rowAt d i) = true ∧ (kids (rowAt d i)).length = n
  cel : ∀ i j, i < n → j < n → (kids (rowAt d i)).getD j .none = .int (cell d i j) ∧ 0 ≤ cell d i j ∧ cell d i j < n
theorem bel_int {d : PyData} {n : Int} (h : isBel d n = true) : ∃ z, d = .int z ∧ 0 ≤ z ∧ z < n := by
  cases d with
  | int z =>
    have h' : (decide (0 ≤ z) && decide (z < n)) = true := h
    simp only [Bool.and_eq_true, decide_eq_true_eq] at h'
    exact ⟨z, rfl, h'.1, h'.2⟩
  | _ => cases h
theorem getD_mem {α : Type} {l : List α} {i : Nat} {x : α} (h : i < l.length) : l.getD i x ∈ l := by
  rw [List.getD_eq_getElem?_getD, List.getElem?_eq_getElem h]
  exact List.getElem_mem h
theorem mx_of {d : PyData} (h : formOk d = true) : Mx d (kids d).length := by
  unfold formOk at h
  simp only [Bool.and_eq_true, decide_eq_true_eq] at h
  obtain ⟨⟨⟨h1, h2⟩, h3⟩, h4⟩ := h
  have rows : ∀ i, i < (kids d).length → rowOk (rowAt d i) ((kids d).length : Int) = true := fun i hi => List.all_eq_true.mp h4 _ (getD_mem hi)
  have r2 : ∀ i, i < (kids d).length → isSq (rowAt d i) = true ∧ (kids (rowAt d i)).length = (kids d).length ∧ (kids (rowAt d i)).all (isBel · ((kids d).length : Int)) = true := fun i hi => by
    have := rows i hi
    unfold rowOk at this
    simp only [Bool.and_eq_true, decide_eq_true_eq] at this
    exact ⟨this.1.1, by omega, this.2⟩
  refine ⟨h1, rfl, h2, h3, fun i hi => ⟨(r2 i hi).1, (r2 i hi).2.1⟩, fun i j hi hj => ?_⟩
  obtain ⟨_, hl, ha⟩ := r2 i hi
  obtain ⟨z, e, z0, zn⟩ := bel_int (List.all_eq_true.mp ha _ (getD_mem (x := PyData.none) (show j < (kids (rowAt d i)).length by omega)))
  have ec : cell d i j = z := by
    unfold cell
    rw [e]
  rw [ec]
  exact ⟨e, z0, zn⟩
def JR (d : PyData) (n : Nat) : Prop := ∀ i, i < n → cell d i i = i ∧ cell d i 0 = i ∧ ∀ j, j < n → cell d i j = cell d j i ∧ ∀ k, k < n → cell d (cell d i j).toNat k = cell d i (cell d j k).toNat

variable {K : PySem.W.Frag}
theorem RpL.at {H : Hp} {ds : List PyData} {vs : List V} {i : Nat} (h : RpL K H vs ds) (hi : i < ds.length) : ∃ v, vs[i]? = some v ∧ Rp K H v (ds.getD i .none) := by
  have hl := h.length
  have hi' : i < vs.length := by omega
  obtain ⟨e, he, r⟩ := h.get (List.getElem?_eq_getElem hi')
  refine ⟨_, List.getElem?_eq_getElem hi', ?_⟩
  rw [List.getD_eq_getElem?_getD, he]
  exact r
/-- an item by its place -/
theorem ix_rp {H : Hp} {x : V} {d : PyData} {i : Int} {Q : VK} (h : Rp K H x d) (hs : isSq d = true) (h0 : 0 ≤ i) (hi : i.toNat < (kids d).length) (q : ∀ v, Rp K H v ((kids d).getD i.toNat .none) → Q v H) : rIxL K x (.int i) H Q ∨ rIxT K x (.int i) H Q := by
  obtain ⟨a, xs, rfl, sq, rl⟩ := h.sq hs
  obtain ⟨v, hv, rv⟩ := rl.at hi
  have e : ((i.toNat : Nat) : Int) = i := by omega
  have at' : atI xs i = some v := by
    rw [← e]
    exact atI_nat hv
  rcases sq with sq | sq
  · exact .inl ⟨a, xs, i, v, rfl, rfl, sq, at', q v rv⟩
  · exact .inr ⟨a, xs, i, v, rfl, rfl, sq, at', q v rv⟩
theorem ix_cell {H : Hp} {x : V} {d : PyData} {n : Nat} (M : Mx d n) {i j : Int} {Q : VK} (h : Rp K H x (rowAt d i.toNat)) (i0 : i.toNat < n) (h0 : 0 ≤ j) (hj : j.toNat < n) (q : Q (.int (cell d i.toNat j.toNat)) H) : rIxL K x (.int j) H Q ∨ rIxT K x (.int j) H Q := by
  obtain ⟨r1, r2⟩ := M.row _ i0
  refine ix_rp h r1 h0 (by omega) fun v rv => ?_
  rw [(M.cel _ _ i0 hj).1] at rv
  cases rv
  exact q
section
variable {P : Program} {w : World} {mg : Str → Option Value} {base : Heap} {f : String → Addr} {a c Pt P8 : Addr} {fd g1 g2 g3 g4 : FuncData}
def rLen (K : PySem.W.Frag) : List V → Hp → VK → Prop := fun xs H Q => ∃ p ys, xs = [.ref p] ∧ (SqL K H p ys ∨ SqT K H p ys) ∧ Q (.int ys.length) H
theorem cr_len {X : Cx} (hK : X.K = K) : CallR X (.builtin "len") (rLen K) := by
  subst hK
  exact call_len_seq
/-! ### has_table_form -/
def spForm (K : PySem.W.Frag) (P8 P9 : Addr) : Sp := fun vs H Q _ => ∃ x d, vs = [x] ∧ Rp K H x d ∧ GxR.TabG H P8 ∧ GxR.TabG H P9 ∧ ∀ H', Kp H H' → Q (.bl (formOk d)) H'
theorem sc8 : FnScope ["value", "row"] ["value"] (defScope s_has_table_form) := ⟨rfl, rfl, rfl, by decide +kernel, rfl, by decide +kernel, by decide +kernel⟩
theorem ok8 (T : Tx mg f) (F : FunC K "has_table_form" "has_table_form" s_has_table_form a fd c) (TB : GxR.TabB base mg c P8) (G4 : FnOk P w K mg base CX0 1 (f "is_list") g1 ["value"] (spIs K isSq)) (B4 : Binds K g1 ["value"] []) (kp4 : PySem.W.keepIn K (.ref (f "is_list")) = true)
    (G9 : FnOk P w K mg base CX0 5 (f "is_row") g2 ["value", "many"] (spRow K Pt)) (B9 : Binds K g2 ["value", "many"] []) (kp9 : PySem.W.keepIn K (.ref (f "is_row")) = true) :
    FnOk P w K mg base CX0 7 a fd ["value"] (spForm K P8 Pt) := by
  refine F.ok sc8 (fun vs H Q E h => ?_) (fun A outer s H vs Q E hr h => ?_)
  · obtain ⟨x, d, rfl, _⟩ := h
    rfl
  obtain ⟨x, d, rfl, hd, hP8, hP9, q⟩ := h
  obtain ⟨tm, hm⟩ := T.most
  refine ⟨_, pss_cons (ps_if (PW.pt (pw_or (pt_not (pt_val (pe_call G4 (hr.mono (by decide)) rfl (T.fn "is_list" (by decide)) kp4 B4 .nil pass0 (pa_cons (pv 0) pa_nil))))
      (pw_or1 (pt_not (pt_chain op_le op_le pe_int (pe_callB (cr_len (K := K) rfl) rfl (T.bl "len" (by decide)) PySem.boot_len (pa_cons (pv 0) pa_nil)) (pe_glob (v := .int 8) rfl hm ⟨_, rfl⟩)))))) (pss_one (ps_ret pe_bl)) pss_nil)
    (pss_one (ps_ret (Gx.pe_all (k := 5) (ix := 1) hr rfl (T.bl "all" (by decide)) TB rfl (gscp_by (by change gscpC ["value", "row"] (defScope s_has_table_form) _ _ _ = true; decide +kernel)) (pi_sq (pv 0)) (fun _ _ _ _ _ => pg_name (i := 1) sc8.nd rfl (Or.inl rfl))
      (fun _ _ _ _ _ hr' => pe_call G9 hr' rfl (T.fn "is_row" (by decide)) kp9 B9 .nil pass0 (pa_cons (pv 1) (pa_cons (pe_callB (cr_len (K := K) rfl) rfl (T.bl "len" (by decide)) PySem.boot_len (pa_cons (pv 0) pa_nil)) pa_nil))) (fun _ => rfl)))), ?_⟩
  refine ⟨_, rfl, x, d, rfl, hd, fun H1 k1 => ⟨_, rfl, ?_⟩⟩
  have hd1 := hd.kp k1
  refine ite2 (fun c1 => ite2 (fun _ => ?_) (fun c => absurd rfl c)) (fun c1 => ?_)
  · have e : formOk d = false := by
      have : isSq d = false := by simpa using c1
      unfold formOk
      rw [this]; rfl
    have := q H1 k1
    rw [e] at this
    exact this
  have hs : isSq d = true := by simpa using c1
  obtain ⟨p, xs, rfl, sq, rl⟩ := hd1.sq hs
  have ln : xs.length = (kids d).length := rl.length
  have bad : ∀ {H'}, Kp H1 H' → ¬ (1 ≤ (kids d).length ∧ (kids d).length ≤ 8) → Q (.bl false) H' := fun {H'} k no => by
    have e : formOk d = false := by
      cases z : formOk d with
      | false => rfl
      | true =>
        have m := mx_of z
        exact absurd ⟨m.pos, m.le⟩ no
    have := q H' (k1.trans k)
    rw [e] at this
    exact this
  refine ⟨_, rfl, p, xs, rfl, sq, _, _, rfl, rfl, _, rfl, ite2 (fun c2 => ?_) (fun c2 => ?_)⟩
  · refine ⟨_, _, rfl, rfl, _, rfl, ite2 (fun c3 => ?_) (fun c3 => ?_)⟩
    · refine bad (Kp.refl _) fun ⟨z1, z2⟩ => ?_
      have : ¬ ((xs.length : Int) ≤ 8) := by simpa using c3
      omega
    · have l1 : (1 : Int) ≤ xs.length := by simpa using c2
      have l8 : (xs.length : Int) ≤ 8 := by simpa using c3
      refine ⟨_, rfl, p, xs, rfl, ?_⟩
      refine rd_all (fun i H' => Kp H1 H' ∧ ((kids d).take i).all (rowOk · ((kids d).length : Int)) = true) sq (k1.tab _ hP8) (fun H2 t => ⟨Kp.tabbed (k1.tab _ hP8) t, rfl⟩) (fun i H' _ v => v.1) (fun i y H' hy v => ?_) (fun H' v => ?_)
      · obtain ⟨dy, hdy, ry⟩ := (rl.kp v.1).get hy
        refine ⟨y, rfl, _, rfl, p, xs, rfl, v.1.sq sq, y, dy, (xs.length : Int), rfl, ry, (k1.trans v.1).tab _ hP9, fun H2 k2 => ⟨_, rfl, ite2 (fun c4 => ?_) (fun c4 => ?_)⟩⟩
        · refine ⟨v.1.trans k2, ?_⟩
          rw [ln] at c4
          rw [all_take _ _ _ _ hdy, v.2, c4]; rfl
        · have e : formOk d = false := by
            rw [ln] at c4
            unfold formOk
            rw [all_false _ _ _ _ hdy (Bool.eq_false_iff.mpr c4), Bool.and_false]
          have := q H2 (k1.trans (v.1.trans k2))
          rw [e] at this
          exact this
      · have e : formOk d = true := by
          unfold formOk
          have := v.2
          rw [ln, List.take_length] at this
          rw [this, hs, decide_eq_true (show 1 ≤ (kids d).length by omega), decide_eq_true (show (kids d).length ≤ 8 by omega)]; rfl
        have := q H' (k1.trans v.1)
        rw [e] at this
        exact this
  · refine ⟨_, rfl, ite2 (fun _ => bad (Kp.refl _) fun z => ?_) (fun z => absurd rfl z)⟩
    have : ¬ ((1 : Int) ≤ xs.length) := by simpa using c2
    omega
end
end Tb

namespace Tb
open PySem PySem.Spec PyProof.Rows L2
theorem bi_range : bootBuiltins "range" = some (.type "range") := by decide +kernel
variable {K : PySem.W.Frag}
section
variable {P : Program} {w : World} {mg : Str → Option Value} {base : Heap} {f : String → Addr} {a c Pt P8 : Addr} {fd g1 g2 g3 g4 : FuncData}
/-! ### keeps_join_rules -/
def spJoin (K : PySem.W.Frag) : Sp := fun vs H Q _ => ∃ x d n, vs = [x] ∧ Rp K H x d ∧ Mx d n ∧ ∀ b H', (b = true ↔ JR d n) → Kp H H' → Q (.bl b) H'
theorem sc10 : FnScope ["rows", "states", "one", "other", "third"] ["rows"] (defScope s_keeps_join_rules) := ⟨rfl, rfl, rfl, by decide +kernel, rfl, by decide +kernel, by decide +kernel⟩
theorem ne_t {x y : Int} (h : (!decide (V.int x = V.int y)) = true) : x ≠ y := fun z => by
  rw [z] at h
  simp at h
theorem ne_f {x y : Int} (h : ¬ (!decide (V.int x = V.int y)) = true) : x = y := by
  by_cases z : x = y
  · exact z
  · exact absurd (by rw [decide_eq_false (fun q => z (V.int.inj q))]; rfl) h
theorem nat_of {i n : Nat} (h : i < n) : (0 + (i : Int)).toNat = i ∧ (0 : Int) ≤ 0 + (i : Int) := by omega
theorem ok10 (T : Tx mg f) (F : Fun K "keeps_join_rules" "keeps_join_rules" s_keeps_join_rules a fd) : FnOk P w K mg base CX0 1 a fd ["rows"] (spJoin K) := by
  refine F.ok sc10 (fun vs H Q E h => ?_) (fun cdv A outer s H vs Q E hr h => ?_)
  · obtain ⟨x, d, n, rfl, _⟩ := h
    rfl
  obtain ⟨x, d, n, rfl, hd, M, q⟩ := h
  refine ⟨_, pss_cons (ps_set (i := 1) sc10.nd rfl (Or.inl rfl) (pe_callTy cr_range1 rfl (T.bl "range" (by decide)) bi_range (pa_cons (pe_callB (cr_len (K := K) rfl) rfl (T.bl "len" (by decide)) PySem.boot_len (pa_cons (pv 0) pa_nil)) pa_nil)))
    (pss_cons (ps_for PassesOwn.never rfl (pi_ro (pv 1)) (pg_name (i := 2) sc10.nd rfl (Or.inl rfl))
      (pss_cons (ps_if (PW.pt (pw_or (pt_cmpR op_ne (pe_ix (ix_list.or ix_tup) (pe_ix (ix_list.or ix_tup) (pv 0) (pv 2) (fun _ _ => rfl)) (pv 2) (fun _ _ => rfl)) (pv 2) (nomark _))
          (pw_or1 (pt_cmpR op_ne (pe_ix (ix_list.or ix_tup) (pe_ix (ix_list.or ix_tup) (pv 0) (pv 2) (fun _ _ => rfl)) pe_int (fun _ _ => rfl)) (pv 2) (nomark _))))) (pss_one (ps_ret pe_bl)) pss_nil)
      (pss_one (ps_for PassesOwn.never rfl (pi_ro (pv 1)) (pg_name (i := 3) sc10.nd rfl (Or.inl rfl))
        (pss_cons (ps_if (pt_cmpR op_ne (pe_ix (ix_list.or ix_tup) (pe_ix (ix_list.or ix_tup) (pv 0) (pv 2) (fun _ _ => rfl)) (pv 3) (fun _ _ => rfl)) (pe_ix (ix_list.or ix_tup) (pe_ix (ix_list.or ix_tup) (pv 0) (pv 3) (fun _ _ => rfl)) (pv 2) (fun _ _ => rfl)) (nomark _)) (pss_one (ps_ret pe_bl)) pss_nil)
        (pss_one (ps_for PassesOwn.never rfl (pi_ro (pv 1)) (pg_name (i := 4) sc10.nd rfl (Or.inl rfl))
          (pss_one (ps_if (pt_cmpR op_ne (pe_ix (ix_list.or ix_tup) (pe_ix (ix_list.or ix_tup) (pv 0) (pe_ix (ix_list.or ix_tup) (pe_ix (ix_list.or ix_tup) (pv 0) (pv 2) (fun _ _ => rfl)) (pv 3) (fun _ _ => rfl)) (fun _ _ => rfl)) (pv 4) (fun _ _ => rfl))
            (pe_ix (ix_list.or ix_tup) (pe_ix (ix_list.or ix_tup) (pv 0) (pv 2) (fun _ _ => rfl)) (pe_ix (ix_list.or ix_tup) (pe_ix (ix_list.or ix_tup) (pv 0) (pv 3) (fun _ _ => rfl)) (pv 4) (fun _ _ => rfl)) (fun _ _ => rfl)) (nomark _)) (pss_one (ps_ret pe_bl)) pss_nil)))))))))
    (pss_one (ps_ret pe_bl))), ?_⟩
  obtain ⟨p, xs, rfl, sq, rl⟩ := hd.sq M.sq
  have ln : xs.length = n := rl.length.trans M.len
  refine ⟨_, rfl, p, xs, rfl, sq, _, rfl, fun ps hps => ?_⟩
  have k1 : Kp H (upd H ps (.rng 0 (xs.length : Int))) := Kp.new hps
  generalize hH1 : upd H ps (.rng 0 (xs.length : Int)) = H1 at k1
  have hrng : H1 ps = some (.rng 0 (xs.length : Int)) := by rw [← hH1]; exact upd_same
  have hd1 := hd.kp k1
  have n8 : xs.length ≤ 8 := by rw [ln]; exact M.le
  have bnd : -(2 ^ 62) ≤ (0 : Int) ∧ (0 : Int) < 2 ^ 62 ∧ -(2 ^ 62) ≤ (xs.length : Int) ∧ (xs.length : Int) < 2 ^ 62 := by omega
  have cnt : ((xs.length : Int) - 0).toNat = n := by omega
  have no : ¬ JR d n → Q (.bl false) H1 := fun h => q false H1 ⟨(fun z => by cases z), fun z => absurd z h⟩ k1
  have row : ∀ {i : Int} {R : VK}, 0 ≤ i → i.toNat < n → (∀ v, Rp K H1 v (rowAt d i.toNat) → R v H1) → rIxL K (.ref p) (.int i) H1 R ∨ rIxT K (.ref p) (.int i) H1 R := fun h0 hi hR => ix_rp hd1 M.sq h0 (by rw [M.len]; exact hi) hR
  refine ⟨_, rfl, ps, 0, _, rfl, hrng, bnd, ?_⟩
  rw [cnt]
  refine for_range (n := n) (fun i σ HH => H1 = HH ∧ (∃ o1 o2 o3, σ = [some (.ref p), some (.ref ps), o1, o2, o3]) ∧ ∀ i', i' < i → cell d i' i' = i' ∧ cell d i' 0 = i' ∧ ∀ j, j < n → cell d i' j = cell d j i' ∧ ∀ k, k < n → cell d (cell d i' j).toNat k = cell d i' (cell d j k).toNat)
    ⟨rfl, ⟨none, none, none, rfl⟩, fun i' h => absurd h (Nat.not_lt_zero _)⟩ ?_ ?_
  · rintro i σ HH hi ⟨rfl, ⟨o1, o2, o3, rfl⟩, ih⟩
    obtain ⟨ti, i0⟩ := nat_of hi
    have ti' : (0 + (i : Int)).toNat < n := by omega
    refine ⟨_, rfl, _, rfl, row i0 ti' fun r rr => ⟨_, rfl, ix_cell M rr ti' i0 ti' ⟨_, rfl, rfl, _, rfl, ?_⟩⟩⟩
    rw [ti]
    refine ite2 (fun c1 => ite2 (fun _ => no fun J => ?_) (fun z => absurd rfl z)) (fun c1 => ?_)
    · exact ne_t c1 (by rw [(J i hi).1]; omega)
    have e1 : cell d i i = i := by have := ne_f c1; omega
    refine ⟨_, rfl, _, rfl, row i0 ti' fun r rr => ix_cell M rr ti' (by decide) (by have := M.pos; show (0 : Int).toNat < n; omega) ⟨_, rfl, rfl, _, rfl, ?_⟩⟩
    rw [ti]
    refine ite2 (fun c2 => no fun J => ?_) (fun c2 => ?_)
    · exact ne_t c2 (by show cell d i 0 = _; rw [(J i hi).2.1]; omega)
    have e2 : cell d i 0 = i := by have : cell d i 0 = 0 + (i : Int) := ne_f c2; omega
    refine ⟨_, rfl, ps, 0, _, rfl, hrng, bnd, ?_⟩
    rw [cnt]
    refine for_range (n := n) (fun j σ HH => H1 = HH ∧ (∃ o2 o3, σ = [some (.ref p), some (.ref ps), some (.int (0 + i)), o2, o3]) ∧ ∀ j', j' < j → cell d i j' = cell d j' i ∧ ∀ k, k < n → cell d (cell d i j').toNat k = cell d i (cell d j' k).toNat)
      ⟨rfl, ⟨o2, o3, rfl⟩, fun j' h => absurd h (Nat.not_lt_zero _)⟩ ?_ ?_
    · rintro j σ HH hj ⟨rfl, ⟨u2, u3, rfl⟩, jh⟩
      obtain ⟨tj, j0⟩ := nat_of hj
      have tj' : (0 + (j : Int)).toNat < n := by omega
      refine ⟨_, rfl, _, rfl, row i0 ti' fun r rr => ⟨_, rfl, ix_cell M rr ti' j0 tj' ⟨_, rfl, _, rfl, row j0 tj' fun r2 rr2 => ⟨_, rfl, ix_cell M rr2 tj' i0 ti' ⟨rfl, _, rfl, ?_⟩⟩⟩⟩⟩
      rw [ti, tj]
      refine ite2 (fun c3 => no fun J => ne_t c3 ((J i hi).2.2 j hj).1) (fun c3 => ?_)
      have e3 : cell d i j = cell d j i := ne_f c3
      obtain ⟨_, a0, an⟩ := M.cel i j hi hj
      have an' : (cell d i j).toNat < n := by omega
      refine ⟨_, rfl, ps, 0, _, rfl, hrng, bnd, ?_⟩
      rw [cnt]
      refine for_range (n := n) (fun k σ HH => H1 = HH ∧ (∃ o3, σ = [some (.ref p), some (.ref ps), some (.int (0 + i)), some (.int (0 + j)), o3]) ∧ ∀ k', k' < k → cell d (cell d i j).toNat k' = cell d i (cell d j k').toNat)
        ⟨rfl, ⟨u3, rfl⟩, fun k' h => absurd h (Nat.not_lt_zero _)⟩ ?_ ?_
      · rintro k σ HH hk ⟨rfl, ⟨v3, rfl⟩, kh⟩
        obtain ⟨tk, k0⟩ := nat_of hk
        have tk' : (0 + (k : Int)).toNat < n := by omega
        obtain ⟨_, b0, bn⟩ := M.cel j k hj hk
        have bn' : (cell d j k).toNat < n := by omega
        refine ⟨_, rfl, _, rfl, _, rfl, row i0 ti' fun r rr => ⟨_, rfl, ix_cell M rr ti' j0 tj' ?_⟩⟩
        rw [ti, tj]
        refine row a0 an' fun r2 rr2 => ⟨_, rfl, ix_cell M rr2 an' k0 tk' ⟨_, rfl, _, rfl, row i0 ti' fun r3 rr3 => ⟨_, rfl, _, rfl, row j0 tj' fun r4 rr4 => ⟨_, rfl, ix_cell M rr4 tj' k0 tk' ?_⟩⟩⟩⟩
        rw [tj, tk]
        refine ix_cell M rr3 ti' b0 bn' ⟨rfl, _, rfl, ?_⟩
        rw [ti]
        refine ite2 (fun c4 => no fun J => ne_t c4 (((J i hi).2.2 j hj).2 k hk)) (fun c4 => ?_)
        refine ⟨rfl, ⟨_, rfl⟩, fun k' hk' => ?_⟩
        by_cases z : k' = k
        · rw [z]; exact ne_f c4
        · exact kh k' (by omega)
      · rintro σ HH ⟨rfl, ⟨v3, rfl⟩, kh⟩
        refine ⟨rfl, ⟨_, _, rfl⟩, fun j' hj' => ?_⟩
        by_cases z : j' = j
        · rw [z]; exact ⟨e3, kh⟩
        · exact jh j' (by omega)
    · rintro σ HH ⟨rfl, ⟨u2, u3, rfl⟩, jh⟩
      refine ⟨rfl, ⟨_, _, _, rfl⟩, fun i' hi' => ?_⟩
      by_cases z : i' = i
      · rw [z]; exact ⟨e1, e2, jh⟩
      · exact ih i' (by omega)
  · rintro σ HH ⟨rfl, ⟨o1, o2, o3, rfl⟩, ih⟩
    exact q true _ ⟨fun _ => ih, fun _ => rfl⟩ k1
/-! ### is_table -/
/-- what is a table, told of the data -/
def IsT (d : PyData) : Prop := formOk d = true ∧ JR d (kids d).length
def spTab (K : PySem.W.Frag) (P8 P9 : Addr) : Sp := fun vs H Q _ => ∃ x d, vs = [x] ∧ Rp K H x d ∧ GxR.TabG H P8 ∧ GxR.TabG H P9 ∧ ∀ b H', (b = true ↔ IsT d) → Kp H H' → Q (.bl b) H'
theorem sc7 : FnScope ["value"] ["value"] (defScope s_is_table) := ⟨rfl, rfl, rfl, by decide +kernel, rfl, by decide +kernel, by decide +kernel⟩
theorem ok7 (T : Tx mg f) (F : Fun K "is_table" "is_table" s_is_table a fd) (G8 : FnOk P w K mg base CX0 7 (f "has_table_form") g1 ["value"] (spForm K P8 Pt)) (B8 : Binds K g1 ["value"] []) (kp8 : PySem.W.keepIn K (.ref (f "has_table_form")) = true)
    (G10 : FnOk P w K mg base CX0 1 (f "keeps_join_rules") g2 ["rows"] (spJoin K)) (B10 : Binds K g2 ["rows"] []) (kp10 : PySem.W.keepIn K (.ref (f "keeps_join_rules")) = true) :
    FnOk P w K mg base CX0 8 a fd ["value"] (spTab K P8 Pt) := by
  refine F.ok sc7 (fun vs H Q E h => ?_) (fun cdv A outer s H vs Q E hr h => ?_)
  · obtain ⟨x, d, rfl, _⟩ := h
    rfl
  obtain ⟨x, d, rfl, hd, h8, h9, q⟩ := h
  refine ⟨_, pss_one (ps_ret (pe_and (pe_call G8 hr rfl (T.fn "has_table_form" (by decide)) kp8 B8 .nil pass0 (pa_cons (pv 0) pa_nil)) (pe_one (pe_call G10 (hr.mono (by decide)) rfl (T.fn "keeps_join_rules" (by decide)) kp10 B10 .nil pass0 (pa_cons (pv 0) pa_nil))))), ?_⟩
  refine ⟨_, rfl, x, d, rfl, hd, h8, h9, fun H1 k1 => ⟨_, rfl, ite2 (fun c => ?_) (fun c => ?_)⟩⟩
  · exact ⟨_, rfl, x, d, _, rfl, hd.kp k1, mx_of c, fun b H' hb k2 => q b H' (hb.trans ⟨fun z => ⟨c, z⟩, fun z => z.2⟩) (k1.trans k2)⟩
  · exact q false H1 ⟨(fun z => by cases z), fun z => absurd z.1 c⟩ k1
end
end Tb

namespace Tb
open PySem PySem.Spec PyProof.Rows L2
variable {K : PySem.W.Frag}
/-! ### data as the nested comparison wants it -/
mutual
theorem Rp.dp {H : Hp} : ∀ (d : PyData) (v : V), Rp K H v d → d.canLay0 = true → Dp K H v d
  | .none, _, h, _ => by cases h; exact .non
  | .bool b, _, h, _ => by cases h; exact .bl b
  | .int i, _, h, _ => by cases h; exact .int i
  | .str x, _, h, _ => by cases h; exact .str x
  | .list ds, _, h, c => by
    cases h with
    | lst h r => exact .lst (.inl (.inl h)) (RpL.dp ds _ r (by simpa [PyData.canLay0] using c))
  | .tuple ds, _, h, c => by
    cases h with
    | tup h r => exact .tup (.inl (.inl h)) (RpL.dp ds _ r (by simpa [PyData.canLay0] using c))
  | .dict _, _, _, c => by simp [PyData.canLay0] at c
theorem RpL.dp {H : Hp} : ∀ (ds : List PyData) (vs : List V), RpL K H vs ds → PyData.canLayAll0 ds = true → DpAll K H vs ds
  | [], _, h, _ => by cases h; exact .nil
  | d :: ds, _, h, c => by
    have c' : d.canLay0 = true ∧ PyData.canLayAll0 ds = true := by simpa [PyData.canLayAll0] using c
    cases h with
    | cons a b => exact .cons (Rp.dp d _ a c'.1) (RpL.dp ds _ b c'.2)
end
def E0k (e : PyData) : Prop := e.canLay0 = true ∧ e.depth ≤ 8
theorem lay_all : ∀ es : List PyData, (∀ e ∈ es, E0k e) → PyData.canLayAll0 es = true ∧ PyData.depthAll es ≤ 8
  | [], _ => ⟨rfl, Nat.zero_le _⟩
  | e :: es, h => by
    obtain ⟨h1, h2⟩ := lay_all es fun x hx => h x (List.mem_cons_of_mem _ hx)
    obtain ⟨h3, h4⟩ := h e List.mem_cons_self
    refine ⟨?_, ?_⟩
    · show (e.canLay0 && PyData.canLayAll0 es) = true
      rw [h3, h1]; rfl
    · show max e.depth (PyData.depthAll es) ≤ 8
      omega
theorem shaped_list {es : List PyData} (h : ∀ e ∈ es, E0k e) : SeqAt.shaped (.list es) = true := by
  obtain ⟨h1, h2⟩ := lay_all es h
  show (PyData.canLay0 (.list es) && decide (PyData.depth (.list es) ≤ 64)) = true
  have e1 : PyData.canLay0 (.list es) = true := by simpa [PyData.canLay0] using h1
  have e2 : PyData.depth (.list es) ≤ 64 := by
    show PyData.depthAll es + 1 ≤ 64
    omega
  rw [e1, decide_eq_true e2]; rfl
theorem eqv_nil : ∀ es : List PyData, PyData.eqv (.list es) (.list []) = es.isEmpty
  | [] => rfl
  | _ :: _ => rfl
theorem rpl_lay {H : Hp} {xs : List V} {es : List PyData} (r : RpL K H xs es) (h : ∀ e ∈ es, E0k e) : DpAll K H xs es := RpL.dp es xs r (lay_all es h).1
/-! ### a walk over a list or a tuple -/
theorem for_sq {a : Addr} {xs : List V} {g : TG} {tb : TS} {D : Ends} {σ : L2.St} {H : Hp} (Pv : Nat → L2.St → Hp → Prop) (hq : Sq K H a xs) (h0 : Pv 0 σ H) (hl : ∀ i σ H', i ≤ xs.length → Pv i σ H' → Kp H H')
    (hs : ∀ i x σ H, xs[i]? = some x → Pv i σ H → g x σ H fun σ2 H2 => tb { D with nx := Pv (i + 1), ct := Pv (i + 1), bk := D.nx } σ2 H2) (hd : ∀ σ H, Pv xs.length σ H → D.nx σ H) :
    (SqL K H a xs ∧ ∃ W : Nat → Nat → L2.St → Hp → Prop, (∃ m, W 0 m σ H) ∧ ∀ i m σ H, W i m σ H →
      ((Itl K a).stop i H ∧ D.nx σ H) ∨ ((Itl K a).go i H ∧ ∃ N : L2.St → Hp → Prop, (∀ σ' H', N σ' H' → ∃ m', m' < m ∧ W (i + 1) m' σ' H') ∧ ∀ x H', (Itl K a).yld i H x H' → g x σ H' fun σ2 H2 => tb { D with nx := N, ct := N, bk := D.nx } σ2 H2)) ∨
    (SqT K H a xs ∧ ∃ W : Nat → Nat → L2.St → Hp → Prop, (∃ m, W 0 m σ H) ∧ ∀ i m σ H, W i m σ H →
      ((Itt K a).stop i H ∧ D.nx σ H) ∨ ((Itt K a).go i H ∧ ∃ N : L2.St → Hp → Prop, (∀ σ' H', N σ' H' → ∃ m', m' < m ∧ W (i + 1) m' σ' H') ∧ ∀ x H', (Itt K a).yld i H x H' → g x σ H' fun σ2 H2 => tb { D with nx := N, ct := N, bk := D.nx } σ2 H2)) := by
  rcases hq with hq | hq
  · exact .inl ⟨hq, for_list Pv h0 (fun i σ H' hi p => (hl i σ H' hi p).sqL hq) hs hd⟩
  · exact .inr ⟨hq, for_tup Pv h0 (fun i σ H' hi p => (hl i σ H' hi p).sqT hq) hs hd⟩
theorem lc_sq {a : Addr} {xs : List V} {g : TG} {tt : TT} {te : TE} {vs : List Nat} {σ : L2.St} {H1 : Hp} {Qd : Addr → Hp → Prop} (hq : Sq K H1 a xs)
    (h : ∀ D, H1 D = none → ∃ Pv : Nat → Hp → Prop, Pv 0 (upd H1 D (.lst [])) ∧ (∀ i H', i ≤ xs.length → Pv i H' → Kp H1 H') ∧
      (∀ i x H, xs[i]? = some x → Pv i H → g x (wipe σ vs) H fun σ2 H2 => wipe σ2 vs = wipe σ vs ∧ tt σ2 H2 fun b H3 =>
        if b = true then te σ2 H3 fun y H4 => ∃ acc, H4 D = some (.lst acc) ∧ acc.length < sizeLine ∧ Pv (i + 1) (upd H4 D (.lst (acc ++ [y]))) else Pv (i + 1) H3) ∧ ∀ H, Pv xs.length H → Qd D H) :
    (SqL K H1 a xs ∧ ∀ D, H1 D = none → ∃ W : Nat → Nat → Hp → Prop, (∃ m, W 0 m (upd H1 D (.lst []))) ∧ ∀ i m H, W i m H →
      ((Itl K a).stop i H ∧ Qd D H) ∨ ((Itl K a).go i H ∧ ∃ Nx : Hp → Prop, (∀ H', Nx H' → ∃ m', m' < m ∧ W (i + 1) m' H') ∧ ∀ x H', (Itl K a).yld i H x H' → g x (wipe σ vs) H' fun σ2 H2 => wipe σ2 vs = wipe σ vs ∧ tt σ2 H2 fun b H3 =>
        if b = true then te σ2 H3 fun y H4 => ∃ acc, H4 D = some (.lst acc) ∧ acc.length < sizeLine ∧ Nx (upd H4 D (.lst (acc ++ [y]))) else Nx H3)) ∨
    (SqT K H1 a xs ∧ ∀ D, H1 D = none → ∃ W : Nat → Nat → Hp → Prop, (∃ m, W 0 m (upd H1 D (.lst []))) ∧ ∀ i m H, W i m H →
      ((Itt K a).stop i H ∧ Qd D H) ∨ ((Itt K a).go i H ∧ ∃ Nx : Hp → Prop, (∀ H', Nx H' → ∃ m', m' < m ∧ W (i + 1) m' H') ∧ ∀ x H', (Itt K a).yld i H x H' → g x (wipe σ vs) H' fun σ2 H2 => wipe σ2 vs = wipe σ vs ∧ tt σ2 H2 fun b H3 =>
        if b = true then te σ2 H3 fun y H4 => ∃ acc, H4 D = some (.lst acc) ∧ acc.length < sizeLine ∧ Nx (upd H4 D (.lst (acc ++ [y]))) else Nx H3)) := by
  rcases hq with hq | hq
  · refine .inl ⟨hq, fun D hD => ?_⟩
    obtain ⟨Pv, p0, pk, ps, pd⟩ := h D hD
    exact lc_list Pv p0 (fun i H' hi p => (pk i H' hi p).sqL hq) ps pd
  · refine .inr ⟨hq, fun D hD => ?_⟩
    obtain ⟨Pv, p0, pk, ps, pd⟩ := h D hD
    exact lc_tup Pv p0 (fun i H' hi p => (pk i H' hi p).sqT hq) ps pd
theorem Kp.over {A B : Hp} {p : Addr} {o : HO} (k : Kp A B) (h : A p = none) : Kp A (upd B p o) := by
  refine ⟨fun b u e n => ?_, fun P t => ?_⟩
  · rw [upd_ne (fun z => by rw [z, h] at e; cases e)]
    exact k.keep b u e n
  · obtain ⟨ps, e, t2⟩ := t
    obtain ⟨qs, e3, t3⟩ := k.tab P ⟨ps, e, t2⟩
    exact ⟨qs, by rw [upd_ne (fun z => by rw [z, h] at e; cases e)]; exact e3, t3⟩
def Lay (d : PyData) : Prop := ∀ r ∈ kids d, (kids r).length ≤ 1000 ∧ ∀ e ∈ kids r, E0k e
theorem take_filter {α : Type} (p : α → Bool) (l : List α) (i : Nat) (x : α) (h : l[i]? = some x) : (l.take (i + 1)).filter p = (l.take i).filter p ++ (if p x = true then [x] else []) := by
  rw [List.take_add_one, h, List.filter_append]
  cases z : p x <;> simp [z]
end Tb

namespace Tb
open PySem PySem.Spec PyProof.Rows L2
variable {K : PySem.W.Frag}
/-! ### the pot -/
def PotAt (H : Hp) (p : Addr) : Prop := ∃ a b : Int, H p = some (.lst [.int a, .int b]) ∧ 0 ≤ a ∧ 0 ≤ b ∧ b < 2 ^ 32
theorem del_upd {H : Hp} {p : Addr} {o : HO} : del (upd H p o) p = del H p := by
  funext b
  unfold del
  by_cases h : b = p
  · rw [if_pos h, if_pos h]
  · rw [if_neg h, if_neg h, upd_ne h]
theorem upd_del {H : Hp} {p t : Addr} {o : HO} (h : t ≠ p) : del (upd H t o) p = upd (del H p) t o := by
  funext b
  by_cases z : b = t
  · subst z
    rw [del_ne h, upd_same, upd_same]
  · rw [upd_ne z]
    unfold del
    by_cases y : b = p
    · rw [if_pos y, if_pos y]
    · rw [if_neg y, if_neg y, upd_ne z]
theorem del_none {H : Hp} {p t : Addr} (h : H t = none) : del H p t = none := by
  unfold del
  split
  · rfl
  · exact h
abbrev Kd (p : Addr) (H H' : Hp) : Prop := Kp (del H p) (del H' p)
theorem Kd.put {H : Hp} {p : Addr} {o : HO} : Kd p H (upd H p o) := by
  show Kp (del H p) (del (upd H p o) p)
  rw [del_upd]
  exact Kp.refl _
theorem Kd.new {H : Hp} {p t : Addr} {o : HO} (h : H t = none) (hp : H p ≠ none) : Kd p H (upd H t o) := by
  have n : t ≠ p := fun z => hp (by rw [← z]; exact h)
  show Kp (del H p) (del (upd H t o) p)
  rw [upd_del n]
  exact Kp.new (del_none h)
theorem Kd.lst {H H' : Hp} {p a : Addr} {xs : List V} (k : Kd p H H') (n : a ≠ p) (h : H a = some (.lst xs)) : H' a = some (.lst xs) := by
  have := Kp.lst (H := del H p) (H' := del H' p) k (a := a) (xs := xs) (by rw [del_ne n]; exact h)
  exact del_sub _ _ this
theorem Kp.kd {H H' : Hp} (k : Kp H H') {p : Addr} (h : ∀ ps, H p ≠ some (.tbl ps)) : Kd p H H' := k.del p h
theorem PotAt.ntbl {H : Hp} {p : Addr} (h : PotAt H p) : ∀ ps, H p ≠ some (.tbl ps) := fun ps z => by
  obtain ⟨a, b, e, _⟩ := h
  rw [e] at z; cases z
theorem PotAt.nn {H : Hp} {p : Addr} (h : PotAt H p) : H p ≠ none := fun z => by
  obtain ⟨a, b, e, _⟩ := h
  rw [e] at z; cases z
theorem PotAt.kp {H H' : Hp} {p : Addr} (h : PotAt H p) (k : Kp H H') : PotAt H' p := by
  obtain ⟨a, b, e, r⟩ := h
  exact ⟨a, b, k.lst e, r⟩
theorem PotAt.new {H : Hp} {p t : Addr} {o : HO} (h : PotAt H p) (ht : H t = none) : PotAt (upd H t o) p := h.kp (Kp.new ht)
section
variable {P : Program} {w : World} {mg : Str → Option Value} {base : Heap} {f : String → Addr} {a c Pt P8 : Addr} {fd g1 g2 g3 g4 : FuncData}
theorem bi_abs : bootBuiltins "abs" = some (.builtin "abs") := by decide +kernel
theorem bi_max : bootBuiltins "max" = some (.builtin "max") := by decide +kernel
theorem bi_sum : bootBuiltins "sum" = some (.builtin "sum") := by decide +kernel
theorem bi_divmod : bootBuiltins "divmod" = some (.builtin "divmod") := by decide +kernel
theorem none_of {H : Hp} {t p : Addr} {o : HO} (h : upd H t o p = none) : H p = none := by
  by_cases z : p = t
  · subst z
    rw [upd_same] at h; cases h
  · rw [upd_ne z] at h; exact h
/-! ### _law_pot -/
def spPot (K : PySem.W.Frag) : Sp := fun vs H Q _ => ∃ (l : Addr) (ns : List Int), vs = [.ref l, .int 0] ∧ SqL K H l (ns.map V.int) ∧ ∀ p H', H p = none → PotAt H' p → Kp H H' → Q (.ref p) H'
theorem sc12 : FnScope ["_law_script", "_law_k", "_law_cell"] ["_law_script", "_law_k"] (defScope s__law_pot) := ⟨rfl, rfl, rfl, by decide +kernel, rfl, by decide +kernel, by decide +kernel⟩
theorem ok12 (T : Tx mg f) (F : Fun K "_law_pot" "_law_pot" s__law_pot a fd) : FnOk P w K mg base CX0 1 a fd ["_law_script", "_law_k"] (spPot K) := by
  refine F.ok sc12 (fun vs H Q E h => ?_) (fun cdv A outer s H vs Q E hr h => ?_)
  · obtain ⟨l, ns, rfl, _⟩ := h
    rfl
  obtain ⟨l, ns, rfl, hl, q⟩ := h
  refine ⟨_, pss_cons (ps_set (i := 2) sc12.nd rfl (Or.inl rfl) (pe_ifExp (pt_cmpR op_lt (pv 1) (pe_callB (cr_len (K := K) rfl) rfl (T.bl "len" (by decide)) PySem.boot_len (pa_cons (pv 0) pa_nil)) (nomark _))
      (pe_callB call_abs rfl (T.bl "abs" (by decide)) bi_abs (pa_cons (pe_ix ix_list (pv 0) (pv 1) (fun _ _ => rfl)) pa_nil))
      (pe_op op_add (pe_op op_add (pe_op op_mul pe_int (pv 1)) pe_int) (pe_op op_mod (pe_callB call_abs rfl (T.bl "abs" (by decide)) bi_abs (pa_cons (pe_callB (cr_sum rfl) rfl (T.bl "sum" (by decide)) bi_sum (pa_cons (pe_slice sl_list (pv 0) po_none (po_some pe_int)) pa_nil)) pa_nil)) pe_int))))
    (pss_one (ps_ret (pe_lst (pa_cons (pe_callB (call_max2 rfl) rfl (T.bl "max" (by decide)) bi_max (pa_cons pe_int (pa_cons (pe_op op_sub (pv 2) (pe_op op_pow pe_int pe_int)) pa_nil)))
      (pa_cons (pe_op op_add (pe_op op_mod (pe_callTy call_int1 rfl (T.bl "int" (by decide)) bi_int (pa_cons (pe_op op_add (pe_op op_add (pe_op op_mul (pe_op op_mod (pe_callTy call_int1 rfl (T.bl "int" (by decide)) bi_int (pa_cons (pv 2) pa_nil)) pe_int) pe_int) (pe_op op_mul pe_int (pv 1))) pe_int) pa_nil)) pe_int) pe_int) pa_nil))))), ?_⟩
  have mx : ∀ x : Int, 0 ≤ (if x > 0 then x else 0) := fun x => by split <;> omega
  have md : ∀ x : Int, 0 ≤ x % 2147483563 + 1 ∧ x % 2147483563 + 1 < 2 ^ 32 := fun x => by
    have h1 := Int.emod_nonneg x (show (2147483563 : Int) ≠ 0 by decide)
    have h2 := Int.emod_lt_of_pos x (show (0 : Int) < 2147483563 by decide)
    omega
  have p31 : (0 : Int) < 2147483549 := by decide
  have p32 : (0 : Int) < 2147483563 := by decide
  have cp : CPow 10 18 := ⟨by decide, by decide, by decide⟩
  refine ⟨_, rfl, _, rfl, l, _, rfl, .inl hl, _, _, rfl, rfl, ?_⟩
  refine ⟨_, rfl, ite2 (fun c => ?_) (fun c => ?_)⟩
  · cases ns with
    | nil => simp at c
    | cons n0 nr =>
      refine ⟨_, rfl, _, rfl, l, _, _, .int n0, rfl, rfl, hl, (by simpa using atI_nat (xs := List.map V.int (n0 :: nr)) (j := 0) (v := .int n0) rfl), _, rfl, ?_⟩
      refine ⟨_, rfl, _, _, rfl, rfl, cp, _, _, rfl, rfl, _, _, rfl, _, rfl, .inl ⟨_, rfl, _, _, rfl, rfl, p31, _, _, rfl, rfl, .inr (by decide), _, rfl, _, _, rfl, rfl, .inl (by decide), _, _, rfl, rfl, _, _, rfl, rfl, .inl ⟨_, rfl, _, _, rfl, rfl, p32, _, _, rfl, rfl, (by show 2 ≤ sizeLine; decide), fun p hp => ?_⟩⟩⟩
      exact q p _ hp ⟨_, _, upd_same, mx _, (md _).1, (md _).2⟩ (Kp.new hp)
  · cases ns with
    | cons n0 nr => exact absurd (by simp) c
    | nil =>
      refine ⟨_, rfl, _, _, rfl, rfl, .inl (by decide), _, _, rfl, rfl, _, rfl, 1, rfl, l, _, rfl, hl, fun t ht => ⟨t, [], rfl, .inl (.inl upd_same), _, rfl, _, _, rfl, rfl, (by decide), _, _, rfl, rfl, ?_⟩⟩
      refine ⟨_, rfl, _, _, rfl, rfl, cp, _, _, rfl, rfl, _, _, rfl, _, rfl, .inl ⟨_, rfl, _, _, rfl, rfl, p31, _, _, rfl, rfl, .inr (by decide), _, rfl, _, _, rfl, rfl, .inl (by decide), _, _, rfl, rfl, _, _, rfl, rfl, .inl ⟨_, rfl, _, _, rfl, rfl, p32, _, _, rfl, rfl, (by show 2 ≤ sizeLine; decide), fun p hp => ?_⟩⟩⟩
      exact q p _ (none_of hp) ⟨_, _, upd_same, mx _, (md _).1, (md _).2⟩ ((Kp.new ht).trans (Kp.new hp))
end
end Tb

namespace Tb
open PySem PySem.Spec PyProof.Rows L2
variable {K : PySem.W.Frag}
section
variable {P : Program} {w : World} {mg : Str → Option Value} {base : Heap} {f : String → Addr} {a c Pt P8 : Addr} {fd g1 g2 g3 g4 : FuncData}
/-! ### _law_draw -/
def spDraw : Sp := fun vs H Q _ => ∃ (p : Addr) (n : Int), vs = [.ref p, .int n] ∧ 0 < n ∧ n < 1073741824 ∧ PotAt H p ∧ ∀ (r : Int) H', 0 ≤ r → r < n → PotAt H' p → Kd p H H' → Q (.int r) H'
theorem sc13 : FnScope ["_law_pot_here", "_law_sides", "_law_digit"] ["_law_pot_here", "_law_sides"] (defScope s__law_draw) := ⟨rfl, rfl, rfl, by decide +kernel, rfl, by decide +kernel, by decide +kernel⟩
theorem Kd.trans {p : Addr} {A B C : Hp} (x : Kd p A B) (y : Kd p B C) : Kd p A C := Kp.trans x y
theorem at2 {x y : V} : atI [x, y] 0 = some x ∧ atI [x, y] 1 = some y ∧ ixN [x, y].length 0 = some 0 ∧ ixN [x, y].length 1 = some 1 := ⟨rfl, rfl, rfl, rfl⟩
theorem ok13 (T : Tx mg f) (F : Fun K "_law_draw" "_law_draw" s__law_draw a fd) : FnOk P w K mg base CX0 1 a fd ["_law_pot_here", "_law_sides"] spDraw := by
  refine F.ok sc13 (fun vs H Q E h => ?_) (fun cdv A outer s H vs Q E hr h => ?_)
  · obtain ⟨p, n, rfl, _⟩ := h
    rfl
  obtain ⟨p, n, rfl, n0, n1, ⟨x, y, hp, x0, y0, y1⟩, q⟩ := h
  refine ⟨_, pss_cons (ps_if (pt_cmpR op_gt (pe_ix ix_list (pv 0) pe_int (fun _ _ => rfl)) pe_int (nomark _))
      (pss_cons (ps_asg (pe_callB call_divmod rfl (T.bl "divmod" (by decide)) bi_divmod (pa_cons (pe_ix ix_list (pv 0) pe_int (fun _ _ => rfl)) (pa_cons (pv 1) pa_nil)))
          (pg_tup rfl (pgs_cons (pg_sub (pv 0) pe_int set_list) (pgs_cons (pg_name (i := 2) sc13.nd rfl (Or.inl rfl)) pgs_nil))))
        (pss_one (ps_ret (pv 2)))) pss_nil)
    (pss_cons (ps_asg (pe_op op_mod (pe_callTy call_int1 rfl (T.bl "int" (by decide)) bi_int (pa_cons (pe_op op_add (pe_op op_mul (pe_ix ix_list (pv 0) pe_int (fun _ _ => rfl)) pe_int) pe_int) pa_nil)) pe_int) (pg_sub (pv 0) pe_int set_list))
      (pss_one (ps_ret (pe_op op_mod (pe_callTy call_int1 rfl (T.bl "int" (by decide)) bi_int (pa_cons (pe_op op_fdiv (pe_op op_mod (pe_callTy call_int1 rfl (T.bl "int" (by decide)) bi_int (pa_cons (pe_op op_mul (pe_ix ix_list (pv 0) pe_int (fun _ _ => rfl)) (pe_ix ix_list (pv 0) pe_int (fun _ _ => rfl))) pa_nil)) pe_int) pe_int) pa_nil)) (pv 1))))), ?_⟩
  have sq : ∀ {x y : Int} {H : Hp}, H p = some (.lst [.int x, .int y]) → SqL K H p [.int x, .int y] := fun h => .inl (.inl h)
  refine ⟨_, rfl, p, _, _, _, rfl, rfl, sq hp, at2.1, _, _, rfl, rfl, _, rfl, ite2 (fun c => ?_) (fun c => ?_)⟩
  · refine ⟨_, rfl, p, _, _, _, rfl, rfl, sq hp, at2.1, _, rfl, _, _, rfl, ⟨n0, n1⟩, fun t ht => ?_⟩
    have hn : p ≠ t := ne_of_none hp ht
    have hp2 : upd H t (.tup [.int (x / n), .int (x % n)]) p = some (.lst [.int x, .int y]) := by rw [upd_ne hn]; exact hp
    refine ⟨t, _, rfl, .inl (.inl upd_same), rfl, _, _, rfl, _, rfl, p, _, _, _, rfl, rfl, hp2, at2.2.2.1, _, _, rfl, rfl, _, rfl, ?_⟩
    refine q _ _ (Int.emod_nonneg _ (by omega)) (Int.emod_lt_of_pos _ n0) ⟨_, _, upd_same, Int.ediv_nonneg x0 (by omega), y0, y1⟩ ?_
    exact Kd.trans (Kd.new ht (by rw [hp]; simp)) Kd.put
  · have p1 : (0 : Int) < 2147483587 := by decide
    have p2 : (0 : Int) < 2147483629 := by decide
    have m0 : ∀ z : Int, 0 ≤ z % 2147483587 ∧ z % 2147483587 < 2 ^ 32 := fun z => by
      have h1 := Int.emod_nonneg z (show (2147483587 : Int) ≠ 0 by decide)
      have h2 := Int.emod_lt_of_pos z p1
      omega
    refine ⟨_, rfl, p, _, _, _, rfl, rfl, sq hp, at2.2.1, _, _, rfl, rfl, .inr (by decide), _, _, rfl, rfl, .inl ⟨_, rfl, _, _, rfl, rfl, p1, _, rfl, p, _, _, _, rfl, rfl, hp, at2.2.2.2, ?_⟩⟩
    obtain ⟨z0, z1⟩ := m0 (y * 40692 + 5113)
    have hz : upd H p (.lst ([V.int x, V.int y].set 1 (V.int ((y * 40692 + 5113) % 2147483587)))) p = some (.lst [.int x, .int ((y * 40692 + 5113) % 2147483587)]) := upd_same
    refine ⟨_, rfl, p, _, _, _, rfl, rfl, sq hz, at2.2.1, _, rfl, p, _, _, _, rfl, rfl, sq hz, at2.2.1, _, _, rfl, rfl, .inl (by omega), .inl ⟨_, rfl, _, _, rfl, rfl, p2, _, _, rfl, rfl, ⟨by decide, by decide⟩, .inl ⟨_, rfl, _, rfl, _, _, rfl, rfl, n0, ?_⟩⟩⟩
    exact q _ _ (Int.emod_nonneg _ (by omega)) (Int.emod_lt_of_pos _ n0) ⟨_, _, hz, x0, z0, z1⟩ Kd.put
end
end Tb

namespace Tb
open PySem PySem.Spec PyProof.Rows L2
variable {K : PySem.W.Frag}
/-! ### what the defs of partsmet.tables tell of a table, by its cells -/
def rng (n : Nat) : List Int := (List.range n).map fun (i : Nat) => (i : Int)
theorem rng_succ (n : Nat) : rng (n + 1) = rng n ++ [(n : Int)] := by
  unfold rng
  rw [List.range_succ, List.map_append]; rfl
theorem rng_mem {n : Nat} {x : Int} : x ∈ rng n ↔ 0 ≤ x ∧ x.toNat < n := by
  unfold rng
  rw [List.mem_map]
  constructor
  · rintro ⟨i, hi, rfl⟩
    rw [List.mem_range] at hi
    omega
  · rintro ⟨h0, h1⟩
    exact ⟨x.toNat, List.mem_range.mpr h1, by omega⟩
theorem rng_len (n : Nat) : (rng n).length = n := by unfold rng; rw [List.length_map, List.length_range]
theorem filt_succ (p : Int → Bool) (i : Nat) : (rng (i + 1)).filter p = (rng i).filter p ++ (if p (i : Int) = true then [(i : Int)] else []) := by
  rw [rng_succ, List.filter_append]
  cases h : p (i : Int) <;> simp [h]
def In (n : Nat) (x : Int) : Prop := 0 ≤ x ∧ x.toNat < n
def wi (d : PyData) (x y : Int) : Bool := decide (cell d x.toNat y.toNat = y)
def withinL (d : PyData) (n : Nat) (y : Int) : List Int := (rng n).filter fun x => wi d x y
def lessL (ns : List Int) (y : Int) : List Int := ns.filter fun x => !decide (x = y)
def joinL (d : PyData) (ns : List Int) : Int := ns.foldl (fun t m => cell d t.toNat m.toNat) 0
theorem joinL_in {d : PyData} {n : Nat} (M : Mx d n) : ∀ (ns : List Int) (t : Int), (∀ m ∈ ns, In n m) → In n t → In n (ns.foldl (fun t m => cell d t.toNat m.toNat) t)
  | [], _, _, h => h
  | m :: r, t, hn, h => by
    have hm := hn m List.mem_cons_self
    obtain ⟨_, c0, c1⟩ := M.cel t.toNat m.toNat h.2 hm.2
    exact joinL_in M r _ (fun x hx => hn x (List.mem_cons_of_mem _ hx)) ⟨c0, by show (cell d t.toNat m.toNat).toNat < n; omega⟩
section
variable {P : Program} {w : World} {mg : Str → Option Value} {base : Heap} {f : String → Addr} {a c Pt P8 : Addr} {fd g1 g2 g3 g4 : FuncData}
/-- a table is at hand -/
def Tbl (K : PySem.W.Frag) (H : Hp) (x : V) (d : PyData) (n : Nat) : Prop := Rp K H x d ∧ Mx d n
theorem Tbl.kp {H H' : Hp} {x : V} {d : PyData} {n : Nat} (h : Tbl K H x d n) (k : Kp H H') : Tbl K H' x d n := ⟨h.1.kp k, h.2⟩
theorem Tbl.row {H : Hp} {x : V} {d : PyData} {n : Nat} (h : Tbl K H x d n) {i : Int} {R : VK} (hi : In n i) (hR : ∀ v, Rp K H v (rowAt d i.toNat) → R v H) : rIxL K x (.int i) H R ∨ rIxT K x (.int i) H R := ix_rp h.1 h.2.sq hi.1 (by rw [h.2.len]; exact hi.2) hR
theorem Tbl.cell {H : Hp} {x : V} {d : PyData} {n : Nat} (h : Tbl K H x d n) {i j : Int} {Q : VK} {r : V} (rr : Rp K H r (rowAt d i.toNat)) (hi : In n i) (hj : In n j) (q : Q (.int (Tb.cell d i.toNat j.toNat)) H) : rIxL K r (.int j) H Q ∨ rIxT K r (.int j) H Q := ix_cell h.2 rr hi.2 hj.1 hj.2 q
theorem Tbl.len {H : Hp} {x : V} {d : PyData} {n : Nat} (h : Tbl K H x d n) : ∃ p xs, x = .ref p ∧ (SqL K H p xs ∨ SqT K H p xs) ∧ xs.length = n := by
  obtain ⟨p, xs, e, sq, rl⟩ := h.1.sq h.2.sq
  exact ⟨p, xs, e, sq, rl.length.trans h.2.len⟩
theorem dec_int' {x y : Int} : decide (V.int x = V.int y) = decide (x = y) := by
  by_cases h : x = y
  · rw [h]; simp
  · rw [decide_eq_false h, decide_eq_false fun z => h (V.int.inj z)]
/-! ### lies_within -/
def spWithin (K : PySem.W.Frag) : Sp := fun vs H Q _ => ∃ (x : V) (d : PyData) (n : Nat) (i j : Int), vs = [x, .int i, .int j] ∧ Tbl K H x d n ∧ In n i ∧ In n j ∧ Q (.bl (wi d i j)) H
theorem sc_lw : FnScope ["table", "one", "other"] ["table", "one", "other"] (defScope s_lies_within) := ⟨rfl, rfl, rfl, by decide +kernel, rfl, by decide +kernel, by decide +kernel⟩
theorem ok_lw (F : Fun K "lies_within" "lies_within" s_lies_within a fd) : FnOk P w K mg base CX0 1 a fd ["table", "one", "other"] (spWithin K) := by
  refine F.ok sc_lw (fun vs H Q E h => ?_) (fun cdv A outer s H vs Q E hr h => ?_)
  · obtain ⟨x, d, n, i, j, rfl, _⟩ := h
    rfl
  obtain ⟨x, d, n, i, j, rfl, ht, hi, hj, q⟩ := h
  refine ⟨_, pss_one (ps_ret (pe_cmpR op_eq (pe_ix (ix_list.or ix_tup) (pe_ix (ix_list.or ix_tup) (pv 0) (pv 1) (fun _ _ => rfl)) (pv 2) (fun _ _ => rfl)) (pv 2) (nomark _))), ?_⟩
  refine ⟨_, rfl, _, rfl, ht.row hi fun r rr => ⟨_, rfl, ht.cell rr hi hj ⟨_, rfl, rfl, ?_⟩⟩⟩
  rw [dec_int']
  exact q
/-! ### states_within -/
def spStates (K : PySem.W.Frag) : Sp := fun vs H Q _ => ∃ (x : V) (d : PyData) (n : Nat) (j : Int), vs = [x, .int j] ∧ Tbl K H x d n ∧ In n j ∧ ∀ p H', H' p = some (.lst ((withinL d n j).map V.int)) → Kp H H' → Q (.ref p) H'
abbrev Nsw : List Str := ["table", "number", "state"]
theorem sc_sw : FnScope Nsw ["table", "number"] (defScope s_states_within) := ⟨rfl, rfl, rfl, by decide +kernel, rfl, by decide +kernel, by decide +kernel⟩
theorem ok_sw (T : Tx mg f) (F : Fun K "states_within" "states_within" s_states_within a fd) (G : FnOk P w K mg base CX0 1 (f "lies_within") g1 ["table", "one", "other"] (spWithin K)) (B : Binds K g1 ["table", "one", "other"] []) (kp : PySem.W.keepIn K (.ref (f "lies_within")) = true) :
    FnOk P w K mg base CX0 2 a fd ["table", "number"] (spStates K) := by
  refine F.ok sc_sw (fun vs H Q E h => ?_) (fun cdv A outer s H vs Q E hr h => ?_)
  · obtain ⟨x, d, n, j, rfl, _⟩ := h
    rfl
  obtain ⟨x, d, n, j, rfl, ht, hj, q⟩ := h
  refine ⟨_, pss_one (ps_ret (pe_lc (own := [("state", 2)]) (g := gName 2) rfl sc_sw.nd (pi_range1 rfl (T.bl "range" (by decide)) (pa_cons (pe_callB (cr_len (K := K) rfl) rfl (T.bl "len" (by decide)) PySem.boot_len (pa_cons (pv 0) pa_nil)) pa_nil)) (blkOk_by (by change blkC Nsw (defScope s_states_within) _ _ = true; decide +kernel)) (fun _ _ _ _ _ => pg_name (i := 2) sc_sw.nd rfl (Or.inl rfl))
      (fun _ _ _ _ _ => pts_one (pt_val (pe_call G hr rfl (T.fn "lies_within" (by decide)) kp B .nil pass0 (pa_cons (pv 0) (pa_cons (pv 2) (pa_cons (pv 1) pa_nil)))))) (fun _ _ _ _ _ => pv 2))), ?_⟩
  obtain ⟨t, ys, rfl, sq, ly⟩ := ht.len
  have n8 := ht.2.le
  refine ⟨_, rfl, t, ys, rfl, sq, _, rfl, by omega, by omega, fun D hD => ?_⟩
  rw [show ((ys.length : Int)).toNat = n by omega]
  refine lc_range (lo := 0) (n := n) (fun i H' => Kp H H' ∧ H' D = some (.lst (((rng i).filter fun x => wi d x j).map V.int))) ⟨Kp.new hD, upd_same⟩ ?_ ?_
  · rintro i H1 hi ⟨k1, hD1⟩
    have ei : (0 + (i : Int)) = (i : Int) := Int.zero_add _
    rw [ei]
    have hin : In n (i : Int) := ⟨by omega, by omega⟩
    have lf := List.length_filter_le (fun x => wi d x j) (rng i)
    rw [rng_len] at lf
    refine ⟨rfl, _, rfl, _, rfl, _, rfl, _, d, n, i, j, rfl, ht.kp k1, hin, hj, _, rfl, ?_⟩
    have fs := filt_succ (fun x => wi d x j) i
    refine ite2 (fun c => ?_) (fun c => ?_)
    · refine ⟨_, rfl, _, hD1, by rw [sizeLine_eq, List.length_map]; omega, k1.over hD, ?_⟩
      rw [fs, if_pos c, List.map_append]
      exact upd_same
    · refine ⟨k1, ?_⟩
      rw [fs, if_neg c, List.append_nil]
      exact hD1
  · rintro H1 ⟨k1, hD1⟩
    exact q D H1 hD1 k1
/-! ### without -/
def spLess (K : PySem.W.Frag) : Sp := fun vs H Q _ => ∃ (l : Addr) (ns : List Int) (j : Int), vs = [.ref l, .int j] ∧ H l = some (.lst (ns.map V.int)) ∧ ns.length ≤ 1000 ∧ ∀ p H', H' p = some (.lst ((lessL ns j).map V.int)) → Kp H H' → Q (.ref p) H'
abbrev Nwo : List Str := ["numbers", "number", "each"]
theorem sc_wo : FnScope Nwo ["numbers", "number"] (defScope s_without) := ⟨rfl, rfl, rfl, by decide +kernel, rfl, by decide +kernel, by decide +kernel⟩
theorem filt_take (p : Int → Bool) (ns : List Int) (i : Nat) (x : Int) (h : ns[i]? = some x) : (ns.take (i + 1)).filter p = (ns.take i).filter p ++ (if p x = true then [x] else []) := by
  rw [List.take_add_one, h, List.filter_append]
  cases z : p x <;> simp [z]
theorem ok_wo (F : Fun K "without" "without" s_without a fd) : FnOk P w K mg base CX0 1 a fd ["numbers", "number"] (spLess K) := by
  refine F.ok sc_wo (fun vs H Q E h => ?_) (fun cdv A outer s H vs Q E hr h => ?_)
  · obtain ⟨_, _, _, rfl, _⟩ := h
    rfl
  obtain ⟨l, ns, j, rfl, hl, lns, q⟩ := h
  refine ⟨_, pss_one (ps_ret (pe_lc (own := [("each", 2)]) (g := gName 2) rfl sc_wo.nd (pi_list (pv 0)) (blkOk_by (by change blkC Nwo (defScope s_without) _ _ = true; decide +kernel)) (fun _ _ _ _ _ => pg_name (i := 2) sc_wo.nd rfl (Or.inl rfl))
      (fun _ _ _ _ _ => pts_one (pt_cmpR op_ne (pv 2) (pv 1) (nomark _))) (fun _ _ _ _ _ => pv 2))), ?_⟩
  refine ⟨_, rfl, l, rfl, ⟨_, .inl (.inl hl)⟩, fun D hD => ?_⟩
  refine lc_list (xs := ns.map V.int) (fun i H' => Kp H H' ∧ H' D = some (.lst ((lessL (ns.take i) j).map V.int))) ⟨Kp.new hD, upd_same⟩ (fun i H' _ v => .inl (.inl (v.1.lst hl))) ?_ ?_
  · rintro i v H1 hv ⟨k1, hD1⟩
    rw [List.getElem?_map] at hv
    obtain ⟨x, hx, rfl⟩ := Option.map_eq_some_iff.mp hv
    have fs : lessL (ns.take (i + 1)) j = lessL (ns.take i) j ++ (if (!decide (x = j)) = true then [x] else []) := filt_take (fun x => !decide (x = j)) ns i x hx
    have lf : (lessL (ns.take i) j).length ≤ (ns.take i).length := List.length_filter_le _ _
    rw [List.length_take] at lf
    refine ⟨rfl, _, rfl, _, rfl, rfl, _, rfl, ?_⟩
    rw [dec_int']
    refine ite2 (fun c => ?_) (fun c => ?_)
    · refine ⟨_, rfl, _, hD1, by rw [sizeLine_eq, List.length_map]; omega, k1.over hD, ?_⟩
      rw [fs, if_pos c, List.map_append]
      exact upd_same
    · refine ⟨k1, ?_⟩
      rw [fs, if_neg c, List.append_nil]
      exact hD1
  · rintro H1 ⟨k1, hD1⟩
    rw [List.length_map, List.take_length] at hD1
    exact q D H1 hD1 k1
/-! ### joined_numbers, joins_to -/
def spJoined (K : PySem.W.Frag) : Sp := fun vs H Q _ => ∃ (x : V) (d : PyData) (n : Nat) (l : Addr) (ns : List Int), vs = [x, .ref l] ∧ Tbl K H x d n ∧ H l = some (.lst (ns.map V.int)) ∧ (∀ m ∈ ns, In n m) ∧ Q (.int (joinL d ns)) H
theorem sc_jn : FnScope ["table", "numbers", "total", "number"] ["table", "numbers"] (defScope s_joined_numbers) := ⟨rfl, rfl, rfl, by decide +kernel, rfl, by decide +kernel, by decide +kernel⟩
theorem ok_jn (F : Fun K "joined_numbers" "joined_numbers" s_joined_numbers a fd) : FnOk P w K mg base CX0 1 a fd ["table", "numbers"] (spJoined K) := by
  refine F.ok sc_jn (fun vs H Q E h => ?_) (fun cdv A outer s H vs Q E hr h => ?_)
  · obtain ⟨_, _, _, _, _, rfl, _⟩ := h
    rfl
  obtain ⟨x, d, n, l, ns, rfl, ht, hl, hns, q⟩ := h
  refine ⟨_, pss_cons (ps_set (i := 2) sc_jn.nd rfl (Or.inl rfl) pe_int) (pss_cons (ps_for PassesOwn.never rfl (pi_list (pv 1)) (pg_name (i := 3) sc_jn.nd rfl (Or.inl rfl))
      (pss_one (ps_set (i := 2) sc_jn.nd rfl (Or.inl rfl) (pe_ix (ix_list.or ix_tup) (pe_ix (ix_list.or ix_tup) (pv 0) (pv 2) (fun _ _ => rfl)) (pv 3) (fun _ _ => rfl))))) (pss_one (ps_ret (pv 2)))), ?_⟩
  have z0 : In n 0 := ⟨by decide, by have := ht.2.pos; show (0 : Int).toNat < n; omega⟩
  refine ⟨_, rfl, l, rfl, ⟨_, .inl (.inl hl)⟩, ?_⟩
  refine for_list (xs := ns.map V.int) (fun i σ H' => H = H' ∧ ∃ o3, σ = [some x, some (.ref l), some (.int (joinL d (ns.take i))), o3]) ⟨rfl, none, rfl⟩ (fun i σ H' _ v => .inl (.inl (by rw [← v.1]; exact hl))) ?_ ?_
  · rintro i v σ H1 hv ⟨rfl, o3, rfl⟩
    rw [List.getElem?_map] at hv
    obtain ⟨m, hm, rfl⟩ := Option.map_eq_some_iff.mp hv
    have mi := hns m (List.mem_of_getElem? hm)
    have ti : In n (joinL d (ns.take i)) := joinL_in ht.2 _ 0 (fun y hy => hns y (List.mem_of_mem_take hy)) z0
    refine ⟨_, rfl, _, rfl, ht.row ti fun r rr => ⟨_, rfl, ht.cell rr ti mi ⟨rfl, some (.int m), ?_⟩⟩⟩
    have e : joinL d (ns.take (i + 1)) = cell d (joinL d (ns.take i)).toNat m.toNat := by
      unfold joinL
      rw [List.take_add_one, hm, List.foldl_append]; rfl
    rw [e]; rfl
  · rintro σ H1 ⟨rfl, o3, rfl⟩
    rw [List.length_map, List.take_length]
    exact ⟨_, rfl, q⟩
def spJoins (K : PySem.W.Frag) : Sp := fun vs H Q _ => ∃ (x : V) (d : PyData) (n : Nat) (l : Addr) (ns : List Int) (y : Int), vs = [x, .ref l, .int y] ∧ Tbl K H x d n ∧ H l = some (.lst (ns.map V.int)) ∧ (∀ m ∈ ns, In n m) ∧ ∀ H', Kp H H' → Q (.bl (decide (joinL d ns = y))) H'
theorem sc_jt : FnScope ["table", "numbers", "goal"] ["table", "numbers", "goal"] (defScope s_joins_to) := ⟨rfl, rfl, rfl, by decide +kernel, rfl, by decide +kernel, by decide +kernel⟩
theorem ok_jt (T : Tx mg f) (F : Fun K "joins_to" "joins_to" s_joins_to a fd) (G : FnOk P w K mg base CX0 1 (f "joined_numbers") g1 ["table", "numbers"] (spJoined K)) (B : Binds K g1 ["table", "numbers"] []) (kp : PySem.W.keepIn K (.ref (f "joined_numbers")) = true) :
    FnOk P w K mg base CX0 2 a fd ["table", "numbers", "goal"] (spJoins K) := by
  refine F.ok sc_jt (fun vs H Q E h => ?_) (fun cdv A outer s H vs Q E hr h => ?_)
  · obtain ⟨_, _, _, _, _, _, rfl, _⟩ := h
    rfl
  obtain ⟨x, d, n, l, ns, y, rfl, ht, hl, hns, q⟩ := h
  refine ⟨_, pss_one (ps_ret (pe_cmpR op_eq (pe_call G hr rfl (T.fn "joined_numbers" (by decide)) kp B .nil pass0 (pa_cons (pv 0) (pa_cons (pv 1) pa_nil))) (pv 2) (nomark _))), ?_⟩
  refine ⟨_, rfl, _, rfl, x, d, n, l, ns, rfl, ht, hl, hns, _, rfl, rfl, ?_⟩
  rw [dec_int']
  exact q H (Kp.refl _)
/-! ### is_part_in -/
def partB (d : PyData) (n : Nat) (y : Int) : Bool := !decide (y = 0) && !((lessL (withinL d n y) y).any fun a => (lessL (withinL d n y) y).any fun b => decide (cell d a.toNat b.toNat = y))
def spPart (K : PySem.W.Frag) (Pp : Addr) : Sp := fun vs H Q _ => ∃ (x : V) (d : PyData) (n : Nat) (y : Int), vs = [x, .int y] ∧ Tbl K H x d n ∧ In n y ∧ GxR.TabG H Pp ∧ ∀ H', Kp H H' → Q (.bl (partB d n y)) H'
abbrev Npi : List Str := ["table", "number", "lesser", "met", "one", "other"]
theorem sc_pi : FnScope Npi ["table", "number"] (defScope s_is_part_in) := ⟨rfl, rfl, rfl, by decide +kernel, rfl, by decide +kernel, by decide +kernel⟩
def gsclC (N : List Str) (sc scope : Scope) (own : List (Str × Nat)) : Bool :=
  decide (scope.kind = .function) && !scope.isCoroutine && decide (scope.names.lookup (".0" : Str) = some NameKind.local) && (own.all fun q => decide (N[q.2]? = some q.1)) && !(N.contains (".0" : Str)) && decide N.Nodup &&
    scope.names.all fun p => !decide (p.2 = .cell) && (!decide (p.2 = .local) || p.1 == (".0" : Str) || (own.any fun q => decide (q.1 = p.1))) && (!decide (p.2 = .free) || decide (sc.names.lookup p.1 = some .cell) || decide (sc.names.lookup p.1 = some .free))
theorem gscl_by {N : List Str} {sc scope : Scope} {own : List (Str × Nat)} (h : gsclC N sc scope own = true) : Gx.GScL N sc scope own := by
  unfold gsclC at h
  simp only [Bool.and_eq_true, decide_eq_true_eq, Bool.not_eq_true', List.all_eq_true, List.any_eq_true, Bool.or_eq_true, beq_iff_eq, decide_eq_false_iff_not] at h
  obtain ⟨⟨⟨⟨⟨⟨h1, h2⟩, h3⟩, h5⟩, h6⟩, h7⟩, h8⟩ := h
  refine ⟨h1, h2, fun y hy => (h8 y hy).1.1, h3, fun y hy => ?_, fun y hy e => ?_, h7, h5, fun hm => ?_⟩
  · rcases (h8 _ (PySem.mem_of_lookup hy)).1.2 with (z | z) | z
    · exact absurd rfl z
    · exact .inl z
    · obtain ⟨q, hq, e⟩ := z
      have e' : q.1 = y := e
      exact .inr ⟨q.2, by rw [← e']; exact hq⟩
  · rcases (h8 y hy).2 with (z | z) | z
    · exact absurd e z
    · exact .inl z
    · exact .inr z
  · rw [List.contains_iff_mem.mpr hm] at h6
    cases h6
theorem ok_pi (T : Tx mg f) (F : FunC K "is_part_in" "is_part_in" s_is_part_in a fd c) (TB : GxR.TabB base mg c P8) (Gs : FnOk P w K mg base CX0 2 (f "states_within") g1 ["table", "number"] (spStates K)) (Bs : Binds K g1 ["table", "number"] []) (ks : PySem.W.keepIn K (.ref (f "states_within")) = true)
    (Gw : FnOk P w K mg base CX0 1 (f "without") g2 ["numbers", "number"] (spLess K)) (Bw : Binds K g2 ["numbers", "number"] []) (kw : PySem.W.keepIn K (.ref (f "without")) = true) : FnOk P w K mg base CX0 3 a fd ["table", "number"] (spPart K P8) := by
  refine F.ok sc_pi (fun vs H Q E h => ?_) (fun A outer s H vs Q E hr h => ?_)
  · obtain ⟨_, _, _, _, rfl, _⟩ := h
    rfl
  obtain ⟨x, d, n, y, rfl, ht, hy, hP, q⟩ := h
  refine ⟨_, pss_cons (ps_set (i := 2) sc_pi.nd rfl (by first | exact Or.inl rfl | exact Or.inr rfl) (pe_call Gw (hr.mono (by decide)) rfl (T.fn "without" (by decide)) kw Bw .nil pass0 (pa_cons (pe_call Gs (hr.mono (by decide)) rfl (T.fn "states_within" (by decide)) ks Bs .nil pass0 (pa_cons (pv 0) (pa_cons (pv 1) pa_nil))) (pa_cons (pv 1) pa_nil))))
    (pss_cons (ps_set (i := 3) sc_pi.nd rfl (Or.inl rfl) (Gx.pe_any2 (k := 0) (own := [("one", 4), ("other", 5)]) (w1 := iList K (tVar 2)) (te := tOp rEq (tOp (fun x y H Q => rIxL K x y H Q ∨ rIxT K x y H Q) (tOp (fun x y H Q => rIxL K x y H Q ∨ rIxT K x y H Q) (tVar 0) (tVar 4)) (tVar 5)) (tVar 1)) (hr.mono (by decide)) rfl (T.bl "any" (by decide)) TB rfl (gscl_by (by change gsclC Npi (defScope s_is_part_in) _ _ = true; decide +kernel)) (pi_list (pv 2)) (fun _ _ _ _ _ => pg_name (i := 4) sc_pi.nd rfl (Or.inl rfl))
        (fun _ _ _ _ _ _ => ?w1) (fun _ _ _ _ _ => pg_name (i := 5) sc_pi.nd rfl (Or.inl rfl)) (fun _ _ _ _ _ _ => ?el) (fun _ => rfl) (fun _ _ => rfl)))
    (pss_one (ps_ret (pe_and (pe_cmpR op_ne (pv 1) pe_int (nomark _)) (pe_one (pe_not (pv 3))))))), ?_⟩
  case w1 => exact pi_list (pv 2)
  case el => exact pe_cmpR op_eq (pe_ix (ix_list.or ix_tup) (pe_ix (ix_list.or ix_tup) (pv 0) (pv 4) (fun _ _ => rfl)) (pv 5) (fun _ _ => rfl)) (pv 1) (nomark _)
  have lw : (withinL d n y).length ≤ 8 := by
    have := List.length_filter_le (fun x => wi d x y) (rng n)
    rw [rng_len] at this
    have := ht.2.le
    unfold withinL
    omega
  have inL : ∀ b ∈ lessL (withinL d n y) y, In n b := fun b hb => rng_mem.mp (List.mem_filter.mp (List.mem_filter.mp hb).1).1
  refine ⟨_, rfl, _, rfl, x, d, n, y, rfl, ht, hy, fun p1 H1 h1 k1 => ⟨_, rfl, p1, withinL d n y, y, rfl, h1, by omega, fun p2 H2 h2 k2 => ?_⟩⟩
  have k12 := k1.trans k2
  have hP2 := k12.tab _ hP
  have am : partB d n y = (!decide (y = 0) && !((lessL (withinL d n y) y).any fun a => (lessL (withinL d n y) y).any fun b => decide (cell d a.toNat b.toNat = y))) := rfl
  generalize lessL (withinL d n y) y = L at h2 inL am
  refine ⟨_, rfl, p2, rfl, ⟨_, .inl (.inl h2)⟩, hP2, fun H3 t3 => ?_⟩
  have k23 := Kp.tabbed hP2 t3
  have h3 := k23.lst h2
  have k13 := k12.trans k23
  have ht3 := ht.kp k13
  have sq3 : SqL K H3 p2 (L.map V.int) := .inl (.inl h3)
  have lenS : ∀ i, i < L.length → (L.length - i) * L.length = (L.length - (i + 1)) * L.length + L.length := fun i hi => by
    rw [show L.length - i = (L.length - (i + 1)) + 1 by omega, Nat.add_mul, Nat.one_mul]
  refine ⟨L.length, L.length * L.length, ⟨fun m i σ H' => (L.length - i) * L.length ≤ m ∧ H3 = H' ∧ (∃ o4 o5, σ = [some x, some (.int y), some (.ref p2), none, o4, o5]) ∧ ∀ a ∈ L.take i, ∀ b ∈ L, cell d a.toNat b.toNat ≠ y,
      fun J1 m i j σ H' => J1 = Itl K p2 ∧ j ≤ L.length ∧ (L.length - (i + 1)) * L.length + (L.length - j) ≤ m ∧ H3 = H' ∧ (∃ v, L[i]? = some v ∧ (∃ o5, σ = [some x, some (.int y), some (.ref p2), none, some (.int v), o5]) ∧ ∀ b ∈ L.take j, cell d v.toNat b.toNat ≠ y) ∧ ∀ a ∈ L.take i, ∀ b ∈ L, cell d a.toNat b.toNat ≠ y,
      fun b σ H' => b = true ∧ H3 = H' ∧ ∃ a ∈ L, ∃ b ∈ L, cell d a.toNat b.toNat = y, fun H' => H3 = H' ∧ ∀ a ∈ L, ∀ b ∈ L, cell d a.toNat b.toNat ≠ y⟩, ⟨?_, ?_⟩, ⟨Nat.le_refl _, rfl, ⟨none, none, rfl⟩, fun a ha => by cases ha⟩, ?_, ?_⟩
  · rintro m i σ H' hi ⟨hm, rfl, ⟨o4, o5, rfl⟩, pre⟩
    rcases Nat.lt_or_ge i L.length with hlt | hge
    · refine .inr ⟨hlt, ⟨L.map V.int, .int L[i], sq3, by rw [List.getElem?_map, List.getElem?_eq_getElem hlt]; rfl⟩, fun z H' hz => ?_⟩
      obtain ⟨rfl, hz2⟩ := hz
      have hz3 := hz2 _ sq3
      rw [List.getElem?_map, List.getElem?_eq_getElem hlt] at hz3
      have ez : V.int L[i] = z := by simpa using hz3
      subst ez
      have := lenS i hlt
      exact ⟨_, rfl, p2, rfl, ⟨_, sq3⟩, rfl, Nat.zero_le _, by omega, rfl, ⟨L[i], List.getElem?_eq_getElem hlt, ⟨o5, rfl⟩, fun b hb => by cases hb⟩, pre⟩
    · refine .inl ⟨⟨L.map V.int, sq3, by rw [List.length_map]; exact hge⟩, rfl, ?_⟩
      rw [List.take_of_length_le hge] at pre
      exact pre
  · rintro J1 m i j σ H' hi ⟨rfl, hj, hm, rfl, ⟨v, hv, ⟨o5, rfl⟩, pj⟩, pre⟩
    rcases Nat.lt_or_ge j L.length with hlt | hge
    · refine .inr ⟨⟨L.map V.int, .int L[j], sq3, by rw [List.getElem?_map, List.getElem?_eq_getElem hlt]; rfl⟩, m - 1, by omega, fun z H' hz => ?_⟩
      obtain ⟨rfl, hz2⟩ := hz
      have hz3 := hz2 _ sq3
      rw [List.getElem?_map, List.getElem?_eq_getElem hlt] at hz3
      have ez : V.int L[j] = z := by simpa using hz3
      subst ez
      have vin := inL v (List.mem_of_getElem? hv)
      have bin := inL L[j] (List.getElem_mem hlt)
      refine ⟨_, rfl, _, rfl, ht3.row vin fun r rr => ⟨_, rfl, ht3.cell rr vin bin ⟨_, rfl, rfl, _, rfl, ?_⟩⟩⟩
      rw [dec_int']
      by_cases hc : cell d v.toNat L[j].toNat = y
      · rw [decide_eq_true hc, if_neg (by decide)]
        exact ⟨rfl, rfl, v, List.mem_of_getElem? hv, L[j], List.getElem_mem hlt, hc⟩
      · rw [decide_eq_false hc, if_pos rfl]
        refine ⟨rfl, by omega, by omega, rfl, ⟨v, hv, ⟨_, rfl⟩, fun b hb => ?_⟩, pre⟩
        rw [List.take_add_one, List.getElem?_eq_getElem hlt] at hb
        rcases List.mem_append.mp hb with h | h
        · exact pj b h
        · have : b = L[j] := by simpa using h
          rw [this]; exact hc
    · refine .inl ⟨⟨L.map V.int, sq3, by rw [List.length_map]; exact hge⟩, by omega, rfl, ⟨_, o5, rfl⟩, fun a ha b hb => ?_⟩
      rw [List.take_add_one, hv] at ha
      rw [List.take_of_length_le hge] at pj
      rcases List.mem_append.mp ha with h | h
      · exact pre a h b hb
      · have : a = v := by simpa using h
        rw [this]; exact pj b hb
  · rintro σ' H' ⟨_, rfl, a, ha, b, hb, hab⟩
    have e : (L.any fun a => L.any fun b => decide (cell d a.toNat b.toNat = y)) = true := List.any_eq_true.mpr ⟨a, ha, List.any_eq_true.mpr ⟨b, hb, decide_eq_true hab⟩⟩
    rw [e] at am
    have q2 := q H3 k13
    rw [am] at q2
    refine ⟨_, rfl, rfl, _, rfl, ite2 (fun c => ⟨_, rfl, ?_⟩) (fun c => ?_)⟩
    · simpa using q2
    · simpa using q2
  · rintro H' ⟨rfl, no⟩
    have e : (L.any fun a => L.any fun b => decide (cell d a.toNat b.toNat = y)) = false := by
      rw [List.any_eq_false]
      intro a ha hh
      obtain ⟨b, hb, hab⟩ := List.any_eq_true.mp hh
      exact no a ha b hb (of_decide_eq_true hab)
    rw [e] at am
    have q2 := q H3 k13
    rw [am] at q2
    refine ⟨_, rfl, rfl, _, rfl, ite2 (fun c => ⟨_, rfl, ?_⟩) (fun c => ?_)⟩
    · have hy0 : y ≠ 0 := ne_t c
      rw [decide_eq_false hy0] at q2
      exact ⟨_, rfl, q2⟩
    · have hy0 : y = 0 := ne_f c
      rw [decide_eq_true hy0] at q2
      exact q2
end
end Tb

namespace Tb
open PySem PySem.Spec PyProof.Rows L2
variable {K : PySem.W.Frag}
/-- new to a heap that is kept -/
def Fz (A : Hp) (t : Addr) : Prop := (∀ o, A t = some o → ∃ ps, o = .tbl ps) ∧ ¬ GxR.TabG A t
theorem Fz.of {A B : Hp} {t : Addr} (k : Kp A B) (h : B t = none) : Fz A t := by
  refine ⟨fun o e => ?_, fun z => ?_⟩
  · cases o with
    | tbl ps => exact ⟨ps, rfl⟩
    | _ => exact absurd ((k.keep t _ e fun ps z => by cases z).symm.trans h) (by simp)
  · obtain ⟨ps, e, _⟩ := k.tab t z
    rw [h] at e; cases e
theorem Kp.overz {A B : Hp} {t : Addr} {o : HO} (k : Kp A B) (h : Fz A t) : Kp A (upd B t o) := by
  refine ⟨fun b u e n => ?_, fun P z => ?_⟩
  · rw [upd_ne (fun z => by
      rw [z] at e
      obtain ⟨ps, y⟩ := h.1 u e
      exact n ps y)]
    exact k.keep b u e n
  · obtain ⟨qs, e3, t3⟩ := k.tab P z
    have hP : P ≠ t := fun y => h.2 (by rw [← y]; exact z)
    exact ⟨qs, by rw [upd_ne hP]; exact e3, t3⟩
section
variable {P : Program} {w : World} {mg : Str → Option Value} {base : Heap} {f : String → Addr} {a c Pt P8 Pp : Addr} {fd g1 g2 g3 g4 : FuncData}
/-! ### parts_in, parts_below -/
def partsL (d : PyData) (n : Nat) : List Int := (rng n).filter fun x => partB d n x
def belowL (d : PyData) (n : Nat) (y : Int) : List Int := (partsL d n).filter fun x => wi d x y
theorem partsL_in {d : PyData} {n : Nat} {x : Int} (h : x ∈ partsL d n) : In n x := rng_mem.mp (List.mem_filter.mp h).1
theorem partsL_len (d : PyData) (n : Nat) : (partsL d n).length ≤ n := by
  have := List.length_filter_le (fun x => partB d n x) (rng n)
  rw [rng_len] at this
  exact this
theorem belowL_len (d : PyData) (n : Nat) (y : Int) : (belowL d n y).length ≤ n := Nat.le_trans (List.length_filter_le _ _) (partsL_len d n)
theorem belowL_in {d : PyData} {n : Nat} {x y : Int} (h : x ∈ belowL d n y) : In n x := partsL_in (List.mem_filter.mp h).1
def spParts (K : PySem.W.Frag) (Pp : Addr) : Sp := fun vs H Q _ => ∃ (x : V) (d : PyData) (n : Nat), vs = [x] ∧ Tbl K H x d n ∧ GxR.TabG H Pp ∧ ∀ p H', Fz H p → H' p = some (.lst ((partsL d n).map V.int)) → Kp H H' → Q (.ref p) H'
abbrev Npn : List Str := ["table", "number"]
theorem sc_pn : FnScope Npn ["table"] (defScope s_parts_in) := ⟨rfl, rfl, rfl, by decide +kernel, rfl, by decide +kernel, by decide +kernel⟩
theorem ok_pn (T : Tx mg f) (F : Fun K "parts_in" "parts_in" s_parts_in a fd) (G : FnOk P w K mg base CX0 3 (f "is_part_in") g1 ["table", "number"] (spPart K Pp)) (B : Binds K g1 ["table", "number"] []) (kp : PySem.W.keepIn K (.ref (f "is_part_in")) = true) :
    FnOk P w K mg base CX0 4 a fd ["table"] (spParts K Pp) := by
  refine F.ok sc_pn (fun vs H Q E h => ?_) (fun cdv A outer s H vs Q E hr h => ?_)
  · obtain ⟨x, d, n, rfl, _⟩ := h
    rfl
  obtain ⟨x, d, n, rfl, ht, hP, q⟩ := h
  refine ⟨_, pss_one (ps_ret (pe_lc (own := [("number", 1)]) (g := gName 1) rfl sc_pn.nd (pi_range1 rfl (T.bl "range" (by decide)) (pa_cons (pe_callB (cr_len (K := K) rfl) rfl (T.bl "len" (by decide)) PySem.boot_len (pa_cons (pv 0) pa_nil)) pa_nil)) (blkOk_by (by change blkC Npn (defScope s_parts_in) _ _ = true; decide +kernel)) (fun _ _ _ _ _ => pg_name (i := 1) sc_pn.nd rfl (Or.inl rfl))
      (fun _ _ _ _ _ => pts_one (pt_val (pe_call G hr rfl (T.fn "is_part_in" (by decide)) kp B .nil pass0 (pa_cons (pv 0) (pa_cons (pv 1) pa_nil))))) (fun _ _ _ _ _ => pv 1))), ?_⟩
  obtain ⟨t, ys, rfl, sq, ly⟩ := ht.len
  have n8 := ht.2.le
  refine ⟨_, rfl, t, ys, rfl, sq, _, rfl, by omega, by omega, fun D hD => ?_⟩
  rw [show ((ys.length : Int)).toNat = n by omega]
  refine lc_range (lo := 0) (n := n) (fun i H' => Kp H H' ∧ H' D = some (.lst (((rng i).filter fun x => partB d n x).map V.int))) ⟨Kp.new hD, upd_same⟩ ?_ ?_
  · rintro i H1 hi ⟨k1, hD1⟩
    have ei : (0 + (i : Int)) = (i : Int) := Int.zero_add _
    rw [ei]
    have hin : In n (i : Int) := ⟨by omega, by omega⟩
    have lf := List.length_filter_le (fun x => partB d n x) (rng i)
    rw [rng_len] at lf
    refine ⟨rfl, _, rfl, _, rfl, _, d, n, i, rfl, ht.kp k1, hin, k1.tab _ hP, fun H2 k2 => ⟨_, rfl, ?_⟩⟩
    have fs := filt_succ (fun x => partB d n x) i
    refine ite2 (fun c => ?_) (fun c => ?_)
    · refine ⟨_, rfl, _, k2.lst hD1, by rw [sizeLine_eq, List.length_map]; omega, (k1.trans k2).over hD, ?_⟩
      rw [fs, if_pos c, List.map_append]
      exact upd_same
    · refine ⟨k1.trans k2, ?_⟩
      rw [fs, if_neg c, List.append_nil]
      exact k2.lst hD1
  · rintro H1 ⟨k1, hD1⟩
    exact q D H1 (Fz.of (Kp.refl H) hD) hD1 k1
def spBelow (K : PySem.W.Frag) (Pp : Addr) : Sp := fun vs H Q _ => ∃ (x : V) (d : PyData) (n : Nat) (y : Int), vs = [x, .int y] ∧ Tbl K H x d n ∧ In n y ∧ GxR.TabG H Pp ∧ ∀ p H', H' p = some (.lst ((belowL d n y).map V.int)) → Kp H H' → Q (.ref p) H'
abbrev Npb : List Str := ["table", "number", "part"]
theorem sc_pb : FnScope Npb ["table", "number"] (defScope s_parts_below) := ⟨rfl, rfl, rfl, by decide +kernel, rfl, by decide +kernel, by decide +kernel⟩
theorem ok_pb (T : Tx mg f) (F : Fun K "parts_below" "parts_below" s_parts_below a fd) (G : FnOk P w K mg base CX0 4 (f "parts_in") g1 ["table"] (spParts K Pp)) (B : Binds K g1 ["table"] []) (kp : PySem.W.keepIn K (.ref (f "parts_in")) = true)
    (Gl : FnOk P w K mg base CX0 1 (f "lies_within") g2 ["table", "one", "other"] (spWithin K)) (Bl : Binds K g2 ["table", "one", "other"] []) (kl : PySem.W.keepIn K (.ref (f "lies_within")) = true) : FnOk P w K mg base CX0 5 a fd ["table", "number"] (spBelow K Pp) := by
  refine F.ok sc_pb (fun vs H Q E h => ?_) (fun cdv A outer s H vs Q E hr h => ?_)
  · obtain ⟨x, d, n, y, rfl, _⟩ := h
    rfl
  obtain ⟨x, d, n, y, rfl, ht, hy, hP, q⟩ := h
  refine ⟨_, pss_one (ps_ret (pe_lc (own := [("part", 2)]) (g := gName 2) rfl sc_pb.nd (pi_list (pe_call G hr rfl (T.fn "parts_in" (by decide)) kp B .nil pass0 (pa_cons (pv 0) pa_nil))) (blkOk_by (by change blkC Npb (defScope s_parts_below) _ _ = true; decide +kernel)) (fun _ _ _ _ _ => pg_name (i := 2) sc_pb.nd rfl (Or.inl rfl))
      (fun _ _ _ _ _ => pts_one (pt_val (pe_call Gl (hr.mono (by decide)) rfl (T.fn "lies_within" (by decide)) kl Bl .nil pass0 (pa_cons (pv 0) (pa_cons (pv 2) (pa_cons (pv 1) pa_nil)))))) (fun _ _ _ _ _ => pv 2))), ?_⟩
  refine ⟨_, rfl, x, d, n, rfl, ht, hP, fun l H1 _ hl k1 => ⟨l, rfl, ⟨_, .inl (.inl hl)⟩, fun D hD => ?_⟩⟩
  have pl := partsL_len d n
  have n8 := ht.2.le
  refine lc_list (xs := (partsL d n).map V.int) (fun i H' => Kp H1 H' ∧ H' D = some (.lst ((((partsL d n).take i).filter fun x => wi d x y).map V.int))) ⟨Kp.new hD, upd_same⟩ (fun i H' _ v => .inl (.inl (v.1.lst hl))) ?_ ?_
  · rintro i v H2 hv ⟨k2, hD1⟩
    rw [List.getElem?_map] at hv
    obtain ⟨z, hz, rfl⟩ := Option.map_eq_some_iff.mp hv
    have hin := partsL_in (List.mem_of_getElem? hz)
    have lf := List.length_filter_le (fun x => wi d x y) ((partsL d n).take i)
    rw [List.length_take] at lf
    refine ⟨rfl, _, rfl, _, rfl, _, rfl, _, d, n, z, y, rfl, ht.kp (k1.trans k2), hin, hy, _, rfl, ?_⟩
    have fs := filt_take (fun x => wi d x y) (partsL d n) i z hz
    refine ite2 (fun c => ?_) (fun c => ?_)
    · refine ⟨_, rfl, _, hD1, by rw [sizeLine_eq, List.length_map]; omega, k2.over hD, ?_⟩
      rw [fs, if_pos c, List.map_append]
      exact upd_same
    · refine ⟨k2, ?_⟩
      rw [fs, if_neg c, List.append_nil]
      exact hD1
  · rintro H2 ⟨k2, hD1⟩
    rw [List.length_map, List.take_length] at hD1
    exact q D H2 hD1 (k1.trans k2)
/-! ### is_list_of -/
def listB (d : PyData) (y : Int) (ns : List Int) : Bool := decide (joinL d ns = y) && !(ns.any fun p => decide (joinL d (lessL ns p) = y))
def spListOf (K : PySem.W.Frag) (Pq : Addr) : Sp := fun vs H Q _ => ∃ (x : V) (d : PyData) (n : Nat) (l : Addr) (ns : List Int) (y : Int), vs = [x, .ref l, .int y] ∧ Tbl K H x d n ∧ H l = some (.lst (ns.map V.int)) ∧ (∀ m ∈ ns, In n m) ∧ ns.length ≤ 1000 ∧ GxR.TabG H Pq ∧ ∀ H', Kp H H' → Q (.bl (listB d y ns)) H'
abbrev Nil : List Str := ["table", "parts", "number", "part"]
theorem sc_il : FnScope Nil ["table", "parts", "number"] (defScope s_is_list_of) := ⟨rfl, rfl, rfl, by decide +kernel, rfl, by decide +kernel, by decide +kernel⟩
theorem ok_il (T : Tx mg f) (F : FunC K "is_list_of" "is_list_of" s_is_list_of a fd c) (TB : GxR.TabB base mg c Pt) (Gj : FnOk P w K mg base CX0 2 (f "joins_to") g1 ["table", "numbers", "goal"] (spJoins K)) (Bj : Binds K g1 ["table", "numbers", "goal"] []) (kj : PySem.W.keepIn K (.ref (f "joins_to")) = true)
    (Gw : FnOk P w K mg base CX0 1 (f "without") g2 ["numbers", "number"] (spLess K)) (Bw : Binds K g2 ["numbers", "number"] []) (kw : PySem.W.keepIn K (.ref (f "without")) = true) : FnOk P w K mg base CX0 4 a fd ["table", "parts", "number"] (spListOf K Pt) := by
  refine F.ok sc_il (fun vs H Q E h => ?_) (fun A outer s H vs Q E hr h => ?_)
  · obtain ⟨_, _, _, _, _, _, rfl, _⟩ := h
    rfl
  obtain ⟨x, d, n, l, ns, y, rfl, ht, hl, hns, lns, hP, q⟩ := h
  refine ⟨_, pss_cons (ps_if (pt_not (pt_val (pe_call Gj (hr.mono (by decide)) rfl (T.fn "joins_to" (by decide)) kj Bj .nil pass0 (pa_cons (pv 0) (pa_cons (pv 1) (pa_cons (pv 2) pa_nil)))))) (pss_one (ps_ret pe_bl)) pss_nil)
    (pss_one (ps_ret (pe_not (Gx.pe_any (k := 2) (ix := 3) hr rfl (T.bl "any" (by decide)) TB rfl (gscp_by (by change gscpC Nil (defScope s_is_list_of) _ _ _ = true; decide +kernel)) (pi_list (pv 1)) (fun _ _ _ _ _ => pg_name (i := 3) sc_il.nd rfl (Or.inl rfl))
      (fun _ _ _ _ _ hr' => pe_call Gj hr' rfl (T.fn "joins_to" (by decide)) kj Bj .nil pass0 (pa_cons (pv 0) (pa_cons (pe_call Gw (hr'.mono (by decide)) rfl (T.fn "without" (by decide)) kw Bw .nil pass0 (pa_cons (pv 1) (pa_cons (pv 3) pa_nil))) (pa_cons (pv 2) pa_nil)))) (fun _ => rfl))))), ?_⟩
  refine ⟨_, rfl, _, rfl, _, rfl, x, d, n, l, ns, y, rfl, ht, hl, hns, fun H1 k1 => ⟨_, rfl, ?_⟩⟩
  refine ite2 (fun c0 => ?_) (fun c0 => ?_)
  · have e : decide (joinL d ns = y) = false := by simpa using c0
    have := q H1 k1
    unfold listB at this
    rw [e, Bool.false_and] at this
    exact this
  have e0 : decide (joinL d ns = y) = true := by simpa using c0
  have hP1 := k1.tab _ hP
  refine ⟨_, rfl, l, rfl, ⟨_, .inl (.inl (k1.lst hl))⟩, hP1, fun H2 t2 => ?_⟩
  have k2 := Kp.tabbed hP1 t2
  have k12 := k1.trans k2
  refine ⟨ns.length, ⟨fun i σ H' => Kp H2 H' ∧ (∃ o3, σ = [some x, some (.ref l), some (.int y), o3]) ∧ ∀ p ∈ ns.take i, ¬ joinL d (lessL ns p) = y, fun b _ σ H' => b = true ∧ Kp H2 H' ∧ ∃ p ∈ ns, joinL d (lessL ns p) = y, fun H' => Kp H2 H' ∧ ∀ p ∈ ns, ¬ joinL d (lessL ns p) = y⟩, ?_, ⟨Kp.refl _, ⟨none, rfl⟩, fun p hp => by cases hp⟩, ?_, ?_⟩
  · rintro i σ H3 hi ⟨k3, ⟨o3, rfl⟩, pre⟩
    have h3 := (k12.trans k3).lst hl
    have sq3 : SqL K H3 l (ns.map V.int) := .inl (.inl h3)
    rcases Nat.lt_or_ge i ns.length with hlt | hge
    · refine .inr ⟨hlt, ⟨ns.map V.int, .int ns[i], sq3, by rw [List.getElem?_map, List.getElem?_eq_getElem hlt]; rfl⟩, fun z H' hz => ?_⟩
      obtain ⟨rfl, hz2⟩ := hz
      have hz3 := hz2 _ sq3
      rw [List.getElem?_map, List.getElem?_eq_getElem hlt] at hz3
      have ez : V.int ns[i] = z := by simpa using hz3
      subst ez
      refine ⟨_, rfl, _, rfl, _, rfl, l, ns, ns[i], rfl, h3, lns, fun p H4 h4 k4 => ⟨_, rfl, x, d, n, p, lessL ns ns[i], y, rfl, ht.kp ((k12.trans k3).trans k4), h4, fun m hm => hns m (List.mem_filter.mp hm).1, fun H5 k5 => ⟨_, rfl, ?_⟩⟩⟩
      have k35 := (k3.trans k4).trans k5
      by_cases hc : joinL d (lessL ns ns[i]) = y
      · rw [decide_eq_true hc, if_neg (by decide)]
        exact ⟨rfl, k35, ns[i], List.getElem_mem hlt, hc⟩
      · rw [decide_eq_false hc, if_pos rfl]
        refine ⟨k35, ⟨_, rfl⟩, fun p' hp' => ?_⟩
        rw [List.take_add_one, List.getElem?_eq_getElem hlt] at hp'
        rcases List.mem_append.mp hp' with h | h
        · exact pre p' h
        · have : p' = ns[i] := by simpa using h
          rw [this]; exact hc
    · refine .inl ⟨⟨ns.map V.int, sq3, by rw [List.length_map]; exact hge⟩, k3, ?_⟩
      rw [List.take_of_length_le hge] at pre
      exact pre
  · rintro i σ' H' ⟨_, k3, p, hp, hj⟩
    have := q H' (k12.trans k3)
    have e : listB d y ns = false := by
      unfold listB
      rw [List.any_eq_true.mpr ⟨p, hp, decide_eq_true hj⟩, Bool.not_true, Bool.and_false]
    rw [e] at this
    exact ⟨_, rfl, this⟩
  · rintro H' ⟨k3, no⟩
    have := q H' (k12.trans k3)
    have e : listB d y ns = true := by
      unfold listB
      rw [e0, Bool.true_and]
      have : (ns.any fun p => decide (joinL d (lessL ns p) = y)) = false := by
        rw [List.any_eq_false]
        exact fun p hp hh => no p hp (of_decide_eq_true hh)
      rw [this]; rfl
    rw [e] at this
    exact ⟨_, rfl, this⟩
end
end Tb

namespace Tb
open PySem PySem.Spec PyProof.Rows L2
variable {K : PySem.W.Frag}
theorem bi_sorted : bootBuiltins "sorted" = some (.builtin "sorted") := by decide +kernel
/-! ### lists_of -/
theorem new_at {G : Hp} {x : Addr} (h : G x = none) (o : HO) : upd G x o x = some o := upd_same
def subsL (l : List Int) : List (List Int) := l.foldl (fun lots p => lots ++ lots.map fun s => s ++ [p]) [[]]
theorem subsL_step (l : List Int) (i : Nat) (p : Int) (h : l[i]? = some p) : subsL (l.take (i + 1)) = subsL (l.take i) ++ (subsL (l.take i)).map fun s => s ++ [p] := by
  unfold subsL
  rw [List.take_add_one, h, List.foldl_append]; rfl
theorem subsL_len (l : List Int) : ∀ i, i ≤ l.length → (subsL (l.take i)).length = 2 ^ i
  | 0, _ => rfl
  | i + 1, h => by
    rw [subsL_step l i _ (List.getElem?_eq_getElem h), List.length_append, List.length_map, subsL_len l i (by omega), Nat.pow_succ]
    omega
theorem subsL_sub (l : List Int) : ∀ i, i ≤ l.length → ∀ s ∈ subsL (l.take i), (∀ m ∈ s, m ∈ l) ∧ s.length ≤ i
  | 0, _, s, hs => by
    have : s = [] := by simpa [subsL] using hs
    subst this
    exact ⟨(fun m hm => by cases hm), Nat.le_refl _⟩
  | i + 1, h, s, hs => by
    rw [subsL_step l i _ (List.getElem?_eq_getElem h)] at hs
    rcases List.mem_append.mp hs with z | z
    · obtain ⟨a, b⟩ := subsL_sub l i (by omega) s z
      exact ⟨a, by omega⟩
    · obtain ⟨t, ht, rfl⟩ := List.mem_map.mp z
      obtain ⟨a, b⟩ := subsL_sub l i (by omega) t ht
      refine ⟨fun m hm => ?_, by rw [List.length_append]; simp; omega⟩
      rcases List.mem_append.mp hm with y | y
      · exact a m y
      · rw [List.mem_singleton.mp y]; exact List.getElem_mem h
noncomputable def listsL (d : PyData) (n : Nat) (y : Int) : List (List Int) := srt ((subsL (belowL d n y)).filter fun s => listB d y s)
/-- lists of whole numbers at these addresses, new to G -/
def LL (G H : Hp) (bs : List (Addr × List Int)) : Prop := ∀ q ∈ bs, H q.1 = some (.lst (q.2.map V.int)) ∧ Fz G q.1
theorem LL.kp {G H H' : Hp} {bs : List (Addr × List Int)} (h : LL G H bs) (k : Kp H H') : LL G H' bs := fun q hq => ⟨k.lst (h q hq).1, (h q hq).2⟩
section
variable {P : Program} {w : World} {mg : Str → Option Value} {base : Heap} {f : String → Addr} {a c Pt P8 Pp Pq : Addr} {fd g1 g2 g3 g4 : FuncData}
def spLists (K : PySem.W.Frag) (Pp Pq : Addr) : Sp := fun vs H Q _ => ∃ (x : V) (d : PyData) (n : Nat) (y : Int), vs = [x, .int y] ∧ Tbl K H x d n ∧ In n y ∧ GxR.TabG H Pp ∧ GxR.TabG H Pq ∧
  ∀ p bs H', bs.map Prod.snd = listsL d n y → H' p = some (.lst (bs.map fun q => V.ref q.1)) → LL H H' bs → Fz H p → Kp H H' → Q (.ref p) H'
abbrev Nlo : List Str := ["table", "number", "lots", "part", "lot"]
theorem sc_lo : FnScope Nlo ["table", "number"] (defScope s_lists_of) := ⟨rfl, rfl, rfl, by decide +kernel, rfl, by decide +kernel, by decide +kernel⟩
theorem ok_lo (T : Tx mg f) (F : Fun K "lists_of" "lists_of" s_lists_of a fd) (Gb : FnOk P w K mg base CX0 5 (f "parts_below") g1 ["table", "number"] (spBelow K Pp)) (Bb : Binds K g1 ["table", "number"] []) (kb : PySem.W.keepIn K (.ref (f "parts_below")) = true)
    (Gi : FnOk P w K mg base CX0 4 (f "is_list_of") g2 ["table", "parts", "number"] (spListOf K Pq)) (Bi : Binds K g2 ["table", "parts", "number"] []) (ki : PySem.W.keepIn K (.ref (f "is_list_of")) = true) : FnOk P w K mg base CX0 6 a fd ["table", "number"] (spLists K Pp Pq) := by
  refine F.ok sc_lo (fun vs H Q E h => ?_) (fun cdv A outer s H vs Q E hr h => ?_)
  · obtain ⟨_, _, _, _, rfl, _⟩ := h
    rfl
  obtain ⟨x, d, n, y, rfl, ht, hy, hPp, hPq, q⟩ := h
  refine ⟨_, pss_cons (ps_set (i := 2) sc_lo.nd rfl (by first | exact Or.inl rfl | exact Or.inr rfl) (pe_lst (pa_cons (pe_lst pa_nil) pa_nil)))
    (pss_cons (ps_for PassesOwn.never rfl (pi_list (pe_call Gb hr rfl (T.fn "parts_below" (by decide)) kb Bb .nil pass0 (pa_cons (pv 0) (pa_cons (pv 1) pa_nil)))) (pg_name (i := 3) sc_lo.nd rfl (by first | exact Or.inl rfl | exact Or.inr rfl))
      (pss_one (ps_set (i := 2) sc_lo.nd rfl (by first | exact Or.inl rfl | exact Or.inr rfl) (pe_op op_cat (pv 2) (pe_lc (own := [("lot", 4)]) (g := gName 4) (tt := tYes) (te := tOp rCat (tVar 4) (tLst (tCons (tVar 3) tNil))) rfl sc_lo.nd (pi_list (pv 2)) (blkOk_by (by change blkC Nlo (defScope s_lists_of) _ _ = true; decide +kernel)) (fun _ _ _ _ _ => pg_name (i := 4) sc_lo.nd rfl (Or.inl rfl)) (fun _ _ _ _ _ => pts_nil) (fun _ _ _ _ _ => ?el))))))
    (pss_one (ps_ret (pe_callB (cr_sortLL hr.units) rfl (T.bl "sorted" (by decide)) bi_sorted (pa_cons (pe_lc (own := [("lot", 4)]) (g := gName 4) rfl sc_lo.nd (pi_list (pv 2)) (blkOk_by (by change blkC Nlo (defScope s_lists_of) _ _ = true; decide +kernel)) (fun _ _ _ _ _ => pg_name (i := 4) sc_lo.nd rfl (Or.inl rfl))
      (fun _ _ _ _ _ => pts_one (pt_val (pe_call Gi (hr.mono (by decide)) rfl (T.fn "is_list_of" (by decide)) ki Bi .nil pass0 (pa_cons (pv 0) (pa_cons (pv 4) (pa_cons (pv 1) pa_nil)))))) (fun _ _ _ _ _ => pv 4)) pa_nil))))), ?_⟩
  case el => exact pe_op op_cat (pv 4) (pe_lst (pa_cons (pv 3) pa_nil))
  have n8 := ht.2.le
  have bl := belowL_len d n y
  refine ⟨Nat.zero_le _, fun e0 he0 => ⟨by show 1 ≤ sizeLine; decide, fun D0 hD0 => ?_⟩⟩
  have ka := Kp.new (o := .lst []) he0
  have kb0 := Kp.new (o := .lst [.ref e0]) hD0
  refine ⟨_, rfl, _, rfl, x, d, n, y, rfl, ht.kp (ka.trans kb0), hy, (ka.trans kb0).tab _ hPp, fun l H1 hl k1 => ⟨l, rfl, ⟨_, .inl (.inl hl)⟩, ?_⟩⟩
  have k01 := (ka.trans kb0).trans k1
  refine for_list (xs := (belowL d n y).map V.int) (fun i σ H' => ∃ (D : Addr) (bs : List (Addr × List Int)) (o3 : Option V), σ = [some x, some (.int y), some (.ref D), o3, none] ∧ Kp H H' ∧ Kp H1 H' ∧ H' D = some (.lst (bs.map fun q => V.ref q.1)) ∧ LL H H' bs ∧ bs.map Prod.snd = subsL ((belowL d n y).take i))
    ⟨D0, [(e0, [])], none, rfl, k01, Kp.refl _, k1.lst (new_at hD0 _), fun q hq => by
      rw [List.mem_singleton.mp hq]
      exact ⟨k1.lst (kb0.lst (new_at he0 _)), Fz.of (Kp.refl H) he0⟩, rfl⟩ (fun i σ H' _ ⟨_, _, _, _, _, k, _⟩ => .inl (.inl (k.lst hl))) ?_ ?_
  · rintro i v σ H2 hv ⟨D, bs, o3, rfl, k02, k12, hD, ll, sb⟩
    have hi := (List.getElem?_eq_some_iff.mp hv).1
    rw [List.length_map] at hi
    rw [List.getElem?_map] at hv
    obtain ⟨p, hp, rfl⟩ := Option.map_eq_some_iff.mp hv
    have lb : bs.length = 2 ^ i := by rw [← List.length_map (f := Prod.snd), sb, subsL_len _ i (by omega)]
    have p2 : 2 ^ i ≤ 2 ^ 8 := Nat.pow_le_pow_right (by decide) (by omega)
    refine ⟨_, rfl, _, rfl, D, rfl, ⟨_, .inl (.inl hD)⟩, fun E hE => ?_⟩
    refine lc_list (xs := bs.map fun q => V.ref q.1) (fun j H' => Kp H2 H' ∧ ∃ cs : List (Addr × List Int), H' E = some (.lst (cs.map fun q => V.ref q.1)) ∧ LL H H' cs ∧ (∀ q ∈ cs, q.1 ≠ E) ∧ cs.map Prod.snd = ((bs.take j).map Prod.snd).map fun s => s ++ [p])
      ⟨Kp.new hE, [], upd_same, (fun q hq => by cases hq), (fun q hq => by cases hq), rfl⟩ (fun j H' _ v => .inl (.inl (v.1.lst hD))) ?_ ?_
    · rintro j v H3 hv ⟨k3, cs, hE3, lc, ne, sc⟩
      have hj := (List.getElem?_eq_some_iff.mp hv).1
      rw [List.length_map] at hj
      rw [List.getElem?_map] at hv
      obtain ⟨b, hb, rfl⟩ := Option.map_eq_some_iff.mp hv
      have bm := List.mem_of_getElem? hb
      have lcs : cs.length ≤ j := by
        rw [← List.length_map (f := Prod.snd), sc, List.length_map, List.length_map, List.length_take]
        omega
      have hb3 := k3.lst (ll b bm).1
      have ls : b.2.length ≤ i := (subsL_sub (belowL d n y) i (by omega) b.2 (by rw [← sb]; exact List.mem_map_of_mem bm)).2
      refine ⟨rfl, _, rfl, _, rfl, by show 1 ≤ sizeLine; decide, fun t1 ht1 => ?_⟩
      have kt1 := Kp.new (o := .lst [.int p]) ht1
      refine ⟨b.1, t1, _, _, rfl, rfl, kt1.lst hb3, upd_same, by rw [sizeLine_eq, List.length_map]; simp; omega, fun t2 ht2 => ?_⟩
      have kt2 := Kp.new (o := .lst (b.2.map V.int ++ [.int p])) ht2
      have k34 := (k3.trans kt1).trans kt2
      have nt2 : t2 ≠ E := fun z => by
        have := kt1.lst hE3
        rw [← z, ht2] at this
        cases this
      refine ⟨_, (kt1.trans kt2).lst hE3, by rw [sizeLine_eq, List.length_map]; omega, k34.over hE, cs ++ [(t2, b.2 ++ [p])], by rw [List.map_append]; exact upd_same, fun q hq => ?_, fun q hq => ?_, ?_⟩
      · rcases List.mem_append.mp hq with h | h
        · rw [upd_ne (ne q h)]
          exact lc.kp (kt1.trans kt2) q h
        · rw [List.mem_singleton.mp h]
          refine ⟨?_, Fz.of ((k02.trans k3).trans kt1) ht2⟩
          rw [upd_ne nt2, List.map_append]
          exact upd_same
      · rcases List.mem_append.mp hq with h | h
        · exact ne q h
        · rw [List.mem_singleton.mp h]; exact nt2
      · rw [List.map_append, sc, List.take_add_one, hb, List.map_append, List.map_append]; rfl
    · rintro H3 ⟨k3, cs, hE3, lc, ne, sc⟩
      rw [List.length_map, List.take_length] at sc
      have lcs : cs.length = bs.length := by rw [← List.length_map (f := Prod.snd), sc, List.length_map, List.length_map]
      refine ⟨D, E, _, _, rfl, rfl, k3.lst hD, hE3, by rw [sizeLine_eq, List.length_map, List.length_map]; omega, fun D' hD' => ?_⟩
      have kD := Kp.new (o := .lst ((bs.map fun q => V.ref q.1) ++ cs.map fun q => V.ref q.1)) hD'
      refine ⟨D', bs ++ cs, some (.int p), rfl, (k02.trans k3).trans kD, (k12.trans k3).trans kD, by rw [List.map_append]; exact upd_same, fun q hq => ?_, ?_⟩
      · rcases List.mem_append.mp hq with h | h
        · exact ll.kp (k3.trans kD) q h
        · exact lc.kp kD q h
      · rw [List.map_append, sb, sc, subsL_step _ i p hp, sb]
  · rintro σ H2 ⟨D, bs, o3, rfl, k02, k12, hD, ll, sb⟩
    rw [List.length_map, List.take_length] at sb
    have lb : bs.length ≤ 2 ^ 8 := by
      have h1 := subsL_len (belowL d n y) (belowL d n y).length (Nat.le_refl _)
      rw [List.take_length, ← sb, List.length_map] at h1
      rw [h1]
      exact Nat.pow_le_pow_right (by decide) (by omega)
    have sub : ∀ b ∈ bs, (∀ m ∈ b.2, In n m) ∧ b.2.length ≤ 8 := fun b hb => by
      have := subsL_sub (belowL d n y) (belowL d n y).length (Nat.le_refl _) b.2 (by rw [List.take_length, ← sb]; exact List.mem_map_of_mem hb)
      exact ⟨fun m hm => belowL_in (this.1 m hm), by omega⟩
    refine ⟨_, rfl, D, rfl, ⟨_, .inl (.inl hD)⟩, fun E hE => ?_⟩
    refine lc_list (xs := bs.map fun q => V.ref q.1) (fun j H' => Kp H2 H' ∧ H' E = some (.lst (((bs.take j).filter fun q => listB d y q.2).map fun q => V.ref q.1))) ⟨Kp.new hE, upd_same⟩ (fun j H' _ v => .inl (.inl (v.1.lst hD))) ?_ ?_
    · rintro j v H3 hv ⟨k3, hE3⟩
      have hj := (List.getElem?_eq_some_iff.mp hv).1
      rw [List.length_map] at hj
      rw [List.getElem?_map] at hv
      obtain ⟨b, hb, rfl⟩ := Option.map_eq_some_iff.mp hv
      have bm := List.mem_of_getElem? hb
      have fs : (bs.take (j + 1)).filter (fun q => listB d y q.2) = (bs.take j).filter (fun q => listB d y q.2) ++ (if listB d y b.2 = true then [b] else []) := by
        rw [List.take_add_one, hb, List.filter_append]
        cases z : listB d y b.2 <;> simp [z]
      have lf := List.length_filter_le (fun q : Addr × List Int => listB d y q.2) (bs.take j)
      rw [List.length_take] at lf
      refine ⟨rfl, _, rfl, _, rfl, _, rfl, x, d, n, b.1, b.2, y, rfl, ht.kp (k02.trans k3), k3.lst (ll b bm).1, (sub b bm).1, by have := (sub b bm).2; omega, (k02.trans k3).tab _ hPq, fun H4 k4 => ⟨_, rfl, ?_⟩⟩
      refine ite2 (fun c => ?_) (fun c => ?_)
      · refine ⟨_, rfl, _, k4.lst hE3, by rw [sizeLine_eq, List.length_map]; omega, (k3.trans k4).over hE, ?_⟩
        rw [fs, if_pos c, List.map_append]
        exact upd_same
      · refine ⟨k3.trans k4, ?_⟩
        rw [fs, if_neg c, List.append_nil]
        exact k4.lst hE3
    · rintro H3 ⟨k3, hE3⟩
      rw [List.length_map, List.take_length] at hE3
      have l3 : LL H H3 (bs.filter fun q => listB d y q.2) := fun q hq => ll.kp k3 q (List.mem_filter.mp hq).1
      refine ⟨E, bs.filter fun q => listB d y q.2, rfl, .inl (.inl hE3), fun q hq => (l3 q hq).1, fun p bs' e pm hp => ?_⟩
      refine q p bs' _ ?_ upd_same (fun z hz => (l3.kp (Kp.new hp)) z (pm.mem_iff.mp hz)) (Fz.of (k02.trans k3) hp) ((k02.trans k3).trans (Kp.new hp))
      rw [e]
      unfold listsL
      rw [← sb, List.filter_map]; rfl
end
end Tb

namespace Tb
open PySem PySem.Spec PyProof.Rows L2
variable {K : PySem.W.Frag}
section
variable {P : Program} {w : World} {mg : Str → Option Value} {base : Heap} {f : String → Addr} {a c Pt P8 Pp Pq Ph : Addr} {fd g1 g2 g3 g4 : FuncData}
/-! ### check_table, check_number -/
def spCheck (K : PySem.W.Frag) (P8 P9 : Addr) : Sp := fun vs H Q _ => ∃ (x : V) (d : PyData) (n : Nat), vs = [x] ∧ Tbl K H x d n ∧ IsT d ∧ GxR.TabG H P8 ∧ GxR.TabG H P9 ∧ ∀ H', Kp H H' → Q .non H'
theorem sc_ct : FnScope ["table"] ["table"] (defScope s_check_table) := ⟨rfl, rfl, rfl, by decide +kernel, rfl, by decide +kernel, by decide +kernel⟩
theorem ok_ct (T : Tx mg f) (F : Fun K "check_table" "check_table" s_check_table a fd) (G : FnOk P w K mg base CX0 8 (f "is_table") g1 ["value"] (spTab K P8 Pt)) (B : Binds K g1 ["value"] []) (kp : PySem.W.keepIn K (.ref (f "is_table")) = true) : FnOk P w K mg base CX0 9 a fd ["table"] (spCheck K P8 Pt) := by
  refine F.ok sc_ct (fun vs H Q E h => ?_) (fun cdv A outer s H vs Q E hr h => ?_)
  · obtain ⟨_, _, _, rfl, _⟩ := h
    rfl
  obtain ⟨x, d, n, rfl, ht, ist, h8, h9, q⟩ := h
  refine ⟨_, pss_one (ps_if (pt_not (pt_val (pe_call G hr rfl (T.fn "is_table" (by decide)) kp B .nil pass0 (pa_cons (pv 0) pa_nil)))) (pss_one ps_never) pss_nil), ?_⟩
  refine ⟨_, rfl, x, d, rfl, ht.1, h8, h9, fun b H1 hb k1 => ⟨_, rfl, ?_⟩⟩
  rw [hb.mpr ist]
  exact ite2 (fun z => by cases z) (fun _ => q H1 k1)
def spCN (K : PySem.W.Frag) : Sp := fun vs H Q _ => ∃ (x : V) (d : PyData) (n : Nat) (y : Int), vs = [x, .int y] ∧ Tbl K H x d n ∧ In n y ∧ ∀ H', Kp H H' → Q .non H'
theorem sc_cn : FnScope ["table", "number"] ["table", "number"] (defScope s_check_number) := ⟨rfl, rfl, rfl, by decide +kernel, rfl, by decide +kernel, by decide +kernel⟩
theorem ok_cn (T : Tx mg f) (F : Fun K "check_number" "check_number" s_check_number a fd) (G : FnOk P w K mg base CX0 3 (f "is_count_below") g1 ["value", "bound"] (spBel K isBel)) (B : Binds K g1 ["value", "bound"] []) (kp : PySem.W.keepIn K (.ref (f "is_count_below")) = true) : FnOk P w K mg base CX0 4 a fd ["table", "number"] (spCN K) := by
  refine F.ok sc_cn (fun vs H Q E h => ?_) (fun cdv A outer s H vs Q E hr h => ?_)
  · obtain ⟨_, _, _, _, rfl, _⟩ := h
    rfl
  obtain ⟨x, d, n, y, rfl, ht, hy, q⟩ := h
  refine ⟨_, pss_one (ps_if (pt_not (pt_val (pe_call G hr rfl (T.fn "is_count_below" (by decide)) kp B .nil pass0 (pa_cons (pv 1) (pa_cons (pe_callB (cr_len (K := K) rfl) rfl (T.bl "len" (by decide)) PySem.boot_len (pa_cons (pv 0) pa_nil)) pa_nil))))) (pss_one ps_never) pss_nil), ?_⟩
  obtain ⟨t, ys, rfl, sq, ly⟩ := ht.len
  refine ⟨_, rfl, _, rfl, t, ys, rfl, sq, .int y, .int y, _, rfl, .int y, fun H1 k1 => ⟨_, rfl, ?_⟩⟩
  have e : isBel (.int y) ((ys.length : Nat) : Int) = true := by
    show (decide (0 ≤ y) && decide (y < ((ys.length : Nat) : Int))) = true
    obtain ⟨h0, h1⟩ := hy
    rw [decide_eq_true h0, decide_eq_true (by omega)]; rfl
  rw [e]
  exact ite2 (fun z => by cases z) (fun _ => q H1 k1)
/-! ### table_parts, needed, all_lists -/
def spTP (K : PySem.W.Frag) (Pp P8 P9 : Addr) : Sp := fun vs H Q _ => ∃ (x : V) (d : PyData) (n : Nat), vs = [x] ∧ Tbl K H x d n ∧ IsT d ∧ GxR.TabG H Pp ∧ GxR.TabG H P8 ∧ GxR.TabG H P9 ∧ ∀ p H', Fz H p → H' p = some (.lst ((partsL d n).map V.int)) → Kp H H' → Q (.ref p) H'
theorem sc_tp : FnScope ["table"] ["table"] (defScope s_table_parts) := ⟨rfl, rfl, rfl, by decide +kernel, rfl, by decide +kernel, by decide +kernel⟩
theorem fz_back {A B : Hp} {t : Addr} (k : Kp A B) (h : Fz B t) : Fz A t := by
  refine ⟨fun o e => ?_, fun z => h.2 (k.tab t z)⟩
  cases o with
  | tbl ps => exact ⟨ps, rfl⟩
  | _ =>
    have e2 := k.keep t _ e fun ps z => by cases z
    obtain ⟨ps, z⟩ := h.1 _ e2
    cases z
theorem ok_tp (T : Tx mg f) (F : Fun K "table_parts" "table_parts" s_table_parts a fd) (Gc : FnOk P w K mg base CX0 9 (f "check_table") g1 ["table"] (spCheck K P8 Pt)) (Bc : Binds K g1 ["table"] []) (kc : PySem.W.keepIn K (.ref (f "check_table")) = true)
    (G : FnOk P w K mg base CX0 4 (f "parts_in") g2 ["table"] (spParts K Pp)) (B : Binds K g2 ["table"] []) (kp : PySem.W.keepIn K (.ref (f "parts_in")) = true) : FnOk P w K mg base CX0 10 a fd ["table"] (spTP K Pp P8 Pt) := by
  refine F.ok sc_tp (fun vs H Q E h => ?_) (fun cdv A outer s H vs Q E hr h => ?_)
  · obtain ⟨_, _, _, rfl, _⟩ := h
    rfl
  obtain ⟨x, d, n, rfl, ht, ist, hp, h8, h9, q⟩ := h
  refine ⟨_, pss_cons (ps_expr (pe_call Gc hr rfl (T.fn "check_table" (by decide)) kc Bc .nil pass0 (pa_cons (pv 0) pa_nil))) (pss_one (ps_ret (pe_call G (hr.mono (by decide)) rfl (T.fn "parts_in" (by decide)) kp B .nil pass0 (pa_cons (pv 0) pa_nil)))), ?_⟩
  refine ⟨_, rfl, x, d, n, rfl, ht, ist, h8, h9, fun H1 k1 => ⟨_, rfl, x, d, n, rfl, ht.kp k1, k1.tab _ hp, fun p H2 fz hp2 k2 => q p H2 (fz_back k1 fz) hp2 (k1.trans k2)⟩⟩
noncomputable def spAL (K : PySem.W.Frag) (Pp Pq P8 P9 : Addr) : Sp := fun vs H Q _ => ∃ (x : V) (d : PyData) (n : Nat) (y : Int), vs = [x, .int y] ∧ Tbl K H x d n ∧ IsT d ∧ In n y ∧ GxR.TabG H Pp ∧ GxR.TabG H Pq ∧ GxR.TabG H P8 ∧ GxR.TabG H P9 ∧
  ∀ p bs H', bs.map Prod.snd = listsL d n y → H' p = some (.lst (bs.map fun q => V.ref q.1)) → LL H H' bs → Fz H p → Kp H H' → Q (.ref p) H'
theorem sc_al : FnScope ["table", "number"] ["table", "number"] (defScope s_all_lists) := ⟨rfl, rfl, rfl, by decide +kernel, rfl, by decide +kernel, by decide +kernel⟩
theorem ok_al (T : Tx mg f) (F : Fun K "all_lists" "all_lists" s_all_lists a fd) (Gc : FnOk P w K mg base CX0 9 (f "check_table") g1 ["table"] (spCheck K P8 Pt)) (Bc : Binds K g1 ["table"] []) (kc : PySem.W.keepIn K (.ref (f "check_table")) = true)
    (Gn : FnOk P w K mg base CX0 4 (f "check_number") g2 ["table", "number"] (spCN K)) (Bn : Binds K g2 ["table", "number"] []) (kn : PySem.W.keepIn K (.ref (f "check_number")) = true)
    (G : FnOk P w K mg base CX0 6 (f "lists_of") g3 ["table", "number"] (spLists K Pp Pq)) (B : Binds K g3 ["table", "number"] []) (kp : PySem.W.keepIn K (.ref (f "lists_of")) = true) : FnOk P w K mg base CX0 10 a fd ["table", "number"] (spAL K Pp Pq P8 Pt) := by
  refine F.ok sc_al (fun vs H Q E h => ?_) (fun cdv A outer s H vs Q E hr h => ?_)
  · obtain ⟨_, _, _, _, rfl, _⟩ := h
    rfl
  obtain ⟨x, d, n, y, rfl, ht, ist, hy, hp, hq, h8, h9, q⟩ := h
  refine ⟨_, pss_cons (ps_expr (pe_call Gc hr rfl (T.fn "check_table" (by decide)) kc Bc .nil pass0 (pa_cons (pv 0) pa_nil))) (pss_cons (ps_expr (pe_call Gn (hr.mono (by decide)) rfl (T.fn "check_number" (by decide)) kn Bn .nil pass0 (pa_cons (pv 0) (pa_cons (pv 1) pa_nil))))
    (pss_one (ps_ret (pe_call G (hr.mono (by decide)) rfl (T.fn "lists_of" (by decide)) kp B .nil pass0 (pa_cons (pv 0) (pa_cons (pv 1) pa_nil)))))), ?_⟩
  refine ⟨_, rfl, x, d, n, rfl, ht, ist, h8, h9, fun H1 k1 => ⟨_, rfl, _, rfl, x, d, n, y, rfl, ht.kp k1, hy, fun H2 k2 => ?_⟩⟩
  have k12 := k1.trans k2
  exact ⟨_, rfl, _, rfl, x, d, n, y, rfl, ht.kp k12, hy, k12.tab _ hp, k12.tab _ hq, fun p bs H3 e h3 ll fz k3 => q p bs H3 e h3 (fun z hz => ⟨(ll z hz).1, fz_back k12 (ll z hz).2⟩) (fz_back k12 fz) (k12.trans k3)⟩
def needL (d : PyData) (n : Nat) (y : Int) : List Int := (belowL d n y).filter fun p => !decide (joinL d (lessL (belowL d n y) p) = y)
def spNd (K : PySem.W.Frag) (Pp P8 P9 : Addr) : Sp := fun vs H Q _ => ∃ (x : V) (d : PyData) (n : Nat) (y : Int), vs = [x, .int y] ∧ Tbl K H x d n ∧ IsT d ∧ In n y ∧ GxR.TabG H Pp ∧ GxR.TabG H P8 ∧ GxR.TabG H P9 ∧ ∀ p H', Fz H p → H' p = some (.lst ((needL d n y).map V.int)) → Kp H H' → Q (.ref p) H'
abbrev Nnd : List Str := ["table", "number", "below", "part"]
theorem sc_nd : FnScope Nnd ["table", "number"] (defScope s_needed) := ⟨rfl, rfl, rfl, by decide +kernel, rfl, by decide +kernel, by decide +kernel⟩
theorem ok_nd (T : Tx mg f) (F : Fun K "needed" "needed" s_needed a fd) (Gc : FnOk P w K mg base CX0 9 (f "check_table") g1 ["table"] (spCheck K P8 Pt)) (Bc : Binds K g1 ["table"] []) (kc : PySem.W.keepIn K (.ref (f "check_table")) = true)
    (Gn : FnOk P w K mg base CX0 4 (f "check_number") g2 ["table", "number"] (spCN K)) (Bn : Binds K g2 ["table", "number"] []) (kn : PySem.W.keepIn K (.ref (f "check_number")) = true)
    (Gb : FnOk P w K mg base CX0 5 (f "parts_below") g3 ["table", "number"] (spBelow K Pp)) (Bb : Binds K g3 ["table", "number"] []) (kb : PySem.W.keepIn K (.ref (f "parts_below")) = true)
    {g5 g6 : FuncData} (Gj : FnOk P w K mg base CX0 2 (f "joins_to") g5 ["table", "numbers", "goal"] (spJoins K)) (Bj : Binds K g5 ["table", "numbers", "goal"] []) (kj : PySem.W.keepIn K (.ref (f "joins_to")) = true)
    (Gw : FnOk P w K mg base CX0 1 (f "without") g6 ["numbers", "number"] (spLess K)) (Bw : Binds K g6 ["numbers", "number"] []) (kw : PySem.W.keepIn K (.ref (f "without")) = true) : FnOk P w K mg base CX0 10 a fd ["table", "number"] (spNd K Pp P8 Pt) := by
  refine F.ok sc_nd (fun vs H Q E h => ?_) (fun cdv A outer s H vs Q E hr h => ?_)
  · obtain ⟨_, _, _, _, rfl, _⟩ := h
    rfl
  obtain ⟨x, d, n, y, rfl, ht, ist, hy, hp, h8, h9, q⟩ := h
  refine ⟨_, pss_cons (ps_expr (pe_call Gc hr rfl (T.fn "check_table" (by decide)) kc Bc .nil pass0 (pa_cons (pv 0) pa_nil))) (pss_cons (ps_expr (pe_call Gn (hr.mono (by decide)) rfl (T.fn "check_number" (by decide)) kn Bn .nil pass0 (pa_cons (pv 0) (pa_cons (pv 1) pa_nil))))
    (pss_cons (ps_set (i := 2) sc_nd.nd rfl (by first | exact Or.inl rfl | exact Or.inr rfl) (pe_call Gb (hr.mono (by decide)) rfl (T.fn "parts_below" (by decide)) kb Bb .nil pass0 (pa_cons (pv 0) (pa_cons (pv 1) pa_nil))))
    (pss_one (ps_ret (pe_lc (own := [("part", 3)]) (g := gName 3) rfl sc_nd.nd (pi_list (pv 2)) (blkOk_by (by change blkC Nnd (defScope s_needed) _ _ = true; decide +kernel)) (fun _ _ _ _ _ => pg_name (i := 3) sc_nd.nd rfl (Or.inl rfl))
      (fun _ _ _ _ _ => pts_one (pt_not (pt_val (pe_call Gj (hr.mono (by decide)) rfl (T.fn "joins_to" (by decide)) kj Bj .nil pass0 (pa_cons (pv 0) (pa_cons (pe_call Gw (hr.mono (by decide)) rfl (T.fn "without" (by decide)) kw Bw .nil pass0 (pa_cons (pv 2) (pa_cons (pv 3) pa_nil))) (pa_cons (pv 1) pa_nil))))))) (fun _ _ _ _ _ => pv 3)))))), ?_⟩
  refine ⟨_, rfl, x, d, n, rfl, ht, ist, h8, h9, fun H1 k1 => ⟨_, rfl, _, rfl, x, d, n, y, rfl, ht.kp k1, hy, fun H2 k2 => ?_⟩⟩
  have k12 := k1.trans k2
  refine ⟨_, rfl, _, rfl, x, d, n, y, rfl, ht.kp k12, hy, k12.tab _ hp, fun l H3 h3 k3 => ?_⟩
  have k13 := k12.trans k3
  have bl := belowL_len d n y
  have n8 := ht.2.le
  have bin : ∀ m ∈ belowL d n y, In n m := fun m hm => belowL_in hm
  have eN : needL d n y = (belowL d n y).filter fun p => !decide (joinL d (lessL (belowL d n y) p) = y) := rfl
  generalize belowL d n y = L at h3 bl bin eN
  refine ⟨_, rfl, l, rfl, ⟨_, .inl (.inl h3)⟩, fun D hD => ?_⟩
  refine lc_list (xs := L.map V.int) (fun i H' => Kp H3 H' ∧ H' D = some (.lst (((L.take i).filter fun p => !decide (joinL d (lessL L p) = y)).map V.int))) ⟨Kp.new hD, upd_same⟩ (fun i H' _ v => .inl (.inl (v.1.lst h3))) ?_ ?_
  · rintro i v H4 hv ⟨k4, hD4⟩
    rw [List.getElem?_map] at hv
    obtain ⟨z, hz, rfl⟩ := Option.map_eq_some_iff.mp hv
    have lf := List.length_filter_le (fun p => !decide (joinL d (lessL L p) = y)) (L.take i)
    rw [List.length_take] at lf
    refine ⟨rfl, _, rfl, _, rfl, _, rfl, l, L, z, rfl, k4.lst h3, by omega, fun t H5 h5 k5 => ⟨_, rfl, x, d, n, t, lessL L z, y, rfl, ht.kp ((k13.trans k4).trans k5), h5, fun m hm => bin m (List.mem_filter.mp hm).1, fun H6 k6 => ⟨_, rfl, ?_⟩⟩⟩
    have fs := filt_take (fun p => !decide (joinL d (lessL L p) = y)) L i z hz
    have k56 := k5.trans k6
    refine ite2 (fun c => ?_) (fun c => ?_)
    · refine ⟨_, rfl, _, k56.lst hD4, by rw [sizeLine_eq, List.length_map]; omega, (k4.trans k56).over hD, ?_⟩
      rw [fs, if_pos c, List.map_append]
      exact upd_same
    · refine ⟨k4.trans k56, ?_⟩
      rw [fs, if_neg c, List.append_nil]
      exact k56.lst hD4
  · rintro H4 ⟨k4, hD4⟩
    rw [List.length_map, List.take_length] at hD4
    exact q D H4 (Fz.of k13 hD) (by rw [eN]; exact hD4) (k13.trans k4)
end
end Tb

namespace Tb
open PySem PySem.Spec PyProof.Rows L2
variable {K : PySem.W.Frag}
section
variable {P : Program} {w : World} {mg : Str → Option Value} {base : Heap} {f : String → Addr} {a c Pt P8 Pp Pq Ph : Addr} {fd g1 g2 g3 g4 : FuncData}
theorem at_zero (x : V) (l : List V) : atI (x :: l) 0 = some x := atI_nat (j := 0) rfl
theorem at_one (x y : V) (l : List V) : atI (x :: y :: l) 1 = some y := atI_nat (j := 1) rfl
/-! ### has_single_lists -/
def Single (d : PyData) (n : Nat) : Prop := ∀ i, i < n → (listsL d n (i : Int)).length = 1
def spHS (K : PySem.W.Frag) (Ph Pp Pq P8 P9 : Addr) : Sp := fun vs H Q _ => ∃ (x : V) (d : PyData) (n : Nat), vs = [x] ∧ Tbl K H x d n ∧ IsT d ∧ GxR.TabG H Ph ∧ GxR.TabG H Pp ∧ GxR.TabG H Pq ∧ GxR.TabG H P8 ∧ GxR.TabG H P9 ∧ ∀ b H', (b = true ↔ Single d n) → Kp H H' → Q (.bl b) H'
abbrev Nhs : List Str := ["table", "number"]
theorem sc_hs : FnScope Nhs ["table"] (defScope s_has_single_lists) := ⟨rfl, rfl, rfl, by decide +kernel, rfl, by decide +kernel, by decide +kernel⟩
theorem ok_hs (T : Tx mg f) (F : FunC K "has_single_lists" "has_single_lists" s_has_single_lists a fd c) (TB : GxR.TabB base mg c Ph) (Gc : FnOk P w K mg base CX0 9 (f "check_table") g1 ["table"] (spCheck K P8 Pt)) (Bc : Binds K g1 ["table"] []) (kc : PySem.W.keepIn K (.ref (f "check_table")) = true)
    (G : FnOk P w K mg base CX0 6 (f "lists_of") g3 ["table", "number"] (spLists K Pp Pq)) (B : Binds K g3 ["table", "number"] []) (kp : PySem.W.keepIn K (.ref (f "lists_of")) = true) : FnOk P w K mg base CX0 10 a fd ["table"] (spHS K Ph Pp Pq P8 Pt) := by
  refine F.ok sc_hs (fun vs H Q E h => ?_) (fun A outer s H vs Q E hr h => ?_)
  · obtain ⟨_, _, _, rfl, _⟩ := h
    rfl
  obtain ⟨x, d, n, rfl, ht, ist, hh, hp, hq, h8, h9, q⟩ := h
  refine ⟨_, pss_cons (ps_expr (pe_call Gc hr rfl (T.fn "check_table" (by decide)) kc Bc .nil pass0 (pa_cons (pv 0) pa_nil)))
    (pss_one (ps_ret (Gx.pe_all (k := 6) (ix := 1) (hr.mono (by decide)) rfl (T.bl "all" (by decide)) TB rfl (gscp_by (by change gscpC Nhs (defScope s_has_single_lists) _ _ _ = true; decide +kernel)) (pi_range1 rfl (T.bl "range" (by decide)) (pa_cons (pe_callB (cr_len (K := K) rfl) rfl (T.bl "len" (by decide)) PySem.boot_len (pa_cons (pv 0) pa_nil)) pa_nil)) (fun _ _ _ _ _ => pg_name (i := 1) sc_hs.nd rfl (Or.inl rfl))
      (fun _ _ _ _ _ hr' => pe_cmpR op_eq (pe_callB (cr_len (K := K) rfl) rfl (T.bl "len" (by decide)) PySem.boot_len (pa_cons (pe_call G hr' rfl (T.fn "lists_of" (by decide)) kp B .nil pass0 (pa_cons (pv 0) (pa_cons (pv 1) pa_nil))) pa_nil)) pe_int (nomark _)) (fun _ => rfl)))), ?_⟩
  refine ⟨_, rfl, x, d, n, rfl, ht, ist, h8, h9, fun H1 k1 => ?_⟩
  have ht1 := ht.kp k1
  obtain ⟨t, ys, rfl, sq, ly⟩ := ht1.len
  have n8 := ht.2.le
  refine ⟨_, rfl, t, ys, rfl, sq, _, rfl, by omega, by omega, k1.tab _ hh, fun H2 t2 => ?_⟩
  rw [show ((ys.length : Int)).toNat = n by omega]
  have k2 := Kp.tabbed (k1.tab _ hh) t2
  have k12 := k1.trans k2
  refine ⟨n, ⟨fun i σ H' => Kp H2 H' ∧ (∃ o1, σ = [some (.ref t), o1]) ∧ ∀ j, j < i → (listsL d n (j : Int)).length = 1, fun b _ σ H' => Kp H2 H' ∧ ¬ Single d n, fun H' => Kp H2 H' ∧ Single d n⟩, ?_, ⟨Kp.refl _, ⟨none, rfl⟩, fun j hj => absurd hj (Nat.not_lt_zero _)⟩, ?_, ?_⟩
  · rintro i σ H3 hi ⟨k3, ⟨o1, rfl⟩, pre⟩
    rcases Nat.lt_or_ge i n with hlt | hge
    · refine .inr ⟨hlt, hlt, fun z H' hz => ?_⟩
      obtain ⟨ez, eH⟩ := hz
      subst ez eH
      have k13 := k12.trans k3
      have ei : (0 + (i : Int)) = (i : Int) := Int.zero_add _
      rw [ei]
      have hin : In n (i : Int) := ⟨by omega, by omega⟩
      refine ⟨_, rfl, _, rfl, .ref t, d, n, i, rfl, ht.kp k13, hin, k13.tab _ hp, k13.tab _ hq, fun p bs H4 e h4 ll fz k4 => ?_⟩
      have lb : bs.length = (listsL d n (i : Int)).length := by rw [← e, List.length_map]
      refine ⟨p, _, rfl, .inl (.inl (.inl h4)), rfl, _, rfl, ?_⟩
      rw [dec_int', List.length_map]
      by_cases hc : ((bs.length : Nat) : Int) = 1
      · rw [decide_eq_true hc, if_pos rfl]
        refine ⟨k3.trans k4, ⟨_, rfl⟩, fun j hj => ?_⟩
        by_cases z : j = i
        · rw [z, ← lb]; omega
        · exact pre j (by omega)
      · rw [decide_eq_false hc, if_neg (by decide)]
        refine ⟨k3.trans k4, fun z => ?_⟩
        have := z i hlt
        rw [← lb] at this
        exact hc (by omega)
    · have : i = n := by omega
      subst this
      exact .inl ⟨Nat.le_refl _, k3, pre⟩
  · rintro i σ' H' ⟨k3, no⟩
    exact q false H' ⟨(fun z => by cases z), fun z => absurd z no⟩ (k12.trans k3)
  · rintro H' ⟨k3, yes⟩
    exact q true H' ⟨fun _ => yes, fun _ => rfl⟩ (k12.trans k3)
/-! ### two_lists -/
/-- what two_lists tells -/
def Two (d : PyData) (n : Nat) (e : PyData) : Prop := (Single' d n ∧ e = .none) ∨ ∃ i s t r, i < n ∧ (∀ j, j < i → (listsL d n (j : Int)).length ≤ 1) ∧ listsL d n (i : Int) = s :: t :: r ∧ e = .tuple [.int i, encL s, encL t]
  where Single' (d : PyData) (n : Nat) : Prop := ∀ j, j < n → (listsL d n (j : Int)).length ≤ 1
def spTL (K : PySem.W.Frag) (Pp Pq P8 P9 : Addr) : Sp := fun vs H Q _ => ∃ (x : V) (d : PyData) (n : Nat), vs = [x] ∧ Tbl K H x d n ∧ IsT d ∧ GxR.TabG H Pp ∧ GxR.TabG H Pq ∧ GxR.TabG H P8 ∧ GxR.TabG H P9 ∧ ∀ v e H', Rp K H' v e → Two d n e → Kp H H' → Q v H'
abbrev Ntl : List Str := ["table", "number", "lists"]
theorem sc_tl : FnScope Ntl ["table"] (defScope s_two_lists) := ⟨rfl, rfl, rfl, by decide +kernel, rfl, by decide +kernel, by decide +kernel⟩
theorem ok_tl (T : Tx mg f) (F : Fun K "two_lists" "two_lists" s_two_lists a fd) (Gc : FnOk P w K mg base CX0 9 (f "check_table") g1 ["table"] (spCheck K P8 Pt)) (Bc : Binds K g1 ["table"] []) (kc : PySem.W.keepIn K (.ref (f "check_table")) = true)
    (G : FnOk P w K mg base CX0 6 (f "lists_of") g3 ["table", "number"] (spLists K Pp Pq)) (B : Binds K g3 ["table", "number"] []) (kp : PySem.W.keepIn K (.ref (f "lists_of")) = true) : FnOk P w K mg base CX0 10 a fd ["table"] (spTL K Pp Pq P8 Pt) := by
  refine F.ok sc_tl (fun vs H Q E h => ?_) (fun cdv A outer s H vs Q E hr h => ?_)
  · obtain ⟨_, _, _, rfl, _⟩ := h
    rfl
  obtain ⟨x, d, n, rfl, ht, ist, hp, hq, h8, h9, q⟩ := h
  refine ⟨_, pss_cons (ps_expr (pe_call Gc hr rfl (T.fn "check_table" (by decide)) kc Bc .nil pass0 (pa_cons (pv 0) pa_nil)))
    (pss_cons (ps_for PassesOwn.never rfl (pi_range1 rfl (T.bl "range" (by decide)) (pa_cons (pe_callB (cr_len (K := K) rfl) rfl (T.bl "len" (by decide)) PySem.boot_len (pa_cons (pv 0) pa_nil)) pa_nil)) (pg_name (i := 1) sc_tl.nd rfl (Or.inl rfl))
      (pss_cons (ps_set (i := 2) sc_tl.nd rfl (Or.inl rfl) (pe_call G (hr.mono (by decide)) rfl (T.fn "lists_of" (by decide)) kp B .nil pass0 (pa_cons (pv 0) (pa_cons (pv 1) pa_nil))))
        (pss_one (ps_if (pt_cmpR op_gt (pe_callB (cr_len (K := K) rfl) rfl (T.bl "len" (by decide)) PySem.boot_len (pa_cons (pv 2) pa_nil)) pe_int (nomark _)) (pss_one (ps_ret (pe_tup (pa_cons (pv 1) (pa_cons (pe_ix ix_list (pv 2) pe_int (fun _ _ => rfl)) (pa_cons (pe_ix ix_list (pv 2) pe_int (fun _ _ => rfl)) pa_nil)))))) pss_nil))))
    (pss_one (ps_ret pe_non))), ?_⟩
  refine ⟨_, rfl, x, d, n, rfl, ht, ist, h8, h9, fun H1 k1 => ?_⟩
  have ht1 := ht.kp k1
  obtain ⟨t, ys, rfl, sq, ly⟩ := ht1.len
  have n8 := ht.2.le
  refine ⟨_, rfl, t, ys, rfl, sq, _, rfl, by omega, by omega, ?_⟩
  rw [show ((ys.length : Int)).toNat = n by omega]
  refine for_range (lo := 0) (n := n) (fun i σ H' => Kp H1 H' ∧ (∃ o1 o2, σ = [some (.ref t), o1, o2]) ∧ ∀ j, j < i → (listsL d n (j : Int)).length ≤ 1) ⟨Kp.refl _, ⟨none, none, rfl⟩, fun j hj => absurd hj (Nat.not_lt_zero _)⟩ ?_ ?_
  · rintro i σ H2 hi ⟨k2, ⟨o1, o2, rfl⟩, pre⟩
    have k12 := k1.trans k2
    have ei : (0 + (i : Int)) = (i : Int) := Int.zero_add _
    rw [ei]
    have hin : In n (i : Int) := ⟨by omega, by omega⟩
    refine ⟨_, rfl, _, rfl, .ref t, d, n, i, rfl, ht.kp k12, hin, k12.tab _ hp, k12.tab _ hq, fun p bs H3 e h3 ll fz k3 => ?_⟩
    have lb : bs.length = (listsL d n (i : Int)).length := by rw [← e, List.length_map]
    refine ⟨_, rfl, p, _, rfl, .inl (.inl (.inl h3)), _, _, rfl, rfl, _, rfl, ?_⟩
    rw [List.length_map]
    refine ite2 (fun c => ?_) (fun c => ?_)
    · have c1 : (1 : Int) < ((bs.length : Nat) : Int) := of_decide_eq_true c
      match bs, e, h3, ll, c1 with
      | [], _, _, _, c1 => exact absurd c1 (by decide)
      | [_], _, _, _, c1 => exact absurd c1 (by simp)
      | b1 :: b2 :: br, e, h3, ll, _ =>
        refine ⟨_, rfl, _, rfl, p, _, _, .ref b1.1, rfl, rfl, .inl (.inl h3), at_zero _ _, _, rfl, p, _, _, .ref b2.1, rfl, rfl, .inl (.inl h3), at_one _ _ _, by show 3 ≤ sizeLine; decide, fun tt htt => ?_⟩
        have kt := Kp.new (o := .tup [.int i, .ref b1.1, .ref b2.1]) htt
        have r1 : Rp K (upd H3 tt (.tup [.int i, .ref b1.1, .ref b2.1])) (.ref b1.1) (encL b1.2) := .lst (kt.lst (ll b1 (by simp)).1) (RpL.ints _)
        have r2 : Rp K (upd H3 tt (.tup [.int i, .ref b1.1, .ref b2.1])) (.ref b2.1) (encL b2.2) := .lst (kt.lst (ll b2 (by simp)).1) (RpL.ints _)
        exact q (.ref tt) _ _ (.tup upd_same (.cons (.int _) (.cons r1 (.cons r2 .nil)))) (.inr ⟨i, b1.2, b2.2, br.map Prod.snd, hi, pre, by rw [← e]; rfl, rfl⟩) ((k12.trans k3).trans kt)
    · refine ⟨k2.trans k3, ⟨_, _, rfl⟩, fun j hj => ?_⟩
      by_cases z : j = i
      · have c1 : ¬ (1 : Int) < ((bs.length : Nat) : Int) := of_decide_eq_false (Bool.eq_false_iff.mpr c)
        rw [z, ← lb]; omega
      · exact pre j (by omega)
  · rintro σ H2 ⟨k2, ⟨o1, o2, rfl⟩, pre⟩
    exact q .non .none H2 .non (.inl ⟨pre, rfl⟩) (k1.trans k2)
end
end Tb

namespace Tb
open PySem PySem.Spec PyProof.Rows L2
variable {K : PySem.W.Frag}
/-! ### list(range(n)) -/
theorem vals_rng : ∀ (n : Nat) (ys : List Value), ys.length = n → (∀ (j : Nat) v, ys[j]? = some v → ∃ t, v = Value.int (j : Int) t) → Vals ((rng n).map V.int) ys := by
  intro n ys hl h
  have key : ∀ (ys : List Value) (m : Nat), (∀ (j : Nat) v, ys[j]? = some v → ∃ t, v = Value.int ((m + j : Nat) : Int) t) → Vals ((List.range' m ys.length).map fun (i : Nat) => V.int (i : Int)) ys := by
    intro ys
    induction ys with
    | nil => intro m _; exact .nil
    | cons y r ih =>
      intro m h
      obtain ⟨t, e⟩ := h 0 y rfl
      rw [List.length_cons, List.range'_succ, List.map_cons]
      refine .cons ⟨t, by rw [e]; rfl⟩ (ih (m + 1) fun j v hj => ?_)
      obtain ⟨t, e⟩ := h (j + 1) v (by simpa using hj)
      exact ⟨t, by rw [e]; congr 1; omega⟩
  have := key ys 0 fun j v hj => by
    rw [Nat.zero_add]; exact h j v hj
  rw [hl] at this
  unfold rng
  rw [List.map_map, List.range_eq_range']
  exact this
theorem cr_listRng {X : Cx} (hh : X.A.handled = none) : CallR X (.type "list") (fun vs H Q => ∃ (p : Addr) (n : Nat), vs = [V.ref p] ∧ H p = some (.rng 0 (n : Int)) ∧ n ≤ 1000 ∧ ∀ l, H l = none → Q (.ref l) (upd H l (.lst ((rng n).map V.int)))) := by
  intro pins s σ H vs us Q I r h
  obtain ⟨p, n, rfl, hp, hn, q⟩ := h
  obtain ⟨u, rfl, rx⟩ := vals1 r
  cases rx
  obtain ⟨t, u, v, ho⟩ := I.hok _ _ hp
  refine call_list_range (n := n) hh (show IsRange s.heap p 0 (n : Int) 1 t u v from ho) (small_one (by omega) (by omega) (by omega) (by omega)) ?_ (by omega) fun h' tk acc c kp e it => ?_
  · rw [rangeSize_one]
    split <;> omega
  refine ⟨.ref s.heap.objs.size, _, I.laid (t' := tk) kp (Nat.le_refl _) (show ObjOk X.prog X.w _ h' _ (.lst ((rng n).map V.int)) from ⟨?_, acc.toList, c, ?_, by simpa using e⟩), rfl, q _ (I.hok.fresh (Nat.le_refl _))⟩
  · rw [List.length_map, rng_len, sizeLine_eq]; omega
  · refine vals_rng n _ (by rw [Array.length_toList]; exact it.1) fun j v hj => ?_
    obtain ⟨t, e⟩ := it.2 j v (by simpa using hj)
    exact ⟨t, by rw [e]; simp⟩
/-! ### what the defs tell -/
def meetL (d : PyData) (n : Nat) (x y : Int) : Int := joinL d ((withinL d n x).filter fun s => wi d s y)
def diffL (d : PyData) (n : Nat) (x y : Int) : List Int := (rng n).filter fun s => wi d x (cell d s.toNat y.toNat)
def leastO (d : PyData) (L : List Int) : Option Int := L.find? fun s => L.all fun e => wi d s e
def oV : Option Int → V
  | none => .non
  | some i => .int i
def bareL (d : PyData) (L : List Int) : List Int := L.filter fun s => !((lessL L s).any fun e => wi d e s)
theorem withinL_len (d : PyData) (n : Nat) (y : Int) : (withinL d n y).length ≤ n := by
  have := List.length_filter_le (fun x => wi d x y) (rng n)
  rw [rng_len] at this
  exact this
theorem withinL_in {d : PyData} {n : Nat} {x y : Int} (h : x ∈ withinL d n y) : In n x := rng_mem.mp (List.mem_filter.mp h).1
theorem diffL_len (d : PyData) (n : Nat) (x y : Int) : (diffL d n x y).length ≤ n := by
  have := List.length_filter_le (fun s => wi d x (cell d s.toNat y.toNat)) (rng n)
  rw [rng_len] at this
  exact this
theorem diffL_in {d : PyData} {n : Nat} {x y s : Int} (h : s ∈ diffL d n x y) : In n s := rng_mem.mp (List.mem_filter.mp h).1
theorem z_in {d : PyData} {n : Nat} (M : Mx d n) : In n 0 := ⟨by decide, by have := M.pos; show (0 : Int).toNat < n; omega⟩
theorem meetL_in {d : PyData} {n : Nat} (M : Mx d n) {x y : Int} : In n (meetL d n x y) :=
  joinL_in M _ 0 (fun m hm => withinL_in (List.mem_filter.mp hm).1) (z_in M)
theorem cell_in {d : PyData} {n : Nat} (M : Mx d n) {x y : Int} (hx : In n x) (hy : In n y) : In n (cell d x.toNat y.toNat) := by
  obtain ⟨_, c0, c1⟩ := M.cel x.toNat y.toNat hx.2 hy.2
  exact ⟨c0, by omega⟩
section
variable {P : Program} {w : World} {mg : Str → Option Value} {base : Heap} {f : String → Addr} {a c Pt P8 Pp Pq Ph Pl Pb Pd : Addr} {fd g1 g2 g3 g4 g5 : FuncData}
/-! ### meet_of, meet -/
def spMo (K : PySem.W.Frag) : Sp := fun vs H Q _ => ∃ (x : V) (d : PyData) (n : Nat) (i j : Int), vs = [x, .int i, .int j] ∧ Tbl K H x d n ∧ In n i ∧ In n j ∧ ∀ H', Kp H H' → Q (.int (meetL d n i j)) H'
abbrev Nmo : List Str := ["table", "one", "other", "both", "state"]
theorem sc_mo : FnScope Nmo ["table", "one", "other"] (defScope s_meet_of) := ⟨rfl, rfl, rfl, by decide +kernel, rfl, by decide +kernel, by decide +kernel⟩
theorem ok_mo (T : Tx mg f) (F : Fun K "meet_of" "meet_of" s_meet_of a fd) (Gs : FnOk P w K mg base CX0 2 (f "states_within") g1 ["table", "number"] (spStates K)) (Bs : Binds K g1 ["table", "number"] []) (ks : PySem.W.keepIn K (.ref (f "states_within")) = true)
    (Gl : FnOk P w K mg base CX0 1 (f "lies_within") g2 ["table", "one", "other"] (spWithin K)) (Bl : Binds K g2 ["table", "one", "other"] []) (kl : PySem.W.keepIn K (.ref (f "lies_within")) = true)
    (Gj : FnOk P w K mg base CX0 1 (f "joined_numbers") g3 ["table", "numbers"] (spJoined K)) (Bj : Binds K g3 ["table", "numbers"] []) (kj : PySem.W.keepIn K (.ref (f "joined_numbers")) = true) : FnOk P w K mg base CX0 3 a fd ["table", "one", "other"] (spMo K) := by
  refine F.ok sc_mo (fun vs H Q E h => ?_) (fun cdv A outer s H vs Q E hr h => ?_)
  · obtain ⟨_, _, _, _, _, rfl, _⟩ := h
    rfl
  obtain ⟨x, d, n, i, j, rfl, ht, hi, hj, q⟩ := h
  refine ⟨_, pss_cons (ps_setLc (i := 3) (own := [("state", 4)]) (g := gName 4) rfl sc_mo.nd rfl (by first | rfl | decide +kernel) (sw_true rfl (by first | rfl | decide +kernel) rfl (by decide +kernel)) (pi_list (pe_call Gs hr rfl (T.fn "states_within" (by decide)) ks Bs .nil pass0 (pa_cons (pv 0) (pa_cons (pv 1) pa_nil)))) (blkOk_by (by change blkC Nmo (defScope s_meet_of) _ _ = true; decide +kernel)) (fun _ _ _ _ _ => pg_name (i := 4) sc_mo.nd rfl (Or.inl rfl))
      (fun _ _ _ _ _ => pts_one (pt_val (pe_call Gl (hr.mono (by decide)) rfl (T.fn "lies_within" (by decide)) kl Bl .nil pass0 (pa_cons (pv 0) (pa_cons (pv 4) (pa_cons (pv 2) pa_nil)))))) (fun _ _ _ _ _ => pv 4))
    (pss_one (ps_ret (pe_call Gj (hr.mono (by decide)) rfl (T.fn "joined_numbers" (by decide)) kj Bj .nil pass0 (pa_cons (pv 0) (pa_cons (pv 3) pa_nil))))), ?_⟩
  refine ⟨_, rfl, _, rfl, x, d, n, i, rfl, ht, hi, fun l H1 hl k1 => ⟨l, rfl, ⟨_, .inl (.inl hl)⟩, fun D hD => ?_⟩⟩
  have wl := withinL_len d n i
  have n8 := ht.2.le
  refine lc_list (xs := (withinL d n i).map V.int) (fun m H' => Kp H1 H' ∧ H' D = some (.lst ((((withinL d n i).take m).filter fun x => wi d x j).map V.int))) ⟨Kp.new hD, upd_same⟩ (fun m H' _ v => .inl (.inl (v.1.lst hl))) ?_ ?_
  · rintro m v H2 hv ⟨k2, hD1⟩
    rw [List.getElem?_map] at hv
    obtain ⟨z, hz, rfl⟩ := Option.map_eq_some_iff.mp hv
    have hin := withinL_in (List.mem_of_getElem? hz)
    have lf := List.length_filter_le (fun x => wi d x j) ((withinL d n i).take m)
    rw [List.length_take] at lf
    refine ⟨rfl, _, rfl, _, rfl, _, rfl, _, d, n, z, j, rfl, ht.kp (k1.trans k2), hin, hj, _, rfl, ?_⟩
    have fs := filt_take (fun x => wi d x j) (withinL d n i) m z hz
    refine ite2 (fun c => ?_) (fun c => ?_)
    · refine ⟨_, rfl, _, hD1, by rw [sizeLine_eq, List.length_map]; omega, k2.over hD, ?_⟩
      rw [fs, if_pos c, List.map_append]
      exact upd_same
    · refine ⟨k2, ?_⟩
      rw [fs, if_neg c, List.append_nil]
      exact hD1
  · rintro H2 ⟨k2, hD1⟩
    rw [List.length_map, List.take_length] at hD1
    exact ⟨_, rfl, _, rfl, x, d, n, D, _, rfl, ht.kp (k1.trans k2), hD1, fun m hm => withinL_in (List.mem_filter.mp hm).1, q H2 (k1.trans k2)⟩
def spMt (K : PySem.W.Frag) (P8 P9 : Addr) : Sp := fun vs H Q _ => ∃ (x : V) (d : PyData) (n : Nat) (i j : Int), vs = [x, .int i, .int j] ∧ Tbl K H x d n ∧ IsT d ∧ In n i ∧ In n j ∧ GxR.TabG H P8 ∧ GxR.TabG H P9 ∧ ∀ H', Kp H H' → Q (.int (meetL d n i j)) H'
theorem sc_me : FnScope ["table", "one", "other"] ["table", "one", "other"] (defScope s_meet) := ⟨rfl, rfl, rfl, by decide +kernel, rfl, by decide +kernel, by decide +kernel⟩
theorem ok_me (T : Tx mg f) (F : Fun K "meet" "meet" s_meet a fd) (Gc : FnOk P w K mg base CX0 9 (f "check_table") g1 ["table"] (spCheck K P8 Pt)) (Bc : Binds K g1 ["table"] []) (kc : PySem.W.keepIn K (.ref (f "check_table")) = true)
    (Gn : FnOk P w K mg base CX0 4 (f "check_number") g2 ["table", "number"] (spCN K)) (Bn : Binds K g2 ["table", "number"] []) (kn : PySem.W.keepIn K (.ref (f "check_number")) = true)
    (G : FnOk P w K mg base CX0 3 (f "meet_of") g3 ["table", "one", "other"] (spMo K)) (B : Binds K g3 ["table", "one", "other"] []) (kp : PySem.W.keepIn K (.ref (f "meet_of")) = true) : FnOk P w K mg base CX0 10 a fd ["table", "one", "other"] (spMt K P8 Pt) := by
  refine F.ok sc_me (fun vs H Q E h => ?_) (fun cdv A outer s H vs Q E hr h => ?_)
  · obtain ⟨_, _, _, _, _, rfl, _⟩ := h
    rfl
  obtain ⟨x, d, n, i, j, rfl, ht, ist, hi, hj, h8, h9, q⟩ := h
  refine ⟨_, pss_cons (ps_expr (pe_call Gc hr rfl (T.fn "check_table" (by decide)) kc Bc .nil pass0 (pa_cons (pv 0) pa_nil))) (pss_cons (ps_expr (pe_call Gn (hr.mono (by decide)) rfl (T.fn "check_number" (by decide)) kn Bn .nil pass0 (pa_cons (pv 0) (pa_cons (pv 1) pa_nil))))
    (pss_cons (ps_expr (pe_call Gn (hr.mono (by decide)) rfl (T.fn "check_number" (by decide)) kn Bn .nil pass0 (pa_cons (pv 0) (pa_cons (pv 2) pa_nil))))
    (pss_one (ps_ret (pe_call G (hr.mono (by decide)) rfl (T.fn "meet_of" (by decide)) kp B .nil pass0 (pa_cons (pv 0) (pa_cons (pv 1) (pa_cons (pv 2) pa_nil)))))))), ?_⟩
  refine ⟨_, rfl, x, d, n, rfl, ht, ist, h8, h9, fun H1 k1 => ⟨_, rfl, _, rfl, x, d, n, i, rfl, ht.kp k1, hi, fun H2 k2 => ⟨_, rfl, _, rfl, x, d, n, j, rfl, ht.kp (k1.trans k2), hj, fun H3 k3 => ?_⟩⟩⟩
  have k13 := (k1.trans k2).trans k3
  exact ⟨_, rfl, _, rfl, _, rfl, x, d, n, i, j, rfl, ht.kp k13, hi, hj, fun H4 k4 => q H4 (k13.trans k4)⟩
/-! ### differences_of -/
def spDo (K : PySem.W.Frag) : Sp := fun vs H Q _ => ∃ (x : V) (d : PyData) (n : Nat) (i j : Int), vs = [x, .int i, .int j] ∧ Tbl K H x d n ∧ In n i ∧ In n j ∧ ∀ p H', H' p = some (.lst ((diffL d n i j).map V.int)) → Fz H p → Kp H H' → Q (.ref p) H'
abbrev Ndo : List Str := ["table", "one", "other", "state"]
theorem sc_do : FnScope Ndo ["table", "one", "other"] (defScope s_differences_of) := ⟨rfl, rfl, rfl, by decide +kernel, rfl, by decide +kernel, by decide +kernel⟩
theorem ok_do (T : Tx mg f) (F : Fun K "differences_of" "differences_of" s_differences_of a fd) (G : FnOk P w K mg base CX0 1 (f "lies_within") g1 ["table", "one", "other"] (spWithin K)) (B : Binds K g1 ["table", "one", "other"] []) (kp : PySem.W.keepIn K (.ref (f "lies_within")) = true) :
    FnOk P w K mg base CX0 2 a fd ["table", "one", "other"] (spDo K) := by
  refine F.ok sc_do (fun vs H Q E h => ?_) (fun cdv A outer s H vs Q E hr h => ?_)
  · obtain ⟨_, _, _, _, _, rfl, _⟩ := h
    rfl
  obtain ⟨x, d, n, i, j, rfl, ht, hi, hj, q⟩ := h
  refine ⟨_, pss_one (ps_ret (pe_lc (own := [("state", 3)]) (g := gName 3) (tt := tB (tCall (spWithin K) [] E0 (tCons (tVar 0) (tCons (tVar 1) (tCons (tOp (fun x y H Q => rIxL K x y H Q ∨ rIxT K x y H Q) (tOp (fun x y H Q => rIxL K x y H Q ∨ rIxT K x y H Q) (tVar 0) (tVar 3)) (tVar 2)) tNil))))) (te := tVar 3) rfl sc_do.nd (pi_range1 rfl (T.bl "range" (by decide)) (pa_cons (pe_callB (cr_len (K := K) rfl) rfl (T.bl "len" (by decide)) PySem.boot_len (pa_cons (pv 0) pa_nil)) pa_nil)) (blkOk_by (by change blkC Ndo (defScope s_differences_of) _ _ = true; decide +kernel)) (fun _ _ _ _ _ => pg_name (i := 3) sc_do.nd rfl (Or.inl rfl))
      (fun _ _ _ _ _ => ?ts) (fun _ _ _ _ _ => pv 3))), ?_⟩
  case ts => exact pts_one (pt_val (pe_call G hr rfl (T.fn "lies_within" (by decide)) kp B .nil pass0 (pa_cons (pv 0) (pa_cons (pv 1) (pa_cons (pe_ix (ix_list.or ix_tup) (pe_ix (ix_list.or ix_tup) (pv 0) (pv 3) (fun _ _ => rfl)) (pv 2) (fun _ _ => rfl)) pa_nil)))))
  obtain ⟨t, ys, rfl, sq, ly⟩ := ht.len
  have n8 := ht.2.le
  refine ⟨_, rfl, t, ys, rfl, sq, _, rfl, by omega, by omega, fun D hD => ?_⟩
  rw [show ((ys.length : Int)).toNat = n by omega]
  refine lc_range (lo := 0) (n := n) (fun m H' => Kp H H' ∧ H' D = some (.lst (((rng m).filter fun s => wi d i (cell d s.toNat j.toNat)).map V.int))) ⟨Kp.new hD, upd_same⟩ ?_ ?_
  · rintro m H1 hm ⟨k1, hD1⟩
    have em : (0 + (m : Int)) = (m : Int) := Int.zero_add _
    rw [em]
    have hin : In n (m : Int) := ⟨by omega, by omega⟩
    have lf := List.length_filter_le (fun s => wi d i (cell d s.toNat j.toNat)) (rng m)
    rw [rng_len] at lf
    have ht1 := ht.kp k1
    refine ⟨rfl, _, rfl, _, rfl, ?_⟩
    refine ⟨_, rfl, _, rfl, ht1.row hin fun r rr => ⟨_, rfl, ht1.cell rr hin hj ⟨_, d, n, i, _, rfl, ht1, hi, cell_in ht.2 hin hj, _, rfl, ?_⟩⟩⟩
    have fs := filt_succ (fun s => wi d i (cell d s.toNat j.toNat)) m
    refine ite2 (fun c => ?_) (fun c => ?_)
    · refine ⟨_, rfl, _, hD1, by rw [sizeLine_eq, List.length_map]; omega, k1.over hD, ?_⟩
      rw [fs, if_pos c, List.map_append]
      exact upd_same
    · refine ⟨k1, ?_⟩
      rw [fs, if_neg c, List.append_nil]
      exact hD1
  · rintro H1 ⟨k1, hD1⟩
    exact q D H1 hD1 (Fz.of (Kp.refl H) hD) k1
/-! ### least_difference, table_difference -/
def spLd (K : PySem.W.Frag) (Pl : Addr) : Sp := fun vs H Q _ => ∃ (x : V) (d : PyData) (n : Nat) (i j : Int), vs = [x, .int i, .int j] ∧ Tbl K H x d n ∧ In n i ∧ In n j ∧ GxR.TabG H Pl ∧ ∀ H', Kp H H' → Q (oV (leastO d (diffL d n i j))) H'
abbrev Nld : List Str := ["table", "one", "other", "found", "state", "each"]
theorem sc_ld : FnScope Nld ["table", "one", "other"] (defScope s_least_difference) := ⟨rfl, rfl, rfl, by decide +kernel, rfl, by decide +kernel, by decide +kernel⟩
theorem ok_ld (T : Tx mg f) (F : FunC K "least_difference" "least_difference" s_least_difference a fd c) (TB : GxR.TabB base mg c Pt) (Gd : FnOk P w K mg base CX0 2 (f "differences_of") g1 ["table", "one", "other"] (spDo K)) (Bd : Binds K g1 ["table", "one", "other"] []) (kd : PySem.W.keepIn K (.ref (f "differences_of")) = true)
    (Gl : FnOk P w K mg base CX0 1 (f "lies_within") g2 ["table", "one", "other"] (spWithin K)) (Bl : Binds K g2 ["table", "one", "other"] []) (kl : PySem.W.keepIn K (.ref (f "lies_within")) = true) : FnOk P w K mg base CX0 3 a fd ["table", "one", "other"] (spLd K Pt) := by
  refine F.ok sc_ld (fun vs H Q E h => ?_) (fun A outer s H vs Q E hr h => ?_)
  · obtain ⟨_, _, _, _, _, rfl, _⟩ := h
    rfl
  obtain ⟨x, d, n, i, j, rfl, ht, hi, hj, hP, q⟩ := h
  refine ⟨_, pss_cons (ps_set (i := 3) sc_ld.nd rfl (by first | exact Or.inl rfl | exact Or.inr rfl) (pe_call Gd hr rfl (T.fn "differences_of" (by decide)) kd Bd .nil pass0 (pa_cons (pv 0) (pa_cons (pv 1) (pa_cons (pv 2) pa_nil)))))
    (pss_cons (ps_for PassesOwn.never rfl (pi_list (pv 3)) (pg_name (i := 4) sc_ld.nd rfl (by first | exact Or.inl rfl | exact Or.inr rfl))
      (pss_one (ps_if (pt_val (Gx.pe_all (k := 1) (ix := 5) (hr.mono (by decide)) rfl (T.bl "all" (by decide)) TB rfl (gscp_by (by change gscpC Nld (defScope s_least_difference) _ _ _ = true; decide +kernel)) (pi_list (pv 3)) (fun _ _ _ _ _ => pg_name (i := 5) sc_ld.nd rfl (Or.inl rfl))
        (fun _ _ _ _ _ hr' => pe_call Gl hr' rfl (T.fn "lies_within" (by decide)) kl Bl .nil pass0 (pa_cons (pv 0) (pa_cons (pv 4) (pa_cons (pv 5) pa_nil)))) (fun _ => rfl))) (pss_one (ps_ret (pv 4))) pss_nil)))
    (pss_one (ps_ret pe_non))), ?_⟩
  refine ⟨_, rfl, _, rfl, _, rfl, x, d, n, i, j, rfl, ht, hi, hj, fun l H1 hl _ k1 => ?_⟩
  have lin : ∀ z ∈ diffL d n i j, In n z := fun z hz => diffL_in hz
  generalize diffL d n i j = L at hl lin q
  refine ⟨_, rfl, l, rfl, ⟨_, .inl (.inl hl)⟩, ?_⟩
  refine for_list (xs := L.map V.int) (fun m σ H' => Kp H1 H' ∧ (∃ o4, σ = [some x, some (.int i), some (.int j), some (.ref l), o4, none]) ∧ ∀ s ∈ L.take m, (L.all fun e => wi d s e) = false) ⟨Kp.refl _, ⟨none, rfl⟩, fun s hs => by cases hs⟩ (fun m σ H' _ v => .inl (.inl (v.1.lst hl))) ?_ ?_
  · rintro m v σ H2 hv ⟨k2, ⟨o4, rfl⟩, pre⟩
    rw [List.getElem?_map] at hv
    obtain ⟨z, hz, rfl⟩ := Option.map_eq_some_iff.mp hv
    have hin := lin z (List.mem_of_getElem? hz)
    have hl2 := k2.lst hl
    have k12 := k1.trans k2
    have hP2 := k12.tab _ hP
    refine ⟨_, rfl, l, rfl, ⟨_, .inl (.inl hl2)⟩, hP2, fun H3 t3 => ?_⟩
    have k3 := Kp.tabbed hP2 t3
    have k13 := k12.trans k3
    refine ⟨L.length, ⟨fun m' σ H' => H3 = H' ∧ (∃ o5, σ = [some x, some (.int i), some (.int j), some (.ref l), some (.int z), o5]) ∧ ∀ e ∈ L.take m', wi d z e = true, fun b _ σ H' => b = false ∧ H3 = H' ∧ ∃ e ∈ L, wi d z e = false, fun H' => H3 = H' ∧ ∀ e ∈ L, wi d z e = true⟩, ?_, ⟨rfl, ⟨none, rfl⟩, fun e he => by cases he⟩, ?_, ?_⟩
    · rintro m' σ H4 hi' ⟨rfl, ⟨o5, rfl⟩, pr⟩
      have h3 := k3.lst hl2
      have sq3 : SqL K H3 l (L.map V.int) := .inl (.inl h3)
      rcases Nat.lt_or_ge m' L.length with hlt | hge
      · refine .inr ⟨hlt, ⟨L.map V.int, .int L[m'], sq3, by rw [List.getElem?_map, List.getElem?_eq_getElem hlt]; rfl⟩, fun y H' hy => ?_⟩
        obtain ⟨rfl, hy2⟩ := hy
        have hy3 := hy2 _ sq3
        rw [List.getElem?_map, List.getElem?_eq_getElem hlt] at hy3
        have ey : V.int L[m'] = y := by simpa using hy3
        subst ey
        refine ⟨_, rfl, _, rfl, _, rfl, x, d, n, z, L[m'], rfl, ht.kp k13, hin, lin _ (List.getElem_mem hlt), _, rfl, ?_⟩
        by_cases hc : wi d z L[m'] = true
        · rw [hc, if_pos rfl]
          refine ⟨rfl, ⟨_, rfl⟩, fun e he => ?_⟩
          rw [List.take_add_one, List.getElem?_eq_getElem hlt] at he
          rcases List.mem_append.mp he with h | h
          · exact pr e h
          · have : e = L[m'] := by simpa using h
            rw [this]; exact hc
        · have hc' := Bool.eq_false_iff.mpr hc
          rw [hc', if_neg (by decide)]
          exact ⟨rfl, rfl, L[m'], List.getElem_mem hlt, hc'⟩
      · refine .inl ⟨⟨L.map V.int, sq3, by rw [List.length_map]; exact hge⟩, rfl, ?_⟩
        rw [List.take_of_length_le hge] at pr
        exact pr
    · rintro m' σ' H' ⟨_, rfl, e, he, hw⟩
      have no : (L.all fun e => wi d z e) = false := by
        rw [List.all_eq_false]
        exact ⟨e, he, by rw [hw]; decide⟩
      refine ⟨_, rfl, ite2 (fun c => absurd c (by decide)) (fun _ => ⟨k2.trans k3, ⟨_, rfl⟩, fun s hs => ?_⟩)⟩
      rw [List.take_add_one, hz] at hs
      rcases List.mem_append.mp hs with h | h
      · exact pre s h
      · have : s = z := by simpa using h
        rw [this]; exact no
    · rintro H' ⟨rfl, yes⟩
      have e : leastO d L = some z := by
        unfold leastO
        rw [List.find?_eq_some_iff_getElem]
        have hm := (List.getElem?_eq_some_iff.mp hz)
        obtain ⟨hm, em⟩ := hm
        refine ⟨List.all_eq_true.mpr yes, m, hm, em, fun k hk => ?_⟩
        have := pre L[k] (List.mem_take_iff_getElem.mpr ⟨k, by omega, rfl⟩)
        rw [this]; rfl
      rw [e] at q
      exact ⟨_, rfl, ite2 (fun _ => ⟨_, rfl, q H3 k13⟩) (fun c => absurd rfl c)⟩
  · rintro σ H2 ⟨k2, ⟨o4, rfl⟩, pre⟩
    rw [List.length_map, List.take_length] at pre
    have e : leastO d L = none := by
      unfold leastO
      rw [List.find?_eq_none]
      intro s hs
      rw [pre s hs]; decide
    rw [e] at q
    exact q H2 (k1.trans k2)
end
end Tb

namespace Tb
open PySem PySem.Spec PyProof.Rows L2
variable {K : PySem.W.Frag}
/-- two states without a least difference have two bare ones -/
def Bare2 (d : PyData) (n : Nat) : Prop := ∀ i j : Int, In n i → In n j → leastO d (diffL d n i j) = none → 2 ≤ (bareL d (diffL d n i j)).length
def HasAll (d : PyData) (n : Nat) : Prop := ∀ i j : Nat, i < n → j < n → leastO d (diffL d n (i : Int) (j : Int)) ≠ none
def DistP (d : PyData) (n : Nat) : Prop := ∀ i j k : Nat, i < n → j < n → k < n → meetL d n (i : Int) (cell d j k) = cell d (meetL d n (i : Int) (j : Int)).toNat (meetL d n (i : Int) (k : Int)).toNat
/-- what two_differences tells -/
def TwoD (d : PyData) (n : Nat) (e : PyData) : Prop := (HasAll d n ∧ e = .none) ∨ ∃ (i j : Nat) (s t : Int) (r : List Int), i < n ∧ j < n ∧ (∀ i' j' : Nat, i' < n → j' < n → i' < i ∨ (i' = i ∧ j' < j) → leastO d (diffL d n (i' : Int) (j' : Int)) ≠ none) ∧ leastO d (diffL d n (i : Int) (j : Int)) = none ∧
  bareL d (diffL d n (i : Int) (j : Int)) = s :: t :: r ∧ e = .tuple [.int i, .int j, .int s, .int t]
theorem rng_at {n : Nat} {i : Int} (h : In n i) : (rng n)[i.toNat]? = some i := by
  unfold rng
  rw [List.getElem?_map, List.getElem?_range h.2]
  have := h.1
  show some ((i.toNat : Nat) : Int) = some i
  congr 1
  omega
theorem mrow {H : Hp} {p : Addr} {bs : List (Addr × List Int)} {n : Nat} {g : Int → List Int} {i : Int} {R : VK} (hp : H p = some (.lst (bs.map fun q => V.ref q.1))) (ll : ∀ q ∈ bs, H q.1 = some (.lst (q.2.map V.int))) (e : bs.map Prod.snd = (rng n).map g) (hi : In n i)
    (hR : ∀ b, H b = some (.lst ((g i).map V.int)) → R (.ref b) H) : rIxL K (.ref p) (.int i) H R := by
  have h1 : (bs.map Prod.snd)[i.toNat]? = some (g i) := by rw [e, List.getElem?_map, rng_at hi]; rfl
  rw [List.getElem?_map] at h1
  obtain ⟨b, hb, eb⟩ := Option.map_eq_some_iff.mp h1
  have hm := ll b (List.mem_of_getElem? hb)
  have h2 := atI_nat (xs := bs.map fun q => V.ref q.1) (j := i.toNat) (v := .ref b.1) (by rw [List.getElem?_map, hb]; rfl)
  rw [show ((i.toNat : Nat) : Int) = i by have := hi.1; omega] at h2
  exact ⟨p, _, i, .ref b.1, rfl, rfl, .inl (.inl hp), h2, hR b.1 (by rw [← eb]; exact hm)⟩
theorem mcell {H : Hp} {b : Addr} {n : Nat} {g : Int → Int} {j : Int} {R : VK} (hb : H b = some (.lst (((rng n).map g).map V.int))) (hj : In n j) (q : R (.int (g j)) H) : rIxL K (.ref b) (.int j) H R := by
  have h2 := atI_nat (xs := ((rng n).map g).map V.int) (j := j.toNat) (v := .int (g j)) (by rw [List.getElem?_map, List.getElem?_map, rng_at hj]; rfl)
  rw [show ((j.toNat : Nat) : Int) = j by have := hj.1; omega] at h2
  exact ⟨b, _, j, .int (g j), rfl, rfl, .inl (.inl hb), h2, q⟩
theorem oV_non {o : Option Int} : decide (oV o = .non) = decide (o = none) := by
  cases o with
  | none => rfl
  | some i => rfl
section
variable {P : Program} {w : World} {mg : Str → Option Value} {base : Heap} {f : String → Addr} {a c Pt P8 Pp Pq Ph Pl Pb Pd : Addr} {fd g1 g2 g3 g4 g5 : FuncData}
/-! ### table_difference -/
def spTd (K : PySem.W.Frag) (Pl P8 P9 : Addr) : Sp := fun vs H Q _ => ∃ (x : V) (d : PyData) (n : Nat) (i j : Int), vs = [x, .int i, .int j] ∧ Tbl K H x d n ∧ IsT d ∧ In n i ∧ In n j ∧ GxR.TabG H Pl ∧ GxR.TabG H P8 ∧ GxR.TabG H P9 ∧ ∀ H', Kp H H' → Q (oV (leastO d (diffL d n i j))) H'
theorem sc_td : FnScope ["table", "one", "other"] ["table", "one", "other"] (defScope s_table_difference) := ⟨rfl, rfl, rfl, by decide +kernel, rfl, by decide +kernel, by decide +kernel⟩
theorem ok_td (T : Tx mg f) (F : Fun K "table_difference" "table_difference" s_table_difference a fd) (Gc : FnOk P w K mg base CX0 9 (f "check_table") g1 ["table"] (spCheck K P8 Pt)) (Bc : Binds K g1 ["table"] []) (kc : PySem.W.keepIn K (.ref (f "check_table")) = true)
    (Gn : FnOk P w K mg base CX0 4 (f "check_number") g2 ["table", "number"] (spCN K)) (Bn : Binds K g2 ["table", "number"] []) (kn : PySem.W.keepIn K (.ref (f "check_number")) = true)
    (G : FnOk P w K mg base CX0 3 (f "least_difference") g3 ["table", "one", "other"] (spLd K Pl)) (B : Binds K g3 ["table", "one", "other"] []) (kp : PySem.W.keepIn K (.ref (f "least_difference")) = true) : FnOk P w K mg base CX0 10 a fd ["table", "one", "other"] (spTd K Pl P8 Pt) := by
  refine F.ok sc_td (fun vs H Q E h => ?_) (fun cdv A outer s H vs Q E hr h => ?_)
  · obtain ⟨_, _, _, _, _, rfl, _⟩ := h
    rfl
  obtain ⟨x, d, n, i, j, rfl, ht, ist, hi, hj, hl, h8, h9, q⟩ := h
  refine ⟨_, pss_cons (ps_expr (pe_call Gc hr rfl (T.fn "check_table" (by decide)) kc Bc .nil pass0 (pa_cons (pv 0) pa_nil))) (pss_cons (ps_expr (pe_call Gn (hr.mono (by decide)) rfl (T.fn "check_number" (by decide)) kn Bn .nil pass0 (pa_cons (pv 0) (pa_cons (pv 1) pa_nil))))
    (pss_cons (ps_expr (pe_call Gn (hr.mono (by decide)) rfl (T.fn "check_number" (by decide)) kn Bn .nil pass0 (pa_cons (pv 0) (pa_cons (pv 2) pa_nil))))
    (pss_one (ps_ret (pe_call G (hr.mono (by decide)) rfl (T.fn "least_difference" (by decide)) kp B .nil pass0 (pa_cons (pv 0) (pa_cons (pv 1) (pa_cons (pv 2) pa_nil)))))))), ?_⟩
  refine ⟨_, rfl, x, d, n, rfl, ht, ist, h8, h9, fun H1 k1 => ⟨_, rfl, _, rfl, x, d, n, i, rfl, ht.kp k1, hi, fun H2 k2 => ⟨_, rfl, _, rfl, x, d, n, j, rfl, ht.kp (k1.trans k2), hj, fun H3 k3 => ?_⟩⟩⟩
  have k13 := (k1.trans k2).trans k3
  exact ⟨_, rfl, _, rfl, _, rfl, x, d, n, i, j, rfl, ht.kp k13, hi, hj, k13.tab _ hl, fun H4 k4 => q H4 (k13.trans k4)⟩
/-! ### bare_differences -/
def spBd (K : PySem.W.Frag) (Pb : Addr) : Sp := fun vs H Q _ => ∃ (x : V) (d : PyData) (n : Nat) (i j : Int), vs = [x, .int i, .int j] ∧ Tbl K H x d n ∧ In n i ∧ In n j ∧ GxR.TabG H Pb ∧ ∀ p H', H' p = some (.lst ((bareL d (diffL d n i j)).map V.int)) → Kp H H' → Q (.ref p) H'
abbrev Nbd : List Str := ["table", "one", "other", "found", "state", "each"]
theorem sc_bd : FnScope Nbd ["table", "one", "other"] (defScope s_bare_differences) := ⟨rfl, rfl, rfl, by decide +kernel, rfl, by decide +kernel, by decide +kernel⟩
theorem ok_bd (T : Tx mg f) (F : FunC K "bare_differences" "bare_differences" s_bare_differences a fd c) (TB : GxR.TabB base mg c Pt) (Gd : FnOk P w K mg base CX0 2 (f "differences_of") g1 ["table", "one", "other"] (spDo K)) (Bd : Binds K g1 ["table", "one", "other"] []) (kd : PySem.W.keepIn K (.ref (f "differences_of")) = true)
    (Gl : FnOk P w K mg base CX0 1 (f "lies_within") g2 ["table", "one", "other"] (spWithin K)) (Bl : Binds K g2 ["table", "one", "other"] []) (kl : PySem.W.keepIn K (.ref (f "lies_within")) = true)
    (Gw : FnOk P w K mg base CX0 1 (f "without") g3 ["numbers", "number"] (spLess K)) (Bw : Binds K g3 ["numbers", "number"] []) (kw : PySem.W.keepIn K (.ref (f "without")) = true) : FnOk P w K mg base CX0 3 a fd ["table", "one", "other"] (spBd K Pt) := by
  refine F.ok sc_bd (fun vs H Q E h => ?_) (fun A outer s H vs Q E hr h => ?_)
  · obtain ⟨_, _, _, _, _, rfl, _⟩ := h
    rfl
  obtain ⟨x, d, n, i, j, rfl, ht, hi, hj, hP, q⟩ := h
  refine ⟨_, pss_cons (ps_set (i := 3) sc_bd.nd rfl (by first | exact Or.inl rfl | exact Or.inr rfl) (pe_call Gd hr rfl (T.fn "differences_of" (by decide)) kd Bd .nil pass0 (pa_cons (pv 0) (pa_cons (pv 1) (pa_cons (pv 2) pa_nil)))))
    (pss_one (ps_ret (pe_lc (own := [("state", 4)]) (g := gName 4) (tt := tNot (tB (Gx.tAllG Pt 5 (iList K (tCall (spLess K) [] E0 (tCons (tVar 3) (tCons (tVar 4) tNil)))) (gName 5) (tCall (spWithin K) [] E0 (tCons (tVar 0) (tCons (tVar 5) (tCons (tVar 4) tNil)))) false))) (te := tVar 4) rfl sc_bd.nd (pi_list (pv 3)) (blkOk_by (by change blkC Nbd (defScope s_bare_differences) _ _ = true; decide +kernel)) (fun _ _ _ _ _ => pg_name (i := 4) sc_bd.nd rfl (by first | exact Or.inl rfl | exact Or.inr rfl))
      (fun _ _ _ _ _ => ?ts) (fun _ _ _ _ _ => pv 4)))), ?_⟩
  case ts =>
    exact pts_one (pt_not (pt_val (Gx.pe_any (k := 1) (ix := 5) (hr.mono (by decide)) rfl (T.bl "any" (by decide)) TB rfl (gscp_by (by change gscpC Nbd (relS _ (defScope s_bare_differences)) _ _ _ = true; decide +kernel)) (pi_list (pe_call Gw (hr.mono (by decide)) rfl (T.fn "without" (by decide)) kw Bw .nil pass0 (pa_cons (pv 3) (pa_cons (pv 4) pa_nil)))) (fun _ _ _ _ _ => pg_name (i := 5) sc_bd.nd rfl (Or.inl rfl))
      (fun _ _ _ _ _ hr' => pe_call Gl hr' rfl (T.fn "lies_within" (by decide)) kl Bl .nil pass0 (pa_cons (pv 0) (pa_cons (pv 5) (pa_cons (pv 4) pa_nil)))) (fun _ => rfl))))
  refine ⟨_, rfl, _, rfl, _, rfl, x, d, n, i, j, rfl, ht, hi, hj, fun l H1 hl _ k1 => ⟨_, rfl, l, rfl, ⟨_, .inl (.inl hl)⟩, fun D hD => ?_⟩⟩
  have lin : ∀ z ∈ diffL d n i j, In n z := fun z hz => diffL_in hz
  have len := diffL_len d n i j
  have n8 := ht.2.le
  generalize diffL d n i j = L at hl lin q len
  refine lc_list (xs := L.map V.int) (fun m H' => Kp H1 H' ∧ H' D = some (.lst (((L.take m).filter fun s => !((lessL L s).any fun e => wi d e s)).map V.int))) ⟨Kp.new hD, upd_same⟩ (fun m H' _ v => .inl (.inl (v.1.lst hl))) ?_ ?_
  · rintro m v H2 hv ⟨k2, hD1⟩
    rw [List.getElem?_map] at hv
    obtain ⟨z, hz, rfl⟩ := Option.map_eq_some_iff.mp hv
    have hin := lin z (List.mem_of_getElem? hz)
    have k12 := k1.trans k2
    have lf := List.length_filter_le (fun s => !((lessL L s).any fun e => wi d e s)) (L.take m)
    rw [List.length_take] at lf
    have fs := filt_take (fun s => !((lessL L s).any fun e => wi d e s)) L m z hz
    refine ⟨rfl, _, rfl, _, rfl, l, L, z, rfl, k2.lst hl, by omega, fun p H3 h3 k3 => ⟨p, rfl, ⟨_, .inl (.inl h3)⟩, (k12.trans k3).tab _ hP, fun H4 t4 => ?_⟩⟩
    have k4 := Kp.tabbed ((k12.trans k3).tab _ hP) t4
    have k34 := k3.trans k4
    have k14 := k12.trans k34
    have h4 := k4.lst h3
    have min' : ∀ e ∈ lessL L z, In n e := fun e he => lin e (List.mem_filter.mp he).1
    generalize hM : lessL L z = M at h3 h4 min'
    have sq4 : SqL K H4 p (M.map V.int) := .inl (.inl h4)
    have fin : ∀ (b : Bool), b = (M.any fun e => wi d e z) → tVar 4 [some x, some (.int i), some (.int j), some (.ref l), some (.int z), none] H4 (fun y H5 => True) → if (!b) = true then tVar 4 [some x, some (.int i), some (.int j), some (.ref l), some (.int z), none] H4 (fun y H4 => ∃ acc, H4 D = some (.lst acc) ∧ acc.length < sizeLine ∧ (Kp H1 (upd H4 D (.lst (acc ++ [y]))) ∧ upd H4 D (.lst (acc ++ [y])) D = some (.lst (((L.take (m + 1)).filter fun s => !((lessL L s).any fun e => wi d e s)).map V.int)))) else Kp H1 H4 ∧ H4 D = some (.lst (((L.take (m + 1)).filter fun s => !((lessL L s).any fun e => wi d e s)).map V.int)) := by
      intro b eb _
      rw [hM] at fs
      refine ite2 (fun c => ?_) (fun c => ?_)
      · refine ⟨_, rfl, _, k34.lst hD1, by rw [sizeLine_eq, List.length_map]; omega, (k2.trans k34).over hD, ?_⟩
        rw [fs, ← eb, if_pos c, List.map_append]
        exact upd_same
      · refine ⟨k2.trans k34, ?_⟩
        rw [fs, ← eb, if_neg c, List.append_nil]
        exact k34.lst hD1
    refine ⟨M.length, ⟨fun m' σ H' => H4 = H' ∧ (∃ o5, σ = [some x, some (.int i), some (.int j), some (.ref l), some (.int z), o5]) ∧ ∀ e ∈ M.take m', wi d e z = false, fun b _ σ H' => b = true ∧ H4 = H' ∧ ∃ e ∈ M, wi d e z = true, fun H' => H4 = H' ∧ ∀ e ∈ M, wi d e z = false⟩, ?_, ⟨rfl, ⟨none, rfl⟩, fun e he => by cases he⟩, ?_, ?_⟩
    · rintro m' σ H5 hi' ⟨rfl, ⟨o5, rfl⟩, pr⟩
      rcases Nat.lt_or_ge m' M.length with hlt | hge
      · refine .inr ⟨hlt, ⟨M.map V.int, .int M[m'], sq4, by rw [List.getElem?_map, List.getElem?_eq_getElem hlt]; rfl⟩, fun y H' hy => ?_⟩
        obtain ⟨rfl, hy2⟩ := hy
        have hy3 := hy2 _ sq4
        rw [List.getElem?_map, List.getElem?_eq_getElem hlt] at hy3
        have ey : V.int M[m'] = y := by simpa using hy3
        subst ey
        refine ⟨_, rfl, _, rfl, _, rfl, x, d, n, M[m'], z, rfl, ht.kp k14, min' _ (List.getElem_mem hlt), hin, _, rfl, ?_⟩
        by_cases hc : wi d M[m'] z = true
        · rw [hc, if_neg (by decide)]
          exact ⟨rfl, rfl, M[m'], List.getElem_mem hlt, hc⟩
        · have hc' := Bool.eq_false_iff.mpr hc
          rw [hc', if_pos rfl]
          refine ⟨rfl, ⟨_, rfl⟩, fun e he => ?_⟩
          rw [List.take_add_one, List.getElem?_eq_getElem hlt] at he
          rcases List.mem_append.mp he with h | h
          · exact pr e h
          · have : e = M[m'] := by simpa using h
            rw [this]; exact hc'
      · refine .inl ⟨⟨M.map V.int, sq4, by rw [List.length_map]; exact hge⟩, rfl, ?_⟩
        rw [List.take_of_length_le hge] at pr
        exact pr
    · rintro m' σ' H' ⟨_, rfl, e, he, hw⟩
      exact ⟨_, rfl, fin true (List.any_eq_true.mpr ⟨e, he, hw⟩).symm ⟨_, rfl, trivial⟩⟩
    · rintro H' ⟨rfl, no⟩
      refine ⟨_, rfl, fin false ?_ ⟨_, rfl, trivial⟩⟩
      symm
      rw [List.any_eq_false]
      intro e he
      rw [no e he]; decide
  · rintro H2 ⟨k2, hD1⟩
    rw [List.length_map, List.take_length] at hD1
    exact q D H2 hD1 (k1.trans k2)
end
end Tb

namespace Tb
open PySem PySem.Spec PyProof.Rows L2
variable {K : PySem.W.Frag}
section
variable {P : Program} {w : World} {mg : Str → Option Value} {base : Heap} {f : String → Addr} {a c Pt P8 Pp Pq Ph Pl Pb Pd : Addr} {fd g1 g2 g3 g4 g5 : FuncData}
/-! ### two_differences -/
def spTw (K : PySem.W.Frag) (Pl Pb P8 P9 : Addr) : Sp := fun vs H Q _ => ∃ (x : V) (d : PyData) (n : Nat), vs = [x] ∧ Tbl K H x d n ∧ IsT d ∧ Bare2 d n ∧ GxR.TabG H Pl ∧ GxR.TabG H Pb ∧ GxR.TabG H P8 ∧ GxR.TabG H P9 ∧ ∀ v e H', Rp K H' v e → TwoD d n e → Kp H H' → Q v H'
abbrev Ntw : List Str := ["table", "one", "other", "bare"]
theorem sc_tw : FnScope Ntw ["table"] (defScope s_two_differences) := ⟨rfl, rfl, rfl, by decide +kernel, rfl, by decide +kernel, by decide +kernel⟩
theorem ok_tw (T : Tx mg f) (F : Fun K "two_differences" "two_differences" s_two_differences a fd) (Gc : FnOk P w K mg base CX0 9 (f "check_table") g1 ["table"] (spCheck K P8 Pt)) (Bc : Binds K g1 ["table"] []) (kc : PySem.W.keepIn K (.ref (f "check_table")) = true)
    (G : FnOk P w K mg base CX0 3 (f "least_difference") g2 ["table", "one", "other"] (spLd K Pl)) (B : Binds K g2 ["table", "one", "other"] []) (kp : PySem.W.keepIn K (.ref (f "least_difference")) = true)
    (Gb : FnOk P w K mg base CX0 3 (f "bare_differences") g3 ["table", "one", "other"] (spBd K Pb)) (Bb : Binds K g3 ["table", "one", "other"] []) (kb : PySem.W.keepIn K (.ref (f "bare_differences")) = true) : FnOk P w K mg base CX0 10 a fd ["table"] (spTw K Pl Pb P8 Pt) := by
  refine F.ok sc_tw (fun vs H Q E h => ?_) (fun cdv A outer s H vs Q E hr h => ?_)
  · obtain ⟨_, _, _, rfl, _⟩ := h
    rfl
  obtain ⟨x, d, n, rfl, ht, ist, b2, hpl, hpb, h8, h9, q⟩ := h
  refine ⟨_, pss_cons (ps_expr (pe_call Gc hr rfl (T.fn "check_table" (by decide)) kc Bc .nil pass0 (pa_cons (pv 0) pa_nil)))
    (pss_cons (ps_for PassesOwn.never rfl (pi_range1 rfl (T.bl "range" (by decide)) (pa_cons (pe_callB (cr_len (K := K) rfl) rfl (T.bl "len" (by decide)) PySem.boot_len (pa_cons (pv 0) pa_nil)) pa_nil)) (pg_name (i := 1) sc_tw.nd rfl (Or.inl rfl))
      (pss_one (ps_for PassesOwn.never rfl (pi_range1 rfl (T.bl "range" (by decide)) (pa_cons (pe_callB (cr_len (K := K) rfl) rfl (T.bl "len" (by decide)) PySem.boot_len (pa_cons (pv 0) pa_nil)) pa_nil)) (pg_name (i := 2) sc_tw.nd rfl (Or.inl rfl))
        (pss_one (ps_if (pt_cmp (pc_isN (pe_call G (hr.mono (by decide)) rfl (T.fn "least_difference" (by decide)) kp B .nil pass0 (pa_cons (pv 0) (pa_cons (pv 1) (pa_cons (pv 2) pa_nil))))))
          (pss_cons (ps_set (i := 3) sc_tw.nd rfl (Or.inl rfl) (pe_call Gb (hr.mono (by decide)) rfl (T.fn "bare_differences" (by decide)) kb Bb .nil pass0 (pa_cons (pv 0) (pa_cons (pv 1) (pa_cons (pv 2) pa_nil)))))
            (pss_one (ps_ret (pe_tup (pa_cons (pv 1) (pa_cons (pv 2) (pa_cons (pe_ix ix_list (pv 3) pe_int (fun _ _ => rfl)) (pa_cons (pe_ix ix_list (pv 3) pe_int (fun _ _ => rfl)) pa_nil)))))))) pss_nil)))))
    (pss_one (ps_ret pe_non))), ?_⟩
  refine ⟨_, rfl, x, d, n, rfl, ht, ist, h8, h9, fun H1 k1 => ?_⟩
  have ht1 := ht.kp k1
  obtain ⟨t, ys, rfl, sq, ly⟩ := ht1.len
  have n8 := ht.2.le
  refine ⟨_, rfl, t, ys, rfl, sq, _, rfl, by omega, by omega, ?_⟩
  rw [show ((ys.length : Int)).toNat = n by omega]
  refine for_range (lo := 0) (n := n) (fun i σ H' => Kp H1 H' ∧ (∃ o1 o2, σ = [some (.ref t), o1, o2, none]) ∧ ∀ i' j' : Nat, i' < i → j' < n → leastO d (diffL d n (i' : Int) (j' : Int)) ≠ none) ⟨Kp.refl _, ⟨none, none, rfl⟩, fun j _ hj => absurd hj (Nat.not_lt_zero _)⟩ ?_ ?_
  · rintro i σ H2 hi ⟨k2, ⟨o1, o2, rfl⟩, pre⟩
    have k12 := k1.trans k2
    have ei : (0 + (i : Int)) = (i : Int) := Int.zero_add _
    rw [ei]
    have hin : In n (i : Int) := ⟨by omega, by omega⟩
    refine ⟨_, rfl, t, ys, rfl, k2.sq sq, _, rfl, by omega, by omega, ?_⟩
    rw [show ((ys.length : Int)).toNat = n by omega]
    refine for_range (lo := 0) (n := n) (fun j σ H' => Kp H2 H' ∧ (∃ o2, σ = [some (.ref t), some (.int i), o2, none]) ∧ ∀ j' : Nat, j' < j → leastO d (diffL d n (i : Int) (j' : Int)) ≠ none) ⟨Kp.refl _, ⟨o2, rfl⟩, fun j hj => absurd hj (Nat.not_lt_zero _)⟩ ?_ ?_
    · rintro j σ H3 hj ⟨k3, ⟨u2, rfl⟩, pj⟩
      have k13 := k12.trans k3
      have ej : (0 + (j : Int)) = (j : Int) := Int.zero_add _
      rw [ej]
      have hjn : In n (j : Int) := ⟨by omega, by omega⟩
      refine ⟨_, rfl, _, rfl, _, rfl, .ref t, d, n, i, j, rfl, ht.kp k13, hin, hjn, k13.tab _ hpl, fun H4 k4 => ⟨_, rfl, ?_⟩⟩
      have k14 := k13.trans k4
      rw [oV_non]
      refine ite2 (fun c => ?_) (fun c => ?_)
      · have no : leastO d (diffL d n (i : Int) (j : Int)) = none := of_decide_eq_true c
        have two := b2 i j hin hjn no
        refine ⟨_, rfl, _, rfl, _, rfl, .ref t, d, n, i, j, rfl, ht.kp k14, hin, hjn, k14.tab _ hpb, fun p H5 h5 k5 => ?_⟩
        have tw : ∀ s t' r, bareL d (diffL d n (i : Int) (j : Int)) = s :: t' :: r → TwoD d n (.tuple [.int i, .int j, .int s, .int t']) := fun s t' r e => .inr ⟨i, j, s, t', r, hi, hj, fun i' j' a b z => by
          rcases z with z | ⟨rfl, z⟩
          · exact pre i' j' z b
          · exact pj j' z, no, e, rfl⟩
        generalize bareL d (diffL d n (i : Int) (j : Int)) = Bs at h5 two tw
        match Bs, two, h5, tw with
        | [], two, _, _ => exact absurd two (by simp)
        | [_], two, _, _ => exact absurd two (by simp)
        | s1 :: s2 :: r, _, h5, tw =>
          refine ⟨_, rfl, _, rfl, _, rfl, p, _, _, .int s1, rfl, rfl, .inl (.inl h5), at_zero _ _, _, rfl, p, _, _, .int s2, rfl, rfl, .inl (.inl h5), at_one _ _ _, by show 4 ≤ sizeLine; decide, fun tt htt => ?_⟩
          exact q (.ref tt) _ _ (.tup upd_same (.cons (.int _) (.cons (.int _) (.cons (.int _) (.cons (.int _) .nil))))) (tw s1 s2 r rfl) ((k14.trans k5).trans (Kp.new htt))
      · refine ⟨k3.trans k4, ⟨_, rfl⟩, fun j' hj' => ?_⟩
        by_cases z : j' = j
        · rw [z]; exact fun e => c (decide_eq_true e)
        · exact pj j' (by omega)
    · rintro σ H3 ⟨k3, ⟨u2, rfl⟩, pj⟩
      refine ⟨k2.trans k3, ⟨_, _, rfl⟩, fun i' j' hi' hj' => ?_⟩
      by_cases z : i' = i
      · rw [z]; exact pj j' hj'
      · exact pre i' j' (by omega) hj'
  · rintro σ H2 ⟨k2, ⟨o1, o2, rfl⟩, pre⟩
    exact q .non .none H2 .non (.inl ⟨pre, rfl⟩) (k1.trans k2)
/-! ### has_differences -/
def spHd (K : PySem.W.Frag) (Ph Pl P8 P9 : Addr) : Sp := fun vs H Q _ => ∃ (x : V) (d : PyData) (n : Nat), vs = [x] ∧ Tbl K H x d n ∧ IsT d ∧ GxR.TabG H Ph ∧ GxR.TabG H Pl ∧ GxR.TabG H P8 ∧ GxR.TabG H P9 ∧ ∀ b H', (b = true ↔ HasAll d n) → Kp H H' → Q (.bl b) H'
abbrev Nhd : List Str := ["table", "states", "one", "other"]
theorem sc_hd : FnScope Nhd ["table"] (defScope s_has_differences) := ⟨rfl, rfl, rfl, by decide +kernel, rfl, by decide +kernel, by decide +kernel⟩
theorem ok_hd (T : Tx mg f) (F : FunC K "has_differences" "has_differences" s_has_differences a fd c) (TB : GxR.TabB base mg c Ph) (Gc : FnOk P w K mg base CX0 9 (f "check_table") g1 ["table"] (spCheck K P8 Pt)) (Bc : Binds K g1 ["table"] []) (kc : PySem.W.keepIn K (.ref (f "check_table")) = true)
    (G : FnOk P w K mg base CX0 3 (f "least_difference") g2 ["table", "one", "other"] (spLd K Pl)) (B : Binds K g2 ["table", "one", "other"] []) (kp : PySem.W.keepIn K (.ref (f "least_difference")) = true) : FnOk P w K mg base CX0 10 a fd ["table"] (spHd K Ph Pl P8 Pt) := by
  refine F.ok sc_hd (fun vs H Q E h => ?_) (fun A outer s H vs Q E hr h => ?_)
  · obtain ⟨_, _, _, rfl, _⟩ := h
    rfl
  obtain ⟨x, d, n, rfl, ht, ist, hh, hpl, h8, h9, q⟩ := h
  have hhd := hr.hd
  refine ⟨_, pss_cons (ps_expr (pe_call Gc hr rfl (T.fn "check_table" (by decide)) kc Bc .nil pass0 (pa_cons (pv 0) pa_nil)))
    (pss_cons (ps_set (i := 1) sc_hd.nd rfl (by first | exact Or.inl rfl | exact Or.inr rfl) (pe_callTy (cr_listRng hhd) rfl (T.bl "list" (by decide)) bi_list (pa_cons (pe_callTy cr_range1 rfl (T.bl "range" (by decide)) bi_range (pa_cons (pe_callB (cr_len (K := K) rfl) rfl (T.bl "len" (by decide)) PySem.boot_len (pa_cons (pv 0) pa_nil)) pa_nil)) pa_nil)))
    (pss_one (ps_ret (Gx.pe_all2 (k := 3) (own := [("one", 2), ("other", 3)]) (w1 := iList K (tVar 1)) (te := tNotN (tCall (spLd K Pl) [] E0 (tCons (tVar 0) (tCons (tVar 2) (tCons (tVar 3) tNil))))) (hr.mono (by decide)) rfl (T.bl "all" (by decide)) TB rfl (gscl_by (by change gsclC Nhd (defScope s_has_differences) _ _ = true; decide +kernel)) (pi_list (pv 1)) (fun _ _ _ _ _ => pg_name (i := 2) sc_hd.nd rfl (Or.inl rfl))
        (fun _ _ _ _ _ _ => ?w1) (fun _ _ _ _ _ => pg_name (i := 3) sc_hd.nd rfl (Or.inl rfl)) (fun _ _ _ _ _ hr' => ?el) (fun _ => rfl) (fun _ _ => rfl))))), ?_⟩
  case w1 => exact pi_list (pv 1)
  case el => exact pe_cmp (pc_notN (pe_call G hr' rfl (T.fn "least_difference" (by decide)) kp B .nil pass0 (pa_cons (pv 0) (pa_cons (pv 2) (pa_cons (pv 3) pa_nil)))))
  refine ⟨_, rfl, x, d, n, rfl, ht, ist, h8, h9, fun H1 k1 => ?_⟩
  have ht1 := ht.kp k1
  obtain ⟨t, ys, rfl, sq, ly⟩ := ht1.len
  have n8 := ht.2.le
  refine ⟨_, rfl, t, ys, rfl, sq, _, rfl, fun pr hpr => ⟨pr, ys.length, rfl, upd_same, by omega, fun ls hls => ?_⟩⟩
  have k2 := (Kp.new (o := .rng 0 (ys.length : Int)) hpr).trans (Kp.new (o := .lst ((rng ys.length).map V.int)) hls)
  have k12 := k1.trans k2
  have h2 : (upd (upd H1 pr (.rng 0 (ys.length : Int))) ls (.lst ((rng ys.length).map V.int))) ls = some (.lst ((rng ys.length).map V.int)) := upd_same
  generalize (upd (upd H1 pr (.rng 0 (ys.length : Int))) ls (.lst ((rng ys.length).map V.int))) = H2 at k2 k12 h2
  rw [ly] at h2
  refine ⟨_, rfl, ls, rfl, ⟨_, .inl (.inl h2)⟩, k12.tab _ hh, fun H3 t3 => ?_⟩
  have k23 := Kp.tabbed (k12.tab _ hh) t3
  have k13 := k12.trans k23
  have h3 := k23.lst h2
  have lenS : ∀ i, i < n → (n - i) * n = (n - (i + 1)) * n + n := fun i hi => by
    rw [show n - i = (n - (i + 1)) + 1 by omega, Nat.add_mul, Nat.one_mul]
  have item : ∀ {i : Nat} {z : V} {H' H'' : Hp}, i < n → Kp H3 H' → (Itl K ls).yld i H' z H'' → z = .int (i : Int) ∧ H'' = H' := fun {i z H' H''} hi k hz => by
    obtain ⟨e, hz2⟩ := hz
    have hz3 := hz2 _ (.inl (.inl (k.lst h3)))
    rw [List.getElem?_map, show (rng n)[i]? = some (i : Int) by
      have := rng_at (n := n) (i := (i : Int)) ⟨by omega, by simpa using hi⟩
      simpa using this] at hz3
    exact ⟨by simpa using hz3.symm, e⟩
  refine ⟨n, n * n, ⟨fun m i σ H' => (n - i) * n ≤ m ∧ i ≤ n ∧ Kp H3 H' ∧ (∃ o2 o3, σ = [some (.ref t), some (.ref ls), o2, o3]) ∧ ∀ i' j' : Nat, i' < i → j' < n → leastO d (diffL d n (i' : Int) (j' : Int)) ≠ none,
      fun J1 m i j σ H' => J1 = Itl K ls ∧ i < n ∧ j ≤ n ∧ (n - (i + 1)) * n + (n - j) ≤ m ∧ Kp H3 H' ∧ (∃ o3, σ = [some (.ref t), some (.ref ls), some (.int (i : Int)), o3]) ∧ (∀ i' j' : Nat, i' < i → j' < n → leastO d (diffL d n (i' : Int) (j' : Int)) ≠ none) ∧ ∀ j' : Nat, j' < j → leastO d (diffL d n (i : Int) (j' : Int)) ≠ none,
      fun b σ H' => b = false ∧ Kp H3 H' ∧ ¬ HasAll d n, fun H' => Kp H3 H' ∧ HasAll d n⟩, ⟨?_, ?_⟩, ⟨Nat.le_refl _, Nat.zero_le _, Kp.refl _, ⟨none, none, rfl⟩, fun i' _ h => absurd h (Nat.not_lt_zero _)⟩, ?_, ?_⟩
  · rintro m i σ H' hi ⟨hm, hi2, k4, ⟨o2, o3, rfl⟩, pre⟩
    rcases Nat.lt_or_ge i n with hlt | hge
    · refine .inr ⟨hlt, ⟨_, _, .inl (.inl (k4.lst h3)), by rw [List.getElem?_map, show (rng n)[i]? = some (i : Int) by simpa using rng_at (n := n) (i := (i : Int)) ⟨by omega, by simpa using hlt⟩]; rfl⟩, fun z H'' hz => ?_⟩
      obtain ⟨rfl, rfl⟩ := item hlt k4 hz
      have := lenS i hlt
      exact ⟨_, rfl, ls, rfl, ⟨_, .inl (.inl (k4.lst h3))⟩, rfl, hlt, Nat.zero_le _, by omega, k4, ⟨o3, rfl⟩, pre, fun j' h => absurd h (Nat.not_lt_zero _)⟩
    · have : i = n := by omega
      subst this
      exact .inl ⟨⟨_, .inl (.inl (k4.lst h3)), by rw [List.length_map, rng_len]; exact Nat.le_refl _⟩, k4, pre⟩
  · rintro J1 m i j σ H' hi ⟨rfl, hlti, hj, hm, k4, ⟨o3, rfl⟩, pre, pj⟩
    rcases Nat.lt_or_ge j n with hlt | hge
    · refine .inr ⟨⟨_, _, .inl (.inl (k4.lst h3)), by rw [List.getElem?_map, show (rng n)[j]? = some (j : Int) by simpa using rng_at (n := n) (i := (j : Int)) ⟨by omega, by simpa using hlt⟩]; rfl⟩, m - 1, by omega, fun z H'' hz => ?_⟩
      obtain ⟨rfl, rfl⟩ := item hlt k4 hz
      have hin : In n (i : Int) := ⟨by omega, by simpa using hlti⟩
      have hjn : In n (j : Int) := ⟨by omega, by simpa using hlt⟩
      refine ⟨_, rfl, _, rfl, _, rfl, .ref t, d, n, i, j, rfl, ht.kp (k13.trans k4), hin, hjn, (k13.trans k4).tab _ hpl, fun H5 k5 => ⟨_, rfl, ?_⟩⟩
      rw [oV_non]
      by_cases hc : leastO d (diffL d n (i : Int) (j : Int)) = none
      · rw [decide_eq_true hc, if_neg (by decide)]
        exact ⟨rfl, k4.trans k5, fun h => h i j hlti hlt hc⟩
      · rw [decide_eq_false hc, Bool.not_false, if_pos rfl]
        refine ⟨rfl, hlti, hlt, by omega, k4.trans k5, ⟨_, rfl⟩, pre, fun j' hj' => ?_⟩
        by_cases z : j' = j
        · rw [z]; exact hc
        · exact pj j' (by omega)
    · refine .inl ⟨⟨_, .inl (.inl (k4.lst h3)), by rw [List.length_map, rng_len]; exact hge⟩, by omega, by omega, k4, ⟨_, _, rfl⟩, fun i' j' hi' hj' => ?_⟩
      by_cases z : i' = i
      · rw [z]; exact pj j' (by omega)
      · exact pre i' j' (by omega) hj'
  · rintro σ' H' ⟨_, k4, no⟩
    exact q false H' ⟨(fun z => by cases z), fun z => absurd z no⟩ (k13.trans k4)
  · rintro H' ⟨k4, yes⟩
    exact q true H' ⟨fun _ => yes, fun _ => rfl⟩ (k13.trans k4)
end
end Tb

namespace Tb
open PySem PySem.Spec PyProof.Rows L2
variable {K : PySem.W.Frag}
def meetsL (d : PyData) (n : Nat) : List (List Int) := (rng n).map fun i => (rng n).map fun j => meetL d n i j
section
variable {P : Program} {w : World} {mg : Str → Option Value} {base : Heap} {f : String → Addr} {a c Pt P8 Pp Pq Ph Pl Pb Pd : Addr} {fd g1 g2 g3 g4 g5 : FuncData}
/-! ### meet_rows -/
def spMr (K : PySem.W.Frag) : Sp := fun vs H Q _ => ∃ (x : V) (d : PyData) (n : Nat), vs = [x] ∧ Tbl K H x d n ∧ ∀ p (bs : List (Addr × List Int)) H', bs.map Prod.snd = meetsL d n → H' p = some (.lst (bs.map fun q => V.ref q.1)) → (∀ q ∈ bs, H' q.1 = some (.lst (q.2.map V.int))) → Kp H H' → Q (.ref p) H'
abbrev Nmr : List Str := ["table", "states", "one", "other"]
theorem sc_mr : FnScope Nmr ["table"] (defScope s_meet_rows) := ⟨rfl, rfl, rfl, by decide +kernel, rfl, by decide +kernel, by decide +kernel⟩
theorem ok_mr (T : Tx mg f) (F : Fun K "meet_rows" "meet_rows" s_meet_rows a fd) (G : FnOk P w K mg base CX0 3 (f "meet_of") g1 ["table", "one", "other"] (spMo K)) (B : Binds K g1 ["table", "one", "other"] []) (kp : PySem.W.keepIn K (.ref (f "meet_of")) = true) : FnOk P w K mg base CX0 4 a fd ["table"] (spMr K) := by
  refine F.ok sc_mr (fun vs H Q E h => ?_) (fun cdv A outer s H vs Q E hr h => ?_)
  · obtain ⟨_, _, _, rfl, _⟩ := h
    rfl
  obtain ⟨x, d, n, rfl, ht, q⟩ := h
  refine ⟨_, pss_cons (ps_set (i := 1) sc_mr.nd rfl (by first | exact Or.inl rfl | exact Or.inr rfl) (pe_callTy cr_range1 rfl (T.bl "range" (by decide)) bi_range (pa_cons (pe_callB (cr_len (K := K) rfl) rfl (T.bl "len" (by decide)) PySem.boot_len (pa_cons (pv 0) pa_nil)) pa_nil)))
    (pss_one (ps_ret (pe_lc (own := [("one", 2)]) (g := gName 2) (tt := tYes) (te := tLc (iRo (tVar 1)) (gName 3) tYes (tCall (spMo K) [] E0 (tCons (tVar 0) (tCons (tVar 2) (tCons (tVar 3) tNil)))) [3]) rfl sc_mr.nd (pi_ro (pv 1)) (blkOk_by (by change blkC Nmr (defScope s_meet_rows) _ _ = true; decide +kernel)) (fun _ _ _ _ _ => pg_name (i := 2) sc_mr.nd rfl (by first | exact Or.inl rfl | exact Or.inr rfl)) (fun _ _ _ _ _ => pts_nil)
      (fun _ _ _ _ _ => ?el)))), ?_⟩
  case el =>
    exact pe_lc (own := [("other", 3)]) (g := gName 3) (tt := tYes) rfl sc_mr.nd (pi_ro (pv 1)) (blkOk_by (by change blkC Nmr (relS _ (defScope s_meet_rows)) _ _ = true; decide +kernel)) (fun _ _ _ _ _ => pg_name (i := 3) sc_mr.nd rfl (by first | exact Or.inl rfl | exact Or.inr rfl)) (fun _ _ _ _ _ => pts_nil)
      (fun _ _ _ _ _ => pe_call G hr rfl (T.fn "meet_of" (by decide)) kp B .nil pass0 (pa_cons (pv 0) (pa_cons (pv 2) (pa_cons (pv 3) pa_nil))))
  obtain ⟨t, ys, rfl, sq, ly⟩ := ht.len
  have n8 := ht.2.le
  refine ⟨_, rfl, t, ys, rfl, sq, _, rfl, fun ps hps => ?_⟩
  have k1 : Kp H (upd H ps (.rng 0 (ys.length : Int))) := Kp.new hps
  generalize hH1 : upd H ps (.rng 0 (ys.length : Int)) = H1 at k1
  have hrng : H1 ps = some (.rng 0 (ys.length : Int)) := by rw [← hH1]; exact upd_same
  have bnd : -(2 ^ 62) ≤ (0 : Int) ∧ (0 : Int) < 2 ^ 62 ∧ -(2 ^ 62) ≤ (ys.length : Int) ∧ (ys.length : Int) < 2 ^ 62 := by omega
  have cnt : ((ys.length : Int) - 0).toNat = n := by omega
  have keep : ∀ {H' : Hp}, Kp H1 H' → H' ps = some (.rng 0 (ys.length : Int)) := fun k => k.keep ps _ hrng fun ps z => by cases z
  refine ⟨_, rfl, ps, 0, _, rfl, hrng, bnd, fun D hD => ?_⟩
  rw [cnt]
  refine lc_range (lo := 0) (n := n) (fun i H' => Kp H1 H' ∧ ∃ bs : List (Addr × List Int), H' D = some (.lst (bs.map fun q => V.ref q.1)) ∧ (∀ q ∈ bs, q.1 ≠ D ∧ H' q.1 = some (.lst (q.2.map V.int))) ∧ bs.map Prod.snd = (rng i).map fun i => (rng n).map fun j => meetL d n i j)
    ⟨Kp.new hD, [], upd_same, (fun q hq => by cases hq), rfl⟩ ?_ ?_
  · rintro i H2 hi ⟨k2, bs, hD2, lb, sb⟩
    have ei : (0 + (i : Int)) = (i : Int) := Int.zero_add _
    rw [ei]
    have hin : In n (i : Int) := ⟨by omega, by omega⟩
    have lbs : bs.length = i := by rw [← List.length_map (f := Prod.snd), sb, List.length_map, rng_len]
    refine ⟨rfl, ?_⟩
    refine ⟨_, rfl, ps, 0, _, rfl, keep k2, bnd, fun E hE => ?_⟩
    rw [cnt]
    refine lc_range (lo := 0) (n := n) (fun j H' => Kp H2 H' ∧ H' E = some (.lst (((rng j).map fun j => meetL d n (i : Int) j).map V.int))) ⟨Kp.new hE, upd_same⟩ ?_ ?_
    · rintro j H3 hj ⟨k3, hE3⟩
      have ej : (0 + (j : Int)) = (j : Int) := Int.zero_add _
      rw [ej]
      have hjn : In n (j : Int) := ⟨by omega, by omega⟩
      refine ⟨rfl, ?_⟩
      refine ⟨_, rfl, _, rfl, _, rfl, .ref t, d, n, i, j, rfl, ht.kp ((k1.trans k2).trans k3), hin, hjn, fun H4 k4 => ?_⟩
      refine ⟨_, k4.lst hE3, by rw [sizeLine_eq, List.length_map, List.length_map, rng_len]; omega, (k3.trans k4).over hE, ?_⟩
      rw [rng_succ, List.map_append, List.map_append]
      exact upd_same
    · rintro H3 ⟨k3, hE3⟩
      have nED : E ≠ D := fun z => by rw [z, hD2] at hE; cases hE
      refine ⟨_, k3.lst hD2, by rw [sizeLine_eq, List.length_map]; omega, (k2.trans k3).over hD, bs ++ [(E, (rng n).map fun j => meetL d n (i : Int) j)], by rw [List.map_append]; exact upd_same, fun q hq => ?_, ?_⟩
      · rcases List.mem_append.mp hq with h | h
        · obtain ⟨a1, a2⟩ := lb q h
          exact ⟨a1, by rw [upd_ne a1]; exact k3.lst a2⟩
        · rw [List.mem_singleton.mp h]
          exact ⟨nED, by rw [upd_ne nED]; exact hE3⟩
      · rw [List.map_append, sb, rng_succ, List.map_append]; rfl
  · rintro H2 ⟨k2, bs, hD2, lb, sb⟩
    exact q D bs H2 sb hD2 (fun z hz => (lb z hz).2) (k1.trans k2)
/-! ### is_distributive -/
def spDi (K : PySem.W.Frag) (P8 P9 : Addr) : Sp := fun vs H Q _ => ∃ (x : V) (d : PyData) (n : Nat), vs = [x] ∧ Tbl K H x d n ∧ IsT d ∧ GxR.TabG H P8 ∧ GxR.TabG H P9 ∧ ∀ b H', (b = true ↔ DistP d n) → Kp H H' → Q (.bl b) H'
abbrev Ndi : List Str := ["table", "states", "meets", "one", "other", "third", "whole"]
theorem sc_di : FnScope Ndi ["table"] (defScope s_is_distributive) := ⟨rfl, rfl, rfl, by decide +kernel, rfl, by decide +kernel, by decide +kernel⟩
theorem ok_di (T : Tx mg f) (F : Fun K "is_distributive" "is_distributive" s_is_distributive a fd) (Gc : FnOk P w K mg base CX0 9 (f "check_table") g1 ["table"] (spCheck K P8 Pt)) (Bc : Binds K g1 ["table"] []) (kc : PySem.W.keepIn K (.ref (f "check_table")) = true)
    (G : FnOk P w K mg base CX0 4 (f "meet_rows") g2 ["table"] (spMr K)) (B : Binds K g2 ["table"] []) (kp : PySem.W.keepIn K (.ref (f "meet_rows")) = true) : FnOk P w K mg base CX0 10 a fd ["table"] (spDi K P8 Pt) := by
  refine F.ok sc_di (fun vs H Q E h => ?_) (fun cdv A outer s H vs Q E hr h => ?_)
  · obtain ⟨_, _, _, rfl, _⟩ := h
    rfl
  obtain ⟨x, d, n, rfl, ht, ist, h8, h9, q⟩ := h
  refine ⟨_, pss_cons (ps_expr (pe_call Gc hr rfl (T.fn "check_table" (by decide)) kc Bc .nil pass0 (pa_cons (pv 0) pa_nil)))
    (pss_cons (ps_set (i := 1) sc_di.nd rfl (Or.inl rfl) (pe_callTy cr_range1 rfl (T.bl "range" (by decide)) bi_range (pa_cons (pe_callB (cr_len (K := K) rfl) rfl (T.bl "len" (by decide)) PySem.boot_len (pa_cons (pv 0) pa_nil)) pa_nil)))
    (pss_cons (ps_set (i := 2) sc_di.nd rfl (Or.inl rfl) (pe_call G (hr.mono (by decide)) rfl (T.fn "meet_rows" (by decide)) kp B .nil pass0 (pa_cons (pv 0) pa_nil)))
    (pss_cons (ps_for PassesOwn.never rfl (pi_ro (pv 1)) (pg_name (i := 3) sc_di.nd rfl (Or.inl rfl))
      (pss_one (ps_for PassesOwn.never rfl (pi_ro (pv 1)) (pg_name (i := 4) sc_di.nd rfl (Or.inl rfl))
        (pss_one (ps_for PassesOwn.never rfl (pi_ro (pv 1)) (pg_name (i := 5) sc_di.nd rfl (Or.inl rfl))
          (pss_cons (ps_set (i := 6) sc_di.nd rfl (Or.inl rfl) (pe_ix ix_list (pe_ix ix_list (pv 2) (pv 3) (fun _ _ => rfl)) (pe_ix (ix_list.or ix_tup) (pe_ix (ix_list.or ix_tup) (pv 0) (pv 4) (fun _ _ => rfl)) (pv 5) (fun _ _ => rfl)) (fun _ _ => rfl)))
          (pss_one (ps_if (pt_cmpR op_ne (pv 6) (pe_ix (ix_list.or ix_tup) (pe_ix (ix_list.or ix_tup) (pv 0) (pe_ix ix_list (pe_ix ix_list (pv 2) (pv 3) (fun _ _ => rfl)) (pv 4) (fun _ _ => rfl)) (fun _ _ => rfl)) (pe_ix ix_list (pe_ix ix_list (pv 2) (pv 3) (fun _ _ => rfl)) (pv 5) (fun _ _ => rfl)) (fun _ _ => rfl)) (nomark _)) (pss_one (ps_ret pe_bl)) pss_nil))))))))
    (pss_one (ps_ret pe_bl))))), ?_⟩
  refine ⟨_, rfl, x, d, n, rfl, ht, ist, h8, h9, fun H1 k1 => ?_⟩
  have ht1 := ht.kp k1
  obtain ⟨t, ys, rfl, sq, ly⟩ := ht1.len
  have n8 := ht.2.le
  refine ⟨_, rfl, t, ys, rfl, sq, _, rfl, fun ps hps => ?_⟩
  have k2 : Kp H1 (upd H1 ps (.rng 0 (ys.length : Int))) := Kp.new hps
  generalize hH2 : upd H1 ps (.rng 0 (ys.length : Int)) = H2 at k2
  have hrng2 : H2 ps = some (.rng 0 (ys.length : Int)) := by rw [← hH2]; exact upd_same
  refine ⟨_, rfl, .ref t, d, n, rfl, ht1.kp k2, fun m bs H3 sb hm lb k3 => ?_⟩
  have hrng := k3.keep ps _ hrng2 fun ps z => by cases z
  have k13 := (k1.trans k2).trans k3
  have ht3 := ht.kp k13
  have bnd : -(2 ^ 62) ≤ (0 : Int) ∧ (0 : Int) < 2 ^ 62 ∧ -(2 ^ 62) ≤ (ys.length : Int) ∧ (ys.length : Int) < 2 ^ 62 := by omega
  have cnt : ((ys.length : Int) - 0).toNat = n := by omega
  have no : ¬ DistP d n → Q (.bl false) H3 := fun h => q false H3 ⟨(fun z => by cases z), fun z => absurd z h⟩ k13
  have row : ∀ {i : Int} {R : VK}, In n i → (∀ b, H3 b = some (.lst (((rng n).map fun j => meetL d n i j).map V.int)) → R (.ref b) H3) → rIxL K (.ref m) (.int i) H3 R := fun hi hR => mrow hm lb sb hi hR
  have mc : ∀ {b : Addr} {i j : Int} {R : VK}, H3 b = some (.lst (((rng n).map fun j => meetL d n i j).map V.int)) → In n j → R (.int (meetL d n i j)) H3 → rIxL K (.ref b) (.int j) H3 R := fun hb hj hR => mcell hb hj hR
  refine ⟨_, rfl, ps, 0, _, rfl, hrng, bnd, ?_⟩
  rw [cnt]
  refine for_range (lo := 0) (n := n) (fun i σ HH => H3 = HH ∧ (∃ o3 o4 o5 o6, σ = [some (.ref t), some (.ref ps), some (.ref m), o3, o4, o5, o6]) ∧ ∀ i' j k : Nat, i' < i → j < n → k < n → meetL d n (i' : Int) (cell d j k) = cell d (meetL d n (i' : Int) (j : Int)).toNat (meetL d n (i' : Int) (k : Int)).toNat)
    ⟨rfl, ⟨none, none, none, none, rfl⟩, fun i' _ _ h => absurd h (Nat.not_lt_zero _)⟩ ?_ ?_
  · rintro i σ HH hi ⟨rfl, ⟨o3, o4, o5, o6, rfl⟩, ih⟩
    have ei : (0 + (i : Int)) = (i : Int) := Int.zero_add _
    rw [ei]
    have hin : In n (i : Int) := ⟨by omega, by omega⟩
    refine ⟨_, rfl, ps, 0, _, rfl, hrng, bnd, ?_⟩
    rw [cnt]
    refine for_range (lo := 0) (n := n) (fun j σ HH => H3 = HH ∧ (∃ o4 o5 o6, σ = [some (.ref t), some (.ref ps), some (.ref m), some (.int i), o4, o5, o6]) ∧ ∀ j' k : Nat, j' < j → k < n → meetL d n (i : Int) (cell d j' k) = cell d (meetL d n (i : Int) (j' : Int)).toNat (meetL d n (i : Int) (k : Int)).toNat)
      ⟨rfl, ⟨o4, o5, o6, rfl⟩, fun j' _ h => absurd h (Nat.not_lt_zero _)⟩ ?_ ?_
    · rintro j σ HH hj ⟨rfl, ⟨u4, u5, u6, rfl⟩, jh⟩
      have ej : (0 + (j : Int)) = (j : Int) := Int.zero_add _
      rw [ej]
      have hjn : In n (j : Int) := ⟨by omega, by omega⟩
      refine ⟨_, rfl, ps, 0, _, rfl, hrng, bnd, ?_⟩
      rw [cnt]
      refine for_range (lo := 0) (n := n) (fun k σ HH => H3 = HH ∧ (∃ o5 o6, σ = [some (.ref t), some (.ref ps), some (.ref m), some (.int i), some (.int j), o5, o6]) ∧ ∀ k' : Nat, k' < k → meetL d n (i : Int) (cell d j k') = cell d (meetL d n (i : Int) (j : Int)).toNat (meetL d n (i : Int) (k' : Int)).toNat)
        ⟨rfl, ⟨u5, u6, rfl⟩, fun k' h => absurd h (Nat.not_lt_zero _)⟩ ?_ ?_
      · rintro k σ HH hk ⟨rfl, ⟨v5, v6, rfl⟩, kh⟩
        have ek : (0 + (k : Int)) = (k : Int) := Int.zero_add _
        rw [ek]
        have hkn : In n (k : Int) := ⟨by omega, by omega⟩
        have cjk := cell_in ht.2 hjn hkn
        have mij : In n (meetL d n (i : Int) (j : Int)) := meetL_in ht.2
        have mik : In n (meetL d n (i : Int) (k : Int)) := meetL_in ht.2
        refine ⟨_, rfl, _, rfl, row hin fun b hb => ⟨_, rfl, _, rfl, ht3.row hjn fun r rr => ⟨_, rfl, ht3.cell rr hjn hkn (mc hb cjk ?_)⟩⟩⟩
        refine ⟨_, rfl, _, rfl, _, rfl, _, rfl, row hin fun b2 hb2 => ⟨_, rfl, mc hb2 hjn (ht3.row mij fun r2 rr2 => ⟨_, rfl, _, rfl, row hin fun b3 hb3 => ⟨_, rfl, mc hb3 hkn (ht3.cell rr2 mij mik ⟨rfl, _, rfl, ?_⟩)⟩⟩)⟩⟩
        have e1 : (cell d ((j : Int)).toNat ((k : Int)).toNat) = cell d j k := by simp
        rw [e1]
        refine ite2 (fun c => no fun J => ne_t c (J i j k hi hj hk)) (fun c => ?_)
        refine ⟨rfl, ⟨_, _, rfl⟩, fun k' hk' => ?_⟩
        by_cases z : k' = k
        · rw [z]; exact ne_f c
        · exact kh k' (by omega)
      · rintro σ HH ⟨rfl, ⟨v5, v6, rfl⟩, kh⟩
        refine ⟨rfl, ⟨_, _, _, rfl⟩, fun j' k hj' hk => ?_⟩
        by_cases z : j' = j
        · rw [z]; exact kh k hk
        · exact jh j' k (by omega) hk
    · rintro σ HH ⟨rfl, ⟨u4, u5, u6, rfl⟩, jh⟩
      refine ⟨rfl, ⟨_, _, _, _, rfl⟩, fun i' j k hi' hj hk => ?_⟩
      by_cases z : i' = i
      · rw [z]; exact jh j k hj hk
      · exact ih i' j k (by omega) hj hk
  · rintro σ HH ⟨rfl, ⟨o3, o4, o5, o6, rfl⟩, ih⟩
    exact q true _ ⟨fun _ => ih, fun _ => rfl⟩ k13
end
end Tb

namespace Tb
open PySem PySem.Spec PyProof.Rows L2
variable {K : PySem.W.Frag}
abbrev LowT (K : PySem.W.Frag) (mg : Str → Option Value) (C fi : Addr) := PySem.LowX.LowTxt K mg "InvalidTable" "InvalidTable.__init__" C fi
abbrev LowN (K : PySem.W.Frag) (mg : Str → Option Value) (C fi : Addr) := PySem.LowX.LowTxt K mg "InvalidNumber" "InvalidNumber.__init__" C fi
/-- what is never reached -/
theorem pss_never {X : Cx} {ss : List Stmt} : PSs X ss (fun _ _ _ => False) := ⟨fun _ _ _ _ _ _ h => h.elim⟩
theorem fn_lift {P : Program} {w : World} {mg : Str → Option Value} {base : Heap} {k : Nat} {f : Addr} {fd : FuncData} {ps : List Str} {sp : Sp} (F : FnOk P w K mg base CX0 k f fd ps sp) : FnOk P w K mg base (L2.CX P w) k f fd ps sp :=
  ⟨F.len, fun A outer s H args us vs Q E hr e0 hb r h => codeAny_mono (F.run A outer s H args us vs Q E hr e0 hb r h) fun r s' q => by
    cases r with
    | ok v => cases v <;> exact q
    | error e => exact (show False from q).elim⟩
theorem fn_or {P : Program} {w : World} {mg : Str → Option Value} {base : Heap} {k : Nat} {f : Addr} {fd : FuncData} {ps : List Str} {sp sp' : Sp} (F : FnOk P w K mg base (L2.CX P w) k f fd ps sp) (F' : FnOk P w K mg base (L2.CX P w) k f fd ps sp') :
    FnOk P w K mg base (L2.CX P w) k f fd ps (fun vs H Q E => sp vs H Q E ∨ sp' vs H Q E) :=
  ⟨fun vs H Q E h => h.elim (F.len vs H Q E) (F'.len vs H Q E), fun A outer s H args us vs Q E hr e0 hb r h => h.elim (F.run A outer s H args us vs Q E hr e0 hb r) (F'.run A outer s H args us vs Q E hr e0 hb r)⟩
/-- the error of the class at C with this value comes -/
def Errs (H : Hp) (E : XK) (C : Addr) (x : V) : Prop := ∀ (dd : Addr) (H1 : Hp), Kp H H1 → H1 dd = none → E (.ref C) (some dd) (upd H1 dd (.xd [(("value" : Str), x)]))
theorem Errs.kp {H H' : Hp} {E : XK} {C : Addr} {x : V} (h : Errs H E C x) (k : Kp H H') : Errs H' E C x := fun dd H1 k1 n => h dd H1 (k.trans k1) n
section
variable {P : Program} {w : World} {mg : Str → Option Value} {base : Heap} {f : String → Addr} {a c Pt P8 Pp Pq Ph CT fT CN fN : Addr} {fd g1 g2 g3 g4 : FuncData}
def spCT (K : PySem.W.Frag) (CT P8 P9 : Addr) : Sp := fun vs H Q E => ∃ (x : V) (d : PyData), vs = [x] ∧ Rp K H x d ∧ GxR.TabG H P8 ∧ GxR.TabG H P9 ∧ (IsT d → ∀ H', Kp H H' → Q .non H') ∧ (¬ IsT d → Errs H E CT x)
theorem okX_ct (T : Tx mg f) (TT : LowT K mg CT fT) (F : Fun K "check_table" "check_table" s_check_table a fd) (G : FnOk P w K mg base CX0 8 (f "is_table") g1 ["value"] (spTab K P8 Pt)) (B : Binds K g1 ["value"] []) (kp : PySem.W.keepIn K (.ref (f "is_table")) = true) : FnOk P w K mg base (L2.CX P w) 9 a fd ["table"] (spCT K CT P8 Pt) := by
  refine F.okX sc_ct (fun vs H Q E h => ?_) (fun cdv A outer s H vs Q E hr h => ?_)
  · obtain ⟨_, _, rfl, _⟩ := h
    rfl
  obtain ⟨x, d, rfl, hx, h8, h9, q, e⟩ := h
  refine ⟨_, pss_one (ps_if (pt_not (pt_val (pe_call G hr rfl (T.fn "is_table" (by decide)) kp B .nil pass0 (pa_cons (pv 0) pa_nil)))) (pss_one (ps_raiseLow rfl TT hr (takes_of rfl rfl rfl rfl) (pa_cons (pv 0) pa_nil))) pss_nil), ?_⟩
  refine ⟨_, rfl, x, d, rfl, hx, h8, h9, fun b H1 hb k1 => ⟨_, rfl, ite2 (fun z => ?_) (fun z => ?_)⟩⟩
  · have no : ¬ IsT d := fun y => by
      rw [hb.mpr y] at z
      cases z
    exact ⟨_, rfl, x, rfl, fun dd hd => e no dd H1 k1 hd⟩
  · refine q (hb.mp ?_) H1 k1
    cases b with
    | true => rfl
    | false => exact absurd rfl z
def spCNx (K : PySem.W.Frag) (CN : Addr) : Sp := fun vs H Q E => ∃ (x v : V) (d e : PyData) (n : Nat), vs = [x, v] ∧ Tbl K H x d n ∧ Rp K H v e ∧ (isBel e (n : Int) = true → ∀ H', Kp H H' → Q .non H') ∧ (isBel e (n : Int) = false → Errs H E CN v)
theorem okX_cn (T : Tx mg f) (TN : LowN K mg CN fN) (F : Fun K "check_number" "check_number" s_check_number a fd) (G : FnOk P w K mg base CX0 3 (f "is_count_below") g1 ["value", "bound"] (spBel K isBel)) (B : Binds K g1 ["value", "bound"] []) (kp : PySem.W.keepIn K (.ref (f "is_count_below")) = true) : FnOk P w K mg base (L2.CX P w) 4 a fd ["table", "number"] (spCNx K CN) := by
  refine F.okX sc_cn (fun vs H Q E h => ?_) (fun cdv A outer s H vs Q E hr h => ?_)
  · obtain ⟨_, _, _, _, _, rfl, _⟩ := h
    rfl
  obtain ⟨x, v, d, e, n, rfl, ht, hv, q, er⟩ := h
  refine ⟨_, pss_one (ps_if (pt_not (pt_val (pe_call G hr rfl (T.fn "is_count_below" (by decide)) kp B .nil pass0 (pa_cons (pv 1) (pa_cons (pe_callB (cr_len (K := K) rfl) rfl (T.bl "len" (by decide)) PySem.boot_len (pa_cons (pv 0) pa_nil)) pa_nil))))) (pss_one (ps_raiseLow rfl TN hr (takes_of rfl rfl rfl rfl) (pa_cons (pv 1) pa_nil))) pss_nil), ?_⟩
  obtain ⟨t, ys, rfl, sq, ly⟩ := ht.len
  refine ⟨_, rfl, _, rfl, t, ys, rfl, sq, v, e, _, rfl, hv, fun H1 k1 => ⟨_, rfl, ?_⟩⟩
  rw [ly]
  refine ite2 (fun z => ?_) (fun z => ?_)
  · have no : isBel e (n : Int) = false := by simpa using z
    exact ⟨_, rfl, v, rfl, fun dd hd => er no dd H1 k1 hd⟩
  · exact q (by simpa using z) H1 k1
/-- what is no table -/
def spR1 (K : PySem.W.Frag) (CT P8 P9 : Addr) : Sp := fun vs H Q E => ∃ (x : V) (d : PyData), vs = [x] ∧ Rp K H x d ∧ ¬ IsT d ∧ GxR.TabG H P8 ∧ GxR.TabG H P9 ∧ Errs H E CT x
/-- what is no table, or no state of it -/
def spR2 (K : PySem.W.Frag) (CT CN P8 P9 : Addr) : Sp := fun vs H Q E => ∃ (x v : V) (d e : PyData), vs = [x, v] ∧ Rp K H x d ∧ Rp K H v e ∧ GxR.TabG H P8 ∧ GxR.TabG H P9 ∧ ((¬ IsT d ∧ Errs H E CT x) ∨ (IsT d ∧ isBel e ((kids d).length : Int) = false ∧ Errs H E CN v))
def spR3 (K : PySem.W.Frag) (CT CN P8 P9 : Addr) : Sp := fun vs H Q E => ∃ (x v u : V) (d e e2 : PyData), vs = [x, v, u] ∧ Rp K H x d ∧ Rp K H v e ∧ Rp K H u e2 ∧ GxR.TabG H P8 ∧ GxR.TabG H P9 ∧
  ((¬ IsT d ∧ Errs H E CT x) ∨ (IsT d ∧ isBel e ((kids d).length : Int) = false ∧ Errs H E CN v) ∨ (IsT d ∧ isBel e ((kids d).length : Int) = true ∧ isBel e2 ((kids d).length : Int) = false ∧ Errs H E CN u))
theorem tbl_of {H : Hp} {x : V} {d : PyData} (h : Rp K H x d) (t : IsT d) : Tbl K H x d (kids d).length := ⟨h, mx_of t.1⟩
theorem okR_tp (T : Tx mg f) (F : Fun K "table_parts" "table_parts" s_table_parts a fd) (G : FnOk P w K mg base (L2.CX P w) 9 (f "check_table") g1 ["table"] (spCT K CT P8 Pt)) (B : Binds K g1 ["table"] []) (kp : PySem.W.keepIn K (.ref (f "check_table")) = true) : FnOk P w K mg base (L2.CX P w) 10 a fd ["table"] (spR1 K CT P8 Pt) := by
  refine F.okX sc_tp (fun vs H Q E h => ?_) (fun cdv A outer s H vs Q E hr h => ?_)
  · obtain ⟨_, _, rfl, _⟩ := h
    rfl
  obtain ⟨x, d, rfl, hx, no, h8, h9, e⟩ := h
  refine ⟨_, pss_cons (ps_expr (pe_callS G hr rfl (T.fn "check_table" (by decide)) kp B (fun σ => passAt (takes_of rfl rfl rfl rfl) σ) (pa_cons (pv 0) pa_nil))) pss_never, ?_⟩
  exact ⟨_, rfl, x, d, rfl, hx, h8, h9, fun y => absurd y no, fun _ => e⟩
theorem okR_hs (T : Tx mg f) (F : Fun K "has_single_lists" "has_single_lists" s_has_single_lists a fd) (G : FnOk P w K mg base (L2.CX P w) 9 (f "check_table") g1 ["table"] (spCT K CT P8 Pt)) (B : Binds K g1 ["table"] []) (kp : PySem.W.keepIn K (.ref (f "check_table")) = true) : FnOk P w K mg base (L2.CX P w) 10 a fd ["table"] (spR1 K CT P8 Pt) := by
  refine F.okX sc_hs (fun vs H Q E h => ?_) (fun cdv A outer s H vs Q E hr h => ?_)
  · obtain ⟨_, _, rfl, _⟩ := h
    rfl
  obtain ⟨x, d, rfl, hx, no, h8, h9, e⟩ := h
  refine ⟨_, pss_cons (ps_expr (pe_callS G hr rfl (T.fn "check_table" (by decide)) kp B (fun σ => passAt (takes_of rfl rfl rfl rfl) σ) (pa_cons (pv 0) pa_nil))) pss_never, ?_⟩
  exact ⟨_, rfl, x, d, rfl, hx, h8, h9, fun y => absurd y no, fun _ => e⟩
theorem okR_tl (T : Tx mg f) (F : Fun K "two_lists" "two_lists" s_two_lists a fd) (G : FnOk P w K mg base (L2.CX P w) 9 (f "check_table") g1 ["table"] (spCT K CT P8 Pt)) (B : Binds K g1 ["table"] []) (kp : PySem.W.keepIn K (.ref (f "check_table")) = true) : FnOk P w K mg base (L2.CX P w) 10 a fd ["table"] (spR1 K CT P8 Pt) := by
  refine F.okX sc_tl (fun vs H Q E h => ?_) (fun cdv A outer s H vs Q E hr h => ?_)
  · obtain ⟨_, _, rfl, _⟩ := h
    rfl
  obtain ⟨x, d, rfl, hx, no, h8, h9, e⟩ := h
  refine ⟨_, pss_cons (ps_expr (pe_callS G hr rfl (T.fn "check_table" (by decide)) kp B (fun σ => passAt (takes_of rfl rfl rfl rfl) σ) (pa_cons (pv 0) pa_nil))) pss_never, ?_⟩
  exact ⟨_, rfl, x, d, rfl, hx, h8, h9, fun y => absurd y no, fun _ => e⟩
theorem okR_di (T : Tx mg f) (F : Fun K "is_distributive" "is_distributive" s_is_distributive a fd) (G : FnOk P w K mg base (L2.CX P w) 9 (f "check_table") g1 ["table"] (spCT K CT P8 Pt)) (B : Binds K g1 ["table"] []) (kp : PySem.W.keepIn K (.ref (f "check_table")) = true) : FnOk P w K mg base (L2.CX P w) 10 a fd ["table"] (spR1 K CT P8 Pt) := by
  refine F.okX sc_di (fun vs H Q E h => ?_) (fun cdv A outer s H vs Q E hr h => ?_)
  · obtain ⟨_, _, rfl, _⟩ := h
    rfl
  obtain ⟨x, d, rfl, hx, no, h8, h9, e⟩ := h
  refine ⟨_, pss_cons (ps_expr (pe_callS G hr rfl (T.fn "check_table" (by decide)) kp B (fun σ => passAt (takes_of rfl rfl rfl rfl) σ) (pa_cons (pv 0) pa_nil))) pss_never, ?_⟩
  exact ⟨_, rfl, x, d, rfl, hx, h8, h9, fun y => absurd y no, fun _ => e⟩
theorem okR_hd (T : Tx mg f) (F : Fun K "has_differences" "has_differences" s_has_differences a fd) (G : FnOk P w K mg base (L2.CX P w) 9 (f "check_table") g1 ["table"] (spCT K CT P8 Pt)) (B : Binds K g1 ["table"] []) (kp : PySem.W.keepIn K (.ref (f "check_table")) = true) : FnOk P w K mg base (L2.CX P w) 10 a fd ["table"] (spR1 K CT P8 Pt) := by
  refine F.okX sc_hd (fun vs H Q E h => ?_) (fun cdv A outer s H vs Q E hr h => ?_)
  · obtain ⟨_, _, rfl, _⟩ := h
    rfl
  obtain ⟨x, d, rfl, hx, no, h8, h9, e⟩ := h
  refine ⟨_, pss_cons (ps_expr (pe_callS G hr rfl (T.fn "check_table" (by decide)) kp B (fun σ => passAt (takes_of rfl rfl rfl rfl) σ) (pa_cons (pv 0) pa_nil))) pss_never, ?_⟩
  exact ⟨_, rfl, x, d, rfl, hx, h8, h9, fun y => absurd y no, fun _ => e⟩
theorem okR_tw (T : Tx mg f) (F : Fun K "two_differences" "two_differences" s_two_differences a fd) (G : FnOk P w K mg base (L2.CX P w) 9 (f "check_table") g1 ["table"] (spCT K CT P8 Pt)) (B : Binds K g1 ["table"] []) (kp : PySem.W.keepIn K (.ref (f "check_table")) = true) : FnOk P w K mg base (L2.CX P w) 10 a fd ["table"] (spR1 K CT P8 Pt) := by
  refine F.okX sc_tw (fun vs H Q E h => ?_) (fun cdv A outer s H vs Q E hr h => ?_)
  · obtain ⟨_, _, rfl, _⟩ := h
    rfl
  obtain ⟨x, d, rfl, hx, no, h8, h9, e⟩ := h
  refine ⟨_, pss_cons (ps_expr (pe_callS G hr rfl (T.fn "check_table" (by decide)) kp B (fun σ => passAt (takes_of rfl rfl rfl rfl) σ) (pa_cons (pv 0) pa_nil))) pss_never, ?_⟩
  exact ⟨_, rfl, x, d, rfl, hx, h8, h9, fun y => absurd y no, fun _ => e⟩
theorem okR_nd (T : Tx mg f) (F : Fun K "needed" "needed" s_needed a fd) (G : FnOk P w K mg base (L2.CX P w) 9 (f "check_table") g1 ["table"] (spCT K CT P8 Pt)) (B : Binds K g1 ["table"] []) (kp : PySem.W.keepIn K (.ref (f "check_table")) = true) (G2 : FnOk P w K mg base (L2.CX P w) 4 (f "check_number") g2 ["table", "number"] (spCNx K CN)) (B2 : Binds K g2 ["table", "number"] []) (kp2 : PySem.W.keepIn K (.ref (f "check_number")) = true) : FnOk P w K mg base (L2.CX P w) 10 a fd ["table", "number"] (spR2 K CT CN P8 Pt) := by
  refine F.okX sc_nd (fun vs H Q E h => ?_) (fun cdv A outer s H vs Q E hr h => ?_)
  · obtain ⟨_, _, _, _, rfl, _⟩ := h
    rfl
  obtain ⟨x, v, d, e, rfl, hx, hv, h8, h9, alt⟩ := h
  refine ⟨_, pss_cons (ps_expr (pe_callS G hr rfl (T.fn "check_table" (by decide)) kp B (fun σ => passAt (takes_of rfl rfl rfl rfl) σ) (pa_cons (pv 0) pa_nil))) (pss_cons (ps_expr (pe_callS G2 (hr.mono (by decide)) rfl (T.fn "check_number" (by decide)) kp2 B2 (fun σ => passAt (takes_of rfl rfl rfl rfl) σ) (pa_cons (pv 0) (pa_cons (pv 1) pa_nil)))) pss_never), ?_⟩
  refine ⟨_, rfl, x, d, rfl, hx, h8, h9, fun y H1 k1 => ?_, fun no => ?_⟩
  · rcases alt with ⟨no, _⟩ | ⟨_, nb, er⟩
    · exact absurd y no
    · exact ⟨_, rfl, _, rfl, x, v, d, e, _, rfl, tbl_of (hx.kp k1) y, hv.kp k1, fun z => (by rw [nb] at z; cases z), fun _ => er.kp k1⟩
  · rcases alt with ⟨_, er⟩ | ⟨y, _⟩
    · exact er
    · exact absurd y no
theorem okR_al (T : Tx mg f) (F : Fun K "all_lists" "all_lists" s_all_lists a fd) (G : FnOk P w K mg base (L2.CX P w) 9 (f "check_table") g1 ["table"] (spCT K CT P8 Pt)) (B : Binds K g1 ["table"] []) (kp : PySem.W.keepIn K (.ref (f "check_table")) = true) (G2 : FnOk P w K mg base (L2.CX P w) 4 (f "check_number") g2 ["table", "number"] (spCNx K CN)) (B2 : Binds K g2 ["table", "number"] []) (kp2 : PySem.W.keepIn K (.ref (f "check_number")) = true) : FnOk P w K mg base (L2.CX P w) 10 a fd ["table", "number"] (spR2 K CT CN P8 Pt) := by
  refine F.okX sc_al (fun vs H Q E h => ?_) (fun cdv A outer s H vs Q E hr h => ?_)
  · obtain ⟨_, _, _, _, rfl, _⟩ := h
    rfl
  obtain ⟨x, v, d, e, rfl, hx, hv, h8, h9, alt⟩ := h
  refine ⟨_, pss_cons (ps_expr (pe_callS G hr rfl (T.fn "check_table" (by decide)) kp B (fun σ => passAt (takes_of rfl rfl rfl rfl) σ) (pa_cons (pv 0) pa_nil))) (pss_cons (ps_expr (pe_callS G2 (hr.mono (by decide)) rfl (T.fn "check_number" (by decide)) kp2 B2 (fun σ => passAt (takes_of rfl rfl rfl rfl) σ) (pa_cons (pv 0) (pa_cons (pv 1) pa_nil)))) pss_never), ?_⟩
  refine ⟨_, rfl, x, d, rfl, hx, h8, h9, fun y H1 k1 => ?_, fun no => ?_⟩
  · rcases alt with ⟨no, _⟩ | ⟨_, nb, er⟩
    · exact absurd y no
    · exact ⟨_, rfl, _, rfl, x, v, d, e, _, rfl, tbl_of (hx.kp k1) y, hv.kp k1, fun z => (by rw [nb] at z; cases z), fun _ => er.kp k1⟩
  · rcases alt with ⟨_, er⟩ | ⟨y, _⟩
    · exact er
    · exact absurd y no
theorem okR_me (T : Tx mg f) (F : Fun K "meet" "meet" s_meet a fd) (G : FnOk P w K mg base (L2.CX P w) 9 (f "check_table") g1 ["table"] (spCT K CT P8 Pt)) (B : Binds K g1 ["table"] []) (kp : PySem.W.keepIn K (.ref (f "check_table")) = true) (G2 : FnOk P w K mg base (L2.CX P w) 4 (f "check_number") g2 ["table", "number"] (spCNx K CN)) (B2 : Binds K g2 ["table", "number"] []) (kp2 : PySem.W.keepIn K (.ref (f "check_number")) = true) : FnOk P w K mg base (L2.CX P w) 10 a fd ["table", "one", "other"] (spR3 K CT CN P8 Pt) := by
  refine F.okX sc_me (fun vs H Q E h => ?_) (fun cdv A outer s H vs Q E hr h => ?_)
  · obtain ⟨_, _, _, _, _, _, rfl, _⟩ := h
    rfl
  obtain ⟨x, v, u, d, e, e2, rfl, hx, hv, hu, h8, h9, alt⟩ := h
  refine ⟨_, pss_cons (ps_expr (pe_callS G hr rfl (T.fn "check_table" (by decide)) kp B (fun σ => passAt (takes_of rfl rfl rfl rfl) σ) (pa_cons (pv 0) pa_nil))) (pss_cons (ps_expr (pe_callS G2 (hr.mono (by decide)) rfl (T.fn "check_number" (by decide)) kp2 B2 (fun σ => passAt (takes_of rfl rfl rfl rfl) σ) (pa_cons (pv 0) (pa_cons (pv 1) pa_nil)))) (pss_cons (ps_expr (pe_callS G2 (hr.mono (by decide)) rfl (T.fn "check_number" (by decide)) kp2 B2 (fun σ => passAt (takes_of rfl rfl rfl rfl) σ) (pa_cons (pv 0) (pa_cons (pv 2) pa_nil)))) pss_never)), ?_⟩
  refine ⟨_, rfl, x, d, rfl, hx, h8, h9, fun y H1 k1 => ?_, fun no => ?_⟩
  · refine ⟨_, rfl, _, rfl, x, v, d, e, _, rfl, tbl_of (hx.kp k1) y, hv.kp k1, fun z H2 k2 => ?_, fun z => ?_⟩
    · rcases alt with ⟨no, _⟩ | ⟨_, nb, _⟩ | ⟨_, _, nb, er⟩
      · exact absurd y no
      · rw [nb] at z; cases z
      · exact ⟨_, rfl, _, rfl, x, u, d, e2, _, rfl, tbl_of ((hx.kp k1).kp k2) y, (hu.kp k1).kp k2, fun z => (by rw [nb] at z; cases z), fun _ => (er.kp k1).kp k2⟩
    · rcases alt with ⟨no, _⟩ | ⟨_, _, er⟩ | ⟨_, yes, _, _⟩
      · exact absurd y no
      · exact er.kp k1
      · rw [yes] at z; cases z
  · rcases alt with ⟨_, er⟩ | ⟨y, _⟩ | ⟨y, _⟩
    · exact er
    · exact absurd y no
    · exact absurd y no
theorem okR_td (T : Tx mg f) (F : Fun K "table_difference" "table_difference" s_table_difference a fd) (G : FnOk P w K mg base (L2.CX P w) 9 (f "check_table") g1 ["table"] (spCT K CT P8 Pt)) (B : Binds K g1 ["table"] []) (kp : PySem.W.keepIn K (.ref (f "check_table")) = true) (G2 : FnOk P w K mg base (L2.CX P w) 4 (f "check_number") g2 ["table", "number"] (spCNx K CN)) (B2 : Binds K g2 ["table", "number"] []) (kp2 : PySem.W.keepIn K (.ref (f "check_number")) = true) : FnOk P w K mg base (L2.CX P w) 10 a fd ["table", "one", "other"] (spR3 K CT CN P8 Pt) := by
  refine F.okX sc_td (fun vs H Q E h => ?_) (fun cdv A outer s H vs Q E hr h => ?_)
  · obtain ⟨_, _, _, _, _, _, rfl, _⟩ := h
    rfl
  obtain ⟨x, v, u, d, e, e2, rfl, hx, hv, hu, h8, h9, alt⟩ := h
  refine ⟨_, pss_cons (ps_expr (pe_callS G hr rfl (T.fn "check_table" (by decide)) kp B (fun σ => passAt (takes_of rfl rfl rfl rfl) σ) (pa_cons (pv 0) pa_nil))) (pss_cons (ps_expr (pe_callS G2 (hr.mono (by decide)) rfl (T.fn "check_number" (by decide)) kp2 B2 (fun σ => passAt (takes_of rfl rfl rfl rfl) σ) (pa_cons (pv 0) (pa_cons (pv 1) pa_nil)))) (pss_cons (ps_expr (pe_callS G2 (hr.mono (by decide)) rfl (T.fn "check_number" (by decide)) kp2 B2 (fun σ => passAt (takes_of rfl rfl rfl rfl) σ) (pa_cons (pv 0) (pa_cons (pv 2) pa_nil)))) pss_never)), ?_⟩
  refine ⟨_, rfl, x, d, rfl, hx, h8, h9, fun y H1 k1 => ?_, fun no => ?_⟩
  · refine ⟨_, rfl, _, rfl, x, v, d, e, _, rfl, tbl_of (hx.kp k1) y, hv.kp k1, fun z H2 k2 => ?_, fun z => ?_⟩
    · rcases alt with ⟨no, _⟩ | ⟨_, nb, _⟩ | ⟨_, _, nb, er⟩
      · exact absurd y no
      · rw [nb] at z; cases z
      · exact ⟨_, rfl, _, rfl, x, u, d, e2, _, rfl, tbl_of ((hx.kp k1).kp k2) y, (hu.kp k1).kp k2, fun z => (by rw [nb] at z; cases z), fun _ => (er.kp k1).kp k2⟩
    · rcases alt with ⟨no, _⟩ | ⟨_, _, er⟩ | ⟨_, yes, _, _⟩
      · exact absurd y no
      · exact er.kp k1
      · rw [yes] at z; cases z
  · rcases alt with ⟨_, er⟩ | ⟨y, _⟩ | ⟨y, _⟩
    · exact er
    · exact absurd y no
    · exact absurd y no
end
end Tb

namespace Tb
open PySem PySem.Spec PyProof.Rows L2
open LamX (CodeO TabS TabB)
variable {K : PySem.W.Frag}
/-! ### f(.., b = y, a = x): by name, from the last one on -/
section
variable {X : Cx} {k : Nat} {f : Addr} {fd : FuncData} {ps ks : List Str} {sp : Sp} {x : Str} {p pos : Pos} {kws : List Keyword} {tk : TA} {E : L2.St → XK}
theorem vals_rev : ∀ {zs : List V} {ws : List Value}, Vals zs ws → Vals zs.reverse ws.reverse
  | _, _, .nil => .nil
  | _, _, .cons r t => by
    rw [List.reverse_cons, List.reverse_cons]
    exact (vals_rev t).append (.cons r .nil)
def tCallKR (sp : Sp) (E : L2.St → XK) (tk : TA) : TE := fun σ H Q => tk σ H fun zs H2 => sp zs.reverse H2 Q (E σ)
theorem pe_callKR (F : FnOk X.prog X.w X.K X.mg X.base (L2.CX X.prog X.w) k f fd ps sp) (hr : Room k X.A) (hg : Gl X x) (hm : X.mg x = some (.ref f)) (hk : PySem.W.keepIn X.K (.ref f) = true) (hb : ∀ (s : Shared) (ws : List Value), ws.length = ps.length → BindsTo s fd ⟨[], ks.zip ws⟩ (ps.zip ws.reverse)) (hx : ∀ σ, PassesAt (L2.CX X.prog X.w) X σ (E σ))
    (hkw : PK X kws tk) (hall : (backToKw pos (keywordEach kws X.env)).all (·.1.isSome) = true := by rfl) (hks : (backToKw pos (keywordEach kws X.env)).filterMap (·.1) = ks := by rfl)
    (hdb : (x == ("__debug__" : Str)) = false := by decide)
    (hpl : ((backTo pos (starEach [] X.env)).any (·.1) || (backToKw pos (keywordEach kws X.env)).any (·.1.isNone)) = false := by rfl) :
    PE X (.Call (.Name x p) [] kws pos) (tCallKR sp E tk) := by
  refine ⟨fun pins s σ H Q I h => ?_⟩
  refine wpAny_Call_Name_kw (ld_glob I hg hm ?_ hdb)
  refine PySem.W.callWith_KW0 (h₀ := X.base) I.ok.mod.kin hk hall (thn (hkw.run pos pins s σ H _ I h) fun ws s2 ⟨zs, H2, I2, rz, q2⟩ => ⟨I2.kIn, ?_⟩) hpl
  rw [hks]
  have hl : ws.length = ps.length := by rw [← rz.length, ← List.length_reverse]; exact F.len _ _ _ _ q2
  refine wpAny_call (codeAny_mono (F.run X.A X.stack s2 H2 ⟨[], ks.zip ws⟩ ws.reverse zs.reverse Q (E σ) hr I2.env0 (hb s2 ws hl) (vals_rev rz) q2) fun r s' hq => ?_)
  cases r with
  | error e => exact hx σ _ _ _ e s' I2 hq
  | ok fl =>
    cases fl with
    | ret u => exact I2.after hq
    | next => exact hq.elim
    | brk => exact hq.elim
    | cont => exact hq.elim
end
/-! ### data stays beside hidden objects -/
mutual
theorem Rp.hid {H : Hp} {D : List Addr} (S : Self H D) : ∀ {d : PyData} {v : V}, Rp K H v d → Rp K (hid H D) v d
  | _, _, .non => .non
  | _, _, .bl b => .bl b
  | _, _, .int i => .int i
  | _, _, .str x => .str x
  | _, _, .lst h r => .lst (by rw [hid_out (S.ne h (fun _ z => by cases z) fun _ z => by cases z)]; exact h) (RpL.hid S r)
  | _, _, .tup h r => .tup (by rw [hid_out (S.ne h (fun _ z => by cases z) fun _ z => by cases z)]; exact h) (RpL.hid S r)
  | _, _, .dct h => .dct (by rw [hid_out (S.ne h (fun _ z => by cases z) fun _ z => by cases z)]; exact h)
theorem RpL.hid {H : Hp} {D : List Addr} (S : Self H D) : ∀ {ds : List PyData} {vs : List V}, RpL K H vs ds → RpL K (hid H D) vs ds
  | _, _, .nil => .nil
  | _, _, .cons r t => .cons (Rp.hid S r) (RpL.hid S t)
end
/-- Kp, and the tables of lambdas' code stand -/
structure Kt (Ts : List (Addr × Str)) (H H' : Hp) : Prop where
  kp : Kp H H'
  ts : ∀ p ∈ Ts, TabS H p.1 p.2 → TabS H' p.1 p.2
theorem Kt.refl (Ts : List (Addr × Str)) (H : Hp) : Kt Ts H H := ⟨Kp.refl H, fun _ _ h => h⟩
theorem Kt.trans {Ts : List (Addr × Str)} {A B C : Hp} (a : Kt Ts A B) (b : Kt Ts B C) : Kt Ts A C := ⟨a.kp.trans b.kp, fun p hp h => b.ts p hp (a.ts p hp h)⟩
theorem Kt.of {Ts : List (Addr × Str)} {H H' : Hp} (e : ∀ b o, H b = some o → H' b = some o) : Kt Ts H H' := ⟨Kp.of e, fun _ _ h => h.ext e⟩
theorem Kt.new {Ts : List (Addr × Str)} {H : Hp} {p : Addr} {o : HO} (h : H p = none) : Kt Ts H (upd H p o) := Kt.of fun b u e => by
  rw [upd_ne (ne_of_none e h)]; exact e
theorem kt_bak {H H' : Hp} {D : List Addr} {Ts : List (Addr × Str)} (S : Self H D) (sub : ∀ p ∈ Ts, p.1 ∈ D) (k : Kp (hid H D) H') : Kt Ts H (bak H D H') := by
  have kp : Kp H (bak H D H') := by
    refine ⟨fun b o e n => ?_, fun T h => ?_⟩
    · by_cases hb : b ∈ D
      · rw [bak_in hb]; exact e
      · rw [bak_out hb]; exact k.keep b o (by rw [hid_out hb]; exact e) n
    · obtain ⟨ps, h1, h2⟩ := h
      by_cases hb : T ∈ D
      · exact ⟨ps, by rw [bak_in hb]; exact h1, h2⟩
      · obtain ⟨qs, e1, e2⟩ := k.tab T ⟨ps, by rw [hid_out hb]; exact h1, h2⟩
        exact ⟨qs, by rw [bak_out hb]; exact e1, e2⟩
  refine ⟨kp, fun p hp h => ?_⟩
  obtain ⟨ps, h1, h2, h3⟩ := h
  refine ⟨ps, by rw [bak_in (sub p hp)]; exact h1, h2, fun pos cv e => ?_⟩
  obtain ⟨c, e1, e2⟩ := h3 pos cv e
  exact ⟨c, e1, kp.keep c _ e2 fun ps z => LamX.codeO_ne ps z⟩
/-! ### what a call of a lambda leads to -/
inductive Out where
  | fine
  | tb (d : PyData)
  | nu (d : PyData)
def Wants (K : PySem.W.Frag) (CT CN : Addr) (Ts : List (Addr × Str)) (out : Out) (H : Hp) (Q : VK) (E : XK) : Prop := match out with
  | .fine => ∀ v H', Kt Ts H H' → Q v H'
  | .tb d => ∀ v dd H', Kt Ts H H' → Rp K H' v d → H' dd = some (.xd [(("value" : Str), v)]) → E (.ref CT) (some dd) H'
  | .nu d => ∀ v dd H', Kt Ts H H' → Rp K H' v d → H' dd = some (.xd [(("value" : Str), v)]) → E (.ref CN) (some dd) H'
/-- f stands for a lambda, which keeps to out -/
def CloP (P : Program) (w : World) (K : PySem.W.Frag) (mg : Str → Option Value) (base : Heap) (k : Nat) (CT CN : Addr) (Ts : List (Addr × Str)) (Gs : List Addr) (f : Addr) (out : Out) (G : Hp) : Prop :=
  ∀ H, Kp G H → (∀ p ∈ Ts, TabS H p.1 p.2) → (∀ T ∈ Gs, GxR.TabG H T) → ∀ Q E, Wants K CT CN Ts out H Q E → Runs P w K mg base k f H Q E
/-- what the body of the lambda is to do, in whatever context -/
def BodyOk (P : Program) (w : World) (K : PySem.W.Frag) (mg : Str → Option Value) (base : Heap) (k : Nat) (CT CN : Addr) (Gs : List Addr) (q : Str) (scope : Scope) (cl : List (Str × Addr)) (body : Expr) (xs : List V) (ds : List PyData) (out : Out) : Prop :=
  ∀ (A : Around) (outer : List Env) (s : Shared) (Hh : Hp) (E : XK) (f c' : Addr) (Q : VK), Room k (A.deeper (loEnv q scope s.heap.objs.size f c' cl)) → RpL K Hh xs ds → (∀ T ∈ Gs, GxR.TabG Hh T) →
    (match out with
      | .fine => ∀ v H', Kp Hh H' → Q v H'
      | .tb d => ∀ v, Rp K Hh v d → Errs Hh E CT v
      | .nu d => ∀ v, Rp K Hh v d → Errs Hh E CN v) →
    ∃ tb, PE (loCx P w K mg base (cl.map (·.1)) A outer s Hh E q scope f c' cl) body tb ∧ tb (xs.map some) Hh Q
section
variable {P : Program} {w : World} {mg : Str → Option Value} {base : Heap} {k : Nat} {CT CN : Addr} {Ts : List (Addr × Str)} {Gs : List Addr} {f c' : Addr} {out : Out} {G : Hp} {q : Str} {scope : Scope} {cl : List (Str × Addr)} {params : Arguments} {body : Expr} {pm ctv : Value} {xs : List V} {ds : List PyData}
theorem CloP.kp {G' : Hp} (c : CloP P w K mg base k CT CN Ts Gs f out G) (kk : Kp G G') : CloP P w K mg base k CT CN Ts Gs f out G' := fun H k1 => c H (kk.trans k1)
theorem clo_p (hf : G f = some (CloO f q params body scope cl pm c' ctv)) (hc : G c' = some (CodeO c' q)) (LS : LoS scope cl) (n1 : (cl.map (·.1)).Nodup) (n2 : (cl.map (·.2)).Nodup) (hl : xs.length = cl.length) (cells : ∀ (i : Nat) (p : Str × Addr) (x : V), cl[i]? = some p → xs[i]? = some x → G p.2 = some (CellO p.2 x))
    (data : RpL K G xs ds) (dis : ∀ T ∈ Gs, ∀ p ∈ Ts, T ≠ p.1) (hbind : bindArgs (PySem.W.kla_fn "<lambda>" q params body scope cl pm (.ref c') ctv) ⟨[], []⟩ = pure []) (B : BodyOk P w K mg base k CT CN Gs q scope cl body xs ds out)
    (hout : match out with
      | .fine => True
      | .tb d => ∃ v ∈ xs, Rp K G v d
      | .nu d => ∃ v ∈ xs, Rp K G v d) : CloP P w K mg base (k + 1) CT CN Ts Gs f out G := by
  intro H kp tabs gs Q E wants
  have hcell : ∀ (i : Nat) (p : Str × Addr) (x : V), cl[i]? = some p → xs[i]? = some x → H p.2 = some (CellO p.2 x) := fun i p x a b => kp.keep _ _ (cells i p x a b) fun ps z => by
    have z' : HO.ext _ = HO.tbl ps := z
    cases z'
  have ofN : ∀ {y : Str} {c : Addr}, cl.lookup y = some c → ∃ (i : Nat) (x : V), cl[i]? = some (y, c) ∧ xs[i]? = some x := fun {y c} e => by
    obtain ⟨i, hi, e2⟩ := List.mem_iff_getElem.mp (mem_of_lookup' e)
    exact ⟨i, xs[i]'(by omega), by rw [List.getElem?_eq_getElem hi, e2], List.getElem?_eq_getElem _⟩
  have S : Self H (cl.map (·.2) ++ Ts.map (·.1)) := fun b hb => by
    rcases List.mem_append.mp hb with h | h
    · obtain ⟨p, hp, rfl⟩ := List.mem_map.mp h
      obtain ⟨i, hi, e⟩ := List.mem_iff_getElem.mp hp
      exact .inl ⟨_, hcell i p (xs[i]'(by omega)) (by rw [List.getElem?_eq_getElem hi, e]) (List.getElem?_eq_getElem _)⟩
    · obtain ⟨p, hp, rfl⟩ := List.mem_map.mp h
      obtain ⟨ps, e, _⟩ := tabs p hp
      exact .inr ⟨ps, e⟩
  have sub : ∀ p ∈ Ts, p.1 ∈ cl.map (·.2) ++ Ts.map (·.1) := fun p hp => List.mem_append.mpr (.inr (List.mem_map_of_mem hp))
  have hfH := kp.keep f _ hf fun ps z => by
    have z' : HO.ext _ = HO.tbl ps := z
    cases z'
  have hcH := kp.keep c' _ hc fun ps z => LamX.codeO_ne ps z
  have gD : ∀ T ∈ Gs, T ∉ cl.map (·.2) ++ Ts.map (·.1) := fun T hT hm => by
    rcases List.mem_append.mp hm with h | h
    · obtain ⟨p, hp, rfl⟩ := List.mem_map.mp h
      obtain ⟨i, hi, e⟩ := List.mem_iff_getElem.mp hp
      have z := hcell i p (xs[i]'(by omega)) (by rw [List.getElem?_eq_getElem hi, e]) (List.getElem?_eq_getElem _)
      obtain ⟨ps, e2, _⟩ := gs _ hT
      rw [e2] at z
      have z' : HO.tbl ps = HO.ext _ := Option.some.inj z
      cases z'
    · obtain ⟨p, hp, rfl⟩ := List.mem_map.mp h
      exact dis _ hT p hp rfl
  have gH : ∀ T ∈ Gs, GxR.TabG (hid H (cl.map (·.2) ++ Ts.map (·.1))) T := fun T hT => by
    obtain ⟨ps, e1, e2⟩ := gs T hT
    exact ⟨ps, by rw [hid_out (gD T hT)]; exact e1, e2⟩
  have dH := data.kp kp
  generalize hD : cl.map (·.2) ++ Ts.map (·.1) = D at S sub gH
  have inD : ∀ p ∈ cl, p.2 ∈ D := fun p hp => by rw [← hD]; exact List.mem_append.mpr (.inl (List.mem_map_of_mem hp))
  refine ⟨fun h ok => ⟨_, _, _, _, clo_at ok hfH⟩, fun A outer s hr e0 => ?_⟩
  have Cp : Caps H s.heap D cl (cl.map (·.1)) (xs.map some) := by
    refine ⟨fun y z c a b => ?_, fun y c e => ?_, fun i y v a b => ?_, by rw [List.length_map, List.length_map]; exact hl⟩
    · obtain ⟨i, _, h1, _⟩ := ofN a
      obtain ⟨j, _, h2, _⟩ := ofN b
      have e1 : (cl.map (·.2))[i]? = some c := by rw [List.getElem?_map, h1]; rfl
      have e2 : (cl.map (·.2))[j]? = some c := by rw [List.getElem?_map, h2]; rfl
      have li : i < (cl.map (·.2)).length := (List.getElem?_eq_some_iff.mp e1).1
      have := (List.getElem?_inj li n2).mp (e1.trans e2.symm)
      subst this
      rw [h1] at h2
      cases h2
      rfl
    · obtain ⟨i, x, h1, h2⟩ := ofN e
      obtain ⟨u, z, _⟩ := cellO_at e0.hok (hcell i _ x h1 h2)
      exact ⟨inD _ (List.mem_of_getElem? h1), u, z⟩
    · rw [List.getElem?_map] at a b
      obtain ⟨p, h1, rfl⟩ := Option.map_eq_some_iff.mp a
      obtain ⟨x, h2, e⟩ := Option.map_eq_some_iff.mp b
      cases e
      obtain ⟨u, z, r⟩ := cellO_at e0.hok (hcell i p v h1 h2)
      refine ⟨p.2, u, ?_, z, r⟩
      -- the first of this name is this one
      have hm := List.mem_of_getElem? h1
      cases el : cl.lookup p.1 with
      | none =>
        have := List.lookup_eq_none_iff.mp el p hm
        simp at this
      | some c2 =>
        obtain ⟨j, _, h3, _⟩ := ofN el
        have e1 : (cl.map (·.1))[i]? = some p.1 := by rw [List.getElem?_map, h1]; rfl
        have e2 : (cl.map (·.1))[j]? = some p.1 := by rw [List.getElem?_map, h3]; rfl
        have li : i < (cl.map (·.1)).length := (List.getElem?_eq_some_iff.mp e1).1
        have := (List.getElem?_inj li n1).mp (e1.trans e2.symm)
        subst this
        rw [h1] at h3
        exact congrArg some (congrArg Prod.snd (Option.some.inj h3)).symm
  obtain ⟨tb, hp, ht⟩ := B A outer s (hid H D) (fun cls d H' => (∀ b ∈ D, H' b = none) → E cls d (bak H D H')) f c' (fun v H' => (∀ b ∈ D, H' b = none) → Q v (bak H D H')) (hr.deeper _) (RpL.hid S dH) gH (by
    have errs : ∀ (C : Addr) (d : PyData), (∃ v ∈ xs, Rp K G v d) → (∀ v dd H', Kt Ts H H' → Rp K H' v d → H' dd = some (.xd [(("value" : Str), v)]) → E (.ref C) (some dd) H') → ∀ v, Rp K (hid H D) v d → Errs (hid H D) (fun cls d H' => (∀ b ∈ D, H' b = none) → E cls d (bak H D H')) C v := by
      intro C d _ wn v rv dd H1 k1 hdd nw
      have ndd : dd ∉ D := fun z => by
        have := nw dd z
        rw [upd_same] at this
        cases this
      have kk : Kp (hid H D) (upd H1 dd (.xd [(("value" : Str), v)])) := k1.trans (Kp.new hdd)
      refine wn v dd _ (kt_bak S sub kk) ?_ (by rw [bak_out ndd]; exact upd_same)
      refine (rv.kp kk).kp ⟨fun b o e n => ?_, fun T h => ?_⟩
      · by_cases hb : b ∈ D
        · rw [nw b hb] at e; cases e
        · rw [bak_out hb]; exact e
      · obtain ⟨ps, h1, h2⟩ := h
        by_cases hb : T ∈ D
        · rw [nw T hb] at h1; cases h1
        · exact ⟨ps, by rw [bak_out hb]; exact h1, h2⟩
    cases out with
    | fine => exact fun v H' kk _ => wants v _ (kt_bak S sub kk)
    | tb d => exact errs CT d hout wants
    | nu d => exact errs CN d hout wants)
  exact lo_run hr e0 S (clo_at e0.hok hfH) (codeO_at e0.hok hcH) LS Cp hbind (fun _ => hp) ht
end
end Tb

namespace Tb
open PySem PySem.Spec PyProof.Rows L2
open LamX (CodeO TabS TabB)
variable {K : PySem.W.Frag}
section
variable {P : Program} {w : World} {mg : Str → Option Value} {base : Heap} {k k' : Nat} {f : Addr} {fd : FuncData} {ps : List Str} {sp sp' : Sp} {CXq : CXT}
theorem fn_mono (h : k ≤ k') (F : FnOk P w K mg base CXq k f fd ps sp) : FnOk P w K mg base CXq k' f fd ps sp := ⟨F.len, fun A outer s H args us vs Q E hr => F.run A outer s H args us vs Q E (hr.mono h)⟩
theorem fn_pre (F : FnOk P w K mg base CXq k f fd ps sp) (h : ∀ vs H Q E, sp' vs H Q E → sp vs H Q E) : FnOk P w K mg base CXq k f fd ps sp' :=
  ⟨fun vs H Q E z => F.len _ _ _ _ (h _ _ _ _ z), fun A outer s H args us vs Q E hr e0 hb r z => F.run A outer s H args us vs Q E hr e0 hb r (h _ _ _ _ z)⟩
theorem fn_both {sp1 sp2 : Sp} (F : FnOk P w K mg base CX0 k f fd ps sp1) (F' : FnOk P w K mg base (L2.CX P w) k f fd ps sp2) (h : ∀ vs H Q E, sp' vs H Q E → sp1 vs H Q E ∨ sp2 vs H Q E) : FnOk P w K mg base (L2.CX P w) k f fd ps sp' :=
  fn_pre (fn_or (fn_lift F) F') h
end
/-- a table that shows two smallest ones wherever there is no least one -/
def Good (d : PyData) : Prop := IsT d ∧ Bare2 d (kids d).length
def spA (K : PySem.W.Frag) (CT : Addr) (Gs : List Addr) : Sp := fun vs H Q E => ∃ (x : V) (d : PyData), vs = [x] ∧ Rp K H x d ∧ (∀ T ∈ Gs, GxR.TabG H T) ∧ ((Good d ∧ ∀ v H', Kp H H' → Q v H') ∨ (¬ IsT d ∧ Errs H E CT x))
def spB (K : PySem.W.Frag) (CT CN : Addr) (Gs : List Addr) : Sp := fun vs H Q E => ∃ (x v : V) (d e : PyData), vs = [x, v] ∧ Rp K H x d ∧ Rp K H v e ∧ (∀ T ∈ Gs, GxR.TabG H T) ∧
  ((Good d ∧ isBel e ((kids d).length : Int) = true ∧ ∀ v H', Kp H H' → Q v H') ∨ (¬ IsT d ∧ Errs H E CT x) ∨ (IsT d ∧ isBel e ((kids d).length : Int) = false ∧ Errs H E CN v))
def spC (K : PySem.W.Frag) (CT CN : Addr) (Gs : List Addr) : Sp := fun vs H Q E => ∃ (x v u : V) (d e e2 : PyData), vs = [x, v, u] ∧ Rp K H x d ∧ Rp K H v e ∧ Rp K H u e2 ∧ (∀ T ∈ Gs, GxR.TabG H T) ∧
  ((Good d ∧ isBel e ((kids d).length : Int) = true ∧ isBel e2 ((kids d).length : Int) = true ∧ ∀ v H', Kp H H' → Q v H') ∨ (¬ IsT d ∧ Errs H E CT x) ∨ (IsT d ∧ isBel e ((kids d).length : Int) = false ∧ Errs H E CN v) ∨
    (IsT d ∧ isBel e ((kids d).length : Int) = true ∧ isBel e2 ((kids d).length : Int) = false ∧ Errs H E CN u))
theorem bel_in {H : Hp} {v : V} {e : PyData} {n : Nat} (h : Rp K H v e) (b : isBel e (n : Int) = true) : ∃ y : Int, v = .int y ∧ In n y := by
  cases h with
  | int i =>
    have b' : (decide (0 ≤ i) && decide (i < (n : Int))) = true := b
    rw [Bool.and_eq_true, decide_eq_true_eq, decide_eq_true_eq] at b'
    exact ⟨i, rfl, b'.1, by omega⟩
  | _ => cases b
abbrev gsOf (Ph Pp Pq P8 Pt Pl Pb Pd : Addr) : List Addr := [Ph, Pp, Pq, P8, Pt, Pl, Pb, Pd]
section
variable {P : Program} {w : World} {mg : Str → Option Value} {base : Heap} {f : Addr} {fd : FuncData} {CT CN Ph Pp Pq P8 Pt Pl Pb Pd : Addr}
theorem bo_tp (F : FnOk P w K mg base CX0 10 f fd ["table"] (spTP K Pp P8 Pt)) (R : FnOk P w K mg base (L2.CX P w) 10 f fd ["table"] (spR1 K CT P8 Pt)) : FnOk P w K mg base (L2.CX P w) 10 f fd ["table"] (spA K CT (gsOf Ph Pp Pq P8 Pt Pl Pb Pd)) :=
  fn_both F R fun vs H Q E ⟨x, d, e, r, t, h⟩ => h.elim (fun ⟨g, q⟩ => .inl ⟨x, d, _, e, tbl_of r g.1, g.1, t Pp (by simp), t P8 (by simp), t Pt (by simp), fun p H' _ _ k => q _ H' k⟩) fun ⟨n, er⟩ => .inr ⟨x, d, e, r, n, t P8 (by simp), t Pt (by simp), er⟩
theorem bo_hs (F : FnOk P w K mg base CX0 10 f fd ["table"] (spHS K Ph Pp Pq P8 Pt)) (R : FnOk P w K mg base (L2.CX P w) 10 f fd ["table"] (spR1 K CT P8 Pt)) : FnOk P w K mg base (L2.CX P w) 10 f fd ["table"] (spA K CT (gsOf Ph Pp Pq P8 Pt Pl Pb Pd)) :=
  fn_both F R fun vs H Q E ⟨x, d, e, r, t, h⟩ => h.elim (fun ⟨g, q⟩ => .inl ⟨x, d, _, e, tbl_of r g.1, g.1, t Ph (by simp), t Pp (by simp), t Pq (by simp), t P8 (by simp), t Pt (by simp), fun b H' _ k => q _ H' k⟩) fun ⟨n, er⟩ => .inr ⟨x, d, e, r, n, t P8 (by simp), t Pt (by simp), er⟩
theorem bo_tl (F : FnOk P w K mg base CX0 10 f fd ["table"] (spTL K Pp Pq P8 Pt)) (R : FnOk P w K mg base (L2.CX P w) 10 f fd ["table"] (spR1 K CT P8 Pt)) : FnOk P w K mg base (L2.CX P w) 10 f fd ["table"] (spA K CT (gsOf Ph Pp Pq P8 Pt Pl Pb Pd)) :=
  fn_both F R fun vs H Q E ⟨x, d, e, r, t, h⟩ => h.elim (fun ⟨g, q⟩ => .inl ⟨x, d, _, e, tbl_of r g.1, g.1, t Pp (by simp), t Pq (by simp), t P8 (by simp), t Pt (by simp), fun v e H' _ _ k => q _ H' k⟩) fun ⟨n, er⟩ => .inr ⟨x, d, e, r, n, t P8 (by simp), t Pt (by simp), er⟩
theorem bo_di (F : FnOk P w K mg base CX0 10 f fd ["table"] (spDi K P8 Pt)) (R : FnOk P w K mg base (L2.CX P w) 10 f fd ["table"] (spR1 K CT P8 Pt)) : FnOk P w K mg base (L2.CX P w) 10 f fd ["table"] (spA K CT (gsOf Ph Pp Pq P8 Pt Pl Pb Pd)) :=
  fn_both F R fun vs H Q E ⟨x, d, e, r, t, h⟩ => h.elim (fun ⟨g, q⟩ => .inl ⟨x, d, _, e, tbl_of r g.1, g.1, t P8 (by simp), t Pt (by simp), fun b H' _ k => q _ H' k⟩) fun ⟨n, er⟩ => .inr ⟨x, d, e, r, n, t P8 (by simp), t Pt (by simp), er⟩
theorem bo_hd (F : FnOk P w K mg base CX0 10 f fd ["table"] (spHd K Pd Pl P8 Pt)) (R : FnOk P w K mg base (L2.CX P w) 10 f fd ["table"] (spR1 K CT P8 Pt)) : FnOk P w K mg base (L2.CX P w) 10 f fd ["table"] (spA K CT (gsOf Ph Pp Pq P8 Pt Pl Pb Pd)) :=
  fn_both F R fun vs H Q E ⟨x, d, e, r, t, h⟩ => h.elim (fun ⟨g, q⟩ => .inl ⟨x, d, _, e, tbl_of r g.1, g.1, t Pd (by simp), t Pl (by simp), t P8 (by simp), t Pt (by simp), fun b H' _ k => q _ H' k⟩) fun ⟨n, er⟩ => .inr ⟨x, d, e, r, n, t P8 (by simp), t Pt (by simp), er⟩
theorem bo_tw (F : FnOk P w K mg base CX0 10 f fd ["table"] (spTw K Pl Pb P8 Pt)) (R : FnOk P w K mg base (L2.CX P w) 10 f fd ["table"] (spR1 K CT P8 Pt)) : FnOk P w K mg base (L2.CX P w) 10 f fd ["table"] (spA K CT (gsOf Ph Pp Pq P8 Pt Pl Pb Pd)) :=
  fn_both F R fun vs H Q E ⟨x, d, e, r, t, h⟩ => h.elim (fun ⟨g, q⟩ => .inl ⟨x, d, _, e, tbl_of r g.1, g.1, g.2, t Pl (by simp), t Pb (by simp), t P8 (by simp), t Pt (by simp), fun v e H' _ _ k => q _ H' k⟩) fun ⟨n, er⟩ => .inr ⟨x, d, e, r, n, t P8 (by simp), t Pt (by simp), er⟩
theorem bo_nd (F : FnOk P w K mg base CX0 10 f fd ["table", "number"] (spNd K Pp P8 Pt)) (R : FnOk P w K mg base (L2.CX P w) 10 f fd ["table", "number"] (spR2 K CT CN P8 Pt)) : FnOk P w K mg base (L2.CX P w) 10 f fd ["table", "number"] (spB K CT CN (gsOf Ph Pp Pq P8 Pt Pl Pb Pd)) := by
  refine fn_both F R fun vs H Q E ⟨x, v, d, e, e0, r, rv, t, h⟩ => ?_
  rcases h with ⟨g, b, q⟩ | h
  · obtain ⟨y, rfl, iy⟩ := bel_in rv b
    exact .inl ⟨x, d, _, y, e0, tbl_of r g.1, g.1, iy, t Pp (by simp), t P8 (by simp), t Pt (by simp), fun p H' _ _ k => q _ H' k⟩
  · exact .inr ⟨x, v, d, e, e0, r, rv, t P8 (by simp), t Pt (by simp), h⟩
theorem bo_al (F : FnOk P w K mg base CX0 10 f fd ["table", "number"] (spAL K Pp Pq P8 Pt)) (R : FnOk P w K mg base (L2.CX P w) 10 f fd ["table", "number"] (spR2 K CT CN P8 Pt)) : FnOk P w K mg base (L2.CX P w) 10 f fd ["table", "number"] (spB K CT CN (gsOf Ph Pp Pq P8 Pt Pl Pb Pd)) := by
  refine fn_both F R fun vs H Q E ⟨x, v, d, e, e0, r, rv, t, h⟩ => ?_
  rcases h with ⟨g, b, q⟩ | h
  · obtain ⟨y, rfl, iy⟩ := bel_in rv b
    exact .inl ⟨x, d, _, y, e0, tbl_of r g.1, g.1, iy, t Pp (by simp), t Pq (by simp), t P8 (by simp), t Pt (by simp), fun p bs H' _ _ _ _ k => q _ H' k⟩
  · exact .inr ⟨x, v, d, e, e0, r, rv, t P8 (by simp), t Pt (by simp), h⟩
theorem bo_me (F : FnOk P w K mg base CX0 10 f fd ["table", "one", "other"] (spMt K P8 Pt)) (R : FnOk P w K mg base (L2.CX P w) 10 f fd ["table", "one", "other"] (spR3 K CT CN P8 Pt)) : FnOk P w K mg base (L2.CX P w) 10 f fd ["table", "one", "other"] (spC K CT CN (gsOf Ph Pp Pq P8 Pt Pl Pb Pd)) := by
  refine fn_both F R fun vs H Q E ⟨x, v, u, d, e, e2, e0, r, rv, ru, t, h⟩ => ?_
  rcases h with ⟨g, b, b2, q⟩ | h
  · obtain ⟨y, rfl, iy⟩ := bel_in rv b
    obtain ⟨z, rfl, iz⟩ := bel_in ru b2
    exact .inl ⟨x, d, _, y, z, e0, tbl_of r g.1, g.1, iy, iz, t P8 (by simp), t Pt (by simp), fun H' k => q _ H' k⟩
  · exact .inr ⟨x, v, u, d, e, e2, e0, r, rv, ru, t P8 (by simp), t Pt (by simp), h⟩
theorem bo_td (F : FnOk P w K mg base CX0 10 f fd ["table", "one", "other"] (spTd K Pl P8 Pt)) (R : FnOk P w K mg base (L2.CX P w) 10 f fd ["table", "one", "other"] (spR3 K CT CN P8 Pt)) : FnOk P w K mg base (L2.CX P w) 10 f fd ["table", "one", "other"] (spC K CT CN (gsOf Ph Pp Pq P8 Pt Pl Pb Pd)) := by
  refine fn_both F R fun vs H Q E ⟨x, v, u, d, e, e2, e0, r, rv, ru, t, h⟩ => ?_
  rcases h with ⟨g, b, b2, q⟩ | h
  · obtain ⟨y, rfl, iy⟩ := bel_in rv b
    obtain ⟨z, rfl, iz⟩ := bel_in ru b2
    exact .inl ⟨x, d, _, y, z, e0, tbl_of r g.1, g.1, iy, iz, t Pl (by simp), t P8 (by simp), t Pt (by simp), fun H' k => q _ H' k⟩
  · exact .inr ⟨x, v, u, d, e, e2, e0, r, rv, ru, t P8 (by simp), t Pt (by simp), h⟩
end
/-! ### the lambdas -/
/-- what comes of a call with this table and these numbers -/
def OutA (d : PyData) : Out → Prop
  | .fine => Good d
  | .tb e => e = d ∧ ¬ IsT d
  | .nu _ => False
def OutB (d e : PyData) : Out → Prop
  | .fine => Good d ∧ isBel e ((kids d).length : Int) = true
  | .tb y => y = d ∧ ¬ IsT d
  | .nu y => y = e ∧ IsT d ∧ isBel e ((kids d).length : Int) = false
def OutC (d e e2 : PyData) : Out → Prop
  | .fine => Good d ∧ isBel e ((kids d).length : Int) = true ∧ isBel e2 ((kids d).length : Int) = true
  | .tb y => y = d ∧ ¬ IsT d
  | .nu y => IsT d ∧ ((y = e ∧ isBel e ((kids d).length : Int) = false) ∨ (y = e2 ∧ isBel e ((kids d).length : Int) = true ∧ isBel e2 ((kids d).length : Int) = false))
section
variable {P : Program} {w : World} {mg : Str → Option Value} {base : Heap} {fa : Addr} {fd : FuncData} {CT CN : Addr} {Gs : List Addr} {fn q : Str} {scope : Scope} {c1 c2 c3 : Addr} {p1 p2 p3 p4 p5 p6 p7 p8 : Pos} {x y z : V} {d e e2 : PyData} {out : Out}
theorem body_a (G : FnOk P w K mg base (L2.CX P w) 10 fa fd ["table"] (spA K CT Gs)) (hm : mg fn = some (.ref fa)) (kp : PySem.W.keepIn K (.ref fa) = true) (B : Binds K fd ["table"] []) (hg : scope.names.lookup fn = some .globalImplicit) (hv : scope.names.lookup ("_law_table" : Str) = some .free) (hdb : (fn == ("__debug__" : Str)) = false) (ho : OutA d out) :
    BodyOk P w K mg base 10 CT CN Gs q scope [("_law_table", c1)] (.Call (.Name fn p1) [.Name "_law_table" p2] [] p3) [x] [d] out := by
  intro A outer s Hh E f c' Q hr data gs h
  refine ⟨_, pe_callS G hr hg hm kp B (fun σ => passAt (takes_of rfl rfl rfl rfl) σ) (pa_cons (pv 0 rfl (.inr (.inr hv))) pa_nil) hdb, ?_⟩
  cases data with
  | cons r _ =>
    refine ⟨_, rfl, x, d, rfl, r, gs, ?_⟩
    cases out with
    | fine => exact .inl ⟨ho, h⟩
    | tb y =>
      obtain ⟨rfl, no⟩ := ho
      exact .inr ⟨no, h x r⟩
    | nu y => exact ho.elim
theorem body_ak (G : FnOk P w K mg base (L2.CX P w) 10 fa fd ["table"] (spA K CT Gs)) (hm : mg fn = some (.ref fa)) (kp : PySem.W.keepIn K (.ref fa) = true) (KB : ∀ (s : Shared) (ws : List Value), ws.length = 1 → BindsTo s fd ⟨[], (["table"] : List Str).zip ws⟩ ((["table"] : List Str).zip ws.reverse)) (hg : scope.names.lookup fn = some .globalImplicit) (hv : scope.names.lookup ("_law_table" : Str) = some .free) (hdb : (fn == ("__debug__" : Str)) = false) (ho : OutA d out) :
    BodyOk P w K mg base 10 CT CN Gs q scope [("_law_table", c1)] (.Call (.Name fn p1) [] [{ arg := some "table", value := .Name "_law_table" p2, pos := p4 }] p3) [x] [d] out := by
  intro A outer s Hh E f c' Q hr data gs h
  refine ⟨_, pe_callKR (ks := ["table"]) G hr hg hm kp KB (fun σ => passAt (takes_of rfl rfl rfl rfl) σ) (pk_cons (pv 0 rfl (.inr (.inr hv))) pk_nil) rfl rfl hdb, ?_⟩
  cases data with
  | cons r _ =>
    refine ⟨_, rfl, x, d, rfl, r, gs, ?_⟩
    cases out with
    | fine => exact .inl ⟨ho, h⟩
    | tb y =>
      obtain ⟨rfl, no⟩ := ho
      exact .inr ⟨no, h x r⟩
    | nu y => exact ho.elim
theorem outB {H : Hp} {Q : VK} {E : XK} (rx : Rp K H x d) (ry : Rp K H y e) (h : match out with
      | .fine => ∀ v H', Kp H H' → Q v H'
      | .tb d => ∀ v, Rp K H v d → Errs H E CT v
      | .nu d => ∀ v, Rp K H v d → Errs H E CN v) (ho : OutB d e out) :
    (Good d ∧ isBel e ((kids d).length : Int) = true ∧ ∀ v H', Kp H H' → Q v H') ∨ (¬ IsT d ∧ Errs H E CT x) ∨ (IsT d ∧ isBel e ((kids d).length : Int) = false ∧ Errs H E CN y) := by
  cases out with
  | fine => exact .inl ⟨ho.1, ho.2, h⟩
  | tb u =>
    obtain ⟨rfl, no⟩ := ho
    exact .inr (.inl ⟨no, h x rx⟩)
  | nu u =>
    obtain ⟨rfl, t, b⟩ := ho
    exact .inr (.inr ⟨t, b, h y ry⟩)
theorem outC {H : Hp} {Q : VK} {E : XK} (rx : Rp K H x d) (ry : Rp K H y e) (rz : Rp K H z e2) (h : match out with
      | .fine => ∀ v H', Kp H H' → Q v H'
      | .tb d => ∀ v, Rp K H v d → Errs H E CT v
      | .nu d => ∀ v, Rp K H v d → Errs H E CN v) (ho : OutC d e e2 out) :
    (Good d ∧ isBel e ((kids d).length : Int) = true ∧ isBel e2 ((kids d).length : Int) = true ∧ ∀ v H', Kp H H' → Q v H') ∨ (¬ IsT d ∧ Errs H E CT x) ∨ (IsT d ∧ isBel e ((kids d).length : Int) = false ∧ Errs H E CN y) ∨
      (IsT d ∧ isBel e ((kids d).length : Int) = true ∧ isBel e2 ((kids d).length : Int) = false ∧ Errs H E CN z) := by
  cases out with
  | fine => exact .inl ⟨ho.1, ho.2.1, ho.2.2, h⟩
  | tb u =>
    obtain ⟨rfl, no⟩ := ho
    exact .inr (.inl ⟨no, h x rx⟩)
  | nu u =>
    obtain ⟨t, ⟨rfl, b⟩ | ⟨rfl, b, b2⟩⟩ := ho
    · exact .inr (.inr (.inl ⟨t, b, h y ry⟩))
    · exact .inr (.inr (.inr ⟨t, b, b2, h z rz⟩))
theorem body_b (G : FnOk P w K mg base (L2.CX P w) 10 fa fd ["table", "number"] (spB K CT CN Gs)) (hm : mg fn = some (.ref fa)) (kp : PySem.W.keepIn K (.ref fa) = true) (B : Binds K fd ["table", "number"] []) (hg : scope.names.lookup fn = some .globalImplicit) (hv : scope.names.lookup ("_law_table" : Str) = some .free) (hv2 : scope.names.lookup ("_law_number" : Str) = some .free) (hdb : (fn == ("__debug__" : Str)) = false) (ho : OutB d e out) :
    BodyOk P w K mg base 10 CT CN Gs q scope [("_law_table", c1), ("_law_number", c2)] (.Call (.Name fn p1) [.Name "_law_table" p2, .Name "_law_number" p3] [] p4) [x, y] [d, e] out := by
  intro A outer s Hh E f c' Q hr data gs h
  refine ⟨_, pe_callS G hr hg hm kp B (fun σ => passAt (takes_of rfl rfl rfl rfl) σ) (pa_cons (pv 0 rfl (.inr (.inr hv))) (pa_cons (pv 1 rfl (.inr (.inr hv2))) pa_nil)) hdb, ?_⟩
  cases data with
  | cons r t => cases t with
    | cons r2 _ => exact ⟨_, rfl, _, rfl, x, y, d, e, rfl, r, r2, gs, outB r r2 h ho⟩
theorem body_bk (G : FnOk P w K mg base (L2.CX P w) 10 fa fd ["table", "number"] (spB K CT CN Gs)) (hm : mg fn = some (.ref fa)) (kp : PySem.W.keepIn K (.ref fa) = true) (KB : ∀ (s : Shared) (ws : List Value), ws.length = 2 → BindsTo s fd ⟨[], (["number", "table"] : List Str).zip ws⟩ ((["table", "number"] : List Str).zip ws.reverse)) (hg : scope.names.lookup fn = some .globalImplicit) (hv : scope.names.lookup ("_law_table" : Str) = some .free) (hv2 : scope.names.lookup ("_law_number" : Str) = some .free) (hdb : (fn == ("__debug__" : Str)) = false) (ho : OutB d e out) :
    BodyOk P w K mg base 10 CT CN Gs q scope [("_law_table", c1), ("_law_number", c2)] (.Call (.Name fn p1) [] [{ arg := some "number", value := .Name "_law_number" p2, pos := p3 }, { arg := some "table", value := .Name "_law_table" p4, pos := p5 }] p6) [x, y] [d, e] out := by
  intro A outer s Hh E f c' Q hr data gs h
  refine ⟨_, pe_callKR (ks := ["number", "table"]) G hr hg hm kp KB (fun σ => passAt (takes_of rfl rfl rfl rfl) σ) (pk_cons (pv 1 rfl (.inr (.inr hv2))) (pk_cons (pv 0 rfl (.inr (.inr hv))) pk_nil)) rfl rfl hdb, ?_⟩
  cases data with
  | cons r t => cases t with
    | cons r2 _ => exact ⟨_, rfl, _, rfl, x, y, d, e, rfl, r, r2, gs, outB r r2 h ho⟩
theorem body_c (G : FnOk P w K mg base (L2.CX P w) 10 fa fd ["table", "one", "other"] (spC K CT CN Gs)) (hm : mg fn = some (.ref fa)) (kp : PySem.W.keepIn K (.ref fa) = true) (B : Binds K fd ["table", "one", "other"] []) (hg : scope.names.lookup fn = some .globalImplicit) (hv : scope.names.lookup ("_law_table" : Str) = some .free) (hv2 : scope.names.lookup ("_law_one_here" : Str) = some .free) (hv3 : scope.names.lookup ("_law_other" : Str) = some .free) (hdb : (fn == ("__debug__" : Str)) = false) (ho : OutC d e e2 out) :
    BodyOk P w K mg base 10 CT CN Gs q scope [("_law_table", c1), ("_law_other", c3), ("_law_one_here", c2)] (.Call (.Name fn p1) [.Name "_law_table" p2, .Name "_law_one_here" p3, .Name "_law_other" p4] [] p5) [x, z, y] [d, e2, e] out := by
  intro A outer s Hh E f c' Q hr data gs h
  refine ⟨_, pe_callS G hr hg hm kp B (fun σ => passAt (takes_of rfl rfl rfl rfl) σ) (pa_cons (pv 0 rfl (.inr (.inr hv))) (pa_cons (pv 2 rfl (.inr (.inr hv2))) (pa_cons (pv 1 rfl (.inr (.inr hv3))) pa_nil))) hdb, ?_⟩
  cases data with
  | cons r t => cases t with
    | cons r3 t => cases t with
      | cons r2 _ => exact ⟨_, rfl, _, rfl, _, rfl, x, y, z, d, e, e2, rfl, r, r2, r3, gs, outC r r2 r3 h ho⟩
theorem body_ck (G : FnOk P w K mg base (L2.CX P w) 10 fa fd ["table", "one", "other"] (spC K CT CN Gs)) (hm : mg fn = some (.ref fa)) (kp : PySem.W.keepIn K (.ref fa) = true) (KB : ∀ (s : Shared) (ws : List Value), ws.length = 3 → BindsTo s fd ⟨[], (["other", "one", "table"] : List Str).zip ws⟩ ((["table", "one", "other"] : List Str).zip ws.reverse)) (hg : scope.names.lookup fn = some .globalImplicit) (hv : scope.names.lookup ("_law_table" : Str) = some .free) (hv2 : scope.names.lookup ("_law_one_here" : Str) = some .free) (hv3 : scope.names.lookup ("_law_other" : Str) = some .free) (hdb : (fn == ("__debug__" : Str)) = false) (ho : OutC d e e2 out) :
    BodyOk P w K mg base 10 CT CN Gs q scope [("_law_table", c1), ("_law_other", c3), ("_law_one_here", c2)] (.Call (.Name fn p1) [] [{ arg := some "other", value := .Name "_law_other" p2, pos := p3 }, { arg := some "one", value := .Name "_law_one_here" p4, pos := p5 }, { arg := some "table", value := .Name "_law_table" p6, pos := p7 }] p8) [x, z, y] [d, e2, e] out := by
  intro A outer s Hh E f c' Q hr data gs h
  refine ⟨_, pe_callKR (ks := ["other", "one", "table"]) G hr hg hm kp KB (fun σ => passAt (takes_of rfl rfl rfl rfl) σ) (pk_cons (pv 1 rfl (.inr (.inr hv3))) (pk_cons (pv 2 rfl (.inr (.inr hv2))) (pk_cons (pv 0 rfl (.inr (.inr hv))) pk_nil))) rfl rfl hdb, ?_⟩
  cases data with
  | cons r t => cases t with
    | cons r3 t => cases t with
      | cons r2 _ => exact ⟨_, rfl, _, rfl, _, rfl, x, y, z, d, e, e2, rfl, r, r2, r3, gs, outC r r2 r3 h ho⟩
end
end Tb

namespace Tb
open PySem PySem.Spec PyProof.Rows L2
open LamX (CodeO TabS TabB)
variable {K : PySem.W.Frag}
abbrev qlam (n : Str) : Str := n ++ ".<locals>." ++ "<lambda>"
/-- what is known of a lambda's row before any of it is made -/
structure LamRow (P : Program) (w : World) (K : PySem.W.Frag) (mg : Str → Option Value) (base : Heap) (CT CN : Addr) (Gs : List Addr) (q : Str) (cl : List (Str × Addr)) (xs : List V) (ds : List PyData) (OK : Out → Prop) (params : Arguments) (body : Expr) (scope : Scope) : Prop where
  los : LoS scope cl
  bind : ∀ (pm ctv : Value) (c' : Addr), bindArgs (PySem.W.kla_fn "<lambda>" q params body scope cl pm (.ref c') ctv) ⟨[], []⟩ = pure []
  body : ∀ out, OK out → BodyOk P w K mg base 10 CT CN Gs q scope cl body xs ds out
/-- f is such a lambda -/
def Cand (P : Program) (w : World) (K : PySem.W.Frag) (mg : Str → Option Value) (base : Heap) (CT CN : Addr) (Gs : List Addr) (q : Str) (cl : List (Str × Addr)) (xs : List V) (ds : List PyData) (OK : Out → Prop) (H : Hp) (f : Addr) : Prop :=
  ∃ (params : Arguments) (body : Expr) (scope : Scope) (pm : Value) (c' : Addr) (ctv : Value), H f = some (CloO f q params body scope cl pm c' ctv) ∧ H c' = some (CodeO c' q) ∧ LamRow P w K mg base CT CN Gs q cl xs ds OK params body scope
theorem Cand.keep {P : Program} {w : World} {mg : Str → Option Value} {base : Heap} {CT CN : Addr} {Gs : List Addr} {q : Str} {cl : List (Str × Addr)} {xs : List V} {ds : List PyData} {OK : Out → Prop} {H H' : Hp} {f : Addr} (c : Cand P w K mg base CT CN Gs q cl xs ds OK H f) (e : ∀ b z, H b = some (.ext z) → H' b = some (.ext z)) : Cand P w K mg base CT CN Gs q cl xs ds OK H' f := by
  obtain ⟨params, body, scope, pm, c', ctv, h1, h2, r⟩ := c
  exact ⟨params, body, scope, pm, c', ctv, e _ _ h1, e _ _ h2, r⟩
structure Bld (H0 H : Hp) (T : Addr) (q : Str) (p : Addr) (C : Hp → Addr → Prop) (fs : List Addr) : Prop where
  lst : H p = some (.lst (fs.map V.ref))
  new : H0 p = none
  keep : ∀ b o, b ≠ T → H0 b = some o → H b = some o
  tab : TabS H T q
  made : ∀ f ∈ fs, C H f
theorem tabS_keep {H H' : Hp} {T : Addr} {q : Str} (t : TabS H T q) (e : ∀ b o, (∀ xs, o ≠ .lst xs) → H b = some o → H' b = some o) : TabS H' T q := by
  obtain ⟨ps, h1, h2, h3⟩ := t
  refine ⟨ps, e _ _ (fun xs z => by cases z) h1, h2, fun pos cv hc => ?_⟩
  obtain ⟨c, e1, e2⟩ := h3 pos cv hc
  exact ⟨c, e1, e _ _ (fun xs z => by
    have z' : HO.ext _ = HO.lst xs := z
    cases z') e2⟩
section
variable {P : Program} {w : World} {mg : Str → Option Value} {base : Heap} {CT CN : Addr} {Ts : List (Addr × Str)} {Gs : List Addr} {q : Str} {cl : List (Str × Addr)} {xs : List V} {ds : List PyData} {OK : Out → Prop} {H0 H H1 : Hp} {T p f c' : Addr} {fs : List Addr} {params : Arguments} {body : Expr} {scope : Scope} {pm ctv : Value}
theorem bld_new (hT : TabS H0 T q) (m : Mk H0 H1 T q c') (hf : H1 f = none) (r : LamRow P w K mg base CT CN Gs q cl xs ds OK params body scope) (hp : upd H1 f (CloO f q params body scope cl pm c' ctv) p = none) :
    Bld H0 (upd (upd H1 f (CloO f q params body scope cl pm c' ctv)) p (.lst [.ref f])) T q p (Cand P w K mg base CT CN Gs q cl xs ds OK) [f] := by
  have e1 : ∀ b o, H1 b = some o → upd H1 f (CloO f q params body scope cl pm c' ctv) b = some o := fun b o e => by
    rw [upd_ne (ne_of_none e hf)]; exact e
  have e2 : ∀ b o, upd H1 f (CloO f q params body scope cl pm c' ctv) b = some o → upd (upd H1 f (CloO f q params body scope cl pm c' ctv)) p (.lst [.ref f]) b = some o := fun b o e => by
    rw [upd_ne (ne_of_none e hp)]; exact e
  have pT : p ≠ T := fun z => by
    obtain ⟨ps, h, _⟩ := m.tab
    rw [z, e1 _ _ h] at hp
    cases hp
  refine ⟨upd_same, ?_, fun b o n e => e2 _ _ (e1 _ _ (m.keep b o n e)), m.tab.ext fun b o e => e2 _ _ (e1 _ _ e), fun g hg => ?_⟩
  · cases z : H0 p with
    | none => rfl
    | some o =>
      rw [e1 _ _ (m.keep p o pT z)] at hp
      cases hp
  · obtain rfl := List.mem_singleton.mp hg
    exact ⟨params, body, scope, pm, c', ctv, e2 _ _ upd_same, e2 _ _ (e1 _ _ m.code), r⟩
theorem bld_add (B : Bld H0 H T q p (Cand P w K mg base CT CN Gs q cl xs ds OK) fs) (m : Mk H H1 T q c') (hf : H1 f = none) (r : LamRow P w K mg base CT CN Gs q cl xs ds OK params body scope) :
    upd H1 f (CloO f q params body scope cl pm c' ctv) p = some (.lst (fs.map V.ref)) ∧ Bld H0 (upd (upd H1 f (CloO f q params body scope cl pm c' ctv)) p (.lst (fs.map V.ref ++ [.ref f]))) T q p (Cand P w K mg base CT CN Gs q cl xs ds OK) (fs ++ [f]) := by
  have pT : p ≠ T := fun z => by
    obtain ⟨ps, h, _⟩ := B.tab
    rw [← z, B.lst] at h
    cases h
  have hp1 : H1 p = some (.lst (fs.map V.ref)) := m.keep p _ pT B.lst
  have e1 : ∀ b o, H1 b = some o → upd H1 f (CloO f q params body scope cl pm c' ctv) b = some o := fun b o e => by
    rw [upd_ne (ne_of_none e hf)]; exact e
  have e2 : ∀ b o, (∀ ys, o ≠ .lst ys) → upd H1 f (CloO f q params body scope cl pm c' ctv) b = some o → upd (upd H1 f (CloO f q params body scope cl pm c' ctv)) p (.lst (fs.map V.ref ++ [.ref f])) b = some o := fun b o n e => by
    rw [upd_ne fun z => by
      rw [z, e1 _ _ hp1] at e
      exact n _ (Option.some.inj e).symm]
    exact e
  refine ⟨e1 _ _ hp1, ?_, B.new, fun b o n e => ?_, tabS_keep (m.tab.ext fun b o e => e1 _ _ e) e2, fun g hg => ?_⟩
  · rw [upd_same, List.map_append]; rfl
  · rw [upd_ne fun z => by
      rw [z, B.new] at e
      cases e]
    exact e1 _ _ (m.keep b o n (B.keep b o n e))
  · rcases List.mem_append.mp hg with h | h
    · exact (B.made g h).keep fun b z e => e2 _ _ (fun ys y => by cases y) (e1 _ _ (m.keep b _ (fun y => by
        obtain ⟨ps, h', _⟩ := B.tab
        rw [y, h'] at e
        cases e) e))
    · obtain rfl := List.mem_singleton.mp h
      exact ⟨params, body, scope, pm, c', ctv, e2 _ _ (fun ys y => by
        have y' : HO.ext _ = HO.lst ys := y
        cases y') upd_same, e2 _ _ (fun ys y => by
        have y' : HO.ext _ = HO.lst ys := y
        cases y') (e1 _ _ m.code), r⟩
theorem addc_out {cs : List (Addr × V)} (hcs : ∀ pr ∈ cs, H pr.1 = none) {b : Addr} {o : HO} (e : H b = some o) : addc cs H b = some o := by
  unfold addc
  cases z : cs.lookup b with
  | none => exact e
  | some x =>
    rw [hcs _ (mem_of_lookup' z)] at e
    cases e
theorem rpl_mem : ∀ {vs : List V} {es : List PyData}, RpL K H vs es → ∀ {d : PyData}, d ∈ es → ∃ v ∈ vs, Rp K H v d
  | _, _, .nil, _, h => by cases h
  | _, _, .cons r1 t, _, h => by
    rcases List.mem_cons.mp h with rfl | h
    · exact ⟨_, List.mem_cons_self, r1⟩
    · obtain ⟨v, m, r⟩ := rpl_mem t h
      exact ⟨v, List.mem_cons_of_mem _ m, r⟩
theorem bld_end (B : Bld H0 H T q p (Cand P w K mg base CT CN Gs q cl xs ds OK) fs) {cs : List (Addr × V)} (hcs : ∀ pr ∈ cs, H pr.1 = none) (hT : TabS H0 T q) (hu : ∀ pr ∈ Ts, pr.1 = T → pr.2 = q) (dis : ∀ T ∈ Gs, ∀ p ∈ Ts, T ≠ p.1)
    (n1 : (cl.map (·.1)).Nodup) (n2 : (cl.map (·.2)).Nodup) (hl : xs.length = cl.length) (hcl : ∀ (i : Nat) (pr : Str × Addr) (x : V), cl[i]? = some pr → xs[i]? = some x → cs.lookup pr.2 = some x) (data : RpL K H0 xs ds) (ho : ∀ out, OK out → match out with
      | .fine => True
      | .tb d => d ∈ ds
      | .nu d => d ∈ ds) :
    Kt Ts H0 (addc cs H) ∧ addc cs H p = some (.lst (fs.map V.ref)) ∧ ∀ g ∈ fs, ∀ out, OK out → CloP P w K mg base 11 CT CN Ts Gs g out (addc cs H) := by
  have out_ : ∀ b o, H b = some o → addc cs H b = some o := fun b o e => addc_out hcs e
  have k1 : Kp H0 (addc cs H) := by
    refine ⟨fun b o e n => out_ _ _ (B.keep b o (fun z => ?_) e), fun U h => ?_⟩
    · obtain ⟨ps, h, _⟩ := hT
      rw [z, h] at e
      exact n ps (Option.some.inj e).symm
    · by_cases z : U = T
      · rw [z]; exact TabS.g (B.tab.ext out_)
      · obtain ⟨ps, h1, h2⟩ := h
        exact ⟨ps, out_ _ _ (B.keep _ _ z h1), h2⟩
  refine ⟨⟨k1, fun pr hp t => ?_⟩, out_ _ _ B.lst, fun g hg out ok => ?_⟩
  · by_cases z : pr.1 = T
    · rw [hu pr hp z, z]
      exact B.tab.ext out_
    · obtain ⟨ps, h1, h2, h3⟩ := t
      refine ⟨ps, out_ _ _ (B.keep _ _ z h1), h2, fun pos cv hc => ?_⟩
      obtain ⟨c, e1, e2⟩ := h3 pos cv hc
      exact ⟨c, e1, k1.keep c _ e2 fun qs y => LamX.codeO_ne qs y⟩
  · obtain ⟨params, body, scope, pm, c', ctv, h1, h2, r⟩ := B.made g hg
    refine clo_p (out_ _ _ h1) (out_ _ _ h2) r.los n1 n2 hl (fun i pr x a b => ?_) (data.kp k1) dis (r.bind pm ctv c') (r.body out ok) ?_
    · unfold addc
      rw [hcl i pr x a b]
    · have h := ho out ok
      cases out with
      | fine => trivial
      | tb d => exact rpl_mem (data.kp k1) h
      | nu d => exact rpl_mem (data.kp k1) h
end
end Tb

namespace Tb
open PySem PySem.Spec PyProof.Rows L2
open LamX (CodeO TabS TabB)
variable {K : PySem.W.Frag}
def losB (scope : Scope) (ns : List Str) : Bool := decide (scope.kind = .function) && !scope.isCoroutine && !scope.isGenerator && scope.names.all fun y => !decide (y.2 = .local) && !decide (y.2 = .cell) && (!decide (y.2 = .free) || ns.contains y.1)
theorem los_by {scope : Scope} {cl : List (Str × Addr)} {ns : List Str} (h : losB scope ns = true) (e : cl.map (·.1) = ns) : LoS scope cl := by
  unfold losB at h
  simp only [Bool.and_eq_true, Bool.or_eq_true, Bool.not_eq_true', decide_eq_true_eq, decide_eq_false_iff_not, List.all_eq_true] at h
  obtain ⟨⟨⟨h1, h2⟩, h3⟩, h4⟩ := h
  refine ⟨h1, h2, h3, fun y hy => (h4 y hy).1, fun y hy z => ?_⟩
  rcases (h4 y hy).2 with n | n
  · exact absurd z n
  · rw [← e] at n
    have hm : y.1 ∈ cl.map (·.1) := by simpa using n
    obtain ⟨p, hp, e2⟩ := List.mem_map.mp hm
    cases l : cl.lookup y.1 with
    | none =>
      have := List.lookup_eq_none_iff.mp l p hp
      simp [e2] at this
    | some c => exact ⟨c, rfl⟩
section
variable {P : Program} {w : World} {mg : Str → Option Value} {base : Heap} {CT CN : Addr} {Ts : List (Addr × Str)} {Gs : List Addr} {q : Str} {cl : List (Str × Addr)} {xs : List V} {ds : List PyData} {OK : Out → Prop} {H0 H : Hp} {T p : Addr} {fs : List Addr} {params : Arguments} {body : Expr} {scope : Scope} {σ : L2.St}
theorem mk_new {Q : V → Hp → Prop} (hT : TabS H0 T q) (r : LamRow P w K mg base CT CN Gs q cl xs ds OK params body scope) (next : ∀ g H1, (∀ p, H1 p = none → Bld H0 (upd H1 p (.lst [.ref g])) T q p (Cand P w K mg base CT CN Gs q cl xs ds OK) [g]) → Q (.ref g) H1) :
    tMk T q cl params body scope σ H0 Q :=
  ⟨hT, fun f c' pm ctv H1 m n => next f _ fun p hp => bld_new hT m n r hp⟩
theorem mk_app {Q : V → Hp → Prop} (B : Bld H0 H T q p (Cand P w K mg base CT CN Gs q cl xs ds OK) fs) (r : LamRow P w K mg base CT CN Gs q cl xs ds OK params body scope) (next : ∀ g H1, H1 p = some (.lst (fs.map V.ref)) → Bld H0 (upd H1 p (.lst (fs.map V.ref ++ [.ref g]))) T q p (Cand P w K mg base CT CN Gs q cl xs ds OK) (fs ++ [g]) → Q (.ref g) H1) :
    tMk T q cl params body scope σ H Q :=
  ⟨B.tab, fun f c' pm ctv H1 m n => by
    obtain ⟨hp, B'⟩ := bld_add (pm := pm) (ctv := ctv) B m n r
    exact next f _ hp B'⟩
end
section
variable {P : Program} {w : World} {mg : Str → Option Value} {base : Heap} {f : String → Addr} {a c T1 CT CN : Addr} {Ts : List (Addr × Str)} {Gs : List Addr} {fd g1 g2 g3 g4 g5 g6 : FuncData}
def spMade (P : Program) (w : World) (K : PySem.W.Frag) (mg : Str → Option Value) (base : Heap) (CT CN : Addr) (Ts : List (Addr × Str)) (Gs : List Addr) (n : Nat) (OK : Out → Prop) (H : Hp) (Q : VK) : Prop :=
  ∀ (p : Addr) (fs : List Addr) (H' : Hp), H p = none → H' p = some (.lst (fs.map V.ref)) → fs.length = n → (∀ g ∈ fs, ∀ out, OK out → CloP P w K mg base 11 CT CN Ts Gs g out H') → Kt Ts H H' → Q (.ref p) H'
def spAlone (P : Program) (w : World) (K : PySem.W.Frag) (mg : Str → Option Value) (base : Heap) (CT CN : Addr) (Ts : List (Addr × Str)) (Gs : List Addr) (T1 : Addr) : Sp := fun vs H Q _ => ∃ (x : V) (d : PyData), vs = [x] ∧ Rp K H x d ∧ TabS H T1 (qlam "_law_alone") ∧ spMade P w K mg base CT CN Ts Gs 6 (OutA d) H Q
theorem sc_la : FnScope ["_law_table", "_law_calls"] ["_law_table"] (defScope s__law_alone) := ⟨rfl, rfl, rfl, by decide +kernel, rfl, by decide +kernel, by decide +kernel⟩
abbrev KB1 (fd : FuncData) : Prop := ∀ (s : Shared) (ws : List Value), ws.length = 1 → BindsTo s fd ⟨[], (["table"] : List Str).zip ws⟩ ((["table"] : List Str).zip ws.reverse)
abbrev KB2 (fd : FuncData) : Prop := ∀ (s : Shared) (ws : List Value), ws.length = 2 → BindsTo s fd ⟨[], (["number", "table"] : List Str).zip ws⟩ ((["table", "number"] : List Str).zip ws.reverse)
abbrev KB3 (fd : FuncData) : Prop := ∀ (s : Shared) (ws : List Value), ws.length = 3 → BindsTo s fd ⟨[], (["other", "one", "table"] : List Str).zip ws⟩ ((["table", "one", "other"] : List Str).zip ws.reverse)
theorem outA_in {d : PyData} : ∀ out, OutA d out → match out with
      | .fine => True
      | .tb e => e ∈ [d]
      | .nu e => e ∈ [d]
  | .fine, _ => trivial
  | .tb e, h => List.mem_singleton.mpr h.1
  | .nu e, h => h.elim
theorem ok_la (T : Tx mg f) (F : FunC K "_law_alone" "_law_alone" s__law_alone a fd c) (TB : TabB base mg c T1) (hu : ∀ pr ∈ Ts, pr.1 = T1 → pr.2 = qlam "_law_alone") (dis : ∀ T ∈ Gs, ∀ p ∈ Ts, T ≠ p.1)
    (G1 : FnOk P w K mg base (L2.CX P w) 10 (f "table_parts") g1 ["table"] (spA K CT Gs)) (B1 : Binds K g1 ["table"] []) (k1 : PySem.W.keepIn K (.ref (f "table_parts")) = true)
    (G2 : FnOk P w K mg base (L2.CX P w) 10 (f "has_single_lists") g2 ["table"] (spA K CT Gs)) (B2 : Binds K g2 ["table"] []) (k2 : PySem.W.keepIn K (.ref (f "has_single_lists")) = true)
    (G3 : FnOk P w K mg base (L2.CX P w) 10 (f "two_lists") g3 ["table"] (spA K CT Gs)) (B3 : KB1 g3) (k3 : PySem.W.keepIn K (.ref (f "two_lists")) = true)
    (G4 : FnOk P w K mg base (L2.CX P w) 10 (f "is_distributive") g4 ["table"] (spA K CT Gs)) (B4 : Binds K g4 ["table"] []) (k4 : PySem.W.keepIn K (.ref (f "is_distributive")) = true)
    (G5 : FnOk P w K mg base (L2.CX P w) 10 (f "has_differences") g5 ["table"] (spA K CT Gs)) (B5 : KB1 g5) (k5 : PySem.W.keepIn K (.ref (f "has_differences")) = true)
    (G6 : FnOk P w K mg base (L2.CX P w) 10 (f "two_differences") g6 ["table"] (spA K CT Gs)) (B6 : Binds K g6 ["table"] []) (k6 : PySem.W.keepIn K (.ref (f "two_differences")) = true) :
    FnOk P w K mg base CX0 1 a fd ["_law_table"] (spAlone P w K mg base CT CN Ts Gs T1) := by
  refine ok_clo F.fn F.ex sc_la (fun vs H Q E h => ?_) (fun A outer s H vs Q E hr h => ?_)
  · obtain ⟨_, _, rfl, _⟩ := h
    rfl
  obtain ⟨x, d, rfl, hx, ht, q⟩ := h
  refine ⟨_, psr_cons (ps_set (i := 1) sc_la.nd rfl (Or.inl rfl) (pe_lst (pa_cons (pe_lam TB rfl (LamX.lamS_by (by change LamX.lamSB (defScope s__law_alone) _ = true; decide +kernel)) rfl) pa_nil)))
    (psr_cons (ps_expr (pe_bm PySem.F.plainAttrs_list PySem.F.slot_list_append PySem.F.type_list_append mt_append (pv 1) (pa_cons (pe_lam TB rfl (LamX.lamS_by (by change LamX.lamSB (defScope s__law_alone) _ = true; decide +kernel)) rfl) pa_nil)))
    (psr_cons (ps_expr (pe_bm PySem.F.plainAttrs_list PySem.F.slot_list_append PySem.F.type_list_append mt_append (pv 1) (pa_cons (pe_lam TB rfl (LamX.lamS_by (by change LamX.lamSB (defScope s__law_alone) _ = true; decide +kernel)) rfl) pa_nil)))
    (psr_cons (ps_expr (pe_bm PySem.F.plainAttrs_list PySem.F.slot_list_append PySem.F.type_list_append mt_append (pv 1) (pa_cons (pe_lam TB rfl (LamX.lamS_by (by change LamX.lamSB (defScope s__law_alone) _ = true; decide +kernel)) rfl) pa_nil)))
    (psr_cons (ps_expr (pe_bm PySem.F.plainAttrs_list PySem.F.slot_list_append PySem.F.type_list_append mt_append (pv 1) (pa_cons (pe_lam TB rfl (LamX.lamS_by (by change LamX.lamSB (defScope s__law_alone) _ = true; decide +kernel)) rfl) pa_nil)))
    (psr_cons (ps_expr (pe_bm PySem.F.plainAttrs_list PySem.F.slot_list_append PySem.F.type_list_append mt_append (pv 1) (pa_cons (pe_lam TB rfl (LamX.lamS_by (by change LamX.lamSB (defScope s__law_alone) _ = true; decide +kernel)) rfl) pa_nil)))
    (psr_ret (pv 1))))))), ?_⟩
  dsimp only [tAsg, tLst, tCons]
  refine mk_new (P := P) (w := w) (K := K) (mg := mg) (base := base) (cl := [("_law_table", s.heap.objs.size + 1)]) (xs := [x]) (ds := [d]) (OK := OutA d) (CT := CT) (CN := CN) (Gs := Gs) ht ?r1 fun f1 H1 pre => ⟨by show 1 ≤ sizeLine; decide, fun p hp => ?_⟩
  case r1 => exact ⟨los_by (ns := ["_law_table"]) (by decide +kernel) rfl, fun _ _ _ => rfl, fun out ho => body_a G1 (T.fn "table_parts" (by decide)) k1 B1 rfl rfl rfl ho⟩
  have Bd := pre p hp
  generalize upd H1 p (.lst [.ref f1]) = H1' at Bd
  refine ⟨_, rfl, .inl ⟨rfl, _, .inl (.inl Bd.lst)⟩, ?_⟩
  dsimp only [tDrop, tCons]
  refine mk_app Bd ?r2 fun f2 H2 hp2 Bd2 => ⟨p, _, _, rfl, rfl, hp2, by rw [sizeLine_eq]; simp, ?_⟩
  case r2 => exact ⟨los_by (ns := ["_law_table"]) (by decide +kernel) rfl, fun _ _ _ => rfl, fun out ho => body_a G2 (T.fn "has_single_lists" (by decide)) k2 B2 rfl rfl rfl ho⟩
  clear Bd
  have Bd := Bd2
  clear Bd2
  generalize upd H2 p _ = H2' at Bd
  refine ⟨_, rfl, .inl ⟨rfl, _, .inl (.inl Bd.lst)⟩, ?_⟩
  dsimp only [tDrop, tCons]
  refine mk_app Bd ?r3 fun f3 H3 hp3 Bd3 => ⟨p, _, _, rfl, rfl, hp3, by rw [sizeLine_eq]; simp, ?_⟩
  case r3 => exact ⟨los_by (ns := ["_law_table"]) (by decide +kernel) rfl, fun _ _ _ => rfl, fun out ho => body_ak G3 (T.fn "two_lists" (by decide)) k3 B3 rfl rfl rfl ho⟩
  clear Bd
  have Bd := Bd3
  clear Bd3
  generalize upd H3 p _ = H3' at Bd
  refine ⟨_, rfl, .inl ⟨rfl, _, .inl (.inl Bd.lst)⟩, ?_⟩
  dsimp only [tDrop, tCons]
  refine mk_app Bd ?r4 fun f4 H4 hp4 Bd4 => ⟨p, _, _, rfl, rfl, hp4, by rw [sizeLine_eq]; simp, ?_⟩
  case r4 => exact ⟨los_by (ns := ["_law_table"]) (by decide +kernel) rfl, fun _ _ _ => rfl, fun out ho => body_a G4 (T.fn "is_distributive" (by decide)) k4 B4 rfl rfl rfl ho⟩
  clear Bd
  have Bd := Bd4
  clear Bd4
  generalize upd H4 p _ = H4' at Bd
  refine ⟨_, rfl, .inl ⟨rfl, _, .inl (.inl Bd.lst)⟩, ?_⟩
  dsimp only [tDrop, tCons]
  refine mk_app Bd ?r5 fun f5 H5 hp5 Bd5 => ⟨p, _, _, rfl, rfl, hp5, by rw [sizeLine_eq]; simp, ?_⟩
  case r5 => exact ⟨los_by (ns := ["_law_table"]) (by decide +kernel) rfl, fun _ _ _ => rfl, fun out ho => body_ak G5 (T.fn "has_differences" (by decide)) k5 B5 rfl rfl rfl ho⟩
  clear Bd
  have Bd := Bd5
  clear Bd5
  generalize upd H5 p _ = H5' at Bd
  refine ⟨_, rfl, .inl ⟨rfl, _, .inl (.inl Bd.lst)⟩, ?_⟩
  dsimp only [tDrop, tCons]
  refine mk_app Bd ?r6 fun f6 H6 hp6 Bd6 => ⟨p, _, _, rfl, rfl, hp6, by rw [sizeLine_eq]; simp, ?_⟩
  case r6 => exact ⟨los_by (ns := ["_law_table"]) (by decide +kernel) rfl, fun _ _ _ => rfl, fun out ho => body_a G6 (T.fn "two_differences" (by decide)) k6 B6 rfl rfl rfl ho⟩
  clear Bd
  have Bd := Bd6
  clear Bd6
  generalize upd H6 p _ = H6' at Bd
  refine ⟨_, rfl, [(s.heap.objs.size + 1, x)], fun pr hp => ?_, fun hn => ?_⟩
  · obtain rfl := List.mem_singleton.mp hp
    exact ⟨"_law_table", 0, rfl, rfl, rfl, rfl⟩
  · have hcl : ∀ (i : Nat) (pr : Str × Addr) (y : V), ([("_law_table", s.heap.objs.size + 1)] : List (Str × Addr))[i]? = some pr → ([x] : List V)[i]? = some y → ([(s.heap.objs.size + 1, x)] : List (Addr × V)).lookup pr.2 = some y := fun i pr y e1 e2 => by
      match i, e1, e2 with
      | 0, e1, e2 =>
        cases e1
        cases e2
        simp
    obtain ⟨kt, hl, cl⟩ := bld_end (Ts := Ts) (cl := [("_law_table", s.heap.objs.size + 1)]) Bd hn ht hu dis (by show (["_law_table"] : List Str).Nodup; decide) (by simp) rfl hcl (.cons hx .nil) outA_in
    exact q p _ _ Bd.new hl rfl cl kt
end
end Tb

namespace Tb
open PySem PySem.Spec PyProof.Rows L2
open LamX (CodeO TabS TabB)
variable {K : PySem.W.Frag}
theorem lk_ne {a b : Addr} {x : V} {l : List (Addr × V)} (h : b ≠ a) : ((a, x) :: l).lookup b = l.lookup b := by
  rw [List.lookup_cons]
  have : (b == a) = false := by simpa using h
  rw [this]
theorem lk_eq {a : Addr} {x : V} {l : List (Addr × V)} : ((a, x) :: l).lookup a = some x := by
  rw [List.lookup_cons]
  simp
section
variable {P : Program} {w : World} {mg : Str → Option Value} {base : Heap} {f : String → Addr} {a c T1 CT CN : Addr} {Ts : List (Addr × Str)} {Gs : List Addr} {fd g1 g2 g3 g4 g5 g6 : FuncData}
def spOne (P : Program) (w : World) (K : PySem.W.Frag) (mg : Str → Option Value) (base : Heap) (CT CN : Addr) (Ts : List (Addr × Str)) (Gs : List Addr) (T1 : Addr) : Sp := fun vs H Q _ => ∃ (x v : V) (d e : PyData), vs = [x, v] ∧ Rp K H x d ∧ Rp K H v e ∧ TabS H T1 (qlam "_law_one") ∧ spMade P w K mg base CT CN Ts Gs 2 (OutB d e) H Q
def spTwo (P : Program) (w : World) (K : PySem.W.Frag) (mg : Str → Option Value) (base : Heap) (CT CN : Addr) (Ts : List (Addr × Str)) (Gs : List Addr) (T1 : Addr) : Sp := fun vs H Q _ => ∃ (x v u : V) (d e e2 : PyData), vs = [x, v, u] ∧ Rp K H x d ∧ Rp K H v e ∧ Rp K H u e2 ∧ TabS H T1 (qlam "_law_two") ∧ spMade P w K mg base CT CN Ts Gs 2 (OutC d e e2) H Q
theorem sc_l1 : FnScope ["_law_table", "_law_number", "_law_calls"] ["_law_table", "_law_number"] (defScope s__law_one) := ⟨rfl, rfl, rfl, by decide +kernel, rfl, by decide +kernel, by decide +kernel⟩
theorem sc_l2 : FnScope ["_law_table", "_law_one_here", "_law_other", "_law_calls"] ["_law_table", "_law_one_here", "_law_other"] (defScope s__law_two) := ⟨rfl, rfl, rfl, by decide +kernel, rfl, by decide +kernel, by decide +kernel⟩
theorem outB_in {d e : PyData} : ∀ out, OutB d e out → match out with
      | .fine => True
      | .tb y => y ∈ [d, e]
      | .nu y => y ∈ [d, e]
  | .fine, _ => trivial
  | .tb y, h => by simp [h.1]
  | .nu y, h => by simp [h.1]
theorem outC_in {d e e2 : PyData} : ∀ out, OutC d e e2 out → match out with
      | .fine => True
      | .tb y => y ∈ [d, e2, e]
      | .nu y => y ∈ [d, e2, e]
  | .fine, _ => trivial
  | .tb y, h => by simp [h.1]
  | .nu y, h => by
    obtain ⟨_, ⟨rfl, _⟩ | ⟨rfl, _⟩⟩ := h <;> simp
theorem ok_l1 (T : Tx mg f) (F : FunC K "_law_one" "_law_one" s__law_one a fd c) (TB : TabB base mg c T1) (hu : ∀ pr ∈ Ts, pr.1 = T1 → pr.2 = qlam "_law_one") (dis : ∀ T ∈ Gs, ∀ p ∈ Ts, T ≠ p.1)
    (G1 : FnOk P w K mg base (L2.CX P w) 10 (f "needed") g1 ["table", "number"] (spB K CT CN Gs)) (B1 : Binds K g1 ["table", "number"] []) (k1 : PySem.W.keepIn K (.ref (f "needed")) = true)
    (G2 : FnOk P w K mg base (L2.CX P w) 10 (f "all_lists") g2 ["table", "number"] (spB K CT CN Gs)) (B2 : KB2 g2) (k2 : PySem.W.keepIn K (.ref (f "all_lists")) = true) :
    FnOk P w K mg base CX0 1 a fd ["_law_table", "_law_number"] (spOne P w K mg base CT CN Ts Gs T1) := by
  refine ok_clo F.fn F.ex sc_l1 (fun vs H Q E h => ?_) (fun A outer s H vs Q E hr h => ?_)
  · obtain ⟨_, _, _, _, rfl, _⟩ := h
    rfl
  obtain ⟨x, v, d, e, rfl, hx, hv, ht, q⟩ := h
  refine ⟨_, psr_cons (ps_set (i := 2) sc_l1.nd rfl (Or.inl rfl) (pe_lst (pa_cons (pe_lam TB rfl (LamX.lamS_by (by change LamX.lamSB (defScope s__law_one) _ = true; decide +kernel)) rfl) pa_nil)))
    (psr_cons (ps_expr (pe_bm PySem.F.plainAttrs_list PySem.F.slot_list_append PySem.F.type_list_append mt_append (pv 2) (pa_cons (pe_lam TB rfl (LamX.lamS_by (by change LamX.lamSB (defScope s__law_one) _ = true; decide +kernel)) rfl) pa_nil)))
    (psr_ret (pv 2))), ?_⟩
  dsimp only [tAsg, tLst, tCons]
  refine mk_new (P := P) (w := w) (K := K) (mg := mg) (base := base) (cl := [("_law_table", s.heap.objs.size + 1), ("_law_number", s.heap.objs.size + 2)]) (xs := [x, v]) (ds := [d, e]) (OK := OutB d e) (CT := CT) (CN := CN) (Gs := Gs) ht ?r1 fun f1 H1 pre => ⟨by show 1 ≤ sizeLine; decide, fun p hp => ?_⟩
  case r1 => exact ⟨los_by (ns := ["_law_table", "_law_number"]) (by decide +kernel) rfl, fun _ _ _ => rfl, fun out ho => body_b G1 (T.fn "needed" (by decide)) k1 B1 rfl rfl rfl rfl ho⟩
  have Bd := pre p hp
  generalize upd H1 p (.lst [.ref f1]) = H1' at Bd
  refine ⟨_, rfl, .inl ⟨rfl, _, .inl (.inl Bd.lst)⟩, ?_⟩
  dsimp only [tDrop, tCons]
  refine mk_app Bd ?r2 fun f2 H2 hp2 Bd2 => ⟨p, _, _, rfl, rfl, hp2, by rw [sizeLine_eq]; simp, ?_⟩
  case r2 => exact ⟨los_by (ns := ["_law_table", "_law_number"]) (by decide +kernel) rfl, fun _ _ _ => rfl, fun out ho => body_bk G2 (T.fn "all_lists" (by decide)) k2 B2 rfl rfl rfl rfl ho⟩
  clear Bd
  have Bd := Bd2
  clear Bd2
  generalize upd H2 p _ = H2' at Bd
  refine ⟨_, rfl, [(s.heap.objs.size + 1, x), (s.heap.objs.size + 2, v)], fun pr hp => ?_, fun hn => ?_⟩
  · simp only [List.mem_cons, List.not_mem_nil, or_false] at hp
    rcases hp with rfl | rfl
    · exact ⟨"_law_table", 0, rfl, rfl, rfl, rfl⟩
    · exact ⟨"_law_number", 1, rfl, rfl, rfl, rfl⟩
  · have hcl : ∀ (i : Nat) (pr : Str × Addr) (y : V), ([("_law_table", s.heap.objs.size + 1), ("_law_number", s.heap.objs.size + 2)] : List (Str × Addr))[i]? = some pr → ([x, v] : List V)[i]? = some y → ([(s.heap.objs.size + 1, x), (s.heap.objs.size + 2, v)] : List (Addr × V)).lookup pr.2 = some y := fun i pr y e1 e2 => by
      match i, e1, e2 with
      | 0, e1, e2 =>
        cases e1
        cases e2
        simp
      | 1, e1, e2 =>
        cases e1
        cases e2
        exact (lk_ne (by simp)).trans lk_eq
    obtain ⟨kt, hl, cl⟩ := bld_end (Ts := Ts) (cl := [("_law_table", s.heap.objs.size + 1), ("_law_number", s.heap.objs.size + 2)]) Bd hn ht hu dis (by show (["_law_table", "_law_number"] : List Str).Nodup; decide) (by simp) rfl hcl (.cons hx (.cons hv .nil)) outB_in
    exact q p _ _ Bd.new hl rfl cl kt
theorem ok_l2 (T : Tx mg f) (F : FunC K "_law_two" "_law_two" s__law_two a fd c) (TB : TabB base mg c T1) (hu : ∀ pr ∈ Ts, pr.1 = T1 → pr.2 = qlam "_law_two") (dis : ∀ T ∈ Gs, ∀ p ∈ Ts, T ≠ p.1)
    (G1 : FnOk P w K mg base (L2.CX P w) 10 (f "meet") g1 ["table", "one", "other"] (spC K CT CN Gs)) (B1 : Binds K g1 ["table", "one", "other"] []) (k1 : PySem.W.keepIn K (.ref (f "meet")) = true)
    (G2 : FnOk P w K mg base (L2.CX P w) 10 (f "table_difference") g2 ["table", "one", "other"] (spC K CT CN Gs)) (B2 : KB3 g2) (k2 : PySem.W.keepIn K (.ref (f "table_difference")) = true) :
    FnOk P w K mg base CX0 1 a fd ["_law_table", "_law_one_here", "_law_other"] (spTwo P w K mg base CT CN Ts Gs T1) := by
  refine ok_clo F.fn F.ex sc_l2 (fun vs H Q E h => ?_) (fun A outer s H vs Q E hr h => ?_)
  · obtain ⟨_, _, _, _, _, _, rfl, _⟩ := h
    rfl
  obtain ⟨x, v, u, d, e, e2, rfl, hx, hv, hu3, ht, q⟩ := h
  refine ⟨_, psr_cons (ps_set (i := 3) sc_l2.nd rfl (Or.inl rfl) (pe_lst (pa_cons (pe_lam TB rfl (LamX.lamS_by (by change LamX.lamSB (defScope s__law_two) _ = true; decide +kernel)) rfl) pa_nil)))
    (psr_cons (ps_expr (pe_bm PySem.F.plainAttrs_list PySem.F.slot_list_append PySem.F.type_list_append mt_append (pv 3) (pa_cons (pe_lam TB rfl (LamX.lamS_by (by change LamX.lamSB (defScope s__law_two) _ = true; decide +kernel)) rfl) pa_nil)))
    (psr_ret (pv 3))), ?_⟩
  dsimp only [tAsg, tLst, tCons]
  refine mk_new (P := P) (w := w) (K := K) (mg := mg) (base := base) (cl := [("_law_table", s.heap.objs.size + 1), ("_law_other", s.heap.objs.size + 3), ("_law_one_here", s.heap.objs.size + 2)]) (xs := [x, u, v]) (ds := [d, e2, e]) (OK := OutC d e e2) (CT := CT) (CN := CN) (Gs := Gs) ht ?r1 fun f1 H1 pre => ⟨by show 1 ≤ sizeLine; decide, fun p hp => ?_⟩
  case r1 => exact ⟨los_by (ns := ["_law_table", "_law_other", "_law_one_here"]) (by decide +kernel) rfl, fun _ _ _ => rfl, fun out ho => body_c G1 (T.fn "meet" (by decide)) k1 B1 rfl rfl rfl rfl rfl ho⟩
  have Bd := pre p hp
  generalize upd H1 p (.lst [.ref f1]) = H1' at Bd
  refine ⟨_, rfl, .inl ⟨rfl, _, .inl (.inl Bd.lst)⟩, ?_⟩
  dsimp only [tDrop, tCons]
  refine mk_app Bd ?r2 fun f2 H2 hp2 Bd2 => ⟨p, _, _, rfl, rfl, hp2, by rw [sizeLine_eq]; simp, ?_⟩
  case r2 => exact ⟨los_by (ns := ["_law_table", "_law_other", "_law_one_here"]) (by decide +kernel) rfl, fun _ _ _ => rfl, fun out ho => body_ck G2 (T.fn "table_difference" (by decide)) k2 B2 rfl rfl rfl rfl rfl ho⟩
  clear Bd
  have Bd := Bd2
  clear Bd2
  generalize upd H2 p _ = H2' at Bd
  refine ⟨_, rfl, [(s.heap.objs.size + 1, x), (s.heap.objs.size + 3, u), (s.heap.objs.size + 2, v)], fun pr hp => ?_, fun hn => ?_⟩
  · simp only [List.mem_cons, List.not_mem_nil, or_false] at hp
    rcases hp with rfl | rfl | rfl
    · exact ⟨"_law_table", 0, rfl, rfl, rfl, rfl⟩
    · exact ⟨"_law_other", 2, rfl, rfl, rfl, rfl⟩
    · exact ⟨"_law_one_here", 1, rfl, rfl, rfl, rfl⟩
  · have hcl : ∀ (i : Nat) (pr : Str × Addr) (y : V), ([("_law_table", s.heap.objs.size + 1), ("_law_other", s.heap.objs.size + 3), ("_law_one_here", s.heap.objs.size + 2)] : List (Str × Addr))[i]? = some pr → ([x, u, v] : List V)[i]? = some y → ([(s.heap.objs.size + 1, x), (s.heap.objs.size + 3, u), (s.heap.objs.size + 2, v)] : List (Addr × V)).lookup pr.2 = some y := fun i pr y e1 e2 => by
      match i, e1, e2 with
      | 0, e1, e2 =>
        cases e1
        cases e2
        simp
      | 1, e1, e2 =>
        cases e1
        cases e2
        exact (lk_ne (by simp)).trans lk_eq
      | 2, e1, e2 =>
        cases e1
        cases e2
        exact (lk_ne (by simp)).trans ((lk_ne (by simp)).trans lk_eq)
    obtain ⟨kt, hl, cl⟩ := bld_end (Ts := Ts) (cl := [("_law_table", s.heap.objs.size + 1), ("_law_other", s.heap.objs.size + 3), ("_law_one_here", s.heap.objs.size + 2)]) Bd hn ht hu dis (by show (["_law_table", "_law_other", "_law_one_here"] : List Str).Nodup; decide) (by simp) rfl hcl (.cons hx (.cons hu3 (.cons hv .nil))) outC_in
    exact q p _ _ Bd.new hl rfl cl kt
end
end Tb

namespace Tb
open PySem PySem.Spec PyProof.Rows L2
open LamX (CodeO TabS TabB)
variable {K : PySem.W.Frag}
/-- the three classes -/
structure Cls3 (K : PySem.W.Frag) (mg : Str → Option Value) (CT fT CN fN CP : Addr) : Prop where
  T : LowT K mg CT fT
  N : LowN K mg CN fN
  eT : ErrC K CT
  eN : ErrC K CN
  mP : mg "PartError" = some (.ref CP)
  nt : PySem.W.exmOne K (.ref CN) (.ref CT) = some false
  kT : PySem.W.kitOne K (.ref CT) (.ref CP) = some true
  kN : PySem.W.kitOne K (.ref CN) (.ref CP) = some true
def toldD : Out → PyData
  | .fine => .list [.str "let"]
  | .tb d => .list [.str "table", .str d.shown, .bool true]
  | .nu d => .list [.str "number", .str d.shown, .bool true]
def Shows (d : PyData) : Prop := d.showable = true ∧ d.depth ≤ 60 ∧ d.shown.length ≤ sizeLine
def ShowO : Out → Prop
  | .fine => True
  | .tb d => Shows d
  | .nu d => Shows d
section
variable {P : Program} {w : World} {mg : Str → Option Value} {base : Heap} {f : String → Addr} {a c CT CN fT fN CP : Addr} {Ts : List (Addr × Str)} {Gs : List Addr} {fd : FuncData}
def spHeard (P : Program) (w : World) (K : PySem.W.Frag) (mg : Str → Option Value) (base : Heap) (CT CN : Addr) (Ts : List (Addr × Str)) (Gs : List Addr) : Sp := fun vs H Q _ => ∃ (g : Addr) (out : Out), vs = [.ref g] ∧ CloP P w K mg base 11 CT CN Ts Gs g out H ∧ (∀ p ∈ Ts, TabS H p.1 p.2) ∧ (∀ T ∈ Gs, GxR.TabG H T) ∧ ShowO out ∧
  ∀ v H', Rp K H' v (toldD out) → Kt Ts H H' → Q v H'
abbrev Nhe : List Str := ["_law_call", "_law_told", "e"]
theorem sc_he : FnScope Nhe ["_law_call"] (defScope s__law_heard) := ⟨rfl, rfl, rfl, by decide +kernel, rfl, by decide +kernel, by decide +kernel⟩
theorem bi_repr : bootBuiltins "repr" = some (.builtin "repr") := by decide +kernel
theorem takes_no {X : Cx} : Takes X (fun _ _ _ _ => False) := fun u s' ⟨_, _, _, _, _, _, _, _, _, _, _, _, _, _, _, _, w⟩ => w.elim
abbrev heX (P : Program) (w : World) (K : PySem.W.Frag) (mg : Str → Option Value) (base : Heap) (a : Addr) (cdv : Value) (A : Around) (outer : List Env) (s : Shared) (H : Hp) : Cx := (cxOf CX0 P w K mg base Nhe "_law_heard" (defScope s__law_heard) a cdv A outer s H E0).nox
theorem su_he {C0 f0 : Addr} {cn qn word : Str} {cdv : Value} {A : Around} {outer : List Env} {s : Shared} {H : Hp} {p1 p2 p3 p4 p5 p6 p7 p8 p9 q1 q2 q3 : Pos} {j : Nat} (T : Tx mg f) (L : PySem.LowX.LowTxt K mg cn qn C0 f0) (Er : ErrC K C0) (mP : mg "PartError" = some (.ref CP)) (kT : PySem.W.kitOne K (.ref C0) (.ref CP) = some true)
    (hu : (heX P w K mg base a cdv A outer s H).A.units + 64 < cLine) (hgd : (heX P w K mg base a cdv A outer s H).A.guards = some []) (hsys : ∃ o, base.get? sysModules = some o) :
    ∃ ts : Addr → Value → Option Addr → TS, (∀ (a' : Addr) (oe : Obj) (cls : Value) (d : Option Addr) (pn : List (Addr × Obj)), Zc cls d oe → (∃ vs, oe.data = .fields vs) → PSs ((heX P w K mg base a cdv A outer s H).suite a' ((a', oe) :: pn))
        [.Assign [.Name "_law_told" p1] (.List [.Constant (.str word) j p2, .Call (.Name "repr" p3) [.Attribute (.Name "e" p4) "value" p5] [] p6, .Call (.Name "isinstance" p7) [.Name "e" p8, .Name "PartError" p9] [] q1] q2) q3] (ts a' cls d)) ∧
      ∀ (a' dd : Addr) (v : V) (dt : PyData) (H' : Hp) (D : Ends) (o0 o1 : Option V), H' dd = some (.xd [(("value" : Str), v)]) → Rp K H' v dt → Shows dt → (∀ p, H' p = none → D.nx [o0, some (.ref p), some (.ref a')] (upd H' p (.lst [.str word, .str dt.shown, .bl true]))) → ts a' (.ref C0) (some dd) D [o0, o1, some (.ref a')] H' := by
  refine ⟨fun a' cls d => _, fun a' oe cls d pn hz hf => pss_one (ps_set (i := 1) sc_he.nd rfl (Or.inl rfl) (pe_lst (pa_cons pe_str (pa_cons (pe_callB (r := rRepr K) (cr_repr (X := (heX P w K mg base a cdv A outer s H).suite a' ((a', oe) :: pn)) hu hgd hsys) rfl (T.bl "repr" (by decide)) bi_repr (pa_cons (pe_byLow (X := heX P w K mg base a cdv A outer s H) L hz hf (pv 2)) pa_nil)) (pa_cons (pe_callB (r := rIsErr K a' cls d) (cr_isErr (X := heX P w K mg base a cdv A outer s H) hz hf) rfl (T.bl "isinstance" (by decide)) bi_isi (pa_cons (pv 2) (pa_cons (pe_glob (v := .ref CP) rfl mP rfl) pa_nil))) pa_nil))))), ?_⟩
  intro a' dd v dt H' D o0 o1 hdd rv sh nx
  refine ⟨_, rfl, rfl, rfl, dd, v, rfl, hdd, v, dt, rfl, rv, sh.1, sh.2.1, sh.2.2, _, rfl, C0, dd, CP, _, true, rfl, rfl, Er, rfl, hdd, kT, by show 3 ≤ sizeLine; decide, fun p hp => nx p hp⟩
theorem ok_he (T : Tx mg f) (C : Cls3 K mg CT fT CN fN CP) (hsys : ∃ o, base.get? sysModules = some o) (F : Fun K "_law_heard" "_law_heard" s__law_heard a fd) : FnG P w K mg base 12 a fd ["_law_call"] (spHeard P w K mg base CT CN Ts Gs) := by
  refine okG F sc_he (fun vs H Q E h => ?_) (fun cdv A outer s H vs Q hr hgd h => ?_)
  · obtain ⟨_, _, rfl, _⟩ := h
    rfl
  obtain ⟨g, out, rfl, cl, ts, gs, sh, q⟩ := h
  have hu : (A.deeper (envOfC "_law_heard" (defScope s__law_heard) s.heap.objs.size a cdv)).units + 64 < cLine := by
    have := hr.un
    omega
  obtain ⟨t1, s1, u1⟩ := su_he (word := "table") (p1 := ⟨168, 8, 168, 17⟩) (p2 := ⟨168, 21, 168, 28⟩) (p3 := ⟨168, 30, 168, 34⟩) (p4 := ⟨168, 35, 168, 36⟩) (p5 := ⟨168, 35, 168, 42⟩) (p6 := ⟨168, 30, 168, 43⟩) (p7 := ⟨168, 45, 168, 55⟩) (p8 := ⟨168, 56, 168, 57⟩) (p9 := ⟨168, 59, 168, 68⟩) (q1 := ⟨168, 45, 168, 69⟩) (q2 := ⟨168, 20, 168, 70⟩) (q3 := ⟨168, 8, 168, 70⟩) (j := 0) (a := a) (P := P) (w := w) (base := base) (cdv := cdv) (A := A) (outer := outer) (s := s) (H := H) T C.T C.eT C.mP C.kT hu hgd hsys
  obtain ⟨t2, s2, u2⟩ := su_he (word := "number") (p1 := ⟨170, 8, 170, 17⟩) (p2 := ⟨170, 21, 170, 29⟩) (p3 := ⟨170, 31, 170, 35⟩) (p4 := ⟨170, 36, 170, 37⟩) (p5 := ⟨170, 36, 170, 43⟩) (p6 := ⟨170, 31, 170, 44⟩) (p7 := ⟨170, 46, 170, 56⟩) (p8 := ⟨170, 57, 170, 58⟩) (p9 := ⟨170, 60, 170, 69⟩) (q1 := ⟨170, 46, 170, 70⟩) (q2 := ⟨170, 20, 170, 71⟩) (q3 := ⟨170, 8, 170, 71⟩) (j := 0) (a := a) (P := P) (w := w) (base := base) (cdv := cdv) (A := A) (outer := outer) (s := s) (H := H) T C.N C.eN C.mP C.kN hu hgd hsys
  refine ⟨_, pss_cons (ps_set (i := 1) sc_he.nd rfl (Or.inl rfl) (pe_lst (pa_cons pe_str pa_nil)))
    (pss_cons (ps_try_ases (i := 2) (Wo := fun _ _ _ _ => False) (l := [(.ref CT, t1), (.ref CN, t2)]) (tb := _) rfl rfl sc_he.nd rfl rfl takes_no (fun W pn xe tk po => pss_one (ps_expr (te := tRun P w K mg base 11 0 W) (pe_run (i := 0) (k := 11) hr rfl (Or.inl rfl) tk)))
        (.cons ⟨rfl, rfl, .inl C.T.gC⟩ s1 (.cons ⟨rfl, rfl, .inl C.N.gC⟩ s2 .nil)))
    (pss_one (ps_ret (pv 1)))), ?_⟩
  refine ⟨by show 1 ≤ sizeLine; decide, fun p0 hp0 => ?_⟩
  have k0 : Kt Ts H (upd H p0 (.lst [.str "let"])) := Kt.new hp0
  refine ⟨g, _, rfl, fun _ _ _ z => z, cl _ k0.kp (fun p hp => k0.ts p hp (ts p hp)) (fun T hT => k0.kp.tab T (gs T hT)) _ _ ?_⟩
  cases out with
  | fine =>
    intro v H1 k1
    refine ⟨_, rfl, q _ _ (.lst (k1.kp.lst upd_same) (.cons (.str "let") .nil)) (k0.trans k1)⟩
  | tb d =>
    intro v dd H1 k1 rv hdd
    refine ⟨true, C.T.te, fun _ a' ha' => u1 a' dd v d H1 _ _ _ hdd rv sh fun p hp => ?_, fun z => by cases z⟩
    have k2 : Kt Ts H1 (upd H1 p (.lst [.str "table", .str d.shown, .bl true])) := Kt.new hp
    refine ⟨_, rfl, q _ _ (.lst upd_same (.cons (.str "table") (.cons (.str _) (.cons (.bl true) .nil)))) ((k0.trans k1).trans k2)⟩
  | nu d =>
    intro v dd H1 k1 rv hdd
    refine ⟨false, C.nt, fun z => (by cases z), fun _ => ⟨true, C.N.te, fun _ a' ha' => u2 a' dd v d H1 _ _ _ hdd rv sh fun p hp => ?_, fun z => by cases z⟩⟩
    have k2 : Kt Ts H1 (upd H1 p (.lst [.str "number", .str d.shown, .bl true])) := Kt.new hp
    refine ⟨_, rfl, q _ _ (.lst upd_same (.cons (.str "number") (.cons (.str _) (.cons (.bl true) .nil)))) ((k0.trans k1).trans k2)⟩
end
end Tb

namespace Tb
open PySem PySem.Spec PyProof.Rows L2
open LamX (CodeO TabS TabB)
variable {K : PySem.W.Frag}
theorem lay_of {d : PyData} (h : SeqAt.shaped d = true) : d.canLay0 = true := (Bool.and_eq_true_iff.mp h).1
theorem ne_same {H : Hp} {x y : V} {Q : VK} (d : PyData) (hx : Dp K H x d) (hy : Dp K H y d) (hs : SeqAt.shaped d = true) (q : Q (.bl false) H) : rNeD K x y H Q :=
  ⟨d, d, hx, hy, hs, hs, by rw [PySem.SeqAt.eqv_refl d (lay_of hs)]; exact q⟩
section
variable {P : Program} {w : World} {mg : Str → Option Value} {base : Heap} {f : String → Addr} {a c CT CN fT fN CP : Addr} {Ts : List (Addr × Str)} {Gs : List Addr} {fd g1 : FuncData}
def spAre (P : Program) (w : World) (K : PySem.W.Frag) (mg : Str → Option Value) (base : Heap) (CT CN : Addr) (Ts : List (Addr × Str)) (Gs : List Addr) : Sp := fun vs H Q _ => ∃ (l : Addr) (fs : List Addr) (v : V) (out : Out), vs = [.ref l, v] ∧ H l = some (.lst (fs.map V.ref)) ∧ fs.length ≤ 64 ∧ Rp K H v (toldD out) ∧ SeqAt.shaped (toldD out) = true ∧ ShowO out ∧
  (∀ g ∈ fs, CloP P w K mg base 11 CT CN Ts Gs g out H) ∧ (∀ p ∈ Ts, TabS H p.1 p.2) ∧ (∀ T ∈ Gs, GxR.TabG H T) ∧ ∀ H', Kt Ts H H' → Q (.bl true) H'
abbrev Nar : List Str := ["_law_calls", "_law_due", "_law_call"]
theorem sc_ar : FnScope Nar ["_law_calls", "_law_due"] (defScope s__law_are) := ⟨rfl, rfl, rfl, by decide +kernel, rfl, by decide +kernel, by decide +kernel⟩
theorem ok_ar (T : Tx mg f) (F : Fun K "_law_are" "_law_are" s__law_are a fd) (G : FnG P w K mg base 12 (f "_law_heard") g1 ["_law_call"] (spHeard P w K mg base CT CN Ts Gs)) (B : Binds K g1 ["_law_call"] []) (kp : PySem.W.keepIn K (.ref (f "_law_heard")) = true) :
    FnG P w K mg base 13 a fd ["_law_calls", "_law_due"] (spAre P w K mg base CT CN Ts Gs) := by
  refine okG F sc_ar (fun vs H Q E h => ?_) (fun cdv A outer s H vs Q hr hgd h => ?_)
  · obtain ⟨_, _, _, _, rfl, _⟩ := h
    rfl
  obtain ⟨l, fs, v, out, rfl, hl, hz, hv, hs, sh, cl, ts, gs, q⟩ := h
  have hu : (A.deeper (envOfC "_law_are" (defScope s__law_are) s.heap.objs.size a cdv)).units + 64 < cLine := by
    have := hr.un
    omega
  refine ⟨_, pss_one (ps_ret (pe_cmpR (op_eqD hu) (pe_lc (own := [("_law_call", 2)]) (g := gName 2) rfl sc_ar.nd (pi_list (pv 0)) (blkOk_by (by change blkC Nar (defScope s__law_are) _ _ = true; decide +kernel)) (fun _ _ _ _ _ => pg_name (i := 2) sc_ar.nd rfl (Or.inl rfl))
      (fun _ _ _ _ _ => pts_one (pt_cmpR (r := rNeD K) (op_neD hu) (pe_callG G hr hgd rfl (T.fn "_law_heard" (by decide)) kp B (pa_cons (pv 2) pa_nil)) (pv 1) (nomark _))) (fun _ _ _ _ _ => pv 2)) (pe_lst pa_nil) (nomark _))), ?_⟩
  refine ⟨_, rfl, l, rfl, ⟨_, .inl (.inl hl)⟩, fun D hD => ?_⟩
  refine lc_list (xs := fs.map V.ref) (fun i H' => Kt Ts H H' ∧ H' D = some (.lst [])) ⟨Kt.new hD, upd_same⟩ (fun i H' _ v => .inl (.inl (v.1.kp.lst hl))) ?_ ?_
  · rintro i x H1 hx ⟨k1, hD1⟩
    rw [List.getElem?_map] at hx
    obtain ⟨g, hg, rfl⟩ := Option.map_eq_some_iff.mp hx
    have mg' : g ∈ fs := List.mem_of_getElem? hg
    refine ⟨rfl, _, rfl, g, out, rfl, (cl g mg').kp k1.kp, fun p hp => k1.ts p hp (ts p hp), fun T hT => k1.kp.tab T (gs T hT), sh, fun u H2 ru k2 => ?_⟩
    have k3 := k1.trans k2
    refine ⟨_, rfl, ne_same (toldD out) (Rp.dp _ _ ru (lay_of hs)) (Rp.dp _ _ (hv.kp k3.kp) (lay_of hs)) hs ?_⟩
    exact ⟨_, rfl, ⟨k3, k2.kp.lst hD1⟩⟩
  · rintro H1 ⟨k1, hD1⟩
    refine ⟨by show 0 ≤ sizeLine; decide, fun e he => ?_⟩
    refine ⟨.list [], .list [], .lst (.inl (.inl ?_)) .nil, .lst (.inl (.inl upd_same)) .nil, by decide, by decide, ?_⟩
    · rw [upd_ne (ne_of_none hD1 he)]; exact hD1
    · exact q _ (k1.trans (Kt.new he))
end
end Tb

namespace Tb
open PySem PySem.Spec PyProof.Rows L2
variable {K : PySem.W.Frag}
/-! ### values written out -/
def nw (H H' : Hp) : Hp := fun b => match H b with
  | none => H' b
  | some _ => none
theorem nw_some {H H' : Hp} {b : Addr} {o : HO} (h : nw H H' b = some o) : H b = none ∧ H' b = some o := by
  unfold nw at h
  cases z : H b with
  | none => rw [z] at h; exact ⟨rfl, h⟩
  | some o' => rw [z] at h; cases h
theorem nw_of {H H' : Hp} {b : Addr} {o : HO} (n : H b = none) (e : H' b = some o) : nw H H' b = some o := by
  unfold nw
  rw [n]; exact e
abbrev Ext (H H' : Hp) : Prop := ∀ b o, H b = some o → H' b = some o
theorem Ext.rfl' {H : Hp} : Ext H H := fun _ _ h => h
theorem Ext.tr {A B C : Hp} (x : Ext A B) (y : Ext B C) : Ext A C := fun b o h => y b o (x b o h)
theorem Ext.non' {A B : Hp} (x : Ext A B) {b : Addr} (h : B b = none) : A b = none := by
  cases z : A b with
  | none => rfl
  | some o => rw [x b o z] at h; cases h
theorem Ext.up {A : Hp} {p : Addr} {o : HO} (h : A p = none) : Ext A (upd A p o) := fun b u e => by
  rw [upd_ne (ne_of_none e h)]; exact e
theorem nw_r {A B C : Hp} (y : Ext B C) : Kp (nw A B) (nw A C) := Kp.of fun b o e => nw_of (nw_some e).1 (y _ _ (nw_some e).2)
theorem nw_l {A B C : Hp} (x : Ext A B) : Kp (nw B C) (nw A C) := Kp.of fun b o e => nw_of (x.non' (nw_some e).1) (nw_some e).2
theorem nw_all {A B : Hp} : Kp (nw A B) B := Kp.of fun b o e => (nw_some e).2
theorem nw_del {A B : Hp} {p : Addr} (h : A p ≠ none) : Kp (nw A B) (del B p) := Kp.of fun b o e => by
  rw [del_ne fun z => h (by rw [← z]; exact (nw_some e).1)]
  exact (nw_some e).2
def tLit (K : PySem.W.Frag) (d : PyData) : TE := fun _ H Q => ∀ v H', Rp K (nw H H') v d → Ext H H' → Q v H'
def tLits (K : PySem.W.Frag) (ds : List PyData) : TA := fun _ H Q => ∀ vs H', RpL K (nw H H') vs ds → Ext H H' → Q vs H'
section
variable {X : Cx} {e : Expr} {es : List Expr} {te tf : TE} {ta tb : TA} {d : PyData} {ds : List PyData}
theorem pe_imp (h : PE X e te) (i : ∀ σ H Q, tf σ H Q → te σ H Q) : PE X e tf := ⟨fun pins s σ H Q I q => h.run pins s σ H Q I (i σ H Q q)⟩
theorem lit_int {i : Int} {j : Nat} {p : Pos} : PE X (.Constant (.int i) j p) (tLit K (.int i)) := pe_imp pe_int fun _ H _ h => h (.int i) H (.int i) Ext.rfl'
theorem lit_str {x : Str} {j : Nat} {p : Pos} : PE X (.Constant (.str x) j p) (tLit K (.str x)) := pe_imp pe_str fun _ H _ h => h (.str x) H (.str x) Ext.rfl'
theorem lit_bl {x : Bool} {j : Nat} {p : Pos} : PE X (.Constant (.bool x) j p) (tLit K (.bool x)) := pe_imp pe_bl fun _ H _ h => h (.bl x) H (.bl x) Ext.rfl'
theorem lit_non {j : Nat} {p : Pos} : PE X (.Constant .none j p) (tLit K .none) := pe_imp pe_non fun _ H _ h => h .non H .non Ext.rfl'
theorem lits_nil : PA X [] (tLits K []) := ⟨fun pos pins s σ H Q I h => pa_nil.run pos pins s σ H Q I (h [] H .nil Ext.rfl')⟩
theorem lits_cons (h : PE X e (tLit K d)) (t : PA X es (tLits K ds)) (hs : starEach (e :: es) X.env = (false, eval e X.env) :: starEach es X.env := by rfl) : PA X (e :: es) (tLits K (d :: ds)) :=
  ⟨fun pos pins s σ H Q I q => (pa_cons h t hs).run pos pins s σ H Q I fun v H1 rv e1 vs H2 rs e2 => q (v :: vs) H2 (.cons (rv.kp (nw_r e2)) (RpL.kp (nw_l e1) rs)) (e1.tr e2)⟩
theorem lit_lst {p : Pos} (h : PA X es (tLits K ds)) (z : ds.length ≤ sizeLine) : PE X (.List es p) (tLit K (.list ds)) := pe_imp (pe_lst h) fun _ H _ q vs H1 rs e1 =>
  ⟨by rw [rs.length]; exact z, fun a ha => q (.ref a) _ (.lst (nw_of (e1.non' ha) upd_same) (RpL.kp (nw_r (Ext.up ha)) rs)) (e1.tr (Ext.up ha))⟩
theorem lit_tup {p : Pos} {x1} (h : PA X es (tLits K ds)) (z : ds.length ≤ sizeLine) : PE X (.Tuple es x1 p) (tLit K (.tuple ds)) := pe_imp (pe_tup h) fun _ H _ q vs H1 rs e1 =>
  ⟨by rw [rs.length]; exact z, fun a ha => q (.ref a) _ (.tup (nw_of (e1.non' ha) upd_same) (RpL.kp (nw_r (Ext.up ha)) rs)) (e1.tr (Ext.up ha))⟩
theorem lit_dct {p : Pos} : PE X (.Dict [] [] p) (tLit K (.dict [])) := pe_imp pe_dnewK fun _ H _ q a ha => q (.ref a) _ (.dct (nw_of ha upd_same)) (Ext.up ha)
theorem rpl_app {H : Hp} : ∀ {vs us : List V} {ds es : List PyData}, RpL K H vs ds → RpL K H us es → RpL K H (vs ++ us) (ds ++ es)
  | _, _, _, _, .nil, s => s
  | _, _, _, _, .cons r t, s => .cons r (rpl_app t s)
theorem rpl_rep {H : Hp} {vs : List V} {ds : List PyData} (r : RpL K H vs ds) : ∀ n : Nat, RpL K H (List.replicate n vs).flatten (List.replicate n ds).flatten
  | 0 => .nil
  | n + 1 => by
    rw [List.replicate_succ, List.replicate_succ, List.flatten_cons, List.flatten_cons]
    exact rpl_app r (rpl_rep r n)
theorem lit_rep {k : Int} {j : Nat} {p1 p2 : Pos} (h : PE X e (tLit K (.list ds))) (h1 : -(2 ^ 63) ≤ k) (h2 : k < 2 ^ 63) (z : ds.length * k.toNat ≤ sizeLine) : PE X (.BinOp e .Mult (.Constant (.int k) j p1) p2) (tLit K (.list (List.replicate k.toNat ds).flatten)) :=
  pe_imp (pe_op op_rep h pe_int) fun _ H _ q v H1 rv e1 => by
    cases rv with
    | lst hl rs => exact ⟨_, k, _, rfl, rfl, (nw_some hl).2, h1, h2, by rw [rs.length]; exact z, fun a ha => q (.ref a) _ (.lst (nw_of (e1.non' ha) upd_same) (RpL.kp (nw_r (Ext.up ha)) (rpl_rep rs _))) (e1.tr (Ext.up ha))⟩
end
end Tb

namespace Tb
open PySem PySem.Spec PyProof.Rows L2
variable {K : PySem.W.Frag}
/-! ### what the law writes out -/
abbrev li (ns : List Int) : PyData := .list (ns.map PyData.int)
abbrev rowD' : PyData := .list [li [0, 1, 2], li [1, 1, 2], li [2, 2, 2]]
abbrev diaD : PyData := .list [li [0, 1, 2, 3, 4], li [1, 1, 4, 4, 4], li [2, 4, 2, 4, 4], li [3, 4, 4, 3, 4], .list (List.replicate 5 [PyData.int 4]).flatten]
abbrev odd1 : List PyData := [.none, .bool true, .int 0, .str "", .str "0", .list [], .dict [], .list [.int 0], .list [.list [.int 1]], .list [.list [.int 0, .int 1], .list [.int 1, .int 0]], .list [.list [.int 0, .int 1]], .list [.list [.int 0], .list [.int 1]]]
abbrev odd2 : List PyData := [.list [.list [.bool true]], .list [.list [.int 0, .int 1], .list [.int 1, .bool true]], .list [.list [.int 0, .int 1], .list [.int 1, .none]], .list (List.replicate 9 [li (rng 9)]).flatten]
instance {d : PyData} {n : Nat} : Decidable (JR d n) := by
  unfold JR
  infer_instance
instance {d : PyData} : Decidable (IsT d) := by
  unfold IsT
  infer_instance
instance {d : PyData} : Decidable (Shows d) := by
  unfold Shows
  infer_instance
theorem odd_is : ∀ d ∈ odd1 ++ odd2, ¬ IsT d ∧ Shows d ∧ SeqAt.shaped (toldD (.tb d)) = true := by decide +kernel
theorem bare2_of {d : PyData} {n : Nat} (h : ∀ i, i < n → ∀ j, j < n → leastO d (diffL d n (i : Nat) (j : Nat)) = none → 2 ≤ (bareL d (diffL d n (i : Nat) (j : Nat))).length) : Bare2 d n := by
  intro i j ⟨i0, i1⟩ ⟨j0, j1⟩ e
  have ei : ((i.toNat : Nat) : Int) = i := by omega
  have ej : ((j.toNat : Nat) : Int) = j := by omega
  have := h i.toNat i1 j.toNat j1
  rw [ei, ej] at this
  exact this e
abbrev tup1 (ns : List Int) : PyData := .tuple (ns.map PyData.int)
/-- a table as lists, and as tuples -/
abbrev tabL (rs : List (List Int)) : PyData := .list (rs.map li)
abbrev tabT (rs : List (List Int)) : PyData := .tuple (rs.map tup1)
abbrev rowR : List (List Int) := [[0, 1, 2], [1, 1, 2], [2, 2, 2]]
abbrev diaR : List (List Int) := [[0, 1, 2, 3, 4], [1, 1, 4, 4, 4], [2, 4, 2, 4, 4], [3, 4, 4, 3, 4], [4, 4, 4, 4, 4]]
abbrev oddN (n : Int) : List PyData := [.none, .bool true, .bool false, .int (-1), .int n, .int (10 ^ 20), .str "0", .list [.int 0], .tuple [.int 0]]
structure TabOk (rs : List (List Int)) : Prop where
  good : Good (tabL rs)
  goodT : Good (tabT rs)
  len : 2 ≤ rs.length ∧ rs.length ≤ 8
  odd : ∀ e ∈ oddN rs.length, isBel e (rs.length : Int) = false ∧ Shows e ∧ SeqAt.shaped (toldD (.nu e)) = true
  shows : Shows (tabL rs)
  rowLen : ∀ r ∈ rs, r.length ≤ 8
theorem bel_of {n : Nat} {i : Int} (h : 0 ≤ i) (h2 : i < n) : isBel (.int i) (n : Int) = true := by
  show (decide (0 ≤ i) && decide (i < (n : Int))) = true
  rw [decide_eq_true h, decide_eq_true h2]; rfl
theorem row_ok : TabOk rowR := ⟨⟨by decide +kernel, bare2_of (by decide +kernel)⟩, ⟨by decide +kernel, bare2_of (by decide +kernel)⟩, by decide, by decide +kernel, by decide +kernel, by decide⟩
theorem dia_ok : TabOk diaR := ⟨⟨by decide +kernel, bare2_of (by decide +kernel)⟩, ⟨by decide +kernel, bare2_of (by decide +kernel)⟩, by decide, by decide +kernel, by decide +kernel, by decide⟩
theorem kidsL (rs : List (List Int)) : (kids (tabL rs)).length = rs.length := List.length_map ..
theorem kidsT (rs : List (List Int)) : (kids (tabT rs)).length = rs.length := List.length_map ..
section
variable {X : Cx}
theorem lit_rng {p1 p2 p3 p4 p5 : Pos} {j : Nat} (hh : X.A.handled = none) (g1 : Gl X "list") (m1 : X.mg "list" = none) (g2 : Gl X "range") (m2 : X.mg "range" = none) : PE X (.Call (.Name "list" p1) [.Call (.Name "range" p2) [.Constant (.int 9) j p3] [] p4] [] p5) (tLit K (li (rng 9))) :=
  pe_imp (pe_callTy (cr_listRng hh) g1 m1 bi_list (pa_cons (pe_callTy cr_range1 g2 m2 bi_range (pa_cons pe_int pa_nil)) pa_nil)) fun _ H _ q => ⟨_, rfl, fun p hp => ⟨p, 9, rfl, upd_same, by decide, fun l hl => q (.ref l) _ (.lst (nw_of ((Ext.up hp).non' hl) upd_same) (by
    have : ∀ ns : List Int, RpL K (nw H (upd (upd H p (.rng 0 9)) l (.lst ((rng 9).map V.int)))) (ns.map V.int) (ns.map PyData.int) := fun ns => by
      induction ns with
      | nil => exact .nil
      | cons a r ih => exact .cons (.int a) ih
    exact this _)) ((Ext.up hp).tr (Ext.up hl))⟩⟩
end
end Tb

namespace Tb
open PySem PySem.Spec PyProof.Rows L2
open LamX (CodeO TabS TabB)
variable {K : PySem.W.Frag}
section
variable {P : Program} {w : World} {mg : Str → Option Value} {base : Heap} {k : Nat} {f : Addr} {fd : FuncData} {ps : List Str} {sp : Sp} {Ts : List (Addr × Str)}
theorem fn_hid (F : FnOk P w K mg base CX0 k f fd ps sp) : FnOk P w K mg base CX0 k f fd ps (fun vs H Q _ => ∃ D, Self H D ∧ sp vs (hid H D) (fun v H' => (∀ b ∈ D, H' b = none) → Q v (bak H D H')) E0) := by
  refine ⟨fun vs H Q E ⟨D, S, h⟩ => F.len _ _ _ _ h, fun A outer s H args us vs Q E hr e0 hb r ⟨D, S, h⟩ => ?_⟩
  refine codeAny_mono (F.run A outer s (hid H D) args us vs _ E0 hr (Env0.hid S e0) hb r h) fun r s' q => ?_
  cases r with
  | error e => exact (show False from q).elim
  | ok fl =>
    cases fl with
    | ret u => exact ce_bak S e0 q
    | next => exact q
    | brk => exact q
    | cont => exact q
def spPotT (K : PySem.W.Frag) (Ts : List (Addr × Str)) : Sp := fun vs H Q _ => ∃ (l : Addr) (ns : List Int), vs = [.ref l, .int 0] ∧ SqL K H l (ns.map V.int) ∧ (∀ pr ∈ Ts, TabS H pr.1 pr.2) ∧ ∀ p H', PotAt H' p → Kt Ts H H' → Q (.ref p) H'
def spDrawT (Ts : List (Addr × Str)) : Sp := fun vs H Q _ => ∃ (p : Addr) (n : Int), vs = [.ref p, .int n] ∧ 0 < n ∧ n < 1073741824 ∧ PotAt H p ∧ (∀ pr ∈ Ts, TabS H pr.1 pr.2) ∧
  ∀ (r : Int) H', 0 ≤ r → r < n → Kd p H H' → (∀ pr ∈ Ts, TabS H' pr.1 pr.2) → Q (.int r) H'
theorem self_ts {H : Hp} (h : ∀ pr ∈ Ts, TabS H pr.1 pr.2) : Self H (Ts.map (·.1)) := fun b hb => by
  obtain ⟨p, hp, rfl⟩ := List.mem_map.mp hb
  obtain ⟨ps, e, _⟩ := h p hp
  exact .inr ⟨ps, e⟩
theorem sqL_hid {H : Hp} {D : List Addr} {l : Addr} {xs : List V} (S : Self H D) (h : SqL K H l xs) : SqL K (hid H D) l xs := by
  rcases h with h | h
  · refine .inl ?_
    rcases h with h | ⟨o, h⟩
    · exact .inl (by rw [hid_out (S.ne h (fun _ z => by cases z) fun _ z => by cases z)]; exact h)
    · exact .inr ⟨o, by rw [hid_out (S.ne h (fun _ z => by cases z) fun _ z => by cases z)]; exact h⟩
  · exact .inr h
theorem bo_pot (F : FnOk P w K mg base CX0 k f fd ps (spPot K)) : FnOk P w K mg base CX0 k f fd ps (spPotT K Ts) := by
  refine fn_pre (fn_hid F) fun vs H Q E ⟨l, ns, e, sq, ts, q⟩ => ?_
  have S := self_ts ts
  refine ⟨Ts.map (·.1), S, l, ns, e, sqL_hid S sq, fun p H' hp pa kp nw => ?_⟩
  obtain ⟨x, y, hpe, r⟩ := pa
  have np : p ∉ Ts.map (·.1) := fun z => by
    rw [nw p z] at hpe
    cases hpe
  exact q p _ ⟨x, y, by rw [bak_out np]; exact hpe, r⟩ (kt_bak S (fun p hp => List.mem_map_of_mem hp) kp)
theorem bo_draw (F : FnOk P w K mg base CX0 k f fd ps spDraw) : FnOk P w K mg base CX0 k f fd ps (spDrawT Ts) := by
  refine fn_pre (fn_hid F) fun vs H Q E ⟨p, n, e, n0, n1, pa, ts, q⟩ => ?_
  have S := self_ts ts
  have np : p ∉ Ts.map (·.1) := by
    obtain ⟨x, y, hpe, _⟩ := pa
    exact S.ne hpe (fun _ z => by cases z) fun _ z => by cases z
  have pa' : PotAt (hid H (Ts.map (·.1))) p := by
    obtain ⟨x, y, hpe, r⟩ := pa
    exact ⟨x, y, by rw [hid_out np]; exact hpe, r⟩
  refine ⟨Ts.map (·.1), S, p, n, e, n0, n1, pa', fun r H' r0 r1 _ kd nw => q r _ r0 r1 ?_ fun pr hp => ?_⟩
  · show Kp (del H p) (del (bak H _ H') p)
    have kd' : Kp (del (hid H (Ts.map (·.1))) p) (del H' p) := kd
    refine ⟨fun b o e n => ?_, fun T h => ?_⟩
    · obtain ⟨n1, e1⟩ := del_some e
      rw [del_ne n1]
      by_cases hb : b ∈ Ts.map (·.1)
      · rw [bak_in hb]; exact e1
      · rw [bak_out hb]
        have := kd'.keep b o (by rw [del_ne n1, hid_out hb]; exact e1) n
        exact (del_some this).2
    · obtain ⟨ps, h1, h2⟩ := h
      obtain ⟨n1, e1⟩ := del_some h1
      by_cases hb : T ∈ Ts.map (·.1)
      · exact ⟨ps, by rw [del_ne n1, bak_in hb]; exact e1, h2⟩
      · obtain ⟨qs, e1, e2⟩ := kd'.tab T ⟨ps, by rw [del_ne n1, hid_out hb]; exact e1, h2⟩
        exact ⟨qs, by rw [del_ne n1, bak_out hb]; exact (del_some e1).2, e2⟩
  · obtain ⟨ps, h1, h2, h3⟩ := ts pr hp
    have hb : pr.1 ∈ Ts.map (·.1) := List.mem_map_of_mem hp
    refine ⟨ps, by rw [bak_in hb]; exact h1, h2, fun pos cv hc => ?_⟩
    obtain ⟨c, e1, e2⟩ := h3 pos cv hc
    refine ⟨c, e1, ?_⟩
    have cp : c ≠ p := fun z => by
      obtain ⟨x, y, hpe, _⟩ := pa
      rw [z, hpe] at e2
      have e2' : some (HO.lst _) = some (HO.ext _) := e2
      cases e2'
    by_cases hb2 : c ∈ Ts.map (·.1)
    · rw [bak_in hb2]; exact e2
    · rw [bak_out hb2]
      have kd' : Kp (del (hid H (Ts.map (·.1))) p) (del H' p) := kd
      have := kd'.keep c _ (by rw [del_ne cp, hid_out hb2]; exact e2) fun qs z => LamX.codeO_ne qs z
      exact (del_some this).2
end
end Tb

set_option maxHeartbeats 8000000
namespace Tb
open PySem PySem.Spec PyProof.Rows L2
open LamX (CodeO TabS TabB)
variable {K : PySem.W.Frag}
def rTupOf (K : PySem.W.Frag) : List V → Hp → VK → Prop := fun xs H Q => ∃ p ys, xs = [.ref p] ∧ ((SqL K H p ys ∧ ∀ l, H l = none → Q (.ref l) (upd H l (.tup ys))) ∨ (SqT K H p ys ∧ Q (.ref p) H))
theorem cr_tupOf {X : Cx} (hK : X.K = K) : CallR X (.type "tuple") (rTupOf K) := by
  subst hK
  exact call_tuple_of
theorem rplTT {H : Hp} : ∀ {bs : List (Addr × List Int)}, (∀ q ∈ bs, H q.1 = some (.tup (q.2.map V.int))) → RpL K H (bs.map fun q => V.ref q.1) ((bs.map Prod.snd).map tup1)
  | [], _ => .nil
  | b :: r, h => .cons (.tup (h b List.mem_cons_self) (RpL.ints b.2)) (rplTT fun q hq => h q (List.mem_cons_of_mem _ hq))
theorem rpl_ints : ∀ {H : Hp} {ys : List V} {r : List Int}, RpL K H ys (r.map PyData.int) → ys = r.map V.int
  | _, [], [], _ => rfl
  | _, _ :: _, _ :: _, .cons (.int _) t => by rw [rpl_ints t]; rfl
theorem tabG_kd {p T : Addr} {H H' : Hp} (hp : PotAt H p) (k : Kd p H H') (t : GxR.TabG H T) : GxR.TabG H' T := by
  obtain ⟨ps, h1, h2⟩ := t
  have n : T ≠ p := fun z => hp.ntbl ps (by rw [← z]; exact h1)
  obtain ⟨qs, h3, h4⟩ := Kp.tab (H := del H p) (H' := del H' p) k T ⟨ps, by rw [del_ne n]; exact h1, h2⟩
  exact ⟨qs, del_sub _ _ h3, h4⟩
theorem branch {c : Bool} {ta tb : TE} {σ : L2.St} {H : Hp} {Q : VK} (M : V → Hp → Prop) (h : ∀ x H', M x H' → Q x H') (ha : (∀ x H', M x H' → Q x H') → ta σ H Q) (hb : (∀ x H', M x H' → Q x H') → tb σ H Q) : if c = true then ta σ H Q else tb σ H Q :=
  ite2 (fun _ => ha h) (fun _ => hb h)
section
variable {P : Program} {w : World} {mg : Str → Option Value} {base : Heap} {CT CN : Addr} {Ts : List (Addr × Str)} {Gs : List Addr}
/-- a list of lambdas, each of which leads to out -/
structure Calls (P : Program) (w : World) (K : PySem.W.Frag) (mg : Str → Option Value) (base : Heap) (CT CN : Addr) (Ts : List (Addr × Str)) (Gs : List Addr) (out : Out) (l : Addr) (n : Nat) (H : Hp) : Prop where
  ex : ∃ fs : List Addr, H l = some (.lst (fs.map V.ref)) ∧ fs.length = n ∧ ∀ g ∈ fs, CloP P w K mg base 11 CT CN Ts Gs g out H
theorem Calls.kp {out : Out} {l : Addr} {n : Nat} {H H' : Hp} (c : Calls P w K mg base CT CN Ts Gs out l n H) (k : Kp H H') : Calls P w K mg base CT CN Ts Gs out l n H' := by
  obtain ⟨fs, h1, h2, h3⟩ := c.ex
  exact ⟨fs, k.lst h1, h2, fun g hg => (h3 g hg).kp k⟩
theorem Calls.cat {out : Out} {l m : Addr} {n n' : Nat} {H : Hp} {Q : VK} (a : Calls P w K mg base CT CN Ts Gs out l n H) (b : Calls P w K mg base CT CN Ts Gs out m n' H) (hz : n + n' ≤ 64) (q : ∀ p H', Kt Ts H H' → Calls P w K mg base CT CN Ts Gs out p (n + n') H' → Q (.ref p) H') : rCat (.ref l) (.ref m) H Q := by
  obtain ⟨fs, h1, h2, h3⟩ := a.ex
  obtain ⟨gs, g1, g2, g3⟩ := b.ex
  refine ⟨l, m, _, _, rfl, rfl, h1, g1, by rw [List.length_map, List.length_map, sizeLine_eq]; omega, fun p hp => q p _ (Kt.new hp) ⟨fs ++ gs, by rw [List.map_append]; exact upd_same, by rw [List.length_append, h2, g2], fun g hg => ?_⟩⟩
  have k := (Kt.new (Ts := Ts) (o := .lst (fs.map V.ref ++ gs.map V.ref)) hp).kp
  rcases List.mem_append.mp hg with h | h
  · exact (h3 g h).kp k
  · exact (g3 g h).kp k
theorem spMade.calls {n : Nat} {OK : Out → Prop} {H : Hp} {Q : VK} {out : Out} (ok : OK out) (q : ∀ p H', Kt Ts H H' → Calls P w K mg base CT CN Ts Gs out p n H' → Q (.ref p) H') : spMade P w K mg base CT CN Ts Gs n OK H Q :=
  fun p fs H' _ h1 h2 h3 kt => q p H' kt ⟨fs, h1, h2, fun g hg => h3 g hg out ok⟩
/-- what stands of the tables of code -/
structure Std (K : PySem.W.Frag) (Ts : List (Addr × Str)) (Gs : List Addr) (H : Hp) : Prop where
  ts : ∀ pr ∈ Ts, TabS H pr.1 pr.2
  gs : ∀ T ∈ Gs, GxR.TabG H T
theorem Std.kt {H H' : Hp} (s : Std K Ts Gs H) (k : Kt Ts H H') : Std K Ts Gs H' := ⟨fun pr hp => k.ts pr hp (s.ts pr hp), fun T hT => k.kp.tab T (s.gs T hT)⟩
theorem Kt.ext {H H' : Hp} (e : Ext H H') : Kt Ts H H' := Kt.of e
theorem are_of {out : Out} {l : Addr} {v : V} {n : Nat} {H : Hp} {Q : VK} {E : XK} (c : Calls P w K mg base CT CN Ts Gs out l n H) (hn : n ≤ 64) (hv : Rp K H v (toldD out)) (hs : SeqAt.shaped (toldD out) = true) (sh : ShowO out) (st : Std K Ts Gs H) (q : ∀ H', Kt Ts H H' → Q (.bl true) H') : spAre P w K mg base CT CN Ts Gs [.ref l, v] H Q E := by
  obtain ⟨fs, h1, h2, h3⟩ := c.ex
  exact ⟨l, fs, v, out, rfl, h1, by omega, hv, hs, sh, h3, st.ts, st.gs, q⟩
end
end Tb

set_option maxHeartbeats 16000000
namespace Tb
open PySem PySem.Spec PyProof.Rows L2
open LamX (CodeO TabS TabB)
variable {K : PySem.W.Frag}
section
variable {X : Cx}
theorem lit_row0 {a b c : Int} {j1 j2 j3 : Nat} {p1 p2 p3 p : Pos} : PE X (.List [.Constant (.int a) j1 p1, .Constant (.int b) j2 p2, .Constant (.int c) j3 p3] p) (tLit K (li [a, b, c])) := lit_lst (lits_cons lit_int (lits_cons lit_int (lits_cons lit_int lits_nil))) (by show 3 ≤ sizeLine; decide)
theorem lit_row5 {a b c d e : Int} {j1 j2 j3 j4 j5 : Nat} {p1 p2 p3 p4 p5 p : Pos} : PE X (.List [.Constant (.int a) j1 p1, .Constant (.int b) j2 p2, .Constant (.int c) j3 p3, .Constant (.int d) j4 p4, .Constant (.int e) j5 p5] p) (tLit K (li [a, b, c, d, e])) := lit_lst (lits_cons lit_int (lits_cons lit_int (lits_cons lit_int (lits_cons lit_int (lits_cons lit_int lits_nil))))) (by show 5 ≤ sizeLine; decide)
theorem lit_one {e : Expr} {p : Pos} {d : PyData} (h : PE X e (tLit K d)) (hs : starEach (e :: []) X.env = (false, eval e X.env) :: starEach [] X.env := by rfl) : PE X (.List [e] p) (tLit K (.list [d])) := lit_lst (lits_cons h lits_nil hs) (by show 1 ≤ sizeLine; decide)
theorem lit_two {e1 e2 : Expr} {p : Pos} {d1 d2 : PyData} (h1 : PE X e1 (tLit K d1)) (h2 : PE X e2 (tLit K d2)) (hs : starEach (e1 :: [e2]) X.env = (false, eval e1 X.env) :: starEach [e2] X.env := by rfl) (hs2 : starEach (e2 :: []) X.env = (false, eval e2 X.env) :: starEach [] X.env := by rfl) : PE X (.List [e1, e2] p) (tLit K (.list [d1, d2])) := lit_lst (lits_cons h1 (lits_cons h2 lits_nil hs2) hs) (by show 2 ≤ sizeLine; decide)
theorem lit_neg {i : Int} {j : Nat} {p1 p : Pos} : PE X (.UnaryOp .USub (.Constant (.int i) j p1) p) (tLit K (.int (-i))) := pe_imp (pe_un un_neg pe_int) fun _ H _ q => ⟨i, rfl, q _ H (.int _) Ext.rfl'⟩
theorem lit_pow {p1 p2 p : Pos} {j1 j2 : Nat} : PE X (.BinOp (.Constant (.int 10) j1 p1) .Pow (.Constant (.int 20) j2 p2) p) (tLit K (.int (10 ^ 20))) := pe_imp (pe_op op_pow pe_int pe_int) fun _ H _ q => ⟨10, 20, rfl, rfl, ⟨by decide, by decide, by decide⟩, q (.int (10 ^ 20)) H (.int _) Ext.rfl'⟩
end
section
variable {P : Program} {w : World} {mg : Str → Option Value} {base : Heap} {f : String → Addr} {a CT CN Ta To Tt : Addr} {Ts : List (Addr × Str)} {Gs : List Addr} {fd g1 g2 g3 g4 g5 : FuncData}
def spLr (Ts : List (Addr × Str)) (Gs : List Addr) : Sp := fun vs H Q _ => ∃ (p : Addr), vs = [.ref p] ∧ PotAt H p ∧ (∀ pr ∈ Ts, TabS H pr.1 pr.2) ∧ (∀ T ∈ Gs, GxR.TabG H T) ∧ ∀ H', Q (.bl true) H'
abbrev Nlr : List Str := ["_law_pot_here", "_law_row", "_law_diamond", "_law_table", "_law_odd_ones", "_law_odd", "_law_calls", "_law_told", "_law_shown", "_law_one_here"]
theorem sc_lr : FnScope Nlr ["_law_pot_here"] (defScope s__law_right) := ⟨rfl, rfl, rfl, by decide +kernel, rfl, by decide +kernel, by decide +kernel⟩
theorem ok_lr (T : Tx mg f) (hsys : ∃ o, base.get? sysModules = some o) (ha : (Ta, qlam "_law_alone") ∈ Ts) (ho : (To, qlam "_law_one") ∈ Ts) (ht : (Tt, qlam "_law_two") ∈ Ts) (F : Fun K "_law_right" "_law_right" s__law_right a fd)
    (G1 : FnOk P w K mg base CX0 1 (f "_law_draw") g1 ["_law_pot_here", "_law_sides"] (spDrawT Ts)) (B1 : Binds K g1 ["_law_pot_here", "_law_sides"] []) (k1 : PySem.W.keepIn K (.ref (f "_law_draw")) = true)
    (G2 : FnOk P w K mg base CX0 1 (f "_law_alone") g2 ["_law_table"] (spAlone P w K mg base CT CN Ts Gs Ta)) (B2 : Binds K g2 ["_law_table"] []) (k2 : PySem.W.keepIn K (.ref (f "_law_alone")) = true)
    (G3 : FnOk P w K mg base CX0 1 (f "_law_one") g3 ["_law_table", "_law_number"] (spOne P w K mg base CT CN Ts Gs To)) (B3 : Binds K g3 ["_law_table", "_law_number"] []) (k3 : PySem.W.keepIn K (.ref (f "_law_one")) = true)
    (G4 : FnOk P w K mg base CX0 1 (f "_law_two") g4 ["_law_table", "_law_one_here", "_law_other"] (spTwo P w K mg base CT CN Ts Gs Tt)) (B4 : Binds K g4 ["_law_table", "_law_one_here", "_law_other"] []) (k4 : PySem.W.keepIn K (.ref (f "_law_two")) = true)
    (G5 : FnG P w K mg base 13 (f "_law_are") g5 ["_law_calls", "_law_due"] (spAre P w K mg base CT CN Ts Gs)) (B5 : Binds K g5 ["_law_calls", "_law_due"] []) (k5 : PySem.W.keepIn K (.ref (f "_law_are")) = true) :
    FnG P w K mg base 14 a fd ["_law_pot_here"] (spLr Ts Gs) := by
  refine okG F sc_lr (fun vs H Q E h => ?_) (fun cdv A outer s H vs Q hr hgd h => ?_)
  · obtain ⟨_, rfl, _⟩ := h
    rfl
  obtain ⟨p, rfl, hp, ts, gs, q⟩ := h
  have hu := hr.units
  have hhd := hr.hd
  refine ⟨_, pss_cons (ps_set (i := 1) sc_lr.nd rfl (Or.inl rfl) (lit_lst (K := K) (ds := [li [0, 1, 2], li [1, 1, 2], li [2, 2, 2]]) (lits_cons lit_row0 (lits_cons lit_row0 (lits_cons lit_row0 lits_nil))) (by show 3 ≤ sizeLine; decide)))
    (pss_cons (ps_set (i := 2) sc_lr.nd rfl (Or.inl rfl) (lit_lst (K := K) (ds := [li [0, 1, 2, 3, 4], li [1, 1, 4, 4, 4], li [2, 4, 2, 4, 4], li [3, 4, 4, 3, 4], .list (List.replicate 5 [PyData.int 4]).flatten]) (lits_cons lit_row5 (lits_cons lit_row5 (lits_cons lit_row5 (lits_cons lit_row5 (lits_cons (lit_rep (k := 5) (lit_one lit_int) (by decide) (by decide) (by show 1 * 5 ≤ sizeLine; decide)) lits_nil))))) (by show 5 ≤ sizeLine; decide)))
    (pss_cons (ps_set (i := 3) sc_lr.nd rfl (Or.inl rfl) (pe_ifExp (pt_cmpR op_eq (pe_call G1 (hr.mono (by decide)) rfl (T.fn "_law_draw" (by decide)) k1 B1 .nil pass0 (pa_cons (pv 0) (pa_cons pe_int pa_nil))) pe_int (nomark _)) (pv 1) (pv 2)))
    (pss_cons (ps_set (i := 4) sc_lr.nd rfl (Or.inl rfl) (lit_lst (K := K) (ds := odd1) (lits_cons lit_non (lits_cons lit_bl (lits_cons lit_int (lits_cons lit_str (lits_cons lit_str (lits_cons (lit_lst lits_nil (by show 0 ≤ sizeLine; decide)) (lits_cons lit_dct (lits_cons (lit_one lit_int) (lits_cons (lit_one (lit_one lit_int)) (lits_cons (lit_two (lit_two lit_int lit_int) (lit_two lit_int lit_int)) (lits_cons (lit_one (lit_two lit_int lit_int)) (lits_cons (lit_two (lit_one lit_int) (lit_one lit_int)) lits_nil)))))))))))) (by show 12 ≤ sizeLine; decide)))
    (pss_cons (ps_set (i := 4) sc_lr.nd rfl (Or.inl rfl) (pe_op op_cat (pv 4) (lit_lst (K := K) (ds := odd2) (lits_cons (lit_one (lit_one lit_bl)) (lits_cons (lit_two (lit_two lit_int lit_int) (lit_two lit_int lit_bl)) (lits_cons (lit_two (lit_two lit_int lit_int) (lit_two lit_int lit_non)) (lits_cons (lit_rep (k := 9) (lit_one (lit_rng hhd rfl (T.bl "list" (by decide)) rfl (T.bl "range" (by decide)))) (by decide) (by decide) (by show 1 * 9 ≤ sizeLine; decide)) lits_nil)))) (by show 4 ≤ sizeLine; decide))))
    (pss_cons (ps_for PassesOwn.never rfl (pi_list (pv 4)) (pg_name (i := 5) sc_lr.nd rfl (by first | exact Or.inl rfl | exact Or.inr rfl))
      (pss_cons (ps_set (i := 6) sc_lr.nd rfl (Or.inl rfl) (pe_op op_cat (pe_op op_cat (pe_call G2 (hr.mono (by decide)) rfl (T.fn "_law_alone" (by decide)) k2 B2 .nil pass0 (pa_cons (pv 5) pa_nil)) (pe_call G3 (hr.mono (by decide)) rfl (T.fn "_law_one" (by decide)) k3 B3 .nil pass0 (pa_cons (pv 5) (pa_cons pe_non pa_nil)))) (pe_call G4 (hr.mono (by decide)) rfl (T.fn "_law_two" (by decide)) k4 B4 .nil pass0 (pa_cons (pv 5) (pa_cons pe_non (pa_cons pe_non pa_nil))))))
      (pss_one (ps_if (pt_not (pt_val (pe_callG G5 hr hgd rfl (T.fn "_law_are" (by decide)) k5 B5 (pa_cons (pv 6) (pa_cons (pe_lst (pa_cons pe_str (pa_cons (pe_callB (cr_repr hu hgd hsys) rfl (T.bl "repr" (by decide)) bi_repr (pa_cons (pv 5) pa_nil)) (pa_cons pe_bl pa_nil)))) pa_nil))))) (pss_one (ps_ret pe_bl)) pss_nil))))
    (pss_cons (ps_for PassesOwn.never rfl (pi_list (pe_lst (pa_cons (lit_non (K := K)) (pa_cons (lit_bl (K := K)) (pa_cons (lit_bl (K := K)) (pa_cons (lit_neg (K := K)) (pa_cons (pe_callB (cr_len (K := K) rfl) rfl (T.bl "len" (by decide)) PySem.boot_len (pa_cons (pv 3) pa_nil)) (lits_cons (K := K) (ds := [.str "0", .list [.int 0], .tuple [.int 0]]) lit_pow (lits_cons lit_str (lits_cons (lit_one lit_int) (lits_cons (lit_tup (lits_cons lit_int lits_nil) (by show 1 ≤ sizeLine; decide)) lits_nil)))))))))))
      (pg_name (i := 5) sc_lr.nd rfl (by first | exact Or.inl rfl | exact Or.inr rfl))
      (pss_cons (ps_set (i := 6) sc_lr.nd rfl (Or.inl rfl) (pe_op op_cat (pe_op op_cat (pe_call G3 (hr.mono (by decide)) rfl (T.fn "_law_one" (by decide)) k3 B3 .nil pass0 (pa_cons (pv 3) (pa_cons (pv 5) pa_nil))) (pe_call G4 (hr.mono (by decide)) rfl (T.fn "_law_two" (by decide)) k4 B4 .nil pass0 (pa_cons (pv 3) (pa_cons (pv 5) (pa_cons pe_non pa_nil))))) (pe_call G4 (hr.mono (by decide)) rfl (T.fn "_law_two" (by decide)) k4 B4 .nil pass0 (pa_cons (pv 3) (pa_cons pe_int (pa_cons (pv 5) pa_nil))))))
      (pss_one (ps_if (pt_not (pt_val (pe_callG G5 hr hgd rfl (T.fn "_law_are" (by decide)) k5 B5 (pa_cons (pv 6) (pa_cons (pe_lst (pa_cons pe_str (pa_cons (pe_callB (cr_repr hu hgd hsys) rfl (T.bl "repr" (by decide)) bi_repr (pa_cons (pv 5) pa_nil)) (pa_cons pe_bl pa_nil)))) pa_nil))))) (pss_one (ps_ret pe_bl)) pss_nil))))
    (pss_cons (ps_set (i := 7) sc_lr.nd rfl (Or.inl rfl) (pe_callTy (cr_tupOf (K := K) rfl) rfl (T.bl "tuple" (by decide)) bi_tuple (pa_cons (pe_lc (own := [("_law_one_here", 9)]) (g := gName 9) (tt := tYes) (te := tCB (rTupOf K) (tCons (tVar 9) tNil)) rfl sc_lr.nd (pi_list (pv 3)) (blkOk_by (by change blkC Nlr (defScope s__law_right) _ _ = true; decide +kernel)) (fun _ _ _ _ _ => pg_name (i := 9) sc_lr.nd rfl (Or.inl rfl)) (fun _ _ _ _ _ => pts_nil) (fun _ _ _ _ _ => ?tups)) pa_nil)))
    (pss_cons (ps_set (i := 8) sc_lr.nd rfl (Or.inl rfl) (pe_callB (cr_repr hu hgd hsys) rfl (T.bl "repr" (by decide)) bi_repr (pa_cons (pv 3) pa_nil)))
    (pss_cons (ps_set (i := 6) sc_lr.nd rfl (Or.inl rfl) (pe_op op_cat (pe_op op_cat (pe_call G2 (hr.mono (by decide)) rfl (T.fn "_law_alone" (by decide)) k2 B2 .nil pass0 (pa_cons (pv 7) pa_nil)) (pe_call G3 (hr.mono (by decide)) rfl (T.fn "_law_one" (by decide)) k3 B3 .nil pass0 (pa_cons (pv 7) (pa_cons (pe_op op_sub (pe_callB (cr_len (K := K) rfl) rfl (T.bl "len" (by decide)) PySem.boot_len (pa_cons (pv 3) pa_nil)) pe_int) pa_nil)))) (pe_call G4 (hr.mono (by decide)) rfl (T.fn "_law_two" (by decide)) k4 B4 .nil pass0 (pa_cons (pv 7) (pa_cons pe_int (pa_cons pe_int pa_nil))))))
    (pss_one (ps_ret (pe_and (pe_callG G5 hr hgd rfl (T.fn "_law_are" (by decide)) k5 B5 (pa_cons (pe_op op_cat (pv 6) (pe_call G2 (hr.mono (by decide)) rfl (T.fn "_law_alone" (by decide)) k2 B2 .nil pass0 (pa_cons (pv 3) pa_nil))) (pa_cons (pe_lst (pa_cons pe_str pa_nil)) pa_nil)))
        (pe_one (pe_cmpR op_eq (pe_callB (cr_repr hu hgd hsys) rfl (T.bl "repr" (by decide)) bi_repr (pa_cons (pv 3) pa_nil)) (pv 8) (nomark _))))))))))))))), ?_⟩
  case tups => exact pe_callTy (cr_tupOf (K := K) rfl) rfl (T.bl "tuple" (by decide)) bi_tuple (pa_cons (pv 9) pa_nil)
  refine fun v1 H1 rv1 e1 v2 H2 rv2 e2 => ?_
  have e12 := e1.tr e2
  have hp2 : PotAt H2 p := hp.kp (Kp.of e12)
  have hpn : H p ≠ none := hp.nn
  have hpn1 : H1 p ≠ none := (hp.kp (Kp.of e1)).nn
  refine ⟨_, rfl, p, 2, rfl, by decide, by decide, hp2, fun pr h => (ts pr h).ext e12, fun r H3 r0 r1 kd ts3 => ⟨rfl, _, rfl, ?_⟩⟩
  have st3 : Std K Ts Gs H3 := ⟨ts3, fun T hT => tabG_kd hp2 kd ((Kp.of e12).tab T (gs T hT))⟩
  have rr : Rp K H3 v1 (tabL rowR) := ((((rv1.kp (nw_r e2)).kp (nw_del hpn)).kp kd).kp (Kp.of del_sub))
  have rd : Rp K H3 v2 (tabL diaR) := (((rv2.kp (nw_del hpn1)).kp kd).kp (Kp.of del_sub))
  clear rv1 rv2 kd hp2 hpn hpn1 e12 ts3
  refine branch (M := fun x H' => H' = H3 ∧ ∃ rs, TabOk rs ∧ Rp K H3 x (tabL rs)) ?_ (fun g => ⟨_, rfl, g _ _ ⟨rfl, rowR, row_ok, rr⟩⟩) (fun g => ⟨_, rfl, g _ _ ⟨rfl, diaR, dia_ok, rd⟩⟩)
  rintro x H3' ⟨rfl, rs, ok, rx⟩
  clear rr rd
  refine fun v4 H4 rv4 e4 => ⟨_, rfl, fun v5 H5 rv5 e5 => ?_⟩
  obtain ⟨l4, xs4, rfl, h4, r4⟩ : ∃ l4 xs4, v4 = .ref l4 ∧ H5 l4 = some (.lst xs4) ∧ RpL K H5 xs4 odd1 := by
    cases rv4 with
    | lst h r => exact ⟨_, _, rfl, e5 _ _ (nw_some h).2, RpL.kp (Kp.of e5) (RpL.kp nw_all r)⟩
  obtain ⟨l5, xs5, rfl, h5, r5⟩ : ∃ l5 xs5, v5 = .ref l5 ∧ H5 l5 = some (.lst xs5) ∧ RpL K H5 xs5 odd2 := by
    cases rv5 with
    | lst h r => exact ⟨_, _, rfl, (nw_some h).2, RpL.kp nw_all r⟩
  have z4 : xs4.length = 12 := r4.length
  have z5 : xs5.length = 4 := r5.length
  refine ⟨_, _, _, _, rfl, rfl, h4, h5, by rw [sizeLine_eq]; omega, fun l hl => ?_⟩
  have k6 : Kt Ts H3' (upd H5 l (.lst (xs4 ++ xs5))) := (Kt.ext (e4.tr e5)).trans (Kt.new hl)
  have h6 : upd H5 l (.lst (xs4 ++ xs5)) l = some (.lst (xs4 ++ xs5)) := upd_same
  have r6 : RpL K (upd H5 l (.lst (xs4 ++ xs5))) (xs4 ++ xs5) (odd1 ++ odd2) := RpL.kp (Kp.new hl) (RpL.app r4 r5)
  have st6 := st3.kt k6
  have rx6 := rx.kp k6.kp
  generalize upd H5 l (.lst (xs4 ++ xs5)) = H6 at k6 h6 r6 st6 rx6
  generalize xs4 ++ xs5 = xs at h6 r6
  refine ⟨_, rfl, l, rfl, ⟨_, .inl (.inl h6)⟩, ?_⟩
  refine for_list (xs := xs) (fun i σ H' => Kt Ts H6 H' ∧ ∃ o5 o6, σ = [some (.ref p), some v1, some v2, some x, some (.ref l), o5, o6, none, none, none]) ⟨Kt.refl _ _, none, none, rfl⟩ (fun i σ H' _ v => .inl (.inl (v.1.kp.lst h6))) ?_ ?_
  · rintro i v σ H7 hv ⟨k7, o5, o6, rfl⟩
    obtain ⟨d, hd, rv⟩ := RpL.get r6 hv
    obtain ⟨no, sh, sp⟩ := odd_is d (List.mem_of_getElem? hd)
    have rv7 := rv.kp k7.kp
    have st7 := st6.kt k7
    refine ⟨_, rfl, v, d, rfl, rv7, st7.ts _ ha, spMade.calls (out := .tb d) ⟨rfl, no⟩ fun pa H8 k8 ca => ?_⟩
    have rv8 := rv7.kp k8.kp
    have st8 := st7.kt k8
    refine ⟨_, rfl, v, .non, d, .none, rfl, rv8, .non, st8.ts _ ho, spMade.calls (out := .tb d) ⟨rfl, no⟩ fun pb H9 k9 cb => ?_⟩
    refine (ca.kp k9.kp).cat cb (by decide) fun pc H10 k10 cc => ?_
    have k910 := k9.trans k10
    have rv10 := rv8.kp k910.kp
    have st10 := st8.kt k910
    refine ⟨_, rfl, v, .non, .non, d, .none, .none, rfl, rv10, .non, .non, st10.ts _ ht, spMade.calls (out := .tb d) ⟨rfl, no⟩ fun pd H11 k11 cd => ?_⟩
    refine (cc.kp k11.kp).cat cd (by decide) fun pe H12 k12 ce => ?_
    have k1112 := k11.trans k12
    have rv12 := rv10.kp k1112.kp
    have st12 := st10.kt k1112
    refine ⟨_, rfl, _, rfl, v, d, rfl, rv12, sh.1, sh.2.1, sh.2.2, ⟨by show 3 ≤ sizeLine; decide, fun pz hz => ?_⟩⟩
    have kz : Kt Ts H12 (upd H12 pz (.lst [.str "table", .str d.shown, .bl true])) := Kt.new hz
    dsimp only [tNil]
    refine are_of (out := .tb d) (ce.kp kz.kp) (by decide) (.lst upd_same (.cons (.str _) (.cons (.str _) (.cons (.bl true) .nil)))) sp sh (st12.kt kz) fun H14 k14 => ?_
    exact ⟨_, rfl, ((((k7.trans k8).trans k910).trans k1112).trans kz).trans k14, _, _, rfl⟩
  rintro σ H7 ⟨k7, o5, o6, rfl⟩
  have st7 := st6.kt k7
  have rx7 := rx6.kp k7.kp
  clear k7 st6 rx6 r6 h6 k6 hl h4 h5 r4 r5 rv4 rv5 e4 e5
  have hk := kidsL rs
  have hkT := kidsT rs
  obtain ⟨n2, n8⟩ := ok.len
  refine fun u1 G1 ru1 f1 u2 G2 ru2 f2 u3 G3 ru3 f3 u4 G4 ru4 f4 => ?_
  have f14 := ((f1.tr f2).tr f3).tr f4
  have rx4 := rx7.kp (Kp.of f14)
  obtain ⟨t, ys, ex, sq, ly⟩ := (tbl_of rx4 ok.good.1).len
  have yn : ys.length = rs.length := by rw [ly, hk]
  refine ⟨_, rfl, t, ys, by rw [ex], sq, fun us G5 rus f5 => ⟨?_, fun l2 hl2 => ?_⟩⟩
  · have := rus.length
    show us.length + 1 + 1 + 1 + 1 + 1 ≤ sizeLine
    rw [this, sizeLine_eq]
    decide
  have kg : Kt Ts H7 (upd G5 l2 (.lst (u1 :: u2 :: u3 :: u4 :: V.int ys.length :: us))) := (Kt.ext (f14.tr f5)).trans (Kt.new hl2)
  have h6 : upd G5 l2 (.lst (u1 :: u2 :: u3 :: u4 :: V.int ys.length :: us)) l2 = some (.lst (u1 :: u2 :: u3 :: u4 :: V.int ys.length :: us)) := upd_same
  have r6 : RpL K (upd G5 l2 (.lst (u1 :: u2 :: u3 :: u4 :: V.int ys.length :: us))) (u1 :: u2 :: u3 :: u4 :: V.int ys.length :: us) (oddN (rs.length : Int)) := by
    have kn : Kp G5 (upd G5 l2 (.lst (u1 :: u2 :: u3 :: u4 :: V.int ys.length :: us))) := Kp.new hl2
    refine .cons ((ru1.kp nw_all).kp ((Kp.of (((f2.tr f3).tr f4).tr f5)).trans kn)) (.cons ((ru2.kp nw_all).kp ((Kp.of ((f3.tr f4).tr f5)).trans kn)) (.cons ((ru3.kp nw_all).kp ((Kp.of (f4.tr f5)).trans kn)) (.cons ((ru4.kp nw_all).kp ((Kp.of f5).trans kn)) (.cons ?_ (RpL.kp kn (RpL.kp nw_all rus))))))
    rw [yn]
    exact .int _
  have st6 := st7.kt kg
  have rx6 := rx7.kp kg.kp
  generalize upd G5 l2 (.lst (u1 :: u2 :: u3 :: u4 :: V.int ys.length :: us)) = H8 at kg h6 r6 st6 rx6
  generalize u1 :: u2 :: u3 :: u4 :: V.int ys.length :: us = xs' at h6 r6
  clear rus ru1 ru2 ru3 ru4 f1 f2 f3 f4 f14 f5 rx4 sq hl2 st7 rx7 kg
  refine ⟨l2, rfl, ⟨_, .inl (.inl h6)⟩, ?_⟩
  refine for_list (xs := xs') (fun i σ H' => Kt Ts H8 H' ∧ ∃ o5 o6, σ = [some (.ref p), some v1, some v2, some x, some (.ref l), o5, o6, none, none, none]) ⟨Kt.refl _ _, o5, o6, rfl⟩ (fun i σ H' _ v => .inl (.inl (v.1.kp.lst h6))) ?_ ?_
  · rintro i v σ H7' hv ⟨k7, o5', o6', rfl⟩
    obtain ⟨e, he, rv⟩ := RpL.get r6 hv
    obtain ⟨bel, sh, sp⟩ := ok.odd e (List.mem_of_getElem? he)
    have belK : isBel e ((kids (tabL rs)).length : Int) = false := by rw [hk]; exact bel
    have bel1 : isBel (.int 1) ((kids (tabL rs)).length : Int) = true := by rw [hk]; exact bel_of (by decide) (by omega)
    have rv7 := rv.kp k7.kp
    have rx7 := rx6.kp k7.kp
    have st7 := st6.kt k7
    refine ⟨_, rfl, _, rfl, x, v, tabL rs, e, rfl, rx7, rv7, st7.ts _ ho, spMade.calls (out := .nu e) ⟨rfl, ok.good.1, belK⟩ fun pa H8 k8 ca => ?_⟩
    have rv8 := rv7.kp k8.kp
    have rx8 := rx7.kp k8.kp
    have st8 := st7.kt k8
    refine ⟨_, rfl, _, rfl, x, v, .non, tabL rs, e, .none, rfl, rx8, rv8, .non, st8.ts _ ht, spMade.calls (out := .nu e) ⟨ok.good.1, .inl ⟨rfl, belK⟩⟩ fun pb H9 k9 cb => ?_⟩
    refine (ca.kp k9.kp).cat cb (by decide) fun pc H10 k10 cc => ?_
    have k910 := k9.trans k10
    have rv10 := rv8.kp k910.kp
    have rx10 := rx8.kp k910.kp
    have st10 := st8.kt k910
    refine ⟨_, rfl, _, rfl, x, .int 1, v, tabL rs, .int 1, e, rfl, rx10, .int 1, rv10, st10.ts _ ht, spMade.calls (out := .nu e) ⟨ok.good.1, .inr ⟨rfl, bel1, belK⟩⟩ fun pd H11 k11 cd => ?_⟩
    refine (cc.kp k11.kp).cat cd (by decide) fun pe H12 k12 ce => ?_
    have k1112 := k11.trans k12
    have rv12 := rv10.kp k1112.kp
    have st12 := st10.kt k1112
    refine ⟨_, rfl, _, rfl, v, e, rfl, rv12, sh.1, sh.2.1, sh.2.2, ⟨by show 3 ≤ sizeLine; decide, fun pz hz => ?_⟩⟩
    have kz : Kt Ts H12 (upd H12 pz (.lst [.str "number", .str e.shown, .bl true])) := Kt.new hz
    dsimp only [tNil]
    refine are_of (out := .nu e) (ce.kp kz.kp) (by decide) (.lst upd_same (.cons (.str _) (.cons (.str _) (.cons (.bl true) .nil)))) sp sh (st12.kt kz) fun H14 k14 => ?_
    exact ⟨_, rfl, ((((k7.trans k8).trans k910).trans k1112).trans kz).trans k14, _, _, rfl⟩
  rintro σ H9 ⟨k9, o5', o6', rfl⟩
  have st9 := st6.kt k9
  have rx9 := rx6.kp k9.kp
  clear k9 st6 rx6 r6 h6
  obtain ⟨xl, hxl, rxl⟩ : ∃ xl, H9 t = some (.lst xl) ∧ RpL K H9 xl (rs.map li) := by
    have := rx9
    rw [ex] at this
    cases this with
    | lst h r => exact ⟨_, h, r⟩
  have lxl : xl.length = rs.length := by rw [rxl.length, List.length_map]
  refine ⟨_, rfl, t, ex, ⟨_, .inl (.inl hxl)⟩, fun D hD => ?_⟩
  refine lc_list (xs := xl) (fun i H' => Kt Ts H9 H' ∧ ∃ bs : List (Addr × List Int), H' D = some (.lst (bs.map fun q => V.ref q.1)) ∧ bs.map Prod.snd = rs.take i ∧ ∀ q ∈ bs, q.1 ≠ D ∧ H' q.1 = some (.tup (q.2.map V.int)))
    ⟨Kt.new hD, [], upd_same, rfl, fun q hq => by cases hq⟩ (fun i H' _ v => .inl (.inl (v.1.kp.lst hxl))) ?_ ?_
  · rintro i v H5 hv ⟨k5, bs, hbs, sb, hb⟩
    have hi := (List.getElem?_eq_some_iff.mp hv).1
    obtain ⟨d, hd, rv⟩ := RpL.get rxl hv
    rw [List.getElem?_map] at hd
    obtain ⟨row, hrow, rfl⟩ := Option.map_eq_some_iff.mp hd
    have ⟨b, zs, ev, hb', ry⟩ : ∃ b zs, v = .ref b ∧ H9 b = some (.lst zs) ∧ RpL K H9 zs (row.map PyData.int) := by
      cases rv with
      | lst h r => exact ⟨_, _, rfl, h, r⟩
    subst ev
    have ey := rpl_ints ry
    subst ey
    have lbs : bs.length = min i rs.length := by rw [← List.length_map (f := Prod.snd), sb, List.length_take]
    refine ⟨rfl, _, rfl, b, _, rfl, .inl ⟨.inl (.inl (k5.kp.lst hb')), fun z hz => ?_⟩⟩
    have kz := Kp.new (o := .tup (row.map V.int)) hz
    have nzD : z ≠ D := fun e => by rw [e, hbs] at hz; cases hz
    have kzt : Kt Ts H9 (upd H5 z (.tup (row.map V.int))) := k5.trans (Kt.new hz)
    have hD5 : upd H5 z (.tup (row.map V.int)) D = some (.lst (bs.map fun q => V.ref q.1)) := kz.lst hbs
    refine ⟨_, hD5, by rw [sizeLine_eq, List.length_map]; omega, ⟨kzt.kp.over hD, fun pr hp' t' => ?_⟩, bs ++ [(z, row)], by rw [List.map_append]; exact upd_same, by rw [List.map_append, sb, List.take_add_one, hrow]; rfl, fun q hq => ?_⟩
    · refine tabS_keep (kzt.ts pr hp' t') fun b o n e => ?_
      rw [upd_ne fun y => by
        rw [y, hD5] at e
        exact n _ (Option.some.inj e).symm]
      exact e
    rcases List.mem_append.mp hq with h | h
    · exact ⟨(hb q h).1, by rw [upd_ne (hb q h).1]; exact kz.tup (hb q h).2⟩
    · rw [List.mem_singleton.mp h]
      exact ⟨nzD, by rw [upd_ne nzD]; exact upd_same⟩
  rintro H10 ⟨k10, bs, hbs, sb, hb⟩
  refine ⟨D, _, rfl, .inl ⟨.inl (.inl hbs), fun z hz => ?_⟩⟩
  have kz : Kt Ts H10 (upd H10 z (.tup (bs.map fun q => V.ref q.1))) := Kt.new hz
  have eb : bs.map Prod.snd = rs := by rw [sb, lxl, List.take_length]
  have rT : Rp K (upd H10 z (.tup (bs.map fun q => V.ref q.1))) (.ref z) (tabT rs) := by
    show Rp K _ (.ref z) (.tuple (rs.map tup1))
    rw [← eb]
    exact .tup upd_same (rplTT fun q hq => kz.kp.tup (hb q hq).2)
  have st11 := (st9.kt k10).kt kz
  have rx11 := (rx9.kp k10.kp).kp kz.kp
  generalize upd H10 z (.tup (bs.map fun q => V.ref q.1)) = H11 at kz rT st11 rx11
  clear k10 kz hbs sb hb eb hD hxl rxl rx9 st9 hz
  obtain ⟨sw1, sw2, sw3⟩ := ok.shows
  refine ⟨_, rfl, x, tabL rs, rfl, rx11, sw1, sw2, sw3, ?_⟩
  -- the calls that are let
  refine ⟨_, rfl, .ref z, tabT rs, rfl, rT, st11.ts _ ha, spMade.calls (out := .fine) ok.goodT fun pa H12 k12 ca => ?_⟩
  have rT12 := rT.kp k12.kp
  have rx12 := rx11.kp k12.kp
  have st12 := st11.kt k12
  obtain ⟨t2, ys2, ex2, sq2, ly2⟩ := (tbl_of rx12 ok.good.1).len
  have yn2 : ys2.length = rs.length := by rw [ly2, hk]
  refine ⟨_, rfl, _, rfl, t2, ys2, by rw [ex2], sq2, _, _, rfl, rfl, ?_⟩
  dsimp only [tNil]
  refine ⟨.ref z, .int ((ys2.length : Int) - 1), tabT rs, .int ((ys2.length : Int) - 1), rfl, rT12, .int _, st12.ts _ ho, spMade.calls (out := .fine) ⟨ok.goodT, by rw [hkT, yn2]; exact bel_of (by omega) (by omega)⟩ fun pb H13 k13 cb => ?_⟩
  refine (ca.kp k13.kp).cat cb (by decide) fun pc H14 k14 cc => ?_
  have k1314 := k13.trans k14
  refine ⟨_, rfl, .ref z, .int 0, .int 1, tabT rs, .int 0, .int 1, rfl, rT12.kp k1314.kp, .int _, .int _, (st12.kt k1314).ts _ ht, spMade.calls (out := .fine) ⟨ok.goodT, by rw [hkT]; exact bel_of (by decide) (by omega), by rw [hkT]; exact bel_of (by decide) (by omega)⟩ fun pd H15 k15 cd => ?_⟩
  refine (cc.kp k15.kp).cat cd (by decide) fun pe H16 k16 ce => ?_
  have k16' := (k1314.trans k15).trans k16
  refine ⟨_, rfl, _, rfl, x, tabL rs, rfl, rx12.kp k16'.kp, (st12.kt k16').ts _ ha, spMade.calls (out := .fine) ok.good fun pf H17 k17 cf => ?_⟩
  refine (ce.kp k17.kp).cat cf (by decide) fun pg H18 k18 cg => ?_
  refine ⟨by show 1 ≤ sizeLine; decide, fun pz hz => ?_⟩
  have kz : Kt Ts H18 (upd H18 pz (.lst [.str "let"])) := Kt.new hz
  have kA := ((k16'.trans k17).trans k18).trans kz
  dsimp only [tNil]
  refine are_of (out := .fine) (cg.kp kz.kp) (by decide) (.lst upd_same (.cons (.str _) .nil)) (by decide +kernel) trivial (st12.kt kA) fun H20 k20 => ?_
  refine ⟨true, rfl, ?_⟩
  refine ⟨_, rfl, x, tabL rs, rfl, rx12.kp (kA.trans k20).kp, sw1, sw2, sw3, _, rfl, rfl, ?_⟩
  rw [decide_eq_true rfl]
  exact q _
end
end Tb

namespace Tb
open PySem PySem.Spec PyProof.Rows L2
open LamX (CodeO TabS)
variable {K : PySem.W.Frag}
section
variable {P : Program} {w : World} {mg : Str → Option Value} {base : Heap} {f : String → Addr} {a : Addr} {Ts : List (Addr × Str)} {Gs : List Addr} {fd g1 g2 : FuncData}
def spLaw (K : PySem.W.Frag) (Ts : List (Addr × Str)) (Gs : List Addr) : Sp := fun vs H Q _ => ∃ (l : Addr) (ns : List Int), vs = [.ref l] ∧ SqL K H l (ns.map V.int) ∧ (∀ pr ∈ Ts, TabS H pr.1 pr.2) ∧ (∀ T ∈ Gs, GxR.TabG H T) ∧ ∀ H', Q (.bl true) H'
theorem sc_law : FnScope ["_law_script"] ["_law_script"] (defScope s_law) := ⟨rfl, rfl, rfl, by decide +kernel, rfl, by decide +kernel, by decide +kernel⟩
theorem ok_law (T : Tx mg f) (F : Fun K "law" "law" s_law a fd) (G1 : FnOk P w K mg base CX0 1 (f "_law_pot") g1 ["_law_script", "_law_k"] (spPotT K Ts)) (B1 : Binds K g1 ["_law_script", "_law_k"] []) (k1 : PySem.W.keepIn K (.ref (f "_law_pot")) = true)
    (G2 : FnG P w K mg base 14 (f "_law_right") g2 ["_law_pot_here"] (spLr Ts Gs)) (B2 : Binds K g2 ["_law_pot_here"] []) (k2 : PySem.W.keepIn K (.ref (f "_law_right")) = true) : FnG P w K mg base 15 a fd ["_law_script"] (spLaw K Ts Gs) := by
  refine okG F sc_law (fun vs H Q E h => ?_) (fun cdv A outer s H vs Q hr hgd h => ?_)
  · obtain ⟨_, _, rfl, _⟩ := h
    rfl
  obtain ⟨l, ns, rfl, hl, ts, gs, q⟩ := h
  refine ⟨_, pss_one (ps_ret (Tb.pe_callG G2 hr hgd rfl (T.fn "_law_right" (by decide)) k2 B2 (pa_cons (pe_call G1 (hr.mono (by decide)) rfl (T.fn "_law_pot" (by decide)) k1 B1 .nil pass0 (pa_cons (pv 0) (pa_cons pe_int pa_nil))) pa_nil))), ?_⟩
  exact ⟨_, rfl, l, ns, rfl, hl, ts, fun p H' pot k => ⟨p, rfl, pot, fun pr hp => k.ts pr hp (ts pr hp), fun T hT => k.kp.tab T (gs T hT), q⟩⟩
end
theorem tabs3 {a o t : Addr} {Gs : List Addr} {x y z : Str} (nd : (a :: o :: t :: Gs).Nodup) : (∀ pr ∈ ([(a, x), (o, y), (t, z)] : List (Addr × Str)), pr.1 = a → pr.2 = x) ∧ (∀ pr ∈ ([(a, x), (o, y), (t, z)] : List (Addr × Str)), pr.1 = o → pr.2 = y) ∧
    (∀ pr ∈ ([(a, x), (o, y), (t, z)] : List (Addr × Str)), pr.1 = t → pr.2 = z) ∧ ∀ T ∈ Gs, ∀ p ∈ ([(a, x), (o, y), (t, z)] : List (Addr × Str)), T ≠ p.1 := by
  simp only [List.nodup_cons, List.mem_cons, not_or] at nd
  obtain ⟨⟨n1, n2, n3⟩, ⟨n4, n5⟩, n6, _⟩ := nd
  refine ⟨fun pr hp e => ?_, fun pr hp e => ?_, fun pr hp e => ?_, fun T hT pr hp e => ?_⟩
  all_goals
    simp only [List.mem_cons, List.not_mem_nil, or_false] at hp
    rcases hp with rfl | rfl | rfl
  · rfl
  · exact absurd e.symm n1
  · exact absurd e.symm n2
  · exact absurd e n1
  · rfl
  · exact absurd e.symm n4
  · exact absurd e n2
  · exact absurd e n4
  · rfl
  · exact n3 (show a ∈ Gs from (show T = a from e) ▸ hT)
  · exact n5 (show o ∈ Gs from (show T = o from e) ▸ hT)
  · exact n6 (show t ∈ Gs from (show T = t from e) ▸ hT)
end Tb
namespace PySem
namespace LowX
open PySem.W PySem.Calls PyProof.Rows PySem.HandSPX
/-- a class of errors, by its rows -/
theorem low_mk {K : PySem.W.Frag} {h : Heap} {mg : Str → Option Value} {cn qn nm q : Str} {C fI N : Addr} {bs bm sub : List Value} {sn : List Str} {ab : Bool} {col : Option Bool} {dd od an : Option Addr} {m0 m1 m2 m3 m5 : Option Value} {oc doc pm cd ct : Value} {sl : Array (Option Value)} {p1 p2 q1 q2 q3 q4 : Pos}
    (X : K.In h) (G : h.Ns mainGlobals mg) (dbg : (cn == ("__debug__" : Str)) = false) (aC : PySem.W.nsIn K mainGlobals cn = some (some (.ref C)))
    (xL : K.lookup C = some (excClassObj nm q C N bs bm true sn sub ab col dd m0 m1 m2 m3 m5 "ValueError.__new__")) (ve : refsVE bm = true)
    (sa : PySem.W.findIn K (.ref C) "__setattr__" = some (some (.builtin "object.__setattr__"))) (ga : PySem.W.findIn K (.ref C) "__getattribute__" = some (some (.builtin "BaseException.__getattribute__"))) (gg : PySem.W.findIn K (.ref C) "__getattr__" = some none) (nb : PySem.W.findIn K (.ref C) "value" = some none)
    (iC : PySem.W.findIn K (.ref C) "__init__" = some (some (.ref fI))) (tI : PySem.W.typeIn K (.ref fI) = some (.type "function"))
    (lI : K.lookup fI = some ⟨oc, od, .func (PySem.W.fnOf "__init__" qn (PySem.LowX.iA p1 p2) (PySem.LowX.iB q1 q2 q3 q4) PySem.LowX.iS .none .none doc pm an cd ct), sl⟩) (cI : PySem.W.codeIn K cd qn = true)
    (kC : PySem.W.keepIn K (.ref C) = true) (eC : PySem.W.subIn K (.ref C) (.type "BaseException") = some true) (tC : PySem.W.typeIn K (.ref C) = some (.type "type")) (hC : PySem.W.hasDictIn K C = true) (te : PySem.W.exmOne K (.ref C) (.ref C) = some true) : PySem.LowX.LowTxt K mg cn qn C fI :=
  { gC := PySem.W.mg_of X G aC, dbg := dbg, cls := ⟨nm, q, N, bs, bm, sn, sub, ab, col, dd, m0, m1, m2, m3, m5, xL, ve⟩, sa := sa, ga := ga, gg := gg, noN := nb, iC := iC, tC := tI, kC := kC, exC := eC, tyC := tC, hdC := hC, te := te,
    fn := ⟨_, _, _, _, _, _, _, _, _, _, _, _, _, _, lI, cI⟩ }
end LowX
end PySem

namespace Tb
open PySem PySem.Spec PyProof.Rows L2
/-! ### the end: the law's def is called, nothing tracked but its script and two tables -/
section
variable {K : PySem.W.Frag} {tb : List Addr} {a : Addr} {ob : Obj} {xs : List V}
open Classical in
/-- what is tracked at the start -/
noncomputable def st0 (K : PySem.W.Frag) (tb : List Addr) (a : Addr) (ob : Obj) (xs : List V) : Hp := fun b => if b ∈ tb then some (.tbl #[]) else if b = a ∧ K.lookup a = none then some (.frz ob (.lst xs)) else none
theorem st0_tab {b : Addr} (h : b ∈ tb) : st0 K tb a ob xs b = some (.tbl #[]) := if_pos h
theorem st0_by {b : Addr} {u : HO} (h : st0 K tb a ob xs b = some u) : (b ∈ tb ∧ u = .tbl #[]) ∨ (b = a ∧ K.lookup a = none ∧ u = .frz ob (.lst xs)) := by
  unfold st0 at h
  split at h
  · exact .inl ⟨by assumption, (Option.some.inj h).symm⟩
  · split at h
    · rename_i z
      exact .inr ⟨z.1, z.2, (Option.some.inj h).symm⟩
    · cases h
theorem st0_un {b : Addr} (h : st0 K tb a ob xs b = none) : b ∉ tb ∧ ¬ (b = a ∧ K.lookup a = none) := by
  unfold st0 at h
  split at h
  · cases h
  · split at h
    · cases h
    · exact ⟨by assumption, by assumption⟩
theorem un_of {b : Addr} (h : ∀ u, st0 K tb a ob xs b ≠ some u) : st0 K tb a ob xs b = none := by
  cases q : st0 K tb a ob xs b with
  | none => rfl
  | some u => exact absurd q (h u)
end
section
variable {P : Program} {w : World} {K : PySem.W.Frag} {mg mb : Str → Option Value} {k : Nat} {fa a : Addr} {cs : List (Addr × Addr)} {fd : FuncData} {x : Str} {sp : Sp} {s : Shared} {us : List Value} {ns : List Int}
theorem law_end (X : K.In s.heap) (gl : s.heap.Ns mainGlobals mg) (bl : s.heap.Ns builtinsNs mb) (blb : ∀ y : Str, y ≠ "__name__" → mb y = bootBuiltins y) (nl : s.heap.NoLimit) (ge : s.gens = #[]) (sm : ∃ mm, s.heap.Ns sysModules mm)
    (tT : ∀ q ∈ cs, s.heap.get? q.2 = some { cls := .none, data := .fields #[] }) (tK : ∀ q ∈ cs, K.lookup q.2 = none) (tC : ∀ q ∈ cs, PySem.W.CodeHd s.heap q.1 q.2)
    (bm : ∃ (m : Addr) (o : Obj), mg "__builtins__" = some (.ref m) ∧ m ≠ builtinsNs ∧ s.heap.get? m = some o ∧ o.cls = .type "module" ∧ o.dict = some builtinsNs ∧ o.data = .plain)
    (oa : s.heap.get? a = some { cls := .type "list", data := .seq us.toArray }) (ia : IntsAre us ns) (la : ns.length ≤ sizeLine) (rm : Room k callerA) (gd : callerA.guards = some [])
    (F : ∀ base : Heap, K.In base → base.Ns mainGlobals mg → (∃ o, base.get? sysModules = some o) → (∀ q ∈ cs, GxR.TabB base mg q.1 q.2) → FnG P w K mg base k fa fd [x] sp) (bd : ∀ (s : Shared) (u : Value), BindsTo s fd ⟨[u], []⟩ [(x, u)])
    (asks : ∀ H : Hp, (∀ q ∈ cs, H q.2 = some (.tbl #[])) → SqL K H a (ns.map V.int) → sp [.ref a] H (fun v _ => v = .bl true) E0) :
    codeAny (model P w) callerA (.call (.ref fa) ⟨[.ref a], []⟩) (fun r s' => r = .ok (.ret (.bool true)) ∧ OldK s.heap s'.heap ∧ s'.os = s.os ∧ AllBare s'.gens) s := by
  have tabs : ∀ b ∈ cs.map Prod.snd, s.heap.get? b = some { cls := .none, data := .fields #[] } := fun b hb => by
    obtain ⟨q, hq, rfl⟩ := List.mem_map.mp hb
    exact tT q hq
  have inT : ∀ q ∈ cs, q.2 ∈ cs.map Prod.snd := fun q hq => List.mem_map_of_mem hq
  generalize hG : st0 K (cs.map Prod.snd) a { cls := .type "list", data := .seq us.toArray } (ns.map V.int) = G
  have Gby : ∀ {b : Addr} {u : HO}, G b = some u → (b ∈ cs.map Prod.snd ∧ u = .tbl #[]) ∨ (b = a ∧ K.lookup a = none ∧ u = .frz { cls := .type "list", data := .seq us.toArray } (.lst (ns.map V.int))) := fun {b u} e => by
    rw [← hG] at e
    exact st0_by e
  have Gtab : ∀ q ∈ cs, G q.2 = some (.tbl #[]) := fun q hq => by
    rw [← hG]
    exact st0_tab (inT q hq)
  -- what is neither a list nor a table isn't tracked
  have hid : ∀ {b : Addr} {o : Obj}, s.heap.get? b = some o → (∀ vs m, o.data ≠ .seq vs m) → o.data ≠ .fields #[] → G b = none := fun {b o} e n1 n2 => by
    cases q : G b with
    | none => rfl
    | some u =>
      rcases Gby q with ⟨z, _⟩ | ⟨z, _⟩
      · rw [tabs b z] at e
        exact absurd (congrArg Obj.data (Option.some.inj e)).symm n2
      · rw [z, oa] at e
        exact absurd (congrArg Obj.data (Option.some.inj e)).symm (n1 _ _)
  have space : ∀ {b : Addr} {m : Str → Option Value}, s.heap.Ns b m → (hidT s.heap G).Ns b m := fun {b m} n => by
    obtain ⟨o, es, ep, e, d, r⟩ := n
    exact ⟨o, es, ep, hidT_get e (hid e (fun vs n z => by rw [d] at z; cases z) fun z => by rw [d] at z; cases z), d, r⟩
  have Xb : K.In (hidT s.heap G) := fun b o e => by
    refine hidT_get (X b o e) ?_
    cases q : G b with
    | none => rfl
    | some u =>
      rcases Gby q with ⟨z, _⟩ | ⟨z, z2, _⟩
      · obtain ⟨y, hy, ey⟩ := List.mem_map.mp z
        rw [← ey, tK y hy] at e; cases e
      · rw [z, z2] at e; cases e
  have fx : ∀ {b : Addr} {o : Obj} {vs : Array Value}, s.heap.get? b = some o → o.data = .fields vs → vs ≠ #[] → (hidT s.heap G).get? b = some o := fun {b o vs} e d n =>
    hidT_get e (hid e (fun vs n z => by rw [d] at z; cases z) fun z => n (by rw [d] at z; exact Data.fields.inj z))
  have TB : ∀ q ∈ cs, GxR.TabB (hidT s.heap G) mg q.1 q.2 := fun q hq => by
    have hT := tT q hq
    obtain ⟨m, o, m1, m2, m3, m4, m5, m6⟩ := bm
    refine ⟨?_, ⟨m, o, m1, m2, fun z => ?_, fun z => ?_, ?_, m4, m5, m6⟩, fun z => ?_⟩
    · obtain ⟨oc, vs, file, tf, fl, tg, inF, text, tt, c1, c2, c3, c4, c5⟩ := tC q hq
      exact ⟨oc, vs, file, tf, fl, tg, inF, text, tt, fx c1 c3 (fun z => by rw [z] at c4; simp at c4), c2, c3, c4, c5⟩
    · obtain ⟨o', _, _, e, d, _⟩ := gl
      rw [z, e] at m3
      rw [Option.some.inj m3, m6] at d
      cases d
    · rw [z, hT] at m3
      have := Option.some.inj m3
      rw [← this] at m6
      cases m6
    · exact hidT_get m3 (hid m3 (fun vs n z => by rw [m6] at z; cases z) fun z => by rw [m6] at z; cases z)
    · obtain ⟨o', _, _, e, d, _⟩ := gl
      rw [z, hT] at e
      rw [← Option.some.inj e] at d
      cases d
  have sq : SqL K G a (ns.map V.int) := by
    have aT : a ∉ cs.map Prod.snd := fun z => by
      have := tabs a z
      rw [oa] at this
      have := congrArg Obj.data (Option.some.inj this)
      cases this
    cases q : K.lookup a with
    | none =>
      refine .inl (.inr ⟨{ cls := .type "list", data := .seq us.toArray }, ?_⟩)
      rw [← hG]
      unfold st0
      rw [if_neg aT, if_pos ⟨rfl, q⟩]
    | some o =>
      have e := X a o q
      rw [oa] at e
      cases e
      exact .inr ⟨_, us.toArray, _, q, rfl, rfl, rfl, by rw [List.size_toArray, ia.length]; exact la, by simpa using vals_ints ia⟩
  have ok : HOk P w G s.heap := fun b u e => by
    rcases Gby e with ⟨z, rfl⟩ | ⟨rfl, _, rfl⟩
    · exact tabs b z
    · exact ⟨oa, by rw [List.length_map]; exact la, us, _, vals_ints ia, oa⟩
  have e0 : Env0 P w K mg (hidT s.heap G) callerA [] s G :=
    ⟨rfl, ⟨Xb, space gl, ⟨mb, space bl, blb⟩, by obtain ⟨mc, n1, n2⟩ := nl; exact ⟨mc, space n1, n2⟩⟩, fun b o e => of_hidT e, by rw [hidT_size]; exact Nat.le_refl _, trivial, (fun b hb => by cases hb), ok, .of_eq ge⟩
  have smo : ∃ o, (hidT s.heap G).get? sysModules = some o := by
    obtain ⟨mm, n⟩ := sm
    obtain ⟨o, _, _, e, _⟩ := space n
    exact ⟨o, e⟩
  refine codeAny_mono ((F _ Xb (space gl) smo TB).run callerA [] s G ⟨[.ref a], []⟩ [.ref a] [.ref a] _ rm gd e0 (bd s (.ref a)) (.cons rfl .nil) (asks G Gtab sq)) fun r s' h => ?_
  match r, h with
  | .ok (.ret u), h =>
    obtain ⟨v, G', h1, h2, un, ok', rv, hv⟩ := h
    have hv' : v = .bl true := hv
    rw [hv'] at rv
    have eu : u = Value.bool true := rv
    rw [eu]
    have stays : ∀ b o, b ∉ cs.map Prod.snd → s.heap.get? b = some o → s'.heap.get? b = some o := fun b o nb e => by
      cases q : G b with
      | none => exact un.keep b o e q (fun z => by cases z) (fun z => by cases z)
      | some y =>
        rcases Gby q with ⟨z, _⟩ | ⟨rfl, _, rfl⟩
        · exact absurd z nb
        · obtain ⟨e2, _⟩ := ok' _ _ (un.frzs _ _ _ q)
          rw [oa] at e
          rw [e2]; exact e
    have more : ∀ b ∈ cs.map Prod.snd, ∃ (o : Array Value) (q : Addr × Addr), q ∈ cs ∧ q.2 = b ∧ s'.heap.get? b = some { cls := .none, data := .fields o } := fun b hb => by
      obtain ⟨q, hq, rfl⟩ := List.mem_map.mp hb
      obtain ⟨mo, z⟩ := un.tbls q.2 #[] (Gtab q hq)
      exact ⟨_, q, hq, rfl, ok' _ _ z⟩
    refine ⟨rfl, ⟨fun b o e => ?_, fun b o e => ?_⟩, h1, h2⟩
    · by_cases hb : b ∈ cs.map Prod.snd
      · obtain ⟨mo, q, hq, rfl, z⟩ := more b hb
        have eo := tT q hq
        rw [eo] at e
        rw [← Option.some.inj e]
        exact .inr (.inl ⟨((tC q hq).tab eo).isCodeTable, rfl, #[], mo, rfl, by rw [Array.empty_append]; exact z⟩)
      · exact .inl (stays b o hb e)
    · by_cases hb : b ∈ cs.map Prod.snd
      · obtain ⟨mo, q, hq, rfl, z⟩ := more b hb
        exact ⟨_, z⟩
      · exact ⟨o, stays b o hb e⟩
  | .ok .next, h => exact h.elim
  | .ok .brk, h => exact h.elim
  | .ok .cont, h => exact h.elim
  | .error e, h => exact h.elim
end
end Tb

set_option maxHeartbeats 8000000
namespace Tb
open PySem PySem.Spec PyProof.Rows L2
def fOf (mg : Str → Option Value) (n : String) : Addr := match mg (Str.ofString n) with
  | some (.ref b) => b
  | _ => 0
theorem fOf_eq {mg : Str → Option Value} {n : String} {b : Addr} (h : mg (Str.ofString n) = some (.ref b)) : fOf mg n = b := by
  unfold fOf
  rw [h]
theorem said {P q : Program} {loose : List Str} {XP : (Str → Option Value) → Heap → Prop} {w : World} {s0 s : Shared} {mg mb : Str → Option Value} {K : PySem.W.Frag} {fa a : Addr} {us : List Value} {ns : List Int} {d25 d24 d32 d35 d15 d40 d41 d19 d47 d48 d49 : DefRec} {c25 T25 c24 T24 c32 T32 c35 T35 c15 T15 c40 T40 c41 T41 c19 T19 c47 T47 c48 T48 c49 T49 : Addr} {tm : Tok}
    {f1 : Addr} {od1 an1 : Option Addr} {sl1 : Array (Option Value)} {oc1 kV1 dc1 pm1 cd1 ct1 : Value}
    {f2 : Addr} {od2 an2 : Option Addr} {sl2 : Array (Option Value)} {oc2 kV2 dc2 pm2 cd2 ct2 : Value}
    {f3 : Addr} {od3 an3 : Option Addr} {sl3 : Array (Option Value)} {oc3 kV3 dc3 pm3 cd3 ct3 : Value}
    {f4 : Addr} {od4 an4 : Option Addr} {sl4 : Array (Option Value)} {oc4 kV4 dc4 pm4 cd4 ct4 : Value}
    {f11 : Addr} {od11 an11 : Option Addr} {sl11 : Array (Option Value)} {oc11 kV11 dc11 pm11 cd11 ct11 : Value}
    {f12 : Addr} {od12 an12 : Option Addr} {sl12 : Array (Option Value)} {oc12 kV12 dc12 pm12 cd12 ct12 : Value}
    {f13 : Addr} {od13 an13 : Option Addr} {sl13 : Array (Option Value)} {oc13 kV13 dc13 pm13 cd13 ct13 : Value}
    {f14 : Addr} {od14 an14 : Option Addr} {sl14 : Array (Option Value)} {oc14 kV14 dc14 pm14 cd14 ct14 : Value}
    {f15 : Addr} {od15 an15 : Option Addr} {sl15 : Array (Option Value)} {oc15 kV15 dc15 pm15 ct15 : Value}
    {f16 : Addr} {od16 an16 : Option Addr} {sl16 : Array (Option Value)} {oc16 kV16 dc16 pm16 cd16 ct16 : Value}
    {f17 : Addr} {od17 an17 : Option Addr} {sl17 : Array (Option Value)} {oc17 kV17 dc17 pm17 cd17 ct17 : Value}
    {f18 : Addr} {od18 an18 : Option Addr} {sl18 : Array (Option Value)} {oc18 kV18 dc18 pm18 cd18 ct18 : Value}
    {f19 : Addr} {od19 an19 : Option Addr} {sl19 : Array (Option Value)} {oc19 kV19 dc19 pm19 ct19 : Value}
    {f20 : Addr} {od20 an20 : Option Addr} {sl20 : Array (Option Value)} {oc20 kV20 dc20 pm20 cd20 ct20 : Value}
    {f21 : Addr} {od21 an21 : Option Addr} {sl21 : Array (Option Value)} {oc21 kV21 dc21 pm21 cd21 ct21 : Value}
    {f22 : Addr} {od22 an22 : Option Addr} {sl22 : Array (Option Value)} {oc22 kV22 dc22 pm22 cd22 ct22 : Value}
    {f23 : Addr} {od23 an23 : Option Addr} {sl23 : Array (Option Value)} {oc23 kV23 dc23 pm23 cd23 ct23 : Value}
    {f24 : Addr} {od24 an24 : Option Addr} {sl24 : Array (Option Value)} {oc24 kV24 dc24 pm24 ct24 : Value}
    {f25 : Addr} {od25 an25 : Option Addr} {sl25 : Array (Option Value)} {oc25 kV25 dc25 pm25 ct25 : Value}
    {f26 : Addr} {od26 an26 : Option Addr} {sl26 : Array (Option Value)} {oc26 kV26 dc26 pm26 cd26 ct26 : Value}
    {f27 : Addr} {od27 an27 : Option Addr} {sl27 : Array (Option Value)} {oc27 kV27 dc27 pm27 cd27 ct27 : Value}
    {f28 : Addr} {od28 an28 : Option Addr} {sl28 : Array (Option Value)} {oc28 kV28 dc28 pm28 cd28 ct28 : Value}
    {f29 : Addr} {od29 an29 : Option Addr} {sl29 : Array (Option Value)} {oc29 kV29 dc29 pm29 cd29 ct29 : Value}
    {f30 : Addr} {od30 an30 : Option Addr} {sl30 : Array (Option Value)} {oc30 kV30 dc30 pm30 cd30 ct30 : Value}
    {f31 : Addr} {od31 an31 : Option Addr} {sl31 : Array (Option Value)} {oc31 kV31 dc31 pm31 cd31 ct31 : Value}
    {f32 : Addr} {od32 an32 : Option Addr} {sl32 : Array (Option Value)} {oc32 kV32 dc32 pm32 ct32 : Value}
    {f33 : Addr} {od33 an33 : Option Addr} {sl33 : Array (Option Value)} {oc33 kV33 dc33 pm33 cd33 ct33 : Value}
    {f34 : Addr} {od34 an34 : Option Addr} {sl34 : Array (Option Value)} {oc34 kV34 dc34 pm34 cd34 ct34 : Value}
    {f35 : Addr} {od35 an35 : Option Addr} {sl35 : Array (Option Value)} {oc35 kV35 dc35 pm35 ct35 : Value}
    {f36 : Addr} {od36 an36 : Option Addr} {sl36 : Array (Option Value)} {oc36 kV36 dc36 pm36 cd36 ct36 : Value}
    {f37 : Addr} {od37 an37 : Option Addr} {sl37 : Array (Option Value)} {oc37 kV37 dc37 pm37 cd37 ct37 : Value}
    {f38 : Addr} {od38 an38 : Option Addr} {sl38 : Array (Option Value)} {oc38 kV38 dc38 pm38 cd38 ct38 : Value}
    {f39 : Addr} {od39 an39 : Option Addr} {sl39 : Array (Option Value)} {oc39 kV39 dc39 pm39 cd39 ct39 : Value}
    {f40 : Addr} {od40 an40 : Option Addr} {sl40 : Array (Option Value)} {oc40 kV40 dc40 pm40 ct40 : Value}
    {f41 : Addr} {od41 an41 : Option Addr} {sl41 : Array (Option Value)} {oc41 kV41 dc41 pm41 ct41 : Value}
    {f43 : Addr} {od43 an43 : Option Addr} {sl43 : Array (Option Value)} {oc43 kV43 dc43 pm43 cd43 ct43 : Value}
    {f44 : Addr} {od44 an44 : Option Addr} {sl44 : Array (Option Value)} {oc44 kV44 dc44 pm44 cd44 ct44 : Value}
    {f45 : Addr} {od45 an45 : Option Addr} {sl45 : Array (Option Value)} {oc45 kV45 dc45 pm45 cd45 ct45 : Value}
    {f46 : Addr} {od46 an46 : Option Addr} {sl46 : Array (Option Value)} {oc46 kV46 dc46 pm46 cd46 ct46 : Value}
    {f47 : Addr} {od47 an47 : Option Addr} {sl47 : Array (Option Value)} {oc47 kV47 dc47 pm47 ct47 : Value}
    {f48 : Addr} {od48 an48 : Option Addr} {sl48 : Array (Option Value)} {oc48 kV48 dc48 pm48 ct48 : Value}
    {f49 : Addr} {od49 an49 : Option Addr} {sl49 : Array (Option Value)} {oc49 kV49 dc49 pm49 ct49 : Value}
    {f50 : Addr} {od50 an50 : Option Addr} {sl50 : Array (Option Value)} {oc50 kV50 dc50 pm50 cd50 ct50 : Value}
    {f51 : Addr} {od51 an51 : Option Addr} {sl51 : Array (Option Value)} {oc51 kV51 dc51 pm51 cd51 ct51 : Value}
    {nmT qqT : Str} {CT fIT NNT : Addr} {bsT bmT subT : List Value} {snT : List Str} {abT : Bool} {colT : Option Bool} {ddT odT anT : Option Addr} {m0T m1T m2T m3T m5T : Option Value} {ocT docT pmT cdT ctT : Value} {slT : Array (Option Value)} {p1T p2T q1T q2T q3T q4T : Pos}
    {nmN qqN : Str} {CN fIN NNN : Addr} {bsN bmN subN : List Value} {snN : List Str} {abN : Bool} {colN : Option Bool} {ddN odN anN : Option Addr} {m0N m1N m2N m3N m5N : Option Value} {ocN docN pmN cdN ctN : Value} {slN : Array (Option Value)} {p1N p2N q1N q2N q3N q4N : Pos}
    {CP : Addr}
    (G : PySem.W.Ground q loose [] XP w s0 mg mb s.heap) (X : K.In s.heap) (hmg : mg "law" = some (.ref fa)) (imp : importsNone q = true) (ge : s.gens = #[])
    (oa : s.heap.get? a = some { cls := .type "list", data := .seq us.toArray }) (ia : IntsAre us ns) (la : ns.length ≤ 63)
    (r25 : (recsOf q).find? (fun e => e.name == ("is_row" : Str)) = some d25) (t25 : PySem.W.tabIn K "is_row" = some (c25, T25)) (n25 : K.lookup T25 = none)
    (r24 : (recsOf q).find? (fun e => e.name == ("has_table_form" : Str)) = some d24) (t24 : PySem.W.tabIn K "has_table_form" = some (c24, T24)) (n24 : K.lookup T24 = none)
    (r32 : (recsOf q).find? (fun e => e.name == ("is_part_in" : Str)) = some d32) (t32 : PySem.W.tabIn K "is_part_in" = some (c32, T32)) (n32 : K.lookup T32 = none)
    (r35 : (recsOf q).find? (fun e => e.name == ("is_list_of" : Str)) = some d35) (t35 : PySem.W.tabIn K "is_list_of" = some (c35, T35)) (n35 : K.lookup T35 = none)
    (r15 : (recsOf q).find? (fun e => e.name == ("has_single_lists" : Str)) = some d15) (t15 : PySem.W.tabIn K "has_single_lists" = some (c15, T15)) (n15 : K.lookup T15 = none)
    (r40 : (recsOf q).find? (fun e => e.name == ("least_difference" : Str)) = some d40) (t40 : PySem.W.tabIn K "least_difference" = some (c40, T40)) (n40 : K.lookup T40 = none)
    (r41 : (recsOf q).find? (fun e => e.name == ("bare_differences" : Str)) = some d41) (t41 : PySem.W.tabIn K "bare_differences" = some (c41, T41)) (n41 : K.lookup T41 = none)
    (r19 : (recsOf q).find? (fun e => e.name == ("has_differences" : Str)) = some d19) (t19 : PySem.W.tabIn K "has_differences" = some (c19, T19)) (n19 : K.lookup T19 = none)
    (r47 : (recsOf q).find? (fun e => e.name == ("_law_alone" : Str)) = some d47) (t47 : PySem.W.tabIn K "_law_alone" = some (c47, T47)) (n47 : K.lookup T47 = none)
    (r48 : (recsOf q).find? (fun e => e.name == ("_law_one" : Str)) = some d48) (t48 : PySem.W.tabIn K "_law_one" = some (c48, T48)) (n48 : K.lookup T48 = none)
    (r49 : (recsOf q).find? (fun e => e.name == ("_law_two" : Str)) = some d49) (t49 : PySem.W.tabIn K "_law_two" = some (c49, T49)) (n49 : K.lookup T49 = none)
    (nd : ([T47, T48, T49, T15, T32, T35, T24, T25, T40, T41, T19] : List Addr).Nodup)
    (am : PySem.W.nsIn K mainGlobals "MOST_STATES" = some (some (.int 8 tm)))
    (aCT : PySem.W.nsIn K mainGlobals "InvalidTable" = some (some (.ref CT)))
    (xLT : K.lookup CT = some (PySem.excClassObj nmT qqT CT NNT bsT bmT true snT subT abT colT ddT m0T m1T m2T m3T m5T "ValueError.__new__")) (veT : PySem.HandSPX.refsVE bmT = true)
    (saT : PySem.W.findIn K (.ref CT) "__setattr__" = some (some (.builtin "object.__setattr__"))) (gaT : PySem.W.findIn K (.ref CT) "__getattribute__" = some (some (.builtin "BaseException.__getattribute__"))) (ggT : PySem.W.findIn K (.ref CT) "__getattr__" = some none) (nbT : PySem.W.findIn K (.ref CT) "value" = some none)
    (iCT : PySem.W.findIn K (.ref CT) "__init__" = some (some (.ref fIT))) (tIT : PySem.W.typeIn K (.ref fIT) = some (.type "function"))
    (lIT : K.lookup fIT = some ⟨ocT, odT, .func (PySem.W.fnOf "__init__" "InvalidTable.__init__" (PySem.LowX.iA p1T p2T) (PySem.LowX.iB q1T q2T q3T q4T) PySem.LowX.iS .none .none docT pmT anT cdT ctT), slT⟩) (cIT : PySem.W.codeIn K cdT "InvalidTable.__init__" = true)
    (kCT : PySem.W.keepIn K (.ref CT) = true) (eCT : PySem.W.subIn K (.ref CT) (.type "BaseException") = some true) (tCT : PySem.W.typeIn K (.ref CT) = some (.type "type")) (hCT : PySem.W.hasDictIn K CT = true) (teT : PySem.W.exmOne K (.ref CT) (.ref CT) = some true)
    (clT : (PySem.W.clsIn K CT).isSome = true) (haT : PySem.W.findIn K (.ref CT) "__class__" = some (some (.builtin "object.__class__"))) (hmT : PySem.W.mroIn K CT (.type "object") = some true) (kPT : PySem.W.kitOne K (.ref CT) (.ref CP) = some true)
    (aCN : PySem.W.nsIn K mainGlobals "InvalidNumber" = some (some (.ref CN)))
    (xLN : K.lookup CN = some (PySem.excClassObj nmN qqN CN NNN bsN bmN true snN subN abN colN ddN m0N m1N m2N m3N m5N "ValueError.__new__")) (veN : PySem.HandSPX.refsVE bmN = true)
    (saN : PySem.W.findIn K (.ref CN) "__setattr__" = some (some (.builtin "object.__setattr__"))) (gaN : PySem.W.findIn K (.ref CN) "__getattribute__" = some (some (.builtin "BaseException.__getattribute__"))) (ggN : PySem.W.findIn K (.ref CN) "__getattr__" = some none) (nbN : PySem.W.findIn K (.ref CN) "value" = some none)
    (iCN : PySem.W.findIn K (.ref CN) "__init__" = some (some (.ref fIN))) (tIN : PySem.W.typeIn K (.ref fIN) = some (.type "function"))
    (lIN : K.lookup fIN = some ⟨ocN, odN, .func (PySem.W.fnOf "__init__" "InvalidNumber.__init__" (PySem.LowX.iA p1N p2N) (PySem.LowX.iB q1N q2N q3N q4N) PySem.LowX.iS .none .none docN pmN anN cdN ctN), slN⟩) (cIN : PySem.W.codeIn K cdN "InvalidNumber.__init__" = true)
    (kCN : PySem.W.keepIn K (.ref CN) = true) (eCN : PySem.W.subIn K (.ref CN) (.type "BaseException") = some true) (tCN : PySem.W.typeIn K (.ref CN) = some (.type "type")) (hCN : PySem.W.hasDictIn K CN = true) (teN : PySem.W.exmOne K (.ref CN) (.ref CN) = some true)
    (clN : (PySem.W.clsIn K CN).isSome = true) (haN : PySem.W.findIn K (.ref CN) "__class__" = some (some (.builtin "object.__class__"))) (hmN : PySem.W.mroIn K CN (.type "object") = some true) (kPN : PySem.W.kitOne K (.ref CN) (.ref CP) = some true)
    (aP : PySem.W.nsIn K mainGlobals "PartError" = some (some (.ref CP))) (nt : PySem.W.exmOne K (.ref CN) (.ref CT) = some false)
    (hn : PySem.W.specialIn K (.builtin "object.__class__") "__get__" = some (some (.builtin "getset_descriptor.__get__"))) (ht : PySem.W.takesIn K (.builtin "object.__class__") = some true)
    (a1 : PySem.W.nsIn K mainGlobals "is_integer" = some (some (.ref f1))) (l1 : K.lookup f1 = some ⟨oc1, od1, .func (PySem.W.fnOf "is_integer" "is_integer" (defArgs (top 1)) (defBody (top 1)) (defScope (top 1)) .none kV1 dc1 pm1 an1 cd1 ct1), sl1⟩) (y1 : PySem.W.codeIn K cd1 "is_integer" = true) (k1 : PySem.W.keepIn K (.ref f1) = true)
    (a2 : PySem.W.nsIn K mainGlobals "is_count" = some (some (.ref f2))) (l2 : K.lookup f2 = some ⟨oc2, od2, .func (PySem.W.fnOf "is_count" "is_count" (defArgs (top 2)) (defBody (top 2)) (defScope (top 2)) .none kV2 dc2 pm2 an2 cd2 ct2), sl2⟩) (y2 : PySem.W.codeIn K cd2 "is_count" = true) (k2 : PySem.W.keepIn K (.ref f2) = true)
    (a3 : PySem.W.nsIn K mainGlobals "is_count_below" = some (some (.ref f3))) (l3 : K.lookup f3 = some ⟨oc3, od3, .func (PySem.W.fnOf "is_count_below" "is_count_below" (defArgs (top 3)) (defBody (top 3)) (defScope (top 3)) .none kV3 dc3 pm3 an3 cd3 ct3), sl3⟩) (y3 : PySem.W.codeIn K cd3 "is_count_below" = true) (k3 : PySem.W.keepIn K (.ref f3) = true)
    (a4 : PySem.W.nsIn K mainGlobals "is_list" = some (some (.ref f4))) (l4 : K.lookup f4 = some ⟨oc4, od4, .func (PySem.W.fnOf "is_list" "is_list" (defArgs (top 4)) (defBody (top 4)) (defScope (top 4)) .none kV4 dc4 pm4 an4 cd4 ct4), sl4⟩) (y4 : PySem.W.codeIn K cd4 "is_list" = true) (k4 : PySem.W.keepIn K (.ref f4) = true)
    (a11 : PySem.W.nsIn K mainGlobals "is_table" = some (some (.ref f11))) (l11 : K.lookup f11 = some ⟨oc11, od11, .func (PySem.W.fnOf "is_table" "is_table" (defArgs (top 11)) (defBody (top 11)) (defScope (top 11)) .none kV11 dc11 pm11 an11 cd11 ct11), sl11⟩) (y11 : PySem.W.codeIn K cd11 "is_table" = true) (k11 : PySem.W.keepIn K (.ref f11) = true)
    (a12 : PySem.W.nsIn K mainGlobals "table_parts" = some (some (.ref f12))) (l12 : K.lookup f12 = some ⟨oc12, od12, .func (PySem.W.fnOf "table_parts" "table_parts" (defArgs (top 12)) (defBody (top 12)) (defScope (top 12)) .none kV12 dc12 pm12 an12 cd12 ct12), sl12⟩) (y12 : PySem.W.codeIn K cd12 "table_parts" = true) (k12 : PySem.W.keepIn K (.ref f12) = true)
    (a13 : PySem.W.nsIn K mainGlobals "needed" = some (some (.ref f13))) (l13 : K.lookup f13 = some ⟨oc13, od13, .func (PySem.W.fnOf "needed" "needed" (defArgs (top 13)) (defBody (top 13)) (defScope (top 13)) .none kV13 dc13 pm13 an13 cd13 ct13), sl13⟩) (y13 : PySem.W.codeIn K cd13 "needed" = true) (k13 : PySem.W.keepIn K (.ref f13) = true)
    (a14 : PySem.W.nsIn K mainGlobals "all_lists" = some (some (.ref f14))) (l14 : K.lookup f14 = some ⟨oc14, od14, .func (PySem.W.fnOf "all_lists" "all_lists" (defArgs (top 14)) (defBody (top 14)) (defScope (top 14)) .none kV14 dc14 pm14 an14 cd14 ct14), sl14⟩) (y14 : PySem.W.codeIn K cd14 "all_lists" = true) (k14 : PySem.W.keepIn K (.ref f14) = true)
    (a15 : PySem.W.nsIn K mainGlobals "has_single_lists" = some (some (.ref f15))) (l15 : K.lookup f15 = some ⟨oc15, od15, .func (PySem.W.fnOf "has_single_lists" "has_single_lists" (defArgs (top 15)) (defBody (top 15)) (defScope (top 15)) .none kV15 dc15 pm15 an15 (.ref c15) ct15), sl15⟩) (y15 : PySem.W.codeIn K (.ref c15) "has_single_lists" = true) (k15 : PySem.W.keepIn K (.ref f15) = true)
    (a16 : PySem.W.nsIn K mainGlobals "two_lists" = some (some (.ref f16))) (l16 : K.lookup f16 = some ⟨oc16, od16, .func (PySem.W.fnOf "two_lists" "two_lists" (defArgs (top 16)) (defBody (top 16)) (defScope (top 16)) .none kV16 dc16 pm16 an16 cd16 ct16), sl16⟩) (y16 : PySem.W.codeIn K cd16 "two_lists" = true) (k16 : PySem.W.keepIn K (.ref f16) = true)
    (a17 : PySem.W.nsIn K mainGlobals "meet" = some (some (.ref f17))) (l17 : K.lookup f17 = some ⟨oc17, od17, .func (PySem.W.fnOf "meet" "meet" (defArgs (top 17)) (defBody (top 17)) (defScope (top 17)) .none kV17 dc17 pm17 an17 cd17 ct17), sl17⟩) (y17 : PySem.W.codeIn K cd17 "meet" = true) (k17 : PySem.W.keepIn K (.ref f17) = true)
    (a18 : PySem.W.nsIn K mainGlobals "is_distributive" = some (some (.ref f18))) (l18 : K.lookup f18 = some ⟨oc18, od18, .func (PySem.W.fnOf "is_distributive" "is_distributive" (defArgs (top 18)) (defBody (top 18)) (defScope (top 18)) .none kV18 dc18 pm18 an18 cd18 ct18), sl18⟩) (y18 : PySem.W.codeIn K cd18 "is_distributive" = true) (k18 : PySem.W.keepIn K (.ref f18) = true)
    (a19 : PySem.W.nsIn K mainGlobals "has_differences" = some (some (.ref f19))) (l19 : K.lookup f19 = some ⟨oc19, od19, .func (PySem.W.fnOf "has_differences" "has_differences" (defArgs (top 19)) (defBody (top 19)) (defScope (top 19)) .none kV19 dc19 pm19 an19 (.ref c19) ct19), sl19⟩) (y19 : PySem.W.codeIn K (.ref c19) "has_differences" = true) (k19 : PySem.W.keepIn K (.ref f19) = true)
    (a20 : PySem.W.nsIn K mainGlobals "table_difference" = some (some (.ref f20))) (l20 : K.lookup f20 = some ⟨oc20, od20, .func (PySem.W.fnOf "table_difference" "table_difference" (defArgs (top 20)) (defBody (top 20)) (defScope (top 20)) .none kV20 dc20 pm20 an20 cd20 ct20), sl20⟩) (y20 : PySem.W.codeIn K cd20 "table_difference" = true) (k20 : PySem.W.keepIn K (.ref f20) = true)
    (a21 : PySem.W.nsIn K mainGlobals "two_differences" = some (some (.ref f21))) (l21 : K.lookup f21 = some ⟨oc21, od21, .func (PySem.W.fnOf "two_differences" "two_differences" (defArgs (top 21)) (defBody (top 21)) (defScope (top 21)) .none kV21 dc21 pm21 an21 cd21 ct21), sl21⟩) (y21 : PySem.W.codeIn K cd21 "two_differences" = true) (k21 : PySem.W.keepIn K (.ref f21) = true)
    (a22 : PySem.W.nsIn K mainGlobals "check_table" = some (some (.ref f22))) (l22 : K.lookup f22 = some ⟨oc22, od22, .func (PySem.W.fnOf "check_table" "check_table" (defArgs (top 22)) (defBody (top 22)) (defScope (top 22)) .none kV22 dc22 pm22 an22 cd22 ct22), sl22⟩) (y22 : PySem.W.codeIn K cd22 "check_table" = true) (k22 : PySem.W.keepIn K (.ref f22) = true)
    (a23 : PySem.W.nsIn K mainGlobals "check_number" = some (some (.ref f23))) (l23 : K.lookup f23 = some ⟨oc23, od23, .func (PySem.W.fnOf "check_number" "check_number" (defArgs (top 23)) (defBody (top 23)) (defScope (top 23)) .none kV23 dc23 pm23 an23 cd23 ct23), sl23⟩) (y23 : PySem.W.codeIn K cd23 "check_number" = true) (k23 : PySem.W.keepIn K (.ref f23) = true)
    (a24 : PySem.W.nsIn K mainGlobals "has_table_form" = some (some (.ref f24))) (l24 : K.lookup f24 = some ⟨oc24, od24, .func (PySem.W.fnOf "has_table_form" "has_table_form" (defArgs (top 24)) (defBody (top 24)) (defScope (top 24)) .none kV24 dc24 pm24 an24 (.ref c24) ct24), sl24⟩) (y24 : PySem.W.codeIn K (.ref c24) "has_table_form" = true) (k24 : PySem.W.keepIn K (.ref f24) = true)
    (a25 : PySem.W.nsIn K mainGlobals "is_row" = some (some (.ref f25))) (l25 : K.lookup f25 = some ⟨oc25, od25, .func (PySem.W.fnOf "is_row" "is_row" (defArgs (top 25)) (defBody (top 25)) (defScope (top 25)) .none kV25 dc25 pm25 an25 (.ref c25) ct25), sl25⟩) (y25 : PySem.W.codeIn K (.ref c25) "is_row" = true) (k25 : PySem.W.keepIn K (.ref f25) = true)
    (a26 : PySem.W.nsIn K mainGlobals "keeps_join_rules" = some (some (.ref f26))) (l26 : K.lookup f26 = some ⟨oc26, od26, .func (PySem.W.fnOf "keeps_join_rules" "keeps_join_rules" (defArgs (top 26)) (defBody (top 26)) (defScope (top 26)) .none kV26 dc26 pm26 an26 cd26 ct26), sl26⟩) (y26 : PySem.W.codeIn K cd26 "keeps_join_rules" = true) (k26 : PySem.W.keepIn K (.ref f26) = true)
    (a27 : PySem.W.nsIn K mainGlobals "lies_within" = some (some (.ref f27))) (l27 : K.lookup f27 = some ⟨oc27, od27, .func (PySem.W.fnOf "lies_within" "lies_within" (defArgs (top 27)) (defBody (top 27)) (defScope (top 27)) .none kV27 dc27 pm27 an27 cd27 ct27), sl27⟩) (y27 : PySem.W.codeIn K cd27 "lies_within" = true) (k27 : PySem.W.keepIn K (.ref f27) = true)
    (a28 : PySem.W.nsIn K mainGlobals "states_within" = some (some (.ref f28))) (l28 : K.lookup f28 = some ⟨oc28, od28, .func (PySem.W.fnOf "states_within" "states_within" (defArgs (top 28)) (defBody (top 28)) (defScope (top 28)) .none kV28 dc28 pm28 an28 cd28 ct28), sl28⟩) (y28 : PySem.W.codeIn K cd28 "states_within" = true) (k28 : PySem.W.keepIn K (.ref f28) = true)
    (a29 : PySem.W.nsIn K mainGlobals "without" = some (some (.ref f29))) (l29 : K.lookup f29 = some ⟨oc29, od29, .func (PySem.W.fnOf "without" "without" (defArgs (top 29)) (defBody (top 29)) (defScope (top 29)) .none kV29 dc29 pm29 an29 cd29 ct29), sl29⟩) (y29 : PySem.W.codeIn K cd29 "without" = true) (k29 : PySem.W.keepIn K (.ref f29) = true)
    (a30 : PySem.W.nsIn K mainGlobals "joined_numbers" = some (some (.ref f30))) (l30 : K.lookup f30 = some ⟨oc30, od30, .func (PySem.W.fnOf "joined_numbers" "joined_numbers" (defArgs (top 30)) (defBody (top 30)) (defScope (top 30)) .none kV30 dc30 pm30 an30 cd30 ct30), sl30⟩) (y30 : PySem.W.codeIn K cd30 "joined_numbers" = true) (k30 : PySem.W.keepIn K (.ref f30) = true)
    (a31 : PySem.W.nsIn K mainGlobals "joins_to" = some (some (.ref f31))) (l31 : K.lookup f31 = some ⟨oc31, od31, .func (PySem.W.fnOf "joins_to" "joins_to" (defArgs (top 31)) (defBody (top 31)) (defScope (top 31)) .none kV31 dc31 pm31 an31 cd31 ct31), sl31⟩) (y31 : PySem.W.codeIn K cd31 "joins_to" = true) (k31 : PySem.W.keepIn K (.ref f31) = true)
    (a32 : PySem.W.nsIn K mainGlobals "is_part_in" = some (some (.ref f32))) (l32 : K.lookup f32 = some ⟨oc32, od32, .func (PySem.W.fnOf "is_part_in" "is_part_in" (defArgs (top 32)) (defBody (top 32)) (defScope (top 32)) .none kV32 dc32 pm32 an32 (.ref c32) ct32), sl32⟩) (y32 : PySem.W.codeIn K (.ref c32) "is_part_in" = true) (k32 : PySem.W.keepIn K (.ref f32) = true)
    (a33 : PySem.W.nsIn K mainGlobals "parts_in" = some (some (.ref f33))) (l33 : K.lookup f33 = some ⟨oc33, od33, .func (PySem.W.fnOf "parts_in" "parts_in" (defArgs (top 33)) (defBody (top 33)) (defScope (top 33)) .none kV33 dc33 pm33 an33 cd33 ct33), sl33⟩) (y33 : PySem.W.codeIn K cd33 "parts_in" = true) (k33 : PySem.W.keepIn K (.ref f33) = true)
    (a34 : PySem.W.nsIn K mainGlobals "parts_below" = some (some (.ref f34))) (l34 : K.lookup f34 = some ⟨oc34, od34, .func (PySem.W.fnOf "parts_below" "parts_below" (defArgs (top 34)) (defBody (top 34)) (defScope (top 34)) .none kV34 dc34 pm34 an34 cd34 ct34), sl34⟩) (y34 : PySem.W.codeIn K cd34 "parts_below" = true) (k34 : PySem.W.keepIn K (.ref f34) = true)
    (a35 : PySem.W.nsIn K mainGlobals "is_list_of" = some (some (.ref f35))) (l35 : K.lookup f35 = some ⟨oc35, od35, .func (PySem.W.fnOf "is_list_of" "is_list_of" (defArgs (top 35)) (defBody (top 35)) (defScope (top 35)) .none kV35 dc35 pm35 an35 (.ref c35) ct35), sl35⟩) (y35 : PySem.W.codeIn K (.ref c35) "is_list_of" = true) (k35 : PySem.W.keepIn K (.ref f35) = true)
    (a36 : PySem.W.nsIn K mainGlobals "lists_of" = some (some (.ref f36))) (l36 : K.lookup f36 = some ⟨oc36, od36, .func (PySem.W.fnOf "lists_of" "lists_of" (defArgs (top 36)) (defBody (top 36)) (defScope (top 36)) .none kV36 dc36 pm36 an36 cd36 ct36), sl36⟩) (y36 : PySem.W.codeIn K cd36 "lists_of" = true) (k36 : PySem.W.keepIn K (.ref f36) = true)
    (a37 : PySem.W.nsIn K mainGlobals "meet_of" = some (some (.ref f37))) (l37 : K.lookup f37 = some ⟨oc37, od37, .func (PySem.W.fnOf "meet_of" "meet_of" (defArgs (top 37)) (defBody (top 37)) (defScope (top 37)) .none kV37 dc37 pm37 an37 cd37 ct37), sl37⟩) (y37 : PySem.W.codeIn K cd37 "meet_of" = true) (k37 : PySem.W.keepIn K (.ref f37) = true)
    (a38 : PySem.W.nsIn K mainGlobals "meet_rows" = some (some (.ref f38))) (l38 : K.lookup f38 = some ⟨oc38, od38, .func (PySem.W.fnOf "meet_rows" "meet_rows" (defArgs (top 38)) (defBody (top 38)) (defScope (top 38)) .none kV38 dc38 pm38 an38 cd38 ct38), sl38⟩) (y38 : PySem.W.codeIn K cd38 "meet_rows" = true) (k38 : PySem.W.keepIn K (.ref f38) = true)
    (a39 : PySem.W.nsIn K mainGlobals "differences_of" = some (some (.ref f39))) (l39 : K.lookup f39 = some ⟨oc39, od39, .func (PySem.W.fnOf "differences_of" "differences_of" (defArgs (top 39)) (defBody (top 39)) (defScope (top 39)) .none kV39 dc39 pm39 an39 cd39 ct39), sl39⟩) (y39 : PySem.W.codeIn K cd39 "differences_of" = true) (k39 : PySem.W.keepIn K (.ref f39) = true)
    (a40 : PySem.W.nsIn K mainGlobals "least_difference" = some (some (.ref f40))) (l40 : K.lookup f40 = some ⟨oc40, od40, .func (PySem.W.fnOf "least_difference" "least_difference" (defArgs (top 40)) (defBody (top 40)) (defScope (top 40)) .none kV40 dc40 pm40 an40 (.ref c40) ct40), sl40⟩) (y40 : PySem.W.codeIn K (.ref c40) "least_difference" = true) (k40 : PySem.W.keepIn K (.ref f40) = true)
    (a41 : PySem.W.nsIn K mainGlobals "bare_differences" = some (some (.ref f41))) (l41 : K.lookup f41 = some ⟨oc41, od41, .func (PySem.W.fnOf "bare_differences" "bare_differences" (defArgs (top 41)) (defBody (top 41)) (defScope (top 41)) .none kV41 dc41 pm41 an41 (.ref c41) ct41), sl41⟩) (y41 : PySem.W.codeIn K (.ref c41) "bare_differences" = true) (k41 : PySem.W.keepIn K (.ref f41) = true)
    (a43 : PySem.W.nsIn K mainGlobals "_law_pot" = some (some (.ref f43))) (l43 : K.lookup f43 = some ⟨oc43, od43, .func (PySem.W.fnOf "_law_pot" "_law_pot" (defArgs (top 43)) (defBody (top 43)) (defScope (top 43)) .none kV43 dc43 pm43 an43 cd43 ct43), sl43⟩) (y43 : PySem.W.codeIn K cd43 "_law_pot" = true) (k43 : PySem.W.keepIn K (.ref f43) = true)
    (a44 : PySem.W.nsIn K mainGlobals "_law_draw" = some (some (.ref f44))) (l44 : K.lookup f44 = some ⟨oc44, od44, .func (PySem.W.fnOf "_law_draw" "_law_draw" (defArgs (top 44)) (defBody (top 44)) (defScope (top 44)) .none kV44 dc44 pm44 an44 cd44 ct44), sl44⟩) (y44 : PySem.W.codeIn K cd44 "_law_draw" = true) (k44 : PySem.W.keepIn K (.ref f44) = true)
    (a45 : PySem.W.nsIn K mainGlobals "_law_heard" = some (some (.ref f45))) (l45 : K.lookup f45 = some ⟨oc45, od45, .func (PySem.W.fnOf "_law_heard" "_law_heard" (defArgs (top 45)) (defBody (top 45)) (defScope (top 45)) .none kV45 dc45 pm45 an45 cd45 ct45), sl45⟩) (y45 : PySem.W.codeIn K cd45 "_law_heard" = true) (k45 : PySem.W.keepIn K (.ref f45) = true)
    (a46 : PySem.W.nsIn K mainGlobals "_law_are" = some (some (.ref f46))) (l46 : K.lookup f46 = some ⟨oc46, od46, .func (PySem.W.fnOf "_law_are" "_law_are" (defArgs (top 46)) (defBody (top 46)) (defScope (top 46)) .none kV46 dc46 pm46 an46 cd46 ct46), sl46⟩) (y46 : PySem.W.codeIn K cd46 "_law_are" = true) (k46 : PySem.W.keepIn K (.ref f46) = true)
    (a47 : PySem.W.nsIn K mainGlobals "_law_alone" = some (some (.ref f47))) (l47 : K.lookup f47 = some ⟨oc47, od47, .func (PySem.W.fnOf "_law_alone" "_law_alone" (defArgs (top 47)) (defBody (top 47)) (defScope (top 47)) .none kV47 dc47 pm47 an47 (.ref c47) ct47), sl47⟩) (y47 : PySem.W.codeIn K (.ref c47) "_law_alone" = true) (k47 : PySem.W.keepIn K (.ref f47) = true)
    (a48 : PySem.W.nsIn K mainGlobals "_law_one" = some (some (.ref f48))) (l48 : K.lookup f48 = some ⟨oc48, od48, .func (PySem.W.fnOf "_law_one" "_law_one" (defArgs (top 48)) (defBody (top 48)) (defScope (top 48)) .none kV48 dc48 pm48 an48 (.ref c48) ct48), sl48⟩) (y48 : PySem.W.codeIn K (.ref c48) "_law_one" = true) (k48 : PySem.W.keepIn K (.ref f48) = true)
    (a49 : PySem.W.nsIn K mainGlobals "_law_two" = some (some (.ref f49))) (l49 : K.lookup f49 = some ⟨oc49, od49, .func (PySem.W.fnOf "_law_two" "_law_two" (defArgs (top 49)) (defBody (top 49)) (defScope (top 49)) .none kV49 dc49 pm49 an49 (.ref c49) ct49), sl49⟩) (y49 : PySem.W.codeIn K (.ref c49) "_law_two" = true) (k49 : PySem.W.keepIn K (.ref f49) = true)
    (a50 : PySem.W.nsIn K mainGlobals "_law_right" = some (some (.ref f50))) (l50 : K.lookup f50 = some ⟨oc50, od50, .func (PySem.W.fnOf "_law_right" "_law_right" (defArgs (top 50)) (defBody (top 50)) (defScope (top 50)) .none kV50 dc50 pm50 an50 cd50 ct50), sl50⟩) (y50 : PySem.W.codeIn K cd50 "_law_right" = true) (k50 : PySem.W.keepIn K (.ref f50) = true)
    (a51 : PySem.W.nsIn K mainGlobals "law" = some (some (.ref f51))) (l51 : K.lookup f51 = some ⟨oc51, od51, .func (PySem.W.fnOf "law" "law" (defArgs (top 51)) (defBody (top 51)) (defScope (top 51)) .none kV51 dc51 pm51 an51 cd51 ct51), sl51⟩) (y51 : PySem.W.codeIn K cd51 "law" = true) (k51 : PySem.W.keepIn K (.ref f51) = true)
    (z0 : PySem.W.nsIn K mainGlobals "isinstance" = some none)
    (z1 : PySem.W.nsIn K mainGlobals "int" = some none)
    (z2 : PySem.W.nsIn K mainGlobals "bool" = some none)
    (z3 : PySem.W.nsIn K mainGlobals "list" = some none)
    (z4 : PySem.W.nsIn K mainGlobals "tuple" = some none)
    (z5 : PySem.W.nsIn K mainGlobals "len" = some none)
    (z6 : PySem.W.nsIn K mainGlobals "all" = some none)
    (z7 : PySem.W.nsIn K mainGlobals "any" = some none)
    (z8 : PySem.W.nsIn K mainGlobals "range" = some none)
    (z9 : PySem.W.nsIn K mainGlobals "abs" = some none)
    (z10 : PySem.W.nsIn K mainGlobals "sum" = some none)
    (z11 : PySem.W.nsIn K mainGlobals "max" = some none)
    (z12 : PySem.W.nsIn K mainGlobals "divmod" = some none)
    (z13 : PySem.W.nsIn K mainGlobals "sorted" = some none)
    (z14 : PySem.W.nsIn K mainGlobals "set" = some none)
    (z15 : PySem.W.nsIn K mainGlobals "repr" = some none)
    (z16 : PySem.W.nsIn K mainGlobals "enumerate" = some none)
    (z17 : PySem.W.nsIn K mainGlobals "ValueError" = some none)
    : codeAny (model P w) callerA (.call (.ref fa) ⟨[.ref a], []⟩) (fun r s' => r = .ok (.ret (.bool true)) ∧ OldK s.heap s'.heap ∧ s'.os = s.os ∧ AllBare s'.gens) s := by
  have m1 : mg (Str.ofString "is_integer") = some (.ref f1) := PySem.W.mg_of X G.T.g a1
  have m2 : mg (Str.ofString "is_count") = some (.ref f2) := PySem.W.mg_of X G.T.g a2
  have m3 : mg (Str.ofString "is_count_below") = some (.ref f3) := PySem.W.mg_of X G.T.g a3
  have m4 : mg (Str.ofString "is_list") = some (.ref f4) := PySem.W.mg_of X G.T.g a4
  have m11 : mg (Str.ofString "is_table") = some (.ref f11) := PySem.W.mg_of X G.T.g a11
  have m12 : mg (Str.ofString "table_parts") = some (.ref f12) := PySem.W.mg_of X G.T.g a12
  have m13 : mg (Str.ofString "needed") = some (.ref f13) := PySem.W.mg_of X G.T.g a13
  have m14 : mg (Str.ofString "all_lists") = some (.ref f14) := PySem.W.mg_of X G.T.g a14
  have m15 : mg (Str.ofString "has_single_lists") = some (.ref f15) := PySem.W.mg_of X G.T.g a15
  have m16 : mg (Str.ofString "two_lists") = some (.ref f16) := PySem.W.mg_of X G.T.g a16
  have m17 : mg (Str.ofString "meet") = some (.ref f17) := PySem.W.mg_of X G.T.g a17
  have m18 : mg (Str.ofString "is_distributive") = some (.ref f18) := PySem.W.mg_of X G.T.g a18
  have m19 : mg (Str.ofString "has_differences") = some (.ref f19) := PySem.W.mg_of X G.T.g a19
  have m20 : mg (Str.ofString "table_difference") = some (.ref f20) := PySem.W.mg_of X G.T.g a20
  have m21 : mg (Str.ofString "two_differences") = some (.ref f21) := PySem.W.mg_of X G.T.g a21
  have m22 : mg (Str.ofString "check_table") = some (.ref f22) := PySem.W.mg_of X G.T.g a22
  have m23 : mg (Str.ofString "check_number") = some (.ref f23) := PySem.W.mg_of X G.T.g a23
  have m24 : mg (Str.ofString "has_table_form") = some (.ref f24) := PySem.W.mg_of X G.T.g a24
  have m25 : mg (Str.ofString "is_row") = some (.ref f25) := PySem.W.mg_of X G.T.g a25
  have m26 : mg (Str.ofString "keeps_join_rules") = some (.ref f26) := PySem.W.mg_of X G.T.g a26
  have m27 : mg (Str.ofString "lies_within") = some (.ref f27) := PySem.W.mg_of X G.T.g a27
  have m28 : mg (Str.ofString "states_within") = some (.ref f28) := PySem.W.mg_of X G.T.g a28
  have m29 : mg (Str.ofString "without") = some (.ref f29) := PySem.W.mg_of X G.T.g a29
  have m30 : mg (Str.ofString "joined_numbers") = some (.ref f30) := PySem.W.mg_of X G.T.g a30
  have m31 : mg (Str.ofString "joins_to") = some (.ref f31) := PySem.W.mg_of X G.T.g a31
  have m32 : mg (Str.ofString "is_part_in") = some (.ref f32) := PySem.W.mg_of X G.T.g a32
  have m33 : mg (Str.ofString "parts_in") = some (.ref f33) := PySem.W.mg_of X G.T.g a33
  have m34 : mg (Str.ofString "parts_below") = some (.ref f34) := PySem.W.mg_of X G.T.g a34
  have m35 : mg (Str.ofString "is_list_of") = some (.ref f35) := PySem.W.mg_of X G.T.g a35
  have m36 : mg (Str.ofString "lists_of") = some (.ref f36) := PySem.W.mg_of X G.T.g a36
  have m37 : mg (Str.ofString "meet_of") = some (.ref f37) := PySem.W.mg_of X G.T.g a37
  have m38 : mg (Str.ofString "meet_rows") = some (.ref f38) := PySem.W.mg_of X G.T.g a38
  have m39 : mg (Str.ofString "differences_of") = some (.ref f39) := PySem.W.mg_of X G.T.g a39
  have m40 : mg (Str.ofString "least_difference") = some (.ref f40) := PySem.W.mg_of X G.T.g a40
  have m41 : mg (Str.ofString "bare_differences") = some (.ref f41) := PySem.W.mg_of X G.T.g a41
  have m43 : mg (Str.ofString "_law_pot") = some (.ref f43) := PySem.W.mg_of X G.T.g a43
  have m44 : mg (Str.ofString "_law_draw") = some (.ref f44) := PySem.W.mg_of X G.T.g a44
  have m45 : mg (Str.ofString "_law_heard") = some (.ref f45) := PySem.W.mg_of X G.T.g a45
  have m46 : mg (Str.ofString "_law_are") = some (.ref f46) := PySem.W.mg_of X G.T.g a46
  have m47 : mg (Str.ofString "_law_alone") = some (.ref f47) := PySem.W.mg_of X G.T.g a47
  have m48 : mg (Str.ofString "_law_one") = some (.ref f48) := PySem.W.mg_of X G.T.g a48
  have m49 : mg (Str.ofString "_law_two") = some (.ref f49) := PySem.W.mg_of X G.T.g a49
  have m50 : mg (Str.ofString "_law_right") = some (.ref f50) := PySem.W.mg_of X G.T.g a50
  have m51 : mg (Str.ofString "law") = some (.ref f51) := PySem.W.mg_of X G.T.g a51
  have mm := PySem.W.mg_of X G.T.g am
  have u0 : mg (Str.ofString "isinstance") = none := PySem.W.mg_none_of X G.T.g z0
  have u1 : mg (Str.ofString "int") = none := PySem.W.mg_none_of X G.T.g z1
  have u2 : mg (Str.ofString "bool") = none := PySem.W.mg_none_of X G.T.g z2
  have u3 : mg (Str.ofString "list") = none := PySem.W.mg_none_of X G.T.g z3
  have u4 : mg (Str.ofString "tuple") = none := PySem.W.mg_none_of X G.T.g z4
  have u5 : mg (Str.ofString "len") = none := PySem.W.mg_none_of X G.T.g z5
  have u6 : mg (Str.ofString "all") = none := PySem.W.mg_none_of X G.T.g z6
  have u7 : mg (Str.ofString "any") = none := PySem.W.mg_none_of X G.T.g z7
  have u8 : mg (Str.ofString "range") = none := PySem.W.mg_none_of X G.T.g z8
  have u9 : mg (Str.ofString "abs") = none := PySem.W.mg_none_of X G.T.g z9
  have u10 : mg (Str.ofString "sum") = none := PySem.W.mg_none_of X G.T.g z10
  have u11 : mg (Str.ofString "max") = none := PySem.W.mg_none_of X G.T.g z11
  have u12 : mg (Str.ofString "divmod") = none := PySem.W.mg_none_of X G.T.g z12
  have u13 : mg (Str.ofString "sorted") = none := PySem.W.mg_none_of X G.T.g z13
  have u14 : mg (Str.ofString "set") = none := PySem.W.mg_none_of X G.T.g z14
  have u15 : mg (Str.ofString "repr") = none := PySem.W.mg_none_of X G.T.g z15
  have u16 : mg (Str.ofString "enumerate") = none := PySem.W.mg_none_of X G.T.g z16
  have u17 : mg (Str.ofString "ValueError") = none := PySem.W.mg_none_of X G.T.g z17
  have e1 := fOf_eq m1
  have e2 := fOf_eq m2
  have e3 := fOf_eq m3
  have e4 := fOf_eq m4
  have e11 := fOf_eq m11
  have e12 := fOf_eq m12
  have e13 := fOf_eq m13
  have e14 := fOf_eq m14
  have e15 := fOf_eq m15
  have e16 := fOf_eq m16
  have e17 := fOf_eq m17
  have e18 := fOf_eq m18
  have e19 := fOf_eq m19
  have e20 := fOf_eq m20
  have e21 := fOf_eq m21
  have e22 := fOf_eq m22
  have e23 := fOf_eq m23
  have e24 := fOf_eq m24
  have e25 := fOf_eq m25
  have e26 := fOf_eq m26
  have e27 := fOf_eq m27
  have e28 := fOf_eq m28
  have e29 := fOf_eq m29
  have e30 := fOf_eq m30
  have e31 := fOf_eq m31
  have e32 := fOf_eq m32
  have e33 := fOf_eq m33
  have e34 := fOf_eq m34
  have e35 := fOf_eq m35
  have e36 := fOf_eq m36
  have e37 := fOf_eq m37
  have e38 := fOf_eq m38
  have e39 := fOf_eq m39
  have e40 := fOf_eq m40
  have e41 := fOf_eq m41
  have e43 := fOf_eq m43
  have e44 := fOf_eq m44
  have e45 := fOf_eq m45
  have e46 := fOf_eq m46
  have e47 := fOf_eq m47
  have e48 := fOf_eq m48
  have e49 := fOf_eq m49
  have e50 := fOf_eq m50
  have e51 := fOf_eq m51
  subst e1
  subst e2
  subst e3
  subst e4
  subst e11
  subst e12
  subst e13
  subst e14
  subst e15
  subst e16
  subst e17
  subst e18
  subst e19
  subst e20
  subst e21
  subst e22
  subst e23
  subst e24
  subst e25
  subst e26
  subst e27
  subst e28
  subst e29
  subst e30
  subst e31
  subst e32
  subst e33
  subst e34
  subst e35
  subst e36
  subst e37
  subst e38
  subst e39
  subst e40
  subst e41
  subst e43
  subst e44
  subst e45
  subst e46
  subst e47
  subst e48
  subst e49
  subst e50
  subst e51
  have efa : fa = fOf mg "law" := by
    have := hmg.symm.trans m51
    cases this
    rfl
  have T : Tx mg (fOf mg) := by
    refine ⟨fun x hx => ?_, fun x hx => ?_, ⟨tm, mm⟩⟩
    · simp only [List.mem_cons, List.not_mem_nil, or_false] at hx
      rcases hx with rfl | rfl | rfl | rfl | rfl | rfl | rfl | rfl | rfl | rfl | rfl | rfl | rfl | rfl | rfl | rfl | rfl | rfl | rfl | rfl | rfl | rfl | rfl | rfl | rfl | rfl | rfl | rfl | rfl | rfl | rfl | rfl | rfl | rfl | rfl | rfl | rfl | rfl | rfl | rfl | rfl | rfl | rfl | rfl
      · exact m1
      · exact m2
      · exact m3
      · exact m4
      · exact m11
      · exact m12
      · exact m13
      · exact m14
      · exact m15
      · exact m16
      · exact m17
      · exact m18
      · exact m19
      · exact m20
      · exact m21
      · exact m22
      · exact m23
      · exact m24
      · exact m25
      · exact m26
      · exact m27
      · exact m28
      · exact m29
      · exact m30
      · exact m31
      · exact m32
      · exact m33
      · exact m34
      · exact m35
      · exact m36
      · exact m37
      · exact m38
      · exact m39
      · exact m40
      · exact m41
      · exact m43
      · exact m44
      · exact m45
      · exact m46
      · exact m47
      · exact m48
      · exact m49
      · exact m50
      · exact m51
    · simp only [List.mem_cons, List.not_mem_nil, or_false] at hx
      rcases hx with rfl | rfl | rfl | rfl | rfl | rfl | rfl | rfl | rfl | rfl | rfl | rfl | rfl | rfl | rfl | rfl | rfl | rfl
      · exact u0
      · exact u1
      · exact u2
      · exact u3
      · exact u4
      · exact u5
      · exact u6
      · exact u7
      · exact u8
      · exact u9
      · exact u10
      · exact u11
      · exact u12
      · exact u13
      · exact u14
      · exact u15
      · exact u16
      · exact u17
  have F1 := fun_mk (st := top 1) l1 y1 k1
  have B1 := F1.binds (ps := ["value"]) fun _ _ _ _ _ _ us hl => match us, hl with | [_], _ => rfl
  have F2 := fun_mk (st := top 2) l2 y2 k2
  have B2 := F2.binds (ps := ["value"]) fun _ _ _ _ _ _ us hl => match us, hl with | [_], _ => rfl
  have F3 := fun_mk (st := top 3) l3 y3 k3
  have B3 := F3.binds (ps := ["value", "bound"]) fun _ _ _ _ _ _ us hl => match us, hl with | [_, _], _ => rfl
  have F4 := fun_mk (st := top 4) l4 y4 k4
  have B4 := F4.binds (ps := ["value"]) fun _ _ _ _ _ _ us hl => match us, hl with | [_], _ => rfl
  have F11 := fun_mk (st := top 11) l11 y11 k11
  have B11 := F11.binds (ps := ["value"]) fun _ _ _ _ _ _ us hl => match us, hl with | [_], _ => rfl
  have F12 := fun_mk (st := top 12) l12 y12 k12
  have B12 := F12.binds (ps := ["table"]) fun _ _ _ _ _ _ us hl => match us, hl with | [_], _ => rfl
  have F13 := fun_mk (st := top 13) l13 y13 k13
  have B13 := F13.binds (ps := ["table", "number"]) fun _ _ _ _ _ _ us hl => match us, hl with | [_, _], _ => rfl
  have F14 := fun_mk (st := top 14) l14 y14 k14
  have B14 := F14.binds (ps := ["table", "number"]) fun _ _ _ _ _ _ us hl => match us, hl with | [_, _], _ => rfl
  have C15 : FunC K "has_single_lists" "has_single_lists" (top 15) (fOf mg "has_single_lists") _ c15 := ⟨⟨oc15, od15, kV15, dc15, pm15, an15, ct15, sl15, rfl, l15, y15⟩, k15⟩
  have F15 := C15.fn
  have B15 := F15.binds (ps := ["table"]) fun _ _ _ _ _ _ us hl => match us, hl with | [_], _ => rfl
  have F16 := fun_mk (st := top 16) l16 y16 k16
  have B16 := F16.binds (ps := ["table"]) fun _ _ _ _ _ _ us hl => match us, hl with | [_], _ => rfl
  have F17 := fun_mk (st := top 17) l17 y17 k17
  have B17 := F17.binds (ps := ["table", "one", "other"]) fun _ _ _ _ _ _ us hl => match us, hl with | [_, _, _], _ => rfl
  have F18 := fun_mk (st := top 18) l18 y18 k18
  have B18 := F18.binds (ps := ["table"]) fun _ _ _ _ _ _ us hl => match us, hl with | [_], _ => rfl
  have C19 : FunC K "has_differences" "has_differences" (top 19) (fOf mg "has_differences") _ c19 := ⟨⟨oc19, od19, kV19, dc19, pm19, an19, ct19, sl19, rfl, l19, y19⟩, k19⟩
  have F19 := C19.fn
  have B19 := F19.binds (ps := ["table"]) fun _ _ _ _ _ _ us hl => match us, hl with | [_], _ => rfl
  have F20 := fun_mk (st := top 20) l20 y20 k20
  have B20 := F20.binds (ps := ["table", "one", "other"]) fun _ _ _ _ _ _ us hl => match us, hl with | [_, _, _], _ => rfl
  have F21 := fun_mk (st := top 21) l21 y21 k21
  have B21 := F21.binds (ps := ["table"]) fun _ _ _ _ _ _ us hl => match us, hl with | [_], _ => rfl
  have F22 := fun_mk (st := top 22) l22 y22 k22
  have B22 := F22.binds (ps := ["table"]) fun _ _ _ _ _ _ us hl => match us, hl with | [_], _ => rfl
  have F23 := fun_mk (st := top 23) l23 y23 k23
  have B23 := F23.binds (ps := ["table", "number"]) fun _ _ _ _ _ _ us hl => match us, hl with | [_, _], _ => rfl
  have C24 : FunC K "has_table_form" "has_table_form" (top 24) (fOf mg "has_table_form") _ c24 := ⟨⟨oc24, od24, kV24, dc24, pm24, an24, ct24, sl24, rfl, l24, y24⟩, k24⟩
  have F24 := C24.fn
  have B24 := F24.binds (ps := ["value"]) fun _ _ _ _ _ _ us hl => match us, hl with | [_], _ => rfl
  have C25 : FunC K "is_row" "is_row" (top 25) (fOf mg "is_row") _ c25 := ⟨⟨oc25, od25, kV25, dc25, pm25, an25, ct25, sl25, rfl, l25, y25⟩, k25⟩
  have F25 := C25.fn
  have B25 := F25.binds (ps := ["value", "many"]) fun _ _ _ _ _ _ us hl => match us, hl with | [_, _], _ => rfl
  have F26 := fun_mk (st := top 26) l26 y26 k26
  have B26 := F26.binds (ps := ["rows"]) fun _ _ _ _ _ _ us hl => match us, hl with | [_], _ => rfl
  have F27 := fun_mk (st := top 27) l27 y27 k27
  have B27 := F27.binds (ps := ["table", "one", "other"]) fun _ _ _ _ _ _ us hl => match us, hl with | [_, _, _], _ => rfl
  have F28 := fun_mk (st := top 28) l28 y28 k28
  have B28 := F28.binds (ps := ["table", "number"]) fun _ _ _ _ _ _ us hl => match us, hl with | [_, _], _ => rfl
  have F29 := fun_mk (st := top 29) l29 y29 k29
  have B29 := F29.binds (ps := ["numbers", "number"]) fun _ _ _ _ _ _ us hl => match us, hl with | [_, _], _ => rfl
  have F30 := fun_mk (st := top 30) l30 y30 k30
  have B30 := F30.binds (ps := ["table", "numbers"]) fun _ _ _ _ _ _ us hl => match us, hl with | [_, _], _ => rfl
  have F31 := fun_mk (st := top 31) l31 y31 k31
  have B31 := F31.binds (ps := ["table", "numbers", "goal"]) fun _ _ _ _ _ _ us hl => match us, hl with | [_, _, _], _ => rfl
  have C32 : FunC K "is_part_in" "is_part_in" (top 32) (fOf mg "is_part_in") _ c32 := ⟨⟨oc32, od32, kV32, dc32, pm32, an32, ct32, sl32, rfl, l32, y32⟩, k32⟩
  have F32 := C32.fn
  have B32 := F32.binds (ps := ["table", "number"]) fun _ _ _ _ _ _ us hl => match us, hl with | [_, _], _ => rfl
  have F33 := fun_mk (st := top 33) l33 y33 k33
  have B33 := F33.binds (ps := ["table"]) fun _ _ _ _ _ _ us hl => match us, hl with | [_], _ => rfl
  have F34 := fun_mk (st := top 34) l34 y34 k34
  have B34 := F34.binds (ps := ["table", "number"]) fun _ _ _ _ _ _ us hl => match us, hl with | [_, _], _ => rfl
  have C35 : FunC K "is_list_of" "is_list_of" (top 35) (fOf mg "is_list_of") _ c35 := ⟨⟨oc35, od35, kV35, dc35, pm35, an35, ct35, sl35, rfl, l35, y35⟩, k35⟩
  have F35 := C35.fn
  have B35 := F35.binds (ps := ["table", "parts", "number"]) fun _ _ _ _ _ _ us hl => match us, hl with | [_, _, _], _ => rfl
  have F36 := fun_mk (st := top 36) l36 y36 k36
  have B36 := F36.binds (ps := ["table", "number"]) fun _ _ _ _ _ _ us hl => match us, hl with | [_, _], _ => rfl
  have F37 := fun_mk (st := top 37) l37 y37 k37
  have B37 := F37.binds (ps := ["table", "one", "other"]) fun _ _ _ _ _ _ us hl => match us, hl with | [_, _, _], _ => rfl
  have F38 := fun_mk (st := top 38) l38 y38 k38
  have B38 := F38.binds (ps := ["table"]) fun _ _ _ _ _ _ us hl => match us, hl with | [_], _ => rfl
  have F39 := fun_mk (st := top 39) l39 y39 k39
  have B39 := F39.binds (ps := ["table", "one", "other"]) fun _ _ _ _ _ _ us hl => match us, hl with | [_, _, _], _ => rfl
  have C40 : FunC K "least_difference" "least_difference" (top 40) (fOf mg "least_difference") _ c40 := ⟨⟨oc40, od40, kV40, dc40, pm40, an40, ct40, sl40, rfl, l40, y40⟩, k40⟩
  have F40 := C40.fn
  have B40 := F40.binds (ps := ["table", "one", "other"]) fun _ _ _ _ _ _ us hl => match us, hl with | [_, _, _], _ => rfl
  have C41 : FunC K "bare_differences" "bare_differences" (top 41) (fOf mg "bare_differences") _ c41 := ⟨⟨oc41, od41, kV41, dc41, pm41, an41, ct41, sl41, rfl, l41, y41⟩, k41⟩
  have F41 := C41.fn
  have B41 := F41.binds (ps := ["table", "one", "other"]) fun _ _ _ _ _ _ us hl => match us, hl with | [_, _, _], _ => rfl
  have F43 := fun_mk (st := top 43) l43 y43 k43
  have B43 := F43.binds (ps := ["_law_script", "_law_k"]) fun _ _ _ _ _ _ us hl => match us, hl with | [_, _], _ => rfl
  have F44 := fun_mk (st := top 44) l44 y44 k44
  have B44 := F44.binds (ps := ["_law_pot_here", "_law_sides"]) fun _ _ _ _ _ _ us hl => match us, hl with | [_, _], _ => rfl
  have F45 := fun_mk (st := top 45) l45 y45 k45
  have B45 := F45.binds (ps := ["_law_call"]) fun _ _ _ _ _ _ us hl => match us, hl with | [_], _ => rfl
  have F46 := fun_mk (st := top 46) l46 y46 k46
  have B46 := F46.binds (ps := ["_law_calls", "_law_due"]) fun _ _ _ _ _ _ us hl => match us, hl with | [_, _], _ => rfl
  have C47 : FunC K "_law_alone" "_law_alone" (top 47) (fOf mg "_law_alone") _ c47 := ⟨⟨oc47, od47, kV47, dc47, pm47, an47, ct47, sl47, rfl, l47, y47⟩, k47⟩
  have F47 := C47.fn
  have B47 := F47.binds (ps := ["_law_table"]) fun _ _ _ _ _ _ us hl => match us, hl with | [_], _ => rfl
  have C48 : FunC K "_law_one" "_law_one" (top 48) (fOf mg "_law_one") _ c48 := ⟨⟨oc48, od48, kV48, dc48, pm48, an48, ct48, sl48, rfl, l48, y48⟩, k48⟩
  have F48 := C48.fn
  have B48 := F48.binds (ps := ["_law_table", "_law_number"]) fun _ _ _ _ _ _ us hl => match us, hl with | [_, _], _ => rfl
  have C49 : FunC K "_law_two" "_law_two" (top 49) (fOf mg "_law_two") _ c49 := ⟨⟨oc49, od49, kV49, dc49, pm49, an49, ct49, sl49, rfl, l49, y49⟩, k49⟩
  have F49 := C49.fn
  have B49 := F49.binds (ps := ["_law_table", "_law_one_here", "_law_other"]) fun _ _ _ _ _ _ us hl => match us, hl with | [_, _, _], _ => rfl
  have F50 := fun_mk (st := top 50) l50 y50 k50
  have B50 := F50.binds (ps := ["_law_pot_here"]) fun _ _ _ _ _ _ us hl => match us, hl with | [_], _ => rfl
  have F51 := fun_mk (st := top 51) l51 y51 k51
  have B51 := F51.binds (ps := ["_law_script"]) fun _ _ _ _ _ _ us hl => match us, hl with | [_], _ => rfl
  have BL : ∀ (s : Shared) (v : Value), BindsTo s (PySem.W.fnOf "law" "law" (defArgs (top 51)) (defBody (top 51)) (defScope (top 51)) .none kV51 dc51 pm51 an51 cd51 ct51) ⟨[v], []⟩ [("_law_script", v)] := fun s v => .of_eq rfl
  obtain ⟨h25, q25⟩ := PySem.W.tab_of G.T X r25 t25
  obtain ⟨h24, q24⟩ := PySem.W.tab_of G.T X r24 t24
  obtain ⟨h32, q32⟩ := PySem.W.tab_of G.T X r32 t32
  obtain ⟨h35, q35⟩ := PySem.W.tab_of G.T X r35 t35
  obtain ⟨h15, q15⟩ := PySem.W.tab_of G.T X r15 t15
  obtain ⟨h40, q40⟩ := PySem.W.tab_of G.T X r40 t40
  obtain ⟨h41, q41⟩ := PySem.W.tab_of G.T X r41 t41
  obtain ⟨h19, q19⟩ := PySem.W.tab_of G.T X r19 t19
  obtain ⟨h47, q47⟩ := PySem.W.tab_of G.T X r47 t47
  obtain ⟨h48, q48⟩ := PySem.W.tab_of G.T X r48 t48
  obtain ⟨h49, q49⟩ := PySem.W.tab_of G.T X r49 t49
  have CC : Cls3 K mg CT fIT CN fIN CP := ⟨PySem.LowX.low_mk X G.T.g (by decide) aCT xLT veT saT gaT ggT nbT iCT tIT lIT cIT kCT eCT tCT hCT teT, PySem.LowX.low_mk X G.T.g (by decide) aCN xLN veN saN gaN ggN nbN iCN tIN lIN cIN kCN eCN tCN hCN teN, ⟨clT, gaT, ggT, eCT, haT, hn, ht, hmT⟩, ⟨clN, gaN, ggN, eCN, haN, hn, ht, hmN⟩, PySem.W.mg_of X G.T.g aP, nt, kPT, kPN⟩
  obtain ⟨hu1, hu2, hu3, dis⟩ := tabs3 (x := qlam "_law_alone") (y := qlam "_law_one") (z := qlam "_law_two") nd
  rw [efa]
  have each : ∀ {C : Addr × Addr → Prop}, C (c25, T25) → C (c24, T24) → C (c32, T32) → C (c35, T35) → C (c15, T15) → C (c40, T40) → C (c41, T41) → C (c19, T19) → C (c47, T47) → C (c48, T48) → C (c49, T49) → ∀ q ∈ ([(c25, T25), (c24, T24), (c32, T32), (c35, T35), (c15, T15), (c40, T40), (c41, T41), (c19, T19), (c47, T47), (c48, T48), (c49, T49)] : List (Addr × Addr)), C q := fun x25 x24 x32 x35 x15 x40 x41 x19 x47 x48 x49 q hq => by
    simp only [List.mem_cons, List.not_mem_nil, or_false] at hq
    rcases hq with rfl | rfl | rfl | rfl | rfl | rfl | rfl | rfl | rfl | rfl | rfl
    · exact x25
    · exact x24
    · exact x32
    · exact x35
    · exact x15
    · exact x40
    · exact x41
    · exact x19
    · exact x47
    · exact x48
    · exact x49
  refine law_end (k := 15) (x := "_law_script") (cs := [(c25, T25), (c24, T24), (c32, T32), (c35, T35), (c15, T15), (c40, T40), (c41, T41), (c19, T19), (c47, T47), (c48, T48), (c49, T49)]) (sp := spLaw K [(T47, qlam "_law_alone"), (T48, qlam "_law_one"), (T49, qlam "_law_two")] [T15, T32, T35, T24, T25, T40, T41, T19]) X G.T.g G.T.b G.T.builtins G.T.nolimit ge (by obtain ⟨mm, z, _⟩ := (G.T.seer imp).mods; exact ⟨mm, z⟩) (each q25 q24 q32 q35 q15 q40 q41 q19 q47 q48 q49) (each n25 n24 n32 n35 n15 n40 n41 n19 n47 n48 n49) (each h25 h24 h32 h35 h15 h40 h41 h19 h47 h48 h49) G.T.bmain oa ia (Nat.le_trans la (by decide)) ⟨rfl, by decide, by decide⟩ rfl
    (fun base Xb gb smo TB => ?_) (fun s v => BL s v) (fun H hH hS => ⟨a, ns, rfl, hS, fun pr hp => ?_, fun T hT => ?_, fun _ => rfl⟩)
  rotate_left
  · simp only [List.mem_cons, List.not_mem_nil, or_false] at hp
    rcases hp with rfl | rfl | rfl
    · exact ⟨#[], hH (c47, T47) (by simp), trivial, fun pos cv h => by cases h⟩
    · exact ⟨#[], hH (c48, T48) (by simp), trivial, fun pos cv h => by cases h⟩
    · exact ⟨#[], hH (c49, T49) (by simp), trivial, fun pos cv h => by cases h⟩
  · simp only [List.mem_cons, List.not_mem_nil, or_false] at hT
    rcases hT with e | e | e | e | e | e | e | e
    · rw [e]; exact ⟨#[], hH (c15, T15) (by simp), trivial⟩
    · rw [e]; exact ⟨#[], hH (c32, T32) (by simp), trivial⟩
    · rw [e]; exact ⟨#[], hH (c35, T35) (by simp), trivial⟩
    · rw [e]; exact ⟨#[], hH (c24, T24) (by simp), trivial⟩
    · rw [e]; exact ⟨#[], hH (c25, T25) (by simp), trivial⟩
    · rw [e]; exact ⟨#[], hH (c40, T40) (by simp), trivial⟩
    · rw [e]; exact ⟨#[], hH (c41, T41) (by simp), trivial⟩
    · rw [e]; exact ⟨#[], hH (c19, T19) (by simp), trivial⟩
  have TB25 := TB (c25, T25) (by simp)
  have TB24 := TB (c24, T24) (by simp)
  have TB32 := TB (c32, T32) (by simp)
  have TB35 := TB (c35, T35) (by simp)
  have TB15 := TB (c15, T15) (by simp)
  have TB40 := TB (c40, T40) (by simp)
  have TB41 := TB (c41, T41) (by simp)
  have TB19 := TB (c19, T19) (by simp)
  have TB47 := TB (c47, T47) (by simp)
  have TB48 := TB (c48, T48) (by simp)
  have TB49 := TB (c49, T49) (by simp)
  have TL47 : LamX.TabB base mg c47 T47 := ⟨TB47.code, TB47.bm, TB47.gP⟩
  have TL48 : LamX.TabB base mg c48 T48 := ⟨TB48.code, TB48.bm, TB48.gP⟩
  have TL49 : LamX.TabB base mg c49 T49 := ⟨TB49.code, TB49.bm, TB49.gP⟩
  have G1 := ok1 (P := P) (w := w) (mg := mg) (base := base) T F1
  have G2 := ok2 T F2 G1 B1 k1
  have G3 := ok3 T F3 G2 B2 k2
  have G4 := ok4 (P := P) (w := w) (mg := mg) (base := base) T F4
  have G25 := ok9 T C25 TB25 G4 B4 k4 G3 B3 k3
  have G24 := ok8 T C24 TB24 G4 B4 k4 G25 B25 k25
  have G26 := ok10 (P := P) (w := w) (mg := mg) (base := base) T F26
  have G11 := ok7 T F11 G24 B24 k24 G26 B26 k26
  have G43 := ok12 (P := P) (w := w) (mg := mg) (base := base) T F43
  have G44 := ok13 (P := P) (w := w) (mg := mg) (base := base) T F44
  have G27 := ok_lw (P := P) (w := w) (mg := mg) (base := base) F27
  have G28 := ok_sw T F28 G27 B27 k27
  have G29 := ok_wo (P := P) (w := w) (mg := mg) (base := base) F29
  have G30 := ok_jn (P := P) (w := w) (mg := mg) (base := base) F30
  have G31 := ok_jt T F31 G30 B30 k30
  have G32 := ok_pi T C32 TB32 G28 B28 k28 G29 B29 k29
  have G33 := ok_pn T F33 G32 B32 k32
  have G34 := ok_pb T F34 G33 B33 k33 G27 B27 k27
  have G35 := ok_il T C35 TB35 G31 B31 k31 G29 B29 k29
  have G36 := ok_lo T F36 G34 B34 k34 G35 B35 k35
  have G22 := ok_ct T F22 G11 B11 k11
  have G23 := ok_cn T F23 G3 B3 k3
  have G12 := ok_tp T F12 G22 B22 k22 G33 B33 k33
  have G13 := ok_nd T F13 G22 B22 k22 G23 B23 k23 G34 B34 k34 G31 B31 k31 G29 B29 k29
  have G14 := ok_al T F14 G22 B22 k22 G23 B23 k23 G36 B36 k36
  have G15 := ok_hs T C15 TB15 G22 B22 k22 G36 B36 k36
  have G16 := ok_tl T F16 G22 B22 k22 G36 B36 k36
  have G37 := ok_mo T F37 G28 B28 k28 G27 B27 k27 G30 B30 k30
  have G17 := ok_me T F17 G22 B22 k22 G23 B23 k23 G37 B37 k37
  have G39 := ok_do T F39 G27 B27 k27
  have G40 := ok_ld T C40 TB40 G39 B39 k39 G27 B27 k27
  have G20 := ok_td T F20 G22 B22 k22 G23 B23 k23 G40 B40 k40
  have G41 := ok_bd T C41 TB41 G39 B39 k39 G27 B27 k27 G29 B29 k29
  have G21 := ok_tw T F21 G22 B22 k22 G40 B40 k40 G41 B41 k41
  have G19 := ok_hd T C19 TB19 G22 B22 k22 G40 B40 k40
  have G38 := ok_mr T F38 G37 B37 k37
  have G18 := ok_di T F18 G22 B22 k22 G38 B38 k38
  have X22 := okX_ct T CC.T F22 G11 B11 k11
  have X23 := okX_cn T CC.N F23 G3 B3 k3
  have R12 := okR_tp T F12 X22 B22 k22
  have A12 := bo_tp (Ph := T15) (Pp := T32) (Pq := T35) (P8 := T24) (Pt := T25) (Pl := T40) (Pb := T41) (Pd := T19) G12 R12
  have R15 := okR_hs T F15 X22 B22 k22
  have A15 := bo_hs (Ph := T15) (Pp := T32) (Pq := T35) (P8 := T24) (Pt := T25) (Pl := T40) (Pb := T41) (Pd := T19) G15 R15
  have R16 := okR_tl T F16 X22 B22 k22
  have A16 := bo_tl (Ph := T15) (Pp := T32) (Pq := T35) (P8 := T24) (Pt := T25) (Pl := T40) (Pb := T41) (Pd := T19) G16 R16
  have R18 := okR_di T F18 X22 B22 k22
  have A18 := bo_di (Ph := T15) (Pp := T32) (Pq := T35) (P8 := T24) (Pt := T25) (Pl := T40) (Pb := T41) (Pd := T19) G18 R18
  have R19 := okR_hd T F19 X22 B22 k22
  have A19 := bo_hd (Ph := T15) (Pp := T32) (Pq := T35) (P8 := T24) (Pt := T25) (Pl := T40) (Pb := T41) (Pd := T19) G19 R19
  have R21 := okR_tw T F21 X22 B22 k22
  have A21 := bo_tw (Ph := T15) (Pp := T32) (Pq := T35) (P8 := T24) (Pt := T25) (Pl := T40) (Pb := T41) (Pd := T19) G21 R21
  have R13 := okR_nd T F13 X22 B22 k22 X23 B23 k23
  have A13 := bo_nd (Ph := T15) (Pp := T32) (Pq := T35) (P8 := T24) (Pt := T25) (Pl := T40) (Pb := T41) (Pd := T19) G13 R13
  have R14 := okR_al T F14 X22 B22 k22 X23 B23 k23
  have A14 := bo_al (Ph := T15) (Pp := T32) (Pq := T35) (P8 := T24) (Pt := T25) (Pl := T40) (Pb := T41) (Pd := T19) G14 R14
  have R17 := okR_me T F17 X22 B22 k22 X23 B23 k23
  have A17 := bo_me (Ph := T15) (Pp := T32) (Pq := T35) (P8 := T24) (Pt := T25) (Pl := T40) (Pb := T41) (Pd := T19) G17 R17
  have R20 := okR_td T F20 X22 B22 k22 X23 B23 k23
  have A20 := bo_td (Ph := T15) (Pp := T32) (Pq := T35) (P8 := T24) (Pt := T25) (Pl := T40) (Pb := T41) (Pd := T19) G20 R20
  have G47 := ok_la (CN := CN) T C47 TL47 hu1 dis A12 B12 k12 A15 B15 k15 A16 (fun s ws hl => match ws, hl with | [_], _ => .of_eq rfl) k16 A18 B18 k18 A19 (fun s ws hl => match ws, hl with | [_], _ => .of_eq rfl) k19 A21 B21 k21
  have G48 := ok_l1 T C48 TL48 hu2 dis A13 B13 k13 A14 (fun s ws hl => match ws, hl with | [_, _], _ => .of_eq rfl) k14
  have G49 := ok_l2 T C49 TL49 hu3 dis A17 B17 k17 A20 (fun s ws hl => match ws, hl with | [_, _, _], _ => .of_eq rfl) k20
  have G45 := ok_he (Ts := [(T47, qlam "_law_alone"), (T48, qlam "_law_one"), (T49, qlam "_law_two")]) (Gs := [T15, T32, T35, T24, T25, T40, T41, T19]) (w := w) (P := P) T CC smo F45
  have G46 := ok_ar T F46 G45 B45 k45
  have G50 := ok_lr T smo (by simp) (by simp) (by simp) F50 (bo_draw G44) B44 k44 G47 B47 k47 G48 B48 k48 G49 B49 k49 G46 B46 k46
  exact ok_law T F51 (bo_pot G43) B43 k43 G50 B50 k50
end Tb

open PySem PySem.W PyProof.Rows
set_option maxRecDepth 100000 in
set_option maxHeartbeats 0 in
theorem PySem.Challenge.cw_partsmet_k30_tables_refused_holds : PySem.Challenge.rw_partsmet_k30_tables_refused.Holds := by
  w_on; o_law; k_head; (case hw => w_witness2)
  k_fill
  refine Att.attach_callB (l := PySem.Challenge.rw_partsmet_k30_tables_refused) (n := 63) rfl rfl fun w s0 s1 mg mb fa o pm cd doc a us ns G Y ho hd hcd hmg hobj hints hlen hbits hg => ?_
  have KX := PySem.W.km_in_of Y
  refine' Tb.said G KX hmg ?imp hg hobj hints hlen ?r25 ?t25 ?n25 ?r24 ?t24 ?n24 ?r32 ?t32 ?n32 ?r35 ?t35 ?n35 ?r15 ?t15 ?n15 ?r40 ?t40 ?n40 ?r41 ?t41 ?n41 ?r19 ?t19 ?n19 ?r47 ?t47 ?n47 ?r48 ?t48 ?n48 ?r49 ?t49 ?n49 ?nd ?am ?aCT ?xLT ?veT ?saT ?gaT ?ggT ?nbT ?iCT ?tIT ?lIT ?cIT ?kCT ?eCT ?tCT ?hCT ?teT ?clT ?haT ?hmT ?kPT ?aCN ?xLN ?veN ?saN ?gaN ?ggN ?nbN ?iCN ?tIN ?lIN ?cIN ?kCN ?eCN ?tCN ?hCN ?teN ?clN ?haN ?hmN ?kPN ?aP ?nt ?hn ?ht ?a1 ?l1 ?y1 ?k1 ?a2 ?l2 ?y2 ?k2 ?a3 ?l3 ?y3 ?k3 ?a4 ?l4 ?y4 ?k4 ?a11 ?l11 ?y11 ?k11 ?a12 ?l12 ?y12 ?k12 ?a13 ?l13 ?y13 ?k13 ?a14 ?l14 ?y14 ?k14 ?a15 ?l15 ?y15 ?k15 ?a16 ?l16 ?y16 ?k16 ?a17 ?l17 ?y17 ?k17 ?a18 ?l18 ?y18 ?k18 ?a19 ?l19 ?y19 ?k19 ?a20 ?l20 ?y20 ?k20 ?a21 ?l21 ?y21 ?k21 ?a22 ?l22 ?y22 ?k22 ?a23 ?l23 ?y23 ?k23 ?a24 ?l24 ?y24 ?k24 ?a25 ?l25 ?y25 ?k25 ?a26 ?l26 ?y26 ?k26 ?a27 ?l27 ?y27 ?k27 ?a28 ?l28 ?y28 ?k28 ?a29 ?l29 ?y29 ?k29 ?a30 ?l30 ?y30 ?k30 ?a31 ?l31 ?y31 ?k31 ?a32 ?l32 ?y32 ?k32 ?a33 ?l33 ?y33 ?k33 ?a34 ?l34 ?y34 ?k34 ?a35 ?l35 ?y35 ?k35 ?a36 ?l36 ?y36 ?k36 ?a37 ?l37 ?y37 ?k37 ?a38 ?l38 ?y38 ?k38 ?a39 ?l39 ?y39 ?k39 ?a40 ?l40 ?y40 ?k40 ?a41 ?l41 ?y41 ?k41 ?a43 ?l43 ?y43 ?k43 ?a44 ?l44 ?y44 ?k44 ?a45 ?l45 ?y45 ?k45 ?a46 ?l46 ?y46 ?k46 ?a47 ?l47 ?y47 ?k47 ?a48 ?l48 ?y48 ?k48 ?a49 ?l49 ?y49 ?k49 ?a50 ?l50 ?y50 ?k50 ?a51 ?l51 ?y51 ?k51 ?z0 ?z1 ?z2 ?z3 ?z4 ?z5 ?z6 ?z7 ?z8 ?z9 ?z10 ?z11 ?z12 ?z13 ?z14 ?z15 ?z16 ?z17
  case aP => k_is
  case imp => decide +kernel
  case r25 => rfl
  case t25 => rfl
  case n25 => rfl
  case r24 => rfl
  case t24 => rfl
  case n24 => rfl
  case r32 => rfl
  case t32 => rfl
  case n32 => rfl
  case r35 => rfl
  case t35 => rfl
  case n35 => rfl
  case r15 => rfl
  case t15 => rfl
  case n15 => rfl
  case r40 => rfl
  case t40 => rfl
  case n40 => rfl
  case r41 => rfl
  case t41 => rfl
  case n41 => rfl
  case r19 => rfl
  case t19 => rfl
  case n19 => rfl
  case r47 => rfl
  case t47 => rfl
  case n47 => rfl
  case r48 => rfl
  case t48 => rfl
  case n48 => rfl
  case r49 => rfl
  case t49 => rfl
  case n49 => rfl
  case nd => decide +kernel
  case am => k_is
  case aCT => k_is
  case xLT => k_is
  case veT => first | rfl | decide +kernel
  case saT => k_is
  case gaT => k_is
  case ggT => k_is
  case nbT => k_is
  case iCT => k_is
  case tIT => k_is
  case lIT => k_is
  case cIT => k_is
  case kCT => k_is
  case eCT => first | rfl | k_is | decide +kernel
  case tCT => k_is
  case hCT => k_is
  case teT => first | rfl | k_is | decide +kernel
  case clT => first | rfl | k_is | decide +kernel
  case haT => k_is
  case hmT => first | rfl | k_is | decide +kernel
  case kPT => first | rfl | k_is | decide +kernel
  case aCN => k_is
  case xLN => k_is
  case veN => first | rfl | decide +kernel
  case saN => k_is
  case gaN => k_is
  case ggN => k_is
  case nbN => k_is
  case iCN => k_is
  case tIN => k_is
  case lIN => k_is
  case cIN => k_is
  case kCN => k_is
  case eCN => first | rfl | k_is | decide +kernel
  case tCN => k_is
  case hCN => k_is
  case teN => first | rfl | k_is | decide +kernel
  case clN => first | rfl | k_is | decide +kernel
  case haN => k_is
  case hmN => first | rfl | k_is | decide +kernel
  case kPN => first | rfl | k_is | decide +kernel
  case nt => first | rfl | k_is | decide +kernel
  case hn => k_is
  case ht => first | rfl | k_is | decide +kernel
  case a1 => k_is
  case l1 => k_is
  case y1 => k_is
  case k1 => k_is
  case a2 => k_is
  case l2 => k_is
  case y2 => k_is
  case k2 => k_is
  case a3 => k_is
  case l3 => k_is
  case y3 => k_is
  case k3 => k_is
  case a4 => k_is
  case l4 => k_is
  case y4 => k_is
  case k4 => k_is
  case a11 => k_is
  case l11 => k_is
  case y11 => k_is
  case k11 => k_is
  case a12 => k_is
  case l12 => k_is
  case y12 => k_is
  case k12 => k_is
  case a13 => k_is
  case l13 => k_is
  case y13 => k_is
  case k13 => k_is
  case a14 => k_is
  case l14 => k_is
  case y14 => k_is
  case k14 => k_is
  case a15 => k_is
  case l15 => k_is
  case y15 => k_is
  case k15 => k_is
  case a16 => k_is
  case l16 => k_is
  case y16 => k_is
  case k16 => k_is
  case a17 => k_is
  case l17 => k_is
  case y17 => k_is
  case k17 => k_is
  case a18 => k_is
  case l18 => k_is
  case y18 => k_is
  case k18 => k_is
  case a19 => k_is
  case l19 => k_is
  case y19 => k_is
  case k19 => k_is
  case a20 => k_is
  case l20 => k_is
  case y20 => k_is
  case k20 => k_is
  case a21 => k_is
  case l21 => k_is
  case y21 => k_is
  case k21 => k_is
  case a22 => k_is
  case l22 => k_is
  case y22 => k_is
  case k22 => k_is
  case a23 => k_is
  case l23 => k_is
  case y23 => k_is
  case k23 => k_is
  case a24 => k_is
  case l24 => k_is
  case y24 => k_is
  case k24 => k_is
  case a25 => k_is
  case l25 => k_is
  case y25 => k_is
  case k25 => k_is
  case a26 => k_is
  case l26 => k_is
  case y26 => k_is
  case k26 => k_is
  case a27 => k_is
  case l27 => k_is
  case y27 => k_is
  case k27 => k_is
  case a28 => k_is
  case l28 => k_is
  case y28 => k_is
  case k28 => k_is
  case a29 => k_is
  case l29 => k_is
  case y29 => k_is
  case k29 => k_is
  case a30 => k_is
  case l30 => k_is
  case y30 => k_is
  case k30 => k_is
  case a31 => k_is
  case l31 => k_is
  case y31 => k_is
  case k31 => k_is
  case a32 => k_is
  case l32 => k_is
  case y32 => k_is
  case k32 => k_is
  case a33 => k_is
  case l33 => k_is
  case y33 => k_is
  case k33 => k_is
  case a34 => k_is
  case l34 => k_is
  case y34 => k_is
  case k34 => k_is
  case a35 => k_is
  case l35 => k_is
  case y35 => k_is
  case k35 => k_is
  case a36 => k_is
  case l36 => k_is
  case y36 => k_is
  case k36 => k_is
  case a37 => k_is
  case l37 => k_is
  case y37 => k_is
  case k37 => k_is
  case a38 => k_is
  case l38 => k_is
  case y38 => k_is
  case k38 => k_is
  case a39 => k_is
  case l39 => k_is
  case y39 => k_is
  case k39 => k_is
  case a40 => k_is
  case l40 => k_is
  case y40 => k_is
  case k40 => k_is
  case a41 => k_is
  case l41 => k_is
  case y41 => k_is
  case k41 => k_is
  case a43 => k_is
  case l43 => k_is
  case y43 => k_is
  case k43 => k_is
  case a44 => k_is
  case l44 => k_is
  case y44 => k_is
  case k44 => k_is
  case a45 => k_is
  case l45 => k_is
  case y45 => k_is
  case k45 => k_is
  case a46 => k_is
  case l46 => k_is
  case y46 => k_is
  case k46 => k_is
  case a47 => k_is
  case l47 => k_is
  case y47 => k_is
  case k47 => k_is
  case a48 => k_is
  case l48 => k_is
  case y48 => k_is
  case k48 => k_is
  case a49 => k_is
  case l49 => k_is
  case y49 => k_is
  case k49 => k_is
  case a50 => k_is
  case l50 => k_is
  case y50 => k_is
  case k50 => k_is
  case a51 => k_is
  case l51 => k_is
  case y51 => k_is
  case k51 => k_is
  case z0 => k_is
  case z1 => k_is
  case z2 => k_is
  case z3 => k_is
  case z4 => k_is
  case z5 => k_is
  case z6 => k_is
  case z7 => k_is
  case z8 => k_is
  case z9 => k_is
  case z10 => k_is
  case z11 => k_is
  case z12 => k_is
  case z13 => k_is
  case z14 => k_is
  case z15 => k_is
  case z16 => k_is
  case z17 => k_is
