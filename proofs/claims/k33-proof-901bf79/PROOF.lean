import PyProof.Rows.All
import Wide.All
import OpenK.AllK
import Wide.FinOn
import HandS.ForMost
import HandS.AnyAll
import HandS.GenOver
import HandS.IsInst
import HandS.Strs
import HandS.SetFor
import HandS.Deep
import HandS.Conv
import HandS.Style
import HandS.Sort
import PyProof.ReprRoads
import PyProof.CallFns
import HandS.EndTab
import PySem.Challenge.RW_partsmet_k33_any_value_as_table
set_option Elab.async false
set_option linter.all false
set_option maxRecDepth 100000
set_option maxHeartbeats 4000000
/-! all(..), any(..) of a generator expression of one clause, whose element may do whatever an expression of the layer does. -/
namespace Gx
open PySem PySem.Spec PyProof.Rows L2

/-- the scope of the generator expression, over the scope of the def around -/
structure GScp (N : List Str) (sc scope : Scope) (x : Str) (ix : Nat) : Prop where
  kind : scope.kind = .function
  co : scope.isCoroutine = false
  cell : ∀ y ∈ scope.names, y.2 ≠ .cell
  dot : scope.names.lookup (".0" : Str) = some NameKind.local
  loc : ∀ y, scope.names.lookup y = some .local → y = (".0" : Str) ∨ y = x
  xl : scope.names.lookup x = some .local
  free : ∀ y ∈ scope.names, y.2 = .free → sc.names.lookup y.1 = some .cell ∨ sc.names.lookup y.1 = some .free
  nd : N.Nodup
  spot : N[ix]? = some x
  nodot : (".0" : Str) ∉ N

/-- the context in which the generator's code runs: entered at s -/
def gcx (X : Cx) (A : Around) (s : Shared) (H : Hp) (env : Env) (fp : List Addr) : Cx where
  prog := X.prog
  w := X.w
  K := X.K
  mg := X.mg
  base := X.base
  A := A
  N := X.N
  s_0 := s
  H_0 := H
  env := env
  outer := X.stack
  stack := env :: X.stack
  ex := fp
  fn := fun _ => false
  calm := true
  pn := []
  xe := fun _ _ => False

/-- states with other generators alone -/
theorem inv_gens {X : Cx} {pins : List (Addr × Obj)} {σ : L2.St} {H : Hp} {s : Shared} (I : Inv X pins σ H s) {g' : Array GenState} (hb : AllBare g') : Inv X pins σ H { s with gens := g' } :=
  ⟨I.ok, I.os, hb, I.base, I.loc, I.cell, I.free, I.freeC, I.pin, I.hok, I.len⟩
theorem bare_set {G : Array GenState} {g : Nat} {x : GenState} (h : AllBare G) (hx : x.bare = true) : AllBare (G.setIfInBounds g x) := by
  intro y hy
  rcases Array.mem_or_eq_of_mem_setIfInBounds hy with q | q
  · exact h y q
  · rw [q]; exact hx

section
variable {X : Cx} {pins : List (Addr × Obj)} {σ : L2.St} {H : Hp} {s : Shared}

theorem clo_sub {env : Env} {scope : Scope} (has : ∀ y ∈ scope.names, y.2 = .free → ∃ c, env.cells.lookup y.1 = some c) {y : Str} {c : Addr} (e : (cloFrom env.cells scope.names []).lookup y = some c) : env.cells.lookup y = some c := by
  rcases cloFrom_mem (PySem.mem_of_lookup e) with hm | ⟨h1, h2⟩
  · cases hm
  · obtain ⟨c1, hc⟩ := has _ h1 rfl
    have hc' : env.cells.lookup y = some c1 := hc
    have : c = c1 := by rw [h2, hc'] <;> rfl
    rw [this]; exact hc'

/-- the generator's frame has been laid: the invariant of its context -/
theorem gx_start {N : List Str} {scope : Scope} {x : Str} {ix : Nat} {A : Around} {code : Value} {fp : List Addr} {itv : Value} {h1 : Heap} {tk : Nat} {gens' : Array GenState} {pin : List (Addr × Obj)}
    (I : Inv X pins σ H s) (G : GScp X.N X.env.scope scope x ix)
    (hA : A.frames = some (genEnv scope (cloFrom X.env.cells scope.names []) s.heap.objs.size code builtinsNs X.env :: X.stack)) (hd : A.handled = none)
    (hfp : ∀ b ∈ fp, FpOk X pins H b) (hlt : ∀ b ∈ fp, b < s.heap.objs.size)
    (hns : h1.Ns s.heap.objs.size fun y => if y = (".0" : Str) then some itv else none) (kp : ∀ b o, s.heap.get? b = some o → h1.get? b = some o) (hb : AllBare gens')
    (hpin : ∀ p ∈ pin, h1.get? p.1 = some p.2 ∧ s.heap.objs.size < p.1 ∧ ∀ v, p.2.data ≠ .cell v) :
    Inv (gcx X A s H (genEnv scope (cloFrom X.env.cells scope.names []) s.heap.objs.size code builtinsNs X.env) fp) pin (σ.set ix none) H { s with heap := h1, toks := tk, gens := gens' } := by
  have has : ∀ y ∈ scope.names, y.2 = .free → ∃ c, X.env.cells.lookup y.1 = some c := fun y hy e => by
    rcases G.free y hy e with k | k
    · exact I.ok.has _ (.inl k)
    · exact I.ok.has _ (.inr k)
  have cm : ∀ {y c}, (cloFrom X.env.cells scope.names []).lookup y = some c → X.env.cells.lookup y = some c := fun {y c} e => clo_sub has e
  have look : ∀ {y}, scope.names.lookup y = some .free → ∃ c, (cloFrom X.env.cells scope.names []).lookup y = some c := fun {y} hl => by
    have hy : (y, NameKind.free) ∈ scope.names := PySem.mem_of_lookup hl
    exact mem_lookup (cloFrom_has (cells := X.env.cells) (acc := []) hy)
  have cellK : ∀ {c : Addr} {v : Option Value}, s.heap.IsCell c v → h1.IsCell c v := fun {c v} ⟨o, ho, hd⟩ => ⟨o, kp _ _ ho, hd⟩
  refine ⟨⟨I.ok.mod, G.kind, I.ok.glob, rfl, Nat.le_refl _, fun y z c e1 e2 => I.ok.inj y z c (cm e1) (cm e2), fun y hy => ?_, fun y c z _ => ?_, fun _ => hd, hA, .inr ⟨rfl, rfl⟩, fun b hb => ⟨Nat.ne_of_lt (hlt b hb), fun y c e => ?_⟩, I.bs,
      Nat.le_trans I.ok.bsz I.sz, fun b o e hb => ?_, fun b hb hm => ?_, I.stack, I.stkFree⟩,
    rfl, hb, Un.kept kp, ⟨_, hns, fun i y v e1 e2 e3 => ?_⟩, fun y c e => ?_, I.hok.fresh (Nat.le_refl _), fun y c e => I.freeC y c (cm e), fun p hp => ?_, I.hok.kept kp, ?_⟩
  · have hy : scope.names.lookup y = some .cell ∨ scope.names.lookup y = some .free := hy
    rcases hy with hy | hy
    · exact absurd rfl (G.cell _ (PySem.mem_of_lookup hy))
    · exact look hy
  · cases z
  · exact (hfp b hb).2.2.2.2.1 y c (cm e)
  · obtain ⟨_, _, _, h4, _⟩ := hfp b hb
    rcases h4 with h4 | h4
    · exact I.ok.noex b o e h4
    · exact absurd (Nat.lt_of_lt_of_le (Nat.lt_of_lt_of_le (Heap.lt_size e) I.ok.bsz) h4) (Nat.lt_irrefl _)
  · obtain ⟨_, h2, h3, _⟩ := hfp b hb
    rcases List.mem_cons.mp (I.stkSub b hm) with z | z
    · exact h2 z
    · exact h3 z
  · have e3 : Vis scope y := e3
    have e2' : i ≠ ix ∧ σ[i]? = some (some v) := by
      by_cases hi : i = ix
      · subst hi
        have hl : i < σ.length := by
          rw [I.len]
          exact (List.getElem?_eq_some_iff.mp G.spot).1
        rw [List.getElem?_set_self hl] at e2
        cases e2
      · rw [List.getElem?_set_ne (fun q => hi q.symm)] at e2
        exact ⟨hi, e2⟩
    rcases e3 with k | k | k
    · rcases G.loc y k with z | z
      · exact absurd (List.mem_of_getElem? (show X.N[i]? = some (".0" : Str) by rw [← z]; exact e1)) G.nodot
      · exact absurd (nodup_ix G.nd (show X.N[i]? = some x by rw [← z]; exact e1) G.spot) e2'.1
    · exact absurd rfl (G.cell _ (PySem.mem_of_lookup k))
    · obtain ⟨m, hn, hl⟩ := I.loc
      have hfr := G.free _ (PySem.mem_of_lookup k) rfl
      have hvis : Vis X.env.scope y := hfr.elim (fun k => .inr (.inl k)) (fun k => .inr (.inr k))
      obtain ⟨w', r, q⟩ := hl i y v e1 e2'.2 hvis
      obtain ⟨c2, h2⟩ := look k
      refine ⟨w', r, .inr ⟨.inr k, c2, h2, ?_⟩⟩
      have c1 := cm h2
      rcases q with ⟨k', _⟩ | ⟨_, c3, e', z⟩
      · have k' : X.env.scope.names.lookup y = some .local := k'
        rcases hfr with k2 | k2 <;> rw [show X.env.scope.names.lookup y = _ from k2] at k' <;> cases k'
      · rw [c1] at e'
        cases e'
        exact cellK z
  · obtain ⟨w', z⟩ := I.cell y c (cm e)
    exact ⟨w', cellK z⟩
  · have hp' : p ∈ pin := by
      rcases List.mem_append.mp hp with z | z
      · exact absurd (show p ∈ ([] : List (Addr × Obj)) from z) (by simp)
      · exact z
    obtain ⟨q1, q2, q3⟩ := hpin p hp'
    refine ⟨q1, I.hok.fresh (Nat.le_of_lt q2), Nat.ne_of_gt q2, fun hm => ?_, q3⟩
    have hm' : p.1 ∈ frs X.stack := hm
    rcases List.mem_cons.mp (I.stkSub _ hm') with z | z
    · have := I.lt
      rw [← z] at this
      exact absurd (Nat.lt_trans this q2) (Nat.lt_irrefl _)
    · exact I.nofs (Nat.le_of_lt q2) z
  · rw [List.length_set]; exact I.len
end

/-! ### the turns of the generator -/
/-- what is wanted of it: W between the turns (behind i items), Out behind an item that was handed out and will not be followed, Fin behind the last -/
structure Plan where
  W : Nat → L2.St → Hp → Prop
  Out : Bool → Nat → L2.St → Hp → Prop
  Fin : Hp → Prop
def gY (Z : Cx) (pin : List (Addr × Obj)) (fp : List Addr) (tn : Nat → Heap → Prop) (Pn : Plan) (go : Bool) (n g : Nat) : Protocol := fun m _ v s kap =>
  ∃ (i : Nat) (b : Bool) (σ : L2.St) (H : Hp), i + m + 1 = n ∧ v = .bool b ∧ Inv Z pin σ H s ∧ g < s.gens.size ∧
    (if b = go then Pn.W (i + 1) σ H else Pn.Out b i σ H) ∧
    (b = go → ∀ s'' : Shared, s''.heap = s.heap → s''.os = s.os → AllBare s''.gens → g < s''.gens.size → kap (.send .none) s'')
def gP (Z : Cx) (pin : List (Addr × Obj)) (Pn : Plan) (g : Nat) : Nat → Shared → Shared → Prop := fun _ _ s => ∃ σ H, Inv Z pin σ H s ∧ Pn.Fin H ∧ g < s.gens.size

/-- one item, the plan's way -/
def Turns (J : It) (g : TG) (te : TE) (go : Bool) (n : Nat) (Pn : Plan) : Prop :=
  ∀ i σ H, i ≤ n → Pn.W i σ H → (J.stop i H ∧ Pn.Fin H) ∨ (i < n ∧ J.go i H ∧ ∀ x H', J.yld i H x H' → g x σ H' fun σ2 H2 => te σ2 H2 fun v H3 => ∃ b, v = .bl b ∧ if b = go then Pn.W (i + 1) σ2 H3 else Pn.Out b i σ2 H3)

theorem inv_same {Z : Cx} {pin : List (Addr × Obj)} {σ : L2.St} {H : Hp} {s s' : Shared} (I : Inv Z pin σ H s) (hh : s'.heap = s.heap) (ho : s'.os = s.os) (hb : AllBare s'.gens) : Inv Z pin σ H s' := by
  obtain ⟨hp, gg, d, t, os⟩ := s'
  subst hh
  subst ho
  exact ⟨I.ok, I.os, hb, I.base, I.loc, I.cell, I.free, I.freeC, I.pin, I.hok, I.len⟩

theorem seg_turns {Z : Cx} {elt tg iter : Expr} {scope : Scope} {pos : Pos} {it : Addr} {fp : List Addr} {tn : Nat → Heap → Prop} {J : It} {gt : TG} {te : TE} {A : Around} {pin : List (Addr × Obj)} {go : Bool} {n g : Nat} {Pn : Plan}
    (T : Turn Z.prog Z.w Z.K tg J fp it tn) (hg : PG Z tg gt) (hel : PE Z elt te) (hx : ∀ e s, ¬ Z.xe e s) (hc : Z.calm = true) (hco : Z.env.scope.isCoroutine = false)
    (hA : A.over (.compLoop (.GeneratorExp elt [⟨tg, iter, [], 0⟩] scope pos) 0 (.ref it) .none Z.env) [] = Z.A) (tt : Turns J gt te go n Pn)
    (stat : ∀ {H : Hp}, (∀ d ∈ fp, H d = none) → ∀ d ∈ fp, FpOk Z pin H d) :
    ∀ (k i : Nat) (s₀ s : Shared) (σ : L2.St) (H : Hp), i + k = n → Inv Z pin σ H s → tn i s.heap → (∀ d ∈ fp, H d = none) → g < s.gens.size → Pn.W i σ H →
      Seg (model Z.prog Z.w) A (fun m s₁ r s₂ => r = .ok .next ∧ gP Z pin Pn g m s₁ s₂) (gY Z pin fp tn Pn go n g) k s₀
        (.compLoop (.GeneratorExp elt [⟨tg, iter, [], 0⟩] scope pos) 0 (.ref it) .none Z.env)
        ((model Z.prog Z.w).den (.compLoop (.GeneratorExp elt [⟨tg, iter, [], 0⟩] scope pos) 0 (.ref it) .none Z.env)) [] s := by
  intro k
  induction k with
  | zero =>
    intro i s₀ s σ H hk I hst hn hgz hw
    show Seg _ A _ _ _ s₀ _ ((compTurn (.GeneratorExp elt [⟨tg, iter, [], 0⟩] scope pos) 0 (.ref it) .none Z.env).onRaise (leaving Z.env)) [] s
    rw [compTurn_gen, Sem.onRaise_eq_wrap]
    refine seg_bind_wrap (wpAny_standAt ?_)
    rcases tt i σ H (by omega) hw with ⟨stp, fin⟩ | ⟨hlt, _⟩
    · refine seg_bind_wrap ?_
      rw [hA]
      refine GenW.wpAny_gsz (n := g + 1) hgz (wpAny_mono (T.done Z rfl rfl rfl hc i pin s σ H (fun _ _ => False) I (stat hn) hst stp) (fun r s1 h1 hz => ?_) fun _ _ e => e.elim)
      obtain ⟨hr, I1⟩ := h1
      subst hr
      exact seg_end (.ok .next) ⟨rfl, σ, H, I1, fin, hz⟩
    · exact absurd hlt (by omega)
  | succ k ih =>
    intro i s₀ s σ H hk I hst hn hgz hw
    show Seg _ A _ _ _ s₀ _ ((compTurn (.GeneratorExp elt [⟨tg, iter, [], 0⟩] scope pos) 0 (.ref it) .none Z.env).onRaise (leaving Z.env)) [] s
    rw [compTurn_gen, Sem.onRaise_eq_wrap]
    refine seg_bind_wrap (wpAny_standAt ?_)
    refine seg_bind_wrap ?_
    rw [hA]
    rcases tt i σ H (by omega) hw with ⟨stp, fin⟩ | ⟨hlt, gO, step⟩
    · refine GenW.wpAny_gsz (n := g + 1) hgz (wpAny_mono (T.done Z rfl rfl rfl hc i pin s σ H (fun _ _ => False) I (stat hn) hst stp) (fun r s1 h1 hz => ?_) fun _ _ e => e.elim)
      obtain ⟨hr, I1⟩ := h1
      subst hr
      exact seg_end (.ok .next) ⟨rfl, σ, H, I1, fin, hz⟩
    · refine GenW.wpAny_gsz (n := g + 1) hgz (wpAny_mono (T.item Z rfl rfl rfl hc i pin s σ H (fun _ _ => False) I (stat hn) hst gO) (fun r s1 h1 hz1 => ?_) fun _ _ e => e.elim)
      obtain ⟨u, hr, h1⟩ := h1
      subst hr
      refine seg_bind_wrap ?_
      rw [hA]
      refine GenW.wpAny_gsz (n := g + 1) hz1 (wpAny_mono h1 (fun _ s2 h2 hz2 => ?_) fun _ _ e => e.elim)
      obtain ⟨x, H2, I2, r2, y2, st2, n2⟩ := h2
      have P2 := I2.pinned (stat n2) (T.obj _ _ st2)
      refine seg_bind_wrap ?_
      rw [hA]
      refine GenW.wpAny_gsz (n := g + 1) hz2 (wpAny_mono (hg.run _ s2 σ H2 x u _ P2 r2 (step x H2 y2)) (fun _ s3 h3 hz3 => ?_) fun e s3 he _ => (hx e s3 he).elim)
      obtain ⟨σ3, H3, I3, q3⟩ := h3
      refine seg_bind_wrap ?_
      simp only [List.forIn_nil]
      refine wpAny_pure ?_
      simp only [if_true]
      have hy : ∀ v, yieldOut Z.env v = yieldValue v := fun v => by simp only [yieldOut, hco, Bool.false_eq_true, if_false]
      simp only [hy]
      rw [Sem.bind_eq_wrap', Sem.bind_eq_wrap', Sem.wrap_wrap, Sem.wrap_wrap]
      refine seg_wrap ?_
      rw [hA]
      refine GenW.wpAny_gsz (n := g + 1) hz3 (wpAny_mono (hel.run _ s3 σ3 H3 _ I3 q3) (fun v s4 h4 hz4 => ?_) fun e s4 he _ => (hx e s4 he).elim)
      obtain ⟨w4, H4, I4, r4, b, eb, q4⟩ := h4
      subst eb
      obtain rfl : v = Value.bool b := r4
      have st4 : tn (i + 1) s4.heap := T.keep _ _ _ st2 fun d hd o e => (I4.pin (d, o) (List.mem_append_right _ (List.mem_append_right _ (mem_pinsAt hd e)))).1
      have n4 : ∀ d ∈ fp, H4 d = none := fun d hd => by
        obtain ⟨o, e, _⟩ := T.obj _ _ st2 d hd
        exact (I4.pin (d, o) (List.mem_append_right _ (List.mem_append_right _ (mem_pinsAt hd e)))).2.1
      have I4' := I4.unpinned
      refine seg_at (seg_yield rfl rfl rfl ⟨i, b, σ3, H4, by omega, rfl, I4', hz4, q4, fun hb s'' e1 e2 e3 e4 => ?_⟩)
      rw [if_pos hb] at q4
      exact seg_again rfl (ih (i + 1) s'' s'' σ3 H4 (by omega) (inv_same I4' e1 e2 e3) (by rw [e1]; exact st4) n4 e4 q4)

theorem seg_begin {Z : Cx} {elt tg iter : Expr} {scope : Scope} {pos : Pos} {it : Addr} {fp : List Addr} {tn : Nat → Heap → Prop} {J : It} {gt : TG} {te : TE} {A : Around} {pin : List (Addr × Obj)} {go : Bool} {n g : Nat} {Pn : Plan}
    (T : Turn Z.prog Z.w Z.K tg J fp it tn) (hg : PG Z tg gt) (hel : PE Z elt te) (hx : ∀ e s, ¬ Z.xe e s) (hc : Z.calm = true) (hco : Z.env.scope.isCoroutine = false)
    (hA : A.over (.compLoop (.GeneratorExp elt [⟨tg, iter, [], 0⟩] scope pos) 0 (.ref it) .none Z.env) [] = Z.A) (tt : Turns J gt te go n Pn)
    (stat : ∀ {H : Hp}, (∀ d ∈ fp, H d = none) → ∀ d ∈ fp, FpOk Z pin H d)
    (s₀ s : Shared) (σ : L2.St) (H : Hp) (I : Inv Z pin σ H s) (hst : tn 0 s.heap) (hn : ∀ d ∈ fp, H d = none) (hgz : g < s.gens.size) (hw : Pn.W 0 σ H) :
    Seg (model Z.prog Z.w) A (fun m s₁ r s₂ => r = .ok .next ∧ gP Z pin Pn g m s₁ s₂) (gY Z pin fp tn Pn go n g) n s₀
      (.compStart (.GeneratorExp elt [⟨tg, iter, [], 0⟩] scope pos) 0 (.ref it) .none Z.env)
      ((model Z.prog Z.w).den (.compStart (.GeneratorExp elt [⟨tg, iter, [], 0⟩] scope pos) 0 (.ref it) .none Z.env)) [] s := by
  have lp := seg_turns (pos := pos) T hg hel hx hc hco hA tt stat n 0 s₀ s σ H (by omega) I hst hn hgz hw
  show Seg _ A _ _ _ s₀ _ ((compStart (.GeneratorExp elt [⟨tg, iter, [], 0⟩] scope pos) 0 (.ref it) .none Z.env).onRaise (leaving Z.env)) [] s
  unfold compStart
  rw [Sem.onRaise_eq_wrap]
  show Seg _ A _ _ _ s₀ _ ((ask >>= _).wrap _ _ _ _) [] s
  refine seg_bind_wrap (wpAny_askSetting ?_)
  split
  · exact seg_again rfl lp
  · refine seg_bind_wrap (wpAny_rule ?_)
    show Seg _ A _ _ _ s₀ _ ((standAt iter.pos >>= _).wrap _ _ _ _) [] s
    exact seg_bind_wrap (wpAny_standAt (seg_bind_wrap (T.self _ 0 s _ _ hst (seg_again rfl lp))))

/-! ### the walk by all, by any -/
theorem isGen_pin {Z : Cx} {σ : L2.St} {H : Hp} {s : Shared} {a : Addr} {o : Obj} {g : Nat} {nm qn : Value} (hc : o.cls = .type "generator") (hd : o.data = .fields #[.int g 0, nm, qn]) (hs : o.slots = #[]) (I : Inv Z [(a, o)] σ H s) : s.heap.IsGen a g :=
  ⟨o, nm, qn, (I.pin (a, o) (List.mem_append_right _ (List.mem_singleton.mpr rfl))).1, hc, hd, hs⟩

section
variable {Z : Cx} {fp : List Addr} {tn : Nat → Heap → Prop} {A : Around} {a : Addr} {o : Obj} {n g : Nat} {Pn : Plan} {R : Result → Shared → Prop} {nm qn : Value}

theorem all_walk (hoc : o.cls = .type "generator") (hod : o.data = .fields #[.int g 0, nm, qn]) (hos : o.slots = #[]) (hh : A.handled = none) (hroom : A.depth < recursionLimit)
    (hOut : ∀ i σ H s, Inv Z [(a, o)] σ H s → Pn.Out false i σ H → R (.ok (.ret (.bool false))) s)
    (hFin : ∀ σ H s, Inv Z [(a, o)] σ H s → Pn.Fin H → R (.ok (.ret (.bool true))) s) :
    ∀ (m : Nat) (s : Shared) (gs : GenState) (σ : L2.St) (H : Hp), Inv Z [(a, o)] σ H s → s.gens[g]? = some gs → gs.Goes (model Z.prog Z.w) A.in1.in1 (fun m s₁ r s₂ => r = .ok .next ∧ gP Z [(a, o)] Pn g m s₁ s₂) (gY Z [(a, o)] fp tn Pn true n g) m (.send .none) (s.setGen g .running) →
      codeAny (model Z.prog Z.w) A (.builtin "all.loop" ⟨[.ref a], []⟩) R s := by
  intro m
  induction m with
  | zero =>
    intro s gs σ H I hgs hgo
    refine codeAny_builtin F.entry_all_loop ?_
    rw [Around.under_plainId F.plain_all_loop _]
    show wpAny _ A.in1 (pyNext (.ref a) >>= _) _ _ s
    refine wpAny_bind (wpAny_pyNext_genexpQ (P := gP Z [(a, o)] Pn g) hh I.nolimit hroom (isGen_pin hoc hod hos I) hgs hgo (fun v s₁ gs' hb hv => ?_) (fun s₁ hp h' hk => ?_))
    · obtain ⟨i, b, σ1, H1, hi, rfl, I1, hz, q, hkap⟩ := hv
      cases b with
      | true => exact (hkap rfl s₁ rfl rfl I1.bare hz).elim
      | false =>
        refine wpAny_bind (wpAny_holding (wpAny_truthy_bool ?_))
        refine wpAny_bind (wpAny_letGo ?_)
        simp only [Bool.false_eq_true, if_false]
        refine wpAny_bind (wpAny_rule (wpAny_pure ?_))
        exact hOut i σ1 H1 _ (inv_gens I1 (bare_set I1.bare hb)) (by simpa using q)
    · obtain ⟨σ1, H1, I1, q, hz⟩ := hp
      refine wpAny_bind (wpAny_rule (wpAny_pure ?_))
      exact hFin σ1 H1 _ ((inv_gens I1 (bare_set I1.bare rfl)).kept hk) q
  | succ m ih =>
    intro s gs σ H I hgs hgo
    refine codeAny_builtin F.entry_all_loop ?_
    rw [Around.under_plainId F.plain_all_loop _]
    show wpAny _ A.in1 (pyNext (.ref a) >>= _) _ _ s
    refine wpAny_bind (wpAny_pyNext_genexpQ (P := gP Z [(a, o)] Pn g) hh I.nolimit hroom (isGen_pin hoc hod hos I) hgs hgo (fun v s₁ gs' hb hv => ?_) (fun s₁ hp h' hk => ?_))
    · obtain ⟨i, b, σ1, H1, hi, rfl, I1, hz, q, hkap⟩ := hv
      refine wpAny_bind (wpAny_holding (wpAny_truthy_bool ?_))
      refine wpAny_bind (wpAny_letGo ?_)
      have hz' : g < (s₁.setGen g gs').gens.size := by rw [GenW.setGen_size]; exact hz
      cases b with
      | true =>
        simp only [if_true]
        refine wpAny_pure ⟨plainId_quiet F.plain_all_loop _, ih (s₁.setGen g gs') gs' σ1 H1 (inv_gens I1 (bare_set I1.bare hb)) ?_ ?_⟩
        · show (s₁.gens.setIfInBounds g gs')[g]? = some gs'
          rw [Array.getElem?_setIfInBounds_self_of_lt hz]
        · exact hkap rfl _ rfl rfl (bare_set (bare_set I1.bare hb) rfl) (by rw [GenW.setGen_size]; exact hz')
      | false =>
        simp only [Bool.false_eq_true, if_false]
        refine wpAny_bind (wpAny_rule (wpAny_pure ?_))
        exact hOut i σ1 H1 _ (inv_gens I1 (bare_set I1.bare hb)) (by simpa using q)
    · obtain ⟨σ1, H1, I1, q, hz⟩ := hp
      refine wpAny_bind (wpAny_rule (wpAny_pure ?_))
      exact hFin σ1 H1 _ ((inv_gens I1 (bare_set I1.bare rfl)).kept hk) q

theorem any_walk (hoc : o.cls = .type "generator") (hod : o.data = .fields #[.int g 0, nm, qn]) (hos : o.slots = #[]) (hh : A.handled = none) (hroom : A.depth < recursionLimit)
    (hOut : ∀ i σ H s, Inv Z [(a, o)] σ H s → Pn.Out true i σ H → R (.ok (.ret (.bool true))) s)
    (hFin : ∀ σ H s, Inv Z [(a, o)] σ H s → Pn.Fin H → R (.ok (.ret (.bool false))) s) :
    ∀ (m : Nat) (s : Shared) (gs : GenState) (σ : L2.St) (H : Hp), Inv Z [(a, o)] σ H s → s.gens[g]? = some gs → gs.Goes (model Z.prog Z.w) A.in1.in1 (fun m s₁ r s₂ => r = .ok .next ∧ gP Z [(a, o)] Pn g m s₁ s₂) (gY Z [(a, o)] fp tn Pn false n g) m (.send .none) (s.setGen g .running) →
      codeAny (model Z.prog Z.w) A (.builtin "any.loop" ⟨[.ref a], []⟩) R s := by
  intro m
  induction m with
  | zero =>
    intro s gs σ H I hgs hgo
    refine codeAny_builtin F.entry_any_loop ?_
    rw [Around.under_plainId F.plain_any_loop _]
    show wpAny _ A.in1 (pyNext (.ref a) >>= _) _ _ s
    refine wpAny_bind (wpAny_pyNext_genexpQ (P := gP Z [(a, o)] Pn g) hh I.nolimit hroom (isGen_pin hoc hod hos I) hgs hgo (fun v s₁ gs' hb hv => ?_) (fun s₁ hp h' hk => ?_))
    · obtain ⟨i, b, σ1, H1, hi, rfl, I1, hz, q, hkap⟩ := hv
      cases b with
      | false => exact (hkap rfl s₁ rfl rfl I1.bare hz).elim
      | true =>
        refine wpAny_bind (wpAny_holding (wpAny_truthy_bool ?_))
        refine wpAny_bind (wpAny_letGo ?_)
        simp only [if_true]
        refine wpAny_bind (wpAny_rule (wpAny_pure ?_))
        exact hOut i σ1 H1 _ (inv_gens I1 (bare_set I1.bare hb)) (by simpa using q)
    · obtain ⟨σ1, H1, I1, q, hz⟩ := hp
      refine wpAny_bind (wpAny_rule (wpAny_pure ?_))
      exact hFin σ1 H1 _ ((inv_gens I1 (bare_set I1.bare rfl)).kept hk) q
  | succ m ih =>
    intro s gs σ H I hgs hgo
    refine codeAny_builtin F.entry_any_loop ?_
    rw [Around.under_plainId F.plain_any_loop _]
    show wpAny _ A.in1 (pyNext (.ref a) >>= _) _ _ s
    refine wpAny_bind (wpAny_pyNext_genexpQ (P := gP Z [(a, o)] Pn g) hh I.nolimit hroom (isGen_pin hoc hod hos I) hgs hgo (fun v s₁ gs' hb hv => ?_) (fun s₁ hp h' hk => ?_))
    · obtain ⟨i, b, σ1, H1, hi, rfl, I1, hz, q, hkap⟩ := hv
      refine wpAny_bind (wpAny_holding (wpAny_truthy_bool ?_))
      refine wpAny_bind (wpAny_letGo ?_)
      have hz' : g < (s₁.setGen g gs').gens.size := by rw [GenW.setGen_size]; exact hz
      cases b with
      | false =>
        simp only [Bool.false_eq_true, if_false]
        refine wpAny_pure ⟨plainId_quiet F.plain_any_loop _, ih (s₁.setGen g gs') gs' σ1 H1 (inv_gens I1 (bare_set I1.bare hb)) ?_ ?_⟩
        · show (s₁.gens.setIfInBounds g gs')[g]? = some gs'
          rw [Array.getElem?_setIfInBounds_self_of_lt hz]
        · exact hkap rfl _ rfl rfl (bare_set (bare_set I1.bare hb) rfl) (by rw [GenW.setGen_size]; exact hz')
      | true =>
        simp only [if_true]
        refine wpAny_bind (wpAny_rule (wpAny_pure ?_))
        exact hOut i σ1 H1 _ (inv_gens I1 (bare_set I1.bare hb)) (by simpa using q)
    · obtain ⟨σ1, H1, I1, q, hz⟩ := hp
      refine wpAny_bind (wpAny_rule (wpAny_pure ?_))
      exact hFin σ1 H1 _ ((inv_gens I1 (bare_set I1.bare rfl)).kept hk) q
end

/-! ### the rules -/
/-- the code that runs in the generator's frame, from a builtin's loop -/
abbrev gA (X : Cx) (env : Env) : Around := X.A.in1.in1.deeper env
abbrev gE (X : Cx) (scope : Scope) (C : Addr) (code : Value) : Env := genEnv scope (cloFrom X.env.cells scope.names []) C code builtinsNs X.env
/-- what a walk over the generator leads to: R, from the plan's ends -/
def tAllG (P : Addr) (ix : Nat) (wi : TI) (g : TG) (te : TE) (go : Bool) : TE := fun σ H Q => wi σ H fun J H1 => GxR.TabG H1 P ∧ ∀ H2, GxR.Tabbed P H1 H2 → ∃ (n : Nat) (Pn : Plan), Turns J g te go n Pn ∧ Pn.W 0 (σ.set ix none) H2 ∧
  (∀ i σ' H', Pn.Out (!go) i σ' H' → Q (.bl (!go)) H') ∧ ∀ H', Pn.Fin H' → Q (.bl go) H'

section
variable {X : Cx} {elt iter : Expr} {x : Str} {px p pos gpos : Pos} {scope : Scope} {ix k : Nat} {wi : TI} {g : TG} {te : TE} {P c : Addr}

theorem gen_made {pins : List (Addr × Obj)} {σ : L2.St} {H : Hp} {s : Shared} {go : Bool} {R : V → Hp → Prop} {Q' : Value → Shared → Prop}
    (hr : Room (k + 1) X.A) (TB : GxR.TabB X.base X.mg c P) (hcode : X.env.code = .ref c) (G : GScp X.N X.env.scope scope x ix) (hi : PI X (.Name x px) iter wi)
    (hgt : ∀ (s : Shared) (H : Hp) (C : Addr) (code : Value) (fp : List Addr), PG (gcx X (gA X (gE X scope C code)) s H (gE X scope C code) fp) (.Name x px) g)
    (hel : ∀ (s : Shared) (H : Hp) (C : Addr) (code : Value) (fp : List Addr), Room k (gA X (gE X scope C code)) → PE (gcx X (gA X (gE X scope C code)) s H (gE X scope C code) fp) elt te)
    (hs : ∀ v, genFold iter X.env v = pure v) (I : Inv X pins σ H s) (h : tAllG P ix wi g te go σ H R)
    (hQ : ∀ (Z : Cx) (fp : List Addr) (tn : Nat → Heap → Prop) (a : Addr) (o : Obj) (n gg : Nat) (Pn : Plan) (nm qn : Value) (s5 : Shared) (gs : GenState) (σ5 : L2.St) (H5 : Hp), Z.prog = X.prog → Z.w = X.w →
      o.cls = .type "generator" → o.data = .fields #[.int gg 0, nm, qn] → o.slots = #[] → Inv Z [(a, o)] σ5 H5 s5 → s5.gens[gg]? = some gs →
      gs.Goes (model Z.prog Z.w) X.A.in1.in1 (fun m s₁ r s₂ => r = .ok .next ∧ gP Z [(a, o)] Pn gg m s₁ s₂) (gY Z [(a, o)] fp tn Pn go n gg) n (.send .none) (s5.setGen gg .running) →
      (∀ i σ' H' s', Inv Z [(a, o)] σ' H' s' → Pn.Out (!go) i σ' H' → ∃ H'', Inv X pins σ H'' s' ∧ R (.bl (!go)) H'') →
      (∀ σ' H' s', Inv Z [(a, o)] σ' H' s' → Pn.Fin H' → ∃ H'', Inv X pins σ H'' s' ∧ R (.bl go) H'') → Q' (.ref a) s5) :
    wpAny (model X.prog X.w) X.A (eval (.GeneratorExp elt [⟨.Name x px, iter, [], 0⟩] scope gpos) X.env) Q' X.xe s := by
  have has : ∀ y ∈ scope.names, y.2 = .free → ∃ c, X.env.cells.lookup y.1 = some c := fun y hy e => by
    rcases G.free y hy e with k | k
    · exact I.ok.has _ (.inl k)
    · exact I.ok.has _ (.inr k)
  refine wpAny_GeneratorExp_make G.co (closure_ok has) G.cell G.dot G.kind (by have := hr.dp; omega) ?_ hs
  refine thn (hi.run pins s σ H _ I h) fun xv s1 h1 => thn h1 fun itv s2 h2 => ?_
  obtain ⟨it, fp, tn, J, H1, rfl, I1, T, st1, f1, ⟨ps, hP, ht⟩, plan⟩ := h2
  have hPs : s2.heap.get? P = some { cls := .none, data := .fields ps } := I1.hok P _ hP
  have cd : PySem.W.CodeHd s2.heap c P := TB.code.keeps fun b u e => I1.bk b u e
  have fpP : ∀ b ∈ fp, b ≠ P := fun b hb z => by
    have := (f1 b hb).1
    rw [z, hP] at this
    cases this
  have cont : ∀ (code : Value) (h3 : Heap) (tk : Nat) (ps' : Array Value), Heap.ExtBut P s2.heap h3 → h3.get? P = some { cls := .none, data := .fields ps' } → (∃ more, ps' = ps ++ more) → TriplesOk ps'.toList →
      wpAny (model X.prog X.w) X.A (builtinsFor X.env.globals X.env.builtins) (fun bi s₄ => ∀ h', h'.Ns s₄.heap.objs.size (fun y => if y = (".0" : Str) then some (.ref it) else none) → Heap.SameBut s₄.heap.objs.size (s₄.heap.push { cls := .type "frame", data := .dict #[] }) h' →
          Q' (.ref h'.objs.size) { s₄ with
            gens := s₄.gens.push (.fresh (.compStart (.GeneratorExp elt [⟨.Name x px, iter, [], 0⟩] scope gpos) 0 (.ref it) .none (genEnv scope (cloFrom X.env.cells scope.names []) s₄.heap.objs.size code bi X.env))),
            toks := s₄.toks + 1 + 1 + 1,
            heap := h'.push { cls := .type "generator", data := .fields #[.int s₄.gens.size 0, .str "<genexpr>" (s₄.toks + 1), .str (X.env.qual ++ "<genexpr>") (s₄.toks + 1 + 1)] } }) X.xe { s2 with heap := h3, toks := tk } := by
    intro code h3 tk ps' hx hP3 hmore ht3
    obtain ⟨bm, ob, e1, e2, e3, e4, e5, e6, e7, e8⟩ := TB.bm
    refine wpAny_builtinsFor (m := X.mg) (by rw [I1.ok.glob]; exact (I1.mod.glob.keeps I1.bk).extBut hx TB.gP) e1 e2 (hx _ _ e4 (I1.bk _ _ e5)) e6 e7 e8 ?_
    intro h' hns hsb
    obtain ⟨more, rfl⟩ := hmore
    have I3 : Inv X pins σ (upd H1 P (.tbl (ps ++ more))) { s2 with heap := h3, toks := tk } :=
      GxR.inv_tab (more := more) (h' := h3) (g' := s2.gens) (d' := s2.drawn) (t' := tk) I1 hP (fun b u hb e => hx b u hb e) hP3 I1.bare
    have H2 : GxR.Tabbed P H1 (upd H1 P (.tbl (ps ++ more))) := ⟨⟨ps ++ more, upd_same, ht3⟩, fun b hb => upd_ne hb⟩
    obtain ⟨n, Pn, tt, w0, pOut, pFin⟩ := plan _ H2
    have f3 : ∀ b ∈ fp, FpOk X pins (upd H1 P (.tbl (ps ++ more))) b := fun b hb => ⟨by rw [upd_ne (fpP b hb)]; exact (f1 b hb).1, (f1 b hb).2⟩
    have st3 : tn 0 h3 := T.keep _ _ _ st1 fun b hb o e => hx b o (fpP b hb) e
    have lt3 : ∀ b ∈ fp, b < h3.objs.size := fun b hb => by
      obtain ⟨o, e, _⟩ := T.obj _ _ st3 b hb
      exact Heap.lt_size e
    have hsz : h'.objs.size = h3.objs.size + 1 := by rw [hsb.1, Heap.size_push]
    have kp' : ∀ b o, h3.get? b = some o → h'.get? b = some o := fun b o e => hsb.extBut b o (Nat.ne_of_lt (Heap.lt_size e)) (Heap.get?_push_of_some _ e)
    have key : ∀ (o : Obj) (nm qn : Value), o.cls = .type "generator" → o.data = .fields #[.int s2.gens.size 0, nm, qn] → o.slots = #[] → (h'.push o).get? h'.objs.size = some o →
        Q' (.ref h'.objs.size) { s2 with
            gens := s2.gens.push (.fresh (.compStart (.GeneratorExp elt [⟨.Name x px, iter, [], 0⟩] scope gpos) 0 (.ref it) .none (gE X scope h3.objs.size code))),
            toks := tk + 1 + 1 + 1, heap := h'.push o } := by
      intro o nm qn hc hd hsl hget
      have kp5 : ∀ b u, h3.get? b = some u → (h'.push o).get? b = some u := fun b u e => Heap.get?_push_of_some _ (kp' b u e)
      have bare5 : AllBare (s2.gens.push (.fresh (.compStart (.GeneratorExp elt [⟨.Name x px, iter, [], 0⟩] scope gpos) 0 (.ref it) .none (gE X scope h3.objs.size code)))) := I1.bare.push rfl
      have Rm : Room k (gA X (gE X scope h3.objs.size code)) := ⟨hr.hd, by have := hr.dp; show X.A.depth + 1 + 3 * k + 5 < _; omega, by have := hr.un; show X.A.units + 1 + 1 + 3 + 16 * k + 200 < _; omega⟩
      have J0 := gx_start (A := gA X (gE X scope h3.objs.size code)) (code := code) (fp := fp) (itv := .ref it) (h1 := h'.push o) (tk := tk + 1 + 1 + 1) (pin := [(h'.objs.size, o)])
        (gens' := s2.gens.push (.fresh (.compStart (.GeneratorExp elt [⟨.Name x px, iter, [], 0⟩] scope gpos) 0 (.ref it) .none (gE X scope h3.objs.size code)))) (x := x) (ix := ix) (N := X.N) I3 G
        (Around.frames_deeper I.ok.frames) hr.hd f3 lt3 (hns.push _) kp5 bare5 (fun q hq => by
          rw [List.mem_singleton.mp hq]
          refine ⟨hget, ?_, fun v z => ?_⟩
          · show h3.objs.size < h'.objs.size
            omega
          · rw [hd] at z; cases z)
      have st5 : tn 0 (h'.push o) := T.keep _ _ _ st3 fun b hb u e => kp5 b u e
      have n5 : ∀ d ∈ fp, upd H1 P (.tbl (ps ++ more)) d = none := fun d hd => (f3 d hd).1
      have back : ∀ {σ' : L2.St} {H' : Hp} {s' : Shared}, Inv (gcx X (gA X (gE X scope h3.objs.size code)) { s2 with heap := h3, toks := tk } (upd H1 P (.tbl (ps ++ more))) (gE X scope h3.objs.size code) fp) [(h'.objs.size, o)] σ' H' s' → Inv X pins σ H' s' := fun {σ' H' s'} J =>
        I3.call' (ch := fp) J.os J.base J.hok J.bare fun b hb => ⟨(f3 b hb).2.2.2.1, (f3 b hb).2.1, (f3 b hb).2.2.2.2.1, (f3 b hb).2.2.2.2.2⟩
      have stat : ∀ {HH : Hp}, (∀ d ∈ fp, HH d = none) → ∀ d ∈ fp, FpOk (gcx X (gA X (gE X scope h3.objs.size code)) { s2 with heap := h3, toks := tk } (upd H1 P (.tbl (ps ++ more))) (gE X scope h3.objs.size code) fp) [(h'.objs.size, o)] HH d := fun {HH} hn d hd => by
        refine ⟨hn d hd, Nat.ne_of_lt (lt3 d hd), fun hm => ?_, .inl hd, fun y cc e => (f3 d hd).2.2.2.2.1 y cc (clo_sub has e), fun q hq => ?_⟩
        · have hm' : d ∈ frs X.stack := hm
          rcases List.mem_cons.mp (I3.stkSub d hm') with z | z
          · exact (f3 d hd).2.1 z
          · exact (f3 d hd).2.2.1 z
        · have hq' : q ∈ [(h'.objs.size, o)] := by
            rcases List.mem_append.mp hq with z | z
            · exact absurd (show q ∈ ([] : List (Addr × Obj)) from z) (by simp)
            · exact z
          rw [List.mem_singleton.mp hq']
          show h'.objs.size ≠ d
          exact Nat.ne_of_gt (by rw [hsz]; exact Nat.lt_succ_of_lt (lt3 d hd))
      have gsz : s2.gens.size < (s2.gens.push (GenState.fresh (.compStart (.GeneratorExp elt [⟨.Name x px, iter, [], 0⟩] scope gpos) 0 (.ref it) .none (gE X scope h3.objs.size code)))).size := by
        rw [Array.size_push]; exact Nat.lt_succ_self _
      refine hQ (gcx X (gA X (gE X scope h3.objs.size code)) { s2 with heap := h3, toks := tk } (upd H1 P (.tbl (ps ++ more))) (gE X scope h3.objs.size code) fp) fp tn h'.objs.size o n s2.gens.size Pn nm qn _ _ _ _ rfl rfl hc hd hsl J0 (Array.getElem?_push_size ..) ⟨rfl, ?_⟩ (fun i σ' H' s' J q => ⟨H', back J, pOut i σ' H' q⟩) (fun σ' H' s' J q => ⟨H', back J, pFin H' q⟩)
      refine seg_begin (Z := gcx X (gA X (gE X scope h3.objs.size code)) { s2 with heap := h3, toks := tk } (upd H1 P (.tbl (ps ++ more))) (gE X scope h3.objs.size code) fp) (g := s2.gens.size) (A := X.A.in1.in1)
        T (hgt _ _ _ _ _) (hel _ _ _ _ _ Rm) (fun _ _ z => z) rfl G.co rfl tt stat _ _ _ _ (inv_gens J0 (bare_set bare5 rfl)) st5 n5 ?_ w0
      rw [GenW.setGen_size]
      exact gsz
    exact key _ _ _ rfl rfl rfl (Heap.get?_push_size _ rfl)
  refine ⟨I1.nolimit, ?_⟩
  cases hf : codeAmong gpos ps.toList with
  | none =>
    refine wpAny_genexprCodeX hcode (cd.code hPs ht) (cd.tab hPs) hf fun c' h' tk hx hge hlt hco' _ htab' _ => ?_
    obtain ⟨o1, vs, f1, tf, fl, tg, inF, tx, tt, op, _, _, _, _, _, _, _, _, _, htr, _⟩ := hco'
    exact cont _ h' tk _ hx htab'.2 ⟨_, rfl⟩ htr
  | some cv =>
    refine wpAny_genexprCode_hit hcode (cd.code hPs ht) hf ?_
    exact cont cv s2.heap s2.toks ps (Heap.ExtBut.refl _ _) hPs ⟨#[], by simp⟩ ht

/-- all(elt for x in iter) -/
theorem pe_all (hr : Room (k + 1) X.A) (hga : Gl X "all") (hma : X.mg "all" = none) (TB : GxR.TabB X.base X.mg c P) (hcode : X.env.code = .ref c) (G : GScp X.N X.env.scope scope x ix) (hi : PI X (.Name x px) iter wi)
    (hgt : ∀ (s : Shared) (H : Hp) (C : Addr) (code : Value) (fp : List Addr), PG (gcx X (gA X (gE X scope C code)) s H (gE X scope C code) fp) (.Name x px) g)
    (hel : ∀ (s : Shared) (H : Hp) (C : Addr) (code : Value) (fp : List Addr), Room k (gA X (gE X scope C code)) → PE (gcx X (gA X (gE X scope C code)) s H (gE X scope C code) fp) elt te)
    (hs : ∀ v, genFold iter X.env v = pure v)
    (he : starEach [.GeneratorExp elt [⟨.Name x px, iter, [], 0⟩] scope gpos] X.env = (false, eval (.GeneratorExp elt [⟨.Name x px, iter, [], 0⟩] scope gpos) X.env) :: starEach [] X.env := by rfl) :
    PE X (.Call (.Name "all" p) [.GeneratorExp elt [⟨.Name x px, iter, [], 0⟩] scope gpos] [] pos) (tAllG P ix wi g te true) := by
  refine ⟨fun pins s σ H Q I h => ?_⟩
  refine wpAny_Call_Name_kw (ld_blt I hga hma boot_all ?_)
  refine PyProof.Rows.callWith_builtin1 ?_ he (by rfl)
  rw [he]
  refine Calls.spliced_cons (gen_made hr TB hcode G hi hgt hel hs I h fun Z fp tn a o n gg Pn nm qn s5 gs σ5 H5 e1 e2 hc hd hsl J hgs hgo oOut oFin => ?_)
  refine Calls.spliced_nil ?_
  refine call_function_tree F.kind_all F.plain_all F.entry_all (F.args_all1 _) ?_
  unfold Builtin.«all»
  refine wpAny_bind (m := oneArg "all" _) (wpAny_pure ?_)
  refine wpAny_bind (wpAny_pyIter_gen (isGen_pin hc hd hsl J) ?_)
  refine wpAny_pure ⟨plainId_quiet F.plain_all_loop _, ?_⟩
  rw [← e1, ← e2]
  refine all_walk hc hd hsl hr.hd (by have := hr.dp; show X.A.depth < _; omega) (fun i σ' H' s' J' q => ?_) (fun σ' H' s' J' q => ?_) n s5 gs σ5 H5 J hgs hgo
  · obtain ⟨H'', I', q'⟩ := oOut i σ' H' s' J' q
    exact ⟨.bl false, H'', I', rfl, q'⟩
  · obtain ⟨H'', I', q'⟩ := oFin σ' H' s' J' q
    exact ⟨.bl true, H'', I', rfl, q'⟩
/-- any(elt for x in iter) -/
theorem pe_any (hr : Room (k + 1) X.A) (hga : Gl X "any") (hma : X.mg "any" = none) (TB : GxR.TabB X.base X.mg c P) (hcode : X.env.code = .ref c) (G : GScp X.N X.env.scope scope x ix) (hi : PI X (.Name x px) iter wi)
    (hgt : ∀ (s : Shared) (H : Hp) (C : Addr) (code : Value) (fp : List Addr), PG (gcx X (gA X (gE X scope C code)) s H (gE X scope C code) fp) (.Name x px) g)
    (hel : ∀ (s : Shared) (H : Hp) (C : Addr) (code : Value) (fp : List Addr), Room k (gA X (gE X scope C code)) → PE (gcx X (gA X (gE X scope C code)) s H (gE X scope C code) fp) elt te)
    (hs : ∀ v, genFold iter X.env v = pure v)
    (he : starEach [.GeneratorExp elt [⟨.Name x px, iter, [], 0⟩] scope gpos] X.env = (false, eval (.GeneratorExp elt [⟨.Name x px, iter, [], 0⟩] scope gpos) X.env) :: starEach [] X.env := by rfl) :
    PE X (.Call (.Name "any" p) [.GeneratorExp elt [⟨.Name x px, iter, [], 0⟩] scope gpos] [] pos) (tAllG P ix wi g te false) := by
  refine ⟨fun pins s σ H Q I h => ?_⟩
  refine wpAny_Call_Name_kw (ld_blt I hga hma boot_any ?_)
  refine PyProof.Rows.callWith_builtin1 ?_ he (by rfl)
  rw [he]
  refine Calls.spliced_cons (gen_made hr TB hcode G hi hgt hel hs I h fun Z fp tn a o n gg Pn nm qn s5 gs σ5 H5 e1 e2 hc hd hsl J hgs hgo oOut oFin => ?_)
  refine Calls.spliced_nil ?_
  refine call_function_tree F.kind_any F.plain_any F.entry_any (F.args_any1 _) ?_
  unfold Builtin.«any»
  refine wpAny_bind (m := oneArg "any" _) (wpAny_pure ?_)
  refine wpAny_bind (wpAny_pyIter_gen (isGen_pin hc hd hsl J) ?_)
  refine wpAny_pure ⟨plainId_quiet F.plain_any_loop _, ?_⟩
  rw [← e1, ← e2]
  refine any_walk hc hd hsl hr.hd (by have := hr.dp; show X.A.depth < _; omega) (fun i σ' H' s' J' q => ?_) (fun σ' H' s' J' q => ?_) n s5 gs σ5 H5 J hgs hgo
  · obtain ⟨H'', I', q'⟩ := oOut i σ' H' s' J' q
    exact ⟨.bl true, H'', I', rfl, q'⟩
  · obtain ⟨H'', I', q'⟩ := oFin σ' H' s' J' q
    exact ⟨.bl false, H'', I', rfl, q'⟩
end
end Gx

/-! What the defs of the table law share: heaps with tables of code, data at any depth (an empty dict too), ranges kept, sets of a list, repr of data. -/
namespace Tb
open PySem PySem.Spec PyProof.Rows L2

/-! ### heaps: all but the tables of code stands -/
structure Kp (H H' : Hp) : Prop where
  keep : ∀ b o, H b = some o → (∀ ps, o ≠ .tbl ps) → H' b = some o
  tab : ∀ P, GxR.TabG H P → GxR.TabG H' P
theorem Kp.refl (H : Hp) : Kp H H := ⟨fun _ _ h _ => h, fun _ h => h⟩
theorem Kp.trans {A B C : Hp} (x : Kp A B) (y : Kp B C) : Kp A C := ⟨fun b o h n => y.keep b o (x.keep b o h n) n, fun P h => y.tab P (x.tab P h)⟩
theorem tabG_of {H H' : Hp} {P : Addr} (e : ∀ b o, H b = some o → H' b = some o) (h : GxR.TabG H P) : GxR.TabG H' P := by
  obtain ⟨ps, h1, h2⟩ := h
  exact ⟨ps, e _ _ h1, h2⟩
theorem Kp.of {H H' : Hp} (e : ∀ b o, H b = some o → H' b = some o) : Kp H H' := ⟨fun b o h _ => e b o h, fun _ h => tabG_of e h⟩
theorem Kp.new {H : Hp} {p : Addr} {o : HO} (h : H p = none) : Kp H (upd H p o) := Kp.of fun b u e => by
  rw [upd_ne (ne_of_none e h)]; exact e
theorem Kp.tabbed {P : Addr} {H H' : Hp} (hP : GxR.TabG H P) (t : GxR.Tabbed P H H') : Kp H H' := by
  refine ⟨fun b o h n => ?_, fun Q h => ?_⟩
  · obtain ⟨ps, hp, _⟩ := hP
    have : b ≠ P := fun z => by
      rw [z, hp] at h
      exact n ps (Option.some.inj h).symm
    rw [t.2 b this]; exact h
  · by_cases q : Q = P
    · rw [q]; exact t.1
    · obtain ⟨ps, h1, h2⟩ := h
      exact ⟨ps, by rw [t.2 Q q]; exact h1, h2⟩
theorem Kp.lst {H H' : Hp} (k : Kp H H') {a : Addr} {xs : List V} (h : H a = some (.lst xs)) : H' a = some (.lst xs) := k.keep a _ h fun ps z => by cases z
theorem Kp.tup {H H' : Hp} (k : Kp H H') {a : Addr} {xs : List V} (h : H a = some (.tup xs)) : H' a = some (.tup xs) := k.keep a _ h fun ps z => by cases z
theorem Kp.dK {H H' : Hp} (k : Kp H H') {a : Addr} {xs} (h : H a = some (.dK xs)) : H' a = some (.dK xs) := k.keep a _ h fun ps z => by cases z
theorem Kp.sqL {K : PySem.W.Frag} {H H' : Hp} (k : Kp H H') {a : Addr} {xs : List V} (h : SqL K H a xs) : SqL K H' a xs := by
  rcases h with (h | ⟨o, h⟩) | h
  · exact .inl (.inl (k.lst h))
  · exact .inl (.inr ⟨o, k.keep a _ h fun ps z => by cases z⟩)
  · exact .inr h
theorem Kp.sqT {K : PySem.W.Frag} {H H' : Hp} (k : Kp H H') {a : Addr} {xs : List V} (h : SqT K H a xs) : SqT K H' a xs := by
  rcases h with (h | ⟨o, h⟩) | h
  · exact .inl (.inl (k.tup h))
  · exact .inl (.inr ⟨o, k.keep a _ h fun ps z => by cases z⟩)
  · exact .inr h
/-- the heap without p -/
def del (H : Hp) (p : Addr) : Hp := fun b => if b = p then none else H b
theorem del_ne {H : Hp} {p b : Addr} (h : b ≠ p) : del H p b = H b := if_neg h
theorem del_some {H : Hp} {p b : Addr} {o : HO} (h : del H p b = some o) : b ≠ p ∧ H b = some o := by
  unfold del at h
  split at h
  · cases h
  · exact ⟨by assumption, h⟩
theorem del_sub {H : Hp} {p : Addr} : ∀ b o, del H p b = some o → H b = some o := fun b o h => (del_some h).2
theorem Kp.del {H H' : Hp} (k : Kp H H') (p : Addr) (h : ∀ ps, H p ≠ some (.tbl ps)) : Kp (del H p) (del H' p) := by
  refine ⟨fun b o e n => ?_, fun P t => ?_⟩
  · obtain ⟨h1, h2⟩ := del_some e
    rw [del_ne h1]; exact k.keep b o h2 n
  · obtain ⟨ps, e, t2⟩ := t
    obtain ⟨h1, h2⟩ := del_some e
    obtain ⟨qs, e3, t3⟩ := k.tab P ⟨ps, h2, t2⟩
    exact ⟨qs, by rw [del_ne h1]; exact e3, t3⟩

/-! ### data -/
mutual
inductive Rp (K : PySem.W.Frag) (H : Hp) : V → PyData → Prop
  | non : Rp K H .non .none
  | bl (b : Bool) : Rp K H (.bl b) (.bool b)
  | int (i : Int) : Rp K H (.int i) (.int i)
  | str (x : Str) : Rp K H (.str x) (.str x)
  | lst {a : Addr} {xs : List V} {ds : List PyData} : H a = some (.lst xs) → RpL K H xs ds → Rp K H (.ref a) (.list ds)
  | tup {a : Addr} {xs : List V} {ds : List PyData} : H a = some (.tup xs) → RpL K H xs ds → Rp K H (.ref a) (.tuple ds)
  | dct {a : Addr} : H a = some (.dK []) → Rp K H (.ref a) (.dict [])
inductive RpL (K : PySem.W.Frag) (H : Hp) : List V → List PyData → Prop
  | nil : RpL K H [] []
  | cons {v : V} {vs : List V} {d : PyData} {ds : List PyData} : Rp K H v d → RpL K H vs ds → RpL K H (v :: vs) (d :: ds)
end
variable {K : PySem.W.Frag}
mutual
theorem Rp.kp {H H' : Hp} (k : Kp H H') : ∀ {d : PyData} {v : V}, Rp K H v d → Rp K H' v d
  | _, _, .non => .non
  | _, _, .bl b => .bl b
  | _, _, .int i => .int i
  | _, _, .str x => .str x
  | _, _, .lst h a => .lst (k.lst h) (RpL.kp k a)
  | _, _, .tup h a => .tup (k.tup h) (RpL.kp k a)
  | _, _, .dct h => .dct (k.dK h)
theorem RpL.kp {H H' : Hp} (k : Kp H H') : ∀ {ds : List PyData} {vs : List V}, RpL K H vs ds → RpL K H' vs ds
  | _, _, .nil => .nil
  | _, _, .cons a b => .cons (Rp.kp k a) (RpL.kp k b)
end
theorem RpL.length {H : Hp} : ∀ {ds : List PyData} {vs : List V}, RpL K H vs ds → vs.length = ds.length
  | _, _, .nil => rfl
  | _, _, .cons _ t => congrArg Nat.succ (RpL.length t)
theorem RpL.get {H : Hp} : ∀ {ds : List PyData} {vs : List V} {i : Nat} {v : V}, RpL K H vs ds → vs[i]? = some v → ∃ d, ds[i]? = some d ∧ Rp K H v d
  | _, _, _, _, .nil, e => by simp at e
  | _, _, 0, _, .cons r _, e => by simp at e; subst e; exact ⟨_, rfl, r⟩
  | _, _, i + 1, v, .cons _ t, e => by
    obtain ⟨d, h1, h2⟩ := RpL.get (i := i) (v := v) t (by simpa using e)
    exact ⟨d, by simpa using h1, h2⟩
theorem RpL.app {H : Hp} : ∀ {ds es : List PyData} {vs ws : List V}, RpL K H vs ds → RpL K H ws es → RpL K H (vs ++ ws) (ds ++ es)
  | _, _, _, _, .nil, s => s
  | _, _, _, _, .cons r t, s => .cons r (RpL.app t s)
theorem RpL.ints {H : Hp} : ∀ ns : List Int, RpL K H (ns.map V.int) (ns.map PyData.int)
  | [] => .nil
  | n :: r => .cons (.int n) (RpL.ints r)
theorem RpL.set {H : Hp} {x : V} {d : PyData} (r : Rp K H x d) : ∀ {ds : List PyData} {vs : List V} (i : Nat), RpL K H vs ds → RpL K H (vs.set i x) (ds.set i d)
  | _, _, _, .nil => .nil
  | _, _, 0, .cons _ t => .cons r t
  | _, _, i + 1, .cons q t => .cons q (RpL.set r i t)

mutual
theorem Rp.reads {X : Cx} {pins : List (Addr × Obj)} {σ : L2.St} {H : Hp} {s : Shared} (I : Inv X pins σ H s) : ∀ (d : PyData) (v : V) (u : Value), Rp X.K H v d → RelV v u → ∃ as, Reads s.heap u d as ∧ ∀ a ∈ as, H a ≠ none
  | .none, _, _, h, r => by cases h; cases r; exact ⟨_, Reads.none, fun a z => by cases z⟩
  | .bool b, _, _, h, r => by cases h; cases r; exact ⟨_, Reads.bool b, fun a z => by cases z⟩
  | .int i, _, _, h, r => by cases h; obtain ⟨t, rfl⟩ := r; exact ⟨_, Reads.int i t, fun a z => by cases z⟩
  | .str x, _, _, h, r => by cases h; obtain ⟨t, rfl⟩ := r; exact ⟨_, Reads.str x t, fun a z => by cases z⟩
  | .list ds, _, _, h, r => by
    cases h with
    | lst hs ha =>
      cases r
      obtain ⟨z, its, n, rv, ho⟩ := I.hok _ _ hs
      obtain ⟨as, hr, hn⟩ := RpL.reads I ds _ its ha rv
      refine ⟨_, Reads.list ho rfl rfl hr, fun b hb => ?_⟩
      rcases List.mem_cons.mp hb with e | e
      · rw [e, hs]; simp
      · exact hn b e
  | .tuple ds, _, _, h, r => by
    cases h with
    | tup hs ha =>
      cases r
      obtain ⟨z, its, rv, o, ho, hc, n, hd⟩ := I.hok _ _ hs
      obtain ⟨as, hr, hn⟩ := RpL.reads I ds _ its ha rv
      exact ⟨_, Reads.tuple ho hc hd hr, hn⟩
  | .dict kvs, _, _, h, r => by
    cases h with
    | dct hs =>
      cases r
      obtain ⟨_, _, vs, rv, o, es, ep, ho, hx, hd, hk, hp, _⟩ := I.hok _ _ hs
      cases rv
      have e0 : es.toList = [] := by
        cases q : es.toList with
        | nil => rfl
        | cons x t => rw [q] at hp; cases hp
      refine ⟨_, Reads.dict (kvs := []) (as := []) (bs := []) ho hx.1 hd (by rw [e0]; exact .nil) (by rw [e0]; exact .nil), fun b hb => ?_⟩
      rcases List.mem_append.mp hb with e | e
      · rcases List.mem_cons.mp e with e | e
        · rw [e, hs]; simp
        · cases e
      · cases e
theorem RpL.reads {X : Cx} {pins : List (Addr × Obj)} {σ : L2.St} {H : Hp} {s : Shared} (I : Inv X pins σ H s) : ∀ (ds : List PyData) (vs : List V) (us : List Value), RpL X.K H vs ds → Vals vs us → ∃ as, ReadsAll s.heap us ds as ∧ ∀ a ∈ as, H a ≠ none
  | [], _, _, h, r => by cases h; cases r; exact ⟨_, ReadsAll.nil, fun a z => by cases z⟩
  | d :: ds, _, _, h, r => by
    cases h with
    | cons h1 h2 =>
      cases r with
      | cons r1 r2 =>
        obtain ⟨as, q1, n1⟩ := Rp.reads I d _ _ h1 r1
        obtain ⟨bs, q2, n2⟩ := RpL.reads I ds _ _ h2 r2
        refine ⟨_, ReadsAll.cons q1 q2, fun a ha => ?_⟩
        rcases List.mem_append.mp ha with z | z
        · exact n1 a z
        · exact n2 a z
end

/-! ### isinstance of data -/
def tyN : PyData → String
  | .none => "NoneType"
  | .bool _ => "bool"
  | .int _ => "int"
  | .str _ => "str"
  | .list _ => "list"
  | .tuple _ => "tuple"
  | .dict _ => "dict"
theorem tyX_of {H : Hp} {x : V} {d : PyData} (h : Rp K H x d) : TyX K H x (.type (tyN d)) := by
  cases h with
  | non => exact .base .non
  | bl b => exact .base (.bl b)
  | int i => exact .base (.int i)
  | str y => exact .base (.str y)
  | lst h _ => exact .base (.lst h)
  | tup h _ => exact .base (.tup h)
  | dct h => exact .base (.dK h)
def isI : PyData → Bool
  | .int _ => true
  | _ => false
def isIB : PyData → Bool
  | .int _ => true
  | .bool _ => true
  | _ => false
def isB : PyData → Bool
  | .bool _ => true
  | _ => false
def isSq : PyData → Bool
  | .list _ => true
  | .tuple _ => true
  | _ => false
theorem kit_int : ∀ d : PyData, PySem.W.kitOne K (.type (tyN d)) (.type "int") = some (isIB d)
  | .none => kit_ty (show kitB "NoneType" "int" = some false by decide +kernel)
  | .bool _ => kit_ty (show kitB "bool" "int" = some true by decide +kernel)
  | .int _ => kit_ty (show kitB "int" "int" = some true by decide +kernel)
  | .str _ => kit_ty (show kitB "str" "int" = some false by decide +kernel)
  | .list _ => kit_ty (show kitB "list" "int" = some false by decide +kernel)
  | .tuple _ => kit_ty (show kitB "tuple" "int" = some false by decide +kernel)
  | .dict _ => kit_ty (show kitB "dict" "int" = some false by decide +kernel)
theorem kit_bool : ∀ d : PyData, PySem.W.kitOne K (.type (tyN d)) (.type "bool") = some (isB d)
  | .none => kit_ty (show kitB "NoneType" "bool" = some false by decide +kernel)
  | .bool _ => kit_ty (show kitB "bool" "bool" = some true by decide +kernel)
  | .int _ => kit_ty (show kitB "int" "bool" = some false by decide +kernel)
  | .str _ => kit_ty (show kitB "str" "bool" = some false by decide +kernel)
  | .list _ => kit_ty (show kitB "list" "bool" = some false by decide +kernel)
  | .tuple _ => kit_ty (show kitB "tuple" "bool" = some false by decide +kernel)
  | .dict _ => kit_ty (show kitB "dict" "bool" = some false by decide +kernel)
theorem kit_seq : ∀ d : PyData, PySem.W.kitAny K (.type (tyN d)) [.type "list", .type "tuple"] = some (isSq d)
  | .none => kitAny_cons (b := false) (kit_ty (show kitB "NoneType" "list" = some false by decide +kernel)) (fun _ => kitAny_cons (b := false) (kit_ty (show kitB "NoneType" "tuple" = some false by decide +kernel)) (fun _ => kitAny_nil) (fun z => nomatch z)) (fun z => nomatch z)
  | .bool _ => kitAny_cons (b := false) (kit_ty (show kitB "bool" "list" = some false by decide +kernel)) (fun _ => kitAny_cons (b := false) (kit_ty (show kitB "bool" "tuple" = some false by decide +kernel)) (fun _ => kitAny_nil) (fun z => nomatch z)) (fun z => nomatch z)
  | .int _ => kitAny_cons (b := false) (kit_ty (show kitB "int" "list" = some false by decide +kernel)) (fun _ => kitAny_cons (b := false) (kit_ty (show kitB "int" "tuple" = some false by decide +kernel)) (fun _ => kitAny_nil) (fun z => nomatch z)) (fun z => nomatch z)
  | .str _ => kitAny_cons (b := false) (kit_ty (show kitB "str" "list" = some false by decide +kernel)) (fun _ => kitAny_cons (b := false) (kit_ty (show kitB "str" "tuple" = some false by decide +kernel)) (fun _ => kitAny_nil) (fun z => nomatch z)) (fun z => nomatch z)
  | .list _ => kitAny_cons (b := true) (kit_ty (show kitB "list" "list" = some true by decide +kernel)) (fun z => nomatch z) (fun _ => rfl)
  | .tuple _ => kitAny_cons (b := false) (kit_ty (show kitB "tuple" "list" = some false by decide +kernel)) (fun _ => kitAny_cons (b := true) (kit_ty (show kitB "tuple" "tuple" = some true by decide +kernel)) (fun z => nomatch z) (fun _ => rfl)) (fun z => nomatch z)
  | .dict _ => kitAny_cons (b := false) (kit_ty (show kitB "dict" "list" = some false by decide +kernel)) (fun _ => kitAny_cons (b := false) (kit_ty (show kitB "dict" "tuple" = some false by decide +kernel)) (fun _ => kitAny_nil) (fun z => nomatch z)) (fun z => nomatch z)

/-! ### a list or a tuple -/
/-- at a a list or a tuple of xs is to be read -/
def Sq (K : PySem.W.Frag) (H : Hp) (a : Addr) (xs : List V) : Prop := SqL K H a xs ∨ SqT K H a xs
theorem Kp.sq {H H' : Hp} (k : Kp H H') {a : Addr} {xs : List V} (h : Sq K H a xs) : Sq K H' a xs := h.imp k.sqL k.sqT
def kids : PyData → List PyData
  | .list ds => ds
  | .tuple ds => ds
  | _ => []
theorem Rp.sq {H : Hp} {x : V} {d : PyData} (h : Rp K H x d) (hs : isSq d = true) : ∃ a xs, x = .ref a ∧ Sq K H a xs ∧ RpL K H xs (kids d) := by
  cases h with
  | lst h r => exact ⟨_, _, rfl, .inl (.inl (.inl h)), r⟩
  | tup h r => exact ⟨_, _, rfl, .inr (.inl (.inl h)), r⟩
  | _ => cases hs
/-- what a for, a comprehension walks: a list or a tuple -/
def iSq (K : PySem.W.Frag) (tl : TE) : TI := fun σ H R => tl σ H fun x H1 => ∃ a xs, x = .ref a ∧ ((SqL K H1 a xs ∧ R (Itl K a) H1) ∨ (SqT K H1 a xs ∧ R (Itt K a) H1))
section
variable {X : Cx} {tg l : Expr} {tl : TE}
theorem pi_sq (hl : PE X l tl) : PI X tg l (iSq X.K tl) := by
  refine ⟨fun pins s σ H R I h => ?_⟩
  refine thn (hl.run pins s σ H _ I h) fun u s1 h1 => ?_
  obtain ⟨x, H1, I1, r1, a, xs, rfl, q⟩ := h1
  have pe0 : ∀ (R' : It → Hp → Prop) (w0 : L2.St → Hp → (It → Hp → Prop) → Prop), True := fun _ _ => trivial
  rcases q with ⟨q1, q2⟩ | ⟨q1, q2⟩
  · obtain ⟨its, rv, p, hz⟩ := I1.list q1
    cases r1
    refine wpAny_pyIter_list p.isList ?_
    have I2 : Inv X pins σ H1 { s1 with heap := s1.heap.push { cls := .type "list_iterator", data := .fields #[.ref a, .int 0 0] } } := I1.kept (t' := s1.toks) fun b o e => Heap.get?_push_of_some _ e
    exact ⟨s1.heap.objs.size, [s1.heap.objs.size], _, _, H1, rfl, I2, turn_list a _, ⟨_, Heap.get?_push_size _ rfl, rfl, rfl⟩, fun b hb => by
      rw [List.mem_singleton.mp hb]
      exact I1.fpOk (Nat.le_refl _) (I1.hok.fresh (Nat.le_refl _)), q2⟩
  · obtain ⟨its, rv, p, hz⟩ := I1.tuple q1
    cases r1
    refine wpAny_pyIter_tuple p ?_
    have I2 : Inv X pins σ H1 { s1 with heap := s1.heap.push { cls := .type "tuple_iterator", data := .fields #[.ref a, .int 0 0] } } := I1.kept (t' := s1.toks) fun b o e => Heap.get?_push_of_some _ e
    exact ⟨s1.heap.objs.size, [s1.heap.objs.size], _, _, H1, rfl, I2, turn_tuple a _, ⟨_, Heap.get?_push_size _ rfl, rfl, rfl⟩, fun b hb => by
      rw [List.mem_singleton.mp hb]
      exact I1.fpOk (Nat.le_refl _) (I1.hok.fresh (Nat.le_refl _)), q2⟩
end
/-- all(..), any(..) over it: V between the turns -/
theorem rd_all {P : Addr} {ix : Nat} {te : TE} {go : Bool} {σ : L2.St} {H1 : Hp} {Q : VK} {a : Addr} {xs : List V} (V0 : Nat → Hp → Prop) (hq : Sq K H1 a xs) (hP : GxR.TabG H1 P)
    (h0 : ∀ H2, GxR.Tabbed P H1 H2 → V0 0 H2) (hk : ∀ i H', i ≤ xs.length → V0 i H' → Kp H1 H')
    (hs : ∀ i x H', xs[i]? = some x → V0 i H' → te (σ.set ix (some x)) H' fun v H'' => ∃ b, v = .bl b ∧ if b = go then V0 (i + 1) H'' else Q (.bl (!go)) H'')
    (hf : ∀ H', V0 xs.length H' → Q (.bl go) H') :
    (SqL K H1 a xs ∧ (GxR.TabG H1 P ∧ ∀ H2, GxR.Tabbed P H1 H2 → ∃ (n : Nat) (Pn : Gx.Plan), Gx.Turns (Itl K a) (gName ix) te go n Pn ∧ Pn.W 0 (σ.set ix none) H2 ∧
      (∀ i σ' H', Pn.Out (!go) i σ' H' → Q (.bl (!go)) H') ∧ ∀ H', Pn.Fin H' → Q (.bl go) H')) ∨
    (SqT K H1 a xs ∧ (GxR.TabG H1 P ∧ ∀ H2, GxR.Tabbed P H1 H2 → ∃ (n : Nat) (Pn : Gx.Plan), Gx.Turns (Itt K a) (gName ix) te go n Pn ∧ Pn.W 0 (σ.set ix none) H2 ∧
      (∀ i σ' H', Pn.Out (!go) i σ' H' → Q (.bl (!go)) H') ∧ ∀ H', Pn.Fin H' → Q (.bl go) H')) := by
  have pl : ∀ (J : It), (∀ i H', i ≤ xs.length → V0 i H' → (J.stop i H' ∧ i = xs.length) ∨ (i < xs.length ∧ J.go i H' ∧ ∀ x H'', J.yld i H' x H'' → H'' = H' ∧ xs[i]? = some x)) →
      ∀ H2, GxR.Tabbed P H1 H2 → ∃ (n : Nat) (Pn : Gx.Plan), Gx.Turns J (gName ix) te go n Pn ∧ Pn.W 0 (σ.set ix none) H2 ∧ (∀ i σ' H', Pn.Out (!go) i σ' H' → Q (.bl (!go)) H') ∧ ∀ H', Pn.Fin H' → Q (.bl go) H' := by
    intro J hJ H2 h2
    refine ⟨xs.length, ⟨fun i σ' H' => (∃ v, σ' = σ.set ix v) ∧ V0 i H', fun b _ _ H' => b = (!go) ∧ Q (.bl (!go)) H', fun H' => Q (.bl go) H'⟩, ?_, ⟨⟨none, rfl⟩, h0 H2 h2⟩, fun _ _ _ z => z.2, fun _ z => z⟩
    rintro i σ' H' hi ⟨⟨v, rfl⟩, hv⟩
    rcases hJ i H' hi hv with ⟨s1, s2⟩ | ⟨s1, s2, s3⟩
    · subst s2
      exact .inl ⟨s1, hf H' hv⟩
    · refine .inr ⟨s1, s2, fun x H'' hy => ?_⟩
      obtain ⟨rfl, hx⟩ := s3 x H'' hy
      show te ((σ.set ix v).set ix (some x)) H'' _
      rw [List.set_set]
      have := hs i x H'' hx hv
      have e : (fun (v : V) (H'' : Hp) => ∃ b, v = .bl b ∧ if b = go then V0 (i + 1) H'' else Q (.bl (!go)) H'') = fun (v : V) (H3 : Hp) => ∃ b, v = V.bl b ∧ if b = go then (∃ v, σ.set ix (some x) = σ.set ix v) ∧ V0 (i + 1) H3 else b = (!go) ∧ Q (.bl (!go)) H3 := by
        funext v H3
        apply propext
        constructor
        · rintro ⟨b, rfl, q⟩
          refine ⟨b, rfl, ?_⟩
          by_cases hb : b = go
          · rw [if_pos hb] at q ⊢
            exact ⟨⟨_, rfl⟩, q⟩
          · rw [if_neg hb] at q ⊢
            exact ⟨by cases b <;> cases go <;> first | rfl | exact absurd rfl hb, q⟩
        · rintro ⟨b, rfl, q⟩
          refine ⟨b, rfl, ?_⟩
          by_cases hb : b = go
          · rw [if_pos hb] at q ⊢
            exact q.2
          · rw [if_neg hb] at q ⊢
            exact q.2
      rw [← e]
      exact this
  rcases hq with hq | hq
  · refine .inl ⟨hq, hP, pl _ fun i H' hi hv => ?_⟩
    have h' := (hk i H' hi hv).sqL hq
    rcases Nat.lt_or_ge i xs.length with hlt | hge
    · exact .inr ⟨hlt, ⟨xs, xs[i], h', List.getElem?_eq_getElem hlt⟩, fun x H'' hy => ⟨hy.1, hy.2 xs h'⟩⟩
    · exact .inl ⟨⟨xs, h', hge⟩, by omega⟩
  · refine .inr ⟨hq, hP, pl _ fun i H' hi hv => ?_⟩
    have h' := (hk i H' hi hv).sqT hq
    rcases Nat.lt_or_ge i xs.length with hlt | hge
    · exact .inr ⟨hlt, ⟨xs, xs[i], h', List.getElem?_eq_getElem hlt⟩, fun x H'' hy => ⟨hy.1, hy.2 xs h'⟩⟩
    · exact .inl ⟨⟨xs, h', hge⟩, by omega⟩
end Tb

namespace Tb
open PySem PySem.Spec PyProof.Rows L2

/-! ### a def that wants to know what is being shown around it, and where sys.modules stands -/
structure FnG (P : Program) (w : World) (K : PySem.W.Frag) (mg : Str → Option Value) (base : Heap) (k : Nat) (f : Addr) (fd : FuncData) (ps : List Str) (sp : Sp) : Prop where
  len : ∀ vs H Q E, sp vs H Q E → vs.length = ps.length
  run : ∀ (A : Around) (outer : List Env) (s : Shared) (H : Hp) (args : Args) (us : List Value) (vs : List V) (Q : VK), Room k A → A.guards = some [] → Env0 P w K mg base A outer s H → BindsTo s fd args (ps.zip us) → Vals vs us → sp vs H Q E0 →
    codeAny (model P w) A (.call (.ref f) args) (CR CX0 outer P w H s Q E0) s
section
variable {P : Program} {w : World} {K : PySem.W.Frag} {mg : Str → Option Value} {base : Heap} {N ps : List Str} {qual x : Str} {st : Stmt} {f : Addr} {fd : FuncData} {k : Nat} {sp : Sp}
theorem okG (F : Fun K x qual st f fd) (S : FnScope N ps (defScope st)) (len : ∀ vs H Q E, sp vs H Q E → vs.length = ps.length)
    (hb : ∀ (cdv : Value) (A : Around) (outer : List Env) (s : Shared) (H : Hp) (vs : List V) (Q : VK), Room k (A.deeper (envOfC qual (defScope st) s.heap.objs.size f cdv)) → A.guards = some [] → sp vs H Q E0 →
      ∃ t, PSs (cxOf CX0 P w K mg base N qual (defScope st) f cdv A outer s H E0).nox (defBody st) t ∧ t { nx := fun _ H' => Q .non H', rt := Q } (start N vs) H) : FnG P w K mg base (k + 1) f fd ps sp := by
  obtain ⟨oc, od, kV, doc, pm, an, cdv, ct, osl, rfl, lk, hcd⟩ := F.ex
  refine ⟨len, fun A outer s H args us vs Q hr hgd e0 hbn r hsp => ?_⟩
  have hl := len _ _ _ _ hsp
  have inS : K.In s.heap := e0.mod.kin.keeps fun b o e => (e0.bs b o e).1
  have noL : s.heap.NoLimit := e0.mod.nolimit.keeps fun b o e => (e0.bs b o e).1
  have kinds : ∀ y ∈ ps.zip us, (defScope st).names.lookup y.1 = some .local ∨ ((defScope st).names.lookup y.1 = some .cell ∧ ((cellsFrom (s.heap.objs.size + 1) (defScope st).names []).lookup y.1).isSome = true) := by
    rintro ⟨n, v⟩ hy
    rcases S.par n (List.of_mem_zip hy).1 with q | q
    · exact .inl q
    · exact .inr ⟨q, PySem.W.cellsFrom_some _ _ _ (.inl q)⟩
  refine codeAny_call_function hr.depth (inS _ _ lk) rfl S.co S.gen rfl (PySem.W.codeRec_of inS hcd) (hbn _ _ _ _ ?_)
  refine wpAny_newFunctionEnv_cells S.kind kinds fun env he s1 xc => ?_
  subst he
  refine ⟨noL.keeps xc.toInCall.keep, codeAny_func ?_⟩
  obtain ⟨t, ht, hq⟩ := hb cdv A outer s H vs Q (hr.deeper _) hgd hsp
  have J : Inv (cxOf CX0 P w K mg base N qual (defScope st) f cdv A outer s H E0) [] (start N vs) H s1 := inv_start S hr.hd e0 hl r xc
  refine wpAny_mono (ht.nox.run [] s1 (start N vs) H _ J hq) (fun fl s' hs => ?_) fun e s' hs => hs
  cases fl with
  | ret u =>
    obtain ⟨v, σ', H', I', rv, q⟩ := hs
    exact ⟨v, H', I'.os, I'.bare, I'.base, I'.hok, rv, q⟩
  | next =>
    obtain ⟨σ', H', I', q⟩ := hs
    exact ⟨V.non, H', I'.os, I'.bare, I'.base, I'.hok, rfl, q⟩
  | brk => obtain ⟨_, _, _, q⟩ := hs; exact q.elim
  | cont => obtain ⟨_, _, _, q⟩ := hs; exact q.elim
end
section
variable {X : Cx} {k : Nat} {f : Addr} {fd : FuncData} {ps : List Str} {sp : Sp} {x : Str} {p pos : Pos} {e : Expr} {es : List Expr} {t : TA}
theorem pe_callG (F : FnG X.prog X.w X.K X.mg X.base k f fd ps sp) (hr : Room k X.A) (hgd : X.A.guards = some []) (hg : Gl X x) (hm : X.mg x = some (.ref f)) (hk : PySem.W.keepIn X.K (.ref f) = true) (hb : Binds X.K fd ps [])
    (ha : PA X (e :: es) t) (hdb : (x == ("__debug__" : Str)) = false := by decide) (he : starEach (e :: es) X.env = (false, eval e X.env) :: starEach es X.env := by rfl) (hpl : (backTo pos (starEach es X.env)).any (·.1) = false := by rfl) :
    PE X (.Call (.Name x p) (e :: es) [] pos) (tCall sp [] E0 t) := by
  refine ⟨fun pins s σ H Q I h => ?_⟩
  refine wpAny_Call_Name_kw (ld_glob I hg hm ?_ hdb)
  refine PySem.W.callWith_K (h₀ := X.base) I.ok.mod.kin hk (thn (ha.run pos pins s σ H _ I h) fun us s1 h1 => ?_) he hpl
  obtain ⟨vs, H1, I1, r, q⟩ := h1
  refine ⟨I1.kIn, ?_⟩
  rw [List.append_nil] at q
  have hl : us.length = ps.length := by rw [← r.length]; exact F.len _ _ _ _ q
  have bt := hb s1 us I1.kIn (by rw [List.append_nil]; exact hl)
  rw [List.append_nil] at bt
  refine wpAny_call (codeAny_mono (F.run X.A X.stack s1 H1 ⟨us, []⟩ us vs Q hr hgd I1.env0 bt r q) fun r s' hq => ?_)
  cases r with
  | error e => exact hq.elim
  | ok fl =>
    cases fl with
    | ret u => exact I1.after hq
    | next => exact hq.elim
    | brk => exact hq.elim
    | cont => exact hq.elim
end

/-! ### repr -/
section
variable {X : Cx}
/-- repr of data; of a bool -/
def rRepr (K : PySem.W.Frag) : List V → Hp → VK → Prop := fun vs H Q => ∃ x d, vs = [x] ∧ Rp K H x d ∧ d.showable = true ∧ d.depth ≤ 60 ∧ d.shown.length ≤ sizeLine ∧ Q (.str d.shown) H
theorem cr_repr (hu : X.A.units + 64 < cLine) (hgd : X.A.guards = some []) (hsys : ∃ o, X.base.get? sysModules = some o) : CallR X (.builtin "repr") (rRepr X.K) := by
  intro pins s σ H vs us Q I r h
  obtain ⟨x, d, rfl, hx, hs, hd, hz, q⟩ := h
  obtain ⟨u, rfl, ru⟩ := r.one
  have ref : ∀ a, u = .ref a → wpAny (model X.prog X.w) X.A (call (.builtin "repr") [u]) (EP X pins σ Q) X.xe s := by
    rintro a rfl
    obtain ⟨as, rd, hn⟩ := Rp.reads I d x (.ref a) hx ru
    refine repr_of_reads' (h₀ := s.heap) rd hs (fun _ hm => ?_) hgd (by omega) (fun _ _ e => e) (fun h' u tk hk => ⟨.str d.shown, H, I.kept hk, ⟨u, rfl⟩, q⟩) hz
    obtain ⟨o, ho⟩ := hsys
    exact hn _ hm (I.bs _ _ ho).2
  cases hx with
  | non => cases ru; exact PySem.P.repr_of_none ⟨.str _, H, I.tok _, ⟨_, rfl⟩, q⟩
  | bl b =>
    cases ru
    exact PySem.P.repr_of_bool ⟨.str _, H, I.tok _, ⟨_, rfl⟩, by cases b <;> exact q⟩
  | int i =>
    obtain ⟨t, rfl⟩ := ru
    exact PySem.P.repr_of_int (of_decide_eq_true hs) ⟨.str _, H, I.tok _, ⟨_, rfl⟩, q⟩
  | str y =>
    obtain ⟨t, rfl⟩ := ru
    exact PySem.P.repr_of_str ⟨.str _, H, I.tok _, ⟨_, rfl⟩, q⟩ hz
  | lst h a => exact ref _ ru
  | tup h a => exact ref _ ru
  | dct h => exact ref _ ru
end
end Tb

namespace Tb
open PySem PySem.Spec PyProof.Rows L2
/-! ### set of a list of ints -/
abbrev nso (w : World) : Obj := { cls := .type "set", dict := none, data := .set #[] 0 (.fresh 0 0 (!w.params.followText "set-order")) }
abbrev iso (l : Addr) : Obj := { cls := .type "list_iterator", data := .fields #[.ref l, .int 0 0] }
section
variable {P : Program} {w : World} {A : Around} {E : Value → Shared → Prop} {s : Shared}
theorem set_of_list {l : Addr} {its : Array Value} (zs : List Int) {Q : Value → Shared → Prop} (h0 : A.handled = none) (hL : s.heap.IsList l its) (hI : IntsAre its.toList zs) (hB : zs.length + 1 < scanBound)
    (k : ∀ (g : Heap) (tk c : Nat), SetR w g s.heap.objs.size (fun j => decide (j ∈ zs)) c → c ≤ zs.length → (∀ b o, s.heap.get? b = some o → g.get? b = some o) → Q (.ref s.heap.objs.size) { s with heap := g, toks := tk }) :
    wpAny (model P w) A (call (.type "set") [.ref l]) Q E s := by
  have size : its.size = zs.length := by
    have := IntsAre.length hI
    rwa [Array.length_toList] at this
  obtain ⟨cc, tl, hmro⟩ := F.called_set.mro
  have made := F.called_set.made
  have subs := F.called_set.sub
  refine wpAny_call (codeAny_of_tree ?_)
  show wpAny _ _ (callAny (.type "set") _) _ _ _
  refine wpAny_pure ⟨Code.quiet_builtin _ (by decide +kernel), ?_⟩
  refine codeAny_builtin F.entry_type_call ?_
  rw [Around.under_plain (weight_type_call_type "set" [.ref l] []) rfl]
  have nt := F.called_set.notType
  have cr := F.called_set.canCreate
  have tc := F.typeCall_set_1 (.ref l)
  repeat (any_goals (first | assumption | wp_step))
  refine codeAny_mono (code_set_led1 (.ref l) (E := E) (Q₁ := fun u s1 => u = .ref s.heap.objs.size ∧ s1 = { s with heap := s.heap.push (nso w) }) ⟨rfl, rfl⟩) fun r s1 hr => ?_
  cases r with
  | error e => exact hr
  | ok fl =>
    cases fl with
    | ret u =>
      obtain ⟨rfl, rfl⟩ := hr
      have gS : (s.heap.push (nso w)).get? s.heap.objs.size = some (nso w) := Heap.get?_push_size _ rfl
      have tS : Shared.TypeIs { s with heap := s.heap.push (nso w) } (.ref s.heap.objs.size) "set" := ⟨_, gS, rfl⟩
      have il := F.called_set.init.lookup
      have ib := F.called_set.init.bind (.ref s.heap.objs.size)
      repeat (any_goals (first | assumption | wp_step))
      refine codeAny_mono (codeAny_call_builtin (R := wants (fun r s2 => r = .none ∧ ∃ g tk c, s2 = { s with heap := g, toks := tk } ∧ SetR w g s.heap.objs.size (fun j => decide (j ∈ zs)) c ∧ c ≤ zs.length ∧
          (∀ b o, s.heap.get? b = some o → g.get? b = some o)) E) F.called_set.init.plain F.entry_set_init (check_set_init_1 tS ?_)) fun r2 s2 hr2 => ?_
      · obtain ⟨ol, gl, cl, nl, dl⟩ := hL
        obtain ⟨lc, ld, lt, ls⟩ := ol
        simp only at cl dl
        subst cl; subst dl
        have gl' : (s.heap.push (nso w)).get? l = some { cls := .type "list", dict := ld, data := .seq its nl, slots := ls } := Heap.get?_push_of_some _ gl
        have q1 := F.sub_list_set
        have q2 := F.sub_list_frozenset
        have q3 : (Value.type "list" == Value.type "dict") = false := by decide
        have L1 : (s.heap.push (nso w)).IsList l its := ⟨_, gl', rfl, nl, rfl⟩
        unfold Builtin.«set.__init__» noKeywords Builtin.Frozenset.updateFrom
        generalize hPI : pyIter = PI
        wp_walk
        subst hPI
        refine wpAny_pyIter_list L1 ?_
        refine wpAny_bind (wpAny_runValue ?_)
        have below : l < s.heap.objs.size := Heap.lt_size gl
        have h3 : A.in1.in1.in1.handled = none := by simp [h0]
        have z1 : (s.heap.push (nso w)).objs.size = s.heap.objs.size + 1 := Heap.size_push ..
        have ne1 : l ≠ (s.heap.push (nso w)).objs.size := by
          rw [z1]; exact Nat.ne_of_lt (Nat.lt_succ_of_lt below)
        have nS : s.heap.objs.size ∉ [(s.heap.push (nso w)).objs.size, l] := by
          rw [z1]
          simp only [List.mem_cons, List.mem_singleton, List.not_mem_nil, or_false, not_or]
          exact ⟨Nat.ne_of_lt (Nat.lt_succ_self _), Nat.ne_of_gt below⟩
        have vals : ∀ (i : Nat) (v : Value), its[i]? = some v → ∃ z t, zs[i]? = some z ∧ v = .int z t := by
          intro i v hv
          have hi : i < zs.length := by rw [← size]; exact (Array.getElem?_eq_some_iff.mp hv).1
          obtain ⟨t, e⟩ := PyProof.Rows.IntsAre.int_at hI i v (by rw [Array.getElem?_toList]; exact hv)
          exact ⟨zs[i], t, List.getElem?_eq_getElem hi, by rw [e, List.getD_eq_getElem?_getD, List.getElem?_eq_getElem hi] <;> rfl⟩
        refine set_update_ints ((Walks.list h3 _ l ne1 its).toS) s.heap.objs.size nS zs size hB vals (its.size - 0) 0 _ (by omega) (Nat.zero_le _) ⟨⟨_, Heap.get?_push_size _ rfl, rfl, rfl⟩, (L1.push _)⟩ ?c0 ?c1
        case c0 => exact ⟨0, Nat.le_refl 0, setR_new_at (show ((s.heap.push (nso w)).push (iso l)).get? s.heap.objs.size = some (nso w) from Heap.get?_push_of_some _ gS)⟩
        case c1 =>
          intro s' c' mv lc' R'
          obtain ⟨g, gg, dd, tk', os'⟩ := s'
          have e1 : gg = s.gens := mv.gens
          have e2 : dd = s.drawn := mv.drawn
          have e3 : os' = s.os := mv.os
          subst e1; subst e2; subst e3
          show wpAny _ _ _ _ _ _
          refine wpAny_pure ?_
          show wpAny _ _ (ret Value.none) _ _ _
          rw [size] at lc'
          refine wpAny_pure ⟨rfl, g, tk', c', rfl, R', lc', fun b o e => ?_⟩
          have b0 : b < s.heap.objs.size := Heap.lt_size e
          refine mv.heap b o (fun hm => ?_) (Heap.get?_push_of_some _ (Heap.get?_push_of_some _ e))
          rcases List.mem_cons.mp hm with q | q
          · exact absurd q (Nat.ne_of_lt b0)
          · rcases List.mem_cons.mp q with q | q
            · rw [z1] at q
              exact absurd q (Nat.ne_of_lt (Nat.lt_succ_of_lt b0))
            · cases q
      · cases r2 with
        | error e => exact hr2
        | ok f2 =>
          cases f2 with
          | ret r =>
            obtain ⟨rfl, g, tk, c, rfl, R2, lc2, kk⟩ := hr2
            repeat (any_goals (first | assumption | wp_step))
            exact k _ _ _ R2 lc2 kk
          | next => exact hr2.elim
          | brk => exact hr2.elim
          | cont => exact hr2.elim
    | next => exact hr.elim
    | brk => exact hr.elim
    | cont => exact hr.elim
end
/-- sorted(set(xs)), xs a list of ints -/
def rSetL (w : World) (K : PySem.W.Frag) : List V → Hp → VK → Prop := fun vs H Q => ∃ (l : Addr) (zs : List Int), vs = [.ref l] ∧ SqL K H l (zs.map V.int) ∧ zs.length + 1 < scanBound ∧
  ∀ p c, H p = none → c ≤ zs.length → Q (.ref p) (upd H p (SetO w p (fun j => decide (j ∈ zs)) c))
theorem cr_setL {X : Cx} (hc : X.calm = true) : CallR X (.type "set") (rSetL X.w X.K) := by
  intro pins s σ H vs us Q I r h
  obtain ⟨l, zs, rfl, hl, hb, q⟩ := h
  obtain ⟨u, rfl, ru⟩ := r.one
  cases ru
  obtain ⟨its, rv, p, hz⟩ := I.list hl
  refine set_of_list zs (I.ok.hd hc) p.isList (by simpa using ints_of_vals rv) hb fun g tk c R hc' kp => ?_
  exact ⟨.ref _, upd H s.heap.objs.size (SetO X.w s.heap.objs.size (fun j => decide (j ∈ zs)) c), I.laid kp (Nat.le_refl _) (setO_new R), rfl, q _ c (I.hok.fresh (Nat.le_refl _)) hc'⟩
end Tb

namespace Tb
open PySem PySem.Spec PyProof.Rows L2
def top (i : Nat) : Stmt := PySem.Challenge.pw_partsmet_k33_any_value_as_table.main.body.getD i (.Pass ⟨0, 0, 0, 0⟩)
/-- what the module's names hold -/
structure Tx (mg : Str → Option Value) (f : String → Addr) : Prop where
  fn : ∀ x ∈ ["is_integer", "is_count", "is_count_below", "is_list", "is_table", "has_table_form", "is_row", "keeps_join_rules", "_law_pot", "_law_draw", "_law_pick", "_law_closed", "_law_lots", "_law_rows", "_law_is_list", "_law_is_number", "_law_is_square", "_law_is_table", "_law_bent", "_law_right"], mg (Str.ofString x) = some (.ref (f x))
  bl : ∀ x ∈ ["isinstance", "int", "bool", "list", "tuple", "len", "all", "range", "abs", "sum", "max", "divmod", "sorted", "set", "repr"], mg (Str.ofString x) = none
  most : ∃ t, mg "MOST_STATES" = some (.int 8 t)
section
variable {P : Program} {w : World} {K : PySem.W.Frag} {mg : Str → Option Value} {base : Heap} {f : String → Addr} {a : Addr} {fd g1 g2 g3 g4 : FuncData}

theorem pe_ty {X : Cx} {x : Str} {n : String} {pos : Pos} (hg : Gl X x) (hm : X.mg x = none) (hv : bootBuiltins x = some (.type n)) (hn : x ≠ "__name__" := by decide) (hdb : (x == ("__debug__" : Str)) = false := by decide) : PE X (.Name x pos) (tC (.ty n)) := pe_bltn (v := .ty n) hg hm hv rfl hn hdb

/-! ### is_integer, is_count, is_count_below, is_list -/
def spIs (K : PySem.W.Frag) (b : PyData → Bool) : Sp := fun vs H Q _ => ∃ x d, vs = [x] ∧ Rp K H x d ∧ ∀ H', Kp H H' → Q (.bl (b d)) H'
def spBel (K : PySem.W.Frag) (b : PyData → Int → Bool) : Sp := fun vs H Q _ => ∃ x d n, vs = [x, .int n] ∧ Rp K H x d ∧ ∀ H', Kp H H' → Q (.bl (b d n)) H'
def isC : PyData → Bool
  | .int i => decide (0 ≤ i)
  | _ => false
def isBel : PyData → Int → Bool
  | .int i, n => decide (0 ≤ i) && decide (i < n)
  | _, _ => false
theorem sc1 : FnScope ["value"] ["value"] (defScope (top 1)) := ⟨rfl, rfl, rfl, by decide +kernel, rfl, by decide +kernel, by decide +kernel⟩
theorem sc2 : FnScope ["value"] ["value"] (defScope (top 2)) := ⟨rfl, rfl, rfl, by decide +kernel, rfl, by decide +kernel, by decide +kernel⟩
theorem sc3 : FnScope ["value", "bound"] ["value", "bound"] (defScope (top 3)) := ⟨rfl, rfl, rfl, by decide +kernel, rfl, by decide +kernel, by decide +kernel⟩
theorem sc4 : FnScope ["value"] ["value"] (defScope (top 4)) := ⟨rfl, rfl, rfl, by decide +kernel, rfl, by decide +kernel, by decide +kernel⟩
theorem bi_isi : bootBuiltins "isinstance" = some (.builtin "isinstance") := by decide +kernel
theorem bi_int : bootBuiltins "int" = some (.type "int") := by decide +kernel
theorem bi_bool : bootBuiltins "bool" = some (.type "bool") := by decide +kernel
theorem bi_list : bootBuiltins "list" = some (.type "list") := by decide +kernel
theorem bi_tuple : bootBuiltins "tuple" = some (.type "tuple") := by decide +kernel
theorem ok1 (T : Tx mg f) (F : Fun K "is_integer" "is_integer" (top 1) a fd) : FnOk P w K mg base CX0 1 a fd ["value"] (spIs K isI) := by
  refine F.ok sc1 (fun vs H Q E h => ?_) (fun cdv A outer s H vs Q E hr h => ?_)
  · obtain ⟨x, d, rfl, _⟩ := h
    rfl
  obtain ⟨x, d, rfl, hd, q⟩ := h
  refine ⟨_, pss_one (ps_ret (pe_and (pe_callB call_isi rfl (T.bl "isinstance" (by simp)) bi_isi (pa_cons (pv 0) (pa_cons (pe_ty rfl (T.bl "int" (by simp)) bi_int) pa_nil)))
    (pe_one (pe_not (pe_callB call_isi rfl (T.bl "isinstance" (by simp)) bi_isi (pa_cons (pv 0) (pa_cons (pe_ty rfl (T.bl "bool" (by simp)) bi_bool) pa_nil))))))), ?_⟩
  refine ⟨_, rfl, x, .ty "int", _, _, _, rfl, .ty "int", tyX_of hd, kit_int d, _, rfl, ite2 (fun c => ?_) (fun c => ?_)⟩
  · refine ⟨_, rfl, x, .ty "bool", _, _, _, rfl, .ty "bool", tyX_of hd, kit_bool d, _, rfl, ?_⟩
    have e : isI d = !isB d := by cases d <;> first | rfl | cases c
    have := q H (Kp.refl H)
    rw [e] at this
    exact this
  · have e : isI d = false := by cases d <;> first | rfl | exact absurd rfl c
    have := q H (Kp.refl H)
    rw [e] at this
    exact this
theorem ok4 (T : Tx mg f) (F : Fun K "is_list" "is_list" (top 4) a fd) : FnOk P w K mg base CX0 1 a fd ["value"] (spIs K isSq) := by
  refine F.ok sc4 (fun vs H Q E h => ?_) (fun cdv A outer s H vs Q E hr h => ?_)
  · obtain ⟨x, d, rfl, _⟩ := h
    rfl
  obtain ⟨x, d, rfl, hd, q⟩ := h
  refine ⟨_, pss_one (ps_ret (pe_callB call_isiT rfl (T.bl "isinstance" (by simp)) bi_isi (pa_cons (pv 0) (pa_cons (pe_tup (pa_cons (pe_ty rfl (T.bl "list" (by simp)) bi_list) (pa_cons (pe_ty rfl (T.bl "tuple" (by simp)) bi_tuple) pa_nil))) pa_nil)))), ?_⟩
  refine ⟨_, rfl, (by show 2 ≤ sizeLine; decide), fun t ht => ?_⟩
  have k := Kp.new (o := .tup [.ty "list", .ty "tuple"]) ht
  exact ⟨x, t, _, _, _, _, rfl, upd_same, .cons (.ty _) (.cons (.ty _) .nil), tyX_of (hd.kp k), kit_seq d, q _ k⟩
theorem ok2 (T : Tx mg f) (F : Fun K "is_count" "is_count" (top 2) a fd) (G : FnOk P w K mg base CX0 1 (f "is_integer") g1 ["value"] (spIs K isI)) (B : Binds K g1 ["value"] []) (kp : PySem.W.keepIn K (.ref (f "is_integer")) = true) : FnOk P w K mg base CX0 2 a fd ["value"] (spIs K isC) := by
  refine F.ok sc2 (fun vs H Q E h => ?_) (fun cdv A outer s H vs Q E hr h => ?_)
  · obtain ⟨x, d, rfl, _⟩ := h
    rfl
  obtain ⟨x, d, rfl, hd, q⟩ := h
  refine ⟨_, pss_one (ps_ret (pe_and (pe_call G hr rfl (T.fn "is_integer" (by simp)) kp B .nil pass0 (pa_cons (pv 0) pa_nil)) (pe_one (pe_cmpR op_ge (pv 0) pe_int (nomark _))))), ?_⟩
  refine ⟨_, rfl, x, d, rfl, hd, fun H1 k1 => ⟨_, rfl, ite2 (fun c => ?_) (fun c => ?_)⟩⟩
  · cases d <;> first | cases c | skip
    cases hd
    exact ⟨_, rfl, _, _, rfl, rfl, q H1 k1⟩
  · have e : isC d = false := by cases d <;> first | rfl | exact absurd rfl c
    have := q H1 k1
    rw [e] at this
    exact this
theorem ok3 (T : Tx mg f) (F : Fun K "is_count_below" "is_count_below" (top 3) a fd) (G : FnOk P w K mg base CX0 2 (f "is_count") g1 ["value"] (spIs K isC)) (B : Binds K g1 ["value"] []) (kp : PySem.W.keepIn K (.ref (f "is_count")) = true) : FnOk P w K mg base CX0 3 a fd ["value", "bound"] (spBel K isBel) := by
  refine F.ok sc3 (fun vs H Q E h => ?_) (fun cdv A outer s H vs Q E hr h => ?_)
  · obtain ⟨x, d, n, rfl, _⟩ := h
    rfl
  obtain ⟨x, d, n, rfl, hd, q⟩ := h
  refine ⟨_, pss_one (ps_ret (pe_and (pe_call G hr rfl (T.fn "is_count" (by simp)) kp B .nil pass0 (pa_cons (pv 0) pa_nil)) (pe_one (pe_cmpR op_lt (pv 0) (pv 1) (nomark _))))), ?_⟩
  refine ⟨_, rfl, x, d, rfl, hd, fun H1 k1 => ⟨_, rfl, ite2 (fun c => ?_) (fun c => ?_)⟩⟩
  · cases d <;> first | cases c | skip
    rename_i i
    cases hd
    have e : isBel (.int i) n = decide (i < n) := by
      have c' : decide (0 ≤ i) = true := c
      show (decide (0 ≤ i) && decide (i < n)) = _
      rw [c', Bool.true_and]
    have := q H1 k1
    rw [e] at this
    exact ⟨_, rfl, _, rfl, _, _, rfl, rfl, this⟩
  · have e : isBel d n = false := by
      cases d <;> first | rfl | skip
      rename_i i
      have c' : decide (0 ≤ i) = false := Bool.eq_false_iff.mpr c
      show (decide (0 ≤ i) && decide (i < n)) = _
      rw [c', Bool.false_and]
    have := q H1 k1
    rw [e] at this
    exact this
end
end Tb

namespace Tb
open PySem PySem.Spec PyProof.Rows L2
/-- a def whose code object is told -/
structure FunC (K : PySem.W.Frag) (x qual : Str) (st : Stmt) (f : Addr) (fd : FuncData) (c : Addr) : Prop where
  ex : ∃ (oc : Value) (od : Option Addr) (kV doc pm : Value) (an : Option Addr) (ct : Value) (osl : Array (Option Value)),
    fd = PySem.W.fnOf x qual (defArgs st) (defBody st) (defScope st) .none kV doc pm an (.ref c) ct ∧ K.lookup f = some ⟨oc, od, .func fd, osl⟩ ∧ PySem.W.codeIn K (.ref c) qual = true
  kp : PySem.W.keepIn K (.ref f) = true
section
variable {P : Program} {w : World} {K : PySem.W.Frag} {mg : Str → Option Value} {base : Heap}
theorem FunC.ok {x qual : Str} {st : Stmt} {f c : Addr} {fd : FuncData} {N ps : List Str} {k : Nat} {sp : Sp} (F : FunC K x qual st f fd c) (S : FnScope N ps (defScope st)) (len : ∀ vs H Q E, sp vs H Q E → vs.length = ps.length)
    (hb : ∀ (A : Around) (outer : List Env) (s : Shared) (H : Hp) (vs : List V) (Q : VK) (E : XK), Room k (A.deeper (envOfC qual (defScope st) s.heap.objs.size f (.ref c))) → sp vs H Q E →
      ∃ t, PSs (cxOf CX0 P w K mg base N qual (defScope st) f (.ref c) A outer s H E).nox (defBody st) t ∧ t { nx := fun _ H' => Q .non H', rt := Q } (start N vs) H) : FnOk P w K mg base CX0 (k + 1) f fd ps sp := by
  obtain ⟨oc, od, kV, doc, pm, an, ct, osl, rfl, lk, hcd⟩ := F.ex
  refine fn_of lk hcd S len fun A outer s H vs Q E hr h => ?_
  obtain ⟨t, h1, h2⟩ := hb A outer s H vs Q E hr h
  exact ⟨t, h1.nox, h2⟩
theorem FunC.fn {x qual : Str} {st : Stmt} {f c : Addr} {fd : FuncData} (F : FunC K x qual st f fd c) : Fun K x qual st f fd := by
  obtain ⟨oc, od, kV, doc, pm, an, ct, osl, h1, lk, hcd⟩ := F.ex
  exact ⟨⟨oc, od, kV, doc, pm, an, .ref c, ct, osl, h1, lk, hcd⟩, F.kp⟩
end
def gscpC (N : List Str) (sc scope : Scope) (x : Str) (ix : Nat) : Bool :=
  decide (scope.kind = .function) && !scope.isCoroutine && decide (scope.names.lookup (".0" : Str) = some NameKind.local) && decide (scope.names.lookup x = some .local) && decide (N[ix]? = some x) && !(N.contains (".0" : Str)) && decide N.Nodup &&
    scope.names.all fun p => !decide (p.2 = .cell) && (!decide (p.2 = .local) || p.1 == (".0" : Str) || p.1 == x) && (!decide (p.2 = .free) || decide (sc.names.lookup p.1 = some .cell) || decide (sc.names.lookup p.1 = some .free))
theorem gscp_by {N : List Str} {sc scope : Scope} {x : Str} {ix : Nat} (h : gscpC N sc scope x ix = true) : Gx.GScp N sc scope x ix := by
  unfold gscpC at h
  simp only [Bool.and_eq_true, decide_eq_true_eq, Bool.not_eq_true', List.all_eq_true, Bool.or_eq_true, beq_iff_eq, decide_eq_false_iff_not] at h
  obtain ⟨⟨⟨⟨⟨⟨⟨h1, h2⟩, h3⟩, h4⟩, h5⟩, h6⟩, h7⟩, h8⟩ := h
  refine ⟨h1, h2, fun y hy => (h8 y hy).1.1, h3, fun y hy => ?_, h4, fun y hy e => ?_, h7, h5, fun hm => ?_⟩
  · rcases (h8 _ (PySem.mem_of_lookup hy)).1.2 with (z | z) | z
    · exact absurd rfl z
    · exact .inl z
    · exact .inr z
  · rcases (h8 y hy).2 with (z | z) | z
    · exact absurd e z
    · exact .inl z
    · exact .inr z
  · rw [List.contains_iff_mem.mpr hm] at h6
    cases h6
section
variable {P : Program} {w : World} {K : PySem.W.Frag} {mg : Str → Option Value} {base : Heap} {f : String → Addr} {a c Pt : Addr} {fd g1 g2 g3 g4 : FuncData}
/-! ### is_row -/
def rowOk (d : PyData) (n : Int) : Bool := isSq d && decide (((kids d).length : Int) = n) && (kids d).all (isBel · n)
def spRow (K : PySem.W.Frag) (Pt : Addr) : Sp := fun vs H Q _ => ∃ x d n, vs = [x, .int n] ∧ Rp K H x d ∧ GxR.TabG H Pt ∧ ∀ H', Kp H H' → Q (.bl (rowOk d n)) H'
theorem sc9 : FnScope ["value", "many", "number"] ["value", "many"] (defScope (top 9)) := ⟨rfl, rfl, rfl, by decide +kernel, rfl, by decide +kernel, by decide +kernel⟩
theorem all_take {α : Type} (p : α → Bool) (l : List α) (i : Nat) (x : α) (h : l[i]? = some x) : (l.take (i + 1)).all p = ((l.take i).all p && p x) := by
  rw [List.take_add_one, h, List.all_append]
  simp
theorem all_false {α : Type} (p : α → Bool) (l : List α) (i : Nat) (x : α) (h : l[i]? = some x) (hp : p x = false) : l.all p = false := by
  cases q : l.all p with
  | false => rfl
  | true =>
    have := List.all_eq_true.mp q x (List.mem_of_getElem? h)
    rw [hp] at this; cases this
theorem ok9 (T : Tx mg f) (F : FunC K "is_row" "is_row" (top 9) a fd c) (TB : GxR.TabB base mg c Pt) (G4 : FnOk P w K mg base CX0 1 (f "is_list") g1 ["value"] (spIs K isSq)) (B4 : Binds K g1 ["value"] []) (kp4 : PySem.W.keepIn K (.ref (f "is_list")) = true)
    (G3 : FnOk P w K mg base CX0 3 (f "is_count_below") g2 ["value", "bound"] (spBel K isBel)) (B3 : Binds K g2 ["value", "bound"] []) (kp3 : PySem.W.keepIn K (.ref (f "is_count_below")) = true) :
    FnOk P w K mg base CX0 5 a fd ["value", "many"] (spRow K Pt) := by
  refine F.ok sc9 (fun vs H Q E h => ?_) (fun A outer s H vs Q E hr h => ?_)
  · obtain ⟨x, d, n, rfl, _⟩ := h
    rfl
  obtain ⟨x, d, n, rfl, hd, hP, q⟩ := h
  refine ⟨_, pss_cons (ps_if (PW.pt (pw_or (pt_not (pt_val (pe_call G4 (hr.mono (by decide)) rfl (T.fn "is_list" (by simp)) kp4 B4 .nil pass0 (pa_cons (pv 0) pa_nil))))
      (pw_or1 (pt_cmpR op_ne (pe_callB call_len_seq rfl (T.bl "len" (by simp)) PySem.boot_len (pa_cons (pv 0) pa_nil)) (pv 1) (nomark _))))) (pss_one (ps_ret pe_bl)) pss_nil)
    (pss_one (ps_ret (Gx.pe_all (k := 3) (ix := 2) hr rfl (T.bl "all" (by simp)) TB rfl (gscp_by (by change gscpC ["value", "many", "number"] (defScope (top 9)) _ _ _ = true; decide +kernel)) (pi_sq (pv 0)) (fun _ _ _ _ _ => pg_name (i := 2) sc9.nd rfl (Or.inl rfl))
      (fun _ _ _ _ _ hr' => pe_call G3 hr' rfl (T.fn "is_count_below" (by simp)) kp3 B3 .nil pass0 (pa_cons (pv 2) (pa_cons (pv 1) pa_nil))) (fun _ => rfl)))), ?_⟩
  refine ⟨_, rfl, x, d, rfl, hd, fun H1 k1 => ⟨_, rfl, ?_⟩⟩
  have hd1 := hd.kp k1
  refine ite2 (fun c1 => ite2 (fun _ => ?_) (fun c => absurd rfl c)) (fun c1 => ?_)
  · have e : rowOk d n = false := by
      have : isSq d = false := by simpa using c1
      unfold rowOk
      rw [this]; rfl
    have := q H1 k1
    rw [e] at this
    exact this
  have hs : isSq d = true := by simpa using c1
  obtain ⟨p, xs, rfl, sq, rl⟩ := hd1.sq hs
  have ln : xs.length = (kids d).length := rl.length
  refine ⟨_, rfl, p, xs, rfl, sq, _, rfl, rfl, _, rfl, ite2 (fun c2 => ?_) (fun c2 => ?_)⟩
  · have e : rowOk d n = false := by
      have : ¬ ((xs.length : Int) = n) := by simpa using c2
      unfold rowOk
      rw [← ln, decide_eq_false this, hs]; rfl
    have := q H1 k1
    rw [e] at this
    exact this
  have hn : (xs.length : Int) = n := by simpa using c2
  refine ⟨_, rfl, p, xs, rfl, ?_⟩
  refine rd_all (fun i H' => Kp H1 H' ∧ ((kids d).take i).all (isBel · n) = true) sq (k1.tab _ hP) (fun H2 t => ⟨Kp.tabbed (k1.tab _ hP) t, rfl⟩) (fun i H' _ v => v.1) (fun i y H' hy v => ?_) (fun H' v => ?_)
  · obtain ⟨dy, hdy, ry⟩ := (rl.kp v.1).get hy
    refine ⟨y, rfl, .int n, rfl, y, dy, n, rfl, ry, fun H2 k2 => ⟨_, rfl, ite2 (fun c3 => ?_) (fun c3 => ?_)⟩⟩
    · refine ⟨v.1.trans k2, ?_⟩
      rw [all_take _ _ _ _ hdy, v.2, c3]; rfl
    · have e : rowOk d n = false := by
        unfold rowOk
        rw [all_false _ _ _ _ hdy (Bool.eq_false_iff.mpr c3), Bool.and_false]
      have := q H2 (k1.trans (v.1.trans k2))
      rw [e] at this
      exact this
  · have e : rowOk d n = true := by
      unfold rowOk
      have := v.2
      rw [ln, List.take_length] at this
      rw [this, hs, ← ln, decide_eq_true hn]; rfl
    have := q H' (k1.trans v.1)
    rw [e] at this
    exact this
end
end Tb

namespace Tb
open PySem PySem.Spec PyProof.Rows L2
/-! ### ranges kept -/
theorem cr_range1 {X : Cx} : CallR X (.type "range") (fun vs H Q => ∃ j, vs = [V.int j] ∧ ∀ p, H p = none → Q (.ref p) (upd H p (.rng 0 j))) := by
  intro pins s σ H vs us Q I r h
  obtain ⟨j, rfl, q⟩ := h
  obtain ⟨u, rfl, t, rfl⟩ := r.one
  refine call_range_1 ⟨.ref s.heap.objs.size, upd H s.heap.objs.size (.rng 0 j), I.laid (t' := s.toks + 1 + 1) (fun b o e => Heap.get?_push_of_some _ e) (Nat.le_refl _) ?_, rfl, q _ (I.hok.fresh (Nat.le_refl _))⟩
  exact ⟨_, _, _, Heap.get?_push_size _ rfl⟩
def iRo (tl : TE) : TI := fun σ H R => tl σ H fun x H1 => ∃ a lo hi, x = .ref a ∧ H1 a = some (.rng lo hi) ∧ (-(2 ^ 62) ≤ lo ∧ lo < 2 ^ 62 ∧ -(2 ^ 62) ≤ hi ∧ hi < 2 ^ 62) ∧ R (Itr lo (hi - lo).toNat) H1
theorem pi_ro {X : Cx} {tg l : Expr} {tl : TE} (hl : PE X l tl) : PI X tg l (iRo tl) := by
  refine ⟨fun pins s σ H R I h => ?_⟩
  refine thn (hl.run pins s σ H _ I h) fun u s1 h1 => ?_
  obtain ⟨x, H1, I1, r1, a, lo, hi, rfl, hr, ⟨b1, b2, b3, b4⟩, q⟩ := h1
  cases r1
  obtain ⟨t, u, v, ho⟩ := I1.hok _ _ hr
  refine wpAny_pyIter_range (show IsRange s1.heap a lo hi 1 t u v from ho) (small_one b1 b2 b3 b4) ?_
  refine ⟨s1.heap.objs.size, [s1.heap.objs.size], _, _, H1, rfl, I1.kept (t' := s1.toks) fun b o e => Heap.get?_push_of_some _ e, turn_range _ lo (hi - lo).toNat, ?_, fun b hb => ?_, q⟩
  · have e1 : lo + ((0 : Nat) : Int) * 1 = lo := by simp
    have e2 : (((hi - lo).toNat : Nat) : Int) - ((0 : Nat) : Int) = Builtin.Range.rangeSize lo hi 1 := by
      rw [rangeSize_one]
      split <;> omega
    show IsRangeIter _ _ (lo + ((0 : Nat) : Int) * 1) ((((hi - lo).toNat : Nat) : Int) - ((0 : Nat) : Int)) 1
    rw [e1, e2]
    exact Heap.get?_push_size _ rfl
  · rw [List.mem_singleton.mp hb]
    exact I1.fpOk (Nat.le_refl _) (I1.hok.fresh (Nat.le_refl _))

/-! ### the matrix -/
def rowAt (d : PyData) (i : Nat) : PyData := (kids d).getD i .none
def cell (d : PyData) (i j : Nat) : Int := match (kids (rowAt d i)).getD j .none with
  | .int z => z
  | _ => 0
def formOk (d : PyData) : Bool := isSq d && decide (1 ≤ (kids d).length) && decide ((kids d).length ≤ 8) && (kids d).all (rowOk · ((kids d).length : Int))
structure Mx (d : PyData) (n : Nat) : Prop where
  sq : isSq d = true
  len : (kids d).length = n
  pos : 1 ≤ n
  le : n ≤ 8
  row : ∀ i, i < n → isSq (rowAt d i) = true ∧ (kids (rowAt d i)).length = n
  cel : ∀ i j, i < n → j < n → (kids (rowAt d i)).getD j .none = .int (cell d i j) ∧ 0 ≤ cell d i j ∧ cell d i j < n
theorem bel_int {d : PyData} {n : Int} (h : isBel d n = true) : ∃ z, d = .int z ∧ 0 ≤ z ∧ z < n := by
  cases d with
  | int z =>
    have h' : (decide (0 ≤ z) && decide (z < n)) = true := h
    simp only [Bool.and_eq_true, decide_eq_true_eq] at h'
    exact ⟨z, rfl, h'.1, h'.2⟩
  | _ => cases h
theorem getD_mem {α : Type} {l : List α} {i : Nat} {x : α} (h : i < l.length) : l.getD i x ∈ l := by
  rw [List.getD_eq_getElem?_getD, List.getElem?_eq_getElem h]
  exact List.getElem_mem h
theorem mx_of {d : PyData} (h : formOk d = true) : Mx d (kids d).length := by
  unfold formOk at h
  simp only [Bool.and_eq_true, decide_eq_true_eq] at h
  obtain ⟨⟨⟨h1, h2⟩, h3⟩, h4⟩ := h
  have rows : ∀ i, i < (kids d).length → rowOk (rowAt d i) ((kids d).length : Int) = true := fun i hi => List.all_eq_true.mp h4 _ (getD_mem hi)
  have r2 : ∀ i, i < (kids d).length → isSq (rowAt d i) = true ∧ (kids (rowAt d i)).length = (kids d).length ∧ (kids (rowAt d i)).all (isBel · ((kids d).length : Int)) = true := fun i hi => by
    have := rows i hi
    unfold rowOk at this
    simp only [Bool.and_eq_true, decide_eq_true_eq] at this
    exact ⟨this.1.1, by omega, this.2⟩
  refine ⟨h1, rfl, h2, h3, fun i hi => ⟨(r2 i hi).1, (r2 i hi).2.1⟩, fun i j hi hj => ?_⟩
  obtain ⟨_, hl, ha⟩ := r2 i hi
  obtain ⟨z, e, z0, zn⟩ := bel_int (List.all_eq_true.mp ha _ (getD_mem (x := PyData.none) (show j < (kids (rowAt d i)).length by omega)))
  have ec : cell d i j = z := by
    unfold cell
    rw [e]
  rw [ec]
  exact ⟨e, z0, zn⟩
def JR (d : PyData) (n : Nat) : Prop := ∀ i, i < n → cell d i i = i ∧ cell d i 0 = i ∧ ∀ j, j < n → cell d i j = cell d j i ∧ ∀ k, k < n → cell d (cell d i j).toNat k = cell d i (cell d j k).toNat

variable {K : PySem.W.Frag}
theorem RpL.at {H : Hp} {ds : List PyData} {vs : List V} {i : Nat} (h : RpL K H vs ds) (hi : i < ds.length) : ∃ v, vs[i]? = some v ∧ Rp K H v (ds.getD i .none) := by
  have hl := h.length
  have hi' : i < vs.length := by omega
  obtain ⟨e, he, r⟩ := h.get (List.getElem?_eq_getElem hi')
  refine ⟨_, List.getElem?_eq_getElem hi', ?_⟩
  rw [List.getD_eq_getElem?_getD, he]
  exact r
/-- an item by its place -/
theorem ix_rp {H : Hp} {x : V} {d : PyData} {i : Int} {Q : VK} (h : Rp K H x d) (hs : isSq d = true) (h0 : 0 ≤ i) (hi : i.toNat < (kids d).length) (q : ∀ v, Rp K H v ((kids d).getD i.toNat .none) → Q v H) : rIxL K x (.int i) H Q ∨ rIxT K x (.int i) H Q := by
  obtain ⟨a, xs, rfl, sq, rl⟩ := h.sq hs
  obtain ⟨v, hv, rv⟩ := rl.at hi
  have e : ((i.toNat : Nat) : Int) = i := by omega
  have at' : atI xs i = some v := by
    rw [← e]
    exact atI_nat hv
  rcases sq with sq | sq
  · exact .inl ⟨a, xs, i, v, rfl, rfl, sq, at', q v rv⟩
  · exact .inr ⟨a, xs, i, v, rfl, rfl, sq, at', q v rv⟩
theorem ix_cell {H : Hp} {x : V} {d : PyData} {n : Nat} (M : Mx d n) {i j : Int} {Q : VK} (h : Rp K H x (rowAt d i.toNat)) (i0 : i.toNat < n) (h0 : 0 ≤ j) (hj : j.toNat < n) (q : Q (.int (cell d i.toNat j.toNat)) H) : rIxL K x (.int j) H Q ∨ rIxT K x (.int j) H Q := by
  obtain ⟨r1, r2⟩ := M.row _ i0
  refine ix_rp h r1 h0 (by omega) fun v rv => ?_
  rw [(M.cel _ _ i0 hj).1] at rv
  cases rv
  exact q
section
variable {P : Program} {w : World} {mg : Str → Option Value} {base : Heap} {f : String → Addr} {a c Pt P8 : Addr} {fd g1 g2 g3 g4 : FuncData}
def rLen (K : PySem.W.Frag) : List V → Hp → VK → Prop := fun xs H Q => ∃ p ys, xs = [.ref p] ∧ (SqL K H p ys ∨ SqT K H p ys) ∧ Q (.int ys.length) H
theorem cr_len {X : Cx} (hK : X.K = K) : CallR X (.builtin "len") (rLen K) := by
  subst hK
  exact call_len_seq
/-! ### has_table_form -/
def spForm (K : PySem.W.Frag) (P8 P9 : Addr) : Sp := fun vs H Q _ => ∃ x d, vs = [x] ∧ Rp K H x d ∧ GxR.TabG H P8 ∧ GxR.TabG H P9 ∧ ∀ H', Kp H H' → Q (.bl (formOk d)) H'
theorem sc8 : FnScope ["value", "row"] ["value"] (defScope (top 8)) := ⟨rfl, rfl, rfl, by decide +kernel, rfl, by decide +kernel, by decide +kernel⟩
theorem ok8 (T : Tx mg f) (F : FunC K "has_table_form" "has_table_form" (top 8) a fd c) (TB : GxR.TabB base mg c P8) (G4 : FnOk P w K mg base CX0 1 (f "is_list") g1 ["value"] (spIs K isSq)) (B4 : Binds K g1 ["value"] []) (kp4 : PySem.W.keepIn K (.ref (f "is_list")) = true)
    (G9 : FnOk P w K mg base CX0 5 (f "is_row") g2 ["value", "many"] (spRow K Pt)) (B9 : Binds K g2 ["value", "many"] []) (kp9 : PySem.W.keepIn K (.ref (f "is_row")) = true) :
    FnOk P w K mg base CX0 7 a fd ["value"] (spForm K P8 Pt) := by
  refine F.ok sc8 (fun vs H Q E h => ?_) (fun A outer s H vs Q E hr h => ?_)
  · obtain ⟨x, d, rfl, _⟩ := h
    rfl
  obtain ⟨x, d, rfl, hd, hP8, hP9, q⟩ := h
  obtain ⟨tm, hm⟩ := T.most
  refine ⟨_, pss_cons (ps_if (PW.pt (pw_or (pt_not (pt_val (pe_call G4 (hr.mono (by decide)) rfl (T.fn "is_list" (by simp)) kp4 B4 .nil pass0 (pa_cons (pv 0) pa_nil))))
      (pw_or1 (pt_not (pt_chain op_le op_le pe_int (pe_callB (cr_len (K := K) rfl) rfl (T.bl "len" (by simp)) PySem.boot_len (pa_cons (pv 0) pa_nil)) (pe_glob (v := .int 8) rfl hm ⟨_, rfl⟩)))))) (pss_one (ps_ret pe_bl)) pss_nil)
    (pss_one (ps_ret (Gx.pe_all (k := 5) (ix := 1) hr rfl (T.bl "all" (by simp)) TB rfl (gscp_by (by change gscpC ["value", "row"] (defScope (top 8)) _ _ _ = true; decide +kernel)) (pi_sq (pv 0)) (fun _ _ _ _ _ => pg_name (i := 1) sc8.nd rfl (Or.inl rfl))
      (fun _ _ _ _ _ hr' => pe_call G9 hr' rfl (T.fn "is_row" (by simp)) kp9 B9 .nil pass0 (pa_cons (pv 1) (pa_cons (pe_callB (cr_len (K := K) rfl) rfl (T.bl "len" (by simp)) PySem.boot_len (pa_cons (pv 0) pa_nil)) pa_nil))) (fun _ => rfl)))), ?_⟩
  refine ⟨_, rfl, x, d, rfl, hd, fun H1 k1 => ⟨_, rfl, ?_⟩⟩
  have hd1 := hd.kp k1
  refine ite2 (fun c1 => ite2 (fun _ => ?_) (fun c => absurd rfl c)) (fun c1 => ?_)
  · have e : formOk d = false := by
      have : isSq d = false := by simpa using c1
      unfold formOk
      rw [this]; rfl
    have := q H1 k1
    rw [e] at this
    exact this
  have hs : isSq d = true := by simpa using c1
  obtain ⟨p, xs, rfl, sq, rl⟩ := hd1.sq hs
  have ln : xs.length = (kids d).length := rl.length
  have bad : ∀ {H'}, Kp H1 H' → ¬ (1 ≤ (kids d).length ∧ (kids d).length ≤ 8) → Q (.bl false) H' := fun {H'} k no => by
    have e : formOk d = false := by
      cases z : formOk d with
      | false => rfl
      | true =>
        have m := mx_of z
        exact absurd ⟨m.pos, m.le⟩ no
    have := q H' (k1.trans k)
    rw [e] at this
    exact this
  refine ⟨_, rfl, p, xs, rfl, sq, _, _, rfl, rfl, _, rfl, ite2 (fun c2 => ?_) (fun c2 => ?_)⟩
  · refine ⟨_, _, rfl, rfl, _, rfl, ite2 (fun c3 => ?_) (fun c3 => ?_)⟩
    · refine bad (Kp.refl _) fun ⟨z1, z2⟩ => ?_
      have : ¬ ((xs.length : Int) ≤ 8) := by simpa using c3
      omega
    · have l1 : (1 : Int) ≤ xs.length := by simpa using c2
      have l8 : (xs.length : Int) ≤ 8 := by simpa using c3
      refine ⟨_, rfl, p, xs, rfl, ?_⟩
      refine rd_all (fun i H' => Kp H1 H' ∧ ((kids d).take i).all (rowOk · ((kids d).length : Int)) = true) sq (k1.tab _ hP8) (fun H2 t => ⟨Kp.tabbed (k1.tab _ hP8) t, rfl⟩) (fun i H' _ v => v.1) (fun i y H' hy v => ?_) (fun H' v => ?_)
      · obtain ⟨dy, hdy, ry⟩ := (rl.kp v.1).get hy
        refine ⟨y, rfl, _, rfl, p, xs, rfl, v.1.sq sq, y, dy, (xs.length : Int), rfl, ry, (k1.trans v.1).tab _ hP9, fun H2 k2 => ⟨_, rfl, ite2 (fun c4 => ?_) (fun c4 => ?_)⟩⟩
        · refine ⟨v.1.trans k2, ?_⟩
          rw [ln] at c4
          rw [all_take _ _ _ _ hdy, v.2, c4]; rfl
        · have e : formOk d = false := by
            rw [ln] at c4
            unfold formOk
            rw [all_false _ _ _ _ hdy (Bool.eq_false_iff.mpr c4), Bool.and_false]
          have := q H2 (k1.trans (v.1.trans k2))
          rw [e] at this
          exact this
      · have e : formOk d = true := by
          unfold formOk
          have := v.2
          rw [ln, List.take_length] at this
          rw [this, hs, decide_eq_true (show 1 ≤ (kids d).length by omega), decide_eq_true (show (kids d).length ≤ 8 by omega)]; rfl
        have := q H' (k1.trans v.1)
        rw [e] at this
        exact this
  · refine ⟨_, rfl, ite2 (fun _ => bad (Kp.refl _) fun z => ?_) (fun z => absurd rfl z)⟩
    have : ¬ ((1 : Int) ≤ xs.length) := by simpa using c2
    omega
end
end Tb

namespace Tb
open PySem PySem.Spec PyProof.Rows L2
theorem bi_range : bootBuiltins "range" = some (.type "range") := by decide +kernel
variable {K : PySem.W.Frag}
section
variable {P : Program} {w : World} {mg : Str → Option Value} {base : Heap} {f : String → Addr} {a c Pt P8 : Addr} {fd g1 g2 g3 g4 : FuncData}
/-! ### keeps_join_rules -/
def spJoin (K : PySem.W.Frag) : Sp := fun vs H Q _ => ∃ x d n, vs = [x] ∧ Rp K H x d ∧ Mx d n ∧ ∀ b H', (b = true ↔ JR d n) → Kp H H' → Q (.bl b) H'
theorem sc10 : FnScope ["rows", "states", "one", "other", "third"] ["rows"] (defScope (top 10)) := ⟨rfl, rfl, rfl, by decide +kernel, rfl, by decide +kernel, by decide +kernel⟩
theorem ne_t {x y : Int} (h : (!decide (V.int x = V.int y)) = true) : x ≠ y := fun z => by
  rw [z] at h
  simp at h
theorem ne_f {x y : Int} (h : ¬ (!decide (V.int x = V.int y)) = true) : x = y := by
  by_cases z : x = y
  · exact z
  · exact absurd (by rw [decide_eq_false (fun q => z (V.int.inj q))]; rfl) h
theorem nat_of {i n : Nat} (h : i < n) : (0 + (i : Int)).toNat = i ∧ (0 : Int) ≤ 0 + (i : Int) := by omega
theorem ok10 (T : Tx mg f) (F : Fun K "keeps_join_rules" "keeps_join_rules" (top 10) a fd) : FnOk P w K mg base CX0 1 a fd ["rows"] (spJoin K) := by
  refine F.ok sc10 (fun vs H Q E h => ?_) (fun cdv A outer s H vs Q E hr h => ?_)
  · obtain ⟨x, d, n, rfl, _⟩ := h
    rfl
  obtain ⟨x, d, n, rfl, hd, M, q⟩ := h
  refine ⟨_, pss_cons (ps_set (i := 1) sc10.nd rfl (Or.inl rfl) (pe_callTy cr_range1 rfl (T.bl "range" (by simp)) bi_range (pa_cons (pe_callB (cr_len (K := K) rfl) rfl (T.bl "len" (by simp)) PySem.boot_len (pa_cons (pv 0) pa_nil)) pa_nil)))
    (pss_cons (ps_for PassesOwn.never rfl (pi_ro (pv 1)) (pg_name (i := 2) sc10.nd rfl (Or.inl rfl))
      (pss_cons (ps_if (PW.pt (pw_or (pt_cmpR op_ne (pe_ix (ix_list.or ix_tup) (pe_ix (ix_list.or ix_tup) (pv 0) (pv 2) (fun _ _ => rfl)) (pv 2) (fun _ _ => rfl)) (pv 2) (nomark _))
          (pw_or1 (pt_cmpR op_ne (pe_ix (ix_list.or ix_tup) (pe_ix (ix_list.or ix_tup) (pv 0) (pv 2) (fun _ _ => rfl)) pe_int (fun _ _ => rfl)) (pv 2) (nomark _))))) (pss_one (ps_ret pe_bl)) pss_nil)
      (pss_one (ps_for PassesOwn.never rfl (pi_ro (pv 1)) (pg_name (i := 3) sc10.nd rfl (Or.inl rfl))
        (pss_cons (ps_if (pt_cmpR op_ne (pe_ix (ix_list.or ix_tup) (pe_ix (ix_list.or ix_tup) (pv 0) (pv 2) (fun _ _ => rfl)) (pv 3) (fun _ _ => rfl)) (pe_ix (ix_list.or ix_tup) (pe_ix (ix_list.or ix_tup) (pv 0) (pv 3) (fun _ _ => rfl)) (pv 2) (fun _ _ => rfl)) (nomark _)) (pss_one (ps_ret pe_bl)) pss_nil)
        (pss_one (ps_for PassesOwn.never rfl (pi_ro (pv 1)) (pg_name (i := 4) sc10.nd rfl (Or.inl rfl))
          (pss_one (ps_if (pt_cmpR op_ne (pe_ix (ix_list.or ix_tup) (pe_ix (ix_list.or ix_tup) (pv 0) (pe_ix (ix_list.or ix_tup) (pe_ix (ix_list.or ix_tup) (pv 0) (pv 2) (fun _ _ => rfl)) (pv 3) (fun _ _ => rfl)) (fun _ _ => rfl)) (pv 4) (fun _ _ => rfl))
            (pe_ix (ix_list.or ix_tup) (pe_ix (ix_list.or ix_tup) (pv 0) (pv 2) (fun _ _ => rfl)) (pe_ix (ix_list.or ix_tup) (pe_ix (ix_list.or ix_tup) (pv 0) (pv 3) (fun _ _ => rfl)) (pv 4) (fun _ _ => rfl)) (fun _ _ => rfl)) (nomark _)) (pss_one (ps_ret pe_bl)) pss_nil)))))))))
    (pss_one (ps_ret pe_bl))), ?_⟩
  obtain ⟨p, xs, rfl, sq, rl⟩ := hd.sq M.sq
  have ln : xs.length = n := rl.length.trans M.len
  refine ⟨_, rfl, p, xs, rfl, sq, _, rfl, fun ps hps => ?_⟩
  have k1 : Kp H (upd H ps (.rng 0 (xs.length : Int))) := Kp.new hps
  generalize hH1 : upd H ps (.rng 0 (xs.length : Int)) = H1 at k1
  have hrng : H1 ps = some (.rng 0 (xs.length : Int)) := by rw [← hH1]; exact upd_same
  have hd1 := hd.kp k1
  have n8 : xs.length ≤ 8 := by rw [ln]; exact M.le
  have bnd : -(2 ^ 62) ≤ (0 : Int) ∧ (0 : Int) < 2 ^ 62 ∧ -(2 ^ 62) ≤ (xs.length : Int) ∧ (xs.length : Int) < 2 ^ 62 := by omega
  have cnt : ((xs.length : Int) - 0).toNat = n := by omega
  have no : ¬ JR d n → Q (.bl false) H1 := fun h => q false H1 ⟨(fun z => by cases z), fun z => absurd z h⟩ k1
  have row : ∀ {i : Int} {R : VK}, 0 ≤ i → i.toNat < n → (∀ v, Rp K H1 v (rowAt d i.toNat) → R v H1) → rIxL K (.ref p) (.int i) H1 R ∨ rIxT K (.ref p) (.int i) H1 R := fun h0 hi hR => ix_rp hd1 M.sq h0 (by rw [M.len]; exact hi) hR
  refine ⟨_, rfl, ps, 0, _, rfl, hrng, bnd, ?_⟩
  rw [cnt]
  refine for_range (n := n) (fun i σ HH => H1 = HH ∧ (∃ o1 o2 o3, σ = [some (.ref p), some (.ref ps), o1, o2, o3]) ∧ ∀ i', i' < i → cell d i' i' = i' ∧ cell d i' 0 = i' ∧ ∀ j, j < n → cell d i' j = cell d j i' ∧ ∀ k, k < n → cell d (cell d i' j).toNat k = cell d i' (cell d j k).toNat)
    ⟨rfl, ⟨none, none, none, rfl⟩, fun i' h => absurd h (Nat.not_lt_zero _)⟩ ?_ ?_
  · rintro i σ HH hi ⟨rfl, ⟨o1, o2, o3, rfl⟩, ih⟩
    obtain ⟨ti, i0⟩ := nat_of hi
    have ti' : (0 + (i : Int)).toNat < n := by omega
    refine ⟨_, rfl, _, rfl, row i0 ti' fun r rr => ⟨_, rfl, ix_cell M rr ti' i0 ti' ⟨_, rfl, rfl, _, rfl, ?_⟩⟩⟩
    rw [ti]
    refine ite2 (fun c1 => ite2 (fun _ => no fun J => ?_) (fun z => absurd rfl z)) (fun c1 => ?_)
    · exact ne_t c1 (by rw [(J i hi).1]; omega)
    have e1 : cell d i i = i := by have := ne_f c1; omega
    refine ⟨_, rfl, _, rfl, row i0 ti' fun r rr => ix_cell M rr ti' (by decide) (by have := M.pos; show (0 : Int).toNat < n; omega) ⟨_, rfl, rfl, _, rfl, ?_⟩⟩
    rw [ti]
    refine ite2 (fun c2 => no fun J => ?_) (fun c2 => ?_)
    · exact ne_t c2 (by show cell d i 0 = _; rw [(J i hi).2.1]; omega)
    have e2 : cell d i 0 = i := by have : cell d i 0 = 0 + (i : Int) := ne_f c2; omega
    refine ⟨_, rfl, ps, 0, _, rfl, hrng, bnd, ?_⟩
    rw [cnt]
    refine for_range (n := n) (fun j σ HH => H1 = HH ∧ (∃ o2 o3, σ = [some (.ref p), some (.ref ps), some (.int (0 + i)), o2, o3]) ∧ ∀ j', j' < j → cell d i j' = cell d j' i ∧ ∀ k, k < n → cell d (cell d i j').toNat k = cell d i (cell d j' k).toNat)
      ⟨rfl, ⟨o2, o3, rfl⟩, fun j' h => absurd h (Nat.not_lt_zero _)⟩ ?_ ?_
    · rintro j σ HH hj ⟨rfl, ⟨u2, u3, rfl⟩, jh⟩
      obtain ⟨tj, j0⟩ := nat_of hj
      have tj' : (0 + (j : Int)).toNat < n := by omega
      refine ⟨_, rfl, _, rfl, row i0 ti' fun r rr => ⟨_, rfl, ix_cell M rr ti' j0 tj' ⟨_, rfl, _, rfl, row j0 tj' fun r2 rr2 => ⟨_, rfl, ix_cell M rr2 tj' i0 ti' ⟨rfl, _, rfl, ?_⟩⟩⟩⟩⟩
      rw [ti, tj]
      refine ite2 (fun c3 => no fun J => ne_t c3 ((J i hi).2.2 j hj).1) (fun c3 => ?_)
      have e3 : cell d i j = cell d j i := ne_f c3
      obtain ⟨_, a0, an⟩ := M.cel i j hi hj
      have an' : (cell d i j).toNat < n := by omega
      refine ⟨_, rfl, ps, 0, _, rfl, hrng, bnd, ?_⟩
      rw [cnt]
      refine for_range (n := n) (fun k σ HH => H1 = HH ∧ (∃ o3, σ = [some (.ref p), some (.ref ps), some (.int (0 + i)), some (.int (0 + j)), o3]) ∧ ∀ k', k' < k → cell d (cell d i j).toNat k' = cell d i (cell d j k').toNat)
        ⟨rfl, ⟨u3, rfl⟩, fun k' h => absurd h (Nat.not_lt_zero _)⟩ ?_ ?_
      · rintro k σ HH hk ⟨rfl, ⟨v3, rfl⟩, kh⟩
        obtain ⟨tk, k0⟩ := nat_of hk
        have tk' : (0 + (k : Int)).toNat < n := by omega
        obtain ⟨_, b0, bn⟩ := M.cel j k hj hk
        have bn' : (cell d j k).toNat < n := by omega
        refine ⟨_, rfl, _, rfl, _, rfl, row i0 ti' fun r rr => ⟨_, rfl, ix_cell M rr ti' j0 tj' ?_⟩⟩
        rw [ti, tj]
        refine row a0 an' fun r2 rr2 => ⟨_, rfl, ix_cell M rr2 an' k0 tk' ⟨_, rfl, _, rfl, row i0 ti' fun r3 rr3 => ⟨_, rfl, _, rfl, row j0 tj' fun r4 rr4 => ⟨_, rfl, ix_cell M rr4 tj' k0 tk' ?_⟩⟩⟩⟩
        rw [tj, tk]
        refine ix_cell M rr3 ti' b0 bn' ⟨rfl, _, rfl, ?_⟩
        rw [ti]
        refine ite2 (fun c4 => no fun J => ne_t c4 (((J i hi).2.2 j hj).2 k hk)) (fun c4 => ?_)
        refine ⟨rfl, ⟨_, rfl⟩, fun k' hk' => ?_⟩
        by_cases z : k' = k
        · rw [z]; exact ne_f c4
        · exact kh k' (by omega)
      · rintro σ HH ⟨rfl, ⟨v3, rfl⟩, kh⟩
        refine ⟨rfl, ⟨_, _, rfl⟩, fun j' hj' => ?_⟩
        by_cases z : j' = j
        · rw [z]; exact ⟨e3, kh⟩
        · exact jh j' (by omega)
    · rintro σ HH ⟨rfl, ⟨u2, u3, rfl⟩, jh⟩
      refine ⟨rfl, ⟨_, _, _, rfl⟩, fun i' hi' => ?_⟩
      by_cases z : i' = i
      · rw [z]; exact ⟨e1, e2, jh⟩
      · exact ih i' (by omega)
  · rintro σ HH ⟨rfl, ⟨o1, o2, o3, rfl⟩, ih⟩
    exact q true _ ⟨fun _ => ih, fun _ => rfl⟩ k1
/-! ### is_table -/
/-- what is a table, told of the data -/
def IsT (d : PyData) : Prop := formOk d = true ∧ JR d (kids d).length
def spTab (K : PySem.W.Frag) (P8 P9 : Addr) : Sp := fun vs H Q _ => ∃ x d, vs = [x] ∧ Rp K H x d ∧ GxR.TabG H P8 ∧ GxR.TabG H P9 ∧ ∀ b H', (b = true ↔ IsT d) → Kp H H' → Q (.bl b) H'
theorem sc7 : FnScope ["value"] ["value"] (defScope (top 7)) := ⟨rfl, rfl, rfl, by decide +kernel, rfl, by decide +kernel, by decide +kernel⟩
theorem ok7 (T : Tx mg f) (F : Fun K "is_table" "is_table" (top 7) a fd) (G8 : FnOk P w K mg base CX0 7 (f "has_table_form") g1 ["value"] (spForm K P8 Pt)) (B8 : Binds K g1 ["value"] []) (kp8 : PySem.W.keepIn K (.ref (f "has_table_form")) = true)
    (G10 : FnOk P w K mg base CX0 1 (f "keeps_join_rules") g2 ["rows"] (spJoin K)) (B10 : Binds K g2 ["rows"] []) (kp10 : PySem.W.keepIn K (.ref (f "keeps_join_rules")) = true) :
    FnOk P w K mg base CX0 8 a fd ["value"] (spTab K P8 Pt) := by
  refine F.ok sc7 (fun vs H Q E h => ?_) (fun cdv A outer s H vs Q E hr h => ?_)
  · obtain ⟨x, d, rfl, _⟩ := h
    rfl
  obtain ⟨x, d, rfl, hd, h8, h9, q⟩ := h
  refine ⟨_, pss_one (ps_ret (pe_and (pe_call G8 hr rfl (T.fn "has_table_form" (by simp)) kp8 B8 .nil pass0 (pa_cons (pv 0) pa_nil)) (pe_one (pe_call G10 (hr.mono (by decide)) rfl (T.fn "keeps_join_rules" (by simp)) kp10 B10 .nil pass0 (pa_cons (pv 0) pa_nil))))), ?_⟩
  refine ⟨_, rfl, x, d, rfl, hd, h8, h9, fun H1 k1 => ⟨_, rfl, ite2 (fun c => ?_) (fun c => ?_)⟩⟩
  · exact ⟨_, rfl, x, d, _, rfl, hd.kp k1, mx_of c, fun b H' hb k2 => q b H' (hb.trans ⟨fun z => ⟨c, z⟩, fun z => z.2⟩) (k1.trans k2)⟩
  · exact q false H1 ⟨(fun z => by cases z), fun z => absurd z.1 c⟩ k1
end
end Tb

namespace Tb
open PySem PySem.Spec PyProof.Rows L2
variable {K : PySem.W.Frag}
/-! ### data as the nested comparison wants it -/
mutual
theorem Rp.dp {H : Hp} : ∀ (d : PyData) (v : V), Rp K H v d → d.canLay0 = true → Dp K H v d
  | .none, _, h, _ => by cases h; exact .non
  | .bool b, _, h, _ => by cases h; exact .bl b
  | .int i, _, h, _ => by cases h; exact .int i
  | .str x, _, h, _ => by cases h; exact .str x
  | .list ds, _, h, c => by
    cases h with
    | lst h r => exact .lst (.inl (.inl h)) (RpL.dp ds _ r (by simpa [PyData.canLay0] using c))
  | .tuple ds, _, h, c => by
    cases h with
    | tup h r => exact .tup (.inl (.inl h)) (RpL.dp ds _ r (by simpa [PyData.canLay0] using c))
  | .dict _, _, _, c => by simp [PyData.canLay0] at c
theorem RpL.dp {H : Hp} : ∀ (ds : List PyData) (vs : List V), RpL K H vs ds → PyData.canLayAll0 ds = true → DpAll K H vs ds
  | [], _, h, _ => by cases h; exact .nil
  | d :: ds, _, h, c => by
    have c' : d.canLay0 = true ∧ PyData.canLayAll0 ds = true := by simpa [PyData.canLayAll0] using c
    cases h with
    | cons a b => exact .cons (Rp.dp d _ a c'.1) (RpL.dp ds _ b c'.2)
end
def E0k (e : PyData) : Prop := e.canLay0 = true ∧ e.depth ≤ 8
theorem lay_all : ∀ es : List PyData, (∀ e ∈ es, E0k e) → PyData.canLayAll0 es = true ∧ PyData.depthAll es ≤ 8
  | [], _ => ⟨rfl, Nat.zero_le _⟩
  | e :: es, h => by
    obtain ⟨h1, h2⟩ := lay_all es fun x hx => h x (List.mem_cons_of_mem _ hx)
    obtain ⟨h3, h4⟩ := h e List.mem_cons_self
    refine ⟨?_, ?_⟩
    · show (e.canLay0 && PyData.canLayAll0 es) = true
      rw [h3, h1]; rfl
    · show max e.depth (PyData.depthAll es) ≤ 8
      omega
theorem shaped_list {es : List PyData} (h : ∀ e ∈ es, E0k e) : SeqAt.shaped (.list es) = true := by
  obtain ⟨h1, h2⟩ := lay_all es h
  show (PyData.canLay0 (.list es) && decide (PyData.depth (.list es) ≤ 64)) = true
  have e1 : PyData.canLay0 (.list es) = true := by simpa [PyData.canLay0] using h1
  have e2 : PyData.depth (.list es) ≤ 64 := by
    show PyData.depthAll es + 1 ≤ 64
    omega
  rw [e1, decide_eq_true e2]; rfl
theorem eqv_nil : ∀ es : List PyData, PyData.eqv (.list es) (.list []) = es.isEmpty
  | [] => rfl
  | _ :: _ => rfl
theorem rpl_lay {H : Hp} {xs : List V} {es : List PyData} (r : RpL K H xs es) (h : ∀ e ∈ es, E0k e) : DpAll K H xs es := RpL.dp es xs r (lay_all es h).1
/-! ### a walk over a list or a tuple -/
theorem for_sq {a : Addr} {xs : List V} {g : TG} {tb : TS} {D : Ends} {σ : L2.St} {H : Hp} (Pv : Nat → L2.St → Hp → Prop) (hq : Sq K H a xs) (h0 : Pv 0 σ H) (hl : ∀ i σ H', i ≤ xs.length → Pv i σ H' → Kp H H')
    (hs : ∀ i x σ H, xs[i]? = some x → Pv i σ H → g x σ H fun σ2 H2 => tb { D with nx := Pv (i + 1), ct := Pv (i + 1), bk := D.nx } σ2 H2) (hd : ∀ σ H, Pv xs.length σ H → D.nx σ H) :
    (SqL K H a xs ∧ ∃ W : Nat → Nat → L2.St → Hp → Prop, (∃ m, W 0 m σ H) ∧ ∀ i m σ H, W i m σ H →
      ((Itl K a).stop i H ∧ D.nx σ H) ∨ ((Itl K a).go i H ∧ ∃ N : L2.St → Hp → Prop, (∀ σ' H', N σ' H' → ∃ m', m' < m ∧ W (i + 1) m' σ' H') ∧ ∀ x H', (Itl K a).yld i H x H' → g x σ H' fun σ2 H2 => tb { D with nx := N, ct := N, bk := D.nx } σ2 H2)) ∨
    (SqT K H a xs ∧ ∃ W : Nat → Nat → L2.St → Hp → Prop, (∃ m, W 0 m σ H) ∧ ∀ i m σ H, W i m σ H →
      ((Itt K a).stop i H ∧ D.nx σ H) ∨ ((Itt K a).go i H ∧ ∃ N : L2.St → Hp → Prop, (∀ σ' H', N σ' H' → ∃ m', m' < m ∧ W (i + 1) m' σ' H') ∧ ∀ x H', (Itt K a).yld i H x H' → g x σ H' fun σ2 H2 => tb { D with nx := N, ct := N, bk := D.nx } σ2 H2)) := by
  rcases hq with hq | hq
  · exact .inl ⟨hq, for_list Pv h0 (fun i σ H' hi p => (hl i σ H' hi p).sqL hq) hs hd⟩
  · exact .inr ⟨hq, for_tup Pv h0 (fun i σ H' hi p => (hl i σ H' hi p).sqT hq) hs hd⟩
theorem lc_sq {a : Addr} {xs : List V} {g : TG} {tt : TT} {te : TE} {vs : List Nat} {σ : L2.St} {H1 : Hp} {Qd : Addr → Hp → Prop} (hq : Sq K H1 a xs)
    (h : ∀ D, H1 D = none → ∃ Pv : Nat → Hp → Prop, Pv 0 (upd H1 D (.lst [])) ∧ (∀ i H', i ≤ xs.length → Pv i H' → Kp H1 H') ∧
      (∀ i x H, xs[i]? = some x → Pv i H → g x (wipe σ vs) H fun σ2 H2 => wipe σ2 vs = wipe σ vs ∧ tt σ2 H2 fun b H3 =>
        if b = true then te σ2 H3 fun y H4 => ∃ acc, H4 D = some (.lst acc) ∧ acc.length < sizeLine ∧ Pv (i + 1) (upd H4 D (.lst (acc ++ [y]))) else Pv (i + 1) H3) ∧ ∀ H, Pv xs.length H → Qd D H) :
    (SqL K H1 a xs ∧ ∀ D, H1 D = none → ∃ W : Nat → Nat → Hp → Prop, (∃ m, W 0 m (upd H1 D (.lst []))) ∧ ∀ i m H, W i m H →
      ((Itl K a).stop i H ∧ Qd D H) ∨ ((Itl K a).go i H ∧ ∃ Nx : Hp → Prop, (∀ H', Nx H' → ∃ m', m' < m ∧ W (i + 1) m' H') ∧ ∀ x H', (Itl K a).yld i H x H' → g x (wipe σ vs) H' fun σ2 H2 => wipe σ2 vs = wipe σ vs ∧ tt σ2 H2 fun b H3 =>
        if b = true then te σ2 H3 fun y H4 => ∃ acc, H4 D = some (.lst acc) ∧ acc.length < sizeLine ∧ Nx (upd H4 D (.lst (acc ++ [y]))) else Nx H3)) ∨
    (SqT K H1 a xs ∧ ∀ D, H1 D = none → ∃ W : Nat → Nat → Hp → Prop, (∃ m, W 0 m (upd H1 D (.lst []))) ∧ ∀ i m H, W i m H →
      ((Itt K a).stop i H ∧ Qd D H) ∨ ((Itt K a).go i H ∧ ∃ Nx : Hp → Prop, (∀ H', Nx H' → ∃ m', m' < m ∧ W (i + 1) m' H') ∧ ∀ x H', (Itt K a).yld i H x H' → g x (wipe σ vs) H' fun σ2 H2 => wipe σ2 vs = wipe σ vs ∧ tt σ2 H2 fun b H3 =>
        if b = true then te σ2 H3 fun y H4 => ∃ acc, H4 D = some (.lst acc) ∧ acc.length < sizeLine ∧ Nx (upd H4 D (.lst (acc ++ [y]))) else Nx H3)) := by
  rcases hq with hq | hq
  · refine .inl ⟨hq, fun D hD => ?_⟩
    obtain ⟨Pv, p0, pk, ps, pd⟩ := h D hD
    exact lc_list Pv p0 (fun i H' hi p => (pk i H' hi p).sqL hq) ps pd
  · refine .inr ⟨hq, fun D hD => ?_⟩
    obtain ⟨Pv, p0, pk, ps, pd⟩ := h D hD
    exact lc_tup Pv p0 (fun i H' hi p => (pk i H' hi p).sqT hq) ps pd
theorem Kp.over {A B : Hp} {p : Addr} {o : HO} (k : Kp A B) (h : A p = none) : Kp A (upd B p o) := by
  refine ⟨fun b u e n => ?_, fun P t => ?_⟩
  · rw [upd_ne (fun z => by rw [z, h] at e; cases e)]
    exact k.keep b u e n
  · obtain ⟨ps, e, t2⟩ := t
    obtain ⟨qs, e3, t3⟩ := k.tab P ⟨ps, e, t2⟩
    exact ⟨qs, by rw [upd_ne (fun z => by rw [z, h] at e; cases e)]; exact e3, t3⟩
section
variable {P : Program} {w : World} {mg : Str → Option Value} {base : Heap} {f : String → Addr} {a c Pt P8 : Addr} {fd g1 g2 g3 g4 : FuncData}
theorem sc18 : FnScope ["_law_value"] ["_law_value"] (defScope (top 18)) := ⟨rfl, rfl, rfl, by decide +kernel, rfl, by decide +kernel, by decide +kernel⟩
theorem sc19 : FnScope ["_law_value", "_law_size"] ["_law_value", "_law_size"] (defScope (top 19)) := ⟨rfl, rfl, rfl, by decide +kernel, rfl, by decide +kernel, by decide +kernel⟩
theorem ok18 (T : Tx mg f) (F : Fun K "_law_is_list" "_law_is_list" (top 18) a fd) : FnOk P w K mg base CX0 1 a fd ["_law_value"] (spIs K isSq) := by
  refine F.ok sc18 (fun vs H Q E h => ?_) (fun cdv A outer s H vs Q E hr h => ?_)
  · obtain ⟨x, d, rfl, _⟩ := h
    rfl
  obtain ⟨x, d, rfl, hd, q⟩ := h
  refine ⟨_, pss_one (ps_ret (pe_callB call_isiT rfl (T.bl "isinstance" (by simp)) bi_isi (pa_cons (pv 0) (pa_cons (pe_tup (pa_cons (pe_ty rfl (T.bl "list" (by simp)) bi_list) (pa_cons (pe_ty rfl (T.bl "tuple" (by simp)) bi_tuple) pa_nil))) pa_nil)))), ?_⟩
  refine ⟨_, rfl, (by show 2 ≤ sizeLine; decide), fun t ht => ?_⟩
  have k := Kp.new (o := .tup [.ty "list", .ty "tuple"]) ht
  exact ⟨x, t, _, _, _, _, rfl, upd_same, .cons (.ty _) (.cons (.ty _) .nil), tyX_of (hd.kp k), kit_seq d, q _ k⟩
theorem ok19 (T : Tx mg f) (F : Fun K "_law_is_number" "_law_is_number" (top 19) a fd) : FnOk P w K mg base CX0 1 a fd ["_law_value", "_law_size"] (spBel K isBel) := by
  refine F.ok sc19 (fun vs H Q E h => ?_) (fun cdv A outer s H vs Q E hr h => ?_)
  · obtain ⟨x, d, n, rfl, _⟩ := h
    rfl
  obtain ⟨x, d, n, rfl, hd, q⟩ := h
  refine ⟨_, pss_one (ps_ret (pe_and (pe_callB call_isi rfl (T.bl "isinstance" (by simp)) bi_isi (pa_cons (pv 0) (pa_cons (pe_ty rfl (T.bl "int" (by simp)) bi_int) pa_nil)))
    (pe_and (pe_not (pe_callB call_isi rfl (T.bl "isinstance" (by simp)) bi_isi (pa_cons (pv 0) (pa_cons (pe_ty rfl (T.bl "bool" (by simp)) bi_bool) pa_nil)))) (pe_one (pe_chain op_le op_lt pe_int (pv 0) (pv 1)))))), ?_⟩
  refine ⟨_, rfl, x, .ty "int", _, _, _, rfl, .ty "int", tyX_of hd, kit_int d, _, rfl, ite2 (fun c => ?_) (fun c => ?_)⟩
  · refine ⟨_, rfl, x, .ty "bool", _, _, _, rfl, .ty "bool", tyX_of hd, kit_bool d, _, rfl, _, rfl, ite2 (fun c2 => ?_) (fun c2 => ?_)⟩
    · have : isI d = true := by cases d <;> first | rfl | (exfalso; simp [isIB] at c; done) | (exfalso; simp [isB] at c2; done)
      cases d <;> first | cases this | skip
      rename_i i
      cases hd
      refine ⟨_, rfl, _, _, rfl, rfl, _, rfl, ite2 (fun c3 => ?_) (fun c3 => ?_)⟩
      · refine ⟨_, rfl, _, _, rfl, rfl, ?_⟩
        have := q H (Kp.refl H)
        have e : isBel (.int i) n = decide (i < n) := by
          show (decide (0 ≤ i) && decide (i < n)) = _
          rw [c3, Bool.true_and]
        rw [e] at this
        exact this
      · have := q H (Kp.refl H)
        have e : isBel (.int i) n = false := by
          show (decide (0 ≤ i) && decide (i < n)) = _
          rw [Bool.eq_false_iff.mpr c3, Bool.false_and]
        rw [e] at this
        exact this
    · have e : isBel d n = false := by
        cases d <;> first | rfl | exact absurd rfl c2
      have := q H (Kp.refl H)
      rw [e] at this
      exact this
  · have e : isBel d n = false := by cases d <;> first | rfl | exact absurd rfl c
    have := q H (Kp.refl H)
    rw [e] at this
    exact this
/-! ### _law_is_square -/
def Lay (d : PyData) : Prop := ∀ r ∈ kids d, (kids r).length ≤ 1000 ∧ ∀ e ∈ kids r, E0k e
def spSq (K : PySem.W.Frag) : Sp := fun vs H Q _ => ∃ x d, vs = [x] ∧ Rp K H x d ∧ Lay d ∧ ∀ H', Kp H H' → Q (.bl (formOk d)) H'
theorem sc20 : FnScope ["_law_value", "_law_row", "_law_one"] ["_law_value"] (defScope (top 20)) := ⟨rfl, rfl, rfl, by decide +kernel, rfl, by decide +kernel, by decide +kernel⟩
theorem take_filter {α : Type} (p : α → Bool) (l : List α) (i : Nat) (x : α) (h : l[i]? = some x) : (l.take (i + 1)).filter p = (l.take i).filter p ++ (if p x = true then [x] else []) := by
  rw [List.take_add_one, h, List.filter_append]
  cases z : p x <;> simp [z]
theorem ok20 (T : Tx mg f) (F : Fun K "_law_is_square" "_law_is_square" (top 20) a fd) (G18 : FnOk P w K mg base CX0 1 (f "_law_is_list") g1 ["_law_value"] (spIs K isSq)) (B18 : Binds K g1 ["_law_value"] []) (kp18 : PySem.W.keepIn K (.ref (f "_law_is_list")) = true)
    (G19 : FnOk P w K mg base CX0 1 (f "_law_is_number") g2 ["_law_value", "_law_size"] (spBel K isBel)) (B19 : Binds K g2 ["_law_value", "_law_size"] []) (kp19 : PySem.W.keepIn K (.ref (f "_law_is_number")) = true) :
    FnOk P w K mg base CX0 2 a fd ["_law_value"] (spSq K) := by
  refine F.ok sc20 (fun vs H Q E h => ?_) (fun cdv A outer s H vs Q E hr h => ?_)
  · obtain ⟨x, d, rfl, _⟩ := h
    rfl
  obtain ⟨x, d, rfl, hd, hlay, q⟩ := h
  refine ⟨_, pss_cons (ps_if (PW.pt (pw_or (pt_not (pt_val (pe_call G18 hr rfl (T.fn "_law_is_list" (by simp)) kp18 B18 .nil pass0 (pa_cons (pv 0) pa_nil))))
      (pw_or1 (pt_not (pt_chain op_le op_le pe_int (pe_callB (cr_len (K := K) rfl) rfl (T.bl "len" (by simp)) PySem.boot_len (pa_cons (pv 0) pa_nil)) pe_int))))) (pss_one (ps_ret pe_bl)) pss_nil)
    (pss_cons (ps_for PassesOwn.never rfl (pi_sq (pv 0)) (pg_name (i := 1) sc20.nd rfl (Or.inl rfl))
      (pss_cons (ps_if (PW.pt (pw_or (pt_not (pt_val (pe_call G18 hr rfl (T.fn "_law_is_list" (by simp)) kp18 B18 .nil pass0 (pa_cons (pv 1) pa_nil))))
          (pw_or1 (pt_cmpR op_ne (pe_callB (cr_len (K := K) rfl) rfl (T.bl "len" (by simp)) PySem.boot_len (pa_cons (pv 1) pa_nil)) (pe_callB (cr_len (K := K) rfl) rfl (T.bl "len" (by simp)) PySem.boot_len (pa_cons (pv 0) pa_nil)) (nomark _))))) (pss_one (ps_ret pe_bl)) pss_nil)
        (pss_one (ps_if (pt_cmpR (op_neD hr.units) (pe_lc (own := [("_law_one", 2)]) rfl sc20.nd (pi_sq (pv 1)) (blkOk_by (by change blkC ["_law_value", "_law_row", "_law_one"] (defScope (top 20)) _ _ = true; decide +kernel)) (fun _ _ _ _ _ => pg_name (i := 2) sc20.nd rfl (Or.inl rfl))
            (fun _ _ _ _ _ => pts_one (pt_not (pt_val (pe_call G19 hr rfl (T.fn "_law_is_number" (by simp)) kp19 B19 .nil pass0 (pa_cons (pv 2) (pa_cons (pe_callB (cr_len (K := K) rfl) rfl (T.bl "len" (by simp)) PySem.boot_len (pa_cons (pv 0) pa_nil)) pa_nil))))))
            (fun _ _ _ _ _ => pv 2)) (pe_lst pa_nil) (nomark _)) (pss_one (ps_ret pe_bl)) pss_nil))))
    (pss_one (ps_ret pe_bl))), ?_⟩
  refine ⟨_, rfl, x, d, rfl, hd, fun H1 k1 => ⟨_, rfl, ?_⟩⟩
  have hd1 := hd.kp k1
  refine ite2 (fun c1 => ite2 (fun _ => ?_) (fun c => absurd rfl c)) (fun c1 => ?_)
  · have e : formOk d = false := by
      have : isSq d = false := by simpa using c1
      unfold formOk
      rw [this]; rfl
    have := q H1 k1
    rw [e] at this
    exact this
  have hs : isSq d = true := by simpa using c1
  obtain ⟨p, xs, rfl, sq, rl⟩ := hd1.sq hs
  have ln : xs.length = (kids d).length := rl.length
  have bad : ∀ {H'}, Kp H1 H' → ¬ (1 ≤ (kids d).length ∧ (kids d).length ≤ 8) → Q (.bl false) H' := fun {H'} k no => by
    have e : formOk d = false := by
      cases z : formOk d with
      | false => rfl
      | true =>
        have m := mx_of z
        exact absurd ⟨m.pos, m.le⟩ no
    have := q H' (k1.trans k)
    rw [e] at this
    exact this
  have bad2 : ∀ {H' i dy}, Kp H1 H' → (kids d)[i]? = some dy → rowOk dy ((kids d).length : Int) = false → Q (.bl false) H' := fun {H' i dy} k hy no => by
    have e : formOk d = false := by
      unfold formOk
      rw [all_false _ _ _ _ hy no, Bool.and_false]
    have := q H' (k1.trans k)
    rw [e] at this
    exact this
  refine ⟨_, rfl, p, xs, rfl, sq, _, _, rfl, rfl, _, rfl, ite2 (fun c2 => ?_) (fun c2 => ?_)⟩
  · refine ⟨_, _, rfl, rfl, _, rfl, ite2 (fun c3 => ?_) (fun c3 => ?_)⟩
    · refine bad (Kp.refl _) fun ⟨z1, z2⟩ => ?_
      have : ¬ ((xs.length : Int) ≤ 8) := by simpa using c3
      omega
    · have l1 : (1 : Int) ≤ xs.length := by simpa using c2
      have l8 : (xs.length : Int) ≤ 8 := by simpa using c3
      refine ⟨_, rfl, p, xs, rfl, ?_⟩
      refine for_sq (fun i σ H' => (∃ o1 o2, σ = [some (.ref p), o1, o2]) ∧ Kp H1 H' ∧ ((kids d).take i).all (rowOk · ((kids d).length : Int)) = true) sq ⟨⟨none, none, rfl⟩, Kp.refl _, rfl⟩ (fun i σ H' _ v => v.2.1) ?_ ?_
      · rintro i y σ H' hy ⟨⟨o1, o2, rfl⟩, kH, al⟩
        obtain ⟨dy, hdy, ry⟩ := (rl.kp kH).get hy
        have ly := hlay dy (List.mem_of_getElem? hdy)
        refine ⟨_, rfl, y, dy, rfl, ry, fun H2 k2 => ⟨_, rfl, ?_⟩⟩
        have ry2 := ry.kp k2
        have kH2 := kH.trans k2
        refine ite2 (fun c4 => ite2 (fun _ => ?_) (fun c => absurd rfl c)) (fun c4 => ?_)
        · refine bad2 kH2 hdy ?_
          have : isSq dy = false := by simpa using c4
          unfold rowOk
          rw [this]; rfl
        have hsy : isSq dy = true := by simpa using c4
        obtain ⟨r, ys, rfl, sqy, rly⟩ := ry2.sq hsy
        have lny : ys.length = (kids dy).length := rly.length
        refine ⟨_, rfl, r, ys, rfl, sqy, _, rfl, p, xs, rfl, kH2.sq sq, rfl, _, rfl, ?_⟩
        refine ite2 (fun c5 => ?_) (fun c5 => ?_)
        · refine bad2 kH2 hdy ?_
          have n1 := ne_t c5
          unfold rowOk
          rw [decide_eq_false (fun z => n1 (by omega)), Bool.and_false, Bool.false_and]
        have e5 : (ys.length : Int) = xs.length := ne_f c5
        refine ⟨_, rfl, r, ys, rfl, lc_sq sqy fun D hD => ⟨fun j H' => Kp H2 H' ∧ ∃ acc, H' D = some (.lst acc) ∧ acc.length ≤ j ∧ RpL K H2 acc (((kids dy).take j).filter fun e => !isBel e ((kids d).length : Int)), ⟨Kp.new hD, [], upd_same, Nat.le_refl _, .nil⟩, fun j H' _ v => v.1, ?_, ?_⟩⟩
        · rintro j e H3 he ⟨k3, acc, hacc, lacc, racc⟩
          obtain ⟨de, hde, re⟩ := rly.get he
          have hj : j < ys.length := (List.getElem?_eq_some_iff.mp he).1
          have tf := take_filter (fun e => !isBel e ((kids d).length : Int)) (kids dy) j de hde
          refine ⟨rfl, e, rfl, _, rfl, p, xs, rfl, (kH2.trans k3).sq sq, e, de, (xs.length : Int), rfl, re.kp k3, fun H4 k4 => ⟨_, rfl, ?_⟩⟩
          rw [ln]
          refine ite2 (fun c6 => ?_) (fun c6 => ?_)
          · refine ⟨e, rfl, acc, k4.lst hacc, by rw [sizeLine_eq]; omega, (k3.trans k4).over hD, acc ++ [e], upd_same, by rw [List.length_append]; simp; omega, ?_⟩
            rw [tf, if_pos c6]
            exact racc.app (.cons re .nil)
          · refine ⟨k3.trans k4, acc, k4.lst hacc, by omega, ?_⟩
            rw [tf, if_neg c6, List.append_nil]
            exact racc
        · rintro H3 ⟨k3, acc, hacc, lacc, racc⟩
          rw [lny, List.take_length] at racc
          have ek : ∀ e ∈ (kids dy).filter (fun e => !isBel e ((kids d).length : Int)), E0k e := fun e he => ly.2 e (List.mem_filter.mp he).1
          refine ⟨Nat.zero_le _, fun p2 hp2 => ?_⟩
          have k5 : Kp H3 (upd H3 p2 (.lst [])) := Kp.new hp2
          refine ⟨_, _, Dp.lst (.inl (.inl (k5.lst hacc))) (rpl_lay (racc.kp (k3.trans k5)) ek), Dp.lst (.inl (.inl upd_same)) .nil, shaped_list ek, shaped_list (fun e he => by cases he), _, rfl, ?_⟩
          rw [eqv_nil]
          refine ite2 (fun c7 => ?_) (fun c7 => ?_)
          · refine bad2 (kH2.trans (k3.trans k5)) hdy ?_
            unfold rowOk
            have : (kids dy).all (isBel · ((kids d).length : Int)) = false := by
              cases z : (kids dy).all (isBel · ((kids d).length : Int)) with
              | false => rfl
              | true =>
                have : (kids dy).filter (fun e => !isBel e ((kids d).length : Int)) = [] := List.filter_eq_nil_iff.mpr fun e he => by
                  have := List.all_eq_true.mp z e he
                  rw [this]; decide
                rw [this] at c7
                cases c7
            rw [this, Bool.and_false]
          · refine ⟨⟨_, _, rfl⟩, kH2.trans (k3.trans k5), ?_⟩
            rw [all_take _ _ _ _ hdy, al]
            unfold rowOk
            have : (kids dy).all (isBel · ((kids d).length : Int)) = true := by
              rw [List.all_eq_true]
              intro e he
              cases z : isBel e ((kids d).length : Int) with
              | true => rfl
              | false =>
                refine absurd ?_ c7
                have hm : e ∈ (kids dy).filter (fun e => !isBel e ((kids d).length : Int)) := List.mem_filter.mpr ⟨he, by rw [z]; rfl⟩
                cases y : (kids dy).filter (fun e => !isBel e ((kids d).length : Int)) with
                | nil => rw [y] at hm; cases hm
                | cons _ _ => rfl
            rw [this, hsy, decide_eq_true (by omega)]; rfl
      · rintro σ H' ⟨⟨o1, o2, rfl⟩, kH, al⟩
        have e : formOk d = true := by
          unfold formOk
          rw [ln, List.take_length] at al
          rw [al, hs, decide_eq_true (show 1 ≤ (kids d).length by omega), decide_eq_true (show (kids d).length ≤ 8 by omega)]; rfl
        have := q H' (k1.trans kH)
        rw [e] at this
        exact this
  · refine ⟨_, rfl, ite2 (fun _ => bad (Kp.refl _) fun z => ?_) (fun z => absurd rfl z)⟩
    have : ¬ ((1 : Int) ≤ xs.length) := by simpa using c2
    omega
end
end Tb

namespace Tb
open PySem PySem.Spec PyProof.Rows L2
variable {K : PySem.W.Frag}
section
variable {P : Program} {w : World} {mg : Str → Option Value} {base : Heap} {f : String → Addr} {a c Pt P8 : Addr} {fd g1 g2 g3 g4 : FuncData}
def JR2 (d : PyData) (n : Nat) : Prop := ∀ i, i < n → cell d 0 i = i ∧ cell d i i = i ∧ ∀ j, j < n → cell d i j = cell d j i ∧ ∀ k, k < n → cell d (cell d i j).toNat k = cell d i (cell d j k).toNat
theorem jr2 {d : PyData} {n : Nat} (h : 1 ≤ n) : JR2 d n ↔ JR d n := by
  constructor
  · intro q i hi
    refine ⟨(q i hi).2.1, ?_, (q i hi).2.2⟩
    have := ((q i hi).2.2 0 h).1
    rw [this]
    exact (q i hi).1
  · intro q i hi
    refine ⟨?_, (q i hi).1, (q i hi).2.2⟩
    have := ((q i hi).2.2 0 h).1
    rw [← this]
    exact (q i hi).2.1
def spLt (K : PySem.W.Frag) : Sp := fun vs H Q _ => ∃ x d, vs = [x] ∧ Rp K H x d ∧ Lay d ∧ ∀ b H', (b = true ↔ IsT d) → Kp H H' → Q (.bl b) H'
theorem sc21 : FnScope ["_law_value", "_law_one", "_law_other", "_law_third"] ["_law_value"] (defScope (top 21)) := ⟨rfl, rfl, rfl, by decide +kernel, rfl, by decide +kernel, by decide +kernel⟩
theorem ok21 (T : Tx mg f) (F : Fun K "_law_is_table" "_law_is_table" (top 21) a fd) (G20 : FnOk P w K mg base CX0 2 (f "_law_is_square") g1 ["_law_value"] (spSq K)) (B20 : Binds K g1 ["_law_value"] []) (kp20 : PySem.W.keepIn K (.ref (f "_law_is_square")) = true) :
    FnOk P w K mg base CX0 3 a fd ["_law_value"] (spLt K) := by
  refine F.ok sc21 (fun vs H Q E h => ?_) (fun cdv A outer s H vs Q E hr h => ?_)
  · obtain ⟨x, d, rfl, _⟩ := h
    rfl
  obtain ⟨x, d, rfl, hd, hlay, q0⟩ := h
  refine ⟨_, pss_cons (ps_if (pt_not (pt_val (pe_call G20 hr rfl (T.fn "_law_is_square" (by simp)) kp20 B20 .nil pass0 (pa_cons (pv 0) pa_nil)))) (pss_one (ps_ret pe_bl)) pss_nil)
    (pss_cons (ps_for PassesOwn.never rfl (pi_range1 rfl (T.bl "range" (by simp)) (pa_cons (pe_callB (cr_len (K := K) rfl) rfl (T.bl "len" (by simp)) PySem.boot_len (pa_cons (pv 0) pa_nil)) pa_nil)) (pg_name (i := 1) sc21.nd rfl (Or.inl rfl))
      (pss_cons (ps_if (PW.pt (pw_or (pt_cmpR op_ne (pe_ix (ix_list.or ix_tup) (pe_ix (ix_list.or ix_tup) (pv 0) pe_int (fun _ _ => rfl)) (pv 1) (fun _ _ => rfl)) (pv 1) (nomark _))
          (pw_or1 (pt_cmpR op_ne (pe_ix (ix_list.or ix_tup) (pe_ix (ix_list.or ix_tup) (pv 0) (pv 1) (fun _ _ => rfl)) (pv 1) (fun _ _ => rfl)) (pv 1) (nomark _))))) (pss_one (ps_ret pe_bl)) pss_nil)
      (pss_one (ps_for PassesOwn.never rfl (pi_range1 rfl (T.bl "range" (by simp)) (pa_cons (pe_callB (cr_len (K := K) rfl) rfl (T.bl "len" (by simp)) PySem.boot_len (pa_cons (pv 0) pa_nil)) pa_nil)) (pg_name (i := 2) sc21.nd rfl (Or.inl rfl))
        (pss_cons (ps_if (pt_cmpR op_ne (pe_ix (ix_list.or ix_tup) (pe_ix (ix_list.or ix_tup) (pv 0) (pv 1) (fun _ _ => rfl)) (pv 2) (fun _ _ => rfl)) (pe_ix (ix_list.or ix_tup) (pe_ix (ix_list.or ix_tup) (pv 0) (pv 2) (fun _ _ => rfl)) (pv 1) (fun _ _ => rfl)) (nomark _)) (pss_one (ps_ret pe_bl)) pss_nil)
        (pss_one (ps_for PassesOwn.never rfl (pi_range1 rfl (T.bl "range" (by simp)) (pa_cons (pe_callB (cr_len (K := K) rfl) rfl (T.bl "len" (by simp)) PySem.boot_len (pa_cons (pv 0) pa_nil)) pa_nil)) (pg_name (i := 3) sc21.nd rfl (Or.inl rfl))
          (pss_one (ps_if (pt_cmpR op_ne (pe_ix (ix_list.or ix_tup) (pe_ix (ix_list.or ix_tup) (pv 0) (pe_ix (ix_list.or ix_tup) (pe_ix (ix_list.or ix_tup) (pv 0) (pv 1) (fun _ _ => rfl)) (pv 2) (fun _ _ => rfl)) (fun _ _ => rfl)) (pv 3) (fun _ _ => rfl))
            (pe_ix (ix_list.or ix_tup) (pe_ix (ix_list.or ix_tup) (pv 0) (pv 1) (fun _ _ => rfl)) (pe_ix (ix_list.or ix_tup) (pe_ix (ix_list.or ix_tup) (pv 0) (pv 2) (fun _ _ => rfl)) (pv 3) (fun _ _ => rfl)) (fun _ _ => rfl)) (nomark _)) (pss_one (ps_ret pe_bl)) pss_nil)))))))))
    (pss_one (ps_ret pe_bl))), ?_⟩
  refine ⟨_, rfl, x, d, rfl, hd, hlay, fun H1 k1 => ⟨_, rfl, ?_⟩⟩
  refine ite2 (fun c0 => ?_) (fun c0 => ?_)
  · have e0 : formOk d = false := by simpa using c0
    exact q0 false H1 ⟨(fun z => by cases z), fun z => by rw [z.1] at e0; cases e0⟩ k1
  have hf : formOk d = true := by simpa using c0
  have M := mx_of hf
  generalize hn : (kids d).length = n at M
  have q : ∀ b, (b = true ↔ JR2 d n) → Q (.bl b) H1 := fun b hb => q0 b H1 (hb.trans ((jr2 M.pos).trans ⟨fun z => ⟨hf, by rw [hn]; exact z⟩, fun z => by have := z.2; rw [hn] at this; exact this⟩)) k1
  have hd1 := hd.kp k1
  obtain ⟨p, xs, rfl, sq, rl⟩ := hd1.sq M.sq
  have ln : xs.length = n := rl.length.trans M.len
  have n8 : xs.length ≤ 8 := by rw [ln]; exact M.le
  have no : ¬ JR2 d n → Q (.bl false) H1 := fun h => q false ⟨(fun z => by cases z), fun z => absurd z h⟩
  have row : ∀ {i : Int} {R : VK}, 0 ≤ i → i.toNat < n → (∀ v, Rp K H1 v (rowAt d i.toNat) → R v H1) → rIxL K (.ref p) (.int i) H1 R ∨ rIxT K (.ref p) (.int i) H1 R := fun h0 hi hR => ix_rp hd1 M.sq h0 (by rw [M.len]; exact hi) hR
  have b62 : -(2 ^ 62) ≤ (xs.length : Int) ∧ (xs.length : Int) < 2 ^ 62 := by omega
  have cnt : ((xs.length : Int)).toNat = n := by omega
  refine ⟨_, rfl, p, xs, rfl, sq, _, rfl, b62.1, b62.2, ?_⟩
  rw [cnt]
  refine for_range (n := n) (fun i σ HH => H1 = HH ∧ (∃ o1 o2 o3, σ = [some (.ref p), o1, o2, o3]) ∧ ∀ i', i' < i → cell d 0 i' = i' ∧ cell d i' i' = i' ∧ ∀ j, j < n → cell d i' j = cell d j i' ∧ ∀ k, k < n → cell d (cell d i' j).toNat k = cell d i' (cell d j k).toNat)
    ⟨rfl, ⟨none, none, none, rfl⟩, fun i' h => absurd h (Nat.not_lt_zero _)⟩ ?_ ?_
  · rintro i σ HH hi ⟨rfl, ⟨o1, o2, o3, rfl⟩, ih⟩
    obtain ⟨ti, i0⟩ := nat_of hi
    have ti' : (0 + (i : Int)).toNat < n := by omega
    have z0 : (0 : Int).toNat < n := by have := M.pos; show (0 : Int).toNat < n; omega
    refine ⟨_, rfl, row (by decide) z0 fun r rr => ⟨_, rfl, ix_cell M rr z0 i0 ti' ⟨_, rfl, rfl, _, rfl, ?_⟩⟩⟩
    rw [ti]
    refine ite2 (fun c1 => ite2 (fun _ => no fun J => ?_) (fun z => absurd rfl z)) (fun c1 => ?_)
    · exact ne_t c1 (by show cell d 0 i = _; rw [(J i hi).1]; omega)
    have e1 : cell d 0 i = i := by have : cell d 0 i = 0 + (i : Int) := ne_f c1; omega
    refine ⟨_, rfl, _, rfl, row i0 ti' fun r rr => ⟨_, rfl, ix_cell M rr ti' i0 ti' ⟨_, rfl, rfl, _, rfl, ?_⟩⟩⟩
    rw [ti]
    refine ite2 (fun c2 => no fun J => ?_) (fun c2 => ?_)
    · exact ne_t c2 (by rw [(J i hi).2.1]; omega)
    have e2 : cell d i i = i := by have := ne_f c2; omega
    refine ⟨_, rfl, p, xs, rfl, sq, _, rfl, b62.1, b62.2, ?_⟩
    rw [cnt]
    refine for_range (n := n) (fun j σ HH => H1 = HH ∧ (∃ o2 o3, σ = [some (.ref p), some (.int (0 + i)), o2, o3]) ∧ ∀ j', j' < j → cell d i j' = cell d j' i ∧ ∀ k, k < n → cell d (cell d i j').toNat k = cell d i (cell d j' k).toNat)
      ⟨rfl, ⟨o2, o3, rfl⟩, fun j' h => absurd h (Nat.not_lt_zero _)⟩ ?_ ?_
    · rintro j σ HH hj ⟨rfl, ⟨u2, u3, rfl⟩, jh⟩
      obtain ⟨tj, j0⟩ := nat_of hj
      have tj' : (0 + (j : Int)).toNat < n := by omega
      refine ⟨_, rfl, _, rfl, row i0 ti' fun r rr => ⟨_, rfl, ix_cell M rr ti' j0 tj' ⟨_, rfl, _, rfl, row j0 tj' fun r2 rr2 => ⟨_, rfl, ix_cell M rr2 tj' i0 ti' ⟨rfl, _, rfl, ?_⟩⟩⟩⟩⟩
      rw [ti, tj]
      refine ite2 (fun c3 => no fun J => ne_t c3 ((J i hi).2.2 j hj).1) (fun c3 => ?_)
      have e3 : cell d i j = cell d j i := ne_f c3
      obtain ⟨_, a0, an⟩ := M.cel i j hi hj
      have an' : (cell d i j).toNat < n := by omega
      refine ⟨_, rfl, p, xs, rfl, sq, _, rfl, b62.1, b62.2, ?_⟩
      rw [cnt]
      refine for_range (n := n) (fun k σ HH => H1 = HH ∧ (∃ o3, σ = [some (.ref p), some (.int (0 + i)), some (.int (0 + j)), o3]) ∧ ∀ k', k' < k → cell d (cell d i j).toNat k' = cell d i (cell d j k').toNat)
        ⟨rfl, ⟨u3, rfl⟩, fun k' h => absurd h (Nat.not_lt_zero _)⟩ ?_ ?_
      · rintro k σ HH hk ⟨rfl, ⟨v3, rfl⟩, kh⟩
        obtain ⟨tk, k0⟩ := nat_of hk
        have tk' : (0 + (k : Int)).toNat < n := by omega
        obtain ⟨_, b0, bn⟩ := M.cel j k hj hk
        have bn' : (cell d j k).toNat < n := by omega
        refine ⟨_, rfl, _, rfl, _, rfl, row i0 ti' fun r rr => ⟨_, rfl, ix_cell M rr ti' j0 tj' ?_⟩⟩
        rw [ti, tj]
        refine row a0 an' fun r2 rr2 => ⟨_, rfl, ix_cell M rr2 an' k0 tk' ⟨_, rfl, _, rfl, row i0 ti' fun r3 rr3 => ⟨_, rfl, _, rfl, row j0 tj' fun r4 rr4 => ⟨_, rfl, ix_cell M rr4 tj' k0 tk' ?_⟩⟩⟩⟩
        rw [tj, tk]
        refine ix_cell M rr3 ti' b0 bn' ⟨rfl, _, rfl, ?_⟩
        rw [ti]
        refine ite2 (fun c4 => no fun J => ne_t c4 (((J i hi).2.2 j hj).2 k hk)) (fun c4 => ?_)
        refine ⟨rfl, ⟨_, rfl⟩, fun k' hk' => ?_⟩
        by_cases z : k' = k
        · rw [z]; exact ne_f c4
        · exact kh k' (by omega)
      · rintro σ HH ⟨rfl, ⟨v3, rfl⟩, kh⟩
        refine ⟨rfl, ⟨_, _, rfl⟩, fun j' hj' => ?_⟩
        by_cases z : j' = j
        · rw [z]; exact ⟨e3, kh⟩
        · exact jh j' (by omega)
    · rintro σ HH ⟨rfl, ⟨u2, u3, rfl⟩, jh⟩
      refine ⟨rfl, ⟨_, _, _, rfl⟩, fun i' hi' => ?_⟩
      by_cases z : i' = i
      · rw [z]; exact ⟨e1, e2, jh⟩
      · exact ih i' (by omega)
  · rintro σ HH ⟨rfl, ⟨o1, o2, o3, rfl⟩, ih⟩
    exact q true ⟨fun _ => ih, fun _ => rfl⟩
end
end Tb

namespace Tb
open PySem PySem.Spec PyProof.Rows L2
variable {K : PySem.W.Frag}
/-! ### the pot -/
def PotAt (H : Hp) (p : Addr) : Prop := ∃ a b : Int, H p = some (.lst [.int a, .int b]) ∧ 0 ≤ a ∧ 0 ≤ b ∧ b < 2 ^ 32
theorem del_upd {H : Hp} {p : Addr} {o : HO} : del (upd H p o) p = del H p := by
  funext b
  unfold del
  by_cases h : b = p
  · rw [if_pos h, if_pos h]
  · rw [if_neg h, if_neg h, upd_ne h]
theorem upd_del {H : Hp} {p t : Addr} {o : HO} (h : t ≠ p) : del (upd H t o) p = upd (del H p) t o := by
  funext b
  by_cases z : b = t
  · subst z
    rw [del_ne h, upd_same, upd_same]
  · rw [upd_ne z]
    unfold del
    by_cases y : b = p
    · rw [if_pos y, if_pos y]
    · rw [if_neg y, if_neg y, upd_ne z]
theorem del_none {H : Hp} {p t : Addr} (h : H t = none) : del H p t = none := by
  unfold del
  split
  · rfl
  · exact h
abbrev Kd (p : Addr) (H H' : Hp) : Prop := Kp (del H p) (del H' p)
theorem Kd.put {H : Hp} {p : Addr} {o : HO} : Kd p H (upd H p o) := by
  show Kp (del H p) (del (upd H p o) p)
  rw [del_upd]
  exact Kp.refl _
theorem Kd.new {H : Hp} {p t : Addr} {o : HO} (h : H t = none) (hp : H p ≠ none) : Kd p H (upd H t o) := by
  have n : t ≠ p := fun z => hp (by rw [← z]; exact h)
  show Kp (del H p) (del (upd H t o) p)
  rw [upd_del n]
  exact Kp.new (del_none h)
theorem Kd.lst {H H' : Hp} {p a : Addr} {xs : List V} (k : Kd p H H') (n : a ≠ p) (h : H a = some (.lst xs)) : H' a = some (.lst xs) := by
  have := Kp.lst (H := del H p) (H' := del H' p) k (a := a) (xs := xs) (by rw [del_ne n]; exact h)
  exact del_sub _ _ this
theorem Kp.kd {H H' : Hp} (k : Kp H H') {p : Addr} (h : ∀ ps, H p ≠ some (.tbl ps)) : Kd p H H' := k.del p h
theorem PotAt.ntbl {H : Hp} {p : Addr} (h : PotAt H p) : ∀ ps, H p ≠ some (.tbl ps) := fun ps z => by
  obtain ⟨a, b, e, _⟩ := h
  rw [e] at z; cases z
theorem PotAt.nn {H : Hp} {p : Addr} (h : PotAt H p) : H p ≠ none := fun z => by
  obtain ⟨a, b, e, _⟩ := h
  rw [e] at z; cases z
theorem PotAt.kp {H H' : Hp} {p : Addr} (h : PotAt H p) (k : Kp H H') : PotAt H' p := by
  obtain ⟨a, b, e, r⟩ := h
  exact ⟨a, b, k.lst e, r⟩
theorem PotAt.new {H : Hp} {p t : Addr} {o : HO} (h : PotAt H p) (ht : H t = none) : PotAt (upd H t o) p := h.kp (Kp.new ht)
section
variable {P : Program} {w : World} {mg : Str → Option Value} {base : Heap} {f : String → Addr} {a c Pt P8 : Addr} {fd g1 g2 g3 g4 : FuncData}
theorem bi_abs : bootBuiltins "abs" = some (.builtin "abs") := by decide +kernel
theorem bi_max : bootBuiltins "max" = some (.builtin "max") := by decide +kernel
theorem bi_sum : bootBuiltins "sum" = some (.builtin "sum") := by decide +kernel
theorem bi_divmod : bootBuiltins "divmod" = some (.builtin "divmod") := by decide +kernel
theorem none_of {H : Hp} {t p : Addr} {o : HO} (h : upd H t o p = none) : H p = none := by
  by_cases z : p = t
  · subst z
    rw [upd_same] at h; cases h
  · rw [upd_ne z] at h; exact h
/-! ### _law_pot -/
def spPot (K : PySem.W.Frag) : Sp := fun vs H Q _ => ∃ (l : Addr) (ns : List Int), vs = [.ref l, .int 0] ∧ SqL K H l (ns.map V.int) ∧ ∀ p H', H p = none → PotAt H' p → Kp H H' → Q (.ref p) H'
theorem sc12 : FnScope ["_law_script", "_law_k", "_law_cell"] ["_law_script", "_law_k"] (defScope (top 12)) := ⟨rfl, rfl, rfl, by decide +kernel, rfl, by decide +kernel, by decide +kernel⟩
theorem ok12 (T : Tx mg f) (F : Fun K "_law_pot" "_law_pot" (top 12) a fd) : FnOk P w K mg base CX0 1 a fd ["_law_script", "_law_k"] (spPot K) := by
  refine F.ok sc12 (fun vs H Q E h => ?_) (fun cdv A outer s H vs Q E hr h => ?_)
  · obtain ⟨l, ns, rfl, _⟩ := h
    rfl
  obtain ⟨l, ns, rfl, hl, q⟩ := h
  refine ⟨_, pss_cons (ps_set (i := 2) sc12.nd rfl (Or.inl rfl) (pe_ifExp (pt_cmpR op_lt (pv 1) (pe_callB (cr_len (K := K) rfl) rfl (T.bl "len" (by simp)) PySem.boot_len (pa_cons (pv 0) pa_nil)) (nomark _))
      (pe_callB call_abs rfl (T.bl "abs" (by simp)) bi_abs (pa_cons (pe_ix ix_list (pv 0) (pv 1) (fun _ _ => rfl)) pa_nil))
      (pe_op op_add (pe_op op_add (pe_op op_mul pe_int (pv 1)) pe_int) (pe_op op_mod (pe_callB call_abs rfl (T.bl "abs" (by simp)) bi_abs (pa_cons (pe_callB (cr_sum rfl) rfl (T.bl "sum" (by simp)) bi_sum (pa_cons (pe_slice sl_list (pv 0) po_none (po_some pe_int)) pa_nil)) pa_nil)) pe_int))))
    (pss_one (ps_ret (pe_lst (pa_cons (pe_callB (call_max2 rfl) rfl (T.bl "max" (by simp)) bi_max (pa_cons pe_int (pa_cons (pe_op op_sub (pv 2) (pe_op op_pow pe_int pe_int)) pa_nil)))
      (pa_cons (pe_op op_add (pe_op op_mod (pe_callTy call_int1 rfl (T.bl "int" (by simp)) bi_int (pa_cons (pe_op op_add (pe_op op_add (pe_op op_mul (pe_op op_mod (pe_callTy call_int1 rfl (T.bl "int" (by simp)) bi_int (pa_cons (pv 2) pa_nil)) pe_int) pe_int) (pe_op op_mul pe_int (pv 1))) pe_int) pa_nil)) pe_int) pe_int) pa_nil))))), ?_⟩
  have mx : ∀ x : Int, 0 ≤ (if x > 0 then x else 0) := fun x => by split <;> omega
  have md : ∀ x : Int, 0 ≤ x % 2147483563 + 1 ∧ x % 2147483563 + 1 < 2 ^ 32 := fun x => by
    have h1 := Int.emod_nonneg x (show (2147483563 : Int) ≠ 0 by decide)
    have h2 := Int.emod_lt_of_pos x (show (0 : Int) < 2147483563 by decide)
    omega
  have p31 : (0 : Int) < 2147483549 := by decide
  have p32 : (0 : Int) < 2147483563 := by decide
  have cp : CPow 10 18 := ⟨by decide, by decide, by decide⟩
  refine ⟨_, rfl, _, rfl, l, _, rfl, .inl hl, _, _, rfl, rfl, ?_⟩
  refine ⟨_, rfl, ite2 (fun c => ?_) (fun c => ?_)⟩
  · cases ns with
    | nil => simp at c
    | cons n0 nr =>
      refine ⟨_, rfl, _, rfl, l, _, _, .int n0, rfl, rfl, hl, (by simpa using atI_nat (xs := List.map V.int (n0 :: nr)) (j := 0) (v := .int n0) rfl), _, rfl, ?_⟩
      refine ⟨_, rfl, _, _, rfl, rfl, cp, _, _, rfl, rfl, _, _, rfl, _, rfl, .inl ⟨_, rfl, _, _, rfl, rfl, p31, _, _, rfl, rfl, .inr (by decide), _, rfl, _, _, rfl, rfl, .inl (by decide), _, _, rfl, rfl, _, _, rfl, rfl, .inl ⟨_, rfl, _, _, rfl, rfl, p32, _, _, rfl, rfl, (by show 2 ≤ sizeLine; decide), fun p hp => ?_⟩⟩⟩
      exact q p _ hp ⟨_, _, upd_same, mx _, (md _).1, (md _).2⟩ (Kp.new hp)
  · cases ns with
    | cons n0 nr => exact absurd (by simp) c
    | nil =>
      refine ⟨_, rfl, _, _, rfl, rfl, .inl (by decide), _, _, rfl, rfl, _, rfl, 1, rfl, l, _, rfl, hl, fun t ht => ⟨t, [], rfl, .inl (.inl upd_same), _, rfl, _, _, rfl, rfl, (by decide), _, _, rfl, rfl, ?_⟩⟩
      refine ⟨_, rfl, _, _, rfl, rfl, cp, _, _, rfl, rfl, _, _, rfl, _, rfl, .inl ⟨_, rfl, _, _, rfl, rfl, p31, _, _, rfl, rfl, .inr (by decide), _, rfl, _, _, rfl, rfl, .inl (by decide), _, _, rfl, rfl, _, _, rfl, rfl, .inl ⟨_, rfl, _, _, rfl, rfl, p32, _, _, rfl, rfl, (by show 2 ≤ sizeLine; decide), fun p hp => ?_⟩⟩⟩
      exact q p _ (none_of hp) ⟨_, _, upd_same, mx _, (md _).1, (md _).2⟩ ((Kp.new ht).trans (Kp.new hp))
end
end Tb

namespace Tb
open PySem PySem.Spec PyProof.Rows L2
variable {K : PySem.W.Frag}
section
variable {P : Program} {w : World} {mg : Str → Option Value} {base : Heap} {f : String → Addr} {a c Pt P8 : Addr} {fd g1 g2 g3 g4 : FuncData}
/-! ### _law_draw -/
def spDraw : Sp := fun vs H Q _ => ∃ (p : Addr) (n : Int), vs = [.ref p, .int n] ∧ 0 < n ∧ n < 1073741824 ∧ PotAt H p ∧ ∀ (r : Int) H', 0 ≤ r → r < n → PotAt H' p → Kd p H H' → Q (.int r) H'
theorem sc13 : FnScope ["_law_pot_here", "_law_sides", "_law_digit"] ["_law_pot_here", "_law_sides"] (defScope (top 13)) := ⟨rfl, rfl, rfl, by decide +kernel, rfl, by decide +kernel, by decide +kernel⟩
theorem Kd.trans {p : Addr} {A B C : Hp} (x : Kd p A B) (y : Kd p B C) : Kd p A C := Kp.trans x y
theorem at2 {x y : V} : atI [x, y] 0 = some x ∧ atI [x, y] 1 = some y ∧ ixN [x, y].length 0 = some 0 ∧ ixN [x, y].length 1 = some 1 := ⟨rfl, rfl, rfl, rfl⟩
theorem ok13 (T : Tx mg f) (F : Fun K "_law_draw" "_law_draw" (top 13) a fd) : FnOk P w K mg base CX0 1 a fd ["_law_pot_here", "_law_sides"] spDraw := by
  refine F.ok sc13 (fun vs H Q E h => ?_) (fun cdv A outer s H vs Q E hr h => ?_)
  · obtain ⟨p, n, rfl, _⟩ := h
    rfl
  obtain ⟨p, n, rfl, n0, n1, ⟨x, y, hp, x0, y0, y1⟩, q⟩ := h
  refine ⟨_, pss_cons (ps_if (pt_cmpR op_gt (pe_ix ix_list (pv 0) pe_int (fun _ _ => rfl)) pe_int (nomark _))
      (pss_cons (ps_asg (pe_callB call_divmod rfl (T.bl "divmod" (by simp)) bi_divmod (pa_cons (pe_ix ix_list (pv 0) pe_int (fun _ _ => rfl)) (pa_cons (pv 1) pa_nil)))
          (pg_tup rfl (pgs_cons (pg_sub (pv 0) pe_int set_list) (pgs_cons (pg_name (i := 2) sc13.nd rfl (Or.inl rfl)) pgs_nil))))
        (pss_one (ps_ret (pv 2)))) pss_nil)
    (pss_cons (ps_asg (pe_op op_mod (pe_callTy call_int1 rfl (T.bl "int" (by simp)) bi_int (pa_cons (pe_op op_add (pe_op op_mul (pe_ix ix_list (pv 0) pe_int (fun _ _ => rfl)) pe_int) pe_int) pa_nil)) pe_int) (pg_sub (pv 0) pe_int set_list))
      (pss_one (ps_ret (pe_op op_mod (pe_callTy call_int1 rfl (T.bl "int" (by simp)) bi_int (pa_cons (pe_op op_fdiv (pe_op op_mod (pe_callTy call_int1 rfl (T.bl "int" (by simp)) bi_int (pa_cons (pe_op op_mul (pe_ix ix_list (pv 0) pe_int (fun _ _ => rfl)) (pe_ix ix_list (pv 0) pe_int (fun _ _ => rfl))) pa_nil)) pe_int) pe_int) pa_nil)) (pv 1))))), ?_⟩
  have sq : ∀ {x y : Int} {H : Hp}, H p = some (.lst [.int x, .int y]) → SqL K H p [.int x, .int y] := fun h => .inl (.inl h)
  refine ⟨_, rfl, p, _, _, _, rfl, rfl, sq hp, at2.1, _, _, rfl, rfl, _, rfl, ite2 (fun c => ?_) (fun c => ?_)⟩
  · refine ⟨_, rfl, p, _, _, _, rfl, rfl, sq hp, at2.1, _, rfl, _, _, rfl, ⟨n0, n1⟩, fun t ht => ?_⟩
    have hn : p ≠ t := ne_of_none hp ht
    have hp2 : upd H t (.tup [.int (x / n), .int (x % n)]) p = some (.lst [.int x, .int y]) := by rw [upd_ne hn]; exact hp
    refine ⟨t, _, rfl, .inl (.inl upd_same), rfl, _, _, rfl, _, rfl, p, _, _, _, rfl, rfl, hp2, at2.2.2.1, _, _, rfl, rfl, _, rfl, ?_⟩
    refine q _ _ (Int.emod_nonneg _ (by omega)) (Int.emod_lt_of_pos _ n0) ⟨_, _, upd_same, Int.ediv_nonneg x0 (by omega), y0, y1⟩ ?_
    exact Kd.trans (Kd.new ht (by rw [hp]; simp)) Kd.put
  · have p1 : (0 : Int) < 2147483587 := by decide
    have p2 : (0 : Int) < 2147483629 := by decide
    have m0 : ∀ z : Int, 0 ≤ z % 2147483587 ∧ z % 2147483587 < 2 ^ 32 := fun z => by
      have h1 := Int.emod_nonneg z (show (2147483587 : Int) ≠ 0 by decide)
      have h2 := Int.emod_lt_of_pos z p1
      omega
    refine ⟨_, rfl, p, _, _, _, rfl, rfl, sq hp, at2.2.1, _, _, rfl, rfl, .inr (by decide), _, _, rfl, rfl, .inl ⟨_, rfl, _, _, rfl, rfl, p1, _, rfl, p, _, _, _, rfl, rfl, hp, at2.2.2.2, ?_⟩⟩
    obtain ⟨z0, z1⟩ := m0 (y * 40692 + 5113)
    have hz : upd H p (.lst ([V.int x, V.int y].set 1 (V.int ((y * 40692 + 5113) % 2147483587)))) p = some (.lst [.int x, .int ((y * 40692 + 5113) % 2147483587)]) := upd_same
    refine ⟨_, rfl, p, _, _, _, rfl, rfl, sq hz, at2.2.1, _, rfl, p, _, _, _, rfl, rfl, sq hz, at2.2.1, _, _, rfl, rfl, .inl (by omega), .inl ⟨_, rfl, _, _, rfl, rfl, p2, _, _, rfl, rfl, ⟨by decide, by decide⟩, .inl ⟨_, rfl, _, rfl, _, _, rfl, rfl, n0, ?_⟩⟩⟩
    exact q _ _ (Int.emod_nonneg _ (by omega)) (Int.emod_lt_of_pos _ n0) ⟨_, _, hz, x0, z0, z1⟩ Kd.put
/-! ### _law_pick -/
def spPick : Sp := fun vs H Q _ => ∃ (p s : Addr) (xs : List V), vs = [.ref p, .ref s] ∧ s ≠ p ∧ PotAt H p ∧ H s = some (.lst xs) ∧ xs ≠ [] ∧ xs.length < 1000 ∧ ∀ v H', v ∈ xs → PotAt H' p → Kd p H H' → Q v H'
theorem sc14 : FnScope ["_law_pot_here", "_law_some"] ["_law_pot_here", "_law_some"] (defScope (top 14)) := ⟨rfl, rfl, rfl, by decide +kernel, rfl, by decide +kernel, by decide +kernel⟩
theorem pot_ne {H : Hp} {p s : Addr} {xs : List V} (h : PotAt H p) (hs : H s = some (.lst xs)) (hx : ∀ a b, xs ≠ [.int a, .int b]) : s ≠ p := fun z => by
  obtain ⟨a, b, e, _⟩ := h
  rw [z, e] at hs
  exact hx a b (by simpa using hs.symm)
theorem ok14 (T : Tx mg f) (F : Fun K "_law_pick" "_law_pick" (top 14) a fd) (G : FnOk P w K mg base CX0 1 (f "_law_draw") g1 ["_law_pot_here", "_law_sides"] spDraw) (B : Binds K g1 ["_law_pot_here", "_law_sides"] []) (kp : PySem.W.keepIn K (.ref (f "_law_draw")) = true) :
    FnOk P w K mg base CX0 2 a fd ["_law_pot_here", "_law_some"] spPick := by
  refine F.ok sc14 (fun vs H Q E h => ?_) (fun cdv A outer s H vs Q E hr h => ?_)
  · obtain ⟨p, n, xs, rfl, _⟩ := h
    rfl
  obtain ⟨p, t, xs, rfl, ns, hp, hs, hx, hl, q⟩ := h
  refine ⟨_, pss_one (ps_ret (pe_ix ix_list (pv 1) (pe_call G hr rfl (T.fn "_law_draw" (by simp)) kp B .nil pass0 (pa_cons (pv 0) (pa_cons (pe_callB (cr_len (K := K) rfl) rfl (T.bl "len" (by simp)) PySem.boot_len (pa_cons (pv 1) pa_nil)) pa_nil))) (fun _ _ => rfl))), ?_⟩
  have pos : 0 < xs.length := List.length_pos_iff.mpr hx
  refine ⟨_, rfl, _, rfl, _, rfl, t, xs, rfl, .inl (.inl (.inl hs)), p, _, rfl, by omega, by omega, hp, fun r H' r0 r1 hp' k => ?_⟩
  have hs' := k.lst ns hs
  have hi : r.toNat < xs.length := by omega
  have er : ((r.toNat : Nat) : Int) = r := by omega
  refine ⟨t, xs, r, xs[r.toNat], rfl, rfl, .inl (.inl hs'), ?_, q _ _ (List.getElem_mem hi) hp' k⟩
  have := atI_nat (List.getElem?_eq_getElem hi)
  rw [er] at this
  exact this
end
end Tb

namespace Tb
open PySem PySem.Spec PyProof.Rows L2
variable {K : PySem.W.Frag}
/-! ### lots: whole numbers below sixteen, bitwise or -/
abbrev bo (x y : Int) : Int := Builtin.bitOr x y
def R16 (x : Int) : Prop := 0 ≤ x ∧ x < 16
theorem bo_fin1 : ∀ a b : Fin 16, (0 ≤ bo ((a : Nat) : Int) ((b : Nat) : Int) ∧ bo ((a : Nat) : Int) ((b : Nat) : Int) < 16) ∧ bo ((a : Nat) : Int) ((b : Nat) : Int) = bo ((b : Nat) : Int) ((a : Nat) : Int) ∧ bo ((a : Nat) : Int) ((a : Nat) : Int) = ((a : Nat) : Int) := by decide +kernel
theorem bo_fin2 : ∀ a b c : Fin 16, bo (bo ((a : Nat) : Int) ((b : Nat) : Int)) ((c : Nat) : Int) = bo ((a : Nat) : Int) (bo ((b : Nat) : Int) ((c : Nat) : Int)) := by decide +kernel
theorem r16 {x : Int} (h : R16 x) : ∃ a : Fin 16, x = ((a : Nat) : Int) := ⟨⟨x.toNat, by have := h.1; have := h.2; omega⟩, by have := h.1; show x = ((x.toNat : Nat) : Int); omega⟩
theorem bo_r {x y : Int} (hx : R16 x) (hy : R16 y) : R16 (bo x y) := by
  obtain ⟨a, rfl⟩ := r16 hx
  obtain ⟨b, rfl⟩ := r16 hy
  exact (bo_fin1 a b).1
theorem bo_comm {x y : Int} (hx : R16 x) (hy : R16 y) : bo x y = bo y x := by
  obtain ⟨a, rfl⟩ := r16 hx
  obtain ⟨b, rfl⟩ := r16 hy
  exact (bo_fin1 a b).2.1
theorem bo_idem {x : Int} (hx : R16 x) : bo x x = x := by
  obtain ⟨a, rfl⟩ := r16 hx
  exact (bo_fin1 a a).2.2
theorem bo_assoc {x y z : Int} (hx : R16 x) (hy : R16 y) (hz : R16 z) : bo (bo x y) z = bo x (bo y z) := by
  obtain ⟨a, rfl⟩ := r16 hx
  obtain ⟨b, rfl⟩ := r16 hy
  obtain ⟨c, rfl⟩ := r16 hz
  exact bo_fin2 a b c
inductive Gen (S : List Int) : Int → Prop
  | base {x : Int} : x ∈ S → Gen S x
  | step {l x : Int} : l ∈ S → Gen S x → Gen S (bo l x)
theorem Gen.r16 {S : List Int} (hS : ∀ x ∈ S, R16 x) {x : Int} (g : Gen S x) : R16 x := by
  induction g with
  | base h => exact hS _ h
  | step h _ ih => exact bo_r (hS _ h) ih
theorem gen_closed {S F : List Int} (hS : ∀ x ∈ S, R16 x) (hF : ∀ x ∈ F, R16 x) (hc : ∀ l ∈ S, ∀ x ∈ F, bo l x ∈ F) {y : Int} (g : Gen S y) : ∀ x ∈ F, bo y x ∈ F := by
  induction g with
  | base h => exact hc _ h
  | step h g ih =>
    intro x hx
    rw [bo_assoc (hS _ h) (g.r16 hS) (hF x hx)]
    exact hc _ h _ (ih x hx)
theorem len16 : ∀ (ns : List Int) (lo : Int), ns.Pairwise (· < ·) → (∀ x ∈ ns, lo ≤ x ∧ x < 16) → lo ≤ 16 → (ns.length : Int) ≤ 16 - lo
  | [], lo, _, _, h => by simp; omega
  | n :: r, lo, hp, hr, h => by
    obtain ⟨h1, h2⟩ := List.pairwise_cons.mp hp
    have hn := hr n List.mem_cons_self
    have := len16 r (n + 1) h2 (fun x hx => ⟨by have := h1 x hx; omega, (hr x (List.mem_cons_of_mem _ hx)).2⟩) (by omega)
    rw [List.length_cons]
    omega
theorem len_16 {ns : List Int} (hp : ns.Pairwise (· < ·)) (hr : ∀ x ∈ ns, R16 x) : ns.length ≤ 16 := by
  have := len16 ns 0 hp hr (by decide)
  omega
structure SetOk (ns : List Int) : Prop where
  inc : ns.Pairwise (· < ·)
  rng : ∀ x ∈ ns, R16 x
  cl : ∀ x ∈ ns, ∀ y ∈ ns, bo x y ∈ ns
def Fr (H : Hp) (p : Addr) : Prop := ∀ xs, H p ≠ some (.lst xs)
theorem Fr.of {A B : Hp} {p : Addr} (k : Kp A B) (h : B p = none) : Fr A p := fun xs z => by rw [k.lst z] at h; cases h
section
variable {P : Program} {w : World} {mg : Str → Option Value} {base : Heap} {f : String → Addr} {a c Pt P8 : Addr} {fd g1 g2 g3 g4 : FuncData}
theorem bi_sorted : bootBuiltins "sorted" = some (.builtin "sorted") := by decide +kernel
theorem bi_set : bootBuiltins "set" = some (.type "set") := by decide +kernel
def spClosed : Sp := fun vs H Q _ => ∃ (l : Addr) (zs : List Int), vs = [.ref l] ∧ H l = some (.lst (zs.map V.int)) ∧ (∀ z ∈ zs, R16 z) ∧ zs.length ≤ 20 ∧ ∀ ns p H', SetOk ns → (∀ z ∈ zs, z ∈ ns) → Fr H p → H' p = some (.lst (ns.map V.int)) → Kp H H' → Q (.ref p) H'
abbrev N15 : List Str := ["_law_lots_here", "_law_found", "_law_lot", "_law_more", "_law_other"]
theorem sc15 : FnScope N15 ["_law_lots_here"] (defScope (top 15)) := ⟨rfl, rfl, rfl, by decide +kernel, rfl, by decide +kernel, by decide +kernel⟩
theorem sb20 {n : Nat} (h : n ≤ 40) : n + 1 < scanBound := Nat.lt_of_lt_of_le (by omega : n + 1 < 64) (by decide)
theorem ok15 (T : Tx mg f) (F : Fun K "_law_closed" "_law_closed" (top 15) a fd) : FnOk P w K mg base CX0 1 a fd ["_law_lots_here"] spClosed := by
  refine F.ok sc15 (fun vs H Q E h => ?_) (fun cdv A outer s H vs Q E hr h => ?_)
  · obtain ⟨l, zs, rfl, _⟩ := h
    rfl
  obtain ⟨l, zs, rfl, hl, hz, hzl, q⟩ := h
  refine ⟨_, pss_cons (ps_set (i := 1) sc15.nd rfl (by first | exact Or.inl rfl | exact Or.inr rfl) (pe_callB (cr_sortedSet rfl) rfl (T.bl "sorted" (by simp)) bi_sorted (pa_cons (pe_callTy (cr_setL rfl) rfl (T.bl "set" (by simp)) bi_set (pa_cons (pv 0) pa_nil)) pa_nil)))
    (pss_cons (ps_for PassesOwn.never rfl (pi_list (pe_callTy call_list_of rfl (T.bl "list" (by simp)) bi_list (pa_cons (pv 1) pa_nil))) (pg_name (i := 2) sc15.nd rfl (Or.inr rfl))
      (pss_cons (ps_setLc (i := 3) (own := [("_law_other", 4)]) (g := gName 4) (tt := tYes) rfl sc15.nd rfl rfl (sw_true rfl rfl rfl (by decide +kernel)) (pi_list (pv 1)) (blkOk_by (by change blkC N15 (defScope (top 15)) _ _ = true; decide +kernel)) (fun _ _ _ _ _ => pg_name (i := 4) sc15.nd rfl (Or.inl rfl)) (fun _ _ _ _ _ => pts_nil) (fun _ _ _ _ _ => pe_op op_or (pv 2) (pv 4)))
        (pss_one (ps_set (i := 1) sc15.nd rfl (by first | exact Or.inl rfl | exact Or.inr rfl) (pe_callB (cr_sortedSet rfl) rfl (T.bl "sorted" (by simp)) bi_sorted (pa_cons (pe_callTy (cr_setL rfl) rfl (T.bl "set" (by simp)) bi_set (pa_cons (pe_op op_cat (pv 1) (pv 3)) pa_nil)) pa_nil))))))
      (pss_one (ps_ret (pv 1)))), ?_⟩
  refine ⟨_, rfl, l, zs, rfl, .inl (.inl hl), sb20 (by omega), fun s1 c1 hs1 hc1 => ⟨s1, _, c1, rfl, upd_same, by omega, fun ns0 p0 inc0 mem0 _ hp0 => ?_⟩⟩
  have mem0' : ∀ k, k ∈ ns0 ↔ k ∈ zs := fun k => (mem0 k).trans decide_eq_true_iff
  have k0 : Kp H (upd (upd H s1 (SetO w s1 (fun j => decide (j ∈ zs)) c1)) p0 (.lst (ns0.map V.int))) := (Kp.new hs1).trans (Kp.new hp0)
  refine ⟨_, rfl, p0, _, rfl, .inl (.inl (.inl upd_same)), fun l1 hl1 => ⟨l1, rfl, ⟨_, .inl (.inl upd_same)⟩, ?_⟩⟩
  have f0 : Fr H p0 := Fr.of (Kp.new hs1) hp0
  have e0 : upd (upd (upd H s1 (SetO w s1 (fun j => decide (j ∈ zs)) c1)) p0 (.lst (ns0.map V.int))) l1 (.lst (ns0.map V.int)) p0 = some (.lst (ns0.map V.int)) := (Kp.new hl1).lst upd_same
  have e1 : upd (upd (upd H s1 (SetO w s1 (fun j => decide (j ∈ zs)) c1)) p0 (.lst (ns0.map V.int))) l1 (.lst (ns0.map V.int)) l1 = some (.lst (ns0.map V.int)) := upd_same
  have k1 := k0.trans (Kp.new (o := .lst (ns0.map V.int)) hl1)
  have r0 : ∀ x ∈ ns0, R16 x := fun x hx => hz x ((mem0' x).mp hx)
  refine for_list (xs := ns0.map V.int) (fun i σ H' => ∃ (fnd : Addr) (ns : List Int) (o2 o3 : Option V), σ = [some (.ref l), some (.ref fnd), o2, o3, none] ∧ (Kp H H' ∧ H' l1 = some (.lst (ns0.map V.int))) ∧ H' fnd = some (.lst (ns.map V.int)) ∧ Fr H fnd ∧ ns.Pairwise (· < ·) ∧ (∀ x ∈ ns0, x ∈ ns) ∧ (∀ x ∈ ns, Gen ns0 x) ∧
      ∀ j y, j < i → ns0[j]? = some y → ∀ x ∈ ns, bo y x ∈ ns)
    ⟨p0, ns0, none, none, rfl, ⟨k1, e1⟩, e0, f0, inc0, fun x hx => hx, fun x hx => .base hx, fun j y h => absurd h (Nat.not_lt_zero _)⟩ (fun i σ H' _ ⟨_, _, _, _, _, k, _⟩ => .inl (.inl k.2)) ?_ ?_
  · rintro i x σ H2 hx ⟨fnd, ns, o2, o3, rfl, ⟨k2, hl2⟩, hfnd, frf, inc, sub, gen, cls⟩
    rw [List.getElem?_map] at hx
    obtain ⟨y, hy, rfl⟩ := Option.map_eq_some_iff.mp hx
    have ym : y ∈ ns0 := List.mem_of_getElem? hy
    have rns : ∀ x ∈ ns, R16 x := fun x hx => (gen x hx).r16 r0
    have l16 := len_16 inc rns
    refine ⟨_, rfl, fnd, rfl, ⟨_, .inl (.inl hfnd)⟩, fun D hD => ?_⟩
    refine lc_list (xs := ns.map V.int) (fun i H' => Kp H2 H' ∧ H' D = some (.lst ((ns.take i).map fun x => .int (bo y x)))) ⟨Kp.new hD, upd_same⟩ (fun i H' _ v => .inl (.inl (v.1.lst hfnd))) ?_ ?_
    · rintro j z H3 hz ⟨k3, hD3⟩
      rw [List.getElem?_map] at hz
      obtain ⟨z, hz', rfl⟩ := Option.map_eq_some_iff.mp hz
      refine ⟨rfl, ?_⟩
      refine ⟨_, rfl, _, rfl, _, _, rfl, rfl, _, hD3, by rw [sizeLine_eq, List.length_map, List.length_take]; omega, k3.over hD, ?_⟩
      rw [List.take_add_one, hz', List.map_append]
      exact upd_same
    · rintro H3 ⟨k3, hD3⟩
      rw [List.length_map, List.take_length] at hD3
      have e3 : ns.map (fun x => V.int (bo y x)) = (ns.map (bo y)).map V.int := by rw [List.map_map]; rfl
      rw [e3] at hD3
      refine ⟨_, rfl, _, rfl, fnd, D, _, _, rfl, rfl, k3.lst hfnd, hD3, by rw [sizeLine_eq, List.length_map, List.length_map, List.length_map]; omega, fun q1 hq1 => ?_⟩
      rw [← List.map_append]
      refine ⟨q1, _, rfl, .inl (.inl upd_same), sb20 (by rw [List.length_append, List.length_map]; omega), fun s2 c2 hs2 hc2 => ⟨s2, _, c2, rfl, upd_same, by rw [List.length_append, List.length_map] at hc2; omega, fun ns' p' inc' mem' _ hp' => ?_⟩⟩
      have kk := ((k3.trans (Kp.new (o := .lst ((ns ++ ns.map (bo y)).map V.int)) hq1)).trans (Kp.new (o := SetO w s2 (fun j => decide (j ∈ ns ++ ns.map (bo y))) c2) hs2))
      have m' : ∀ k, k ∈ ns' ↔ (k ∈ ns ∨ ∃ x ∈ ns, bo y x = k) := fun k => by
        rw [mem' k, decide_eq_true_iff, List.mem_append, List.mem_map]
      refine ⟨p', ns', _, _, rfl, ⟨(k2.trans kk).trans (Kp.new hp'), (kk.trans (Kp.new hp')).lst hl2⟩, upd_same, Fr.of (k2.trans kk) hp', inc', fun x hx => (m' x).mpr (.inl (sub x hx)), fun x hx => ?_, fun j v hj hv u xm => ?_⟩
      · rcases (m' x).mp hx with h | ⟨u, hu, rfl⟩
        · exact gen x h
        · exact .step ym (gen u hu)
      · rw [m']
        have rv := r0 v (List.mem_of_getElem? hv)
        have ry := r0 y ym
        by_cases ji : j = i
        · rw [ji, hy] at hv
          have ev : y = v := Option.some.inj hv
          subst ev
          rcases (m' u).mp xm with h | ⟨t, ht, rfl⟩
          · exact .inr ⟨u, h, rfl⟩
          · exact .inr ⟨t, ht, by rw [← bo_assoc ry ry (rns t ht), bo_idem ry]⟩
        · have hj' : j < i := by omega
          rcases (m' u).mp xm with h | ⟨t, ht, rfl⟩
          · exact .inl (cls j v hj' hv u h)
          · exact .inr ⟨bo v t, cls j v hj' hv t ht, by rw [← bo_assoc ry rv (rns t ht), bo_comm ry rv, bo_assoc rv ry (rns t ht)]⟩
  · rintro σ H2 ⟨fnd, ns, o2, o3, rfl, ⟨k2, hl2⟩, hfnd, frf, inc, sub, gen, cls⟩
    rw [List.length_map] at cls
    have rns : ∀ x ∈ ns, R16 x := fun x hx => (gen x hx).r16 r0
    have cl0 : ∀ l ∈ ns0, ∀ x ∈ ns, bo l x ∈ ns := fun v hv x hx => by
      obtain ⟨j, hj⟩ := List.mem_iff_getElem?.mp hv
      exact cls j v (List.getElem?_eq_some_iff.mp hj).1 hj x hx
    refine ⟨_, rfl, q ns fnd _ ⟨inc, rns, fun x hx => gen_closed r0 rns cl0 (gen x hx)⟩ (fun z hz => sub z ((mem0' z).mpr hz)) frf hfnd k2⟩
end
end Tb

namespace Tb
open PySem PySem.Spec PyProof.Rows L2
variable {K : PySem.W.Frag}
section
variable {P : Program} {w : World} {mg : Str → Option Value} {base : Heap} {f : String → Addr} {a c Pt P8 : Addr} {fd g1 g2 g3 g4 : FuncData}
theorem erasePerm : ∀ (ns : List Int) (j : Nat) (h : j < ns.length), (ns[j] :: ns.eraseIdx j).Perm ns
  | [], _, h => absurd h (Nat.not_lt_zero _)
  | _ :: _, 0, _ => List.Perm.refl _
  | n :: r, j + 1, h => (List.Perm.swap n (r[j]'(by simpa using h)) (r.eraseIdx j)).trans ((erasePerm r j (by simpa using h)).cons n)
theorem mapErase (g : Int → V) : ∀ (ns : List Int) (j : Nat), (ns.map g).eraseIdx j = (ns.eraseIdx j).map g
  | [], _ => rfl
  | _ :: _, 0 => rfl
  | n :: r, j + 1 => by
    show g n :: (r.map g).eraseIdx j = g n :: (r.eraseIdx j).map g
    rw [mapErase g r j]
theorem cut1 (x : V) (xs : List V) : cutV (x :: xs) (some 1) none = xs := by
  have h : ∀ n d, HT.sIx n d (some 1) = min 1 n := fun n d => HT.sIx_nat n d 1
  unfold cutV
  rw [h, HT.sIx_none]
  have : min 1 (x :: xs).length = 1 := by simp
  rw [this]
  simp
theorem Fr.ofD {A B : Hp} {p t : Addr} (k : Kd p A B) (n : t ≠ p) (h : B t = none) : Fr A t := fun xs z => by rw [Kd.lst k n z] at h; cases h
theorem kp_del_in {H : Hp} {p : Addr} : Kp (del H p) H := Kp.of del_sub
def spLots : Sp := fun vs H Q _ => ∃ (p : Addr), vs = [.ref p] ∧ PotAt H p ∧ ∀ (ts : List Int) t H', 1 ≤ ts.length → ts.length ≤ 8 → (∀ x ∈ ts, R16 x) → (∀ x ∈ ts, ∀ y ∈ ts, bo x y ∈ ts) → t ≠ p → Fr H t → H' t = some (.lst (ts.map V.int)) → PotAt H' p → Kd p H H' → Q (.ref t) H'
abbrev N16 : List Str := ["_law_pot_here", "_law_found", "_law_turn", "_law_longer", "_law_left", "_law_told"]
theorem sc16 : FnScope N16 ["_law_pot_here"] (defScope (top 16)) := ⟨rfl, rfl, rfl, by decide +kernel, rfl, by decide +kernel, by decide +kernel⟩
theorem ne_of_fr {H : Hp} {t p : Addr} {xs : List V} (h : Fr H t) (hp : H p = some (.lst xs)) : t ≠ p := fun z => h xs (by rw [z]; exact hp)
theorem dpInts {H : Hp} : ∀ ns : List Int, DpAll K H (ns.map V.int) (ns.map PyData.int)
  | [] => .nil
  | n :: r => .cons (.int n) (dpInts r)
theorem e0Ints (ns : List Int) : ∀ e ∈ ns.map PyData.int, E0k e := fun e he => by
  obtain ⟨x, _, rfl⟩ := List.mem_map.mp he
  exact ⟨rfl, Nat.zero_le _⟩
theorem ok16 (T : Tx mg f) (F : Fun K "_law_lots" "_law_lots" (top 16) a fd) (G13 : FnOk P w K mg base CX0 1 (f "_law_draw") g1 ["_law_pot_here", "_law_sides"] spDraw) (B13 : Binds K g1 ["_law_pot_here", "_law_sides"] []) (kp13 : PySem.W.keepIn K (.ref (f "_law_draw")) = true)
    (G15 : FnOk P w K mg base CX0 1 (f "_law_closed") g2 ["_law_lots_here"] spClosed) (B15 : Binds K g2 ["_law_lots_here"] []) (kp15 : PySem.W.keepIn K (.ref (f "_law_closed")) = true) : FnOk P w K mg base CX0 2 a fd ["_law_pot_here"] spLots := by
  refine F.ok sc16 (fun vs H Q E h => ?_) (fun cdv A outer s H vs Q E hr h => ?_)
  · obtain ⟨l, rfl, _⟩ := h
    rfl
  obtain ⟨p, rfl, hp, q⟩ := h
  refine ⟨_, pss_cons (ps_set (i := 1) sc16.nd rfl (Or.inl rfl) (pe_lst (pa_cons pe_int pa_nil)))
    (pss_cons (ps_for PassesOwn.never rfl (pi_range1 rfl (T.bl "range" (by simp)) (pa_cons (pe_call G13 hr rfl (T.fn "_law_draw" (by simp)) kp13 B13 .nil pass0 (pa_cons (pv 0) (pa_cons pe_int pa_nil))) pa_nil)) (pg_name (i := 2) sc16.nd rfl (Or.inl rfl))
      (pss_cons (ps_set (i := 3) sc16.nd rfl (Or.inl rfl) (pe_call G15 hr rfl (T.fn "_law_closed" (by simp)) kp15 B15 .nil pass0 (pa_cons (pe_op op_cat (pv 1) (pe_lst (pa_cons (pe_op op_add pe_int (pe_call G13 hr rfl (T.fn "_law_draw" (by simp)) kp13 B13 .nil pass0 (pa_cons (pv 0) (pa_cons pe_int pa_nil)))) pa_nil))) pa_nil)))
        (pss_one (ps_if (pt_cmpR op_le (pe_callB (cr_len (K := K) rfl) rfl (T.bl "len" (by simp)) PySem.boot_len (pa_cons (pv 3) pa_nil)) pe_int (nomark _)) (pss_one (ps_set (i := 1) sc16.nd rfl (Or.inl rfl) (pv 3))) pss_nil))))
    (pss_cons (ps_par (i := 4) (j := 5) rfl sc16.nd rfl rfl (by decide) rfl rfl (pa_cons (pe_slice sl_list (pv 1) (po_some pe_int) po_none) (pa_cons (pe_lst (pa_cons pe_int pa_nil)) pa_nil)) (by rfl))
    (pss_cons (ps_while PassesOwn.never (pt_cmpR (op_neD hr.units) (pv 4) (pe_lst pa_nil) (nomark _)) (pss_one (ps_expr (pe_bm PySem.F.plainAttrs_list PySem.F.slot_list_append PySem.F.type_list_append mt_append (pv 5) (pa_cons
        (pe_bm PySem.F.plainAttrs_list PySem.F.slot_list_pop PySem.F.type_list_pop mt_popAt (pv 4) (pa_cons (pe_call G13 hr rfl (T.fn "_law_draw" (by simp)) kp13 B13 .nil pass0 (pa_cons (pv 0) (pa_cons (pe_callB (cr_len (K := K) rfl) rfl (T.bl "len" (by simp)) PySem.boot_len (pa_cons (pv 4) pa_nil)) pa_nil))) pa_nil)) pa_nil)))))
      (pss_one (ps_ret (pv 5)))))), ?_⟩
  refine ⟨by show 1 ≤ sizeLine; decide, fun f0 hf0 => ?_⟩
  have kd0 : Kd p H (upd H f0 (.lst [.int 0])) := Kd.new hf0 hp.nn
  have np0 : f0 ≠ p := fun z => hp.nn (by rw [← z]; exact hf0)
  refine ⟨_, rfl, p, 6, rfl, by decide, by decide, hp.new hf0, fun r H1 r0 r1 hp1 k1 => ⟨r, rfl, by omega, by omega, ?_⟩⟩
  refine for_range (n := r.toNat) (fun i σ H' => ∃ (fnd : Addr) (ns : List Int) (o2 o3 : Option V), σ = [some (.ref p), some (.ref fnd), o2, o3, none, none] ∧ Kd p H H' ∧ PotAt H' p ∧ fnd ≠ p ∧ H' fnd = some (.lst (ns.map V.int)) ∧ SetOk ns ∧ 0 ∈ ns ∧ ns.length ≤ 8)
    ⟨f0, [0], none, none, rfl, kd0.trans k1, hp1, np0, Kd.lst k1 np0 upd_same, ⟨by simp, fun x hx => by simp at hx; subst hx; exact ⟨by decide, by decide⟩, fun x hx y hy => by simp at hx hy; subst hx hy; decide⟩, by simp, by simp⟩ ?_ ?_
  · rintro i σ H2 hi ⟨fnd, ns, o2, o3, rfl, k2, hp2, nf, hf, so, z0, l8⟩
    refine ⟨_, rfl, _, rfl, p, 15, rfl, by decide, by decide, hp2, fun d H3 d0 d1 hp3 k3 => ?_⟩
    refine ⟨_, _, rfl, rfl, by show 1 ≤ sizeLine; decide, fun s1 hs1 => ?_⟩
    have hf3 : H3 fnd = some (.lst (ns.map V.int)) := Kd.lst k3 nf hf
    have k4 : Kp H3 (upd H3 s1 (.lst [.int (1 + d)])) := Kp.new hs1
    refine ⟨fnd, s1, _, _, rfl, rfl, k4.lst hf3, upd_same, by rw [sizeLine_eq, List.length_map]; simp; omega, fun s2 hs2 => ?_⟩
    have k5 := k4.trans (Kp.new (o := .lst (ns.map V.int ++ [.int (1 + d)])) hs2)
    refine ⟨s2, ns ++ [1 + d], rfl, by rw [upd_same]; simp, fun z hz => ?_, by rw [List.length_append]; simp; omega, fun ns' p' H4 so' sub' fr' hp' k6 => ?_⟩
    · rcases List.mem_append.mp hz with h | h
      · exact so.rng z h
      · have : z = 1 + d := by simpa using h
        rw [this]
        exact ⟨by omega, by omega⟩
    · have k7 := k5.trans k6
      have hp4 : PotAt H4 p := hp3.kp k7
      have kd4 : Kd p H H4 := k2.trans (k3.trans (k7.kd hp3.ntbl))
      have np' : p' ≠ p := by
        obtain ⟨x, y, e, _⟩ := hp3.kp k5
        exact ne_of_fr fr' e
      refine ⟨_, rfl, p', _, rfl, .inl (.inl (.inl hp')), _, _, rfl, rfl, _, rfl, ite2 (fun c => ?_) (fun c => ?_)⟩
      · have c8 : ((ns'.map V.int).length : Int) ≤ 8 := by simpa using c
        rw [List.length_map] at c8
        exact ⟨_, rfl, p', ns', _, _, rfl, kd4, hp4, np', hp', so', sub' 0 (List.mem_append_left _ z0), by omega⟩
      · exact ⟨fnd, ns, _, _, rfl, kd4, hp4, nf, k7.lst hf3, so, z0, l8⟩
  · rintro σ H2 ⟨fnd, ns, o2, o3, rfl, k2, hp2, nf, hf, so, z0, l8⟩
    have ex0 : ∃ tl, ns = 0 :: tl := by
      cases ns with
      | nil => cases z0
      | cons n0 tl =>
        rcases List.mem_cons.mp z0 with h | h
        · exact ⟨tl, by rw [h]⟩
        · have := (List.pairwise_cons.mp so.inc).1 0 h
          have := (so.rng n0 List.mem_cons_self).1
          omega
    obtain ⟨tl, rfl⟩ := ex0
    refine ⟨_, rfl, 1, rfl, fnd, _, rfl, .inl (.inl hf), fun lf hlf => ⟨by show 1 ≤ sizeLine; decide, fun td htd => ⟨_, _, rfl, ?_⟩⟩⟩
    have ecut : cutV (((0 : Int) :: tl).map V.int) (some 1) none = tl.map V.int := cut1 _ _
    rw [ecut] at htd ⊢
    have hlf' : upd H2 lf (.lst (tl.map V.int)) lf = some (.lst (tl.map V.int)) := upd_same
    have nlt : lf ≠ td := ne_of_none hlf' htd
    have nlp : lf ≠ p := fun z => hp2.nn (by rw [← z]; exact hlf)
    have ntp : td ≠ p := fun z => (hp2.new (o := .lst (tl.map V.int)) hlf).nn (by rw [← z]; exact htd)
    have kA : Kd p H (upd H2 lf (.lst (tl.map V.int))) := k2.trans (Kd.new hlf hp2.nn)
    have frt : Fr H td := Fr.ofD kA ntp htd
    refine ⟨fun m σ H' => ∃ (ls ts : List Int) (v1 v2 v3 : Option V), m = ls.length ∧ σ = [some (.ref p), v1, v2, v3, some (.ref lf), some (.ref td)] ∧ H' lf = some (.lst (ls.map V.int)) ∧ H' td = some (.lst (ts.map V.int)) ∧ (ts ++ ls).Perm (0 :: tl) ∧ PotAt H' p ∧ Kd p H2 H',
      ⟨_, tl, [0], _, _, _, rfl, rfl, by rw [upd_ne nlt]; exact upd_same, upd_same, List.Perm.refl _, (hp2.new hlf).new htd, (Kd.new hlf hp2.nn).trans (Kd.new htd (hp2.new hlf).nn)⟩, ?_⟩
    rintro m σ H3 ⟨ls, ts, v1, v2, v3, rfl, rfl, hl3, ht3, pm, hp3, k3⟩
    have lls : ls.length ≤ 8 := by
      have := pm.length_eq
      rw [List.length_append] at this
      omega
    refine ⟨_, rfl, Nat.zero_le _, fun e1 he1 => ?_⟩
    have kE : Kp H3 (upd H3 e1 (.lst [])) := Kp.new he1
    refine ⟨.list (ls.map .int), .list [], .lst (.inl (.inl (kE.lst hl3))) (dpInts ls), .lst (.inl (.inl upd_same)) .nil, shaped_list (e0Ints ls), shaped_list (fun e he => by cases he), _, rfl, ?_⟩
    rw [eqv_nil]
    have hpE := hp3.kp kE
    have kdE := k3.trans (kE.kd hp3.ntbl)
    refine ite2 (fun c => ⟨_, fun σ' H' h => h, ?_⟩) (fun c => ?_)
    rotate_left
    · have : ls = [] := by
        cases ls with
        | nil => rfl
        | cons _ _ => exact absurd rfl c
      subst this
      rw [List.append_nil] at pm
      refine ⟨_, rfl, q ts td _ ?_ ?_ (fun x hx => so.rng x (pm.mem_iff.mp hx)) (fun x hx y hy => pm.mem_iff.mpr (so.cl x (pm.mem_iff.mp hx) y (pm.mem_iff.mp hy))) ntp frt (kE.lst ht3) hpE (k2.trans kdE)⟩
      · rw [pm.length_eq]; simp
      · rw [pm.length_eq]; exact l8
    · have pos : 0 < ls.length := by
        cases ls with
        | nil => cases c
        | cons _ _ => simp
      refine ⟨_, rfl, .inl ⟨rfl, _, .inl (.inl (kE.lst ht3))⟩, _, rfl, .inl ⟨rfl, _, .inl (.inl (kE.lst hl3))⟩, _, rfl, _, rfl, lf, _, rfl, .inl (.inl (.inl (kE.lst hl3))), p, _, rfl, by rw [List.length_map]; omega, by rw [List.length_map]; omega, hpE, fun d H4 d0 d1 hp4 k4 => ?_⟩
      rw [List.length_map] at d1
      have hl4 := Kd.lst k4 nlp (kE.lst hl3)
      have ht4 := Kd.lst k4 ntp (kE.lst ht3)
      have hd : d.toNat < ls.length := by omega
      refine ⟨lf, _, d, d.toNat, .int ls[d.toNat], rfl, rfl, hl4, by omega, by omega, seqIndex_of d0 (by rw [List.length_map]; exact d1), by rw [List.getElem?_map, List.getElem?_eq_getElem hd]; rfl, ?_⟩
      rw [mapErase]
      have ht5 : upd H4 lf (.lst ((ls.eraseIdx d.toNat).map V.int)) td = some (.lst (ts.map V.int)) := by rw [upd_ne (Ne.symm nlt)]; exact ht4
      have lts : ts.length ≤ 8 := by
        have := pm.length_eq
        rw [List.length_append] at this
        simp at this l8
        omega
      refine ⟨td, _, _, rfl, rfl, ht5, by rw [sizeLine_eq, List.length_map]; omega, (ls.eraseIdx d.toNat).length, by rw [List.length_eraseIdx_of_lt hd]; omega, ls.eraseIdx d.toNat, ts ++ [ls[d.toNat]], v1, v2, v3, rfl, rfl, by rw [upd_ne nlt]; exact upd_same, by rw [List.map_append]; exact upd_same, ?_, ?_, ?_⟩
      · refine List.Perm.trans ?_ pm
        rw [List.append_assoc]
        exact List.Perm.append_left ts (erasePerm ls d.toNat hd)
      · obtain ⟨x, y, e, r⟩ := hp4
        exact ⟨x, y, by rw [upd_ne (Ne.symm ntp), upd_ne (Ne.symm nlp)]; exact e, r⟩
      · show Kp (del H2 p) (del (upd (upd H4 lf _) td _) p)
        rw [upd_del ntp, upd_del nlp]
        exact ((kdE.trans k4).over (del_none hlf)).over (del_none (none_of htd))
end
end Tb

namespace Tb
open PySem PySem.Spec PyProof.Rows L2
variable {K : PySem.W.Frag}
section
variable {P : Program} {w : World} {mg : Str → Option Value} {base : Heap} {f : String → Addr} {a c Pt P8 : Addr} {fd g1 g2 g3 g4 : FuncData}
/-! ### _law_rows -/
def rowD (r : List Int) : PyData := .list (r.map PyData.int)
def mat (rs : List (List Int)) : PyData := .list (rs.map rowD)
def spRows (K : PySem.W.Frag) : Sp := fun vs H Q _ => ∃ (l : Addr) (ts : List Int) (p : Addr) (xp : List V), vs = [.ref l] ∧ H p = some (.lst xp) ∧ H l = some (.lst (ts.map V.int)) ∧ 1 ≤ ts.length ∧ ts.length ≤ 8 ∧ (∀ x ∈ ts, ∀ y ∈ ts, bo x y ∈ ts) ∧
  ∀ (rs : List (List Int)) t H', rs.length = ts.length → (∀ r ∈ rs, r.length = ts.length ∧ ∀ e ∈ r, 0 ≤ e ∧ e < 8) → Rp K (del H' p) (.ref t) (mat rs) → Fr H t → Kp H H' → Q (.ref t) H'
abbrev N17 : List Str := ["_law_lots_here", "_law_other", "_law_one"]
theorem sc17 : FnScope N17 ["_law_lots_here"] (defScope (top 17)) := ⟨rfl, rfl, rfl, by decide +kernel, rfl, by decide +kernel, by decide +kernel⟩
theorem flat_ints (ts : List Int) : (ts.map V.int).all flatV = true := by
  rw [List.all_eq_true]
  intro x hx
  obtain ⟨i, _, rfl⟩ := List.mem_map.mp hx
  rfl
theorem first_at : ∀ (ts : List Int) (z : Int), z ∈ ts → ∃ j, ts[j]? = some z ∧ j < ts.length ∧ ∀ m z', m < j → ts[m]? = some z' → z' ≠ z
  | [], _, h => by cases h
  | t :: r, z, h => by
    by_cases e : t = z
    · exact ⟨0, by rw [e]; rfl, by simp, fun m _ hm => absurd hm (Nat.not_lt_zero _)⟩
    · have hr : z ∈ r := by
        rcases List.mem_cons.mp h with h | h
        · exact absurd h.symm e
        · exact h
      obtain ⟨j, h1, h2, h3⟩ := first_at r z hr
      refine ⟨j + 1, by simpa using h1, by simpa using h2, fun m z' hm hz => ?_⟩
      cases m with
      | zero =>
        have : t = z' := by simpa using hz
        rw [← this]; exact e
      | succ m => exact h3 m z' (by omega) (by simpa using hz)
theorem ok17 (T : Tx mg f) (F : Fun K "_law_rows" "_law_rows" (top 17) a fd) : FnOk P w K mg base CX0 1 a fd ["_law_lots_here"] (spRows K) := by
  refine F.ok sc17 (fun vs H Q E h => ?_) (fun cdv A outer s H vs Q E hr h => ?_)
  · obtain ⟨l, ts, _, _, rfl, _⟩ := h
    rfl
  obtain ⟨l, ts, p, xp, rfl, hp, hl, n1, n8, hc, q⟩ := h
  refine ⟨_, pss_one (ps_ret (pe_lc (own := [("_law_one", 2)]) (g := gName 2) (tt := tYes) (te := tLc (iList K (tVar 0)) (gName 1) tYes (tBM K "list" (rIndex K) (tVar 0) (tCons (tOp (rI0 fun i j => .int (Builtin.bitOr i j)) (tVar 2) (tVar 1)) tNil)) [1]) rfl sc17.nd (pi_list (pv 0)) (blkOk_by (by change blkC N17 (defScope (top 17)) _ _ = true; decide +kernel)) (fun _ _ _ _ _ => pg_name (i := 2) sc17.nd rfl (by first | exact Or.inl rfl | exact Or.inr rfl)) (fun _ _ _ _ _ => pts_nil)
    (fun _ _ _ _ _ => ?_))), ?_⟩
  · exact pe_lc (own := [("_law_other", 1)]) (g := gName 1) (tt := tYes) rfl sc17.nd (pi_list (pv 0)) (blkOk_by (by change blkC N17 (relS _ (defScope (top 17))) _ _ = true; decide +kernel)) (fun _ _ _ _ _ => pg_name (i := 1) sc17.nd rfl (by first | exact Or.inl rfl | exact Or.inr rfl)) (fun _ _ _ _ _ => pts_nil)
      (fun _ _ _ _ _ => pe_bm PySem.F.plainAttrs_list PySem.F.slot_list_index PySem.F.type_list_index mt_index (pv 0) (pa_cons (pe_op op_or (pv 2) (pv 1)) pa_nil))
  refine ⟨_, rfl, l, rfl, ⟨_, .inl (.inl hl)⟩, fun D hD => ?_⟩
  have nDp : D ≠ p := fun z => by rw [z, hp] at hD; cases hD
  refine lc_list (xs := ts.map V.int) (fun i H' => Kp H H' ∧ ∃ (acc : List V) (rs : List (List Int)), H' D = some (.lst acc) ∧ RpL K (del (del H' D) p) acc (rs.map rowD) ∧ rs.length = i ∧ acc.length = i ∧ ∀ r ∈ rs, r.length = ts.length ∧ ∀ e ∈ r, 0 ≤ e ∧ e < 8)
    ⟨Kp.new hD, [], [], upd_same, .nil, rfl, rfl, fun r hr => by cases hr⟩ (fun i H' _ v => .inl (.inl (v.1.lst hl))) ?_ ?_
  · rintro i x H1 hx ⟨k1, acc, rs, hacc, rp, lrs, lacc, hrs⟩
    have hi := (List.getElem?_eq_some_iff.mp hx).1
    rw [List.length_map] at hi
    rw [List.getElem?_map] at hx
    obtain ⟨x, hx', rfl⟩ := Option.map_eq_some_iff.mp hx
    have xm := List.mem_of_getElem? hx'
    refine ⟨rfl, ?_⟩
    refine ⟨_, rfl, l, rfl, ⟨_, .inl (.inl (k1.lst hl))⟩, fun E hE => ?_⟩
    have nEp : E ≠ p := fun z => by rw [z, k1.lst hp] at hE; cases hE
    have nED : E ≠ D := fun z => by rw [z, hacc] at hE; cases hE
    refine lc_list (xs := ts.map V.int) (fun j H' => Kp H1 H' ∧ ∃ r : List Int, H' E = some (.lst (r.map V.int)) ∧ r.length = j ∧ ∀ e ∈ r, 0 ≤ e ∧ e < 8)
      ⟨Kp.new hE, [], upd_same, rfl, fun e he => by cases he⟩ (fun i H' _ v => .inl (.inl ((k1.trans v.1).lst hl))) ?_ ?_
    · rintro j y H2 hy ⟨k2, r, hE2, lr, hre⟩
      have hj := (List.getElem?_eq_some_iff.mp hy).1
      rw [List.length_map] at hj
      rw [List.getElem?_map] at hy
      obtain ⟨y, hy', rfl⟩ := Option.map_eq_some_iff.mp hy
      have ym := List.mem_of_getElem? hy'
      obtain ⟨m, m1, m2, m3⟩ := first_at ts (bo x y) (hc x xm y ym)
      have hl2 := (k1.trans k2).lst hl
      refine ⟨rfl, ?_⟩
      refine ⟨_, rfl, .inl ⟨rfl, _, .inl (.inl hl2)⟩, _, rfl, _, rfl, _, _, rfl, rfl, l, _, _, m, .int (bo x y), rfl, rfl, .inl (.inl hl2), rfl, flat_ints ts, by rw [List.getElem?_map, m1]; rfl, by show (bo x y == bo x y) = true; exact beq_self_eq_true _, fun m' z' hm' hz' => ?_, ?_⟩
      · rw [List.getElem?_map] at hz'
        obtain ⟨z', h1, rfl⟩ := Option.map_eq_some_iff.mp hz'
        show (z' == bo x y) = false
        exact beq_false_of_ne (m3 m' z' hm' h1)
      · refine ⟨_, hE2, by rw [sizeLine_eq, List.length_map]; omega, k2.over hE, r ++ [(m : Int)], by rw [List.map_append]; exact upd_same, by rw [List.length_append, lr]; rfl, fun e he => ?_⟩
        rcases List.mem_append.mp he with h | h
        · exact hre e h
        · have : e = (m : Int) := by simpa using h
          rw [this]
          omega
    · rintro H2 ⟨k2, r, hE2, lr, hre⟩
      rw [List.length_map] at lr
      have kd : Kp (del (del H1 D) p) (del (del H2 D) p) := Kp.del (k2.kd fun ps z => by rw [hacc] at z; cases z) p fun ps z => by rw [del_ne (Ne.symm nDp), k1.lst hp] at z; cases z
      have dE : del (del H2 D) p E = some (.lst (r.map V.int)) := by rw [del_ne nEp, del_ne nED]; exact hE2
      refine ⟨acc, k2.lst hacc, by rw [sizeLine_eq, lacc]; omega, (k1.trans k2).over hD, acc ++ [.ref E], rs ++ [r], upd_same, ?_, by rw [List.length_append, lrs]; rfl, by rw [List.length_append, lacc]; rfl, fun r' hr' => ?_⟩
      · rw [del_upd, List.map_append]
        exact (rp.kp kd).app (.cons (.lst dE (RpL.ints r)) .nil)
      · rcases List.mem_append.mp hr' with h | h
        · exact hrs r' h
        · have : r' = r := by simpa using h
          rw [this]
          exact ⟨lr, hre⟩
  · rintro H1 ⟨k1, acc, rs, hacc, rp, lrs, lacc, hrs⟩
    rw [List.length_map] at lrs
    exact q rs D _ lrs hrs (.lst (by rw [del_ne nDp]; exact hacc) (rp.kp (Kp.of fun b o e => by
      obtain ⟨e1, e2⟩ := del_some e
      rw [del_ne e1]
      exact (del_some e2).2))) (fun xs z => by rw [hD] at z; cases z) k1
end
end Tb

namespace Tb
open PySem PySem.Spec PyProof.Rows L2
variable {K : PySem.W.Frag}
/-! ### small data -/
theorem textFrom_up : ∀ (ts : List Str) (k : Nat) (acc : Str), (textFrom k acc ts).length ≤ acc.length + (ts.map fun t => t.length + 2).sum
  | [], _, acc => by simp [textFrom]
  | t :: r, k, acc => by
    have h := textFrom_up r (k + 1) (acc ++ (if k > 0 then ", " else "" : String) ++ t)
    have e : (acc ++ (if k > 0 then ", " else "" : String) ++ t).length ≤ acc.length + 2 + t.length := by
      rw [strLen_append, strLen_append]
      have : (Str.ofString (if k > 0 then ", " else "" : String)).length ≤ 2 := by split <;> decide
      omega
    show (textFrom (k + 1) (acc ++ (if k > 0 then ", " else "" : String) ++ t) r).length ≤ _
    rw [List.map_cons, List.sum_cons]
    omega
theorem sum_up (B : Nat) : ∀ ts : List Str, (∀ t ∈ ts, t.length ≤ B) → (ts.map fun t => t.length + 2).sum ≤ ts.length * (B + 2)
  | [], _ => by simp
  | t :: r, h => by
    have h1 := sum_up B r fun x hx => h x (List.mem_cons_of_mem _ hx)
    have h2 := h t List.mem_cons_self
    rw [List.map_cons, List.sum_cons, List.length_cons, Nat.add_mul, Nat.one_mul]
    omega
theorem listText_up (B : Nat) (ts : List Str) (h : ∀ t ∈ ts, t.length ≤ B) : (listText ts).length ≤ ts.length * (B + 2) + 4 := by
  have h1 := textFrom_up ts 0 "["
  have h2 := sum_up B ts h
  have e1 : (Str.ofString "[").length = 1 := by decide
  have e2 : (Str.ofString "]").length = 1 := by decide
  show (textFrom 0 "[" ts ++ "]").length ≤ _
  rw [strLen_append]
  omega
theorem tupleText_up (B : Nat) (ts : List Str) (h : ∀ t ∈ ts, t.length ≤ B) : (tupleText ts).length ≤ ts.length * (B + 2) + 4 := by
  have h2 := sum_up B ts h
  have e1 : (Str.ofString "(").length = 1 := by decide
  have e3 : (Str.ofString (if ts.length == 1 then ",)" else ")" : String)).length ≤ 2 := by split <;> decide
  have e4 : (Str.join ", " ts).length ≤ (ts.map fun t => t.length + 2).sum := by
    by_cases z : ts = []
    · subst z
      decide
    · have := join_length_add ts z
      unfold piled at this
      omega
  show (("(" : Str) ++ Str.join ", " ts ++ (if ts.length == 1 then ",)" else ")" : String)).length ≤ _
  rw [strLen_append, strLen_append]
  omega
theorem shownAll_map : ∀ ds : List PyData, PyData.shownAll ds = ds.map PyData.shown
  | [] => rfl
  | d :: r => by
    show PyData.shown d :: PyData.shownAll r = _
    rw [shownAll_map r]; rfl
theorem showAll_of : ∀ ds : List PyData, (∀ d ∈ ds, d.showable = true) → PyData.showableAll ds = true
  | [], _ => rfl
  | d :: r, h => by
    show (d.showable && PyData.showableAll r) = true
    rw [h d List.mem_cons_self, showAll_of r fun x hx => h x (List.mem_cons_of_mem _ hx)]; rfl
theorem depthAll_up (m : Nat) : ∀ ds : List PyData, (∀ d ∈ ds, d.depth ≤ m) → PyData.depthAll ds ≤ m
  | [], _ => Nat.zero_le _
  | d :: r, h => by
    show max d.depth (PyData.depthAll r) ≤ m
    have := h d List.mem_cons_self
    have := depthAll_up m r fun x hx => h x (List.mem_cons_of_mem _ hx)
    omega
theorem seq_up {B m : Nat} {ds : List PyData} (h : ∀ d ∈ ds, d.showable = true ∧ d.depth ≤ m ∧ d.shown.length ≤ B) :
    ((PyData.list ds).showable = true ∧ (PyData.list ds).depth ≤ m + 1 ∧ (PyData.list ds).shown.length ≤ ds.length * (B + 2) + 4) ∧ ((PyData.tuple ds).showable = true ∧ (PyData.tuple ds).depth ≤ m + 1 ∧ (PyData.tuple ds).shown.length ≤ ds.length * (B + 2) + 4) := by
  have h1 := showAll_of ds fun d hd => (h d hd).1
  have h2 := depthAll_up m ds fun d hd => (h d hd).2.1
  have h3 : ∀ t ∈ PyData.shownAll ds, t.length ≤ B := fun t ht => by
    rw [shownAll_map] at ht
    obtain ⟨d, hd, rfl⟩ := List.mem_map.mp ht
    exact (h d hd).2.2
  have h4 : (PyData.shownAll ds).length = ds.length := by rw [shownAll_map, List.length_map]
  refine ⟨⟨by simpa [PyData.showable] using h1, by show PyData.depthAll ds + 1 ≤ m + 1; omega, ?_⟩, ⟨by simpa [PyData.showable] using h1, by show PyData.depthAll ds + 1 ≤ m + 1; omega, ?_⟩⟩
  · rw [← h4]
    simpa [PyData.shown] using listText_up B _ h3
  · rw [← h4]
    simpa [PyData.shown] using tupleText_up B _ h3
mutual
/-- no list, no tuple in it of more than twelve -/
def nar : PyData → Bool
  | .list ds => decide (ds.length ≤ 12) && narL ds
  | .tuple ds => decide (ds.length ≤ 12) && narL ds
  | .none | .bool _ | .int _ | .str _ | .dict _ => true
def narL : List PyData → Bool
  | [] => true
  | d :: ds => nar d && narL ds
end
theorem narL_of : ∀ ds : List PyData, (∀ d ∈ ds, nar d = true) → narL ds = true
  | [], _ => rfl
  | d :: r, h => by
    show (nar d && narL r) = true
    rw [h d List.mem_cons_self, narL_of r fun x hx => h x (List.mem_cons_of_mem _ hx)]; rfl
theorem nar_seq {ds : List PyData} (n : ds.length ≤ 12) (h : ∀ d ∈ ds, nar d = true) : nar (.list ds) = true ∧ nar (.tuple ds) = true := by
  have e : (decide (ds.length ≤ 12) && narL ds) = true := by rw [decide_eq_true n, narL_of ds h]; rfl
  exact ⟨by simpa [nar] using e, by simpa [nar] using e⟩
theorem outO {G : Hp} {z a : Addr} {xs : List V} {o : HO} (hz : G z = some (.lst xs)) (h : G a = some o) (n : ∀ xs, o ≠ .lst xs) : del G z a = some o := by
  have e : a ≠ z := fun y => by
    rw [y, hz] at h
    exact n xs (Option.some.inj h).symm
  rw [del_ne e]; exact h
theorem outL {G : Hp} {z a : Addr} {xs ys : List V} (hz : G z = some (.lst xs)) (hx : 12 < xs.length) (h : G a = some (.lst ys)) (n : ys.length ≤ 12) : del G z a = some (.lst ys) := by
  have e : a ≠ z := fun y => by
    rw [y, hz] at h
    have : xs = ys := by simpa using h
    rw [this] at hx
    omega
  rw [del_ne e]; exact h
mutual
theorem Rp.out {G : Hp} {z : Addr} {xs : List V} (hz : G z = some (.lst xs)) (hx : 12 < xs.length) : ∀ (d : PyData) (v : V), Rp K G v d → nar d = true → Rp K (del G z) v d
  | .none, _, h, _ => by cases h; exact .non
  | .bool b, _, h, _ => by cases h; exact .bl b
  | .int i, _, h, _ => by cases h; exact .int i
  | .str x, _, h, _ => by cases h; exact .str x
  | .list ds, _, h, c => by
    have c' : ds.length ≤ 12 ∧ narL ds = true := by simpa [nar] using c
    cases h with
    | lst h r =>
      have h2 := outL hz hx h (by have := r.length; omega)
      exact .lst h2 (RpL.out hz hx ds _ r c'.2)
  | .tuple ds, _, h, c => by
    have c' : ds.length ≤ 12 ∧ narL ds = true := by simpa [nar] using c
    cases h with
    | tup h r => exact .tup (outO hz h fun xs z => by cases z) (RpL.out hz hx ds _ r c'.2)
  | .dict _, _, h, _ => by
    cases h with
    | dct h => exact .dct (outO hz h fun xs z => by cases z)
theorem RpL.out {G : Hp} {z : Addr} {xs : List V} (hz : G z = some (.lst xs)) (hx : 12 < xs.length) : ∀ (ds : List PyData) (vs : List V), RpL K G vs ds → narL ds = true → RpL K (del G z) vs ds
  | [], _, h, _ => by cases h; exact .nil
  | d :: ds, _, h, c => by
    have c' : nar d = true ∧ narL ds = true := by simpa [narL] using c
    cases h with
    | cons a b => exact .cons (Rp.out hz hx d _ a c'.1) (RpL.out hz hx ds _ b c'.2)
end
structure L0 (e : PyData) : Prop where
  na : nar e = true
  lay : e.canLay0 = true
  sh : e.showable = true
  dp : e.depth ≤ 2
  ln : e.shown.length ≤ 8
structure L1 (r : PyData) : Prop where
  na : nar r = true
  few : (kids r).length ≤ 12
  el : ∀ e ∈ kids r, L0 e
  sh : r.showable = true
  dp : r.depth ≤ 4
  ln : r.shown.length ≤ 300
structure Ok (d : PyData) : Prop where
  na : nar d = true
  few : (kids d).length ≤ 12
  el : ∀ r ∈ kids d, L1 r
  sh : d.showable = true
  dp : d.depth ≤ 10
  ln : d.shown.length ≤ 10000
theorem L1.seq {es : List PyData} (n : es.length ≤ 12) (h : ∀ e ∈ es, L0 e) : L1 (.list es) ∧ L1 (.tuple es) := by
  obtain ⟨⟨a1, a2, a3⟩, b1, b2, b3⟩ := seq_up (B := 8) (m := 2) (ds := es) fun e he => ⟨(h e he).sh, (h e he).dp, (h e he).ln⟩
  obtain ⟨n1, n2⟩ := nar_seq n fun e he => (h e he).na
  exact ⟨⟨n1, n, h, a1, by omega, by omega⟩, ⟨n2, n, h, b1, by omega, by omega⟩⟩
theorem Ok.seq {es : List PyData} (n : es.length ≤ 12) (h : ∀ e ∈ es, L1 e) : Ok (.list es) ∧ Ok (.tuple es) := by
  obtain ⟨⟨a1, a2, a3⟩, b1, b2, b3⟩ := seq_up (B := 300) (m := 4) (ds := es) fun e he => ⟨(h e he).sh, (h e he).dp, (h e he).ln⟩
  obtain ⟨n1, n2⟩ := nar_seq n fun e he => (h e he).na
  exact ⟨⟨n1, n, h, a1, by omega, by omega⟩, ⟨n2, n, h, b1, by omega, by omega⟩⟩
theorem Ok.lay {d : PyData} (h : Ok d) : Lay d := fun r hr => ⟨by have := (h.el r hr).few; omega, fun e he => ⟨((h.el r hr).el e he).lay, by have := ((h.el r hr).el e he).dp; omega⟩⟩
theorem int_short : ∀ k : Fin 20, (PyData.shown (.int (((k : Nat) : Int) - 2))).length ≤ 8 := by decide +kernel
theorem L0.int {i : Int} (h1 : -1 ≤ i) (h2 : i ≤ 16) : L0 (.int i) := by
  refine ⟨rfl, rfl, ?_, Nat.zero_le _, ?_⟩
  · have : i.natAbs ≤ 16 := by omega
    show decide (i.natAbs.log2 < 1920) = true
    rw [decide_eq_true_iff]
    by_cases z : i.natAbs = 0
    · rw [z]; decide
    · have := Nat.log2_lt z (k := 1920)
      rw [this]
      exact Nat.lt_of_le_of_lt ‹i.natAbs ≤ 16› (Nat.lt_of_lt_of_le (by decide : 16 < 2 ^ 5) (Nat.pow_le_pow_right (by decide) (by decide)))
  · have := int_short ⟨(i + 2).toNat, by omega⟩
    have e : (((i + 2).toNat : Nat) : Int) - 2 = i := by omega
    rw [e] at this
    exact this
theorem L0.bl (b : Bool) : L0 (.bool b) := by cases b <;> exact ⟨rfl, rfl, rfl, Nat.zero_le _, by decide +kernel⟩
theorem L0.non : L0 .none := ⟨rfl, rfl, rfl, Nat.zero_le _, by decide +kernel⟩
theorem L0.str0 : L0 (.str "0") := ⟨rfl, by decide +kernel, rfl, Nat.zero_le _, by decide +kernel⟩
theorem L0.zero : L0 (.list [.int 0]) := ⟨by decide +kernel, rfl, by decide +kernel, by decide, by decide +kernel⟩
theorem L0.l1 {e : PyData} (h : kids e = []) (h0 : L0 e) : L1 e := ⟨h0.na, by rw [h]; simp, (fun x hx => by rw [h] at hx; cases hx), h0.sh, by have := h0.dp; omega, by have := h0.ln; omega⟩
theorem L1.str01 : L1 (.str "01") := ⟨rfl, by simp [kids], fun x hx => (by cases hx), rfl, Nat.zero_le _, by decide +kernel⟩
theorem L1.dct : L1 (.dict []) := ⟨rfl, by simp [kids], fun x hx => (by cases hx), by decide +kernel, by decide, by decide +kernel⟩
theorem Ok.one {r : PyData} (h : kids r = []) (h1 : L1 r) : Ok r := ⟨h1.na, by rw [h]; simp, (fun x hx => by rw [h] at hx; cases hx), h1.sh, by have := h1.dp; omega, by have := h1.ln; omega⟩
/-! ### values on the heap -/
def Lf (K : PySem.W.Frag) (G : Hp) (v : V) : Prop := ∃ e, Rp K G v e ∧ L0 e
def RowV (K : PySem.W.Frag) (G : Hp) (v : V) : Prop := ∃ e, Rp K G v e ∧ L1 e
def OkV (K : PySem.W.Frag) (G : Hp) (v : V) : Prop := ∃ e, Rp K G v e ∧ Ok e
theorem Lf.kp {G G' : Hp} {v : V} (k : Kp G G') (h : Lf K G v) : Lf K G' v := by obtain ⟨e, r, o⟩ := h; exact ⟨e, r.kp k, o⟩
theorem RowV.kp {G G' : Hp} {v : V} (k : Kp G G') (h : RowV K G v) : RowV K G' v := by obtain ⟨e, r, o⟩ := h; exact ⟨e, r.kp k, o⟩
theorem OkV.kp {G G' : Hp} {v : V} (k : Kp G G') (h : OkV K G v) : OkV K G' v := by obtain ⟨e, r, o⟩ := h; exact ⟨e, r.kp k, o⟩
theorem rpl_of {G : Hp} {C : PyData → Prop} : ∀ vs : List V, (∀ v ∈ vs, ∃ e, Rp K G v e ∧ C e) → ∃ es, RpL K G vs es ∧ es.length = vs.length ∧ ∀ e ∈ es, C e
  | [], _ => ⟨[], .nil, rfl, fun e h => by cases h⟩
  | v :: r, h => by
    obtain ⟨e, h1, h2⟩ := h v List.mem_cons_self
    obtain ⟨es, h3, h4, h5⟩ := rpl_of r fun x hx => h x (List.mem_cons_of_mem _ hx)
    refine ⟨e :: es, .cons h1 h3, by rw [List.length_cons, List.length_cons, h4], fun x hx => ?_⟩
    rcases List.mem_cons.mp hx with z | z
    · rw [z]; exact h2
    · exact h5 x z
theorem RowV.lst {G : Hp} {a : Addr} {vs : List V} (h : G a = some (.lst vs)) (n : vs.length ≤ 12) (l : ∀ v ∈ vs, Lf K G v) : RowV K G (.ref a) := by
  obtain ⟨es, h1, h2, h3⟩ := rpl_of vs l
  exact ⟨.list es, .lst h h1, (L1.seq (by omega) h3).1⟩
theorem RowV.tup {G : Hp} {a : Addr} {vs : List V} (h : G a = some (.tup vs)) (n : vs.length ≤ 12) (l : ∀ v ∈ vs, Lf K G v) : RowV K G (.ref a) := by
  obtain ⟨es, h1, h2, h3⟩ := rpl_of vs l
  exact ⟨.tuple es, .tup h h1, (L1.seq (by omega) h3).2⟩
theorem OkV.lst {G : Hp} {a : Addr} {vs : List V} (h : G a = some (.lst vs)) (n : vs.length ≤ 12) (l : ∀ v ∈ vs, RowV K G v) : OkV K G (.ref a) := by
  obtain ⟨es, h1, h2, h3⟩ := rpl_of vs l
  exact ⟨.list es, .lst h h1, (Ok.seq (by omega) h3).1⟩
theorem OkV.tup {G : Hp} {a : Addr} {vs : List V} (h : G a = some (.tup vs)) (n : vs.length ≤ 12) (l : ∀ v ∈ vs, RowV K G v) : OkV K G (.ref a) := by
  obtain ⟨es, h1, h2, h3⟩ := rpl_of vs l
  exact ⟨.tuple es, .tup h h1, (Ok.seq (by omega) h3).2⟩
theorem Lf.int {G : Hp} {i : Int} (h1 : -1 ≤ i) (h2 : i ≤ 16) : Lf K G (.int i) := ⟨_, .int i, .int h1 h2⟩
end Tb

namespace Tb
open PySem PySem.Spec PyProof.Rows L2
variable {K : PySem.W.Frag}
abbrev dd (p D : Addr) (H : Hp) : Hp := del (del H p) D
theorem dd_kd {p D : Addr} {H H' : Hp} {vs : List V} (k : Kd p H H') (n : D ≠ p) (h : H D = some (.lst vs)) : Kp (dd p D H) (dd p D H') := Kp.del k D fun ps z => by rw [del_ne n, h] at z; cases z
theorem dd_kp {p D : Addr} {H H' : Hp} {vs : List V} (k : Kp H H') (hp : PotAt H p) (n : D ≠ p) (h : H D = some (.lst vs)) : Kp (dd p D H) (dd p D H') := dd_kd (k.kd hp.ntbl) n h
theorem dd_at {p D t : Addr} {H : Hp} {o : HO} (h1 : t ≠ p) (h2 : t ≠ D) (h : H t = some o) : dd p D H t = some o := by
  unfold dd
  rw [del_ne h2, del_ne h1]; exact h
theorem dd_put {p D : Addr} {H : Hp} {o : HO} (n : D ≠ p) : dd p D (upd H D o) = dd p D H := by
  unfold dd
  rw [upd_del n, del_upd]
theorem cut_mem {xs : List V} {lo hi : Option Int} {v : V} (h : v ∈ cutV xs lo hi) : v ∈ xs := by
  unfold cutV at h
  exact List.mem_of_mem_drop (List.mem_of_mem_take h)
theorem cut_hi (xs : List V) {i : Int} (h : 0 ≤ i) : (cutV xs none (some i)).length ≤ i.toNat := by
  have e : ∀ n d, HT.sIx n d (some i) = min i.toNat n := fun n d => if_neg (by omega)
  unfold cutV
  rw [e, HT.sIx_none, List.length_take]
  omega
theorem cut_lo (xs : List V) {i : Int} (h : 0 ≤ i) : (cutV xs (some i) none).length ≤ xs.length - i.toNat := by
  have e : ∀ n d, HT.sIx n d (some i) = min i.toNat n := fun n d => if_neg (by omega)
  unfold cutV
  rw [e, HT.sIx_none, List.length_take, List.length_drop]
  omega
theorem at_int {xs : List V} {i : Int} (h0 : 0 ≤ i) (h1 : i < xs.length) : ∃ v, atI xs i = some v ∧ v ∈ xs := by
  have hi : i.toNat < xs.length := by omega
  have := atI_nat (List.getElem?_eq_getElem hi)
  rw [show ((i.toNat : Nat) : Int) = i by omega] at this
  exact ⟨_, this, List.getElem_mem hi⟩
theorem ix_int {n : Nat} {i : Int} (h0 : 0 ≤ i) (h1 : i < n) : ixN n i = some i.toNat := by
  unfold ixN
  rw [if_pos h0, if_pos h1]
/-- a leaf by its value -/
def LfV (q : Addr) (y : V) : Prop := (∃ i : Int, y = .int i ∧ -1 ≤ i ∧ i ≤ 16) ∨ (∃ b, y = .bl b) ∨ y = .non ∨ y = .str "0" ∨ y = .ref q
theorem LfV.lf {q : Addr} {y : V} {G : Hp} (h : LfV q y) (hq : G q = some (.lst [.int 0])) : Lf K G y := by
  rcases h with ⟨i, rfl, h1, h2⟩ | ⟨b, rfl⟩ | rfl | rfl | rfl
  · exact Lf.int h1 h2
  · exact ⟨_, .bl b, L0.bl b⟩
  · exact ⟨_, .non, L0.non⟩
  · exact ⟨_, .str _, L0.str0⟩
  · exact ⟨_, .lst hq (.cons (.int 0) .nil), L0.zero⟩
/-- the copies: the list at D of lists of n leaves -/
structure Cp (p D q : Addr) (n : Nat) (as : List Addr) (H : Hp) : Prop where
  pot : PotAt H p
  nd : D ≠ p
  nq : q ≠ p ∧ q ≠ D
  at_ : H D = some (.lst (as.map V.ref))
  len : as.length = n
  zq : H q = some (.lst [.int 0])
  row : ∀ b ∈ as, b ≠ p ∧ b ≠ D ∧ b ≠ q ∧ ∃ ys, H b = some (.lst ys) ∧ ys.length = n ∧ ∀ y ∈ ys, LfV q y
theorem Cp.kd {p D q : Addr} {n : Nat} {as : List Addr} {H H' : Hp} (c : Cp p D q n as H) (k : Kd p H H') (hp : PotAt H' p) : Cp p D q n as H' :=
  ⟨hp, c.nd, c.nq, Kd.lst k c.nd c.at_, c.len, Kd.lst k c.nq.1 c.zq, fun b hb => by
    obtain ⟨h1, h2, h3, ys, h4, h5, h6⟩ := c.row b hb
    exact ⟨h1, h2, h3, ys, Kd.lst k h1 h4, h5, h6⟩⟩
theorem Cp.put {p D q b : Addr} {n j : Nat} {as : List Addr} {H : Hp} {ys : List V} {y : V} (c : Cp p D q n as H) (hb : b ∈ as) (hy : H b = some (.lst ys)) (ly : LfV q y) : Cp p D q n as (upd H b (.lst (ys.set j y))) := by
  obtain ⟨h1, h2, h3, ys', h4, h5, h6⟩ := c.row b hb
  have ey : ys' = ys := by rw [h4] at hy; simpa using hy
  subst ey
  refine ⟨?_, c.nd, c.nq, by rw [upd_ne (Ne.symm h2)]; exact c.at_, c.len, by rw [upd_ne (Ne.symm h3)]; exact c.zq, fun e he => ?_⟩
  · obtain ⟨x, z, e, r⟩ := c.pot
    exact ⟨x, z, by rw [upd_ne (Ne.symm h1)]; exact e, r⟩
  · obtain ⟨g1, g2, g3, zs, g4, g5, g6⟩ := c.row e he
    by_cases z : e = b
    · refine ⟨g1, g2, g3, ys'.set j y, by rw [z]; exact upd_same, by rw [List.length_set]; exact h5, fun v hv => ?_⟩
      rcases List.mem_or_eq_of_mem_set hv with z | z
      · exact h6 v z
      · rw [z]; exact ly
    · exact ⟨g1, g2, g3, zs, by rw [upd_ne z]; exact g4, g5, g6⟩
theorem Cp.rows {p D q : Addr} {n : Nat} {as : List Addr} {H : Hp} (c : Cp p D q n as H) (n20 : n ≤ 12) : ∀ v ∈ as.map V.ref, RowV K (dd p D H) v := fun v hv => by
  obtain ⟨b, hb, rfl⟩ := List.mem_map.mp hv
  obtain ⟨h1, h2, h3, ys, h4, h5, h6⟩ := c.row b hb
  exact .lst (dd_at h1 h2 h4) (by omega) fun y hy => (h6 y hy).lf (dd_at c.nq.1 c.nq.2 c.zq)
theorem Cp.at1 {p D q : Addr} {n : Nat} {as : List Addr} {H : Hp} {i : Int} (c : Cp p D q n as H) (h0 : 0 ≤ i) (h1 : i < n) : ∃ b ys, atI (as.map V.ref) i = some (.ref b) ∧ b ∈ as ∧ H b = some (.lst ys) ∧ ys.length = n ∧ ∀ y ∈ ys, LfV q y := by
  obtain ⟨v, h2, h3⟩ := at_int (xs := as.map V.ref) h0 (by rw [List.length_map, c.len]; exact h1)
  obtain ⟨b, hb, rfl⟩ := List.mem_map.mp h3
  obtain ⟨_, _, _, ys, h4, h5, h6⟩ := c.row b hb
  exact ⟨b, ys, h2, hb, h4, h5, h6⟩
end Tb

namespace Tb
open PySem PySem.Spec PyProof.Rows L2
variable {K : PySem.W.Frag}
section
variable {P : Program} {w : World} {mg : Str → Option Value} {base : Heap} {f : String → Addr} {a c Pt P8 : Addr} {fd g1 g2 g3 g4 : FuncData}
/-- new to a heap that is kept -/
def Fz (A : Hp) (t : Addr) : Prop := (∀ o, A t = some o → ∃ ps, o = .tbl ps) ∧ ¬ GxR.TabG A t
theorem Fz.of {A B : Hp} {t : Addr} (k : Kp A B) (h : B t = none) : Fz A t := by
  refine ⟨fun o e => ?_, fun z => ?_⟩
  · cases o with
    | tbl ps => exact ⟨ps, rfl⟩
    | _ => exact absurd ((k.keep t _ e fun ps z => by cases z).symm.trans h) (by simp)
  · obtain ⟨ps, e, _⟩ := k.tab t z
    rw [h] at e; cases e
theorem Kp.overz {A B : Hp} {t : Addr} {o : HO} (k : Kp A B) (h : Fz A t) : Kp A (upd B t o) := by
  refine ⟨fun b u e n => ?_, fun P z => ?_⟩
  · rw [upd_ne (fun z => by
      rw [z] at e
      obtain ⟨ps, y⟩ := h.1 u e
      exact n ps y)]
    exact k.keep b u e n
  · obtain ⟨qs, e3, t3⟩ := k.tab P z
    have hP : P ≠ t := fun y => h.2 (by rw [← y]; exact z)
    exact ⟨qs, by rw [upd_ne hP]; exact e3, t3⟩
theorem Cp.kp {p D q : Addr} {n : Nat} {as : List Addr} {H H' : Hp} (c : Cp p D q n as H) (k : Kp H H') : Cp p D q n as H' := c.kd (k.kd c.pot.ntbl) (c.pot.kp k)
def rListOf (K : PySem.W.Frag) : List V → Hp → VK → Prop := fun xs H Q => ∃ p ys, xs = [.ref p] ∧ (SqL K H p ys ∨ SqT K H p ys) ∧ ∀ l, H l = none → Q (.ref l) (upd H l (.lst ys))
theorem cr_listOf {X : Cx} (hK : X.K = K) : CallR X (.type "list") (rListOf K) := by
  subst hK
  exact call_list_of
/-! ### _law_bent -/
def Rws (rs : List (List Int)) (n : Nat) : Prop := rs.length = n ∧ 1 ≤ n ∧ n ≤ 8 ∧ ∀ r ∈ rs, r.length = n ∧ ∀ e ∈ r, 0 ≤ e ∧ e < 8
def spBent (K : PySem.W.Frag) : Sp := fun vs H Q _ => ∃ (p l : Addr) (rs : List (List Int)) (n : Nat), vs = [.ref p, .ref l] ∧ PotAt H p ∧ Rp K (del H p) (.ref l) (mat rs) ∧ Rws rs n ∧ ∀ v H', OkV K (del H' p) v → PotAt H' p → Kd p H H' → Q v H'
abbrev N22 : List Str := ["_law_pot_here", "_law_rows_here", "_law_size", "_law_way", "_law_at", "_law_to", "_law_found", "_law_odd", "_law_row"]
theorem sc22 : FnScope N22 ["_law_pot_here", "_law_rows_here"] (defScope (top 22)) := ⟨rfl, rfl, rfl, by decide +kernel, rfl, by decide +kernel, by decide +kernel⟩
theorem rpl_at {G : Hp} : ∀ {ds : List PyData} {vs : List V} {v : V}, RpL K G vs ds → v ∈ vs → ∃ d, d ∈ ds ∧ Rp K G v d
  | _, _, _, .nil, h => by cases h
  | _, _, v, .cons r t, h => by
    rcases List.mem_cons.mp h with z | z
    · exact ⟨_, List.mem_cons_self, by rw [z]; exact r⟩
    · obtain ⟨d, h1, h2⟩ := rpl_at t z
      exact ⟨d, List.mem_cons_of_mem _ h1, h2⟩
theorem rpl_ints {G : Hp} : ∀ {ns : List Int} {vs : List V}, RpL K G vs (ns.map PyData.int) → vs = ns.map V.int
  | [], _, .nil => rfl
  | _ :: _, _, .cons (.int i) t => by rw [rpl_ints t]; rfl
theorem ok22 (T : Tx mg f) (F : Fun K "_law_bent" "_law_bent" (top 22) a fd) (G13 : FnOk P w K mg base CX0 1 (f "_law_draw") g1 ["_law_pot_here", "_law_sides"] spDraw) (B13 : Binds K g1 ["_law_pot_here", "_law_sides"] []) (kp13 : PySem.W.keepIn K (.ref (f "_law_draw")) = true)
    (G14 : FnOk P w K mg base CX0 2 (f "_law_pick") g2 ["_law_pot_here", "_law_some"] spPick) (B14 : Binds K g2 ["_law_pot_here", "_law_some"] []) (kp14 : PySem.W.keepIn K (.ref (f "_law_pick")) = true) : FnOk P w K mg base CX0 3 a fd ["_law_pot_here", "_law_rows_here"] (spBent K) := by
  refine F.ok sc22 (fun vs H Q E h => ?_) (fun cdv A outer s H vs Q E hr h => ?_)
  · obtain ⟨_, _, _, _, rfl, _⟩ := h
    rfl
  obtain ⟨p, l, rs, n, rfl, hp, rp, ⟨lrs, n1, n8, hrs⟩, q⟩ := h
  refine ⟨_, pss_cons (ps_par (i := 2) (j := 3) rfl sc22.nd rfl rfl (by decide) rfl rfl (pa_cons (pe_callB (cr_len (K := K) rfl) rfl (T.bl "len" (by simp)) PySem.boot_len (pa_cons (pv 1) pa_nil)) (pa_cons (pe_call G13 (hr.mono (by decide)) rfl (T.fn "_law_draw" (by simp)) kp13 B13 .nil pass0 (pa_cons (pv 0) (pa_cons pe_int pa_nil))) pa_nil)) (by rfl))
    (pss_cons (ps_par (i := 4) (j := 5) rfl sc22.nd rfl rfl (by decide) rfl rfl (pa_cons (pe_call G13 (hr.mono (by decide)) rfl (T.fn "_law_draw" (by simp)) kp13 B13 .nil pass0 (pa_cons (pv 0) (pa_cons (pv 2) pa_nil))) (pa_cons (pe_call G13 (hr.mono (by decide)) rfl (T.fn "_law_draw" (by simp)) kp13 B13 .nil pass0 (pa_cons (pv 0) (pa_cons (pv 2) pa_nil))) pa_nil)) (by rfl))
    (pss_cons (ps_setLc (i := 6) (own := [("_law_row", 8)]) (g := gName 8) (tt := tYes) rfl sc22.nd rfl rfl (sw_true rfl rfl rfl (by decide +kernel)) (pi_list (pv 1)) (blkOk_by (by change blkC N22 (defScope (top 22)) _ _ = true; decide +kernel)) (fun _ _ _ _ _ => pg_name (i := 8) sc22.nd rfl (Or.inl rfl)) (fun _ _ _ _ _ => pts_nil) (fun _ _ _ _ _ => pe_callTy (cr_listOf (K := K) rfl) rfl (T.bl "list" (by simp)) bi_list (pa_cons (pv 8) pa_nil)))
    (pss_cons (ps_set (i := 7) sc22.nd rfl (Or.inl rfl) (pe_call G14 hr rfl (T.fn "_law_pick" (by simp)) kp14 B14 .nil pass0 (pa_cons (pv 0) (pa_cons (pe_lst (pa_cons pe_int (pa_cons pe_int (pa_cons (pe_op op_sub (pv 2) pe_int) (pa_cons (pv 2) (pa_cons (pe_un un_neg pe_int) (pa_cons pe_bl (pa_cons pe_bl (pa_cons pe_non (pa_cons pe_str (pa_cons (pe_lst (pa_cons pe_int pa_nil)) pa_nil))))))))))) pa_nil))))
    (pss_cons (ps_if (pt_cmpR op_lt (pv 3) pe_int (nomark _))
      (pss_cons (ps_asg (pv 7) (pg_sub (pe_ix ix_list (pv 6) (pv 4) (fun _ _ => rfl)) (pv 5) set_list))
        (pss_one (ps_asg (pe_ifExp (pt_cmpR op_eq (pv 3) pe_int (nomark _)) (pv 7) (pe_ix ix_list (pe_ix ix_list (pv 6) (pv 5) (fun _ _ => rfl)) (pv 4) (fun _ _ => rfl))) (pg_sub (pe_ix ix_list (pv 6) (pv 5) (fun _ _ => rfl)) (pv 4) set_list))))
      (pss_one (ps_if (pt_cmpR op_eq (pv 3) pe_int (nomark _))
        (pss_one (ps_asg (pe_op op_cat (pe_ix ix_list (pv 6) (pv 4) (fun _ _ => rfl)) (pe_lst (pa_cons (pv 7) pa_nil))) (pg_sub (pv 6) (pv 4) set_list)))
      (pss_one (ps_if (pt_cmpR op_eq (pv 3) pe_int (nomark _))
        (pss_one (ps_asg (pe_slice sl_list (pe_ix ix_list (pv 6) (pv 4) (fun _ _ => rfl)) po_none (po_some (pe_un un_neg pe_int))) (pg_sub (pv 6) (pv 4) set_list)))
      (pss_one (ps_if (pt_cmpR op_eq (pv 3) pe_int (nomark _))
        (pss_one (ps_ret (pe_op op_cat (pe_slice sl_list (pv 6) po_none (po_some (pv 4))) (pe_slice sl_list (pv 6) (po_some (pe_op op_add (pv 4) pe_int)) po_none))))
      (pss_one (ps_if (pt_cmpR op_eq (pv 3) pe_int (nomark _))
        (pss_one (ps_asg (pe_call G14 hr rfl (T.fn "_law_pick" (by simp)) kp14 B14 .nil pass0 (pa_cons (pv 0) (pa_cons (pe_lst (pa_cons pe_non (pa_cons pe_int (pa_cons pe_str (pa_cons (pe_callTy call_tuple_of rfl (T.bl "tuple" (by simp)) bi_tuple (pa_cons (pe_ix ix_list (pv 6) (pv 4) (fun _ _ => rfl)) pa_nil)) (pa_cons pe_dnewK pa_nil)))))) pa_nil))) (pg_sub (pv 6) (pv 4) set_list)))
      (pss_one (ps_if (pt_cmpR op_eq (pv 3) pe_int (nomark _))
        (pss_one (ps_ret (pe_lc (own := [("_law_row", 8)]) (g := gName 8) (tt := tYes) (te := tRevL K (tVar 8)) rfl sc22.nd (pi_list (pe_revL (pv 6))) (blkOk_by (by change blkC N22 (defScope (top 22)) _ _ = true; decide +kernel)) (fun _ _ _ _ _ => pg_name (i := 8) sc22.nd rfl (Or.inl rfl)) (fun _ _ _ _ _ => pts_nil) (fun _ _ _ _ _ => ?_))))
        (pss_one (ps_ret (pe_op op_cat (pv 6) (pe_lst (pa_cons (pe_ix ix_list (pv 6) (pv 4) (fun _ _ => rfl)) pa_nil))))))))))))))))
    (pss_one (ps_ret (pv 6))))))), ?_⟩
  · exact pe_revL (pv 8)
  have ⟨xs, hl, rl⟩ : ∃ xs, del H p l = some (.lst xs) ∧ RpL K (del H p) xs (rs.map rowD) := by
    cases rp with
    | lst h r => exact ⟨_, h, r⟩
  obtain ⟨nlp, hl0⟩ := del_some hl
  have lx : n = xs.length := by rw [rl.length, List.length_map, lrs]
  subst lx
  refine ⟨_, rfl, l, xs, rfl, .inl (.inl (.inl hl0)), _, rfl, p, 8, rfl, by decide, by decide, hp, fun way H1 w0 w8 hp1 k1 => ⟨_, _, rfl, ?_⟩⟩
  refine ⟨_, rfl, _, rfl, p, _, rfl, by omega, by omega, hp1, fun at' H2 a0 a1 hp2 k2 => ⟨_, rfl, _, rfl, p, _, rfl, by omega, by omega, hp2, fun to H3 t0 t1 hp3 k3 => ⟨_, _, rfl, ?_⟩⟩⟩
  have k03 : Kd p H H3 := (k1.trans k2).trans k3
  have hl3 := Kd.lst k03 nlp hl0
  refine ⟨_, rfl, l, rfl, ⟨_, .inl (.inl hl3)⟩, fun D hD => ?_⟩
  have nDp : D ≠ p := fun z => hp3.nn (by rw [← z]; exact hD)
  have fD : Fz (del H3 p) D := Fz.of (Kp.refl _) (del_none hD)
  refine lc_list (xs := xs) (fun i H' => Kd p H3 H' ∧ PotAt H' p ∧ ∃ as : List Addr, H' D = some (.lst (as.map V.ref)) ∧ as.length = i ∧ ∀ b ∈ as, Fz (del H3 p) b ∧ b ≠ p ∧ b ≠ D ∧ ∃ ns : List Int, H' b = some (.lst (ns.map V.int)) ∧ ns.length = xs.length ∧ ∀ e ∈ ns, 0 ≤ e ∧ e < 8)
    ⟨Kd.new hD hp3.nn, hp3.new hD, [], upd_same, rfl, fun b hb => by cases hb⟩ (fun i H' _ v => .inl (.inl (Kd.lst v.1 nlp hl3))) ?_ ?_
  · rintro i v H4 hv ⟨k4, hp4, as, hD4, las, has⟩
    have hi := (List.getElem?_eq_some_iff.mp hv).1
    obtain ⟨dr, hdr, rv⟩ := rpl_at rl (List.mem_of_getElem? hv)
    obtain ⟨r, hr', rfl⟩ := List.mem_map.mp hdr
    obtain ⟨lr, er⟩ := hrs r hr'
    have ⟨b, ys, ev, hb, ry⟩ : ∃ b ys, v = .ref b ∧ del H p b = some (.lst ys) ∧ RpL K (del H p) ys (r.map PyData.int) := by
      cases rv with
      | lst h r => exact ⟨_, _, rfl, h, r⟩
    subst ev
    obtain ⟨nbp, hb0⟩ := del_some hb
    have ey := rpl_ints ry
    subst ey
    have hb4 := Kd.lst k4 nbp (Kd.lst k03 nbp hb0)
    refine ⟨rfl, _, rfl, b, _, rfl, .inl (.inl (.inl hb4)), fun t ht => ?_⟩
    have ntp : t ≠ p := fun z => hp4.nn (by rw [← z]; exact ht)
    have ntD : t ≠ D := fun z => by rw [z, hD4] at ht; cases ht
    have hD5 : upd H4 t (.lst (r.map V.int)) D = some (.lst (as.map V.ref)) := by rw [upd_ne (Ne.symm ntD)]; exact hD4
    refine ⟨as.map V.ref, hD5, by rw [sizeLine_eq, List.length_map]; omega, ?_, ?_, as ++ [t], by rw [List.map_append]; exact upd_same, by rw [List.length_append, las]; rfl, fun e he => ?_⟩
    · show Kp (del H3 p) (del (upd (upd H4 t _) D _) p)
      rw [upd_del nDp]
      exact Kp.overz (k4.trans (Kd.new ht hp4.nn)) fD
    · obtain ⟨x, y, e, rr⟩ := hp4.new (o := .lst (r.map V.int)) ht
      exact ⟨x, y, by rw [upd_ne (Ne.symm nDp)]; exact e, rr⟩
    · rcases List.mem_append.mp he with h | h
      · obtain ⟨h1, h2, h3, ns, h4, h5, h6⟩ := has e h
        exact ⟨h1, h2, h3, ns, by rw [upd_ne h3]; exact (Kp.new ht).lst h4, h5, h6⟩
      · have e1 : e = t := by simpa using h
        subst e1
        exact ⟨Fz.of k4 (del_none ht), ntp, ntD, r, by rw [upd_ne ntD]; exact upd_same, lr, er⟩
  rintro H4 ⟨k4, hp4, as, hD4, las, has⟩
  refine ⟨_, rfl, _, rfl, _, _, rfl, rfl, _, rfl, _, rfl, by show 1 ≤ sizeLine; decide, fun q' hq => ⟨by show 10 ≤ sizeLine; decide, fun sl hsl => ?_⟩⟩
  have nqp : q' ≠ p := fun z => hp4.nn (by rw [← z]; exact hq)
  have nqD : q' ≠ D := fun z => by rw [z, hD4] at hq; cases hq
  have kq : ∀ o, Kp H4 (upd (upd H4 q' (.lst [.int 0])) sl o) := fun o => (Kp.new hq).trans (Kp.new hsl)
  have nsp : sl ≠ p := fun z => (hp4.new (o := .lst [.int 0]) hq).nn (by rw [← z]; exact hsl)
  refine ⟨p, sl, _, rfl, nsp, hp4.kp (kq _), upd_same, by simp, by simp, fun odd H5 ho hp5 k5 => ?_⟩
  have k45 : Kd p H4 H5 := ((kq _).kd hp4.ntbl).trans k5
  have k35 : Kd p H3 H5 := k4.trans k45
  have nsq : q' ≠ sl := ne_of_none upd_same hsl
  have hq5 : H5 q' = some (.lst [.int 0]) := Kd.lst k5 nqp (by rw [upd_ne nsq]; exact upd_same)
  have n8' : as.length = xs.length := las
  have c5 : Cp p D q' xs.length as H5 := by
    refine ⟨hp5, nDp, ⟨nqp, nqD⟩, Kd.lst k45 nDp hD4, las, hq5, fun b hb => ?_⟩
    obtain ⟨h1, h2, h3, ns, h4, h5, h6⟩ := has b hb
    refine ⟨h2, h3, (fun z => by rw [z, hq] at h4; cases h4), ns.map V.int, Kd.lst k45 h2 h4, by rw [List.length_map, h5], fun y hy => ?_⟩
    obtain ⟨e, he, rfl⟩ := List.mem_map.mp hy
    have := h6 e he
    exact .inl ⟨e, rfl, by omega, by omega⟩
  have fas : ∀ b ∈ as, Fz (del H3 p) b := fun b hb => (has b hb).1
  have lo : LfV q' odd := by
    simp only [List.mem_cons, List.not_mem_nil, or_false] at ho
    rcases ho with rfl | rfl | rfl | rfl | rfl | rfl | rfl | rfl | rfl | rfl
    · exact .inl ⟨_, rfl, by decide, by decide⟩
    · exact .inl ⟨_, rfl, by decide, by decide⟩
    · exact .inl ⟨_, rfl, by omega, by omega⟩
    · exact .inl ⟨_, rfl, by omega, by omega⟩
    · exact .inl ⟨_, rfl, by decide, by decide⟩
    · exact .inr (.inl ⟨_, rfl⟩)
    · exact .inr (.inl ⟨_, rfl⟩)
    · exact .inr (.inr (.inl rfl))
    · exact .inr (.inr (.inr (.inl rfl)))
    · exact .inr (.inr (.inr (.inr rfl)))
  clear ho hsl kq nsp k5 nsq k45 has hq hD4 k4 hp4
  -- how it ends
  have fin2 : ∀ H7 vs, H7 D = some (.lst vs) → vs.length ≤ 12 → (∀ v ∈ vs, RowV K (dd p D H7) v) → PotAt H7 p → Kd p H3 H7 → Q (.ref D) H7 := fun H7 vs h1 h2 h3 h4 h5 =>
    q _ _ (.lst (vs := vs) (by rw [del_ne nDp]; exact h1) h2 fun v hv => (h3 v hv).kp kp_del_in) h4 (k03.trans h5)
  have fin3 : ∀ H7 (j : Nat) v, Cp p D q' xs.length as H7 → Kd p H3 H7 → RowV K (dd p D H7) v → Q (.ref D) (upd H7 D (.lst ((as.map V.ref).set j v))) := fun H7 j v c k r => by
    refine fin2 _ _ upd_same (by rw [List.length_set, List.length_map]; omega) (fun y hy => ?_) ?_ ?_
    · rw [dd_put nDp]
      rcases List.mem_or_eq_of_mem_set hy with z | z
      · exact c.rows (by omega) y z
      · rw [z]; exact r
    · obtain ⟨x, y, e, rr⟩ := c.pot
      exact ⟨x, y, by rw [upd_ne (Ne.symm nDp)]; exact e, rr⟩
    · show Kp (del H3 p) (del (upd H7 D _) p)
      rw [upd_del nDp]
      exact Kp.overz k fD
  have newrow : ∀ H7 t zs, Cp p D q' xs.length as H7 → Kd p H3 H7 → H7 t = none → zs.length ≤ 12 → (∀ z ∈ zs, LfV q' z) → Cp p D q' xs.length as (upd H7 t (.lst zs)) ∧ Kd p H3 (upd H7 t (.lst zs)) ∧ RowV K (dd p D (upd H7 t (.lst zs))) (.ref t) := fun H7 t zs c k ht hl hz => by
    have k' : Kp H7 (upd H7 t (.lst zs)) := Kp.new ht
    have c' := c.kp k'
    refine ⟨c', k.trans (k'.kd c.pot.ntbl), .lst (vs := zs) (dd_at (fun z => c.pot.nn (by rw [← z]; exact ht)) (fun z => ?_) upd_same) hl fun z hz' => (hz z hz').lf (dd_at c'.nq.1 c'.nq.2 c'.zq)⟩
    have := c.at_
    rw [← z, ht] at this
    cases this
  have sqa : ∀ {H7}, Cp p D q' xs.length as H7 → SqL K H7 D (as.map V.ref) := fun c => .inl (.inl c.at_)
  have sq1 : ∀ {H7 : Hp} {b : Addr} {ys : List V}, H7 b = some (.lst ys) → SqL K H7 b ys := fun h => .inl (.inl h)
  obtain ⟨b, ys, hb, hbm, hby, lby, lfy⟩ := c5.at1 a0 a1
  refine ⟨_, rfl, _, _, rfl, rfl, _, rfl, ite2 (fun cw => ?_) (fun cw => ?_)⟩
  · -- one item, or two, bent
    have tl : ∀ H7, Cp p D q' xs.length as H7 → Kd p H3 H7 → Q (.ref D) H7 := fun H7 c k => fin2 H7 _ c.at_ (by rw [List.length_map]; omega) (c.rows (by omega)) c.pot k
    have put : ∀ (H7 : Hp) b ys (j : Nat) y, Cp p D q' xs.length as H7 → Kd p H3 H7 → b ∈ as → H7 b = some (.lst ys) → LfV q' y → Cp p D q' xs.length as (upd H7 b (.lst (ys.set j y))) ∧ Kd p H3 (upd H7 b (.lst (ys.set j y))) := fun H7 b ys j y c k hb hy ly => by
      refine ⟨c.put hb hy ly, ?_⟩
      show Kp (del H3 p) (del (upd H7 b _) p)
      rw [upd_del (c.row b hb).1]
      exact Kp.overz k (fas b hb)
    obtain ⟨c6, k6⟩ := put H5 b ys to.toNat odd c5 k35 hbm hby lo
    refine ⟨_, rfl, _, rfl, _, rfl, D, _, _, _, rfl, rfl, sqa c5, hb, _, rfl, b, ys, to, _, rfl, rfl, hby, ix_int t0 (by rw [lby]; exact t1), ?_⟩
    obtain ⟨b2, ys2, hb2, hbm2, hby2, lby2, lfy2⟩ := c6.at1 t0 t1
    obtain ⟨y2, hy2, hym2⟩ := at_int (xs := ys2) a0 (by rw [lby2]; exact a1)
    refine ⟨_, rfl, rfl, _, rfl, ite2 (fun cx => ?_) (fun cx => ?_)⟩
    · refine ⟨_, rfl, _, rfl, _, rfl, D, _, _, _, rfl, rfl, sqa c6, hb2, _, rfl, b2, ys2, at', _, rfl, rfl, hby2, ix_int a0 (by rw [lby2]; exact a1), _, rfl, ?_⟩
      obtain ⟨c7, k7⟩ := put _ b2 ys2 at'.toNat odd c6 k6 hbm2 hby2 lo
      exact tl _ c7 k7
    · refine ⟨_, rfl, _, rfl, D, _, _, _, rfl, rfl, sqa c6, hb2, _, rfl, b2, ys2, at', y2, rfl, rfl, sq1 hby2, hy2, _, rfl, _, rfl, D, _, _, _, rfl, rfl, sqa c6, hb2, _, rfl, b2, ys2, at', _, rfl, rfl, hby2, ix_int a0 (by rw [lby2]; exact a1), _, rfl, ?_⟩
      obtain ⟨c7, k7⟩ := put _ b2 ys2 at'.toNat y2 c6 k6 hbm2 hby2 (lfy2 y2 hym2)
      exact tl _ c7 k7
  have ixD : ixN (as.map V.ref).length at' = some at'.toNat := ix_int a0 (by rw [List.length_map, las]; exact a1)
  refine ⟨_, rfl, rfl, _, rfl, ite2 (fun c2 => ?_) (fun c2 => ?_)⟩
  · -- a row longer by one
    refine ⟨_, rfl, _, rfl, D, _, _, _, rfl, rfl, sqa c5, hb, _, rfl, by show 1 ≤ sizeLine; decide, fun t1 ht1 => ?_⟩
    have k1' : Kp H5 (upd H5 t1 (.lst [odd])) := Kp.new ht1
    refine ⟨b, t1, ys, [odd], rfl, rfl, k1'.lst hby, upd_same, by rw [sizeLine_eq, lby]; simp; omega, fun t2 ht2 => ?_⟩
    obtain ⟨c6, k6, r6⟩ := newrow _ t2 (ys ++ [odd]) (c5.kp k1') (k35.trans (k1'.kd hp5.ntbl)) ht2 (by rw [List.length_append, lby]; simp; omega) (fun z hz => by
      rcases List.mem_append.mp hz with h | h
      · exact lfy z h
      · have : z = odd := by simpa using h
        rw [this]; exact lo)
    refine ⟨_, rfl, _, rfl, D, as.map V.ref, at', _, rfl, rfl, c6.at_, ixD, _, rfl, ?_⟩
    exact fin3 _ _ _ c6 k6 r6
  refine ⟨_, rfl, rfl, _, rfl, ite2 (fun c3 => ?_) (fun c3 => ?_)⟩
  · -- a row shorter by one
    refine ⟨_, rfl, _, rfl, D, _, _, _, rfl, rfl, sqa c5, hb, _, rfl, _, rfl, b, ys, rfl, sq1 hby, fun t2 ht2 => ?_⟩
    have lc := cutV_length ys none (some (-1))
    obtain ⟨c6, k6, r6⟩ := newrow _ t2 (cutV ys none (some (-1))) c5 k35 ht2 (by omega) (fun z hz => lfy z (cut_mem hz))
    refine ⟨_, rfl, _, rfl, D, as.map V.ref, at', _, rfl, rfl, c6.at_, ixD, _, rfl, ?_⟩
    exact fin3 _ _ _ c6 k6 r6
  refine ⟨_, rfl, rfl, _, rfl, ite2 (fun c4 => ?_) (fun c4 => ?_)⟩
  · -- a row left out
    refine ⟨_, rfl, _, rfl, _, rfl, D, _, rfl, sqa c5, fun t1 ht1 => ?_⟩
    have k1' : Kp H5 (upd H5 t1 (.lst (cutV (as.map V.ref) none (some at')))) := Kp.new ht1
    refine ⟨_, rfl, _, rfl, _, _, rfl, rfl, _, rfl, D, _, rfl, sqa (c5.kp k1'), fun t2 ht2 => ?_⟩
    have k2' : Kp (upd H5 t1 (.lst (cutV (as.map V.ref) none (some at')))) (upd (upd H5 t1 (.lst (cutV (as.map V.ref) none (some at')))) t2 (.lst (cutV (as.map V.ref) (some (at' + 1)) none))) := Kp.new ht2
    have l1 := cut_hi (as.map V.ref) a0
    have l2 := cut_lo (as.map V.ref) (show 0 ≤ at' + 1 by omega)
    rw [List.length_map] at l2
    refine ⟨t1, t2, _, _, rfl, rfl, k2'.lst upd_same, upd_same, by rw [sizeLine_eq]; omega, fun t3 ht3 => ?_⟩
    have k12 := k1'.trans k2'
    have k3' := k12.trans (Kp.new (o := .lst (cutV (as.map V.ref) none (some at') ++ cutV (as.map V.ref) (some (at' + 1)) none)) ht3)
    have c6 := c5.kp k3'
    refine q _ _ (.lst (vs := cutV (as.map V.ref) none (some at') ++ cutV (as.map V.ref) (some (at' + 1)) none) (by rw [del_ne (fun z => (c5.kp k12).pot.nn (by rw [← z]; exact ht3))]; exact upd_same) (by rw [List.length_append]; omega) fun v hv => ?_) c6.pot (k03.trans (k35.trans (k3'.kd hp5.ntbl)))
    refine RowV.kp kp_del_in (c6.rows (by omega) v ?_)
    rcases List.mem_append.mp hv with h | h
    · exact cut_mem h
    · exact cut_mem h
  refine ⟨_, rfl, rfl, _, rfl, ite2 (fun c5' => ?_) (fun c5' => ?_)⟩
  · -- a row put by
    refine ⟨_, rfl, _, rfl, _, rfl, D, _, _, _, rfl, rfl, sqa c5, hb, b, ys, rfl, .inl ⟨sq1 hby, fun tt htt => ?_⟩⟩
    have ky : Kp H5 (upd H5 tt (.tup ys)) := Kp.new htt
    intro dk hdk
    have kz : Kp (upd H5 tt (.tup ys)) (upd (upd H5 tt (.tup ys)) dk (.dK [])) := Kp.new hdk
    refine ⟨by show 5 ≤ sizeLine; decide, fun sl hsl => ?_⟩
    have kw : ∀ o, Kp (upd (upd H5 tt (.tup ys)) dk (.dK [])) (upd (upd (upd H5 tt (.tup ys)) dk (.dK [])) sl o) := fun o => Kp.new hsl
    have k3' := fun o => (ky.trans kz).trans (kw o)
    have ntp : tt ≠ p := fun z => hp5.nn (by rw [← z]; exact htt)
    have ndp : dk ≠ p := fun z => (hp5.kp ky).nn (by rw [← z]; exact hdk)
    have nsp : sl ≠ p := fun z => (hp5.kp (ky.trans kz)).nn (by rw [← z]; exact hsl)
    have ntD : tt ≠ D := fun z => by
      have := c5.at_
      rw [← z, htt] at this
      cases this
    have ndD : dk ≠ D := fun z => by
      have := (c5.kp ky).at_
      rw [← z, hdk] at this
      cases this
    refine ⟨p, sl, _, rfl, nsp, hp5.kp (k3' _), upd_same, by simp, by simp, fun v H6 hv hp6 k6 => ?_⟩
    have k56 : Kd p H5 H6 := ((k3' _).kd hp5.ntbl).trans k6
    have c6 := c5.kd k56 hp6
    have kA := dd_kd (D := D) (vs := as.map V.ref) k6 nDp (c5.kp (k3' _)).at_
    have r6 : RowV K (dd p D H6) v := by
      simp only [List.mem_cons, List.not_mem_nil, or_false] at hv
      rcases hv with rfl | rfl | rfl | rfl | rfl
      · exact ⟨_, .non, L0.non.l1 rfl⟩
      · exact ⟨_, .int 0, (L0.int (by decide) (by decide)).l1 rfl⟩
      · exact ⟨_, .str _, L1.str01⟩
      · refine RowV.kp kA (.tup (vs := ys) (dd_at ntp ntD ((kz.trans (kw _)).tup upd_same)) (by omega) fun y hy => (lfy y hy).lf (dd_at c6.nq.1 c6.nq.2 (c5.kp (k3' _)).zq))
      · exact RowV.kp kA ⟨_, .dct (dd_at ndp ndD ((kw _).dK upd_same)), L1.dct⟩
    refine ⟨_, rfl, _, rfl, D, as.map V.ref, at', _, rfl, rfl, c6.at_, ixD, _, rfl, ?_⟩
    exact fin3 _ _ _ c6 (k35.trans k56) r6
  refine ⟨_, rfl, rfl, _, rfl, ite2 (fun c6' => ?_) (fun c6' => ?_)⟩
  · -- turned about
    refine ⟨_, rfl, D, _, rfl, sqa c5, fun rv hrv => ⟨rv, rfl, ⟨_, .inl (.inl upd_same)⟩, fun G hG => ?_⟩⟩
    have kr : Kp H5 (upd H5 rv (.lst (as.map V.ref).reverse)) := Kp.new hrv
    have c6 := c5.kp kr
    have nGp : G ≠ p := fun z => c6.pot.nn (by rw [← z]; exact hG)
    have nGD : G ≠ D := fun z => by
      have := c6.at_
      rw [← z, hG] at this
      cases this
    have nrG : rv ≠ G := fun z => by rw [← z, upd_same] at hG; cases hG
    refine lc_list (xs := (as.map V.ref).reverse) (fun i H' => Kp (upd H5 rv (.lst (as.map V.ref).reverse)) H' ∧ ∃ acc, H' G = some (.lst acc) ∧ acc.length = i ∧ ∀ v ∈ acc, RowV K (del (del H' p) G) v)
      ⟨Kp.new hG, [], upd_same, rfl, fun v hv => by cases hv⟩ (fun i H' _ v => .inl (.inl (v.1.lst upd_same))) ?_ ?_
    · rintro i v H6 hv ⟨k6, acc, hacc, lacc, racc⟩
      have hi := (List.getElem?_eq_some_iff.mp hv).1
      rw [List.length_reverse, List.length_map] at hi
      have vm := List.mem_reverse.mp (List.mem_of_getElem? hv)
      obtain ⟨e, he, rfl⟩ := List.mem_map.mp vm
      have c7 := c6.kp k6
      obtain ⟨e1, e2, e3, zs, e4, e5, e6⟩ := c7.row e he
      refine ⟨rfl, _, rfl, e, zs, rfl, sq1 e4, fun t ht => ?_⟩
      have ntG : t ≠ G := fun z => by rw [z, hacc] at ht; cases ht
      have ntp : t ≠ p := fun z => c7.pot.nn (by rw [← z]; exact ht)
      have kt : Kp H6 (upd H6 t (.lst zs.reverse)) := Kp.new ht
      have c8 := c7.kp kt
      have nqG : q' ≠ G := fun z => by
        have := c6.zq
        rw [z, hG] at this
        cases this
      refine ⟨acc, kt.lst hacc, by rw [sizeLine_eq, lacc]; omega, (k6.trans kt).over hG, acc ++ [.ref t], upd_same, by rw [List.length_append, lacc]; rfl, fun v hv => ?_⟩
      rw [upd_del nGp, del_upd]
      rcases List.mem_append.mp hv with h | h
      · exact (racc v h).kp (dd_kp kt c7.pot nGp hacc)
      · have ev : v = .ref t := by simpa using h
        rw [ev]
        exact .lst (vs := zs.reverse) (dd_at (D := G) ntp ntG upd_same) (by rw [List.length_reverse]; omega) fun z hz => (e6 z (List.mem_reverse.mp hz)).lf (dd_at (D := G) c8.nq.1 nqG c8.zq)
    · rintro H6 ⟨k6, acc, hacc, lacc, racc⟩
      rw [List.length_reverse, List.length_map] at lacc
      exact q _ _ (.lst (vs := acc) (by rw [del_ne nGp]; exact hacc) (by omega) fun v hv => (racc v hv).kp kp_del_in) (c6.kp k6).pot (k03.trans (k35.trans ((kr.trans k6).kd hp5.ntbl)))
  · -- one row twice
    refine ⟨_, rfl, _, rfl, _, rfl, D, _, _, _, rfl, rfl, sqa c5, hb, by show 1 ≤ sizeLine; decide, fun t1 ht1 => ?_⟩
    have k1' : Kp H5 (upd H5 t1 (.lst [.ref b])) := Kp.new ht1
    refine ⟨D, t1, _, _, rfl, rfl, k1'.lst c5.at_, upd_same, by rw [sizeLine_eq, List.length_map]; simp; omega, fun t2 ht2 => ?_⟩
    have k12 := k1'.trans (Kp.new (o := .lst (as.map V.ref ++ [.ref b])) ht2)
    have c6 := c5.kp k12
    refine q _ _ (.lst (vs := as.map V.ref ++ [.ref b]) (by rw [del_ne (fun z => (c5.kp k1').pot.nn (by rw [← z]; exact ht2))]; exact upd_same) (by rw [List.length_append, List.length_map]; simp; omega) fun v hv => ?_) c6.pot (k03.trans (k35.trans (k12.kd hp5.ntbl)))
    refine RowV.kp kp_del_in (c6.rows (by omega) v ?_)
    rcases List.mem_append.mp hv with h | h
    · exact h
    · have ev : v = .ref b := by simpa using h
      rw [ev]
      exact List.mem_map_of_mem hbm
end
end Tb

namespace Tb
open PySem PySem.Spec PyProof.Rows L2
variable {K : PySem.W.Frag}
/-! ### f(k = v) -/
section
variable {X : Cx} {k : Nat} {f : Addr} {fd : FuncData} {ps ks : List Str} {sp : Sp} {x : Str} {p pos : Pos} {kws : List Keyword} {tk : TA}
def tCallK0 (sp : Sp) (tk : TA) : TE := fun σ H Q => tk σ H fun zs H2 => sp zs H2 Q E0
theorem pe_callK0 (F : FnOk X.prog X.w X.K X.mg X.base CX0 k f fd ps sp) (hr : Room k X.A) (hg : Gl X x) (hm : X.mg x = some (.ref f)) (hk : PySem.W.keepIn X.K (.ref f) = true) (hb : ∀ (s : Shared) (ws : List Value), ws.length = ps.length → BindsTo s fd ⟨[], ks.zip ws⟩ (ps.zip ws))
    (hkw : PK X kws tk) (hall : (backToKw pos (keywordEach kws X.env)).all (·.1.isSome) = true := by rfl) (hks : (backToKw pos (keywordEach kws X.env)).filterMap (·.1) = ks := by rfl)
    (hdb : (x == ("__debug__" : Str)) = false := by decide)
    (hpl : ((backTo pos (starEach [] X.env)).any (·.1) || (backToKw pos (keywordEach kws X.env)).any (·.1.isNone)) = false := by rfl) :
    PE X (.Call (.Name x p) [] kws pos) (tCallK0 sp tk) := by
  refine ⟨fun pins s σ H Q I h => ?_⟩
  refine wpAny_Call_Name_kw (ld_glob I hg hm ?_ hdb)
  refine PySem.W.callWith_KW0 (h₀ := X.base) I.ok.mod.kin hk hall (thn (hkw.run pos pins s σ H _ I h) fun ws s2 ⟨zs, H2, I2, rz, q2⟩ => ⟨I2.kIn, ?_⟩) hpl
  rw [hks]
  have hl : ws.length = ps.length := by rw [← rz.length]; exact F.len _ _ _ _ q2
  refine wpAny_call (codeAny_mono (F.run X.A X.stack s2 H2 ⟨[], ks.zip ws⟩ ws zs Q E0 hr I2.env0 (hb s2 ws hl) rz q2) fun r s' hq => ?_)
  cases r with
  | error e => exact hq.elim
  | ok fl =>
    cases fl with
    | ret u => exact I2.after hq
    | next => exact hq.elim
    | brk => exact hq.elim
    | cont => exact hq.elim
end
def rTupOf (K : PySem.W.Frag) : List V → Hp → VK → Prop := fun xs H Q => ∃ p ys, xs = [.ref p] ∧ ((SqL K H p ys ∧ ∀ l, H l = none → Q (.ref l) (upd H l (.tup ys))) ∨ (SqT K H p ys ∧ Q (.ref p) H))
theorem cr_tupOf {X : Cx} (hK : X.K = K) : CallR X (.type "tuple") (rTupOf K) := by
  subst hK
  exact call_tuple_of
theorem bi_repr : bootBuiltins "repr" = some (.builtin "repr") := by decide +kernel
/-! ### values laid one behind another -/
structure Sv (K : PySem.W.Frag) (p T8 T9 : Addr) (H : Hp) (R W : List V) : Prop where
  pot : PotAt H p
  t8 : GxR.TabG H T8
  t9 : GxR.TabG H T9
  rw_ : ∀ v ∈ R, RowV K (del H p) v
  vl : ∀ v ∈ W, OkV K (del H p) v
section
variable {p T8 T9 : Addr} {H H' : Hp} {R W : List V}
theorem Sv.kp (S : Sv K p T8 T9 H R W) (k : Kp H H') : Sv K p T8 T9 H' R W :=
  ⟨S.pot.kp k, k.tab _ S.t8, k.tab _ S.t9, fun v hv => (S.rw_ v hv).kp (k.kd S.pot.ntbl), fun v hv => (S.vl v hv).kp (k.kd S.pot.ntbl)⟩
theorem Sv.fr (S : Sv K p T8 T9 H R W) {x : Addr} {o : HO} (h : H x = none) : del (upd H x o) p x = some o := by
  rw [del_ne (fun z => S.pot.nn (by rw [← z]; exact h))]; exact upd_same
theorem Sv.addR (S : Sv K p T8 T9 H R W) {v : V} (r : RowV K (del H p) v) : Sv K p T8 T9 H (v :: R) W :=
  ⟨S.pot, S.t8, S.t9, fun x hx => by
    rcases List.mem_cons.mp hx with z | z
    · rw [z]; exact r
    · exact S.rw_ x z, S.vl⟩
theorem Sv.addV (S : Sv K p T8 T9 H R W) {v : V} (r : OkV K (del H p) v) : Sv K p T8 T9 H R (v :: W) :=
  ⟨S.pot, S.t8, S.t9, S.rw_, fun x hx => by
    rcases List.mem_cons.mp hx with z | z
    · rw [z]; exact r
    · exact S.vl x z⟩
theorem lf_ints {G : Hp} {ns : List Int} (h : ∀ n ∈ ns, -1 ≤ n ∧ n ≤ 16) : ∀ v ∈ ns.map V.int, Lf K G v := fun v hv => by
  obtain ⟨n, hn, rfl⟩ := List.mem_map.mp hv
  exact Lf.int (h n hn).1 (h n hn).2
theorem small12 {n : Nat} (h : n ≤ 12) : n ≤ sizeLine := by rw [sizeLine_eq]; omega
theorem rdI {G : Addr → Prop} (S : Sv K p T8 T9 H R W) (ns : List Int) (h : ns.length ≤ 12 ∧ ∀ n ∈ ns, -1 ≤ n ∧ n ≤ 16)
    (q : ∀ x, H x = none → Kp H (upd H x (.lst (ns.map V.int))) → Sv K p T8 T9 (upd H x (.lst (ns.map V.int))) (.ref x :: R) W → G x) : (ns.map V.int).length ≤ sizeLine ∧ ∀ x, H x = none → G x :=
  ⟨small12 (by rw [List.length_map]; exact h.1), fun x hx => q x hx (Kp.new hx) ((S.kp (Kp.new hx)).addR (.lst (S.fr hx) (by rw [List.length_map]; exact h.1) (lf_ints h.2)))⟩
theorem rdTI {G : Addr → Prop} (S : Sv K p T8 T9 H R W) (ns : List Int) (h : ns.length ≤ 12 ∧ ∀ n ∈ ns, -1 ≤ n ∧ n ≤ 16)
    (q : ∀ x, H x = none → Kp H (upd H x (.tup (ns.map V.int))) → Sv K p T8 T9 (upd H x (.tup (ns.map V.int))) (.ref x :: R) W → G x) : (ns.map V.int).length ≤ sizeLine ∧ ∀ x, H x = none → G x :=
  ⟨small12 (by rw [List.length_map]; exact h.1), fun x hx => q x hx (Kp.new hx) ((S.kp (Kp.new hx)).addR (.tup (S.fr hx) (by rw [List.length_map]; exact h.1) (lf_ints h.2)))⟩
theorem rdR {G : Addr → Prop} (S : Sv K p T8 T9 H R W) (vs : List V) (h : vs.length ≤ 12) (l : ∀ v ∈ vs, ∀ G, Lf K G v)
    (q : ∀ x, H x = none → Kp H (upd H x (.lst vs)) → Sv K p T8 T9 (upd H x (.lst vs)) (.ref x :: R) W → G x) : vs.length ≤ sizeLine ∧ ∀ x, H x = none → G x :=
  ⟨small12 h, fun x hx => q x hx (Kp.new hx) ((S.kp (Kp.new hx)).addR (.lst (S.fr hx) h fun v hv => l v hv _))⟩
theorem rdM {G : Addr → Prop} (S : Sv K p T8 T9 H R W) (vs : List V) (h : vs.length ≤ 12) (l : ∀ v ∈ vs, v ∈ R)
    (q : ∀ x, H x = none → Kp H (upd H x (.lst vs)) → Sv K p T8 T9 (upd H x (.lst vs)) R (.ref x :: W) → G x) : vs.length ≤ sizeLine ∧ ∀ x, H x = none → G x :=
  ⟨small12 h, fun x hx => q x hx (Kp.new hx) ((S.kp (Kp.new hx)).addV (.lst (S.fr hx) h fun v hv => (S.kp (Kp.new hx)).rw_ v (l v hv)))⟩
theorem rdTM {G : Addr → Prop} (S : Sv K p T8 T9 H R W) (vs : List V) (h : vs.length ≤ 12) (l : ∀ v ∈ vs, v ∈ R)
    (q : ∀ x, H x = none → Kp H (upd H x (.tup vs)) → Sv K p T8 T9 (upd H x (.tup vs)) R (.ref x :: W) → G x) : vs.length ≤ sizeLine ∧ ∀ x, H x = none → G x :=
  ⟨small12 h, fun x hx => q x hx (Kp.new hx) ((S.kp (Kp.new hx)).addV (.tup (S.fr hx) h fun v hv => (S.kp (Kp.new hx)).rw_ v (l v hv)))⟩
theorem kp_del_new {G : Hp} {z : Addr} (h : G z = none) : Kp G (del G z) := Kp.of fun b o e => by
  rw [del_ne (fun y => by rw [y, h] at e; cases e)]; exact e
theorem new_at {G : Hp} {x : Addr} (h : G x = none) (o : HO) : upd G x o x = some o := upd_same
theorem okEmpty : L0 (.str "") := ⟨rfl, by decide +kernel, rfl, Nat.zero_le _, by decide +kernel⟩
theorem ok_sc {G : Hp} {v : V} {e : PyData} (r : Rp K G v e) (h : kids e = []) (l : L0 e) : OkV K G v := ⟨e, r, .one h (L0.l1 h l)⟩
theorem accStep {B G : Hp} {D t : Addr} {acc : List V} {o : HO} (k : Kp B G) (hD : B D = none) (hp : PotAt G p) (n : D ≠ p) (ha : G D = some (.lst acc)) (l : ∀ v ∈ acc, RowV K (dd p D G) v) (ht : G t = none) (r : RowV K (dd p D (upd G t o)) (.ref t)) :
    Kp B (upd (upd G t o) D (.lst (acc ++ [.ref t]))) ∧ upd G t o D = some (.lst acc) ∧ ∀ v ∈ acc ++ [.ref t], RowV K (dd p D (upd (upd G t o) D (.lst (acc ++ [.ref t])))) v := by
  have kt : Kp G (upd G t o) := Kp.new ht
  refine ⟨(k.trans kt).over hD, kt.lst ha, fun v hv => ?_⟩
  rw [dd_put n]
  rcases List.mem_append.mp hv with z | z
  · exact (l v z).kp (dd_kp kt hp n ha)
  · have : v = .ref t := by simpa using z
    rw [this]; exact r
theorem tabG_kd {T : Addr} (hp : PotAt H p) (k : Kd p H H') (t : GxR.TabG H T) : GxR.TabG H' T := by
  obtain ⟨ps, h1, h2⟩ := t
  have n : T ≠ p := fun z => hp.ntbl ps (by rw [← z]; exact h1)
  obtain ⟨qs, h3, h4⟩ := Kp.tab (H := del H p) (H' := del H' p) k T ⟨ps, by rw [del_ne n]; exact h1, h2⟩
  exact ⟨qs, del_sub _ _ h3, h4⟩
theorem tabG_upd {T va : Addr} {xs : List V} {o : HO} (h : H va = some (.lst xs)) (t : GxR.TabG H T) : GxR.TabG (upd H va o) T := by
  obtain ⟨ps, h1, h2⟩ := t
  exact ⟨ps, by rw [upd_ne (fun z => by rw [z, h] at h1; cases h1)]; exact h1, h2⟩
theorem row_ok {r : List Int} (n : r.length ≤ 12) (h : ∀ e ∈ r, 0 ≤ e ∧ e < 9) : L1 (rowD r) := (L1.seq (by rw [List.length_map]; exact n) fun e he => by
  obtain ⟨i, hi, rfl⟩ := List.mem_map.mp he
  have := h i hi
  exact L0.int (by omega) (by omega)).1
theorem mat_ok {rs : List (List Int)} (n : rs.length ≤ 12) (h : ∀ r ∈ rs, r.length ≤ 12 ∧ ∀ e ∈ r, 0 ≤ e ∧ e < 9) : Ok (mat rs) := (Ok.seq (by rw [List.length_map]; exact n) fun e he => by
  obtain ⟨r, hr, rfl⟩ := List.mem_map.mp he
  exact row_ok (h r hr).1 (h r hr).2).1
end
section
variable {P : Program} {w : World} {mg : Str → Option Value} {base : Heap} {f : String → Addr} {a c Pt P8 : Addr} {fd g1 g2 g3 g4 g5 g6 : FuncData}
def spRight (T8 T9 : Addr) : Sp := fun vs H Q _ => ∃ p, vs = [.ref p] ∧ PotAt H p ∧ GxR.TabG H T8 ∧ GxR.TabG H T9 ∧ ∀ H', Q (.bl true) H'
abbrev N23 : List Str := ["_law_pot_here", "_law_rows_here", "_law_three", "_law_nine", "_law_values", "_law_turn", "_law_value", "_law_shown", "_law_due", "_law_one", "_law_other", "_law_row"]
theorem sc23 : FnScope N23 ["_law_pot_here"] (defScope (top 23)) := ⟨rfl, rfl, rfl, by decide +kernel, rfl, by decide +kernel, by decide +kernel⟩
abbrev rMax2 : List V → Hp → VK → Prop := fun xs H Q => ∃ i j, xs = [.int i, .int j] ∧ Q (.int (if j > i then j else i)) H
theorem ok23 (T : Tx mg f) (hsys : ∃ o, base.get? sysModules = some o) (F : Fun K "_law_right" "_law_right" (top 23) a fd)
    (G16 : FnOk P w K mg base CX0 2 (f "_law_lots") g1 ["_law_pot_here"] spLots) (B16 : Binds K g1 ["_law_pot_here"] []) (kp16 : PySem.W.keepIn K (.ref (f "_law_lots")) = true)
    (G17 : FnOk P w K mg base CX0 1 (f "_law_rows") g2 ["_law_lots_here"] (spRows K)) (B17 : Binds K g2 ["_law_lots_here"] []) (kp17 : PySem.W.keepIn K (.ref (f "_law_rows")) = true)
    (G21 : FnOk P w K mg base CX0 3 (f "_law_is_table") g3 ["_law_value"] (spLt K)) (B21 : Binds K g3 ["_law_value"] []) (kp21 : PySem.W.keepIn K (.ref (f "_law_is_table")) = true)
    (G22 : FnOk P w K mg base CX0 3 (f "_law_bent") g4 ["_law_pot_here", "_law_rows_here"] (spBent K)) (B22 : Binds K g4 ["_law_pot_here", "_law_rows_here"] []) (kp22 : PySem.W.keepIn K (.ref (f "_law_bent")) = true)
    (G7 : FnOk P w K mg base CX0 8 (f "is_table") g5 ["value"] (spTab K P8 Pt)) (B7 : Binds K g5 ["value"] []) (KB7 : ∀ (s : Shared) (ws : List Value), ws.length = 1 → BindsTo s g5 ⟨[], ([("value" : Str)] : List Str).zip ws⟩ ([("value" : Str)].zip ws)) (kp7 : PySem.W.keepIn K (.ref (f "is_table")) = true) :
    FnG P w K mg base 9 a fd ["_law_pot_here"] (spRight P8 Pt) := by
  refine okG F sc23 (fun vs H Q E h => ?_) (fun cdv A outer s H vs Q hr hgd h => ?_)
  · obtain ⟨_, rfl, _⟩ := h
    rfl
  obtain ⟨p, rfl, hp, h8, h9, q⟩ := h
  have hu := hr.units
  refine ⟨_, pss_cons (ps_set (i := 1) sc23.nd rfl (Or.inl rfl) (pe_call G17 (hr.mono (by decide)) rfl (T.fn "_law_rows" (by simp)) kp17 B17 .nil pass0 (pa_cons (pe_call G16 (hr.mono (by decide)) rfl (T.fn "_law_lots" (by simp)) kp16 B16 .nil pass0 (pa_cons (pv 0) pa_nil)) pa_nil)))
    (pss_cons (ps_set (i := 2) sc23.nd rfl (Or.inl rfl) (pe_lst (pa_cons (pe_lst (pa_cons pe_int (pa_cons pe_int (pa_cons pe_int (pa_cons pe_int pa_nil))))) (pa_cons (pe_lst (pa_cons pe_int (pa_cons pe_int (pa_cons pe_int (pa_cons pe_int pa_nil))))) (pa_cons (pe_lst (pa_cons pe_int (pa_cons pe_int (pa_cons pe_int (pa_cons pe_int pa_nil))))) (pa_cons (pe_lst (pa_cons pe_int (pa_cons pe_int (pa_cons pe_int (pa_cons pe_int pa_nil))))) pa_nil))))))
    (pss_cons (ps_setLc (i := 3) (own := [("_law_one", 9)]) (g := gName 9) (tt := tYes) (te := tLc (iRng1 (tCons (tC (.int 9)) tNil)) (gName 10) tYes (tCB rMax2 (tCons (tVar 9) (tCons (tVar 10) tNil))) [10]) rfl sc23.nd rfl rfl (sw_true rfl rfl rfl (by decide +kernel)) (pi_range1 rfl (T.bl "range" (by simp)) (pa_cons pe_int pa_nil)) (blkOk_by (by change blkC N23 (defScope (top 23)) _ _ = true; decide +kernel)) (fun _ _ _ _ _ => pg_name (i := 9) sc23.nd rfl (by first | exact Or.inl rfl | exact Or.inr rfl)) (fun _ _ _ _ _ => pts_nil) (fun _ _ _ _ _ => ?nine))
    (pss_cons (ps_set (i := 4) sc23.nd rfl (Or.inl rfl) (pe_lst (pa_cons (pv 1) (pa_cons (pe_callTy (cr_tupOf (K := K) rfl) rfl (T.bl "tuple" (by simp)) bi_tuple (pa_cons (pe_lc (own := [("_law_row", 11)]) (g := gName 11) (tt := tYes) (te := tCB (rTupOf K) (tCons (tVar 11) tNil)) rfl sc23.nd (pi_list (pv 1)) (blkOk_by (by change blkC N23 (defScope (top 23)) _ _ = true; decide +kernel)) (fun _ _ _ _ _ => pg_name (i := 11) sc23.nd rfl (Or.inl rfl)) (fun _ _ _ _ _ => pts_nil) (fun _ _ _ _ _ => ?tups)) pa_nil))
        (pa_cons (pv 2) (pa_cons (pv 3) (pa_cons (pe_lc (own := [("_law_row", 11)]) (g := gName 11) (tt := tYes) (te := tSl (rSlL K) (tVar 11) tNoPart (tPart (tC (.int 8)))) rfl sc23.nd (pi_list (pe_slice sl_list (pv 3) po_none (po_some pe_int))) (blkOk_by (by change blkC N23 (defScope (top 23)) _ _ = true; decide +kernel)) (fun _ _ _ _ _ => pg_name (i := 11) sc23.nd rfl (Or.inl rfl)) (fun _ _ _ _ _ => pts_nil) (fun _ _ _ _ _ => ?cuts)) pa_nil)))))))
    (pss_cons (ps_set (i := 4) sc23.nd rfl (Or.inl rfl) (pe_op op_cat (pv 4) (pe_lst (pa_cons (pe_lst (pa_cons (pe_lst (pa_cons pe_int (pa_cons pe_int pa_nil))) (pa_cons (pe_lst (pa_cons pe_int (pa_cons pe_int pa_nil))) pa_nil)))
        (pa_cons (pe_lst (pa_cons (pe_lst (pa_cons pe_int (pa_cons pe_int (pa_cons pe_int pa_nil)))) (pa_cons (pe_lst (pa_cons pe_int (pa_cons pe_int (pa_cons pe_int pa_nil)))) (pa_cons (pe_lst (pa_cons pe_int (pa_cons pe_int (pa_cons pe_int pa_nil)))) pa_nil)))) pa_nil)))))
    (pss_cons (ps_set (i := 4) sc23.nd rfl (Or.inl rfl) (pe_op op_cat (pv 4) (pe_lst (pa_cons pe_non (pa_cons pe_bl (pa_cons pe_int (pa_cons pe_str (pa_cons (pe_lst pa_nil) (pa_cons pe_dnewK (pa_cons (pe_lst (pa_cons (pe_lst pa_nil) pa_nil)) (pa_cons (pe_lst (pa_cons (pe_lst (pa_cons pe_int pa_nil)) pa_nil))
        (pa_cons (pe_tup (pa_cons (pe_tup (pa_cons pe_int pa_nil)) pa_nil)) (pa_cons (pe_lst (pa_cons (pe_lst (pa_cons pe_bl pa_nil)) pa_nil)) (pa_cons (pe_lst (pa_cons (pe_lst (pa_cons pe_int (pa_cons pe_int pa_nil))) (pa_cons (pe_lst (pa_cons pe_int (pa_cons pe_int pa_nil))) pa_nil))) pa_nil))))))))))))))
    (pss_cons (ps_for PassesOwn.never rfl (pi_range1 rfl (T.bl "range" (by simp)) (pa_cons pe_int pa_nil)) (pg_name (i := 5) sc23.nd rfl (Or.inl rfl))
      (pss_one (ps_expr (pe_bm PySem.F.plainAttrs_list PySem.F.slot_list_append PySem.F.type_list_append mt_append (pv 4) (pa_cons (pe_call G22 (hr.mono (by decide)) rfl (T.fn "_law_bent" (by simp)) kp22 B22 .nil pass0 (pa_cons (pv 0) (pa_cons (pv 1) pa_nil))) pa_nil)))))
    (pss_cons (ps_for PassesOwn.never rfl (pi_list (pv 4)) (pg_name (i := 6) sc23.nd rfl (Or.inl rfl))
      (pss_cons (ps_par (i := 7) (j := 8) rfl sc23.nd rfl rfl (by decide) rfl rfl (pa_cons (pe_callB (cr_repr hu hgd hsys) rfl (T.bl "repr" (by simp)) bi_repr (pa_cons (pv 6) pa_nil)) (pa_cons (pe_callB (cr_repr hu hgd hsys) rfl (T.bl "repr" (by simp)) bi_repr (pa_cons (pe_call G21 (hr.mono (by decide)) rfl (T.fn "_law_is_table" (by simp)) kp21 B21 .nil pass0 (pa_cons (pv 6) pa_nil)) pa_nil)) pa_nil)) (by rfl))
      (pss_one (ps_if (PW.pt (pw_or (pt_cmpR op_ne (pe_callB (cr_repr hu hgd hsys) rfl (T.bl "repr" (by simp)) bi_repr (pa_cons (pe_call G7 hr rfl (T.fn "is_table" (by simp)) kp7 B7 .nil pass0 (pa_cons (pv 6) pa_nil)) pa_nil)) (pv 8) (nomark _))
        (pw_or (pt_cmpR op_ne (pe_callB (cr_repr hu hgd hsys) rfl (T.bl "repr" (by simp)) bi_repr (pa_cons (pe_callK0 G7 hr rfl (T.fn "is_table" (by simp)) kp7 KB7 (pk_cons (pv 6) pk_nil)) pa_nil)) (pv 8) (nomark _))
          (pw_or1 (pt_cmpR op_ne (pe_callB (cr_repr hu hgd hsys) rfl (T.bl "repr" (by simp)) bi_repr (pa_cons (pv 6) pa_nil)) (pv 7) (nomark _)))))) (pss_one (ps_ret pe_bl)) pss_nil))))
    (pss_one (ps_ret pe_bl))))))))), ?_⟩
  case nine =>
    refine pe_lc (own := [("_law_other", 10)]) (g := gName 10) (tt := tYes) (by rfl) sc23.nd ?_ ?_ (fun _ _ _ _ _ => ?_) (fun _ _ _ _ _ => pts_nil) (fun _ _ _ _ _ => ?_)
    · exact pi_range1 rfl (T.bl "range" (by simp)) (pa_cons pe_int pa_nil)
    · exact blkOk_by (by change blkC N23 (relS _ (defScope (top 23))) _ _ = true; decide +kernel)
    · exact pg_name (i := 10) sc23.nd rfl (by first | exact Or.inl rfl | exact Or.inr rfl)
    · exact pe_callB (call_max2 rfl) rfl (T.bl "max" (by simp)) bi_max (pa_cons (pv 9) (pa_cons (pv 10) pa_nil))
  case tups => exact pe_callTy (cr_tupOf (K := K) rfl) rfl (T.bl "tuple" (by simp)) bi_tuple (pa_cons (pv 11) pa_nil)
  case cuts => exact pe_slice sl_list (pv 11) po_none (po_some pe_int)
  refine ⟨_, rfl, p, rfl, hp, fun ts t H1 n1 n8 r16 cl ntp frt ht hp1 k1 => ?_⟩
  obtain ⟨px, py, hpx, _⟩ := id hp1
  refine ⟨t, ts, p, _, rfl, hpx, ht, n1, n8, cl, fun rs l H2 lrs hrs rp fr k2 => ?_⟩
  have hp2 := hp1.kp k2
  have h82 := k2.tab _ (tabG_kd hp k1 h8)
  have h92 := k2.tab _ (tabG_kd hp k1 h9)
  have okm : Ok (mat rs) := mat_ok (by omega) fun r hr => ⟨by rw [(hrs r hr).1]; omega, fun e he => by have := (hrs r hr).2 e he; omega⟩
  have rws : Rws rs ts.length := ⟨lrs, n1, n8, hrs⟩
  have S0 : Sv K p P8 Pt H2 [] [.ref l] := ⟨hp2, h82, h92, (fun v hv => by cases hv), fun v hv => by
    have : v = .ref l := by simpa using hv
    rw [this]
    exact ⟨_, rp, okm⟩⟩
  clear h82 h92 hp1 k1 ht frt hpx cl r16 h8 h9 hp fr k2
  refine rdI S0 [0, 1, 2, 3] (by decide) fun x1 _ k1 S1 => rdI S1 [1, 1, 2, 1] (by decide) fun x2 _ k2 S2 => rdI S2 [2, 2, 2, 3] (by decide) fun x3 _ k3 S3 => rdI S3 [3, 1, 3, 3] (by decide) fun x4 _ k4 S4 => rdM S4 [.ref x1, .ref x2, .ref x3, .ref x4] (by simp) (by simp) fun tr _ k5 S5 => ?_
  have rp5 := rp.kp (((((k1.trans k2).trans k3).trans k4).trans k5).kd hp2.ntbl)
  -- nine
  refine ⟨9, rfl, by decide, by decide, fun N hN => ?_⟩
  obtain ⟨B, kB, SB, hB, rpB⟩ : ∃ B : Hp, Kp B (upd _ N (HO.lst [])) ∧ Sv K p P8 Pt B _ [.ref tr, .ref l] ∧ B N = none ∧ Rp K (del B p) (.ref l) (mat rs) := ⟨_, Kp.new hN, S5, hN, rp5⟩
  have nNp : N ≠ p := fun z => SB.pot.nn (by rw [← z]; exact hB)
  refine lc_range (lo := 0) (n := 9) (fun i H' => Kp B H' ∧ ∃ as : List Addr, H' N = some (.lst (as.map V.ref)) ∧ as.length = i ∧ ∀ b ∈ as, b ≠ p ∧ b ≠ N ∧ ∃ ns : List Int, H' b = some (.lst (ns.map V.int)) ∧ ns.length = 9 ∧ ∀ e ∈ ns, 0 ≤ e ∧ e < 9)
    ⟨kB, [], upd_same, rfl, fun b hb => by cases hb⟩ ?_ ?_
  · rintro i H6 hi ⟨k6, as, hN6, las, has⟩
    refine ⟨rfl, 9, rfl, by decide, by decide, fun M hM => ?_⟩
    have nMp : M ≠ p := fun z => (SB.pot.kp k6).nn (by rw [← z]; exact hM)
    have nMN : M ≠ N := fun z => by rw [z, hN6] at hM; cases hM
    refine lc_range (lo := 0) (n := 9) (fun j H' => Kp H6 H' ∧ ∃ ns : List Int, H' M = some (.lst (ns.map V.int)) ∧ ns.length = j ∧ ∀ e ∈ ns, 0 ≤ e ∧ e < 9) ⟨Kp.new hM, [], upd_same, rfl, fun b hb => by cases hb⟩ ?_ ?_
    · rintro j H7 hj ⟨k7, ns, hM7, lns, hns⟩
      refine ⟨rfl, _, rfl, _, rfl, _, _, rfl, _, hM7, by rw [sizeLine_eq, List.length_map]; omega, k7.over hM, ns ++ [_], by rw [List.map_append]; exact upd_same, by rw [List.length_append, lns]; rfl, fun e he => ?_⟩
      rcases List.mem_append.mp he with h | h
      · exact hns e h
      · rw [List.mem_singleton] at h
        rw [h]
        split <;> omega
    · rintro H7 ⟨k7, ns, hM7, lns, hns⟩
      refine ⟨_, k7.lst hN6, by rw [sizeLine_eq, List.length_map]; omega, (k6.trans k7).over hB, as ++ [M], by rw [List.map_append]; exact upd_same, by rw [List.length_append, las]; rfl, fun b hb => ?_⟩
      rcases List.mem_append.mp hb with h | h
      · obtain ⟨h1, h2, ms, h3, h4⟩ := has b h
        exact ⟨h1, h2, ms, by rw [upd_ne h2]; exact k7.lst h3, h4⟩
      · have : b = M := by simpa using h
        rw [this]
        exact ⟨nMp, nMN, ns, by rw [upd_ne nMN]; exact hM7, lns, hns⟩
  rintro H6 ⟨k6, as, hN6, las, has⟩
  have S6 := SB.kp k6
  have rp6 := rpB.kp (k6.kd SB.pot.ntbl)
  have S6 : Sv K p P8 Pt H6 _ [.ref N, .ref tr, .ref l] := S6.addV (.lst (vs := as.map V.ref) (by rw [del_ne nNp]; exact hN6) (by rw [List.length_map]; omega) fun v hv => by
    obtain ⟨b, hb, rfl⟩ := List.mem_map.mp hv
    obtain ⟨h1, h2, ns, h3, h4, h5⟩ := has b hb
    exact .lst (vs := ns.map V.int) (by rw [del_ne h1]; exact h3) (by rw [List.length_map]; omega) (lf_ints fun e he => by have := h5 e he; omega))
  clear k6 rpB hB kB rp5 S5 S4 S3 S2 S1 k1 k2 k3 k4 k5
  clear SB B
  -- the first five
  have ⟨xl, hl6, rl6⟩ : ∃ xl, del H6 p l = some (.lst xl) ∧ RpL K (del H6 p) xl (rs.map rowD) := by
    cases rp6 with
    | lst h r => exact ⟨_, h, r⟩
  obtain ⟨nlp, hl6'⟩ := del_some hl6
  have lxl : xl.length ≤ 8 := by rw [rl6.length, List.length_map]; omega
  refine ⟨_, rfl, _, rfl, l, rfl, ⟨_, .inl (.inl hl6')⟩, fun D hD => ?_⟩
  have nDp : D ≠ p := fun z => S6.pot.nn (by rw [← z]; exact hD)
  refine lc_list (xs := xl) (fun i H' => Kp H6 H' ∧ ∃ acc, H' D = some (.lst acc) ∧ acc.length = i ∧ ∀ v ∈ acc, RowV K (dd p D H') v) ⟨Kp.new hD, [], upd_same, rfl, fun b hb => by cases hb⟩ (fun i H' _ v => .inl (.inl (v.1.lst hl6'))) ?_ ?_
  · rintro i v H7 hv ⟨k7, acc, hacc, lacc, racc⟩
    have hi := (List.getElem?_eq_some_iff.mp hv).1
    obtain ⟨dr, hdr, rv⟩ := rpl_at rl6 (List.mem_of_getElem? hv)
    obtain ⟨r, hr', rfl⟩ := List.mem_map.mp hdr
    have ⟨b, ys, ev, hb, ry⟩ : ∃ b ys, v = .ref b ∧ del H6 p b = some (.lst ys) ∧ RpL K (del H6 p) ys (r.map PyData.int) := by
      cases rv with
      | lst h r => exact ⟨_, _, rfl, h, r⟩
    subst ev
    have ey := rpl_ints ry
    subst ey
    have hb7 := k7.lst (del_some hb).2
    refine ⟨rfl, _, rfl, b, _, rfl, .inl ⟨.inl (.inl hb7), fun t ht => ?_⟩⟩
    have ntp : t ≠ p := fun z => (S6.pot.kp k7).nn (by rw [← z]; exact ht)
    have ntD : t ≠ D := fun z => by rw [z, hacc] at ht; cases ht
    obtain ⟨a1, a2, a3⟩ := accStep k7 hD (S6.pot.kp k7) nDp hacc racc ht (.tup (vs := r.map V.int) (dd_at ntp ntD upd_same) (by rw [List.length_map, (hrs r hr').1]; omega) (lf_ints fun e he => by have := (hrs r hr').2 e he; omega))
    exact ⟨acc, a2, by rw [sizeLine_eq]; omega, a1, _, upd_same, by rw [List.length_append, lacc]; rfl, a3⟩
  rintro H7 ⟨k7, acc, hacc, lacc, racc⟩
  refine ⟨D, acc, rfl, .inl ⟨.inl (.inl hacc), fun tt htt => ?_⟩⟩
  have S7 := S6.kp k7
  have kt : Kp H7 (upd H7 tt (.tup acc)) := Kp.new htt
  have k67 := k7.trans kt
  have S8 : Sv K p P8 Pt (upd H7 tt (.tup acc)) _ [.ref tt, .ref N, .ref tr, .ref l] := (S7.kp kt).addV (.tup (S7.fr htt) (by omega) fun v hv => ((racc v hv).kp kp_del_in).kp (kt.kd S7.pot.ntbl))
  have rp8 := rp6.kp (k67.kd S6.pot.ntbl)
  have hN8 := k67.lst hN6
  refine ⟨_, rfl, _, rfl, _, rfl, _, rfl, N, _, rfl, .inl (.inl hN8), fun sl hsl => ⟨sl, rfl, ⟨_, .inl (.inl upd_same)⟩, fun D2 hD2 => ?_⟩⟩
  obtain ⟨B, kB, SB, hB, rpB, hsB, kNB⟩ : ∃ B : Hp, Kp B (upd _ D2 (HO.lst [])) ∧ Sv K p P8 Pt B _ [.ref tt, .ref N, .ref tr, .ref l] ∧ B D2 = none ∧ Rp K (del B p) (.ref l) (mat rs) ∧ B sl = some (.lst (cutV (as.map V.ref) none (some 8))) ∧ Kp H6 B :=
    ⟨_, Kp.new hD2, S8.kp (Kp.new hsl), hD2, rp8.kp ((Kp.new hsl).kd S8.pot.ntbl), upd_same, k67.trans (Kp.new hsl)⟩
  have nD2p : D2 ≠ p := fun z => SB.pot.nn (by rw [← z]; exact hB)
  have lcut := cut_hi (as.map V.ref) (i := 8) (by decide)
  refine lc_list (xs := cutV (as.map V.ref) none (some 8)) (fun i H' => Kp B H' ∧ ∃ acc, H' D2 = some (.lst acc) ∧ acc.length = i ∧ ∀ v ∈ acc, RowV K (dd p D2 H') v) ⟨kB, [], upd_same, rfl, fun b hb => by cases hb⟩ (fun i H' _ v => .inl (.inl (v.1.lst hsB))) ?_ ?_
  · rintro i v H9 hv ⟨k9, acc2, hacc2, lacc2, racc2⟩
    have hi := (List.getElem?_eq_some_iff.mp hv).1
    obtain ⟨b, hb, rfl⟩ := List.mem_map.mp (cut_mem (List.mem_of_getElem? hv))
    obtain ⟨h1, h2, ns, h3, h4, h5⟩ := has b hb
    have hb9 := (kNB.trans k9).lst h3
    refine ⟨rfl, _, rfl, _, rfl, b, _, rfl, .inl (.inl hb9), fun t ht => ?_⟩
    have ntp : t ≠ p := fun z => (SB.pot.kp k9).nn (by rw [← z]; exact ht)
    have ntD : t ≠ D2 := fun z => by rw [z, hacc2] at ht; cases ht
    have lc9 := cutV_length (ns.map V.int) none (some 8)
    rw [List.length_map] at lc9
    obtain ⟨a1, a2, a3⟩ := accStep k9 hB (SB.pot.kp k9) nD2p hacc2 racc2 ht (.lst (vs := cutV (ns.map V.int) none (some 8)) (dd_at ntp ntD upd_same) (by omega) fun v hv => lf_ints (fun e he => by have := h5 e he; omega) v (cut_mem hv))
    exact ⟨acc2, a2, by rw [sizeLine_eq]; omega, a1, _, upd_same, by rw [List.length_append, lacc2]; rfl, a3⟩
  rintro H9 ⟨k9, acc2, hacc2, lacc2, racc2⟩
  have S9 : Sv K p P8 Pt H9 [] [.ref D2, .ref tt, .ref N, .ref tr, .ref l] := ⟨SB.pot.kp k9, k9.tab _ SB.t8, k9.tab _ SB.t9, (fun v hv => by cases hv), ((SB.kp k9).addV (.lst (vs := acc2) (by rw [del_ne nD2p]; exact hacc2) (by omega) fun v hv => (racc2 v hv).kp kp_del_in)).vl⟩
  have rp9 := rpB.kp (k9.kd SB.pot.ntbl)
  clear racc2 hacc2 lacc2 rpB k9 kB hB hsB kNB SB lcut rp8 S8 S7 k67 kt racc hacc lacc k7 rl6 hl6 hl6' has hN6 hN8 S6 rp6 nD2p
  refine ⟨by show 5 ≤ sizeLine; decide, fun va hva => ?_⟩
  have S10 := S9.kp (Kp.new (o := .lst [.ref l, .ref tt, .ref tr, .ref N, .ref D2]) hva)
  have rp10 := rp9.kp ((Kp.new (o := .lst [.ref l, .ref tt, .ref tr, .ref N, .ref D2]) hva).kd S9.pot.ntbl)
  have hva' := new_at hva (.lst [.ref l, .ref tt, .ref tr, .ref N, .ref D2])
  refine ⟨_, rfl, ?_⟩
  refine rdI S10 [0, 1] (by decide) fun x1 _ k1 S11 => rdI S11 [0, 1] (by decide) fun x2 _ k2 S12 => rdM S12 [.ref x1, .ref x2] (by simp) (by simp) fun m1 _ k3 S13 => rdI S13 [0, 1, 2] (by decide) fun x3 _ k4 S14 => rdI S14 [1, 1, 0] (by decide) fun x4 _ k5 S15 => rdI S15 [2, 0, 2] (by decide) fun x5 _ k6 S16 => rdM S16 [.ref x3, .ref x4, .ref x5] (by simp) (by simp) fun m2 _ k7 S17 => ⟨by show 2 ≤ sizeLine; decide, fun z hz => ?_⟩
  have kz := Kp.new (o := .lst [.ref m1, .ref m2]) hz
  have kA := ((((((k1.trans k2).trans k3).trans k4).trans k5).trans k6).trans k7).trans kz
  refine ⟨va, z, _, _, rfl, rfl, kA.lst hva', upd_same, by show 7 ≤ sizeLine; decide, fun vb hvb => ?_⟩
  have kb := Kp.new (o := .lst ([.ref l, .ref tt, .ref tr, .ref N, .ref D2] ++ [.ref m1, .ref m2])) hvb
  have S18 := (S17.kp kz).kp kb
  have rp18 := rp10.kp ((kA.trans kb).kd S10.pot.ntbl)
  have hvb' := new_at hvb (.lst ([.ref l, .ref tt, .ref tr, .ref N, .ref D2] ++ [.ref m1, .ref m2]))
  refine ⟨_, rfl, ?_⟩
  refine rdM S18 [] (by decide) (fun v hv => by cases hv) fun e1 _ j1 T1 => fun dk hdk => ?_
  have j2 := Kp.new (o := .dK []) hdk
  have T2 := (T1.kp j2).addV (v := .ref dk) ⟨_, .dct (T1.fr hdk), .one rfl L1.dct⟩
  refine rdI T2 [] (by decide) fun y1 _ j3 T3 => rdM T3 [.ref y1] (by simp) (by simp) fun e2 _ j4 T4 => rdI T4 [0] (by decide) fun y2 _ j5 T5 => rdM T5 [.ref y2] (by simp) (by simp) fun e3 _ j6 T6 => rdTI T6 [0] (by decide) fun y3 _ j7 T7 => rdTM T7 [.ref y3] (by simp) (by simp) fun e4 _ j8 T8 =>
    rdR T8 [.bl false] (by simp) (fun v hv G => by rw [List.mem_singleton.mp hv]; exact ⟨_, .bl _, L0.bl _⟩) fun y4 _ j9 T9 => rdM T9 [.ref y4] (by simp) (by simp) fun e5 _ j10 T10 => rdI T10 [0, 0] (by decide) fun y5 _ j11 T11 => rdI T11 [0, 0] (by decide) fun y6 _ j12 T12 => rdM T12 [.ref y5, .ref y6] (by simp) (by simp) fun e6 _ j13 T13 => ⟨by show 11 ≤ sizeLine; decide, fun z2 hz2 => ?_⟩
  have jz := Kp.new (o := .lst [.non, .bl true, .int 0, .str "", .ref e1, .ref dk, .ref e2, .ref e3, .ref e4, .ref e5, .ref e6]) hz2
  have jA := (((((((((((((j1.trans j2).trans j3).trans j4).trans j5).trans j6).trans j7).trans j8).trans j9).trans j10).trans j11).trans j12).trans j13).trans jz)
  refine ⟨vb, z2, _, _, rfl, rfl, jA.lst hvb', upd_same, by show 18 ≤ sizeLine; decide, fun vc hvc => ?_⟩
  have T14 := T13.kp jz
  have rp14 := rp18.kp (jA.kd S18.pot.ntbl)
  have nvp : vc ≠ p := fun y => T14.pot.nn (by rw [← y]; exact hvc)
  have okAll : ∀ v ∈ ([.ref l, .ref tt, .ref tr, .ref N, .ref D2] ++ [.ref m1, .ref m2]) ++ [.non, .bl true, .int 0, .str "", .ref e1, .ref dk, .ref e2, .ref e3, .ref e4, .ref e5, .ref e6], OkV K (del _ p) v := fun v hv => by
    simp only [List.cons_append, List.nil_append, List.mem_cons, List.not_mem_nil, or_false] at hv
    rcases hv with rfl | rfl | rfl | rfl | rfl | rfl | rfl | rfl | rfl | rfl | rfl | rfl | rfl | rfl | rfl | rfl | rfl | rfl
    case inr.inr.inr.inr.inr.inr.inr.inl => exact ok_sc .non rfl L0.non
    case inr.inr.inr.inr.inr.inr.inr.inr.inl => exact ok_sc (.bl true) rfl (L0.bl true)
    case inr.inr.inr.inr.inr.inr.inr.inr.inr.inl => exact ok_sc (.int 0) rfl (L0.int (by decide) (by decide))
    case inr.inr.inr.inr.inr.inr.inr.inr.inr.inr.inl => exact ok_sc (.str "") rfl okEmpty
    all_goals exact T14.vl _ (by simp)
  have T15 := T14.kp (Kp.new (o := .lst (([.ref l, .ref tt, .ref tr, .ref N, .ref D2] ++ [.ref m1, .ref m2]) ++ [.non, .bl true, .int 0, .str "", .ref e1, .ref dk, .ref e2, .ref e3, .ref e4, .ref e5, .ref e6])) hvc)
  refine ⟨5, rfl, by decide, by decide, ?_⟩
  refine for_range (lo := 0) (n := 5) (fun i σ H' => ∃ o5, σ = [some (.ref p), some (.ref l), some (.ref tr), some (.ref N), some (.ref vc), o5, none, none, none, none, none, none] ∧ PotAt H' p ∧ GxR.TabG H' P8 ∧ GxR.TabG H' Pt ∧ Rp K (dd p vc H') (.ref l) (mat rs) ∧ ∃ vs : List V, H' vc = some (.lst vs) ∧ vs.length = 18 + i ∧ ∀ v ∈ vs, OkV K (dd p vc H') v)
    ⟨none, rfl, T15.pot, T15.t8, T15.t9, by rw [dd_put nvp]; exact rp14.kp (kp_del_new (del_none hvc)), _, upd_same, rfl, fun v hv => by rw [dd_put nvp]; exact (okAll v hv).kp (kp_del_new (del_none hvc))⟩ ?_ ?_
  · rintro i σ H1 hi ⟨o5, rfl, hp1, h81, h91, rp1, vs, hvs, lvs, ok1⟩
    refine ⟨_, rfl, .inl ⟨rfl, _, .inl (.inl hvs)⟩, _, rfl, _, rfl, p, l, rs, ts.length, rfl, hp1, rp1.kp kp_del_in, rws, fun v H3 okv hp3 k3 => ?_⟩
    have hv3 := Kd.lst k3 nvp hvs
    have kd3 := dd_kd k3 nvp hvs
    refine ⟨vc, vs, v, rfl, rfl, hv3, by rw [sizeLine_eq]; omega, ?_⟩
    refine ⟨_, rfl, ?_, tabG_upd hv3 (tabG_kd hp1 k3 h81), tabG_upd hv3 (tabG_kd hp1 k3 h91), by rw [dd_put nvp]; exact rp1.kp kd3, vs ++ [v], upd_same, by rw [List.length_append, lvs]; rfl, fun u hu => ?_⟩
    · obtain ⟨x, y, e, r⟩ := hp3
      exact ⟨x, y, by rw [upd_ne (Ne.symm nvp)]; exact e, r⟩
    · rw [dd_put nvp]
      rcases List.mem_append.mp hu with h | h
      · exact (ok1 u h).kp kd3
      · rw [List.mem_singleton] at h
        rw [h]
        obtain ⟨d, rd, okd⟩ := okv
        exact ⟨d, Rp.out (G := del H3 p) (xs := vs) (by rw [del_ne nvp]; exact hv3) (by omega) d v rd okd.na, okd⟩
  rintro σ H1 ⟨o5, rfl, hp1, h81, h91, rp1, vs, hvs, lvs, ok1⟩
  have ok2 : ∀ v ∈ vs, OkV K H1 v := fun v hv => ((ok1 v hv).kp kp_del_in).kp kp_del_in
  refine ⟨_, rfl, vc, rfl, ⟨_, .inl (.inl hvs)⟩, ?_⟩
  refine for_list (xs := vs) (fun i σ H' => Kp H1 H' ∧ ∃ o6 o7 o8, σ = [some (.ref p), some (.ref l), some (.ref tr), some (.ref N), some (.ref vc), o5, o6, o7, o8, none, none, none]) ⟨Kp.refl _, _, _, _, rfl⟩ (fun i σ H' _ v => .inl (.inl (v.1.lst hvs))) ?_ ?_
  · rintro i v σ H2 hv ⟨k2, o6, o7, o8, rfl⟩
    obtain ⟨d, rd, okd⟩ := (ok2 v (List.mem_of_getElem? hv)).kp k2
    have dz : d.depth ≤ 60 := by have := okd.dp; omega
    have lz : d.shown.length ≤ sizeLine := by rw [sizeLine_eq]; have := okd.ln; omega
    have bz : ∀ b : Bool, (PyData.bool b).shown.length ≤ sizeLine := fun b => by rw [sizeLine_eq]; cases b <;> exact Nat.le_trans (show _ ≤ 10 by decide +kernel) (by decide)
    refine ⟨_, rfl, v, d, rfl, rd, okd.sh, dz, lz, ?_⟩
    refine ⟨_, rfl, v, d, rfl, rd, okd.lay, fun b1 H3 hb1 k3 => ?_⟩
    refine ⟨.bl b1, .bool b1, rfl, .bl b1, rfl, Nat.zero_le _, bz b1, _, _, rfl, ?_⟩
    have same : ∀ b2 : Bool, (b2 = true ↔ IsT d) → b2 = b1 := fun b2 h => by
      cases b1 <;> cases b2 <;> first | rfl | exact absurd (h.trans hb1.symm) (by simp)
    have k13 := k2.trans k3
    refine ⟨_, rfl, v, d, rfl, rd.kp k3, k13.tab _ h81, k13.tab _ h91, fun b2 H4 hb2 k4 => ?_⟩
    have e2 := same b2 hb2
    subst e2
    refine ⟨.bl b2, .bool b2, rfl, .bl b2, rfl, Nat.zero_le _, bz b2, _, rfl, rfl, _, rfl, ite2 (fun c => absurd c (by simp)) (fun _ => ?_)⟩
    have k14 := k13.trans k4
    refine ⟨_, rfl, v, d, rfl, rd.kp (k3.trans k4), k14.tab _ h81, k14.tab _ h91, fun b3 H5 hb3 k5 => ?_⟩
    have e3 := same b3 hb3
    subst e3
    refine ⟨.bl b3, .bool b3, rfl, .bl b3, rfl, Nat.zero_le _, bz b3, _, rfl, rfl, _, rfl, ite2 (fun c => absurd c (by simp)) (fun _ => ?_)⟩
    have k15 := k14.trans k5
    refine ⟨_, rfl, v, d, rfl, rd.kp (k3.trans (k4.trans k5)), okd.sh, dz, lz, _, rfl, rfl, _, rfl, ite2 (fun c => absurd c (by simp)) (fun _ => ?_)⟩
    exact ⟨k15, _, _, _, rfl⟩
  · rintro σ H2 ⟨k2, o6, o7, o8, rfl⟩
    exact q _
end
end Tb

namespace Tb
open PySem PySem.Spec PyProof.Rows L2
/-! ### the end: the law's def is called, nothing tracked but its script and two tables -/
section
variable {K : PySem.W.Frag} {tb : List Addr} {a : Addr} {ob : Obj} {xs : List V}
open Classical in
/-- what is tracked at the start -/
noncomputable def st0 (K : PySem.W.Frag) (tb : List Addr) (a : Addr) (ob : Obj) (xs : List V) : Hp := fun b => if b ∈ tb then some (.tbl #[]) else if b = a ∧ K.lookup a = none then some (.frz ob (.lst xs)) else none
theorem st0_tab {b : Addr} (h : b ∈ tb) : st0 K tb a ob xs b = some (.tbl #[]) := if_pos h
theorem st0_by {b : Addr} {u : HO} (h : st0 K tb a ob xs b = some u) : (b ∈ tb ∧ u = .tbl #[]) ∨ (b = a ∧ K.lookup a = none ∧ u = .frz ob (.lst xs)) := by
  unfold st0 at h
  split at h
  · exact .inl ⟨by assumption, (Option.some.inj h).symm⟩
  · split at h
    · rename_i z
      exact .inr ⟨z.1, z.2, (Option.some.inj h).symm⟩
    · cases h
theorem st0_un {b : Addr} (h : st0 K tb a ob xs b = none) : b ∉ tb ∧ ¬ (b = a ∧ K.lookup a = none) := by
  unfold st0 at h
  split at h
  · cases h
  · split at h
    · cases h
    · exact ⟨by assumption, by assumption⟩
theorem un_of {b : Addr} (h : ∀ u, st0 K tb a ob xs b ≠ some u) : st0 K tb a ob xs b = none := by
  cases q : st0 K tb a ob xs b with
  | none => rfl
  | some u => exact absurd q (h u)
end
section
variable {P : Program} {w : World} {K : PySem.W.Frag} {mg mb : Str → Option Value} {k : Nat} {fa a : Addr} {cs : List (Addr × Addr)} {fd : FuncData} {x : Str} {sp : Sp} {s : Shared} {us : List Value} {ns : List Int}
theorem law_end (X : K.In s.heap) (gl : s.heap.Ns mainGlobals mg) (bl : s.heap.Ns builtinsNs mb) (blb : ∀ y : Str, y ≠ "__name__" → mb y = bootBuiltins y) (nl : s.heap.NoLimit) (ge : s.gens = #[]) (sm : ∃ mm, s.heap.Ns sysModules mm)
    (tT : ∀ q ∈ cs, s.heap.get? q.2 = some { cls := .none, data := .fields #[] }) (tK : ∀ q ∈ cs, K.lookup q.2 = none) (tC : ∀ q ∈ cs, PySem.W.CodeHd s.heap q.1 q.2)
    (bm : ∃ (m : Addr) (o : Obj), mg "__builtins__" = some (.ref m) ∧ m ≠ builtinsNs ∧ s.heap.get? m = some o ∧ o.cls = .type "module" ∧ o.dict = some builtinsNs ∧ o.data = .plain)
    (oa : s.heap.get? a = some { cls := .type "list", data := .seq us.toArray }) (ia : IntsAre us ns) (la : ns.length ≤ sizeLine) (rm : Room k callerA) (gd : callerA.guards = some [])
    (F : ∀ base : Heap, K.In base → base.Ns mainGlobals mg → (∃ o, base.get? sysModules = some o) → (∀ q ∈ cs, GxR.TabB base mg q.1 q.2) → FnG P w K mg base k fa fd [x] sp) (bd : ∀ (s : Shared) (u : Value), BindsTo s fd ⟨[u], []⟩ [(x, u)])
    (asks : ∀ H : Hp, (∀ q ∈ cs, H q.2 = some (.tbl #[])) → SqL K H a (ns.map V.int) → sp [.ref a] H (fun v _ => v = .bl true) E0) :
    codeAny (model P w) callerA (.call (.ref fa) ⟨[.ref a], []⟩) (fun r s' => r = .ok (.ret (.bool true)) ∧ OldK s.heap s'.heap ∧ s'.os = s.os ∧ AllBare s'.gens) s := by
  have tabs : ∀ b ∈ cs.map Prod.snd, s.heap.get? b = some { cls := .none, data := .fields #[] } := fun b hb => by
    obtain ⟨q, hq, rfl⟩ := List.mem_map.mp hb
    exact tT q hq
  have inT : ∀ q ∈ cs, q.2 ∈ cs.map Prod.snd := fun q hq => List.mem_map_of_mem hq
  generalize hG : st0 K (cs.map Prod.snd) a { cls := .type "list", data := .seq us.toArray } (ns.map V.int) = G
  have Gby : ∀ {b : Addr} {u : HO}, G b = some u → (b ∈ cs.map Prod.snd ∧ u = .tbl #[]) ∨ (b = a ∧ K.lookup a = none ∧ u = .frz { cls := .type "list", data := .seq us.toArray } (.lst (ns.map V.int))) := fun {b u} e => by
    rw [← hG] at e
    exact st0_by e
  have Gtab : ∀ q ∈ cs, G q.2 = some (.tbl #[]) := fun q hq => by
    rw [← hG]
    exact st0_tab (inT q hq)
  -- what is neither a list nor a table isn't tracked
  have hid : ∀ {b : Addr} {o : Obj}, s.heap.get? b = some o → (∀ vs m, o.data ≠ .seq vs m) → o.data ≠ .fields #[] → G b = none := fun {b o} e n1 n2 => by
    cases q : G b with
    | none => rfl
    | some u =>
      rcases Gby q with ⟨z, _⟩ | ⟨z, _⟩
      · rw [tabs b z] at e
        exact absurd (congrArg Obj.data (Option.some.inj e)).symm n2
      · rw [z, oa] at e
        exact absurd (congrArg Obj.data (Option.some.inj e)).symm (n1 _ _)
  have space : ∀ {b : Addr} {m : Str → Option Value}, s.heap.Ns b m → (hidT s.heap G).Ns b m := fun {b m} n => by
    obtain ⟨o, es, ep, e, d, r⟩ := n
    exact ⟨o, es, ep, hidT_get e (hid e (fun vs n z => by rw [d] at z; cases z) fun z => by rw [d] at z; cases z), d, r⟩
  have Xb : K.In (hidT s.heap G) := fun b o e => by
    refine hidT_get (X b o e) ?_
    cases q : G b with
    | none => rfl
    | some u =>
      rcases Gby q with ⟨z, _⟩ | ⟨z, z2, _⟩
      · obtain ⟨y, hy, ey⟩ := List.mem_map.mp z
        rw [← ey, tK y hy] at e; cases e
      · rw [z, z2] at e; cases e
  have fx : ∀ {b : Addr} {o : Obj} {vs : Array Value}, s.heap.get? b = some o → o.data = .fields vs → vs ≠ #[] → (hidT s.heap G).get? b = some o := fun {b o vs} e d n =>
    hidT_get e (hid e (fun vs n z => by rw [d] at z; cases z) fun z => n (by rw [d] at z; exact Data.fields.inj z))
  have TB : ∀ q ∈ cs, GxR.TabB (hidT s.heap G) mg q.1 q.2 := fun q hq => by
    have hT := tT q hq
    obtain ⟨m, o, m1, m2, m3, m4, m5, m6⟩ := bm
    refine ⟨?_, ⟨m, o, m1, m2, fun z => ?_, fun z => ?_, ?_, m4, m5, m6⟩, fun z => ?_⟩
    · obtain ⟨oc, vs, file, tf, fl, tg, inF, text, tt, c1, c2, c3, c4, c5⟩ := tC q hq
      exact ⟨oc, vs, file, tf, fl, tg, inF, text, tt, fx c1 c3 (fun z => by rw [z] at c4; simp at c4), c2, c3, c4, c5⟩
    · obtain ⟨o', _, _, e, d, _⟩ := gl
      rw [z, e] at m3
      rw [Option.some.inj m3, m6] at d
      cases d
    · rw [z, hT] at m3
      have := Option.some.inj m3
      rw [← this] at m6
      cases m6
    · exact hidT_get m3 (hid m3 (fun vs n z => by rw [m6] at z; cases z) fun z => by rw [m6] at z; cases z)
    · obtain ⟨o', _, _, e, d, _⟩ := gl
      rw [z, hT] at e
      rw [← Option.some.inj e] at d
      cases d
  have sq : SqL K G a (ns.map V.int) := by
    have aT : a ∉ cs.map Prod.snd := fun z => by
      have := tabs a z
      rw [oa] at this
      have := congrArg Obj.data (Option.some.inj this)
      cases this
    cases q : K.lookup a with
    | none =>
      refine .inl (.inr ⟨{ cls := .type "list", data := .seq us.toArray }, ?_⟩)
      rw [← hG]
      unfold st0
      rw [if_neg aT, if_pos ⟨rfl, q⟩]
    | some o =>
      have e := X a o q
      rw [oa] at e
      cases e
      exact .inr ⟨_, us.toArray, _, q, rfl, rfl, rfl, by rw [List.size_toArray, ia.length]; exact la, by simpa using vals_ints ia⟩
  have ok : HOk P w G s.heap := fun b u e => by
    rcases Gby e with ⟨z, rfl⟩ | ⟨rfl, _, rfl⟩
    · exact tabs b z
    · exact ⟨oa, by rw [List.length_map]; exact la, us, _, vals_ints ia, oa⟩
  have e0 : Env0 P w K mg (hidT s.heap G) callerA [] s G :=
    ⟨rfl, ⟨Xb, space gl, ⟨mb, space bl, blb⟩, by obtain ⟨mc, n1, n2⟩ := nl; exact ⟨mc, space n1, n2⟩⟩, fun b o e => of_hidT e, by rw [hidT_size]; exact Nat.le_refl _, trivial, (fun b hb => by cases hb), ok, .of_eq ge⟩
  have smo : ∃ o, (hidT s.heap G).get? sysModules = some o := by
    obtain ⟨mm, n⟩ := sm
    obtain ⟨o, _, _, e, _⟩ := space n
    exact ⟨o, e⟩
  refine codeAny_mono ((F _ Xb (space gl) smo TB).run callerA [] s G ⟨[.ref a], []⟩ [.ref a] [.ref a] _ rm gd e0 (bd s (.ref a)) (.cons rfl .nil) (asks G Gtab sq)) fun r s' h => ?_
  match r, h with
  | .ok (.ret u), h =>
    obtain ⟨v, G', h1, h2, un, ok', rv, hv⟩ := h
    have hv' : v = .bl true := hv
    rw [hv'] at rv
    have eu : u = Value.bool true := rv
    rw [eu]
    have stays : ∀ b o, b ∉ cs.map Prod.snd → s.heap.get? b = some o → s'.heap.get? b = some o := fun b o nb e => by
      cases q : G b with
      | none => exact un.keep b o e q (fun z => by cases z) (fun z => by cases z)
      | some y =>
        rcases Gby q with ⟨z, _⟩ | ⟨rfl, _, rfl⟩
        · exact absurd z nb
        · obtain ⟨e2, _⟩ := ok' _ _ (un.frzs _ _ _ q)
          rw [oa] at e
          rw [e2]; exact e
    have more : ∀ b ∈ cs.map Prod.snd, ∃ (o : Array Value) (q : Addr × Addr), q ∈ cs ∧ q.2 = b ∧ s'.heap.get? b = some { cls := .none, data := .fields o } := fun b hb => by
      obtain ⟨q, hq, rfl⟩ := List.mem_map.mp hb
      obtain ⟨mo, z⟩ := un.tbls q.2 #[] (Gtab q hq)
      exact ⟨_, q, hq, rfl, ok' _ _ z⟩
    refine ⟨rfl, ⟨fun b o e => ?_, fun b o e => ?_⟩, h1, h2⟩
    · by_cases hb : b ∈ cs.map Prod.snd
      · obtain ⟨mo, q, hq, rfl, z⟩ := more b hb
        have eo := tT q hq
        rw [eo] at e
        rw [← Option.some.inj e]
        exact .inr (.inl ⟨((tC q hq).tab eo).isCodeTable, rfl, #[], mo, rfl, by rw [Array.empty_append]; exact z⟩)
      · exact .inl (stays b o hb e)
    · by_cases hb : b ∈ cs.map Prod.snd
      · obtain ⟨mo, q, hq, rfl, z⟩ := more b hb
        exact ⟨_, z⟩
      · exact ⟨o, stays b o hb e⟩
  | .ok .next, h => exact h.elim
  | .ok .brk, h => exact h.elim
  | .ok .cont, h => exact h.elim
  | .error e, h => exact h.elim
end
end Tb

namespace Tb
open PySem PySem.Spec PyProof.Rows L2
section
variable {P : Program} {w : World} {K : PySem.W.Frag} {mg : Str → Option Value} {base : Heap} {f : String → Addr} {a Pt P8 : Addr} {fd g1 g2 : FuncData}
def spLaw (K : PySem.W.Frag) (T8 T9 : Addr) : Sp := fun vs H Q _ => ∃ (l : Addr) (ns : List Int), vs = [.ref l] ∧ SqL K H l (ns.map V.int) ∧ GxR.TabG H T8 ∧ GxR.TabG H T9 ∧ ∀ H', Q (.bl true) H'
theorem sc24 : FnScope ["_law_script"] ["_law_script"] (defScope (top 24)) := ⟨rfl, rfl, rfl, by decide +kernel, rfl, by decide +kernel, by decide +kernel⟩
theorem ok24 (T : Tx mg f) (F : Fun K "law" "law" (top 24) a fd) (G12 : FnOk P w K mg base CX0 1 (f "_law_pot") g1 ["_law_script", "_law_k"] (spPot K)) (B12 : Binds K g1 ["_law_script", "_law_k"] []) (kp12 : PySem.W.keepIn K (.ref (f "_law_pot")) = true)
    (G23 : FnG P w K mg base 9 (f "_law_right") g2 ["_law_pot_here"] (spRight P8 Pt)) (B23 : Binds K g2 ["_law_pot_here"] []) (kp23 : PySem.W.keepIn K (.ref (f "_law_right")) = true) : FnG P w K mg base 10 a fd ["_law_script"] (spLaw K P8 Pt) := by
  refine okG F sc24 (fun vs H Q E h => ?_) (fun cdv A outer s H vs Q hr hgd h => ?_)
  · obtain ⟨_, _, rfl, _⟩ := h
    rfl
  obtain ⟨l, ns, rfl, hl, h8, h9, q⟩ := h
  refine ⟨_, pss_one (ps_ret (Tb.pe_callG G23 hr hgd rfl (T.fn "_law_right" (by simp)) kp23 B23 (pa_cons (pe_call G12 (hr.mono (by decide)) rfl (T.fn "_law_pot" (by simp)) kp12 B12 .nil pass0 (pa_cons (pv 0) (pa_cons pe_int pa_nil))) pa_nil))), ?_⟩
  exact ⟨_, rfl, l, ns, rfl, hl, fun p H' hp pot k => ⟨p, rfl, pot, k.tab _ h8, k.tab _ h9, q⟩⟩
end
def fOf (mg : Str → Option Value) (n : String) : Addr := match mg (Str.ofString n) with
  | some (.ref b) => b
  | _ => 0
theorem fOf_eq {mg : Str → Option Value} {n : String} {b : Addr} (h : mg (Str.ofString n) = some (.ref b)) : fOf mg n = b := by
  unfold fOf
  rw [h]
/-- the law's def, called on a script, says True -/
theorem said {P q : Program} {loose : List Str} {XP : (Str → Option Value) → Heap → Prop} {w : World} {s0 s : Shared} {mg mb : Str → Option Value} {K : PySem.W.Frag} {fa a : Addr} {us : List Value} {ns : List Int} {d8 d9 : DefRec} {c8 c9 T8 T9 : Addr} {tm : Tok}
    {f1 : Addr} {od1 an1 : Option Addr} {sl1 : Array (Option Value)} {oc1 kV1 dc1 pm1 cd1 ct1 : Value}
    {f2 : Addr} {od2 an2 : Option Addr} {sl2 : Array (Option Value)} {oc2 kV2 dc2 pm2 cd2 ct2 : Value}
    {f3 : Addr} {od3 an3 : Option Addr} {sl3 : Array (Option Value)} {oc3 kV3 dc3 pm3 cd3 ct3 : Value}
    {f4 : Addr} {od4 an4 : Option Addr} {sl4 : Array (Option Value)} {oc4 kV4 dc4 pm4 cd4 ct4 : Value}
    {f7 : Addr} {od7 an7 : Option Addr} {sl7 : Array (Option Value)} {oc7 kV7 dc7 pm7 cd7 ct7 : Value}
    {f8 : Addr} {od8 an8 : Option Addr} {sl8 : Array (Option Value)} {oc8 kV8 dc8 pm8 ct8 : Value}
    {f9 : Addr} {od9 an9 : Option Addr} {sl9 : Array (Option Value)} {oc9 kV9 dc9 pm9 ct9 : Value}
    {f10 : Addr} {od10 an10 : Option Addr} {sl10 : Array (Option Value)} {oc10 kV10 dc10 pm10 cd10 ct10 : Value}
    {f12 : Addr} {od12 an12 : Option Addr} {sl12 : Array (Option Value)} {oc12 kV12 dc12 pm12 cd12 ct12 : Value}
    {f13 : Addr} {od13 an13 : Option Addr} {sl13 : Array (Option Value)} {oc13 kV13 dc13 pm13 cd13 ct13 : Value}
    {f14 : Addr} {od14 an14 : Option Addr} {sl14 : Array (Option Value)} {oc14 kV14 dc14 pm14 cd14 ct14 : Value}
    {f15 : Addr} {od15 an15 : Option Addr} {sl15 : Array (Option Value)} {oc15 kV15 dc15 pm15 cd15 ct15 : Value}
    {f16 : Addr} {od16 an16 : Option Addr} {sl16 : Array (Option Value)} {oc16 kV16 dc16 pm16 cd16 ct16 : Value}
    {f17 : Addr} {od17 an17 : Option Addr} {sl17 : Array (Option Value)} {oc17 kV17 dc17 pm17 cd17 ct17 : Value}
    {f18 : Addr} {od18 an18 : Option Addr} {sl18 : Array (Option Value)} {oc18 kV18 dc18 pm18 cd18 ct18 : Value}
    {f19 : Addr} {od19 an19 : Option Addr} {sl19 : Array (Option Value)} {oc19 kV19 dc19 pm19 cd19 ct19 : Value}
    {f20 : Addr} {od20 an20 : Option Addr} {sl20 : Array (Option Value)} {oc20 kV20 dc20 pm20 cd20 ct20 : Value}
    {f21 : Addr} {od21 an21 : Option Addr} {sl21 : Array (Option Value)} {oc21 kV21 dc21 pm21 cd21 ct21 : Value}
    {f22 : Addr} {od22 an22 : Option Addr} {sl22 : Array (Option Value)} {oc22 kV22 dc22 pm22 cd22 ct22 : Value}
    {f23 : Addr} {od23 an23 : Option Addr} {sl23 : Array (Option Value)} {oc23 kV23 dc23 pm23 cd23 ct23 : Value}
    {f24 : Addr} {od24 an24 : Option Addr} {sl24 : Array (Option Value)} {oc24 kV24 dc24 pm24 cd24 ct24 : Value}
    (G : PySem.W.Ground q loose [] XP w s0 mg mb s.heap) (X : K.In s.heap) (hmg : mg "law" = some (.ref fa)) (imp : importsNone q = true) (ge : s.gens = #[])
    (oa : s.heap.get? a = some { cls := .type "list", data := .seq us.toArray }) (ia : IntsAre us ns) (la : ns.length ≤ 63)
    (r8 : (recsOf q).find? (fun e => e.name == ("has_table_form" : Str)) = some d8) (t8 : PySem.W.tabIn K "has_table_form" = some (c8, T8)) (n8 : K.lookup T8 = none)
    (r9 : (recsOf q).find? (fun e => e.name == ("is_row" : Str)) = some d9) (t9 : PySem.W.tabIn K "is_row" = some (c9, T9)) (n9 : K.lookup T9 = none)
    (a6 : PySem.W.nsIn K mainGlobals "MOST_STATES" = some (some (.int 8 tm)))
    (a1 : PySem.W.nsIn K mainGlobals "is_integer" = some (some (.ref f1))) (l1 : K.lookup f1 = some ⟨oc1, od1, .func (PySem.W.fnOf "is_integer" "is_integer" (defArgs (top 1)) (defBody (top 1)) (defScope (top 1)) .none kV1 dc1 pm1 an1 cd1 ct1), sl1⟩) (y1 : PySem.W.codeIn K cd1 "is_integer" = true) (k1 : PySem.W.keepIn K (.ref f1) = true)
    (a2 : PySem.W.nsIn K mainGlobals "is_count" = some (some (.ref f2))) (l2 : K.lookup f2 = some ⟨oc2, od2, .func (PySem.W.fnOf "is_count" "is_count" (defArgs (top 2)) (defBody (top 2)) (defScope (top 2)) .none kV2 dc2 pm2 an2 cd2 ct2), sl2⟩) (y2 : PySem.W.codeIn K cd2 "is_count" = true) (k2 : PySem.W.keepIn K (.ref f2) = true)
    (a3 : PySem.W.nsIn K mainGlobals "is_count_below" = some (some (.ref f3))) (l3 : K.lookup f3 = some ⟨oc3, od3, .func (PySem.W.fnOf "is_count_below" "is_count_below" (defArgs (top 3)) (defBody (top 3)) (defScope (top 3)) .none kV3 dc3 pm3 an3 cd3 ct3), sl3⟩) (y3 : PySem.W.codeIn K cd3 "is_count_below" = true) (k3 : PySem.W.keepIn K (.ref f3) = true)
    (a4 : PySem.W.nsIn K mainGlobals "is_list" = some (some (.ref f4))) (l4 : K.lookup f4 = some ⟨oc4, od4, .func (PySem.W.fnOf "is_list" "is_list" (defArgs (top 4)) (defBody (top 4)) (defScope (top 4)) .none kV4 dc4 pm4 an4 cd4 ct4), sl4⟩) (y4 : PySem.W.codeIn K cd4 "is_list" = true) (k4 : PySem.W.keepIn K (.ref f4) = true)
    (a7 : PySem.W.nsIn K mainGlobals "is_table" = some (some (.ref f7))) (l7 : K.lookup f7 = some ⟨oc7, od7, .func (PySem.W.fnOf "is_table" "is_table" (defArgs (top 7)) (defBody (top 7)) (defScope (top 7)) .none kV7 dc7 pm7 an7 cd7 ct7), sl7⟩) (y7 : PySem.W.codeIn K cd7 "is_table" = true) (k7 : PySem.W.keepIn K (.ref f7) = true)
    (a8 : PySem.W.nsIn K mainGlobals "has_table_form" = some (some (.ref f8))) (l8 : K.lookup f8 = some ⟨oc8, od8, .func (PySem.W.fnOf "has_table_form" "has_table_form" (defArgs (top 8)) (defBody (top 8)) (defScope (top 8)) .none kV8 dc8 pm8 an8 (.ref c8) ct8), sl8⟩) (y8 : PySem.W.codeIn K (.ref c8) "has_table_form" = true) (k8 : PySem.W.keepIn K (.ref f8) = true)
    (a9 : PySem.W.nsIn K mainGlobals "is_row" = some (some (.ref f9))) (l9 : K.lookup f9 = some ⟨oc9, od9, .func (PySem.W.fnOf "is_row" "is_row" (defArgs (top 9)) (defBody (top 9)) (defScope (top 9)) .none kV9 dc9 pm9 an9 (.ref c9) ct9), sl9⟩) (y9 : PySem.W.codeIn K (.ref c9) "is_row" = true) (k9 : PySem.W.keepIn K (.ref f9) = true)
    (a10 : PySem.W.nsIn K mainGlobals "keeps_join_rules" = some (some (.ref f10))) (l10 : K.lookup f10 = some ⟨oc10, od10, .func (PySem.W.fnOf "keeps_join_rules" "keeps_join_rules" (defArgs (top 10)) (defBody (top 10)) (defScope (top 10)) .none kV10 dc10 pm10 an10 cd10 ct10), sl10⟩) (y10 : PySem.W.codeIn K cd10 "keeps_join_rules" = true) (k10 : PySem.W.keepIn K (.ref f10) = true)
    (a12 : PySem.W.nsIn K mainGlobals "_law_pot" = some (some (.ref f12))) (l12 : K.lookup f12 = some ⟨oc12, od12, .func (PySem.W.fnOf "_law_pot" "_law_pot" (defArgs (top 12)) (defBody (top 12)) (defScope (top 12)) .none kV12 dc12 pm12 an12 cd12 ct12), sl12⟩) (y12 : PySem.W.codeIn K cd12 "_law_pot" = true) (k12 : PySem.W.keepIn K (.ref f12) = true)
    (a13 : PySem.W.nsIn K mainGlobals "_law_draw" = some (some (.ref f13))) (l13 : K.lookup f13 = some ⟨oc13, od13, .func (PySem.W.fnOf "_law_draw" "_law_draw" (defArgs (top 13)) (defBody (top 13)) (defScope (top 13)) .none kV13 dc13 pm13 an13 cd13 ct13), sl13⟩) (y13 : PySem.W.codeIn K cd13 "_law_draw" = true) (k13 : PySem.W.keepIn K (.ref f13) = true)
    (a14 : PySem.W.nsIn K mainGlobals "_law_pick" = some (some (.ref f14))) (l14 : K.lookup f14 = some ⟨oc14, od14, .func (PySem.W.fnOf "_law_pick" "_law_pick" (defArgs (top 14)) (defBody (top 14)) (defScope (top 14)) .none kV14 dc14 pm14 an14 cd14 ct14), sl14⟩) (y14 : PySem.W.codeIn K cd14 "_law_pick" = true) (k14 : PySem.W.keepIn K (.ref f14) = true)
    (a15 : PySem.W.nsIn K mainGlobals "_law_closed" = some (some (.ref f15))) (l15 : K.lookup f15 = some ⟨oc15, od15, .func (PySem.W.fnOf "_law_closed" "_law_closed" (defArgs (top 15)) (defBody (top 15)) (defScope (top 15)) .none kV15 dc15 pm15 an15 cd15 ct15), sl15⟩) (y15 : PySem.W.codeIn K cd15 "_law_closed" = true) (k15 : PySem.W.keepIn K (.ref f15) = true)
    (a16 : PySem.W.nsIn K mainGlobals "_law_lots" = some (some (.ref f16))) (l16 : K.lookup f16 = some ⟨oc16, od16, .func (PySem.W.fnOf "_law_lots" "_law_lots" (defArgs (top 16)) (defBody (top 16)) (defScope (top 16)) .none kV16 dc16 pm16 an16 cd16 ct16), sl16⟩) (y16 : PySem.W.codeIn K cd16 "_law_lots" = true) (k16 : PySem.W.keepIn K (.ref f16) = true)
    (a17 : PySem.W.nsIn K mainGlobals "_law_rows" = some (some (.ref f17))) (l17 : K.lookup f17 = some ⟨oc17, od17, .func (PySem.W.fnOf "_law_rows" "_law_rows" (defArgs (top 17)) (defBody (top 17)) (defScope (top 17)) .none kV17 dc17 pm17 an17 cd17 ct17), sl17⟩) (y17 : PySem.W.codeIn K cd17 "_law_rows" = true) (k17 : PySem.W.keepIn K (.ref f17) = true)
    (a18 : PySem.W.nsIn K mainGlobals "_law_is_list" = some (some (.ref f18))) (l18 : K.lookup f18 = some ⟨oc18, od18, .func (PySem.W.fnOf "_law_is_list" "_law_is_list" (defArgs (top 18)) (defBody (top 18)) (defScope (top 18)) .none kV18 dc18 pm18 an18 cd18 ct18), sl18⟩) (y18 : PySem.W.codeIn K cd18 "_law_is_list" = true) (k18 : PySem.W.keepIn K (.ref f18) = true)
    (a19 : PySem.W.nsIn K mainGlobals "_law_is_number" = some (some (.ref f19))) (l19 : K.lookup f19 = some ⟨oc19, od19, .func (PySem.W.fnOf "_law_is_number" "_law_is_number" (defArgs (top 19)) (defBody (top 19)) (defScope (top 19)) .none kV19 dc19 pm19 an19 cd19 ct19), sl19⟩) (y19 : PySem.W.codeIn K cd19 "_law_is_number" = true) (k19 : PySem.W.keepIn K (.ref f19) = true)
    (a20 : PySem.W.nsIn K mainGlobals "_law_is_square" = some (some (.ref f20))) (l20 : K.lookup f20 = some ⟨oc20, od20, .func (PySem.W.fnOf "_law_is_square" "_law_is_square" (defArgs (top 20)) (defBody (top 20)) (defScope (top 20)) .none kV20 dc20 pm20 an20 cd20 ct20), sl20⟩) (y20 : PySem.W.codeIn K cd20 "_law_is_square" = true) (k20 : PySem.W.keepIn K (.ref f20) = true)
    (a21 : PySem.W.nsIn K mainGlobals "_law_is_table" = some (some (.ref f21))) (l21 : K.lookup f21 = some ⟨oc21, od21, .func (PySem.W.fnOf "_law_is_table" "_law_is_table" (defArgs (top 21)) (defBody (top 21)) (defScope (top 21)) .none kV21 dc21 pm21 an21 cd21 ct21), sl21⟩) (y21 : PySem.W.codeIn K cd21 "_law_is_table" = true) (k21 : PySem.W.keepIn K (.ref f21) = true)
    (a22 : PySem.W.nsIn K mainGlobals "_law_bent" = some (some (.ref f22))) (l22 : K.lookup f22 = some ⟨oc22, od22, .func (PySem.W.fnOf "_law_bent" "_law_bent" (defArgs (top 22)) (defBody (top 22)) (defScope (top 22)) .none kV22 dc22 pm22 an22 cd22 ct22), sl22⟩) (y22 : PySem.W.codeIn K cd22 "_law_bent" = true) (k22 : PySem.W.keepIn K (.ref f22) = true)
    (a23 : PySem.W.nsIn K mainGlobals "_law_right" = some (some (.ref f23))) (l23 : K.lookup f23 = some ⟨oc23, od23, .func (PySem.W.fnOf "_law_right" "_law_right" (defArgs (top 23)) (defBody (top 23)) (defScope (top 23)) .none kV23 dc23 pm23 an23 cd23 ct23), sl23⟩) (y23 : PySem.W.codeIn K cd23 "_law_right" = true) (k23 : PySem.W.keepIn K (.ref f23) = true)
    (a24 : PySem.W.nsIn K mainGlobals "law" = some (some (.ref f24))) (l24 : K.lookup f24 = some ⟨oc24, od24, .func (PySem.W.fnOf "law" "law" (defArgs (top 24)) (defBody (top 24)) (defScope (top 24)) .none kV24 dc24 pm24 an24 cd24 ct24), sl24⟩) (y24 : PySem.W.codeIn K cd24 "law" = true) (k24 : PySem.W.keepIn K (.ref f24) = true)
    (z0 : PySem.W.nsIn K mainGlobals "isinstance" = some none)
    (z1 : PySem.W.nsIn K mainGlobals "int" = some none)
    (z2 : PySem.W.nsIn K mainGlobals "bool" = some none)
    (z3 : PySem.W.nsIn K mainGlobals "list" = some none)
    (z4 : PySem.W.nsIn K mainGlobals "tuple" = some none)
    (z5 : PySem.W.nsIn K mainGlobals "len" = some none)
    (z6 : PySem.W.nsIn K mainGlobals "all" = some none)
    (z7 : PySem.W.nsIn K mainGlobals "range" = some none)
    (z8 : PySem.W.nsIn K mainGlobals "abs" = some none)
    (z9 : PySem.W.nsIn K mainGlobals "sum" = some none)
    (z10 : PySem.W.nsIn K mainGlobals "max" = some none)
    (z11 : PySem.W.nsIn K mainGlobals "divmod" = some none)
    (z12 : PySem.W.nsIn K mainGlobals "sorted" = some none)
    (z13 : PySem.W.nsIn K mainGlobals "set" = some none)
    (z14 : PySem.W.nsIn K mainGlobals "repr" = some none)
    : codeAny (model P w) callerA (.call (.ref fa) ⟨[.ref a], []⟩) (fun r s' => r = .ok (.ret (.bool true)) ∧ OldK s.heap s'.heap ∧ s'.os = s.os ∧ AllBare s'.gens) s := by
  have m1 : mg (Str.ofString "is_integer") = some (.ref f1) := PySem.W.mg_of X G.T.g a1
  have m2 : mg (Str.ofString "is_count") = some (.ref f2) := PySem.W.mg_of X G.T.g a2
  have m3 : mg (Str.ofString "is_count_below") = some (.ref f3) := PySem.W.mg_of X G.T.g a3
  have m4 : mg (Str.ofString "is_list") = some (.ref f4) := PySem.W.mg_of X G.T.g a4
  have m7 : mg (Str.ofString "is_table") = some (.ref f7) := PySem.W.mg_of X G.T.g a7
  have m8 : mg (Str.ofString "has_table_form") = some (.ref f8) := PySem.W.mg_of X G.T.g a8
  have m9 : mg (Str.ofString "is_row") = some (.ref f9) := PySem.W.mg_of X G.T.g a9
  have m10 : mg (Str.ofString "keeps_join_rules") = some (.ref f10) := PySem.W.mg_of X G.T.g a10
  have m12 : mg (Str.ofString "_law_pot") = some (.ref f12) := PySem.W.mg_of X G.T.g a12
  have m13 : mg (Str.ofString "_law_draw") = some (.ref f13) := PySem.W.mg_of X G.T.g a13
  have m14 : mg (Str.ofString "_law_pick") = some (.ref f14) := PySem.W.mg_of X G.T.g a14
  have m15 : mg (Str.ofString "_law_closed") = some (.ref f15) := PySem.W.mg_of X G.T.g a15
  have m16 : mg (Str.ofString "_law_lots") = some (.ref f16) := PySem.W.mg_of X G.T.g a16
  have m17 : mg (Str.ofString "_law_rows") = some (.ref f17) := PySem.W.mg_of X G.T.g a17
  have m18 : mg (Str.ofString "_law_is_list") = some (.ref f18) := PySem.W.mg_of X G.T.g a18
  have m19 : mg (Str.ofString "_law_is_number") = some (.ref f19) := PySem.W.mg_of X G.T.g a19
  have m20 : mg (Str.ofString "_law_is_square") = some (.ref f20) := PySem.W.mg_of X G.T.g a20
  have m21 : mg (Str.ofString "_law_is_table") = some (.ref f21) := PySem.W.mg_of X G.T.g a21
  have m22 : mg (Str.ofString "_law_bent") = some (.ref f22) := PySem.W.mg_of X G.T.g a22
  have m23 : mg (Str.ofString "_law_right") = some (.ref f23) := PySem.W.mg_of X G.T.g a23
  have m24 : mg (Str.ofString "law") = some (.ref f24) := PySem.W.mg_of X G.T.g a24
  have m6 := PySem.W.mg_of X G.T.g a6
  have u0 : mg (Str.ofString "isinstance") = none := PySem.W.mg_none_of X G.T.g z0
  have u1 : mg (Str.ofString "int") = none := PySem.W.mg_none_of X G.T.g z1
  have u2 : mg (Str.ofString "bool") = none := PySem.W.mg_none_of X G.T.g z2
  have u3 : mg (Str.ofString "list") = none := PySem.W.mg_none_of X G.T.g z3
  have u4 : mg (Str.ofString "tuple") = none := PySem.W.mg_none_of X G.T.g z4
  have u5 : mg (Str.ofString "len") = none := PySem.W.mg_none_of X G.T.g z5
  have u6 : mg (Str.ofString "all") = none := PySem.W.mg_none_of X G.T.g z6
  have u7 : mg (Str.ofString "range") = none := PySem.W.mg_none_of X G.T.g z7
  have u8 : mg (Str.ofString "abs") = none := PySem.W.mg_none_of X G.T.g z8
  have u9 : mg (Str.ofString "sum") = none := PySem.W.mg_none_of X G.T.g z9
  have u10 : mg (Str.ofString "max") = none := PySem.W.mg_none_of X G.T.g z10
  have u11 : mg (Str.ofString "divmod") = none := PySem.W.mg_none_of X G.T.g z11
  have u12 : mg (Str.ofString "sorted") = none := PySem.W.mg_none_of X G.T.g z12
  have u13 : mg (Str.ofString "set") = none := PySem.W.mg_none_of X G.T.g z13
  have u14 : mg (Str.ofString "repr") = none := PySem.W.mg_none_of X G.T.g z14
  have e1 := fOf_eq m1
  have e2 := fOf_eq m2
  have e3 := fOf_eq m3
  have e4 := fOf_eq m4
  have e7 := fOf_eq m7
  have e8 := fOf_eq m8
  have e9 := fOf_eq m9
  have e10 := fOf_eq m10
  have e12 := fOf_eq m12
  have e13 := fOf_eq m13
  have e14 := fOf_eq m14
  have e15 := fOf_eq m15
  have e16 := fOf_eq m16
  have e17 := fOf_eq m17
  have e18 := fOf_eq m18
  have e19 := fOf_eq m19
  have e20 := fOf_eq m20
  have e21 := fOf_eq m21
  have e22 := fOf_eq m22
  have e23 := fOf_eq m23
  have e24 := fOf_eq m24
  subst e1
  subst e2
  subst e3
  subst e4
  subst e7
  subst e8
  subst e9
  subst e10
  subst e12
  subst e13
  subst e14
  subst e15
  subst e16
  subst e17
  subst e18
  subst e19
  subst e20
  subst e21
  subst e22
  subst e23
  subst e24
  have efa : fa = fOf mg "law" := by
    have := hmg.symm.trans m24
    cases this
    rfl
  have T : Tx mg (fOf mg) := by
    refine ⟨fun x hx => ?_, fun x hx => ?_, ⟨tm, m6⟩⟩
    · simp only [List.mem_cons, List.not_mem_nil, or_false] at hx
      rcases hx with rfl | rfl | rfl | rfl | rfl | rfl | rfl | rfl | rfl | rfl | rfl | rfl | rfl | rfl | rfl | rfl | rfl | rfl | rfl | rfl
      · exact m1
      · exact m2
      · exact m3
      · exact m4
      · exact m7
      · exact m8
      · exact m9
      · exact m10
      · exact m12
      · exact m13
      · exact m14
      · exact m15
      · exact m16
      · exact m17
      · exact m18
      · exact m19
      · exact m20
      · exact m21
      · exact m22
      · exact m23
    · simp only [List.mem_cons, List.not_mem_nil, or_false] at hx
      rcases hx with rfl | rfl | rfl | rfl | rfl | rfl | rfl | rfl | rfl | rfl | rfl | rfl | rfl | rfl | rfl
      · exact u0
      · exact u1
      · exact u2
      · exact u3
      · exact u4
      · exact u5
      · exact u6
      · exact u7
      · exact u8
      · exact u9
      · exact u10
      · exact u11
      · exact u12
      · exact u13
      · exact u14
  have F1 := fun_mk (st := top 1) l1 y1 k1
  have B1 := F1.binds (ps := ["value"]) fun _ _ _ _ _ _ us hl => match us, hl with | [_], _ => rfl
  have F2 := fun_mk (st := top 2) l2 y2 k2
  have B2 := F2.binds (ps := ["value"]) fun _ _ _ _ _ _ us hl => match us, hl with | [_], _ => rfl
  have F3 := fun_mk (st := top 3) l3 y3 k3
  have B3 := F3.binds (ps := ["value", "bound"]) fun _ _ _ _ _ _ us hl => match us, hl with | [_, _], _ => rfl
  have F4 := fun_mk (st := top 4) l4 y4 k4
  have B4 := F4.binds (ps := ["value"]) fun _ _ _ _ _ _ us hl => match us, hl with | [_], _ => rfl
  have F7 := fun_mk (st := top 7) l7 y7 k7
  have B7 := F7.binds (ps := ["value"]) fun _ _ _ _ _ _ us hl => match us, hl with | [_], _ => rfl
  have C8 : FunC K "has_table_form" "has_table_form" (top 8) (fOf mg "has_table_form") _ c8 := ⟨⟨oc8, od8, kV8, dc8, pm8, an8, ct8, sl8, rfl, l8, y8⟩, k8⟩
  have F8 := C8.fn
  have B8 := F8.binds (ps := ["value"]) fun _ _ _ _ _ _ us hl => match us, hl with | [_], _ => rfl
  have C9 : FunC K "is_row" "is_row" (top 9) (fOf mg "is_row") _ c9 := ⟨⟨oc9, od9, kV9, dc9, pm9, an9, ct9, sl9, rfl, l9, y9⟩, k9⟩
  have F9 := C9.fn
  have B9 := F9.binds (ps := ["value", "many"]) fun _ _ _ _ _ _ us hl => match us, hl with | [_, _], _ => rfl
  have F10 := fun_mk (st := top 10) l10 y10 k10
  have B10 := F10.binds (ps := ["rows"]) fun _ _ _ _ _ _ us hl => match us, hl with | [_], _ => rfl
  have F12 := fun_mk (st := top 12) l12 y12 k12
  have B12 := F12.binds (ps := ["_law_script", "_law_k"]) fun _ _ _ _ _ _ us hl => match us, hl with | [_, _], _ => rfl
  have F13 := fun_mk (st := top 13) l13 y13 k13
  have B13 := F13.binds (ps := ["_law_pot_here", "_law_sides"]) fun _ _ _ _ _ _ us hl => match us, hl with | [_, _], _ => rfl
  have F14 := fun_mk (st := top 14) l14 y14 k14
  have B14 := F14.binds (ps := ["_law_pot_here", "_law_some"]) fun _ _ _ _ _ _ us hl => match us, hl with | [_, _], _ => rfl
  have F15 := fun_mk (st := top 15) l15 y15 k15
  have B15 := F15.binds (ps := ["_law_lots_here"]) fun _ _ _ _ _ _ us hl => match us, hl with | [_], _ => rfl
  have F16 := fun_mk (st := top 16) l16 y16 k16
  have B16 := F16.binds (ps := ["_law_pot_here"]) fun _ _ _ _ _ _ us hl => match us, hl with | [_], _ => rfl
  have F17 := fun_mk (st := top 17) l17 y17 k17
  have B17 := F17.binds (ps := ["_law_lots_here"]) fun _ _ _ _ _ _ us hl => match us, hl with | [_], _ => rfl
  have F18 := fun_mk (st := top 18) l18 y18 k18
  have B18 := F18.binds (ps := ["_law_value"]) fun _ _ _ _ _ _ us hl => match us, hl with | [_], _ => rfl
  have F19 := fun_mk (st := top 19) l19 y19 k19
  have B19 := F19.binds (ps := ["_law_value", "_law_size"]) fun _ _ _ _ _ _ us hl => match us, hl with | [_, _], _ => rfl
  have F20 := fun_mk (st := top 20) l20 y20 k20
  have B20 := F20.binds (ps := ["_law_value"]) fun _ _ _ _ _ _ us hl => match us, hl with | [_], _ => rfl
  have F21 := fun_mk (st := top 21) l21 y21 k21
  have B21 := F21.binds (ps := ["_law_value"]) fun _ _ _ _ _ _ us hl => match us, hl with | [_], _ => rfl
  have F22 := fun_mk (st := top 22) l22 y22 k22
  have B22 := F22.binds (ps := ["_law_pot_here", "_law_rows_here"]) fun _ _ _ _ _ _ us hl => match us, hl with | [_, _], _ => rfl
  have F23 := fun_mk (st := top 23) l23 y23 k23
  have B23 := F23.binds (ps := ["_law_pot_here"]) fun _ _ _ _ _ _ us hl => match us, hl with | [_], _ => rfl
  have F24 := fun_mk (st := top 24) l24 y24 k24
  have B24 := F24.binds (ps := ["_law_script"]) fun _ _ _ _ _ _ us hl => match us, hl with | [_], _ => rfl
  have B24' : ∀ (s : Shared) (v : Value), BindsTo s (PySem.W.fnOf "law" "law" (defArgs (top 24)) (defBody (top 24)) (defScope (top 24)) .none kV24 dc24 pm24 an24 cd24 ct24) ⟨[v], []⟩ [("_law_script", v)] := fun s v => .of_eq rfl
  obtain ⟨h8, q8⟩ := PySem.W.tab_of G.T X r8 t8
  obtain ⟨h9, q9⟩ := PySem.W.tab_of G.T X r9 t9
  rw [efa]
  have two : ∀ {C : Addr × Addr → Prop}, C (c8, T8) → C (c9, T9) → ∀ q ∈ [(c8, T8), (c9, T9)], C q := fun x y q hq => by
    rcases List.mem_cons.mp hq with z | z
    · rw [z]; exact x
    · rw [List.mem_singleton.mp z]; exact y
  refine law_end (k := 10) (x := "_law_script") (cs := [(c8, T8), (c9, T9)]) (sp := spLaw K T8 T9) X G.T.g G.T.b G.T.builtins G.T.nolimit ge (by obtain ⟨mm, z, _⟩ := (G.T.seer imp).mods; exact ⟨mm, z⟩) (two q8 q9) (two n8 n9) (two h8 h9) G.T.bmain oa ia (Nat.le_trans la (by decide)) ⟨rfl, by decide, by decide⟩ rfl
    (fun base Xb gb smo TB => ?_) (fun s v => B24' s v) (fun H hH hS => ⟨a, ns, rfl, hS, ⟨#[], hH (c8, T8) (by simp), trivial⟩, ⟨#[], hH (c9, T9) (by simp), trivial⟩, fun _ => rfl⟩)
  have TB8 := TB (c8, T8) (by simp)
  have TB9 := TB (c9, T9) (by simp)
  have G1 := ok1 (P := P) (w := w) (base := base) T F1
  have G2 := ok2 T F2 G1 B1 k1
  have G3 := ok3 T F3 G2 B2 k2
  have G4 := ok4 (P := P) (w := w) (base := base) T F4
  have G9 := ok9 T C9 TB9 G4 B4 k4 G3 B3 k3
  have G8 := ok8 T C8 TB8 G4 B4 k4 G9 B9 k9
  have G10 := ok10 (P := P) (w := w) (base := base) T F10
  have G7 := ok7 T F7 G8 B8 k8 G10 B10 k10
  have G12 := ok12 (P := P) (w := w) (base := base) T F12
  have G13 := ok13 (P := P) (w := w) (base := base) T F13
  have G14 := ok14 T F14 G13 B13 k13
  have G15 := ok15 (P := P) (w := w) (base := base) T F15
  have G16 := ok16 T F16 G13 B13 k13 G15 B15 k15
  have G17 := ok17 (P := P) (w := w) (base := base) T F17
  have G18 := ok18 (P := P) (w := w) (base := base) T F18
  have G19 := ok19 (P := P) (w := w) (base := base) T F19
  have G20 := ok20 T F20 G18 B18 k18 G19 B19 k19
  have G21 := ok21 T F21 G20 B20 k20
  have G22 := ok22 T F22 G13 B13 k13 G14 B14 k14
  have G23 := ok23 T smo F23 G16 B16 k16 G17 B17 k17 G21 B21 k21 G22 B22 k22 G7 B7 (fun s ws hl => match ws, hl with | [_], _ => .of_eq rfl) k7
  exact ok24 T F24 G12 B12 k12 G23 B23 k23
end Tb

open PySem PySem.W PyProof.Rows
set_option maxRecDepth 100000 in
set_option maxHeartbeats 0 in
theorem PySem.Challenge.cw_partsmet_k33_any_value_as_table_holds : PySem.Challenge.rw_partsmet_k33_any_value_as_table.Holds := by
  w_on; o_law; k_head; (case hw => w_witness2)
  k_fill
  refine Att.attach_callB (l := PySem.Challenge.rw_partsmet_k33_any_value_as_table) (n := 63) rfl rfl fun w s0 s1 mg mb fa o pm cd doc a us ns G Y ho hd hcd hmg hobj hints hlen hbits hg => ?_
  have KX := PySem.W.kIn_of Y
  refine' Tb.said G KX hmg ?imp hg hobj hints hlen ?r8 ?t8 ?n8 ?r9 ?t9 ?n9 ?a6 ?a1 ?l1 ?y1 ?k1 ?a2 ?l2 ?y2 ?k2 ?a3 ?l3 ?y3 ?k3 ?a4 ?l4 ?y4 ?k4 ?a7 ?l7 ?y7 ?k7 ?a8 ?l8 ?y8 ?k8 ?a9 ?l9 ?y9 ?k9 ?a10 ?l10 ?y10 ?k10 ?a12 ?l12 ?y12 ?k12 ?a13 ?l13 ?y13 ?k13 ?a14 ?l14 ?y14 ?k14 ?a15 ?l15 ?y15 ?k15 ?a16 ?l16 ?y16 ?k16 ?a17 ?l17 ?y17 ?k17 ?a18 ?l18 ?y18 ?k18 ?a19 ?l19 ?y19 ?k19 ?a20 ?l20 ?y20 ?k20 ?a21 ?l21 ?y21 ?k21 ?a22 ?l22 ?y22 ?k22 ?a23 ?l23 ?y23 ?k23 ?a24 ?l24 ?y24 ?k24 ?z0 ?z1 ?z2 ?z3 ?z4 ?z5 ?z6 ?z7 ?z8 ?z9 ?z10 ?z11 ?z12 ?z13 ?z14
  case imp => decide +kernel
  case r8 => rfl
  case t8 => rfl
  case n8 => rfl
  case r9 => rfl
  case t9 => rfl
  case n9 => rfl
  case a6 => k_is
  case a1 => k_is
  case l1 => k_is
  case y1 => k_is
  case k1 => k_is
  case a2 => k_is
  case l2 => k_is
  case y2 => k_is
  case k2 => k_is
  case a3 => k_is
  case l3 => k_is
  case y3 => k_is
  case k3 => k_is
  case a4 => k_is
  case l4 => k_is
  case y4 => k_is
  case k4 => k_is
  case a7 => k_is
  case l7 => k_is
  case y7 => k_is
  case k7 => k_is
  case a8 => k_is
  case l8 => k_is
  case y8 => k_is
  case k8 => k_is
  case a9 => k_is
  case l9 => k_is
  case y9 => k_is
  case k9 => k_is
  case a10 => k_is
  case l10 => k_is
  case y10 => k_is
  case k10 => k_is
  case a12 => k_is
  case l12 => k_is
  case y12 => k_is
  case k12 => k_is
  case a13 => k_is
  case l13 => k_is
  case y13 => k_is
  case k13 => k_is
  case a14 => k_is
  case l14 => k_is
  case y14 => k_is
  case k14 => k_is
  case a15 => k_is
  case l15 => k_is
  case y15 => k_is
  case k15 => k_is
  case a16 => k_is
  case l16 => k_is
  case y16 => k_is
  case k16 => k_is
  case a17 => k_is
  case l17 => k_is
  case y17 => k_is
  case k17 => k_is
  case a18 => k_is
  case l18 => k_is
  case y18 => k_is
  case k18 => k_is
  case a19 => k_is
  case l19 => k_is
  case y19 => k_is
  case k19 => k_is
  case a20 => k_is
  case l20 => k_is
  case y20 => k_is
  case k20 => k_is
  case a21 => k_is
  case l21 => k_is
  case y21 => k_is
  case k21 => k_is
  case a22 => k_is
  case l22 => k_is
  case y22 => k_is
  case k22 => k_is
  case a23 => k_is
  case l23 => k_is
  case y23 => k_is
  case k23 => k_is
  case a24 => k_is
  case l24 => k_is
  case y24 => k_is
  case k24 => k_is
  case z0 => k_is
  case z1 => k_is
  case z2 => k_is
  case z3 => k_is
  case z4 => k_is
  case z5 => k_is
  case z6 => k_is
  case z7 => k_is
  case z8 => k_is
  case z9 => k_is
  case z10 => k_is
  case z11 => k_is
  case z12 => k_is
  case z13 => k_is
  case z14 => k_is
