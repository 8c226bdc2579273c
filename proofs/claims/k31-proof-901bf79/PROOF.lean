import PyProof.Rows.All
import Wide.All
import OpenK.AllK
import Wide.FinOn
import HandS.ForMost
import HandS.AnyAll
import HandS.GenOver
import HandS.IsInst
import HandS.Strs
import HandS.SetFor
import HandS.Deep
import HandS.Conv
import HandS.Style
import HandS.Sort
import PyProof.ReprRoads
import PyProof.CallFns
import KE.SortData
import HandS.EndTab
import PySem.Challenge.RW_partsmet_k31_whole_parts_and_lists
set_option Elab.async false
set_option linter.all false
set_option maxRecDepth 100000
set_option maxHeartbeats 4000000
/-! all(..), any(..) of a generator expression of one clause, whose element may do whatever an expression of the layer does. -/
namespace Gx
open PySem PySem.Spec PyProof.Rows L2

/-- the scope of the generator expression, over the scope of the def around -/
structure GScp (N : List Str) (sc scope : Scope) (x : Str) (ix : Nat) : Prop where
  kind : scope.kind = .function
  co : scope.isCoroutine = false
  cell : ∀ y ∈ scope.names, y.2 ≠ .cell
  dot : scope.names.lookup (".0" : Str) = some NameKind.local
  loc : ∀ y, scope.names.lookup y = some .local → y = (".0" : Str) ∨ y = x
  xl : scope.names.lookup x = some .local
  free : ∀ y ∈ scope.names, y.2 = .free → sc.names.lookup y.1 = some .cell ∨ sc.names.lookup y.1 = some .free
  nd : N.Nodup
  spot : N[ix]? = some x
  nodot : (".0" : Str) ∉ N

/-- the context in which the generator's code runs: entered at s -/
def gcx (X : Cx) (A : Around) (s : Shared) (H : Hp) (env : Env) (fp : List Addr) : Cx where
  prog := X.prog
  w := X.w
  K := X.K
  mg := X.mg
  base := X.base
  A := A
  N := X.N
  s_0 := s
  H_0 := H
  env := env
  outer := X.stack
  stack := env :: X.stack
  ex := fp
  fn := fun _ => false
  calm := true
  pn := []
  xe := fun _ _ => False

/-- states with other generators alone -/
theorem inv_gens {X : Cx} {pins : List (Addr × Obj)} {σ : L2.St} {H : Hp} {s : Shared} (I : Inv X pins σ H s) {g' : Array GenState} (hb : AllBare g') : Inv X pins σ H { s with gens := g' } :=
  ⟨I.ok, I.os, hb, I.base, I.loc, I.cell, I.free, I.freeC, I.pin, I.hok, I.len⟩
theorem bare_set {G : Array GenState} {g : Nat} {x : GenState} (h : AllBare G) (hx : x.bare = true) : AllBare (G.setIfInBounds g x) := by
  intro y hy
  rcases Array.mem_or_eq_of_mem_setIfInBounds hy with q | q
  · exact h y q
  · rw [q]; exact hx

section
variable {X : Cx} {pins : List (Addr × Obj)} {σ : L2.St} {H : Hp} {s : Shared}

theorem clo_sub {env : Env} {scope : Scope} (has : ∀ y ∈ scope.names, y.2 = .free → ∃ c, env.cells.lookup y.1 = some c) {y : Str} {c : Addr} (e : (cloFrom env.cells scope.names []).lookup y = some c) : env.cells.lookup y = some c := by
  rcases cloFrom_mem (PySem.mem_of_lookup e) with hm | ⟨h1, h2⟩
  · cases hm
  · obtain ⟨c1, hc⟩ := has _ h1 rfl
    have hc' : env.cells.lookup y = some c1 := hc
    have : c = c1 := by rw [h2, hc'] <;> rfl
    rw [this]; exact hc'

/-- the generator's frame has been laid: the invariant of its context -/
theorem gx_start {N : List Str} {scope : Scope} {x : Str} {ix : Nat} {A : Around} {code : Value} {fp : List Addr} {itv : Value} {h1 : Heap} {tk : Nat} {gens' : Array GenState} {pin : List (Addr × Obj)}
    (I : Inv X pins σ H s) (G : GScp X.N X.env.scope scope x ix)
    (hA : A.frames = some (genEnv scope (cloFrom X.env.cells scope.names []) s.heap.objs.size code builtinsNs X.env :: X.stack)) (hd : A.handled = none)
    (hfp : ∀ b ∈ fp, FpOk X pins H b) (hlt : ∀ b ∈ fp, b < s.heap.objs.size)
    (hns : h1.Ns s.heap.objs.size fun y => if y = (".0" : Str) then some itv else none) (kp : ∀ b o, s.heap.get? b = some o → h1.get? b = some o) (hb : AllBare gens')
    (hpin : ∀ p ∈ pin, h1.get? p.1 = some p.2 ∧ s.heap.objs.size < p.1 ∧ ∀ v, p.2.data ≠ .cell v) :
    Inv (gcx X A s H (genEnv scope (cloFrom X.env.cells scope.names []) s.heap.objs.size code builtinsNs X.env) fp) pin (σ.set ix none) H { s with heap := h1, toks := tk, gens := gens' } := by
  have has : ∀ y ∈ scope.names, y.2 = .free → ∃ c, X.env.cells.lookup y.1 = some c := fun y hy e => by
    rcases G.free y hy e with k | k
    · exact I.ok.has _ (.inl k)
    · exact I.ok.has _ (.inr k)
  have cm : ∀ {y c}, (cloFrom X.env.cells scope.names []).lookup y = some c → X.env.cells.lookup y = some c := fun {y c} e => clo_sub has e
  have look : ∀ {y}, scope.names.lookup y = some .free → ∃ c, (cloFrom X.env.cells scope.names []).lookup y = some c := fun {y} hl => by
    have hy : (y, NameKind.free) ∈ scope.names := PySem.mem_of_lookup hl
    exact mem_lookup (cloFrom_has (cells := X.env.cells) (acc := []) hy)
  have cellK : ∀ {c : Addr} {v : Option Value}, s.heap.IsCell c v → h1.IsCell c v := fun {c v} ⟨o, ho, hd⟩ => ⟨o, kp _ _ ho, hd⟩
  refine ⟨⟨I.ok.mod, G.kind, I.ok.glob, rfl, Nat.le_refl _, fun y z c e1 e2 => I.ok.inj y z c (cm e1) (cm e2), fun y hy => ?_, fun y c z _ => ?_, fun _ => hd, hA, .inr ⟨rfl, rfl⟩, fun b hb => ⟨Nat.ne_of_lt (hlt b hb), fun y c e => ?_⟩, I.bs,
      Nat.le_trans I.ok.bsz I.sz, fun b o e hb => ?_, fun b hb hm => ?_, I.stack, I.stkFree⟩,
    rfl, hb, Un.kept kp, ⟨_, hns, fun i y v e1 e2 e3 => ?_⟩, fun y c e => ?_, I.hok.fresh (Nat.le_refl _), fun y c e => I.freeC y c (cm e), fun p hp => ?_, I.hok.kept kp, ?_⟩
  · have hy : scope.names.lookup y = some .cell ∨ scope.names.lookup y = some .free := hy
    rcases hy with hy | hy
    · exact absurd rfl (G.cell _ (PySem.mem_of_lookup hy))
    · exact look hy
  · cases z
  · exact (hfp b hb).2.2.2.2.1 y c (cm e)
  · obtain ⟨_, _, _, h4, _⟩ := hfp b hb
    rcases h4 with h4 | h4
    · exact I.ok.noex b o e h4
    · exact absurd (Nat.lt_of_lt_of_le (Nat.lt_of_lt_of_le (Heap.lt_size e) I.ok.bsz) h4) (Nat.lt_irrefl _)
  · obtain ⟨_, h2, h3, _⟩ := hfp b hb
    rcases List.mem_cons.mp (I.stkSub b hm) with z | z
    · exact h2 z
    · exact h3 z
  · have e3 : Vis scope y := e3
    have e2' : i ≠ ix ∧ σ[i]? = some (some v) := by
      by_cases hi : i = ix
      · subst hi
        have hl : i < σ.length := by
          rw [I.len]
          exact (List.getElem?_eq_some_iff.mp G.spot).1
        rw [List.getElem?_set_self hl] at e2
        cases e2
      · rw [List.getElem?_set_ne (fun q => hi q.symm)] at e2
        exact ⟨hi, e2⟩
    rcases e3 with k | k | k
    · rcases G.loc y k with z | z
      · exact absurd (List.mem_of_getElem? (show X.N[i]? = some (".0" : Str) by rw [← z]; exact e1)) G.nodot
      · exact absurd (nodup_ix G.nd (show X.N[i]? = some x by rw [← z]; exact e1) G.spot) e2'.1
    · exact absurd rfl (G.cell _ (PySem.mem_of_lookup k))
    · obtain ⟨m, hn, hl⟩ := I.loc
      have hfr := G.free _ (PySem.mem_of_lookup k) rfl
      have hvis : Vis X.env.scope y := hfr.elim (fun k => .inr (.inl k)) (fun k => .inr (.inr k))
      obtain ⟨w', r, q⟩ := hl i y v e1 e2'.2 hvis
      obtain ⟨c2, h2⟩ := look k
      refine ⟨w', r, .inr ⟨.inr k, c2, h2, ?_⟩⟩
      have c1 := cm h2
      rcases q with ⟨k', _⟩ | ⟨_, c3, e', z⟩
      · have k' : X.env.scope.names.lookup y = some .local := k'
        rcases hfr with k2 | k2 <;> rw [show X.env.scope.names.lookup y = _ from k2] at k' <;> cases k'
      · rw [c1] at e'
        cases e'
        exact cellK z
  · obtain ⟨w', z⟩ := I.cell y c (cm e)
    exact ⟨w', cellK z⟩
  · have hp' : p ∈ pin := by
      rcases List.mem_append.mp hp with z | z
      · exact absurd (show p ∈ ([] : List (Addr × Obj)) from z) (by simp)
      · exact z
    obtain ⟨q1, q2, q3⟩ := hpin p hp'
    refine ⟨q1, I.hok.fresh (Nat.le_of_lt q2), Nat.ne_of_gt q2, fun hm => ?_, q3⟩
    have hm' : p.1 ∈ frs X.stack := hm
    rcases List.mem_cons.mp (I.stkSub _ hm') with z | z
    · have := I.lt
      rw [← z] at this
      exact absurd (Nat.lt_trans this q2) (Nat.lt_irrefl _)
    · exact I.nofs (Nat.le_of_lt q2) z
  · rw [List.length_set]; exact I.len
end

/-! ### the turns of the generator -/
/-- what is wanted of it: W between the turns (behind i items), Out behind an item that was handed out and will not be followed, Fin behind the last -/
structure Plan where
  W : Nat → L2.St → Hp → Prop
  Out : Bool → Nat → L2.St → Hp → Prop
  Fin : Hp → Prop
def gY (Z : Cx) (pin : List (Addr × Obj)) (fp : List Addr) (tn : Nat → Heap → Prop) (Pn : Plan) (go : Bool) (n g : Nat) : Protocol := fun m _ v s kap =>
  ∃ (i : Nat) (b : Bool) (σ : L2.St) (H : Hp), i + m + 1 = n ∧ v = .bool b ∧ Inv Z pin σ H s ∧ g < s.gens.size ∧
    (if b = go then Pn.W (i + 1) σ H else Pn.Out b i σ H) ∧
    (b = go → ∀ s'' : Shared, s''.heap = s.heap → s''.os = s.os → AllBare s''.gens → g < s''.gens.size → kap (.send .none) s'')
def gP (Z : Cx) (pin : List (Addr × Obj)) (Pn : Plan) (g : Nat) : Nat → Shared → Shared → Prop := fun _ _ s => ∃ σ H, Inv Z pin σ H s ∧ Pn.Fin H ∧ g < s.gens.size

/-- one item, the plan's way -/
def Turns (J : It) (g : TG) (te : TE) (go : Bool) (n : Nat) (Pn : Plan) : Prop :=
  ∀ i σ H, i ≤ n → Pn.W i σ H → (J.stop i H ∧ Pn.Fin H) ∨ (i < n ∧ J.go i H ∧ ∀ x H', J.yld i H x H' → g x σ H' fun σ2 H2 => te σ2 H2 fun v H3 => ∃ b, v = .bl b ∧ if b = go then Pn.W (i + 1) σ2 H3 else Pn.Out b i σ2 H3)

theorem inv_same {Z : Cx} {pin : List (Addr × Obj)} {σ : L2.St} {H : Hp} {s s' : Shared} (I : Inv Z pin σ H s) (hh : s'.heap = s.heap) (ho : s'.os = s.os) (hb : AllBare s'.gens) : Inv Z pin σ H s' := by
  obtain ⟨hp, gg, d, t, os⟩ := s'
  subst hh
  subst ho
  exact ⟨I.ok, I.os, hb, I.base, I.loc, I.cell, I.free, I.freeC, I.pin, I.hok, I.len⟩

theorem seg_turns {Z : Cx} {elt tg iter : Expr} {scope : Scope} {pos : Pos} {it : Addr} {fp : List Addr} {tn : Nat → Heap → Prop} {J : It} {gt : TG} {te : TE} {A : Around} {pin : List (Addr × Obj)} {go : Bool} {n g : Nat} {Pn : Plan}
    (T : Turn Z.prog Z.w Z.K tg J fp it tn) (hg : PG Z tg gt) (hel : PE Z elt te) (hx : ∀ e s, ¬ Z.xe e s) (hc : Z.calm = true) (hco : Z.env.scope.isCoroutine = false)
    (hA : A.over (.compLoop (.GeneratorExp elt [⟨tg, iter, [], 0⟩] scope pos) 0 (.ref it) .none Z.env) [] = Z.A) (tt : Turns J gt te go n Pn)
    (stat : ∀ {H : Hp}, (∀ d ∈ fp, H d = none) → ∀ d ∈ fp, FpOk Z pin H d) :
    ∀ (k i : Nat) (s₀ s : Shared) (σ : L2.St) (H : Hp), i + k = n → Inv Z pin σ H s → tn i s.heap → (∀ d ∈ fp, H d = none) → g < s.gens.size → Pn.W i σ H →
      Seg (model Z.prog Z.w) A (fun m s₁ r s₂ => r = .ok .next ∧ gP Z pin Pn g m s₁ s₂) (gY Z pin fp tn Pn go n g) k s₀
        (.compLoop (.GeneratorExp elt [⟨tg, iter, [], 0⟩] scope pos) 0 (.ref it) .none Z.env)
        ((model Z.prog Z.w).den (.compLoop (.GeneratorExp elt [⟨tg, iter, [], 0⟩] scope pos) 0 (.ref it) .none Z.env)) [] s := by
  intro k
  induction k with
  | zero =>
    intro i s₀ s σ H hk I hst hn hgz hw
    show Seg _ A _ _ _ s₀ _ ((compTurn (.GeneratorExp elt [⟨tg, iter, [], 0⟩] scope pos) 0 (.ref it) .none Z.env).onRaise (leaving Z.env)) [] s
    rw [compTurn_gen, Sem.onRaise_eq_wrap]
    refine seg_bind_wrap (wpAny_standAt ?_)
    rcases tt i σ H (by omega) hw with ⟨stp, fin⟩ | ⟨hlt, _⟩
    · refine seg_bind_wrap ?_
      rw [hA]
      refine GenW.wpAny_gsz (n := g + 1) hgz (wpAny_mono (T.done Z rfl rfl rfl hc i pin s σ H (fun _ _ => False) I (stat hn) hst stp) (fun r s1 h1 hz => ?_) fun _ _ e => e.elim)
      obtain ⟨hr, I1⟩ := h1
      subst hr
      exact seg_end (.ok .next) ⟨rfl, σ, H, I1, fin, hz⟩
    · exact absurd hlt (by omega)
  | succ k ih =>
    intro i s₀ s σ H hk I hst hn hgz hw
    show Seg _ A _ _ _ s₀ _ ((compTurn (.GeneratorExp elt [⟨tg, iter, [], 0⟩] scope pos) 0 (.ref it) .none Z.env).onRaise (leaving Z.env)) [] s
    rw [compTurn_gen, Sem.onRaise_eq_wrap]
    refine seg_bind_wrap (wpAny_standAt ?_)
    refine seg_bind_wrap ?_
    rw [hA]
    rcases tt i σ H (by omega) hw with ⟨stp, fin⟩ | ⟨hlt, gO, step⟩
    · refine GenW.wpAny_gsz (n := g + 1) hgz (wpAny_mono (T.done Z rfl rfl rfl hc i pin s σ H (fun _ _ => False) I (stat hn) hst stp) (fun r s1 h1 hz => ?_) fun _ _ e => e.elim)
      obtain ⟨hr, I1⟩ := h1
      subst hr
      exact seg_end (.ok .next) ⟨rfl, σ, H, I1, fin, hz⟩
    · refine GenW.wpAny_gsz (n := g + 1) hgz (wpAny_mono (T.item Z rfl rfl rfl hc i pin s σ H (fun _ _ => False) I (stat hn) hst gO) (fun r s1 h1 hz1 => ?_) fun _ _ e => e.elim)
      obtain ⟨u, hr, h1⟩ := h1
      subst hr
      refine seg_bind_wrap ?_
      rw [hA]
      refine GenW.wpAny_gsz (n := g + 1) hz1 (wpAny_mono h1 (fun _ s2 h2 hz2 => ?_) fun _ _ e => e.elim)
      obtain ⟨x, H2, I2, r2, y2, st2, n2⟩ := h2
      have P2 := I2.pinned (stat n2) (T.obj _ _ st2)
      refine seg_bind_wrap ?_
      rw [hA]
      refine GenW.wpAny_gsz (n := g + 1) hz2 (wpAny_mono (hg.run _ s2 σ H2 x u _ P2 r2 (step x H2 y2)) (fun _ s3 h3 hz3 => ?_) fun e s3 he _ => (hx e s3 he).elim)
      obtain ⟨σ3, H3, I3, q3⟩ := h3
      refine seg_bind_wrap ?_
      simp only [List.forIn_nil]
      refine wpAny_pure ?_
      simp only [if_true]
      have hy : ∀ v, yieldOut Z.env v = yieldValue v := fun v => by simp only [yieldOut, hco, Bool.false_eq_true, if_false]
      simp only [hy]
      rw [Sem.bind_eq_wrap', Sem.bind_eq_wrap', Sem.wrap_wrap, Sem.wrap_wrap]
      refine seg_wrap ?_
      rw [hA]
      refine GenW.wpAny_gsz (n := g + 1) hz3 (wpAny_mono (hel.run _ s3 σ3 H3 _ I3 q3) (fun v s4 h4 hz4 => ?_) fun e s4 he _ => (hx e s4 he).elim)
      obtain ⟨w4, H4, I4, r4, b, eb, q4⟩ := h4
      subst eb
      obtain rfl : v = Value.bool b := r4
      have st4 : tn (i + 1) s4.heap := T.keep _ _ _ st2 fun d hd o e => (I4.pin (d, o) (List.mem_append_right _ (List.mem_append_right _ (mem_pinsAt hd e)))).1
      have n4 : ∀ d ∈ fp, H4 d = none := fun d hd => by
        obtain ⟨o, e, _⟩ := T.obj _ _ st2 d hd
        exact (I4.pin (d, o) (List.mem_append_right _ (List.mem_append_right _ (mem_pinsAt hd e)))).2.1
      have I4' := I4.unpinned
      refine seg_at (seg_yield rfl rfl rfl ⟨i, b, σ3, H4, by omega, rfl, I4', hz4, q4, fun hb s'' e1 e2 e3 e4 => ?_⟩)
      rw [if_pos hb] at q4
      exact seg_again rfl (ih (i + 1) s'' s'' σ3 H4 (by omega) (inv_same I4' e1 e2 e3) (by rw [e1]; exact st4) n4 e4 q4)

theorem seg_begin {Z : Cx} {elt tg iter : Expr} {scope : Scope} {pos : Pos} {it : Addr} {fp : List Addr} {tn : Nat → Heap → Prop} {J : It} {gt : TG} {te : TE} {A : Around} {pin : List (Addr × Obj)} {go : Bool} {n g : Nat} {Pn : Plan}
    (T : Turn Z.prog Z.w Z.K tg J fp it tn) (hg : PG Z tg gt) (hel : PE Z elt te) (hx : ∀ e s, ¬ Z.xe e s) (hc : Z.calm = true) (hco : Z.env.scope.isCoroutine = false)
    (hA : A.over (.compLoop (.GeneratorExp elt [⟨tg, iter, [], 0⟩] scope pos) 0 (.ref it) .none Z.env) [] = Z.A) (tt : Turns J gt te go n Pn)
    (stat : ∀ {H : Hp}, (∀ d ∈ fp, H d = none) → ∀ d ∈ fp, FpOk Z pin H d)
    (s₀ s : Shared) (σ : L2.St) (H : Hp) (I : Inv Z pin σ H s) (hst : tn 0 s.heap) (hn : ∀ d ∈ fp, H d = none) (hgz : g < s.gens.size) (hw : Pn.W 0 σ H) :
    Seg (model Z.prog Z.w) A (fun m s₁ r s₂ => r = .ok .next ∧ gP Z pin Pn g m s₁ s₂) (gY Z pin fp tn Pn go n g) n s₀
      (.compStart (.GeneratorExp elt [⟨tg, iter, [], 0⟩] scope pos) 0 (.ref it) .none Z.env)
      ((model Z.prog Z.w).den (.compStart (.GeneratorExp elt [⟨tg, iter, [], 0⟩] scope pos) 0 (.ref it) .none Z.env)) [] s := by
  have lp := seg_turns (pos := pos) T hg hel hx hc hco hA tt stat n 0 s₀ s σ H (by omega) I hst hn hgz hw
  show Seg _ A _ _ _ s₀ _ ((compStart (.GeneratorExp elt [⟨tg, iter, [], 0⟩] scope pos) 0 (.ref it) .none Z.env).onRaise (leaving Z.env)) [] s
  unfold compStart
  rw [Sem.onRaise_eq_wrap]
  show Seg _ A _ _ _ s₀ _ ((ask >>= _).wrap _ _ _ _) [] s
  refine seg_bind_wrap (wpAny_askSetting ?_)
  split
  · exact seg_again rfl lp
  · refine seg_bind_wrap (wpAny_rule ?_)
    show Seg _ A _ _ _ s₀ _ ((standAt iter.pos >>= _).wrap _ _ _ _) [] s
    exact seg_bind_wrap (wpAny_standAt (seg_bind_wrap (T.self _ 0 s _ _ hst (seg_again rfl lp))))

/-! ### the walk by all, by any -/
theorem isGen_pin {Z : Cx} {σ : L2.St} {H : Hp} {s : Shared} {a : Addr} {o : Obj} {g : Nat} {nm qn : Value} (hc : o.cls = .type "generator") (hd : o.data = .fields #[.int g 0, nm, qn]) (hs : o.slots = #[]) (I : Inv Z [(a, o)] σ H s) : s.heap.IsGen a g :=
  ⟨o, nm, qn, (I.pin (a, o) (List.mem_append_right _ (List.mem_singleton.mpr rfl))).1, hc, hd, hs⟩

section
variable {Z : Cx} {fp : List Addr} {tn : Nat → Heap → Prop} {A : Around} {a : Addr} {o : Obj} {n g : Nat} {Pn : Plan} {R : Result → Shared → Prop} {nm qn : Value}

theorem all_walk (hoc : o.cls = .type "generator") (hod : o.data = .fields #[.int g 0, nm, qn]) (hos : o.slots = #[]) (hh : A.handled = none) (hroom : A.depth < recursionLimit)
    (hOut : ∀ i σ H s, Inv Z [(a, o)] σ H s → Pn.Out false i σ H → R (.ok (.ret (.bool false))) s)
    (hFin : ∀ σ H s, Inv Z [(a, o)] σ H s → Pn.Fin H → R (.ok (.ret (.bool true))) s) :
    ∀ (m : Nat) (s : Shared) (gs : GenState) (σ : L2.St) (H : Hp), Inv Z [(a, o)] σ H s → s.gens[g]? = some gs → gs.Goes (model Z.prog Z.w) A.in1.in1 (fun m s₁ r s₂ => r = .ok .next ∧ gP Z [(a, o)] Pn g m s₁ s₂) (gY Z [(a, o)] fp tn Pn true n g) m (.send .none) (s.setGen g .running) →
      codeAny (model Z.prog Z.w) A (.builtin "all.loop" ⟨[.ref a], []⟩) R s := by
  intro m
  induction m with
  | zero =>
    intro s gs σ H I hgs hgo
    refine codeAny_builtin F.entry_all_loop ?_
    rw [Around.under_plainId F.plain_all_loop _]
    show wpAny _ A.in1 (pyNext (.ref a) >>= _) _ _ s
    refine wpAny_bind (wpAny_pyNext_genexpQ (P := gP Z [(a, o)] Pn g) hh I.nolimit hroom (isGen_pin hoc hod hos I) hgs hgo (fun v s₁ gs' hb hv => ?_) (fun s₁ hp h' hk => ?_))
    · obtain ⟨i, b, σ1, H1, hi, rfl, I1, hz, q, hkap⟩ := hv
      cases b with
      | true => exact (hkap rfl s₁ rfl rfl I1.bare hz).elim
      | false =>
        refine wpAny_bind (wpAny_holding (wpAny_truthy_bool ?_))
        refine wpAny_bind (wpAny_letGo ?_)
        simp only [Bool.false_eq_true, if_false]
        refine wpAny_bind (wpAny_rule (wpAny_pure ?_))
        exact hOut i σ1 H1 _ (inv_gens I1 (bare_set I1.bare hb)) (by simpa using q)
    · obtain ⟨σ1, H1, I1, q, hz⟩ := hp
      refine wpAny_bind (wpAny_rule (wpAny_pure ?_))
      exact hFin σ1 H1 _ ((inv_gens I1 (bare_set I1.bare rfl)).kept hk) q
  | succ m ih =>
    intro s gs σ H I hgs hgo
    refine codeAny_builtin F.entry_all_loop ?_
    rw [Around.under_plainId F.plain_all_loop _]
    show wpAny _ A.in1 (pyNext (.ref a) >>= _) _ _ s
    refine wpAny_bind (wpAny_pyNext_genexpQ (P := gP Z [(a, o)] Pn g) hh I.nolimit hroom (isGen_pin hoc hod hos I) hgs hgo (fun v s₁ gs' hb hv => ?_) (fun s₁ hp h' hk => ?_))
    · obtain ⟨i, b, σ1, H1, hi, rfl, I1, hz, q, hkap⟩ := hv
      refine wpAny_bind (wpAny_holding (wpAny_truthy_bool ?_))
      refine wpAny_bind (wpAny_letGo ?_)
      have hz' : g < (s₁.setGen g gs').gens.size := by rw [GenW.setGen_size]; exact hz
      cases b with
      | true =>
        simp only [if_true]
        refine wpAny_pure ⟨plainId_quiet F.plain_all_loop _, ih (s₁.setGen g gs') gs' σ1 H1 (inv_gens I1 (bare_set I1.bare hb)) ?_ ?_⟩
        · show (s₁.gens.setIfInBounds g gs')[g]? = some gs'
          rw [Array.getElem?_setIfInBounds_self_of_lt hz]
        · exact hkap rfl _ rfl rfl (bare_set (bare_set I1.bare hb) rfl) (by rw [GenW.setGen_size]; exact hz')
      | false =>
        simp only [Bool.false_eq_true, if_false]
        refine wpAny_bind (wpAny_rule (wpAny_pure ?_))
        exact hOut i σ1 H1 _ (inv_gens I1 (bare_set I1.bare hb)) (by simpa using q)
    · obtain ⟨σ1, H1, I1, q, hz⟩ := hp
      refine wpAny_bind (wpAny_rule (wpAny_pure ?_))
      exact hFin σ1 H1 _ ((inv_gens I1 (bare_set I1.bare rfl)).kept hk) q

theorem any_walk (hoc : o.cls = .type "generator") (hod : o.data = .fields #[.int g 0, nm, qn]) (hos : o.slots = #[]) (hh : A.handled = none) (hroom : A.depth < recursionLimit)
    (hOut : ∀ i σ H s, Inv Z [(a, o)] σ H s → Pn.Out true i σ H → R (.ok (.ret (.bool true))) s)
    (hFin : ∀ σ H s, Inv Z [(a, o)] σ H s → Pn.Fin H → R (.ok (.ret (.bool false))) s) :
    ∀ (m : Nat) (s : Shared) (gs : GenState) (σ : L2.St) (H : Hp), Inv Z [(a, o)] σ H s → s.gens[g]? = some gs → gs.Goes (model Z.prog Z.w) A.in1.in1 (fun m s₁ r s₂ => r = .ok .next ∧ gP Z [(a, o)] Pn g m s₁ s₂) (gY Z [(a, o)] fp tn Pn false n g) m (.send .none) (s.setGen g .running) →
      codeAny (model Z.prog Z.w) A (.builtin "any.loop" ⟨[.ref a], []⟩) R s := by
  intro m
  induction m with
  | zero =>
    intro s gs σ H I hgs hgo
    refine codeAny_builtin F.entry_any_loop ?_
    rw [Around.under_plainId F.plain_any_loop _]
    show wpAny _ A.in1 (pyNext (.ref a) >>= _) _ _ s
    refine wpAny_bind (wpAny_pyNext_genexpQ (P := gP Z [(a, o)] Pn g) hh I.nolimit hroom (isGen_pin hoc hod hos I) hgs hgo (fun v s₁ gs' hb hv => ?_) (fun s₁ hp h' hk => ?_))
    · obtain ⟨i, b, σ1, H1, hi, rfl, I1, hz, q, hkap⟩ := hv
      cases b with
      | false => exact (hkap rfl s₁ rfl rfl I1.bare hz).elim
      | true =>
        refine wpAny_bind (wpAny_holding (wpAny_truthy_bool ?_))
        refine wpAny_bind (wpAny_letGo ?_)
        simp only [if_true]
        refine wpAny_bind (wpAny_rule (wpAny_pure ?_))
        exact hOut i σ1 H1 _ (inv_gens I1 (bare_set I1.bare hb)) (by simpa using q)
    · obtain ⟨σ1, H1, I1, q, hz⟩ := hp
      refine wpAny_bind (wpAny_rule (wpAny_pure ?_))
      exact hFin σ1 H1 _ ((inv_gens I1 (bare_set I1.bare rfl)).kept hk) q
  | succ m ih =>
    intro s gs σ H I hgs hgo
    refine codeAny_builtin F.entry_any_loop ?_
    rw [Around.under_plainId F.plain_any_loop _]
    show wpAny _ A.in1 (pyNext (.ref a) >>= _) _ _ s
    refine wpAny_bind (wpAny_pyNext_genexpQ (P := gP Z [(a, o)] Pn g) hh I.nolimit hroom (isGen_pin hoc hod hos I) hgs hgo (fun v s₁ gs' hb hv => ?_) (fun s₁ hp h' hk => ?_))
    · obtain ⟨i, b, σ1, H1, hi, rfl, I1, hz, q, hkap⟩ := hv
      refine wpAny_bind (wpAny_holding (wpAny_truthy_bool ?_))
      refine wpAny_bind (wpAny_letGo ?_)
      have hz' : g < (s₁.setGen g gs').gens.size := by rw [GenW.setGen_size]; exact hz
      cases b with
      | false =>
        simp only [Bool.false_eq_true, if_false]
        refine wpAny_pure ⟨plainId_quiet F.plain_any_loop _, ih (s₁.setGen g gs') gs' σ1 H1 (inv_gens I1 (bare_set I1.bare hb)) ?_ ?_⟩
        · show (s₁.gens.setIfInBounds g gs')[g]? = some gs'
          rw [Array.getElem?_setIfInBounds_self_of_lt hz]
        · exact hkap rfl _ rfl rfl (bare_set (bare_set I1.bare hb) rfl) (by rw [GenW.setGen_size]; exact hz')
      | true =>
        simp only [if_true]
        refine wpAny_bind (wpAny_rule (wpAny_pure ?_))
        exact hOut i σ1 H1 _ (inv_gens I1 (bare_set I1.bare hb)) (by simpa using q)
    · obtain ⟨σ1, H1, I1, q, hz⟩ := hp
      refine wpAny_bind (wpAny_rule (wpAny_pure ?_))
      exact hFin σ1 H1 _ ((inv_gens I1 (bare_set I1.bare rfl)).kept hk) q
end

/-! ### the rules -/
/-- the code that runs in the generator's frame, from a builtin's loop -/
abbrev gA (X : Cx) (env : Env) : Around := X.A.in1.in1.deeper env
abbrev gE (X : Cx) (scope : Scope) (C : Addr) (code : Value) : Env := genEnv scope (cloFrom X.env.cells scope.names []) C code builtinsNs X.env
/-- what a walk over the generator leads to: R, from the plan's ends -/
def tAllG (P : Addr) (ix : Nat) (wi : TI) (g : TG) (te : TE) (go : Bool) : TE := fun σ H Q => wi σ H fun J H1 => GxR.TabG H1 P ∧ ∀ H2, GxR.Tabbed P H1 H2 → ∃ (n : Nat) (Pn : Plan), Turns J g te go n Pn ∧ Pn.W 0 (σ.set ix none) H2 ∧
  (∀ i σ' H', Pn.Out (!go) i σ' H' → Q (.bl (!go)) H') ∧ ∀ H', Pn.Fin H' → Q (.bl go) H'

section
variable {X : Cx} {elt iter : Expr} {x : Str} {px p pos gpos : Pos} {scope : Scope} {ix k : Nat} {wi : TI} {g : TG} {te : TE} {P c : Addr}

theorem gen_made {pins : List (Addr × Obj)} {σ : L2.St} {H : Hp} {s : Shared} {go : Bool} {R : V → Hp → Prop} {Q' : Value → Shared → Prop}
    (hr : Room (k + 1) X.A) (TB : GxR.TabB X.base X.mg c P) (hcode : X.env.code = .ref c) (G : GScp X.N X.env.scope scope x ix) (hi : PI X (.Name x px) iter wi)
    (hgt : ∀ (s : Shared) (H : Hp) (C : Addr) (code : Value) (fp : List Addr), PG (gcx X (gA X (gE X scope C code)) s H (gE X scope C code) fp) (.Name x px) g)
    (hel : ∀ (s : Shared) (H : Hp) (C : Addr) (code : Value) (fp : List Addr), Room k (gA X (gE X scope C code)) → PE (gcx X (gA X (gE X scope C code)) s H (gE X scope C code) fp) elt te)
    (hs : ∀ v, genFold iter X.env v = pure v) (I : Inv X pins σ H s) (h : tAllG P ix wi g te go σ H R)
    (hQ : ∀ (Z : Cx) (fp : List Addr) (tn : Nat → Heap → Prop) (a : Addr) (o : Obj) (n gg : Nat) (Pn : Plan) (nm qn : Value) (s5 : Shared) (gs : GenState) (σ5 : L2.St) (H5 : Hp), Z.prog = X.prog → Z.w = X.w →
      o.cls = .type "generator" → o.data = .fields #[.int gg 0, nm, qn] → o.slots = #[] → Inv Z [(a, o)] σ5 H5 s5 → s5.gens[gg]? = some gs →
      gs.Goes (model Z.prog Z.w) X.A.in1.in1 (fun m s₁ r s₂ => r = .ok .next ∧ gP Z [(a, o)] Pn gg m s₁ s₂) (gY Z [(a, o)] fp tn Pn go n gg) n (.send .none) (s5.setGen gg .running) →
      (∀ i σ' H' s', Inv Z [(a, o)] σ' H' s' → Pn.Out (!go) i σ' H' → ∃ H'', Inv X pins σ H'' s' ∧ R (.bl (!go)) H'') →
      (∀ σ' H' s', Inv Z [(a, o)] σ' H' s' → Pn.Fin H' → ∃ H'', Inv X pins σ H'' s' ∧ R (.bl go) H'') → Q' (.ref a) s5) :
    wpAny (model X.prog X.w) X.A (eval (.GeneratorExp elt [⟨.Name x px, iter, [], 0⟩] scope gpos) X.env) Q' X.xe s := by
  have has : ∀ y ∈ scope.names, y.2 = .free → ∃ c, X.env.cells.lookup y.1 = some c := fun y hy e => by
    rcases G.free y hy e with k | k
    · exact I.ok.has _ (.inl k)
    · exact I.ok.has _ (.inr k)
  refine wpAny_GeneratorExp_make G.co (closure_ok has) G.cell G.dot G.kind (by have := hr.dp; omega) ?_ hs
  refine thn (hi.run pins s σ H _ I h) fun xv s1 h1 => thn h1 fun itv s2 h2 => ?_
  obtain ⟨it, fp, tn, J, H1, rfl, I1, T, st1, f1, ⟨ps, hP, ht⟩, plan⟩ := h2
  have hPs : s2.heap.get? P = some { cls := .none, data := .fields ps } := I1.hok P _ hP
  have cd : PySem.W.CodeHd s2.heap c P := TB.code.keeps fun b u e => I1.bk b u e
  have fpP : ∀ b ∈ fp, b ≠ P := fun b hb z => by
    have := (f1 b hb).1
    rw [z, hP] at this
    cases this
  have cont : ∀ (code : Value) (h3 : Heap) (tk : Nat) (ps' : Array Value), Heap.ExtBut P s2.heap h3 → h3.get? P = some { cls := .none, data := .fields ps' } → (∃ more, ps' = ps ++ more) → TriplesOk ps'.toList →
      wpAny (model X.prog X.w) X.A (builtinsFor X.env.globals X.env.builtins) (fun bi s₄ => ∀ h', h'.Ns s₄.heap.objs.size (fun y => if y = (".0" : Str) then some (.ref it) else none) → Heap.SameBut s₄.heap.objs.size (s₄.heap.push { cls := .type "frame", data := .dict #[] }) h' →
          Q' (.ref h'.objs.size) { s₄ with
            gens := s₄.gens.push (.fresh (.compStart (.GeneratorExp elt [⟨.Name x px, iter, [], 0⟩] scope gpos) 0 (.ref it) .none (genEnv scope (cloFrom X.env.cells scope.names []) s₄.heap.objs.size code bi X.env))),
            toks := s₄.toks + 1 + 1 + 1,
            heap := h'.push { cls := .type "generator", data := .fields #[.int s₄.gens.size 0, .str "<genexpr>" (s₄.toks + 1), .str (X.env.qual ++ "<genexpr>") (s₄.toks + 1 + 1)] } }) X.xe { s2 with heap := h3, toks := tk } := by
    intro code h3 tk ps' hx hP3 hmore ht3
    obtain ⟨bm, ob, e1, e2, e3, e4, e5, e6, e7, e8⟩ := TB.bm
    refine wpAny_builtinsFor (m := X.mg) (by rw [I1.ok.glob]; exact (I1.mod.glob.keeps I1.bk).extBut hx TB.gP) e1 e2 (hx _ _ e4 (I1.bk _ _ e5)) e6 e7 e8 ?_
    intro h' hns hsb
    obtain ⟨more, rfl⟩ := hmore
    have I3 : Inv X pins σ (upd H1 P (.tbl (ps ++ more))) { s2 with heap := h3, toks := tk } :=
      GxR.inv_tab (more := more) (h' := h3) (g' := s2.gens) (d' := s2.drawn) (t' := tk) I1 hP (fun b u hb e => hx b u hb e) hP3 I1.bare
    have H2 : GxR.Tabbed P H1 (upd H1 P (.tbl (ps ++ more))) := ⟨⟨ps ++ more, upd_same, ht3⟩, fun b hb => upd_ne hb⟩
    obtain ⟨n, Pn, tt, w0, pOut, pFin⟩ := plan _ H2
    have f3 : ∀ b ∈ fp, FpOk X pins (upd H1 P (.tbl (ps ++ more))) b := fun b hb => ⟨by rw [upd_ne (fpP b hb)]; exact (f1 b hb).1, (f1 b hb).2⟩
    have st3 : tn 0 h3 := T.keep _ _ _ st1 fun b hb o e => hx b o (fpP b hb) e
    have lt3 : ∀ b ∈ fp, b < h3.objs.size := fun b hb => by
      obtain ⟨o, e, _⟩ := T.obj _ _ st3 b hb
      exact Heap.lt_size e
    have hsz : h'.objs.size = h3.objs.size + 1 := by rw [hsb.1, Heap.size_push]
    have kp' : ∀ b o, h3.get? b = some o → h'.get? b = some o := fun b o e => hsb.extBut b o (Nat.ne_of_lt (Heap.lt_size e)) (Heap.get?_push_of_some _ e)
    have key : ∀ (o : Obj) (nm qn : Value), o.cls = .type "generator" → o.data = .fields #[.int s2.gens.size 0, nm, qn] → o.slots = #[] → (h'.push o).get? h'.objs.size = some o →
        Q' (.ref h'.objs.size) { s2 with
            gens := s2.gens.push (.fresh (.compStart (.GeneratorExp elt [⟨.Name x px, iter, [], 0⟩] scope gpos) 0 (.ref it) .none (gE X scope h3.objs.size code))),
            toks := tk + 1 + 1 + 1, heap := h'.push o } := by
      intro o nm qn hc hd hsl hget
      have kp5 : ∀ b u, h3.get? b = some u → (h'.push o).get? b = some u := fun b u e => Heap.get?_push_of_some _ (kp' b u e)
      have bare5 : AllBare (s2.gens.push (.fresh (.compStart (.GeneratorExp elt [⟨.Name x px, iter, [], 0⟩] scope gpos) 0 (.ref it) .none (gE X scope h3.objs.size code)))) := I1.bare.push rfl
      have Rm : Room k (gA X (gE X scope h3.objs.size code)) := ⟨hr.hd, by have := hr.dp; show X.A.depth + 1 + 3 * k + 5 < _; omega, by have := hr.un; show X.A.units + 1 + 1 + 3 + 16 * k + 200 < _; omega⟩
      have J0 := gx_start (A := gA X (gE X scope h3.objs.size code)) (code := code) (fp := fp) (itv := .ref it) (h1 := h'.push o) (tk := tk + 1 + 1 + 1) (pin := [(h'.objs.size, o)])
        (gens' := s2.gens.push (.fresh (.compStart (.GeneratorExp elt [⟨.Name x px, iter, [], 0⟩] scope gpos) 0 (.ref it) .none (gE X scope h3.objs.size code)))) (x := x) (ix := ix) (N := X.N) I3 G
        (Around.frames_deeper I.ok.frames) hr.hd f3 lt3 (hns.push _) kp5 bare5 (fun q hq => by
          rw [List.mem_singleton.mp hq]
          refine ⟨hget, ?_, fun v z => ?_⟩
          · show h3.objs.size < h'.objs.size
            omega
          · rw [hd] at z; cases z)
      have st5 : tn 0 (h'.push o) := T.keep _ _ _ st3 fun b hb u e => kp5 b u e
      have n5 : ∀ d ∈ fp, upd H1 P (.tbl (ps ++ more)) d = none := fun d hd => (f3 d hd).1
      have back : ∀ {σ' : L2.St} {H' : Hp} {s' : Shared}, Inv (gcx X (gA X (gE X scope h3.objs.size code)) { s2 with heap := h3, toks := tk } (upd H1 P (.tbl (ps ++ more))) (gE X scope h3.objs.size code) fp) [(h'.objs.size, o)] σ' H' s' → Inv X pins σ H' s' := fun {σ' H' s'} J =>
        I3.call' (ch := fp) J.os J.base J.hok J.bare fun b hb => ⟨(f3 b hb).2.2.2.1, (f3 b hb).2.1, (f3 b hb).2.2.2.2.1, (f3 b hb).2.2.2.2.2⟩
      have stat : ∀ {HH : Hp}, (∀ d ∈ fp, HH d = none) → ∀ d ∈ fp, FpOk (gcx X (gA X (gE X scope h3.objs.size code)) { s2 with heap := h3, toks := tk } (upd H1 P (.tbl (ps ++ more))) (gE X scope h3.objs.size code) fp) [(h'.objs.size, o)] HH d := fun {HH} hn d hd => by
        refine ⟨hn d hd, Nat.ne_of_lt (lt3 d hd), fun hm => ?_, .inl hd, fun y cc e => (f3 d hd).2.2.2.2.1 y cc (clo_sub has e), fun q hq => ?_⟩
        · have hm' : d ∈ frs X.stack := hm
          rcases List.mem_cons.mp (I3.stkSub d hm') with z | z
          · exact (f3 d hd).2.1 z
          · exact (f3 d hd).2.2.1 z
        · have hq' : q ∈ [(h'.objs.size, o)] := by
            rcases List.mem_append.mp hq with z | z
            · exact absurd (show q ∈ ([] : List (Addr × Obj)) from z) (by simp)
            · exact z
          rw [List.mem_singleton.mp hq']
          show h'.objs.size ≠ d
          exact Nat.ne_of_gt (by rw [hsz]; exact Nat.lt_succ_of_lt (lt3 d hd))
      have gsz : s2.gens.size < (s2.gens.push (GenState.fresh (.compStart (.GeneratorExp elt [⟨.Name x px, iter, [], 0⟩] scope gpos) 0 (.ref it) .none (gE X scope h3.objs.size code)))).size := by
        rw [Array.size_push]; exact Nat.lt_succ_self _
      refine hQ (gcx X (gA X (gE X scope h3.objs.size code)) { s2 with heap := h3, toks := tk } (upd H1 P (.tbl (ps ++ more))) (gE X scope h3.objs.size code) fp) fp tn h'.objs.size o n s2.gens.size Pn nm qn _ _ _ _ rfl rfl hc hd hsl J0 (Array.getElem?_push_size ..) ⟨rfl, ?_⟩ (fun i σ' H' s' J q => ⟨H', back J, pOut i σ' H' q⟩) (fun σ' H' s' J q => ⟨H', back J, pFin H' q⟩)
      refine seg_begin (Z := gcx X (gA X (gE X scope h3.objs.size code)) { s2 with heap := h3, toks := tk } (upd H1 P (.tbl (ps ++ more))) (gE X scope h3.objs.size code) fp) (g := s2.gens.size) (A := X.A.in1.in1)
        T (hgt _ _ _ _ _) (hel _ _ _ _ _ Rm) (fun _ _ z => z) rfl G.co rfl tt stat _ _ _ _ (inv_gens J0 (bare_set bare5 rfl)) st5 n5 ?_ w0
      rw [GenW.setGen_size]
      exact gsz
    exact key _ _ _ rfl rfl rfl (Heap.get?_push_size _ rfl)
  refine ⟨I1.nolimit, ?_⟩
  cases hf : codeAmong gpos ps.toList with
  | none =>
    refine wpAny_genexprCodeX hcode (cd.code hPs ht) (cd.tab hPs) hf fun c' h' tk hx hge hlt hco' _ htab' _ => ?_
    obtain ⟨o1, vs, f1, tf, fl, tg, inF, tx, tt, op, _, _, _, _, _, _, _, _, _, htr, _⟩ := hco'
    exact cont _ h' tk _ hx htab'.2 ⟨_, rfl⟩ htr
  | some cv =>
    refine wpAny_genexprCode_hit hcode (cd.code hPs ht) hf ?_
    exact cont cv s2.heap s2.toks ps (Heap.ExtBut.refl _ _) hPs ⟨#[], by simp⟩ ht

/-- all(elt for x in iter) -/
theorem pe_all (hr : Room (k + 1) X.A) (hga : Gl X "all") (hma : X.mg "all" = none) (TB : GxR.TabB X.base X.mg c P) (hcode : X.env.code = .ref c) (G : GScp X.N X.env.scope scope x ix) (hi : PI X (.Name x px) iter wi)
    (hgt : ∀ (s : Shared) (H : Hp) (C : Addr) (code : Value) (fp : List Addr), PG (gcx X (gA X (gE X scope C code)) s H (gE X scope C code) fp) (.Name x px) g)
    (hel : ∀ (s : Shared) (H : Hp) (C : Addr) (code : Value) (fp : List Addr), Room k (gA X (gE X scope C code)) → PE (gcx X (gA X (gE X scope C code)) s H (gE X scope C code) fp) elt te)
    (hs : ∀ v, genFold iter X.env v = pure v)
    (he : starEach [.GeneratorExp elt [⟨.Name x px, iter, [], 0⟩] scope gpos] X.env = (false, eval (.GeneratorExp elt [⟨.Name x px, iter, [], 0⟩] scope gpos) X.env) :: starEach [] X.env := by rfl) :
    PE X (.Call (.Name "all" p) [.GeneratorExp elt [⟨.Name x px, iter, [], 0⟩] scope gpos] [] pos) (tAllG P ix wi g te true) := by
  refine ⟨fun pins s σ H Q I h => ?_⟩
  refine wpAny_Call_Name_kw (ld_blt I hga hma boot_all ?_)
  refine PyProof.Rows.callWith_builtin1 ?_ he (by rfl)
  rw [he]
  refine Calls.spliced_cons (gen_made hr TB hcode G hi hgt hel hs I h fun Z fp tn a o n gg Pn nm qn s5 gs σ5 H5 e1 e2 hc hd hsl J hgs hgo oOut oFin => ?_)
  refine Calls.spliced_nil ?_
  refine call_function_tree F.kind_all F.plain_all F.entry_all (F.args_all1 _) ?_
  unfold Builtin.«all»
  refine wpAny_bind (m := oneArg "all" _) (wpAny_pure ?_)
  refine wpAny_bind (wpAny_pyIter_gen (isGen_pin hc hd hsl J) ?_)
  refine wpAny_pure ⟨plainId_quiet F.plain_all_loop _, ?_⟩
  rw [← e1, ← e2]
  refine all_walk hc hd hsl hr.hd (by have := hr.dp; show X.A.depth < _; omega) (fun i σ' H' s' J' q => ?_) (fun σ' H' s' J' q => ?_) n s5 gs σ5 H5 J hgs hgo
  · obtain ⟨H'', I', q'⟩ := oOut i σ' H' s' J' q
    exact ⟨.bl false, H'', I', rfl, q'⟩
  · obtain ⟨H'', I', q'⟩ := oFin σ' H' s' J' q
    exact ⟨.bl true, H'', I', rfl, q'⟩
/-- any(elt for x in iter) -/
theorem pe_any (hr : Room (k + 1) X.A) (hga : Gl X "any") (hma : X.mg "any" = none) (TB : GxR.TabB X.base X.mg c P) (hcode : X.env.code = .ref c) (G : GScp X.N X.env.scope scope x ix) (hi : PI X (.Name x px) iter wi)
    (hgt : ∀ (s : Shared) (H : Hp) (C : Addr) (code : Value) (fp : List Addr), PG (gcx X (gA X (gE X scope C code)) s H (gE X scope C code) fp) (.Name x px) g)
    (hel : ∀ (s : Shared) (H : Hp) (C : Addr) (code : Value) (fp : List Addr), Room k (gA X (gE X scope C code)) → PE (gcx X (gA X (gE X scope C code)) s H (gE X scope C code) fp) elt te)
    (hs : ∀ v, genFold iter X.env v = pure v)
    (he : starEach [.GeneratorExp elt [⟨.Name x px, iter, [], 0⟩] scope gpos] X.env = (false, eval (.GeneratorExp elt [⟨.Name x px, iter, [], 0⟩] scope gpos) X.env) :: starEach [] X.env := by rfl) :
    PE X (.Call (.Name "any" p) [.GeneratorExp elt [⟨.Name x px, iter, [], 0⟩] scope gpos] [] pos) (tAllG P ix wi g te false) := by
  refine ⟨fun pins s σ H Q I h => ?_⟩
  refine wpAny_Call_Name_kw (ld_blt I hga hma boot_any ?_)
  refine PyProof.Rows.callWith_builtin1 ?_ he (by rfl)
  rw [he]
  refine Calls.spliced_cons (gen_made hr TB hcode G hi hgt hel hs I h fun Z fp tn a o n gg Pn nm qn s5 gs σ5 H5 e1 e2 hc hd hsl J hgs hgo oOut oFin => ?_)
  refine Calls.spliced_nil ?_
  refine call_function_tree F.kind_any F.plain_any F.entry_any (F.args_any1 _) ?_
  unfold Builtin.«any»
  refine wpAny_bind (m := oneArg "any" _) (wpAny_pure ?_)
  refine wpAny_bind (wpAny_pyIter_gen (isGen_pin hc hd hsl J) ?_)
  refine wpAny_pure ⟨plainId_quiet F.plain_any_loop _, ?_⟩
  rw [← e1, ← e2]
  refine any_walk hc hd hsl hr.hd (by have := hr.dp; show X.A.depth < _; omega) (fun i σ' H' s' J' q => ?_) (fun σ' H' s' J' q => ?_) n s5 gs σ5 H5 J hgs hgo
  · obtain ⟨H'', I', q'⟩ := oOut i σ' H' s' J' q
    exact ⟨.bl true, H'', I', rfl, q'⟩
  · obtain ⟨H'', I', q'⟩ := oFin σ' H' s' J' q
    exact ⟨.bl false, H'', I', rfl, q'⟩
end
end Gx

/-! What the defs of the table law share: heaps with tables of code, data at any depth (an empty dict too), ranges kept, sets of a list, repr of data. -/
namespace Tb
open PySem PySem.Spec PyProof.Rows L2

/-! ### heaps: all but the tables of code stands -/
structure Kp (H H' : Hp) : Prop where
  keep : ∀ b o, H b = some o → (∀ ps, o ≠ .tbl ps) → H' b = some o
  tab : ∀ P, GxR.TabG H P → GxR.TabG H' P
theorem Kp.refl (H : Hp) : Kp H H := ⟨fun _ _ h _ => h, fun _ h => h⟩
theorem Kp.trans {A B C : Hp} (x : Kp A B) (y : Kp B C) : Kp A C := ⟨fun b o h n => y.keep b o (x.keep b o h n) n, fun P h => y.tab P (x.tab P h)⟩
theorem tabG_of {H H' : Hp} {P : Addr} (e : ∀ b o, H b = some o → H' b = some o) (h : GxR.TabG H P) : GxR.TabG H' P := by
  obtain ⟨ps, h1, h2⟩ := h
  exact ⟨ps, e _ _ h1, h2⟩
theorem Kp.of {H H' : Hp} (e : ∀ b o, H b = some o → H' b = some o) : Kp H H' := ⟨fun b o h _ => e b o h, fun _ h => tabG_of e h⟩
theorem Kp.new {H : Hp} {p : Addr} {o : HO} (h : H p = none) : Kp H (upd H p o) := Kp.of fun b u e => by
  rw [upd_ne (ne_of_none e h)]; exact e
theorem Kp.tabbed {P : Addr} {H H' : Hp} (hP : GxR.TabG H P) (t : GxR.Tabbed P H H') : Kp H H' := by
  refine ⟨fun b o h n => ?_, fun Q h => ?_⟩
  · obtain ⟨ps, hp, _⟩ := hP
    have : b ≠ P := fun z => by
      rw [z, hp] at h
      exact n ps (Option.some.inj h).symm
    rw [t.2 b this]; exact h
  · by_cases q : Q = P
    · rw [q]; exact t.1
    · obtain ⟨ps, h1, h2⟩ := h
      exact ⟨ps, by rw [t.2 Q q]; exact h1, h2⟩
theorem Kp.lst {H H' : Hp} (k : Kp H H') {a : Addr} {xs : List V} (h : H a = some (.lst xs)) : H' a = some (.lst xs) := k.keep a _ h fun ps z => by cases z
theorem Kp.tup {H H' : Hp} (k : Kp H H') {a : Addr} {xs : List V} (h : H a = some (.tup xs)) : H' a = some (.tup xs) := k.keep a _ h fun ps z => by cases z
theorem Kp.dK {H H' : Hp} (k : Kp H H') {a : Addr} {xs} (h : H a = some (.dK xs)) : H' a = some (.dK xs) := k.keep a _ h fun ps z => by cases z
theorem Kp.sqL {K : PySem.W.Frag} {H H' : Hp} (k : Kp H H') {a : Addr} {xs : List V} (h : SqL K H a xs) : SqL K H' a xs := by
  rcases h with (h | ⟨o, h⟩) | h
  · exact .inl (.inl (k.lst h))
  · exact .inl (.inr ⟨o, k.keep a _ h fun ps z => by cases z⟩)
  · exact .inr h
theorem Kp.sqT {K : PySem.W.Frag} {H H' : Hp} (k : Kp H H') {a : Addr} {xs : List V} (h : SqT K H a xs) : SqT K H' a xs := by
  rcases h with (h | ⟨o, h⟩) | h
  · exact .inl (.inl (k.tup h))
  · exact .inl (.inr ⟨o, k.keep a _ h fun ps z => by cases z⟩)
  · exact .inr h
/-- the heap without p -/
def del (H : Hp) (p : Addr) : Hp := fun b => if b = p then none else H b
theorem del_ne {H : Hp} {p b : Addr} (h : b ≠ p) : del H p b = H b := if_neg h
theorem del_some {H : Hp} {p b : Addr} {o : HO} (h : del H p b = some o) : b ≠ p ∧ H b = some o := by
  unfold del at h
  split at h
  · cases h
  · exact ⟨by assumption, h⟩
theorem del_sub {H : Hp} {p : Addr} : ∀ b o, del H p b = some o → H b = some o := fun b o h => (del_some h).2
theorem Kp.del {H H' : Hp} (k : Kp H H') (p : Addr) (h : ∀ ps, H p ≠ some (.tbl ps)) : Kp (del H p) (del H' p) := by
  refine ⟨fun b o e n => ?_, fun P t => ?_⟩
  · obtain ⟨h1, h2⟩ := del_some e
    rw [del_ne h1]; exact k.keep b o h2 n
  · obtain ⟨ps, e, t2⟩ := t
    obtain ⟨h1, h2⟩ := del_some e
    obtain ⟨qs, e3, t3⟩ := k.tab P ⟨ps, h2, t2⟩
    exact ⟨qs, by rw [del_ne h1]; exact e3, t3⟩

/-! ### data -/
mutual
inductive Rp (K : PySem.W.Frag) (H : Hp) : V → PyData → Prop
  | non : Rp K H .non .none
  | bl (b : Bool) : Rp K H (.bl b) (.bool b)
  | int (i : Int) : Rp K H (.int i) (.int i)
  | str (x : Str) : Rp K H (.str x) (.str x)
  | lst {a : Addr} {xs : List V} {ds : List PyData} : H a = some (.lst xs) → RpL K H xs ds → Rp K H (.ref a) (.list ds)
  | tup {a : Addr} {xs : List V} {ds : List PyData} : H a = some (.tup xs) → RpL K H xs ds → Rp K H (.ref a) (.tuple ds)
  | dct {a : Addr} : H a = some (.dK []) → Rp K H (.ref a) (.dict [])
inductive RpL (K : PySem.W.Frag) (H : Hp) : List V → List PyData → Prop
  | nil : RpL K H [] []
  | cons {v : V} {vs : List V} {d : PyData} {ds : List PyData} : Rp K H v d → RpL K H vs ds → RpL K H (v :: vs) (d :: ds)
end
variable {K : PySem.W.Frag}
mutual
theorem Rp.kp {H H' : Hp} (k : Kp H H') : ∀ {d : PyData} {v : V}, Rp K H v d → Rp K H' v d
  | _, _, .non => .non
  | _, _, .bl b => .bl b
  | _, _, .int i => .int i
  | _, _, .str x => .str x
  | _, _, .lst h a => .lst (k.lst h) (RpL.kp k a)
  | _, _, .tup h a => .tup (k.tup h) (RpL.kp k a)
  | _, _, .dct h => .dct (k.dK h)
theorem RpL.kp {H H' : Hp} (k : Kp H H') : ∀ {ds : List PyData} {vs : List V}, RpL K H vs ds → RpL K H' vs ds
  | _, _, .nil => .nil
  | _, _, .cons a b => .cons (Rp.kp k a) (RpL.kp k b)
end
theorem RpL.length {H : Hp} : ∀ {ds : List PyData} {vs : List V}, RpL K H vs ds → vs.length = ds.length
  | _, _, .nil => rfl
  | _, _, .cons _ t => congrArg Nat.succ (RpL.length t)
theorem RpL.get {H : Hp} : ∀ {ds : List PyData} {vs : List V} {i : Nat} {v : V}, RpL K H vs ds → vs[i]? = some v → ∃ d, ds[i]? = some d ∧ Rp K H v d
  | _, _, _, _, .nil, e => by simp at e
  | _, _, 0, _, .cons r _, e => by simp at e; subst e; exact ⟨_, rfl, r⟩
  | _, _, i + 1, v, .cons _ t, e => by
    obtain ⟨d, h1, h2⟩ := RpL.get (i := i) (v := v) t (by simpa using e)
    exact ⟨d, by simpa using h1, h2⟩
theorem RpL.app {H : Hp} : ∀ {ds es : List PyData} {vs ws : List V}, RpL K H vs ds → RpL K H ws es → RpL K H (vs ++ ws) (ds ++ es)
  | _, _, _, _, .nil, s => s
  | _, _, _, _, .cons r t, s => .cons r (RpL.app t s)
theorem RpL.ints {H : Hp} : ∀ ns : List Int, RpL K H (ns.map V.int) (ns.map PyData.int)
  | [] => .nil
  | n :: r => .cons (.int n) (RpL.ints r)
theorem RpL.set {H : Hp} {x : V} {d : PyData} (r : Rp K H x d) : ∀ {ds : List PyData} {vs : List V} (i : Nat), RpL K H vs ds → RpL K H (vs.set i x) (ds.set i d)
  | _, _, _, .nil => .nil
  | _, _, 0, .cons _ t => .cons r t
  | _, _, i + 1, .cons q t => .cons q (RpL.set r i t)

mutual
theorem Rp.reads {X : Cx} {pins : List (Addr × Obj)} {σ : L2.St} {H : Hp} {s : Shared} (I : Inv X pins σ H s) : ∀ (d : PyData) (v : V) (u : Value), Rp X.K H v d → RelV v u → ∃ as, Reads s.heap u d as ∧ ∀ a ∈ as, H a ≠ none
  | .none, _, _, h, r => by cases h; cases r; exact ⟨_, Reads.none, fun a z => by cases z⟩
  | .bool b, _, _, h, r => by cases h; cases r; exact ⟨_, Reads.bool b, fun a z => by cases z⟩
  | .int i, _, _, h, r => by cases h; obtain ⟨t, rfl⟩ := r; exact ⟨_, Reads.int i t, fun a z => by cases z⟩
  | .str x, _, _, h, r => by cases h; obtain ⟨t, rfl⟩ := r; exact ⟨_, Reads.str x t, fun a z => by cases z⟩
  | .list ds, _, _, h, r => by
    cases h with
    | lst hs ha =>
      cases r
      obtain ⟨z, its, n, rv, ho⟩ := I.hok _ _ hs
      obtain ⟨as, hr, hn⟩ := RpL.reads I ds _ its ha rv
      refine ⟨_, Reads.list ho rfl rfl hr, fun b hb => ?_⟩
      rcases List.mem_cons.mp hb with e | e
      · rw [e, hs]; simp
      · exact hn b e
  | .tuple ds, _, _, h, r => by
    cases h with
    | tup hs ha =>
      cases r
      obtain ⟨z, its, rv, o, ho, hc, n, hd⟩ := I.hok _ _ hs
      obtain ⟨as, hr, hn⟩ := RpL.reads I ds _ its ha rv
      exact ⟨_, Reads.tuple ho hc hd hr, hn⟩
  | .dict kvs, _, _, h, r => by
    cases h with
    | dct hs =>
      cases r
      obtain ⟨_, _, vs, rv, o, es, ep, ho, hx, hd, hk, hp, _⟩ := I.hok _ _ hs
      cases rv
      have e0 : es.toList = [] := by
        cases q : es.toList with
        | nil => rfl
        | cons x t => rw [q] at hp; cases hp
      refine ⟨_, Reads.dict (kvs := []) (as := []) (bs := []) ho hx.1 hd (by rw [e0]; exact .nil) (by rw [e0]; exact .nil), fun b hb => ?_⟩
      rcases List.mem_append.mp hb with e | e
      · rcases List.mem_cons.mp e with e | e
        · rw [e, hs]; simp
        · cases e
      · cases e
theorem RpL.reads {X : Cx} {pins : List (Addr × Obj)} {σ : L2.St} {H : Hp} {s : Shared} (I : Inv X pins σ H s) : ∀ (ds : List PyData) (vs : List V) (us : List Value), RpL X.K H vs ds → Vals vs us → ∃ as, ReadsAll s.heap us ds as ∧ ∀ a ∈ as, H a ≠ none
  | [], _, _, h, r => by cases h; cases r; exact ⟨_, ReadsAll.nil, fun a z => by cases z⟩
  | d :: ds, _, _, h, r => by
    cases h with
    | cons h1 h2 =>
      cases r with
      | cons r1 r2 =>
        obtain ⟨as, q1, n1⟩ := Rp.reads I d _ _ h1 r1
        obtain ⟨bs, q2, n2⟩ := RpL.reads I ds _ _ h2 r2
        refine ⟨_, ReadsAll.cons q1 q2, fun a ha => ?_⟩
        rcases List.mem_append.mp ha with z | z
        · exact n1 a z
        · exact n2 a z
end

/-! ### isinstance of data -/
def tyN : PyData → String
  | .none => "NoneType"
  | .bool _ => "bool"
  | .int _ => "int"
  | .str _ => "str"
  | .list _ => "list"
  | .tuple _ => "tuple"
  | .dict _ => "dict"
theorem tyX_of {H : Hp} {x : V} {d : PyData} (h : Rp K H x d) : TyX K H x (.type (tyN d)) := by
  cases h with
  | non => exact .base .non
  | bl b => exact .base (.bl b)
  | int i => exact .base (.int i)
  | str y => exact .base (.str y)
  | lst h _ => exact .base (.lst h)
  | tup h _ => exact .base (.tup h)
  | dct h => exact .base (.dK h)
def isI : PyData → Bool
  | .int _ => true
  | _ => false
def isIB : PyData → Bool
  | .int _ => true
  | .bool _ => true
  | _ => false
def isB : PyData → Bool
  | .bool _ => true
  | _ => false
def isSq : PyData → Bool
  | .list _ => true
  | .tuple _ => true
  | _ => false
theorem kit_int : ∀ d : PyData, PySem.W.kitOne K (.type (tyN d)) (.type "int") = some (isIB d)
  | .none => kit_ty (show kitB "NoneType" "int" = some false by decide +kernel)
  | .bool _ => kit_ty (show kitB "bool" "int" = some true by decide +kernel)
  | .int _ => kit_ty (show kitB "int" "int" = some true by decide +kernel)
  | .str _ => kit_ty (show kitB "str" "int" = some false by decide +kernel)
  | .list _ => kit_ty (show kitB "list" "int" = some false by decide +kernel)
  | .tuple _ => kit_ty (show kitB "tuple" "int" = some false by decide +kernel)
  | .dict _ => kit_ty (show kitB "dict" "int" = some false by decide +kernel)
theorem kit_bool : ∀ d : PyData, PySem.W.kitOne K (.type (tyN d)) (.type "bool") = some (isB d)
  | .none => kit_ty (show kitB "NoneType" "bool" = some false by decide +kernel)
  | .bool _ => kit_ty (show kitB "bool" "bool" = some true by decide +kernel)
  | .int _ => kit_ty (show kitB "int" "bool" = some false by decide +kernel)
  | .str _ => kit_ty (show kitB "str" "bool" = some false by decide +kernel)
  | .list _ => kit_ty (show kitB "list" "bool" = some false by decide +kernel)
  | .tuple _ => kit_ty (show kitB "tuple" "bool" = some false by decide +kernel)
  | .dict _ => kit_ty (show kitB "dict" "bool" = some false by decide +kernel)
theorem kit_seq : ∀ d : PyData, PySem.W.kitAny K (.type (tyN d)) [.type "list", .type "tuple"] = some (isSq d)
  | .none => kitAny_cons (b := false) (kit_ty (show kitB "NoneType" "list" = some false by decide +kernel)) (fun _ => kitAny_cons (b := false) (kit_ty (show kitB "NoneType" "tuple" = some false by decide +kernel)) (fun _ => kitAny_nil) (fun z => nomatch z)) (fun z => nomatch z)
  | .bool _ => kitAny_cons (b := false) (kit_ty (show kitB "bool" "list" = some false by decide +kernel)) (fun _ => kitAny_cons (b := false) (kit_ty (show kitB "bool" "tuple" = some false by decide +kernel)) (fun _ => kitAny_nil) (fun z => nomatch z)) (fun z => nomatch z)
  | .int _ => kitAny_cons (b := false) (kit_ty (show kitB "int" "list" = some false by decide +kernel)) (fun _ => kitAny_cons (b := false) (kit_ty (show kitB "int" "tuple" = some false by decide +kernel)) (fun _ => kitAny_nil) (fun z => nomatch z)) (fun z => nomatch z)
  | .str _ => kitAny_cons (b := false) (kit_ty (show kitB "str" "list" = some false by decide +kernel)) (fun _ => kitAny_cons (b := false) (kit_ty (show kitB "str" "tuple" = some false by decide +kernel)) (fun _ => kitAny_nil) (fun z => nomatch z)) (fun z => nomatch z)
  | .list _ => kitAny_cons (b := true) (kit_ty (show kitB "list" "list" = some true by decide +kernel)) (fun z => nomatch z) (fun _ => rfl)
  | .tuple _ => kitAny_cons (b := false) (kit_ty (show kitB "tuple" "list" = some false by decide +kernel)) (fun _ => kitAny_cons (b := true) (kit_ty (show kitB "tuple" "tuple" = some true by decide +kernel)) (fun z => nomatch z) (fun _ => rfl)) (fun z => nomatch z)
  | .dict _ => kitAny_cons (b := false) (kit_ty (show kitB "dict" "list" = some false by decide +kernel)) (fun _ => kitAny_cons (b := false) (kit_ty (show kitB "dict" "tuple" = some false by decide +kernel)) (fun _ => kitAny_nil) (fun z => nomatch z)) (fun z => nomatch z)

/-! ### a list or a tuple -/
/-- at a a list or a tuple of xs is to be read -/
def Sq (K : PySem.W.Frag) (H : Hp) (a : Addr) (xs : List V) : Prop := SqL K H a xs ∨ SqT K H a xs
theorem Kp.sq {H H' : Hp} (k : Kp H H') {a : Addr} {xs : List V} (h : Sq K H a xs) : Sq K H' a xs := h.imp k.sqL k.sqT
def kids : PyData → List PyData
  | .list ds => ds
  | .tuple ds => ds
  | _ => []
theorem Rp.sq {H : Hp} {x : V} {d : PyData} (h : Rp K H x d) (hs : isSq d = true) : ∃ a xs, x = .ref a ∧ Sq K H a xs ∧ RpL K H xs (kids d) := by
  cases h with
  | lst h r => exact ⟨_, _, rfl, .inl (.inl (.inl h)), r⟩
  | tup h r => exact ⟨_, _, rfl, .inr (.inl (.inl h)), r⟩
  | _ => cases hs
/-- what a for, a comprehension walks: a list or a tuple -/
def iSq (K : PySem.W.Frag) (tl : TE) : TI := fun σ H R => tl σ H fun x H1 => ∃ a xs, x = .ref a ∧ ((SqL K H1 a xs ∧ R (Itl K a) H1) ∨ (SqT K H1 a xs ∧ R (Itt K a) H1))
section
variable {X : Cx} {tg l : Expr} {tl : TE}
theorem pi_sq (hl : PE X l tl) : PI X tg l (iSq X.K tl) := by
  refine ⟨fun pins s σ H R I h => ?_⟩
  refine thn (hl.run pins s σ H _ I h) fun u s1 h1 => ?_
  obtain ⟨x, H1, I1, r1, a, xs, rfl, q⟩ := h1
  have pe0 : ∀ (R' : It → Hp → Prop) (w0 : L2.St → Hp → (It → Hp → Prop) → Prop), True := fun _ _ => trivial
  rcases q with ⟨q1, q2⟩ | ⟨q1, q2⟩
  · obtain ⟨its, rv, p, hz⟩ := I1.list q1
    cases r1
    refine wpAny_pyIter_list p.isList ?_
    have I2 : Inv X pins σ H1 { s1 with heap := s1.heap.push { cls := .type "list_iterator", data := .fields #[.ref a, .int 0 0] } } := I1.kept (t' := s1.toks) fun b o e => Heap.get?_push_of_some _ e
    exact ⟨s1.heap.objs.size, [s1.heap.objs.size], _, _, H1, rfl, I2, turn_list a _, ⟨_, Heap.get?_push_size _ rfl, rfl, rfl⟩, fun b hb => by
      rw [List.mem_singleton.mp hb]
      exact I1.fpOk (Nat.le_refl _) (I1.hok.fresh (Nat.le_refl _)), q2⟩
  · obtain ⟨its, rv, p, hz⟩ := I1.tuple q1
    cases r1
    refine wpAny_pyIter_tuple p ?_
    have I2 : Inv X pins σ H1 { s1 with heap := s1.heap.push { cls := .type "tuple_iterator", data := .fields #[.ref a, .int 0 0] } } := I1.kept (t' := s1.toks) fun b o e => Heap.get?_push_of_some _ e
    exact ⟨s1.heap.objs.size, [s1.heap.objs.size], _, _, H1, rfl, I2, turn_tuple a _, ⟨_, Heap.get?_push_size _ rfl, rfl, rfl⟩, fun b hb => by
      rw [List.mem_singleton.mp hb]
      exact I1.fpOk (Nat.le_refl _) (I1.hok.fresh (Nat.le_refl _)), q2⟩
end
/-- all(..), any(..) over it: V between the turns -/
theorem rd_all {P : Addr} {ix : Nat} {te : TE} {go : Bool} {σ : L2.St} {H1 : Hp} {Q : VK} {a : Addr} {xs : List V} (V0 : Nat → Hp → Prop) (hq : Sq K H1 a xs) (hP : GxR.TabG H1 P)
    (h0 : ∀ H2, GxR.Tabbed P H1 H2 → V0 0 H2) (hk : ∀ i H', i ≤ xs.length → V0 i H' → Kp H1 H')
    (hs : ∀ i x H', xs[i]? = some x → V0 i H' → te (σ.set ix (some x)) H' fun v H'' => ∃ b, v = .bl b ∧ if b = go then V0 (i + 1) H'' else Q (.bl (!go)) H'')
    (hf : ∀ H', V0 xs.length H' → Q (.bl go) H') :
    (SqL K H1 a xs ∧ (GxR.TabG H1 P ∧ ∀ H2, GxR.Tabbed P H1 H2 → ∃ (n : Nat) (Pn : Gx.Plan), Gx.Turns (Itl K a) (gName ix) te go n Pn ∧ Pn.W 0 (σ.set ix none) H2 ∧
      (∀ i σ' H', Pn.Out (!go) i σ' H' → Q (.bl (!go)) H') ∧ ∀ H', Pn.Fin H' → Q (.bl go) H')) ∨
    (SqT K H1 a xs ∧ (GxR.TabG H1 P ∧ ∀ H2, GxR.Tabbed P H1 H2 → ∃ (n : Nat) (Pn : Gx.Plan), Gx.Turns (Itt K a) (gName ix) te go n Pn ∧ Pn.W 0 (σ.set ix none) H2 ∧
      (∀ i σ' H', Pn.Out (!go) i σ' H' → Q (.bl (!go)) H') ∧ ∀ H', Pn.Fin H' → Q (.bl go) H')) := by
  have pl : ∀ (J : It), (∀ i H', i ≤ xs.length → V0 i H' → (J.stop i H' ∧ i = xs.length) ∨ (i < xs.length ∧ J.go i H' ∧ ∀ x H'', J.yld i H' x H'' → H'' = H' ∧ xs[i]? = some x)) →
      ∀ H2, GxR.Tabbed P H1 H2 → ∃ (n : Nat) (Pn : Gx.Plan), Gx.Turns J (gName ix) te go n Pn ∧ Pn.W 0 (σ.set ix none) H2 ∧ (∀ i σ' H', Pn.Out (!go) i σ' H' → Q (.bl (!go)) H') ∧ ∀ H', Pn.Fin H' → Q (.bl go) H' := by
    intro J hJ H2 h2
    refine ⟨xs.length, ⟨fun i σ' H' => (∃ v, σ' = σ.set ix v) ∧ V0 i H', fun b _ _ H' => b = (!go) ∧ Q (.bl (!go)) H', fun H' => Q (.bl go) H'⟩, ?_, ⟨⟨none, rfl⟩, h0 H2 h2⟩, fun _ _ _ z => z.2, fun _ z => z⟩
    rintro i σ' H' hi ⟨⟨v, rfl⟩, hv⟩
    rcases hJ i H' hi hv with ⟨s1, s2⟩ | ⟨s1, s2, s3⟩
    · subst s2
      exact .inl ⟨s1, hf H' hv⟩
    · refine .inr ⟨s1, s2, fun x H'' hy => ?_⟩
      obtain ⟨rfl, hx⟩ := s3 x H'' hy
      show te ((σ.set ix v).set ix (some x)) H'' _
      rw [List.set_set]
      have := hs i x H'' hx hv
      have e : (fun (v : V) (H'' : Hp) => ∃ b, v = .bl b ∧ if b = go then V0 (i + 1) H'' else Q (.bl (!go)) H'') = fun (v : V) (H3 : Hp) => ∃ b, v = V.bl b ∧ if b = go then (∃ v, σ.set ix (some x) = σ.set ix v) ∧ V0 (i + 1) H3 else b = (!go) ∧ Q (.bl (!go)) H3 := by
        funext v H3
        apply propext
        constructor
        · rintro ⟨b, rfl, q⟩
          refine ⟨b, rfl, ?_⟩
          by_cases hb : b = go
          · rw [if_pos hb] at q ⊢
            exact ⟨⟨_, rfl⟩, q⟩
          · rw [if_neg hb] at q ⊢
            exact ⟨by cases b <;> cases go <;> first | rfl | exact absurd rfl hb, q⟩
        · rintro ⟨b, rfl, q⟩
          refine ⟨b, rfl, ?_⟩
          by_cases hb : b = go
          · rw [if_pos hb] at q ⊢
            exact q.2
          · rw [if_neg hb] at q ⊢
            exact q.2
      rw [← e]
      exact this
  rcases hq with hq | hq
  · refine .inl ⟨hq, hP, pl _ fun i H' hi hv => ?_⟩
    have h' := (hk i H' hi hv).sqL hq
    rcases Nat.lt_or_ge i xs.length with hlt | hge
    · exact .inr ⟨hlt, ⟨xs, xs[i], h', List.getElem?_eq_getElem hlt⟩, fun x H'' hy => ⟨hy.1, hy.2 xs h'⟩⟩
    · exact .inl ⟨⟨xs, h', hge⟩, by omega⟩
  · refine .inr ⟨hq, hP, pl _ fun i H' hi hv => ?_⟩
    have h' := (hk i H' hi hv).sqT hq
    rcases Nat.lt_or_ge i xs.length with hlt | hge
    · exact .inr ⟨hlt, ⟨xs, xs[i], h', List.getElem?_eq_getElem hlt⟩, fun x H'' hy => ⟨hy.1, hy.2 xs h'⟩⟩
    · exact .inl ⟨⟨xs, h', hge⟩, by omega⟩
end Tb

namespace Tb
open PySem PySem.Spec PyProof.Rows L2

/-! ### a def that wants to know what is being shown around it, and where sys.modules stands -/
structure FnG (P : Program) (w : World) (K : PySem.W.Frag) (mg : Str → Option Value) (base : Heap) (k : Nat) (f : Addr) (fd : FuncData) (ps : List Str) (sp : Sp) : Prop where
  len : ∀ vs H Q E, sp vs H Q E → vs.length = ps.length
  run : ∀ (A : Around) (outer : List Env) (s : Shared) (H : Hp) (args : Args) (us : List Value) (vs : List V) (Q : VK), Room k A → A.guards = some [] → Env0 P w K mg base A outer s H → BindsTo s fd args (ps.zip us) → Vals vs us → sp vs H Q E0 →
    codeAny (model P w) A (.call (.ref f) args) (CR CX0 outer P w H s Q E0) s
section
variable {P : Program} {w : World} {K : PySem.W.Frag} {mg : Str → Option Value} {base : Heap} {N ps : List Str} {qual x : Str} {st : Stmt} {f : Addr} {fd : FuncData} {k : Nat} {sp : Sp}
theorem okG (F : Fun K x qual st f fd) (S : FnScope N ps (defScope st)) (len : ∀ vs H Q E, sp vs H Q E → vs.length = ps.length)
    (hb : ∀ (cdv : Value) (A : Around) (outer : List Env) (s : Shared) (H : Hp) (vs : List V) (Q : VK), Room k (A.deeper (envOfC qual (defScope st) s.heap.objs.size f cdv)) → A.guards = some [] → sp vs H Q E0 →
      ∃ t, PSs (cxOf CX0 P w K mg base N qual (defScope st) f cdv A outer s H E0).nox (defBody st) t ∧ t { nx := fun _ H' => Q .non H', rt := Q } (start N vs) H) : FnG P w K mg base (k + 1) f fd ps sp := by
  obtain ⟨oc, od, kV, doc, pm, an, cdv, ct, osl, rfl, lk, hcd⟩ := F.ex
  refine ⟨len, fun A outer s H args us vs Q hr hgd e0 hbn r hsp => ?_⟩
  have hl := len _ _ _ _ hsp
  have inS : K.In s.heap := e0.mod.kin.keeps fun b o e => (e0.bs b o e).1
  have noL : s.heap.NoLimit := e0.mod.nolimit.keeps fun b o e => (e0.bs b o e).1
  have kinds : ∀ y ∈ ps.zip us, (defScope st).names.lookup y.1 = some .local ∨ ((defScope st).names.lookup y.1 = some .cell ∧ ((cellsFrom (s.heap.objs.size + 1) (defScope st).names []).lookup y.1).isSome = true) := by
    rintro ⟨n, v⟩ hy
    rcases S.par n (List.of_mem_zip hy).1 with q | q
    · exact .inl q
    · exact .inr ⟨q, PySem.W.cellsFrom_some _ _ _ (.inl q)⟩
  refine codeAny_call_function hr.depth (inS _ _ lk) rfl S.co S.gen rfl (PySem.W.codeRec_of inS hcd) (hbn _ _ _ _ ?_)
  refine wpAny_newFunctionEnv_cells S.kind kinds fun env he s1 xc => ?_
  subst he
  refine ⟨noL.keeps xc.toInCall.keep, codeAny_func ?_⟩
  obtain ⟨t, ht, hq⟩ := hb cdv A outer s H vs Q (hr.deeper _) hgd hsp
  have J : Inv (cxOf CX0 P w K mg base N qual (defScope st) f cdv A outer s H E0) [] (start N vs) H s1 := inv_start S hr.hd e0 hl r xc
  refine wpAny_mono (ht.nox.run [] s1 (start N vs) H _ J hq) (fun fl s' hs => ?_) fun e s' hs => hs
  cases fl with
  | ret u =>
    obtain ⟨v, σ', H', I', rv, q⟩ := hs
    exact ⟨v, H', I'.os, I'.bare, I'.base, I'.hok, rv, q⟩
  | next =>
    obtain ⟨σ', H', I', q⟩ := hs
    exact ⟨V.non, H', I'.os, I'.bare, I'.base, I'.hok, rfl, q⟩
  | brk => obtain ⟨_, _, _, q⟩ := hs; exact q.elim
  | cont => obtain ⟨_, _, _, q⟩ := hs; exact q.elim
end
section
variable {X : Cx} {k : Nat} {f : Addr} {fd : FuncData} {ps : List Str} {sp : Sp} {x : Str} {p pos : Pos} {e : Expr} {es : List Expr} {t : TA}
theorem pe_callG (F : FnG X.prog X.w X.K X.mg X.base k f fd ps sp) (hr : Room k X.A) (hgd : X.A.guards = some []) (hg : Gl X x) (hm : X.mg x = some (.ref f)) (hk : PySem.W.keepIn X.K (.ref f) = true) (hb : Binds X.K fd ps [])
    (ha : PA X (e :: es) t) (hdb : (x == ("__debug__" : Str)) = false := by decide) (he : starEach (e :: es) X.env = (false, eval e X.env) :: starEach es X.env := by rfl) (hpl : (backTo pos (starEach es X.env)).any (·.1) = false := by rfl) :
    PE X (.Call (.Name x p) (e :: es) [] pos) (tCall sp [] E0 t) := by
  refine ⟨fun pins s σ H Q I h => ?_⟩
  refine wpAny_Call_Name_kw (ld_glob I hg hm ?_ hdb)
  refine PySem.W.callWith_K (h₀ := X.base) I.ok.mod.kin hk (thn (ha.run pos pins s σ H _ I h) fun us s1 h1 => ?_) he hpl
  obtain ⟨vs, H1, I1, r, q⟩ := h1
  refine ⟨I1.kIn, ?_⟩
  rw [List.append_nil] at q
  have hl : us.length = ps.length := by rw [← r.length]; exact F.len _ _ _ _ q
  have bt := hb s1 us I1.kIn (by rw [List.append_nil]; exact hl)
  rw [List.append_nil] at bt
  refine wpAny_call (codeAny_mono (F.run X.A X.stack s1 H1 ⟨us, []⟩ us vs Q hr hgd I1.env0 bt r q) fun r s' hq => ?_)
  cases r with
  | error e => exact hq.elim
  | ok fl =>
    cases fl with
    | ret u => exact I1.after hq
    | next => exact hq.elim
    | brk => exact hq.elim
    | cont => exact hq.elim
end

/-! ### repr -/
section
variable {X : Cx}
/-- repr of data; of a bool -/
def rRepr (K : PySem.W.Frag) : List V → Hp → VK → Prop := fun vs H Q => ∃ x d, vs = [x] ∧ Rp K H x d ∧ d.showable = true ∧ d.depth ≤ 60 ∧ d.shown.length ≤ sizeLine ∧ Q (.str d.shown) H
theorem cr_repr (hu : X.A.units + 64 < cLine) (hgd : X.A.guards = some []) (hsys : ∃ o, X.base.get? sysModules = some o) : CallR X (.builtin "repr") (rRepr X.K) := by
  intro pins s σ H vs us Q I r h
  obtain ⟨x, d, rfl, hx, hs, hd, hz, q⟩ := h
  obtain ⟨u, rfl, ru⟩ := r.one
  have ref : ∀ a, u = .ref a → wpAny (model X.prog X.w) X.A (call (.builtin "repr") [u]) (EP X pins σ Q) X.xe s := by
    rintro a rfl
    obtain ⟨as, rd, hn⟩ := Rp.reads I d x (.ref a) hx ru
    refine repr_of_reads' (h₀ := s.heap) rd hs (fun _ hm => ?_) hgd (by omega) (fun _ _ e => e) (fun h' u tk hk => ⟨.str d.shown, H, I.kept hk, ⟨u, rfl⟩, q⟩) hz
    obtain ⟨o, ho⟩ := hsys
    exact hn _ hm (I.bs _ _ ho).2
  cases hx with
  | non => cases ru; exact PySem.P.repr_of_none ⟨.str _, H, I.tok _, ⟨_, rfl⟩, q⟩
  | bl b =>
    cases ru
    exact PySem.P.repr_of_bool ⟨.str _, H, I.tok _, ⟨_, rfl⟩, by cases b <;> exact q⟩
  | int i =>
    obtain ⟨t, rfl⟩ := ru
    exact PySem.P.repr_of_int (of_decide_eq_true hs) ⟨.str _, H, I.tok _, ⟨_, rfl⟩, q⟩
  | str y =>
    obtain ⟨t, rfl⟩ := ru
    exact PySem.P.repr_of_str ⟨.str _, H, I.tok _, ⟨_, rfl⟩, q⟩ hz
  | lst h a => exact ref _ ru
  | tup h a => exact ref _ ru
  | dct h => exact ref _ ru
end
end Tb

namespace Tb
open PySem PySem.Spec PyProof.Rows L2
/-! ### set of a list of ints -/
abbrev nso (w : World) : Obj := { cls := .type "set", dict := none, data := .set #[] 0 (.fresh 0 0 (!w.params.followText "set-order")) }
abbrev iso (l : Addr) : Obj := { cls := .type "list_iterator", data := .fields #[.ref l, .int 0 0] }
section
variable {P : Program} {w : World} {A : Around} {E : Value → Shared → Prop} {s : Shared}
theorem set_of_list {l : Addr} {its : Array Value} (zs : List Int) {Q : Value → Shared → Prop} (h0 : A.handled = none) (hL : s.heap.IsList l its) (hI : IntsAre its.toList zs) (hB : zs.length + 1 < scanBound)
    (k : ∀ (g : Heap) (tk c : Nat), SetR w g s.heap.objs.size (fun j => decide (j ∈ zs)) c → c ≤ zs.length → (∀ b o, s.heap.get? b = some o → g.get? b = some o) → Q (.ref s.heap.objs.size) { s with heap := g, toks := tk }) :
    wpAny (model P w) A (call (.type "set") [.ref l]) Q E s := by
  have size : its.size = zs.length := by
    have := IntsAre.length hI
    rwa [Array.length_toList] at this
  obtain ⟨cc, tl, hmro⟩ := F.called_set.mro
  have made := F.called_set.made
  have subs := F.called_set.sub
  refine wpAny_call (codeAny_of_tree ?_)
  show wpAny _ _ (callAny (.type "set") _) _ _ _
  refine wpAny_pure ⟨Code.quiet_builtin _ (by decide +kernel), ?_⟩
  refine codeAny_builtin F.entry_type_call ?_
  rw [Around.under_plain (weight_type_call_type "set" [.ref l] []) rfl]
  have nt := F.called_set.notType
  have cr := F.called_set.canCreate
  have tc := F.typeCall_set_1 (.ref l)
  repeat (any_goals (first | assumption | wp_step))
  refine codeAny_mono (code_set_led1 (.ref l) (E := E) (Q₁ := fun u s1 => u = .ref s.heap.objs.size ∧ s1 = { s with heap := s.heap.push (nso w) }) ⟨rfl, rfl⟩) fun r s1 hr => ?_
  cases r with
  | error e => exact hr
  | ok fl =>
    cases fl with
    | ret u =>
      obtain ⟨rfl, rfl⟩ := hr
      have gS : (s.heap.push (nso w)).get? s.heap.objs.size = some (nso w) := Heap.get?_push_size _ rfl
      have tS : Shared.TypeIs { s with heap := s.heap.push (nso w) } (.ref s.heap.objs.size) "set" := ⟨_, gS, rfl⟩
      have il := F.called_set.init.lookup
      have ib := F.called_set.init.bind (.ref s.heap.objs.size)
      repeat (any_goals (first | assumption | wp_step))
      refine codeAny_mono (codeAny_call_builtin (R := wants (fun r s2 => r = .none ∧ ∃ g tk c, s2 = { s with heap := g, toks := tk } ∧ SetR w g s.heap.objs.size (fun j => decide (j ∈ zs)) c ∧ c ≤ zs.length ∧
          (∀ b o, s.heap.get? b = some o → g.get? b = some o)) E) F.called_set.init.plain F.entry_set_init (check_set_init_1 tS ?_)) fun r2 s2 hr2 => ?_
      · obtain ⟨ol, gl, cl, nl, dl⟩ := hL
        obtain ⟨lc, ld, lt, ls⟩ := ol
        simp only at cl dl
        subst cl; subst dl
        have gl' : (s.heap.push (nso w)).get? l = some { cls := .type "list", dict := ld, data := .seq its nl, slots := ls } := Heap.get?_push_of_some _ gl
        have q1 := F.sub_list_set
        have q2 := F.sub_list_frozenset
        have q3 : (Value.type "list" == Value.type "dict") = false := by decide
        have L1 : (s.heap.push (nso w)).IsList l its := ⟨_, gl', rfl, nl, rfl⟩
        unfold Builtin.«set.__init__» noKeywords Builtin.Frozenset.updateFrom
        generalize hPI : pyIter = PI
        wp_walk
        subst hPI
        refine wpAny_pyIter_list L1 ?_
        refine wpAny_bind (wpAny_runValue ?_)
        have below : l < s.heap.objs.size := Heap.lt_size gl
        have h3 : A.in1.in1.in1.handled = none := by simp [h0]
        have z1 : (s.heap.push (nso w)).objs.size = s.heap.objs.size + 1 := Heap.size_push ..
        have ne1 : l ≠ (s.heap.push (nso w)).objs.size := by
          rw [z1]; exact Nat.ne_of_lt (Nat.lt_succ_of_lt below)
        have nS : s.heap.objs.size ∉ [(s.heap.push (nso w)).objs.size, l] := by
          rw [z1]
          simp only [List.mem_cons, List.mem_singleton, List.not_mem_nil, or_false, not_or]
          exact ⟨Nat.ne_of_lt (Nat.lt_succ_self _), Nat.ne_of_gt below⟩
        have vals : ∀ (i : Nat) (v : Value), its[i]? = some v → ∃ z t, zs[i]? = some z ∧ v = .int z t := by
          intro i v hv
          have hi : i < zs.length := by rw [← size]; exact (Array.getElem?_eq_some_iff.mp hv).1
          obtain ⟨t, e⟩ := PyProof.Rows.IntsAre.int_at hI i v (by rw [Array.getElem?_toList]; exact hv)
          exact ⟨zs[i], t, List.getElem?_eq_getElem hi, by rw [e, List.getD_eq_getElem?_getD, List.getElem?_eq_getElem hi] <;> rfl⟩
        refine set_update_ints ((Walks.list h3 _ l ne1 its).toS) s.heap.objs.size nS zs size hB vals (its.size - 0) 0 _ (by omega) (Nat.zero_le _) ⟨⟨_, Heap.get?_push_size _ rfl, rfl, rfl⟩, (L1.push _)⟩ ?c0 ?c1
        case c0 => exact ⟨0, Nat.le_refl 0, setR_new_at (show ((s.heap.push (nso w)).push (iso l)).get? s.heap.objs.size = some (nso w) from Heap.get?_push_of_some _ gS)⟩
        case c1 =>
          intro s' c' mv lc' R'
          obtain ⟨g, gg, dd, tk', os'⟩ := s'
          have e1 : gg = s.gens := mv.gens
          have e2 : dd = s.drawn := mv.drawn
          have e3 : os' = s.os := mv.os
          subst e1; subst e2; subst e3
          show wpAny _ _ _ _ _ _
          refine wpAny_pure ?_
          show wpAny _ _ (ret Value.none) _ _ _
          rw [size] at lc'
          refine wpAny_pure ⟨rfl, g, tk', c', rfl, R', lc', fun b o e => ?_⟩
          have b0 : b < s.heap.objs.size := Heap.lt_size e
          refine mv.heap b o (fun hm => ?_) (Heap.get?_push_of_some _ (Heap.get?_push_of_some _ e))
          rcases List.mem_cons.mp hm with q | q
          · exact absurd q (Nat.ne_of_lt b0)
          · rcases List.mem_cons.mp q with q | q
            · rw [z1] at q
              exact absurd q (Nat.ne_of_lt (Nat.lt_succ_of_lt b0))
            · cases q
      · cases r2 with
        | error e => exact hr2
        | ok f2 =>
          cases f2 with
          | ret r =>
            obtain ⟨rfl, g, tk, c, rfl, R2, lc2, kk⟩ := hr2
            repeat (any_goals (first | assumption | wp_step))
            exact k _ _ _ R2 lc2 kk
          | next => exact hr2.elim
          | brk => exact hr2.elim
          | cont => exact hr2.elim
    | next => exact hr.elim
    | brk => exact hr.elim
    | cont => exact hr.elim
end
/-- sorted(set(xs)), xs a list of ints -/
def rSetL (w : World) (K : PySem.W.Frag) : List V → Hp → VK → Prop := fun vs H Q => ∃ (l : Addr) (zs : List Int), vs = [.ref l] ∧ SqL K H l (zs.map V.int) ∧ zs.length + 1 < scanBound ∧
  ∀ p c, H p = none → c ≤ zs.length → Q (.ref p) (upd H p (SetO w p (fun j => decide (j ∈ zs)) c))
theorem cr_setL {X : Cx} (hc : X.calm = true) : CallR X (.type "set") (rSetL X.w X.K) := by
  intro pins s σ H vs us Q I r h
  obtain ⟨l, zs, rfl, hl, hb, q⟩ := h
  obtain ⟨u, rfl, ru⟩ := r.one
  cases ru
  obtain ⟨its, rv, p, hz⟩ := I.list hl
  refine set_of_list zs (I.ok.hd hc) p.isList (by simpa using ints_of_vals rv) hb fun g tk c R hc' kp => ?_
  exact ⟨.ref _, upd H s.heap.objs.size (SetO X.w s.heap.objs.size (fun j => decide (j ∈ zs)) c), I.laid kp (Nat.le_refl _) (setO_new R), rfl, q _ c (I.hok.fresh (Nat.le_refl _)) hc'⟩
end Tb

namespace Gx
open PySem PySem.Spec PyProof.Rows L2
theorem turn_out (elt t0 i0 t1 i1 : Expr) (scope : Scope) (pos : Pos) (it acc : Value) (env : Env) :
    compTurn (.GeneratorExp elt [⟨t0, i0, [], 0⟩, ⟨t1, i1, [], 0⟩] scope pos) 0 it acc env = (do
      standAt i0.pos
      match ← pyNext it with
      | none => pure (.done .next)
      | some v =>
        letOwnedTupleGo t0 it v
        assign t0 env v
        let x ← eval i1 env
        standAt i1.pos
        let x ← foldedSetIterable i1 env x
        let _ ← runOwn (.compStart (.GeneratorExp elt [⟨t0, i0, [], 0⟩, ⟨t1, i1, [], 0⟩] scope pos) 1 (← holding [x] (pyIter x)) acc env) env
        again (.compLoop (.GeneratorExp elt [⟨t0, i0, [], 0⟩, ⟨t1, i1, [], 0⟩] scope pos) 0 it acc env)) := by rfl
theorem turn_in (elt t0 i0 t1 i1 : Expr) (scope : Scope) (pos : Pos) (it acc : Value) (env : Env) :
    compTurn (.GeneratorExp elt [⟨t0, i0, [], 0⟩, ⟨t1, i1, [], 0⟩] scope pos) 1 it acc env = (do
      standAt i1.pos
      match ← pyNext it with
      | none => pure (.done .next)
      | some v =>
        letOwnedTupleGo t1 it v
        assign t1 env v
        (do let v ← eval elt env; standAt elt.pos; let _ ← yieldOut env v)
        again (.compLoop (.GeneratorExp elt [⟨t0, i0, [], 0⟩, ⟨t1, i1, [], 0⟩] scope pos) 1 it acc env)) := by rfl
/-- what is wanted of a generator of two clauses: W0 m i ahead of the i-th turn of the first, m items still to come at most; W1 within -/
structure Plan2 where
  W0 : Nat → Nat → L2.St → Hp → Prop
  W1 : It → Nat → Nat → Nat → L2.St → Hp → Prop
  Out : Bool → L2.St → Hp → Prop
  Fin : Hp → Prop
structure Turns2 (J : It) (g0 : TG) (w1 : TI) (g1 : TG) (te : TE) (go : Bool) (n0 : Nat) (Pn : Plan2) : Prop where
  out : ∀ m i σ H, i ≤ n0 → Pn.W0 m i σ H → (J.stop i H ∧ Pn.Fin H) ∨ (i < n0 ∧ J.go i H ∧ ∀ x H', J.yld i H x H' → g0 x σ H' fun σ2 H2 => w1 σ2 H2 fun J1 H3 => Pn.W1 J1 m i 0 σ2 H3)
  inn : ∀ J1 m i j σ H, i < n0 → Pn.W1 J1 m i j σ H → (J1.stop j H ∧ Pn.W0 m (i + 1) σ H) ∨ (J1.go j H ∧ ∃ m', m = m' + 1 ∧ ∀ x H', J1.yld j H x H' → g1 x σ H' fun σ2 H2 => te σ2 H2 fun v H3 => ∃ b, v = .bl b ∧ if b = go then Pn.W1 J1 m' i (j + 1) σ2 H3 else Pn.Out b σ2 H3)
def Plan2.flat (Pn : Plan2) : Plan := ⟨fun _ _ _ => True, fun b _ σ H => Pn.Out b σ H, Pn.Fin⟩
section
variable {Z : Cx} {elt t0 i0 t1 i1 : Expr} {scope : Scope} {pos : Pos} {it : Addr} {fp : List Addr} {tn : Nat → Heap → Prop} {J : It} {g0 g1 : TG} {w1 : TI} {te : TE} {A : Around} {pin : List (Addr × Obj)} {go : Bool} {n n0 g : Nat} {Pn : Plan2}
abbrev ge2 (elt t0 i0 t1 i1 : Expr) (scope : Scope) (pos : Pos) : Expr := .GeneratorExp elt [⟨t0, i0, [], 0⟩, ⟨t1, i1, [], 0⟩] scope pos
abbrev lo0 (elt t0 i0 t1 i1 : Expr) (scope : Scope) (pos : Pos) (it : Addr) (env : Env) : Code := .compLoop (ge2 elt t0 i0 t1 i1 scope pos) 0 (.ref it) .none env
abbrev lo1 (elt t0 i0 t1 i1 : Expr) (scope : Scope) (pos : Pos) (it : Addr) (env : Env) : Code := .compLoop (ge2 elt t0 i0 t1 i1 scope pos) 1 (.ref it) .none env
/-- ahead of a turn of the first clause -/
def SO (Z : Cx) (elt t0 i0 t1 i1 : Expr) (scope : Scope) (pos : Pos) (it : Addr) (fp : List Addr) (tn : Nat → Heap → Prop) (A : Around) (pin : List (Addr × Obj)) (go : Bool) (n g : Nat) (Pn : Plan2) (m i : Nat) : Prop :=
  ∀ (s₀ s : Shared) (σ : L2.St) (H : Hp), Inv Z pin σ H s → tn i s.heap → (∀ d ∈ fp, H d = none) → g < s.gens.size → Pn.W0 m i σ H → m ≤ n →
    Seg (model Z.prog Z.w) A (fun m s₁ r s₂ => r = .ok .next ∧ gP Z pin Pn.flat g m s₁ s₂) (gY Z pin fp tn Pn.flat go n g) m s₀ (lo0 elt t0 i0 t1 i1 scope pos it Z.env) ((model Z.prog Z.w).den (lo0 elt t0 i0 t1 i1 scope pos it Z.env)) [] s
/-- within: the second clause's loop, the first one's turn behind it on the stack -/
def SI (Z : Cx) (elt t0 i0 t1 i1 : Expr) (scope : Scope) (pos : Pos) (it : Addr) (fp : List Addr) (tn : Nat → Heap → Prop) (A : Around) (pin : List (Addr × Obj)) (go : Bool) (n g : Nat) (Pn : Plan2) (m i : Nat) : Prop :=
  ∀ (s₀ s : Shared) (σ : L2.St) (H : Hp) (F0 : Frame) (j : Nat) (it1 : Addr) (fp1 : List Addr) (tn1 : Nat → Heap → Prop) (J1 : It),
    (splitAtGen [F0] = none) → ([F0].any Frame.guarded = false) → (A.over (lo1 elt t0 i0 t1 i1 scope pos it1 Z.env) [F0] = Z.A) →
    (∀ m' s₀' s', Seg (model Z.prog Z.w) A (fun m s₁ r s₂ => r = .ok .next ∧ gP Z pin Pn.flat g m s₁ s₂) (gY Z pin fp tn Pn.flat go n g) m' s₀' (lo0 elt t0 i0 t1 i1 scope pos it Z.env) ((model Z.prog Z.w).den (lo0 elt t0 i0 t1 i1 scope pos it Z.env)) [] s' →
      Seg (model Z.prog Z.w) A (fun m s₁ r s₂ => r = .ok .next ∧ gP Z pin Pn.flat g m s₁ s₂) (gY Z pin fp tn Pn.flat go n g) m' s₀' (lo1 elt t0 i0 t1 i1 scope pos it1 Z.env) (leafOf (.ok .next)) [F0] s') →
    Turn Z.prog Z.w Z.K t1 J1 fp1 it1 tn1 → (∀ {H : Hp}, (∀ d ∈ fp1, H d = none) → ∀ d ∈ fp1, FpOk Z pin H d) → (∀ d ∈ fp, ∀ b ∈ fp1, d ≠ b) →
    Inv Z pin σ H s → tn (i + 1) s.heap → (∀ d ∈ fp, H d = none) → tn1 j s.heap → (∀ d ∈ fp1, H d = none) → g < s.gens.size → Pn.W1 J1 m i j σ H → m ≤ n →
    Seg (model Z.prog Z.w) A (fun m s₁ r s₂ => r = .ok .next ∧ gP Z pin Pn.flat g m s₁ s₂) (gY Z pin fp tn Pn.flat go n g) m s₀ (lo1 elt t0 i0 t1 i1 scope pos it1 Z.env) ((model Z.prog Z.w).den (lo1 elt t0 i0 t1 i1 scope pos it1 Z.env)) [F0] s
theorem fp_more {Z : Cx} {pin : List (Addr × Obj)} {H : Hp} {h : Heap} {fp : List Addr} {b : Addr} (f : FpOk Z pin H b) (d : ∀ a ∈ fp, a ≠ b) : FpOk Z (pin ++ pinsAt fp h) H b := by
  obtain ⟨h1, h2, h3, h4, h5, h6⟩ := f
  refine ⟨h1, h2, h3, h4, h5, fun p hp => ?_⟩
  rcases List.mem_append.mp hp with z | z
  · exact h6 p (List.mem_append_left _ z)
  · rcases List.mem_append.mp z with z | z
    · exact h6 p (List.mem_append_right _ z)
    · exact d _ (of_pinsAt z).1
theorem si_of (T : Turn Z.prog Z.w Z.K t0 J fp it tn) (hg1 : PG Z t1 g1) (hel : PE Z elt te) (hx : ∀ e s, ¬ Z.xe e s) (hc : Z.calm = true) (hco : Z.env.scope.isCoroutine = false) (tt : Turns2 J g0 w1 g1 te go n0 Pn)
    (stat : ∀ {H : Hp}, (∀ d ∈ fp, H d = none) → ∀ d ∈ fp, FpOk Z pin H d) {m i : Nat} (hi : i < n0)
    (ih : ∀ m', m = m' + 1 → SI Z elt t0 i0 t1 i1 scope pos it fp tn A pin go n g Pn m' i) (so : SO Z elt t0 i0 t1 i1 scope pos it fp tn A pin go n g Pn m (i + 1)) : SI Z elt t0 i0 t1 i1 scope pos it fp tn A pin go n g Pn m i := by
  intro s₀ s σ H F0 j it1 fp1 tn1 J1 hF1 hF2 hA hk T1 stat1 dis I st0 n0' st1 n1' hgz hw hm
  show Seg _ A _ _ _ s₀ _ ((compTurn (ge2 elt t0 i0 t1 i1 scope pos) 1 (.ref it1) .none Z.env).onRaise _) [F0] s
  rw [turn_in, Sem.onRaise_eq_wrap]
  refine seg_bind_wrap (wpAny_standAt ?_)
  refine seg_bind_wrap ?_
  rw [hA]
  have P0 := I.pinned (stat n0') (T.obj _ _ st0)
  have f1 : ∀ d ∈ fp1, FpOk Z (pin ++ pinsAt fp s.heap) H d := fun d hd => fp_more (stat1 n1' d hd) fun a ha => dis a ha d hd
  have keep0 : ∀ {pl : List (Addr × Obj)} {σ' : L2.St} {H' : Hp} {s' : Shared}, Inv Z (pin ++ pinsAt fp s.heap ++ pl) σ' H' s' → tn (i + 1) s'.heap ∧ ∀ d ∈ fp, H' d = none := fun {pl σ' H' s'} I' => by
    refine ⟨T.keep _ _ _ st0 fun d hd o e => (I'.pin (d, o) (List.mem_append_right _ (List.mem_append_left _ (List.mem_append_right _ (mem_pinsAt hd e))))).1, fun d hd => ?_⟩
    obtain ⟨o, e, _⟩ := T.obj _ _ st0 d hd
    exact (I'.pin (d, o) (List.mem_append_right _ (List.mem_append_left _ (List.mem_append_right _ (mem_pinsAt hd e))))).2.1
  rcases tt.inn J1 m i j σ H hi hw with ⟨stp, w0⟩ | ⟨gO, m', rfl, step⟩
  · refine GenW.wpAny_gsz (n := g + 1) hgz (wpAny_mono (T1.done Z rfl rfl rfl hc j _ s σ H (fun _ _ => False) P0 f1 st1 stp) (fun r s1 h1 hz => ?_) fun _ _ e => e.elim)
    obtain ⟨hr, I1⟩ := h1
    subst hr
    obtain ⟨a1, a2⟩ := keep0 (pl := []) (by rw [List.append_nil]; exact I1)
    exact hk m _ s1 (so _ s1 σ H I1.unpinned a1 a2 hz w0 hm)
  · refine GenW.wpAny_gsz (n := g + 1) hgz (wpAny_mono (T1.item Z rfl rfl rfl hc j _ s σ H (fun _ _ => False) P0 f1 st1 gO) (fun r s1 h1 hz1 => ?_) fun _ _ e => e.elim)
    obtain ⟨u, hr, h1⟩ := h1
    subst hr
    refine seg_bind_wrap ?_
    rw [hA]
    refine GenW.wpAny_gsz (n := g + 1) hz1 (wpAny_mono h1 (fun _ s2 h2 hz2 => ?_) fun _ _ e => e.elim)
    obtain ⟨x, H2, I2, r2, y2, st2, n2⟩ := h2
    have f2 : ∀ d ∈ fp1, FpOk Z (pin ++ pinsAt fp s.heap) H2 d := fun d hd => ⟨n2 d hd, (f1 d hd).2⟩
    have P2 := I2.pinned f2 (T1.obj _ _ st2)
    refine seg_bind_wrap ?_
    rw [hA]
    refine GenW.wpAny_gsz (n := g + 1) hz2 (wpAny_mono (hg1.run _ s2 σ H2 x u _ P2 r2 (step x H2 y2)) (fun _ s3 h3 hz3 => ?_) fun e s3 he _ => (hx e s3 he).elim)
    obtain ⟨σ3, H3, I3, q3⟩ := h3
    have hy : ∀ v, yieldOut Z.env v = yieldValue v := fun v => by simp only [yieldOut, hco, Bool.false_eq_true, if_false]
    simp only [hy]
    rw [Sem.bind_eq_wrap', Sem.bind_eq_wrap', Sem.wrap_wrap, Sem.wrap_wrap]
    refine seg_wrap ?_
    rw [hA]
    refine GenW.wpAny_gsz (n := g + 1) hz3 (wpAny_mono (hel.run _ s3 σ3 H3 _ I3 q3) (fun v s4 h4 hz4 => ?_) fun e s4 he _ => (hx e s4 he).elim)
    obtain ⟨w4, H4, I4, r4, b, eb, q4⟩ := h4
    subst eb
    obtain rfl : v = Value.bool b := r4
    obtain ⟨a1, a2⟩ := keep0 I4
    have st4 : tn1 (j + 1) s4.heap := T1.keep _ _ _ st2 fun d hd o e => (I4.pin (d, o) (List.mem_append_right _ (List.mem_append_right _ (mem_pinsAt hd e)))).1
    have n4 : ∀ d ∈ fp1, H4 d = none := fun d hd => by
      obtain ⟨o, e, _⟩ := T1.obj _ _ st2 d hd
      exact (I4.pin (d, o) (List.mem_append_right _ (List.mem_append_right _ (mem_pinsAt hd e)))).2.1
    have I4' := I4.unpinned.unpinned
    refine seg_at (seg_yield hF1 rfl hF2 ⟨n - m' - 1, b, σ3, H4, by omega, rfl, I4', hz4, ?_, fun hb s'' e1 e2 e3 e4 => ?_⟩)
    · by_cases hb : b = go
      · rw [if_pos hb]; exact trivial
      · rw [if_neg hb] at q4 ⊢
        exact q4
    · rw [if_pos hb] at q4
      exact seg_again rfl (ih m' rfl s'' s'' σ3 H4 F0 (j + 1) it1 fp1 tn1 J1 hF1 hF2 hA hk T1 stat1 dis (inv_same I4' e1 e2 e3) (by rw [e1]; exact a1) a2 (by rw [e1]; exact st4) n4 e4 q4 (by omega))
theorem so_of (T : Turn Z.prog Z.w Z.K t0 J fp it tn) (hg0 : PG Z t0 g0) (hw1 : PI Z t1 i1 w1) (hx : ∀ e s, ¬ Z.xe e s) (hc : Z.calm = true) (tt : Turns2 J g0 w1 g1 te go n0 Pn)
    (hs1 : ∀ x, foldedSetIterable i1 Z.env x = pure x)
    (hA : A.over (lo0 elt t0 i0 t1 i1 scope pos it Z.env) [] = Z.A)
    (hA1 : ∀ (it1 : Addr) (k g l p), A.over (lo1 elt t0 i0 t1 i1 scope pos it1 Z.env) [.ret k none g l (lo0 elt t0 i0 t1 i1 scope pos it Z.env) p []] = Z.A)
    (stat : ∀ {H : Hp}, (∀ d ∈ fp, H d = none) → ∀ d ∈ fp, FpOk Z pin H d) {m i : Nat} (hi : i ≤ n0)
    (si : i < n0 → SI Z elt t0 i0 t1 i1 scope pos it fp tn A pin go n g Pn m i) : SO Z elt t0 i0 t1 i1 scope pos it fp tn A pin go n g Pn m i := by
  intro s₀ s σ H I hst hn hgz hw hm
  show Seg _ A _ _ _ s₀ _ ((compTurn (ge2 elt t0 i0 t1 i1 scope pos) 0 (.ref it) .none Z.env).onRaise (leaving Z.env)) [] s
  rw [turn_out, Sem.onRaise_eq_wrap]
  refine seg_bind_wrap (wpAny_standAt ?_)
  refine seg_bind_wrap ?_
  rw [hA]
  rcases tt.out m i σ H hi hw with ⟨stp, fin⟩ | ⟨hlt, gO, step⟩
  · refine GenW.wpAny_gsz (n := g + 1) hgz (wpAny_mono (T.done Z rfl rfl rfl hc i pin s σ H (fun _ _ => False) I (stat hn) hst stp) (fun r s1 h1 hz => ?_) fun _ _ e => e.elim)
    obtain ⟨hr, I1⟩ := h1
    subst hr
    exact seg_end (.ok .next) ⟨rfl, σ, H, I1, fin, hz⟩
  · refine GenW.wpAny_gsz (n := g + 1) hgz (wpAny_mono (T.item Z rfl rfl rfl hc i pin s σ H (fun _ _ => False) I (stat hn) hst gO) (fun r s1 h1 hz1 => ?_) fun _ _ e => e.elim)
    obtain ⟨u, hr, h1⟩ := h1
    subst hr
    refine seg_bind_wrap ?_
    rw [hA]
    refine GenW.wpAny_gsz (n := g + 1) hz1 (wpAny_mono h1 (fun _ s2 h2 hz2 => ?_) fun _ _ e => e.elim)
    obtain ⟨x, H2, I2, r2, y2, st2, n2⟩ := h2
    have P2 := I2.pinned (stat n2) (T.obj _ _ st2)
    refine seg_bind_wrap ?_
    rw [hA]
    refine GenW.wpAny_gsz (n := g + 1) hz2 (wpAny_mono (hg0.run _ s2 σ H2 x u _ P2 r2 (step x H2 y2)) (fun _ s3 h3 hz3 => ?_) fun e s3 he _ => (hx e s3 he).elim)
    obtain ⟨σ3, H3, I3, q3⟩ := h3
    refine seg_bind_wrap ?_
    rw [hA]
    refine GenW.wpAny_gsz (n := g + 1) hz3 (wpAny_mono (hw1.run _ s3 σ3 H3 _ I3 q3) (fun v s4 h4 hz4 => ?_) fun e s4 he _ => (hx e s4 he).elim)
    refine seg_bind_wrap (wpAny_standAt ?_)
    rw [hs1]
    refine seg_bind_wrap (wpAny_pure ?_)
    refine seg_bind_wrap ?_
    rw [hA]
    refine GenW.wpAny_gsz (n := g + 1) hz4 (wpAny_holding (wpAny_mono h4 (fun itv s5 h5 hz5 => ?_) fun e s5 he _ => (hx e s5 he).elim))
    obtain ⟨it1, fp1, tn1, J1, H5, rfl, I5, T1, st1, f1, q5⟩ := h5
    have a1 : tn (i + 1) s5.heap := T.keep _ _ _ st2 fun d hd o e => (I5.pin (d, o) (List.mem_append_right _ (List.mem_append_right _ (mem_pinsAt hd e)))).1
    have a2 : ∀ d ∈ fp, H5 d = none := fun d hd => by
      obtain ⟨o, e, _⟩ := T.obj _ _ st2 d hd
      exact (I5.pin (d, o) (List.mem_append_right _ (List.mem_append_right _ (mem_pinsAt hd e)))).2.1
    have dis : ∀ d ∈ fp, ∀ b ∈ fp1, d ≠ b := fun d hd b hb => by
      obtain ⟨o, e, _⟩ := T.obj _ _ st2 d hd
      exact (f1 b hb).2.2.2.2.2 (d, o) (List.mem_append_right _ (List.mem_append_right _ (mem_pinsAt hd e)))
    have stat1 : ∀ {H : Hp}, (∀ d ∈ fp1, H d = none) → ∀ d ∈ fp1, FpOk Z pin H d := fun {H} hn d hd => by
      obtain ⟨_, h2, h3, h4, h5, h6⟩ := f1 d hd
      refine ⟨hn d hd, h2, h3, h4, h5, fun p hp => ?_⟩
      rcases List.mem_append.mp hp with z | z
      · exact h6 p (List.mem_append_left _ z)
      · exact h6 p (List.mem_append_right _ (List.mem_append_left _ z))
    unfold runOwn run
    rw [Sem.onRaise_eq_wrap, Sem.bind_eq_wrap', Sem.wrap_wrap, Sem.wrap_wrap]
    refine seg_call fun p => ?_
    have lp := fun (F0 : Frame) (b1 : splitAtGen [F0] = none) (b2 : [F0].any Frame.guarded = false) b3 b4 => si hlt s₀ s5 σ3 H5 F0 0 it1 fp1 tn1 J1 b1 b2 b3 b4 T1 stat1 dis I5.unpinned a1 a2 st1 (fun d hd => (f1 d hd).1) hz5 q5 hm
    show Seg _ A _ _ _ s₀ _ ((compStart (ge2 elt t0 i0 t1 i1 scope pos) 1 (.ref it1) .none Z.env).onRaise _) [_] s5
    unfold compStart
    rw [Sem.onRaise_eq_wrap]
    show Seg _ A _ _ _ s₀ _ ((ask >>= _).wrap _ _ _ _) [_] s5
    refine seg_bind_wrap (wpAny_askSetting ?_)
    split
    · refine seg_again rfl (lp _ rfl rfl (hA1 _ _ _ _ _) ?_)
      exact fun m' s₀' s' h => seg_leaf (.ok .next) (seg_again rfl h)
    · refine seg_bind_wrap (wpAny_rule ?_)
      show Seg _ A _ _ _ s₀ _ ((standAt i1.pos >>= _).wrap _ _ _ _) [_] s5
      refine seg_bind_wrap (wpAny_standAt (seg_bind_wrap (T1.self _ 0 s5 _ _ st1 (seg_again rfl (lp _ rfl rfl (hA1 _ _ _ _ _) ?_)))))
      exact fun m' s₀' s' h => seg_leaf (.ok .next) (seg_again rfl h)
theorem both (T : Turn Z.prog Z.w Z.K t0 J fp it tn) (hg0 : PG Z t0 g0) (hw1 : PI Z t1 i1 w1) (hg1 : PG Z t1 g1) (hel : PE Z elt te) (hx : ∀ e s, ¬ Z.xe e s) (hc : Z.calm = true) (hco : Z.env.scope.isCoroutine = false) (tt : Turns2 J g0 w1 g1 te go n0 Pn)
    (hs1 : ∀ x, foldedSetIterable i1 Z.env x = pure x)
    (hA : A.over (lo0 elt t0 i0 t1 i1 scope pos it Z.env) [] = Z.A)
    (hA1 : ∀ (it1 : Addr) (k g l p), A.over (lo1 elt t0 i0 t1 i1 scope pos it1 Z.env) [.ret k none g l (lo0 elt t0 i0 t1 i1 scope pos it Z.env) p []] = Z.A)
    (stat : ∀ {H : Hp}, (∀ d ∈ fp, H d = none) → ∀ d ∈ fp, FpOk Z pin H d) :
    ∀ m, (∀ i, i ≤ n0 → SO Z elt t0 i0 t1 i1 scope pos it fp tn A pin go n g Pn m i) ∧ ∀ i, i < n0 → SI Z elt t0 i0 t1 i1 scope pos it fp tn A pin go n g Pn m i := by
  have step : ∀ m, (∀ i, i < n0 → ∀ m', m = m' + 1 → SI Z elt t0 i0 t1 i1 scope pos it fp tn A pin go n g Pn m' i) → (∀ i, i ≤ n0 → SO Z elt t0 i0 t1 i1 scope pos it fp tn A pin go n g Pn m i) ∧ ∀ i, i < n0 → SI Z elt t0 i0 t1 i1 scope pos it fp tn A pin go n g Pn m i := by
    intro m ih
    have so : ∀ d i, i + d = n0 → SO Z elt t0 i0 t1 i1 scope pos it fp tn A pin go n g Pn m i := by
      intro d
      induction d with
      | zero => exact fun i e => so_of T hg0 hw1 hx hc tt hs1 hA hA1 stat (by omega) fun h => absurd h (by omega)
      | succ d id => exact fun i e => so_of T hg0 hw1 hx hc tt hs1 hA hA1 stat (by omega) fun h => si_of T hg1 hel hx hc hco tt stat h (ih i h) (id (i + 1) (by omega))
    exact ⟨fun i h => so (n0 - i) i (by omega), fun i h => si_of T hg1 hel hx hc hco tt stat h (ih i h) (so (n0 - (i + 1)) (i + 1) (by omega))⟩
  intro m
  induction m with
  | zero => exact step 0 fun i _ m' e => by cases e
  | succ m ih =>
    refine step (m + 1) fun i h m' e => ?_
    have : m = m' := by omega
    subst this
    exact ih.2 i h
theorem begin2 (T : Turn Z.prog Z.w Z.K t0 J fp it tn) (hA3 : A.over (.compStart (ge2 elt t0 i0 t1 i1 scope pos) 0 (.ref it) .none Z.env) [] = Z.A) {m : Nat} (so : SO Z elt t0 i0 t1 i1 scope pos it fp tn A pin go n g Pn m 0)
    (s₀ s : Shared) (σ : L2.St) (H : Hp) (I : Inv Z pin σ H s) (hst : tn 0 s.heap) (hn : ∀ d ∈ fp, H d = none) (hgz : g < s.gens.size) (hw : Pn.W0 m 0 σ H) (hm : m ≤ n) :
    Seg (model Z.prog Z.w) A (fun m s₁ r s₂ => r = .ok .next ∧ gP Z pin Pn.flat g m s₁ s₂) (gY Z pin fp tn Pn.flat go n g) m s₀ (.compStart (ge2 elt t0 i0 t1 i1 scope pos) 0 (.ref it) .none Z.env)
      ((model Z.prog Z.w).den (.compStart (ge2 elt t0 i0 t1 i1 scope pos) 0 (.ref it) .none Z.env)) [] s := by
  have lp := so s₀ s σ H I hst hn hgz hw hm
  show Seg _ A _ _ _ s₀ _ ((compStart (ge2 elt t0 i0 t1 i1 scope pos) 0 (.ref it) .none Z.env).onRaise (leaving Z.env)) [] s
  unfold compStart
  rw [Sem.onRaise_eq_wrap]
  show Seg _ A _ _ _ s₀ _ ((ask >>= _).wrap _ _ _ _) [] s
  refine seg_bind_wrap (wpAny_askSetting ?_)
  split
  · exact seg_again rfl lp
  · refine seg_bind_wrap (wpAny_rule ?_)
    show Seg _ A _ _ _ s₀ _ ((standAt i0.pos >>= _).wrap _ _ _ _) [] s
    exact seg_bind_wrap (wpAny_standAt (seg_bind_wrap (T.self _ 0 s _ _ hst (seg_again rfl lp))))
end
/-! ### the generator made, its scope of several names -/
structure GScL (N : List Str) (sc scope : Scope) (own : List (Str × Nat)) : Prop where
  kind : scope.kind = .function
  co : scope.isCoroutine = false
  cell : ∀ y ∈ scope.names, y.2 ≠ .cell
  dot : scope.names.lookup (".0" : Str) = some NameKind.local
  loc : ∀ y, scope.names.lookup y = some .local → y = (".0" : Str) ∨ ∃ i, (y, i) ∈ own
  free : ∀ y ∈ scope.names, y.2 = .free → sc.names.lookup y.1 = some .cell ∨ sc.names.lookup y.1 = some .free
  nd : N.Nodup
  spot : ∀ q ∈ own, N[q.2]? = some q.1
  nodot : (".0" : Str) ∉ N
section
variable {X : Cx} {pins : List (Addr × Obj)} {σ : L2.St} {H : Hp} {s : Shared}
/-- the generator's frame has been laid: the invariant of its context -/
theorem gx_startL {N : List Str} {scope : Scope} {own : List (Str × Nat)} {A : Around} {code : Value} {fp : List Addr} {itv : Value} {h1 : Heap} {tk : Nat} {gens' : Array GenState} {pin : List (Addr × Obj)}
    (I : Inv X pins σ H s) (G : GScL X.N X.env.scope scope own)
    (hA : A.frames = some (genEnv scope (cloFrom X.env.cells scope.names []) s.heap.objs.size code builtinsNs X.env :: X.stack)) (hd : A.handled = none)
    (hfp : ∀ b ∈ fp, FpOk X pins H b) (hlt : ∀ b ∈ fp, b < s.heap.objs.size)
    (hns : h1.Ns s.heap.objs.size fun y => if y = (".0" : Str) then some itv else none) (kp : ∀ b o, s.heap.get? b = some o → h1.get? b = some o) (hb : AllBare gens')
    (hpin : ∀ p ∈ pin, h1.get? p.1 = some p.2 ∧ s.heap.objs.size < p.1 ∧ ∀ v, p.2.data ≠ .cell v) :
    Inv (gcx X A s H (genEnv scope (cloFrom X.env.cells scope.names []) s.heap.objs.size code builtinsNs X.env) fp) pin (wipe σ (own.map (·.2))) H { s with heap := h1, toks := tk, gens := gens' } := by
  have has : ∀ y ∈ scope.names, y.2 = .free → ∃ c, X.env.cells.lookup y.1 = some c := fun y hy e => by
    rcases G.free y hy e with k | k
    · exact I.ok.has _ (.inl k)
    · exact I.ok.has _ (.inr k)
  have cm : ∀ {y c}, (cloFrom X.env.cells scope.names []).lookup y = some c → X.env.cells.lookup y = some c := fun {y c} e => clo_sub has e
  have look : ∀ {y}, scope.names.lookup y = some .free → ∃ c, (cloFrom X.env.cells scope.names []).lookup y = some c := fun {y} hl => by
    have hy : (y, NameKind.free) ∈ scope.names := PySem.mem_of_lookup hl
    exact mem_lookup (cloFrom_has (cells := X.env.cells) (acc := []) hy)
  have cellK : ∀ {c : Addr} {v : Option Value}, s.heap.IsCell c v → h1.IsCell c v := fun {c v} ⟨o, ho, hd⟩ => ⟨o, kp _ _ ho, hd⟩
  refine ⟨⟨I.ok.mod, G.kind, I.ok.glob, rfl, Nat.le_refl _, fun y z c e1 e2 => I.ok.inj y z c (cm e1) (cm e2), fun y hy => ?_, fun y c z _ => ?_, fun _ => hd, hA, .inr ⟨rfl, rfl⟩, fun b hb => ⟨Nat.ne_of_lt (hlt b hb), fun y c e => ?_⟩, I.bs,
      Nat.le_trans I.ok.bsz I.sz, fun b o e hb => ?_, fun b hb hm => ?_, I.stack, I.stkFree⟩,
    rfl, hb, Un.kept kp, ⟨_, hns, fun i y v e1 e2 e3 => ?_⟩, fun y c e => ?_, I.hok.fresh (Nat.le_refl _), fun y c e => I.freeC y c (cm e), fun p hp => ?_, I.hok.kept kp, ?_⟩
  · have hy : scope.names.lookup y = some .cell ∨ scope.names.lookup y = some .free := hy
    rcases hy with hy | hy
    · exact absurd rfl (G.cell _ (PySem.mem_of_lookup hy))
    · exact look hy
  · cases z
  · exact (hfp b hb).2.2.2.2.1 y c (cm e)
  · obtain ⟨_, _, _, h4, _⟩ := hfp b hb
    rcases h4 with h4 | h4
    · exact I.ok.noex b o e h4
    · exact absurd (Nat.lt_of_lt_of_le (Nat.lt_of_lt_of_le (Heap.lt_size e) I.ok.bsz) h4) (Nat.lt_irrefl _)
  · obtain ⟨_, h2, h3, _⟩ := hfp b hb
    rcases List.mem_cons.mp (I.stkSub b hm) with z | z
    · exact h2 z
    · exact h3 z
  · have e3 : Vis scope y := e3
    have e2' := wipe_some e2
    rcases e3 with k | k | k
    · rcases G.loc y k with z | z
      · exact absurd (List.mem_of_getElem? (show X.N[i]? = some (".0" : Str) by rw [← z]; exact e1)) G.nodot
      · obtain ⟨i', hi'⟩ := z
        have := nodup_ix G.nd e1 (G.spot _ hi')
        exact absurd (List.mem_map.mpr ⟨_, hi', this.symm⟩) e2'.2
    · exact absurd rfl (G.cell _ (PySem.mem_of_lookup k))
    · obtain ⟨m, hn, hl⟩ := I.loc
      have hfr := G.free _ (PySem.mem_of_lookup k) rfl
      have hvis : Vis X.env.scope y := hfr.elim (fun k => .inr (.inl k)) (fun k => .inr (.inr k))
      obtain ⟨w', r, q⟩ := hl i y v e1 e2'.1 hvis
      obtain ⟨c2, h2⟩ := look k
      refine ⟨w', r, .inr ⟨.inr k, c2, h2, ?_⟩⟩
      have c1 := cm h2
      rcases q with ⟨k', _⟩ | ⟨_, c3, e', z⟩
      · have k' : X.env.scope.names.lookup y = some .local := k'
        rcases hfr with k2 | k2 <;> rw [show X.env.scope.names.lookup y = _ from k2] at k' <;> cases k'
      · rw [c1] at e'
        cases e'
        exact cellK z
  · obtain ⟨w', z⟩ := I.cell y c (cm e)
    exact ⟨w', cellK z⟩
  · have hp' : p ∈ pin := by
      rcases List.mem_append.mp hp with z | z
      · exact absurd (show p ∈ ([] : List (Addr × Obj)) from z) (by simp)
      · exact z
    obtain ⟨q1, q2, q3⟩ := hpin p hp'
    refine ⟨q1, I.hok.fresh (Nat.le_of_lt q2), Nat.ne_of_gt q2, fun hm => ?_, q3⟩
    have hm' : p.1 ∈ frs X.stack := hm
    rcases List.mem_cons.mp (I.stkSub _ hm') with z | z
    · have := I.lt
      rw [← z] at this
      exact absurd (Nat.lt_trans this q2) (Nat.lt_irrefl _)
    · exact I.nofs (Nat.le_of_lt q2) z
  · rw [wipe_length]; exact I.len
end


end Gx

namespace Gx
open PySem PySem.Spec PyProof.Rows L2
theorem eval_ge (elt target iter : Expr) (rest : List Comprehension) (scope : Scope) (pos : Pos) (env : Env) (hco : scope.isCoroutine = false) :
    eval (.GeneratorExp elt (⟨target, iter, [], 0⟩ :: rest) scope pos) env = (do
      let v ← eval iter env
      standAt iter.pos
      let v ← genFold iter env v
      let iv ← holding [v] (pyIter v)
      enterFrame
      let cl ← closureFor scope env
      let cd ← genexprCode env pos (env.qual ++ "<genexpr>") scope
      let bi ← builtinsFor env.globals env.builtins
      let ce ← newFunctionEnv scope env.globals cl [(".0", iv)] (env.qual ++ "<genexpr>.") none cd none bi
      newGenerator (.compStart (.GeneratorExp elt (⟨target, iter, [], 0⟩ :: rest) scope pos) 0 iv .none ce) "<genexpr>" (env.qual ++ "<genexpr>")) := by
  rw [arm_eval_GeneratorExp]
  simp only [hco, Bool.false_eq_true, if_false]
  cases iter <;> rfl
section
variable {M : Model} {A : Around} {E : Value → Shared → Prop} {s : Shared}
theorem made_ge {env : Env} {elt target iter : Expr} {rest : List Comprehension} {scope : Scope} {cl : List (Str × Addr)} {pos : Pos} {Q : Value → Shared → Prop}
    (hco : scope.isCoroutine = false) (cls : closureFor scope env = pure cl) (hcell : ∀ y ∈ scope.names, y.2 ≠ .cell) (dot : scope.names.lookup (".0" : Str) = some NameKind.local) (kd : scope.kind = .function) (room : A.depth < recursionLimit)
    (h : wpAny M A (eval iter env) (fun xv s1 => wpAny M A (pyIter xv) (fun iv s2 => s2.heap.NoLimit ∧
      wpAny M A (genexprCode env pos (env.qual ++ "<genexpr>") scope) (fun cd s3 => wpAny M A (builtinsFor env.globals env.builtins) (fun bi s4 =>
        ∀ h', h'.Ns s4.heap.objs.size (fun y => if y = (".0" : Str) then some iv else none) → Heap.SameBut s4.heap.objs.size (s4.heap.push { cls := .type "frame", data := .dict #[] }) h' →
          Q (.ref h'.objs.size) { s4 with
            gens := s4.gens.push (.fresh (.compStart (.GeneratorExp elt (⟨target, iter, [], 0⟩ :: rest) scope pos) 0 iv .none (genEnv scope cl s4.heap.objs.size cd bi env))),
            toks := s4.toks + 1 + 1 + 1, heap := h'.push { cls := .type "generator", data := .fields #[.int s4.gens.size 0, .str "<genexpr>" (s4.toks + 1), .str (env.qual ++ "<genexpr>") (s4.toks + 1 + 1)] } }) E s3) E s2) E s1) E s)
    (hs : ∀ v, genFold iter env v = pure v) : wpAny M A (eval (.GeneratorExp elt (⟨target, iter, [], 0⟩ :: rest) scope pos) env) Q E s := by
  rw [eval_ge _ _ _ _ _ _ _ hco, cls]
  refine wpAny_bind (wpAny_mono h (fun v s1 h1 => wpAny_bind (wpAny_standAt (wpAny_bind (wpAny_of_eq (hs v) (wpAny_bind (wpAny_holding (wpAny_mono h1 (fun iv s2 h2 => ?_) fun _ _ e => e))))))) fun _ _ e => e)
  refine wpAny_bind (wpAny_enterFrame h2.1 room (wpAny_bind (wpAny_pure (wpAny_bind (wpAny_mono h2.2 (fun cd s3 h3 => wpAny_bind (wpAny_mono h3 (fun bi s4 h4 => ?_) fun _ _ e => e)) fun _ _ e => e)))))
  refine wpAny_bind (wpAny_newFunctionEnv hcell (fun y hy => ?_) (fun h' hn hb => ?_) kd)
  · rw [List.mem_singleton.mp hy]; exact dot
  have e : (fun y : Str => ([((".0" : Str), iv)] : List (Str × Value)).reverse.lookup y) = fun y : Str => if y = (".0" : Str) then some iv else none := by
    funext y
    by_cases z : y = ".0"
    · subst z; simp
    · have b : (y == (".0" : Str)) = false := by simpa using z
      simp [List.lookup, b, z]
  rw [e] at hn
  simp only [newGenerator, newFields]
  exact wpAny_bind (wpAny_newGen (wpAny_bind (wpAny_mkText (wpAny_bind (wpAny_mkText (wpAny_newObj_type (h4 h' hn hb) (by size_fits)))))))
end
def tAllG2 (P : Addr) (own : List (Str × Nat)) (wi : TI) (g : TG) (w1 : TI) (g1 : TG) (te : TE) (go : Bool) : TE := fun σ H Q => wi σ H fun J H1 => GxR.TabG H1 P ∧ ∀ H2, GxR.Tabbed P H1 H2 → ∃ (n0 n : Nat) (Pn : Plan2), Turns2 J g w1 g1 te go n0 Pn ∧ Pn.W0 n 0 (wipe σ (own.map (·.2))) H2 ∧
  (∀ σ' H', Pn.Out (!go) σ' H' → Q (.bl (!go)) H') ∧ ∀ H', Pn.Fin H' → Q (.bl go) H'
section
variable {X : Cx} {elt t0 t1 iter i1 : Expr} {p pos gpos : Pos} {scope : Scope} {own : List (Str × Nat)} {k : Nat} {wi w1 : TI} {g g1 : TG} {te : TE} {P c : Addr}

theorem gen_made2 {pins : List (Addr × Obj)} {σ : L2.St} {H : Hp} {s : Shared} {go : Bool} {R : V → Hp → Prop} {Q' : Value → Shared → Prop}
    (hr : Room (k + 1) X.A) (TB : GxR.TabB X.base X.mg c P) (hcode : X.env.code = .ref c) (G : GScL X.N X.env.scope scope own) (hi : PI X t0 iter wi)
    (hgt : ∀ (s : Shared) (H : Hp) (C : Addr) (code : Value) (fp : List Addr), PG (gcx X (gA X (gE X scope C code)) s H (gE X scope C code) fp) t0 g)
    (hw1 : ∀ (s : Shared) (H : Hp) (C : Addr) (code : Value) (fp : List Addr), Room k (gA X (gE X scope C code)) → PI (gcx X (gA X (gE X scope C code)) s H (gE X scope C code) fp) t1 i1 w1)
    (hg1 : ∀ (s : Shared) (H : Hp) (C : Addr) (code : Value) (fp : List Addr), PG (gcx X (gA X (gE X scope C code)) s H (gE X scope C code) fp) t1 g1)
    (hel : ∀ (s : Shared) (H : Hp) (C : Addr) (code : Value) (fp : List Addr), Room k (gA X (gE X scope C code)) → PE (gcx X (gA X (gE X scope C code)) s H (gE X scope C code) fp) elt te)
    (hs : ∀ v, genFold iter X.env v = pure v) (hs1 : ∀ env v, foldedSetIterable i1 env v = pure v) (I : Inv X pins σ H s) (h : tAllG2 P own wi g w1 g1 te go σ H R)
    (hQ : ∀ (Z : Cx) (fp : List Addr) (tn : Nat → Heap → Prop) (a : Addr) (o : Obj) (n gg : Nat) (Pn : Plan) (nm qn : Value) (s5 : Shared) (gs : GenState) (σ5 : L2.St) (H5 : Hp), Z.prog = X.prog → Z.w = X.w →
      o.cls = .type "generator" → o.data = .fields #[.int gg 0, nm, qn] → o.slots = #[] → Inv Z [(a, o)] σ5 H5 s5 → s5.gens[gg]? = some gs →
      gs.Goes (model Z.prog Z.w) X.A.in1.in1 (fun m s₁ r s₂ => r = .ok .next ∧ gP Z [(a, o)] Pn gg m s₁ s₂) (gY Z [(a, o)] fp tn Pn go n gg) n (.send .none) (s5.setGen gg .running) →
      (∀ i σ' H' s', Inv Z [(a, o)] σ' H' s' → Pn.Out (!go) i σ' H' → ∃ H'', Inv X pins σ H'' s' ∧ R (.bl (!go)) H'') →
      (∀ σ' H' s', Inv Z [(a, o)] σ' H' s' → Pn.Fin H' → ∃ H'', Inv X pins σ H'' s' ∧ R (.bl go) H'') → Q' (.ref a) s5) :
    wpAny (model X.prog X.w) X.A (eval (.GeneratorExp elt [⟨t0, iter, [], 0⟩, ⟨t1, i1, [], 0⟩] scope gpos) X.env) Q' X.xe s := by
  have has : ∀ y ∈ scope.names, y.2 = .free → ∃ c, X.env.cells.lookup y.1 = some c := fun y hy e => by
    rcases G.free y hy e with k | k
    · exact I.ok.has _ (.inl k)
    · exact I.ok.has _ (.inr k)
  refine made_ge G.co (closure_ok has) G.cell G.dot G.kind (by have := hr.dp; omega) ?_ hs
  refine thn (hi.run pins s σ H _ I h) fun xv s1 h1 => thn h1 fun itv s2 h2 => ?_
  obtain ⟨it, fp, tn, J, H1, rfl, I1, T, st1, f1, ⟨ps, hP, ht⟩, plan⟩ := h2
  have hPs : s2.heap.get? P = some { cls := .none, data := .fields ps } := I1.hok P _ hP
  have cd : PySem.W.CodeHd s2.heap c P := TB.code.keeps fun b u e => I1.bk b u e
  have fpP : ∀ b ∈ fp, b ≠ P := fun b hb z => by
    have := (f1 b hb).1
    rw [z, hP] at this
    cases this
  have cont : ∀ (code : Value) (h3 : Heap) (tk : Nat) (ps' : Array Value), Heap.ExtBut P s2.heap h3 → h3.get? P = some { cls := .none, data := .fields ps' } → (∃ more, ps' = ps ++ more) → TriplesOk ps'.toList →
      wpAny (model X.prog X.w) X.A (builtinsFor X.env.globals X.env.builtins) (fun bi s₄ => ∀ h', h'.Ns s₄.heap.objs.size (fun y => if y = (".0" : Str) then some (.ref it) else none) → Heap.SameBut s₄.heap.objs.size (s₄.heap.push { cls := .type "frame", data := .dict #[] }) h' →
          Q' (.ref h'.objs.size) { s₄ with
            gens := s₄.gens.push (.fresh (.compStart (.GeneratorExp elt [⟨t0, iter, [], 0⟩, ⟨t1, i1, [], 0⟩] scope gpos) 0 (.ref it) .none (genEnv scope (cloFrom X.env.cells scope.names []) s₄.heap.objs.size code bi X.env))),
            toks := s₄.toks + 1 + 1 + 1,
            heap := h'.push { cls := .type "generator", data := .fields #[.int s₄.gens.size 0, .str "<genexpr>" (s₄.toks + 1), .str (X.env.qual ++ "<genexpr>") (s₄.toks + 1 + 1)] } }) X.xe { s2 with heap := h3, toks := tk } := by
    intro code h3 tk ps' hx hP3 hmore ht3
    obtain ⟨bm, ob, e1, e2, e3, e4, e5, e6, e7, e8⟩ := TB.bm
    refine wpAny_builtinsFor (m := X.mg) (by rw [I1.ok.glob]; exact (I1.mod.glob.keeps I1.bk).extBut hx TB.gP) e1 e2 (hx _ _ e4 (I1.bk _ _ e5)) e6 e7 e8 ?_
    intro h' hns hsb
    obtain ⟨more, rfl⟩ := hmore
    have I3 : Inv X pins σ (upd H1 P (.tbl (ps ++ more))) { s2 with heap := h3, toks := tk } :=
      GxR.inv_tab (more := more) (h' := h3) (g' := s2.gens) (d' := s2.drawn) (t' := tk) I1 hP (fun b u hb e => hx b u hb e) hP3 I1.bare
    have H2 : GxR.Tabbed P H1 (upd H1 P (.tbl (ps ++ more))) := ⟨⟨ps ++ more, upd_same, ht3⟩, fun b hb => upd_ne hb⟩
    obtain ⟨n0, n, Pn2, tt, w0, pOut, pFin⟩ := plan _ H2
    have f3 : ∀ b ∈ fp, FpOk X pins (upd H1 P (.tbl (ps ++ more))) b := fun b hb => ⟨by rw [upd_ne (fpP b hb)]; exact (f1 b hb).1, (f1 b hb).2⟩
    have st3 : tn 0 h3 := T.keep _ _ _ st1 fun b hb o e => hx b o (fpP b hb) e
    have lt3 : ∀ b ∈ fp, b < h3.objs.size := fun b hb => by
      obtain ⟨o, e, _⟩ := T.obj _ _ st3 b hb
      exact Heap.lt_size e
    have hsz : h'.objs.size = h3.objs.size + 1 := by rw [hsb.1, Heap.size_push]
    have kp' : ∀ b o, h3.get? b = some o → h'.get? b = some o := fun b o e => hsb.extBut b o (Nat.ne_of_lt (Heap.lt_size e)) (Heap.get?_push_of_some _ e)
    have key : ∀ (o : Obj) (nm qn : Value), o.cls = .type "generator" → o.data = .fields #[.int s2.gens.size 0, nm, qn] → o.slots = #[] → (h'.push o).get? h'.objs.size = some o →
        Q' (.ref h'.objs.size) { s2 with
            gens := s2.gens.push (.fresh (.compStart (.GeneratorExp elt [⟨t0, iter, [], 0⟩, ⟨t1, i1, [], 0⟩] scope gpos) 0 (.ref it) .none (gE X scope h3.objs.size code))),
            toks := tk + 1 + 1 + 1, heap := h'.push o } := by
      intro o nm qn hc hd hsl hget
      have kp5 : ∀ b u, h3.get? b = some u → (h'.push o).get? b = some u := fun b u e => Heap.get?_push_of_some _ (kp' b u e)
      have bare5 : AllBare (s2.gens.push (.fresh (.compStart (.GeneratorExp elt [⟨t0, iter, [], 0⟩, ⟨t1, i1, [], 0⟩] scope gpos) 0 (.ref it) .none (gE X scope h3.objs.size code)))) := I1.bare.push rfl
      have Rm : Room k (gA X (gE X scope h3.objs.size code)) := ⟨hr.hd, by have := hr.dp; show X.A.depth + 1 + 3 * k + 5 < _; omega, by have := hr.un; show X.A.units + 1 + 1 + 3 + 16 * k + 200 < _; omega⟩
      have J0 := gx_startL (A := gA X (gE X scope h3.objs.size code)) (code := code) (fp := fp) (itv := .ref it) (h1 := h'.push o) (tk := tk + 1 + 1 + 1) (pin := [(h'.objs.size, o)])
        (gens' := s2.gens.push (.fresh (.compStart (.GeneratorExp elt [⟨t0, iter, [], 0⟩, ⟨t1, i1, [], 0⟩] scope gpos) 0 (.ref it) .none (gE X scope h3.objs.size code)))) (own := own) (N := X.N) I3 G
        (Around.frames_deeper I.ok.frames) hr.hd f3 lt3 (hns.push _) kp5 bare5 (fun q hq => by
          rw [List.mem_singleton.mp hq]
          refine ⟨hget, ?_, fun v z => ?_⟩
          · show h3.objs.size < h'.objs.size
            omega
          · rw [hd] at z; cases z)
      have st5 : tn 0 (h'.push o) := T.keep _ _ _ st3 fun b hb u e => kp5 b u e
      have n5 : ∀ d ∈ fp, upd H1 P (.tbl (ps ++ more)) d = none := fun d hd => (f3 d hd).1
      have back : ∀ {σ' : L2.St} {H' : Hp} {s' : Shared}, Inv (gcx X (gA X (gE X scope h3.objs.size code)) { s2 with heap := h3, toks := tk } (upd H1 P (.tbl (ps ++ more))) (gE X scope h3.objs.size code) fp) [(h'.objs.size, o)] σ' H' s' → Inv X pins σ H' s' := fun {σ' H' s'} J =>
        I3.call' (ch := fp) J.os J.base J.hok J.bare fun b hb => ⟨(f3 b hb).2.2.2.1, (f3 b hb).2.1, (f3 b hb).2.2.2.2.1, (f3 b hb).2.2.2.2.2⟩
      have stat : ∀ {HH : Hp}, (∀ d ∈ fp, HH d = none) → ∀ d ∈ fp, FpOk (gcx X (gA X (gE X scope h3.objs.size code)) { s2 with heap := h3, toks := tk } (upd H1 P (.tbl (ps ++ more))) (gE X scope h3.objs.size code) fp) [(h'.objs.size, o)] HH d := fun {HH} hn d hd => by
        refine ⟨hn d hd, Nat.ne_of_lt (lt3 d hd), fun hm => ?_, .inl hd, fun y cc e => (f3 d hd).2.2.2.2.1 y cc (clo_sub has e), fun q hq => ?_⟩
        · have hm' : d ∈ frs X.stack := hm
          rcases List.mem_cons.mp (I3.stkSub d hm') with z | z
          · exact (f3 d hd).2.1 z
          · exact (f3 d hd).2.2.1 z
        · have hq' : q ∈ [(h'.objs.size, o)] := by
            rcases List.mem_append.mp hq with z | z
            · exact absurd (show q ∈ ([] : List (Addr × Obj)) from z) (by simp)
            · exact z
          rw [List.mem_singleton.mp hq']
          show h'.objs.size ≠ d
          exact Nat.ne_of_gt (by rw [hsz]; exact Nat.lt_succ_of_lt (lt3 d hd))
      have gsz : s2.gens.size < (s2.gens.push (GenState.fresh (.compStart (.GeneratorExp elt [⟨t0, iter, [], 0⟩, ⟨t1, i1, [], 0⟩] scope gpos) 0 (.ref it) .none (gE X scope h3.objs.size code)))).size := by
        rw [Array.size_push]; exact Nat.lt_succ_self _
      refine hQ (gcx X (gA X (gE X scope h3.objs.size code)) { s2 with heap := h3, toks := tk } (upd H1 P (.tbl (ps ++ more))) (gE X scope h3.objs.size code) fp) fp tn h'.objs.size o n s2.gens.size Pn2.flat nm qn _ _ _ _ rfl rfl hc hd hsl J0 (Array.getElem?_push_size ..) ⟨rfl, ?_⟩ (fun i σ' H' s' J q => ⟨H', back J, pOut σ' H' q⟩) (fun σ' H' s' J q => ⟨H', back J, pFin H' q⟩)
      have bt := both (Z := gcx X (gA X (gE X scope h3.objs.size code)) { s2 with heap := h3, toks := tk } (upd H1 P (.tbl (ps ++ more))) (gE X scope h3.objs.size code) fp) (i0 := iter) (scope := scope) (pos := gpos) (n := n) (g := s2.gens.size) (A := X.A.in1.in1)
        T (hgt _ _ _ _ _) (hw1 _ _ _ _ _ Rm) (hg1 _ _ _ _ _) (hel _ _ _ _ _ Rm) (fun _ _ z => z) rfl G.co tt (hs1 _) rfl (fun _ _ _ _ _ => rfl) stat n
      refine begin2 (Z := gcx X (gA X (gE X scope h3.objs.size code)) { s2 with heap := h3, toks := tk } (upd H1 P (.tbl (ps ++ more))) (gE X scope h3.objs.size code) fp) T rfl (bt.1 0 (Nat.zero_le _)) _ _ _ _ (inv_gens J0 (bare_set bare5 rfl)) st5 n5 ?_ w0 (Nat.le_refl _)
      rw [GenW.setGen_size]
      exact gsz
    exact key _ _ _ rfl rfl rfl (Heap.get?_push_size _ rfl)
  refine ⟨I1.nolimit, ?_⟩
  cases hf : codeAmong gpos ps.toList with
  | none =>
    refine wpAny_genexprCodeX hcode (cd.code hPs ht) (cd.tab hPs) hf fun c' h' tk hx hge hlt hco' _ htab' _ => ?_
    obtain ⟨o1, vs, f1, tf, fl, tg, inF, tx, tt, op, _, _, _, _, _, _, _, _, _, htr, _⟩ := hco'
    exact cont _ h' tk _ hx htab'.2 ⟨_, rfl⟩ htr
  | some cv =>
    refine wpAny_genexprCode_hit hcode (cd.code hPs ht) hf ?_
    exact cont cv s2.heap s2.toks ps (Heap.ExtBut.refl _ _) hPs ⟨#[], by simp⟩ ht

/-- all(elt for x in iter) -/
theorem pe_all2 (hr : Room (k + 1) X.A) (hga : Gl X "all") (hma : X.mg "all" = none) (TB : GxR.TabB X.base X.mg c P) (hcode : X.env.code = .ref c) (G : GScL X.N X.env.scope scope own) (hi : PI X t0 iter wi)
    (hgt : ∀ (s : Shared) (H : Hp) (C : Addr) (code : Value) (fp : List Addr), PG (gcx X (gA X (gE X scope C code)) s H (gE X scope C code) fp) t0 g)
    (hw1 : ∀ (s : Shared) (H : Hp) (C : Addr) (code : Value) (fp : List Addr), Room k (gA X (gE X scope C code)) → PI (gcx X (gA X (gE X scope C code)) s H (gE X scope C code) fp) t1 i1 w1)
    (hg1 : ∀ (s : Shared) (H : Hp) (C : Addr) (code : Value) (fp : List Addr), PG (gcx X (gA X (gE X scope C code)) s H (gE X scope C code) fp) t1 g1)
    (hel : ∀ (s : Shared) (H : Hp) (C : Addr) (code : Value) (fp : List Addr), Room k (gA X (gE X scope C code)) → PE (gcx X (gA X (gE X scope C code)) s H (gE X scope C code) fp) elt te)
    (hs : ∀ v, genFold iter X.env v = pure v) (hs1 : ∀ env v, foldedSetIterable i1 env v = pure v)
    (he : starEach [.GeneratorExp elt [⟨t0, iter, [], 0⟩, ⟨t1, i1, [], 0⟩] scope gpos] X.env = (false, eval (.GeneratorExp elt [⟨t0, iter, [], 0⟩, ⟨t1, i1, [], 0⟩] scope gpos) X.env) :: starEach [] X.env := by rfl) :
    PE X (.Call (.Name "all" p) [.GeneratorExp elt [⟨t0, iter, [], 0⟩, ⟨t1, i1, [], 0⟩] scope gpos] [] pos) (tAllG2 P own wi g w1 g1 te true) := by
  refine ⟨fun pins s σ H Q I h => ?_⟩
  refine wpAny_Call_Name_kw (ld_blt I hga hma boot_all ?_)
  refine PyProof.Rows.callWith_builtin1 ?_ he (by rfl)
  rw [he]
  refine Calls.spliced_cons (gen_made2 hr TB hcode G hi hgt hw1 hg1 hel hs hs1 I h fun Z fp tn a o n gg Pn nm qn s5 gs σ5 H5 e1 e2 hc hd hsl J hgs hgo oOut oFin => ?_)
  refine Calls.spliced_nil ?_
  refine call_function_tree F.kind_all F.plain_all F.entry_all (F.args_all1 _) ?_
  unfold Builtin.«all»
  refine wpAny_bind (m := oneArg "all" _) (wpAny_pure ?_)
  refine wpAny_bind (wpAny_pyIter_gen (isGen_pin hc hd hsl J) ?_)
  refine wpAny_pure ⟨plainId_quiet F.plain_all_loop _, ?_⟩
  rw [← e1, ← e2]
  refine all_walk hc hd hsl hr.hd (by have := hr.dp; show X.A.depth < _; omega) (fun i σ' H' s' J' q => ?_) (fun σ' H' s' J' q => ?_) n s5 gs σ5 H5 J hgs hgo
  · obtain ⟨H'', I', q'⟩ := oOut i σ' H' s' J' q
    exact ⟨.bl false, H'', I', rfl, q'⟩
  · obtain ⟨H'', I', q'⟩ := oFin σ' H' s' J' q
    exact ⟨.bl true, H'', I', rfl, q'⟩
/-- any(elt for x in iter) -/
theorem pe_any2 (hr : Room (k + 1) X.A) (hga : Gl X "any") (hma : X.mg "any" = none) (TB : GxR.TabB X.base X.mg c P) (hcode : X.env.code = .ref c) (G : GScL X.N X.env.scope scope own) (hi : PI X t0 iter wi)
    (hgt : ∀ (s : Shared) (H : Hp) (C : Addr) (code : Value) (fp : List Addr), PG (gcx X (gA X (gE X scope C code)) s H (gE X scope C code) fp) t0 g)
    (hw1 : ∀ (s : Shared) (H : Hp) (C : Addr) (code : Value) (fp : List Addr), Room k (gA X (gE X scope C code)) → PI (gcx X (gA X (gE X scope C code)) s H (gE X scope C code) fp) t1 i1 w1)
    (hg1 : ∀ (s : Shared) (H : Hp) (C : Addr) (code : Value) (fp : List Addr), PG (gcx X (gA X (gE X scope C code)) s H (gE X scope C code) fp) t1 g1)
    (hel : ∀ (s : Shared) (H : Hp) (C : Addr) (code : Value) (fp : List Addr), Room k (gA X (gE X scope C code)) → PE (gcx X (gA X (gE X scope C code)) s H (gE X scope C code) fp) elt te)
    (hs : ∀ v, genFold iter X.env v = pure v) (hs1 : ∀ env v, foldedSetIterable i1 env v = pure v)
    (he : starEach [.GeneratorExp elt [⟨t0, iter, [], 0⟩, ⟨t1, i1, [], 0⟩] scope gpos] X.env = (false, eval (.GeneratorExp elt [⟨t0, iter, [], 0⟩, ⟨t1, i1, [], 0⟩] scope gpos) X.env) :: starEach [] X.env := by rfl) :
    PE X (.Call (.Name "any" p) [.GeneratorExp elt [⟨t0, iter, [], 0⟩, ⟨t1, i1, [], 0⟩] scope gpos] [] pos) (tAllG2 P own wi g w1 g1 te false) := by
  refine ⟨fun pins s σ H Q I h => ?_⟩
  refine wpAny_Call_Name_kw (ld_blt I hga hma boot_any ?_)
  refine PyProof.Rows.callWith_builtin1 ?_ he (by rfl)
  rw [he]
  refine Calls.spliced_cons (gen_made2 hr TB hcode G hi hgt hw1 hg1 hel hs hs1 I h fun Z fp tn a o n gg Pn nm qn s5 gs σ5 H5 e1 e2 hc hd hsl J hgs hgo oOut oFin => ?_)
  refine Calls.spliced_nil ?_
  refine call_function_tree F.kind_any F.plain_any F.entry_any (F.args_any1 _) ?_
  unfold Builtin.«any»
  refine wpAny_bind (m := oneArg "any" _) (wpAny_pure ?_)
  refine wpAny_bind (wpAny_pyIter_gen (isGen_pin hc hd hsl J) ?_)
  refine wpAny_pure ⟨plainId_quiet F.plain_any_loop _, ?_⟩
  rw [← e1, ← e2]
  refine any_walk hc hd hsl hr.hd (by have := hr.dp; show X.A.depth < _; omega) (fun i σ' H' s' J' q => ?_) (fun σ' H' s' J' q => ?_) n s5 gs σ5 H5 J hgs hgo
  · obtain ⟨H'', I', q'⟩ := oOut i σ' H' s' J' q
    exact ⟨.bl true, H'', I', rfl, q'⟩
  · obtain ⟨H'', I', q'⟩ := oFin σ' H' s' J' q
    exact ⟨.bl false, H'', I', rfl, q'⟩
end
end Gx

namespace Tb
open PySem PySem.Spec PyProof.Rows L2
/-! ### sorted(a list of lists of whole numbers) -/
def encL (ns : List Int) : PyData := .list (ns.map PyData.int)
noncomputable def srt (l : List (List Int)) : List (List Int) := l.mergeSort (PySem.W.dataLe false encL)
def rSortLL (K : PySem.W.Frag) : List V → Hp → VK → Prop := fun vs H Q => ∃ (a : Addr) (bs : List (Addr × List Int)), vs = [.ref a] ∧ SqL K H a (bs.map fun q => V.ref q.1) ∧ (∀ q ∈ bs, H q.1 = some (.lst (q.2.map V.int))) ∧
  ∀ p (bs' : List (Addr × List Int)), bs'.map Prod.snd = srt (bs.map Prod.snd) → bs'.Perm bs → H p = none → Q (.ref p) (upd H p (.lst (bs'.map fun q => V.ref q.1)))
theorem alike_l (a b : List Int) : PySem.W.alike (encL a) (encL b) = true := by
  show PySem.W.alike (.list _) (.list _) = true
  simpa [PySem.W.alike] using PySem.W.alike_ints a b
theorem back_refs : ∀ (bs : List (Addr × List Int)) (us : List Value), Vals (bs.map fun q => V.ref q.1) us → us = bs.map fun q => Value.ref q.1
  | [], _, .nil => rfl
  | b :: r, _, .cons h t => by
    have h' : _ = Value.ref b.1 := h
    rw [h', back_refs r _ t]; rfl
theorem to_refs : ∀ bs : List (Addr × List Int), Vals (bs.map fun q => V.ref q.1) (bs.map fun q => Value.ref q.1)
  | [] => .nil
  | b :: r => .cons rfl (to_refs r)
theorem each_refs : ∀ bs : List (Addr × List Int), PySem.W.EachIs (fun v (q : Addr × List Int) => v = Value.ref q.1) (bs.map fun q => Value.ref q.1) bs
  | [] => .nil
  | b :: r => .cons rfl (each_refs r)
theorem of_each : ∀ {vs : List Value} {bs : List (Addr × List Int)}, PySem.W.EachIs (fun v (q : Addr × List Int) => v = Value.ref q.1) vs bs → vs = bs.map fun q => Value.ref q.1
  | _, _, .nil => rfl
  | _, _, .cons h t => by rw [h, of_each t]; rfl
theorem each_imp {α β : Type} {R S : α → β → Prop} : ∀ {as : List α} {bs : List β}, PySem.W.EachIs R as bs → (∀ a b, b ∈ bs → R a b → S a b) → PySem.W.EachIs S as bs
  | _, _, .nil, _ => .nil
  | _, _, .cons h t, f => .cons (f _ _ List.mem_cons_self h) (each_imp t fun a b hb => f a b (List.mem_cons_of_mem _ hb))
theorem reads_ints {h : Heap} : ∀ (ns : List Int) (us : List Value), Vals (ns.map V.int) us → ReadsAll h us (ns.map PyData.int) []
  | [], _, .nil => .nil
  | n :: r, _, .cons hh t => by
    obtain ⟨tk, rfl⟩ := hh
    exact .cons (Reads.int n tk) (reads_ints r _ t)
section
variable {X : Cx}
theorem cr_sortLL (hu : X.A.units + 64 < cLine) : CallR X (.builtin "sorted") (rSortLL X.K) := by
  intro pins s σ H vs us Q I r h
  obtain ⟨a, bs, rfl, hs, hb, q⟩ := h
  obtain ⟨its, rv, hl, hz⟩ := I.list hs
  obtain ⟨u, rfl, ru⟩ := r.one
  obtain rfl : u = Value.ref a := ru
  obtain rfl := back_refs bs its rv
  have rd : ∀ b ∈ bs, ∃ as, Reads s.heap (.ref b.1) (encL b.2) as := fun b hm => by
    obtain ⟨z, i2, n, r2, ho⟩ := I.hok _ _ (hb b hm)
    exact ⟨_, Reads.list ho rfl rfl (reads_ints _ _ r2)⟩
  have dep : ∀ q : Addr × List Int, (encL q.2).depth = 1 := fun q => by
    show PyData.depthAll _ + 1 = 1
    rw [PySem.W.depth_ints]
  refine PySem.W.sorted_data (enc := fun q : Addr × List Int => encL q.2) hl.isList (each_refs bs) (each_imp (each_refs bs) fun v b hm e => by rw [e]; exact rd b hm) (PySem.W.AllAlike.of fun b b' => alike_l _ _)
    (PySem.W.Sortable.others fun b => ⟨(fun z => by cases z), fun xs z => by cases z⟩) (by rw [← List.length_map (f := fun q : Addr × List Int => V.ref q.1)]; exact hz) (fun b _ => by rw [dep]; omega) fun out ho eo => ?_
  have eout := of_each eo
  generalize hbs : bs.mergeSort (PySem.W.dataLe false fun q : Addr × List Int => encL q.2) = bs' at eout eo
  have pm : bs'.Perm bs := by rw [← hbs]; exact List.mergeSort_perm _ _
  have e2 : bs'.map Prod.snd = srt (bs.map Prod.snd) := by
    rw [← hbs]
    unfold srt
    exact List.map_mergeSort fun a _ b _ => rfl
  subst eout
  obtain ⟨c, hc⟩ := sortedAll_at s.heap (bs.map fun q => Value.ref q.1) (bs'.map fun q => Value.ref q.1).toArray
  refine ⟨.ref (s.heap.objs.size + 1), upd H (s.heap.objs.size + 1) (.lst (bs'.map fun q => V.ref q.1)), I.laid (t' := s.toks) (fun b o e => sortedAll_old e) (Nat.le_succ _) ⟨?_, _, c, to_refs bs', hc⟩, rfl, q _ bs' e2 pm (I.hok.fresh (Nat.le_succ _))⟩
  rw [List.length_map, pm.length_eq, ← List.length_map (f := fun q : Addr × List Int => V.ref q.1)]
  exact hz
end
end Tb

namespace Tb
open PySem PySem.Spec PyProof.Rows L2
def top (i : Nat) : Stmt := PySem.Challenge.pw_partsmet_k31_whole_parts_and_lists.main.body.getD i (.Pass ⟨0, 0, 0, 0⟩)
abbrev s_is_integer : Stmt := top 1
abbrev s_is_count : Stmt := top 2
abbrev s_is_count_below : Stmt := top 3
abbrev s_is_list : Stmt := top 4
abbrev s_is_table : Stmt := top 11
abbrev s_table_parts : Stmt := top 12
abbrev s_needed : Stmt := top 13
abbrev s_all_lists : Stmt := top 14
abbrev s_has_single_lists : Stmt := top 15
abbrev s_two_lists : Stmt := top 16
abbrev s_check_table : Stmt := top 17
abbrev s_check_number : Stmt := top 18
abbrev s_has_table_form : Stmt := top 19
abbrev s_is_row : Stmt := top 20
abbrev s_keeps_join_rules : Stmt := top 21
abbrev s_lies_within : Stmt := top 22
abbrev s_states_within : Stmt := top 23
abbrev s_without : Stmt := top 24
abbrev s_joined_numbers : Stmt := top 25
abbrev s_joins_to : Stmt := top 26
abbrev s_is_part_in : Stmt := top 27
abbrev s_parts_in : Stmt := top 28
abbrev s_parts_below : Stmt := top 29
abbrev s_is_list_of : Stmt := top 30
abbrev s_lists_of : Stmt := top 31
abbrev s__law_pot : Stmt := top 33
abbrev s__law_draw : Stmt := top 34
abbrev s__law_closed : Stmt := top 35
abbrev s__law_lots : Stmt := top 36
abbrev s__law_rows : Stmt := top 37
abbrev s__law_below : Stmt := top 38
abbrev s__law_joined : Stmt := top 39
abbrev s__law_parts : Stmt := top 40
abbrev s__law_needed : Stmt := top 41
abbrev s__law_lists : Stmt := top 42
abbrev s__law_right : Stmt := top 43
abbrev s_law : Stmt := top 44
abbrev fnNames : List String := ["is_integer", "is_count", "is_count_below", "is_list", "is_table", "table_parts", "needed", "all_lists", "has_single_lists", "two_lists", "check_table", "check_number", "has_table_form", "is_row", "keeps_join_rules", "lies_within", "states_within", "without", "joined_numbers", "joins_to", "is_part_in", "parts_in", "parts_below", "is_list_of", "lists_of", "_law_pot", "_law_draw", "_law_closed", "_law_lots", "_law_rows", "_law_below", "_law_joined", "_law_parts", "_law_needed", "_law_lists", "_law_right", "law"]
abbrev blNames : List String := ["isinstance", "int", "bool", "list", "tuple", "len", "all", "any", "range", "abs", "sum", "max", "divmod", "sorted", "set", "repr", "enumerate", "ValueError"]
end Tb

namespace Tb
open PySem PySem.Spec PyProof.Rows L2
/-- what the module's names hold -/
structure Tx (mg : Str → Option Value) (f : String → Addr) : Prop where
  fn : ∀ x ∈ fnNames, mg (Str.ofString x) = some (.ref (f x))
  bl : ∀ x ∈ blNames, mg (Str.ofString x) = none
  most : ∃ t, mg "MOST_STATES" = some (.int 8 t)
section
variable {P : Program} {w : World} {K : PySem.W.Frag} {mg : Str → Option Value} {base : Heap} {f : String → Addr} {a : Addr} {fd g1 g2 g3 g4 : FuncData}

theorem pe_ty {X : Cx} {x : Str} {n : String} {pos : Pos} (hg : Gl X x) (hm : X.mg x = none) (hv : bootBuiltins x = some (.type n)) (hn : x ≠ "__name__" := by decide) (hdb : (x == ("__debug__" : Str)) = false := by decide) : PE X (.Name x pos) (tC (.ty n)) := pe_bltn (v := .ty n) hg hm hv rfl hn hdb

/-! ### is_integer, is_count, is_count_below, is_list -/
def spIs (K : PySem.W.Frag) (b : PyData → Bool) : Sp := fun vs H Q _ => ∃ x d, vs = [x] ∧ Rp K H x d ∧ ∀ H', Kp H H' → Q (.bl (b d)) H'
def spBel (K : PySem.W.Frag) (b : PyData → Int → Bool) : Sp := fun vs H Q _ => ∃ x d n, vs = [x, .int n] ∧ Rp K H x d ∧ ∀ H', Kp H H' → Q (.bl (b d n)) H'
def isC : PyData → Bool
  | .int i => decide (0 ≤ i)
  | _ => false
def isBel : PyData → Int → Bool
  | .int i, n => decide (0 ≤ i) && decide (i < n)
  | _, _ => false
theorem sc1 : FnScope ["value"] ["value"] (defScope s_is_integer) := ⟨rfl, rfl, rfl, by decide +kernel, rfl, by decide +kernel, by decide +kernel⟩
theorem sc2 : FnScope ["value"] ["value"] (defScope s_is_count) := ⟨rfl, rfl, rfl, by decide +kernel, rfl, by decide +kernel, by decide +kernel⟩
theorem sc3 : FnScope ["value", "bound"] ["value", "bound"] (defScope s_is_count_below) := ⟨rfl, rfl, rfl, by decide +kernel, rfl, by decide +kernel, by decide +kernel⟩
theorem sc4 : FnScope ["value"] ["value"] (defScope s_is_list) := ⟨rfl, rfl, rfl, by decide +kernel, rfl, by decide +kernel, by decide +kernel⟩
theorem bi_isi : bootBuiltins "isinstance" = some (.builtin "isinstance") := by decide +kernel
theorem bi_int : bootBuiltins "int" = some (.type "int") := by decide +kernel
theorem bi_bool : bootBuiltins "bool" = some (.type "bool") := by decide +kernel
theorem bi_list : bootBuiltins "list" = some (.type "list") := by decide +kernel
theorem bi_tuple : bootBuiltins "tuple" = some (.type "tuple") := by decide +kernel
theorem ok1 (T : Tx mg f) (F : Fun K "is_integer" "is_integer" s_is_integer a fd) : FnOk P w K mg base CX0 1 a fd ["value"] (spIs K isI) := by
  refine F.ok sc1 (fun vs H Q E h => ?_) (fun cdv A outer s H vs Q E hr h => ?_)
  · obtain ⟨x, d, rfl, _⟩ := h
    rfl
  obtain ⟨x, d, rfl, hd, q⟩ := h
  refine ⟨_, pss_one (ps_ret (pe_and (pe_callB call_isi rfl (T.bl "isinstance" (by decide)) bi_isi (pa_cons (pv 0) (pa_cons (pe_ty rfl (T.bl "int" (by decide)) bi_int) pa_nil)))
    (pe_one (pe_not (pe_callB call_isi rfl (T.bl "isinstance" (by decide)) bi_isi (pa_cons (pv 0) (pa_cons (pe_ty rfl (T.bl "bool" (by decide)) bi_bool) pa_nil))))))), ?_⟩
  refine ⟨_, rfl, x, .ty "int", _, _, _, rfl, .ty "int", tyX_of hd, kit_int d, _, rfl, ite2 (fun c => ?_) (fun c => ?_)⟩
  · refine ⟨_, rfl, x, .ty "bool", _, _, _, rfl, .ty "bool", tyX_of hd, kit_bool d, _, rfl, ?_⟩
    have e : isI d = !isB d := by cases d <;> first | rfl | cases c
    have := q H (Kp.refl H)
    rw [e] at this
    exact this
  · have e : isI d = false := by cases d <;> first | rfl | exact absurd rfl c
    have := q H (Kp.refl H)
    rw [e] at this
    exact this
theorem ok4 (T : Tx mg f) (F : Fun K "is_list" "is_list" s_is_list a fd) : FnOk P w K mg base CX0 1 a fd ["value"] (spIs K isSq) := by
  refine F.ok sc4 (fun vs H Q E h => ?_) (fun cdv A outer s H vs Q E hr h => ?_)
  · obtain ⟨x, d, rfl, _⟩ := h
    rfl
  obtain ⟨x, d, rfl, hd, q⟩ := h
  refine ⟨_, pss_one (ps_ret (pe_callB call_isiT rfl (T.bl "isinstance" (by decide)) bi_isi (pa_cons (pv 0) (pa_cons (pe_tup (pa_cons (pe_ty rfl (T.bl "list" (by decide)) bi_list) (pa_cons (pe_ty rfl (T.bl "tuple" (by decide)) bi_tuple) pa_nil))) pa_nil)))), ?_⟩
  refine ⟨_, rfl, (by show 2 ≤ sizeLine; decide), fun t ht => ?_⟩
  have k := Kp.new (o := .tup [.ty "list", .ty "tuple"]) ht
  exact ⟨x, t, _, _, _, _, rfl, upd_same, .cons (.ty _) (.cons (.ty _) .nil), tyX_of (hd.kp k), kit_seq d, q _ k⟩
theorem ok2 (T : Tx mg f) (F : Fun K "is_count" "is_count" s_is_count a fd) (G : FnOk P w K mg base CX0 1 (f "is_integer") g1 ["value"] (spIs K isI)) (B : Binds K g1 ["value"] []) (kp : PySem.W.keepIn K (.ref (f "is_integer")) = true) : FnOk P w K mg base CX0 2 a fd ["value"] (spIs K isC) := by
  refine F.ok sc2 (fun vs H Q E h => ?_) (fun cdv A outer s H vs Q E hr h => ?_)
  · obtain ⟨x, d, rfl, _⟩ := h
    rfl
  obtain ⟨x, d, rfl, hd, q⟩ := h
  refine ⟨_, pss_one (ps_ret (pe_and (pe_call G hr rfl (T.fn "is_integer" (by decide)) kp B .nil pass0 (pa_cons (pv 0) pa_nil)) (pe_one (pe_cmpR op_ge (pv 0) pe_int (nomark _))))), ?_⟩
  refine ⟨_, rfl, x, d, rfl, hd, fun H1 k1 => ⟨_, rfl, ite2 (fun c => ?_) (fun c => ?_)⟩⟩
  · cases d <;> first | cases c | skip
    cases hd
    exact ⟨_, rfl, _, _, rfl, rfl, q H1 k1⟩
  · have e : isC d = false := by cases d <;> first | rfl | exact absurd rfl c
    have := q H1 k1
    rw [e] at this
    exact this
theorem ok3 (T : Tx mg f) (F : Fun K "is_count_below" "is_count_below" s_is_count_below a fd) (G : FnOk P w K mg base CX0 2 (f "is_count") g1 ["value"] (spIs K isC)) (B : Binds K g1 ["value"] []) (kp : PySem.W.keepIn K (.ref (f "is_count")) = true) : FnOk P w K mg base CX0 3 a fd ["value", "bound"] (spBel K isBel) := by
  refine F.ok sc3 (fun vs H Q E h => ?_) (fun cdv A outer s H vs Q E hr h => ?_)
  · obtain ⟨x, d, n, rfl, _⟩ := h
    rfl
  obtain ⟨x, d, n, rfl, hd, q⟩ := h
  refine ⟨_, pss_one (ps_ret (pe_and (pe_call G hr rfl (T.fn "is_count" (by decide)) kp B .nil pass0 (pa_cons (pv 0) pa_nil)) (pe_one (pe_cmpR op_lt (pv 0) (pv 1) (nomark _))))), ?_⟩
  refine ⟨_, rfl, x, d, rfl, hd, fun H1 k1 => ⟨_, rfl, ite2 (fun c => ?_) (fun c => ?_)⟩⟩
  · cases d <;> first | cases c | skip
    rename_i i
    cases hd
    have e : isBel (.int i) n = decide (i < n) := by
      have c' : decide (0 ≤ i) = true := c
      show (decide (0 ≤ i) && decide (i < n)) = _
      rw [c', Bool.true_and]
    have := q H1 k1
    rw [e] at this
    exact ⟨_, rfl, _, rfl, _, _, rfl, rfl, this⟩
  · have e : isBel d n = false := by
      cases d <;> first | rfl | skip
      rename_i i
      have c' : decide (0 ≤ i) = false := Bool.eq_false_iff.mpr c
      show (decide (0 ≤ i) && decide (i < n)) = _
      rw [c', Bool.false_and]
    have := q H1 k1
    rw [e] at this
    exact this
end
end Tb

namespace Tb
open PySem PySem.Spec PyProof.Rows L2
/-- a def whose code object is told -/
structure FunC (K : PySem.W.Frag) (x qual : Str) (st : Stmt) (f : Addr) (fd : FuncData) (c : Addr) : Prop where
  ex : ∃ (oc : Value) (od : Option Addr) (kV doc pm : Value) (an : Option Addr) (ct : Value) (osl : Array (Option Value)),
    fd = PySem.W.fnOf x qual (defArgs st) (defBody st) (defScope st) .none kV doc pm an (.ref c) ct ∧ K.lookup f = some ⟨oc, od, .func fd, osl⟩ ∧ PySem.W.codeIn K (.ref c) qual = true
  kp : PySem.W.keepIn K (.ref f) = true
section
variable {P : Program} {w : World} {K : PySem.W.Frag} {mg : Str → Option Value} {base : Heap}
theorem FunC.ok {x qual : Str} {st : Stmt} {f c : Addr} {fd : FuncData} {N ps : List Str} {k : Nat} {sp : Sp} (F : FunC K x qual st f fd c) (S : FnScope N ps (defScope st)) (len : ∀ vs H Q E, sp vs H Q E → vs.length = ps.length)
    (hb : ∀ (A : Around) (outer : List Env) (s : Shared) (H : Hp) (vs : List V) (Q : VK) (E : XK), Room k (A.deeper (envOfC qual (defScope st) s.heap.objs.size f (.ref c))) → sp vs H Q E →
      ∃ t, PSs (cxOf CX0 P w K mg base N qual (defScope st) f (.ref c) A outer s H E).nox (defBody st) t ∧ t { nx := fun _ H' => Q .non H', rt := Q } (start N vs) H) : FnOk P w K mg base CX0 (k + 1) f fd ps sp := by
  obtain ⟨oc, od, kV, doc, pm, an, ct, osl, rfl, lk, hcd⟩ := F.ex
  refine fn_of lk hcd S len fun A outer s H vs Q E hr h => ?_
  obtain ⟨t, h1, h2⟩ := hb A outer s H vs Q E hr h
  exact ⟨t, h1.nox, h2⟩
theorem FunC.fn {x qual : Str} {st : Stmt} {f c : Addr} {fd : FuncData} (F : FunC K x qual st f fd c) : Fun K x qual st f fd := by
  obtain ⟨oc, od, kV, doc, pm, an, ct, osl, h1, lk, hcd⟩ := F.ex
  exact ⟨⟨oc, od, kV, doc, pm, an, .ref c, ct, osl, h1, lk, hcd⟩, F.kp⟩
end
def gscpC (N : List Str) (sc scope : Scope) (x : Str) (ix : Nat) : Bool :=
  decide (scope.kind = .function) && !scope.isCoroutine && decide (scope.names.lookup (".0" : Str) = some NameKind.local) && decide (scope.names.lookup x = some .local) && decide (N[ix]? = some x) && !(N.contains (".0" : Str)) && decide N.Nodup &&
    scope.names.all fun p => !decide (p.2 = .cell) && (!decide (p.2 = .local) || p.1 == (".0" : Str) || p.1 == x) && (!decide (p.2 = .free) || decide (sc.names.lookup p.1 = some .cell) || decide (sc.names.lookup p.1 = some .free))
theorem gscp_by {N : List Str} {sc scope : Scope} {x : Str} {ix : Nat} (h : gscpC N sc scope x ix = true) : Gx.GScp N sc scope x ix := by
  unfold gscpC at h
  simp only [Bool.and_eq_true, decide_eq_true_eq, Bool.not_eq_true', List.all_eq_true, Bool.or_eq_true, beq_iff_eq, decide_eq_false_iff_not] at h
  obtain ⟨⟨⟨⟨⟨⟨⟨h1, h2⟩, h3⟩, h4⟩, h5⟩, h6⟩, h7⟩, h8⟩ := h
  refine ⟨h1, h2, fun y hy => (h8 y hy).1.1, h3, fun y hy => ?_, h4, fun y hy e => ?_, h7, h5, fun hm => ?_⟩
  · rcases (h8 _ (PySem.mem_of_lookup hy)).1.2 with (z | z) | z
    · exact absurd rfl z
    · exact .inl z
    · exact .inr z
  · rcases (h8 y hy).2 with (z | z) | z
    · exact absurd e z
    · exact .inl z
    · exact .inr z
  · rw [List.contains_iff_mem.mpr hm] at h6
    cases h6
section
variable {P : Program} {w : World} {K : PySem.W.Frag} {mg : Str → Option Value} {base : Heap} {f : String → Addr} {a c Pt : Addr} {fd g1 g2 g3 g4 : FuncData}
/-! ### is_row -/
def rowOk (d : PyData) (n : Int) : Bool := isSq d && decide (((kids d).length : Int) = n) && (kids d).all (isBel · n)
def spRow (K : PySem.W.Frag) (Pt : Addr) : Sp := fun vs H Q _ => ∃ x d n, vs = [x, .int n] ∧ Rp K H x d ∧ GxR.TabG H Pt ∧ ∀ H', Kp H H' → Q (.bl (rowOk d n)) H'
theorem sc9 : FnScope ["value", "many", "number"] ["value", "many"] (defScope s_is_row) := ⟨rfl, rfl, rfl, by decide +kernel, rfl, by decide +kernel, by decide +kernel⟩
theorem all_take {α : Type} (p : α → Bool) (l : List α) (i : Nat) (x : α) (h : l[i]? = some x) : (l.take (i + 1)).all p = ((l.take i).all p && p x) := by
  rw [List.take_add_one, h, List.all_append]
  simp
theorem all_false {α : Type} (p : α → Bool) (l : List α) (i : Nat) (x : α) (h : l[i]? = some x) (hp : p x = false) : l.all p = false := by
  cases q : l.all p with
  | false => rfl
  | true =>
    have := List.all_eq_true.mp q x (List.mem_of_getElem? h)
    rw [hp] at this; cases this
theorem ok9 (T : Tx mg f) (F : FunC K "is_row" "is_row" s_is_row a fd c) (TB : GxR.TabB base mg c Pt) (G4 : FnOk P w K mg base CX0 1 (f "is_list") g1 ["value"] (spIs K isSq)) (B4 : Binds K g1 ["value"] []) (kp4 : PySem.W.keepIn K (.ref (f "is_list")) = true)
    (G3 : FnOk P w K mg base CX0 3 (f "is_count_below") g2 ["value", "bound"] (spBel K isBel)) (B3 : Binds K g2 ["value", "bound"] []) (kp3 : PySem.W.keepIn K (.ref (f "is_count_below")) = true) :
    FnOk P w K mg base CX0 5 a fd ["value", "many"] (spRow K Pt) := by
  refine F.ok sc9 (fun vs H Q E h => ?_) (fun A outer s H vs Q E hr h => ?_)
  · obtain ⟨x, d, n, rfl, _⟩ := h
    rfl
  obtain ⟨x, d, n, rfl, hd, hP, q⟩ := h
  refine ⟨_, pss_cons (ps_if (PW.pt (pw_or (pt_not (pt_val (pe_call G4 (hr.mono (by decide)) rfl (T.fn "is_list" (by decide)) kp4 B4 .nil pass0 (pa_cons (pv 0) pa_nil))))
      (pw_or1 (pt_cmpR op_ne (pe_callB call_len_seq rfl (T.bl "len" (by decide)) PySem.boot_len (pa_cons (pv 0) pa_nil)) (pv 1) (nomark _))))) (pss_one (ps_ret pe_bl)) pss_nil)
    (pss_one (ps_ret (Gx.pe_all (k := 3) (ix := 2) hr rfl (T.bl "all" (by decide)) TB rfl (gscp_by (by change gscpC ["value", "many", "number"] (defScope s_is_row) _ _ _ = true; decide +kernel)) (pi_sq (pv 0)) (fun _ _ _ _ _ => pg_name (i := 2) sc9.nd rfl (Or.inl rfl))
      (fun _ _ _ _ _ hr' => pe_call G3 hr' rfl (T.fn "is_count_below" (by decide)) kp3 B3 .nil pass0 (pa_cons (pv 2) (pa_cons (pv 1) pa_nil))) (fun _ => rfl)))), ?_⟩
  refine ⟨_, rfl, x, d, rfl, hd, fun H1 k1 => ⟨_, rfl, ?_⟩⟩
  have hd1 := hd.kp k1
  refine ite2 (fun c1 => ite2 (fun _ => ?_) (fun c => absurd rfl c)) (fun c1 => ?_)
  · have e : rowOk d n = false := by
      have : isSq d = false := by simpa using c1
      unfold rowOk
      rw [this]; rfl
    have := q H1 k1
    rw [e] at this
    exact this
  have hs : isSq d = true := by simpa using c1
  obtain ⟨p, xs, rfl, sq, rl⟩ := hd1.sq hs
  have ln : xs.length = (kids d).length := rl.length
  refine ⟨_, rfl, p, xs, rfl, sq, _, rfl, rfl, _, rfl, ite2 (fun c2 => ?_) (fun c2 => ?_)⟩
  · have e : rowOk d n = false := by
      have : ¬ ((xs.length : Int) = n) := by simpa using c2
      unfold rowOk
      rw [← ln, decide_eq_false this, hs]; rfl
    have := q H1 k1
    rw [e] at this
    exact this
  have hn : (xs.length : Int) = n := by simpa using c2
  refine ⟨_, rfl, p, xs, rfl, ?_⟩
  refine rd_all (fun i H' => Kp H1 H' ∧ ((kids d).take i).all (isBel · n) = true) sq (k1.tab _ hP) (fun H2 t => ⟨Kp.tabbed (k1.tab _ hP) t, rfl⟩) (fun i H' _ v => v.1) (fun i y H' hy v => ?_) (fun H' v => ?_)
  · obtain ⟨dy, hdy, ry⟩ := (rl.kp v.1).get hy
    refine ⟨y, rfl, .int n, rfl, y, dy, n, rfl, ry, fun H2 k2 => ⟨_, rfl, ite2 (fun c3 => ?_) (fun c3 => ?_)⟩⟩
    · refine ⟨v.1.trans k2, ?_⟩
      rw [all_take _ _ _ _ hdy, v.2, c3]; rfl
    · have e : rowOk d n = false := by
        unfold rowOk
        rw [all_false _ _ _ _ hdy (Bool.eq_false_iff.mpr c3), Bool.and_false]
      have := q H2 (k1.trans (v.1.trans k2))
      rw [e] at this
      exact this
  · have e : rowOk d n = true := by
      unfold rowOk
      have := v.2
      rw [ln, List.take_length] at this
      rw [this, hs, ← ln, decide_eq_true hn]; rfl
    have := q H' (k1.trans v.1)
    rw [e] at this
    exact this
end
end Tb

namespace Tb
open PySem PySem.Spec PyProof.Rows L2
/-! ### ranges kept -/
theorem cr_range1 {X : Cx} : CallR X (.type "range") (fun vs H Q => ∃ j, vs = [V.int j] ∧ ∀ p, H p = none → Q (.ref p) (upd H p (.rng 0 j))) := by
  intro pins s σ H vs us Q I r h
  obtain ⟨j, rfl, q⟩ := h
  obtain ⟨u, rfl, t, rfl⟩ := r.one
  refine call_range_1 ⟨.ref s.heap.objs.size, upd H s.heap.objs.size (.rng 0 j), I.laid (t' := s.toks + 1 + 1) (fun b o e => Heap.get?_push_of_some _ e) (Nat.le_refl _) ?_, rfl, q _ (I.hok.fresh (Nat.le_refl _))⟩
  exact ⟨_, _, _, Heap.get?_push_size _ rfl⟩
def iRo (tl : TE) : TI := fun σ H R => tl σ H fun x H1 => ∃ a lo hi, x = .ref a ∧ H1 a = some (.rng lo hi) ∧ (-(2 ^ 62) ≤ lo ∧ lo < 2 ^ 62 ∧ -(2 ^ 62) ≤ hi ∧ hi < 2 ^ 62) ∧ R (Itr lo (hi - lo).toNat) H1
theorem pi_ro {X : Cx} {tg l : Expr} {tl : TE} (hl : PE X l tl) : PI X tg l (iRo tl) := by
  refine ⟨fun pins s σ H R I h => ?_⟩
  refine thn (hl.run pins s σ H _ I h) fun u s1 h1 => ?_
  obtain ⟨x, H1, I1, r1, a, lo, hi, rfl, hr, ⟨b1, b2, b3, b4⟩, q⟩ := h1
  cases r1
  obtain ⟨t, u, v, ho⟩ := I1.hok _ _ hr
  refine wpAny_pyIter_range (show IsRange s1.heap a lo hi 1 t u v from ho) (small_one b1 b2 b3 b4) ?_
  refine ⟨s1.heap.objs.size, [s1.heap.objs.size], _, _, H1, rfl, I1.kept (t' := s1.toks) fun b o e => Heap.get?_push_of_some _ e, turn_range _ lo (hi - lo).toNat, ?_, fun b hb => ?_, q⟩
  · have e1 : lo + ((0 : Nat) : Int) * 1 = lo := by simp
    have e2 : (((hi - lo).toNat : Nat) : Int) - ((0 : Nat) : Int) = Builtin.Range.rangeSize lo hi 1 := by
      rw [rangeSize_one]
      split <;> omega
    show IsRangeIter _ _ (lo + ((0 : Nat) : Int) * 1) ((((hi - lo).toNat : Nat) : Int) - ((0 : Nat) : Int)) 1
    rw [e1, e2]
    exact Heap.get?_push_size _ rfl
  · rw [List.mem_singleton.mp hb]
    exact I1.fpOk (Nat.le_refl _) (I1.hok.fresh (Nat.le_refl _))

/-! ### the matrix -/
def rowAt (d : PyData) (i : Nat) : PyData := (kids d).getD i .none
def cell (d : PyData) (i j : Nat) : Int := match (kids (rowAt d i)).getD j .none with
  | .int z => z
  | _ => 0
def formOk (d : PyData) : Bool := isSq d && decide (1 ≤ (kids d).length) && decide ((kids d).length ≤ 8) && (kids d).all (rowOk · ((kids d).length : Int))
structure Mx (d : PyData) (n : Nat) : Prop where
  sq : isSq d = true
  len : (kids d).length = n
  pos : 1 ≤ n
  le : n ≤ 8
  row : ∀ i, i < n → isSq (rowAt d i) = true ∧ (kids (rowAt d i)).length = n
  cel : ∀ i j, i < n → j < n → (kids (rowAt d i)).getD j .none = .int (cell d i j) ∧ 0 ≤ cell d i j ∧ cell d i j < n
theorem bel_int {d : PyData} {n : Int} (h : isBel d n = true) : ∃ z, d = .int z ∧ 0 ≤ z ∧ z < n := by
  cases d with
  | int z =>
    have h' : (decide (0 ≤ z) && decide (z < n)) = true := h
    simp only [Bool.and_eq_true, decide_eq_true_eq] at h'
    exact ⟨z, rfl, h'.1, h'.2⟩
  | _ => cases h
theorem getD_mem {α : Type} {l : List α} {i : Nat} {x : α} (h : i < l.length) : l.getD i x ∈ l := by
  rw [List.getD_eq_getElem?_getD, List.getElem?_eq_getElem h]
  exact List.getElem_mem h
theorem mx_of {d : PyData} (h : formOk d = true) : Mx d (kids d).length := by
  unfold formOk at h
  simp only [Bool.and_eq_true, decide_eq_true_eq] at h
  obtain ⟨⟨⟨h1, h2⟩, h3⟩, h4⟩ := h
  have rows : ∀ i, i < (kids d).length → rowOk (rowAt d i) ((kids d).length : Int) = true := fun i hi => List.all_eq_true.mp h4 _ (getD_mem hi)
  have r2 : ∀ i, i < (kids d).length → isSq (rowAt d i) = true ∧ (kids (rowAt d i)).length = (kids d).length ∧ (kids (rowAt d i)).all (isBel · ((kids d).length : Int)) = true := fun i hi => by
    have := rows i hi
    unfold rowOk at this
    simp only [Bool.and_eq_true, decide_eq_true_eq] at this
    exact ⟨this.1.1, by omega, this.2⟩
  refine ⟨h1, rfl, h2, h3, fun i hi => ⟨(r2 i hi).1, (r2 i hi).2.1⟩, fun i j hi hj => ?_⟩
  obtain ⟨_, hl, ha⟩ := r2 i hi
  obtain ⟨z, e, z0, zn⟩ := bel_int (List.all_eq_true.mp ha _ (getD_mem (x := PyData.none) (show j < (kids (rowAt d i)).length by omega)))
  have ec : cell d i j = z := by
    unfold cell
    rw [e]
  rw [ec]
  exact ⟨e, z0, zn⟩
def JR (d : PyData) (n : Nat) : Prop := ∀ i, i < n → cell d i i = i ∧ cell d i 0 = i ∧ ∀ j, j < n → cell d i j = cell d j i ∧ ∀ k, k < n → cell d (cell d i j).toNat k = cell d i (cell d j k).toNat

variable {K : PySem.W.Frag}
theorem RpL.at {H : Hp} {ds : List PyData} {vs : List V} {i : Nat} (h : RpL K H vs ds) (hi : i < ds.length) : ∃ v, vs[i]? = some v ∧ Rp K H v (ds.getD i .none) := by
  have hl := h.length
  have hi' : i < vs.length := by omega
  obtain ⟨e, he, r⟩ := h.get (List.getElem?_eq_getElem hi')
  refine ⟨_, List.getElem?_eq_getElem hi', ?_⟩
  rw [List.getD_eq_getElem?_getD, he]
  exact r
/-- an item by its place -/
theorem ix_rp {H : Hp} {x : V} {d : PyData} {i : Int} {Q : VK} (h : Rp K H x d) (hs : isSq d = true) (h0 : 0 ≤ i) (hi : i.toNat < (kids d).length) (q : ∀ v, Rp K H v ((kids d).getD i.toNat .none) → Q v H) : rIxL K x (.int i) H Q ∨ rIxT K x (.int i) H Q := by
  obtain ⟨a, xs, rfl, sq, rl⟩ := h.sq hs
  obtain ⟨v, hv, rv⟩ := rl.at hi
  have e : ((i.toNat : Nat) : Int) = i := by omega
  have at' : atI xs i = some v := by
    rw [← e]
    exact atI_nat hv
  rcases sq with sq | sq
  · exact .inl ⟨a, xs, i, v, rfl, rfl, sq, at', q v rv⟩
  · exact .inr ⟨a, xs, i, v, rfl, rfl, sq, at', q v rv⟩
theorem ix_cell {H : Hp} {x : V} {d : PyData} {n : Nat} (M : Mx d n) {i j : Int} {Q : VK} (h : Rp K H x (rowAt d i.toNat)) (i0 : i.toNat < n) (h0 : 0 ≤ j) (hj : j.toNat < n) (q : Q (.int (cell d i.toNat j.toNat)) H) : rIxL K x (.int j) H Q ∨ rIxT K x (.int j) H Q := by
  obtain ⟨r1, r2⟩ := M.row _ i0
  refine ix_rp h r1 h0 (by omega) fun v rv => ?_
  rw [(M.cel _ _ i0 hj).1] at rv
  cases rv
  exact q
section
variable {P : Program} {w : World} {mg : Str → Option Value} {base : Heap} {f : String → Addr} {a c Pt P8 : Addr} {fd g1 g2 g3 g4 : FuncData}
def rLen (K : PySem.W.Frag) : List V → Hp → VK → Prop := fun xs H Q => ∃ p ys, xs = [.ref p] ∧ (SqL K H p ys ∨ SqT K H p ys) ∧ Q (.int ys.length) H
theorem cr_len {X : Cx} (hK : X.K = K) : CallR X (.builtin "len") (rLen K) := by
  subst hK
  exact call_len_seq
/-! ### has_table_form -/
def spForm (K : PySem.W.Frag) (P8 P9 : Addr) : Sp := fun vs H Q _ => ∃ x d, vs = [x] ∧ Rp K H x d ∧ GxR.TabG H P8 ∧ GxR.TabG H P9 ∧ ∀ H', Kp H H' → Q (.bl (formOk d)) H'
theorem sc8 : FnScope ["value", "row"] ["value"] (defScope s_has_table_form) := ⟨rfl, rfl, rfl, by decide +kernel, rfl, by decide +kernel, by decide +kernel⟩
theorem ok8 (T : Tx mg f) (F : FunC K "has_table_form" "has_table_form" s_has_table_form a fd c) (TB : GxR.TabB base mg c P8) (G4 : FnOk P w K mg base CX0 1 (f "is_list") g1 ["value"] (spIs K isSq)) (B4 : Binds K g1 ["value"] []) (kp4 : PySem.W.keepIn K (.ref (f "is_list")) = true)
    (G9 : FnOk P w K mg base CX0 5 (f "is_row") g2 ["value", "many"] (spRow K Pt)) (B9 : Binds K g2 ["value", "many"] []) (kp9 : PySem.W.keepIn K (.ref (f "is_row")) = true) :
    FnOk P w K mg base CX0 7 a fd ["value"] (spForm K P8 Pt) := by
  refine F.ok sc8 (fun vs H Q E h => ?_) (fun A outer s H vs Q E hr h => ?_)
  · obtain ⟨x, d, rfl, _⟩ := h
    rfl
  obtain ⟨x, d, rfl, hd, hP8, hP9, q⟩ := h
  obtain ⟨tm, hm⟩ := T.most
  refine ⟨_, pss_cons (ps_if (PW.pt (pw_or (pt_not (pt_val (pe_call G4 (hr.mono (by decide)) rfl (T.fn "is_list" (by decide)) kp4 B4 .nil pass0 (pa_cons (pv 0) pa_nil))))
      (pw_or1 (pt_not (pt_chain op_le op_le pe_int (pe_callB (cr_len (K := K) rfl) rfl (T.bl "len" (by decide)) PySem.boot_len (pa_cons (pv 0) pa_nil)) (pe_glob (v := .int 8) rfl hm ⟨_, rfl⟩)))))) (pss_one (ps_ret pe_bl)) pss_nil)
    (pss_one (ps_ret (Gx.pe_all (k := 5) (ix := 1) hr rfl (T.bl "all" (by decide)) TB rfl (gscp_by (by change gscpC ["value", "row"] (defScope s_has_table_form) _ _ _ = true; decide +kernel)) (pi_sq (pv 0)) (fun _ _ _ _ _ => pg_name (i := 1) sc8.nd rfl (Or.inl rfl))
      (fun _ _ _ _ _ hr' => pe_call G9 hr' rfl (T.fn "is_row" (by decide)) kp9 B9 .nil pass0 (pa_cons (pv 1) (pa_cons (pe_callB (cr_len (K := K) rfl) rfl (T.bl "len" (by decide)) PySem.boot_len (pa_cons (pv 0) pa_nil)) pa_nil))) (fun _ => rfl)))), ?_⟩
  refine ⟨_, rfl, x, d, rfl, hd, fun H1 k1 => ⟨_, rfl, ?_⟩⟩
  have hd1 := hd.kp k1
  refine ite2 (fun c1 => ite2 (fun _ => ?_) (fun c => absurd rfl c)) (fun c1 => ?_)
  · have e : formOk d = false := by
      have : isSq d = false := by simpa using c1
      unfold formOk
      rw [this]; rfl
    have := q H1 k1
    rw [e] at this
    exact this
  have hs : isSq d = true := by simpa using c1
  obtain ⟨p, xs, rfl, sq, rl⟩ := hd1.sq hs
  have ln : xs.length = (kids d).length := rl.length
  have bad : ∀ {H'}, Kp H1 H' → ¬ (1 ≤ (kids d).length ∧ (kids d).length ≤ 8) → Q (.bl false) H' := fun {H'} k no => by
    have e : formOk d = false := by
      cases z : formOk d with
      | false => rfl
      | true =>
        have m := mx_of z
        exact absurd ⟨m.pos, m.le⟩ no
    have := q H' (k1.trans k)
    rw [e] at this
    exact this
  refine ⟨_, rfl, p, xs, rfl, sq, _, _, rfl, rfl, _, rfl, ite2 (fun c2 => ?_) (fun c2 => ?_)⟩
  · refine ⟨_, _, rfl, rfl, _, rfl, ite2 (fun c3 => ?_) (fun c3 => ?_)⟩
    · refine bad (Kp.refl _) fun ⟨z1, z2⟩ => ?_
      have : ¬ ((xs.length : Int) ≤ 8) := by simpa using c3
      omega
    · have l1 : (1 : Int) ≤ xs.length := by simpa using c2
      have l8 : (xs.length : Int) ≤ 8 := by simpa using c3
      refine ⟨_, rfl, p, xs, rfl, ?_⟩
      refine rd_all (fun i H' => Kp H1 H' ∧ ((kids d).take i).all (rowOk · ((kids d).length : Int)) = true) sq (k1.tab _ hP8) (fun H2 t => ⟨Kp.tabbed (k1.tab _ hP8) t, rfl⟩) (fun i H' _ v => v.1) (fun i y H' hy v => ?_) (fun H' v => ?_)
      · obtain ⟨dy, hdy, ry⟩ := (rl.kp v.1).get hy
        refine ⟨y, rfl, _, rfl, p, xs, rfl, v.1.sq sq, y, dy, (xs.length : Int), rfl, ry, (k1.trans v.1).tab _ hP9, fun H2 k2 => ⟨_, rfl, ite2 (fun c4 => ?_) (fun c4 => ?_)⟩⟩
        · refine ⟨v.1.trans k2, ?_⟩
          rw [ln] at c4
          rw [all_take _ _ _ _ hdy, v.2, c4]; rfl
        · have e : formOk d = false := by
            rw [ln] at c4
            unfold formOk
            rw [all_false _ _ _ _ hdy (Bool.eq_false_iff.mpr c4), Bool.and_false]
          have := q H2 (k1.trans (v.1.trans k2))
          rw [e] at this
          exact this
      · have e : formOk d = true := by
          unfold formOk
          have := v.2
          rw [ln, List.take_length] at this
          rw [this, hs, decide_eq_true (show 1 ≤ (kids d).length by omega), decide_eq_true (show (kids d).length ≤ 8 by omega)]; rfl
        have := q H' (k1.trans v.1)
        rw [e] at this
        exact this
  · refine ⟨_, rfl, ite2 (fun _ => bad (Kp.refl _) fun z => ?_) (fun z => absurd rfl z)⟩
    have : ¬ ((1 : Int) ≤ xs.length) := by simpa using c2
    omega
end
end Tb

namespace Tb
open PySem PySem.Spec PyProof.Rows L2
theorem bi_range : bootBuiltins "range" = some (.type "range") := by decide +kernel
variable {K : PySem.W.Frag}
section
variable {P : Program} {w : World} {mg : Str → Option Value} {base : Heap} {f : String → Addr} {a c Pt P8 : Addr} {fd g1 g2 g3 g4 : FuncData}
/-! ### keeps_join_rules -/
def spJoin (K : PySem.W.Frag) : Sp := fun vs H Q _ => ∃ x d n, vs = [x] ∧ Rp K H x d ∧ Mx d n ∧ ∀ b H', (b = true ↔ JR d n) → Kp H H' → Q (.bl b) H'
theorem sc10 : FnScope ["rows", "states", "one", "other", "third"] ["rows"] (defScope s_keeps_join_rules) := ⟨rfl, rfl, rfl, by decide +kernel, rfl, by decide +kernel, by decide +kernel⟩
theorem ne_t {x y : Int} (h : (!decide (V.int x = V.int y)) = true) : x ≠ y := fun z => by
  rw [z] at h
  simp at h
theorem ne_f {x y : Int} (h : ¬ (!decide (V.int x = V.int y)) = true) : x = y := by
  by_cases z : x = y
  · exact z
  · exact absurd (by rw [decide_eq_false (fun q => z (V.int.inj q))]; rfl) h
theorem nat_of {i n : Nat} (h : i < n) : (0 + (i : Int)).toNat = i ∧ (0 : Int) ≤ 0 + (i : Int) := by omega
theorem ok10 (T : Tx mg f) (F : Fun K "keeps_join_rules" "keeps_join_rules" s_keeps_join_rules a fd) : FnOk P w K mg base CX0 1 a fd ["rows"] (spJoin K) := by
  refine F.ok sc10 (fun vs H Q E h => ?_) (fun cdv A outer s H vs Q E hr h => ?_)
  · obtain ⟨x, d, n, rfl, _⟩ := h
    rfl
  obtain ⟨x, d, n, rfl, hd, M, q⟩ := h
  refine ⟨_, pss_cons (ps_set (i := 1) sc10.nd rfl (Or.inl rfl) (pe_callTy cr_range1 rfl (T.bl "range" (by decide)) bi_range (pa_cons (pe_callB (cr_len (K := K) rfl) rfl (T.bl "len" (by decide)) PySem.boot_len (pa_cons (pv 0) pa_nil)) pa_nil)))
    (pss_cons (ps_for PassesOwn.never rfl (pi_ro (pv 1)) (pg_name (i := 2) sc10.nd rfl (Or.inl rfl))
      (pss_cons (ps_if (PW.pt (pw_or (pt_cmpR op_ne (pe_ix (ix_list.or ix_tup) (pe_ix (ix_list.or ix_tup) (pv 0) (pv 2) (fun _ _ => rfl)) (pv 2) (fun _ _ => rfl)) (pv 2) (nomark _))
          (pw_or1 (pt_cmpR op_ne (pe_ix (ix_list.or ix_tup) (pe_ix (ix_list.or ix_tup) (pv 0) (pv 2) (fun _ _ => rfl)) pe_int (fun _ _ => rfl)) (pv 2) (nomark _))))) (pss_one (ps_ret pe_bl)) pss_nil)
      (pss_one (ps_for PassesOwn.never rfl (pi_ro (pv 1)) (pg_name (i := 3) sc10.nd rfl (Or.inl rfl))
        (pss_cons (ps_if (pt_cmpR op_ne (pe_ix (ix_list.or ix_tup) (pe_ix (ix_list.or ix_tup) (pv 0) (pv 2) (fun _ _ => rfl)) (pv 3) (fun _ _ => rfl)) (pe_ix (ix_list.or ix_tup) (pe_ix (ix_list.or ix_tup) (pv 0) (pv 3) (fun _ _ => rfl)) (pv 2) (fun _ _ => rfl)) (nomark _)) (pss_one (ps_ret pe_bl)) pss_nil)
        (pss_one (ps_for PassesOwn.never rfl (pi_ro (pv 1)) (pg_name (i := 4) sc10.nd rfl (Or.inl rfl))
          (pss_one (ps_if (pt_cmpR op_ne (pe_ix (ix_list.or ix_tup) (pe_ix (ix_list.or ix_tup) (pv 0) (pe_ix (ix_list.or ix_tup) (pe_ix (ix_list.or ix_tup) (pv 0) (pv 2) (fun _ _ => rfl)) (pv 3) (fun _ _ => rfl)) (fun _ _ => rfl)) (pv 4) (fun _ _ => rfl))
            (pe_ix (ix_list.or ix_tup) (pe_ix (ix_list.or ix_tup) (pv 0) (pv 2) (fun _ _ => rfl)) (pe_ix (ix_list.or ix_tup) (pe_ix (ix_list.or ix_tup) (pv 0) (pv 3) (fun _ _ => rfl)) (pv 4) (fun _ _ => rfl)) (fun _ _ => rfl)) (nomark _)) (pss_one (ps_ret pe_bl)) pss_nil)))))))))
    (pss_one (ps_ret pe_bl))), ?_⟩
  obtain ⟨p, xs, rfl, sq, rl⟩ := hd.sq M.sq
  have ln : xs.length = n := rl.length.trans M.len
  refine ⟨_, rfl, p, xs, rfl, sq, _, rfl, fun ps hps => ?_⟩
  have k1 : Kp H (upd H ps (.rng 0 (xs.length : Int))) := Kp.new hps
  generalize hH1 : upd H ps (.rng 0 (xs.length : Int)) = H1 at k1
  have hrng : H1 ps = some (.rng 0 (xs.length : Int)) := by rw [← hH1]; exact upd_same
  have hd1 := hd.kp k1
  have n8 : xs.length ≤ 8 := by rw [ln]; exact M.le
  have bnd : -(2 ^ 62) ≤ (0 : Int) ∧ (0 : Int) < 2 ^ 62 ∧ -(2 ^ 62) ≤ (xs.length : Int) ∧ (xs.length : Int) < 2 ^ 62 := by omega
  have cnt : ((xs.length : Int) - 0).toNat = n := by omega
  have no : ¬ JR d n → Q (.bl false) H1 := fun h => q false H1 ⟨(fun z => by cases z), fun z => absurd z h⟩ k1
  have row : ∀ {i : Int} {R : VK}, 0 ≤ i → i.toNat < n → (∀ v, Rp K H1 v (rowAt d i.toNat) → R v H1) → rIxL K (.ref p) (.int i) H1 R ∨ rIxT K (.ref p) (.int i) H1 R := fun h0 hi hR => ix_rp hd1 M.sq h0 (by rw [M.len]; exact hi) hR
  refine ⟨_, rfl, ps, 0, _, rfl, hrng, bnd, ?_⟩
  rw [cnt]
  refine for_range (n := n) (fun i σ HH => H1 = HH ∧ (∃ o1 o2 o3, σ = [some (.ref p), some (.ref ps), o1, o2, o3]) ∧ ∀ i', i' < i → cell d i' i' = i' ∧ cell d i' 0 = i' ∧ ∀ j, j < n → cell d i' j = cell d j i' ∧ ∀ k, k < n → cell d (cell d i' j).toNat k = cell d i' (cell d j k).toNat)
    ⟨rfl, ⟨none, none, none, rfl⟩, fun i' h => absurd h (Nat.not_lt_zero _)⟩ ?_ ?_
  · rintro i σ HH hi ⟨rfl, ⟨o1, o2, o3, rfl⟩, ih⟩
    obtain ⟨ti, i0⟩ := nat_of hi
    have ti' : (0 + (i : Int)).toNat < n := by omega
    refine ⟨_, rfl, _, rfl, row i0 ti' fun r rr => ⟨_, rfl, ix_cell M rr ti' i0 ti' ⟨_, rfl, rfl, _, rfl, ?_⟩⟩⟩
    rw [ti]
    refine ite2 (fun c1 => ite2 (fun _ => no fun J => ?_) (fun z => absurd rfl z)) (fun c1 => ?_)
    · exact ne_t c1 (by rw [(J i hi).1]; omega)
    have e1 : cell d i i = i := by have := ne_f c1; omega
    refine ⟨_, rfl, _, rfl, row i0 ti' fun r rr => ix_cell M rr ti' (by decide) (by have := M.pos; show (0 : Int).toNat < n; omega) ⟨_, rfl, rfl, _, rfl, ?_⟩⟩
    rw [ti]
    refine ite2 (fun c2 => no fun J => ?_) (fun c2 => ?_)
    · exact ne_t c2 (by show cell d i 0 = _; rw [(J i hi).2.1]; omega)
    have e2 : cell d i 0 = i := by have : cell d i 0 = 0 + (i : Int) := ne_f c2; omega
    refine ⟨_, rfl, ps, 0, _, rfl, hrng, bnd, ?_⟩
    rw [cnt]
    refine for_range (n := n) (fun j σ HH => H1 = HH ∧ (∃ o2 o3, σ = [some (.ref p), some (.ref ps), some (.int (0 + i)), o2, o3]) ∧ ∀ j', j' < j → cell d i j' = cell d j' i ∧ ∀ k, k < n → cell d (cell d i j').toNat k = cell d i (cell d j' k).toNat)
      ⟨rfl, ⟨o2, o3, rfl⟩, fun j' h => absurd h (Nat.not_lt_zero _)⟩ ?_ ?_
    · rintro j σ HH hj ⟨rfl, ⟨u2, u3, rfl⟩, jh⟩
      obtain ⟨tj, j0⟩ := nat_of hj
      have tj' : (0 + (j : Int)).toNat < n := by omega
      refine ⟨_, rfl, _, rfl, row i0 ti' fun r rr => ⟨_, rfl, ix_cell M rr ti' j0 tj' ⟨_, rfl, _, rfl, row j0 tj' fun r2 rr2 => ⟨_, rfl, ix_cell M rr2 tj' i0 ti' ⟨rfl, _, rfl, ?_⟩⟩⟩⟩⟩
      rw [ti, tj]
      refine ite2 (fun c3 => no fun J => ne_t c3 ((J i hi).2.2 j hj).1) (fun c3 => ?_)
      have e3 : cell d i j = cell d j i := ne_f c3
      obtain ⟨_, a0, an⟩ := M.cel i j hi hj
      have an' : (cell d i j).toNat < n := by omega
      refine ⟨_, rfl, ps, 0, _, rfl, hrng, bnd, ?_⟩
      rw [cnt]
      refine for_range (n := n) (fun k σ HH => H1 = HH ∧ (∃ o3, σ = [some (.ref p), some (.ref ps), some (.int (0 + i)), some (.int (0 + j)), o3]) ∧ ∀ k', k' < k → cell d (cell d i j).toNat k' = cell d i (cell d j k').toNat)
        ⟨rfl, ⟨u3, rfl⟩, fun k' h => absurd h (Nat.not_lt_zero _)⟩ ?_ ?_
      · rintro k σ HH hk ⟨rfl, ⟨v3, rfl⟩, kh⟩
        obtain ⟨tk, k0⟩ := nat_of hk
        have tk' : (0 + (k : Int)).toNat < n := by omega
        obtain ⟨_, b0, bn⟩ := M.cel j k hj hk
        have bn' : (cell d j k).toNat < n := by omega
        refine ⟨_, rfl, _, rfl, _, rfl, row i0 ti' fun r rr => ⟨_, rfl, ix_cell M rr ti' j0 tj' ?_⟩⟩
        rw [ti, tj]
        refine row a0 an' fun r2 rr2 => ⟨_, rfl, ix_cell M rr2 an' k0 tk' ⟨_, rfl, _, rfl, row i0 ti' fun r3 rr3 => ⟨_, rfl, _, rfl, row j0 tj' fun r4 rr4 => ⟨_, rfl, ix_cell M rr4 tj' k0 tk' ?_⟩⟩⟩⟩
        rw [tj, tk]
        refine ix_cell M rr3 ti' b0 bn' ⟨rfl, _, rfl, ?_⟩
        rw [ti]
        refine ite2 (fun c4 => no fun J => ne_t c4 (((J i hi).2.2 j hj).2 k hk)) (fun c4 => ?_)
        refine ⟨rfl, ⟨_, rfl⟩, fun k' hk' => ?_⟩
        by_cases z : k' = k
        · rw [z]; exact ne_f c4
        · exact kh k' (by omega)
      · rintro σ HH ⟨rfl, ⟨v3, rfl⟩, kh⟩
        refine ⟨rfl, ⟨_, _, rfl⟩, fun j' hj' => ?_⟩
        by_cases z : j' = j
        · rw [z]; exact ⟨e3, kh⟩
        · exact jh j' (by omega)
    · rintro σ HH ⟨rfl, ⟨u2, u3, rfl⟩, jh⟩
      refine ⟨rfl, ⟨_, _, _, rfl⟩, fun i' hi' => ?_⟩
      by_cases z : i' = i
      · rw [z]; exact ⟨e1, e2, jh⟩
      · exact ih i' (by omega)
  · rintro σ HH ⟨rfl, ⟨o1, o2, o3, rfl⟩, ih⟩
    exact q true _ ⟨fun _ => ih, fun _ => rfl⟩ k1
/-! ### is_table -/
/-- what is a table, told of the data -/
def IsT (d : PyData) : Prop := formOk d = true ∧ JR d (kids d).length
def spTab (K : PySem.W.Frag) (P8 P9 : Addr) : Sp := fun vs H Q _ => ∃ x d, vs = [x] ∧ Rp K H x d ∧ GxR.TabG H P8 ∧ GxR.TabG H P9 ∧ ∀ b H', (b = true ↔ IsT d) → Kp H H' → Q (.bl b) H'
theorem sc7 : FnScope ["value"] ["value"] (defScope s_is_table) := ⟨rfl, rfl, rfl, by decide +kernel, rfl, by decide +kernel, by decide +kernel⟩
theorem ok7 (T : Tx mg f) (F : Fun K "is_table" "is_table" s_is_table a fd) (G8 : FnOk P w K mg base CX0 7 (f "has_table_form") g1 ["value"] (spForm K P8 Pt)) (B8 : Binds K g1 ["value"] []) (kp8 : PySem.W.keepIn K (.ref (f "has_table_form")) = true)
    (G10 : FnOk P w K mg base CX0 1 (f "keeps_join_rules") g2 ["rows"] (spJoin K)) (B10 : Binds K g2 ["rows"] []) (kp10 : PySem.W.keepIn K (.ref (f "keeps_join_rules")) = true) :
    FnOk P w K mg base CX0 8 a fd ["value"] (spTab K P8 Pt) := by
  refine F.ok sc7 (fun vs H Q E h => ?_) (fun cdv A outer s H vs Q E hr h => ?_)
  · obtain ⟨x, d, rfl, _⟩ := h
    rfl
  obtain ⟨x, d, rfl, hd, h8, h9, q⟩ := h
  refine ⟨_, pss_one (ps_ret (pe_and (pe_call G8 hr rfl (T.fn "has_table_form" (by decide)) kp8 B8 .nil pass0 (pa_cons (pv 0) pa_nil)) (pe_one (pe_call G10 (hr.mono (by decide)) rfl (T.fn "keeps_join_rules" (by decide)) kp10 B10 .nil pass0 (pa_cons (pv 0) pa_nil))))), ?_⟩
  refine ⟨_, rfl, x, d, rfl, hd, h8, h9, fun H1 k1 => ⟨_, rfl, ite2 (fun c => ?_) (fun c => ?_)⟩⟩
  · exact ⟨_, rfl, x, d, _, rfl, hd.kp k1, mx_of c, fun b H' hb k2 => q b H' (hb.trans ⟨fun z => ⟨c, z⟩, fun z => z.2⟩) (k1.trans k2)⟩
  · exact q false H1 ⟨(fun z => by cases z), fun z => absurd z.1 c⟩ k1
end
end Tb

namespace Tb
open PySem PySem.Spec PyProof.Rows L2
variable {K : PySem.W.Frag}
/-! ### data as the nested comparison wants it -/
mutual
theorem Rp.dp {H : Hp} : ∀ (d : PyData) (v : V), Rp K H v d → d.canLay0 = true → Dp K H v d
  | .none, _, h, _ => by cases h; exact .non
  | .bool b, _, h, _ => by cases h; exact .bl b
  | .int i, _, h, _ => by cases h; exact .int i
  | .str x, _, h, _ => by cases h; exact .str x
  | .list ds, _, h, c => by
    cases h with
    | lst h r => exact .lst (.inl (.inl h)) (RpL.dp ds _ r (by simpa [PyData.canLay0] using c))
  | .tuple ds, _, h, c => by
    cases h with
    | tup h r => exact .tup (.inl (.inl h)) (RpL.dp ds _ r (by simpa [PyData.canLay0] using c))
  | .dict _, _, _, c => by simp [PyData.canLay0] at c
theorem RpL.dp {H : Hp} : ∀ (ds : List PyData) (vs : List V), RpL K H vs ds → PyData.canLayAll0 ds = true → DpAll K H vs ds
  | [], _, h, _ => by cases h; exact .nil
  | d :: ds, _, h, c => by
    have c' : d.canLay0 = true ∧ PyData.canLayAll0 ds = true := by simpa [PyData.canLayAll0] using c
    cases h with
    | cons a b => exact .cons (Rp.dp d _ a c'.1) (RpL.dp ds _ b c'.2)
end
def E0k (e : PyData) : Prop := e.canLay0 = true ∧ e.depth ≤ 8
theorem lay_all : ∀ es : List PyData, (∀ e ∈ es, E0k e) → PyData.canLayAll0 es = true ∧ PyData.depthAll es ≤ 8
  | [], _ => ⟨rfl, Nat.zero_le _⟩
  | e :: es, h => by
    obtain ⟨h1, h2⟩ := lay_all es fun x hx => h x (List.mem_cons_of_mem _ hx)
    obtain ⟨h3, h4⟩ := h e List.mem_cons_self
    refine ⟨?_, ?_⟩
    · show (e.canLay0 && PyData.canLayAll0 es) = true
      rw [h3, h1]; rfl
    · show max e.depth (PyData.depthAll es) ≤ 8
      omega
theorem shaped_list {es : List PyData} (h : ∀ e ∈ es, E0k e) : SeqAt.shaped (.list es) = true := by
  obtain ⟨h1, h2⟩ := lay_all es h
  show (PyData.canLay0 (.list es) && decide (PyData.depth (.list es) ≤ 64)) = true
  have e1 : PyData.canLay0 (.list es) = true := by simpa [PyData.canLay0] using h1
  have e2 : PyData.depth (.list es) ≤ 64 := by
    show PyData.depthAll es + 1 ≤ 64
    omega
  rw [e1, decide_eq_true e2]; rfl
theorem eqv_nil : ∀ es : List PyData, PyData.eqv (.list es) (.list []) = es.isEmpty
  | [] => rfl
  | _ :: _ => rfl
theorem rpl_lay {H : Hp} {xs : List V} {es : List PyData} (r : RpL K H xs es) (h : ∀ e ∈ es, E0k e) : DpAll K H xs es := RpL.dp es xs r (lay_all es h).1
/-! ### a walk over a list or a tuple -/
theorem for_sq {a : Addr} {xs : List V} {g : TG} {tb : TS} {D : Ends} {σ : L2.St} {H : Hp} (Pv : Nat → L2.St → Hp → Prop) (hq : Sq K H a xs) (h0 : Pv 0 σ H) (hl : ∀ i σ H', i ≤ xs.length → Pv i σ H' → Kp H H')
    (hs : ∀ i x σ H, xs[i]? = some x → Pv i σ H → g x σ H fun σ2 H2 => tb { D with nx := Pv (i + 1), ct := Pv (i + 1), bk := D.nx } σ2 H2) (hd : ∀ σ H, Pv xs.length σ H → D.nx σ H) :
    (SqL K H a xs ∧ ∃ W : Nat → Nat → L2.St → Hp → Prop, (∃ m, W 0 m σ H) ∧ ∀ i m σ H, W i m σ H →
      ((Itl K a).stop i H ∧ D.nx σ H) ∨ ((Itl K a).go i H ∧ ∃ N : L2.St → Hp → Prop, (∀ σ' H', N σ' H' → ∃ m', m' < m ∧ W (i + 1) m' σ' H') ∧ ∀ x H', (Itl K a).yld i H x H' → g x σ H' fun σ2 H2 => tb { D with nx := N, ct := N, bk := D.nx } σ2 H2)) ∨
    (SqT K H a xs ∧ ∃ W : Nat → Nat → L2.St → Hp → Prop, (∃ m, W 0 m σ H) ∧ ∀ i m σ H, W i m σ H →
      ((Itt K a).stop i H ∧ D.nx σ H) ∨ ((Itt K a).go i H ∧ ∃ N : L2.St → Hp → Prop, (∀ σ' H', N σ' H' → ∃ m', m' < m ∧ W (i + 1) m' σ' H') ∧ ∀ x H', (Itt K a).yld i H x H' → g x σ H' fun σ2 H2 => tb { D with nx := N, ct := N, bk := D.nx } σ2 H2)) := by
  rcases hq with hq | hq
  · exact .inl ⟨hq, for_list Pv h0 (fun i σ H' hi p => (hl i σ H' hi p).sqL hq) hs hd⟩
  · exact .inr ⟨hq, for_tup Pv h0 (fun i σ H' hi p => (hl i σ H' hi p).sqT hq) hs hd⟩
theorem lc_sq {a : Addr} {xs : List V} {g : TG} {tt : TT} {te : TE} {vs : List Nat} {σ : L2.St} {H1 : Hp} {Qd : Addr → Hp → Prop} (hq : Sq K H1 a xs)
    (h : ∀ D, H1 D = none → ∃ Pv : Nat → Hp → Prop, Pv 0 (upd H1 D (.lst [])) ∧ (∀ i H', i ≤ xs.length → Pv i H' → Kp H1 H') ∧
      (∀ i x H, xs[i]? = some x → Pv i H → g x (wipe σ vs) H fun σ2 H2 => wipe σ2 vs = wipe σ vs ∧ tt σ2 H2 fun b H3 =>
        if b = true then te σ2 H3 fun y H4 => ∃ acc, H4 D = some (.lst acc) ∧ acc.length < sizeLine ∧ Pv (i + 1) (upd H4 D (.lst (acc ++ [y]))) else Pv (i + 1) H3) ∧ ∀ H, Pv xs.length H → Qd D H) :
    (SqL K H1 a xs ∧ ∀ D, H1 D = none → ∃ W : Nat → Nat → Hp → Prop, (∃ m, W 0 m (upd H1 D (.lst []))) ∧ ∀ i m H, W i m H →
      ((Itl K a).stop i H ∧ Qd D H) ∨ ((Itl K a).go i H ∧ ∃ Nx : Hp → Prop, (∀ H', Nx H' → ∃ m', m' < m ∧ W (i + 1) m' H') ∧ ∀ x H', (Itl K a).yld i H x H' → g x (wipe σ vs) H' fun σ2 H2 => wipe σ2 vs = wipe σ vs ∧ tt σ2 H2 fun b H3 =>
        if b = true then te σ2 H3 fun y H4 => ∃ acc, H4 D = some (.lst acc) ∧ acc.length < sizeLine ∧ Nx (upd H4 D (.lst (acc ++ [y]))) else Nx H3)) ∨
    (SqT K H1 a xs ∧ ∀ D, H1 D = none → ∃ W : Nat → Nat → Hp → Prop, (∃ m, W 0 m (upd H1 D (.lst []))) ∧ ∀ i m H, W i m H →
      ((Itt K a).stop i H ∧ Qd D H) ∨ ((Itt K a).go i H ∧ ∃ Nx : Hp → Prop, (∀ H', Nx H' → ∃ m', m' < m ∧ W (i + 1) m' H') ∧ ∀ x H', (Itt K a).yld i H x H' → g x (wipe σ vs) H' fun σ2 H2 => wipe σ2 vs = wipe σ vs ∧ tt σ2 H2 fun b H3 =>
        if b = true then te σ2 H3 fun y H4 => ∃ acc, H4 D = some (.lst acc) ∧ acc.length < sizeLine ∧ Nx (upd H4 D (.lst (acc ++ [y]))) else Nx H3)) := by
  rcases hq with hq | hq
  · refine .inl ⟨hq, fun D hD => ?_⟩
    obtain ⟨Pv, p0, pk, ps, pd⟩ := h D hD
    exact lc_list Pv p0 (fun i H' hi p => (pk i H' hi p).sqL hq) ps pd
  · refine .inr ⟨hq, fun D hD => ?_⟩
    obtain ⟨Pv, p0, pk, ps, pd⟩ := h D hD
    exact lc_tup Pv p0 (fun i H' hi p => (pk i H' hi p).sqT hq) ps pd
theorem Kp.over {A B : Hp} {p : Addr} {o : HO} (k : Kp A B) (h : A p = none) : Kp A (upd B p o) := by
  refine ⟨fun b u e n => ?_, fun P t => ?_⟩
  · rw [upd_ne (fun z => by rw [z, h] at e; cases e)]
    exact k.keep b u e n
  · obtain ⟨ps, e, t2⟩ := t
    obtain ⟨qs, e3, t3⟩ := k.tab P ⟨ps, e, t2⟩
    exact ⟨qs, by rw [upd_ne (fun z => by rw [z, h] at e; cases e)]; exact e3, t3⟩
def Lay (d : PyData) : Prop := ∀ r ∈ kids d, (kids r).length ≤ 1000 ∧ ∀ e ∈ kids r, E0k e
theorem take_filter {α : Type} (p : α → Bool) (l : List α) (i : Nat) (x : α) (h : l[i]? = some x) : (l.take (i + 1)).filter p = (l.take i).filter p ++ (if p x = true then [x] else []) := by
  rw [List.take_add_one, h, List.filter_append]
  cases z : p x <;> simp [z]
end Tb

namespace Tb
open PySem PySem.Spec PyProof.Rows L2
variable {K : PySem.W.Frag}
/-! ### the pot -/
def PotAt (H : Hp) (p : Addr) : Prop := ∃ a b : Int, H p = some (.lst [.int a, .int b]) ∧ 0 ≤ a ∧ 0 ≤ b ∧ b < 2 ^ 32
theorem del_upd {H : Hp} {p : Addr} {o : HO} : del (upd H p o) p = del H p := by
  funext b
  unfold del
  by_cases h : b = p
  · rw [if_pos h, if_pos h]
  · rw [if_neg h, if_neg h, upd_ne h]
theorem upd_del {H : Hp} {p t : Addr} {o : HO} (h : t ≠ p) : del (upd H t o) p = upd (del H p) t o := by
  funext b
  by_cases z : b = t
  · subst z
    rw [del_ne h, upd_same, upd_same]
  · rw [upd_ne z]
    unfold del
    by_cases y : b = p
    · rw [if_pos y, if_pos y]
    · rw [if_neg y, if_neg y, upd_ne z]
theorem del_none {H : Hp} {p t : Addr} (h : H t = none) : del H p t = none := by
  unfold del
  split
  · rfl
  · exact h
abbrev Kd (p : Addr) (H H' : Hp) : Prop := Kp (del H p) (del H' p)
theorem Kd.put {H : Hp} {p : Addr} {o : HO} : Kd p H (upd H p o) := by
  show Kp (del H p) (del (upd H p o) p)
  rw [del_upd]
  exact Kp.refl _
theorem Kd.new {H : Hp} {p t : Addr} {o : HO} (h : H t = none) (hp : H p ≠ none) : Kd p H (upd H t o) := by
  have n : t ≠ p := fun z => hp (by rw [← z]; exact h)
  show Kp (del H p) (del (upd H t o) p)
  rw [upd_del n]
  exact Kp.new (del_none h)
theorem Kd.lst {H H' : Hp} {p a : Addr} {xs : List V} (k : Kd p H H') (n : a ≠ p) (h : H a = some (.lst xs)) : H' a = some (.lst xs) := by
  have := Kp.lst (H := del H p) (H' := del H' p) k (a := a) (xs := xs) (by rw [del_ne n]; exact h)
  exact del_sub _ _ this
theorem Kp.kd {H H' : Hp} (k : Kp H H') {p : Addr} (h : ∀ ps, H p ≠ some (.tbl ps)) : Kd p H H' := k.del p h
theorem PotAt.ntbl {H : Hp} {p : Addr} (h : PotAt H p) : ∀ ps, H p ≠ some (.tbl ps) := fun ps z => by
  obtain ⟨a, b, e, _⟩ := h
  rw [e] at z; cases z
theorem PotAt.nn {H : Hp} {p : Addr} (h : PotAt H p) : H p ≠ none := fun z => by
  obtain ⟨a, b, e, _⟩ := h
  rw [e] at z; cases z
theorem PotAt.kp {H H' : Hp} {p : Addr} (h : PotAt H p) (k : Kp H H') : PotAt H' p := by
  obtain ⟨a, b, e, r⟩ := h
  exact ⟨a, b, k.lst e, r⟩
theorem PotAt.new {H : Hp} {p t : Addr} {o : HO} (h : PotAt H p) (ht : H t = none) : PotAt (upd H t o) p := h.kp (Kp.new ht)
section
variable {P : Program} {w : World} {mg : Str → Option Value} {base : Heap} {f : String → Addr} {a c Pt P8 : Addr} {fd g1 g2 g3 g4 : FuncData}
theorem bi_abs : bootBuiltins "abs" = some (.builtin "abs") := by decide +kernel
theorem bi_max : bootBuiltins "max" = some (.builtin "max") := by decide +kernel
theorem bi_sum : bootBuiltins "sum" = some (.builtin "sum") := by decide +kernel
theorem bi_divmod : bootBuiltins "divmod" = some (.builtin "divmod") := by decide +kernel
theorem none_of {H : Hp} {t p : Addr} {o : HO} (h : upd H t o p = none) : H p = none := by
  by_cases z : p = t
  · subst z
    rw [upd_same] at h; cases h
  · rw [upd_ne z] at h; exact h
/-! ### _law_pot -/
def spPot (K : PySem.W.Frag) : Sp := fun vs H Q _ => ∃ (l : Addr) (ns : List Int), vs = [.ref l, .int 0] ∧ SqL K H l (ns.map V.int) ∧ ∀ p H', H p = none → PotAt H' p → Kp H H' → Q (.ref p) H'
theorem sc12 : FnScope ["_law_script", "_law_k", "_law_cell"] ["_law_script", "_law_k"] (defScope s__law_pot) := ⟨rfl, rfl, rfl, by decide +kernel, rfl, by decide +kernel, by decide +kernel⟩
theorem ok12 (T : Tx mg f) (F : Fun K "_law_pot" "_law_pot" s__law_pot a fd) : FnOk P w K mg base CX0 1 a fd ["_law_script", "_law_k"] (spPot K) := by
  refine F.ok sc12 (fun vs H Q E h => ?_) (fun cdv A outer s H vs Q E hr h => ?_)
  · obtain ⟨l, ns, rfl, _⟩ := h
    rfl
  obtain ⟨l, ns, rfl, hl, q⟩ := h
  refine ⟨_, pss_cons (ps_set (i := 2) sc12.nd rfl (Or.inl rfl) (pe_ifExp (pt_cmpR op_lt (pv 1) (pe_callB (cr_len (K := K) rfl) rfl (T.bl "len" (by decide)) PySem.boot_len (pa_cons (pv 0) pa_nil)) (nomark _))
      (pe_callB call_abs rfl (T.bl "abs" (by decide)) bi_abs (pa_cons (pe_ix ix_list (pv 0) (pv 1) (fun _ _ => rfl)) pa_nil))
      (pe_op op_add (pe_op op_add (pe_op op_mul pe_int (pv 1)) pe_int) (pe_op op_mod (pe_callB call_abs rfl (T.bl "abs" (by decide)) bi_abs (pa_cons (pe_callB (cr_sum rfl) rfl (T.bl "sum" (by decide)) bi_sum (pa_cons (pe_slice sl_list (pv 0) po_none (po_some pe_int)) pa_nil)) pa_nil)) pe_int))))
    (pss_one (ps_ret (pe_lst (pa_cons (pe_callB (call_max2 rfl) rfl (T.bl "max" (by decide)) bi_max (pa_cons pe_int (pa_cons (pe_op op_sub (pv 2) (pe_op op_pow pe_int pe_int)) pa_nil)))
      (pa_cons (pe_op op_add (pe_op op_mod (pe_callTy call_int1 rfl (T.bl "int" (by decide)) bi_int (pa_cons (pe_op op_add (pe_op op_add (pe_op op_mul (pe_op op_mod (pe_callTy call_int1 rfl (T.bl "int" (by decide)) bi_int (pa_cons (pv 2) pa_nil)) pe_int) pe_int) (pe_op op_mul pe_int (pv 1))) pe_int) pa_nil)) pe_int) pe_int) pa_nil))))), ?_⟩
  have mx : ∀ x : Int, 0 ≤ (if x > 0 then x else 0) := fun x => by split <;> omega
  have md : ∀ x : Int, 0 ≤ x % 2147483563 + 1 ∧ x % 2147483563 + 1 < 2 ^ 32 := fun x => by
    have h1 := Int.emod_nonneg x (show (2147483563 : Int) ≠ 0 by decide)
    have h2 := Int.emod_lt_of_pos x (show (0 : Int) < 2147483563 by decide)
    omega
  have p31 : (0 : Int) < 2147483549 := by decide
  have p32 : (0 : Int) < 2147483563 := by decide
  have cp : CPow 10 18 := ⟨by decide, by decide, by decide⟩
  refine ⟨_, rfl, _, rfl, l, _, rfl, .inl hl, _, _, rfl, rfl, ?_⟩
  refine ⟨_, rfl, ite2 (fun c => ?_) (fun c => ?_)⟩
  · cases ns with
    | nil => simp at c
    | cons n0 nr =>
      refine ⟨_, rfl, _, rfl, l, _, _, .int n0, rfl, rfl, hl, (by simpa using atI_nat (xs := List.map V.int (n0 :: nr)) (j := 0) (v := .int n0) rfl), _, rfl, ?_⟩
      refine ⟨_, rfl, _, _, rfl, rfl, cp, _, _, rfl, rfl, _, _, rfl, _, rfl, .inl ⟨_, rfl, _, _, rfl, rfl, p31, _, _, rfl, rfl, .inr (by decide), _, rfl, _, _, rfl, rfl, .inl (by decide), _, _, rfl, rfl, _, _, rfl, rfl, .inl ⟨_, rfl, _, _, rfl, rfl, p32, _, _, rfl, rfl, (by show 2 ≤ sizeLine; decide), fun p hp => ?_⟩⟩⟩
      exact q p _ hp ⟨_, _, upd_same, mx _, (md _).1, (md _).2⟩ (Kp.new hp)
  · cases ns with
    | cons n0 nr => exact absurd (by simp) c
    | nil =>
      refine ⟨_, rfl, _, _, rfl, rfl, .inl (by decide), _, _, rfl, rfl, _, rfl, 1, rfl, l, _, rfl, hl, fun t ht => ⟨t, [], rfl, .inl (.inl upd_same), _, rfl, _, _, rfl, rfl, (by decide), _, _, rfl, rfl, ?_⟩⟩
      refine ⟨_, rfl, _, _, rfl, rfl, cp, _, _, rfl, rfl, _, _, rfl, _, rfl, .inl ⟨_, rfl, _, _, rfl, rfl, p31, _, _, rfl, rfl, .inr (by decide), _, rfl, _, _, rfl, rfl, .inl (by decide), _, _, rfl, rfl, _, _, rfl, rfl, .inl ⟨_, rfl, _, _, rfl, rfl, p32, _, _, rfl, rfl, (by show 2 ≤ sizeLine; decide), fun p hp => ?_⟩⟩⟩
      exact q p _ (none_of hp) ⟨_, _, upd_same, mx _, (md _).1, (md _).2⟩ ((Kp.new ht).trans (Kp.new hp))
end
end Tb

namespace Tb
open PySem PySem.Spec PyProof.Rows L2
variable {K : PySem.W.Frag}
section
variable {P : Program} {w : World} {mg : Str → Option Value} {base : Heap} {f : String → Addr} {a c Pt P8 : Addr} {fd g1 g2 g3 g4 : FuncData}
/-! ### _law_draw -/
def spDraw : Sp := fun vs H Q _ => ∃ (p : Addr) (n : Int), vs = [.ref p, .int n] ∧ 0 < n ∧ n < 1073741824 ∧ PotAt H p ∧ ∀ (r : Int) H', 0 ≤ r → r < n → PotAt H' p → Kd p H H' → Q (.int r) H'
theorem sc13 : FnScope ["_law_pot_here", "_law_sides", "_law_digit"] ["_law_pot_here", "_law_sides"] (defScope s__law_draw) := ⟨rfl, rfl, rfl, by decide +kernel, rfl, by decide +kernel, by decide +kernel⟩
theorem Kd.trans {p : Addr} {A B C : Hp} (x : Kd p A B) (y : Kd p B C) : Kd p A C := Kp.trans x y
theorem at2 {x y : V} : atI [x, y] 0 = some x ∧ atI [x, y] 1 = some y ∧ ixN [x, y].length 0 = some 0 ∧ ixN [x, y].length 1 = some 1 := ⟨rfl, rfl, rfl, rfl⟩
theorem ok13 (T : Tx mg f) (F : Fun K "_law_draw" "_law_draw" s__law_draw a fd) : FnOk P w K mg base CX0 1 a fd ["_law_pot_here", "_law_sides"] spDraw := by
  refine F.ok sc13 (fun vs H Q E h => ?_) (fun cdv A outer s H vs Q E hr h => ?_)
  · obtain ⟨p, n, rfl, _⟩ := h
    rfl
  obtain ⟨p, n, rfl, n0, n1, ⟨x, y, hp, x0, y0, y1⟩, q⟩ := h
  refine ⟨_, pss_cons (ps_if (pt_cmpR op_gt (pe_ix ix_list (pv 0) pe_int (fun _ _ => rfl)) pe_int (nomark _))
      (pss_cons (ps_asg (pe_callB call_divmod rfl (T.bl "divmod" (by decide)) bi_divmod (pa_cons (pe_ix ix_list (pv 0) pe_int (fun _ _ => rfl)) (pa_cons (pv 1) pa_nil)))
          (pg_tup rfl (pgs_cons (pg_sub (pv 0) pe_int set_list) (pgs_cons (pg_name (i := 2) sc13.nd rfl (Or.inl rfl)) pgs_nil))))
        (pss_one (ps_ret (pv 2)))) pss_nil)
    (pss_cons (ps_asg (pe_op op_mod (pe_callTy call_int1 rfl (T.bl "int" (by decide)) bi_int (pa_cons (pe_op op_add (pe_op op_mul (pe_ix ix_list (pv 0) pe_int (fun _ _ => rfl)) pe_int) pe_int) pa_nil)) pe_int) (pg_sub (pv 0) pe_int set_list))
      (pss_one (ps_ret (pe_op op_mod (pe_callTy call_int1 rfl (T.bl "int" (by decide)) bi_int (pa_cons (pe_op op_fdiv (pe_op op_mod (pe_callTy call_int1 rfl (T.bl "int" (by decide)) bi_int (pa_cons (pe_op op_mul (pe_ix ix_list (pv 0) pe_int (fun _ _ => rfl)) (pe_ix ix_list (pv 0) pe_int (fun _ _ => rfl))) pa_nil)) pe_int) pe_int) pa_nil)) (pv 1))))), ?_⟩
  have sq : ∀ {x y : Int} {H : Hp}, H p = some (.lst [.int x, .int y]) → SqL K H p [.int x, .int y] := fun h => .inl (.inl h)
  refine ⟨_, rfl, p, _, _, _, rfl, rfl, sq hp, at2.1, _, _, rfl, rfl, _, rfl, ite2 (fun c => ?_) (fun c => ?_)⟩
  · refine ⟨_, rfl, p, _, _, _, rfl, rfl, sq hp, at2.1, _, rfl, _, _, rfl, ⟨n0, n1⟩, fun t ht => ?_⟩
    have hn : p ≠ t := ne_of_none hp ht
    have hp2 : upd H t (.tup [.int (x / n), .int (x % n)]) p = some (.lst [.int x, .int y]) := by rw [upd_ne hn]; exact hp
    refine ⟨t, _, rfl, .inl (.inl upd_same), rfl, _, _, rfl, _, rfl, p, _, _, _, rfl, rfl, hp2, at2.2.2.1, _, _, rfl, rfl, _, rfl, ?_⟩
    refine q _ _ (Int.emod_nonneg _ (by omega)) (Int.emod_lt_of_pos _ n0) ⟨_, _, upd_same, Int.ediv_nonneg x0 (by omega), y0, y1⟩ ?_
    exact Kd.trans (Kd.new ht (by rw [hp]; simp)) Kd.put
  · have p1 : (0 : Int) < 2147483587 := by decide
    have p2 : (0 : Int) < 2147483629 := by decide
    have m0 : ∀ z : Int, 0 ≤ z % 2147483587 ∧ z % 2147483587 < 2 ^ 32 := fun z => by
      have h1 := Int.emod_nonneg z (show (2147483587 : Int) ≠ 0 by decide)
      have h2 := Int.emod_lt_of_pos z p1
      omega
    refine ⟨_, rfl, p, _, _, _, rfl, rfl, sq hp, at2.2.1, _, _, rfl, rfl, .inr (by decide), _, _, rfl, rfl, .inl ⟨_, rfl, _, _, rfl, rfl, p1, _, rfl, p, _, _, _, rfl, rfl, hp, at2.2.2.2, ?_⟩⟩
    obtain ⟨z0, z1⟩ := m0 (y * 40692 + 5113)
    have hz : upd H p (.lst ([V.int x, V.int y].set 1 (V.int ((y * 40692 + 5113) % 2147483587)))) p = some (.lst [.int x, .int ((y * 40692 + 5113) % 2147483587)]) := upd_same
    refine ⟨_, rfl, p, _, _, _, rfl, rfl, sq hz, at2.2.1, _, rfl, p, _, _, _, rfl, rfl, sq hz, at2.2.1, _, _, rfl, rfl, .inl (by omega), .inl ⟨_, rfl, _, _, rfl, rfl, p2, _, _, rfl, rfl, ⟨by decide, by decide⟩, .inl ⟨_, rfl, _, rfl, _, _, rfl, rfl, n0, ?_⟩⟩⟩
    exact q _ _ (Int.emod_nonneg _ (by omega)) (Int.emod_lt_of_pos _ n0) ⟨_, _, hz, x0, z0, z1⟩ Kd.put
end
end Tb

namespace Tb
open PySem PySem.Spec PyProof.Rows L2
variable {K : PySem.W.Frag}
/-! ### lots: whole numbers below sixteen, bitwise or -/
abbrev bo (x y : Int) : Int := Builtin.bitOr x y
def R16 (x : Int) : Prop := 0 ≤ x ∧ x < 16
theorem bo_fin1 : ∀ a b : Fin 16, (0 ≤ bo ((a : Nat) : Int) ((b : Nat) : Int) ∧ bo ((a : Nat) : Int) ((b : Nat) : Int) < 16) ∧ bo ((a : Nat) : Int) ((b : Nat) : Int) = bo ((b : Nat) : Int) ((a : Nat) : Int) ∧ bo ((a : Nat) : Int) ((a : Nat) : Int) = ((a : Nat) : Int) := by decide +kernel
theorem bo_fin2 : ∀ a b c : Fin 16, bo (bo ((a : Nat) : Int) ((b : Nat) : Int)) ((c : Nat) : Int) = bo ((a : Nat) : Int) (bo ((b : Nat) : Int) ((c : Nat) : Int)) := by decide +kernel
theorem r16 {x : Int} (h : R16 x) : ∃ a : Fin 16, x = ((a : Nat) : Int) := ⟨⟨x.toNat, by have := h.1; have := h.2; omega⟩, by have := h.1; show x = ((x.toNat : Nat) : Int); omega⟩
theorem bo_r {x y : Int} (hx : R16 x) (hy : R16 y) : R16 (bo x y) := by
  obtain ⟨a, rfl⟩ := r16 hx
  obtain ⟨b, rfl⟩ := r16 hy
  exact (bo_fin1 a b).1
theorem bo_comm {x y : Int} (hx : R16 x) (hy : R16 y) : bo x y = bo y x := by
  obtain ⟨a, rfl⟩ := r16 hx
  obtain ⟨b, rfl⟩ := r16 hy
  exact (bo_fin1 a b).2.1
theorem bo_idem {x : Int} (hx : R16 x) : bo x x = x := by
  obtain ⟨a, rfl⟩ := r16 hx
  exact (bo_fin1 a a).2.2
theorem bo_assoc {x y z : Int} (hx : R16 x) (hy : R16 y) (hz : R16 z) : bo (bo x y) z = bo x (bo y z) := by
  obtain ⟨a, rfl⟩ := r16 hx
  obtain ⟨b, rfl⟩ := r16 hy
  obtain ⟨c, rfl⟩ := r16 hz
  exact bo_fin2 a b c
inductive Gen (S : List Int) : Int → Prop
  | base {x : Int} : x ∈ S → Gen S x
  | step {l x : Int} : l ∈ S → Gen S x → Gen S (bo l x)
theorem Gen.r16 {S : List Int} (hS : ∀ x ∈ S, R16 x) {x : Int} (g : Gen S x) : R16 x := by
  induction g with
  | base h => exact hS _ h
  | step h _ ih => exact bo_r (hS _ h) ih
theorem gen_closed {S F : List Int} (hS : ∀ x ∈ S, R16 x) (hF : ∀ x ∈ F, R16 x) (hc : ∀ l ∈ S, ∀ x ∈ F, bo l x ∈ F) {y : Int} (g : Gen S y) : ∀ x ∈ F, bo y x ∈ F := by
  induction g with
  | base h => exact hc _ h
  | step h g ih =>
    intro x hx
    rw [bo_assoc (hS _ h) (g.r16 hS) (hF x hx)]
    exact hc _ h _ (ih x hx)
theorem len16 : ∀ (ns : List Int) (lo : Int), ns.Pairwise (· < ·) → (∀ x ∈ ns, lo ≤ x ∧ x < 16) → lo ≤ 16 → (ns.length : Int) ≤ 16 - lo
  | [], lo, _, _, h => by simp; omega
  | n :: r, lo, hp, hr, h => by
    obtain ⟨h1, h2⟩ := List.pairwise_cons.mp hp
    have hn := hr n List.mem_cons_self
    have := len16 r (n + 1) h2 (fun x hx => ⟨by have := h1 x hx; omega, (hr x (List.mem_cons_of_mem _ hx)).2⟩) (by omega)
    rw [List.length_cons]
    omega
theorem len_16 {ns : List Int} (hp : ns.Pairwise (· < ·)) (hr : ∀ x ∈ ns, R16 x) : ns.length ≤ 16 := by
  have := len16 ns 0 hp hr (by decide)
  omega
structure SetOk (ns : List Int) : Prop where
  inc : ns.Pairwise (· < ·)
  rng : ∀ x ∈ ns, R16 x
  cl : ∀ x ∈ ns, ∀ y ∈ ns, bo x y ∈ ns
def Fr (H : Hp) (p : Addr) : Prop := ∀ xs, H p ≠ some (.lst xs)
theorem Fr.of {A B : Hp} {p : Addr} (k : Kp A B) (h : B p = none) : Fr A p := fun xs z => by rw [k.lst z] at h; cases h
section
variable {P : Program} {w : World} {mg : Str → Option Value} {base : Heap} {f : String → Addr} {a c Pt P8 : Addr} {fd g1 g2 g3 g4 : FuncData}
theorem bi_sorted : bootBuiltins "sorted" = some (.builtin "sorted") := by decide +kernel
theorem bi_set : bootBuiltins "set" = some (.type "set") := by decide +kernel
def spClosed : Sp := fun vs H Q _ => ∃ (l : Addr) (zs : List Int), vs = [.ref l] ∧ H l = some (.lst (zs.map V.int)) ∧ (∀ z ∈ zs, R16 z) ∧ zs.length ≤ 20 ∧ ∀ ns p H', SetOk ns → (∀ z ∈ zs, z ∈ ns) → Fr H p → H' p = some (.lst (ns.map V.int)) → Kp H H' → Q (.ref p) H'
abbrev N15 : List Str := ["_law_lots_here", "_law_found", "_law_lot", "_law_more", "_law_other"]
theorem sc15 : FnScope N15 ["_law_lots_here"] (defScope s__law_closed) := ⟨rfl, rfl, rfl, by decide +kernel, rfl, by decide +kernel, by decide +kernel⟩
theorem sb20 {n : Nat} (h : n ≤ 40) : n + 1 < scanBound := Nat.lt_of_lt_of_le (by omega : n + 1 < 64) (by decide)
theorem ok15 (T : Tx mg f) (F : Fun K "_law_closed" "_law_closed" s__law_closed a fd) : FnOk P w K mg base CX0 1 a fd ["_law_lots_here"] spClosed := by
  refine F.ok sc15 (fun vs H Q E h => ?_) (fun cdv A outer s H vs Q E hr h => ?_)
  · obtain ⟨l, zs, rfl, _⟩ := h
    rfl
  obtain ⟨l, zs, rfl, hl, hz, hzl, q⟩ := h
  refine ⟨_, pss_cons (ps_set (i := 1) sc15.nd rfl (by first | exact Or.inl rfl | exact Or.inr rfl) (pe_callB (cr_sortedSet rfl) rfl (T.bl "sorted" (by decide)) bi_sorted (pa_cons (pe_callTy (cr_setL rfl) rfl (T.bl "set" (by decide)) bi_set (pa_cons (pv 0) pa_nil)) pa_nil)))
    (pss_cons (ps_for PassesOwn.never rfl (pi_list (pe_callTy call_list_of rfl (T.bl "list" (by decide)) bi_list (pa_cons (pv 1) pa_nil))) (pg_name (i := 2) sc15.nd rfl (Or.inr rfl))
      (pss_cons (ps_setLc (i := 3) (own := [("_law_other", 4)]) (g := gName 4) (tt := tYes) rfl sc15.nd rfl rfl (sw_true rfl rfl rfl (by decide +kernel)) (pi_list (pv 1)) (blkOk_by (by change blkC N15 (defScope s__law_closed) _ _ = true; decide +kernel)) (fun _ _ _ _ _ => pg_name (i := 4) sc15.nd rfl (Or.inl rfl)) (fun _ _ _ _ _ => pts_nil) (fun _ _ _ _ _ => pe_op op_or (pv 2) (pv 4)))
        (pss_one (ps_set (i := 1) sc15.nd rfl (by first | exact Or.inl rfl | exact Or.inr rfl) (pe_callB (cr_sortedSet rfl) rfl (T.bl "sorted" (by decide)) bi_sorted (pa_cons (pe_callTy (cr_setL rfl) rfl (T.bl "set" (by decide)) bi_set (pa_cons (pe_op op_cat (pv 1) (pv 3)) pa_nil)) pa_nil))))))
      (pss_one (ps_ret (pv 1)))), ?_⟩
  refine ⟨_, rfl, l, zs, rfl, .inl (.inl hl), sb20 (by omega), fun s1 c1 hs1 hc1 => ⟨s1, _, c1, rfl, upd_same, by omega, fun ns0 p0 inc0 mem0 _ hp0 => ?_⟩⟩
  have mem0' : ∀ k, k ∈ ns0 ↔ k ∈ zs := fun k => (mem0 k).trans decide_eq_true_iff
  have k0 : Kp H (upd (upd H s1 (SetO w s1 (fun j => decide (j ∈ zs)) c1)) p0 (.lst (ns0.map V.int))) := (Kp.new hs1).trans (Kp.new hp0)
  refine ⟨_, rfl, p0, _, rfl, .inl (.inl (.inl upd_same)), fun l1 hl1 => ⟨l1, rfl, ⟨_, .inl (.inl upd_same)⟩, ?_⟩⟩
  have f0 : Fr H p0 := Fr.of (Kp.new hs1) hp0
  have e0 : upd (upd (upd H s1 (SetO w s1 (fun j => decide (j ∈ zs)) c1)) p0 (.lst (ns0.map V.int))) l1 (.lst (ns0.map V.int)) p0 = some (.lst (ns0.map V.int)) := (Kp.new hl1).lst upd_same
  have e1 : upd (upd (upd H s1 (SetO w s1 (fun j => decide (j ∈ zs)) c1)) p0 (.lst (ns0.map V.int))) l1 (.lst (ns0.map V.int)) l1 = some (.lst (ns0.map V.int)) := upd_same
  have k1 := k0.trans (Kp.new (o := .lst (ns0.map V.int)) hl1)
  have r0 : ∀ x ∈ ns0, R16 x := fun x hx => hz x ((mem0' x).mp hx)
  refine for_list (xs := ns0.map V.int) (fun i σ H' => ∃ (fnd : Addr) (ns : List Int) (o2 o3 : Option V), σ = [some (.ref l), some (.ref fnd), o2, o3, none] ∧ (Kp H H' ∧ H' l1 = some (.lst (ns0.map V.int))) ∧ H' fnd = some (.lst (ns.map V.int)) ∧ Fr H fnd ∧ ns.Pairwise (· < ·) ∧ (∀ x ∈ ns0, x ∈ ns) ∧ (∀ x ∈ ns, Gen ns0 x) ∧
      ∀ j y, j < i → ns0[j]? = some y → ∀ x ∈ ns, bo y x ∈ ns)
    ⟨p0, ns0, none, none, rfl, ⟨k1, e1⟩, e0, f0, inc0, fun x hx => hx, fun x hx => .base hx, fun j y h => absurd h (Nat.not_lt_zero _)⟩ (fun i σ H' _ ⟨_, _, _, _, _, k, _⟩ => .inl (.inl k.2)) ?_ ?_
  · rintro i x σ H2 hx ⟨fnd, ns, o2, o3, rfl, ⟨k2, hl2⟩, hfnd, frf, inc, sub, gen, cls⟩
    rw [List.getElem?_map] at hx
    obtain ⟨y, hy, rfl⟩ := Option.map_eq_some_iff.mp hx
    have ym : y ∈ ns0 := List.mem_of_getElem? hy
    have rns : ∀ x ∈ ns, R16 x := fun x hx => (gen x hx).r16 r0
    have l16 := len_16 inc rns
    refine ⟨_, rfl, fnd, rfl, ⟨_, .inl (.inl hfnd)⟩, fun D hD => ?_⟩
    refine lc_list (xs := ns.map V.int) (fun i H' => Kp H2 H' ∧ H' D = some (.lst ((ns.take i).map fun x => .int (bo y x)))) ⟨Kp.new hD, upd_same⟩ (fun i H' _ v => .inl (.inl (v.1.lst hfnd))) ?_ ?_
    · rintro j z H3 hz ⟨k3, hD3⟩
      rw [List.getElem?_map] at hz
      obtain ⟨z, hz', rfl⟩ := Option.map_eq_some_iff.mp hz
      refine ⟨rfl, ?_⟩
      refine ⟨_, rfl, _, rfl, _, _, rfl, rfl, _, hD3, by rw [sizeLine_eq, List.length_map, List.length_take]; omega, k3.over hD, ?_⟩
      rw [List.take_add_one, hz', List.map_append]
      exact upd_same
    · rintro H3 ⟨k3, hD3⟩
      rw [List.length_map, List.take_length] at hD3
      have e3 : ns.map (fun x => V.int (bo y x)) = (ns.map (bo y)).map V.int := by rw [List.map_map]; rfl
      rw [e3] at hD3
      refine ⟨_, rfl, _, rfl, fnd, D, _, _, rfl, rfl, k3.lst hfnd, hD3, by rw [sizeLine_eq, List.length_map, List.length_map, List.length_map]; omega, fun q1 hq1 => ?_⟩
      rw [← List.map_append]
      refine ⟨q1, _, rfl, .inl (.inl upd_same), sb20 (by rw [List.length_append, List.length_map]; omega), fun s2 c2 hs2 hc2 => ⟨s2, _, c2, rfl, upd_same, by rw [List.length_append, List.length_map] at hc2; omega, fun ns' p' inc' mem' _ hp' => ?_⟩⟩
      have kk := ((k3.trans (Kp.new (o := .lst ((ns ++ ns.map (bo y)).map V.int)) hq1)).trans (Kp.new (o := SetO w s2 (fun j => decide (j ∈ ns ++ ns.map (bo y))) c2) hs2))
      have m' : ∀ k, k ∈ ns' ↔ (k ∈ ns ∨ ∃ x ∈ ns, bo y x = k) := fun k => by
        rw [mem' k, decide_eq_true_iff, List.mem_append, List.mem_map]
      refine ⟨p', ns', _, _, rfl, ⟨(k2.trans kk).trans (Kp.new hp'), (kk.trans (Kp.new hp')).lst hl2⟩, upd_same, Fr.of (k2.trans kk) hp', inc', fun x hx => (m' x).mpr (.inl (sub x hx)), fun x hx => ?_, fun j v hj hv u xm => ?_⟩
      · rcases (m' x).mp hx with h | ⟨u, hu, rfl⟩
        · exact gen x h
        · exact .step ym (gen u hu)
      · rw [m']
        have rv := r0 v (List.mem_of_getElem? hv)
        have ry := r0 y ym
        by_cases ji : j = i
        · rw [ji, hy] at hv
          have ev : y = v := Option.some.inj hv
          subst ev
          rcases (m' u).mp xm with h | ⟨t, ht, rfl⟩
          · exact .inr ⟨u, h, rfl⟩
          · exact .inr ⟨t, ht, by rw [← bo_assoc ry ry (rns t ht), bo_idem ry]⟩
        · have hj' : j < i := by omega
          rcases (m' u).mp xm with h | ⟨t, ht, rfl⟩
          · exact .inl (cls j v hj' hv u h)
          · exact .inr ⟨bo v t, cls j v hj' hv t ht, by rw [← bo_assoc ry rv (rns t ht), bo_comm ry rv, bo_assoc rv ry (rns t ht)]⟩
  · rintro σ H2 ⟨fnd, ns, o2, o3, rfl, ⟨k2, hl2⟩, hfnd, frf, inc, sub, gen, cls⟩
    rw [List.length_map] at cls
    have rns : ∀ x ∈ ns, R16 x := fun x hx => (gen x hx).r16 r0
    have cl0 : ∀ l ∈ ns0, ∀ x ∈ ns, bo l x ∈ ns := fun v hv x hx => by
      obtain ⟨j, hj⟩ := List.mem_iff_getElem?.mp hv
      exact cls j v (List.getElem?_eq_some_iff.mp hj).1 hj x hx
    refine ⟨_, rfl, q ns fnd _ ⟨inc, rns, fun x hx => gen_closed r0 rns cl0 (gen x hx)⟩ (fun z hz => sub z ((mem0' z).mpr hz)) frf hfnd k2⟩
end
end Tb

namespace Tb
open PySem PySem.Spec PyProof.Rows L2
variable {K : PySem.W.Frag}
section
variable {P : Program} {w : World} {mg : Str → Option Value} {base : Heap} {f : String → Addr} {a c Pt P8 : Addr} {fd g1 g2 g3 g4 : FuncData}
theorem erasePerm : ∀ (ns : List Int) (j : Nat) (h : j < ns.length), (ns[j] :: ns.eraseIdx j).Perm ns
  | [], _, h => absurd h (Nat.not_lt_zero _)
  | _ :: _, 0, _ => List.Perm.refl _
  | n :: r, j + 1, h => (List.Perm.swap n (r[j]'(by simpa using h)) (r.eraseIdx j)).trans ((erasePerm r j (by simpa using h)).cons n)
theorem mapErase (g : Int → V) : ∀ (ns : List Int) (j : Nat), (ns.map g).eraseIdx j = (ns.eraseIdx j).map g
  | [], _ => rfl
  | _ :: _, 0 => rfl
  | n :: r, j + 1 => by
    show g n :: (r.map g).eraseIdx j = g n :: (r.eraseIdx j).map g
    rw [mapErase g r j]
theorem cut1 (x : V) (xs : List V) : cutV (x :: xs) (some 1) none = xs := by
  have h : ∀ n d, HT.sIx n d (some 1) = min 1 n := fun n d => HT.sIx_nat n d 1
  unfold cutV
  rw [h, HT.sIx_none]
  have : min 1 (x :: xs).length = 1 := by simp
  rw [this]
  simp
theorem Fr.ofD {A B : Hp} {p t : Addr} (k : Kd p A B) (n : t ≠ p) (h : B t = none) : Fr A t := fun xs z => by rw [Kd.lst k n z] at h; cases h
theorem kp_del_in {H : Hp} {p : Addr} : Kp (del H p) H := Kp.of del_sub
def spLots : Sp := fun vs H Q _ => ∃ (p : Addr), vs = [.ref p] ∧ PotAt H p ∧ ∀ (ts : List Int) t H', 1 ≤ ts.length → ts.length ≤ 8 → (∀ x ∈ ts, R16 x) → (∀ x ∈ ts, ∀ y ∈ ts, bo x y ∈ ts) → ts.Nodup → ts.head? = some 0 → t ≠ p → Fr H t → H' t = some (.lst (ts.map V.int)) → PotAt H' p → Kd p H H' → Q (.ref t) H'
abbrev N16 : List Str := ["_law_pot_here", "_law_found", "_law_turn", "_law_longer", "_law_left", "_law_told"]
theorem sc16 : FnScope N16 ["_law_pot_here"] (defScope s__law_lots) := ⟨rfl, rfl, rfl, by decide +kernel, rfl, by decide +kernel, by decide +kernel⟩
theorem ne_of_fr {H : Hp} {t p : Addr} {xs : List V} (h : Fr H t) (hp : H p = some (.lst xs)) : t ≠ p := fun z => h xs (by rw [z]; exact hp)
theorem dpInts {H : Hp} : ∀ ns : List Int, DpAll K H (ns.map V.int) (ns.map PyData.int)
  | [] => .nil
  | n :: r => .cons (.int n) (dpInts r)
theorem e0Ints (ns : List Int) : ∀ e ∈ ns.map PyData.int, E0k e := fun e he => by
  obtain ⟨x, _, rfl⟩ := List.mem_map.mp he
  exact ⟨rfl, Nat.zero_le _⟩
theorem ok16 (T : Tx mg f) (F : Fun K "_law_lots" "_law_lots" s__law_lots a fd) (G13 : FnOk P w K mg base CX0 1 (f "_law_draw") g1 ["_law_pot_here", "_law_sides"] spDraw) (B13 : Binds K g1 ["_law_pot_here", "_law_sides"] []) (kp13 : PySem.W.keepIn K (.ref (f "_law_draw")) = true)
    (G15 : FnOk P w K mg base CX0 1 (f "_law_closed") g2 ["_law_lots_here"] spClosed) (B15 : Binds K g2 ["_law_lots_here"] []) (kp15 : PySem.W.keepIn K (.ref (f "_law_closed")) = true) : FnOk P w K mg base CX0 2 a fd ["_law_pot_here"] spLots := by
  refine F.ok sc16 (fun vs H Q E h => ?_) (fun cdv A outer s H vs Q E hr h => ?_)
  · obtain ⟨l, rfl, _⟩ := h
    rfl
  obtain ⟨p, rfl, hp, q⟩ := h
  refine ⟨_, pss_cons (ps_set (i := 1) sc16.nd rfl (Or.inl rfl) (pe_lst (pa_cons pe_int pa_nil)))
    (pss_cons (ps_for PassesOwn.never rfl (pi_range1 rfl (T.bl "range" (by decide)) (pa_cons (pe_call G13 hr rfl (T.fn "_law_draw" (by decide)) kp13 B13 .nil pass0 (pa_cons (pv 0) (pa_cons pe_int pa_nil))) pa_nil)) (pg_name (i := 2) sc16.nd rfl (Or.inl rfl))
      (pss_cons (ps_set (i := 3) sc16.nd rfl (Or.inl rfl) (pe_call G15 hr rfl (T.fn "_law_closed" (by decide)) kp15 B15 .nil pass0 (pa_cons (pe_op op_cat (pv 1) (pe_lst (pa_cons (pe_op op_add pe_int (pe_call G13 hr rfl (T.fn "_law_draw" (by decide)) kp13 B13 .nil pass0 (pa_cons (pv 0) (pa_cons pe_int pa_nil)))) pa_nil))) pa_nil)))
        (pss_one (ps_if (pt_cmpR op_le (pe_callB (cr_len (K := K) rfl) rfl (T.bl "len" (by decide)) PySem.boot_len (pa_cons (pv 3) pa_nil)) pe_int (nomark _)) (pss_one (ps_set (i := 1) sc16.nd rfl (Or.inl rfl) (pv 3))) pss_nil))))
    (pss_cons (ps_par (i := 4) (j := 5) rfl sc16.nd rfl rfl (by decide) rfl rfl (pa_cons (pe_slice sl_list (pv 1) (po_some pe_int) po_none) (pa_cons (pe_lst (pa_cons pe_int pa_nil)) pa_nil)) (by rfl))
    (pss_cons (ps_while PassesOwn.never (pt_cmpR (op_neD hr.units) (pv 4) (pe_lst pa_nil) (nomark _)) (pss_one (ps_expr (pe_bm PySem.F.plainAttrs_list PySem.F.slot_list_append PySem.F.type_list_append mt_append (pv 5) (pa_cons
        (pe_bm PySem.F.plainAttrs_list PySem.F.slot_list_pop PySem.F.type_list_pop mt_popAt (pv 4) (pa_cons (pe_call G13 hr rfl (T.fn "_law_draw" (by decide)) kp13 B13 .nil pass0 (pa_cons (pv 0) (pa_cons (pe_callB (cr_len (K := K) rfl) rfl (T.bl "len" (by decide)) PySem.boot_len (pa_cons (pv 4) pa_nil)) pa_nil))) pa_nil)) pa_nil)))))
      (pss_one (ps_ret (pv 5)))))), ?_⟩
  refine ⟨by show 1 ≤ sizeLine; decide, fun f0 hf0 => ?_⟩
  have kd0 : Kd p H (upd H f0 (.lst [.int 0])) := Kd.new hf0 hp.nn
  have np0 : f0 ≠ p := fun z => hp.nn (by rw [← z]; exact hf0)
  refine ⟨_, rfl, p, 6, rfl, by decide, by decide, hp.new hf0, fun r H1 r0 r1 hp1 k1 => ⟨r, rfl, by omega, by omega, ?_⟩⟩
  refine for_range (n := r.toNat) (fun i σ H' => ∃ (fnd : Addr) (ns : List Int) (o2 o3 : Option V), σ = [some (.ref p), some (.ref fnd), o2, o3, none, none] ∧ Kd p H H' ∧ PotAt H' p ∧ fnd ≠ p ∧ H' fnd = some (.lst (ns.map V.int)) ∧ SetOk ns ∧ 0 ∈ ns ∧ ns.length ≤ 8)
    ⟨f0, [0], none, none, rfl, kd0.trans k1, hp1, np0, Kd.lst k1 np0 upd_same, ⟨by simp, fun x hx => by simp at hx; subst hx; exact ⟨by decide, by decide⟩, fun x hx y hy => by simp at hx hy; subst hx hy; decide⟩, by simp, by simp⟩ ?_ ?_
  · rintro i σ H2 hi ⟨fnd, ns, o2, o3, rfl, k2, hp2, nf, hf, so, z0, l8⟩
    refine ⟨_, rfl, _, rfl, p, 15, rfl, by decide, by decide, hp2, fun d H3 d0 d1 hp3 k3 => ?_⟩
    refine ⟨_, _, rfl, rfl, by show 1 ≤ sizeLine; decide, fun s1 hs1 => ?_⟩
    have hf3 : H3 fnd = some (.lst (ns.map V.int)) := Kd.lst k3 nf hf
    have k4 : Kp H3 (upd H3 s1 (.lst [.int (1 + d)])) := Kp.new hs1
    refine ⟨fnd, s1, _, _, rfl, rfl, k4.lst hf3, upd_same, by rw [sizeLine_eq, List.length_map]; simp; omega, fun s2 hs2 => ?_⟩
    have k5 := k4.trans (Kp.new (o := .lst (ns.map V.int ++ [.int (1 + d)])) hs2)
    refine ⟨s2, ns ++ [1 + d], rfl, by rw [upd_same]; simp, fun z hz => ?_, by rw [List.length_append]; simp; omega, fun ns' p' H4 so' sub' fr' hp' k6 => ?_⟩
    · rcases List.mem_append.mp hz with h | h
      · exact so.rng z h
      · have : z = 1 + d := by simpa using h
        rw [this]
        exact ⟨by omega, by omega⟩
    · have k7 := k5.trans k6
      have hp4 : PotAt H4 p := hp3.kp k7
      have kd4 : Kd p H H4 := k2.trans (k3.trans (k7.kd hp3.ntbl))
      have np' : p' ≠ p := by
        obtain ⟨x, y, e, _⟩ := hp3.kp k5
        exact ne_of_fr fr' e
      refine ⟨_, rfl, p', _, rfl, .inl (.inl (.inl hp')), _, _, rfl, rfl, _, rfl, ite2 (fun c => ?_) (fun c => ?_)⟩
      · have c8 : ((ns'.map V.int).length : Int) ≤ 8 := by simpa using c
        rw [List.length_map] at c8
        exact ⟨_, rfl, p', ns', _, _, rfl, kd4, hp4, np', hp', so', sub' 0 (List.mem_append_left _ z0), by omega⟩
      · exact ⟨fnd, ns, _, _, rfl, kd4, hp4, nf, k7.lst hf3, so, z0, l8⟩
  · rintro σ H2 ⟨fnd, ns, o2, o3, rfl, k2, hp2, nf, hf, so, z0, l8⟩
    have ex0 : ∃ tl, ns = 0 :: tl := by
      cases ns with
      | nil => cases z0
      | cons n0 tl =>
        rcases List.mem_cons.mp z0 with h | h
        · exact ⟨tl, by rw [h]⟩
        · have := (List.pairwise_cons.mp so.inc).1 0 h
          have := (so.rng n0 List.mem_cons_self).1
          omega
    obtain ⟨tl, rfl⟩ := ex0
    refine ⟨_, rfl, 1, rfl, fnd, _, rfl, .inl (.inl hf), fun lf hlf => ⟨by show 1 ≤ sizeLine; decide, fun td htd => ⟨_, _, rfl, ?_⟩⟩⟩
    have ecut : cutV (((0 : Int) :: tl).map V.int) (some 1) none = tl.map V.int := cut1 _ _
    rw [ecut] at htd ⊢
    have hlf' : upd H2 lf (.lst (tl.map V.int)) lf = some (.lst (tl.map V.int)) := upd_same
    have nlt : lf ≠ td := ne_of_none hlf' htd
    have nlp : lf ≠ p := fun z => hp2.nn (by rw [← z]; exact hlf)
    have ntp : td ≠ p := fun z => (hp2.new (o := .lst (tl.map V.int)) hlf).nn (by rw [← z]; exact htd)
    have kA : Kd p H (upd H2 lf (.lst (tl.map V.int))) := k2.trans (Kd.new hlf hp2.nn)
    have frt : Fr H td := Fr.ofD kA ntp htd
    refine ⟨fun m σ H' => ∃ (ls ts : List Int) (v1 v2 v3 : Option V), m = ls.length ∧ σ = [some (.ref p), v1, v2, v3, some (.ref lf), some (.ref td)] ∧ H' lf = some (.lst (ls.map V.int)) ∧ H' td = some (.lst (ts.map V.int)) ∧ (ts ++ ls).Perm (0 :: tl) ∧ ts.head? = some 0 ∧ PotAt H' p ∧ Kd p H2 H',
      ⟨_, tl, [0], _, _, _, rfl, rfl, by rw [upd_ne nlt]; exact upd_same, upd_same, List.Perm.refl _, rfl, (hp2.new hlf).new htd, (Kd.new hlf hp2.nn).trans (Kd.new htd (hp2.new hlf).nn)⟩, ?_⟩
    rintro m σ H3 ⟨ls, ts, v1, v2, v3, rfl, rfl, hl3, ht3, pm, hd0, hp3, k3⟩
    have lls : ls.length ≤ 8 := by
      have := pm.length_eq
      rw [List.length_append] at this
      omega
    refine ⟨_, rfl, Nat.zero_le _, fun e1 he1 => ?_⟩
    have kE : Kp H3 (upd H3 e1 (.lst [])) := Kp.new he1
    refine ⟨.list (ls.map .int), .list [], .lst (.inl (.inl (kE.lst hl3))) (dpInts ls), .lst (.inl (.inl upd_same)) .nil, shaped_list (e0Ints ls), shaped_list (fun e he => by cases he), _, rfl, ?_⟩
    rw [eqv_nil]
    have hpE := hp3.kp kE
    have kdE := k3.trans (kE.kd hp3.ntbl)
    refine ite2 (fun c => ⟨_, fun σ' H' h => h, ?_⟩) (fun c => ?_)
    rotate_left
    · have : ls = [] := by
        cases ls with
        | nil => rfl
        | cons _ _ => exact absurd rfl c
      subst this
      rw [List.append_nil] at pm
      refine ⟨_, rfl, q ts td _ ?_ ?_ (fun x hx => so.rng x (pm.mem_iff.mp hx)) (fun x hx y hy => pm.mem_iff.mpr (so.cl x (pm.mem_iff.mp hx) y (pm.mem_iff.mp hy))) (pm.nodup_iff.mpr (so.inc.imp fun h => by omega)) hd0 ntp frt (kE.lst ht3) hpE (k2.trans kdE)⟩
      · rw [pm.length_eq]; simp
      · rw [pm.length_eq]; exact l8
    · have pos : 0 < ls.length := by
        cases ls with
        | nil => cases c
        | cons _ _ => simp
      refine ⟨_, rfl, .inl ⟨rfl, _, .inl (.inl (kE.lst ht3))⟩, _, rfl, .inl ⟨rfl, _, .inl (.inl (kE.lst hl3))⟩, _, rfl, _, rfl, lf, _, rfl, .inl (.inl (.inl (kE.lst hl3))), p, _, rfl, by rw [List.length_map]; omega, by rw [List.length_map]; omega, hpE, fun d H4 d0 d1 hp4 k4 => ?_⟩
      rw [List.length_map] at d1
      have hl4 := Kd.lst k4 nlp (kE.lst hl3)
      have ht4 := Kd.lst k4 ntp (kE.lst ht3)
      have hd : d.toNat < ls.length := by omega
      refine ⟨lf, _, d, d.toNat, .int ls[d.toNat], rfl, rfl, hl4, by omega, by omega, seqIndex_of d0 (by rw [List.length_map]; exact d1), by rw [List.getElem?_map, List.getElem?_eq_getElem hd]; rfl, ?_⟩
      rw [mapErase]
      have ht5 : upd H4 lf (.lst ((ls.eraseIdx d.toNat).map V.int)) td = some (.lst (ts.map V.int)) := by rw [upd_ne (Ne.symm nlt)]; exact ht4
      have lts : ts.length ≤ 8 := by
        have := pm.length_eq
        rw [List.length_append] at this
        simp at this l8
        omega
      refine ⟨td, _, _, rfl, rfl, ht5, by rw [sizeLine_eq, List.length_map]; omega, (ls.eraseIdx d.toNat).length, by rw [List.length_eraseIdx_of_lt hd]; omega, ls.eraseIdx d.toNat, ts ++ [ls[d.toNat]], v1, v2, v3, rfl, rfl, by rw [upd_ne nlt]; exact upd_same, by rw [List.map_append]; exact upd_same, ?_, by rw [List.head?_append, hd0]; rfl, ?_, ?_⟩
      · refine List.Perm.trans ?_ pm
        rw [List.append_assoc]
        exact List.Perm.append_left ts (erasePerm ls d.toNat hd)
      · obtain ⟨x, y, e, r⟩ := hp4
        exact ⟨x, y, by rw [upd_ne (Ne.symm ntp), upd_ne (Ne.symm nlp)]; exact e, r⟩
      · show Kp (del H2 p) (del (upd (upd H4 lf _) td _) p)
        rw [upd_del ntp, upd_del nlp]
        exact ((kdE.trans k4).over (del_none hlf)).over (del_none (none_of htd))
end
end Tb

namespace Tb
open PySem PySem.Spec PyProof.Rows L2
variable {K : PySem.W.Frag}
/-- the first place of z -/
def plc : List Int → Int → Int
  | [], _ => 0
  | t :: r, z => if t = z then 0 else plc r z + 1
theorem plc_at : ∀ (ts : List Int) (z : Int) (j : Nat), ts[j]? = some z → (∀ m z', m < j → ts[m]? = some z' → z' ≠ z) → plc ts z = j
  | t :: r, z, 0, h, _ => by
    have : t = z := by simpa using h
    unfold plc
    rw [if_pos this]; rfl
  | t :: r, z, j + 1, h, n => by
    have ne : t ≠ z := n 0 t (by omega) rfl
    unfold plc
    rw [if_neg ne, plc_at r z j (by simpa using h) (fun m z' hm hz => n (m + 1) z' (by omega) (by simpa using hz))]
    omega
def rowT (ts : List Int) (x : Int) : List Int := ts.map fun y => plc ts (bo x y)
def rowsT (ts : List Int) : List (List Int) := ts.map (rowT ts)
section
variable {P : Program} {w : World} {mg : Str → Option Value} {base : Heap} {f : String → Addr} {a c Pt P8 : Addr} {fd g1 g2 g3 g4 : FuncData}
/-! ### _law_rows -/
def rowD (r : List Int) : PyData := .list (r.map PyData.int)
def mat (rs : List (List Int)) : PyData := .list (rs.map rowD)
def spRows (K : PySem.W.Frag) : Sp := fun vs H Q _ => ∃ (l : Addr) (ts : List Int) (p : Addr) (xp : List V), vs = [.ref l] ∧ H p = some (.lst xp) ∧ H l = some (.lst (ts.map V.int)) ∧ 1 ≤ ts.length ∧ ts.length ≤ 8 ∧ (∀ x ∈ ts, ∀ y ∈ ts, bo x y ∈ ts) ∧
  ∀ (rs : List (List Int)) t H', rs = rowsT ts → rs.length = ts.length → (∀ r ∈ rs, r.length = ts.length ∧ ∀ e ∈ r, 0 ≤ e ∧ e < 8) → Rp K (del H' p) (.ref t) (mat rs) → Fr H t → Kp H H' → Q (.ref t) H'
abbrev N17 : List Str := ["_law_lots_here", "_law_other", "_law_one"]
theorem sc17 : FnScope N17 ["_law_lots_here"] (defScope s__law_rows) := ⟨rfl, rfl, rfl, by decide +kernel, rfl, by decide +kernel, by decide +kernel⟩
theorem flat_ints (ts : List Int) : (ts.map V.int).all flatV = true := by
  rw [List.all_eq_true]
  intro x hx
  obtain ⟨i, _, rfl⟩ := List.mem_map.mp hx
  rfl
theorem first_at : ∀ (ts : List Int) (z : Int), z ∈ ts → ∃ j, ts[j]? = some z ∧ j < ts.length ∧ ∀ m z', m < j → ts[m]? = some z' → z' ≠ z
  | [], _, h => by cases h
  | t :: r, z, h => by
    by_cases e : t = z
    · exact ⟨0, by rw [e]; rfl, by simp, fun m _ hm => absurd hm (Nat.not_lt_zero _)⟩
    · have hr : z ∈ r := by
        rcases List.mem_cons.mp h with h | h
        · exact absurd h.symm e
        · exact h
      obtain ⟨j, h1, h2, h3⟩ := first_at r z hr
      refine ⟨j + 1, by simpa using h1, by simpa using h2, fun m z' hm hz => ?_⟩
      cases m with
      | zero =>
        have : t = z' := by simpa using hz
        rw [← this]; exact e
      | succ m => exact h3 m z' (by omega) (by simpa using hz)
theorem ok17 (T : Tx mg f) (F : Fun K "_law_rows" "_law_rows" s__law_rows a fd) : FnOk P w K mg base CX0 1 a fd ["_law_lots_here"] (spRows K) := by
  refine F.ok sc17 (fun vs H Q E h => ?_) (fun cdv A outer s H vs Q E hr h => ?_)
  · obtain ⟨l, ts, _, _, rfl, _⟩ := h
    rfl
  obtain ⟨l, ts, p, xp, rfl, hp, hl, n1, n8, hc, q⟩ := h
  refine ⟨_, pss_one (ps_ret (pe_lc (own := [("_law_one", 2)]) (g := gName 2) (tt := tYes) (te := tLc (iList K (tVar 0)) (gName 1) tYes (tBM K "list" (rIndex K) (tVar 0) (tCons (tOp (rI0 fun i j => .int (Builtin.bitOr i j)) (tVar 2) (tVar 1)) tNil)) [1]) rfl sc17.nd (pi_list (pv 0)) (blkOk_by (by change blkC N17 (defScope s__law_rows) _ _ = true; decide +kernel)) (fun _ _ _ _ _ => pg_name (i := 2) sc17.nd rfl (by first | exact Or.inl rfl | exact Or.inr rfl)) (fun _ _ _ _ _ => pts_nil)
    (fun _ _ _ _ _ => ?_))), ?_⟩
  · exact pe_lc (own := [("_law_other", 1)]) (g := gName 1) (tt := tYes) rfl sc17.nd (pi_list (pv 0)) (blkOk_by (by change blkC N17 (relS _ (defScope s__law_rows)) _ _ = true; decide +kernel)) (fun _ _ _ _ _ => pg_name (i := 1) sc17.nd rfl (by first | exact Or.inl rfl | exact Or.inr rfl)) (fun _ _ _ _ _ => pts_nil)
      (fun _ _ _ _ _ => pe_bm PySem.F.plainAttrs_list PySem.F.slot_list_index PySem.F.type_list_index mt_index (pv 0) (pa_cons (pe_op op_or (pv 2) (pv 1)) pa_nil))
  refine ⟨_, rfl, l, rfl, ⟨_, .inl (.inl hl)⟩, fun D hD => ?_⟩
  have nDp : D ≠ p := fun z => by rw [z, hp] at hD; cases hD
  refine lc_list (xs := ts.map V.int) (fun i H' => Kp H H' ∧ ∃ (acc : List V) (rs : List (List Int)), H' D = some (.lst acc) ∧ RpL K (del (del H' D) p) acc (rs.map rowD) ∧ rs.length = i ∧ rs = (ts.take i).map (rowT ts) ∧ acc.length = i ∧ ∀ r ∈ rs, r.length = ts.length ∧ ∀ e ∈ r, 0 ≤ e ∧ e < 8)
    ⟨Kp.new hD, [], [], upd_same, .nil, rfl, rfl, rfl, fun r hr => by cases hr⟩ (fun i H' _ v => .inl (.inl (v.1.lst hl))) ?_ ?_
  · rintro i x H1 hx ⟨k1, acc, rs, hacc, rp, lrs, ers, lacc, hrs⟩
    have hi := (List.getElem?_eq_some_iff.mp hx).1
    rw [List.length_map] at hi
    rw [List.getElem?_map] at hx
    obtain ⟨x, hx', rfl⟩ := Option.map_eq_some_iff.mp hx
    have xm := List.mem_of_getElem? hx'
    refine ⟨rfl, ?_⟩
    refine ⟨_, rfl, l, rfl, ⟨_, .inl (.inl (k1.lst hl))⟩, fun E hE => ?_⟩
    have nEp : E ≠ p := fun z => by rw [z, k1.lst hp] at hE; cases hE
    have nED : E ≠ D := fun z => by rw [z, hacc] at hE; cases hE
    refine lc_list (xs := ts.map V.int) (fun j H' => Kp H1 H' ∧ ∃ r : List Int, H' E = some (.lst (r.map V.int)) ∧ r.length = j ∧ r = (ts.take j).map (fun y => plc ts (bo x y)) ∧ ∀ e ∈ r, 0 ≤ e ∧ e < 8)
      ⟨Kp.new hE, [], upd_same, rfl, rfl, fun e he => by cases he⟩ (fun i H' _ v => .inl (.inl ((k1.trans v.1).lst hl))) ?_ ?_
    · rintro j y H2 hy ⟨k2, r, hE2, lr, er, hre⟩
      have hj := (List.getElem?_eq_some_iff.mp hy).1
      rw [List.length_map] at hj
      rw [List.getElem?_map] at hy
      obtain ⟨y, hy', rfl⟩ := Option.map_eq_some_iff.mp hy
      have ym := List.mem_of_getElem? hy'
      obtain ⟨m, m1, m2, m3⟩ := first_at ts (bo x y) (hc x xm y ym)
      have hl2 := (k1.trans k2).lst hl
      refine ⟨rfl, ?_⟩
      refine ⟨_, rfl, .inl ⟨rfl, _, .inl (.inl hl2)⟩, _, rfl, _, rfl, _, _, rfl, rfl, l, _, _, m, .int (bo x y), rfl, rfl, .inl (.inl hl2), rfl, flat_ints ts, by rw [List.getElem?_map, m1]; rfl, by show (bo x y == bo x y) = true; exact beq_self_eq_true _, fun m' z' hm' hz' => ?_, ?_⟩
      · rw [List.getElem?_map] at hz'
        obtain ⟨z', h1, rfl⟩ := Option.map_eq_some_iff.mp hz'
        show (z' == bo x y) = false
        exact beq_false_of_ne (m3 m' z' hm' h1)
      · refine ⟨_, hE2, by rw [sizeLine_eq, List.length_map]; omega, k2.over hE, r ++ [(m : Int)], by rw [List.map_append]; exact upd_same, by rw [List.length_append, lr]; rfl, (by
        have ep := plc_at ts _ m m1 m3
        rw [er, List.take_add_one, hy', List.map_append, ← ep]; rfl), fun e he => ?_⟩
        rcases List.mem_append.mp he with h | h
        · exact hre e h
        · have : e = (m : Int) := by simpa using h
          rw [this]
          omega
    · rintro H2 ⟨k2, r, hE2, lr, er, hre⟩
      rw [List.length_map] at lr
      have kd : Kp (del (del H1 D) p) (del (del H2 D) p) := Kp.del (k2.kd fun ps z => by rw [hacc] at z; cases z) p fun ps z => by rw [del_ne (Ne.symm nDp), k1.lst hp] at z; cases z
      have dE : del (del H2 D) p E = some (.lst (r.map V.int)) := by rw [del_ne nEp, del_ne nED]; exact hE2
      refine ⟨acc, k2.lst hacc, by rw [sizeLine_eq, lacc]; omega, (k1.trans k2).over hD, acc ++ [.ref E], rs ++ [r], upd_same, ?_, by rw [List.length_append, lrs]; rfl, (by
        rw [ers, List.take_add_one, hx', List.map_append, er, List.length_map, List.take_length]; rfl), by rw [List.length_append, lacc]; rfl, fun r' hr' => ?_⟩
      · rw [del_upd, List.map_append]
        exact (rp.kp kd).app (.cons (.lst dE (RpL.ints r)) .nil)
      · rcases List.mem_append.mp hr' with h | h
        · exact hrs r' h
        · have : r' = r := by simpa using h
          rw [this]
          exact ⟨lr, hre⟩
  · rintro H1 ⟨k1, acc, rs, hacc, rp, lrs, ers, lacc, hrs⟩
    rw [List.length_map] at lrs
    exact q rs D _ (by rw [ers, List.length_map, List.take_length]; rfl) lrs hrs (.lst (by rw [del_ne nDp]; exact hacc) (rp.kp (Kp.of fun b o e => by
      obtain ⟨e1, e2⟩ := del_some e
      rw [del_ne e1]
      exact (del_some e2).2))) (fun xs z => by rw [hD] at z; cases z) k1
end
end Tb

namespace Tb
open PySem PySem.Spec PyProof.Rows L2
variable {K : PySem.W.Frag}
/-! ### what the defs of partsmet.tables tell of a table, by its cells -/
def rng (n : Nat) : List Int := (List.range n).map fun (i : Nat) => (i : Int)
theorem rng_succ (n : Nat) : rng (n + 1) = rng n ++ [(n : Int)] := by
  unfold rng
  rw [List.range_succ, List.map_append]; rfl
theorem rng_mem {n : Nat} {x : Int} : x ∈ rng n ↔ 0 ≤ x ∧ x.toNat < n := by
  unfold rng
  rw [List.mem_map]
  constructor
  · rintro ⟨i, hi, rfl⟩
    rw [List.mem_range] at hi
    omega
  · rintro ⟨h0, h1⟩
    exact ⟨x.toNat, List.mem_range.mpr h1, by omega⟩
theorem rng_len (n : Nat) : (rng n).length = n := by unfold rng; rw [List.length_map, List.length_range]
theorem filt_succ (p : Int → Bool) (i : Nat) : (rng (i + 1)).filter p = (rng i).filter p ++ (if p (i : Int) = true then [(i : Int)] else []) := by
  rw [rng_succ, List.filter_append]
  cases h : p (i : Int) <;> simp [h]
def In (n : Nat) (x : Int) : Prop := 0 ≤ x ∧ x.toNat < n
def wi (d : PyData) (x y : Int) : Bool := decide (cell d x.toNat y.toNat = y)
def withinL (d : PyData) (n : Nat) (y : Int) : List Int := (rng n).filter fun x => wi d x y
def lessL (ns : List Int) (y : Int) : List Int := ns.filter fun x => !decide (x = y)
def joinL (d : PyData) (ns : List Int) : Int := ns.foldl (fun t m => cell d t.toNat m.toNat) 0
theorem joinL_in {d : PyData} {n : Nat} (M : Mx d n) : ∀ (ns : List Int) (t : Int), (∀ m ∈ ns, In n m) → In n t → In n (ns.foldl (fun t m => cell d t.toNat m.toNat) t)
  | [], _, _, h => h
  | m :: r, t, hn, h => by
    have hm := hn m List.mem_cons_self
    obtain ⟨_, c0, c1⟩ := M.cel t.toNat m.toNat h.2 hm.2
    exact joinL_in M r _ (fun x hx => hn x (List.mem_cons_of_mem _ hx)) ⟨c0, by show (cell d t.toNat m.toNat).toNat < n; omega⟩
section
variable {P : Program} {w : World} {mg : Str → Option Value} {base : Heap} {f : String → Addr} {a c Pt P8 : Addr} {fd g1 g2 g3 g4 : FuncData}
/-- a table is at hand -/
def Tbl (K : PySem.W.Frag) (H : Hp) (x : V) (d : PyData) (n : Nat) : Prop := Rp K H x d ∧ Mx d n
theorem Tbl.kp {H H' : Hp} {x : V} {d : PyData} {n : Nat} (h : Tbl K H x d n) (k : Kp H H') : Tbl K H' x d n := ⟨h.1.kp k, h.2⟩
theorem Tbl.row {H : Hp} {x : V} {d : PyData} {n : Nat} (h : Tbl K H x d n) {i : Int} {R : VK} (hi : In n i) (hR : ∀ v, Rp K H v (rowAt d i.toNat) → R v H) : rIxL K x (.int i) H R ∨ rIxT K x (.int i) H R := ix_rp h.1 h.2.sq hi.1 (by rw [h.2.len]; exact hi.2) hR
theorem Tbl.cell {H : Hp} {x : V} {d : PyData} {n : Nat} (h : Tbl K H x d n) {i j : Int} {Q : VK} {r : V} (rr : Rp K H r (rowAt d i.toNat)) (hi : In n i) (hj : In n j) (q : Q (.int (Tb.cell d i.toNat j.toNat)) H) : rIxL K r (.int j) H Q ∨ rIxT K r (.int j) H Q := ix_cell h.2 rr hi.2 hj.1 hj.2 q
theorem Tbl.len {H : Hp} {x : V} {d : PyData} {n : Nat} (h : Tbl K H x d n) : ∃ p xs, x = .ref p ∧ (SqL K H p xs ∨ SqT K H p xs) ∧ xs.length = n := by
  obtain ⟨p, xs, e, sq, rl⟩ := h.1.sq h.2.sq
  exact ⟨p, xs, e, sq, rl.length.trans h.2.len⟩
theorem dec_int' {x y : Int} : decide (V.int x = V.int y) = decide (x = y) := by
  by_cases h : x = y
  · rw [h]; simp
  · rw [decide_eq_false h, decide_eq_false fun z => h (V.int.inj z)]
/-! ### lies_within -/
def spWithin (K : PySem.W.Frag) : Sp := fun vs H Q _ => ∃ (x : V) (d : PyData) (n : Nat) (i j : Int), vs = [x, .int i, .int j] ∧ Tbl K H x d n ∧ In n i ∧ In n j ∧ Q (.bl (wi d i j)) H
theorem sc_lw : FnScope ["table", "one", "other"] ["table", "one", "other"] (defScope s_lies_within) := ⟨rfl, rfl, rfl, by decide +kernel, rfl, by decide +kernel, by decide +kernel⟩
theorem ok_lw (F : Fun K "lies_within" "lies_within" s_lies_within a fd) : FnOk P w K mg base CX0 1 a fd ["table", "one", "other"] (spWithin K) := by
  refine F.ok sc_lw (fun vs H Q E h => ?_) (fun cdv A outer s H vs Q E hr h => ?_)
  · obtain ⟨x, d, n, i, j, rfl, _⟩ := h
    rfl
  obtain ⟨x, d, n, i, j, rfl, ht, hi, hj, q⟩ := h
  refine ⟨_, pss_one (ps_ret (pe_cmpR op_eq (pe_ix (ix_list.or ix_tup) (pe_ix (ix_list.or ix_tup) (pv 0) (pv 1) (fun _ _ => rfl)) (pv 2) (fun _ _ => rfl)) (pv 2) (nomark _))), ?_⟩
  refine ⟨_, rfl, _, rfl, ht.row hi fun r rr => ⟨_, rfl, ht.cell rr hi hj ⟨_, rfl, rfl, ?_⟩⟩⟩
  rw [dec_int']
  exact q
/-! ### states_within -/
def spStates (K : PySem.W.Frag) : Sp := fun vs H Q _ => ∃ (x : V) (d : PyData) (n : Nat) (j : Int), vs = [x, .int j] ∧ Tbl K H x d n ∧ In n j ∧ ∀ p H', H' p = some (.lst ((withinL d n j).map V.int)) → Kp H H' → Q (.ref p) H'
abbrev Nsw : List Str := ["table", "number", "state"]
theorem sc_sw : FnScope Nsw ["table", "number"] (defScope s_states_within) := ⟨rfl, rfl, rfl, by decide +kernel, rfl, by decide +kernel, by decide +kernel⟩
theorem ok_sw (T : Tx mg f) (F : Fun K "states_within" "states_within" s_states_within a fd) (G : FnOk P w K mg base CX0 1 (f "lies_within") g1 ["table", "one", "other"] (spWithin K)) (B : Binds K g1 ["table", "one", "other"] []) (kp : PySem.W.keepIn K (.ref (f "lies_within")) = true) :
    FnOk P w K mg base CX0 2 a fd ["table", "number"] (spStates K) := by
  refine F.ok sc_sw (fun vs H Q E h => ?_) (fun cdv A outer s H vs Q E hr h => ?_)
  · obtain ⟨x, d, n, j, rfl, _⟩ := h
    rfl
  obtain ⟨x, d, n, j, rfl, ht, hj, q⟩ := h
  refine ⟨_, pss_one (ps_ret (pe_lc (own := [("state", 2)]) (g := gName 2) rfl sc_sw.nd (pi_range1 rfl (T.bl "range" (by decide)) (pa_cons (pe_callB (cr_len (K := K) rfl) rfl (T.bl "len" (by decide)) PySem.boot_len (pa_cons (pv 0) pa_nil)) pa_nil)) (blkOk_by (by change blkC Nsw (defScope s_states_within) _ _ = true; decide +kernel)) (fun _ _ _ _ _ => pg_name (i := 2) sc_sw.nd rfl (Or.inl rfl))
      (fun _ _ _ _ _ => pts_one (pt_val (pe_call G hr rfl (T.fn "lies_within" (by decide)) kp B .nil pass0 (pa_cons (pv 0) (pa_cons (pv 2) (pa_cons (pv 1) pa_nil)))))) (fun _ _ _ _ _ => pv 2))), ?_⟩
  obtain ⟨t, ys, rfl, sq, ly⟩ := ht.len
  have n8 := ht.2.le
  refine ⟨_, rfl, t, ys, rfl, sq, _, rfl, by omega, by omega, fun D hD => ?_⟩
  rw [show ((ys.length : Int)).toNat = n by omega]
  refine lc_range (lo := 0) (n := n) (fun i H' => Kp H H' ∧ H' D = some (.lst (((rng i).filter fun x => wi d x j).map V.int))) ⟨Kp.new hD, upd_same⟩ ?_ ?_
  · rintro i H1 hi ⟨k1, hD1⟩
    have ei : (0 + (i : Int)) = (i : Int) := Int.zero_add _
    rw [ei]
    have hin : In n (i : Int) := ⟨by omega, by omega⟩
    have lf := List.length_filter_le (fun x => wi d x j) (rng i)
    rw [rng_len] at lf
    refine ⟨rfl, _, rfl, _, rfl, _, rfl, _, d, n, i, j, rfl, ht.kp k1, hin, hj, _, rfl, ?_⟩
    have fs := filt_succ (fun x => wi d x j) i
    refine ite2 (fun c => ?_) (fun c => ?_)
    · refine ⟨_, rfl, _, hD1, by rw [sizeLine_eq, List.length_map]; omega, k1.over hD, ?_⟩
      rw [fs, if_pos c, List.map_append]
      exact upd_same
    · refine ⟨k1, ?_⟩
      rw [fs, if_neg c, List.append_nil]
      exact hD1
  · rintro H1 ⟨k1, hD1⟩
    exact q D H1 hD1 k1
/-! ### without -/
def spLess (K : PySem.W.Frag) : Sp := fun vs H Q _ => ∃ (l : Addr) (ns : List Int) (j : Int), vs = [.ref l, .int j] ∧ H l = some (.lst (ns.map V.int)) ∧ ns.length ≤ 1000 ∧ ∀ p H', H' p = some (.lst ((lessL ns j).map V.int)) → Kp H H' → Q (.ref p) H'
abbrev Nwo : List Str := ["numbers", "number", "each"]
theorem sc_wo : FnScope Nwo ["numbers", "number"] (defScope s_without) := ⟨rfl, rfl, rfl, by decide +kernel, rfl, by decide +kernel, by decide +kernel⟩
theorem filt_take (p : Int → Bool) (ns : List Int) (i : Nat) (x : Int) (h : ns[i]? = some x) : (ns.take (i + 1)).filter p = (ns.take i).filter p ++ (if p x = true then [x] else []) := by
  rw [List.take_add_one, h, List.filter_append]
  cases z : p x <;> simp [z]
theorem ok_wo (F : Fun K "without" "without" s_without a fd) : FnOk P w K mg base CX0 1 a fd ["numbers", "number"] (spLess K) := by
  refine F.ok sc_wo (fun vs H Q E h => ?_) (fun cdv A outer s H vs Q E hr h => ?_)
  · obtain ⟨_, _, _, rfl, _⟩ := h
    rfl
  obtain ⟨l, ns, j, rfl, hl, lns, q⟩ := h
  refine ⟨_, pss_one (ps_ret (pe_lc (own := [("each", 2)]) (g := gName 2) rfl sc_wo.nd (pi_list (pv 0)) (blkOk_by (by change blkC Nwo (defScope s_without) _ _ = true; decide +kernel)) (fun _ _ _ _ _ => pg_name (i := 2) sc_wo.nd rfl (Or.inl rfl))
      (fun _ _ _ _ _ => pts_one (pt_cmpR op_ne (pv 2) (pv 1) (nomark _))) (fun _ _ _ _ _ => pv 2))), ?_⟩
  refine ⟨_, rfl, l, rfl, ⟨_, .inl (.inl hl)⟩, fun D hD => ?_⟩
  refine lc_list (xs := ns.map V.int) (fun i H' => Kp H H' ∧ H' D = some (.lst ((lessL (ns.take i) j).map V.int))) ⟨Kp.new hD, upd_same⟩ (fun i H' _ v => .inl (.inl (v.1.lst hl))) ?_ ?_
  · rintro i v H1 hv ⟨k1, hD1⟩
    rw [List.getElem?_map] at hv
    obtain ⟨x, hx, rfl⟩ := Option.map_eq_some_iff.mp hv
    have fs : lessL (ns.take (i + 1)) j = lessL (ns.take i) j ++ (if (!decide (x = j)) = true then [x] else []) := filt_take (fun x => !decide (x = j)) ns i x hx
    have lf : (lessL (ns.take i) j).length ≤ (ns.take i).length := List.length_filter_le _ _
    rw [List.length_take] at lf
    refine ⟨rfl, _, rfl, _, rfl, rfl, _, rfl, ?_⟩
    rw [dec_int']
    refine ite2 (fun c => ?_) (fun c => ?_)
    · refine ⟨_, rfl, _, hD1, by rw [sizeLine_eq, List.length_map]; omega, k1.over hD, ?_⟩
      rw [fs, if_pos c, List.map_append]
      exact upd_same
    · refine ⟨k1, ?_⟩
      rw [fs, if_neg c, List.append_nil]
      exact hD1
  · rintro H1 ⟨k1, hD1⟩
    rw [List.length_map, List.take_length] at hD1
    exact q D H1 hD1 k1
/-! ### joined_numbers, joins_to -/
def spJoined (K : PySem.W.Frag) : Sp := fun vs H Q _ => ∃ (x : V) (d : PyData) (n : Nat) (l : Addr) (ns : List Int), vs = [x, .ref l] ∧ Tbl K H x d n ∧ H l = some (.lst (ns.map V.int)) ∧ (∀ m ∈ ns, In n m) ∧ Q (.int (joinL d ns)) H
theorem sc_jn : FnScope ["table", "numbers", "total", "number"] ["table", "numbers"] (defScope s_joined_numbers) := ⟨rfl, rfl, rfl, by decide +kernel, rfl, by decide +kernel, by decide +kernel⟩
theorem ok_jn (F : Fun K "joined_numbers" "joined_numbers" s_joined_numbers a fd) : FnOk P w K mg base CX0 1 a fd ["table", "numbers"] (spJoined K) := by
  refine F.ok sc_jn (fun vs H Q E h => ?_) (fun cdv A outer s H vs Q E hr h => ?_)
  · obtain ⟨_, _, _, _, _, rfl, _⟩ := h
    rfl
  obtain ⟨x, d, n, l, ns, rfl, ht, hl, hns, q⟩ := h
  refine ⟨_, pss_cons (ps_set (i := 2) sc_jn.nd rfl (Or.inl rfl) pe_int) (pss_cons (ps_for PassesOwn.never rfl (pi_list (pv 1)) (pg_name (i := 3) sc_jn.nd rfl (Or.inl rfl))
      (pss_one (ps_set (i := 2) sc_jn.nd rfl (Or.inl rfl) (pe_ix (ix_list.or ix_tup) (pe_ix (ix_list.or ix_tup) (pv 0) (pv 2) (fun _ _ => rfl)) (pv 3) (fun _ _ => rfl))))) (pss_one (ps_ret (pv 2)))), ?_⟩
  have z0 : In n 0 := ⟨by decide, by have := ht.2.pos; show (0 : Int).toNat < n; omega⟩
  refine ⟨_, rfl, l, rfl, ⟨_, .inl (.inl hl)⟩, ?_⟩
  refine for_list (xs := ns.map V.int) (fun i σ H' => H = H' ∧ ∃ o3, σ = [some x, some (.ref l), some (.int (joinL d (ns.take i))), o3]) ⟨rfl, none, rfl⟩ (fun i σ H' _ v => .inl (.inl (by rw [← v.1]; exact hl))) ?_ ?_
  · rintro i v σ H1 hv ⟨rfl, o3, rfl⟩
    rw [List.getElem?_map] at hv
    obtain ⟨m, hm, rfl⟩ := Option.map_eq_some_iff.mp hv
    have mi := hns m (List.mem_of_getElem? hm)
    have ti : In n (joinL d (ns.take i)) := joinL_in ht.2 _ 0 (fun y hy => hns y (List.mem_of_mem_take hy)) z0
    refine ⟨_, rfl, _, rfl, ht.row ti fun r rr => ⟨_, rfl, ht.cell rr ti mi ⟨rfl, some (.int m), ?_⟩⟩⟩
    have e : joinL d (ns.take (i + 1)) = cell d (joinL d (ns.take i)).toNat m.toNat := by
      unfold joinL
      rw [List.take_add_one, hm, List.foldl_append]; rfl
    rw [e]; rfl
  · rintro σ H1 ⟨rfl, o3, rfl⟩
    rw [List.length_map, List.take_length]
    exact ⟨_, rfl, q⟩
def spJoins (K : PySem.W.Frag) : Sp := fun vs H Q _ => ∃ (x : V) (d : PyData) (n : Nat) (l : Addr) (ns : List Int) (y : Int), vs = [x, .ref l, .int y] ∧ Tbl K H x d n ∧ H l = some (.lst (ns.map V.int)) ∧ (∀ m ∈ ns, In n m) ∧ ∀ H', Kp H H' → Q (.bl (decide (joinL d ns = y))) H'
theorem sc_jt : FnScope ["table", "numbers", "goal"] ["table", "numbers", "goal"] (defScope s_joins_to) := ⟨rfl, rfl, rfl, by decide +kernel, rfl, by decide +kernel, by decide +kernel⟩
theorem ok_jt (T : Tx mg f) (F : Fun K "joins_to" "joins_to" s_joins_to a fd) (G : FnOk P w K mg base CX0 1 (f "joined_numbers") g1 ["table", "numbers"] (spJoined K)) (B : Binds K g1 ["table", "numbers"] []) (kp : PySem.W.keepIn K (.ref (f "joined_numbers")) = true) :
    FnOk P w K mg base CX0 2 a fd ["table", "numbers", "goal"] (spJoins K) := by
  refine F.ok sc_jt (fun vs H Q E h => ?_) (fun cdv A outer s H vs Q E hr h => ?_)
  · obtain ⟨_, _, _, _, _, _, rfl, _⟩ := h
    rfl
  obtain ⟨x, d, n, l, ns, y, rfl, ht, hl, hns, q⟩ := h
  refine ⟨_, pss_one (ps_ret (pe_cmpR op_eq (pe_call G hr rfl (T.fn "joined_numbers" (by decide)) kp B .nil pass0 (pa_cons (pv 0) (pa_cons (pv 1) pa_nil))) (pv 2) (nomark _))), ?_⟩
  refine ⟨_, rfl, _, rfl, x, d, n, l, ns, rfl, ht, hl, hns, _, rfl, rfl, ?_⟩
  rw [dec_int']
  exact q H (Kp.refl _)
/-! ### is_part_in -/
def partB (d : PyData) (n : Nat) (y : Int) : Bool := !decide (y = 0) && !((lessL (withinL d n y) y).any fun a => (lessL (withinL d n y) y).any fun b => decide (cell d a.toNat b.toNat = y))
def spPart (K : PySem.W.Frag) (Pp : Addr) : Sp := fun vs H Q _ => ∃ (x : V) (d : PyData) (n : Nat) (y : Int), vs = [x, .int y] ∧ Tbl K H x d n ∧ In n y ∧ GxR.TabG H Pp ∧ ∀ H', Kp H H' → Q (.bl (partB d n y)) H'
abbrev Npi : List Str := ["table", "number", "lesser", "met", "one", "other"]
theorem sc_pi : FnScope Npi ["table", "number"] (defScope s_is_part_in) := ⟨rfl, rfl, rfl, by decide +kernel, rfl, by decide +kernel, by decide +kernel⟩
def gsclC (N : List Str) (sc scope : Scope) (own : List (Str × Nat)) : Bool :=
  decide (scope.kind = .function) && !scope.isCoroutine && decide (scope.names.lookup (".0" : Str) = some NameKind.local) && (own.all fun q => decide (N[q.2]? = some q.1)) && !(N.contains (".0" : Str)) && decide N.Nodup &&
    scope.names.all fun p => !decide (p.2 = .cell) && (!decide (p.2 = .local) || p.1 == (".0" : Str) || (own.any fun q => decide (q.1 = p.1))) && (!decide (p.2 = .free) || decide (sc.names.lookup p.1 = some .cell) || decide (sc.names.lookup p.1 = some .free))
theorem gscl_by {N : List Str} {sc scope : Scope} {own : List (Str × Nat)} (h : gsclC N sc scope own = true) : Gx.GScL N sc scope own := by
  unfold gsclC at h
  simp only [Bool.and_eq_true, decide_eq_true_eq, Bool.not_eq_true', List.all_eq_true, List.any_eq_true, Bool.or_eq_true, beq_iff_eq, decide_eq_false_iff_not] at h
  obtain ⟨⟨⟨⟨⟨⟨h1, h2⟩, h3⟩, h5⟩, h6⟩, h7⟩, h8⟩ := h
  refine ⟨h1, h2, fun y hy => (h8 y hy).1.1, h3, fun y hy => ?_, fun y hy e => ?_, h7, h5, fun hm => ?_⟩
  · rcases (h8 _ (PySem.mem_of_lookup hy)).1.2 with (z | z) | z
    · exact absurd rfl z
    · exact .inl z
    · obtain ⟨q, hq, e⟩ := z
      have e' : q.1 = y := e
      exact .inr ⟨q.2, by rw [← e']; exact hq⟩
  · rcases (h8 y hy).2 with (z | z) | z
    · exact absurd e z
    · exact .inl z
    · exact .inr z
  · rw [List.contains_iff_mem.mpr hm] at h6
    cases h6
theorem ok_pi (T : Tx mg f) (F : FunC K "is_part_in" "is_part_in" s_is_part_in a fd c) (TB : GxR.TabB base mg c P8) (Gs : FnOk P w K mg base CX0 2 (f "states_within") g1 ["table", "number"] (spStates K)) (Bs : Binds K g1 ["table", "number"] []) (ks : PySem.W.keepIn K (.ref (f "states_within")) = true)
    (Gw : FnOk P w K mg base CX0 1 (f "without") g2 ["numbers", "number"] (spLess K)) (Bw : Binds K g2 ["numbers", "number"] []) (kw : PySem.W.keepIn K (.ref (f "without")) = true) : FnOk P w K mg base CX0 3 a fd ["table", "number"] (spPart K P8) := by
  refine F.ok sc_pi (fun vs H Q E h => ?_) (fun A outer s H vs Q E hr h => ?_)
  · obtain ⟨_, _, _, _, rfl, _⟩ := h
    rfl
  obtain ⟨x, d, n, y, rfl, ht, hy, hP, q⟩ := h
  refine ⟨_, pss_cons (ps_set (i := 2) sc_pi.nd rfl (by first | exact Or.inl rfl | exact Or.inr rfl) (pe_call Gw (hr.mono (by decide)) rfl (T.fn "without" (by decide)) kw Bw .nil pass0 (pa_cons (pe_call Gs (hr.mono (by decide)) rfl (T.fn "states_within" (by decide)) ks Bs .nil pass0 (pa_cons (pv 0) (pa_cons (pv 1) pa_nil))) (pa_cons (pv 1) pa_nil))))
    (pss_cons (ps_set (i := 3) sc_pi.nd rfl (Or.inl rfl) (Gx.pe_any2 (k := 0) (own := [("one", 4), ("other", 5)]) (w1 := iList K (tVar 2)) (te := tOp rEq (tOp (fun x y H Q => rIxL K x y H Q ∨ rIxT K x y H Q) (tOp (fun x y H Q => rIxL K x y H Q ∨ rIxT K x y H Q) (tVar 0) (tVar 4)) (tVar 5)) (tVar 1)) (hr.mono (by decide)) rfl (T.bl "any" (by decide)) TB rfl (gscl_by (by change gsclC Npi (defScope s_is_part_in) _ _ = true; decide +kernel)) (pi_list (pv 2)) (fun _ _ _ _ _ => pg_name (i := 4) sc_pi.nd rfl (Or.inl rfl))
        (fun _ _ _ _ _ _ => ?w1) (fun _ _ _ _ _ => pg_name (i := 5) sc_pi.nd rfl (Or.inl rfl)) (fun _ _ _ _ _ _ => ?el) (fun _ => rfl) (fun _ _ => rfl)))
    (pss_one (ps_ret (pe_and (pe_cmpR op_ne (pv 1) pe_int (nomark _)) (pe_one (pe_not (pv 3))))))), ?_⟩
  case w1 => exact pi_list (pv 2)
  case el => exact pe_cmpR op_eq (pe_ix (ix_list.or ix_tup) (pe_ix (ix_list.or ix_tup) (pv 0) (pv 4) (fun _ _ => rfl)) (pv 5) (fun _ _ => rfl)) (pv 1) (nomark _)
  have lw : (withinL d n y).length ≤ 8 := by
    have := List.length_filter_le (fun x => wi d x y) (rng n)
    rw [rng_len] at this
    have := ht.2.le
    unfold withinL
    omega
  have inL : ∀ b ∈ lessL (withinL d n y) y, In n b := fun b hb => rng_mem.mp (List.mem_filter.mp (List.mem_filter.mp hb).1).1
  refine ⟨_, rfl, _, rfl, x, d, n, y, rfl, ht, hy, fun p1 H1 h1 k1 => ⟨_, rfl, p1, withinL d n y, y, rfl, h1, by omega, fun p2 H2 h2 k2 => ?_⟩⟩
  have k12 := k1.trans k2
  have hP2 := k12.tab _ hP
  have am : partB d n y = (!decide (y = 0) && !((lessL (withinL d n y) y).any fun a => (lessL (withinL d n y) y).any fun b => decide (cell d a.toNat b.toNat = y))) := rfl
  generalize lessL (withinL d n y) y = L at h2 inL am
  refine ⟨_, rfl, p2, rfl, ⟨_, .inl (.inl h2)⟩, hP2, fun H3 t3 => ?_⟩
  have k23 := Kp.tabbed hP2 t3
  have h3 := k23.lst h2
  have k13 := k12.trans k23
  have ht3 := ht.kp k13
  have sq3 : SqL K H3 p2 (L.map V.int) := .inl (.inl h3)
  have lenS : ∀ i, i < L.length → (L.length - i) * L.length = (L.length - (i + 1)) * L.length + L.length := fun i hi => by
    rw [show L.length - i = (L.length - (i + 1)) + 1 by omega, Nat.add_mul, Nat.one_mul]
  refine ⟨L.length, L.length * L.length, ⟨fun m i σ H' => (L.length - i) * L.length ≤ m ∧ H3 = H' ∧ (∃ o4 o5, σ = [some x, some (.int y), some (.ref p2), none, o4, o5]) ∧ ∀ a ∈ L.take i, ∀ b ∈ L, cell d a.toNat b.toNat ≠ y,
      fun J1 m i j σ H' => J1 = Itl K p2 ∧ j ≤ L.length ∧ (L.length - (i + 1)) * L.length + (L.length - j) ≤ m ∧ H3 = H' ∧ (∃ v, L[i]? = some v ∧ (∃ o5, σ = [some x, some (.int y), some (.ref p2), none, some (.int v), o5]) ∧ ∀ b ∈ L.take j, cell d v.toNat b.toNat ≠ y) ∧ ∀ a ∈ L.take i, ∀ b ∈ L, cell d a.toNat b.toNat ≠ y,
      fun b σ H' => b = true ∧ H3 = H' ∧ ∃ a ∈ L, ∃ b ∈ L, cell d a.toNat b.toNat = y, fun H' => H3 = H' ∧ ∀ a ∈ L, ∀ b ∈ L, cell d a.toNat b.toNat ≠ y⟩, ⟨?_, ?_⟩, ⟨Nat.le_refl _, rfl, ⟨none, none, rfl⟩, fun a ha => by cases ha⟩, ?_, ?_⟩
  · rintro m i σ H' hi ⟨hm, rfl, ⟨o4, o5, rfl⟩, pre⟩
    rcases Nat.lt_or_ge i L.length with hlt | hge
    · refine .inr ⟨hlt, ⟨L.map V.int, .int L[i], sq3, by rw [List.getElem?_map, List.getElem?_eq_getElem hlt]; rfl⟩, fun z H' hz => ?_⟩
      obtain ⟨rfl, hz2⟩ := hz
      have hz3 := hz2 _ sq3
      rw [List.getElem?_map, List.getElem?_eq_getElem hlt] at hz3
      have ez : V.int L[i] = z := by simpa using hz3
      subst ez
      have := lenS i hlt
      exact ⟨_, rfl, p2, rfl, ⟨_, sq3⟩, rfl, Nat.zero_le _, by omega, rfl, ⟨L[i], List.getElem?_eq_getElem hlt, ⟨o5, rfl⟩, fun b hb => by cases hb⟩, pre⟩
    · refine .inl ⟨⟨L.map V.int, sq3, by rw [List.length_map]; exact hge⟩, rfl, ?_⟩
      rw [List.take_of_length_le hge] at pre
      exact pre
  · rintro J1 m i j σ H' hi ⟨rfl, hj, hm, rfl, ⟨v, hv, ⟨o5, rfl⟩, pj⟩, pre⟩
    rcases Nat.lt_or_ge j L.length with hlt | hge
    · refine .inr ⟨⟨L.map V.int, .int L[j], sq3, by rw [List.getElem?_map, List.getElem?_eq_getElem hlt]; rfl⟩, m - 1, by omega, fun z H' hz => ?_⟩
      obtain ⟨rfl, hz2⟩ := hz
      have hz3 := hz2 _ sq3
      rw [List.getElem?_map, List.getElem?_eq_getElem hlt] at hz3
      have ez : V.int L[j] = z := by simpa using hz3
      subst ez
      have vin := inL v (List.mem_of_getElem? hv)
      have bin := inL L[j] (List.getElem_mem hlt)
      refine ⟨_, rfl, _, rfl, ht3.row vin fun r rr => ⟨_, rfl, ht3.cell rr vin bin ⟨_, rfl, rfl, _, rfl, ?_⟩⟩⟩
      rw [dec_int']
      by_cases hc : cell d v.toNat L[j].toNat = y
      · rw [decide_eq_true hc, if_neg (by decide)]
        exact ⟨rfl, rfl, v, List.mem_of_getElem? hv, L[j], List.getElem_mem hlt, hc⟩
      · rw [decide_eq_false hc, if_pos rfl]
        refine ⟨rfl, by omega, by omega, rfl, ⟨v, hv, ⟨_, rfl⟩, fun b hb => ?_⟩, pre⟩
        rw [List.take_add_one, List.getElem?_eq_getElem hlt] at hb
        rcases List.mem_append.mp hb with h | h
        · exact pj b h
        · have : b = L[j] := by simpa using h
          rw [this]; exact hc
    · refine .inl ⟨⟨L.map V.int, sq3, by rw [List.length_map]; exact hge⟩, by omega, rfl, ⟨_, o5, rfl⟩, fun a ha b hb => ?_⟩
      rw [List.take_add_one, hv] at ha
      rw [List.take_of_length_le hge] at pj
      rcases List.mem_append.mp ha with h | h
      · exact pre a h b hb
      · have : a = v := by simpa using h
        rw [this]; exact pj b hb
  · rintro σ' H' ⟨_, rfl, a, ha, b, hb, hab⟩
    have e : (L.any fun a => L.any fun b => decide (cell d a.toNat b.toNat = y)) = true := List.any_eq_true.mpr ⟨a, ha, List.any_eq_true.mpr ⟨b, hb, decide_eq_true hab⟩⟩
    rw [e] at am
    have q2 := q H3 k13
    rw [am] at q2
    refine ⟨_, rfl, rfl, _, rfl, ite2 (fun c => ⟨_, rfl, ?_⟩) (fun c => ?_)⟩
    · simpa using q2
    · simpa using q2
  · rintro H' ⟨rfl, no⟩
    have e : (L.any fun a => L.any fun b => decide (cell d a.toNat b.toNat = y)) = false := by
      rw [List.any_eq_false]
      intro a ha hh
      obtain ⟨b, hb, hab⟩ := List.any_eq_true.mp hh
      exact no a ha b hb (of_decide_eq_true hab)
    rw [e] at am
    have q2 := q H3 k13
    rw [am] at q2
    refine ⟨_, rfl, rfl, _, rfl, ite2 (fun c => ⟨_, rfl, ?_⟩) (fun c => ?_)⟩
    · have hy0 : y ≠ 0 := ne_t c
      rw [decide_eq_false hy0] at q2
      exact ⟨_, rfl, q2⟩
    · have hy0 : y = 0 := ne_f c
      rw [decide_eq_true hy0] at q2
      exact q2
end
end Tb

namespace Tb
open PySem PySem.Spec PyProof.Rows L2
variable {K : PySem.W.Frag}
/-- new to a heap that is kept -/
def Fz (A : Hp) (t : Addr) : Prop := (∀ o, A t = some o → ∃ ps, o = .tbl ps) ∧ ¬ GxR.TabG A t
theorem Fz.of {A B : Hp} {t : Addr} (k : Kp A B) (h : B t = none) : Fz A t := by
  refine ⟨fun o e => ?_, fun z => ?_⟩
  · cases o with
    | tbl ps => exact ⟨ps, rfl⟩
    | _ => exact absurd ((k.keep t _ e fun ps z => by cases z).symm.trans h) (by simp)
  · obtain ⟨ps, e, _⟩ := k.tab t z
    rw [h] at e; cases e
theorem Kp.overz {A B : Hp} {t : Addr} {o : HO} (k : Kp A B) (h : Fz A t) : Kp A (upd B t o) := by
  refine ⟨fun b u e n => ?_, fun P z => ?_⟩
  · rw [upd_ne (fun z => by
      rw [z] at e
      obtain ⟨ps, y⟩ := h.1 u e
      exact n ps y)]
    exact k.keep b u e n
  · obtain ⟨qs, e3, t3⟩ := k.tab P z
    have hP : P ≠ t := fun y => h.2 (by rw [← y]; exact z)
    exact ⟨qs, by rw [upd_ne hP]; exact e3, t3⟩
section
variable {P : Program} {w : World} {mg : Str → Option Value} {base : Heap} {f : String → Addr} {a c Pt P8 Pp : Addr} {fd g1 g2 g3 g4 : FuncData}
/-! ### parts_in, parts_below -/
def partsL (d : PyData) (n : Nat) : List Int := (rng n).filter fun x => partB d n x
def belowL (d : PyData) (n : Nat) (y : Int) : List Int := (partsL d n).filter fun x => wi d x y
theorem partsL_in {d : PyData} {n : Nat} {x : Int} (h : x ∈ partsL d n) : In n x := rng_mem.mp (List.mem_filter.mp h).1
theorem partsL_len (d : PyData) (n : Nat) : (partsL d n).length ≤ n := by
  have := List.length_filter_le (fun x => partB d n x) (rng n)
  rw [rng_len] at this
  exact this
theorem belowL_len (d : PyData) (n : Nat) (y : Int) : (belowL d n y).length ≤ n := Nat.le_trans (List.length_filter_le _ _) (partsL_len d n)
theorem belowL_in {d : PyData} {n : Nat} {x y : Int} (h : x ∈ belowL d n y) : In n x := partsL_in (List.mem_filter.mp h).1
def spParts (K : PySem.W.Frag) (Pp : Addr) : Sp := fun vs H Q _ => ∃ (x : V) (d : PyData) (n : Nat), vs = [x] ∧ Tbl K H x d n ∧ GxR.TabG H Pp ∧ ∀ p H', Fz H p → H' p = some (.lst ((partsL d n).map V.int)) → Kp H H' → Q (.ref p) H'
abbrev Npn : List Str := ["table", "number"]
theorem sc_pn : FnScope Npn ["table"] (defScope s_parts_in) := ⟨rfl, rfl, rfl, by decide +kernel, rfl, by decide +kernel, by decide +kernel⟩
theorem ok_pn (T : Tx mg f) (F : Fun K "parts_in" "parts_in" s_parts_in a fd) (G : FnOk P w K mg base CX0 3 (f "is_part_in") g1 ["table", "number"] (spPart K Pp)) (B : Binds K g1 ["table", "number"] []) (kp : PySem.W.keepIn K (.ref (f "is_part_in")) = true) :
    FnOk P w K mg base CX0 4 a fd ["table"] (spParts K Pp) := by
  refine F.ok sc_pn (fun vs H Q E h => ?_) (fun cdv A outer s H vs Q E hr h => ?_)
  · obtain ⟨x, d, n, rfl, _⟩ := h
    rfl
  obtain ⟨x, d, n, rfl, ht, hP, q⟩ := h
  refine ⟨_, pss_one (ps_ret (pe_lc (own := [("number", 1)]) (g := gName 1) rfl sc_pn.nd (pi_range1 rfl (T.bl "range" (by decide)) (pa_cons (pe_callB (cr_len (K := K) rfl) rfl (T.bl "len" (by decide)) PySem.boot_len (pa_cons (pv 0) pa_nil)) pa_nil)) (blkOk_by (by change blkC Npn (defScope s_parts_in) _ _ = true; decide +kernel)) (fun _ _ _ _ _ => pg_name (i := 1) sc_pn.nd rfl (Or.inl rfl))
      (fun _ _ _ _ _ => pts_one (pt_val (pe_call G hr rfl (T.fn "is_part_in" (by decide)) kp B .nil pass0 (pa_cons (pv 0) (pa_cons (pv 1) pa_nil))))) (fun _ _ _ _ _ => pv 1))), ?_⟩
  obtain ⟨t, ys, rfl, sq, ly⟩ := ht.len
  have n8 := ht.2.le
  refine ⟨_, rfl, t, ys, rfl, sq, _, rfl, by omega, by omega, fun D hD => ?_⟩
  rw [show ((ys.length : Int)).toNat = n by omega]
  refine lc_range (lo := 0) (n := n) (fun i H' => Kp H H' ∧ H' D = some (.lst (((rng i).filter fun x => partB d n x).map V.int))) ⟨Kp.new hD, upd_same⟩ ?_ ?_
  · rintro i H1 hi ⟨k1, hD1⟩
    have ei : (0 + (i : Int)) = (i : Int) := Int.zero_add _
    rw [ei]
    have hin : In n (i : Int) := ⟨by omega, by omega⟩
    have lf := List.length_filter_le (fun x => partB d n x) (rng i)
    rw [rng_len] at lf
    refine ⟨rfl, _, rfl, _, rfl, _, d, n, i, rfl, ht.kp k1, hin, k1.tab _ hP, fun H2 k2 => ⟨_, rfl, ?_⟩⟩
    have fs := filt_succ (fun x => partB d n x) i
    refine ite2 (fun c => ?_) (fun c => ?_)
    · refine ⟨_, rfl, _, k2.lst hD1, by rw [sizeLine_eq, List.length_map]; omega, (k1.trans k2).over hD, ?_⟩
      rw [fs, if_pos c, List.map_append]
      exact upd_same
    · refine ⟨k1.trans k2, ?_⟩
      rw [fs, if_neg c, List.append_nil]
      exact k2.lst hD1
  · rintro H1 ⟨k1, hD1⟩
    exact q D H1 (Fz.of (Kp.refl H) hD) hD1 k1
def spBelow (K : PySem.W.Frag) (Pp : Addr) : Sp := fun vs H Q _ => ∃ (x : V) (d : PyData) (n : Nat) (y : Int), vs = [x, .int y] ∧ Tbl K H x d n ∧ In n y ∧ GxR.TabG H Pp ∧ ∀ p H', H' p = some (.lst ((belowL d n y).map V.int)) → Kp H H' → Q (.ref p) H'
abbrev Npb : List Str := ["table", "number", "part"]
theorem sc_pb : FnScope Npb ["table", "number"] (defScope s_parts_below) := ⟨rfl, rfl, rfl, by decide +kernel, rfl, by decide +kernel, by decide +kernel⟩
theorem ok_pb (T : Tx mg f) (F : Fun K "parts_below" "parts_below" s_parts_below a fd) (G : FnOk P w K mg base CX0 4 (f "parts_in") g1 ["table"] (spParts K Pp)) (B : Binds K g1 ["table"] []) (kp : PySem.W.keepIn K (.ref (f "parts_in")) = true)
    (Gl : FnOk P w K mg base CX0 1 (f "lies_within") g2 ["table", "one", "other"] (spWithin K)) (Bl : Binds K g2 ["table", "one", "other"] []) (kl : PySem.W.keepIn K (.ref (f "lies_within")) = true) : FnOk P w K mg base CX0 5 a fd ["table", "number"] (spBelow K Pp) := by
  refine F.ok sc_pb (fun vs H Q E h => ?_) (fun cdv A outer s H vs Q E hr h => ?_)
  · obtain ⟨x, d, n, y, rfl, _⟩ := h
    rfl
  obtain ⟨x, d, n, y, rfl, ht, hy, hP, q⟩ := h
  refine ⟨_, pss_one (ps_ret (pe_lc (own := [("part", 2)]) (g := gName 2) rfl sc_pb.nd (pi_list (pe_call G hr rfl (T.fn "parts_in" (by decide)) kp B .nil pass0 (pa_cons (pv 0) pa_nil))) (blkOk_by (by change blkC Npb (defScope s_parts_below) _ _ = true; decide +kernel)) (fun _ _ _ _ _ => pg_name (i := 2) sc_pb.nd rfl (Or.inl rfl))
      (fun _ _ _ _ _ => pts_one (pt_val (pe_call Gl (hr.mono (by decide)) rfl (T.fn "lies_within" (by decide)) kl Bl .nil pass0 (pa_cons (pv 0) (pa_cons (pv 2) (pa_cons (pv 1) pa_nil)))))) (fun _ _ _ _ _ => pv 2))), ?_⟩
  refine ⟨_, rfl, x, d, n, rfl, ht, hP, fun l H1 _ hl k1 => ⟨l, rfl, ⟨_, .inl (.inl hl)⟩, fun D hD => ?_⟩⟩
  have pl := partsL_len d n
  have n8 := ht.2.le
  refine lc_list (xs := (partsL d n).map V.int) (fun i H' => Kp H1 H' ∧ H' D = some (.lst ((((partsL d n).take i).filter fun x => wi d x y).map V.int))) ⟨Kp.new hD, upd_same⟩ (fun i H' _ v => .inl (.inl (v.1.lst hl))) ?_ ?_
  · rintro i v H2 hv ⟨k2, hD1⟩
    rw [List.getElem?_map] at hv
    obtain ⟨z, hz, rfl⟩ := Option.map_eq_some_iff.mp hv
    have hin := partsL_in (List.mem_of_getElem? hz)
    have lf := List.length_filter_le (fun x => wi d x y) ((partsL d n).take i)
    rw [List.length_take] at lf
    refine ⟨rfl, _, rfl, _, rfl, _, rfl, _, d, n, z, y, rfl, ht.kp (k1.trans k2), hin, hy, _, rfl, ?_⟩
    have fs := filt_take (fun x => wi d x y) (partsL d n) i z hz
    refine ite2 (fun c => ?_) (fun c => ?_)
    · refine ⟨_, rfl, _, hD1, by rw [sizeLine_eq, List.length_map]; omega, k2.over hD, ?_⟩
      rw [fs, if_pos c, List.map_append]
      exact upd_same
    · refine ⟨k2, ?_⟩
      rw [fs, if_neg c, List.append_nil]
      exact hD1
  · rintro H2 ⟨k2, hD1⟩
    rw [List.length_map, List.take_length] at hD1
    exact q D H2 hD1 (k1.trans k2)
/-! ### is_list_of -/
def listB (d : PyData) (y : Int) (ns : List Int) : Bool := decide (joinL d ns = y) && !(ns.any fun p => decide (joinL d (lessL ns p) = y))
def spListOf (K : PySem.W.Frag) (Pq : Addr) : Sp := fun vs H Q _ => ∃ (x : V) (d : PyData) (n : Nat) (l : Addr) (ns : List Int) (y : Int), vs = [x, .ref l, .int y] ∧ Tbl K H x d n ∧ H l = some (.lst (ns.map V.int)) ∧ (∀ m ∈ ns, In n m) ∧ ns.length ≤ 1000 ∧ GxR.TabG H Pq ∧ ∀ H', Kp H H' → Q (.bl (listB d y ns)) H'
abbrev Nil : List Str := ["table", "parts", "number", "part"]
theorem sc_il : FnScope Nil ["table", "parts", "number"] (defScope s_is_list_of) := ⟨rfl, rfl, rfl, by decide +kernel, rfl, by decide +kernel, by decide +kernel⟩
theorem ok_il (T : Tx mg f) (F : FunC K "is_list_of" "is_list_of" s_is_list_of a fd c) (TB : GxR.TabB base mg c Pt) (Gj : FnOk P w K mg base CX0 2 (f "joins_to") g1 ["table", "numbers", "goal"] (spJoins K)) (Bj : Binds K g1 ["table", "numbers", "goal"] []) (kj : PySem.W.keepIn K (.ref (f "joins_to")) = true)
    (Gw : FnOk P w K mg base CX0 1 (f "without") g2 ["numbers", "number"] (spLess K)) (Bw : Binds K g2 ["numbers", "number"] []) (kw : PySem.W.keepIn K (.ref (f "without")) = true) : FnOk P w K mg base CX0 4 a fd ["table", "parts", "number"] (spListOf K Pt) := by
  refine F.ok sc_il (fun vs H Q E h => ?_) (fun A outer s H vs Q E hr h => ?_)
  · obtain ⟨_, _, _, _, _, _, rfl, _⟩ := h
    rfl
  obtain ⟨x, d, n, l, ns, y, rfl, ht, hl, hns, lns, hP, q⟩ := h
  refine ⟨_, pss_cons (ps_if (pt_not (pt_val (pe_call Gj (hr.mono (by decide)) rfl (T.fn "joins_to" (by decide)) kj Bj .nil pass0 (pa_cons (pv 0) (pa_cons (pv 1) (pa_cons (pv 2) pa_nil)))))) (pss_one (ps_ret pe_bl)) pss_nil)
    (pss_one (ps_ret (pe_not (Gx.pe_any (k := 2) (ix := 3) hr rfl (T.bl "any" (by decide)) TB rfl (gscp_by (by change gscpC Nil (defScope s_is_list_of) _ _ _ = true; decide +kernel)) (pi_list (pv 1)) (fun _ _ _ _ _ => pg_name (i := 3) sc_il.nd rfl (Or.inl rfl))
      (fun _ _ _ _ _ hr' => pe_call Gj hr' rfl (T.fn "joins_to" (by decide)) kj Bj .nil pass0 (pa_cons (pv 0) (pa_cons (pe_call Gw (hr'.mono (by decide)) rfl (T.fn "without" (by decide)) kw Bw .nil pass0 (pa_cons (pv 1) (pa_cons (pv 3) pa_nil))) (pa_cons (pv 2) pa_nil)))) (fun _ => rfl))))), ?_⟩
  refine ⟨_, rfl, _, rfl, _, rfl, x, d, n, l, ns, y, rfl, ht, hl, hns, fun H1 k1 => ⟨_, rfl, ?_⟩⟩
  refine ite2 (fun c0 => ?_) (fun c0 => ?_)
  · have e : decide (joinL d ns = y) = false := by simpa using c0
    have := q H1 k1
    unfold listB at this
    rw [e, Bool.false_and] at this
    exact this
  have e0 : decide (joinL d ns = y) = true := by simpa using c0
  have hP1 := k1.tab _ hP
  refine ⟨_, rfl, l, rfl, ⟨_, .inl (.inl (k1.lst hl))⟩, hP1, fun H2 t2 => ?_⟩
  have k2 := Kp.tabbed hP1 t2
  have k12 := k1.trans k2
  refine ⟨ns.length, ⟨fun i σ H' => Kp H2 H' ∧ (∃ o3, σ = [some x, some (.ref l), some (.int y), o3]) ∧ ∀ p ∈ ns.take i, ¬ joinL d (lessL ns p) = y, fun b _ σ H' => b = true ∧ Kp H2 H' ∧ ∃ p ∈ ns, joinL d (lessL ns p) = y, fun H' => Kp H2 H' ∧ ∀ p ∈ ns, ¬ joinL d (lessL ns p) = y⟩, ?_, ⟨Kp.refl _, ⟨none, rfl⟩, fun p hp => by cases hp⟩, ?_, ?_⟩
  · rintro i σ H3 hi ⟨k3, ⟨o3, rfl⟩, pre⟩
    have h3 := (k12.trans k3).lst hl
    have sq3 : SqL K H3 l (ns.map V.int) := .inl (.inl h3)
    rcases Nat.lt_or_ge i ns.length with hlt | hge
    · refine .inr ⟨hlt, ⟨ns.map V.int, .int ns[i], sq3, by rw [List.getElem?_map, List.getElem?_eq_getElem hlt]; rfl⟩, fun z H' hz => ?_⟩
      obtain ⟨rfl, hz2⟩ := hz
      have hz3 := hz2 _ sq3
      rw [List.getElem?_map, List.getElem?_eq_getElem hlt] at hz3
      have ez : V.int ns[i] = z := by simpa using hz3
      subst ez
      refine ⟨_, rfl, _, rfl, _, rfl, l, ns, ns[i], rfl, h3, lns, fun p H4 h4 k4 => ⟨_, rfl, x, d, n, p, lessL ns ns[i], y, rfl, ht.kp ((k12.trans k3).trans k4), h4, fun m hm => hns m (List.mem_filter.mp hm).1, fun H5 k5 => ⟨_, rfl, ?_⟩⟩⟩
      have k35 := (k3.trans k4).trans k5
      by_cases hc : joinL d (lessL ns ns[i]) = y
      · rw [decide_eq_true hc, if_neg (by decide)]
        exact ⟨rfl, k35, ns[i], List.getElem_mem hlt, hc⟩
      · rw [decide_eq_false hc, if_pos rfl]
        refine ⟨k35, ⟨_, rfl⟩, fun p' hp' => ?_⟩
        rw [List.take_add_one, List.getElem?_eq_getElem hlt] at hp'
        rcases List.mem_append.mp hp' with h | h
        · exact pre p' h
        · have : p' = ns[i] := by simpa using h
          rw [this]; exact hc
    · refine .inl ⟨⟨ns.map V.int, sq3, by rw [List.length_map]; exact hge⟩, k3, ?_⟩
      rw [List.take_of_length_le hge] at pre
      exact pre
  · rintro i σ' H' ⟨_, k3, p, hp, hj⟩
    have := q H' (k12.trans k3)
    have e : listB d y ns = false := by
      unfold listB
      rw [List.any_eq_true.mpr ⟨p, hp, decide_eq_true hj⟩, Bool.not_true, Bool.and_false]
    rw [e] at this
    exact ⟨_, rfl, this⟩
  · rintro H' ⟨k3, no⟩
    have := q H' (k12.trans k3)
    have e : listB d y ns = true := by
      unfold listB
      rw [e0, Bool.true_and]
      have : (ns.any fun p => decide (joinL d (lessL ns p) = y)) = false := by
        rw [List.any_eq_false]
        exact fun p hp hh => no p hp (of_decide_eq_true hh)
      rw [this]; rfl
    rw [e] at this
    exact ⟨_, rfl, this⟩
end
end Tb

namespace Tb
open PySem PySem.Spec PyProof.Rows L2
variable {K : PySem.W.Frag}
/-! ### lists_of -/
theorem new_at {G : Hp} {x : Addr} (h : G x = none) (o : HO) : upd G x o x = some o := upd_same
def subsL (l : List Int) : List (List Int) := l.foldl (fun lots p => lots ++ lots.map fun s => s ++ [p]) [[]]
theorem subsL_step (l : List Int) (i : Nat) (p : Int) (h : l[i]? = some p) : subsL (l.take (i + 1)) = subsL (l.take i) ++ (subsL (l.take i)).map fun s => s ++ [p] := by
  unfold subsL
  rw [List.take_add_one, h, List.foldl_append]; rfl
theorem subsL_len (l : List Int) : ∀ i, i ≤ l.length → (subsL (l.take i)).length = 2 ^ i
  | 0, _ => rfl
  | i + 1, h => by
    rw [subsL_step l i _ (List.getElem?_eq_getElem h), List.length_append, List.length_map, subsL_len l i (by omega), Nat.pow_succ]
    omega
theorem subsL_sub (l : List Int) : ∀ i, i ≤ l.length → ∀ s ∈ subsL (l.take i), (∀ m ∈ s, m ∈ l) ∧ s.length ≤ i
  | 0, _, s, hs => by
    have : s = [] := by simpa [subsL] using hs
    subst this
    exact ⟨(fun m hm => by cases hm), Nat.le_refl _⟩
  | i + 1, h, s, hs => by
    rw [subsL_step l i _ (List.getElem?_eq_getElem h)] at hs
    rcases List.mem_append.mp hs with z | z
    · obtain ⟨a, b⟩ := subsL_sub l i (by omega) s z
      exact ⟨a, by omega⟩
    · obtain ⟨t, ht, rfl⟩ := List.mem_map.mp z
      obtain ⟨a, b⟩ := subsL_sub l i (by omega) t ht
      refine ⟨fun m hm => ?_, by rw [List.length_append]; simp; omega⟩
      rcases List.mem_append.mp hm with y | y
      · exact a m y
      · rw [List.mem_singleton.mp y]; exact List.getElem_mem h
noncomputable def listsL (d : PyData) (n : Nat) (y : Int) : List (List Int) := srt ((subsL (belowL d n y)).filter fun s => listB d y s)
/-- lists of whole numbers at these addresses, new to G -/
def LL (G H : Hp) (bs : List (Addr × List Int)) : Prop := ∀ q ∈ bs, H q.1 = some (.lst (q.2.map V.int)) ∧ Fz G q.1
theorem LL.kp {G H H' : Hp} {bs : List (Addr × List Int)} (h : LL G H bs) (k : Kp H H') : LL G H' bs := fun q hq => ⟨k.lst (h q hq).1, (h q hq).2⟩
section
variable {P : Program} {w : World} {mg : Str → Option Value} {base : Heap} {f : String → Addr} {a c Pt P8 Pp Pq : Addr} {fd g1 g2 g3 g4 : FuncData}
def spLists (K : PySem.W.Frag) (Pp Pq : Addr) : Sp := fun vs H Q _ => ∃ (x : V) (d : PyData) (n : Nat) (y : Int), vs = [x, .int y] ∧ Tbl K H x d n ∧ In n y ∧ GxR.TabG H Pp ∧ GxR.TabG H Pq ∧
  ∀ p bs H', bs.map Prod.snd = listsL d n y → H' p = some (.lst (bs.map fun q => V.ref q.1)) → LL H H' bs → Fz H p → Kp H H' → Q (.ref p) H'
abbrev Nlo : List Str := ["table", "number", "lots", "part", "lot"]
theorem sc_lo : FnScope Nlo ["table", "number"] (defScope s_lists_of) := ⟨rfl, rfl, rfl, by decide +kernel, rfl, by decide +kernel, by decide +kernel⟩
theorem ok_lo (T : Tx mg f) (F : Fun K "lists_of" "lists_of" s_lists_of a fd) (Gb : FnOk P w K mg base CX0 5 (f "parts_below") g1 ["table", "number"] (spBelow K Pp)) (Bb : Binds K g1 ["table", "number"] []) (kb : PySem.W.keepIn K (.ref (f "parts_below")) = true)
    (Gi : FnOk P w K mg base CX0 4 (f "is_list_of") g2 ["table", "parts", "number"] (spListOf K Pq)) (Bi : Binds K g2 ["table", "parts", "number"] []) (ki : PySem.W.keepIn K (.ref (f "is_list_of")) = true) : FnOk P w K mg base CX0 6 a fd ["table", "number"] (spLists K Pp Pq) := by
  refine F.ok sc_lo (fun vs H Q E h => ?_) (fun cdv A outer s H vs Q E hr h => ?_)
  · obtain ⟨_, _, _, _, rfl, _⟩ := h
    rfl
  obtain ⟨x, d, n, y, rfl, ht, hy, hPp, hPq, q⟩ := h
  refine ⟨_, pss_cons (ps_set (i := 2) sc_lo.nd rfl (by first | exact Or.inl rfl | exact Or.inr rfl) (pe_lst (pa_cons (pe_lst pa_nil) pa_nil)))
    (pss_cons (ps_for PassesOwn.never rfl (pi_list (pe_call Gb hr rfl (T.fn "parts_below" (by decide)) kb Bb .nil pass0 (pa_cons (pv 0) (pa_cons (pv 1) pa_nil)))) (pg_name (i := 3) sc_lo.nd rfl (by first | exact Or.inl rfl | exact Or.inr rfl))
      (pss_one (ps_set (i := 2) sc_lo.nd rfl (by first | exact Or.inl rfl | exact Or.inr rfl) (pe_op op_cat (pv 2) (pe_lc (own := [("lot", 4)]) (g := gName 4) (tt := tYes) (te := tOp rCat (tVar 4) (tLst (tCons (tVar 3) tNil))) rfl sc_lo.nd (pi_list (pv 2)) (blkOk_by (by change blkC Nlo (defScope s_lists_of) _ _ = true; decide +kernel)) (fun _ _ _ _ _ => pg_name (i := 4) sc_lo.nd rfl (Or.inl rfl)) (fun _ _ _ _ _ => pts_nil) (fun _ _ _ _ _ => ?el))))))
    (pss_one (ps_ret (pe_callB (cr_sortLL hr.units) rfl (T.bl "sorted" (by decide)) bi_sorted (pa_cons (pe_lc (own := [("lot", 4)]) (g := gName 4) rfl sc_lo.nd (pi_list (pv 2)) (blkOk_by (by change blkC Nlo (defScope s_lists_of) _ _ = true; decide +kernel)) (fun _ _ _ _ _ => pg_name (i := 4) sc_lo.nd rfl (Or.inl rfl))
      (fun _ _ _ _ _ => pts_one (pt_val (pe_call Gi (hr.mono (by decide)) rfl (T.fn "is_list_of" (by decide)) ki Bi .nil pass0 (pa_cons (pv 0) (pa_cons (pv 4) (pa_cons (pv 1) pa_nil)))))) (fun _ _ _ _ _ => pv 4)) pa_nil))))), ?_⟩
  case el => exact pe_op op_cat (pv 4) (pe_lst (pa_cons (pv 3) pa_nil))
  have n8 := ht.2.le
  have bl := belowL_len d n y
  refine ⟨Nat.zero_le _, fun e0 he0 => ⟨by show 1 ≤ sizeLine; decide, fun D0 hD0 => ?_⟩⟩
  have ka := Kp.new (o := .lst []) he0
  have kb0 := Kp.new (o := .lst [.ref e0]) hD0
  refine ⟨_, rfl, _, rfl, x, d, n, y, rfl, ht.kp (ka.trans kb0), hy, (ka.trans kb0).tab _ hPp, fun l H1 hl k1 => ⟨l, rfl, ⟨_, .inl (.inl hl)⟩, ?_⟩⟩
  have k01 := (ka.trans kb0).trans k1
  refine for_list (xs := (belowL d n y).map V.int) (fun i σ H' => ∃ (D : Addr) (bs : List (Addr × List Int)) (o3 : Option V), σ = [some x, some (.int y), some (.ref D), o3, none] ∧ Kp H H' ∧ Kp H1 H' ∧ H' D = some (.lst (bs.map fun q => V.ref q.1)) ∧ LL H H' bs ∧ bs.map Prod.snd = subsL ((belowL d n y).take i))
    ⟨D0, [(e0, [])], none, rfl, k01, Kp.refl _, k1.lst (new_at hD0 _), fun q hq => by
      rw [List.mem_singleton.mp hq]
      exact ⟨k1.lst (kb0.lst (new_at he0 _)), Fz.of (Kp.refl H) he0⟩, rfl⟩ (fun i σ H' _ ⟨_, _, _, _, _, k, _⟩ => .inl (.inl (k.lst hl))) ?_ ?_
  · rintro i v σ H2 hv ⟨D, bs, o3, rfl, k02, k12, hD, ll, sb⟩
    have hi := (List.getElem?_eq_some_iff.mp hv).1
    rw [List.length_map] at hi
    rw [List.getElem?_map] at hv
    obtain ⟨p, hp, rfl⟩ := Option.map_eq_some_iff.mp hv
    have lb : bs.length = 2 ^ i := by rw [← List.length_map (f := Prod.snd), sb, subsL_len _ i (by omega)]
    have p2 : 2 ^ i ≤ 2 ^ 8 := Nat.pow_le_pow_right (by decide) (by omega)
    refine ⟨_, rfl, _, rfl, D, rfl, ⟨_, .inl (.inl hD)⟩, fun E hE => ?_⟩
    refine lc_list (xs := bs.map fun q => V.ref q.1) (fun j H' => Kp H2 H' ∧ ∃ cs : List (Addr × List Int), H' E = some (.lst (cs.map fun q => V.ref q.1)) ∧ LL H H' cs ∧ (∀ q ∈ cs, q.1 ≠ E) ∧ cs.map Prod.snd = ((bs.take j).map Prod.snd).map fun s => s ++ [p])
      ⟨Kp.new hE, [], upd_same, (fun q hq => by cases hq), (fun q hq => by cases hq), rfl⟩ (fun j H' _ v => .inl (.inl (v.1.lst hD))) ?_ ?_
    · rintro j v H3 hv ⟨k3, cs, hE3, lc, ne, sc⟩
      have hj := (List.getElem?_eq_some_iff.mp hv).1
      rw [List.length_map] at hj
      rw [List.getElem?_map] at hv
      obtain ⟨b, hb, rfl⟩ := Option.map_eq_some_iff.mp hv
      have bm := List.mem_of_getElem? hb
      have lcs : cs.length ≤ j := by
        rw [← List.length_map (f := Prod.snd), sc, List.length_map, List.length_map, List.length_take]
        omega
      have hb3 := k3.lst (ll b bm).1
      have ls : b.2.length ≤ i := (subsL_sub (belowL d n y) i (by omega) b.2 (by rw [← sb]; exact List.mem_map_of_mem bm)).2
      refine ⟨rfl, _, rfl, _, rfl, by show 1 ≤ sizeLine; decide, fun t1 ht1 => ?_⟩
      have kt1 := Kp.new (o := .lst [.int p]) ht1
      refine ⟨b.1, t1, _, _, rfl, rfl, kt1.lst hb3, upd_same, by rw [sizeLine_eq, List.length_map]; simp; omega, fun t2 ht2 => ?_⟩
      have kt2 := Kp.new (o := .lst (b.2.map V.int ++ [.int p])) ht2
      have k34 := (k3.trans kt1).trans kt2
      have nt2 : t2 ≠ E := fun z => by
        have := kt1.lst hE3
        rw [← z, ht2] at this
        cases this
      refine ⟨_, (kt1.trans kt2).lst hE3, by rw [sizeLine_eq, List.length_map]; omega, k34.over hE, cs ++ [(t2, b.2 ++ [p])], by rw [List.map_append]; exact upd_same, fun q hq => ?_, fun q hq => ?_, ?_⟩
      · rcases List.mem_append.mp hq with h | h
        · rw [upd_ne (ne q h)]
          exact lc.kp (kt1.trans kt2) q h
        · rw [List.mem_singleton.mp h]
          refine ⟨?_, Fz.of ((k02.trans k3).trans kt1) ht2⟩
          rw [upd_ne nt2, List.map_append]
          exact upd_same
      · rcases List.mem_append.mp hq with h | h
        · exact ne q h
        · rw [List.mem_singleton.mp h]; exact nt2
      · rw [List.map_append, sc, List.take_add_one, hb, List.map_append, List.map_append]; rfl
    · rintro H3 ⟨k3, cs, hE3, lc, ne, sc⟩
      rw [List.length_map, List.take_length] at sc
      have lcs : cs.length = bs.length := by rw [← List.length_map (f := Prod.snd), sc, List.length_map, List.length_map]
      refine ⟨D, E, _, _, rfl, rfl, k3.lst hD, hE3, by rw [sizeLine_eq, List.length_map, List.length_map]; omega, fun D' hD' => ?_⟩
      have kD := Kp.new (o := .lst ((bs.map fun q => V.ref q.1) ++ cs.map fun q => V.ref q.1)) hD'
      refine ⟨D', bs ++ cs, some (.int p), rfl, (k02.trans k3).trans kD, (k12.trans k3).trans kD, by rw [List.map_append]; exact upd_same, fun q hq => ?_, ?_⟩
      · rcases List.mem_append.mp hq with h | h
        · exact ll.kp (k3.trans kD) q h
        · exact lc.kp kD q h
      · rw [List.map_append, sb, sc, subsL_step _ i p hp, sb]
  · rintro σ H2 ⟨D, bs, o3, rfl, k02, k12, hD, ll, sb⟩
    rw [List.length_map, List.take_length] at sb
    have lb : bs.length ≤ 2 ^ 8 := by
      have h1 := subsL_len (belowL d n y) (belowL d n y).length (Nat.le_refl _)
      rw [List.take_length, ← sb, List.length_map] at h1
      rw [h1]
      exact Nat.pow_le_pow_right (by decide) (by omega)
    have sub : ∀ b ∈ bs, (∀ m ∈ b.2, In n m) ∧ b.2.length ≤ 8 := fun b hb => by
      have := subsL_sub (belowL d n y) (belowL d n y).length (Nat.le_refl _) b.2 (by rw [List.take_length, ← sb]; exact List.mem_map_of_mem hb)
      exact ⟨fun m hm => belowL_in (this.1 m hm), by omega⟩
    refine ⟨_, rfl, D, rfl, ⟨_, .inl (.inl hD)⟩, fun E hE => ?_⟩
    refine lc_list (xs := bs.map fun q => V.ref q.1) (fun j H' => Kp H2 H' ∧ H' E = some (.lst (((bs.take j).filter fun q => listB d y q.2).map fun q => V.ref q.1))) ⟨Kp.new hE, upd_same⟩ (fun j H' _ v => .inl (.inl (v.1.lst hD))) ?_ ?_
    · rintro j v H3 hv ⟨k3, hE3⟩
      have hj := (List.getElem?_eq_some_iff.mp hv).1
      rw [List.length_map] at hj
      rw [List.getElem?_map] at hv
      obtain ⟨b, hb, rfl⟩ := Option.map_eq_some_iff.mp hv
      have bm := List.mem_of_getElem? hb
      have fs : (bs.take (j + 1)).filter (fun q => listB d y q.2) = (bs.take j).filter (fun q => listB d y q.2) ++ (if listB d y b.2 = true then [b] else []) := by
        rw [List.take_add_one, hb, List.filter_append]
        cases z : listB d y b.2 <;> simp [z]
      have lf := List.length_filter_le (fun q : Addr × List Int => listB d y q.2) (bs.take j)
      rw [List.length_take] at lf
      refine ⟨rfl, _, rfl, _, rfl, _, rfl, x, d, n, b.1, b.2, y, rfl, ht.kp (k02.trans k3), k3.lst (ll b bm).1, (sub b bm).1, by have := (sub b bm).2; omega, (k02.trans k3).tab _ hPq, fun H4 k4 => ⟨_, rfl, ?_⟩⟩
      refine ite2 (fun c => ?_) (fun c => ?_)
      · refine ⟨_, rfl, _, k4.lst hE3, by rw [sizeLine_eq, List.length_map]; omega, (k3.trans k4).over hE, ?_⟩
        rw [fs, if_pos c, List.map_append]
        exact upd_same
      · refine ⟨k3.trans k4, ?_⟩
        rw [fs, if_neg c, List.append_nil]
        exact k4.lst hE3
    · rintro H3 ⟨k3, hE3⟩
      rw [List.length_map, List.take_length] at hE3
      have l3 : LL H H3 (bs.filter fun q => listB d y q.2) := fun q hq => ll.kp k3 q (List.mem_filter.mp hq).1
      refine ⟨E, bs.filter fun q => listB d y q.2, rfl, .inl (.inl hE3), fun q hq => (l3 q hq).1, fun p bs' e pm hp => ?_⟩
      refine q p bs' _ ?_ upd_same (fun z hz => (l3.kp (Kp.new hp)) z (pm.mem_iff.mp hz)) (Fz.of (k02.trans k3) hp) ((k02.trans k3).trans (Kp.new hp))
      rw [e]
      unfold listsL
      rw [← sb, List.filter_map]; rfl
end
end Tb

namespace Tb
open PySem PySem.Spec PyProof.Rows L2
variable {K : PySem.W.Frag}
section
variable {P : Program} {w : World} {mg : Str → Option Value} {base : Heap} {f : String → Addr} {a c Pt P8 Pp Pq Ph : Addr} {fd g1 g2 g3 g4 : FuncData}
/-! ### check_table, check_number -/
def spCheck (K : PySem.W.Frag) (P8 P9 : Addr) : Sp := fun vs H Q _ => ∃ (x : V) (d : PyData) (n : Nat), vs = [x] ∧ Tbl K H x d n ∧ IsT d ∧ GxR.TabG H P8 ∧ GxR.TabG H P9 ∧ ∀ H', Kp H H' → Q .non H'
theorem sc_ct : FnScope ["table"] ["table"] (defScope s_check_table) := ⟨rfl, rfl, rfl, by decide +kernel, rfl, by decide +kernel, by decide +kernel⟩
theorem ok_ct (T : Tx mg f) (F : Fun K "check_table" "check_table" s_check_table a fd) (G : FnOk P w K mg base CX0 8 (f "is_table") g1 ["value"] (spTab K P8 Pt)) (B : Binds K g1 ["value"] []) (kp : PySem.W.keepIn K (.ref (f "is_table")) = true) : FnOk P w K mg base CX0 9 a fd ["table"] (spCheck K P8 Pt) := by
  refine F.ok sc_ct (fun vs H Q E h => ?_) (fun cdv A outer s H vs Q E hr h => ?_)
  · obtain ⟨_, _, _, rfl, _⟩ := h
    rfl
  obtain ⟨x, d, n, rfl, ht, ist, h8, h9, q⟩ := h
  refine ⟨_, pss_one (ps_if (pt_not (pt_val (pe_call G hr rfl (T.fn "is_table" (by decide)) kp B .nil pass0 (pa_cons (pv 0) pa_nil)))) (pss_one ps_never) pss_nil), ?_⟩
  refine ⟨_, rfl, x, d, rfl, ht.1, h8, h9, fun b H1 hb k1 => ⟨_, rfl, ?_⟩⟩
  rw [hb.mpr ist]
  exact ite2 (fun z => by cases z) (fun _ => q H1 k1)
def spCN (K : PySem.W.Frag) : Sp := fun vs H Q _ => ∃ (x : V) (d : PyData) (n : Nat) (y : Int), vs = [x, .int y] ∧ Tbl K H x d n ∧ In n y ∧ ∀ H', Kp H H' → Q .non H'
theorem sc_cn : FnScope ["table", "number"] ["table", "number"] (defScope s_check_number) := ⟨rfl, rfl, rfl, by decide +kernel, rfl, by decide +kernel, by decide +kernel⟩
theorem ok_cn (T : Tx mg f) (F : Fun K "check_number" "check_number" s_check_number a fd) (G : FnOk P w K mg base CX0 3 (f "is_count_below") g1 ["value", "bound"] (spBel K isBel)) (B : Binds K g1 ["value", "bound"] []) (kp : PySem.W.keepIn K (.ref (f "is_count_below")) = true) : FnOk P w K mg base CX0 4 a fd ["table", "number"] (spCN K) := by
  refine F.ok sc_cn (fun vs H Q E h => ?_) (fun cdv A outer s H vs Q E hr h => ?_)
  · obtain ⟨_, _, _, _, rfl, _⟩ := h
    rfl
  obtain ⟨x, d, n, y, rfl, ht, hy, q⟩ := h
  refine ⟨_, pss_one (ps_if (pt_not (pt_val (pe_call G hr rfl (T.fn "is_count_below" (by decide)) kp B .nil pass0 (pa_cons (pv 1) (pa_cons (pe_callB (cr_len (K := K) rfl) rfl (T.bl "len" (by decide)) PySem.boot_len (pa_cons (pv 0) pa_nil)) pa_nil))))) (pss_one ps_never) pss_nil), ?_⟩
  obtain ⟨t, ys, rfl, sq, ly⟩ := ht.len
  refine ⟨_, rfl, _, rfl, t, ys, rfl, sq, .int y, .int y, _, rfl, .int y, fun H1 k1 => ⟨_, rfl, ?_⟩⟩
  have e : isBel (.int y) ((ys.length : Nat) : Int) = true := by
    show (decide (0 ≤ y) && decide (y < ((ys.length : Nat) : Int))) = true
    obtain ⟨h0, h1⟩ := hy
    rw [decide_eq_true h0, decide_eq_true (by omega)]; rfl
  rw [e]
  exact ite2 (fun z => by cases z) (fun _ => q H1 k1)
/-! ### table_parts, needed, all_lists -/
def spTP (K : PySem.W.Frag) (Pp P8 P9 : Addr) : Sp := fun vs H Q _ => ∃ (x : V) (d : PyData) (n : Nat), vs = [x] ∧ Tbl K H x d n ∧ IsT d ∧ GxR.TabG H Pp ∧ GxR.TabG H P8 ∧ GxR.TabG H P9 ∧ ∀ p H', Fz H p → H' p = some (.lst ((partsL d n).map V.int)) → Kp H H' → Q (.ref p) H'
theorem sc_tp : FnScope ["table"] ["table"] (defScope s_table_parts) := ⟨rfl, rfl, rfl, by decide +kernel, rfl, by decide +kernel, by decide +kernel⟩
theorem fz_back {A B : Hp} {t : Addr} (k : Kp A B) (h : Fz B t) : Fz A t := by
  refine ⟨fun o e => ?_, fun z => h.2 (k.tab t z)⟩
  cases o with
  | tbl ps => exact ⟨ps, rfl⟩
  | _ =>
    have e2 := k.keep t _ e fun ps z => by cases z
    obtain ⟨ps, z⟩ := h.1 _ e2
    cases z
theorem ok_tp (T : Tx mg f) (F : Fun K "table_parts" "table_parts" s_table_parts a fd) (Gc : FnOk P w K mg base CX0 9 (f "check_table") g1 ["table"] (spCheck K P8 Pt)) (Bc : Binds K g1 ["table"] []) (kc : PySem.W.keepIn K (.ref (f "check_table")) = true)
    (G : FnOk P w K mg base CX0 4 (f "parts_in") g2 ["table"] (spParts K Pp)) (B : Binds K g2 ["table"] []) (kp : PySem.W.keepIn K (.ref (f "parts_in")) = true) : FnOk P w K mg base CX0 10 a fd ["table"] (spTP K Pp P8 Pt) := by
  refine F.ok sc_tp (fun vs H Q E h => ?_) (fun cdv A outer s H vs Q E hr h => ?_)
  · obtain ⟨_, _, _, rfl, _⟩ := h
    rfl
  obtain ⟨x, d, n, rfl, ht, ist, hp, h8, h9, q⟩ := h
  refine ⟨_, pss_cons (ps_expr (pe_call Gc hr rfl (T.fn "check_table" (by decide)) kc Bc .nil pass0 (pa_cons (pv 0) pa_nil))) (pss_one (ps_ret (pe_call G (hr.mono (by decide)) rfl (T.fn "parts_in" (by decide)) kp B .nil pass0 (pa_cons (pv 0) pa_nil)))), ?_⟩
  refine ⟨_, rfl, x, d, n, rfl, ht, ist, h8, h9, fun H1 k1 => ⟨_, rfl, x, d, n, rfl, ht.kp k1, k1.tab _ hp, fun p H2 fz hp2 k2 => q p H2 (fz_back k1 fz) hp2 (k1.trans k2)⟩⟩
noncomputable def spAL (K : PySem.W.Frag) (Pp Pq P8 P9 : Addr) : Sp := fun vs H Q _ => ∃ (x : V) (d : PyData) (n : Nat) (y : Int), vs = [x, .int y] ∧ Tbl K H x d n ∧ IsT d ∧ In n y ∧ GxR.TabG H Pp ∧ GxR.TabG H Pq ∧ GxR.TabG H P8 ∧ GxR.TabG H P9 ∧
  ∀ p bs H', bs.map Prod.snd = listsL d n y → H' p = some (.lst (bs.map fun q => V.ref q.1)) → LL H H' bs → Fz H p → Kp H H' → Q (.ref p) H'
theorem sc_al : FnScope ["table", "number"] ["table", "number"] (defScope s_all_lists) := ⟨rfl, rfl, rfl, by decide +kernel, rfl, by decide +kernel, by decide +kernel⟩
theorem ok_al (T : Tx mg f) (F : Fun K "all_lists" "all_lists" s_all_lists a fd) (Gc : FnOk P w K mg base CX0 9 (f "check_table") g1 ["table"] (spCheck K P8 Pt)) (Bc : Binds K g1 ["table"] []) (kc : PySem.W.keepIn K (.ref (f "check_table")) = true)
    (Gn : FnOk P w K mg base CX0 4 (f "check_number") g2 ["table", "number"] (spCN K)) (Bn : Binds K g2 ["table", "number"] []) (kn : PySem.W.keepIn K (.ref (f "check_number")) = true)
    (G : FnOk P w K mg base CX0 6 (f "lists_of") g3 ["table", "number"] (spLists K Pp Pq)) (B : Binds K g3 ["table", "number"] []) (kp : PySem.W.keepIn K (.ref (f "lists_of")) = true) : FnOk P w K mg base CX0 10 a fd ["table", "number"] (spAL K Pp Pq P8 Pt) := by
  refine F.ok sc_al (fun vs H Q E h => ?_) (fun cdv A outer s H vs Q E hr h => ?_)
  · obtain ⟨_, _, _, _, rfl, _⟩ := h
    rfl
  obtain ⟨x, d, n, y, rfl, ht, ist, hy, hp, hq, h8, h9, q⟩ := h
  refine ⟨_, pss_cons (ps_expr (pe_call Gc hr rfl (T.fn "check_table" (by decide)) kc Bc .nil pass0 (pa_cons (pv 0) pa_nil))) (pss_cons (ps_expr (pe_call Gn (hr.mono (by decide)) rfl (T.fn "check_number" (by decide)) kn Bn .nil pass0 (pa_cons (pv 0) (pa_cons (pv 1) pa_nil))))
    (pss_one (ps_ret (pe_call G (hr.mono (by decide)) rfl (T.fn "lists_of" (by decide)) kp B .nil pass0 (pa_cons (pv 0) (pa_cons (pv 1) pa_nil)))))), ?_⟩
  refine ⟨_, rfl, x, d, n, rfl, ht, ist, h8, h9, fun H1 k1 => ⟨_, rfl, _, rfl, x, d, n, y, rfl, ht.kp k1, hy, fun H2 k2 => ?_⟩⟩
  have k12 := k1.trans k2
  exact ⟨_, rfl, _, rfl, x, d, n, y, rfl, ht.kp k12, hy, k12.tab _ hp, k12.tab _ hq, fun p bs H3 e h3 ll fz k3 => q p bs H3 e h3 (fun z hz => ⟨(ll z hz).1, fz_back k12 (ll z hz).2⟩) (fz_back k12 fz) (k12.trans k3)⟩
def needL (d : PyData) (n : Nat) (y : Int) : List Int := (belowL d n y).filter fun p => !decide (joinL d (lessL (belowL d n y) p) = y)
def spNd (K : PySem.W.Frag) (Pp P8 P9 : Addr) : Sp := fun vs H Q _ => ∃ (x : V) (d : PyData) (n : Nat) (y : Int), vs = [x, .int y] ∧ Tbl K H x d n ∧ IsT d ∧ In n y ∧ GxR.TabG H Pp ∧ GxR.TabG H P8 ∧ GxR.TabG H P9 ∧ ∀ p H', Fz H p → H' p = some (.lst ((needL d n y).map V.int)) → Kp H H' → Q (.ref p) H'
abbrev Nnd : List Str := ["table", "number", "below", "part"]
theorem sc_nd : FnScope Nnd ["table", "number"] (defScope s_needed) := ⟨rfl, rfl, rfl, by decide +kernel, rfl, by decide +kernel, by decide +kernel⟩
theorem ok_nd (T : Tx mg f) (F : Fun K "needed" "needed" s_needed a fd) (Gc : FnOk P w K mg base CX0 9 (f "check_table") g1 ["table"] (spCheck K P8 Pt)) (Bc : Binds K g1 ["table"] []) (kc : PySem.W.keepIn K (.ref (f "check_table")) = true)
    (Gn : FnOk P w K mg base CX0 4 (f "check_number") g2 ["table", "number"] (spCN K)) (Bn : Binds K g2 ["table", "number"] []) (kn : PySem.W.keepIn K (.ref (f "check_number")) = true)
    (Gb : FnOk P w K mg base CX0 5 (f "parts_below") g3 ["table", "number"] (spBelow K Pp)) (Bb : Binds K g3 ["table", "number"] []) (kb : PySem.W.keepIn K (.ref (f "parts_below")) = true)
    {g5 g6 : FuncData} (Gj : FnOk P w K mg base CX0 2 (f "joins_to") g5 ["table", "numbers", "goal"] (spJoins K)) (Bj : Binds K g5 ["table", "numbers", "goal"] []) (kj : PySem.W.keepIn K (.ref (f "joins_to")) = true)
    (Gw : FnOk P w K mg base CX0 1 (f "without") g6 ["numbers", "number"] (spLess K)) (Bw : Binds K g6 ["numbers", "number"] []) (kw : PySem.W.keepIn K (.ref (f "without")) = true) : FnOk P w K mg base CX0 10 a fd ["table", "number"] (spNd K Pp P8 Pt) := by
  refine F.ok sc_nd (fun vs H Q E h => ?_) (fun cdv A outer s H vs Q E hr h => ?_)
  · obtain ⟨_, _, _, _, rfl, _⟩ := h
    rfl
  obtain ⟨x, d, n, y, rfl, ht, ist, hy, hp, h8, h9, q⟩ := h
  refine ⟨_, pss_cons (ps_expr (pe_call Gc hr rfl (T.fn "check_table" (by decide)) kc Bc .nil pass0 (pa_cons (pv 0) pa_nil))) (pss_cons (ps_expr (pe_call Gn (hr.mono (by decide)) rfl (T.fn "check_number" (by decide)) kn Bn .nil pass0 (pa_cons (pv 0) (pa_cons (pv 1) pa_nil))))
    (pss_cons (ps_set (i := 2) sc_nd.nd rfl (by first | exact Or.inl rfl | exact Or.inr rfl) (pe_call Gb (hr.mono (by decide)) rfl (T.fn "parts_below" (by decide)) kb Bb .nil pass0 (pa_cons (pv 0) (pa_cons (pv 1) pa_nil))))
    (pss_one (ps_ret (pe_lc (own := [("part", 3)]) (g := gName 3) rfl sc_nd.nd (pi_list (pv 2)) (blkOk_by (by change blkC Nnd (defScope s_needed) _ _ = true; decide +kernel)) (fun _ _ _ _ _ => pg_name (i := 3) sc_nd.nd rfl (Or.inl rfl))
      (fun _ _ _ _ _ => pts_one (pt_not (pt_val (pe_call Gj (hr.mono (by decide)) rfl (T.fn "joins_to" (by decide)) kj Bj .nil pass0 (pa_cons (pv 0) (pa_cons (pe_call Gw (hr.mono (by decide)) rfl (T.fn "without" (by decide)) kw Bw .nil pass0 (pa_cons (pv 2) (pa_cons (pv 3) pa_nil))) (pa_cons (pv 1) pa_nil))))))) (fun _ _ _ _ _ => pv 3)))))), ?_⟩
  refine ⟨_, rfl, x, d, n, rfl, ht, ist, h8, h9, fun H1 k1 => ⟨_, rfl, _, rfl, x, d, n, y, rfl, ht.kp k1, hy, fun H2 k2 => ?_⟩⟩
  have k12 := k1.trans k2
  refine ⟨_, rfl, _, rfl, x, d, n, y, rfl, ht.kp k12, hy, k12.tab _ hp, fun l H3 h3 k3 => ?_⟩
  have k13 := k12.trans k3
  have bl := belowL_len d n y
  have n8 := ht.2.le
  have bin : ∀ m ∈ belowL d n y, In n m := fun m hm => belowL_in hm
  have eN : needL d n y = (belowL d n y).filter fun p => !decide (joinL d (lessL (belowL d n y) p) = y) := rfl
  generalize belowL d n y = L at h3 bl bin eN
  refine ⟨_, rfl, l, rfl, ⟨_, .inl (.inl h3)⟩, fun D hD => ?_⟩
  refine lc_list (xs := L.map V.int) (fun i H' => Kp H3 H' ∧ H' D = some (.lst (((L.take i).filter fun p => !decide (joinL d (lessL L p) = y)).map V.int))) ⟨Kp.new hD, upd_same⟩ (fun i H' _ v => .inl (.inl (v.1.lst h3))) ?_ ?_
  · rintro i v H4 hv ⟨k4, hD4⟩
    rw [List.getElem?_map] at hv
    obtain ⟨z, hz, rfl⟩ := Option.map_eq_some_iff.mp hv
    have lf := List.length_filter_le (fun p => !decide (joinL d (lessL L p) = y)) (L.take i)
    rw [List.length_take] at lf
    refine ⟨rfl, _, rfl, _, rfl, _, rfl, l, L, z, rfl, k4.lst h3, by omega, fun t H5 h5 k5 => ⟨_, rfl, x, d, n, t, lessL L z, y, rfl, ht.kp ((k13.trans k4).trans k5), h5, fun m hm => bin m (List.mem_filter.mp hm).1, fun H6 k6 => ⟨_, rfl, ?_⟩⟩⟩
    have fs := filt_take (fun p => !decide (joinL d (lessL L p) = y)) L i z hz
    have k56 := k5.trans k6
    refine ite2 (fun c => ?_) (fun c => ?_)
    · refine ⟨_, rfl, _, k56.lst hD4, by rw [sizeLine_eq, List.length_map]; omega, (k4.trans k56).over hD, ?_⟩
      rw [fs, if_pos c, List.map_append]
      exact upd_same
    · refine ⟨k4.trans k56, ?_⟩
      rw [fs, if_neg c, List.append_nil]
      exact k56.lst hD4
  · rintro H4 ⟨k4, hD4⟩
    rw [List.length_map, List.take_length] at hD4
    exact q D H4 (Fz.of k13 hD) (by rw [eN]; exact hD4) (k13.trans k4)
end
end Tb

namespace Tb
open PySem PySem.Spec PyProof.Rows L2
variable {K : PySem.W.Frag}
section
variable {P : Program} {w : World} {mg : Str → Option Value} {base : Heap} {f : String → Addr} {a c Pt P8 Pp Pq Ph : Addr} {fd g1 g2 g3 g4 : FuncData}
theorem at_zero (x : V) (l : List V) : atI (x :: l) 0 = some x := atI_nat (j := 0) rfl
theorem at_one (x y : V) (l : List V) : atI (x :: y :: l) 1 = some y := atI_nat (j := 1) rfl
/-! ### has_single_lists -/
def Single (d : PyData) (n : Nat) : Prop := ∀ i, i < n → (listsL d n (i : Int)).length = 1
def spHS (K : PySem.W.Frag) (Ph Pp Pq P8 P9 : Addr) : Sp := fun vs H Q _ => ∃ (x : V) (d : PyData) (n : Nat), vs = [x] ∧ Tbl K H x d n ∧ IsT d ∧ GxR.TabG H Ph ∧ GxR.TabG H Pp ∧ GxR.TabG H Pq ∧ GxR.TabG H P8 ∧ GxR.TabG H P9 ∧ ∀ b H', (b = true ↔ Single d n) → Kp H H' → Q (.bl b) H'
abbrev Nhs : List Str := ["table", "number"]
theorem sc_hs : FnScope Nhs ["table"] (defScope s_has_single_lists) := ⟨rfl, rfl, rfl, by decide +kernel, rfl, by decide +kernel, by decide +kernel⟩
theorem ok_hs (T : Tx mg f) (F : FunC K "has_single_lists" "has_single_lists" s_has_single_lists a fd c) (TB : GxR.TabB base mg c Ph) (Gc : FnOk P w K mg base CX0 9 (f "check_table") g1 ["table"] (spCheck K P8 Pt)) (Bc : Binds K g1 ["table"] []) (kc : PySem.W.keepIn K (.ref (f "check_table")) = true)
    (G : FnOk P w K mg base CX0 6 (f "lists_of") g3 ["table", "number"] (spLists K Pp Pq)) (B : Binds K g3 ["table", "number"] []) (kp : PySem.W.keepIn K (.ref (f "lists_of")) = true) : FnOk P w K mg base CX0 10 a fd ["table"] (spHS K Ph Pp Pq P8 Pt) := by
  refine F.ok sc_hs (fun vs H Q E h => ?_) (fun A outer s H vs Q E hr h => ?_)
  · obtain ⟨_, _, _, rfl, _⟩ := h
    rfl
  obtain ⟨x, d, n, rfl, ht, ist, hh, hp, hq, h8, h9, q⟩ := h
  refine ⟨_, pss_cons (ps_expr (pe_call Gc hr rfl (T.fn "check_table" (by decide)) kc Bc .nil pass0 (pa_cons (pv 0) pa_nil)))
    (pss_one (ps_ret (Gx.pe_all (k := 6) (ix := 1) (hr.mono (by decide)) rfl (T.bl "all" (by decide)) TB rfl (gscp_by (by change gscpC Nhs (defScope s_has_single_lists) _ _ _ = true; decide +kernel)) (pi_range1 rfl (T.bl "range" (by decide)) (pa_cons (pe_callB (cr_len (K := K) rfl) rfl (T.bl "len" (by decide)) PySem.boot_len (pa_cons (pv 0) pa_nil)) pa_nil)) (fun _ _ _ _ _ => pg_name (i := 1) sc_hs.nd rfl (Or.inl rfl))
      (fun _ _ _ _ _ hr' => pe_cmpR op_eq (pe_callB (cr_len (K := K) rfl) rfl (T.bl "len" (by decide)) PySem.boot_len (pa_cons (pe_call G hr' rfl (T.fn "lists_of" (by decide)) kp B .nil pass0 (pa_cons (pv 0) (pa_cons (pv 1) pa_nil))) pa_nil)) pe_int (nomark _)) (fun _ => rfl)))), ?_⟩
  refine ⟨_, rfl, x, d, n, rfl, ht, ist, h8, h9, fun H1 k1 => ?_⟩
  have ht1 := ht.kp k1
  obtain ⟨t, ys, rfl, sq, ly⟩ := ht1.len
  have n8 := ht.2.le
  refine ⟨_, rfl, t, ys, rfl, sq, _, rfl, by omega, by omega, k1.tab _ hh, fun H2 t2 => ?_⟩
  rw [show ((ys.length : Int)).toNat = n by omega]
  have k2 := Kp.tabbed (k1.tab _ hh) t2
  have k12 := k1.trans k2
  refine ⟨n, ⟨fun i σ H' => Kp H2 H' ∧ (∃ o1, σ = [some (.ref t), o1]) ∧ ∀ j, j < i → (listsL d n (j : Int)).length = 1, fun b _ σ H' => Kp H2 H' ∧ ¬ Single d n, fun H' => Kp H2 H' ∧ Single d n⟩, ?_, ⟨Kp.refl _, ⟨none, rfl⟩, fun j hj => absurd hj (Nat.not_lt_zero _)⟩, ?_, ?_⟩
  · rintro i σ H3 hi ⟨k3, ⟨o1, rfl⟩, pre⟩
    rcases Nat.lt_or_ge i n with hlt | hge
    · refine .inr ⟨hlt, hlt, fun z H' hz => ?_⟩
      obtain ⟨ez, eH⟩ := hz
      subst ez eH
      have k13 := k12.trans k3
      have ei : (0 + (i : Int)) = (i : Int) := Int.zero_add _
      rw [ei]
      have hin : In n (i : Int) := ⟨by omega, by omega⟩
      refine ⟨_, rfl, _, rfl, .ref t, d, n, i, rfl, ht.kp k13, hin, k13.tab _ hp, k13.tab _ hq, fun p bs H4 e h4 ll fz k4 => ?_⟩
      have lb : bs.length = (listsL d n (i : Int)).length := by rw [← e, List.length_map]
      refine ⟨p, _, rfl, .inl (.inl (.inl h4)), rfl, _, rfl, ?_⟩
      rw [dec_int', List.length_map]
      by_cases hc : ((bs.length : Nat) : Int) = 1
      · rw [decide_eq_true hc, if_pos rfl]
        refine ⟨k3.trans k4, ⟨_, rfl⟩, fun j hj => ?_⟩
        by_cases z : j = i
        · rw [z, ← lb]; omega
        · exact pre j (by omega)
      · rw [decide_eq_false hc, if_neg (by decide)]
        refine ⟨k3.trans k4, fun z => ?_⟩
        have := z i hlt
        rw [← lb] at this
        exact hc (by omega)
    · have : i = n := by omega
      subst this
      exact .inl ⟨Nat.le_refl _, k3, pre⟩
  · rintro i σ' H' ⟨k3, no⟩
    exact q false H' ⟨(fun z => by cases z), fun z => absurd z no⟩ (k12.trans k3)
  · rintro H' ⟨k3, yes⟩
    exact q true H' ⟨fun _ => yes, fun _ => rfl⟩ (k12.trans k3)
/-! ### two_lists -/
/-- what two_lists tells -/
def Two (d : PyData) (n : Nat) (e : PyData) : Prop := (Single' d n ∧ e = .none) ∨ ∃ i s t r, i < n ∧ (∀ j, j < i → (listsL d n (j : Int)).length ≤ 1) ∧ listsL d n (i : Int) = s :: t :: r ∧ e = .tuple [.int i, encL s, encL t]
  where Single' (d : PyData) (n : Nat) : Prop := ∀ j, j < n → (listsL d n (j : Int)).length ≤ 1
def spTL (K : PySem.W.Frag) (Pp Pq P8 P9 : Addr) : Sp := fun vs H Q _ => ∃ (x : V) (d : PyData) (n : Nat), vs = [x] ∧ Tbl K H x d n ∧ IsT d ∧ GxR.TabG H Pp ∧ GxR.TabG H Pq ∧ GxR.TabG H P8 ∧ GxR.TabG H P9 ∧ ∀ v e H', Rp K H' v e → Two d n e → Kp H H' → Q v H'
abbrev Ntl : List Str := ["table", "number", "lists"]
theorem sc_tl : FnScope Ntl ["table"] (defScope s_two_lists) := ⟨rfl, rfl, rfl, by decide +kernel, rfl, by decide +kernel, by decide +kernel⟩
theorem ok_tl (T : Tx mg f) (F : Fun K "two_lists" "two_lists" s_two_lists a fd) (Gc : FnOk P w K mg base CX0 9 (f "check_table") g1 ["table"] (spCheck K P8 Pt)) (Bc : Binds K g1 ["table"] []) (kc : PySem.W.keepIn K (.ref (f "check_table")) = true)
    (G : FnOk P w K mg base CX0 6 (f "lists_of") g3 ["table", "number"] (spLists K Pp Pq)) (B : Binds K g3 ["table", "number"] []) (kp : PySem.W.keepIn K (.ref (f "lists_of")) = true) : FnOk P w K mg base CX0 10 a fd ["table"] (spTL K Pp Pq P8 Pt) := by
  refine F.ok sc_tl (fun vs H Q E h => ?_) (fun cdv A outer s H vs Q E hr h => ?_)
  · obtain ⟨_, _, _, rfl, _⟩ := h
    rfl
  obtain ⟨x, d, n, rfl, ht, ist, hp, hq, h8, h9, q⟩ := h
  refine ⟨_, pss_cons (ps_expr (pe_call Gc hr rfl (T.fn "check_table" (by decide)) kc Bc .nil pass0 (pa_cons (pv 0) pa_nil)))
    (pss_cons (ps_for PassesOwn.never rfl (pi_range1 rfl (T.bl "range" (by decide)) (pa_cons (pe_callB (cr_len (K := K) rfl) rfl (T.bl "len" (by decide)) PySem.boot_len (pa_cons (pv 0) pa_nil)) pa_nil)) (pg_name (i := 1) sc_tl.nd rfl (Or.inl rfl))
      (pss_cons (ps_set (i := 2) sc_tl.nd rfl (Or.inl rfl) (pe_call G (hr.mono (by decide)) rfl (T.fn "lists_of" (by decide)) kp B .nil pass0 (pa_cons (pv 0) (pa_cons (pv 1) pa_nil))))
        (pss_one (ps_if (pt_cmpR op_gt (pe_callB (cr_len (K := K) rfl) rfl (T.bl "len" (by decide)) PySem.boot_len (pa_cons (pv 2) pa_nil)) pe_int (nomark _)) (pss_one (ps_ret (pe_tup (pa_cons (pv 1) (pa_cons (pe_ix ix_list (pv 2) pe_int (fun _ _ => rfl)) (pa_cons (pe_ix ix_list (pv 2) pe_int (fun _ _ => rfl)) pa_nil)))))) pss_nil))))
    (pss_one (ps_ret pe_non))), ?_⟩
  refine ⟨_, rfl, x, d, n, rfl, ht, ist, h8, h9, fun H1 k1 => ?_⟩
  have ht1 := ht.kp k1
  obtain ⟨t, ys, rfl, sq, ly⟩ := ht1.len
  have n8 := ht.2.le
  refine ⟨_, rfl, t, ys, rfl, sq, _, rfl, by omega, by omega, ?_⟩
  rw [show ((ys.length : Int)).toNat = n by omega]
  refine for_range (lo := 0) (n := n) (fun i σ H' => Kp H1 H' ∧ (∃ o1 o2, σ = [some (.ref t), o1, o2]) ∧ ∀ j, j < i → (listsL d n (j : Int)).length ≤ 1) ⟨Kp.refl _, ⟨none, none, rfl⟩, fun j hj => absurd hj (Nat.not_lt_zero _)⟩ ?_ ?_
  · rintro i σ H2 hi ⟨k2, ⟨o1, o2, rfl⟩, pre⟩
    have k12 := k1.trans k2
    have ei : (0 + (i : Int)) = (i : Int) := Int.zero_add _
    rw [ei]
    have hin : In n (i : Int) := ⟨by omega, by omega⟩
    refine ⟨_, rfl, _, rfl, .ref t, d, n, i, rfl, ht.kp k12, hin, k12.tab _ hp, k12.tab _ hq, fun p bs H3 e h3 ll fz k3 => ?_⟩
    have lb : bs.length = (listsL d n (i : Int)).length := by rw [← e, List.length_map]
    refine ⟨_, rfl, p, _, rfl, .inl (.inl (.inl h3)), _, _, rfl, rfl, _, rfl, ?_⟩
    rw [List.length_map]
    refine ite2 (fun c => ?_) (fun c => ?_)
    · have c1 : (1 : Int) < ((bs.length : Nat) : Int) := of_decide_eq_true c
      match bs, e, h3, ll, c1 with
      | [], _, _, _, c1 => exact absurd c1 (by decide)
      | [_], _, _, _, c1 => exact absurd c1 (by simp)
      | b1 :: b2 :: br, e, h3, ll, _ =>
        refine ⟨_, rfl, _, rfl, p, _, _, .ref b1.1, rfl, rfl, .inl (.inl h3), at_zero _ _, _, rfl, p, _, _, .ref b2.1, rfl, rfl, .inl (.inl h3), at_one _ _ _, by show 3 ≤ sizeLine; decide, fun tt htt => ?_⟩
        have kt := Kp.new (o := .tup [.int i, .ref b1.1, .ref b2.1]) htt
        have r1 : Rp K (upd H3 tt (.tup [.int i, .ref b1.1, .ref b2.1])) (.ref b1.1) (encL b1.2) := .lst (kt.lst (ll b1 (by simp)).1) (RpL.ints _)
        have r2 : Rp K (upd H3 tt (.tup [.int i, .ref b1.1, .ref b2.1])) (.ref b2.1) (encL b2.2) := .lst (kt.lst (ll b2 (by simp)).1) (RpL.ints _)
        exact q (.ref tt) _ _ (.tup upd_same (.cons (.int _) (.cons r1 (.cons r2 .nil)))) (.inr ⟨i, b1.2, b2.2, br.map Prod.snd, hi, pre, by rw [← e]; rfl, rfl⟩) ((k12.trans k3).trans kt)
    · refine ⟨k2.trans k3, ⟨_, _, rfl⟩, fun j hj => ?_⟩
      by_cases z : j = i
      · have c1 : ¬ (1 : Int) < ((bs.length : Nat) : Int) := of_decide_eq_false (Bool.eq_false_iff.mpr c)
        rw [z, ← lb]; omega
      · exact pre j (by omega)
  · rintro σ H2 ⟨k2, ⟨o1, o2, rfl⟩, pre⟩
    exact q .non .none H2 .non (.inl ⟨pre, rfl⟩) (k1.trans k2)
end
end Tb

namespace Tb
open PySem PySem.Spec PyProof.Rows L2
variable {K : PySem.W.Frag}
/-- a list comprehension over enumerate(a list that stays) -/
theorem lc_enum {a : Addr} {xs : List V} {g : TG} {tt : TT} {te : TE} {vs : List Nat} {σ : L2.St} {H1 : Hp} {D : Addr} {Qd : Hp → Prop} (Pv : Nat → Hp → Prop) (h0 : Pv 0 (upd H1 D (.lst []))) (hl : ∀ i H, i ≤ xs.length → Pv i H → SqL K H a xs)
    (hs : ∀ i x H T, xs[i]? = some x → Pv i H → H T = none → g (.ref T) (wipe σ vs) (upd H T (.tup [.int (i : Nat), x])) fun σ2 H2 => wipe σ2 vs = wipe σ vs ∧ tt σ2 H2 fun b H3 =>
      if b = true then te σ2 H3 fun y H4 => ∃ acc, H4 D = some (.lst acc) ∧ acc.length < sizeLine ∧ Pv (i + 1) (upd H4 D (.lst (acc ++ [y]))) else Pv (i + 1) H3) (hd : ∀ H, Pv xs.length H → Qd H) :
    ∃ W : Nat → Nat → Hp → Prop, (∃ m, W 0 m (upd H1 D (.lst []))) ∧ ∀ i m H, W i m H →
      ((Ite K a).stop i H ∧ Qd H) ∨ ((Ite K a).go i H ∧ ∃ Nx : Hp → Prop, (∀ H', Nx H' → ∃ m', m' < m ∧ W (i + 1) m' H') ∧ ∀ x H', (Ite K a).yld i H x H' → g x (wipe σ vs) H' fun σ2 H2 => wipe σ2 vs = wipe σ vs ∧ tt σ2 H2 fun b H3 =>
        if b = true then te σ2 H3 fun y H4 => ∃ acc, H4 D = some (.lst acc) ∧ acc.length < sizeLine ∧ Nx (upd H4 D (.lst (acc ++ [y]))) else Nx H3) := by
  refine ⟨fun i m H => m = xs.length - i ∧ i ≤ xs.length ∧ Pv i H, ⟨xs.length, by simp, Nat.zero_le _, h0⟩, ?_⟩
  rintro i m H ⟨rfl, hi, p⟩
  have q := hl i H hi p
  rcases Nat.lt_or_ge i xs.length with lt | ge
  · refine .inr ⟨⟨xs, xs[i], q, List.getElem?_eq_getElem lt⟩, Pv (i + 1), fun H' p' => ⟨xs.length - (i + 1), by omega, rfl, lt, p'⟩, fun x H' y => ?_⟩
    obtain ⟨T, z, rfl, hT, rfl, hz⟩ := y
    exact hs i z H T (hz xs q) p hT
  · have e : i = xs.length := by omega
    subst e
    exact .inl ⟨⟨xs, q, Nat.le_refl _⟩, hd H p⟩
/-! ### what the law's defs tell of its lots -/
def lot (ts : List Int) (i : Int) : Int := ts.getD i.toNat 0
def loB (ts : List Int) (x y : Int) : Bool := decide (bo (lot ts x) (lot ts y) = lot ts y)
def belI (ts : List Int) (y : Int) : List Int := (rng ts.length).filter fun x => loB ts x y
def orL (ts : List Int) (ns : List Int) : Int := ns.foldl (fun t m => bo t (lot ts m)) 0
theorem lot_at {ts : List Int} {i : Int} (h : In ts.length i) : ts[i.toNat]? = some (lot ts i) := by
  unfold lot
  rw [List.getD_eq_getElem?_getD, List.getElem?_eq_getElem h.2]; rfl
theorem lot_ix {ts : List Int} {i : Int} (h : In ts.length i) : atI (ts.map V.int) i = some (.int (lot ts i)) := by
  have := atI_nat (xs := ts.map V.int) (j := i.toNat) (v := .int (lot ts i)) (by rw [List.getElem?_map, lot_at h]; rfl)
  rw [show ((i.toNat : Nat) : Int) = i by have := h.1; omega] at this
  exact this
/-- lots as they are told -/
structure Lots (ts : List Int) : Prop where
  pos : 1 ≤ ts.length
  le : ts.length ≤ 8
  rng : ∀ x ∈ ts, R16 x
  cl : ∀ x ∈ ts, ∀ y ∈ ts, bo x y ∈ ts
  zero : 0 ∈ ts
theorem lot_mem {ts : List Int} {i : Int} (h : In ts.length i) : lot ts i ∈ ts := List.mem_of_getElem? (lot_at h)
theorem orL_mem {ts : List Int} (L : Lots ts) : ∀ (ns : List Int) (t : Int), (∀ m ∈ ns, In ts.length m) → t ∈ ts → ns.foldl (fun t m => bo t (lot ts m)) t ∈ ts
  | [], _, _, h => h
  | m :: r, t, hn, h => orL_mem L r _ (fun x hx => hn x (List.mem_cons_of_mem _ hx)) (L.cl t h _ (lot_mem (hn m List.mem_cons_self)))
section
variable {P : Program} {w : World} {mg : Str → Option Value} {base : Heap} {f : String → Addr} {a c Pt P8 Pp Pq Ph : Addr} {fd g1 g2 g3 g4 : FuncData}
/-! ### _law_below -/
def spLb : Sp := fun vs H Q _ => ∃ (l : Addr) (ts : List Int) (y : Int), vs = [.ref l, .int y] ∧ H l = some (.lst (ts.map V.int)) ∧ ts.length ≤ 8 ∧ In ts.length y ∧ ∀ p H', H' p = some (.lst ((belI ts y).map V.int)) → Kp H H' → Q (.ref p) H'
abbrev Nlb : List Str := ["_law_lots_here", "_law_number", "_law_at", "_law_lot"]
theorem sc_lb : FnScope Nlb ["_law_lots_here", "_law_number"] (defScope s__law_below) := ⟨rfl, rfl, rfl, by decide +kernel, rfl, by decide +kernel, by decide +kernel⟩
theorem ok_lb (T : Tx mg f) (F : Fun K "_law_below" "_law_below" s__law_below a fd) : FnOk P w K mg base CX0 1 a fd ["_law_lots_here", "_law_number"] spLb := by
  refine F.ok sc_lb (fun vs H Q E h => ?_) (fun cdv A outer s H vs Q E hr h => ?_)
  · obtain ⟨_, _, _, rfl, _⟩ := h
    rfl
  obtain ⟨l, ts, y, rfl, hl, n8, hy, q⟩ := h
  refine ⟨_, pss_one (ps_ret (pe_lc (own := [("_law_at", 2), ("_law_lot", 3)]) (g := gTup K 2 (gCons (gName 2) (gCons (gName 3) gNil))) (tt := tTest (tOp rEq (tOp (rI0 fun i j => .int (Builtin.bitOr i j)) (tVar 3) (tOp (rIxL K) (tVar 0) (tVar 1))) (tOp (rIxL K) (tVar 0) (tVar 1)))) (te := tVar 2) rfl sc_lb.nd (pi_enum rfl (T.bl "enumerate" (by decide)) (pa_cons (pv 0) pa_nil)) (blkOk_by (by change blkC Nlb (defScope s__law_below) _ _ = true; decide +kernel)) (fun _ _ _ _ _ => ?tg)
      (fun _ _ _ _ _ => ?ts) (fun _ _ _ _ _ => pv 2))), ?_⟩
  case ts => exact pts_one (pt_cmpR op_eq (pe_op op_or (pv 3) (pe_ix ix_list (pv 0) (pv 1) (fun _ _ => rfl))) (pe_ix ix_list (pv 0) (pv 1) (fun _ _ => rfl)) (nomark _))
  case tg => exact pg_tup rfl (pgs_cons (pg_name (i := 2) sc_lb.nd rfl (Or.inl rfl)) (pgs_cons (pg_name (i := 3) sc_lb.nd rfl (Or.inl rfl)) pgs_nil))
  refine ⟨_, rfl, l, _, rfl, .inl (.inl hl), fun D hD => ?_⟩
  refine lc_enum (xs := ts.map V.int) (fun i H' => Kp H H' ∧ H' D = some (.lst (((rng i).filter fun x => loB ts x y).map V.int))) ⟨Kp.new hD, upd_same⟩ (fun i H' _ v => .inl (.inl (v.1.lst hl))) ?_ ?_
  · rintro i v H1 Tt hv ⟨k1, hD1⟩ hT
    have hi := (List.getElem?_eq_some_iff.mp hv).1
    rw [List.length_map] at hi
    rw [List.getElem?_map] at hv
    obtain ⟨z, hz, rfl⟩ := Option.map_eq_some_iff.mp hv
    have hin : In ts.length (i : Int) := ⟨by omega, by omega⟩
    have ez : z = lot ts (i : Int) := by
      have := lot_at hin
      rw [show ((i : Int)).toNat = i by omega, hz] at this
      exact Option.some.inj this
    subst ez
    have kT := Kp.new (o := .tup [.int (i : Nat), .int (lot ts (i : Int))]) hT
    have k1T := k1.trans kT
    have hlT : SqL K (upd H1 Tt (.tup [.int (i : Nat), .int (lot ts (i : Int))])) l (ts.map V.int) := .inl (.inl (k1T.lst hl))
    have lf := List.length_filter_le (fun x => loB ts x y) (rng i)
    rw [rng_len] at lf
    refine ⟨Tt, _, rfl, .inl (.inl upd_same), rfl, _, _, rfl, _, _, rfl, rfl, rfl, ?_⟩
    refine ⟨_, rfl, _, rfl, _, rfl, l, _, _, _, rfl, rfl, hlT, lot_ix hy, _, _, rfl, rfl, _, rfl, _, rfl, l, _, _, _, rfl, rfl, hlT, lot_ix hy, rfl, _, rfl, ?_⟩
    have fs := filt_succ (fun x => loB ts x y) i
    have eb : decide (V.int (Builtin.bitOr (lot ts (i : Int)) (lot ts y)) = V.int (lot ts y)) = loB ts (i : Int) y := dec_int'
    rw [eb]
    refine ite2 (fun c => ?_) (fun c => ?_)
    · refine ⟨_, rfl, _, kT.lst hD1, by rw [sizeLine_eq, List.length_map]; omega, k1T.over hD, ?_⟩
      rw [fs, if_pos c, List.map_append]
      exact upd_same
    · refine ⟨k1T, ?_⟩
      rw [fs, if_neg c, List.append_nil]
      exact kT.lst hD1
  · rintro H1 ⟨k1, hD1⟩
    rw [List.length_map] at hD1
    exact q D H1 hD1 k1
/-! ### _law_joined -/
def spLj : Sp := fun vs H Q _ => ∃ (l m : Addr) (ts ns : List Int), vs = [.ref l, .ref m] ∧ H l = some (.lst (ts.map V.int)) ∧ Lots ts ∧ H m = some (.lst (ns.map V.int)) ∧ (∀ i ∈ ns, In ts.length i) ∧ Q (.int (plc ts (orL ts ns))) H
theorem sc_lj : FnScope ["_law_lots_here", "_law_numbers", "_law_found", "_law_number"] ["_law_lots_here", "_law_numbers"] (defScope s__law_joined) := ⟨rfl, rfl, rfl, by decide +kernel, rfl, by decide +kernel, by decide +kernel⟩
theorem ok_lj (F : Fun K "_law_joined" "_law_joined" s__law_joined a fd) : FnOk P w K mg base CX0 1 a fd ["_law_lots_here", "_law_numbers"] spLj := by
  refine F.ok sc_lj (fun vs H Q E h => ?_) (fun cdv A outer s H vs Q E hr h => ?_)
  · obtain ⟨_, _, _, _, rfl, _⟩ := h
    rfl
  obtain ⟨l, m, ts, ns, rfl, hl, L, hm, hns, q⟩ := h
  refine ⟨_, pss_cons (ps_set (i := 2) sc_lj.nd rfl (Or.inl rfl) pe_int) (pss_cons (ps_for PassesOwn.never rfl (pi_list (pv 1)) (pg_name (i := 3) sc_lj.nd rfl (Or.inl rfl))
      (pss_one (ps_set (i := 2) sc_lj.nd rfl (Or.inl rfl) (pe_op op_or (pv 2) (pe_ix ix_list (pv 0) (pv 3) (fun _ _ => rfl))))))
    (pss_one (ps_ret (pe_bm PySem.F.plainAttrs_list PySem.F.slot_list_index PySem.F.type_list_index mt_index (pv 0) (pa_cons (pv 2) pa_nil))))), ?_⟩
  have sl : SqL K H l (ts.map V.int) := .inl (.inl hl)
  refine ⟨_, rfl, m, rfl, ⟨_, .inl (.inl hm)⟩, ?_⟩
  refine for_list (xs := ns.map V.int) (fun i σ H' => H = H' ∧ ∃ o3, σ = [some (.ref l), some (.ref m), some (.int (orL ts (ns.take i))), o3]) ⟨rfl, none, rfl⟩ (fun i σ H' _ v => .inl (.inl (by rw [← v.1]; exact hm))) ?_ ?_
  · rintro i v σ H1 hv ⟨rfl, o3, rfl⟩
    rw [List.getElem?_map] at hv
    obtain ⟨z, hz, rfl⟩ := Option.map_eq_some_iff.mp hv
    refine ⟨_, rfl, _, rfl, _, rfl, l, _, _, _, rfl, rfl, sl, lot_ix (hns z (List.mem_of_getElem? hz)), _, _, rfl, rfl, rfl, some (.int z), ?_⟩
    have e : orL ts (ns.take (i + 1)) = bo (orL ts (ns.take i)) (lot ts z) := by
      unfold orL
      rw [List.take_add_one, hz, List.foldl_append]; rfl
    rw [e]; rfl
  · rintro σ H1 ⟨rfl, o3, rfl⟩
    rw [List.length_map, List.take_length]
    have mem := orL_mem L ns 0 hns L.zero
    obtain ⟨j, j1, j2, j3⟩ := first_at ts (orL ts ns) mem
    refine ⟨_, rfl, .inl ⟨rfl, _, sl⟩, _, rfl, l, _, _, j, .int (orL ts ns), rfl, rfl, sl, rfl, flat_ints ts, by rw [List.getElem?_map, j1]; rfl, by show (orL ts ns == orL ts ns) = true; exact beq_self_eq_true _, fun m' z' hm' hz' => ?_, ?_⟩
    · rw [List.getElem?_map] at hz'
      obtain ⟨z', h1, rfl⟩ := Option.map_eq_some_iff.mp hz'
      show (z' == orL ts ns) = false
      exact beq_false_of_ne (j3 m' z' hm' h1)
    · rw [plc_at ts _ j j1 j3] at q
      exact q
end
end Tb

namespace Tb
open PySem PySem.Spec PyProof.Rows L2
variable {K : PySem.W.Frag}
def parB (ts : List Int) (y : Int) : Bool := !decide (plc ts (orL ts (lessL (belI ts y) y)) = y)
def partsT (ts : List Int) : List Int := (rng ts.length).filter fun y => !decide (y = 0) && parB ts y
theorem belI_in {ts : List Int} {x y : Int} (h : x ∈ belI ts y) : In ts.length x := rng_mem.mp (List.mem_filter.mp h).1
theorem belI_len (ts : List Int) (y : Int) : (belI ts y).length ≤ ts.length := by
  have := List.length_filter_le (fun x => loB ts x y) (rng ts.length)
  rw [rng_len] at this
  exact this
theorem int_flat (ns : List Int) : (ns.map V.int).all flatV = true := flat_ints ns
theorem inV_ints (x : Int) : ∀ ns : List Int, inV (V.int x) (ns.map V.int) = decide (x ∈ ns)
  | [] => rfl
  | n :: r => by
    have ih := inV_ints x r
    unfold inV at ih ⊢
    rw [List.map_cons, List.any_cons, ih]
    by_cases h : n = x
    · subst h
      simp [eqV]
    · have h2 : ¬ x = n := fun z => h z.symm
      simp [eqV, h, h2]
section
variable {P : Program} {w : World} {mg : Str → Option Value} {base : Heap} {f : String → Addr} {a c Pt P8 Pp Pq Ph : Addr} {fd g1 g2 g3 g4 : FuncData}
/-! ### _law_parts -/
def spLp : Sp := fun vs H Q _ => ∃ (l : Addr) (ts : List Int), vs = [.ref l] ∧ H l = some (.lst (ts.map V.int)) ∧ Lots ts ∧ ∀ p H', Fz H p → H' p = some (.lst ((partsT ts).map V.int)) → Kp H H' → Q (.ref p) H'
abbrev Nlp : List Str := ["_law_lots_here", "_law_found", "_law_number", "_law_lesser", "_law_at"]
theorem sc_lp : FnScope Nlp ["_law_lots_here"] (defScope s__law_parts) := ⟨rfl, rfl, rfl, by decide +kernel, rfl, by decide +kernel, by decide +kernel⟩
theorem ok_lp (T : Tx mg f) (F : Fun K "_law_parts" "_law_parts" s__law_parts a fd) (Gb : FnOk P w K mg base CX0 1 (f "_law_below") g1 ["_law_lots_here", "_law_number"] spLb) (Bb : Binds K g1 ["_law_lots_here", "_law_number"] []) (kb : PySem.W.keepIn K (.ref (f "_law_below")) = true)
    (Gj : FnOk P w K mg base CX0 1 (f "_law_joined") g2 ["_law_lots_here", "_law_numbers"] spLj) (Bj : Binds K g2 ["_law_lots_here", "_law_numbers"] []) (kj : PySem.W.keepIn K (.ref (f "_law_joined")) = true) : FnOk P w K mg base CX0 2 a fd ["_law_lots_here"] spLp := by
  refine F.ok sc_lp (fun vs H Q E h => ?_) (fun cdv A outer s H vs Q E hr h => ?_)
  · obtain ⟨_, _, rfl, _⟩ := h
    rfl
  obtain ⟨l, ts, rfl, hl, L, q⟩ := h
  refine ⟨_, pss_cons (ps_set (i := 1) sc_lp.nd rfl (Or.inl rfl) (pe_lst pa_nil))
    (pss_cons (ps_for PassesOwn.never rfl (pi_range2 rfl (T.bl "range" (by decide)) (pa_cons pe_int (pa_cons (pe_callB (cr_len (K := K) rfl) rfl (T.bl "len" (by decide)) PySem.boot_len (pa_cons (pv 0) pa_nil)) pa_nil))) (pg_name (i := 2) sc_lp.nd rfl (by first | exact Or.inl rfl | exact Or.inr rfl))
      (pss_cons (ps_setLc (i := 3) (own := [("_law_at", 4)]) (g := gName 4) rfl sc_lp.nd rfl rfl (sw_true rfl rfl rfl (by decide +kernel)) (pi_list (pe_call Gb (hr.mono (by decide)) rfl (T.fn "_law_below" (by decide)) kb Bb .nil pass0 (pa_cons (pv 0) (pa_cons (pv 2) pa_nil)))) (blkOk_by (by change blkC Nlp (defScope s__law_parts) _ _ = true; decide +kernel)) (fun _ _ _ _ _ => pg_name (i := 4) sc_lp.nd rfl (Or.inl rfl)) (fun _ _ _ _ _ => pts_one (pt_cmpR op_ne (pv 4) (pv 2) (nomark _))) (fun _ _ _ _ _ => pv 4))
        (pss_one (ps_if (pt_cmpR op_ne (pe_call Gj (hr.mono (by decide)) rfl (T.fn "_law_joined" (by decide)) kj Bj .nil pass0 (pa_cons (pv 0) (pa_cons (pv 3) pa_nil))) (pv 2) (nomark _))
          (pss_one (ps_expr (pe_bm PySem.F.plainAttrs_list PySem.F.slot_list_append PySem.F.type_list_append mt_append (pv 1) (pa_cons (pv 2) pa_nil)))) pss_nil))))
    (pss_one (ps_ret (pv 1)))), ?_⟩
  have n8 := L.le
  have n1 := L.pos
  refine ⟨Nat.zero_le _, fun FD hFD => ?_⟩
  have k0 := Kp.new (o := .lst []) hFD
  have hl0 := k0.lst hl
  refine ⟨_, rfl, l, _, rfl, .inl (.inl (.inl hl0)), 1, _, rfl, ⟨by decide, by decide, by omega, by rw [List.length_map]; omega⟩, ?_⟩
  rw [show ((((ts.map V.int).length : Nat) : Int) - 1).toNat = ts.length - 1 by rw [List.length_map]; omega]
  refine for_range (lo := 1) (n := ts.length - 1) (fun i σ H' => Kp H H' ∧ (∃ o2 o3, σ = [some (.ref l), some (.ref FD), o2, o3, none]) ∧ H' FD = some (.lst (((rng (i + 1)).filter fun y => !decide (y = 0) && parB ts y).map V.int)))
    ⟨k0, ⟨none, none, rfl⟩, upd_same⟩ ?_ ?_
  · rintro i σ H1 hi ⟨k1, ⟨o2, o3, rfl⟩, hF⟩
    have ei : (1 + (i : Int)) = ((i + 1 : Nat) : Int) := by omega
    rw [ei]
    have hin : In ts.length ((i + 1 : Nat) : Int) := ⟨by omega, by omega⟩
    have hl1 := k1.lst hl
    refine ⟨_, rfl, _, rfl, l, ts, _, rfl, hl1, n8, hin, fun b H2 hb k2 => ⟨b, rfl, ⟨_, .inl (.inl hb)⟩, fun D hD => ?_⟩⟩
    have bl := belI_len ts ((i + 1 : Nat) : Int)
    have bin : ∀ z ∈ belI ts ((i + 1 : Nat) : Int), In ts.length z := fun z hz => belI_in hz
    have eP : parB ts ((i + 1 : Nat) : Int) = !decide (plc ts (orL ts (lessL (belI ts ((i + 1 : Nat) : Int)) ((i + 1 : Nat) : Int))) = ((i + 1 : Nat) : Int)) := rfl
    generalize belI ts ((i + 1 : Nat) : Int) = B at hb bl bin eP
    refine lc_list (xs := B.map V.int) (fun j H' => Kp H2 H' ∧ H' D = some (.lst ((lessL (B.take j) ((i + 1 : Nat) : Int)).map V.int))) ⟨Kp.new hD, upd_same⟩ (fun j H' _ v => .inl (.inl (v.1.lst hb))) ?_ ?_
    · rintro j v H3 hv ⟨k3, hD3⟩
      rw [List.getElem?_map] at hv
      obtain ⟨z, hz, rfl⟩ := Option.map_eq_some_iff.mp hv
      have fs : lessL (B.take (j + 1)) ((i + 1 : Nat) : Int) = lessL (B.take j) ((i + 1 : Nat) : Int) ++ (if (!decide (z = ((i + 1 : Nat) : Int))) = true then [z] else []) := filt_take (fun x => !decide (x = ((i + 1 : Nat) : Int))) B j z hz
      have lf : (lessL (B.take j) ((i + 1 : Nat) : Int)).length ≤ (B.take j).length := List.length_filter_le _ _
      rw [List.length_take] at lf
      refine ⟨rfl, _, rfl, _, rfl, rfl, _, rfl, ?_⟩
      rw [dec_int']
      refine ite2 (fun c => ?_) (fun c => ?_)
      · refine ⟨_, rfl, _, hD3, by rw [sizeLine_eq, List.length_map]; omega, k3.over hD, ?_⟩
        rw [fs, if_pos c, List.map_append]
        exact upd_same
      · refine ⟨k3, ?_⟩
        rw [fs, if_neg c, List.append_nil]
        exact hD3
    · rintro H3 ⟨k3, hD3⟩
      rw [List.length_map, List.take_length] at hD3
      have k13 := (k1.trans k2).trans k3
      refine ⟨_, rfl, _, rfl, l, D, ts, lessL B ((i + 1 : Nat) : Int), rfl, k13.lst hl, L, hD3, fun z hz => bin z (List.mem_filter.mp hz).1, ?_⟩
      refine ⟨_, rfl, rfl, _, rfl, ?_⟩
      rw [dec_int', ← eP]
      have hF3 := (k2.trans k3).lst hF
      have fs := filt_succ (fun y => !decide (y = 0) && parB ts y) (i + 1)
      have nz : (!decide (((i + 1 : Nat) : Int) = 0)) = true := by
        rw [decide_eq_false (by omega)]; rfl
      have lf := List.length_filter_le (fun y => !decide (y = 0) && parB ts y) (rng (i + 1))
      rw [rng_len] at lf
      refine ite2 (fun c => ?_) (fun c => ?_)
      · refine ⟨_, rfl, .inl ⟨rfl, _, .inl (.inl hF3)⟩, _, rfl, FD, _, _, rfl, rfl, hF3, by rw [sizeLine_eq, List.length_map]; omega, k13.over hFD, ⟨_, _, rfl⟩, ?_⟩
        rw [fs, nz, Bool.true_and, if_pos c, List.map_append]
        exact upd_same
      · refine ⟨k13, ⟨_, _, rfl⟩, ?_⟩
        rw [fs, nz, Bool.true_and, if_neg c, List.append_nil]
        exact hF3
  · rintro σ H1 ⟨k1, ⟨o2, o3, rfl⟩, hF⟩
    rw [show ts.length - 1 + 1 = ts.length by omega] at hF
    exact ⟨_, rfl, q FD H1 (Fz.of (Kp.refl H) hFD) hF k1⟩
end
end Tb

namespace Tb
open PySem PySem.Spec PyProof.Rows L2
variable {K : PySem.W.Frag}
def someT (ts ps : List Int) (y : Int) : List Int := ps.filter fun p => decide (p ∈ belI ts y)
def nedB (ts some : List Int) (y p : Int) : Bool := !decide (plc ts (orL ts (lessL some p)) = y)
def needT (ts ps : List Int) (y : Int) : List Int := (someT ts ps y).filter fun p => nedB ts (someT ts ps y) y p
theorem someT_in {ts ps : List Int} {y p : Int} (h : p ∈ someT ts ps y) : In ts.length p := belI_in (of_decide_eq_true (List.mem_filter.mp h).2)
section
variable {P : Program} {w : World} {mg : Str → Option Value} {base : Heap} {f : String → Addr} {a c Pt P8 Pp Pq Ph : Addr} {fd g1 g2 g3 g4 : FuncData}
/-! ### _law_needed -/
def spLn : Sp := fun vs H Q _ => ∃ (l m : Addr) (ts ps : List Int) (y : Int), vs = [.ref l, .ref m, .int y] ∧ H l = some (.lst (ts.map V.int)) ∧ Lots ts ∧ H m = some (.lst (ps.map V.int)) ∧ ps.length ≤ 8 ∧ In ts.length y ∧ ∀ p H', Fz H p → H' p = some (.lst ((needT ts ps y).map V.int)) → Kp H H' → Q (.ref p) H'
abbrev Nln : List Str := ["_law_lots_here", "_law_parts_here", "_law_number", "_law_some", "_law_found", "_law_part", "_law_one"]
theorem sc_ln : FnScope Nln ["_law_lots_here", "_law_parts_here", "_law_number"] (defScope s__law_needed) := ⟨rfl, rfl, rfl, by decide +kernel, rfl, by decide +kernel, by decide +kernel⟩
theorem ok_ln (T : Tx mg f) (F : Fun K "_law_needed" "_law_needed" s__law_needed a fd) (Gb : FnOk P w K mg base CX0 1 (f "_law_below") g1 ["_law_lots_here", "_law_number"] spLb) (Bb : Binds K g1 ["_law_lots_here", "_law_number"] []) (kb : PySem.W.keepIn K (.ref (f "_law_below")) = true)
    (Gj : FnOk P w K mg base CX0 1 (f "_law_joined") g2 ["_law_lots_here", "_law_numbers"] spLj) (Bj : Binds K g2 ["_law_lots_here", "_law_numbers"] []) (kj : PySem.W.keepIn K (.ref (f "_law_joined")) = true) : FnOk P w K mg base CX0 2 a fd ["_law_lots_here", "_law_parts_here", "_law_number"] spLn := by
  refine F.ok sc_ln (fun vs H Q E h => ?_) (fun cdv A outer s H vs Q E hr h => ?_)
  · obtain ⟨_, _, _, _, _, rfl, _⟩ := h
    rfl
  obtain ⟨l, m, ts, ps, y, rfl, hl, L, hm, p8, hy, q⟩ := h
  refine ⟨_, pss_cons (ps_setLc (i := 3) (own := [("_law_part", 5)]) (g := gName 5) (tt := tTest (tOp (rIn K false) (tVar 5) (tCall spLb [] E0 (tCons (tVar 0) (tCons (tVar 2) tNil))))) (te := tVar 5) rfl sc_ln.nd rfl (by first | rfl | decide +kernel) (sw_true rfl (by first | rfl | decide +kernel) rfl (by decide +kernel)) (pi_list (pv 1)) (blkOk_by (by change blkC Nln (defScope s__law_needed) _ _ = true; decide +kernel)) (fun _ _ _ _ _ => pg_name (i := 5) sc_ln.nd rfl (Or.inl rfl)) (fun _ _ _ _ _ => ?ts) (fun _ _ _ _ _ => pv 5))
    (pss_cons (ps_set (i := 4) sc_ln.nd rfl (Or.inl rfl) (pe_lst pa_nil))
    (pss_cons (ps_for PassesOwn.never rfl (pi_list (pv 3)) (pg_name (i := 5) sc_ln.nd rfl (by first | exact Or.inl rfl | exact Or.inr rfl))
      (pss_one (ps_if (pt_cmpR op_ne (pe_call Gj (hr.mono (by decide)) rfl (T.fn "_law_joined" (by decide)) kj Bj .nil pass0 (pa_cons (pv 0) (pa_cons (pe_lc (own := [("_law_one", 6)]) (g := gName 6) rfl sc_ln.nd (pi_list (pv 3)) (blkOk_by (by change blkC Nln (defScope s__law_needed) _ _ = true; decide +kernel)) (fun _ _ _ _ _ => pg_name (i := 6) sc_ln.nd rfl (Or.inl rfl)) (fun _ _ _ _ _ => pts_one (pt_cmpR op_ne (pv 6) (pv 5) (nomark _))) (fun _ _ _ _ _ => pv 6)) pa_nil))) (pv 2) (nomark _))
        (pss_one (ps_expr (pe_bm PySem.F.plainAttrs_list PySem.F.slot_list_append PySem.F.type_list_append mt_append (pv 4) (pa_cons (pv 5) pa_nil)))) pss_nil)))
    (pss_one (ps_ret (pv 4))))), ?_⟩
  case ts => exact pts_one (pt_cmpR op_in_seq (pv 5) (pe_call Gb (hr.mono (by decide)) rfl (T.fn "_law_below" (by decide)) kb Bb .nil pass0 (pa_cons (pv 0) (pa_cons (pv 2) pa_nil))) (by rfl))
  have n8 := L.le
  refine ⟨_, rfl, m, rfl, ⟨_, .inl (.inl hm)⟩, fun D hD => ?_⟩
  refine lc_list (xs := ps.map V.int) (fun j H' => Kp H H' ∧ H' D = some (.lst (((ps.take j).filter fun p => decide (p ∈ belI ts y)).map V.int))) ⟨Kp.new hD, upd_same⟩ (fun j H' _ v => .inl (.inl (v.1.lst hm))) ?_ ?_
  · rintro j v H1 hv ⟨k1, hD1⟩
    rw [List.getElem?_map] at hv
    obtain ⟨z, hz, rfl⟩ := Option.map_eq_some_iff.mp hv
    have fs := filt_take (fun p => decide (p ∈ belI ts y)) ps j z hz
    have lf := List.length_filter_le (fun p => decide (p ∈ belI ts y)) (ps.take j)
    rw [List.length_take] at lf
    refine ⟨rfl, _, rfl, _, rfl, _, rfl, l, ts, y, rfl, k1.lst hl, n8, hy, fun b H2 hb k2 => ⟨b, _, rfl, .inl (.inl (.inl hb)), rfl, int_flat _, _, rfl, ?_⟩⟩
    rw [if_neg Bool.false_ne_true, inV_ints]
    refine ite2 (fun c => ?_) (fun c => ?_)
    · refine ⟨_, rfl, _, k2.lst hD1, by rw [sizeLine_eq, List.length_map]; omega, (k1.trans k2).over hD, ?_⟩
      rw [fs, if_pos c, List.map_append]
      exact upd_same
    · refine ⟨k1.trans k2, ?_⟩
      rw [fs, if_neg c, List.append_nil]
      exact k2.lst hD1
  rintro H1 ⟨k1, hD1⟩
  rw [List.length_map, List.take_length] at hD1
  have eS : needT ts ps y = (someT ts ps y).filter fun p => nedB ts (someT ts ps y) y p := rfl
  have ls : (someT ts ps y).length ≤ 8 := Nat.le_trans (List.length_filter_le _ _) p8
  have sin : ∀ z ∈ someT ts ps y, In ts.length z := fun z hz => someT_in hz
  have hD1' : H1 D = some (.lst ((someT ts ps y).map V.int)) := hD1
  generalize someT ts ps y = S at hD1' eS ls sin
  refine ⟨Nat.zero_le _, fun FD hFD => ?_⟩
  have kF := Kp.new (o := .lst []) hFD
  have k1F := k1.trans kF
  refine ⟨_, rfl, D, rfl, ⟨_, .inl (.inl (kF.lst hD1'))⟩, ?_⟩
  refine for_list (xs := S.map V.int) (fun i σ H' => Kp H1 H' ∧ (∃ o5, σ = [some (.ref l), some (.ref m), some (.int y), some (.ref D), some (.ref FD), o5, none]) ∧ H' FD = some (.lst (((S.take i).filter fun p => nedB ts S y p).map V.int))) ⟨kF, ⟨none, rfl⟩, upd_same⟩ (fun i σ H' _ v => .inl (.inl (v.1.lst hD1'))) ?_ ?_
  · rintro i v σ H2 hv ⟨k2, ⟨o5, rfl⟩, hF⟩
    rw [List.getElem?_map] at hv
    obtain ⟨z, hz, rfl⟩ := Option.map_eq_some_iff.mp hv
    have k02 := k1.trans k2
    refine ⟨_, rfl, _, rfl, D, rfl, ⟨_, .inl (.inl (k2.lst hD1'))⟩, fun E hE => ?_⟩
    refine lc_list (xs := S.map V.int) (fun j H' => Kp H2 H' ∧ H' E = some (.lst ((lessL (S.take j) z).map V.int))) ⟨Kp.new hE, upd_same⟩ (fun j H' _ v => .inl (.inl ((k2.trans v.1).lst hD1'))) ?_ ?_
    · rintro j v H3 hv ⟨k3, hE3⟩
      rw [List.getElem?_map] at hv
      obtain ⟨u, hu, rfl⟩ := Option.map_eq_some_iff.mp hv
      have fs : lessL (S.take (j + 1)) z = lessL (S.take j) z ++ (if (!decide (u = z)) = true then [u] else []) := filt_take (fun x => !decide (x = z)) S j u hu
      have lf : (lessL (S.take j) z).length ≤ (S.take j).length := List.length_filter_le _ _
      rw [List.length_take] at lf
      refine ⟨rfl, _, rfl, _, rfl, rfl, _, rfl, ?_⟩
      rw [dec_int']
      refine ite2 (fun c => ?_) (fun c => ?_)
      · refine ⟨_, rfl, _, hE3, by rw [sizeLine_eq, List.length_map]; omega, k3.over hE, ?_⟩
        rw [fs, if_pos c, List.map_append]
        exact upd_same
      · refine ⟨k3, ?_⟩
        rw [fs, if_neg c, List.append_nil]
        exact hE3
    · rintro H3 ⟨k3, hE3⟩
      rw [List.length_map, List.take_length] at hE3
      have k03 := k02.trans k3
      refine ⟨l, E, ts, lessL S z, rfl, k03.lst hl, L, hE3, fun u hu => sin u (List.mem_filter.mp hu).1, _, rfl, rfl, _, rfl, ?_⟩
      rw [dec_int', show (!decide (plc ts (orL ts (lessL S z)) = y)) = nedB ts S y z from rfl]
      have fs := filt_take (fun p => nedB ts S y p) S i z hz
      have lf := List.length_filter_le (fun p => nedB ts S y p) (S.take i)
      rw [List.length_take] at lf
      have hF3 := k3.lst hF
      refine ite2 (fun c => ?_) (fun c => ?_)
      · refine ⟨_, rfl, .inl ⟨rfl, _, .inl (.inl hF3)⟩, _, rfl, FD, _, _, rfl, rfl, hF3, by rw [sizeLine_eq, List.length_map]; omega, (k2.trans k3).over hFD, ⟨_, rfl⟩, ?_⟩
        rw [fs, if_pos c, List.map_append]
        exact upd_same
      · refine ⟨k2.trans k3, ⟨_, rfl⟩, ?_⟩
        rw [fs, if_neg c, List.append_nil]
        exact hF3
  · rintro σ H2 ⟨k2, ⟨o5, rfl⟩, hF⟩
    rw [List.length_map, List.take_length, ← eS] at hF
    exact ⟨_, rfl, q FD H2 (Fz.of k1 hFD) hF (k1.trans k2)⟩
end
end Tb

namespace Tb
open PySem PySem.Spec PyProof.Rows L2
variable {K : PySem.W.Frag}
/-- without its i-th item, by slices -/
def cutAt (s : List Int) (i : Nat) : List Int := s.take i ++ s.drop (i + 1)
def cuts (s : List Int) : List (List Int) := (List.range s.length).map (cutAt s)
def lisB (ts : List Int) (y : Int) (s : List Int) : Bool := decide (plc ts (orL ts s) = y) && ((cuts s).filter fun u => decide (plc ts (orL ts u) = y)).isEmpty
noncomputable def listsT (ts ps : List Int) (y : Int) : List (List Int) := srt ((subsL (someT ts ps y)).filter fun s => lisB ts y s)
theorem cutv_hi (s : List Int) (i : Nat) (h : i ≤ s.length) : cutV (s.map V.int) none (some (i : Int)) = (s.take i).map V.int := by
  have e : HT.sIx (s.map V.int).length (s.map V.int).length (some (i : Int)) = min i (s.map V.int).length := HT.sIx_nat _ _ i
  unfold cutV
  rw [e, HT.sIx_none, List.drop_zero, Nat.sub_zero, List.length_map, Nat.min_eq_left h, List.map_take]
theorem cutv_lo (s : List Int) (i : Nat) (h : i ≤ s.length) : cutV (s.map V.int) (some (i : Int)) none = (s.drop i).map V.int := by
  have e : HT.sIx (s.map V.int).length 0 (some (i : Int)) = min i (s.map V.int).length := HT.sIx_nat _ _ i
  unfold cutV
  rw [e, HT.sIx_none, List.length_map, Nat.min_eq_left h, ← List.map_drop]
  rw [List.take_of_length_le (by rw [List.length_map, List.length_drop]; exact Nat.le_refl _)]
theorem Nat.pos_pow_of_pos' (n : Nat) : 0 < 2 ^ n := Nat.pow_pos (by decide)
theorem dpLL {G H : Hp} : ∀ {C : List (Addr × List Int)}, LL G H C → DpAll K H (C.map fun q => V.ref q.1) (C.map fun q => encL q.2)
  | [], _ => .nil
  | q :: r, h => .cons (.lst (.inl (.inl (h q List.mem_cons_self).1)) (dpInts q.2)) (dpLL fun x hx => h x (List.mem_cons_of_mem _ hx))
theorem e0L (s : List Int) : E0k (encL s) := by
  obtain ⟨h1, h2⟩ := lay_all _ (e0Ints s)
  refine ⟨?_, ?_⟩
  · show PyData.canLay0 (.list _) = true
    simpa [PyData.canLay0] using h1
  · show PyData.depthAll _ + 1 ≤ 8
    rw [PySem.W.depth_ints]; omega
section
variable {P : Program} {w : World} {mg : Str → Option Value} {base : Heap} {f : String → Addr} {a c Pt P8 Pp Pq Ph : Addr} {fd g1 g2 g3 g4 : FuncData}
/-! ### _law_lists -/
def spLl : Sp := fun vs H Q _ => ∃ (l m : Addr) (ts ps : List Int) (y : Int), vs = [.ref l, .ref m, .int y] ∧ H l = some (.lst (ts.map V.int)) ∧ Lots ts ∧ H m = some (.lst (ps.map V.int)) ∧ ps.length ≤ 8 ∧ In ts.length y ∧
  ∀ p bs H', bs.map Prod.snd = listsT ts ps y → H' p = some (.lst (bs.map fun q => V.ref q.1)) → LL H H' bs → Fz H p → Kp H H' → Q (.ref p) H'
abbrev Nll : List Str := ["_law_lots_here", "_law_parts_here", "_law_number", "_law_some", "_law_found", "_law_part", "_law_lot", "_law_less", "_law_one", "_law_at"]
theorem sc_ll : FnScope Nll ["_law_lots_here", "_law_parts_here", "_law_number"] (defScope s__law_lists) := ⟨rfl, rfl, rfl, by decide +kernel, rfl, by decide +kernel, by decide +kernel⟩
theorem ok_ll (T : Tx mg f) (F : Fun K "_law_lists" "_law_lists" s__law_lists a fd) (Gb : FnOk P w K mg base CX0 1 (f "_law_below") g1 ["_law_lots_here", "_law_number"] spLb) (Bb : Binds K g1 ["_law_lots_here", "_law_number"] []) (kb : PySem.W.keepIn K (.ref (f "_law_below")) = true)
    (Gj : FnOk P w K mg base CX0 1 (f "_law_joined") g2 ["_law_lots_here", "_law_numbers"] spLj) (Bj : Binds K g2 ["_law_lots_here", "_law_numbers"] []) (kj : PySem.W.keepIn K (.ref (f "_law_joined")) = true) : FnOk P w K mg base CX0 2 a fd ["_law_lots_here", "_law_parts_here", "_law_number"] spLl := by
  refine F.ok sc_ll (fun vs H Q E h => ?_) (fun cdv A outer s H vs Q E hr h => ?_)
  · obtain ⟨_, _, _, _, _, rfl, _⟩ := h
    rfl
  obtain ⟨l, m, ts, ps, y, rfl, hl, L, hm, p8, hy, q⟩ := h
  have hu := hr.units
  refine ⟨_, pss_cons (ps_par (i := 3) (j := 4) rfl sc_ll.nd rfl rfl (by decide) (by first | rfl | decide +kernel) (by first | rfl | decide +kernel) (pa_cons (pe_lst (pa_cons (pe_lst pa_nil) pa_nil)) (pa_cons (pe_lst pa_nil) pa_nil)) (by rfl))
    (pss_cons (ps_for PassesOwn.never rfl (pi_list (pe_lc (own := [("_law_one", 8)]) (g := gName 8) (tt := tTest (tOp (rIn K false) (tVar 8) (tCall spLb [] E0 (tCons (tVar 0) (tCons (tVar 2) tNil))))) (te := tVar 8) rfl sc_ll.nd (pi_list (pv 1)) (blkOk_by (by change blkC Nll (defScope s__law_lists) _ _ = true; decide +kernel)) (fun _ _ _ _ _ => pg_name (i := 8) sc_ll.nd rfl (Or.inl rfl)) (fun _ _ _ _ _ => ?ts) (fun _ _ _ _ _ => pv 8)))
        (pg_name (i := 5) sc_ll.nd rfl (by first | exact Or.inl rfl | exact Or.inr rfl))
      (pss_one (ps_set (i := 3) sc_ll.nd rfl (by first | exact Or.inl rfl | exact Or.inr rfl) (pe_op op_cat (pv 3) (pe_lc (own := [("_law_lot", 6)]) (g := gName 6) (tt := tYes) (te := tOp rCat (tVar 6) (tLst (tCons (tVar 5) tNil))) rfl sc_ll.nd (pi_list (pv 3)) (blkOk_by (by change blkC Nll (defScope s__law_lists) _ _ = true; decide +kernel)) (fun _ _ _ _ _ => pg_name (i := 6) sc_ll.nd rfl (Or.inl rfl)) (fun _ _ _ _ _ => pts_nil) (fun _ _ _ _ _ => ?el))))))
    (pss_cons (ps_for PassesOwn.never rfl (pi_list (pv 3)) (pg_name (i := 6) sc_ll.nd rfl (by first | exact Or.inl rfl | exact Or.inr rfl))
      (pss_one (ps_if (pt_cmpR op_eq (pe_call Gj (hr.mono (by decide)) rfl (T.fn "_law_joined" (by decide)) kj Bj .nil pass0 (pa_cons (pv 0) (pa_cons (pv 6) pa_nil))) (pv 2) (nomark _))
        (pss_cons (ps_setLc (i := 7) (own := [("_law_at", 9)]) (g := gName 9) (tt := tYes) (te := tOp rCat (tSl (rSlL K) (tVar 6) tNoPart (tPart (tVar 9))) (tSl (rSlL K) (tVar 6) (tPart (tOp (rI0 fun i j => .int (i + j)) (tVar 9) (tC (.int 1)))) tNoPart)) rfl sc_ll.nd rfl rfl (sw_true rfl rfl rfl (by decide +kernel)) (pi_range1 rfl (T.bl "range" (by decide)) (pa_cons (pe_callB (cr_len (K := K) rfl) rfl (T.bl "len" (by decide)) PySem.boot_len (pa_cons (pv 6) pa_nil)) pa_nil)) (blkOk_by (by change blkC Nll (defScope s__law_lists) _ _ = true; decide +kernel)) (fun _ _ _ _ _ => pg_name (i := 9) sc_ll.nd rfl (Or.inl rfl)) (fun _ _ _ _ _ => pts_nil) (fun _ _ _ _ _ => ?cu))
          (pss_one (ps_if (pt_cmpR (op_eqD hu) (pe_lc (own := [("_law_one", 8)]) (g := gName 8) (tt := tTest (tOp rEq (tCall spLj [] E0 (tCons (tVar 0) (tCons (tVar 8) tNil))) (tVar 2))) (te := tVar 8) rfl sc_ll.nd (pi_list (pv 7)) (blkOk_by (by change blkC Nll (defScope s__law_lists) _ _ = true; decide +kernel)) (fun _ _ _ _ _ => pg_name (i := 8) sc_ll.nd rfl (Or.inl rfl)) (fun _ _ _ _ _ => ?t2) (fun _ _ _ _ _ => pv 8)) (pe_lst pa_nil) (nomark _))
            (pss_one (ps_expr (pe_bm PySem.F.plainAttrs_list PySem.F.slot_list_append PySem.F.type_list_append mt_append (pv 4) (pa_cons (pv 6) pa_nil)))) pss_nil))) pss_nil)))
    (pss_one (ps_ret (pe_callB (cr_sortLL hu) rfl (T.bl "sorted" (by decide)) bi_sorted (pa_cons (pv 4) pa_nil)))))), ?_⟩
  case ts => exact pts_one (pt_cmpR op_in_seq (pv 8) (pe_call Gb (hr.mono (by decide)) rfl (T.fn "_law_below" (by decide)) kb Bb .nil pass0 (pa_cons (pv 0) (pa_cons (pv 2) pa_nil))) (by rfl))
  case el => exact pe_op op_cat (pv 6) (pe_lst (pa_cons (pv 5) pa_nil))
  case cu => exact pe_op op_cat (pe_slice sl_list (pv 6) po_none (po_some (pv 9))) (pe_slice sl_list (pv 6) (po_some (pe_op op_add (pv 9) pe_int)) po_none)
  case t2 => exact pts_one (pt_cmpR op_eq (pe_call Gj (hr.mono (by decide)) rfl (T.fn "_law_joined" (by decide)) kj Bj .nil pass0 (pa_cons (pv 0) (pa_cons (pv 8) pa_nil))) (pv 2) (nomark _))
  have n8 := L.le
  refine ⟨Nat.zero_le _, fun e0 he0 => ⟨by show 1 ≤ sizeLine; decide, fun D0 hD0 => ⟨Nat.zero_le _, fun FD hFD => ⟨_, _, rfl, ?_⟩⟩⟩⟩
  have ka := Kp.new (o := .lst []) he0
  have kb0 := Kp.new (o := .lst [.ref e0]) hD0
  have kf := Kp.new (o := .lst []) hFD
  have kabf := (ka.trans kb0).trans kf
  refine ⟨_, rfl, m, rfl, ⟨_, .inl (.inl (kabf.lst hm))⟩, fun E1 hE1 => ?_⟩
  obtain ⟨B, kB, kHB, bD, be, bF, bE⟩ : ∃ B : Hp, Kp B (upd _ E1 (HO.lst [])) ∧ Kp H B ∧ B D0 = some (.lst [.ref e0]) ∧ B e0 = some (.lst []) ∧ B FD = some (.lst []) ∧ B E1 = none := ⟨_, Kp.new hE1, kabf, kf.lst (new_at hD0 _), (kb0.trans kf).lst (new_at he0 _), new_at hFD _, hE1⟩
  have neE : e0 ≠ FD := ne_of_none (kb0.lst (new_at he0 _)) hFD
  have fzF : Fz H FD := Fz.of (ka.trans kb0) hFD
  refine lc_list (xs := ps.map V.int) (fun j H' => Kp B H' ∧ H' E1 = some (.lst (((ps.take j).filter fun p => decide (p ∈ belI ts y)).map V.int))) ⟨kB, upd_same⟩ (fun j H' _ v => .inl (.inl ((kHB.trans v.1).lst hm))) ?_ ?_
  · rintro j v H1 hv ⟨k1, hD1⟩
    rw [List.getElem?_map] at hv
    obtain ⟨z, hz, rfl⟩ := Option.map_eq_some_iff.mp hv
    have fs := filt_take (fun p => decide (p ∈ belI ts y)) ps j z hz
    have lf := List.length_filter_le (fun p => decide (p ∈ belI ts y)) (ps.take j)
    rw [List.length_take] at lf
    refine ⟨rfl, _, rfl, _, rfl, _, rfl, l, ts, y, rfl, (kHB.trans k1).lst hl, n8, hy, fun b H2 hb k2 => ⟨b, _, rfl, .inl (.inl (.inl hb)), rfl, int_flat _, _, rfl, ?_⟩⟩
    rw [if_neg Bool.false_ne_true, inV_ints]
    refine ite2 (fun c => ?_) (fun c => ?_)
    · refine ⟨_, rfl, _, k2.lst hD1, by rw [sizeLine_eq, List.length_map]; omega, (k1.trans k2).over bE, ?_⟩
      rw [fs, if_pos c, List.map_append]
      exact upd_same
    · refine ⟨k1.trans k2, ?_⟩
      rw [fs, if_neg c, List.append_nil]
      exact k2.lst hD1
  rintro H1 ⟨kB1, hl1⟩
  rw [List.length_map, List.take_length] at hl1
  have k01 := kHB.trans kB1
  have eS : listsT ts ps y = srt ((subsL (someT ts ps y)).filter fun s => lisB ts y s) := rfl
  have bl : (someT ts ps y).length ≤ 8 := Nat.le_trans (List.length_filter_le _ _) p8
  have sin : ∀ z ∈ someT ts ps y, In ts.length z := fun z hz => someT_in hz
  have hl : H1 E1 = some (.lst ((someT ts ps y).map V.int)) := hl1
  have hlo := k01.lst ‹H l = some (.lst (ts.map V.int))›
  generalize someT ts ps y = S at hl eS bl sin
  refine ⟨E1, rfl, ⟨_, .inl (.inl hl)⟩, ?_⟩
  refine for_list (xs := S.map V.int) (fun i σ H' => ∃ (D : Addr) (bs : List (Addr × List Int)) (o3 : Option V), σ = [some (.ref l), some (.ref m), some (.int y), some (.ref D), some (.ref FD), o3, none, none, none, none] ∧ Kp H H' ∧ Kp H1 H' ∧ H' D = some (.lst (bs.map fun q => V.ref q.1)) ∧ H' FD = some (.lst []) ∧ (∀ q ∈ bs, q.1 ≠ FD) ∧ LL H H' bs ∧ bs.map Prod.snd = subsL (S.take i))
    ⟨D0, [(e0, [])], none, rfl, k01, Kp.refl _, kB1.lst bD, kB1.lst bF, (fun q hq => by
      rw [List.mem_singleton.mp hq]
      exact neE), fun q hq => by
      rw [List.mem_singleton.mp hq]
      exact ⟨kB1.lst be, Fz.of (Kp.refl H) he0⟩, rfl⟩ (fun i σ H' _ ⟨_, _, _, _, _, k, _⟩ => .inl (.inl (k.lst hl))) ?_ ?_
  · rintro i v σ H2 hv ⟨D, bs, o3, rfl, k02, k12, hD, hFD2, neF, ll, sb⟩
    have hi := (List.getElem?_eq_some_iff.mp hv).1
    rw [List.length_map] at hi
    rw [List.getElem?_map] at hv
    obtain ⟨p, hp, rfl⟩ := Option.map_eq_some_iff.mp hv
    have lb : bs.length = 2 ^ i := by rw [← List.length_map (f := Prod.snd), sb, subsL_len _ i (by omega)]
    have p2 : 2 ^ i ≤ 2 ^ 8 := Nat.pow_le_pow_right (by decide) (by omega)
    refine ⟨_, rfl, _, rfl, D, rfl, ⟨_, .inl (.inl hD)⟩, fun E hE => ?_⟩
    refine lc_list (xs := bs.map fun q => V.ref q.1) (fun j H' => Kp H2 H' ∧ ∃ cs : List (Addr × List Int), H' E = some (.lst (cs.map fun q => V.ref q.1)) ∧ LL H H' cs ∧ (∀ q ∈ cs, q.1 ≠ E ∧ q.1 ≠ FD) ∧ cs.map Prod.snd = ((bs.take j).map Prod.snd).map fun s => s ++ [p])
      ⟨Kp.new hE, [], upd_same, (fun q hq => by cases hq), (fun q hq => by cases hq), rfl⟩ (fun j H' _ v => .inl (.inl (v.1.lst hD))) ?_ ?_
    · rintro j v H3 hv ⟨k3, cs, hE3, lc, ne, sc⟩
      have hj := (List.getElem?_eq_some_iff.mp hv).1
      rw [List.length_map] at hj
      rw [List.getElem?_map] at hv
      obtain ⟨b, hb, rfl⟩ := Option.map_eq_some_iff.mp hv
      have bm := List.mem_of_getElem? hb
      have lcs : cs.length ≤ j := by
        rw [← List.length_map (f := Prod.snd), sc, List.length_map, List.length_map, List.length_take]
        omega
      have hb3 := k3.lst (ll b bm).1
      have ls : b.2.length ≤ i := (subsL_sub (S) i (by omega) b.2 (by rw [← sb]; exact List.mem_map_of_mem bm)).2
      refine ⟨rfl, _, rfl, _, rfl, by show 1 ≤ sizeLine; decide, fun t1 ht1 => ?_⟩
      have kt1 := Kp.new (o := .lst [.int p]) ht1
      refine ⟨b.1, t1, _, _, rfl, rfl, kt1.lst hb3, upd_same, by rw [sizeLine_eq, List.length_map]; simp; omega, fun t2 ht2 => ?_⟩
      have kt2 := Kp.new (o := .lst (b.2.map V.int ++ [.int p])) ht2
      have k34 := (k3.trans kt1).trans kt2
      have nt2 : t2 ≠ E := fun z => by
        have := kt1.lst hE3
        rw [← z, ht2] at this
        cases this
      have nt2F : t2 ≠ FD := fun z => by
        have := (k3.trans kt1).lst hFD2
        rw [← z, ht2] at this
        cases this
      refine ⟨_, (kt1.trans kt2).lst hE3, by rw [sizeLine_eq, List.length_map]; omega, k34.over hE, cs ++ [(t2, b.2 ++ [p])], by rw [List.map_append]; exact upd_same, fun q hq => ?_, fun q hq => ?_, ?_⟩
      · rcases List.mem_append.mp hq with h | h
        · rw [upd_ne (ne q h).1]
          exact lc.kp (kt1.trans kt2) q h
        · rw [List.mem_singleton.mp h]
          refine ⟨?_, Fz.of ((k02.trans k3).trans kt1) ht2⟩
          rw [upd_ne nt2, List.map_append]
          exact upd_same
      · rcases List.mem_append.mp hq with h | h
        · exact ne q h
        · rw [List.mem_singleton.mp h]; exact ⟨nt2, nt2F⟩
      · rw [List.map_append, sc, List.take_add_one, hb, List.map_append, List.map_append]; rfl
    · rintro H3 ⟨k3, cs, hE3, lc, ne, sc⟩
      rw [List.length_map, List.take_length] at sc
      have lcs : cs.length = bs.length := by rw [← List.length_map (f := Prod.snd), sc, List.length_map, List.length_map]
      refine ⟨D, E, _, _, rfl, rfl, k3.lst hD, hE3, by rw [sizeLine_eq, List.length_map, List.length_map]; omega, fun D' hD' => ?_⟩
      have kD := Kp.new (o := .lst ((bs.map fun q => V.ref q.1) ++ cs.map fun q => V.ref q.1)) hD'
      refine ⟨D', bs ++ cs, some (.int p), rfl, (k02.trans k3).trans kD, (k12.trans k3).trans kD, by rw [List.map_append]; exact upd_same, (k3.trans kD).lst hFD2, fun q hq => ?_, fun q hq => ?_, ?_⟩
      · rcases List.mem_append.mp hq with h | h
        · exact neF q h
        · exact (ne q h).2
      · rcases List.mem_append.mp hq with h | h
        · exact ll.kp (k3.trans kD) q h
        · exact lc.kp kD q h
      · rw [List.map_append, sb, sc, subsL_step _ i p hp, sb]
  rintro σ H2 ⟨D, bs, o3, rfl, k02, k12, hD, hF2, neF, ll, sb⟩
  rw [List.length_map, List.take_length] at sb
  have lb : bs.length ≤ 2 ^ 8 := by
    have h1 := subsL_len S S.length (Nat.le_refl _)
    rw [List.take_length, ← sb, List.length_map] at h1
    rw [h1]
    exact Nat.pow_le_pow_right (by decide) bl
  have nD : D ≠ FD := fun z => by
    rw [z, hF2] at hD
    have e : ([] : List V) = bs.map fun q => V.ref q.1 := by simpa using hD
    have h1 := subsL_len S S.length (Nat.le_refl _)
    rw [List.take_length, ← sb, List.length_map] at h1
    have h2 : bs.length = 0 := by rw [← List.length_map (f := fun q : Addr × List Int => V.ref q.1), ← e]; rfl
    have := Nat.pos_pow_of_pos' S.length
    omega
  have sub : ∀ b ∈ bs, (∀ m ∈ b.2, In ts.length m) ∧ b.2.length ≤ 8 := fun b hb => by
    have := subsL_sub S S.length (Nat.le_refl _) b.2 (by rw [List.take_length, ← sb]; exact List.mem_map_of_mem hb)
    exact ⟨fun m hm => sin m (this.1 m hm), by omega⟩
  refine ⟨_, rfl, D, rfl, ⟨_, .inl (.inl hD)⟩, ?_⟩
  have nFD : ∀ {G : Hp} {t : Addr}, Kp H2 G → G t = none → t ≠ FD := fun {G t} k h z => by
    rw [z, k.lst hF2] at h; cases h
  refine for_list (xs := bs.map fun q => V.ref q.1) (fun i σ H' => (∃ (o6 o7 : Option V), σ = [some (.ref l), some (.ref m), some (.int y), some (.ref D), some (.ref FD), o3, o6, o7, none, none]) ∧ Kp H H' ∧ H' D = some (.lst (bs.map fun q => V.ref q.1)) ∧ LL H H' bs ∧ H' FD = some (.lst (((bs.take i).filter fun q => lisB ts y q.2).map fun q => V.ref q.1)))
    ⟨⟨none, none, rfl⟩, k02, hD, ll, hF2⟩ (fun i σ H' _ v => .inl (.inl v.2.2.1)) ?_ ?_
  · rintro i v σ H3 hv ⟨⟨o6, o7, rfl⟩, k03, hD3, ll3, hF3⟩
    rw [List.getElem?_map] at hv
    obtain ⟨b, hb, rfl⟩ := Option.map_eq_some_iff.mp hv
    have bm := List.mem_of_getElem? hb
    obtain ⟨bin, b8⟩ := sub b bm
    have hb3 := (ll3 b bm).1
    have lf := List.length_filter_le (fun q : Addr × List Int => lisB ts y q.2) (bs.take i)
    rw [List.length_take] at lf
    have fs : (bs.take (i + 1)).filter (fun q => lisB ts y q.2) = (bs.take i).filter (fun q => lisB ts y q.2) ++ (if lisB ts y b.2 = true then [b] else []) := by
      rw [List.take_add_one, hb, List.filter_append]
      cases z : lisB ts y b.2 <;> simp [z]
    refine ⟨_, rfl, _, rfl, l, b.1, ts, b.2, rfl, k03.lst ‹H l = some (.lst (ts.map V.int))›, L, hb3, bin, _, rfl, rfl, _, rfl, ?_⟩
    rw [dec_int']
    have out : lisB ts y b.2 = false → ∀ H', Kp H3 H' → H' FD = some (.lst (((bs.take (i + 1)).filter fun q => lisB ts y q.2).map fun q => V.ref q.1)) := fun e H' k => by
      rw [fs, e, if_neg (by decide), List.append_nil]
      exact k.lst hF3
    refine ite2 (fun c => ?_) (fun c => ?_)
    rotate_left
    · have e : lisB ts y b.2 = false := by
        unfold lisB
        rw [Bool.eq_false_iff.mpr c, Bool.false_and]
      exact ⟨⟨_, _, rfl⟩, k03, hD3, ll3, out e H3 (Kp.refl _)⟩
    have elB : lisB ts y b.2 = ((cuts b.2).filter fun u => decide (plc ts (orL ts u) = y)).isEmpty := by
      unfold lisB
      rw [c, Bool.true_and]
    refine ⟨_, rfl, b.1, _, rfl, .inl (.inl (.inl hb3)), _, rfl, by omega, by rw [List.length_map]; omega, fun E hE => ?_⟩
    rw [show ((((b.2.map V.int).length : Nat) : Int)).toNat = b.2.length by rw [List.length_map]; omega]
    refine lc_range (lo := 0) (n := b.2.length) (fun j H' => Kp H3 H' ∧ ∃ cs : List (Addr × List Int), H' E = some (.lst (cs.map fun q => V.ref q.1)) ∧ LL H H' cs ∧ (∀ q ∈ cs, q.1 ≠ E) ∧ cs.map Prod.snd = (List.range j).map (cutAt b.2))
      ⟨Kp.new hE, [], upd_same, (fun q hq => by cases hq), (fun q hq => by cases hq), rfl⟩ ?_ ?_
    · rintro j H4 hj ⟨k4, cs, hE4, lc, ne, sc⟩
      have lcs : cs.length = j := by rw [← List.length_map (f := Prod.snd), sc, List.length_map, List.length_range]
      have ej : (0 + (j : Int)) = (j : Int) := Int.zero_add _
      have ej1 : ((j : Int) + 1) = ((j + 1 : Nat) : Int) := by omega
      rw [ej]
      have hb4 := k4.lst hb3
      refine ⟨rfl, _, rfl, _, rfl, _, rfl, b.1, _, rfl, .inl (.inl hb4), fun t1 ht1 => ?_⟩
      rw [cutv_hi b.2 j (by omega)]
      have kt1 := Kp.new (o := .lst ((b.2.take j).map V.int)) ht1
      refine ⟨_, rfl, _, rfl, _, _, rfl, rfl, _, rfl, b.1, _, rfl, .inl (.inl (kt1.lst hb4)), fun t2 ht2 => ?_⟩
      rw [ej1, cutv_lo b.2 (j + 1) (by omega)]
      have kt2 := Kp.new (o := .lst ((b.2.drop (j + 1)).map V.int)) ht2
      refine ⟨t1, t2, _, _, rfl, rfl, kt2.lst (new_at ht1 _), upd_same, by rw [sizeLine_eq, List.length_map, List.length_map, List.length_take, List.length_drop]; omega, fun t3 ht3 => ?_⟩
      have kt3 := Kp.new (o := .lst ((b.2.take j).map V.int ++ (b.2.drop (j + 1)).map V.int)) ht3
      have kt := (kt1.trans kt2).trans kt3
      have nt3 : t3 ≠ E := fun z => by
        have := (kt1.trans kt2).lst hE4
        rw [← z, ht3] at this
        cases this
      refine ⟨_, kt.lst hE4, by rw [sizeLine_eq, List.length_map]; omega, (k4.trans kt).over hE, cs ++ [(t3, cutAt b.2 j)], by rw [List.map_append]; exact upd_same, fun q hq => ?_, fun q hq => ?_, ?_⟩
      · rcases List.mem_append.mp hq with h | h
        · rw [upd_ne (ne q h)]
          exact lc.kp kt q h
        · rw [List.mem_singleton.mp h]
          refine ⟨?_, Fz.of (((k03.trans k4).trans kt1).trans kt2) ht3⟩
          unfold cutAt
          rw [upd_ne nt3, List.map_append]
          exact upd_same
      · rcases List.mem_append.mp hq with h | h
        · exact ne q h
        · rw [List.mem_singleton.mp h]; exact nt3
      · rw [List.map_append, sc, List.range_succ, List.map_append]; rfl
    · rintro H4 ⟨k4, cs, hE4, lc, ne, sc⟩
      have sc' : cs.map Prod.snd = cuts b.2 := sc
      have lcs : cs.length = b.2.length := by rw [← List.length_map (f := Prod.snd), sc, List.length_map, List.length_range]
      have csub : ∀ q ∈ cs, ∀ u ∈ q.2, In ts.length u := fun q hq u hu => by
        have h1 : q.2 ∈ cuts b.2 := by rw [← sc']; exact List.mem_map_of_mem hq
        obtain ⟨r, hr, e⟩ := List.mem_map.mp h1
        rw [← e] at hu
        rcases List.mem_append.mp hu with h | h
        · exact bin u (List.mem_of_mem_take h)
        · exact bin u (List.mem_of_mem_drop h)
      refine ⟨_, rfl, E, rfl, ⟨_, .inl (.inl hE4)⟩, fun R hR => ?_⟩
      refine lc_list (xs := cs.map fun q => V.ref q.1) (fun j H' => Kp H4 H' ∧ H' R = some (.lst (((cs.take j).filter fun q => decide (plc ts (orL ts q.2) = y)).map fun q => V.ref q.1))) ⟨Kp.new hR, upd_same⟩ (fun j H' _ v => .inl (.inl (v.1.lst hE4))) ?_ ?_
      · rintro j v H5 hv ⟨k5, hR5⟩
        rw [List.getElem?_map] at hv
        obtain ⟨u, hu, rfl⟩ := Option.map_eq_some_iff.mp hv
        have um := List.mem_of_getElem? hu
        have fs2 : (cs.take (j + 1)).filter (fun q => decide (plc ts (orL ts q.2) = y)) = (cs.take j).filter (fun q => decide (plc ts (orL ts q.2) = y)) ++ (if decide (plc ts (orL ts u.2) = y) = true then [u] else []) := by
          rw [List.take_add_one, hu, List.filter_append]
          cases z : decide (plc ts (orL ts u.2) = y) <;> simp [z]
        have lf2 := List.length_filter_le (fun q : Addr × List Int => decide (plc ts (orL ts q.2) = y)) (cs.take j)
        rw [List.length_take] at lf2
        refine ⟨rfl, _, rfl, _, rfl, l, u.1, ts, u.2, rfl, ((k03.trans k4).trans k5).lst ‹H l = some (.lst (ts.map V.int))›, L, (lc.kp k5 u um).1, csub u um, _, rfl, rfl, _, rfl, ?_⟩
        rw [dec_int']
        refine ite2 (fun c => ?_) (fun c => ?_)
        · refine ⟨_, rfl, _, hR5, by rw [sizeLine_eq, List.length_map]; omega, k5.over hR, ?_⟩
          rw [fs2, if_pos c, List.map_append]
          exact upd_same
        · refine ⟨k5, ?_⟩
          rw [fs2, if_neg c, List.append_nil]
          exact hR5
      · rintro H5 ⟨k5, hR5⟩
        rw [List.length_map, List.take_length] at hR5
        have eC : ((cuts b.2).filter fun u => decide (plc ts (orL ts u) = y)) = (cs.filter fun q => decide (plc ts (orL ts q.2) = y)).map Prod.snd := by
          rw [← sc', List.filter_map]; rfl
        rw [eC] at elB
        have lC : LL H H5 (cs.filter fun q => decide (plc ts (orL ts q.2) = y)) := fun q hq => lc.kp k5 q (List.mem_filter.mp hq).1
        generalize cs.filter (fun q => decide (plc ts (orL ts q.2) = y)) = C at hR5 lC elB
        refine ⟨Nat.zero_le _, fun p2 hp2 => ?_⟩
        have k6 := Kp.new (o := .lst []) hp2
        have k36 := (k4.trans k5).trans k6
        refine ⟨.list (C.map fun q => encL q.2), .list [], .lst (.inl (.inl (k6.lst hR5))) (dpLL (lC.kp k6)), .lst (.inl (.inl upd_same)) .nil, shaped_list (fun e he => ?_), shaped_list (fun e he => by cases he), _, rfl, ?_⟩
        · obtain ⟨q, _, rfl⟩ := List.mem_map.mp he
          exact e0L q.2
        rw [eqv_nil]
        have eE : (C.map fun q => encL q.2).isEmpty = lisB ts y b.2 := by
          rw [elB]
          cases C <;> rfl
        rw [eE]
        have hF6 := k36.lst hF3
        refine ite2 (fun c2 => ?_) (fun c2 => ?_)
        · have nF : ∀ {t : Addr} {o : List V}, t ≠ FD → (upd H5 p2 (.lst [])) t = some (.lst o) → upd (upd H5 p2 (.lst [])) FD (.lst ((((bs.take i).filter fun q => lisB ts y q.2).map fun q => V.ref q.1) ++ [.ref b.1])) t = some (.lst o) := fun n h => by rw [upd_ne n]; exact h
          refine ⟨_, rfl, .inl ⟨rfl, _, .inl (.inl hF6)⟩, _, rfl, FD, _, _, rfl, rfl, hF6, by rw [sizeLine_eq, List.length_map]; omega, ⟨_, _, rfl⟩, (k03.trans k36).overz fzF, ?_, fun q hq => ⟨?_, (ll3 q hq).2⟩, ?_⟩
          · exact nF nD (k36.lst hD3)
          · exact nF (neF q hq) (k36.lst (ll3 q hq).1)
          · rw [fs, if_pos c2, List.map_append]
            exact upd_same
        · exact ⟨⟨_, _, rfl⟩, k03.trans k36, k36.lst hD3, ll3.kp k36, out (Bool.eq_false_iff.mpr c2) _ k36⟩
  · rintro σ H3 ⟨⟨o6, o7, rfl⟩, k03, hD3, ll3, hF3⟩
    rw [List.length_map, List.take_length] at hF3
    have l3 : LL H H3 (bs.filter fun q => lisB ts y q.2) := fun q hq => ll3 q (List.mem_filter.mp hq).1
    refine ⟨_, rfl, FD, bs.filter fun q => lisB ts y q.2, rfl, .inl (.inl hF3), fun q hq => (l3 q hq).1, fun p bs' e pm hp => ?_⟩
    refine q p bs' _ ?_ upd_same (fun z hz => (l3.kp (Kp.new hp)) z (pm.mem_iff.mp hz)) (Fz.of k03 hp) (k03.trans (Kp.new hp))
    rw [e, eS, ← sb, List.filter_map]; rfl
end
end Tb

namespace Tb
open PySem PySem.Spec PyProof.Rows L2
/-! ### the table of lots: its cells are joins -/
structure LotsN (ts : List Int) : Prop extends Lots ts where
  nd : ts.Nodup
  hd : ts.head? = some 0
theorem plc_mem : ∀ {ts : List Int} {z : Int}, z ∈ ts → In ts.length (plc ts z) ∧ lot ts (plc ts z) = z
  | t :: r, z, h => by
    by_cases e : t = z
    · unfold plc
      rw [if_pos e]
      exact ⟨⟨by decide, by show 0 < _; simp⟩, e⟩
    · have hr : z ∈ r := by
        rcases List.mem_cons.mp h with h | h
        · exact absurd h.symm e
        · exact h
      obtain ⟨⟨h1, h2⟩, h3⟩ := plc_mem hr
      unfold plc
      rw [if_neg e]
      refine ⟨⟨by omega, by rw [List.length_cons]; omega⟩, ?_⟩
      unfold lot at h3 ⊢
      rw [show (plc r z + 1).toNat = (plc r z).toNat + 1 by omega]
      simpa using h3
theorem plc_inj {ts : List Int} {y z : Int} (hy : y ∈ ts) (hz : z ∈ ts) (e : plc ts y = plc ts z) : y = z := by
  rw [← (plc_mem hy).2, e, (plc_mem hz).2]
theorem plc_lot {ts : List Int} (nd : ts.Nodup) {i : Int} (h : In ts.length i) : plc ts (lot ts i) = i := by
  have hm := lot_mem h
  obtain ⟨⟨h1, h2⟩, h3⟩ := plc_mem hm
  have a := lot_at h
  have b := lot_at (ts := ts) (i := plc ts (lot ts i)) ⟨h1, h2⟩
  rw [h3] at b
  have := (List.getElem?_inj h2 nd).mp (b.trans a.symm)
  have := h.1
  omega
theorem plc_zero {ts : List Int} (h : ts.head? = some 0) : plc ts 0 = 0 := by
  cases ts with
  | nil => cases h
  | cons t r =>
    have : t = 0 := by simpa using h
    unfold plc
    rw [if_pos this]
/-- d's cells are those of the lots ts -/
def CellsOf (d : PyData) (ts : List Int) : Prop := ∀ i j, In ts.length i → In ts.length j → cell d i.toNat j.toNat = plc ts (bo (lot ts i) (lot ts j))
section
variable {ts : List Int} {d : PyData}
theorem wi_lo (L : LotsN ts) (C : CellsOf d ts) {x y : Int} (hx : In ts.length x) (hy : In ts.length y) : wi d x y = loB ts x y := by
  unfold wi loB
  rw [C x y hx hy]
  have m := L.cl _ (lot_mem hx) _ (lot_mem hy)
  by_cases h : bo (lot ts x) (lot ts y) = lot ts y
  · rw [decide_eq_true h, h, plc_lot L.nd hy]
    exact decide_eq_true rfl
  · rw [decide_eq_false h]
    refine decide_eq_false fun z => h ?_
    exact plc_inj m (lot_mem hy) (z.trans (plc_lot L.nd hy).symm)
theorem within_eq (L : LotsN ts) (C : CellsOf d ts) {y : Int} (hy : In ts.length y) : withinL d ts.length y = belI ts y := by
  unfold withinL belI
  exact List.filter_congr fun x hx => wi_lo L C (rng_mem.mp hx) hy
theorem fold_eq (L : LotsN ts) (C : CellsOf d ts) : ∀ (ns : List Int) (s : Int), s ∈ ts → (∀ m ∈ ns, In ts.length m) → ns.foldl (fun t m => cell d t.toNat m.toNat) (plc ts s) = plc ts (ns.foldl (fun t m => bo t (lot ts m)) s)
  | [], _, _, _ => rfl
  | m :: r, s, hs, hn => by
    have hm := hn m List.mem_cons_self
    obtain ⟨p1, p2⟩ := plc_mem hs
    have e : cell d (plc ts s).toNat m.toNat = plc ts (bo s (lot ts m)) := by rw [C _ _ p1 hm, p2]
    rw [List.foldl_cons, List.foldl_cons, e]
    exact fold_eq L C r _ (L.cl _ hs _ (lot_mem hm)) fun x hx => hn x (List.mem_cons_of_mem _ hx)
theorem join_eq (L : LotsN ts) (C : CellsOf d ts) {ns : List Int} (hn : ∀ m ∈ ns, In ts.length m) : joinL d ns = plc ts (orL ts ns) := by
  have := fold_eq L C ns 0 L.zero hn
  rw [plc_zero L.hd] at this
  exact this
theorem orL_in (L : LotsN ts) {ns : List Int} (hn : ∀ m ∈ ns, In ts.length m) : orL ts ns ∈ ts := orL_mem L.toLots ns 0 hn L.zero
end
end Tb

namespace Tb
open PySem PySem.Spec PyProof.Rows L2
/-! ### parts, needs and lists of a table of lots are those of the lots -/
theorem cut_less : ∀ {s : List Int} {i : Nat} (nd : s.Nodup) (h : i < s.length), cutAt s i = lessL s s[i]
  | t :: r, 0, nd, _ => by
    have ht := (List.nodup_cons.mp nd).1
    unfold cutAt lessL
    show r = List.filter _ (t :: r)
    rw [List.filter_cons_of_neg (by simp)]
    refine (List.filter_eq_self.mpr fun x hx => ?_).symm
    have : x ≠ t := fun e => ht (e ▸ hx)
    simpa using this
  | t :: r, i + 1, nd, h => by
    obtain ⟨ht, nr⟩ := List.nodup_cons.mp nd
    have hi : i < r.length := by simpa using h
    have ih := cut_less nr hi
    have : t ≠ r[i] := fun e => ht (e ▸ List.getElem_mem hi)
    unfold cutAt lessL at ih ⊢
    rw [List.getElem_cons_succ, List.filter_cons_of_pos (by simpa using this), ← ih]
    rfl
section
variable {ts : List Int} {d : PyData}
theorem lessL_in {n : Nat} {l : List Int} {y : Int} (h : ∀ m ∈ l, In n m) : ∀ m ∈ lessL l y, In n m := fun m hm => h m (List.mem_filter.mp hm).1
theorem belI_all {y : Int} : ∀ m ∈ belI ts y, In ts.length m := fun m hm => rng_mem.mp (List.mem_filter.mp hm).1
theorem lo_of {y m : Int} (hm : m ∈ belI ts y) : bo (lot ts m) (lot ts y) = lot ts y := of_decide_eq_true (List.mem_filter.mp hm).2
theorem r_lot (L : LotsN ts) {m : Int} (h : In ts.length m) : R16 (lot ts m) := L.rng _ (lot_mem h)
/-- a fold that reaches the lot of y from below takes two lesser ones -/
theorem fold_two (L : LotsN ts) {y : Int} (hy : In ts.length y) : ∀ (ns : List Int) (s : Int), s ∈ lessL (belI ts y) y → (∀ m ∈ ns, m ∈ lessL (belI ts y) y) → ns.foldl (fun t m => bo t (lot ts m)) (lot ts s) = lot ts y → ∃ a ∈ lessL (belI ts y) y, ∃ b ∈ lessL (belI ts y) y, bo (lot ts a) (lot ts b) = lot ts y
  | [], s, hs, _, e => by
    obtain ⟨h1, h2⟩ := List.mem_filter.mp hs
    have : s = y := by
      rw [← plc_lot L.nd (belI_all s h1), ← plc_lot L.nd hy]
      exact congrArg (plc ts) e
    simp [this] at h2
  | m :: r, s, hs, hn, e => by
    have hm := hn m List.mem_cons_self
    by_cases g : bo (lot ts s) (lot ts m) = lot ts y
    · exact ⟨s, hs, m, hm, g⟩
    · have s1 := (List.mem_filter.mp hs).1
      have m1 := (List.mem_filter.mp hm).1
      have is := belI_all s s1
      have im := belI_all m m1
      have c := L.cl _ (lot_mem is) _ (lot_mem im)
      obtain ⟨p1, p2⟩ := plc_mem c
      rw [List.foldl_cons, ← p2] at e
      refine fold_two L hy r (plc ts (bo (lot ts s) (lot ts m))) ?_ (fun x hx => hn x (List.mem_cons_of_mem _ hx)) e
      refine List.mem_filter.mpr ⟨List.mem_filter.mpr ⟨rng_mem.mpr p1, ?_⟩, ?_⟩
      · refine decide_eq_true ?_
        rw [p2, bo_assoc (r_lot L is) (r_lot L im) (r_lot L hy), lo_of m1, lo_of s1]
      · have : plc ts (bo (lot ts s) (lot ts m)) ≠ y := fun z => g (by rw [← p2, z])
        simpa using this
/-- what lies in the join of all -/
theorem fold_hi (L : LotsN ts) : ∀ (ns : List Int) (s : Int), s ∈ ts → (∀ m ∈ ns, In ts.length m) → bo s (ns.foldl (fun t m => bo t (lot ts m)) s) = ns.foldl (fun t m => bo t (lot ts m)) s ∧ ∀ m ∈ ns, bo (lot ts m) (ns.foldl (fun t m => bo t (lot ts m)) s) = ns.foldl (fun t m => bo t (lot ts m)) s
  | [], s, hs, _ => ⟨bo_idem (L.rng s hs), fun _ h => by cases h⟩
  | m :: r, s, hs, hn => by
    have im := hn m List.mem_cons_self
    have hr : ∀ x ∈ r, In ts.length x := fun x hx => hn x (List.mem_cons_of_mem _ hx)
    have c := L.cl _ hs _ (lot_mem im)
    obtain ⟨i1, i2⟩ := fold_hi L r _ c hr
    rw [List.foldl_cons]
    have f := orL_mem L.toLots r _ hr c
    generalize r.foldl (fun t m => bo t (lot ts m)) (bo s (lot ts m)) = F at i1 i2 f
    have rs := L.rng s hs
    have rm := r_lot L im
    have rf := L.rng F f
    refine ⟨?_, fun x hx => ?_⟩
    · rw [← i1, ← bo_assoc rs (bo_r rs rm) rf, ← bo_assoc rs rs rm, bo_idem rs]
    · rcases List.mem_cons.mp hx with e | e
      · subst e
        rw [← i1, ← bo_assoc rm (bo_r rs rm) rf, bo_comm rs rm, ← bo_assoc rm rm rs, bo_idem rm]
      · exact i2 x e
theorem fold_lo (L : LotsN ts) {y : Int} (hy : In ts.length y) : ∀ (ns : List Int) (s : Int), s ∈ ts → bo s (lot ts y) = lot ts y → (∀ m ∈ ns, m ∈ belI ts y) → bo (ns.foldl (fun t m => bo t (lot ts m)) s) (lot ts y) = lot ts y
  | [], _, _, h, _ => h
  | m :: r, s, hs, h, hn => by
    have hm := hn m List.mem_cons_self
    have im := belI_all m hm
    refine fold_lo L hy r _ (L.cl _ hs _ (lot_mem im)) ?_ fun x hx => hn x (List.mem_cons_of_mem _ hx)
    rw [bo_assoc (L.rng s hs) (r_lot L im) (r_lot L hy), lo_of hm, h]
end
end Tb

namespace Tb
open PySem PySem.Spec PyProof.Rows L2
theorem bo_fin0 : ∀ a : Fin 16, bo 0 ((a : Nat) : Int) = ((a : Nat) : Int) := by decide +kernel
theorem bo_0 {x : Int} (h : R16 x) : bo 0 x = x := by
  obtain ⟨a, rfl⟩ := r16 h
  exact bo_fin0 a
section
variable {ts : List Int} {d : PyData}
theorem in0 (L : LotsN ts) : In ts.length 0 := ⟨by decide, by have := L.pos; show 0 < _; omega⟩
theorem lot0 (L : LotsN ts) : lot ts 0 = 0 := by
  have h := L.hd
  unfold lot
  cases ts with
  | nil => cases h
  | cons t r =>
    have : t = 0 := by simpa using h
    rw [this]; rfl
theorem less_eq (L : LotsN ts) (C : CellsOf d ts) {y : Int} (hy : In ts.length y) : lessL (withinL d ts.length y) y = lessL (belI ts y) y := by rw [within_eq L C hy]
theorem plc_is (L : LotsN ts) {y F : Int} (hy : In ts.length y) (hF : F ∈ ts) : plc ts F = y ↔ F = lot ts y := by
  constructor
  · intro h
    rw [← h, (plc_mem hF).2]
  · intro h
    rw [h, plc_lot L.nd hy]
theorem part_iff (L : LotsN ts) (C : CellsOf d ts) {y : Int} (hy : In ts.length y) (h0 : y ≠ 0) : (∃ a ∈ lessL (belI ts y) y, ∃ b ∈ lessL (belI ts y) y, cell d a.toNat b.toNat = y) ↔ plc ts (orL ts (lessL (belI ts y) y)) = y := by
  have hall : ∀ m ∈ lessL (belI ts y) y, In ts.length m := lessL_in belI_all
  have hF := orL_in L hall
  rw [plc_is L hy hF]
  constructor
  · rintro ⟨a, ha, b, hb, e⟩
    have ia := hall a ha
    have ib := hall b hb
    rw [C a b ia ib, plc_is L hy (L.cl _ (lot_mem ia) _ (lot_mem ib))] at e
    obtain ⟨-, k⟩ := fold_hi L (lessL (belI ts y) y) 0 L.zero hall
    have ka := k a ha
    have kb := k b hb
    have lo := fold_lo L hy (lessL (belI ts y) y) 0 L.zero (bo_0 (r_lot L hy)) fun m hm => (List.mem_filter.mp hm).1
    show orL ts _ = _
    have e2 : bo (lot ts y) (orL ts (lessL (belI ts y) y)) = orL ts (lessL (belI ts y) y) := by
      rw [← e, bo_assoc (r_lot L ia) (r_lot L ib) (L.rng _ hF)]
      show bo _ (bo _ (List.foldl _ _ _)) = List.foldl _ _ _
      rw [kb, ka]
    have lo' : bo (orL ts (lessL (belI ts y) y)) (lot ts y) = lot ts y := lo
    rw [← e2, bo_comm (r_lot L hy) (L.rng _ hF), lo']
  · intro e
    have z0 : (0 : Int) ∈ lessL (belI ts y) y := by
      refine List.mem_filter.mpr ⟨List.mem_filter.mpr ⟨rng_mem.mpr (in0 L), ?_⟩, ?_⟩
      · refine decide_eq_true ?_
        rw [lot0 L]; exact bo_0 (r_lot L hy)
      · simpa using fun z => h0 z.symm
    obtain ⟨a, ha, b, hb, g⟩ := fold_two L hy (lessL (belI ts y) y) 0 z0 (fun _ h => h) (by rw [lot0 L]; exact e)
    refine ⟨a, ha, b, hb, ?_⟩
    rw [C a b (hall a ha) (hall b hb), g, plc_lot L.nd hy]
theorem part_eq (L : LotsN ts) (C : CellsOf d ts) {y : Int} (hy : In ts.length y) : partB d ts.length y = (!decide (y = 0) && parB ts y) := by
  unfold partB parB
  rw [less_eq L C hy]
  by_cases h0 : y = 0
  · simp [h0]
  · congr 2
    rw [Bool.eq_iff_iff, decide_eq_true_iff, ← part_iff L C hy h0, List.any_eq_true]
    constructor
    · rintro ⟨a, ha, h⟩
      obtain ⟨b, hb, e⟩ := List.any_eq_true.mp h
      exact ⟨a, ha, b, hb, of_decide_eq_true e⟩
    · rintro ⟨a, ha, b, hb, e⟩
      exact ⟨a, ha, List.any_eq_true.mpr ⟨b, hb, decide_eq_true e⟩⟩
theorem parts_eq (L : LotsN ts) (C : CellsOf d ts) : partsL d ts.length = partsT ts := by
  unfold partsL partsT
  exact List.filter_congr fun x hx => part_eq L C (rng_mem.mp hx)
theorem below_eq (L : LotsN ts) (C : CellsOf d ts) {y : Int} (hy : In ts.length y) : belowL d ts.length y = someT ts (partsT ts) y := by
  unfold belowL someT
  rw [parts_eq L C]
  refine List.filter_congr fun x hx => ?_
  have hx' : In ts.length x := rng_mem.mp (List.mem_filter.mp hx).1
  rw [wi_lo L C hx' hy, Bool.eq_iff_iff, decide_eq_true_iff]
  exact ⟨fun h => List.mem_filter.mpr ⟨rng_mem.mpr hx', h⟩, fun h => (List.mem_filter.mp h).2⟩
theorem need_eq (L : LotsN ts) (C : CellsOf d ts) {y : Int} (hy : In ts.length y) : needL d ts.length y = needT ts (partsT ts) y := by
  unfold needL needT
  rw [below_eq L C hy]
  refine List.filter_congr fun x hx => ?_
  unfold nedB
  rw [join_eq L C (lessL_in fun m hm => someT_in hm)]
theorem list_eq (L : LotsN ts) (C : CellsOf d ts) {y : Int} {s : List Int} (nd : s.Nodup) (hs : ∀ m ∈ s, In ts.length m) : listB d y s = lisB ts y s := by
  unfold listB lisB
  rw [join_eq L C hs]
  congr 1
  rw [Bool.eq_iff_iff, Bool.not_eq_true', List.any_eq_false, List.isEmpty_iff, List.filter_eq_nil_iff]
  constructor
  · intro h u hu
    obtain ⟨i, hi, rfl⟩ := List.mem_map.mp hu
    have hi' := List.mem_range.mp hi
    have := h s[i] (List.getElem_mem hi')
    rw [join_eq L C (lessL_in hs)] at this
    rw [cut_less nd hi']
    exact this
  · intro h p hp
    obtain ⟨i, hi, rfl⟩ := List.mem_iff_getElem.mp hp
    have := h (cutAt s i) (List.mem_map.mpr ⟨i, List.mem_range.mpr hi, rfl⟩)
    rw [cut_less nd hi] at this
    rw [join_eq L C (lessL_in hs)]
    exact this
end
end Tb

namespace Tb
open PySem PySem.Spec PyProof.Rows L2
theorem subsL_subl (l : List Int) : ∀ i, i ≤ l.length → ∀ s ∈ subsL (l.take i), s.Sublist (l.take i)
  | 0, _, s, hs => by
    have : s = [] := by simpa [subsL] using hs
    subst this
    exact List.nil_sublist _
  | i + 1, h, s, hs => by
    have e := List.getElem?_eq_getElem (l := l) (i := i) h
    rw [subsL_step l i _ e] at hs
    rw [List.take_add_one, e]
    rcases List.mem_append.mp hs with z | z
    · exact (subsL_subl l i (by omega) s z).trans (List.sublist_append_left _ _)
    · obtain ⟨u, hu, rfl⟩ := List.mem_map.mp z
      exact (subsL_subl l i (by omega) u hu).append (List.Sublist.refl _)
theorem subs_subl {l s : List Int} (h : s ∈ subsL l) : s.Sublist l := by
  have := subsL_subl l l.length (Nat.le_refl _) s (by rw [List.take_length]; exact h)
  rwa [List.take_length] at this
theorem rng_nodup (n : Nat) : (rng n).Nodup := by
  unfold rng
  refine List.pairwise_map.mpr (List.Pairwise.imp ?_ List.nodup_range)
  intro a b h e
  exact h (Int.ofNat.inj e)
section
variable {ts : List Int} {d : PyData}
theorem parts_nodup : (partsT ts).Nodup := (rng_nodup _).filter _
theorem some_nodup {y : Int} : (someT ts (partsT ts) y).Nodup := parts_nodup.filter _
theorem lists_eq (L : LotsN ts) (C : CellsOf d ts) {y : Int} (hy : In ts.length y) : listsL d ts.length y = listsT ts (partsT ts) y := by
  unfold listsL listsT
  rw [below_eq L C hy]
  congr 1
  refine List.filter_congr fun s hs => ?_
  have sl := subs_subl hs
  exact list_eq L C (some_nodup.sublist sl) fun m hm => someT_in (sl.subset hm)
/-! ### the table of lots -/
theorem row_at {i : Nat} (h : i < ts.length) : rowAt (mat (rowsT ts)) i = rowD (rowT ts ts[i]) := by
  unfold rowAt mat rowsT
  show ((ts.map (rowT ts)).map rowD).getD i .none = _
  rw [List.getD_eq_getElem?_getD]
  simp [h]
theorem cell_at {i j : Nat} (h : i < ts.length) (k : j < ts.length) : (kids (rowAt (mat (rowsT ts)) i)).getD j .none = .int (plc ts (bo ts[i] ts[j])) := by
  rw [row_at h]
  unfold rowD rowT
  show ((ts.map _).map PyData.int).getD j .none = _
  rw [List.getD_eq_getElem?_getD]
  simp [k]
theorem lot_get {i : Int} (h : In ts.length i) : lot ts i = ts[i.toNat]'h.2 := by
  have := lot_at h
  rw [List.getElem?_eq_getElem h.2] at this
  exact (Option.some.inj this).symm
theorem cells_mat : CellsOf (mat (rowsT ts)) ts := by
  intro i j hi hj
  unfold cell
  rw [cell_at hi.2 hj.2, lot_get hi, lot_get hj]
theorem mx_mat (L : LotsN ts) : Mx (mat (rowsT ts)) ts.length where
  sq := rfl
  len := by
    show ((ts.map (rowT ts)).map rowD).length = _
    simp
  pos := L.pos
  le := L.le
  row := fun i hi => by
    rw [row_at hi]
    refine ⟨rfl, ?_⟩
    show ((rowT ts ts[i]).map PyData.int).length = _
    simp [rowT]
  cel := fun i j hi hj => by
    have e := cell_at (ts := ts) hi hj
    have c : cell (mat (rowsT ts)) i j = plc ts (bo ts[i] ts[j]) := by
      unfold cell
      rw [e]
    obtain ⟨⟨p1, p2⟩, -⟩ := plc_mem (L.cl _ (List.getElem_mem hi) _ (List.getElem_mem hj))
    rw [c]
    exact ⟨e, p1, by omega⟩
theorem jr_cells (L : LotsN ts) (C : CellsOf d ts) : JR d ts.length := by
  intro i hi
  have ii : In ts.length (i : Int) := ⟨by omega, by simpa using hi⟩
  have ci := C i i ii ii
  have c0 := C i 0 ii (in0 L)
  simp only [Int.toNat_natCast] at ci c0
  refine ⟨?_, ?_, fun j hj => ?_⟩
  · rw [ci, bo_idem (r_lot L ii), plc_lot L.nd ii]
  · rw [show (0 : Int).toNat = 0 from rfl] at c0
    rw [c0, lot0 L, bo_comm (r_lot L ii) (L.rng 0 L.zero), bo_0 (r_lot L ii), plc_lot L.nd ii]
  · have jj : In ts.length (j : Int) := ⟨by omega, by simpa using hj⟩
    have cij := C i j ii jj
    have cji := C j i jj ii
    simp only [Int.toNat_natCast] at cij cji
    refine ⟨by rw [cij, cji, bo_comm (r_lot L ii) (r_lot L jj)], fun k hk => ?_⟩
    have kk : In ts.length (k : Int) := ⟨by omega, by simpa using hk⟩
    have cjk := C j k jj kk
    simp only [Int.toNat_natCast] at cjk
    obtain ⟨a1, a2⟩ := plc_mem (L.cl _ (lot_mem ii) _ (lot_mem jj))
    obtain ⟨b1, b2⟩ := plc_mem (L.cl _ (lot_mem jj) _ (lot_mem kk))
    have l := C (plc ts (bo (lot ts i) (lot ts j))) k a1 kk
    have r := C i (plc ts (bo (lot ts j) (lot ts k))) ii b1
    simp only [Int.toNat_natCast] at l r
    rw [cij, cjk, l, r, a2, b2, bo_assoc (r_lot L ii) (r_lot L jj) (r_lot L kk)]
end
end Tb

namespace Tb
open PySem PySem.Spec PyProof.Rows L2
section
variable {ts : List Int} {d : PyData}
theorem rowOk_mat (L : LotsN ts) {x : Int} (hx : x ∈ ts) : rowOk (rowD (rowT ts x)) (ts.length : Int) = true := by
  unfold rowOk
  have l : (kids (rowD (rowT ts x))).length = ts.length := by
    show ((rowT ts x).map PyData.int).length = _
    simp [rowT]
  rw [l]
  simp only [Bool.and_eq_true, decide_eq_true_eq]
  refine ⟨⟨rfl, trivial⟩, List.all_eq_true.mpr fun e he => ?_⟩
  obtain ⟨z, hz, rfl⟩ := List.mem_map.mp (show e ∈ (rowT ts x).map PyData.int from he)
  obtain ⟨y, hy, rfl⟩ := List.mem_map.mp hz
  obtain ⟨⟨p1, p2⟩, -⟩ := plc_mem (L.cl _ hx _ hy)
  show (decide _ && decide _) = true
  simp only [Bool.and_eq_true, decide_eq_true_eq]
  exact ⟨p1, by omega⟩
theorem ist_mat (L : LotsN ts) : IsT (mat (rowsT ts)) := by
  have l : (kids (mat (rowsT ts))).length = ts.length := (mx_mat L).len
  refine ⟨?_, ?_⟩
  · unfold formOk
    rw [l]
    simp only [Bool.and_eq_true, decide_eq_true_eq]
    refine ⟨⟨⟨rfl, L.pos⟩, L.le⟩, List.all_eq_true.mpr fun e he => ?_⟩
    obtain ⟨r, hr, rfl⟩ := List.mem_map.mp (show e ∈ (rowsT ts).map rowD from he)
    obtain ⟨x, hx, rfl⟩ := List.mem_map.mp hr
    exact rowOk_mat L hx
  · rw [l]
    exact jr_cells L cells_mat
/-! ### joins of states grow with the states -/
theorem orL_hi (L : LotsN ts) {ns : List Int} (hn : ∀ m ∈ ns, In ts.length m) {m : Int} (hm : m ∈ ns) : bo (lot ts m) (orL ts ns) = orL ts ns := (fold_hi L ns 0 L.zero hn).2 m hm
/-- the least above all -/
theorem fold_le (L : LotsN ts) {t : Int} (ht : t ∈ ts) : ∀ (ns : List Int) (s : Int), s ∈ ts → bo s t = t → (∀ m ∈ ns, In ts.length m ∧ bo (lot ts m) t = t) → bo (ns.foldl (fun t m => bo t (lot ts m)) s) t = t
  | [], _, _, h, _ => h
  | m :: r, s, hs, h, hn => by
    obtain ⟨im, hm⟩ := hn m List.mem_cons_self
    refine fold_le L ht r _ (L.cl _ hs _ (lot_mem im)) ?_ fun x hx => hn x (List.mem_cons_of_mem _ hx)
    rw [bo_assoc (L.rng s hs) (r_lot L im) (L.rng t ht), hm, h]
theorem orL_le (L : LotsN ts) {t : Int} (ht : t ∈ ts) {ns : List Int} (hn : ∀ m ∈ ns, In ts.length m ∧ bo (lot ts m) t = t) : bo (orL ts ns) t = t := fold_le L ht ns 0 L.zero (bo_0 (L.rng t ht)) hn
theorem bo_anti (L : LotsN ts) {x y : Int} (hx : x ∈ ts) (hy : y ∈ ts) (a : bo x y = y) (b : bo y x = x) : x = y := by rw [← b, bo_comm (L.rng y hy) (L.rng x hx), a]
theorem orL_mono (L : LotsN ts) {ns ms : List Int} (hm : ∀ m ∈ ms, In ts.length m) (h : ∀ m ∈ ns, m ∈ ms) : bo (orL ts ns) (orL ts ms) = orL ts ms :=
  orL_le L (orL_in L hm) fun m hn => ⟨hm m (h m hn), orL_hi L hm (h m hn)⟩
/-- between two that join to y, all join to y -/
theorem orL_mid (L : LotsN ts) {y : Int} (hy : In ts.length y) {ns ms : List Int} (h : ∀ m ∈ ns, m ∈ ms) (hm : ∀ m ∈ ms, m ∈ belI ts y) (e : orL ts ns = lot ts y) : orL ts ms = lot ts y := by
  have im : ∀ m ∈ ms, In ts.length m := fun m x => belI_all m (hm m x)
  have a := orL_mono L im h
  have b := orL_le L (lot_mem hy) (ns := ms) fun m x => ⟨im m x, lo_of (hm m x)⟩
  rw [e] at a
  exact bo_anti L (orL_in L im) (lot_mem hy) b a
/-- the same states, the same join -/
theorem orL_same (L : LotsN ts) {ns ms : List Int} (hn : ∀ m ∈ ns, In ts.length m) (hm : ∀ m ∈ ms, In ts.length m) (h : ∀ m ∈ ns, m ∈ ms) (k : ∀ m ∈ ms, m ∈ ns) : orL ts ns = orL ts ms :=
  bo_anti L (orL_in L hn) (orL_in L hm) (orL_mono L hm h) (orL_mono L hn k)
end
end Tb

namespace Tb
open PySem PySem.Spec PyProof.Rows L2
theorem bo_finle : ∀ a b : Fin 16, bo ((a : Nat) : Int) ((b : Nat) : Int) = ((b : Nat) : Int) → ((a : Nat) : Int) ≤ ((b : Nat) : Int) := by decide +kernel
theorem bo_le {x y : Int} (hx : R16 x) (hy : R16 y) (h : bo x y = y) : x ≤ y := by
  obtain ⟨a, rfl⟩ := r16 hx
  obtain ⟨b, rfl⟩ := r16 hy
  exact bo_finle a b h
/-- a sublist of a list without doubles is told by its members -/
theorem sub_filter : ∀ {s l : List Int}, s.Sublist l → l.Nodup → s = l.filter fun x => decide (x ∈ s) := by
  intro s l h
  induction h with
  | slnil => intro _; rfl
  | @cons s l a h ih =>
    intro nd
    obtain ⟨na, nl⟩ := List.nodup_cons.mp nd
    have : a ∉ s := fun z => na (h.subset z)
    rw [List.filter_cons_of_neg (by simpa using this)]
    exact ih nl
  | @cons_cons s l a h ih =>
    intro nd
    obtain ⟨na, nl⟩ := List.nodup_cons.mp nd
    rw [List.filter_cons_of_pos (by simp)]
    congr 1
    refine (ih nl).trans (List.filter_congr fun x hx => ?_)
    have : x ≠ a := fun z => na (z ▸ hx)
    simp [this]
theorem sub_eq {s u l : List Int} (hs : s.Sublist l) (hu : u.Sublist l) (nd : l.Nodup) (h : ∀ m, m ∈ s ↔ m ∈ u) : s = u := by
  rw [sub_filter hs nd, sub_filter hu nd]
  exact List.filter_congr fun x _ => by simp [h x]
theorem subsL_all (l : List Int) : ∀ i, i ≤ l.length → ∀ s : List Int, s.Sublist (l.take i) → s ∈ subsL (l.take i)
  | 0, _, s, hs => by
    have : s = [] := by simpa using hs
    subst this
    simp [subsL]
  | i + 1, h, s, hs => by
    have e := List.getElem?_eq_getElem (l := l) (i := i) h
    rw [subsL_step l i _ e]
    rw [List.take_add_one, e] at hs
    obtain ⟨s1, s2, rfl, h1, h2⟩ := List.sublist_append_iff.mp hs
    have m1 := subsL_all l i (by omega) s1 h1
    rcases List.sublist_cons_iff.mp (show s2.Sublist (l[i] :: []) from h2) with z | ⟨r, rfl, z⟩
    · have : s2 = [] := by simpa using z
      subst this
      exact List.mem_append.mpr (.inl (by simpa using m1))
    · have : r = [] := by simpa using z
      subst this
      exact List.mem_append.mpr (.inr (List.mem_map.mpr ⟨s1, m1, rfl⟩))
theorem subs_all {l s : List Int} (h : s.Sublist l) : s ∈ subsL l := by
  have := subsL_all l l.length (Nat.le_refl _) s (by rw [List.take_length]; exact h)
  rwa [List.take_length] at this
theorem subsL_nd (l : List Int) (nd : l.Nodup) : ∀ i, i ≤ l.length → (subsL (l.take i)).Nodup
  | 0, _ => by simp [subsL]
  | i + 1, h => by
    have e := List.getElem?_eq_getElem (l := l) (i := i) h
    rw [subsL_step l i _ e]
    have ih := subsL_nd l nd i (by omega)
    refine List.nodup_append.mpr ⟨ih, List.pairwise_map.mpr (List.Pairwise.imp (fun {a b} z w => z (List.append_cancel_right w)) ih), ?_⟩
    rintro a ha b hb rfl
    obtain ⟨u, -, rfl⟩ := List.mem_map.mp hb
    have := (subsL_subl l i (by omega) _ ha).subset (List.mem_append.mpr (.inr List.mem_cons_self))
    obtain ⟨j, hj, ej⟩ := List.mem_take_iff_getElem.mp this
    have := (List.getElem?_inj (by omega) nd).mp ((List.getElem?_eq_getElem (l := l) (i := j) (by omega)).trans ((congrArg some ej).trans e.symm))
    omega
theorem subs_nd {l : List Int} (nd : l.Nodup) : (subsL l).Nodup := by
  have := subsL_nd l nd l.length (Nat.le_refl _)
  rwa [List.take_length] at this
section
variable {ts : List Int} {d : PyData}
theorem some_mem {y m : Int} : m ∈ someT ts (partsT ts) y ↔ m ∈ partsT ts ∧ m ∈ belI ts y := by
  unfold someT
  rw [List.mem_filter, decide_eq_true_iff]
theorem bel_trans (L : LotsN ts) {x y z : Int} (hz : In ts.length z) (h : x ∈ belI ts y) (k : y ∈ belI ts z) : x ∈ belI ts z := by
  have ix := belI_all _ h
  have iy := belI_all _ k
  refine List.mem_filter.mpr ⟨rng_mem.mpr ix, decide_eq_true ?_⟩
  rw [← lo_of k, ← bo_assoc (r_lot L ix) (r_lot L iy) (r_lot L hz), lo_of h]
/-- each state is the join of the parts below it -/
theorem parts_join (L : LotsN ts) : ∀ (k : Nat) (y : Int), In ts.length y → (lot ts y).toNat < k → orL ts (someT ts (partsT ts) y) = lot ts y
  | k + 1, y, hy, hk => by
    have hS : ∀ m ∈ someT ts (partsT ts) y, In ts.length m := fun m hm => someT_in hm
    have hF := orL_in L hS
    have lo := orL_le L (lot_mem hy) (ns := someT ts (partsT ts) y) fun m hm => ⟨hS m hm, lo_of (some_mem.mp hm).2⟩
    refine bo_anti L hF (lot_mem hy) lo ?_
    by_cases h0 : y = 0
    · rw [h0, lot0 L]
      rw [h0] at hF
      exact bo_0 (L.rng _ hF)
    · have hyr := r_lot L hy
      by_cases hp : parB ts y = true
      · refine orL_hi L hS (some_mem.mpr ⟨List.mem_filter.mpr ⟨rng_mem.mpr hy, by simp [h0, hp]⟩, List.mem_filter.mpr ⟨rng_mem.mpr hy, decide_eq_true (bo_idem hyr)⟩⟩)
      · have hall : ∀ m ∈ lessL (belI ts y) y, In ts.length m := lessL_in belI_all
        have e : orL ts (lessL (belI ts y) y) = lot ts y := by
          refine (plc_is L hy (orL_in L hall)).mp ?_
          unfold parB at hp
          simpa using hp
        rw [← e]
        refine orL_le L hF fun m hm => ⟨hall m hm, ?_⟩
        obtain ⟨m1, m2⟩ := List.mem_filter.mp hm
        have im := belI_all m m1
        have ne : lot ts m ≠ lot ts y := fun z => by
          have : m = y := by rw [← plc_lot L.nd im, z, plc_lot L.nd hy]
          simp [this] at m2
        have le := bo_le (r_lot L im) hyr (lo_of m1)
        have p0 := (r_lot L im).1
        rw [← parts_join L k m im (by omega)]
        refine orL_mono L hS fun x hx => ?_
        obtain ⟨x1, x2⟩ := some_mem.mp hx
        exact some_mem.mpr ⟨x1, bel_trans L hy x2 m1⟩
end
end Tb

namespace Tb
open PySem PySem.Spec PyProof.Rows L2
section
variable {ts : List Int} {d : PyData}
/-- what a list for y is -/
def IsL (ts : List Int) (y : Int) (s : List Int) : Prop := orL ts s = lot ts y ∧ ∀ p ∈ s, orL ts (lessL s p) ≠ lot ts y
theorem lis_iff (L : LotsN ts) {y : Int} (hy : In ts.length y) {s : List Int} (nd : s.Nodup) (hs : ∀ m ∈ s, In ts.length m) : lisB ts y s = true ↔ IsL ts y s := by
  unfold lisB IsL
  rw [Bool.and_eq_true, decide_eq_true_iff, plc_is L hy (orL_in L hs), List.isEmpty_iff, List.filter_eq_nil_iff]
  refine and_congr_right fun _ => ?_
  constructor
  · intro h p hp
    obtain ⟨i, hi, rfl⟩ := List.mem_iff_getElem.mp hp
    have := h (cutAt s i) (List.mem_map.mpr ⟨i, List.mem_range.mpr hi, rfl⟩)
    rw [cut_less nd hi, decide_eq_true_iff, plc_is L hy (orL_in L (lessL_in hs))] at this
    exact this
  · intro h u hu
    obtain ⟨i, hi, rfl⟩ := List.mem_map.mp hu
    have hi' := List.mem_range.mp hi
    rw [cut_less nd hi', decide_eq_true_iff, plc_is L hy (orL_in L (lessL_in hs))]
    exact h _ (List.getElem_mem hi')
theorem less_len {s : List Int} {p : Int} (h : p ∈ s) : (lessL s p).length < s.length := by
  unfold lessL
  have := List.length_filter_lt_length_iff_exists (p := fun x => !decide (x = p)) (l := s)
  exact this.mpr ⟨p, h, by simp⟩
/-- all that joins to y holds a list for y -/
theorem has_list : ∀ (k : Nat) (s : List Int) (y : Int), s.length < k → orL ts s = lot ts y → ∃ u, u.Sublist s ∧ IsL ts y u
  | k + 1, s, y, hk, e => by
    by_cases h : ∀ p ∈ s, orL ts (lessL s p) ≠ lot ts y
    · exact ⟨s, List.Sublist.refl _, e, h⟩
    · obtain ⟨p, hp⟩ := Classical.not_forall.mp h
      obtain ⟨m, g⟩ := Classical.not_imp.mp hp
      have g := Classical.not_not.mp g
      have := less_len m
      obtain ⟨u, hu, iu⟩ := has_list k (lessL s p) y (by omega) g
      exact ⟨u, hu.trans List.filter_sublist, iu⟩
theorem mem_less {l : List Int} {p m : Int} : m ∈ lessL l p ↔ m ∈ l ∧ m ≠ p := by
  unfold lessL
  rw [List.mem_filter]
  simp
theorem need_mem (L : LotsN ts) {y p : Int} (hy : In ts.length y) : p ∈ needT ts (partsT ts) y ↔ p ∈ someT ts (partsT ts) y ∧ orL ts (lessL (someT ts (partsT ts) y) p) ≠ lot ts y := by
  unfold needT nedB
  rw [List.mem_filter]
  refine and_congr_right fun _ => ?_
  rw [Bool.not_eq_true', decide_eq_false_iff_not, plc_is L hy (orL_in L (lessL_in fun m hm => someT_in hm))]
/-- what is needed lies in each list -/
theorem need_list (L : LotsN ts) {y : Int} (hy : In ts.length y) {u : List Int} (hu : u.Sublist (someT ts (partsT ts) y)) (h : orL ts u = lot ts y) : ∀ p ∈ needT ts (partsT ts) y, p ∈ u := by
  intro p hp
  refine Classical.byContradiction fun np => ?_
  obtain ⟨-, g⟩ := (need_mem L hy).mp hp
  refine g (orL_mid L hy (ns := u) (fun m hm => mem_less.mpr ⟨hu.subset hm, fun z => np (z ▸ hm)⟩) (fun m hm => (some_mem.mp (mem_less.mp hm).1).2) h)
theorem need_bel {y : Int} : ∀ m ∈ needT ts (partsT ts) y, m ∈ belI ts y := fun m hm => (some_mem.mp (List.mem_filter.mp hm).1).2
theorem mem_lists (L : LotsN ts) {y : Int} (hy : In ts.length y) {u : List Int} : u ∈ listsT ts (partsT ts) y ↔ u.Sublist (someT ts (partsT ts) y) ∧ IsL ts y u := by
  unfold listsT srt
  rw [List.mem_mergeSort, List.mem_filter]
  constructor
  · rintro ⟨h, k⟩
    have sl := subs_subl h
    exact ⟨sl, (lis_iff L hy (some_nodup.sublist sl) fun m hm => someT_in (sl.subset hm)).mp k⟩
  · rintro ⟨sl, k⟩
    exact ⟨subs_all sl, (lis_iff L hy (some_nodup.sublist sl) fun m hm => someT_in (sl.subset hm)).mpr k⟩
theorem lists_nd {y : Int} : (listsT ts (partsT ts) y).Nodup := by
  unfold listsT srt
  exact (List.mergeSort_perm _ _).nodup_iff.mpr ((subs_nd some_nodup).filter _)
theorem some_join (L : LotsN ts) {y : Int} (hy : In ts.length y) : orL ts (someT ts (partsT ts) y) = lot ts y := parts_join L _ y hy (Nat.lt_succ_self _)
/-- there is a list for each state -/
theorem lists_ne (L : LotsN ts) {y : Int} (hy : In ts.length y) : listsT ts (partsT ts) y ≠ [] := by
  obtain ⟨u, hu, iu⟩ := has_list _ _ y (Nat.lt_succ_self _) (some_join L hy)
  intro e
  have := (mem_lists L hy).mpr ⟨hu, iu⟩
  rw [e] at this
  cases this
/-- there is one list alone just when what is needed joins to the state -/
theorem single_iff (L : LotsN ts) {y : Int} (hy : In ts.length y) : (listsT ts (partsT ts) y).length = 1 ↔ plc ts (orL ts (needT ts (partsT ts) y)) = y := by
  have hN : ∀ m ∈ needT ts (partsT ts) y, In ts.length m := fun m hm => belI_all m (need_bel m hm)
  have sN : (needT ts (partsT ts) y).Sublist (someT ts (partsT ts) y) := List.filter_sublist
  rw [plc_is L hy (orL_in L hN)]
  constructor
  · intro h
    obtain ⟨u, hu⟩ := List.length_eq_one_iff.mp h
    obtain ⟨sl, iu⟩ := (mem_lists L hy (u := u)).mp (by rw [hu]; exact List.mem_cons_self)
    refine orL_mid L hy (ns := u) (fun p hp => (need_mem L hy).mpr ⟨sl.subset hp, fun g => ?_⟩) need_bel iu.1
    obtain ⟨v, hv, iv⟩ := has_list _ _ y (Nat.lt_succ_self _) g
    have m := (mem_lists L hy).mpr ⟨hv.trans List.filter_sublist, iv⟩
    rw [hu] at m
    have e : v = u := by simpa using m
    rw [e] at hv
    exact (mem_less.mp (hv.subset hp)).2 rfl
  · intro h
    have iN : IsL ts y (needT ts (partsT ts) y) := by
      refine ⟨h, fun p hp g => ?_⟩
      obtain ⟨-, k⟩ := (need_mem L hy).mp hp
      exact k (orL_mid L hy (ns := lessL (needT ts (partsT ts) y) p) (fun m hm => mem_less.mpr ⟨sN.subset (mem_less.mp hm).1, (mem_less.mp hm).2⟩) (fun m hm => (some_mem.mp (mem_less.mp hm).1).2) g)
    have mN := (mem_lists L hy).mpr ⟨sN, iN⟩
    have all : ∀ u ∈ listsT ts (partsT ts) y, u = needT ts (partsT ts) y := by
      intro u hu
      obtain ⟨sl, iu⟩ := (mem_lists L hy).mp hu
      refine sub_eq sl sN some_nodup fun m => ⟨fun hm => ?_, fun hm => need_list L hy sl iu.1 m hm⟩
      refine Classical.byContradiction fun nm => ?_
      refine iu.2 m hm (orL_mid L hy (ns := needT ts (partsT ts) y) (fun x hx => mem_less.mpr ⟨need_list L hy sl iu.1 x hx, fun z => nm (z ▸ hx)⟩) (fun x hx => (some_mem.mp (sl.subset (mem_less.mp hx).1)).2) h)
    have nd := lists_nd (ts := ts) (y := y)
    generalize listsT ts (partsT ts) y = l at mN all nd
    match l with
    | [] => cases mN
    | [a] => rfl
    | a :: b :: r =>
      have ea := all a List.mem_cons_self
      have eb := all b (List.mem_cons_of_mem _ List.mem_cons_self)
      rw [ea, eb] at nd
      simp at nd
end
end Tb

namespace Tb
open PySem PySem.Spec PyProof.Rows L2
/-! ### the same table, told as tuples -/
def rowDt (r : List Int) : PyData := .tuple (r.map PyData.int)
def matT (rs : List (List Int)) : PyData := .tuple (rs.map rowDt)
section
variable {ts : List Int}
theorem row_atT {i : Nat} (h : i < ts.length) : rowAt (matT (rowsT ts)) i = rowDt (rowT ts ts[i]) := by
  unfold rowAt matT rowsT
  show ((ts.map (rowT ts)).map rowDt).getD i .none = _
  rw [List.getD_eq_getElem?_getD]
  simp [h]
theorem cell_atT {i j : Nat} (h : i < ts.length) (k : j < ts.length) : (kids (rowAt (matT (rowsT ts)) i)).getD j .none = .int (plc ts (bo ts[i] ts[j])) := by
  rw [row_atT h]
  unfold rowDt rowT
  show ((ts.map _).map PyData.int).getD j .none = _
  rw [List.getD_eq_getElem?_getD]
  simp [k]
theorem cells_matT : CellsOf (matT (rowsT ts)) ts := by
  intro i j hi hj
  unfold cell
  rw [cell_atT hi.2 hj.2, lot_get hi, lot_get hj]
theorem mx_matT (L : LotsN ts) : Mx (matT (rowsT ts)) ts.length where
  sq := rfl
  len := by
    show ((ts.map (rowT ts)).map rowDt).length = _
    simp
  pos := L.pos
  le := L.le
  row := fun i hi => by
    rw [row_atT hi]
    refine ⟨rfl, ?_⟩
    show ((rowT ts ts[i]).map PyData.int).length = _
    simp [rowT]
  cel := fun i j hi hj => by
    have e := cell_atT (ts := ts) hi hj
    have c : cell (matT (rowsT ts)) i j = plc ts (bo ts[i] ts[j]) := by
      unfold cell
      rw [e]
    obtain ⟨⟨p1, p2⟩, -⟩ := plc_mem (L.cl _ (List.getElem_mem hi) _ (List.getElem_mem hj))
    rw [c]
    exact ⟨e, p1, by omega⟩
theorem ist_matT (L : LotsN ts) : IsT (matT (rowsT ts)) := by
  have l : (kids (matT (rowsT ts))).length = ts.length := (mx_matT L).len
  refine ⟨?_, ?_⟩
  · unfold formOk
    rw [l]
    simp only [Bool.and_eq_true, decide_eq_true_eq]
    refine ⟨⟨⟨rfl, L.pos⟩, L.le⟩, List.all_eq_true.mpr fun e he => ?_⟩
    obtain ⟨r, hr, rfl⟩ := List.mem_map.mp (show e ∈ (rowsT ts).map rowDt from he)
    obtain ⟨x, hx, rfl⟩ := List.mem_map.mp hr
    exact rowOk_mat L hx
  · rw [l]
    exact jr_cells L cells_matT
/-- what the running parts ask of a table of lots, however it is told -/
structure TabOf (ts : List Int) (d : PyData) : Prop where
  mx : Mx d ts.length
  ist : IsT d
  ce : CellsOf d ts
theorem tab_mat (L : LotsN ts) : TabOf ts (mat (rowsT ts)) := ⟨mx_mat L, ist_mat L, cells_mat⟩
theorem tab_matT (L : LotsN ts) : TabOf ts (matT (rowsT ts)) := ⟨mx_matT L, ist_matT L, cells_matT⟩
theorem single_all (L : LotsN ts) {d : PyData} (C : CellsOf d ts) : Single d ts.length ↔ ∀ i, i < ts.length → (listsT ts (partsT ts) (i : Int)).length = 1 := by
  unfold Single
  refine forall_congr' fun i => forall_congr' fun h => ?_
  rw [lists_eq L C ⟨by omega, by simpa using h⟩]
end
end Tb

namespace Tb
open PySem PySem.Spec PyProof.Rows L2
/-! ### the first state of two lists -/
section
variable {ts : List Int} {d : PyData}
noncomputable def lisN (ts : List Int) (i : Nat) : List (List Int) := listsT ts (partsT ts) (i : Int)
noncomputable def firstAt (ts : List Int) (k : Nat) : Option Nat := (List.range k).find? fun i => decide (1 < (lisN ts i).length)
noncomputable def firstD (ts : List Int) (k : Nat) : PyData := match firstAt ts k with
  | none => .none
  | some i => .tuple [.int (i : Int), encL ((lisN ts i).getD 0 []), encL ((lisN ts i).getD 1 [])]
theorem firstAt_0 : firstAt ts 0 = none := rfl
theorem firstAt_old {k i : Nat} (h : firstAt ts k = some i) : firstAt ts (k + 1) = some i := by
  unfold firstAt at h ⊢
  rw [List.range_succ, List.find?_append, h]; rfl
theorem firstAt_new {k : Nat} (h : firstAt ts k = none) (l : 1 < (lisN ts k).length) : firstAt ts (k + 1) = some k := by
  unfold firstAt at h ⊢
  rw [List.range_succ, List.find?_append, h]
  simp [l]
theorem firstAt_none {k : Nat} (h : firstAt ts k = none) (l : ¬ 1 < (lisN ts k).length) : firstAt ts (k + 1) = none := by
  unfold firstAt at h ⊢
  rw [List.range_succ, List.find?_append, h]
  simp [l]
theorem firstAt_iff {k : Nat} : firstAt ts k = none ↔ ∀ i, i < k → (lisN ts i).length ≤ 1 := by
  unfold firstAt
  rw [List.find?_eq_none]
  constructor
  · intro h i hi
    have := h i (List.mem_range.mpr hi)
    simpa using this
  · intro h i hi
    have := h i (List.mem_range.mp hi)
    simpa using this
theorem firstAt_is {k i : Nat} (hi : i < k) (h : ∀ j, j < i → (lisN ts j).length ≤ 1) (l : 1 < (lisN ts i).length) : firstAt ts k = some i := by
  have a := firstAt_new (firstAt_iff.mpr h) l
  obtain ⟨m, rfl⟩ : ∃ m, k = i + 1 + m := ⟨k - (i + 1), by omega⟩
  clear hi
  induction m with
  | zero => exact a
  | succ m ih => exact firstAt_old ih
theorem in_nat {n i : Nat} (h : i < n) : In n (i : Int) := ⟨by omega, by simpa using h⟩
/-- two_lists tells the first of the law -/
theorem two_eq (L : LotsN ts) (C : CellsOf d ts) {e : PyData} (h : Two d ts.length e) : e = firstD ts ts.length := by
  unfold firstD
  rcases h with ⟨s, rfl⟩ | ⟨i, s, t, r, hi, hj, hl, rfl⟩
  · have : firstAt ts ts.length = none := firstAt_iff.mpr fun i hi => by
      have := s i hi
      rw [lists_eq L C (in_nat hi)] at this
      exact this
    rw [this]
  · rw [lists_eq L C (in_nat hi)] at hl
    have hl : lisN ts i = s :: t :: r := hl
    have : firstAt ts ts.length = some i := firstAt_is hi (fun j h => by
      have := hj j h
      rw [lists_eq L C (in_nat (by omega))] at this
      exact this) (by rw [hl]; simp)
    rw [this]
    show _ = PyData.tuple [_, encL ((lisN ts i).getD 0 []), encL ((lisN ts i).getD 1 [])]
    rw [hl]; rfl
/-- has_single_lists tells whether there is no first -/
theorem single_none (L : LotsN ts) (C : CellsOf d ts) : Single d ts.length ↔ firstAt ts ts.length = none := by
  rw [single_all L C, firstAt_iff]
  refine forall_congr' fun i => forall_congr' fun h => ?_
  have := List.length_pos_iff.mpr (lists_ne L (in_nat h))
  show (lisN ts i).length = 1 ↔ _
  have : 0 < (lisN ts i).length := this
  omega
theorem firstD_none {k : Nat} : firstD ts k = .none ↔ firstAt ts k = none := by
  unfold firstD
  cases h : firstAt ts k with
  | none => simp
  | some i => simp
end
end Tb

namespace Tb
open PySem PySem.Spec PyProof.Rows L2
variable {K : PySem.W.Frag}
/-! ### f(k = v), f(l = v, k = w) -/
section
variable {X : Cx} {k : Nat} {f : Addr} {fd : FuncData} {ps ks : List Str} {sp : Sp} {x : Str} {p pos : Pos} {kws : List Keyword} {tk : TA}
def tCallK0 (sp : Sp) (tk : TA) : TE := fun σ H Q => tk σ H fun zs H2 => sp zs H2 Q E0
theorem pe_callK0 (F : FnOk X.prog X.w X.K X.mg X.base CX0 k f fd ps sp) (hr : Room k X.A) (hg : Gl X x) (hm : X.mg x = some (.ref f)) (hk : PySem.W.keepIn X.K (.ref f) = true) (hb : ∀ (s : Shared) (ws : List Value), ws.length = ps.length → BindsTo s fd ⟨[], ks.zip ws⟩ (ps.zip ws))
    (hkw : PK X kws tk) (hall : (backToKw pos (keywordEach kws X.env)).all (·.1.isSome) = true := by rfl) (hks : (backToKw pos (keywordEach kws X.env)).filterMap (·.1) = ks := by rfl)
    (hdb : (x == ("__debug__" : Str)) = false := by decide)
    (hpl : ((backTo pos (starEach [] X.env)).any (·.1) || (backToKw pos (keywordEach kws X.env)).any (·.1.isNone)) = false := by rfl) :
    PE X (.Call (.Name x p) [] kws pos) (tCallK0 sp tk) := by
  refine ⟨fun pins s σ H Q I h => ?_⟩
  refine wpAny_Call_Name_kw (ld_glob I hg hm ?_ hdb)
  refine PySem.W.callWith_KW0 (h₀ := X.base) I.ok.mod.kin hk hall (thn (hkw.run pos pins s σ H _ I h) fun ws s2 ⟨zs, H2, I2, rz, q2⟩ => ⟨I2.kIn, ?_⟩) hpl
  rw [hks]
  have hl : ws.length = ps.length := by rw [← rz.length]; exact F.len _ _ _ _ q2
  refine wpAny_call (codeAny_mono (F.run X.A X.stack s2 H2 ⟨[], ks.zip ws⟩ ws zs Q E0 hr I2.env0 (hb s2 ws hl) rz q2) fun r s' hq => ?_)
  cases r with
  | error e => exact hq.elim
  | ok fl =>
    cases fl with
    | ret u => exact I2.after hq
    | next => exact hq.elim
    | brk => exact hq.elim
    | cont => exact hq.elim
/-- two by name, the second one first -/
def tCallK2 (sp : Sp) (tk : TA) : TE := fun σ H Q => tk σ H fun zs H2 => ∃ x y, zs = [x, y] ∧ sp [y, x] H2 Q E0
theorem pe_callK2 {k1 k2 p1 p2 : Str} (F : FnOk X.prog X.w X.K X.mg X.base CX0 k f fd [p1, p2] sp) (hr : Room k X.A) (hg : Gl X x) (hm : X.mg x = some (.ref f)) (hk : PySem.W.keepIn X.K (.ref f) = true) (hb : ∀ (s : Shared) (a b : Value), BindsTo s fd ⟨[], [(k1, a), (k2, b)]⟩ [(p1, b), (p2, a)])
    (hkw : PK X kws tk) (hall : (backToKw pos (keywordEach kws X.env)).all (·.1.isSome) = true := by rfl) (hks : (backToKw pos (keywordEach kws X.env)).filterMap (·.1) = [k1, k2] := by rfl)
    (hdb : (x == ("__debug__" : Str)) = false := by decide)
    (hpl : ((backTo pos (starEach [] X.env)).any (·.1) || (backToKw pos (keywordEach kws X.env)).any (·.1.isNone)) = false := by rfl) :
    PE X (.Call (.Name x p) [] kws pos) (tCallK2 sp tk) := by
  refine ⟨fun pins s σ H Q I h => ?_⟩
  refine wpAny_Call_Name_kw (ld_glob I hg hm ?_ hdb)
  refine PySem.W.callWith_KW0 (h₀ := X.base) I.ok.mod.kin hk hall (thn (hkw.run pos pins s σ H _ I h) fun ws s2 ⟨zs, H2, I2, rz, q2⟩ => ⟨I2.kIn, ?_⟩) hpl
  rw [hks]
  obtain ⟨x, y, rfl, q2⟩ := q2
  cases rz with
  | cons r1 r2 =>
    cases r2 with
    | cons r2 r3 =>
      cases r3
      rename_i u v _
      refine wpAny_call (codeAny_mono (F.run X.A X.stack s2 H2 ⟨[], [k1, k2].zip [u, v]⟩ [v, u] [y, x] Q E0 hr I2.env0 (hb s2 u v) (.cons r2 (.cons r1 .nil)) q2) fun r s' hq => ?_)
      cases r with
      | error e => exact hq.elim
      | ok fl =>
        cases fl with
        | ret u => exact I2.after hq
        | next => exact hq.elim
        | brk => exact hq.elim
        | cont => exact hq.elim
end
def rTupOf (K : PySem.W.Frag) : List V → Hp → VK → Prop := fun xs H Q => ∃ p ys, xs = [.ref p] ∧ ((SqL K H p ys ∧ ∀ l, H l = none → Q (.ref l) (upd H l (.tup ys))) ∨ (SqT K H p ys ∧ Q (.ref p) H))
theorem cr_tupOf {X : Cx} (hK : X.K = K) : CallR X (.type "tuple") (rTupOf K) := by
  subst hK
  exact call_tuple_of
theorem bi_repr : bootBuiltins "repr" = some (.builtin "repr") := by decide +kernel
/-! ### data that is compared -/
theorem shaped_tuple {es : List PyData} (h : ∀ e ∈ es, E0k e) : SeqAt.shaped (.tuple es) = true := by
  obtain ⟨h1, h2⟩ := lay_all es h
  show (PyData.canLay0 (.tuple es) && decide (PyData.depth (.tuple es) ≤ 64)) = true
  have e1 : PyData.canLay0 (.tuple es) = true := by simpa [PyData.canLay0] using h1
  have e2 : PyData.depth (.tuple es) ≤ 64 := by
    show PyData.depthAll es + 1 ≤ 64
    omega
  rw [e1, decide_eq_true e2]; rfl
theorem e0I (i : Int) : E0k (.int i) := ⟨rfl, Nat.zero_le _⟩
theorem shaped_first {ts : List Int} {k : Nat} : SeqAt.shaped (firstD ts k) = true := by
  unfold firstD
  cases firstAt ts k with
  | none => rfl
  | some i =>
    refine shaped_tuple fun e he => ?_
    rcases List.mem_cons.mp he with h | he
    · rw [h]; exact e0I _
    · rcases List.mem_cons.mp he with h | he
      · rw [h]; exact e0L _
      · rw [List.mem_singleton.mp he]; exact e0L _
theorem lay_of {d : PyData} (h : SeqAt.shaped d = true) : d.canLay0 = true := (Bool.and_eq_true_iff.mp h).1
theorem ne_same {H : Hp} {x y : V} {Q : VK} (d : PyData) (hx : Dp K H x d) (hy : Dp K H y d) (hs : SeqAt.shaped d = true) (q : Q (.bl false) H) : rNeD K x y H Q :=
  ⟨d, d, hx, hy, hs, hs, by rw [PySem.SeqAt.eqv_refl d (lay_of hs)]; exact q⟩
theorem dpL {G H : Hp} {C : List (Addr × List Int)} {p : Addr} (h : H p = some (.lst (C.map fun q => V.ref q.1))) (ll : LL G H C) : Dp K H (.ref p) (.list ((C.map Prod.snd).map encL)) := by
  rw [List.map_map]
  exact .lst (.inl (.inl h)) (dpLL ll)
theorem shLL (L : List (List Int)) : SeqAt.shaped (.list (L.map encL)) = true := shaped_list fun e he => by
  obtain ⟨q, _, rfl⟩ := List.mem_map.mp he
  exact e0L q
theorem dpI {H : Hp} {p : Addr} {ns : List Int} (h : H p = some (.lst (ns.map V.int))) : Dp K H (.ref p) (.list (ns.map PyData.int)) := .lst (.inl (.inl h)) (dpInts ns)
theorem shI (ns : List Int) : SeqAt.shaped (.list (ns.map PyData.int)) = true := shaped_list (e0Ints ns)
/-- a choice, both ways led to one thing -/
theorem branch {c : Bool} {ta tb : TE} {σ : L2.St} {H : Hp} {Q : VK} (M : V → Hp → Prop) (h : ∀ x H', M x H' → Q x H') (ha : (∀ x H', M x H' → Q x H') → ta σ H Q) (hb : (∀ x H', M x H' → Q x H') → tb σ H Q) : if c = true then ta σ H Q else tb σ H Q :=
  ite2 (fun _ => ha h) (fun _ => hb h)
theorem rp_non {H : Hp} {v : V} {ts : List Int} {k : Nat} (r : Rp K H v (firstD ts k)) : v = .non ↔ firstAt ts k = none := by
  unfold firstD at r
  cases h : firstAt ts k with
  | none => rw [h] at r; cases r; simp
  | some i => rw [h] at r; cases r; simp
end Tb

namespace Tb
open PySem PySem.Spec PyProof.Rows L2
variable {K : PySem.W.Frag}
section
variable {P : Program} {w : World} {mg : Str → Option Value} {base : Heap} {f : String → Addr} {a Pt P8 Pp Pq Ph : Addr} {fd g1 g2 g3 g4 g5 g6 g7 g8 g9 g10 g11 g12 g13 : FuncData}
/-! ### _law_right -/
def spLr (Ph Pp Pq P8 P9 : Addr) : Sp := fun vs H Q _ => ∃ p, vs = [.ref p] ∧ PotAt H p ∧ GxR.TabG H Ph ∧ GxR.TabG H Pp ∧ GxR.TabG H Pq ∧ GxR.TabG H P8 ∧ GxR.TabG H P9 ∧ ∀ H', Q (.bl true) H'
abbrev Nlr : List Str := ["_law_pot_here", "_law_lots_here", "_law_rows_here", "_law_parts_here", "_law_table", "_law_first", "_law_is_single", "_law_number", "_law_due", "_law_some", "_law_told", "_law_row"]
theorem sc_lr : FnScope Nlr ["_law_pot_here"] (defScope s__law_right) := ⟨rfl, rfl, rfl, by decide +kernel, rfl, by decide +kernel, by decide +kernel⟩
theorem rplTT {H : Hp} : ∀ {bs : List (Addr × List Int)}, (∀ q ∈ bs, H q.1 = some (.tup (q.2.map V.int))) → RpL K H (bs.map fun q => V.ref q.1) ((bs.map Prod.snd).map rowDt)
  | [], _ => .nil
  | b :: r, h => .cons (.tup (h b List.mem_cons_self) (RpL.ints b.2)) (rplTT fun q hq => h q (List.mem_cons_of_mem _ hq))
theorem rpl_ints : ∀ {H : Hp} {ys : List V} {r : List Int}, RpL K H ys (r.map PyData.int) → ys = r.map V.int
  | _, [], [], _ => rfl
  | _, _ :: _, _ :: _, .cons (.int _) t => by rw [rpl_ints t]; rfl
theorem cutS {t u : TS} {D : Ends} {σ : L2.St} {H : Hp} (M : L2.St → Hp → Prop) (h : ∀ σ' H', M σ' H' → u D σ' H') (now : (∀ σ' H', M σ' H' → u D σ' H') → t { D with nx := u D } σ H) : tSeq t u D σ H := now h
theorem nx_of {x : L2.St → Hp → Prop} {r : VK} {b c : L2.St → Hp → Prop} {σ : L2.St} {H : Hp} (h : x σ H) : tNext ⟨x, r, b, c⟩ σ H := h
theorem firstD_same {ts : List Int} {i j : Nat} (h : firstAt ts i = firstAt ts j) : firstD ts i = firstD ts j := by
  unfold firstD
  rw [h]
/-- what stands once the table is told -/
structure Lw (K : PySem.W.Frag) (Ph Pp Pq P8 P9 t l m : Addr) (ts : List Int) (H : Hp) : Prop where
  th : GxR.TabG H Ph
  tp : GxR.TabG H Pp
  tq : GxR.TabG H Pq
  t8 : GxR.TabG H P8
  t9 : GxR.TabG H P9
  lots : H t = some (.lst (ts.map V.int))
  parts : H m = some (.lst ((partsT ts).map V.int))
  rows : Rp K H (.ref l) (mat (rowsT ts))
theorem Lw.kp {t l m : Addr} {ts : List Int} {H H' : Hp} (h : Lw K Ph Pp Pq P8 Pt t l m ts H) (k : Kp H H') : Lw K Ph Pp Pq P8 Pt t l m ts H' :=
  ⟨k.tab _ h.th, k.tab _ h.tp, k.tab _ h.tq, k.tab _ h.t8, k.tab _ h.t9, k.lst h.lots, k.lst h.parts, h.rows.kp k⟩
theorem tabG_kd {p T : Addr} {H H' : Hp} (hp : PotAt H p) (k : Kd p H H') (t : GxR.TabG H T) : GxR.TabG H' T := by
  obtain ⟨ps, h1, h2⟩ := t
  have n : T ≠ p := fun z => hp.ntbl ps (by rw [← z]; exact h1)
  obtain ⟨qs, h3, h4⟩ := Kp.tab (H := del H p) (H' := del H' p) k T ⟨ps, by rw [del_ne n]; exact h1, h2⟩
  exact ⟨qs, del_sub _ _ h3, h4⟩
theorem Lw.kd {p t l m : Addr} {ts : List Int} {H H' : Hp} (h : Lw K Ph Pp Pq P8 Pt t l m ts H) (hp : PotAt H p) (nt : t ≠ p) (nm : m ≠ p) (r : Rp K (del H p) (.ref l) (mat (rowsT ts))) (k : Kd p H H') : Lw K Ph Pp Pq P8 Pt t l m ts H' :=
  ⟨tabG_kd hp k h.th, tabG_kd hp k h.tp, tabG_kd hp k h.tq, tabG_kd hp k h.t8, tabG_kd hp k h.t9, Kd.lst k nt h.lots, Kd.lst k nm h.parts, (r.kp k).kp (Kp.of del_sub)⟩
theorem Tbl.of {H : Hp} {x : V} {d : PyData} {ts : List Int} (r : Rp K H x d) (t : TabOf ts d) : Tbl K H x d ts.length := ⟨r, t.mx⟩
theorem partsT_len (ts : List Int) : (partsT ts).length ≤ ts.length := Nat.le_trans (List.length_filter_le _ _) (Nat.le_of_eq (rng_len _))
theorem ok_lr (T : Tx mg f) (hsys : ∃ o, base.get? sysModules = some o) (F : Fun K "_law_right" "_law_right" s__law_right a fd)
    (G1 : FnOk P w K mg base CX0 2 (f "_law_lots") g1 ["_law_pot_here"] spLots) (B1 : Binds K g1 ["_law_pot_here"] []) (k1 : PySem.W.keepIn K (.ref (f "_law_lots")) = true)
    (G2 : FnOk P w K mg base CX0 1 (f "_law_rows") g2 ["_law_lots_here"] (spRows K)) (B2 : Binds K g2 ["_law_lots_here"] []) (k2 : PySem.W.keepIn K (.ref (f "_law_rows")) = true)
    (G3 : FnOk P w K mg base CX0 2 (f "_law_parts") g3 ["_law_lots_here"] spLp) (B3 : Binds K g3 ["_law_lots_here"] []) (k3 : PySem.W.keepIn K (.ref (f "_law_parts")) = true)
    (G4 : FnOk P w K mg base CX0 1 (f "_law_draw") g4 ["_law_pot_here", "_law_sides"] spDraw) (B4 : Binds K g4 ["_law_pot_here", "_law_sides"] []) (k4 : PySem.W.keepIn K (.ref (f "_law_draw")) = true)
    (G5 : FnOk P w K mg base CX0 8 (f "is_table") g5 ["value"] (spTab K P8 Pt)) (B5 : Binds K g5 ["value"] []) (k5 : PySem.W.keepIn K (.ref (f "is_table")) = true)
    (G6 : FnOk P w K mg base CX0 10 (f "table_parts") g6 ["table"] (spTP K Pp P8 Pt)) (B6 : Binds K g6 ["table"] []) (k6 : PySem.W.keepIn K (.ref (f "table_parts")) = true)
    (G7 : FnOk P w K mg base CX0 2 (f "_law_lists") g7 ["_law_lots_here", "_law_parts_here", "_law_number"] spLl) (B7 : Binds K g7 ["_law_lots_here", "_law_parts_here", "_law_number"] []) (k7 : PySem.W.keepIn K (.ref (f "_law_lists")) = true)
    (G8 : FnOk P w K mg base CX0 2 (f "_law_needed") g8 ["_law_lots_here", "_law_parts_here", "_law_number"] spLn) (B8 : Binds K g8 ["_law_lots_here", "_law_parts_here", "_law_number"] []) (k8 : PySem.W.keepIn K (.ref (f "_law_needed")) = true)
    (G9 : FnOk P w K mg base CX0 10 (f "all_lists") g9 ["table", "number"] (spAL K Pp Pq P8 Pt)) (B9 : Binds K g9 ["table", "number"] []) (k9 : PySem.W.keepIn K (.ref (f "all_lists")) = true) (KB9 : ∀ (s : Shared) (a b : Value), BindsTo s g9 ⟨[], [("number", a), ("table", b)]⟩ [("table", b), ("number", a)])
    (G10 : FnOk P w K mg base CX0 10 (f "needed") g10 ["table", "number"] (spNd K Pp P8 Pt)) (k10 : PySem.W.keepIn K (.ref (f "needed")) = true) (KB10 : ∀ (s : Shared) (a b : Value), BindsTo s g10 ⟨[], [("number", a), ("table", b)]⟩ [("table", b), ("number", a)])
    (G11 : FnOk P w K mg base CX0 1 (f "_law_joined") g11 ["_law_lots_here", "_law_numbers"] spLj) (B11 : Binds K g11 ["_law_lots_here", "_law_numbers"] []) (k11 : PySem.W.keepIn K (.ref (f "_law_joined")) = true)
    (G12 : FnOk P w K mg base CX0 10 (f "two_lists") g12 ["table"] (spTL K Pp Pq P8 Pt)) (B12 : Binds K g12 ["table"] []) (k12 : PySem.W.keepIn K (.ref (f "two_lists")) = true) (KB12 : ∀ (s : Shared) (ws : List Value), ws.length = 1 → BindsTo s g12 ⟨[], ([("table" : Str)] : List Str).zip ws⟩ ([("table" : Str)].zip ws))
    (G13 : FnOk P w K mg base CX0 10 (f "has_single_lists") g13 ["table"] (spHS K Ph Pp Pq P8 Pt)) (B13 : Binds K g13 ["table"] []) (k13 : PySem.W.keepIn K (.ref (f "has_single_lists")) = true) (KB13 : ∀ (s : Shared) (ws : List Value), ws.length = 1 → BindsTo s g13 ⟨[], ([("table" : Str)] : List Str).zip ws⟩ ([("table" : Str)].zip ws)) :
    FnG P w K mg base 11 a fd ["_law_pot_here"] (spLr Ph Pp Pq P8 Pt) := by
  refine okG F sc_lr (fun vs H Q E h => ?_) (fun cdv A outer s H vs Q hr hgd h => ?_)
  · obtain ⟨_, rfl, _⟩ := h
    rfl
  obtain ⟨p, rfl, hp, hh, hpp, hq, h8, h9, q⟩ := h
  have hu := hr.units
  refine ⟨_, pss_cons (ps_set (i := 1) sc_lr.nd rfl (Or.inl rfl) (pe_call G1 (hr.mono (by decide)) rfl (T.fn "_law_lots" (by decide)) k1 B1 .nil pass0 (pa_cons (pv 0) pa_nil)))
    (pss_cons (ps_par (i := 2) (j := 3) rfl sc_lr.nd rfl rfl (by decide) (by first | rfl | decide +kernel) (by first | rfl | decide +kernel) (pa_cons (pe_call G2 (hr.mono (by decide)) rfl (T.fn "_law_rows" (by decide)) k2 B2 .nil pass0 (pa_cons (pv 1) pa_nil)) (pa_cons (pe_call G3 (hr.mono (by decide)) rfl (T.fn "_law_parts" (by decide)) k3 B3 .nil pass0 (pa_cons (pv 1) pa_nil)) pa_nil)) (by rfl))
    (pss_cons (ps_set (i := 4) sc_lr.nd rfl (by first | exact Or.inl rfl | exact Or.inr rfl) (pe_ifExp (pt_cmpR op_eq (pe_call G4 (hr.mono (by decide)) rfl (T.fn "_law_draw" (by decide)) k4 B4 .nil pass0 (pa_cons (pv 0) (pa_cons pe_int pa_nil))) pe_int (nomark _))
        (pe_callTy (cr_tupOf (K := K) rfl) rfl (T.bl "tuple" (by decide)) bi_tuple (pa_cons (pe_lc (own := [("_law_row", 11)]) (g := gName 11) (tt := tYes) (te := tCB (rTupOf K) (tCons (tVar 11) tNil)) rfl sc_lr.nd (pi_list (pv 2)) (blkOk_by (by change blkC Nlr (defScope s__law_right) _ _ = true; decide +kernel)) (fun _ _ _ _ _ => pg_name (i := 11) sc_lr.nd rfl (Or.inl rfl)) (fun _ _ _ _ _ => pts_nil) (fun _ _ _ _ _ => ?tups)) pa_nil))
        (pv 2)))
    (pss_cons (ps_if (PW.pt (pw_or (pt_cmpR op_notBl (pe_call G5 (hr.mono (by decide)) rfl (T.fn "is_table" (by decide)) k5 B5 .nil pass0 (pa_cons (pv 4) pa_nil)) pe_bl (nomark _))
        (pw_or1 (pt_cmpR (op_neD hu) (pe_call G6 hr rfl (T.fn "table_parts" (by decide)) k6 B6 .nil pass0 (pa_cons (pv 4) pa_nil)) (pv 3) (nomark _))))) (pss_one (ps_ret pe_bl)) pss_nil)
    (pss_cons (ps_asg (pe_tup (pa_cons pe_non (pa_cons pe_bl pa_nil))) (pg_tup rfl (pgs_cons (pg_name (i := 5) sc_lr.nd rfl (by first | exact Or.inl rfl | exact Or.inr rfl)) (pgs_cons (pg_name (i := 6) sc_lr.nd rfl (by first | exact Or.inl rfl | exact Or.inr rfl)) pgs_nil))))
    (pss_cons (ps_for PassesOwn.never rfl (pi_range1 rfl (T.bl "range" (by decide)) (pa_cons (pe_callB (cr_len (K := K) rfl) rfl (T.bl "len" (by decide)) PySem.boot_len (pa_cons (pv 1) pa_nil)) pa_nil)) (pg_name (i := 7) sc_lr.nd rfl (by first | exact Or.inl rfl | exact Or.inr rfl))
      (pss_cons (ps_par (i := 8) (j := 9) rfl sc_lr.nd rfl rfl (by decide) (by first | rfl | decide +kernel) (by first | rfl | decide +kernel) (pa_cons (pe_call G7 (hr.mono (by decide)) rfl (T.fn "_law_lists" (by decide)) k7 B7 .nil pass0 (pa_cons (pv 1) (pa_cons (pv 3) (pa_cons (pv 7) pa_nil)))) (pa_cons (pe_call G8 (hr.mono (by decide)) rfl (T.fn "_law_needed" (by decide)) k8 B8 .nil pass0 (pa_cons (pv 1) (pa_cons (pv 3) (pa_cons (pv 7) pa_nil)))) pa_nil)) (by rfl))
      (pss_cons (ps_set (i := 10) sc_lr.nd rfl (by first | exact Or.inl rfl | exact Or.inr rfl) (pe_call G9 hr rfl (T.fn "all_lists" (by decide)) k9 B9 .nil pass0 (pa_cons (pv 4) (pa_cons (pv 7) pa_nil))))
      (pss_cons (ps_if (PW.pt (pw_or (pt_cmpR (op_neD hu) (pv 10) (pv 8) (nomark _)) (pw_or1 (pt_cmpR (op_neD hu) (pe_callK2 G10 hr rfl (T.fn "needed" (by decide)) k10 KB10 (pk_cons (pv 7) (pk_cons (pv 4) pk_nil))) (pv 9) (nomark _))))) (pss_one (ps_ret pe_bl)) pss_nil)
      (pss_cons (ps_if (pt_cmpR op_ne (pe_cmpR op_eq (pe_callB (cr_len (K := K) rfl) rfl (T.bl "len" (by decide)) PySem.boot_len (pa_cons (pv 8) pa_nil)) pe_int (nomark _)) (pe_cmpR op_eq (pe_call G11 (hr.mono (by decide)) rfl (T.fn "_law_joined" (by decide)) k11 B11 .nil pass0 (pa_cons (pv 1) (pa_cons (pv 9) pa_nil))) (pv 7) (nomark _)) (nomark _)) (pss_one (ps_ret pe_bl)) pss_nil)
      (pss_cons (ps_if (PW.pt (pw_and (pt_cmpR op_gt (pe_callB (cr_len (K := K) rfl) rfl (T.bl "len" (by decide)) PySem.boot_len (pa_cons (pv 8) pa_nil)) pe_int (nomark _)) (pw_and1 (pt_cmp (pc_isN (pv 5)))))) (pss_one (ps_par (i := 5) (j := 6) rfl sc_lr.nd rfl rfl (by decide) (by first | rfl | decide +kernel) (by first | rfl | decide +kernel) (pa_cons (pe_tup (pa_cons (pv 7) (pa_cons (pe_ix ix_list (pv 8) pe_int (fun _ _ => rfl)) (pa_cons (pe_ix ix_list (pv 8) pe_int (fun _ _ => rfl)) pa_nil)))) (pa_cons pe_bl pa_nil)) (by rfl))) pss_nil)
      (pss_cons (ps_expr (pe_bm PySem.F.plainAttrs_list PySem.F.slot_list_append PySem.F.type_list_append mt_append (pe_ix ix_list (pv 10) pe_int (fun _ _ => rfl)) (pa_cons pe_non pa_nil)))
      (pss_one (ps_if (PW.pt (pw_and (pt_cmpR op_eq (pv 7) (pe_op op_sub (pe_callB (cr_len (K := K) rfl) rfl (T.bl "len" (by decide)) PySem.boot_len (pa_cons (pv 1) pa_nil)) pe_int) (nomark _)) (pw_and1 (pt_cmpR (op_neD hu) (pe_callK2 G9 hr rfl (T.fn "all_lists" (by decide)) k9 KB9 (pk_cons (pv 7) (pk_cons (pv 2) pk_nil))) (pv 8) (nomark _))))) (pss_one (ps_ret pe_bl)) pss_nil)))))))))
    (pss_cons (ps_if (PW.pt (pw_or (pt_cmpR (op_neD hu) (pe_call G12 hr rfl (T.fn "two_lists" (by decide)) k12 B12 .nil pass0 (pa_cons (pv 4) pa_nil)) (pv 5) (nomark _))
        (pw_or1 (pt_cmpR op_ne (pe_callB (cr_repr hu hgd hsys) rfl (T.bl "repr" (by decide)) bi_repr (pa_cons (pe_call G13 hr rfl (T.fn "has_single_lists" (by decide)) k13 B13 .nil pass0 (pa_cons (pv 4) pa_nil)) pa_nil)) (pe_callB (cr_repr hu hgd hsys) rfl (T.bl "repr" (by decide)) bi_repr (pa_cons (pv 6) pa_nil)) (nomark _))))) (pss_one (ps_ret pe_bl)) pss_nil)
    (pss_one (ps_ret (pe_cmpR op_eq (pe_callB (cr_repr hu hgd hsys) rfl (T.bl "repr" (by decide)) bi_repr (pa_cons (pe_callK0 G13 hr rfl (T.fn "has_single_lists" (by decide)) k13 KB13 (pk_cons (pv 2) pk_nil)) pa_nil)) (pe_callB (cr_repr hu hgd hsys) rfl (T.bl "repr" (by decide)) bi_repr (pa_cons (pe_cmp (pc_isN (pe_callK0 G12 hr rfl (T.fn "two_lists" (by decide)) k12 KB12 (pk_cons (pv 2) pk_nil)))) pa_nil)) (nomark _)))))))))), ?_⟩
  case tups => exact pe_callTy (cr_tupOf (K := K) rfl) rfl (T.bl "tuple" (by decide)) bi_tuple (pa_cons (pv 11) pa_nil)
  refine ⟨_, rfl, p, rfl, hp, fun ts t H1 n1 n8 r16 cl nd hd0 ntp frt ht hp1 kd1 => ?_⟩
  have L : LotsN ts := ⟨⟨n1, n8, r16, cl, List.mem_of_mem_head? (by rw [hd0]; rfl)⟩, nd, hd0⟩
  obtain ⟨px, py, hpx, _⟩ := id hp1
  refine ⟨_, rfl, t, ts, p, _, rfl, hpx, ht, n1, n8, cl, fun rs l H2 ers lrs hrs rp fr kp2 => ⟨_, rfl, t, ts, rfl, kp2.lst ht, L.toLots, fun m H3 fzm hm kp3 => ⟨_, _, rfl, ?_⟩⟩⟩
  subst ers
  have hp2 := hp1.kp kp2
  have hp3 := hp2.kp kp3
  have rp3 : Rp K (del H3 p) (.ref l) (mat (rowsT ts)) := rp.kp (kp3.kd hp2.ntbl)
  have nm : m ≠ p := fun z => by
    obtain ⟨_, _, e, _⟩ := hp2
    obtain ⟨ps, e2⟩ := fzm.1 _ (by rw [z]; exact e)
    cases e2
  have kp13 := kp2.trans kp3
  have W3 : Lw K Ph Pp Pq P8 Pt t l m ts H3 := ⟨kp13.tab _ (tabG_kd hp kd1 hh), kp13.tab _ (tabG_kd hp kd1 hpp), kp13.tab _ (tabG_kd hp kd1 hq), kp13.tab _ (tabG_kd hp kd1 h8), kp13.tab _ (tabG_kd hp kd1 h9), kp13.lst ht, hm, rp3.kp (Kp.of del_sub)⟩
  refine ⟨_, rfl, p, 2, rfl, by decide, by decide, hp3, fun r H4 r0 r1 hp4 kd4 => ⟨rfl, _, rfl, ?_⟩⟩
  have W4 := W3.kd hp3 ntp nm rp3 kd4
  clear rp fr kp2 kp3 kp13 hp2 hp3 rp3 fzm hm ht hp1 kd1 hpx frt hh hpp hq h8 h9 hp kd4 W3
  refine branch (M := fun x H' => ∃ d, TabOf ts d ∧ Rp K H' x d ∧ Lw K Ph Pp Pq P8 Pt t l m ts H') ?_ ?_ ?_
  rotate_left
  · intro g
    obtain ⟨xl, hxl, rxl⟩ : ∃ xl, H4 l = some (.lst xl) ∧ RpL K H4 xl ((rowsT ts).map rowD) := by
      have := W4.rows
      cases this with
      | lst h r => exact ⟨_, h, r⟩
    have lxl : xl.length = ts.length := by rw [rxl.length, List.length_map]; exact lrs
    refine ⟨_, rfl, l, rfl, ⟨_, .inl (.inl hxl)⟩, fun D hD => ?_⟩
    refine lc_list (xs := xl) (fun i H' => Kp H4 H' ∧ ∃ bs : List (Addr × List Int), H' D = some (.lst (bs.map fun q => V.ref q.1)) ∧ bs.map Prod.snd = (rowsT ts).take i ∧ ∀ q ∈ bs, q.1 ≠ D ∧ H' q.1 = some (.tup (q.2.map V.int)))
      ⟨Kp.new hD, [], upd_same, rfl, fun q hq => by cases hq⟩ (fun i H' _ v => .inl (.inl (v.1.lst hxl))) ?_ ?_
    · rintro i v H5 hv ⟨k5, bs, hbs, sb, hb⟩
      have hi := (List.getElem?_eq_some_iff.mp hv).1
      obtain ⟨d, hd, rv⟩ := RpL.get rxl hv
      rw [List.getElem?_map] at hd
      obtain ⟨row, hrow, rfl⟩ := Option.map_eq_some_iff.mp hd
      have ⟨b, ys, ev, hb', ry⟩ : ∃ b ys, v = .ref b ∧ H4 b = some (.lst ys) ∧ RpL K H4 ys (row.map PyData.int) := by
        cases rv with
        | lst h r => exact ⟨_, _, rfl, h, r⟩
      subst ev
      have ey := rpl_ints ry
      subst ey
      have lbs : bs.length = min i (rowsT ts).length := by rw [← List.length_map (f := Prod.snd), sb, List.length_take]
      refine ⟨rfl, _, rfl, b, _, rfl, .inl ⟨.inl (.inl (k5.lst hb')), fun z hz => ?_⟩⟩
      have kz := Kp.new (o := .tup (row.map V.int)) hz
      have nzD : z ≠ D := fun e => by rw [e, hbs] at hz; cases hz
      refine ⟨_, kz.lst hbs, by rw [sizeLine_eq, List.length_map]; omega, (k5.trans kz).over hD, bs ++ [(z, row)], by rw [List.map_append]; exact upd_same, by rw [List.map_append, sb, List.take_add_one, hrow]; rfl, fun q hq => ?_⟩
      rcases List.mem_append.mp hq with h | h
      · exact ⟨(hb q h).1, by rw [upd_ne (hb q h).1]; exact kz.tup (hb q h).2⟩
      · rw [List.mem_singleton.mp h]
        exact ⟨nzD, by rw [upd_ne nzD]; exact upd_same⟩
    · rintro H5 ⟨k5, bs, hbs, sb, hb⟩
      refine ⟨D, _, rfl, .inl ⟨.inl (.inl hbs), fun z hz => g _ _ ⟨matT (rowsT ts), tab_matT L, ?_, W4.kp (k5.trans (Kp.new hz))⟩⟩⟩
      have e : (rowsT ts) = bs.map Prod.snd := by rw [sb, lxl, ← lrs, List.take_length]
      unfold matT
      rw [e]
      exact .tup upd_same (rplTT fun q hq => (Kp.new hz).tup (hb q hq).2)
  · intro g
    exact ⟨_, rfl, g _ _ ⟨_, tab_mat L, W4.rows, W4⟩⟩
  rintro x H5 ⟨d, TB, rx, W⟩
  clear W4 hp4
  have tl := Tbl.of rx TB
  refine ⟨_, rfl, x, d, rfl, rx, W.t8, W.t9, fun b H6 hb k6 => ?_⟩
  have eb : b = true := hb.mpr TB.ist
  subst eb
  have W6 := W.kp k6
  refine ⟨true, true, rfl, rfl, _, rfl, ite2 (fun c => absurd c (by simp)) (fun _ => ?_)⟩
  refine ⟨_, rfl, x, d, ts.length, rfl, tl.kp k6, TB.ist, W6.tp, W6.t8, W6.t9, fun pa H7 fz7 h7 k7 => ⟨_, rfl, ?_⟩⟩
  rw [parts_eq L TB.ce] at h7
  have W7 := W6.kp k7
  refine ne_same _ (dpI h7) (dpI W7.parts) (shI _) ⟨_, rfl, ite2 (fun c => absurd c (by simp)) (fun _ => ?_)⟩
  have rx7 := (rx.kp k6).kp k7
  clear W6 W rx tl k6 k7 h7 fz7 hb
  refine ⟨by show 2 ≤ sizeLine; decide, fun tu htu => ⟨tu, _, rfl, .inl (.inl upd_same), rfl, _, _, rfl, _, _, rfl, rfl, ?_⟩⟩
  obtain ⟨H8, e8, kk⟩ : ∃ H8, H8 = upd H7 tu (.tup [.non, .bl true]) ∧ Kp H7 H8 := ⟨_, rfl, Kp.new htu⟩
  rw [← e8]
  have W8 := W7.kp kk
  have rx8 := rx7.kp kk
  clear e8 kk W7 rx7 htu
  refine ⟨_, rfl, t, ts.map V.int, rfl, .inl (.inl (.inl W8.lots)), _, rfl, by omega, by rw [List.length_map]; omega, ?_⟩
  rw [show ((((ts.map V.int).length : Nat) : Int)).toNat = ts.length by rw [List.length_map]; omega]
  refine for_range (lo := 0) (n := ts.length) (fun i σ H' => Kp H8 H' ∧ ∃ (v5 : V) (o7 o8 o9 o10 : Option V), σ = [some (.ref p), some (.ref t), some (.ref l), some (.ref m), some x, some v5, some (.bl (decide (firstAt ts i = none))), o7, o8, o9, o10, none] ∧ Rp K H' v5 (firstD ts i))
    ⟨Kp.refl _, .non, none, none, none, none, by simp [firstAt_0]; rfl, by
      have : firstD ts 0 = .none := firstD_none.mpr firstAt_0
      rw [this]; exact .non⟩ ?_ ?_
  · rintro i σ H9 hi ⟨k9, v5, o7, o8, o9, o10, rfl, r5⟩
    have ei : (0 + (i : Int)) = (i : Int) := Int.zero_add _
    rw [ei]
    have hin : In ts.length (i : Int) := in_nat hi
    have W9 := W8.kp k9
    have lp : (partsT ts).length ≤ 8 := by have := partsT_len ts; omega
    refine ⟨_, rfl, _, rfl, _, rfl, t, m, ts, partsT ts, i, rfl, W9.lots, L.toLots, W9.parts, lp, hin, fun du bs H10 e10 h10 ll10 fz10 k10 => ?_⟩
    have W10 := W9.kp k10
    refine ⟨_, rfl, _, rfl, _, rfl, t, m, ts, partsT ts, i, rfl, W10.lots, L.toLots, W10.parts, lp, hin, fun so H11 fz11 h11 k11 => ⟨_, _, rfl, ?_⟩⟩
    have W11 := W10.kp k11
    have hdu := k11.lst h10
    have llb := ll10.kp k11
    have k911 := k10.trans k11
    have tl11 := ((Tbl.of rx8 TB).kp k9).kp k911
    have r511 := r5.kp k911
    refine ⟨_, rfl, _, rfl, x, d, ts.length, i, rfl, tl11, TB.ist, hin, W11.tp, W11.tq, W11.t8, W11.t9, fun tt cs H12 e12 h12 ll12 fz12 k12 => ?_⟩
    rw [lists_eq L TB.ce hin] at e12
    have W12 := W11.kp k12
    have lb : (lisN ts i).length = bs.length := by
      show (listsT ts (partsT ts) (i : Int)).length = _
      rw [← e10, List.length_map]
    have db12 : Dp K H12 (.ref du) (.list ((listsT ts (partsT ts) (i : Int)).map encL)) := by
      rw [← e10]; exact dpL (k12.lst hdu) (llb.kp k12)
    have dc12 : Dp K H12 (.ref tt) (.list ((listsT ts (partsT ts) (i : Int)).map encL)) := by
      rw [← e12]; exact dpL h12 ll12
    refine ⟨_, rfl, _, rfl, ne_same _ dc12 db12 (shLL _) ⟨_, rfl, ite2 (fun c => absurd c (by simp)) (fun _ => ?_)⟩⟩
    refine ⟨_, rfl, _, rfl, _, _, rfl, x, d, ts.length, i, rfl, tl11.kp k12, TB.ist, hin, W12.tp, W12.t8, W12.t9, fun nd' H13 fz13 h13 k13 => ⟨_, rfl, ?_⟩⟩
    rw [need_eq L TB.ce hin] at h13
    have W13 := W12.kp k13
    have k1113 := k12.trans k13
    refine ne_same _ (dpI h13) (dpI (k1113.lst h11)) (shI _) ⟨_, rfl, ite2 (fun c => absurd c (by simp)) (fun _ => ?_)⟩
    -- one list alone just when what is needed joins to it
    have nin : ∀ z ∈ needT ts (partsT ts) (i : Int), In ts.length z := fun z hz => belI_all z (need_bel z hz)
    refine ⟨_, rfl, du, _, rfl, .inl (.inl (.inl (k1113.lst hdu))), rfl, _, rfl, _, rfl, t, so, ts, needT ts (partsT ts) (i : Int), rfl, W13.lots, L.toLots, k1113.lst h11, nin, _, rfl, rfl, rfl, _, rfl, ?_⟩
    have same : decide (V.int (((bs.map fun q => V.ref q.1).length : Nat) : Int) = V.int 1) = decide (V.int (plc ts (orL ts (needT ts (partsT ts) (i : Int)))) = V.int (i : Int)) := by
      rw [dec_int', dec_int', decide_eq_decide, List.length_map, ← single_iff L hin]
      show _ ↔ (lisN ts i).length = 1
      rw [lb]; omega
    rw [same]
    refine ite2 (fun c => absurd c (by simp)) (fun _ => ?_)
    obtain ⟨c0, cr, ec⟩ : ∃ c0 cr, cs = c0 :: cr := by
      cases cs with
      | nil => exact absurd e12.symm (lists_ne L hin)
      | cons a b => exact ⟨_, _, rfl⟩
    have hc0 := ll12 c0 (by rw [ec]; simp)
    have fz0 : Fz H11 c0.1 := hc0.2
    have hc13 := k13.lst hc0.1
    have hd13 := k1113.lst hdu
    have c08 : c0.2.length ≤ 8 := by
      have h1 : c0.2 ∈ listsT ts (partsT ts) (i : Int) := by rw [← e12, ec]; simp
      have h2 := ((mem_lists L hin).mp h1).1.length_le
      have h3 : (someT ts (partsT ts) (i : Int)).length ≤ (partsT ts).length := List.length_filter_le _ _
      omega
    refine nx_of ?_
    refine cutS (M := fun σ' H' => ∃ v5', σ' = [some (.ref p), some (.ref t), some (.ref l), some (.ref m), some x, some v5', some (.bl (decide (firstAt ts (i + 1) = none))), some (.int i), some (.ref du), some (.ref so), some (.ref tt), none] ∧ Kp H13 H' ∧ ∀ o, Rp K (upd H' c0.1 o) v5' (firstD ts (i + 1))) ?_ ?_
    rotate_left
    · intro g
      have skip : firstAt ts (i + 1) = firstAt ts i → ∃ v5', ([some (.ref p), some (.ref t), some (.ref l), some (.ref m), some x, some v5, some (.bl (decide (firstAt ts i = none))), some (.int i), some (.ref du), some (.ref so), some (.ref tt), none] : L2.St) = [some (.ref p), some (.ref t), some (.ref l), some (.ref m), some x, some v5', some (.bl (decide (firstAt ts (i + 1) = none))), some (.int i), some (.ref du), some (.ref so), some (.ref tt), none] ∧ Kp H13 H13 ∧ ∀ o, Rp K (upd H13 c0.1 o) v5' (firstD ts (i + 1)) := fun e => by
        rw [e, firstD_same e]
        exact ⟨v5, rfl, Kp.refl _, fun o => r511.kp (k1113.overz fz0)⟩
      refine ⟨_, rfl, du, _, rfl, .inl (.inl (.inl hd13)), _, _, rfl, rfl, _, rfl, ?_⟩
      rw [List.length_map]
      refine ite2 (fun c => ?_) (fun c => ?_)
      · have c1 : (1 : Int) < ((bs.length : Nat) : Int) := of_decide_eq_true c
        refine ⟨v5, rfl, _, rfl, ite2 (fun c2 => ?_) (fun c2 => ?_)⟩
        · have n5 : firstAt ts i = none := (rp_non r5).mp (of_decide_eq_true c2)
          have nw := firstAt_new n5 (by rw [lb]; omega)
          match bs, e10, hd13, llb, c1 with
          | [], _, _, _, c1 => exact absurd c1 (by decide)
          | [_], _, _, _, c1 => exact absurd c1 (by simp)
          | b0 :: b1 :: br, e10, hd13, llb, _ =>
            refine ⟨_, rfl, _, rfl, du, _, _, .ref b0.1, rfl, rfl, .inl (.inl hd13), at_zero _ _, _, rfl, du, _, _, .ref b1.1, rfl, rfl, .inl (.inl hd13), at_one _ _ _, by show 3 ≤ sizeLine; decide, fun z hz => ⟨_, _, rfl, g _ _ ⟨.ref z, by rw [nw]; rfl, Kp.new hz, fun o => ?_⟩⟩⟩
            have nz : z ≠ c0.1 := fun y => by rw [y, hc13] at hz; cases hz
            have nb : ∀ b ∈ b0 :: b1 :: br, b.1 ≠ c0.1 := fun b hb y => by
              obtain ⟨ps, e⟩ := fz0.1 _ (by rw [← y]; exact (llb b hb).1)
              cases e
            have kz := Kp.new (o := .tup [.int i, .ref b0.1, .ref b1.1]) hz
            have rb : ∀ b ∈ b0 :: b1 :: br, Rp K (upd (upd H13 z (.tup [.int i, .ref b0.1, .ref b1.1])) c0.1 o) (.ref b.1) (encL b.2) := fun b hb =>
              .lst (by rw [upd_ne (nb b hb)]; exact kz.lst (k1113.lst (llb b hb).1)) (RpL.ints _)
            have ed : firstD ts (i + 1) = .tuple [.int (i : Int), encL b0.2, encL b1.2] := by
              have e : lisN ts i = b0.2 :: b1.2 :: br.map Prod.snd := e10.symm
              unfold firstD
              rw [nw]
              show PyData.tuple [_, encL ((lisN ts i).getD 0 []), encL ((lisN ts i).getD 1 [])] = _
              rw [e]; rfl
            rw [ed]
            exact .tup (by rw [upd_ne nz]; exact upd_same) (.cons (.int _) (.cons (rb b0 (by simp)) (.cons (rb b1 (by simp)) .nil)))
        · refine g _ _ (skip ?_)
          cases h : firstAt ts i with
          | none => exact absurd (decide_eq_true ((rp_non r5).mpr h)) c2
          | some j => exact firstAt_old h
      · refine g _ _ (skip ?_)
        cases h : firstAt ts i with
        | none => exact firstAt_none h (by
            rw [lb]
            have : ¬ (1 : Int) < ((bs.length : Nat) : Int) := of_decide_eq_false (Bool.eq_false_iff.mpr c)
            omega)
        | some j => exact firstAt_old h
    · rintro σ' H14 ⟨v5', rfl, k14, r5'⟩
      have h14 := (k13.trans k14).lst h12
      rw [ec] at h14
      have hc14 := k14.lst hc13
      refine ⟨_, rfl, tt, _, _, .ref c0.1, rfl, rfl, .inl (.inl h14), at_zero _ _, .inl ⟨rfl, _, .inl (.inl hc14)⟩, c0.1, _, _, rfl, rfl, hc14, by rw [sizeLine_eq, List.length_map]; omega, ?_⟩
      have r515 := r5' (.lst (c0.2.map V.int ++ [.non]))
      have k1115 : Kp H11 (upd H14 c0.1 (.lst (c0.2.map V.int ++ [.non]))) := (k1113.trans k14).overz fz0
      generalize upd H14 c0.1 (.lst (c0.2.map V.int ++ [.non])) = H15 at r515 k1115
      have W15 := W11.kp k1115
      have k915 := k9.trans (k911.trans k1115)
      refine ⟨_, rfl, _, rfl, t, _, rfl, .inl (.inl (.inl W15.lots)), _, _, rfl, rfl, rfl, _, rfl, ite2 (fun c => ?_) (fun c => ⟨k915, v5', _, _, _, _, rfl, r515⟩)⟩
      refine ⟨_, rfl, _, rfl, _, _, rfl, .ref l, mat (rowsT ts), ts.length, i, rfl, Tbl.of W15.rows (tab_mat L), (tab_mat L).ist, hin, W15.tp, W15.tq, W15.t8, W15.t9, fun t2 cs2 H16 e16 h16 ll16 fz16 k16 => ⟨_, rfl, ?_⟩⟩
      rw [lists_eq L (tab_mat L).ce hin] at e16
      have dc16 : Dp K H16 (.ref t2) (.list ((listsT ts (partsT ts) (i : Int)).map encL)) := by
        rw [← e16]; exact dpL h16 ll16
      have db16 : Dp K H16 (.ref du) (.list ((listsT ts (partsT ts) (i : Int)).map encL)) := by
        rw [← e10]; exact dpL ((k1115.trans k16).lst hdu) (llb.kp (k1115.trans k16))
      exact ne_same _ dc16 db16 (shLL _) ⟨_, rfl, ite2 (fun c => absurd c (by simp)) (fun _ => ⟨k915.trans k16, v5', _, _, _, _, rfl, r515.kp k16⟩)⟩
  · rintro σ H9 ⟨k9, v5, o7, o8, o9, o10, rfl, r5⟩
    have W9 := W8.kp k9
    have tl9 := (Tbl.of rx8 TB).kp k9
    have bz : ∀ b : Bool, (PyData.bool b).shown.length ≤ sizeLine := fun b => by rw [sizeLine_eq]; cases b <;> exact Nat.le_trans (show _ ≤ 10 by decide +kernel) (by decide)
    have lay := fun k => lay_of (shaped_first (ts := ts) (k := k))
    refine ⟨_, rfl, x, d, ts.length, rfl, tl9, TB.ist, W9.tp, W9.tq, W9.t8, W9.t9, fun v e H10 rv two k10 => ⟨_, rfl, ?_⟩⟩
    have ee := two_eq L TB.ce two
    subst ee
    have W10 := W9.kp k10
    refine ne_same _ (Rp.dp _ _ rv (lay _)) (Rp.dp _ _ (r5.kp k10) (lay _)) shaped_first ⟨_, rfl, ite2 (fun c => absurd c (by simp)) (fun _ => ?_)⟩
    refine ⟨_, rfl, x, d, ts.length, rfl, tl9.kp k10, TB.ist, W10.th, W10.tp, W10.tq, W10.t8, W10.t9, fun b H11 hb k11 => ?_⟩
    have eb : b = decide (firstAt ts ts.length = none) := by
      rw [Bool.eq_iff_iff, hb, single_none L TB.ce, decide_eq_true_iff]
    subst eb
    have W11 := W10.kp k11
    refine ⟨.bl _, .bool _, rfl, .bl _, rfl, Nat.zero_le _, bz _, _, rfl, .bl _, .bool _, rfl, .bl _, rfl, Nat.zero_le _, bz _, rfl, _, rfl, ite2 (fun c => absurd c (by simp)) (fun _ => ?_)⟩
    refine ⟨_, rfl, .ref l, mat (rowsT ts), ts.length, rfl, Tbl.of W11.rows (tab_mat L), (tab_mat L).ist, W11.th, W11.tp, W11.tq, W11.t8, W11.t9, fun b H12 hb2 k12 => ?_⟩
    have eb : b = decide (firstAt ts ts.length = none) := by
      rw [Bool.eq_iff_iff, hb2, single_none L (tab_mat L).ce, decide_eq_true_iff]
    subst eb
    have W12 := W11.kp k12
    refine ⟨.bl _, .bool _, rfl, .bl _, rfl, Nat.zero_le _, bz _, ?_⟩
    refine ⟨_, rfl, .ref l, mat (rowsT ts), ts.length, rfl, Tbl.of W12.rows (tab_mat L), (tab_mat L).ist, W12.tp, W12.tq, W12.t8, W12.t9, fun v2 e2 H13 rv2 two2 k13 => ?_⟩
    have ee2 := two_eq L (tab_mat L).ce two2
    subst ee2
    have ev : decide (v2 = .non) = decide (firstAt ts ts.length = none) := by
      rw [decide_eq_decide]
      exact rp_non rv2
    refine ⟨.bl _, .bool _, rfl, .bl _, rfl, Nat.zero_le _, bz _, rfl, ?_⟩
    rw [ev, decide_eq_true rfl]
    exact q _
end
end Tb

namespace Tb
open PySem PySem.Spec PyProof.Rows L2
/-! ### the end: the law's def is called, nothing tracked but its script and two tables -/
section
variable {K : PySem.W.Frag} {tb : List Addr} {a : Addr} {ob : Obj} {xs : List V}
open Classical in
/-- what is tracked at the start -/
noncomputable def st0 (K : PySem.W.Frag) (tb : List Addr) (a : Addr) (ob : Obj) (xs : List V) : Hp := fun b => if b ∈ tb then some (.tbl #[]) else if b = a ∧ K.lookup a = none then some (.frz ob (.lst xs)) else none
theorem st0_tab {b : Addr} (h : b ∈ tb) : st0 K tb a ob xs b = some (.tbl #[]) := if_pos h
theorem st0_by {b : Addr} {u : HO} (h : st0 K tb a ob xs b = some u) : (b ∈ tb ∧ u = .tbl #[]) ∨ (b = a ∧ K.lookup a = none ∧ u = .frz ob (.lst xs)) := by
  unfold st0 at h
  split at h
  · exact .inl ⟨by assumption, (Option.some.inj h).symm⟩
  · split at h
    · rename_i z
      exact .inr ⟨z.1, z.2, (Option.some.inj h).symm⟩
    · cases h
theorem st0_un {b : Addr} (h : st0 K tb a ob xs b = none) : b ∉ tb ∧ ¬ (b = a ∧ K.lookup a = none) := by
  unfold st0 at h
  split at h
  · cases h
  · split at h
    · cases h
    · exact ⟨by assumption, by assumption⟩
theorem un_of {b : Addr} (h : ∀ u, st0 K tb a ob xs b ≠ some u) : st0 K tb a ob xs b = none := by
  cases q : st0 K tb a ob xs b with
  | none => rfl
  | some u => exact absurd q (h u)
end
section
variable {P : Program} {w : World} {K : PySem.W.Frag} {mg mb : Str → Option Value} {k : Nat} {fa a : Addr} {cs : List (Addr × Addr)} {fd : FuncData} {x : Str} {sp : Sp} {s : Shared} {us : List Value} {ns : List Int}
theorem law_end (X : K.In s.heap) (gl : s.heap.Ns mainGlobals mg) (bl : s.heap.Ns builtinsNs mb) (blb : ∀ y : Str, y ≠ "__name__" → mb y = bootBuiltins y) (nl : s.heap.NoLimit) (ge : s.gens = #[]) (sm : ∃ mm, s.heap.Ns sysModules mm)
    (tT : ∀ q ∈ cs, s.heap.get? q.2 = some { cls := .none, data := .fields #[] }) (tK : ∀ q ∈ cs, K.lookup q.2 = none) (tC : ∀ q ∈ cs, PySem.W.CodeHd s.heap q.1 q.2)
    (bm : ∃ (m : Addr) (o : Obj), mg "__builtins__" = some (.ref m) ∧ m ≠ builtinsNs ∧ s.heap.get? m = some o ∧ o.cls = .type "module" ∧ o.dict = some builtinsNs ∧ o.data = .plain)
    (oa : s.heap.get? a = some { cls := .type "list", data := .seq us.toArray }) (ia : IntsAre us ns) (la : ns.length ≤ sizeLine) (rm : Room k callerA) (gd : callerA.guards = some [])
    (F : ∀ base : Heap, K.In base → base.Ns mainGlobals mg → (∃ o, base.get? sysModules = some o) → (∀ q ∈ cs, GxR.TabB base mg q.1 q.2) → FnG P w K mg base k fa fd [x] sp) (bd : ∀ (s : Shared) (u : Value), BindsTo s fd ⟨[u], []⟩ [(x, u)])
    (asks : ∀ H : Hp, (∀ q ∈ cs, H q.2 = some (.tbl #[])) → SqL K H a (ns.map V.int) → sp [.ref a] H (fun v _ => v = .bl true) E0) :
    codeAny (model P w) callerA (.call (.ref fa) ⟨[.ref a], []⟩) (fun r s' => r = .ok (.ret (.bool true)) ∧ OldK s.heap s'.heap ∧ s'.os = s.os ∧ AllBare s'.gens) s := by
  have tabs : ∀ b ∈ cs.map Prod.snd, s.heap.get? b = some { cls := .none, data := .fields #[] } := fun b hb => by
    obtain ⟨q, hq, rfl⟩ := List.mem_map.mp hb
    exact tT q hq
  have inT : ∀ q ∈ cs, q.2 ∈ cs.map Prod.snd := fun q hq => List.mem_map_of_mem hq
  generalize hG : st0 K (cs.map Prod.snd) a { cls := .type "list", data := .seq us.toArray } (ns.map V.int) = G
  have Gby : ∀ {b : Addr} {u : HO}, G b = some u → (b ∈ cs.map Prod.snd ∧ u = .tbl #[]) ∨ (b = a ∧ K.lookup a = none ∧ u = .frz { cls := .type "list", data := .seq us.toArray } (.lst (ns.map V.int))) := fun {b u} e => by
    rw [← hG] at e
    exact st0_by e
  have Gtab : ∀ q ∈ cs, G q.2 = some (.tbl #[]) := fun q hq => by
    rw [← hG]
    exact st0_tab (inT q hq)
  -- what is neither a list nor a table isn't tracked
  have hid : ∀ {b : Addr} {o : Obj}, s.heap.get? b = some o → (∀ vs m, o.data ≠ .seq vs m) → o.data ≠ .fields #[] → G b = none := fun {b o} e n1 n2 => by
    cases q : G b with
    | none => rfl
    | some u =>
      rcases Gby q with ⟨z, _⟩ | ⟨z, _⟩
      · rw [tabs b z] at e
        exact absurd (congrArg Obj.data (Option.some.inj e)).symm n2
      · rw [z, oa] at e
        exact absurd (congrArg Obj.data (Option.some.inj e)).symm (n1 _ _)
  have space : ∀ {b : Addr} {m : Str → Option Value}, s.heap.Ns b m → (hidT s.heap G).Ns b m := fun {b m} n => by
    obtain ⟨o, es, ep, e, d, r⟩ := n
    exact ⟨o, es, ep, hidT_get e (hid e (fun vs n z => by rw [d] at z; cases z) fun z => by rw [d] at z; cases z), d, r⟩
  have Xb : K.In (hidT s.heap G) := fun b o e => by
    refine hidT_get (X b o e) ?_
    cases q : G b with
    | none => rfl
    | some u =>
      rcases Gby q with ⟨z, _⟩ | ⟨z, z2, _⟩
      · obtain ⟨y, hy, ey⟩ := List.mem_map.mp z
        rw [← ey, tK y hy] at e; cases e
      · rw [z, z2] at e; cases e
  have fx : ∀ {b : Addr} {o : Obj} {vs : Array Value}, s.heap.get? b = some o → o.data = .fields vs → vs ≠ #[] → (hidT s.heap G).get? b = some o := fun {b o vs} e d n =>
    hidT_get e (hid e (fun vs n z => by rw [d] at z; cases z) fun z => n (by rw [d] at z; exact Data.fields.inj z))
  have TB : ∀ q ∈ cs, GxR.TabB (hidT s.heap G) mg q.1 q.2 := fun q hq => by
    have hT := tT q hq
    obtain ⟨m, o, m1, m2, m3, m4, m5, m6⟩ := bm
    refine ⟨?_, ⟨m, o, m1, m2, fun z => ?_, fun z => ?_, ?_, m4, m5, m6⟩, fun z => ?_⟩
    · obtain ⟨oc, vs, file, tf, fl, tg, inF, text, tt, c1, c2, c3, c4, c5⟩ := tC q hq
      exact ⟨oc, vs, file, tf, fl, tg, inF, text, tt, fx c1 c3 (fun z => by rw [z] at c4; simp at c4), c2, c3, c4, c5⟩
    · obtain ⟨o', _, _, e, d, _⟩ := gl
      rw [z, e] at m3
      rw [Option.some.inj m3, m6] at d
      cases d
    · rw [z, hT] at m3
      have := Option.some.inj m3
      rw [← this] at m6
      cases m6
    · exact hidT_get m3 (hid m3 (fun vs n z => by rw [m6] at z; cases z) fun z => by rw [m6] at z; cases z)
    · obtain ⟨o', _, _, e, d, _⟩ := gl
      rw [z, hT] at e
      rw [← Option.some.inj e] at d
      cases d
  have sq : SqL K G a (ns.map V.int) := by
    have aT : a ∉ cs.map Prod.snd := fun z => by
      have := tabs a z
      rw [oa] at this
      have := congrArg Obj.data (Option.some.inj this)
      cases this
    cases q : K.lookup a with
    | none =>
      refine .inl (.inr ⟨{ cls := .type "list", data := .seq us.toArray }, ?_⟩)
      rw [← hG]
      unfold st0
      rw [if_neg aT, if_pos ⟨rfl, q⟩]
    | some o =>
      have e := X a o q
      rw [oa] at e
      cases e
      exact .inr ⟨_, us.toArray, _, q, rfl, rfl, rfl, by rw [List.size_toArray, ia.length]; exact la, by simpa using vals_ints ia⟩
  have ok : HOk P w G s.heap := fun b u e => by
    rcases Gby e with ⟨z, rfl⟩ | ⟨rfl, _, rfl⟩
    · exact tabs b z
    · exact ⟨oa, by rw [List.length_map]; exact la, us, _, vals_ints ia, oa⟩
  have e0 : Env0 P w K mg (hidT s.heap G) callerA [] s G :=
    ⟨rfl, ⟨Xb, space gl, ⟨mb, space bl, blb⟩, by obtain ⟨mc, n1, n2⟩ := nl; exact ⟨mc, space n1, n2⟩⟩, fun b o e => of_hidT e, by rw [hidT_size]; exact Nat.le_refl _, trivial, (fun b hb => by cases hb), ok, .of_eq ge⟩
  have smo : ∃ o, (hidT s.heap G).get? sysModules = some o := by
    obtain ⟨mm, n⟩ := sm
    obtain ⟨o, _, _, e, _⟩ := space n
    exact ⟨o, e⟩
  refine codeAny_mono ((F _ Xb (space gl) smo TB).run callerA [] s G ⟨[.ref a], []⟩ [.ref a] [.ref a] _ rm gd e0 (bd s (.ref a)) (.cons rfl .nil) (asks G Gtab sq)) fun r s' h => ?_
  match r, h with
  | .ok (.ret u), h =>
    obtain ⟨v, G', h1, h2, un, ok', rv, hv⟩ := h
    have hv' : v = .bl true := hv
    rw [hv'] at rv
    have eu : u = Value.bool true := rv
    rw [eu]
    have stays : ∀ b o, b ∉ cs.map Prod.snd → s.heap.get? b = some o → s'.heap.get? b = some o := fun b o nb e => by
      cases q : G b with
      | none => exact un.keep b o e q (fun z => by cases z) (fun z => by cases z)
      | some y =>
        rcases Gby q with ⟨z, _⟩ | ⟨rfl, _, rfl⟩
        · exact absurd z nb
        · obtain ⟨e2, _⟩ := ok' _ _ (un.frzs _ _ _ q)
          rw [oa] at e
          rw [e2]; exact e
    have more : ∀ b ∈ cs.map Prod.snd, ∃ (o : Array Value) (q : Addr × Addr), q ∈ cs ∧ q.2 = b ∧ s'.heap.get? b = some { cls := .none, data := .fields o } := fun b hb => by
      obtain ⟨q, hq, rfl⟩ := List.mem_map.mp hb
      obtain ⟨mo, z⟩ := un.tbls q.2 #[] (Gtab q hq)
      exact ⟨_, q, hq, rfl, ok' _ _ z⟩
    refine ⟨rfl, ⟨fun b o e => ?_, fun b o e => ?_⟩, h1, h2⟩
    · by_cases hb : b ∈ cs.map Prod.snd
      · obtain ⟨mo, q, hq, rfl, z⟩ := more b hb
        have eo := tT q hq
        rw [eo] at e
        rw [← Option.some.inj e]
        exact .inr (.inl ⟨((tC q hq).tab eo).isCodeTable, rfl, #[], mo, rfl, by rw [Array.empty_append]; exact z⟩)
      · exact .inl (stays b o hb e)
    · by_cases hb : b ∈ cs.map Prod.snd
      · obtain ⟨mo, q, hq, rfl, z⟩ := more b hb
        exact ⟨_, z⟩
      · exact ⟨o, stays b o hb e⟩
  | .ok .next, h => exact h.elim
  | .ok .brk, h => exact h.elim
  | .ok .cont, h => exact h.elim
  | .error e, h => exact h.elim
end
end Tb

namespace Tb
open PySem PySem.Spec PyProof.Rows L2
section
variable {P : Program} {w : World} {K : PySem.W.Frag} {mg : Str → Option Value} {base : Heap} {f : String → Addr} {a Pt P8 Pp Pq Ph : Addr} {fd g1 g2 : FuncData}
def spLaw (K : PySem.W.Frag) (Ph Pp Pq P8 P9 : Addr) : Sp := fun vs H Q _ => ∃ (l : Addr) (ns : List Int), vs = [.ref l] ∧ SqL K H l (ns.map V.int) ∧ GxR.TabG H Ph ∧ GxR.TabG H Pp ∧ GxR.TabG H Pq ∧ GxR.TabG H P8 ∧ GxR.TabG H P9 ∧ ∀ H', Q (.bl true) H'
theorem sc_law : FnScope ["_law_script"] ["_law_script"] (defScope s_law) := ⟨rfl, rfl, rfl, by decide +kernel, rfl, by decide +kernel, by decide +kernel⟩
theorem ok_law (T : Tx mg f) (F : Fun K "law" "law" s_law a fd) (G12 : FnOk P w K mg base CX0 1 (f "_law_pot") g1 ["_law_script", "_law_k"] (spPot K)) (B12 : Binds K g1 ["_law_script", "_law_k"] []) (kp12 : PySem.W.keepIn K (.ref (f "_law_pot")) = true)
    (G23 : FnG P w K mg base 11 (f "_law_right") g2 ["_law_pot_here"] (spLr Ph Pp Pq P8 Pt)) (B23 : Binds K g2 ["_law_pot_here"] []) (kp23 : PySem.W.keepIn K (.ref (f "_law_right")) = true) : FnG P w K mg base 12 a fd ["_law_script"] (spLaw K Ph Pp Pq P8 Pt) := by
  refine okG F sc_law (fun vs H Q E h => ?_) (fun cdv A outer s H vs Q hr hgd h => ?_)
  · obtain ⟨_, _, rfl, _⟩ := h
    rfl
  obtain ⟨l, ns, rfl, hl, hh, hp, hq, h8, h9, q⟩ := h
  refine ⟨_, pss_one (ps_ret (Tb.pe_callG G23 hr hgd rfl (T.fn "_law_right" (by decide)) kp23 B23 (pa_cons (pe_call G12 (hr.mono (by decide)) rfl (T.fn "_law_pot" (by decide)) kp12 B12 .nil pass0 (pa_cons (pv 0) (pa_cons pe_int pa_nil))) pa_nil))), ?_⟩
  exact ⟨_, rfl, l, ns, rfl, hl, fun p H' _ pot k => ⟨p, rfl, pot, k.tab _ hh, k.tab _ hp, k.tab _ hq, k.tab _ h8, k.tab _ h9, q⟩⟩
end
end Tb

namespace Tb
open PySem PySem.Spec PyProof.Rows L2
def fOf (mg : Str → Option Value) (n : String) : Addr := match mg (Str.ofString n) with
  | some (.ref b) => b
  | _ => 0
theorem fOf_eq {mg : Str → Option Value} {n : String} {b : Addr} (h : mg (Str.ofString n) = some (.ref b)) : fOf mg n = b := by
  unfold fOf
  rw [h]
theorem said {P q : Program} {loose : List Str} {XP : (Str → Option Value) → Heap → Prop} {w : World} {s0 s : Shared} {mg mb : Str → Option Value} {K : PySem.W.Frag} {fa a : Addr} {us : List Value} {ns : List Int} {d20 d19 d27 d30 d15 : DefRec} {c20 T20 c19 T19 c27 T27 c30 T30 c15 T15 : Addr} {tm : Tok}
    {f1 : Addr} {od1 an1 : Option Addr} {sl1 : Array (Option Value)} {oc1 kV1 dc1 pm1 cd1 ct1 : Value}
    {f2 : Addr} {od2 an2 : Option Addr} {sl2 : Array (Option Value)} {oc2 kV2 dc2 pm2 cd2 ct2 : Value}
    {f3 : Addr} {od3 an3 : Option Addr} {sl3 : Array (Option Value)} {oc3 kV3 dc3 pm3 cd3 ct3 : Value}
    {f4 : Addr} {od4 an4 : Option Addr} {sl4 : Array (Option Value)} {oc4 kV4 dc4 pm4 cd4 ct4 : Value}
    {f11 : Addr} {od11 an11 : Option Addr} {sl11 : Array (Option Value)} {oc11 kV11 dc11 pm11 cd11 ct11 : Value}
    {f12 : Addr} {od12 an12 : Option Addr} {sl12 : Array (Option Value)} {oc12 kV12 dc12 pm12 cd12 ct12 : Value}
    {f13 : Addr} {od13 an13 : Option Addr} {sl13 : Array (Option Value)} {oc13 kV13 dc13 pm13 cd13 ct13 : Value}
    {f14 : Addr} {od14 an14 : Option Addr} {sl14 : Array (Option Value)} {oc14 kV14 dc14 pm14 cd14 ct14 : Value}
    {f15 : Addr} {od15 an15 : Option Addr} {sl15 : Array (Option Value)} {oc15 kV15 dc15 pm15 ct15 : Value}
    {f16 : Addr} {od16 an16 : Option Addr} {sl16 : Array (Option Value)} {oc16 kV16 dc16 pm16 cd16 ct16 : Value}
    {f17 : Addr} {od17 an17 : Option Addr} {sl17 : Array (Option Value)} {oc17 kV17 dc17 pm17 cd17 ct17 : Value}
    {f18 : Addr} {od18 an18 : Option Addr} {sl18 : Array (Option Value)} {oc18 kV18 dc18 pm18 cd18 ct18 : Value}
    {f19 : Addr} {od19 an19 : Option Addr} {sl19 : Array (Option Value)} {oc19 kV19 dc19 pm19 ct19 : Value}
    {f20 : Addr} {od20 an20 : Option Addr} {sl20 : Array (Option Value)} {oc20 kV20 dc20 pm20 ct20 : Value}
    {f21 : Addr} {od21 an21 : Option Addr} {sl21 : Array (Option Value)} {oc21 kV21 dc21 pm21 cd21 ct21 : Value}
    {f22 : Addr} {od22 an22 : Option Addr} {sl22 : Array (Option Value)} {oc22 kV22 dc22 pm22 cd22 ct22 : Value}
    {f23 : Addr} {od23 an23 : Option Addr} {sl23 : Array (Option Value)} {oc23 kV23 dc23 pm23 cd23 ct23 : Value}
    {f24 : Addr} {od24 an24 : Option Addr} {sl24 : Array (Option Value)} {oc24 kV24 dc24 pm24 cd24 ct24 : Value}
    {f25 : Addr} {od25 an25 : Option Addr} {sl25 : Array (Option Value)} {oc25 kV25 dc25 pm25 cd25 ct25 : Value}
    {f26 : Addr} {od26 an26 : Option Addr} {sl26 : Array (Option Value)} {oc26 kV26 dc26 pm26 cd26 ct26 : Value}
    {f27 : Addr} {od27 an27 : Option Addr} {sl27 : Array (Option Value)} {oc27 kV27 dc27 pm27 ct27 : Value}
    {f28 : Addr} {od28 an28 : Option Addr} {sl28 : Array (Option Value)} {oc28 kV28 dc28 pm28 cd28 ct28 : Value}
    {f29 : Addr} {od29 an29 : Option Addr} {sl29 : Array (Option Value)} {oc29 kV29 dc29 pm29 cd29 ct29 : Value}
    {f30 : Addr} {od30 an30 : Option Addr} {sl30 : Array (Option Value)} {oc30 kV30 dc30 pm30 ct30 : Value}
    {f31 : Addr} {od31 an31 : Option Addr} {sl31 : Array (Option Value)} {oc31 kV31 dc31 pm31 cd31 ct31 : Value}
    {f33 : Addr} {od33 an33 : Option Addr} {sl33 : Array (Option Value)} {oc33 kV33 dc33 pm33 cd33 ct33 : Value}
    {f34 : Addr} {od34 an34 : Option Addr} {sl34 : Array (Option Value)} {oc34 kV34 dc34 pm34 cd34 ct34 : Value}
    {f35 : Addr} {od35 an35 : Option Addr} {sl35 : Array (Option Value)} {oc35 kV35 dc35 pm35 cd35 ct35 : Value}
    {f36 : Addr} {od36 an36 : Option Addr} {sl36 : Array (Option Value)} {oc36 kV36 dc36 pm36 cd36 ct36 : Value}
    {f37 : Addr} {od37 an37 : Option Addr} {sl37 : Array (Option Value)} {oc37 kV37 dc37 pm37 cd37 ct37 : Value}
    {f38 : Addr} {od38 an38 : Option Addr} {sl38 : Array (Option Value)} {oc38 kV38 dc38 pm38 cd38 ct38 : Value}
    {f39 : Addr} {od39 an39 : Option Addr} {sl39 : Array (Option Value)} {oc39 kV39 dc39 pm39 cd39 ct39 : Value}
    {f40 : Addr} {od40 an40 : Option Addr} {sl40 : Array (Option Value)} {oc40 kV40 dc40 pm40 cd40 ct40 : Value}
    {f41 : Addr} {od41 an41 : Option Addr} {sl41 : Array (Option Value)} {oc41 kV41 dc41 pm41 cd41 ct41 : Value}
    {f42 : Addr} {od42 an42 : Option Addr} {sl42 : Array (Option Value)} {oc42 kV42 dc42 pm42 cd42 ct42 : Value}
    {f43 : Addr} {od43 an43 : Option Addr} {sl43 : Array (Option Value)} {oc43 kV43 dc43 pm43 cd43 ct43 : Value}
    {f44 : Addr} {od44 an44 : Option Addr} {sl44 : Array (Option Value)} {oc44 kV44 dc44 pm44 cd44 ct44 : Value}
    (G : PySem.W.Ground q loose [] XP w s0 mg mb s.heap) (X : K.In s.heap) (hmg : mg "law" = some (.ref fa)) (imp : importsNone q = true) (ge : s.gens = #[])
    (oa : s.heap.get? a = some { cls := .type "list", data := .seq us.toArray }) (ia : IntsAre us ns) (la : ns.length ≤ 63)
    (r20 : (recsOf q).find? (fun e => e.name == ("is_row" : Str)) = some d20) (t20 : PySem.W.tabIn K "is_row" = some (c20, T20)) (n20 : K.lookup T20 = none)
    (r19 : (recsOf q).find? (fun e => e.name == ("has_table_form" : Str)) = some d19) (t19 : PySem.W.tabIn K "has_table_form" = some (c19, T19)) (n19 : K.lookup T19 = none)
    (r27 : (recsOf q).find? (fun e => e.name == ("is_part_in" : Str)) = some d27) (t27 : PySem.W.tabIn K "is_part_in" = some (c27, T27)) (n27 : K.lookup T27 = none)
    (r30 : (recsOf q).find? (fun e => e.name == ("is_list_of" : Str)) = some d30) (t30 : PySem.W.tabIn K "is_list_of" = some (c30, T30)) (n30 : K.lookup T30 = none)
    (r15 : (recsOf q).find? (fun e => e.name == ("has_single_lists" : Str)) = some d15) (t15 : PySem.W.tabIn K "has_single_lists" = some (c15, T15)) (n15 : K.lookup T15 = none)
    (am : PySem.W.nsIn K mainGlobals "MOST_STATES" = some (some (.int 8 tm)))
    (a1 : PySem.W.nsIn K mainGlobals "is_integer" = some (some (.ref f1))) (l1 : K.lookup f1 = some ⟨oc1, od1, .func (PySem.W.fnOf "is_integer" "is_integer" (defArgs (top 1)) (defBody (top 1)) (defScope (top 1)) .none kV1 dc1 pm1 an1 cd1 ct1), sl1⟩) (y1 : PySem.W.codeIn K cd1 "is_integer" = true) (k1 : PySem.W.keepIn K (.ref f1) = true)
    (a2 : PySem.W.nsIn K mainGlobals "is_count" = some (some (.ref f2))) (l2 : K.lookup f2 = some ⟨oc2, od2, .func (PySem.W.fnOf "is_count" "is_count" (defArgs (top 2)) (defBody (top 2)) (defScope (top 2)) .none kV2 dc2 pm2 an2 cd2 ct2), sl2⟩) (y2 : PySem.W.codeIn K cd2 "is_count" = true) (k2 : PySem.W.keepIn K (.ref f2) = true)
    (a3 : PySem.W.nsIn K mainGlobals "is_count_below" = some (some (.ref f3))) (l3 : K.lookup f3 = some ⟨oc3, od3, .func (PySem.W.fnOf "is_count_below" "is_count_below" (defArgs (top 3)) (defBody (top 3)) (defScope (top 3)) .none kV3 dc3 pm3 an3 cd3 ct3), sl3⟩) (y3 : PySem.W.codeIn K cd3 "is_count_below" = true) (k3 : PySem.W.keepIn K (.ref f3) = true)
    (a4 : PySem.W.nsIn K mainGlobals "is_list" = some (some (.ref f4))) (l4 : K.lookup f4 = some ⟨oc4, od4, .func (PySem.W.fnOf "is_list" "is_list" (defArgs (top 4)) (defBody (top 4)) (defScope (top 4)) .none kV4 dc4 pm4 an4 cd4 ct4), sl4⟩) (y4 : PySem.W.codeIn K cd4 "is_list" = true) (k4 : PySem.W.keepIn K (.ref f4) = true)
    (a11 : PySem.W.nsIn K mainGlobals "is_table" = some (some (.ref f11))) (l11 : K.lookup f11 = some ⟨oc11, od11, .func (PySem.W.fnOf "is_table" "is_table" (defArgs (top 11)) (defBody (top 11)) (defScope (top 11)) .none kV11 dc11 pm11 an11 cd11 ct11), sl11⟩) (y11 : PySem.W.codeIn K cd11 "is_table" = true) (k11 : PySem.W.keepIn K (.ref f11) = true)
    (a12 : PySem.W.nsIn K mainGlobals "table_parts" = some (some (.ref f12))) (l12 : K.lookup f12 = some ⟨oc12, od12, .func (PySem.W.fnOf "table_parts" "table_parts" (defArgs (top 12)) (defBody (top 12)) (defScope (top 12)) .none kV12 dc12 pm12 an12 cd12 ct12), sl12⟩) (y12 : PySem.W.codeIn K cd12 "table_parts" = true) (k12 : PySem.W.keepIn K (.ref f12) = true)
    (a13 : PySem.W.nsIn K mainGlobals "needed" = some (some (.ref f13))) (l13 : K.lookup f13 = some ⟨oc13, od13, .func (PySem.W.fnOf "needed" "needed" (defArgs (top 13)) (defBody (top 13)) (defScope (top 13)) .none kV13 dc13 pm13 an13 cd13 ct13), sl13⟩) (y13 : PySem.W.codeIn K cd13 "needed" = true) (k13 : PySem.W.keepIn K (.ref f13) = true)
    (a14 : PySem.W.nsIn K mainGlobals "all_lists" = some (some (.ref f14))) (l14 : K.lookup f14 = some ⟨oc14, od14, .func (PySem.W.fnOf "all_lists" "all_lists" (defArgs (top 14)) (defBody (top 14)) (defScope (top 14)) .none kV14 dc14 pm14 an14 cd14 ct14), sl14⟩) (y14 : PySem.W.codeIn K cd14 "all_lists" = true) (k14 : PySem.W.keepIn K (.ref f14) = true)
    (a15 : PySem.W.nsIn K mainGlobals "has_single_lists" = some (some (.ref f15))) (l15 : K.lookup f15 = some ⟨oc15, od15, .func (PySem.W.fnOf "has_single_lists" "has_single_lists" (defArgs (top 15)) (defBody (top 15)) (defScope (top 15)) .none kV15 dc15 pm15 an15 (.ref c15) ct15), sl15⟩) (y15 : PySem.W.codeIn K (.ref c15) "has_single_lists" = true) (k15 : PySem.W.keepIn K (.ref f15) = true)
    (a16 : PySem.W.nsIn K mainGlobals "two_lists" = some (some (.ref f16))) (l16 : K.lookup f16 = some ⟨oc16, od16, .func (PySem.W.fnOf "two_lists" "two_lists" (defArgs (top 16)) (defBody (top 16)) (defScope (top 16)) .none kV16 dc16 pm16 an16 cd16 ct16), sl16⟩) (y16 : PySem.W.codeIn K cd16 "two_lists" = true) (k16 : PySem.W.keepIn K (.ref f16) = true)
    (a17 : PySem.W.nsIn K mainGlobals "check_table" = some (some (.ref f17))) (l17 : K.lookup f17 = some ⟨oc17, od17, .func (PySem.W.fnOf "check_table" "check_table" (defArgs (top 17)) (defBody (top 17)) (defScope (top 17)) .none kV17 dc17 pm17 an17 cd17 ct17), sl17⟩) (y17 : PySem.W.codeIn K cd17 "check_table" = true) (k17 : PySem.W.keepIn K (.ref f17) = true)
    (a18 : PySem.W.nsIn K mainGlobals "check_number" = some (some (.ref f18))) (l18 : K.lookup f18 = some ⟨oc18, od18, .func (PySem.W.fnOf "check_number" "check_number" (defArgs (top 18)) (defBody (top 18)) (defScope (top 18)) .none kV18 dc18 pm18 an18 cd18 ct18), sl18⟩) (y18 : PySem.W.codeIn K cd18 "check_number" = true) (k18 : PySem.W.keepIn K (.ref f18) = true)
    (a19 : PySem.W.nsIn K mainGlobals "has_table_form" = some (some (.ref f19))) (l19 : K.lookup f19 = some ⟨oc19, od19, .func (PySem.W.fnOf "has_table_form" "has_table_form" (defArgs (top 19)) (defBody (top 19)) (defScope (top 19)) .none kV19 dc19 pm19 an19 (.ref c19) ct19), sl19⟩) (y19 : PySem.W.codeIn K (.ref c19) "has_table_form" = true) (k19 : PySem.W.keepIn K (.ref f19) = true)
    (a20 : PySem.W.nsIn K mainGlobals "is_row" = some (some (.ref f20))) (l20 : K.lookup f20 = some ⟨oc20, od20, .func (PySem.W.fnOf "is_row" "is_row" (defArgs (top 20)) (defBody (top 20)) (defScope (top 20)) .none kV20 dc20 pm20 an20 (.ref c20) ct20), sl20⟩) (y20 : PySem.W.codeIn K (.ref c20) "is_row" = true) (k20 : PySem.W.keepIn K (.ref f20) = true)
    (a21 : PySem.W.nsIn K mainGlobals "keeps_join_rules" = some (some (.ref f21))) (l21 : K.lookup f21 = some ⟨oc21, od21, .func (PySem.W.fnOf "keeps_join_rules" "keeps_join_rules" (defArgs (top 21)) (defBody (top 21)) (defScope (top 21)) .none kV21 dc21 pm21 an21 cd21 ct21), sl21⟩) (y21 : PySem.W.codeIn K cd21 "keeps_join_rules" = true) (k21 : PySem.W.keepIn K (.ref f21) = true)
    (a22 : PySem.W.nsIn K mainGlobals "lies_within" = some (some (.ref f22))) (l22 : K.lookup f22 = some ⟨oc22, od22, .func (PySem.W.fnOf "lies_within" "lies_within" (defArgs (top 22)) (defBody (top 22)) (defScope (top 22)) .none kV22 dc22 pm22 an22 cd22 ct22), sl22⟩) (y22 : PySem.W.codeIn K cd22 "lies_within" = true) (k22 : PySem.W.keepIn K (.ref f22) = true)
    (a23 : PySem.W.nsIn K mainGlobals "states_within" = some (some (.ref f23))) (l23 : K.lookup f23 = some ⟨oc23, od23, .func (PySem.W.fnOf "states_within" "states_within" (defArgs (top 23)) (defBody (top 23)) (defScope (top 23)) .none kV23 dc23 pm23 an23 cd23 ct23), sl23⟩) (y23 : PySem.W.codeIn K cd23 "states_within" = true) (k23 : PySem.W.keepIn K (.ref f23) = true)
    (a24 : PySem.W.nsIn K mainGlobals "without" = some (some (.ref f24))) (l24 : K.lookup f24 = some ⟨oc24, od24, .func (PySem.W.fnOf "without" "without" (defArgs (top 24)) (defBody (top 24)) (defScope (top 24)) .none kV24 dc24 pm24 an24 cd24 ct24), sl24⟩) (y24 : PySem.W.codeIn K cd24 "without" = true) (k24 : PySem.W.keepIn K (.ref f24) = true)
    (a25 : PySem.W.nsIn K mainGlobals "joined_numbers" = some (some (.ref f25))) (l25 : K.lookup f25 = some ⟨oc25, od25, .func (PySem.W.fnOf "joined_numbers" "joined_numbers" (defArgs (top 25)) (defBody (top 25)) (defScope (top 25)) .none kV25 dc25 pm25 an25 cd25 ct25), sl25⟩) (y25 : PySem.W.codeIn K cd25 "joined_numbers" = true) (k25 : PySem.W.keepIn K (.ref f25) = true)
    (a26 : PySem.W.nsIn K mainGlobals "joins_to" = some (some (.ref f26))) (l26 : K.lookup f26 = some ⟨oc26, od26, .func (PySem.W.fnOf "joins_to" "joins_to" (defArgs (top 26)) (defBody (top 26)) (defScope (top 26)) .none kV26 dc26 pm26 an26 cd26 ct26), sl26⟩) (y26 : PySem.W.codeIn K cd26 "joins_to" = true) (k26 : PySem.W.keepIn K (.ref f26) = true)
    (a27 : PySem.W.nsIn K mainGlobals "is_part_in" = some (some (.ref f27))) (l27 : K.lookup f27 = some ⟨oc27, od27, .func (PySem.W.fnOf "is_part_in" "is_part_in" (defArgs (top 27)) (defBody (top 27)) (defScope (top 27)) .none kV27 dc27 pm27 an27 (.ref c27) ct27), sl27⟩) (y27 : PySem.W.codeIn K (.ref c27) "is_part_in" = true) (k27 : PySem.W.keepIn K (.ref f27) = true)
    (a28 : PySem.W.nsIn K mainGlobals "parts_in" = some (some (.ref f28))) (l28 : K.lookup f28 = some ⟨oc28, od28, .func (PySem.W.fnOf "parts_in" "parts_in" (defArgs (top 28)) (defBody (top 28)) (defScope (top 28)) .none kV28 dc28 pm28 an28 cd28 ct28), sl28⟩) (y28 : PySem.W.codeIn K cd28 "parts_in" = true) (k28 : PySem.W.keepIn K (.ref f28) = true)
    (a29 : PySem.W.nsIn K mainGlobals "parts_below" = some (some (.ref f29))) (l29 : K.lookup f29 = some ⟨oc29, od29, .func (PySem.W.fnOf "parts_below" "parts_below" (defArgs (top 29)) (defBody (top 29)) (defScope (top 29)) .none kV29 dc29 pm29 an29 cd29 ct29), sl29⟩) (y29 : PySem.W.codeIn K cd29 "parts_below" = true) (k29 : PySem.W.keepIn K (.ref f29) = true)
    (a30 : PySem.W.nsIn K mainGlobals "is_list_of" = some (some (.ref f30))) (l30 : K.lookup f30 = some ⟨oc30, od30, .func (PySem.W.fnOf "is_list_of" "is_list_of" (defArgs (top 30)) (defBody (top 30)) (defScope (top 30)) .none kV30 dc30 pm30 an30 (.ref c30) ct30), sl30⟩) (y30 : PySem.W.codeIn K (.ref c30) "is_list_of" = true) (k30 : PySem.W.keepIn K (.ref f30) = true)
    (a31 : PySem.W.nsIn K mainGlobals "lists_of" = some (some (.ref f31))) (l31 : K.lookup f31 = some ⟨oc31, od31, .func (PySem.W.fnOf "lists_of" "lists_of" (defArgs (top 31)) (defBody (top 31)) (defScope (top 31)) .none kV31 dc31 pm31 an31 cd31 ct31), sl31⟩) (y31 : PySem.W.codeIn K cd31 "lists_of" = true) (k31 : PySem.W.keepIn K (.ref f31) = true)
    (a33 : PySem.W.nsIn K mainGlobals "_law_pot" = some (some (.ref f33))) (l33 : K.lookup f33 = some ⟨oc33, od33, .func (PySem.W.fnOf "_law_pot" "_law_pot" (defArgs (top 33)) (defBody (top 33)) (defScope (top 33)) .none kV33 dc33 pm33 an33 cd33 ct33), sl33⟩) (y33 : PySem.W.codeIn K cd33 "_law_pot" = true) (k33 : PySem.W.keepIn K (.ref f33) = true)
    (a34 : PySem.W.nsIn K mainGlobals "_law_draw" = some (some (.ref f34))) (l34 : K.lookup f34 = some ⟨oc34, od34, .func (PySem.W.fnOf "_law_draw" "_law_draw" (defArgs (top 34)) (defBody (top 34)) (defScope (top 34)) .none kV34 dc34 pm34 an34 cd34 ct34), sl34⟩) (y34 : PySem.W.codeIn K cd34 "_law_draw" = true) (k34 : PySem.W.keepIn K (.ref f34) = true)
    (a35 : PySem.W.nsIn K mainGlobals "_law_closed" = some (some (.ref f35))) (l35 : K.lookup f35 = some ⟨oc35, od35, .func (PySem.W.fnOf "_law_closed" "_law_closed" (defArgs (top 35)) (defBody (top 35)) (defScope (top 35)) .none kV35 dc35 pm35 an35 cd35 ct35), sl35⟩) (y35 : PySem.W.codeIn K cd35 "_law_closed" = true) (k35 : PySem.W.keepIn K (.ref f35) = true)
    (a36 : PySem.W.nsIn K mainGlobals "_law_lots" = some (some (.ref f36))) (l36 : K.lookup f36 = some ⟨oc36, od36, .func (PySem.W.fnOf "_law_lots" "_law_lots" (defArgs (top 36)) (defBody (top 36)) (defScope (top 36)) .none kV36 dc36 pm36 an36 cd36 ct36), sl36⟩) (y36 : PySem.W.codeIn K cd36 "_law_lots" = true) (k36 : PySem.W.keepIn K (.ref f36) = true)
    (a37 : PySem.W.nsIn K mainGlobals "_law_rows" = some (some (.ref f37))) (l37 : K.lookup f37 = some ⟨oc37, od37, .func (PySem.W.fnOf "_law_rows" "_law_rows" (defArgs (top 37)) (defBody (top 37)) (defScope (top 37)) .none kV37 dc37 pm37 an37 cd37 ct37), sl37⟩) (y37 : PySem.W.codeIn K cd37 "_law_rows" = true) (k37 : PySem.W.keepIn K (.ref f37) = true)
    (a38 : PySem.W.nsIn K mainGlobals "_law_below" = some (some (.ref f38))) (l38 : K.lookup f38 = some ⟨oc38, od38, .func (PySem.W.fnOf "_law_below" "_law_below" (defArgs (top 38)) (defBody (top 38)) (defScope (top 38)) .none kV38 dc38 pm38 an38 cd38 ct38), sl38⟩) (y38 : PySem.W.codeIn K cd38 "_law_below" = true) (k38 : PySem.W.keepIn K (.ref f38) = true)
    (a39 : PySem.W.nsIn K mainGlobals "_law_joined" = some (some (.ref f39))) (l39 : K.lookup f39 = some ⟨oc39, od39, .func (PySem.W.fnOf "_law_joined" "_law_joined" (defArgs (top 39)) (defBody (top 39)) (defScope (top 39)) .none kV39 dc39 pm39 an39 cd39 ct39), sl39⟩) (y39 : PySem.W.codeIn K cd39 "_law_joined" = true) (k39 : PySem.W.keepIn K (.ref f39) = true)
    (a40 : PySem.W.nsIn K mainGlobals "_law_parts" = some (some (.ref f40))) (l40 : K.lookup f40 = some ⟨oc40, od40, .func (PySem.W.fnOf "_law_parts" "_law_parts" (defArgs (top 40)) (defBody (top 40)) (defScope (top 40)) .none kV40 dc40 pm40 an40 cd40 ct40), sl40⟩) (y40 : PySem.W.codeIn K cd40 "_law_parts" = true) (k40 : PySem.W.keepIn K (.ref f40) = true)
    (a41 : PySem.W.nsIn K mainGlobals "_law_needed" = some (some (.ref f41))) (l41 : K.lookup f41 = some ⟨oc41, od41, .func (PySem.W.fnOf "_law_needed" "_law_needed" (defArgs (top 41)) (defBody (top 41)) (defScope (top 41)) .none kV41 dc41 pm41 an41 cd41 ct41), sl41⟩) (y41 : PySem.W.codeIn K cd41 "_law_needed" = true) (k41 : PySem.W.keepIn K (.ref f41) = true)
    (a42 : PySem.W.nsIn K mainGlobals "_law_lists" = some (some (.ref f42))) (l42 : K.lookup f42 = some ⟨oc42, od42, .func (PySem.W.fnOf "_law_lists" "_law_lists" (defArgs (top 42)) (defBody (top 42)) (defScope (top 42)) .none kV42 dc42 pm42 an42 cd42 ct42), sl42⟩) (y42 : PySem.W.codeIn K cd42 "_law_lists" = true) (k42 : PySem.W.keepIn K (.ref f42) = true)
    (a43 : PySem.W.nsIn K mainGlobals "_law_right" = some (some (.ref f43))) (l43 : K.lookup f43 = some ⟨oc43, od43, .func (PySem.W.fnOf "_law_right" "_law_right" (defArgs (top 43)) (defBody (top 43)) (defScope (top 43)) .none kV43 dc43 pm43 an43 cd43 ct43), sl43⟩) (y43 : PySem.W.codeIn K cd43 "_law_right" = true) (k43 : PySem.W.keepIn K (.ref f43) = true)
    (a44 : PySem.W.nsIn K mainGlobals "law" = some (some (.ref f44))) (l44 : K.lookup f44 = some ⟨oc44, od44, .func (PySem.W.fnOf "law" "law" (defArgs (top 44)) (defBody (top 44)) (defScope (top 44)) .none kV44 dc44 pm44 an44 cd44 ct44), sl44⟩) (y44 : PySem.W.codeIn K cd44 "law" = true) (k44 : PySem.W.keepIn K (.ref f44) = true)
    (z0 : PySem.W.nsIn K mainGlobals "isinstance" = some none)
    (z1 : PySem.W.nsIn K mainGlobals "int" = some none)
    (z2 : PySem.W.nsIn K mainGlobals "bool" = some none)
    (z3 : PySem.W.nsIn K mainGlobals "list" = some none)
    (z4 : PySem.W.nsIn K mainGlobals "tuple" = some none)
    (z5 : PySem.W.nsIn K mainGlobals "len" = some none)
    (z6 : PySem.W.nsIn K mainGlobals "all" = some none)
    (z7 : PySem.W.nsIn K mainGlobals "any" = some none)
    (z8 : PySem.W.nsIn K mainGlobals "range" = some none)
    (z9 : PySem.W.nsIn K mainGlobals "abs" = some none)
    (z10 : PySem.W.nsIn K mainGlobals "sum" = some none)
    (z11 : PySem.W.nsIn K mainGlobals "max" = some none)
    (z12 : PySem.W.nsIn K mainGlobals "divmod" = some none)
    (z13 : PySem.W.nsIn K mainGlobals "sorted" = some none)
    (z14 : PySem.W.nsIn K mainGlobals "set" = some none)
    (z15 : PySem.W.nsIn K mainGlobals "repr" = some none)
    (z16 : PySem.W.nsIn K mainGlobals "enumerate" = some none)
    (z17 : PySem.W.nsIn K mainGlobals "ValueError" = some none)
    : codeAny (model P w) callerA (.call (.ref fa) ⟨[.ref a], []⟩) (fun r s' => r = .ok (.ret (.bool true)) ∧ OldK s.heap s'.heap ∧ s'.os = s.os ∧ AllBare s'.gens) s := by
  have m1 : mg (Str.ofString "is_integer") = some (.ref f1) := PySem.W.mg_of X G.T.g a1
  have m2 : mg (Str.ofString "is_count") = some (.ref f2) := PySem.W.mg_of X G.T.g a2
  have m3 : mg (Str.ofString "is_count_below") = some (.ref f3) := PySem.W.mg_of X G.T.g a3
  have m4 : mg (Str.ofString "is_list") = some (.ref f4) := PySem.W.mg_of X G.T.g a4
  have m11 : mg (Str.ofString "is_table") = some (.ref f11) := PySem.W.mg_of X G.T.g a11
  have m12 : mg (Str.ofString "table_parts") = some (.ref f12) := PySem.W.mg_of X G.T.g a12
  have m13 : mg (Str.ofString "needed") = some (.ref f13) := PySem.W.mg_of X G.T.g a13
  have m14 : mg (Str.ofString "all_lists") = some (.ref f14) := PySem.W.mg_of X G.T.g a14
  have m15 : mg (Str.ofString "has_single_lists") = some (.ref f15) := PySem.W.mg_of X G.T.g a15
  have m16 : mg (Str.ofString "two_lists") = some (.ref f16) := PySem.W.mg_of X G.T.g a16
  have m17 : mg (Str.ofString "check_table") = some (.ref f17) := PySem.W.mg_of X G.T.g a17
  have m18 : mg (Str.ofString "check_number") = some (.ref f18) := PySem.W.mg_of X G.T.g a18
  have m19 : mg (Str.ofString "has_table_form") = some (.ref f19) := PySem.W.mg_of X G.T.g a19
  have m20 : mg (Str.ofString "is_row") = some (.ref f20) := PySem.W.mg_of X G.T.g a20
  have m21 : mg (Str.ofString "keeps_join_rules") = some (.ref f21) := PySem.W.mg_of X G.T.g a21
  have m22 : mg (Str.ofString "lies_within") = some (.ref f22) := PySem.W.mg_of X G.T.g a22
  have m23 : mg (Str.ofString "states_within") = some (.ref f23) := PySem.W.mg_of X G.T.g a23
  have m24 : mg (Str.ofString "without") = some (.ref f24) := PySem.W.mg_of X G.T.g a24
  have m25 : mg (Str.ofString "joined_numbers") = some (.ref f25) := PySem.W.mg_of X G.T.g a25
  have m26 : mg (Str.ofString "joins_to") = some (.ref f26) := PySem.W.mg_of X G.T.g a26
  have m27 : mg (Str.ofString "is_part_in") = some (.ref f27) := PySem.W.mg_of X G.T.g a27
  have m28 : mg (Str.ofString "parts_in") = some (.ref f28) := PySem.W.mg_of X G.T.g a28
  have m29 : mg (Str.ofString "parts_below") = some (.ref f29) := PySem.W.mg_of X G.T.g a29
  have m30 : mg (Str.ofString "is_list_of") = some (.ref f30) := PySem.W.mg_of X G.T.g a30
  have m31 : mg (Str.ofString "lists_of") = some (.ref f31) := PySem.W.mg_of X G.T.g a31
  have m33 : mg (Str.ofString "_law_pot") = some (.ref f33) := PySem.W.mg_of X G.T.g a33
  have m34 : mg (Str.ofString "_law_draw") = some (.ref f34) := PySem.W.mg_of X G.T.g a34
  have m35 : mg (Str.ofString "_law_closed") = some (.ref f35) := PySem.W.mg_of X G.T.g a35
  have m36 : mg (Str.ofString "_law_lots") = some (.ref f36) := PySem.W.mg_of X G.T.g a36
  have m37 : mg (Str.ofString "_law_rows") = some (.ref f37) := PySem.W.mg_of X G.T.g a37
  have m38 : mg (Str.ofString "_law_below") = some (.ref f38) := PySem.W.mg_of X G.T.g a38
  have m39 : mg (Str.ofString "_law_joined") = some (.ref f39) := PySem.W.mg_of X G.T.g a39
  have m40 : mg (Str.ofString "_law_parts") = some (.ref f40) := PySem.W.mg_of X G.T.g a40
  have m41 : mg (Str.ofString "_law_needed") = some (.ref f41) := PySem.W.mg_of X G.T.g a41
  have m42 : mg (Str.ofString "_law_lists") = some (.ref f42) := PySem.W.mg_of X G.T.g a42
  have m43 : mg (Str.ofString "_law_right") = some (.ref f43) := PySem.W.mg_of X G.T.g a43
  have m44 : mg (Str.ofString "law") = some (.ref f44) := PySem.W.mg_of X G.T.g a44
  have mm := PySem.W.mg_of X G.T.g am
  have u0 : mg (Str.ofString "isinstance") = none := PySem.W.mg_none_of X G.T.g z0
  have u1 : mg (Str.ofString "int") = none := PySem.W.mg_none_of X G.T.g z1
  have u2 : mg (Str.ofString "bool") = none := PySem.W.mg_none_of X G.T.g z2
  have u3 : mg (Str.ofString "list") = none := PySem.W.mg_none_of X G.T.g z3
  have u4 : mg (Str.ofString "tuple") = none := PySem.W.mg_none_of X G.T.g z4
  have u5 : mg (Str.ofString "len") = none := PySem.W.mg_none_of X G.T.g z5
  have u6 : mg (Str.ofString "all") = none := PySem.W.mg_none_of X G.T.g z6
  have u7 : mg (Str.ofString "any") = none := PySem.W.mg_none_of X G.T.g z7
  have u8 : mg (Str.ofString "range") = none := PySem.W.mg_none_of X G.T.g z8
  have u9 : mg (Str.ofString "abs") = none := PySem.W.mg_none_of X G.T.g z9
  have u10 : mg (Str.ofString "sum") = none := PySem.W.mg_none_of X G.T.g z10
  have u11 : mg (Str.ofString "max") = none := PySem.W.mg_none_of X G.T.g z11
  have u12 : mg (Str.ofString "divmod") = none := PySem.W.mg_none_of X G.T.g z12
  have u13 : mg (Str.ofString "sorted") = none := PySem.W.mg_none_of X G.T.g z13
  have u14 : mg (Str.ofString "set") = none := PySem.W.mg_none_of X G.T.g z14
  have u15 : mg (Str.ofString "repr") = none := PySem.W.mg_none_of X G.T.g z15
  have u16 : mg (Str.ofString "enumerate") = none := PySem.W.mg_none_of X G.T.g z16
  have u17 : mg (Str.ofString "ValueError") = none := PySem.W.mg_none_of X G.T.g z17
  have e1 := fOf_eq m1
  have e2 := fOf_eq m2
  have e3 := fOf_eq m3
  have e4 := fOf_eq m4
  have e11 := fOf_eq m11
  have e12 := fOf_eq m12
  have e13 := fOf_eq m13
  have e14 := fOf_eq m14
  have e15 := fOf_eq m15
  have e16 := fOf_eq m16
  have e17 := fOf_eq m17
  have e18 := fOf_eq m18
  have e19 := fOf_eq m19
  have e20 := fOf_eq m20
  have e21 := fOf_eq m21
  have e22 := fOf_eq m22
  have e23 := fOf_eq m23
  have e24 := fOf_eq m24
  have e25 := fOf_eq m25
  have e26 := fOf_eq m26
  have e27 := fOf_eq m27
  have e28 := fOf_eq m28
  have e29 := fOf_eq m29
  have e30 := fOf_eq m30
  have e31 := fOf_eq m31
  have e33 := fOf_eq m33
  have e34 := fOf_eq m34
  have e35 := fOf_eq m35
  have e36 := fOf_eq m36
  have e37 := fOf_eq m37
  have e38 := fOf_eq m38
  have e39 := fOf_eq m39
  have e40 := fOf_eq m40
  have e41 := fOf_eq m41
  have e42 := fOf_eq m42
  have e43 := fOf_eq m43
  have e44 := fOf_eq m44
  subst e1
  subst e2
  subst e3
  subst e4
  subst e11
  subst e12
  subst e13
  subst e14
  subst e15
  subst e16
  subst e17
  subst e18
  subst e19
  subst e20
  subst e21
  subst e22
  subst e23
  subst e24
  subst e25
  subst e26
  subst e27
  subst e28
  subst e29
  subst e30
  subst e31
  subst e33
  subst e34
  subst e35
  subst e36
  subst e37
  subst e38
  subst e39
  subst e40
  subst e41
  subst e42
  subst e43
  subst e44
  have efa : fa = fOf mg "law" := by
    have := hmg.symm.trans m44
    cases this
    rfl
  have T : Tx mg (fOf mg) := by
    refine ⟨fun x hx => ?_, fun x hx => ?_, ⟨tm, mm⟩⟩
    · simp only [List.mem_cons, List.not_mem_nil, or_false] at hx
      rcases hx with rfl | rfl | rfl | rfl | rfl | rfl | rfl | rfl | rfl | rfl | rfl | rfl | rfl | rfl | rfl | rfl | rfl | rfl | rfl | rfl | rfl | rfl | rfl | rfl | rfl | rfl | rfl | rfl | rfl | rfl | rfl | rfl | rfl | rfl | rfl | rfl | rfl
      · exact m1
      · exact m2
      · exact m3
      · exact m4
      · exact m11
      · exact m12
      · exact m13
      · exact m14
      · exact m15
      · exact m16
      · exact m17
      · exact m18
      · exact m19
      · exact m20
      · exact m21
      · exact m22
      · exact m23
      · exact m24
      · exact m25
      · exact m26
      · exact m27
      · exact m28
      · exact m29
      · exact m30
      · exact m31
      · exact m33
      · exact m34
      · exact m35
      · exact m36
      · exact m37
      · exact m38
      · exact m39
      · exact m40
      · exact m41
      · exact m42
      · exact m43
      · exact m44
    · simp only [List.mem_cons, List.not_mem_nil, or_false] at hx
      rcases hx with rfl | rfl | rfl | rfl | rfl | rfl | rfl | rfl | rfl | rfl | rfl | rfl | rfl | rfl | rfl | rfl | rfl | rfl
      · exact u0
      · exact u1
      · exact u2
      · exact u3
      · exact u4
      · exact u5
      · exact u6
      · exact u7
      · exact u8
      · exact u9
      · exact u10
      · exact u11
      · exact u12
      · exact u13
      · exact u14
      · exact u15
      · exact u16
      · exact u17
  have F1 := fun_mk (st := top 1) l1 y1 k1
  have B1 := F1.binds (ps := ["value"]) fun _ _ _ _ _ _ us hl => match us, hl with | [_], _ => rfl
  have F2 := fun_mk (st := top 2) l2 y2 k2
  have B2 := F2.binds (ps := ["value"]) fun _ _ _ _ _ _ us hl => match us, hl with | [_], _ => rfl
  have F3 := fun_mk (st := top 3) l3 y3 k3
  have B3 := F3.binds (ps := ["value", "bound"]) fun _ _ _ _ _ _ us hl => match us, hl with | [_, _], _ => rfl
  have F4 := fun_mk (st := top 4) l4 y4 k4
  have B4 := F4.binds (ps := ["value"]) fun _ _ _ _ _ _ us hl => match us, hl with | [_], _ => rfl
  have F11 := fun_mk (st := top 11) l11 y11 k11
  have B11 := F11.binds (ps := ["value"]) fun _ _ _ _ _ _ us hl => match us, hl with | [_], _ => rfl
  have F12 := fun_mk (st := top 12) l12 y12 k12
  have B12 := F12.binds (ps := ["table"]) fun _ _ _ _ _ _ us hl => match us, hl with | [_], _ => rfl
  have F13 := fun_mk (st := top 13) l13 y13 k13
  have B13 := F13.binds (ps := ["table", "number"]) fun _ _ _ _ _ _ us hl => match us, hl with | [_, _], _ => rfl
  have F14 := fun_mk (st := top 14) l14 y14 k14
  have B14 := F14.binds (ps := ["table", "number"]) fun _ _ _ _ _ _ us hl => match us, hl with | [_, _], _ => rfl
  have C15 : FunC K "has_single_lists" "has_single_lists" (top 15) (fOf mg "has_single_lists") _ c15 := ⟨⟨oc15, od15, kV15, dc15, pm15, an15, ct15, sl15, rfl, l15, y15⟩, k15⟩
  have F15 := C15.fn
  have B15 := F15.binds (ps := ["table"]) fun _ _ _ _ _ _ us hl => match us, hl with | [_], _ => rfl
  have F16 := fun_mk (st := top 16) l16 y16 k16
  have B16 := F16.binds (ps := ["table"]) fun _ _ _ _ _ _ us hl => match us, hl with | [_], _ => rfl
  have F17 := fun_mk (st := top 17) l17 y17 k17
  have B17 := F17.binds (ps := ["table"]) fun _ _ _ _ _ _ us hl => match us, hl with | [_], _ => rfl
  have F18 := fun_mk (st := top 18) l18 y18 k18
  have B18 := F18.binds (ps := ["table", "number"]) fun _ _ _ _ _ _ us hl => match us, hl with | [_, _], _ => rfl
  have C19 : FunC K "has_table_form" "has_table_form" (top 19) (fOf mg "has_table_form") _ c19 := ⟨⟨oc19, od19, kV19, dc19, pm19, an19, ct19, sl19, rfl, l19, y19⟩, k19⟩
  have F19 := C19.fn
  have B19 := F19.binds (ps := ["value"]) fun _ _ _ _ _ _ us hl => match us, hl with | [_], _ => rfl
  have C20 : FunC K "is_row" "is_row" (top 20) (fOf mg "is_row") _ c20 := ⟨⟨oc20, od20, kV20, dc20, pm20, an20, ct20, sl20, rfl, l20, y20⟩, k20⟩
  have F20 := C20.fn
  have B20 := F20.binds (ps := ["value", "many"]) fun _ _ _ _ _ _ us hl => match us, hl with | [_, _], _ => rfl
  have F21 := fun_mk (st := top 21) l21 y21 k21
  have B21 := F21.binds (ps := ["rows"]) fun _ _ _ _ _ _ us hl => match us, hl with | [_], _ => rfl
  have F22 := fun_mk (st := top 22) l22 y22 k22
  have B22 := F22.binds (ps := ["table", "one", "other"]) fun _ _ _ _ _ _ us hl => match us, hl with | [_, _, _], _ => rfl
  have F23 := fun_mk (st := top 23) l23 y23 k23
  have B23 := F23.binds (ps := ["table", "number"]) fun _ _ _ _ _ _ us hl => match us, hl with | [_, _], _ => rfl
  have F24 := fun_mk (st := top 24) l24 y24 k24
  have B24 := F24.binds (ps := ["numbers", "number"]) fun _ _ _ _ _ _ us hl => match us, hl with | [_, _], _ => rfl
  have F25 := fun_mk (st := top 25) l25 y25 k25
  have B25 := F25.binds (ps := ["table", "numbers"]) fun _ _ _ _ _ _ us hl => match us, hl with | [_, _], _ => rfl
  have F26 := fun_mk (st := top 26) l26 y26 k26
  have B26 := F26.binds (ps := ["table", "numbers", "goal"]) fun _ _ _ _ _ _ us hl => match us, hl with | [_, _, _], _ => rfl
  have C27 : FunC K "is_part_in" "is_part_in" (top 27) (fOf mg "is_part_in") _ c27 := ⟨⟨oc27, od27, kV27, dc27, pm27, an27, ct27, sl27, rfl, l27, y27⟩, k27⟩
  have F27 := C27.fn
  have B27 := F27.binds (ps := ["table", "number"]) fun _ _ _ _ _ _ us hl => match us, hl with | [_, _], _ => rfl
  have F28 := fun_mk (st := top 28) l28 y28 k28
  have B28 := F28.binds (ps := ["table"]) fun _ _ _ _ _ _ us hl => match us, hl with | [_], _ => rfl
  have F29 := fun_mk (st := top 29) l29 y29 k29
  have B29 := F29.binds (ps := ["table", "number"]) fun _ _ _ _ _ _ us hl => match us, hl with | [_, _], _ => rfl
  have C30 : FunC K "is_list_of" "is_list_of" (top 30) (fOf mg "is_list_of") _ c30 := ⟨⟨oc30, od30, kV30, dc30, pm30, an30, ct30, sl30, rfl, l30, y30⟩, k30⟩
  have F30 := C30.fn
  have B30 := F30.binds (ps := ["table", "parts", "number"]) fun _ _ _ _ _ _ us hl => match us, hl with | [_, _, _], _ => rfl
  have F31 := fun_mk (st := top 31) l31 y31 k31
  have B31 := F31.binds (ps := ["table", "number"]) fun _ _ _ _ _ _ us hl => match us, hl with | [_, _], _ => rfl
  have F33 := fun_mk (st := top 33) l33 y33 k33
  have B33 := F33.binds (ps := ["_law_script", "_law_k"]) fun _ _ _ _ _ _ us hl => match us, hl with | [_, _], _ => rfl
  have F34 := fun_mk (st := top 34) l34 y34 k34
  have B34 := F34.binds (ps := ["_law_pot_here", "_law_sides"]) fun _ _ _ _ _ _ us hl => match us, hl with | [_, _], _ => rfl
  have F35 := fun_mk (st := top 35) l35 y35 k35
  have B35 := F35.binds (ps := ["_law_lots_here"]) fun _ _ _ _ _ _ us hl => match us, hl with | [_], _ => rfl
  have F36 := fun_mk (st := top 36) l36 y36 k36
  have B36 := F36.binds (ps := ["_law_pot_here"]) fun _ _ _ _ _ _ us hl => match us, hl with | [_], _ => rfl
  have F37 := fun_mk (st := top 37) l37 y37 k37
  have B37 := F37.binds (ps := ["_law_lots_here"]) fun _ _ _ _ _ _ us hl => match us, hl with | [_], _ => rfl
  have F38 := fun_mk (st := top 38) l38 y38 k38
  have B38 := F38.binds (ps := ["_law_lots_here", "_law_number"]) fun _ _ _ _ _ _ us hl => match us, hl with | [_, _], _ => rfl
  have F39 := fun_mk (st := top 39) l39 y39 k39
  have B39 := F39.binds (ps := ["_law_lots_here", "_law_numbers"]) fun _ _ _ _ _ _ us hl => match us, hl with | [_, _], _ => rfl
  have F40 := fun_mk (st := top 40) l40 y40 k40
  have B40 := F40.binds (ps := ["_law_lots_here"]) fun _ _ _ _ _ _ us hl => match us, hl with | [_], _ => rfl
  have F41 := fun_mk (st := top 41) l41 y41 k41
  have B41 := F41.binds (ps := ["_law_lots_here", "_law_parts_here", "_law_number"]) fun _ _ _ _ _ _ us hl => match us, hl with | [_, _, _], _ => rfl
  have F42 := fun_mk (st := top 42) l42 y42 k42
  have B42 := F42.binds (ps := ["_law_lots_here", "_law_parts_here", "_law_number"]) fun _ _ _ _ _ _ us hl => match us, hl with | [_, _, _], _ => rfl
  have F43 := fun_mk (st := top 43) l43 y43 k43
  have B43 := F43.binds (ps := ["_law_pot_here"]) fun _ _ _ _ _ _ us hl => match us, hl with | [_], _ => rfl
  have F44 := fun_mk (st := top 44) l44 y44 k44
  have B44 := F44.binds (ps := ["_law_script"]) fun _ _ _ _ _ _ us hl => match us, hl with | [_], _ => rfl
  have BL : ∀ (s : Shared) (v : Value), BindsTo s (PySem.W.fnOf "law" "law" (defArgs (top 44)) (defBody (top 44)) (defScope (top 44)) .none kV44 dc44 pm44 an44 cd44 ct44) ⟨[v], []⟩ [("_law_script", v)] := fun s v => .of_eq rfl
  obtain ⟨h20, q20⟩ := PySem.W.tab_of G.T X r20 t20
  obtain ⟨h19, q19⟩ := PySem.W.tab_of G.T X r19 t19
  obtain ⟨h27, q27⟩ := PySem.W.tab_of G.T X r27 t27
  obtain ⟨h30, q30⟩ := PySem.W.tab_of G.T X r30 t30
  obtain ⟨h15, q15⟩ := PySem.W.tab_of G.T X r15 t15
  rw [efa]
  have each : ∀ {C : Addr × Addr → Prop}, C (c20, T20) → C (c19, T19) → C (c27, T27) → C (c30, T30) → C (c15, T15) → ∀ q ∈ ([(c20, T20), (c19, T19), (c27, T27), (c30, T30), (c15, T15)] : List (Addr × Addr)), C q := fun x20 x19 x27 x30 x15 q hq => by
    simp only [List.mem_cons, List.not_mem_nil, or_false] at hq
    rcases hq with rfl | rfl | rfl | rfl | rfl
    · exact x20
    · exact x19
    · exact x27
    · exact x30
    · exact x15
  refine law_end (k := 12) (x := "_law_script") (cs := [(c20, T20), (c19, T19), (c27, T27), (c30, T30), (c15, T15)]) (sp := spLaw K T15 T27 T30 T19 T20) X G.T.g G.T.b G.T.builtins G.T.nolimit ge (by obtain ⟨mm, z, _⟩ := (G.T.seer imp).mods; exact ⟨mm, z⟩) (each q20 q19 q27 q30 q15) (each n20 n19 n27 n30 n15) (each h20 h19 h27 h30 h15) G.T.bmain oa ia (Nat.le_trans la (by decide)) ⟨rfl, by decide, by decide⟩ rfl
    (fun base Xb gb smo TB => ?_) (fun s v => BL s v) (fun H hH hS => ⟨a, ns, rfl, hS, ⟨#[], hH (c15, T15) (by simp), trivial⟩, ⟨#[], hH (c27, T27) (by simp), trivial⟩, ⟨#[], hH (c30, T30) (by simp), trivial⟩, ⟨#[], hH (c19, T19) (by simp), trivial⟩, ⟨#[], hH (c20, T20) (by simp), trivial⟩, fun _ => rfl⟩)
  have TB20 := TB (c20, T20) (by simp)
  have TB19 := TB (c19, T19) (by simp)
  have TB27 := TB (c27, T27) (by simp)
  have TB30 := TB (c30, T30) (by simp)
  have TB15 := TB (c15, T15) (by simp)
  have G1 := ok1 (P := P) (w := w) (mg := mg) (base := base) T F1
  have G2 := ok2 T F2 G1 B1 k1
  have G3 := ok3 T F3 G2 B2 k2
  have G4 := ok4 (P := P) (w := w) (mg := mg) (base := base) T F4
  have G20 := ok9 T C20 TB20 G4 B4 k4 G3 B3 k3
  have G19 := ok8 T C19 TB19 G4 B4 k4 G20 B20 k20
  have G21 := ok10 (P := P) (w := w) (mg := mg) (base := base) T F21
  have G11 := ok7 T F11 G19 B19 k19 G21 B21 k21
  have G33 := ok12 (P := P) (w := w) (mg := mg) (base := base) T F33
  have G34 := ok13 (P := P) (w := w) (mg := mg) (base := base) T F34
  have G35 := ok15 (P := P) (w := w) (mg := mg) (base := base) T F35
  have G36 := ok16 T F36 G34 B34 k34 G35 B35 k35
  have G37 := ok17 (P := P) (w := w) (mg := mg) (base := base) T F37
  have G22 := ok_lw (P := P) (w := w) (mg := mg) (base := base) F22
  have G23 := ok_sw T F23 G22 B22 k22
  have G24 := ok_wo (P := P) (w := w) (mg := mg) (base := base) F24
  have G25 := ok_jn (P := P) (w := w) (mg := mg) (base := base) F25
  have G26 := ok_jt T F26 G25 B25 k25
  have G27 := ok_pi T C27 TB27 G23 B23 k23 G24 B24 k24
  have G28 := ok_pn T F28 G27 B27 k27
  have G29 := ok_pb T F29 G28 B28 k28 G22 B22 k22
  have G30 := ok_il T C30 TB30 G26 B26 k26 G24 B24 k24
  have G31 := ok_lo T F31 G29 B29 k29 G30 B30 k30
  have G17 := ok_ct T F17 G11 B11 k11
  have G18 := ok_cn T F18 G3 B3 k3
  have G12 := ok_tp T F12 G17 B17 k17 G28 B28 k28
  have G14 := ok_al T F14 G17 B17 k17 G18 B18 k18 G31 B31 k31
  have G13 := ok_nd T F13 G17 B17 k17 G18 B18 k18 G29 B29 k29 G26 B26 k26 G24 B24 k24
  have G15 := ok_hs T C15 TB15 G17 B17 k17 G31 B31 k31
  have G16 := ok_tl T F16 G17 B17 k17 G31 B31 k31
  have G38 := ok_lb (P := P) (w := w) (mg := mg) (base := base) T F38
  have G39 := ok_lj (P := P) (w := w) (mg := mg) (base := base) F39
  have G40 := ok_lp T F40 G38 B38 k38 G39 B39 k39
  have G41 := ok_ln T F41 G38 B38 k38 G39 B39 k39
  have G42 := ok_ll T F42 G38 B38 k38 G39 B39 k39
  have G43 := ok_lr T smo F43 G36 B36 k36 G37 B37 k37 G40 B40 k40 G34 B34 k34 G11 B11 k11 G12 B12 k12 G42 B42 k42 G41 B41 k41 G14 B14 k14 (fun s a b => .of_eq rfl) G13 k13 (fun s a b => .of_eq rfl) G39 B39 k39 G16 B16 k16 (fun s ws hl => match ws, hl with | [_], _ => .of_eq rfl) G15 B15 k15 (fun s ws hl => match ws, hl with | [_], _ => .of_eq rfl)
  exact ok_law T F44 G33 B33 k33 G43 B43 k43
end Tb

open PySem PySem.W PyProof.Rows
set_option maxRecDepth 100000 in
set_option maxHeartbeats 0 in
theorem PySem.Challenge.cw_partsmet_k31_whole_parts_and_lists_holds : PySem.Challenge.rw_partsmet_k31_whole_parts_and_lists.Holds := by
  w_on; o_law; k_head; (case hw => w_witness2)
  k_fill
  refine Att.attach_callB (l := PySem.Challenge.rw_partsmet_k31_whole_parts_and_lists) (n := 63) rfl rfl fun w s0 s1 mg mb fa o pm cd doc a us ns G Y ho hd hcd hmg hobj hints hlen hbits hg => ?_
  have KX := PySem.W.kIn_of Y
  refine' Tb.said G KX hmg ?imp hg hobj hints hlen ?r20 ?t20 ?n20 ?r19 ?t19 ?n19 ?r27 ?t27 ?n27 ?r30 ?t30 ?n30 ?r15 ?t15 ?n15 ?am ?a1 ?l1 ?y1 ?k1 ?a2 ?l2 ?y2 ?k2 ?a3 ?l3 ?y3 ?k3 ?a4 ?l4 ?y4 ?k4 ?a11 ?l11 ?y11 ?k11 ?a12 ?l12 ?y12 ?k12 ?a13 ?l13 ?y13 ?k13 ?a14 ?l14 ?y14 ?k14 ?a15 ?l15 ?y15 ?k15 ?a16 ?l16 ?y16 ?k16 ?a17 ?l17 ?y17 ?k17 ?a18 ?l18 ?y18 ?k18 ?a19 ?l19 ?y19 ?k19 ?a20 ?l20 ?y20 ?k20 ?a21 ?l21 ?y21 ?k21 ?a22 ?l22 ?y22 ?k22 ?a23 ?l23 ?y23 ?k23 ?a24 ?l24 ?y24 ?k24 ?a25 ?l25 ?y25 ?k25 ?a26 ?l26 ?y26 ?k26 ?a27 ?l27 ?y27 ?k27 ?a28 ?l28 ?y28 ?k28 ?a29 ?l29 ?y29 ?k29 ?a30 ?l30 ?y30 ?k30 ?a31 ?l31 ?y31 ?k31 ?a33 ?l33 ?y33 ?k33 ?a34 ?l34 ?y34 ?k34 ?a35 ?l35 ?y35 ?k35 ?a36 ?l36 ?y36 ?k36 ?a37 ?l37 ?y37 ?k37 ?a38 ?l38 ?y38 ?k38 ?a39 ?l39 ?y39 ?k39 ?a40 ?l40 ?y40 ?k40 ?a41 ?l41 ?y41 ?k41 ?a42 ?l42 ?y42 ?k42 ?a43 ?l43 ?y43 ?k43 ?a44 ?l44 ?y44 ?k44 ?z0 ?z1 ?z2 ?z3 ?z4 ?z5 ?z6 ?z7 ?z8 ?z9 ?z10 ?z11 ?z12 ?z13 ?z14 ?z15 ?z16 ?z17
  case imp => decide +kernel
  case r20 => rfl
  case t20 => rfl
  case n20 => rfl
  case r19 => rfl
  case t19 => rfl
  case n19 => rfl
  case r27 => rfl
  case t27 => rfl
  case n27 => rfl
  case r30 => rfl
  case t30 => rfl
  case n30 => rfl
  case r15 => rfl
  case t15 => rfl
  case n15 => rfl
  case am => k_is
  case a1 => k_is
  case l1 => k_is
  case y1 => k_is
  case k1 => k_is
  case a2 => k_is
  case l2 => k_is
  case y2 => k_is
  case k2 => k_is
  case a3 => k_is
  case l3 => k_is
  case y3 => k_is
  case k3 => k_is
  case a4 => k_is
  case l4 => k_is
  case y4 => k_is
  case k4 => k_is
  case a11 => k_is
  case l11 => k_is
  case y11 => k_is
  case k11 => k_is
  case a12 => k_is
  case l12 => k_is
  case y12 => k_is
  case k12 => k_is
  case a13 => k_is
  case l13 => k_is
  case y13 => k_is
  case k13 => k_is
  case a14 => k_is
  case l14 => k_is
  case y14 => k_is
  case k14 => k_is
  case a15 => k_is
  case l15 => k_is
  case y15 => k_is
  case k15 => k_is
  case a16 => k_is
  case l16 => k_is
  case y16 => k_is
  case k16 => k_is
  case a17 => k_is
  case l17 => k_is
  case y17 => k_is
  case k17 => k_is
  case a18 => k_is
  case l18 => k_is
  case y18 => k_is
  case k18 => k_is
  case a19 => k_is
  case l19 => k_is
  case y19 => k_is
  case k19 => k_is
  case a20 => k_is
  case l20 => k_is
  case y20 => k_is
  case k20 => k_is
  case a21 => k_is
  case l21 => k_is
  case y21 => k_is
  case k21 => k_is
  case a22 => k_is
  case l22 => k_is
  case y22 => k_is
  case k22 => k_is
  case a23 => k_is
  case l23 => k_is
  case y23 => k_is
  case k23 => k_is
  case a24 => k_is
  case l24 => k_is
  case y24 => k_is
  case k24 => k_is
  case a25 => k_is
  case l25 => k_is
  case y25 => k_is
  case k25 => k_is
  case a26 => k_is
  case l26 => k_is
  case y26 => k_is
  case k26 => k_is
  case a27 => k_is
  case l27 => k_is
  case y27 => k_is
  case k27 => k_is
  case a28 => k_is
  case l28 => k_is
  case y28 => k_is
  case k28 => k_is
  case a29 => k_is
  case l29 => k_is
  case y29 => k_is
  case k29 => k_is
  case a30 => k_is
  case l30 => k_is
  case y30 => k_is
  case k30 => k_is
  case a31 => k_is
  case l31 => k_is
  case y31 => k_is
  case k31 => k_is
  case a33 => k_is
  case l33 => k_is
  case y33 => k_is
  case k33 => k_is
  case a34 => k_is
  case l34 => k_is
  case y34 => k_is
  case k34 => k_is
  case a35 => k_is
  case l35 => k_is
  case y35 => k_is
  case k35 => k_is
  case a36 => k_is
  case l36 => k_is
  case y36 => k_is
  case k36 => k_is
  case a37 => k_is
  case l37 => k_is
  case y37 => k_is
  case k37 => k_is
  case a38 => k_is
  case l38 => k_is
  case y38 => k_is
  case k38 => k_is
  case a39 => k_is
  case l39 => k_is
  case y39 => k_is
  case k39 => k_is
  case a40 => k_is
  case l40 => k_is
  case y40 => k_is
  case k40 => k_is
  case a41 => k_is
  case l41 => k_is
  case y41 => k_is
  case k41 => k_is
  case a42 => k_is
  case l42 => k_is
  case y42 => k_is
  case k42 => k_is
  case a43 => k_is
  case l43 => k_is
  case y43 => k_is
  case k43 => k_is
  case a44 => k_is
  case l44 => k_is
  case y44 => k_is
  case k44 => k_is
  case z0 => k_is
  case z1 => k_is
  case z2 => k_is
  case z3 => k_is
  case z4 => k_is
  case z5 => k_is
  case z6 => k_is
  case z7 => k_is
  case z8 => k_is
  case z9 => k_is
  case z10 => k_is
  case z11 => k_is
  case z12 => k_is
  case z13 => k_is
  case z14 => k_is
  case z15 => k_is
  case z16 => k_is
  case z17 => k_is
