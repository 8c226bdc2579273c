import PyProof.Rows.All
import Wide.All
import OpenK.AllK
import Wide.FinOn
import HandS.ForMost
import HandS.AnyAll
import HandS.GenOver
import HandS.IsInst
import HandS.Strs
import HandS.SetFor
import HandS.Deep
import HandS.Conv
import HandS.Style
import HandS.Sort
import PyProof.ReprRoads
import PyProof.CallFns
import KE.SortData
import HandS.TupSets
import HandS.Wide
import HandS.TupLe
import PyProof.TupleOfSeq
import HandS.EndTab
import PySem.Challenge.RW_partsmet_k81_whole_webs_and_rings
set_option Elab.async false
set_option linter.all false
set_option maxRecDepth 100000
set_option maxHeartbeats 4000000
/-! all(..), any(..) of a generator expression of one clause, whose element may do whatever an expression of the layer does. -/
namespace Gx
open PySem PySem.Spec PyProof.Rows L2

/-- the scope of the generator expression, over the scope of the def around -/
structure GScp (N : List Str) (sc scope : Scope) (x : Str) (ix : Nat) : Prop where
  kind : scope.kind = .function
  co : scope.isCoroutine = false
  cell : ∀ y ∈ scope.names, y.2 ≠ .cell
  dot : scope.names.lookup (".0" : Str) = some NameKind.local
  loc : ∀ y, scope.names.lookup y = some .local → y = (".0" : Str) ∨ y = x
  xl : scope.names.lookup x = some .local
  free : ∀ y ∈ scope.names, y.2 = .free → sc.names.lookup y.1 = some .cell ∨ sc.names.lookup y.1 = some .free
  nd : N.Nodup
  spot : N[ix]? = some x
  nodot : (".0" : Str) ∉ N

/-- the context in which the generator's code runs: entered at s -/
def gcx (X : Cx) (A : Around) (s : Shared) (H : Hp) (env : Env) (fp : List Addr) : Cx where
  prog := X.prog
  w := X.w
  K := X.K
  mg := X.mg
  base := X.base
  A := A
  N := X.N
  s_0 := s
  H_0 := H
  env := env
  outer := X.stack
  stack := env :: X.stack
  ex := fp
  fn := fun _ => false
  calm := true
  pn := []
  xe := fun _ _ => False

/-- states with other generators alone -/
theorem inv_gens {X : Cx} {pins : List (Addr × Obj)} {σ : L2.St} {H : Hp} {s : Shared} (I : Inv X pins σ H s) {g' : Array GenState} (hb : AllBare g') : Inv X pins σ H { s with gens := g' } :=
  ⟨I.ok, I.os, hb, I.base, I.loc, I.cell, I.free, I.freeC, I.pin, I.hok, I.len⟩
theorem bare_set {G : Array GenState} {g : Nat} {x : GenState} (h : AllBare G) (hx : x.bare = true) : AllBare (G.setIfInBounds g x) := by
  intro y hy
  rcases Array.mem_or_eq_of_mem_setIfInBounds hy with q | q
  · exact h y q
  · rw [q]; exact hx

section
variable {X : Cx} {pins : List (Addr × Obj)} {σ : L2.St} {H : Hp} {s : Shared}

theorem clo_sub {env : Env} {scope : Scope} (has : ∀ y ∈ scope.names, y.2 = .free → ∃ c, env.cells.lookup y.1 = some c) {y : Str} {c : Addr} (e : (cloFrom env.cells scope.names []).lookup y = some c) : env.cells.lookup y = some c := by
  rcases cloFrom_mem (PySem.mem_of_lookup e) with hm | ⟨h1, h2⟩
  · cases hm
  · obtain ⟨c1, hc⟩ := has _ h1 rfl
    have hc' : env.cells.lookup y = some c1 := hc
    have : c = c1 := by rw [h2, hc'] <;> rfl
    rw [this]; exact hc'

/-- the generator's frame has been laid: the invariant of its context -/
theorem gx_start {N : List Str} {scope : Scope} {x : Str} {ix : Nat} {A : Around} {code : Value} {fp : List Addr} {itv : Value} {h1 : Heap} {tk : Nat} {gens' : Array GenState} {pin : List (Addr × Obj)}
    (I : Inv X pins σ H s) (G : GScp X.N X.env.scope scope x ix)
    (hA : A.frames = some (genEnv scope (cloFrom X.env.cells scope.names []) s.heap.objs.size code builtinsNs X.env :: X.stack)) (hd : A.handled = none)
    (hfp : ∀ b ∈ fp, FpOk X pins H b) (hlt : ∀ b ∈ fp, b < s.heap.objs.size)
    (hns : h1.Ns s.heap.objs.size fun y => if y = (".0" : Str) then some itv else none) (kp : ∀ b o, s.heap.get? b = some o → h1.get? b = some o) (hb : AllBare gens')
    (hpin : ∀ p ∈ pin, h1.get? p.1 = some p.2 ∧ s.heap.objs.size < p.1 ∧ ∀ v, p.2.data ≠ .cell v) :
    Inv (gcx X A s H (genEnv scope (cloFrom X.env.cells scope.names []) s.heap.objs.size code builtinsNs X.env) fp) pin (σ.set ix none) H { s with heap := h1, toks := tk, gens := gens' } := by
  have has : ∀ y ∈ scope.names, y.2 = .free → ∃ c, X.env.cells.lookup y.1 = some c := fun y hy e => by
    rcases G.free y hy e with k | k
    · exact I.ok.has _ (.inl k)
    · exact I.ok.has _ (.inr k)
  have cm : ∀ {y c}, (cloFrom X.env.cells scope.names []).lookup y = some c → X.env.cells.lookup y = some c := fun {y c} e => clo_sub has e
  have look : ∀ {y}, scope.names.lookup y = some .free → ∃ c, (cloFrom X.env.cells scope.names []).lookup y = some c := fun {y} hl => by
    have hy : (y, NameKind.free) ∈ scope.names := PySem.mem_of_lookup hl
    exact mem_lookup (cloFrom_has (cells := X.env.cells) (acc := []) hy)
  have cellK : ∀ {c : Addr} {v : Option Value}, s.heap.IsCell c v → h1.IsCell c v := fun {c v} ⟨o, ho, hd⟩ => ⟨o, kp _ _ ho, hd⟩
  refine ⟨⟨I.ok.mod, G.kind, I.ok.glob, rfl, Nat.le_refl _, fun y z c e1 e2 => I.ok.inj y z c (cm e1) (cm e2), fun y hy => ?_, fun y c z _ => ?_, fun _ => hd, hA, .inr ⟨rfl, rfl⟩, fun b hb => ⟨Nat.ne_of_lt (hlt b hb), fun y c e => ?_⟩, I.bs,
      Nat.le_trans I.ok.bsz I.sz, fun b o e hb => ?_, fun b hb hm => ?_, I.stack, I.stkFree⟩,
    rfl, hb, Un.kept kp, ⟨_, hns, fun i y v e1 e2 e3 => ?_⟩, fun y c e => ?_, I.hok.fresh (Nat.le_refl _), fun y c e => I.freeC y c (cm e), fun p hp => ?_, I.hok.kept kp, ?_⟩
  · have hy : scope.names.lookup y = some .cell ∨ scope.names.lookup y = some .free := hy
    rcases hy with hy | hy
    · exact absurd rfl (G.cell _ (PySem.mem_of_lookup hy))
    · exact look hy
  · cases z
  · exact (hfp b hb).2.2.2.2.1 y c (cm e)
  · obtain ⟨_, _, _, h4, _⟩ := hfp b hb
    rcases h4 with h4 | h4
    · exact I.ok.noex b o e h4
    · exact absurd (Nat.lt_of_lt_of_le (Nat.lt_of_lt_of_le (Heap.lt_size e) I.ok.bsz) h4) (Nat.lt_irrefl _)
  · obtain ⟨_, h2, h3, _⟩ := hfp b hb
    rcases List.mem_cons.mp (I.stkSub b hm) with z | z
    · exact h2 z
    · exact h3 z
  · have e3 : Vis scope y := e3
    have e2' : i ≠ ix ∧ σ[i]? = some (some v) := by
      by_cases hi : i = ix
      · subst hi
        have hl : i < σ.length := by
          rw [I.len]
          exact (List.getElem?_eq_some_iff.mp G.spot).1
        rw [List.getElem?_set_self hl] at e2
        cases e2
      · rw [List.getElem?_set_ne (fun q => hi q.symm)] at e2
        exact ⟨hi, e2⟩
    rcases e3 with k | k | k
    · rcases G.loc y k with z | z
      · exact absurd (List.mem_of_getElem? (show X.N[i]? = some (".0" : Str) by rw [← z]; exact e1)) G.nodot
      · exact absurd (nodup_ix G.nd (show X.N[i]? = some x by rw [← z]; exact e1) G.spot) e2'.1
    · exact absurd rfl (G.cell _ (PySem.mem_of_lookup k))
    · obtain ⟨m, hn, hl⟩ := I.loc
      have hfr := G.free _ (PySem.mem_of_lookup k) rfl
      have hvis : Vis X.env.scope y := hfr.elim (fun k => .inr (.inl k)) (fun k => .inr (.inr k))
      obtain ⟨w', r, q⟩ := hl i y v e1 e2'.2 hvis
      obtain ⟨c2, h2⟩ := look k
      refine ⟨w', r, .inr ⟨.inr k, c2, h2, ?_⟩⟩
      have c1 := cm h2
      rcases q with ⟨k', _⟩ | ⟨_, c3, e', z⟩
      · have k' : X.env.scope.names.lookup y = some .local := k'
        rcases hfr with k2 | k2 <;> rw [show X.env.scope.names.lookup y = _ from k2] at k' <;> cases k'
      · rw [c1] at e'
        cases e'
        exact cellK z
  · obtain ⟨w', z⟩ := I.cell y c (cm e)
    exact ⟨w', cellK z⟩
  · have hp' : p ∈ pin := by
      rcases List.mem_append.mp hp with z | z
      · exact absurd (show p ∈ ([] : List (Addr × Obj)) from z) (by simp)
      · exact z
    obtain ⟨q1, q2, q3⟩ := hpin p hp'
    refine ⟨q1, I.hok.fresh (Nat.le_of_lt q2), Nat.ne_of_gt q2, fun hm => ?_, q3⟩
    have hm' : p.1 ∈ frs X.stack := hm
    rcases List.mem_cons.mp (I.stkSub _ hm') with z | z
    · have := I.lt
      rw [← z] at this
      exact absurd (Nat.lt_trans this q2) (Nat.lt_irrefl _)
    · exact I.nofs (Nat.le_of_lt q2) z
  · rw [List.length_set]; exact I.len
end

/-! ### the turns of the generator -/
/-- what is wanted of it: W between the turns (behind i items), Out behind an item that was handed out and will not be followed, Fin behind the last -/
structure Plan where
  W : Nat → L2.St → Hp → Prop
  Out : Bool → Nat → L2.St → Hp → Prop
  Fin : Hp → Prop
def gY (Z : Cx) (pin : List (Addr × Obj)) (fp : List Addr) (tn : Nat → Heap → Prop) (Pn : Plan) (go : Bool) (n g : Nat) : Protocol := fun m _ v s kap =>
  ∃ (i : Nat) (b : Bool) (σ : L2.St) (H : Hp), i + m + 1 = n ∧ v = .bool b ∧ Inv Z pin σ H s ∧ g < s.gens.size ∧
    (if b = go then Pn.W (i + 1) σ H else Pn.Out b i σ H) ∧
    (b = go → ∀ s'' : Shared, s''.heap = s.heap → s''.os = s.os → AllBare s''.gens → g < s''.gens.size → kap (.send .none) s'')
def gP (Z : Cx) (pin : List (Addr × Obj)) (Pn : Plan) (g : Nat) : Nat → Shared → Shared → Prop := fun _ _ s => ∃ σ H, Inv Z pin σ H s ∧ Pn.Fin H ∧ g < s.gens.size

/-- one item, the plan's way -/
def Turns (J : It) (g : TG) (te : TE) (go : Bool) (n : Nat) (Pn : Plan) : Prop :=
  ∀ i σ H, i ≤ n → Pn.W i σ H → (J.stop i H ∧ Pn.Fin H) ∨ (i < n ∧ J.go i H ∧ ∀ x H', J.yld i H x H' → g x σ H' fun σ2 H2 => te σ2 H2 fun v H3 => ∃ b, v = .bl b ∧ if b = go then Pn.W (i + 1) σ2 H3 else Pn.Out b i σ2 H3)

theorem inv_same {Z : Cx} {pin : List (Addr × Obj)} {σ : L2.St} {H : Hp} {s s' : Shared} (I : Inv Z pin σ H s) (hh : s'.heap = s.heap) (ho : s'.os = s.os) (hb : AllBare s'.gens) : Inv Z pin σ H s' := by
  obtain ⟨hp, gg, d, t, os⟩ := s'
  subst hh
  subst ho
  exact ⟨I.ok, I.os, hb, I.base, I.loc, I.cell, I.free, I.freeC, I.pin, I.hok, I.len⟩

theorem seg_turns {Z : Cx} {elt tg iter : Expr} {scope : Scope} {pos : Pos} {it : Addr} {fp : List Addr} {tn : Nat → Heap → Prop} {J : It} {gt : TG} {te : TE} {A : Around} {pin : List (Addr × Obj)} {go : Bool} {n g : Nat} {Pn : Plan}
    (T : Turn Z.prog Z.w Z.K tg J fp it tn) (hg : PG Z tg gt) (hel : PE Z elt te) (hx : ∀ e s, ¬ Z.xe e s) (hc : Z.calm = true) (hco : Z.env.scope.isCoroutine = false)
    (hA : A.over (.compLoop (.GeneratorExp elt [⟨tg, iter, [], 0⟩] scope pos) 0 (.ref it) .none Z.env) [] = Z.A) (tt : Turns J gt te go n Pn)
    (stat : ∀ {H : Hp}, (∀ d ∈ fp, H d = none) → ∀ d ∈ fp, FpOk Z pin H d) :
    ∀ (k i : Nat) (s₀ s : Shared) (σ : L2.St) (H : Hp), i + k = n → Inv Z pin σ H s → tn i s.heap → (∀ d ∈ fp, H d = none) → g < s.gens.size → Pn.W i σ H →
      Seg (model Z.prog Z.w) A (fun m s₁ r s₂ => r = .ok .next ∧ gP Z pin Pn g m s₁ s₂) (gY Z pin fp tn Pn go n g) k s₀
        (.compLoop (.GeneratorExp elt [⟨tg, iter, [], 0⟩] scope pos) 0 (.ref it) .none Z.env)
        ((model Z.prog Z.w).den (.compLoop (.GeneratorExp elt [⟨tg, iter, [], 0⟩] scope pos) 0 (.ref it) .none Z.env)) [] s := by
  intro k
  induction k with
  | zero =>
    intro i s₀ s σ H hk I hst hn hgz hw
    show Seg _ A _ _ _ s₀ _ ((compTurn (.GeneratorExp elt [⟨tg, iter, [], 0⟩] scope pos) 0 (.ref it) .none Z.env).onRaise (leaving Z.env)) [] s
    rw [compTurn_gen, Sem.onRaise_eq_wrap]
    refine seg_bind_wrap (wpAny_standAt ?_)
    rcases tt i σ H (by omega) hw with ⟨stp, fin⟩ | ⟨hlt, _⟩
    · refine seg_bind_wrap ?_
      rw [hA]
      refine GenW.wpAny_gsz (n := g + 1) hgz (wpAny_mono (T.done Z rfl rfl rfl hc i pin s σ H (fun _ _ => False) I (stat hn) hst stp) (fun r s1 h1 hz => ?_) fun _ _ e => e.elim)
      obtain ⟨hr, I1⟩ := h1
      subst hr
      exact seg_end (.ok .next) ⟨rfl, σ, H, I1, fin, hz⟩
    · exact absurd hlt (by omega)
  | succ k ih =>
    intro i s₀ s σ H hk I hst hn hgz hw
    show Seg _ A _ _ _ s₀ _ ((compTurn (.GeneratorExp elt [⟨tg, iter, [], 0⟩] scope pos) 0 (.ref it) .none Z.env).onRaise (leaving Z.env)) [] s
    rw [compTurn_gen, Sem.onRaise_eq_wrap]
    refine seg_bind_wrap (wpAny_standAt ?_)
    refine seg_bind_wrap ?_
    rw [hA]
    rcases tt i σ H (by omega) hw with ⟨stp, fin⟩ | ⟨hlt, gO, step⟩
    · refine GenW.wpAny_gsz (n := g + 1) hgz (wpAny_mono (T.done Z rfl rfl rfl hc i pin s σ H (fun _ _ => False) I (stat hn) hst stp) (fun r s1 h1 hz => ?_) fun _ _ e => e.elim)
      obtain ⟨hr, I1⟩ := h1
      subst hr
      exact seg_end (.ok .next) ⟨rfl, σ, H, I1, fin, hz⟩
    · refine GenW.wpAny_gsz (n := g + 1) hgz (wpAny_mono (T.item Z rfl rfl rfl hc i pin s σ H (fun _ _ => False) I (stat hn) hst gO) (fun r s1 h1 hz1 => ?_) fun _ _ e => e.elim)
      obtain ⟨u, hr, h1⟩ := h1
      subst hr
      refine seg_bind_wrap ?_
      rw [hA]
      refine GenW.wpAny_gsz (n := g + 1) hz1 (wpAny_mono h1 (fun _ s2 h2 hz2 => ?_) fun _ _ e => e.elim)
      obtain ⟨x, H2, I2, r2, y2, st2, n2⟩ := h2
      have P2 := I2.pinned (stat n2) (T.obj _ _ st2)
      refine seg_bind_wrap ?_
      rw [hA]
      refine GenW.wpAny_gsz (n := g + 1) hz2 (wpAny_mono (hg.run _ s2 σ H2 x u _ P2 r2 (step x H2 y2)) (fun _ s3 h3 hz3 => ?_) fun e s3 he _ => (hx e s3 he).elim)
      obtain ⟨σ3, H3, I3, q3⟩ := h3
      refine seg_bind_wrap ?_
      simp only [List.forIn_nil]
      refine wpAny_pure ?_
      simp only [if_true]
      have hy : ∀ v, yieldOut Z.env v = yieldValue v := fun v => by simp only [yieldOut, hco, Bool.false_eq_true, if_false]
      simp only [hy]
      rw [Sem.bind_eq_wrap', Sem.bind_eq_wrap', Sem.wrap_wrap, Sem.wrap_wrap]
      refine seg_wrap ?_
      rw [hA]
      refine GenW.wpAny_gsz (n := g + 1) hz3 (wpAny_mono (hel.run _ s3 σ3 H3 _ I3 q3) (fun v s4 h4 hz4 => ?_) fun e s4 he _ => (hx e s4 he).elim)
      obtain ⟨w4, H4, I4, r4, b, eb, q4⟩ := h4
      subst eb
      obtain rfl : v = Value.bool b := r4
      have st4 : tn (i + 1) s4.heap := T.keep _ _ _ st2 fun d hd o e => (I4.pin (d, o) (List.mem_append_right _ (List.mem_append_right _ (mem_pinsAt hd e)))).1
      have n4 : ∀ d ∈ fp, H4 d = none := fun d hd => by
        obtain ⟨o, e, _⟩ := T.obj _ _ st2 d hd
        exact (I4.pin (d, o) (List.mem_append_right _ (List.mem_append_right _ (mem_pinsAt hd e)))).2.1
      have I4' := I4.unpinned
      refine seg_at (seg_yield rfl rfl rfl ⟨i, b, σ3, H4, by omega, rfl, I4', hz4, q4, fun hb s'' e1 e2 e3 e4 => ?_⟩)
      rw [if_pos hb] at q4
      exact seg_again rfl (ih (i + 1) s'' s'' σ3 H4 (by omega) (inv_same I4' e1 e2 e3) (by rw [e1]; exact st4) n4 e4 q4)

theorem seg_begin {Z : Cx} {elt tg iter : Expr} {scope : Scope} {pos : Pos} {it : Addr} {fp : List Addr} {tn : Nat → Heap → Prop} {J : It} {gt : TG} {te : TE} {A : Around} {pin : List (Addr × Obj)} {go : Bool} {n g : Nat} {Pn : Plan}
    (T : Turn Z.prog Z.w Z.K tg J fp it tn) (hg : PG Z tg gt) (hel : PE Z elt te) (hx : ∀ e s, ¬ Z.xe e s) (hc : Z.calm = true) (hco : Z.env.scope.isCoroutine = false)
    (hA : A.over (.compLoop (.GeneratorExp elt [⟨tg, iter, [], 0⟩] scope pos) 0 (.ref it) .none Z.env) [] = Z.A) (tt : Turns J gt te go n Pn)
    (stat : ∀ {H : Hp}, (∀ d ∈ fp, H d = none) → ∀ d ∈ fp, FpOk Z pin H d)
    (s₀ s : Shared) (σ : L2.St) (H : Hp) (I : Inv Z pin σ H s) (hst : tn 0 s.heap) (hn : ∀ d ∈ fp, H d = none) (hgz : g < s.gens.size) (hw : Pn.W 0 σ H) :
    Seg (model Z.prog Z.w) A (fun m s₁ r s₂ => r = .ok .next ∧ gP Z pin Pn g m s₁ s₂) (gY Z pin fp tn Pn go n g) n s₀
      (.compStart (.GeneratorExp elt [⟨tg, iter, [], 0⟩] scope pos) 0 (.ref it) .none Z.env)
      ((model Z.prog Z.w).den (.compStart (.GeneratorExp elt [⟨tg, iter, [], 0⟩] scope pos) 0 (.ref it) .none Z.env)) [] s := by
  have lp := seg_turns (pos := pos) T hg hel hx hc hco hA tt stat n 0 s₀ s σ H (by omega) I hst hn hgz hw
  show Seg _ A _ _ _ s₀ _ ((compStart (.GeneratorExp elt [⟨tg, iter, [], 0⟩] scope pos) 0 (.ref it) .none Z.env).onRaise (leaving Z.env)) [] s
  unfold compStart
  rw [Sem.onRaise_eq_wrap]
  show Seg _ A _ _ _ s₀ _ ((ask >>= _).wrap _ _ _ _) [] s
  refine seg_bind_wrap (wpAny_askSetting ?_)
  split
  · exact seg_again rfl lp
  · refine seg_bind_wrap (wpAny_rule ?_)
    show Seg _ A _ _ _ s₀ _ ((standAt iter.pos >>= _).wrap _ _ _ _) [] s
    exact seg_bind_wrap (wpAny_standAt (seg_bind_wrap (T.self _ 0 s _ _ hst (seg_again rfl lp))))

/-! ### the walk by all, by any -/
theorem isGen_pin {Z : Cx} {σ : L2.St} {H : Hp} {s : Shared} {a : Addr} {o : Obj} {g : Nat} {nm qn : Value} (hc : o.cls = .type "generator") (hd : o.data = .fields #[.int g 0, nm, qn]) (hs : o.slots = #[]) (I : Inv Z [(a, o)] σ H s) : s.heap.IsGen a g :=
  ⟨o, nm, qn, (I.pin (a, o) (List.mem_append_right _ (List.mem_singleton.mpr rfl))).1, hc, hd, hs⟩

section
variable {Z : Cx} {fp : List Addr} {tn : Nat → Heap → Prop} {A : Around} {a : Addr} {o : Obj} {n g : Nat} {Pn : Plan} {R : Result → Shared → Prop} {nm qn : Value}

theorem all_walk (hoc : o.cls = .type "generator") (hod : o.data = .fields #[.int g 0, nm, qn]) (hos : o.slots = #[]) (hh : A.handled = none) (hroom : A.depth < recursionLimit)
    (hOut : ∀ i σ H s, Inv Z [(a, o)] σ H s → Pn.Out false i σ H → R (.ok (.ret (.bool false))) s)
    (hFin : ∀ σ H s, Inv Z [(a, o)] σ H s → Pn.Fin H → R (.ok (.ret (.bool true))) s) :
    ∀ (m : Nat) (s : Shared) (gs : GenState) (σ : L2.St) (H : Hp), Inv Z [(a, o)] σ H s → s.gens[g]? = some gs → gs.Goes (model Z.prog Z.w) A.in1.in1 (fun m s₁ r s₂ => r = .ok .next ∧ gP Z [(a, o)] Pn g m s₁ s₂) (gY Z [(a, o)] fp tn Pn true n g) m (.send .none) (s.setGen g .running) →
      codeAny (model Z.prog Z.w) A (.builtin "all.loop" ⟨[.ref a], []⟩) R s := by
  intro m
  induction m with
  | zero =>
    intro s gs σ H I hgs hgo
    refine codeAny_builtin F.entry_all_loop ?_
    rw [Around.under_plainId F.plain_all_loop _]
    show wpAny _ A.in1 (pyNext (.ref a) >>= _) _ _ s
    refine wpAny_bind (wpAny_pyNext_genexpQ (P := gP Z [(a, o)] Pn g) hh I.nolimit hroom (isGen_pin hoc hod hos I) hgs hgo (fun v s₁ gs' hb hv => ?_) (fun s₁ hp h' hk => ?_))
    · obtain ⟨i, b, σ1, H1, hi, rfl, I1, hz, q, hkap⟩ := hv
      cases b with
      | true => exact (hkap rfl s₁ rfl rfl I1.bare hz).elim
      | false =>
        refine wpAny_bind (wpAny_holding (wpAny_truthy_bool ?_))
        refine wpAny_bind (wpAny_letGo ?_)
        simp only [Bool.false_eq_true, if_false]
        refine wpAny_bind (wpAny_rule (wpAny_pure ?_))
        exact hOut i σ1 H1 _ (inv_gens I1 (bare_set I1.bare hb)) (by simpa using q)
    · obtain ⟨σ1, H1, I1, q, hz⟩ := hp
      refine wpAny_bind (wpAny_rule (wpAny_pure ?_))
      exact hFin σ1 H1 _ ((inv_gens I1 (bare_set I1.bare rfl)).kept hk) q
  | succ m ih =>
    intro s gs σ H I hgs hgo
    refine codeAny_builtin F.entry_all_loop ?_
    rw [Around.under_plainId F.plain_all_loop _]
    show wpAny _ A.in1 (pyNext (.ref a) >>= _) _ _ s
    refine wpAny_bind (wpAny_pyNext_genexpQ (P := gP Z [(a, o)] Pn g) hh I.nolimit hroom (isGen_pin hoc hod hos I) hgs hgo (fun v s₁ gs' hb hv => ?_) (fun s₁ hp h' hk => ?_))
    · obtain ⟨i, b, σ1, H1, hi, rfl, I1, hz, q, hkap⟩ := hv
      refine wpAny_bind (wpAny_holding (wpAny_truthy_bool ?_))
      refine wpAny_bind (wpAny_letGo ?_)
      have hz' : g < (s₁.setGen g gs').gens.size := by rw [GenW.setGen_size]; exact hz
      cases b with
      | true =>
        simp only [if_true]
        refine wpAny_pure ⟨plainId_quiet F.plain_all_loop _, ih (s₁.setGen g gs') gs' σ1 H1 (inv_gens I1 (bare_set I1.bare hb)) ?_ ?_⟩
        · show (s₁.gens.setIfInBounds g gs')[g]? = some gs'
          rw [Array.getElem?_setIfInBounds_self_of_lt hz]
        · exact hkap rfl _ rfl rfl (bare_set (bare_set I1.bare hb) rfl) (by rw [GenW.setGen_size]; exact hz')
      | false =>
        simp only [Bool.false_eq_true, if_false]
        refine wpAny_bind (wpAny_rule (wpAny_pure ?_))
        exact hOut i σ1 H1 _ (inv_gens I1 (bare_set I1.bare hb)) (by simpa using q)
    · obtain ⟨σ1, H1, I1, q, hz⟩ := hp
      refine wpAny_bind (wpAny_rule (wpAny_pure ?_))
      exact hFin σ1 H1 _ ((inv_gens I1 (bare_set I1.bare rfl)).kept hk) q

theorem any_walk (hoc : o.cls = .type "generator") (hod : o.data = .fields #[.int g 0, nm, qn]) (hos : o.slots = #[]) (hh : A.handled = none) (hroom : A.depth < recursionLimit)
    (hOut : ∀ i σ H s, Inv Z [(a, o)] σ H s → Pn.Out true i σ H → R (.ok (.ret (.bool true))) s)
    (hFin : ∀ σ H s, Inv Z [(a, o)] σ H s → Pn.Fin H → R (.ok (.ret (.bool false))) s) :
    ∀ (m : Nat) (s : Shared) (gs : GenState) (σ : L2.St) (H : Hp), Inv Z [(a, o)] σ H s → s.gens[g]? = some gs → gs.Goes (model Z.prog Z.w) A.in1.in1 (fun m s₁ r s₂ => r = .ok .next ∧ gP Z [(a, o)] Pn g m s₁ s₂) (gY Z [(a, o)] fp tn Pn false n g) m (.send .none) (s.setGen g .running) →
      codeAny (model Z.prog Z.w) A (.builtin "any.loop" ⟨[.ref a], []⟩) R s := by
  intro m
  induction m with
  | zero =>
    intro s gs σ H I hgs hgo
    refine codeAny_builtin F.entry_any_loop ?_
    rw [Around.under_plainId F.plain_any_loop _]
    show wpAny _ A.in1 (pyNext (.ref a) >>= _) _ _ s
    refine wpAny_bind (wpAny_pyNext_genexpQ (P := gP Z [(a, o)] Pn g) hh I.nolimit hroom (isGen_pin hoc hod hos I) hgs hgo (fun v s₁ gs' hb hv => ?_) (fun s₁ hp h' hk => ?_))
    · obtain ⟨i, b, σ1, H1, hi, rfl, I1, hz, q, hkap⟩ := hv
      cases b with
      | false => exact (hkap rfl s₁ rfl rfl I1.bare hz).elim
      | true =>
        refine wpAny_bind (wpAny_holding (wpAny_truthy_bool ?_))
        refine wpAny_bind (wpAny_letGo ?_)
        simp only [if_true]
        refine wpAny_bind (wpAny_rule (wpAny_pure ?_))
        exact hOut i σ1 H1 _ (inv_gens I1 (bare_set I1.bare hb)) (by simpa using q)
    · obtain ⟨σ1, H1, I1, q, hz⟩ := hp
      refine wpAny_bind (wpAny_rule (wpAny_pure ?_))
      exact hFin σ1 H1 _ ((inv_gens I1 (bare_set I1.bare rfl)).kept hk) q
  | succ m ih =>
    intro s gs σ H I hgs hgo
    refine codeAny_builtin F.entry_any_loop ?_
    rw [Around.under_plainId F.plain_any_loop _]
    show wpAny _ A.in1 (pyNext (.ref a) >>= _) _ _ s
    refine wpAny_bind (wpAny_pyNext_genexpQ (P := gP Z [(a, o)] Pn g) hh I.nolimit hroom (isGen_pin hoc hod hos I) hgs hgo (fun v s₁ gs' hb hv => ?_) (fun s₁ hp h' hk => ?_))
    · obtain ⟨i, b, σ1, H1, hi, rfl, I1, hz, q, hkap⟩ := hv
      refine wpAny_bind (wpAny_holding (wpAny_truthy_bool ?_))
      refine wpAny_bind (wpAny_letGo ?_)
      have hz' : g < (s₁.setGen g gs').gens.size := by rw [GenW.setGen_size]; exact hz
      cases b with
      | false =>
        simp only [Bool.false_eq_true, if_false]
        refine wpAny_pure ⟨plainId_quiet F.plain_any_loop _, ih (s₁.setGen g gs') gs' σ1 H1 (inv_gens I1 (bare_set I1.bare hb)) ?_ ?_⟩
        · show (s₁.gens.setIfInBounds g gs')[g]? = some gs'
          rw [Array.getElem?_setIfInBounds_self_of_lt hz]
        · exact hkap rfl _ rfl rfl (bare_set (bare_set I1.bare hb) rfl) (by rw [GenW.setGen_size]; exact hz')
      | true =>
        simp only [if_true]
        refine wpAny_bind (wpAny_rule (wpAny_pure ?_))
        exact hOut i σ1 H1 _ (inv_gens I1 (bare_set I1.bare hb)) (by simpa using q)
    · obtain ⟨σ1, H1, I1, q, hz⟩ := hp
      refine wpAny_bind (wpAny_rule (wpAny_pure ?_))
      exact hFin σ1 H1 _ ((inv_gens I1 (bare_set I1.bare rfl)).kept hk) q
end

/-! ### the rules -/
/-- the code that runs in the generator's frame, from a builtin's loop -/
abbrev gA (X : Cx) (env : Env) : Around := X.A.in1.in1.deeper env
abbrev gE (X : Cx) (scope : Scope) (C : Addr) (code : Value) : Env := genEnv scope (cloFrom X.env.cells scope.names []) C code builtinsNs X.env
/-- what a walk over the generator leads to: R, from the plan's ends -/
def tAllG (P : Addr) (ix : Nat) (wi : TI) (g : TG) (te : TE) (go : Bool) : TE := fun σ H Q => wi σ H fun J H1 => GxR.TabG H1 P ∧ ∀ H2, GxR.Tabbed P H1 H2 → ∃ (n : Nat) (Pn : Plan), Turns J g te go n Pn ∧ Pn.W 0 (σ.set ix none) H2 ∧
  (∀ i σ' H', Pn.Out (!go) i σ' H' → Q (.bl (!go)) H') ∧ ∀ H', Pn.Fin H' → Q (.bl go) H'

section
variable {X : Cx} {elt iter : Expr} {x : Str} {px p pos gpos : Pos} {scope : Scope} {ix k : Nat} {wi : TI} {g : TG} {te : TE} {P c : Addr}

theorem gen_made {pins : List (Addr × Obj)} {σ : L2.St} {H : Hp} {s : Shared} {go : Bool} {R : V → Hp → Prop} {Q' : Value → Shared → Prop}
    (hr : Room (k + 1) X.A) (TB : GxR.TabB X.base X.mg c P) (hcode : X.env.code = .ref c) (G : GScp X.N X.env.scope scope x ix) (hi : PI X (.Name x px) iter wi)
    (hgt : ∀ (s : Shared) (H : Hp) (C : Addr) (code : Value) (fp : List Addr), PG (gcx X (gA X (gE X scope C code)) s H (gE X scope C code) fp) (.Name x px) g)
    (hel : ∀ (s : Shared) (H : Hp) (C : Addr) (code : Value) (fp : List Addr), Room k (gA X (gE X scope C code)) → PE (gcx X (gA X (gE X scope C code)) s H (gE X scope C code) fp) elt te)
    (hs : ∀ v, genFold iter X.env v = pure v) (I : Inv X pins σ H s) (h : tAllG P ix wi g te go σ H R)
    (hQ : ∀ (Z : Cx) (fp : List Addr) (tn : Nat → Heap → Prop) (a : Addr) (o : Obj) (n gg : Nat) (Pn : Plan) (nm qn : Value) (s5 : Shared) (gs : GenState) (σ5 : L2.St) (H5 : Hp), Z.prog = X.prog → Z.w = X.w →
      o.cls = .type "generator" → o.data = .fields #[.int gg 0, nm, qn] → o.slots = #[] → Inv Z [(a, o)] σ5 H5 s5 → s5.gens[gg]? = some gs →
      gs.Goes (model Z.prog Z.w) X.A.in1.in1 (fun m s₁ r s₂ => r = .ok .next ∧ gP Z [(a, o)] Pn gg m s₁ s₂) (gY Z [(a, o)] fp tn Pn go n gg) n (.send .none) (s5.setGen gg .running) →
      (∀ i σ' H' s', Inv Z [(a, o)] σ' H' s' → Pn.Out (!go) i σ' H' → ∃ H'', Inv X pins σ H'' s' ∧ R (.bl (!go)) H'') →
      (∀ σ' H' s', Inv Z [(a, o)] σ' H' s' → Pn.Fin H' → ∃ H'', Inv X pins σ H'' s' ∧ R (.bl go) H'') → Q' (.ref a) s5) :
    wpAny (model X.prog X.w) X.A (eval (.GeneratorExp elt [⟨.Name x px, iter, [], 0⟩] scope gpos) X.env) Q' X.xe s := by
  have has : ∀ y ∈ scope.names, y.2 = .free → ∃ c, X.env.cells.lookup y.1 = some c := fun y hy e => by
    rcases G.free y hy e with k | k
    · exact I.ok.has _ (.inl k)
    · exact I.ok.has _ (.inr k)
  refine wpAny_GeneratorExp_make G.co (closure_ok has) G.cell G.dot G.kind (by have := hr.dp; omega) ?_ hs
  refine thn (hi.run pins s σ H _ I h) fun xv s1 h1 => thn h1 fun itv s2 h2 => ?_
  obtain ⟨it, fp, tn, J, H1, rfl, I1, T, st1, f1, ⟨ps, hP, ht⟩, plan⟩ := h2
  have hPs : s2.heap.get? P = some { cls := .none, data := .fields ps } := I1.hok P _ hP
  have cd : PySem.W.CodeHd s2.heap c P := TB.code.keeps fun b u e => I1.bk b u e
  have fpP : ∀ b ∈ fp, b ≠ P := fun b hb z => by
    have := (f1 b hb).1
    rw [z, hP] at this
    cases this
  have cont : ∀ (code : Value) (h3 : Heap) (tk : Nat) (ps' : Array Value), Heap.ExtBut P s2.heap h3 → h3.get? P = some { cls := .none, data := .fields ps' } → (∃ more, ps' = ps ++ more) → TriplesOk ps'.toList →
      wpAny (model X.prog X.w) X.A (builtinsFor X.env.globals X.env.builtins) (fun bi s₄ => ∀ h', h'.Ns s₄.heap.objs.size (fun y => if y = (".0" : Str) then some (.ref it) else none) → Heap.SameBut s₄.heap.objs.size (s₄.heap.push { cls := .type "frame", data := .dict #[] }) h' →
          Q' (.ref h'.objs.size) { s₄ with
            gens := s₄.gens.push (.fresh (.compStart (.GeneratorExp elt [⟨.Name x px, iter, [], 0⟩] scope gpos) 0 (.ref it) .none (genEnv scope (cloFrom X.env.cells scope.names []) s₄.heap.objs.size code bi X.env))),
            toks := s₄.toks + 1 + 1 + 1,
            heap := h'.push { cls := .type "generator", data := .fields #[.int s₄.gens.size 0, .str "<genexpr>" (s₄.toks + 1), .str (X.env.qual ++ "<genexpr>") (s₄.toks + 1 + 1)] } }) X.xe { s2 with heap := h3, toks := tk } := by
    intro code h3 tk ps' hx hP3 hmore ht3
    obtain ⟨bm, ob, e1, e2, e3, e4, e5, e6, e7, e8⟩ := TB.bm
    refine wpAny_builtinsFor (m := X.mg) (by rw [I1.ok.glob]; exact (I1.mod.glob.keeps I1.bk).extBut hx TB.gP) e1 e2 (hx _ _ e4 (I1.bk _ _ e5)) e6 e7 e8 ?_
    intro h' hns hsb
    obtain ⟨more, rfl⟩ := hmore
    have I3 : Inv X pins σ (upd H1 P (.tbl (ps ++ more))) { s2 with heap := h3, toks := tk } :=
      GxR.inv_tab (more := more) (h' := h3) (g' := s2.gens) (d' := s2.drawn) (t' := tk) I1 hP (fun b u hb e => hx b u hb e) hP3 I1.bare
    have H2 : GxR.Tabbed P H1 (upd H1 P (.tbl (ps ++ more))) := ⟨⟨ps ++ more, upd_same, ht3⟩, fun b hb => upd_ne hb⟩
    obtain ⟨n, Pn, tt, w0, pOut, pFin⟩ := plan _ H2
    have f3 : ∀ b ∈ fp, FpOk X pins (upd H1 P (.tbl (ps ++ more))) b := fun b hb => ⟨by rw [upd_ne (fpP b hb)]; exact (f1 b hb).1, (f1 b hb).2⟩
    have st3 : tn 0 h3 := T.keep _ _ _ st1 fun b hb o e => hx b o (fpP b hb) e
    have lt3 : ∀ b ∈ fp, b < h3.objs.size := fun b hb => by
      obtain ⟨o, e, _⟩ := T.obj _ _ st3 b hb
      exact Heap.lt_size e
    have hsz : h'.objs.size = h3.objs.size + 1 := by rw [hsb.1, Heap.size_push]
    have kp' : ∀ b o, h3.get? b = some o → h'.get? b = some o := fun b o e => hsb.extBut b o (Nat.ne_of_lt (Heap.lt_size e)) (Heap.get?_push_of_some _ e)
    have key : ∀ (o : Obj) (nm qn : Value), o.cls = .type "generator" → o.data = .fields #[.int s2.gens.size 0, nm, qn] → o.slots = #[] → (h'.push o).get? h'.objs.size = some o →
        Q' (.ref h'.objs.size) { s2 with
            gens := s2.gens.push (.fresh (.compStart (.GeneratorExp elt [⟨.Name x px, iter, [], 0⟩] scope gpos) 0 (.ref it) .none (gE X scope h3.objs.size code))),
            toks := tk + 1 + 1 + 1, heap := h'.push o } := by
      intro o nm qn hc hd hsl hget
      have kp5 : ∀ b u, h3.get? b = some u → (h'.push o).get? b = some u := fun b u e => Heap.get?_push_of_some _ (kp' b u e)
      have bare5 : AllBare (s2.gens.push (.fresh (.compStart (.GeneratorExp elt [⟨.Name x px, iter, [], 0⟩] scope gpos) 0 (.ref it) .none (gE X scope h3.objs.size code)))) := I1.bare.push rfl
      have Rm : Room k (gA X (gE X scope h3.objs.size code)) := ⟨hr.hd, by have := hr.dp; show X.A.depth + 1 + 3 * k + 5 < _; omega, by have := hr.un; show X.A.units + 1 + 1 + 3 + 16 * k + 200 < _; omega⟩
      have J0 := gx_start (A := gA X (gE X scope h3.objs.size code)) (code := code) (fp := fp) (itv := .ref it) (h1 := h'.push o) (tk := tk + 1 + 1 + 1) (pin := [(h'.objs.size, o)])
        (gens' := s2.gens.push (.fresh (.compStart (.GeneratorExp elt [⟨.Name x px, iter, [], 0⟩] scope gpos) 0 (.ref it) .none (gE X scope h3.objs.size code)))) (x := x) (ix := ix) (N := X.N) I3 G
        (Around.frames_deeper I.ok.frames) hr.hd f3 lt3 (hns.push _) kp5 bare5 (fun q hq => by
          rw [List.mem_singleton.mp hq]
          refine ⟨hget, ?_, fun v z => ?_⟩
          · show h3.objs.size < h'.objs.size
            omega
          · rw [hd] at z; cases z)
      have st5 : tn 0 (h'.push o) := T.keep _ _ _ st3 fun b hb u e => kp5 b u e
      have n5 : ∀ d ∈ fp, upd H1 P (.tbl (ps ++ more)) d = none := fun d hd => (f3 d hd).1
      have back : ∀ {σ' : L2.St} {H' : Hp} {s' : Shared}, Inv (gcx X (gA X (gE X scope h3.objs.size code)) { s2 with heap := h3, toks := tk } (upd H1 P (.tbl (ps ++ more))) (gE X scope h3.objs.size code) fp) [(h'.objs.size, o)] σ' H' s' → Inv X pins σ H' s' := fun {σ' H' s'} J =>
        I3.call' (ch := fp) J.os J.base J.hok J.bare fun b hb => ⟨(f3 b hb).2.2.2.1, (f3 b hb).2.1, (f3 b hb).2.2.2.2.1, (f3 b hb).2.2.2.2.2⟩
      have stat : ∀ {HH : Hp}, (∀ d ∈ fp, HH d = none) → ∀ d ∈ fp, FpOk (gcx X (gA X (gE X scope h3.objs.size code)) { s2 with heap := h3, toks := tk } (upd H1 P (.tbl (ps ++ more))) (gE X scope h3.objs.size code) fp) [(h'.objs.size, o)] HH d := fun {HH} hn d hd => by
        refine ⟨hn d hd, Nat.ne_of_lt (lt3 d hd), fun hm => ?_, .inl hd, fun y cc e => (f3 d hd).2.2.2.2.1 y cc (clo_sub has e), fun q hq => ?_⟩
        · have hm' : d ∈ frs X.stack := hm
          rcases List.mem_cons.mp (I3.stkSub d hm') with z | z
          · exact (f3 d hd).2.1 z
          · exact (f3 d hd).2.2.1 z
        · have hq' : q ∈ [(h'.objs.size, o)] := by
            rcases List.mem_append.mp hq with z | z
            · exact absurd (show q ∈ ([] : List (Addr × Obj)) from z) (by simp)
            · exact z
          rw [List.mem_singleton.mp hq']
          show h'.objs.size ≠ d
          exact Nat.ne_of_gt (by rw [hsz]; exact Nat.lt_succ_of_lt (lt3 d hd))
      have gsz : s2.gens.size < (s2.gens.push (GenState.fresh (.compStart (.GeneratorExp elt [⟨.Name x px, iter, [], 0⟩] scope gpos) 0 (.ref it) .none (gE X scope h3.objs.size code)))).size := by
        rw [Array.size_push]; exact Nat.lt_succ_self _
      refine hQ (gcx X (gA X (gE X scope h3.objs.size code)) { s2 with heap := h3, toks := tk } (upd H1 P (.tbl (ps ++ more))) (gE X scope h3.objs.size code) fp) fp tn h'.objs.size o n s2.gens.size Pn nm qn _ _ _ _ rfl rfl hc hd hsl J0 (Array.getElem?_push_size ..) ⟨rfl, ?_⟩ (fun i σ' H' s' J q => ⟨H', back J, pOut i σ' H' q⟩) (fun σ' H' s' J q => ⟨H', back J, pFin H' q⟩)
      refine seg_begin (Z := gcx X (gA X (gE X scope h3.objs.size code)) { s2 with heap := h3, toks := tk } (upd H1 P (.tbl (ps ++ more))) (gE X scope h3.objs.size code) fp) (g := s2.gens.size) (A := X.A.in1.in1)
        T (hgt _ _ _ _ _) (hel _ _ _ _ _ Rm) (fun _ _ z => z) rfl G.co rfl tt stat _ _ _ _ (inv_gens J0 (bare_set bare5 rfl)) st5 n5 ?_ w0
      rw [GenW.setGen_size]
      exact gsz
    exact key _ _ _ rfl rfl rfl (Heap.get?_push_size _ rfl)
  refine ⟨I1.nolimit, ?_⟩
  cases hf : codeAmong gpos ps.toList with
  | none =>
    refine wpAny_genexprCodeX hcode (cd.code hPs ht) (cd.tab hPs) hf fun c' h' tk hx hge hlt hco' _ htab' _ => ?_
    obtain ⟨o1, vs, f1, tf, fl, tg, inF, tx, tt, op, _, _, _, _, _, _, _, _, _, htr, _⟩ := hco'
    exact cont _ h' tk _ hx htab'.2 ⟨_, rfl⟩ htr
  | some cv =>
    refine wpAny_genexprCode_hit hcode (cd.code hPs ht) hf ?_
    exact cont cv s2.heap s2.toks ps (Heap.ExtBut.refl _ _) hPs ⟨#[], by simp⟩ ht

/-- all(elt for x in iter) -/
theorem pe_all (hr : Room (k + 1) X.A) (hga : Gl X "all") (hma : X.mg "all" = none) (TB : GxR.TabB X.base X.mg c P) (hcode : X.env.code = .ref c) (G : GScp X.N X.env.scope scope x ix) (hi : PI X (.Name x px) iter wi)
    (hgt : ∀ (s : Shared) (H : Hp) (C : Addr) (code : Value) (fp : List Addr), PG (gcx X (gA X (gE X scope C code)) s H (gE X scope C code) fp) (.Name x px) g)
    (hel : ∀ (s : Shared) (H : Hp) (C : Addr) (code : Value) (fp : List Addr), Room k (gA X (gE X scope C code)) → PE (gcx X (gA X (gE X scope C code)) s H (gE X scope C code) fp) elt te)
    (hs : ∀ v, genFold iter X.env v = pure v)
    (he : starEach [.GeneratorExp elt [⟨.Name x px, iter, [], 0⟩] scope gpos] X.env = (false, eval (.GeneratorExp elt [⟨.Name x px, iter, [], 0⟩] scope gpos) X.env) :: starEach [] X.env := by rfl) :
    PE X (.Call (.Name "all" p) [.GeneratorExp elt [⟨.Name x px, iter, [], 0⟩] scope gpos] [] pos) (tAllG P ix wi g te true) := by
  refine ⟨fun pins s σ H Q I h => ?_⟩
  refine wpAny_Call_Name_kw (ld_blt I hga hma boot_all ?_)
  refine PyProof.Rows.callWith_builtin1 ?_ he (by rfl)
  rw [he]
  refine Calls.spliced_cons (gen_made hr TB hcode G hi hgt hel hs I h fun Z fp tn a o n gg Pn nm qn s5 gs σ5 H5 e1 e2 hc hd hsl J hgs hgo oOut oFin => ?_)
  refine Calls.spliced_nil ?_
  refine call_function_tree F.kind_all F.plain_all F.entry_all (F.args_all1 _) ?_
  unfold Builtin.«all»
  refine wpAny_bind (m := oneArg "all" _) (wpAny_pure ?_)
  refine wpAny_bind (wpAny_pyIter_gen (isGen_pin hc hd hsl J) ?_)
  refine wpAny_pure ⟨plainId_quiet F.plain_all_loop _, ?_⟩
  rw [← e1, ← e2]
  refine all_walk hc hd hsl hr.hd (by have := hr.dp; show X.A.depth < _; omega) (fun i σ' H' s' J' q => ?_) (fun σ' H' s' J' q => ?_) n s5 gs σ5 H5 J hgs hgo
  · obtain ⟨H'', I', q'⟩ := oOut i σ' H' s' J' q
    exact ⟨.bl false, H'', I', rfl, q'⟩
  · obtain ⟨H'', I', q'⟩ := oFin σ' H' s' J' q
    exact ⟨.bl true, H'', I', rfl, q'⟩
/-- any(elt for x in iter) -/
theorem pe_any (hr : Room (k + 1) X.A) (hga : Gl X "any") (hma : X.mg "any" = none) (TB : GxR.TabB X.base X.mg c P) (hcode : X.env.code = .ref c) (G : GScp X.N X.env.scope scope x ix) (hi : PI X (.Name x px) iter wi)
    (hgt : ∀ (s : Shared) (H : Hp) (C : Addr) (code : Value) (fp : List Addr), PG (gcx X (gA X (gE X scope C code)) s H (gE X scope C code) fp) (.Name x px) g)
    (hel : ∀ (s : Shared) (H : Hp) (C : Addr) (code : Value) (fp : List Addr), Room k (gA X (gE X scope C code)) → PE (gcx X (gA X (gE X scope C code)) s H (gE X scope C code) fp) elt te)
    (hs : ∀ v, genFold iter X.env v = pure v)
    (he : starEach [.GeneratorExp elt [⟨.Name x px, iter, [], 0⟩] scope gpos] X.env = (false, eval (.GeneratorExp elt [⟨.Name x px, iter, [], 0⟩] scope gpos) X.env) :: starEach [] X.env := by rfl) :
    PE X (.Call (.Name "any" p) [.GeneratorExp elt [⟨.Name x px, iter, [], 0⟩] scope gpos] [] pos) (tAllG P ix wi g te false) := by
  refine ⟨fun pins s σ H Q I h => ?_⟩
  refine wpAny_Call_Name_kw (ld_blt I hga hma boot_any ?_)
  refine PyProof.Rows.callWith_builtin1 ?_ he (by rfl)
  rw [he]
  refine Calls.spliced_cons (gen_made hr TB hcode G hi hgt hel hs I h fun Z fp tn a o n gg Pn nm qn s5 gs σ5 H5 e1 e2 hc hd hsl J hgs hgo oOut oFin => ?_)
  refine Calls.spliced_nil ?_
  refine call_function_tree F.kind_any F.plain_any F.entry_any (F.args_any1 _) ?_
  unfold Builtin.«any»
  refine wpAny_bind (m := oneArg "any" _) (wpAny_pure ?_)
  refine wpAny_bind (wpAny_pyIter_gen (isGen_pin hc hd hsl J) ?_)
  refine wpAny_pure ⟨plainId_quiet F.plain_any_loop _, ?_⟩
  rw [← e1, ← e2]
  refine any_walk hc hd hsl hr.hd (by have := hr.dp; show X.A.depth < _; omega) (fun i σ' H' s' J' q => ?_) (fun σ' H' s' J' q => ?_) n s5 gs σ5 H5 J hgs hgo
  · obtain ⟨H'', I', q'⟩ := oOut i σ' H' s' J' q
    exact ⟨.bl true, H'', I', rfl, q'⟩
  · obtain ⟨H'', I', q'⟩ := oFin σ' H' s' J' q
    exact ⟨.bl false, H'', I', rfl, q'⟩
end
end Gx

/-! What the defs of the table law share: heaps with tables of code, data at any depth (an empty dict too), ranges kept, sets of a list, repr of data. -/
namespace Tb
open PySem PySem.Spec PyProof.Rows L2

/-! ### heaps: all but the tables of code stands -/
structure Kp (H H' : Hp) : Prop where
  keep : ∀ b o, H b = some o → (∀ ps, o ≠ .tbl ps) → H' b = some o
  tab : ∀ P, GxR.TabG H P → GxR.TabG H' P
theorem Kp.refl (H : Hp) : Kp H H := ⟨fun _ _ h _ => h, fun _ h => h⟩
theorem Kp.trans {A B C : Hp} (x : Kp A B) (y : Kp B C) : Kp A C := ⟨fun b o h n => y.keep b o (x.keep b o h n) n, fun P h => y.tab P (x.tab P h)⟩
theorem tabG_of {H H' : Hp} {P : Addr} (e : ∀ b o, H b = some o → H' b = some o) (h : GxR.TabG H P) : GxR.TabG H' P := by
  obtain ⟨ps, h1, h2⟩ := h
  exact ⟨ps, e _ _ h1, h2⟩
theorem Kp.of {H H' : Hp} (e : ∀ b o, H b = some o → H' b = some o) : Kp H H' := ⟨fun b o h _ => e b o h, fun _ h => tabG_of e h⟩
theorem Kp.new {H : Hp} {p : Addr} {o : HO} (h : H p = none) : Kp H (upd H p o) := Kp.of fun b u e => by
  rw [upd_ne (ne_of_none e h)]; exact e
theorem Kp.tabbed {P : Addr} {H H' : Hp} (hP : GxR.TabG H P) (t : GxR.Tabbed P H H') : Kp H H' := by
  refine ⟨fun b o h n => ?_, fun Q h => ?_⟩
  · obtain ⟨ps, hp, _⟩ := hP
    have : b ≠ P := fun z => by
      rw [z, hp] at h
      exact n ps (Option.some.inj h).symm
    rw [t.2 b this]; exact h
  · by_cases q : Q = P
    · rw [q]; exact t.1
    · obtain ⟨ps, h1, h2⟩ := h
      exact ⟨ps, by rw [t.2 Q q]; exact h1, h2⟩
theorem Kp.lst {H H' : Hp} (k : Kp H H') {a : Addr} {xs : List V} (h : H a = some (.lst xs)) : H' a = some (.lst xs) := k.keep a _ h fun ps z => by cases z
theorem Kp.tup {H H' : Hp} (k : Kp H H') {a : Addr} {xs : List V} (h : H a = some (.tup xs)) : H' a = some (.tup xs) := k.keep a _ h fun ps z => by cases z
theorem Kp.dK {H H' : Hp} (k : Kp H H') {a : Addr} {xs} (h : H a = some (.dK xs)) : H' a = some (.dK xs) := k.keep a _ h fun ps z => by cases z
theorem Kp.sqL {K : PySem.W.Frag} {H H' : Hp} (k : Kp H H') {a : Addr} {xs : List V} (h : SqL K H a xs) : SqL K H' a xs := by
  rcases h with (h | ⟨o, h⟩) | h
  · exact .inl (.inl (k.lst h))
  · exact .inl (.inr ⟨o, k.keep a _ h fun ps z => by cases z⟩)
  · exact .inr h
theorem Kp.sqT {K : PySem.W.Frag} {H H' : Hp} (k : Kp H H') {a : Addr} {xs : List V} (h : SqT K H a xs) : SqT K H' a xs := by
  rcases h with (h | ⟨o, h⟩) | h
  · exact .inl (.inl (k.tup h))
  · exact .inl (.inr ⟨o, k.keep a _ h fun ps z => by cases z⟩)
  · exact .inr h
/-- the heap without p -/
def del (H : Hp) (p : Addr) : Hp := fun b => if b = p then none else H b
theorem del_ne {H : Hp} {p b : Addr} (h : b ≠ p) : del H p b = H b := if_neg h
theorem del_some {H : Hp} {p b : Addr} {o : HO} (h : del H p b = some o) : b ≠ p ∧ H b = some o := by
  unfold del at h
  split at h
  · cases h
  · exact ⟨by assumption, h⟩
theorem del_sub {H : Hp} {p : Addr} : ∀ b o, del H p b = some o → H b = some o := fun b o h => (del_some h).2
theorem Kp.del {H H' : Hp} (k : Kp H H') (p : Addr) (h : ∀ ps, H p ≠ some (.tbl ps)) : Kp (del H p) (del H' p) := by
  refine ⟨fun b o e n => ?_, fun P t => ?_⟩
  · obtain ⟨h1, h2⟩ := del_some e
    rw [del_ne h1]; exact k.keep b o h2 n
  · obtain ⟨ps, e, t2⟩ := t
    obtain ⟨h1, h2⟩ := del_some e
    obtain ⟨qs, e3, t3⟩ := k.tab P ⟨ps, h2, t2⟩
    exact ⟨qs, by rw [del_ne h1]; exact e3, t3⟩

/-! ### data -/
mutual
inductive Rp (K : PySem.W.Frag) (H : Hp) : V → PyData → Prop
  | non : Rp K H .non .none
  | bl (b : Bool) : Rp K H (.bl b) (.bool b)
  | int (i : Int) : Rp K H (.int i) (.int i)
  | str (x : Str) : Rp K H (.str x) (.str x)
  | lst {a : Addr} {xs : List V} {ds : List PyData} : H a = some (.lst xs) → RpL K H xs ds → Rp K H (.ref a) (.list ds)
  | tup {a : Addr} {xs : List V} {ds : List PyData} : H a = some (.tup xs) → RpL K H xs ds → Rp K H (.ref a) (.tuple ds)
  | dct {a : Addr} : H a = some (.dK []) → Rp K H (.ref a) (.dict [])
inductive RpL (K : PySem.W.Frag) (H : Hp) : List V → List PyData → Prop
  | nil : RpL K H [] []
  | cons {v : V} {vs : List V} {d : PyData} {ds : List PyData} : Rp K H v d → RpL K H vs ds → RpL K H (v :: vs) (d :: ds)
end
variable {K : PySem.W.Frag}
mutual
theorem Rp.kp {H H' : Hp} (k : Kp H H') : ∀ {d : PyData} {v : V}, Rp K H v d → Rp K H' v d
  | _, _, .non => .non
  | _, _, .bl b => .bl b
  | _, _, .int i => .int i
  | _, _, .str x => .str x
  | _, _, .lst h a => .lst (k.lst h) (RpL.kp k a)
  | _, _, .tup h a => .tup (k.tup h) (RpL.kp k a)
  | _, _, .dct h => .dct (k.dK h)
theorem RpL.kp {H H' : Hp} (k : Kp H H') : ∀ {ds : List PyData} {vs : List V}, RpL K H vs ds → RpL K H' vs ds
  | _, _, .nil => .nil
  | _, _, .cons a b => .cons (Rp.kp k a) (RpL.kp k b)
end
theorem RpL.length {H : Hp} : ∀ {ds : List PyData} {vs : List V}, RpL K H vs ds → vs.length = ds.length
  | _, _, .nil => rfl
  | _, _, .cons _ t => congrArg Nat.succ (RpL.length t)
theorem RpL.get {H : Hp} : ∀ {ds : List PyData} {vs : List V} {i : Nat} {v : V}, RpL K H vs ds → vs[i]? = some v → ∃ d, ds[i]? = some d ∧ Rp K H v d
  | _, _, _, _, .nil, e => by simp at e
  | _, _, 0, _, .cons r _, e => by simp at e; subst e; exact ⟨_, rfl, r⟩
  | _, _, i + 1, v, .cons _ t, e => by
    obtain ⟨d, h1, h2⟩ := RpL.get (i := i) (v := v) t (by simpa using e)
    exact ⟨d, by simpa using h1, h2⟩
theorem RpL.app {H : Hp} : ∀ {ds es : List PyData} {vs ws : List V}, RpL K H vs ds → RpL K H ws es → RpL K H (vs ++ ws) (ds ++ es)
  | _, _, _, _, .nil, s => s
  | _, _, _, _, .cons r t, s => .cons r (RpL.app t s)
theorem RpL.ints {H : Hp} : ∀ ns : List Int, RpL K H (ns.map V.int) (ns.map PyData.int)
  | [] => .nil
  | n :: r => .cons (.int n) (RpL.ints r)
theorem RpL.set {H : Hp} {x : V} {d : PyData} (r : Rp K H x d) : ∀ {ds : List PyData} {vs : List V} (i : Nat), RpL K H vs ds → RpL K H (vs.set i x) (ds.set i d)
  | _, _, _, .nil => .nil
  | _, _, 0, .cons _ t => .cons r t
  | _, _, i + 1, .cons q t => .cons q (RpL.set r i t)

mutual
theorem Rp.reads {X : Cx} {pins : List (Addr × Obj)} {σ : L2.St} {H : Hp} {s : Shared} (I : Inv X pins σ H s) : ∀ (d : PyData) (v : V) (u : Value), Rp X.K H v d → RelV v u → ∃ as, Reads s.heap u d as ∧ ∀ a ∈ as, H a ≠ none
  | .none, _, _, h, r => by cases h; cases r; exact ⟨_, Reads.none, fun a z => by cases z⟩
  | .bool b, _, _, h, r => by cases h; cases r; exact ⟨_, Reads.bool b, fun a z => by cases z⟩
  | .int i, _, _, h, r => by cases h; obtain ⟨t, rfl⟩ := r; exact ⟨_, Reads.int i t, fun a z => by cases z⟩
  | .str x, _, _, h, r => by cases h; obtain ⟨t, rfl⟩ := r; exact ⟨_, Reads.str x t, fun a z => by cases z⟩
  | .list ds, _, _, h, r => by
    cases h with
    | lst hs ha =>
      cases r
      obtain ⟨z, its, n, rv, ho⟩ := I.hok _ _ hs
      obtain ⟨as, hr, hn⟩ := RpL.reads I ds _ its ha rv
      refine ⟨_, Reads.list ho rfl rfl hr, fun b hb => ?_⟩
      rcases List.mem_cons.mp hb with e | e
      · rw [e, hs]; simp
      · exact hn b e
  | .tuple ds, _, _, h, r => by
    cases h with
    | tup hs ha =>
      cases r
      obtain ⟨z, its, rv, o, ho, hc, n, hd⟩ := I.hok _ _ hs
      obtain ⟨as, hr, hn⟩ := RpL.reads I ds _ its ha rv
      exact ⟨_, Reads.tuple ho hc hd hr, hn⟩
  | .dict kvs, _, _, h, r => by
    cases h with
    | dct hs =>
      cases r
      obtain ⟨_, _, vs, rv, o, es, ep, ho, hx, hd, hk, hp, _⟩ := I.hok _ _ hs
      cases rv
      have e0 : es.toList = [] := by
        cases q : es.toList with
        | nil => rfl
        | cons x t => rw [q] at hp; cases hp
      refine ⟨_, Reads.dict (kvs := []) (as := []) (bs := []) ho hx.1 hd (by rw [e0]; exact .nil) (by rw [e0]; exact .nil), fun b hb => ?_⟩
      rcases List.mem_append.mp hb with e | e
      · rcases List.mem_cons.mp e with e | e
        · rw [e, hs]; simp
        · cases e
      · cases e
theorem RpL.reads {X : Cx} {pins : List (Addr × Obj)} {σ : L2.St} {H : Hp} {s : Shared} (I : Inv X pins σ H s) : ∀ (ds : List PyData) (vs : List V) (us : List Value), RpL X.K H vs ds → Vals vs us → ∃ as, ReadsAll s.heap us ds as ∧ ∀ a ∈ as, H a ≠ none
  | [], _, _, h, r => by cases h; cases r; exact ⟨_, ReadsAll.nil, fun a z => by cases z⟩
  | d :: ds, _, _, h, r => by
    cases h with
    | cons h1 h2 =>
      cases r with
      | cons r1 r2 =>
        obtain ⟨as, q1, n1⟩ := Rp.reads I d _ _ h1 r1
        obtain ⟨bs, q2, n2⟩ := RpL.reads I ds _ _ h2 r2
        refine ⟨_, ReadsAll.cons q1 q2, fun a ha => ?_⟩
        rcases List.mem_append.mp ha with z | z
        · exact n1 a z
        · exact n2 a z
end

/-! ### isinstance of data -/
def tyN : PyData → String
  | .none => "NoneType"
  | .bool _ => "bool"
  | .int _ => "int"
  | .str _ => "str"
  | .list _ => "list"
  | .tuple _ => "tuple"
  | .dict _ => "dict"
theorem tyX_of {H : Hp} {x : V} {d : PyData} (h : Rp K H x d) : TyX K H x (.type (tyN d)) := by
  cases h with
  | non => exact .base .non
  | bl b => exact .base (.bl b)
  | int i => exact .base (.int i)
  | str y => exact .base (.str y)
  | lst h _ => exact .base (.lst h)
  | tup h _ => exact .base (.tup h)
  | dct h => exact .base (.dK h)
def isI : PyData → Bool
  | .int _ => true
  | _ => false
def isIB : PyData → Bool
  | .int _ => true
  | .bool _ => true
  | _ => false
def isB : PyData → Bool
  | .bool _ => true
  | _ => false
def isSq : PyData → Bool
  | .list _ => true
  | .tuple _ => true
  | _ => false
theorem kit_int : ∀ d : PyData, PySem.W.kitOne K (.type (tyN d)) (.type "int") = some (isIB d)
  | .none => kit_ty (show kitB "NoneType" "int" = some false by decide +kernel)
  | .bool _ => kit_ty (show kitB "bool" "int" = some true by decide +kernel)
  | .int _ => kit_ty (show kitB "int" "int" = some true by decide +kernel)
  | .str _ => kit_ty (show kitB "str" "int" = some false by decide +kernel)
  | .list _ => kit_ty (show kitB "list" "int" = some false by decide +kernel)
  | .tuple _ => kit_ty (show kitB "tuple" "int" = some false by decide +kernel)
  | .dict _ => kit_ty (show kitB "dict" "int" = some false by decide +kernel)
theorem kit_bool : ∀ d : PyData, PySem.W.kitOne K (.type (tyN d)) (.type "bool") = some (isB d)
  | .none => kit_ty (show kitB "NoneType" "bool" = some false by decide +kernel)
  | .bool _ => kit_ty (show kitB "bool" "bool" = some true by decide +kernel)
  | .int _ => kit_ty (show kitB "int" "bool" = some false by decide +kernel)
  | .str _ => kit_ty (show kitB "str" "bool" = some false by decide +kernel)
  | .list _ => kit_ty (show kitB "list" "bool" = some false by decide +kernel)
  | .tuple _ => kit_ty (show kitB "tuple" "bool" = some false by decide +kernel)
  | .dict _ => kit_ty (show kitB "dict" "bool" = some false by decide +kernel)
theorem kit_seq : ∀ d : PyData, PySem.W.kitAny K (.type (tyN d)) [.type "list", .type "tuple"] = some (isSq d)
  | .none => kitAny_cons (b := false) (kit_ty (show kitB "NoneType" "list" = some false by decide +kernel)) (fun _ => kitAny_cons (b := false) (kit_ty (show kitB "NoneType" "tuple" = some false by decide +kernel)) (fun _ => kitAny_nil) (fun z => nomatch z)) (fun z => nomatch z)
  | .bool _ => kitAny_cons (b := false) (kit_ty (show kitB "bool" "list" = some false by decide +kernel)) (fun _ => kitAny_cons (b := false) (kit_ty (show kitB "bool" "tuple" = some false by decide +kernel)) (fun _ => kitAny_nil) (fun z => nomatch z)) (fun z => nomatch z)
  | .int _ => kitAny_cons (b := false) (kit_ty (show kitB "int" "list" = some false by decide +kernel)) (fun _ => kitAny_cons (b := false) (kit_ty (show kitB "int" "tuple" = some false by decide +kernel)) (fun _ => kitAny_nil) (fun z => nomatch z)) (fun z => nomatch z)
  | .str _ => kitAny_cons (b := false) (kit_ty (show kitB "str" "list" = some false by decide +kernel)) (fun _ => kitAny_cons (b := false) (kit_ty (show kitB "str" "tuple" = some false by decide +kernel)) (fun _ => kitAny_nil) (fun z => nomatch z)) (fun z => nomatch z)
  | .list _ => kitAny_cons (b := true) (kit_ty (show kitB "list" "list" = some true by decide +kernel)) (fun z => nomatch z) (fun _ => rfl)
  | .tuple _ => kitAny_cons (b := false) (kit_ty (show kitB "tuple" "list" = some false by decide +kernel)) (fun _ => kitAny_cons (b := true) (kit_ty (show kitB "tuple" "tuple" = some true by decide +kernel)) (fun z => nomatch z) (fun _ => rfl)) (fun z => nomatch z)
  | .dict _ => kitAny_cons (b := false) (kit_ty (show kitB "dict" "list" = some false by decide +kernel)) (fun _ => kitAny_cons (b := false) (kit_ty (show kitB "dict" "tuple" = some false by decide +kernel)) (fun _ => kitAny_nil) (fun z => nomatch z)) (fun z => nomatch z)

/-! ### a list or a tuple -/
/-- at a a list or a tuple of xs is to be read -/
def Sq (K : PySem.W.Frag) (H : Hp) (a : Addr) (xs : List V) : Prop := SqL K H a xs ∨ SqT K H a xs
theorem Kp.sq {H H' : Hp} (k : Kp H H') {a : Addr} {xs : List V} (h : Sq K H a xs) : Sq K H' a xs := h.imp k.sqL k.sqT
def kids : PyData → List PyData
  | .list ds => ds
  | .tuple ds => ds
  | _ => []
theorem Rp.sq {H : Hp} {x : V} {d : PyData} (h : Rp K H x d) (hs : isSq d = true) : ∃ a xs, x = .ref a ∧ Sq K H a xs ∧ RpL K H xs (kids d) := by
  cases h with
  | lst h r => exact ⟨_, _, rfl, .inl (.inl (.inl h)), r⟩
  | tup h r => exact ⟨_, _, rfl, .inr (.inl (.inl h)), r⟩
  | _ => cases hs
/-- what a for, a comprehension walks: a list or a tuple -/
def iSq (K : PySem.W.Frag) (tl : TE) : TI := fun σ H R => tl σ H fun x H1 => ∃ a xs, x = .ref a ∧ ((SqL K H1 a xs ∧ R (Itl K a) H1) ∨ (SqT K H1 a xs ∧ R (Itt K a) H1))
section
variable {X : Cx} {tg l : Expr} {tl : TE}
theorem pi_sq (hl : PE X l tl) : PI X tg l (iSq X.K tl) := by
  refine ⟨fun pins s σ H R I h => ?_⟩
  refine thn (hl.run pins s σ H _ I h) fun u s1 h1 => ?_
  obtain ⟨x, H1, I1, r1, a, xs, rfl, q⟩ := h1
  have pe0 : ∀ (R' : It → Hp → Prop) (w0 : L2.St → Hp → (It → Hp → Prop) → Prop), True := fun _ _ => trivial
  rcases q with ⟨q1, q2⟩ | ⟨q1, q2⟩
  · obtain ⟨its, rv, p, hz⟩ := I1.list q1
    cases r1
    refine wpAny_pyIter_list p.isList ?_
    have I2 : Inv X pins σ H1 { s1 with heap := s1.heap.push { cls := .type "list_iterator", data := .fields #[.ref a, .int 0 0] } } := I1.kept (t' := s1.toks) fun b o e => Heap.get?_push_of_some _ e
    exact ⟨s1.heap.objs.size, [s1.heap.objs.size], _, _, H1, rfl, I2, turn_list a _, ⟨_, Heap.get?_push_size _ rfl, rfl, rfl⟩, fun b hb => by
      rw [List.mem_singleton.mp hb]
      exact I1.fpOk (Nat.le_refl _) (I1.hok.fresh (Nat.le_refl _)), q2⟩
  · obtain ⟨its, rv, p, hz⟩ := I1.tuple q1
    cases r1
    refine wpAny_pyIter_tuple p ?_
    have I2 : Inv X pins σ H1 { s1 with heap := s1.heap.push { cls := .type "tuple_iterator", data := .fields #[.ref a, .int 0 0] } } := I1.kept (t' := s1.toks) fun b o e => Heap.get?_push_of_some _ e
    exact ⟨s1.heap.objs.size, [s1.heap.objs.size], _, _, H1, rfl, I2, turn_tuple a _, ⟨_, Heap.get?_push_size _ rfl, rfl, rfl⟩, fun b hb => by
      rw [List.mem_singleton.mp hb]
      exact I1.fpOk (Nat.le_refl _) (I1.hok.fresh (Nat.le_refl _)), q2⟩
end
/-- all(..), any(..) over it: V between the turns -/
theorem rd_all {P : Addr} {ix : Nat} {te : TE} {go : Bool} {σ : L2.St} {H1 : Hp} {Q : VK} {a : Addr} {xs : List V} (V0 : Nat → Hp → Prop) (hq : Sq K H1 a xs) (hP : GxR.TabG H1 P)
    (h0 : ∀ H2, GxR.Tabbed P H1 H2 → V0 0 H2) (hk : ∀ i H', i ≤ xs.length → V0 i H' → Kp H1 H')
    (hs : ∀ i x H', xs[i]? = some x → V0 i H' → te (σ.set ix (some x)) H' fun v H'' => ∃ b, v = .bl b ∧ if b = go then V0 (i + 1) H'' else Q (.bl (!go)) H'')
    (hf : ∀ H', V0 xs.length H' → Q (.bl go) H') :
    (SqL K H1 a xs ∧ (GxR.TabG H1 P ∧ ∀ H2, GxR.Tabbed P H1 H2 → ∃ (n : Nat) (Pn : Gx.Plan), Gx.Turns (Itl K a) (gName ix) te go n Pn ∧ Pn.W 0 (σ.set ix none) H2 ∧
      (∀ i σ' H', Pn.Out (!go) i σ' H' → Q (.bl (!go)) H') ∧ ∀ H', Pn.Fin H' → Q (.bl go) H')) ∨
    (SqT K H1 a xs ∧ (GxR.TabG H1 P ∧ ∀ H2, GxR.Tabbed P H1 H2 → ∃ (n : Nat) (Pn : Gx.Plan), Gx.Turns (Itt K a) (gName ix) te go n Pn ∧ Pn.W 0 (σ.set ix none) H2 ∧
      (∀ i σ' H', Pn.Out (!go) i σ' H' → Q (.bl (!go)) H') ∧ ∀ H', Pn.Fin H' → Q (.bl go) H')) := by
  have pl : ∀ (J : It), (∀ i H', i ≤ xs.length → V0 i H' → (J.stop i H' ∧ i = xs.length) ∨ (i < xs.length ∧ J.go i H' ∧ ∀ x H'', J.yld i H' x H'' → H'' = H' ∧ xs[i]? = some x)) →
      ∀ H2, GxR.Tabbed P H1 H2 → ∃ (n : Nat) (Pn : Gx.Plan), Gx.Turns J (gName ix) te go n Pn ∧ Pn.W 0 (σ.set ix none) H2 ∧ (∀ i σ' H', Pn.Out (!go) i σ' H' → Q (.bl (!go)) H') ∧ ∀ H', Pn.Fin H' → Q (.bl go) H' := by
    intro J hJ H2 h2
    refine ⟨xs.length, ⟨fun i σ' H' => (∃ v, σ' = σ.set ix v) ∧ V0 i H', fun b _ _ H' => b = (!go) ∧ Q (.bl (!go)) H', fun H' => Q (.bl go) H'⟩, ?_, ⟨⟨none, rfl⟩, h0 H2 h2⟩, fun _ _ _ z => z.2, fun _ z => z⟩
    rintro i σ' H' hi ⟨⟨v, rfl⟩, hv⟩
    rcases hJ i H' hi hv with ⟨s1, s2⟩ | ⟨s1, s2, s3⟩
    · subst s2
      exact .inl ⟨s1, hf H' hv⟩
    · refine .inr ⟨s1, s2, fun x H'' hy => ?_⟩
      obtain ⟨rfl, hx⟩ := s3 x H'' hy
      show te ((σ.set ix v).set ix (some x)) H'' _
      rw [List.set_set]
      have := hs i x H'' hx hv
      have e : (fun (v : V) (H'' : Hp) => ∃ b, v = .bl b ∧ if b = go then V0 (i + 1) H'' else Q (.bl (!go)) H'') = fun (v : V) (H3 : Hp) => ∃ b, v = V.bl b ∧ if b = go then (∃ v, σ.set ix (some x) = σ.set ix v) ∧ V0 (i + 1) H3 else b = (!go) ∧ Q (.bl (!go)) H3 := by
        funext v H3
        apply propext
        constructor
        · rintro ⟨b, rfl, q⟩
          refine ⟨b, rfl, ?_⟩
          by_cases hb : b = go
          · rw [if_pos hb] at q ⊢
            exact ⟨⟨_, rfl⟩, q⟩
          · rw [if_neg hb] at q ⊢
            exact ⟨by cases b <;> cases go <;> first | rfl | exact absurd rfl hb, q⟩
        · rintro ⟨b, rfl, q⟩
          refine ⟨b, rfl, ?_⟩
          by_cases hb : b = go
          · rw [if_pos hb] at q ⊢
            exact q.2
          · rw [if_neg hb] at q ⊢
            exact q.2
      rw [← e]
      exact this
  rcases hq with hq | hq
  · refine .inl ⟨hq, hP, pl _ fun i H' hi hv => ?_⟩
    have h' := (hk i H' hi hv).sqL hq
    rcases Nat.lt_or_ge i xs.length with hlt | hge
    · exact .inr ⟨hlt, ⟨xs, xs[i], h', List.getElem?_eq_getElem hlt⟩, fun x H'' hy => ⟨hy.1, hy.2 xs h'⟩⟩
    · exact .inl ⟨⟨xs, h', hge⟩, by omega⟩
  · refine .inr ⟨hq, hP, pl _ fun i H' hi hv => ?_⟩
    have h' := (hk i H' hi hv).sqT hq
    rcases Nat.lt_or_ge i xs.length with hlt | hge
    · exact .inr ⟨hlt, ⟨xs, xs[i], h', List.getElem?_eq_getElem hlt⟩, fun x H'' hy => ⟨hy.1, hy.2 xs h'⟩⟩
    · exact .inl ⟨⟨xs, h', hge⟩, by omega⟩
end Tb

namespace Tb
open PySem PySem.Spec PyProof.Rows L2

/-! ### a def that wants to know what is being shown around it, and where sys.modules stands -/
structure FnG (P : Program) (w : World) (K : PySem.W.Frag) (mg : Str → Option Value) (base : Heap) (k : Nat) (f : Addr) (fd : FuncData) (ps : List Str) (sp : Sp) : Prop where
  len : ∀ vs H Q E, sp vs H Q E → vs.length = ps.length
  run : ∀ (A : Around) (outer : List Env) (s : Shared) (H : Hp) (args : Args) (us : List Value) (vs : List V) (Q : VK), Room k A → A.guards = some [] → Env0 P w K mg base A outer s H → BindsTo s fd args (ps.zip us) → Vals vs us → sp vs H Q E0 →
    codeAny (model P w) A (.call (.ref f) args) (CR CX0 outer P w H s Q E0) s
section
variable {P : Program} {w : World} {K : PySem.W.Frag} {mg : Str → Option Value} {base : Heap} {N ps : List Str} {qual x : Str} {st : Stmt} {f : Addr} {fd : FuncData} {k : Nat} {sp : Sp}
theorem okG (F : Fun K x qual st f fd) (S : FnScope N ps (defScope st)) (len : ∀ vs H Q E, sp vs H Q E → vs.length = ps.length)
    (hb : ∀ (cdv : Value) (A : Around) (outer : List Env) (s : Shared) (H : Hp) (vs : List V) (Q : VK), Room k (A.deeper (envOfC qual (defScope st) s.heap.objs.size f cdv)) → A.guards = some [] → sp vs H Q E0 →
      ∃ t, PSs (cxOf CX0 P w K mg base N qual (defScope st) f cdv A outer s H E0).nox (defBody st) t ∧ t { nx := fun _ H' => Q .non H', rt := Q } (start N vs) H) : FnG P w K mg base (k + 1) f fd ps sp := by
  obtain ⟨oc, od, kV, doc, pm, an, cdv, ct, osl, rfl, lk, hcd⟩ := F.ex
  refine ⟨len, fun A outer s H args us vs Q hr hgd e0 hbn r hsp => ?_⟩
  have hl := len _ _ _ _ hsp
  have inS : K.In s.heap := e0.mod.kin.keeps fun b o e => (e0.bs b o e).1
  have noL : s.heap.NoLimit := e0.mod.nolimit.keeps fun b o e => (e0.bs b o e).1
  have kinds : ∀ y ∈ ps.zip us, (defScope st).names.lookup y.1 = some .local ∨ ((defScope st).names.lookup y.1 = some .cell ∧ ((cellsFrom (s.heap.objs.size + 1) (defScope st).names []).lookup y.1).isSome = true) := by
    rintro ⟨n, v⟩ hy
    rcases S.par n (List.of_mem_zip hy).1 with q | q
    · exact .inl q
    · exact .inr ⟨q, PySem.W.cellsFrom_some _ _ _ (.inl q)⟩
  refine codeAny_call_function hr.depth (inS _ _ lk) rfl S.co S.gen rfl (PySem.W.codeRec_of inS hcd) (hbn _ _ _ _ ?_)
  refine wpAny_newFunctionEnv_cells S.kind kinds fun env he s1 xc => ?_
  subst he
  refine ⟨noL.keeps xc.toInCall.keep, codeAny_func ?_⟩
  obtain ⟨t, ht, hq⟩ := hb cdv A outer s H vs Q (hr.deeper _) hgd hsp
  have J : Inv (cxOf CX0 P w K mg base N qual (defScope st) f cdv A outer s H E0) [] (start N vs) H s1 := inv_start S hr.hd e0 hl r xc
  refine wpAny_mono (ht.nox.run [] s1 (start N vs) H _ J hq) (fun fl s' hs => ?_) fun e s' hs => hs
  cases fl with
  | ret u =>
    obtain ⟨v, σ', H', I', rv, q⟩ := hs
    exact ⟨v, H', I'.os, I'.bare, I'.base, I'.hok, rv, q⟩
  | next =>
    obtain ⟨σ', H', I', q⟩ := hs
    exact ⟨V.non, H', I'.os, I'.bare, I'.base, I'.hok, rfl, q⟩
  | brk => obtain ⟨_, _, _, q⟩ := hs; exact q.elim
  | cont => obtain ⟨_, _, _, q⟩ := hs; exact q.elim
end
section
variable {X : Cx} {k : Nat} {f : Addr} {fd : FuncData} {ps : List Str} {sp : Sp} {x : Str} {p pos : Pos} {e : Expr} {es : List Expr} {t : TA}
theorem pe_callG (F : FnG X.prog X.w X.K X.mg X.base k f fd ps sp) (hr : Room k X.A) (hgd : X.A.guards = some []) (hg : Gl X x) (hm : X.mg x = some (.ref f)) (hk : PySem.W.keepIn X.K (.ref f) = true) (hb : Binds X.K fd ps [])
    (ha : PA X (e :: es) t) (hdb : (x == ("__debug__" : Str)) = false := by decide) (he : starEach (e :: es) X.env = (false, eval e X.env) :: starEach es X.env := by rfl) (hpl : (backTo pos (starEach es X.env)).any (·.1) = false := by rfl) :
    PE X (.Call (.Name x p) (e :: es) [] pos) (tCall sp [] E0 t) := by
  refine ⟨fun pins s σ H Q I h => ?_⟩
  refine wpAny_Call_Name_kw (ld_glob I hg hm ?_ hdb)
  refine PySem.W.callWith_K (h₀ := X.base) I.ok.mod.kin hk (thn (ha.run pos pins s σ H _ I h) fun us s1 h1 => ?_) he hpl
  obtain ⟨vs, H1, I1, r, q⟩ := h1
  refine ⟨I1.kIn, ?_⟩
  rw [List.append_nil] at q
  have hl : us.length = ps.length := by rw [← r.length]; exact F.len _ _ _ _ q
  have bt := hb s1 us I1.kIn (by rw [List.append_nil]; exact hl)
  rw [List.append_nil] at bt
  refine wpAny_call (codeAny_mono (F.run X.A X.stack s1 H1 ⟨us, []⟩ us vs Q hr hgd I1.env0 bt r q) fun r s' hq => ?_)
  cases r with
  | error e => exact hq.elim
  | ok fl =>
    cases fl with
    | ret u => exact I1.after hq
    | next => exact hq.elim
    | brk => exact hq.elim
    | cont => exact hq.elim
end

/-! ### repr -/
section
variable {X : Cx}
/-- repr of data; of a bool -/
def rRepr (K : PySem.W.Frag) : List V → Hp → VK → Prop := fun vs H Q => ∃ x d, vs = [x] ∧ Rp K H x d ∧ d.showable = true ∧ d.depth ≤ 60 ∧ d.shown.length ≤ sizeLine ∧ Q (.str d.shown) H
theorem cr_repr (hu : X.A.units + 64 < cLine) (hgd : X.A.guards = some []) (hsys : ∃ o, X.base.get? sysModules = some o) : CallR X (.builtin "repr") (rRepr X.K) := by
  intro pins s σ H vs us Q I r h
  obtain ⟨x, d, rfl, hx, hs, hd, hz, q⟩ := h
  obtain ⟨u, rfl, ru⟩ := r.one
  have ref : ∀ a, u = .ref a → wpAny (model X.prog X.w) X.A (call (.builtin "repr") [u]) (EP X pins σ Q) X.xe s := by
    rintro a rfl
    obtain ⟨as, rd, hn⟩ := Rp.reads I d x (.ref a) hx ru
    refine repr_of_reads' (h₀ := s.heap) rd hs (fun _ hm => ?_) hgd (by omega) (fun _ _ e => e) (fun h' u tk hk => ⟨.str d.shown, H, I.kept hk, ⟨u, rfl⟩, q⟩) hz
    obtain ⟨o, ho⟩ := hsys
    exact hn _ hm (I.bs _ _ ho).2
  cases hx with
  | non => cases ru; exact PySem.P.repr_of_none ⟨.str _, H, I.tok _, ⟨_, rfl⟩, q⟩
  | bl b =>
    cases ru
    exact PySem.P.repr_of_bool ⟨.str _, H, I.tok _, ⟨_, rfl⟩, by cases b <;> exact q⟩
  | int i =>
    obtain ⟨t, rfl⟩ := ru
    exact PySem.P.repr_of_int (of_decide_eq_true hs) ⟨.str _, H, I.tok _, ⟨_, rfl⟩, q⟩
  | str y =>
    obtain ⟨t, rfl⟩ := ru
    exact PySem.P.repr_of_str ⟨.str _, H, I.tok _, ⟨_, rfl⟩, q⟩ hz
  | lst h a => exact ref _ ru
  | tup h a => exact ref _ ru
  | dct h => exact ref _ ru
end
end Tb

namespace Tb
open PySem PySem.Spec PyProof.Rows L2
/-! ### set of a list of ints -/
abbrev nso (w : World) : Obj := { cls := .type "set", dict := none, data := .set #[] 0 (.fresh 0 0 (!w.params.followText "set-order")) }
abbrev iso (l : Addr) : Obj := { cls := .type "list_iterator", data := .fields #[.ref l, .int 0 0] }
section
variable {P : Program} {w : World} {A : Around} {E : Value → Shared → Prop} {s : Shared}
theorem set_of_list {l : Addr} {its : Array Value} (zs : List Int) {Q : Value → Shared → Prop} (h0 : A.handled = none) (hL : s.heap.IsList l its) (hI : IntsAre its.toList zs) (hB : zs.length + 1 < scanBound)
    (k : ∀ (g : Heap) (tk c : Nat), SetR w g s.heap.objs.size (fun j => decide (j ∈ zs)) c → c ≤ zs.length → (∀ b o, s.heap.get? b = some o → g.get? b = some o) → Q (.ref s.heap.objs.size) { s with heap := g, toks := tk }) :
    wpAny (model P w) A (call (.type "set") [.ref l]) Q E s := by
  have size : its.size = zs.length := by
    have := IntsAre.length hI
    rwa [Array.length_toList] at this
  obtain ⟨cc, tl, hmro⟩ := F.called_set.mro
  have made := F.called_set.made
  have subs := F.called_set.sub
  refine wpAny_call (codeAny_of_tree ?_)
  show wpAny _ _ (callAny (.type "set") _) _ _ _
  refine wpAny_pure ⟨Code.quiet_builtin _ (by decide +kernel), ?_⟩
  refine codeAny_builtin F.entry_type_call ?_
  rw [Around.under_plain (weight_type_call_type "set" [.ref l] []) rfl]
  have nt := F.called_set.notType
  have cr := F.called_set.canCreate
  have tc := F.typeCall_set_1 (.ref l)
  repeat (any_goals (first | assumption | wp_step))
  refine codeAny_mono (code_set_led1 (.ref l) (E := E) (Q₁ := fun u s1 => u = .ref s.heap.objs.size ∧ s1 = { s with heap := s.heap.push (nso w) }) ⟨rfl, rfl⟩) fun r s1 hr => ?_
  cases r with
  | error e => exact hr
  | ok fl =>
    cases fl with
    | ret u =>
      obtain ⟨rfl, rfl⟩ := hr
      have gS : (s.heap.push (nso w)).get? s.heap.objs.size = some (nso w) := Heap.get?_push_size _ rfl
      have tS : Shared.TypeIs { s with heap := s.heap.push (nso w) } (.ref s.heap.objs.size) "set" := ⟨_, gS, rfl⟩
      have il := F.called_set.init.lookup
      have ib := F.called_set.init.bind (.ref s.heap.objs.size)
      repeat (any_goals (first | assumption | wp_step))
      refine codeAny_mono (codeAny_call_builtin (R := wants (fun r s2 => r = .none ∧ ∃ g tk c, s2 = { s with heap := g, toks := tk } ∧ SetR w g s.heap.objs.size (fun j => decide (j ∈ zs)) c ∧ c ≤ zs.length ∧
          (∀ b o, s.heap.get? b = some o → g.get? b = some o)) E) F.called_set.init.plain F.entry_set_init (check_set_init_1 tS ?_)) fun r2 s2 hr2 => ?_
      · obtain ⟨ol, gl, cl, nl, dl⟩ := hL
        obtain ⟨lc, ld, lt, ls⟩ := ol
        simp only at cl dl
        subst cl; subst dl
        have gl' : (s.heap.push (nso w)).get? l = some { cls := .type "list", dict := ld, data := .seq its nl, slots := ls } := Heap.get?_push_of_some _ gl
        have q1 := F.sub_list_set
        have q2 := F.sub_list_frozenset
        have q3 : (Value.type "list" == Value.type "dict") = false := by decide
        have L1 : (s.heap.push (nso w)).IsList l its := ⟨_, gl', rfl, nl, rfl⟩
        unfold Builtin.«set.__init__» noKeywords Builtin.Frozenset.updateFrom
        generalize hPI : pyIter = PI
        wp_walk
        subst hPI
        refine wpAny_pyIter_list L1 ?_
        refine wpAny_bind (wpAny_runValue ?_)
        have below : l < s.heap.objs.size := Heap.lt_size gl
        have h3 : A.in1.in1.in1.handled = none := by simp [h0]
        have z1 : (s.heap.push (nso w)).objs.size = s.heap.objs.size + 1 := Heap.size_push ..
        have ne1 : l ≠ (s.heap.push (nso w)).objs.size := by
          rw [z1]; exact Nat.ne_of_lt (Nat.lt_succ_of_lt below)
        have nS : s.heap.objs.size ∉ [(s.heap.push (nso w)).objs.size, l] := by
          rw [z1]
          simp only [List.mem_cons, List.mem_singleton, List.not_mem_nil, or_false, not_or]
          exact ⟨Nat.ne_of_lt (Nat.lt_succ_self _), Nat.ne_of_gt below⟩
        have vals : ∀ (i : Nat) (v : Value), its[i]? = some v → ∃ z t, zs[i]? = some z ∧ v = .int z t := by
          intro i v hv
          have hi : i < zs.length := by rw [← size]; exact (Array.getElem?_eq_some_iff.mp hv).1
          obtain ⟨t, e⟩ := PyProof.Rows.IntsAre.int_at hI i v (by rw [Array.getElem?_toList]; exact hv)
          exact ⟨zs[i], t, List.getElem?_eq_getElem hi, by rw [e, List.getD_eq_getElem?_getD, List.getElem?_eq_getElem hi] <;> rfl⟩
        refine set_update_ints ((Walks.list h3 _ l ne1 its).toS) s.heap.objs.size nS zs size hB vals (its.size - 0) 0 _ (by omega) (Nat.zero_le _) ⟨⟨_, Heap.get?_push_size _ rfl, rfl, rfl⟩, (L1.push _)⟩ ?c0 ?c1
        case c0 => exact ⟨0, Nat.le_refl 0, setR_new_at (show ((s.heap.push (nso w)).push (iso l)).get? s.heap.objs.size = some (nso w) from Heap.get?_push_of_some _ gS)⟩
        case c1 =>
          intro s' c' mv lc' R'
          obtain ⟨g, gg, dd, tk', os'⟩ := s'
          have e1 : gg = s.gens := mv.gens
          have e2 : dd = s.drawn := mv.drawn
          have e3 : os' = s.os := mv.os
          subst e1; subst e2; subst e3
          show wpAny _ _ _ _ _ _
          refine wpAny_pure ?_
          show wpAny _ _ (ret Value.none) _ _ _
          rw [size] at lc'
          refine wpAny_pure ⟨rfl, g, tk', c', rfl, R', lc', fun b o e => ?_⟩
          have b0 : b < s.heap.objs.size := Heap.lt_size e
          refine mv.heap b o (fun hm => ?_) (Heap.get?_push_of_some _ (Heap.get?_push_of_some _ e))
          rcases List.mem_cons.mp hm with q | q
          · exact absurd q (Nat.ne_of_lt b0)
          · rcases List.mem_cons.mp q with q | q
            · rw [z1] at q
              exact absurd q (Nat.ne_of_lt (Nat.lt_succ_of_lt b0))
            · cases q
      · cases r2 with
        | error e => exact hr2
        | ok f2 =>
          cases f2 with
          | ret r =>
            obtain ⟨rfl, g, tk, c, rfl, R2, lc2, kk⟩ := hr2
            repeat (any_goals (first | assumption | wp_step))
            exact k _ _ _ R2 lc2 kk
          | next => exact hr2.elim
          | brk => exact hr2.elim
          | cont => exact hr2.elim
    | next => exact hr.elim
    | brk => exact hr.elim
    | cont => exact hr.elim
end
/-- sorted(set(xs)), xs a list of ints -/
def rSetL (w : World) (K : PySem.W.Frag) : List V → Hp → VK → Prop := fun vs H Q => ∃ (l : Addr) (zs : List Int), vs = [.ref l] ∧ SqL K H l (zs.map V.int) ∧ zs.length + 1 < scanBound ∧
  ∀ p c, H p = none → c ≤ zs.length → Q (.ref p) (upd H p (SetO w p (fun j => decide (j ∈ zs)) c))
theorem cr_setL {X : Cx} (hc : X.calm = true) : CallR X (.type "set") (rSetL X.w X.K) := by
  intro pins s σ H vs us Q I r h
  obtain ⟨l, zs, rfl, hl, hb, q⟩ := h
  obtain ⟨u, rfl, ru⟩ := r.one
  cases ru
  obtain ⟨its, rv, p, hz⟩ := I.list hl
  refine set_of_list zs (I.ok.hd hc) p.isList (by simpa using ints_of_vals rv) hb fun g tk c R hc' kp => ?_
  exact ⟨.ref _, upd H s.heap.objs.size (SetO X.w s.heap.objs.size (fun j => decide (j ∈ zs)) c), I.laid kp (Nat.le_refl _) (setO_new R), rfl, q _ c (I.hok.fresh (Nat.le_refl _)) hc'⟩
end Tb

namespace Gx
open PySem PySem.Spec PyProof.Rows L2
theorem turn_out (elt t0 i0 t1 i1 : Expr) (scope : Scope) (pos : Pos) (it acc : Value) (env : Env) :
    compTurn (.GeneratorExp elt [⟨t0, i0, [], 0⟩, ⟨t1, i1, [], 0⟩] scope pos) 0 it acc env = (do
      standAt i0.pos
      match ← pyNext it with
      | none => pure (.done .next)
      | some v =>
        letOwnedTupleGo t0 it v
        assign t0 env v
        let x ← eval i1 env
        standAt i1.pos
        let x ← foldedSetIterable i1 env x
        let _ ← runOwn (.compStart (.GeneratorExp elt [⟨t0, i0, [], 0⟩, ⟨t1, i1, [], 0⟩] scope pos) 1 (← holding [x] (pyIter x)) acc env) env
        again (.compLoop (.GeneratorExp elt [⟨t0, i0, [], 0⟩, ⟨t1, i1, [], 0⟩] scope pos) 0 it acc env)) := by rfl
theorem turn_in (elt t0 i0 t1 i1 : Expr) (scope : Scope) (pos : Pos) (it acc : Value) (env : Env) :
    compTurn (.GeneratorExp elt [⟨t0, i0, [], 0⟩, ⟨t1, i1, [], 0⟩] scope pos) 1 it acc env = (do
      standAt i1.pos
      match ← pyNext it with
      | none => pure (.done .next)
      | some v =>
        letOwnedTupleGo t1 it v
        assign t1 env v
        (do let v ← eval elt env; standAt elt.pos; let _ ← yieldOut env v)
        again (.compLoop (.GeneratorExp elt [⟨t0, i0, [], 0⟩, ⟨t1, i1, [], 0⟩] scope pos) 1 it acc env)) := by rfl
/-- what is wanted of a generator of two clauses: W0 m i ahead of the i-th turn of the first, m items still to come at most; W1 within -/
structure Plan2 where
  W0 : Nat → Nat → L2.St → Hp → Prop
  W1 : It → Nat → Nat → Nat → L2.St → Hp → Prop
  Out : Bool → L2.St → Hp → Prop
  Fin : Hp → Prop
structure Turns2 (J : It) (g0 : TG) (w1 : TI) (g1 : TG) (te : TE) (go : Bool) (n0 : Nat) (Pn : Plan2) : Prop where
  out : ∀ m i σ H, i ≤ n0 → Pn.W0 m i σ H → (J.stop i H ∧ Pn.Fin H) ∨ (i < n0 ∧ J.go i H ∧ ∀ x H', J.yld i H x H' → g0 x σ H' fun σ2 H2 => w1 σ2 H2 fun J1 H3 => Pn.W1 J1 m i 0 σ2 H3)
  inn : ∀ J1 m i j σ H, i < n0 → Pn.W1 J1 m i j σ H → (J1.stop j H ∧ Pn.W0 m (i + 1) σ H) ∨ (J1.go j H ∧ ∃ m', m = m' + 1 ∧ ∀ x H', J1.yld j H x H' → g1 x σ H' fun σ2 H2 => te σ2 H2 fun v H3 => ∃ b, v = .bl b ∧ if b = go then Pn.W1 J1 m' i (j + 1) σ2 H3 else Pn.Out b σ2 H3)
def Plan2.flat (Pn : Plan2) : Plan := ⟨fun _ _ _ => True, fun b _ σ H => Pn.Out b σ H, Pn.Fin⟩
section
variable {Z : Cx} {elt t0 i0 t1 i1 : Expr} {scope : Scope} {pos : Pos} {it : Addr} {fp : List Addr} {tn : Nat → Heap → Prop} {J : It} {g0 g1 : TG} {w1 : TI} {te : TE} {A : Around} {pin : List (Addr × Obj)} {go : Bool} {n n0 g : Nat} {Pn : Plan2}
abbrev ge2 (elt t0 i0 t1 i1 : Expr) (scope : Scope) (pos : Pos) : Expr := .GeneratorExp elt [⟨t0, i0, [], 0⟩, ⟨t1, i1, [], 0⟩] scope pos
abbrev lo0 (elt t0 i0 t1 i1 : Expr) (scope : Scope) (pos : Pos) (it : Addr) (env : Env) : Code := .compLoop (ge2 elt t0 i0 t1 i1 scope pos) 0 (.ref it) .none env
abbrev lo1 (elt t0 i0 t1 i1 : Expr) (scope : Scope) (pos : Pos) (it : Addr) (env : Env) : Code := .compLoop (ge2 elt t0 i0 t1 i1 scope pos) 1 (.ref it) .none env
/-- ahead of a turn of the first clause -/
def SO (Z : Cx) (elt t0 i0 t1 i1 : Expr) (scope : Scope) (pos : Pos) (it : Addr) (fp : List Addr) (tn : Nat → Heap → Prop) (A : Around) (pin : List (Addr × Obj)) (go : Bool) (n g : Nat) (Pn : Plan2) (m i : Nat) : Prop :=
  ∀ (s₀ s : Shared) (σ : L2.St) (H : Hp), Inv Z pin σ H s → tn i s.heap → (∀ d ∈ fp, H d = none) → g < s.gens.size → Pn.W0 m i σ H → m ≤ n →
    Seg (model Z.prog Z.w) A (fun m s₁ r s₂ => r = .ok .next ∧ gP Z pin Pn.flat g m s₁ s₂) (gY Z pin fp tn Pn.flat go n g) m s₀ (lo0 elt t0 i0 t1 i1 scope pos it Z.env) ((model Z.prog Z.w).den (lo0 elt t0 i0 t1 i1 scope pos it Z.env)) [] s
/-- within: the second clause's loop, the first one's turn behind it on the stack -/
def SI (Z : Cx) (elt t0 i0 t1 i1 : Expr) (scope : Scope) (pos : Pos) (it : Addr) (fp : List Addr) (tn : Nat → Heap → Prop) (A : Around) (pin : List (Addr × Obj)) (go : Bool) (n g : Nat) (Pn : Plan2) (m i : Nat) : Prop :=
  ∀ (s₀ s : Shared) (σ : L2.St) (H : Hp) (F0 : Frame) (j : Nat) (it1 : Addr) (fp1 : List Addr) (tn1 : Nat → Heap → Prop) (J1 : It),
    (splitAtGen [F0] = none) → ([F0].any Frame.guarded = false) → (A.over (lo1 elt t0 i0 t1 i1 scope pos it1 Z.env) [F0] = Z.A) →
    (∀ m' s₀' s', Seg (model Z.prog Z.w) A (fun m s₁ r s₂ => r = .ok .next ∧ gP Z pin Pn.flat g m s₁ s₂) (gY Z pin fp tn Pn.flat go n g) m' s₀' (lo0 elt t0 i0 t1 i1 scope pos it Z.env) ((model Z.prog Z.w).den (lo0 elt t0 i0 t1 i1 scope pos it Z.env)) [] s' →
      Seg (model Z.prog Z.w) A (fun m s₁ r s₂ => r = .ok .next ∧ gP Z pin Pn.flat g m s₁ s₂) (gY Z pin fp tn Pn.flat go n g) m' s₀' (lo1 elt t0 i0 t1 i1 scope pos it1 Z.env) (leafOf (.ok .next)) [F0] s') →
    Turn Z.prog Z.w Z.K t1 J1 fp1 it1 tn1 → (∀ {H : Hp}, (∀ d ∈ fp1, H d = none) → ∀ d ∈ fp1, FpOk Z pin H d) → (∀ d ∈ fp, ∀ b ∈ fp1, d ≠ b) →
    Inv Z pin σ H s → tn (i + 1) s.heap → (∀ d ∈ fp, H d = none) → tn1 j s.heap → (∀ d ∈ fp1, H d = none) → g < s.gens.size → Pn.W1 J1 m i j σ H → m ≤ n →
    Seg (model Z.prog Z.w) A (fun m s₁ r s₂ => r = .ok .next ∧ gP Z pin Pn.flat g m s₁ s₂) (gY Z pin fp tn Pn.flat go n g) m s₀ (lo1 elt t0 i0 t1 i1 scope pos it1 Z.env) ((model Z.prog Z.w).den (lo1 elt t0 i0 t1 i1 scope pos it1 Z.env)) [F0] s
theorem fp_more {Z : Cx} {pin : List (Addr × Obj)} {H : Hp} {h : Heap} {fp : List Addr} {b : Addr} (f : FpOk Z pin H b) (d : ∀ a ∈ fp, a ≠ b) : FpOk Z (pin ++ pinsAt fp h) H b := by
  obtain ⟨h1, h2, h3, h4, h5, h6⟩ := f
  refine ⟨h1, h2, h3, h4, h5, fun p hp => ?_⟩
  rcases List.mem_append.mp hp with z | z
  · exact h6 p (List.mem_append_left _ z)
  · rcases List.mem_append.mp z with z | z
    · exact h6 p (List.mem_append_right _ z)
    · exact d _ (of_pinsAt z).1
theorem si_of (T : Turn Z.prog Z.w Z.K t0 J fp it tn) (hg1 : PG Z t1 g1) (hel : PE Z elt te) (hx : ∀ e s, ¬ Z.xe e s) (hc : Z.calm = true) (hco : Z.env.scope.isCoroutine = false) (tt : Turns2 J g0 w1 g1 te go n0 Pn)
    (stat : ∀ {H : Hp}, (∀ d ∈ fp, H d = none) → ∀ d ∈ fp, FpOk Z pin H d) {m i : Nat} (hi : i < n0)
    (ih : ∀ m', m = m' + 1 → SI Z elt t0 i0 t1 i1 scope pos it fp tn A pin go n g Pn m' i) (so : SO Z elt t0 i0 t1 i1 scope pos it fp tn A pin go n g Pn m (i + 1)) : SI Z elt t0 i0 t1 i1 scope pos it fp tn A pin go n g Pn m i := by
  intro s₀ s σ H F0 j it1 fp1 tn1 J1 hF1 hF2 hA hk T1 stat1 dis I st0 n0' st1 n1' hgz hw hm
  show Seg _ A _ _ _ s₀ _ ((compTurn (ge2 elt t0 i0 t1 i1 scope pos) 1 (.ref it1) .none Z.env).onRaise _) [F0] s
  rw [turn_in, Sem.onRaise_eq_wrap]
  refine seg_bind_wrap (wpAny_standAt ?_)
  refine seg_bind_wrap ?_
  rw [hA]
  have P0 := I.pinned (stat n0') (T.obj _ _ st0)
  have f1 : ∀ d ∈ fp1, FpOk Z (pin ++ pinsAt fp s.heap) H d := fun d hd => fp_more (stat1 n1' d hd) fun a ha => dis a ha d hd
  have keep0 : ∀ {pl : List (Addr × Obj)} {σ' : L2.St} {H' : Hp} {s' : Shared}, Inv Z (pin ++ pinsAt fp s.heap ++ pl) σ' H' s' → tn (i + 1) s'.heap ∧ ∀ d ∈ fp, H' d = none := fun {pl σ' H' s'} I' => by
    refine ⟨T.keep _ _ _ st0 fun d hd o e => (I'.pin (d, o) (List.mem_append_right _ (List.mem_append_left _ (List.mem_append_right _ (mem_pinsAt hd e))))).1, fun d hd => ?_⟩
    obtain ⟨o, e, _⟩ := T.obj _ _ st0 d hd
    exact (I'.pin (d, o) (List.mem_append_right _ (List.mem_append_left _ (List.mem_append_right _ (mem_pinsAt hd e))))).2.1
  rcases tt.inn J1 m i j σ H hi hw with ⟨stp, w0⟩ | ⟨gO, m', rfl, step⟩
  · refine GenW.wpAny_gsz (n := g + 1) hgz (wpAny_mono (T1.done Z rfl rfl rfl hc j _ s σ H (fun _ _ => False) P0 f1 st1 stp) (fun r s1 h1 hz => ?_) fun _ _ e => e.elim)
    obtain ⟨hr, I1⟩ := h1
    subst hr
    obtain ⟨a1, a2⟩ := keep0 (pl := []) (by rw [List.append_nil]; exact I1)
    exact hk m _ s1 (so _ s1 σ H I1.unpinned a1 a2 hz w0 hm)
  · refine GenW.wpAny_gsz (n := g + 1) hgz (wpAny_mono (T1.item Z rfl rfl rfl hc j _ s σ H (fun _ _ => False) P0 f1 st1 gO) (fun r s1 h1 hz1 => ?_) fun _ _ e => e.elim)
    obtain ⟨u, hr, h1⟩ := h1
    subst hr
    refine seg_bind_wrap ?_
    rw [hA]
    refine GenW.wpAny_gsz (n := g + 1) hz1 (wpAny_mono h1 (fun _ s2 h2 hz2 => ?_) fun _ _ e => e.elim)
    obtain ⟨x, H2, I2, r2, y2, st2, n2⟩ := h2
    have f2 : ∀ d ∈ fp1, FpOk Z (pin ++ pinsAt fp s.heap) H2 d := fun d hd => ⟨n2 d hd, (f1 d hd).2⟩
    have P2 := I2.pinned f2 (T1.obj _ _ st2)
    refine seg_bind_wrap ?_
    rw [hA]
    refine GenW.wpAny_gsz (n := g + 1) hz2 (wpAny_mono (hg1.run _ s2 σ H2 x u _ P2 r2 (step x H2 y2)) (fun _ s3 h3 hz3 => ?_) fun e s3 he _ => (hx e s3 he).elim)
    obtain ⟨σ3, H3, I3, q3⟩ := h3
    have hy : ∀ v, yieldOut Z.env v = yieldValue v := fun v => by simp only [yieldOut, hco, Bool.false_eq_true, if_false]
    simp only [hy]
    rw [Sem.bind_eq_wrap', Sem.bind_eq_wrap', Sem.wrap_wrap, Sem.wrap_wrap]
    refine seg_wrap ?_
    rw [hA]
    refine GenW.wpAny_gsz (n := g + 1) hz3 (wpAny_mono (hel.run _ s3 σ3 H3 _ I3 q3) (fun v s4 h4 hz4 => ?_) fun e s4 he _ => (hx e s4 he).elim)
    obtain ⟨w4, H4, I4, r4, b, eb, q4⟩ := h4
    subst eb
    obtain rfl : v = Value.bool b := r4
    obtain ⟨a1, a2⟩ := keep0 I4
    have st4 : tn1 (j + 1) s4.heap := T1.keep _ _ _ st2 fun d hd o e => (I4.pin (d, o) (List.mem_append_right _ (List.mem_append_right _ (mem_pinsAt hd e)))).1
    have n4 : ∀ d ∈ fp1, H4 d = none := fun d hd => by
      obtain ⟨o, e, _⟩ := T1.obj _ _ st2 d hd
      exact (I4.pin (d, o) (List.mem_append_right _ (List.mem_append_right _ (mem_pinsAt hd e)))).2.1
    have I4' := I4.unpinned.unpinned
    refine seg_at (seg_yield hF1 rfl hF2 ⟨n - m' - 1, b, σ3, H4, by omega, rfl, I4', hz4, ?_, fun hb s'' e1 e2 e3 e4 => ?_⟩)
    · by_cases hb : b = go
      · rw [if_pos hb]; exact trivial
      · rw [if_neg hb] at q4 ⊢
        exact q4
    · rw [if_pos hb] at q4
      exact seg_again rfl (ih m' rfl s'' s'' σ3 H4 F0 (j + 1) it1 fp1 tn1 J1 hF1 hF2 hA hk T1 stat1 dis (inv_same I4' e1 e2 e3) (by rw [e1]; exact a1) a2 (by rw [e1]; exact st4) n4 e4 q4 (by omega))
theorem so_of (T : Turn Z.prog Z.w Z.K t0 J fp it tn) (hg0 : PG Z t0 g0) (hw1 : PI Z t1 i1 w1) (hx : ∀ e s, ¬ Z.xe e s) (hc : Z.calm = true) (tt : Turns2 J g0 w1 g1 te go n0 Pn)
    (hs1 : ∀ x, foldedSetIterable i1 Z.env x = pure x)
    (hA : A.over (lo0 elt t0 i0 t1 i1 scope pos it Z.env) [] = Z.A)
    (hA1 : ∀ (it1 : Addr) (k g l p), A.over (lo1 elt t0 i0 t1 i1 scope pos it1 Z.env) [.ret k none g l (lo0 elt t0 i0 t1 i1 scope pos it Z.env) p []] = Z.A)
    (stat : ∀ {H : Hp}, (∀ d ∈ fp, H d = none) → ∀ d ∈ fp, FpOk Z pin H d) {m i : Nat} (hi : i ≤ n0)
    (si : i < n0 → SI Z elt t0 i0 t1 i1 scope pos it fp tn A pin go n g Pn m i) : SO Z elt t0 i0 t1 i1 scope pos it fp tn A pin go n g Pn m i := by
  intro s₀ s σ H I hst hn hgz hw hm
  show Seg _ A _ _ _ s₀ _ ((compTurn (ge2 elt t0 i0 t1 i1 scope pos) 0 (.ref it) .none Z.env).onRaise (leaving Z.env)) [] s
  rw [turn_out, Sem.onRaise_eq_wrap]
  refine seg_bind_wrap (wpAny_standAt ?_)
  refine seg_bind_wrap ?_
  rw [hA]
  rcases tt.out m i σ H hi hw with ⟨stp, fin⟩ | ⟨hlt, gO, step⟩
  · refine GenW.wpAny_gsz (n := g + 1) hgz (wpAny_mono (T.done Z rfl rfl rfl hc i pin s σ H (fun _ _ => False) I (stat hn) hst stp) (fun r s1 h1 hz => ?_) fun _ _ e => e.elim)
    obtain ⟨hr, I1⟩ := h1
    subst hr
    exact seg_end (.ok .next) ⟨rfl, σ, H, I1, fin, hz⟩
  · refine GenW.wpAny_gsz (n := g + 1) hgz (wpAny_mono (T.item Z rfl rfl rfl hc i pin s σ H (fun _ _ => False) I (stat hn) hst gO) (fun r s1 h1 hz1 => ?_) fun _ _ e => e.elim)
    obtain ⟨u, hr, h1⟩ := h1
    subst hr
    refine seg_bind_wrap ?_
    rw [hA]
    refine GenW.wpAny_gsz (n := g + 1) hz1 (wpAny_mono h1 (fun _ s2 h2 hz2 => ?_) fun _ _ e => e.elim)
    obtain ⟨x, H2, I2, r2, y2, st2, n2⟩ := h2
    have P2 := I2.pinned (stat n2) (T.obj _ _ st2)
    refine seg_bind_wrap ?_
    rw [hA]
    refine GenW.wpAny_gsz (n := g + 1) hz2 (wpAny_mono (hg0.run _ s2 σ H2 x u _ P2 r2 (step x H2 y2)) (fun _ s3 h3 hz3 => ?_) fun e s3 he _ => (hx e s3 he).elim)
    obtain ⟨σ3, H3, I3, q3⟩ := h3
    refine seg_bind_wrap ?_
    rw [hA]
    refine GenW.wpAny_gsz (n := g + 1) hz3 (wpAny_mono (hw1.run _ s3 σ3 H3 _ I3 q3) (fun v s4 h4 hz4 => ?_) fun e s4 he _ => (hx e s4 he).elim)
    refine seg_bind_wrap (wpAny_standAt ?_)
    rw [hs1]
    refine seg_bind_wrap (wpAny_pure ?_)
    refine seg_bind_wrap ?_
    rw [hA]
    refine GenW.wpAny_gsz (n := g + 1) hz4 (wpAny_holding (wpAny_mono h4 (fun itv s5 h5 hz5 => ?_) fun e s5 he _ => (hx e s5 he).elim))
    obtain ⟨it1, fp1, tn1, J1, H5, rfl, I5, T1, st1, f1, q5⟩ := h5
    have a1 : tn (i + 1) s5.heap := T.keep _ _ _ st2 fun d hd o e => (I5.pin (d, o) (List.mem_append_right _ (List.mem_append_right _ (mem_pinsAt hd e)))).1
    have a2 : ∀ d ∈ fp, H5 d = none := fun d hd => by
      obtain ⟨o, e, _⟩ := T.obj _ _ st2 d hd
      exact (I5.pin (d, o) (List.mem_append_right _ (List.mem_append_right _ (mem_pinsAt hd e)))).2.1
    have dis : ∀ d ∈ fp, ∀ b ∈ fp1, d ≠ b := fun d hd b hb => by
      obtain ⟨o, e, _⟩ := T.obj _ _ st2 d hd
      exact (f1 b hb).2.2.2.2.2 (d, o) (List.mem_append_right _ (List.mem_append_right _ (mem_pinsAt hd e)))
    have stat1 : ∀ {H : Hp}, (∀ d ∈ fp1, H d = none) → ∀ d ∈ fp1, FpOk Z pin H d := fun {H} hn d hd => by
      obtain ⟨_, h2, h3, h4, h5, h6⟩ := f1 d hd
      refine ⟨hn d hd, h2, h3, h4, h5, fun p hp => ?_⟩
      rcases List.mem_append.mp hp with z | z
      · exact h6 p (List.mem_append_left _ z)
      · exact h6 p (List.mem_append_right _ (List.mem_append_left _ z))
    unfold runOwn run
    rw [Sem.onRaise_eq_wrap, Sem.bind_eq_wrap', Sem.wrap_wrap, Sem.wrap_wrap]
    refine seg_call fun p => ?_
    have lp := fun (F0 : Frame) (b1 : splitAtGen [F0] = none) (b2 : [F0].any Frame.guarded = false) b3 b4 => si hlt s₀ s5 σ3 H5 F0 0 it1 fp1 tn1 J1 b1 b2 b3 b4 T1 stat1 dis I5.unpinned a1 a2 st1 (fun d hd => (f1 d hd).1) hz5 q5 hm
    show Seg _ A _ _ _ s₀ _ ((compStart (ge2 elt t0 i0 t1 i1 scope pos) 1 (.ref it1) .none Z.env).onRaise _) [_] s5
    unfold compStart
    rw [Sem.onRaise_eq_wrap]
    show Seg _ A _ _ _ s₀ _ ((ask >>= _).wrap _ _ _ _) [_] s5
    refine seg_bind_wrap (wpAny_askSetting ?_)
    split
    · refine seg_again rfl (lp _ rfl rfl (hA1 _ _ _ _ _) ?_)
      exact fun m' s₀' s' h => seg_leaf (.ok .next) (seg_again rfl h)
    · refine seg_bind_wrap (wpAny_rule ?_)
      show Seg _ A _ _ _ s₀ _ ((standAt i1.pos >>= _).wrap _ _ _ _) [_] s5
      refine seg_bind_wrap (wpAny_standAt (seg_bind_wrap (T1.self _ 0 s5 _ _ st1 (seg_again rfl (lp _ rfl rfl (hA1 _ _ _ _ _) ?_)))))
      exact fun m' s₀' s' h => seg_leaf (.ok .next) (seg_again rfl h)
theorem both (T : Turn Z.prog Z.w Z.K t0 J fp it tn) (hg0 : PG Z t0 g0) (hw1 : PI Z t1 i1 w1) (hg1 : PG Z t1 g1) (hel : PE Z elt te) (hx : ∀ e s, ¬ Z.xe e s) (hc : Z.calm = true) (hco : Z.env.scope.isCoroutine = false) (tt : Turns2 J g0 w1 g1 te go n0 Pn)
    (hs1 : ∀ x, foldedSetIterable i1 Z.env x = pure x)
    (hA : A.over (lo0 elt t0 i0 t1 i1 scope pos it Z.env) [] = Z.A)
    (hA1 : ∀ (it1 : Addr) (k g l p), A.over (lo1 elt t0 i0 t1 i1 scope pos it1 Z.env) [.ret k none g l (lo0 elt t0 i0 t1 i1 scope pos it Z.env) p []] = Z.A)
    (stat : ∀ {H : Hp}, (∀ d ∈ fp, H d = none) → ∀ d ∈ fp, FpOk Z pin H d) :
    ∀ m, (∀ i, i ≤ n0 → SO Z elt t0 i0 t1 i1 scope pos it fp tn A pin go n g Pn m i) ∧ ∀ i, i < n0 → SI Z elt t0 i0 t1 i1 scope pos it fp tn A pin go n g Pn m i := by
  have step : ∀ m, (∀ i, i < n0 → ∀ m', m = m' + 1 → SI Z elt t0 i0 t1 i1 scope pos it fp tn A pin go n g Pn m' i) → (∀ i, i ≤ n0 → SO Z elt t0 i0 t1 i1 scope pos it fp tn A pin go n g Pn m i) ∧ ∀ i, i < n0 → SI Z elt t0 i0 t1 i1 scope pos it fp tn A pin go n g Pn m i := by
    intro m ih
    have so : ∀ d i, i + d = n0 → SO Z elt t0 i0 t1 i1 scope pos it fp tn A pin go n g Pn m i := by
      intro d
      induction d with
      | zero => exact fun i e => so_of T hg0 hw1 hx hc tt hs1 hA hA1 stat (by omega) fun h => absurd h (by omega)
      | succ d id => exact fun i e => so_of T hg0 hw1 hx hc tt hs1 hA hA1 stat (by omega) fun h => si_of T hg1 hel hx hc hco tt stat h (ih i h) (id (i + 1) (by omega))
    exact ⟨fun i h => so (n0 - i) i (by omega), fun i h => si_of T hg1 hel hx hc hco tt stat h (ih i h) (so (n0 - (i + 1)) (i + 1) (by omega))⟩
  intro m
  induction m with
  | zero => exact step 0 fun i _ m' e => by cases e
  | succ m ih =>
    refine step (m + 1) fun i h m' e => ?_
    have : m = m' := by omega
    subst this
    exact ih.2 i h
theorem begin2 (T : Turn Z.prog Z.w Z.K t0 J fp it tn) (hA3 : A.over (.compStart (ge2 elt t0 i0 t1 i1 scope pos) 0 (.ref it) .none Z.env) [] = Z.A) {m : Nat} (so : SO Z elt t0 i0 t1 i1 scope pos it fp tn A pin go n g Pn m 0)
    (s₀ s : Shared) (σ : L2.St) (H : Hp) (I : Inv Z pin σ H s) (hst : tn 0 s.heap) (hn : ∀ d ∈ fp, H d = none) (hgz : g < s.gens.size) (hw : Pn.W0 m 0 σ H) (hm : m ≤ n) :
    Seg (model Z.prog Z.w) A (fun m s₁ r s₂ => r = .ok .next ∧ gP Z pin Pn.flat g m s₁ s₂) (gY Z pin fp tn Pn.flat go n g) m s₀ (.compStart (ge2 elt t0 i0 t1 i1 scope pos) 0 (.ref it) .none Z.env)
      ((model Z.prog Z.w).den (.compStart (ge2 elt t0 i0 t1 i1 scope pos) 0 (.ref it) .none Z.env)) [] s := by
  have lp := so s₀ s σ H I hst hn hgz hw hm
  show Seg _ A _ _ _ s₀ _ ((compStart (ge2 elt t0 i0 t1 i1 scope pos) 0 (.ref it) .none Z.env).onRaise (leaving Z.env)) [] s
  unfold compStart
  rw [Sem.onRaise_eq_wrap]
  show Seg _ A _ _ _ s₀ _ ((ask >>= _).wrap _ _ _ _) [] s
  refine seg_bind_wrap (wpAny_askSetting ?_)
  split
  · exact seg_again rfl lp
  · refine seg_bind_wrap (wpAny_rule ?_)
    show Seg _ A _ _ _ s₀ _ ((standAt i0.pos >>= _).wrap _ _ _ _) [] s
    exact seg_bind_wrap (wpAny_standAt (seg_bind_wrap (T.self _ 0 s _ _ hst (seg_again rfl lp))))
end
/-! ### the generator made, its scope of several names -/
structure GScL (N : List Str) (sc scope : Scope) (own : List (Str × Nat)) : Prop where
  kind : scope.kind = .function
  co : scope.isCoroutine = false
  cell : ∀ y ∈ scope.names, y.2 ≠ .cell
  dot : scope.names.lookup (".0" : Str) = some NameKind.local
  loc : ∀ y, scope.names.lookup y = some .local → y = (".0" : Str) ∨ ∃ i, (y, i) ∈ own
  free : ∀ y ∈ scope.names, y.2 = .free → sc.names.lookup y.1 = some .cell ∨ sc.names.lookup y.1 = some .free
  nd : N.Nodup
  spot : ∀ q ∈ own, N[q.2]? = some q.1
  nodot : (".0" : Str) ∉ N
section
variable {X : Cx} {pins : List (Addr × Obj)} {σ : L2.St} {H : Hp} {s : Shared}
/-- the generator's frame has been laid: the invariant of its context -/
theorem gx_startL {N : List Str} {scope : Scope} {own : List (Str × Nat)} {A : Around} {code : Value} {fp : List Addr} {itv : Value} {h1 : Heap} {tk : Nat} {gens' : Array GenState} {pin : List (Addr × Obj)}
    (I : Inv X pins σ H s) (G : GScL X.N X.env.scope scope own)
    (hA : A.frames = some (genEnv scope (cloFrom X.env.cells scope.names []) s.heap.objs.size code builtinsNs X.env :: X.stack)) (hd : A.handled = none)
    (hfp : ∀ b ∈ fp, FpOk X pins H b) (hlt : ∀ b ∈ fp, b < s.heap.objs.size)
    (hns : h1.Ns s.heap.objs.size fun y => if y = (".0" : Str) then some itv else none) (kp : ∀ b o, s.heap.get? b = some o → h1.get? b = some o) (hb : AllBare gens')
    (hpin : ∀ p ∈ pin, h1.get? p.1 = some p.2 ∧ s.heap.objs.size < p.1 ∧ ∀ v, p.2.data ≠ .cell v) :
    Inv (gcx X A s H (genEnv scope (cloFrom X.env.cells scope.names []) s.heap.objs.size code builtinsNs X.env) fp) pin (wipe σ (own.map (·.2))) H { s with heap := h1, toks := tk, gens := gens' } := by
  have has : ∀ y ∈ scope.names, y.2 = .free → ∃ c, X.env.cells.lookup y.1 = some c := fun y hy e => by
    rcases G.free y hy e with k | k
    · exact I.ok.has _ (.inl k)
    · exact I.ok.has _ (.inr k)
  have cm : ∀ {y c}, (cloFrom X.env.cells scope.names []).lookup y = some c → X.env.cells.lookup y = some c := fun {y c} e => clo_sub has e
  have look : ∀ {y}, scope.names.lookup y = some .free → ∃ c, (cloFrom X.env.cells scope.names []).lookup y = some c := fun {y} hl => by
    have hy : (y, NameKind.free) ∈ scope.names := PySem.mem_of_lookup hl
    exact mem_lookup (cloFrom_has (cells := X.env.cells) (acc := []) hy)
  have cellK : ∀ {c : Addr} {v : Option Value}, s.heap.IsCell c v → h1.IsCell c v := fun {c v} ⟨o, ho, hd⟩ => ⟨o, kp _ _ ho, hd⟩
  refine ⟨⟨I.ok.mod, G.kind, I.ok.glob, rfl, Nat.le_refl _, fun y z c e1 e2 => I.ok.inj y z c (cm e1) (cm e2), fun y hy => ?_, fun y c z _ => ?_, fun _ => hd, hA, .inr ⟨rfl, rfl⟩, fun b hb => ⟨Nat.ne_of_lt (hlt b hb), fun y c e => ?_⟩, I.bs,
      Nat.le_trans I.ok.bsz I.sz, fun b o e hb => ?_, fun b hb hm => ?_, I.stack, I.stkFree⟩,
    rfl, hb, Un.kept kp, ⟨_, hns, fun i y v e1 e2 e3 => ?_⟩, fun y c e => ?_, I.hok.fresh (Nat.le_refl _), fun y c e => I.freeC y c (cm e), fun p hp => ?_, I.hok.kept kp, ?_⟩
  · have hy : scope.names.lookup y = some .cell ∨ scope.names.lookup y = some .free := hy
    rcases hy with hy | hy
    · exact absurd rfl (G.cell _ (PySem.mem_of_lookup hy))
    · exact look hy
  · cases z
  · exact (hfp b hb).2.2.2.2.1 y c (cm e)
  · obtain ⟨_, _, _, h4, _⟩ := hfp b hb
    rcases h4 with h4 | h4
    · exact I.ok.noex b o e h4
    · exact absurd (Nat.lt_of_lt_of_le (Nat.lt_of_lt_of_le (Heap.lt_size e) I.ok.bsz) h4) (Nat.lt_irrefl _)
  · obtain ⟨_, h2, h3, _⟩ := hfp b hb
    rcases List.mem_cons.mp (I.stkSub b hm) with z | z
    · exact h2 z
    · exact h3 z
  · have e3 : Vis scope y := e3
    have e2' := wipe_some e2
    rcases e3 with k | k | k
    · rcases G.loc y k with z | z
      · exact absurd (List.mem_of_getElem? (show X.N[i]? = some (".0" : Str) by rw [← z]; exact e1)) G.nodot
      · obtain ⟨i', hi'⟩ := z
        have := nodup_ix G.nd e1 (G.spot _ hi')
        exact absurd (List.mem_map.mpr ⟨_, hi', this.symm⟩) e2'.2
    · exact absurd rfl (G.cell _ (PySem.mem_of_lookup k))
    · obtain ⟨m, hn, hl⟩ := I.loc
      have hfr := G.free _ (PySem.mem_of_lookup k) rfl
      have hvis : Vis X.env.scope y := hfr.elim (fun k => .inr (.inl k)) (fun k => .inr (.inr k))
      obtain ⟨w', r, q⟩ := hl i y v e1 e2'.1 hvis
      obtain ⟨c2, h2⟩ := look k
      refine ⟨w', r, .inr ⟨.inr k, c2, h2, ?_⟩⟩
      have c1 := cm h2
      rcases q with ⟨k', _⟩ | ⟨_, c3, e', z⟩
      · have k' : X.env.scope.names.lookup y = some .local := k'
        rcases hfr with k2 | k2 <;> rw [show X.env.scope.names.lookup y = _ from k2] at k' <;> cases k'
      · rw [c1] at e'
        cases e'
        exact cellK z
  · obtain ⟨w', z⟩ := I.cell y c (cm e)
    exact ⟨w', cellK z⟩
  · have hp' : p ∈ pin := by
      rcases List.mem_append.mp hp with z | z
      · exact absurd (show p ∈ ([] : List (Addr × Obj)) from z) (by simp)
      · exact z
    obtain ⟨q1, q2, q3⟩ := hpin p hp'
    refine ⟨q1, I.hok.fresh (Nat.le_of_lt q2), Nat.ne_of_gt q2, fun hm => ?_, q3⟩
    have hm' : p.1 ∈ frs X.stack := hm
    rcases List.mem_cons.mp (I.stkSub _ hm') with z | z
    · have := I.lt
      rw [← z] at this
      exact absurd (Nat.lt_trans this q2) (Nat.lt_irrefl _)
    · exact I.nofs (Nat.le_of_lt q2) z
  · rw [wipe_length]; exact I.len
end


end Gx

namespace Gx
open PySem PySem.Spec PyProof.Rows L2
theorem eval_ge (elt target iter : Expr) (rest : List Comprehension) (scope : Scope) (pos : Pos) (env : Env) (hco : scope.isCoroutine = false) :
    eval (.GeneratorExp elt (⟨target, iter, [], 0⟩ :: rest) scope pos) env = (do
      let v ← eval iter env
      standAt iter.pos
      let v ← genFold iter env v
      let iv ← holding [v] (pyIter v)
      enterFrame
      let cl ← closureFor scope env
      let cd ← genexprCode env pos (env.qual ++ "<genexpr>") scope
      let bi ← builtinsFor env.globals env.builtins
      let ce ← newFunctionEnv scope env.globals cl [(".0", iv)] (env.qual ++ "<genexpr>.") none cd none bi
      newGenerator (.compStart (.GeneratorExp elt (⟨target, iter, [], 0⟩ :: rest) scope pos) 0 iv .none ce) "<genexpr>" (env.qual ++ "<genexpr>")) := by
  rw [arm_eval_GeneratorExp]
  simp only [hco, Bool.false_eq_true, if_false]
  cases iter <;> rfl
section
variable {M : Model} {A : Around} {E : Value → Shared → Prop} {s : Shared}
theorem made_ge {env : Env} {elt target iter : Expr} {rest : List Comprehension} {scope : Scope} {cl : List (Str × Addr)} {pos : Pos} {Q : Value → Shared → Prop}
    (hco : scope.isCoroutine = false) (cls : closureFor scope env = pure cl) (hcell : ∀ y ∈ scope.names, y.2 ≠ .cell) (dot : scope.names.lookup (".0" : Str) = some NameKind.local) (kd : scope.kind = .function) (room : A.depth < recursionLimit)
    (h : wpAny M A (eval iter env) (fun xv s1 => wpAny M A (pyIter xv) (fun iv s2 => s2.heap.NoLimit ∧
      wpAny M A (genexprCode env pos (env.qual ++ "<genexpr>") scope) (fun cd s3 => wpAny M A (builtinsFor env.globals env.builtins) (fun bi s4 =>
        ∀ h', h'.Ns s4.heap.objs.size (fun y => if y = (".0" : Str) then some iv else none) → Heap.SameBut s4.heap.objs.size (s4.heap.push { cls := .type "frame", data := .dict #[] }) h' →
          Q (.ref h'.objs.size) { s4 with
            gens := s4.gens.push (.fresh (.compStart (.GeneratorExp elt (⟨target, iter, [], 0⟩ :: rest) scope pos) 0 iv .none (genEnv scope cl s4.heap.objs.size cd bi env))),
            toks := s4.toks + 1 + 1 + 1, heap := h'.push { cls := .type "generator", data := .fields #[.int s4.gens.size 0, .str "<genexpr>" (s4.toks + 1), .str (env.qual ++ "<genexpr>") (s4.toks + 1 + 1)] } }) E s3) E s2) E s1) E s)
    (hs : ∀ v, genFold iter env v = pure v) : wpAny M A (eval (.GeneratorExp elt (⟨target, iter, [], 0⟩ :: rest) scope pos) env) Q E s := by
  rw [eval_ge _ _ _ _ _ _ _ hco, cls]
  refine wpAny_bind (wpAny_mono h (fun v s1 h1 => wpAny_bind (wpAny_standAt (wpAny_bind (wpAny_of_eq (hs v) (wpAny_bind (wpAny_holding (wpAny_mono h1 (fun iv s2 h2 => ?_) fun _ _ e => e))))))) fun _ _ e => e)
  refine wpAny_bind (wpAny_enterFrame h2.1 room (wpAny_bind (wpAny_pure (wpAny_bind (wpAny_mono h2.2 (fun cd s3 h3 => wpAny_bind (wpAny_mono h3 (fun bi s4 h4 => ?_) fun _ _ e => e)) fun _ _ e => e)))))
  refine wpAny_bind (wpAny_newFunctionEnv hcell (fun y hy => ?_) (fun h' hn hb => ?_) kd)
  · rw [List.mem_singleton.mp hy]; exact dot
  have e : (fun y : Str => ([((".0" : Str), iv)] : List (Str × Value)).reverse.lookup y) = fun y : Str => if y = (".0" : Str) then some iv else none := by
    funext y
    by_cases z : y = ".0"
    · subst z; simp
    · have b : (y == (".0" : Str)) = false := by simpa using z
      simp [List.lookup, b, z]
  rw [e] at hn
  simp only [newGenerator, newFields]
  exact wpAny_bind (wpAny_newGen (wpAny_bind (wpAny_mkText (wpAny_bind (wpAny_mkText (wpAny_newObj_type (h4 h' hn hb) (by size_fits)))))))
end
def tAllG2 (P : Addr) (own : List (Str × Nat)) (wi : TI) (g : TG) (w1 : TI) (g1 : TG) (te : TE) (go : Bool) : TE := fun σ H Q => wi σ H fun J H1 => GxR.TabG H1 P ∧ ∀ H2, GxR.Tabbed P H1 H2 → ∃ (n0 n : Nat) (Pn : Plan2), Turns2 J g w1 g1 te go n0 Pn ∧ Pn.W0 n 0 (wipe σ (own.map (·.2))) H2 ∧
  (∀ σ' H', Pn.Out (!go) σ' H' → Q (.bl (!go)) H') ∧ ∀ H', Pn.Fin H' → Q (.bl go) H'
section
variable {X : Cx} {elt t0 t1 iter i1 : Expr} {p pos gpos : Pos} {scope : Scope} {own : List (Str × Nat)} {k : Nat} {wi w1 : TI} {g g1 : TG} {te : TE} {P c : Addr}

theorem gen_made2 {pins : List (Addr × Obj)} {σ : L2.St} {H : Hp} {s : Shared} {go : Bool} {R : V → Hp → Prop} {Q' : Value → Shared → Prop}
    (hr : Room (k + 1) X.A) (TB : GxR.TabB X.base X.mg c P) (hcode : X.env.code = .ref c) (G : GScL X.N X.env.scope scope own) (hi : PI X t0 iter wi)
    (hgt : ∀ (s : Shared) (H : Hp) (C : Addr) (code : Value) (fp : List Addr), PG (gcx X (gA X (gE X scope C code)) s H (gE X scope C code) fp) t0 g)
    (hw1 : ∀ (s : Shared) (H : Hp) (C : Addr) (code : Value) (fp : List Addr), Room k (gA X (gE X scope C code)) → PI (gcx X (gA X (gE X scope C code)) s H (gE X scope C code) fp) t1 i1 w1)
    (hg1 : ∀ (s : Shared) (H : Hp) (C : Addr) (code : Value) (fp : List Addr), PG (gcx X (gA X (gE X scope C code)) s H (gE X scope C code) fp) t1 g1)
    (hel : ∀ (s : Shared) (H : Hp) (C : Addr) (code : Value) (fp : List Addr), Room k (gA X (gE X scope C code)) → PE (gcx X (gA X (gE X scope C code)) s H (gE X scope C code) fp) elt te)
    (hs : ∀ v, genFold iter X.env v = pure v) (hs1 : ∀ env v, foldedSetIterable i1 env v = pure v) (I : Inv X pins σ H s) (h : tAllG2 P own wi g w1 g1 te go σ H R)
    (hQ : ∀ (Z : Cx) (fp : List Addr) (tn : Nat → Heap → Prop) (a : Addr) (o : Obj) (n gg : Nat) (Pn : Plan) (nm qn : Value) (s5 : Shared) (gs : GenState) (σ5 : L2.St) (H5 : Hp), Z.prog = X.prog → Z.w = X.w →
      o.cls = .type "generator" → o.data = .fields #[.int gg 0, nm, qn] → o.slots = #[] → Inv Z [(a, o)] σ5 H5 s5 → s5.gens[gg]? = some gs →
      gs.Goes (model Z.prog Z.w) X.A.in1.in1 (fun m s₁ r s₂ => r = .ok .next ∧ gP Z [(a, o)] Pn gg m s₁ s₂) (gY Z [(a, o)] fp tn Pn go n gg) n (.send .none) (s5.setGen gg .running) →
      (∀ i σ' H' s', Inv Z [(a, o)] σ' H' s' → Pn.Out (!go) i σ' H' → ∃ H'', Inv X pins σ H'' s' ∧ R (.bl (!go)) H'') →
      (∀ σ' H' s', Inv Z [(a, o)] σ' H' s' → Pn.Fin H' → ∃ H'', Inv X pins σ H'' s' ∧ R (.bl go) H'') → Q' (.ref a) s5) :
    wpAny (model X.prog X.w) X.A (eval (.GeneratorExp elt [⟨t0, iter, [], 0⟩, ⟨t1, i1, [], 0⟩] scope gpos) X.env) Q' X.xe s := by
  have has : ∀ y ∈ scope.names, y.2 = .free → ∃ c, X.env.cells.lookup y.1 = some c := fun y hy e => by
    rcases G.free y hy e with k | k
    · exact I.ok.has _ (.inl k)
    · exact I.ok.has _ (.inr k)
  refine made_ge G.co (closure_ok has) G.cell G.dot G.kind (by have := hr.dp; omega) ?_ hs
  refine thn (hi.run pins s σ H _ I h) fun xv s1 h1 => thn h1 fun itv s2 h2 => ?_
  obtain ⟨it, fp, tn, J, H1, rfl, I1, T, st1, f1, ⟨ps, hP, ht⟩, plan⟩ := h2
  have hPs : s2.heap.get? P = some { cls := .none, data := .fields ps } := I1.hok P _ hP
  have cd : PySem.W.CodeHd s2.heap c P := TB.code.keeps fun b u e => I1.bk b u e
  have fpP : ∀ b ∈ fp, b ≠ P := fun b hb z => by
    have := (f1 b hb).1
    rw [z, hP] at this
    cases this
  have cont : ∀ (code : Value) (h3 : Heap) (tk : Nat) (ps' : Array Value), Heap.ExtBut P s2.heap h3 → h3.get? P = some { cls := .none, data := .fields ps' } → (∃ more, ps' = ps ++ more) → TriplesOk ps'.toList →
      wpAny (model X.prog X.w) X.A (builtinsFor X.env.globals X.env.builtins) (fun bi s₄ => ∀ h', h'.Ns s₄.heap.objs.size (fun y => if y = (".0" : Str) then some (.ref it) else none) → Heap.SameBut s₄.heap.objs.size (s₄.heap.push { cls := .type "frame", data := .dict #[] }) h' →
          Q' (.ref h'.objs.size) { s₄ with
            gens := s₄.gens.push (.fresh (.compStart (.GeneratorExp elt [⟨t0, iter, [], 0⟩, ⟨t1, i1, [], 0⟩] scope gpos) 0 (.ref it) .none (genEnv scope (cloFrom X.env.cells scope.names []) s₄.heap.objs.size code bi X.env))),
            toks := s₄.toks + 1 + 1 + 1,
            heap := h'.push { cls := .type "generator", data := .fields #[.int s₄.gens.size 0, .str "<genexpr>" (s₄.toks + 1), .str (X.env.qual ++ "<genexpr>") (s₄.toks + 1 + 1)] } }) X.xe { s2 with heap := h3, toks := tk } := by
    intro code h3 tk ps' hx hP3 hmore ht3
    obtain ⟨bm, ob, e1, e2, e3, e4, e5, e6, e7, e8⟩ := TB.bm
    refine wpAny_builtinsFor (m := X.mg) (by rw [I1.ok.glob]; exact (I1.mod.glob.keeps I1.bk).extBut hx TB.gP) e1 e2 (hx _ _ e4 (I1.bk _ _ e5)) e6 e7 e8 ?_
    intro h' hns hsb
    obtain ⟨more, rfl⟩ := hmore
    have I3 : Inv X pins σ (upd H1 P (.tbl (ps ++ more))) { s2 with heap := h3, toks := tk } :=
      GxR.inv_tab (more := more) (h' := h3) (g' := s2.gens) (d' := s2.drawn) (t' := tk) I1 hP (fun b u hb e => hx b u hb e) hP3 I1.bare
    have H2 : GxR.Tabbed P H1 (upd H1 P (.tbl (ps ++ more))) := ⟨⟨ps ++ more, upd_same, ht3⟩, fun b hb => upd_ne hb⟩
    obtain ⟨n0, n, Pn2, tt, w0, pOut, pFin⟩ := plan _ H2
    have f3 : ∀ b ∈ fp, FpOk X pins (upd H1 P (.tbl (ps ++ more))) b := fun b hb => ⟨by rw [upd_ne (fpP b hb)]; exact (f1 b hb).1, (f1 b hb).2⟩
    have st3 : tn 0 h3 := T.keep _ _ _ st1 fun b hb o e => hx b o (fpP b hb) e
    have lt3 : ∀ b ∈ fp, b < h3.objs.size := fun b hb => by
      obtain ⟨o, e, _⟩ := T.obj _ _ st3 b hb
      exact Heap.lt_size e
    have hsz : h'.objs.size = h3.objs.size + 1 := by rw [hsb.1, Heap.size_push]
    have kp' : ∀ b o, h3.get? b = some o → h'.get? b = some o := fun b o e => hsb.extBut b o (Nat.ne_of_lt (Heap.lt_size e)) (Heap.get?_push_of_some _ e)
    have key : ∀ (o : Obj) (nm qn : Value), o.cls = .type "generator" → o.data = .fields #[.int s2.gens.size 0, nm, qn] → o.slots = #[] → (h'.push o).get? h'.objs.size = some o →
        Q' (.ref h'.objs.size) { s2 with
            gens := s2.gens.push (.fresh (.compStart (.GeneratorExp elt [⟨t0, iter, [], 0⟩, ⟨t1, i1, [], 0⟩] scope gpos) 0 (.ref it) .none (gE X scope h3.objs.size code))),
            toks := tk + 1 + 1 + 1, heap := h'.push o } := by
      intro o nm qn hc hd hsl hget
      have kp5 : ∀ b u, h3.get? b = some u → (h'.push o).get? b = some u := fun b u e => Heap.get?_push_of_some _ (kp' b u e)
      have bare5 : AllBare (s2.gens.push (.fresh (.compStart (.GeneratorExp elt [⟨t0, iter, [], 0⟩, ⟨t1, i1, [], 0⟩] scope gpos) 0 (.ref it) .none (gE X scope h3.objs.size code)))) := I1.bare.push rfl
      have Rm : Room k (gA X (gE X scope h3.objs.size code)) := ⟨hr.hd, by have := hr.dp; show X.A.depth + 1 + 3 * k + 5 < _; omega, by have := hr.un; show X.A.units + 1 + 1 + 3 + 16 * k + 200 < _; omega⟩
      have J0 := gx_startL (A := gA X (gE X scope h3.objs.size code)) (code := code) (fp := fp) (itv := .ref it) (h1 := h'.push o) (tk := tk + 1 + 1 + 1) (pin := [(h'.objs.size, o)])
        (gens' := s2.gens.push (.fresh (.compStart (.GeneratorExp elt [⟨t0, iter, [], 0⟩, ⟨t1, i1, [], 0⟩] scope gpos) 0 (.ref it) .none (gE X scope h3.objs.size code)))) (own := own) (N := X.N) I3 G
        (Around.frames_deeper I.ok.frames) hr.hd f3 lt3 (hns.push _) kp5 bare5 (fun q hq => by
          rw [List.mem_singleton.mp hq]
          refine ⟨hget, ?_, fun v z => ?_⟩
          · show h3.objs.size < h'.objs.size
            omega
          · rw [hd] at z; cases z)
      have st5 : tn 0 (h'.push o) := T.keep _ _ _ st3 fun b hb u e => kp5 b u e
      have n5 : ∀ d ∈ fp, upd H1 P (.tbl (ps ++ more)) d = none := fun d hd => (f3 d hd).1
      have back : ∀ {σ' : L2.St} {H' : Hp} {s' : Shared}, Inv (gcx X (gA X (gE X scope h3.objs.size code)) { s2 with heap := h3, toks := tk } (upd H1 P (.tbl (ps ++ more))) (gE X scope h3.objs.size code) fp) [(h'.objs.size, o)] σ' H' s' → Inv X pins σ H' s' := fun {σ' H' s'} J =>
        I3.call' (ch := fp) J.os J.base J.hok J.bare fun b hb => ⟨(f3 b hb).2.2.2.1, (f3 b hb).2.1, (f3 b hb).2.2.2.2.1, (f3 b hb).2.2.2.2.2⟩
      have stat : ∀ {HH : Hp}, (∀ d ∈ fp, HH d = none) → ∀ d ∈ fp, FpOk (gcx X (gA X (gE X scope h3.objs.size code)) { s2 with heap := h3, toks := tk } (upd H1 P (.tbl (ps ++ more))) (gE X scope h3.objs.size code) fp) [(h'.objs.size, o)] HH d := fun {HH} hn d hd => by
        refine ⟨hn d hd, Nat.ne_of_lt (lt3 d hd), fun hm => ?_, .inl hd, fun y cc e => (f3 d hd).2.2.2.2.1 y cc (clo_sub has e), fun q hq => ?_⟩
        · have hm' : d ∈ frs X.stack := hm
          rcases List.mem_cons.mp (I3.stkSub d hm') with z | z
          · exact (f3 d hd).2.1 z
          · exact (f3 d hd).2.2.1 z
        · have hq' : q ∈ [(h'.objs.size, o)] := by
            rcases List.mem_append.mp hq with z | z
            · exact absurd (show q ∈ ([] : List (Addr × Obj)) from z) (by simp)
            · exact z
          rw [List.mem_singleton.mp hq']
          show h'.objs.size ≠ d
          exact Nat.ne_of_gt (by rw [hsz]; exact Nat.lt_succ_of_lt (lt3 d hd))
      have gsz : s2.gens.size < (s2.gens.push (GenState.fresh (.compStart (.GeneratorExp elt [⟨t0, iter, [], 0⟩, ⟨t1, i1, [], 0⟩] scope gpos) 0 (.ref it) .none (gE X scope h3.objs.size code)))).size := by
        rw [Array.size_push]; exact Nat.lt_succ_self _
      refine hQ (gcx X (gA X (gE X scope h3.objs.size code)) { s2 with heap := h3, toks := tk } (upd H1 P (.tbl (ps ++ more))) (gE X scope h3.objs.size code) fp) fp tn h'.objs.size o n s2.gens.size Pn2.flat nm qn _ _ _ _ rfl rfl hc hd hsl J0 (Array.getElem?_push_size ..) ⟨rfl, ?_⟩ (fun i σ' H' s' J q => ⟨H', back J, pOut σ' H' q⟩) (fun σ' H' s' J q => ⟨H', back J, pFin H' q⟩)
      have bt := both (Z := gcx X (gA X (gE X scope h3.objs.size code)) { s2 with heap := h3, toks := tk } (upd H1 P (.tbl (ps ++ more))) (gE X scope h3.objs.size code) fp) (i0 := iter) (scope := scope) (pos := gpos) (n := n) (g := s2.gens.size) (A := X.A.in1.in1)
        T (hgt _ _ _ _ _) (hw1 _ _ _ _ _ Rm) (hg1 _ _ _ _ _) (hel _ _ _ _ _ Rm) (fun _ _ z => z) rfl G.co tt (hs1 _) rfl (fun _ _ _ _ _ => rfl) stat n
      refine begin2 (Z := gcx X (gA X (gE X scope h3.objs.size code)) { s2 with heap := h3, toks := tk } (upd H1 P (.tbl (ps ++ more))) (gE X scope h3.objs.size code) fp) T rfl (bt.1 0 (Nat.zero_le _)) _ _ _ _ (inv_gens J0 (bare_set bare5 rfl)) st5 n5 ?_ w0 (Nat.le_refl _)
      rw [GenW.setGen_size]
      exact gsz
    exact key _ _ _ rfl rfl rfl (Heap.get?_push_size _ rfl)
  refine ⟨I1.nolimit, ?_⟩
  cases hf : codeAmong gpos ps.toList with
  | none =>
    refine wpAny_genexprCodeX hcode (cd.code hPs ht) (cd.tab hPs) hf fun c' h' tk hx hge hlt hco' _ htab' _ => ?_
    obtain ⟨o1, vs, f1, tf, fl, tg, inF, tx, tt, op, _, _, _, _, _, _, _, _, _, htr, _⟩ := hco'
    exact cont _ h' tk _ hx htab'.2 ⟨_, rfl⟩ htr
  | some cv =>
    refine wpAny_genexprCode_hit hcode (cd.code hPs ht) hf ?_
    exact cont cv s2.heap s2.toks ps (Heap.ExtBut.refl _ _) hPs ⟨#[], by simp⟩ ht

/-- all(elt for x in iter) -/
theorem pe_all2 (hr : Room (k + 1) X.A) (hga : Gl X "all") (hma : X.mg "all" = none) (TB : GxR.TabB X.base X.mg c P) (hcode : X.env.code = .ref c) (G : GScL X.N X.env.scope scope own) (hi : PI X t0 iter wi)
    (hgt : ∀ (s : Shared) (H : Hp) (C : Addr) (code : Value) (fp : List Addr), PG (gcx X (gA X (gE X scope C code)) s H (gE X scope C code) fp) t0 g)
    (hw1 : ∀ (s : Shared) (H : Hp) (C : Addr) (code : Value) (fp : List Addr), Room k (gA X (gE X scope C code)) → PI (gcx X (gA X (gE X scope C code)) s H (gE X scope C code) fp) t1 i1 w1)
    (hg1 : ∀ (s : Shared) (H : Hp) (C : Addr) (code : Value) (fp : List Addr), PG (gcx X (gA X (gE X scope C code)) s H (gE X scope C code) fp) t1 g1)
    (hel : ∀ (s : Shared) (H : Hp) (C : Addr) (code : Value) (fp : List Addr), Room k (gA X (gE X scope C code)) → PE (gcx X (gA X (gE X scope C code)) s H (gE X scope C code) fp) elt te)
    (hs : ∀ v, genFold iter X.env v = pure v) (hs1 : ∀ env v, foldedSetIterable i1 env v = pure v)
    (he : starEach [.GeneratorExp elt [⟨t0, iter, [], 0⟩, ⟨t1, i1, [], 0⟩] scope gpos] X.env = (false, eval (.GeneratorExp elt [⟨t0, iter, [], 0⟩, ⟨t1, i1, [], 0⟩] scope gpos) X.env) :: starEach [] X.env := by rfl) :
    PE X (.Call (.Name "all" p) [.GeneratorExp elt [⟨t0, iter, [], 0⟩, ⟨t1, i1, [], 0⟩] scope gpos] [] pos) (tAllG2 P own wi g w1 g1 te true) := by
  refine ⟨fun pins s σ H Q I h => ?_⟩
  refine wpAny_Call_Name_kw (ld_blt I hga hma boot_all ?_)
  refine PyProof.Rows.callWith_builtin1 ?_ he (by rfl)
  rw [he]
  refine Calls.spliced_cons (gen_made2 hr TB hcode G hi hgt hw1 hg1 hel hs hs1 I h fun Z fp tn a o n gg Pn nm qn s5 gs σ5 H5 e1 e2 hc hd hsl J hgs hgo oOut oFin => ?_)
  refine Calls.spliced_nil ?_
  refine call_function_tree F.kind_all F.plain_all F.entry_all (F.args_all1 _) ?_
  unfold Builtin.«all»
  refine wpAny_bind (m := oneArg "all" _) (wpAny_pure ?_)
  refine wpAny_bind (wpAny_pyIter_gen (isGen_pin hc hd hsl J) ?_)
  refine wpAny_pure ⟨plainId_quiet F.plain_all_loop _, ?_⟩
  rw [← e1, ← e2]
  refine all_walk hc hd hsl hr.hd (by have := hr.dp; show X.A.depth < _; omega) (fun i σ' H' s' J' q => ?_) (fun σ' H' s' J' q => ?_) n s5 gs σ5 H5 J hgs hgo
  · obtain ⟨H'', I', q'⟩ := oOut i σ' H' s' J' q
    exact ⟨.bl false, H'', I', rfl, q'⟩
  · obtain ⟨H'', I', q'⟩ := oFin σ' H' s' J' q
    exact ⟨.bl true, H'', I', rfl, q'⟩
/-- any(elt for x in iter) -/
theorem pe_any2 (hr : Room (k + 1) X.A) (hga : Gl X "any") (hma : X.mg "any" = none) (TB : GxR.TabB X.base X.mg c P) (hcode : X.env.code = .ref c) (G : GScL X.N X.env.scope scope own) (hi : PI X t0 iter wi)
    (hgt : ∀ (s : Shared) (H : Hp) (C : Addr) (code : Value) (fp : List Addr), PG (gcx X (gA X (gE X scope C code)) s H (gE X scope C code) fp) t0 g)
    (hw1 : ∀ (s : Shared) (H : Hp) (C : Addr) (code : Value) (fp : List Addr), Room k (gA X (gE X scope C code)) → PI (gcx X (gA X (gE X scope C code)) s H (gE X scope C code) fp) t1 i1 w1)
    (hg1 : ∀ (s : Shared) (H : Hp) (C : Addr) (code : Value) (fp : List Addr), PG (gcx X (gA X (gE X scope C code)) s H (gE X scope C code) fp) t1 g1)
    (hel : ∀ (s : Shared) (H : Hp) (C : Addr) (code : Value) (fp : List Addr), Room k (gA X (gE X scope C code)) → PE (gcx X (gA X (gE X scope C code)) s H (gE X scope C code) fp) elt te)
    (hs : ∀ v, genFold iter X.env v = pure v) (hs1 : ∀ env v, foldedSetIterable i1 env v = pure v)
    (he : starEach [.GeneratorExp elt [⟨t0, iter, [], 0⟩, ⟨t1, i1, [], 0⟩] scope gpos] X.env = (false, eval (.GeneratorExp elt [⟨t0, iter, [], 0⟩, ⟨t1, i1, [], 0⟩] scope gpos) X.env) :: starEach [] X.env := by rfl) :
    PE X (.Call (.Name "any" p) [.GeneratorExp elt [⟨t0, iter, [], 0⟩, ⟨t1, i1, [], 0⟩] scope gpos] [] pos) (tAllG2 P own wi g w1 g1 te false) := by
  refine ⟨fun pins s σ H Q I h => ?_⟩
  refine wpAny_Call_Name_kw (ld_blt I hga hma boot_any ?_)
  refine PyProof.Rows.callWith_builtin1 ?_ he (by rfl)
  rw [he]
  refine Calls.spliced_cons (gen_made2 hr TB hcode G hi hgt hw1 hg1 hel hs hs1 I h fun Z fp tn a o n gg Pn nm qn s5 gs σ5 H5 e1 e2 hc hd hsl J hgs hgo oOut oFin => ?_)
  refine Calls.spliced_nil ?_
  refine call_function_tree F.kind_any F.plain_any F.entry_any (F.args_any1 _) ?_
  unfold Builtin.«any»
  refine wpAny_bind (m := oneArg "any" _) (wpAny_pure ?_)
  refine wpAny_bind (wpAny_pyIter_gen (isGen_pin hc hd hsl J) ?_)
  refine wpAny_pure ⟨plainId_quiet F.plain_any_loop _, ?_⟩
  rw [← e1, ← e2]
  refine any_walk hc hd hsl hr.hd (by have := hr.dp; show X.A.depth < _; omega) (fun i σ' H' s' J' q => ?_) (fun σ' H' s' J' q => ?_) n s5 gs σ5 H5 J hgs hgo
  · obtain ⟨H'', I', q'⟩ := oOut i σ' H' s' J' q
    exact ⟨.bl true, H'', I', rfl, q'⟩
  · obtain ⟨H'', I', q'⟩ := oFin σ' H' s' J' q
    exact ⟨.bl false, H'', I', rfl, q'⟩
end
end Gx

namespace Tb
open PySem PySem.Spec PyProof.Rows L2
/-! ### sorted(a list of lists of whole numbers) -/
def encL (ns : List Int) : PyData := .list (ns.map PyData.int)
noncomputable def srt (l : List (List Int)) : List (List Int) := l.mergeSort (PySem.W.dataLe false encL)
def rSortLL (K : PySem.W.Frag) : List V → Hp → VK → Prop := fun vs H Q => ∃ (a : Addr) (bs : List (Addr × List Int)), vs = [.ref a] ∧ SqL K H a (bs.map fun q => V.ref q.1) ∧ (∀ q ∈ bs, H q.1 = some (.lst (q.2.map V.int))) ∧
  ∀ p (bs' : List (Addr × List Int)), bs'.map Prod.snd = srt (bs.map Prod.snd) → bs'.Perm bs → H p = none → Q (.ref p) (upd H p (.lst (bs'.map fun q => V.ref q.1)))
theorem alike_l (a b : List Int) : PySem.W.alike (encL a) (encL b) = true := by
  show PySem.W.alike (.list _) (.list _) = true
  simpa [PySem.W.alike] using PySem.W.alike_ints a b
theorem back_refs : ∀ (bs : List (Addr × List Int)) (us : List Value), Vals (bs.map fun q => V.ref q.1) us → us = bs.map fun q => Value.ref q.1
  | [], _, .nil => rfl
  | b :: r, _, .cons h t => by
    have h' : _ = Value.ref b.1 := h
    rw [h', back_refs r _ t]; rfl
theorem to_refs : ∀ bs : List (Addr × List Int), Vals (bs.map fun q => V.ref q.1) (bs.map fun q => Value.ref q.1)
  | [] => .nil
  | b :: r => .cons rfl (to_refs r)
theorem each_refs : ∀ bs : List (Addr × List Int), PySem.W.EachIs (fun v (q : Addr × List Int) => v = Value.ref q.1) (bs.map fun q => Value.ref q.1) bs
  | [] => .nil
  | b :: r => .cons rfl (each_refs r)
theorem of_each : ∀ {vs : List Value} {bs : List (Addr × List Int)}, PySem.W.EachIs (fun v (q : Addr × List Int) => v = Value.ref q.1) vs bs → vs = bs.map fun q => Value.ref q.1
  | _, _, .nil => rfl
  | _, _, .cons h t => by rw [h, of_each t]; rfl
theorem each_imp {α β : Type} {R S : α → β → Prop} : ∀ {as : List α} {bs : List β}, PySem.W.EachIs R as bs → (∀ a b, b ∈ bs → R a b → S a b) → PySem.W.EachIs S as bs
  | _, _, .nil, _ => .nil
  | _, _, .cons h t, f => .cons (f _ _ List.mem_cons_self h) (each_imp t fun a b hb => f a b (List.mem_cons_of_mem _ hb))
theorem reads_ints {h : Heap} : ∀ (ns : List Int) (us : List Value), Vals (ns.map V.int) us → ReadsAll h us (ns.map PyData.int) []
  | [], _, .nil => .nil
  | n :: r, _, .cons hh t => by
    obtain ⟨tk, rfl⟩ := hh
    exact .cons (Reads.int n tk) (reads_ints r _ t)
section
variable {X : Cx}
theorem cr_sortLL (hu : X.A.units + 64 < cLine) : CallR X (.builtin "sorted") (rSortLL X.K) := by
  intro pins s σ H vs us Q I r h
  obtain ⟨a, bs, rfl, hs, hb, q⟩ := h
  obtain ⟨its, rv, hl, hz⟩ := I.list hs
  obtain ⟨u, rfl, ru⟩ := r.one
  obtain rfl : u = Value.ref a := ru
  obtain rfl := back_refs bs its rv
  have rd : ∀ b ∈ bs, ∃ as, Reads s.heap (.ref b.1) (encL b.2) as := fun b hm => by
    obtain ⟨z, i2, n, r2, ho⟩ := I.hok _ _ (hb b hm)
    exact ⟨_, Reads.list ho rfl rfl (reads_ints _ _ r2)⟩
  have dep : ∀ q : Addr × List Int, (encL q.2).depth = 1 := fun q => by
    show PyData.depthAll _ + 1 = 1
    rw [PySem.W.depth_ints]
  refine PySem.W.sorted_data (enc := fun q : Addr × List Int => encL q.2) hl.isList (each_refs bs) (each_imp (each_refs bs) fun v b hm e => by rw [e]; exact rd b hm) (PySem.W.AllAlike.of fun b b' => alike_l _ _)
    (PySem.W.Sortable.others fun b => ⟨(fun z => by cases z), fun xs z => by cases z⟩) (by rw [← List.length_map (f := fun q : Addr × List Int => V.ref q.1)]; exact hz) (fun b _ => by rw [dep]; omega) fun out ho eo => ?_
  have eout := of_each eo
  generalize hbs : bs.mergeSort (PySem.W.dataLe false fun q : Addr × List Int => encL q.2) = bs' at eout eo
  have pm : bs'.Perm bs := by rw [← hbs]; exact List.mergeSort_perm _ _
  have e2 : bs'.map Prod.snd = srt (bs.map Prod.snd) := by
    rw [← hbs]
    unfold srt
    exact List.map_mergeSort fun a _ b _ => rfl
  subst eout
  obtain ⟨c, hc⟩ := sortedAll_at s.heap (bs.map fun q => Value.ref q.1) (bs'.map fun q => Value.ref q.1).toArray
  refine ⟨.ref (s.heap.objs.size + 1), upd H (s.heap.objs.size + 1) (.lst (bs'.map fun q => V.ref q.1)), I.laid (t' := s.toks) (fun b o e => sortedAll_old e) (Nat.le_succ _) ⟨?_, _, c, to_refs bs', hc⟩, rfl, q _ bs' e2 pm (I.hok.fresh (Nat.le_succ _))⟩
  rw [List.length_map, pm.length_eq, ← List.length_map (f := fun q : Addr × List Int => V.ref q.1)]
  exact hz
end
end Tb

namespace Tb
open PySem PySem.Spec PyProof.Rows L2
/-! ### set of a tuple of ints, by the way of St -/
abbrev isoT (l : Addr) : Obj := { cls := .type "tuple_iterator", data := .fields #[.ref l, .int 0 0] }
section
variable {P : Program} {w : World} {A : Around} {E : Value → Shared → Prop} {s : Shared}
theorem set_of_tuple {l : Addr} {its : Array Value} (zs : List Int) {Q : Value → Shared → Prop} (h0 : A.handled = none) (hL : s.heap.IsTuple l its) (hI : IntsAre its.toList zs) (hB : zs.length + 1 < scanBound)
    (k : ∀ (g : Heap) (tk c : Nat), SetR w g s.heap.objs.size (fun j => decide (j ∈ zs)) c → c ≤ zs.length → (∀ b o, s.heap.get? b = some o → g.get? b = some o) → Q (.ref s.heap.objs.size) { s with heap := g, toks := tk }) :
    wpAny (model P w) A (call (.type "set") [.ref l]) Q E s := by
  have size : its.size = zs.length := by
    have := IntsAre.length hI
    rwa [Array.length_toList] at this
  obtain ⟨cc, tl, hmro⟩ := F.called_set.mro
  have made := F.called_set.made
  have subs := F.called_set.sub
  refine wpAny_call (codeAny_of_tree ?_)
  show wpAny _ _ (callAny (.type "set") _) _ _ _
  refine wpAny_pure ⟨Code.quiet_builtin _ (by decide +kernel), ?_⟩
  refine codeAny_builtin F.entry_type_call ?_
  rw [Around.under_plain (weight_type_call_type "set" [.ref l] []) rfl]
  have nt := F.called_set.notType
  have cr := F.called_set.canCreate
  have tc := F.typeCall_set_1 (.ref l)
  repeat (any_goals (first | assumption | wp_step))
  refine codeAny_mono (code_set_led1 (.ref l) (E := E) (Q₁ := fun u s1 => u = .ref s.heap.objs.size ∧ s1 = { s with heap := s.heap.push (nso w) }) ⟨rfl, rfl⟩) fun r s1 hr => ?_
  cases r with
  | error e => exact hr
  | ok fl =>
    cases fl with
    | ret u =>
      obtain ⟨rfl, rfl⟩ := hr
      have gS : (s.heap.push (nso w)).get? s.heap.objs.size = some (nso w) := Heap.get?_push_size _ rfl
      have tS : Shared.TypeIs { s with heap := s.heap.push (nso w) } (.ref s.heap.objs.size) "set" := ⟨_, gS, rfl⟩
      have il := F.called_set.init.lookup
      have ib := F.called_set.init.bind (.ref s.heap.objs.size)
      repeat (any_goals (first | assumption | wp_step))
      refine codeAny_mono (codeAny_call_builtin (R := wants (fun r s2 => r = .none ∧ ∃ g tk c, s2 = { s with heap := g, toks := tk } ∧ SetR w g s.heap.objs.size (fun j => decide (j ∈ zs)) c ∧ c ≤ zs.length ∧
          (∀ b o, s.heap.get? b = some o → g.get? b = some o)) E) F.called_set.init.plain F.entry_set_init (check_set_init_1 tS ?_)) fun r2 s2 hr2 => ?_
      · obtain ⟨ol, gl, cl, nl, dl⟩ := hL
        obtain ⟨lc, ld, lt, ls⟩ := ol
        simp only at cl dl
        subst cl; subst dl
        have gl' : (s.heap.push (nso w)).get? l = some { cls := .type "tuple", dict := ld, data := .seq its nl, slots := ls } := Heap.get?_push_of_some _ gl
        have q1 := F.sub_tuple_set
        have q2 := F.sub_tuple_frozenset
        have q3 : (Value.type "tuple" == Value.type "dict") = false := by decide
        have L1 : (s.heap.push (nso w)).IsTuple l its := ⟨_, gl', rfl, nl, rfl⟩
        unfold Builtin.«set.__init__» noKeywords Builtin.Frozenset.updateFrom
        generalize hPI : pyIter = PI
        wp_walk
        subst hPI
        refine wpAny_pyIter_tuple L1 ?_
        refine wpAny_bind (wpAny_runValue ?_)
        have below : l < s.heap.objs.size := Heap.lt_size gl
        have h3 : A.in1.in1.in1.handled = none := by simp [h0]
        have z1 : (s.heap.push (nso w)).objs.size = s.heap.objs.size + 1 := Heap.size_push ..
        have ne1 : l ≠ (s.heap.push (nso w)).objs.size := by
          rw [z1]; exact Nat.ne_of_lt (Nat.lt_succ_of_lt below)
        have nS : s.heap.objs.size ∉ [(s.heap.push (nso w)).objs.size, l] := by
          rw [z1]
          simp only [List.mem_cons, List.mem_singleton, List.not_mem_nil, or_false, not_or]
          exact ⟨Nat.ne_of_lt (Nat.lt_succ_self _), Nat.ne_of_gt below⟩
        have vals : ∀ (i : Nat) (v : Value), its[i]? = some v → ∃ z t, zs[i]? = some z ∧ v = .int z t := by
          intro i v hv
          have hi : i < zs.length := by rw [← size]; exact (Array.getElem?_eq_some_iff.mp hv).1
          obtain ⟨t, e⟩ := PyProof.Rows.IntsAre.int_at hI i v (by rw [Array.getElem?_toList]; exact hv)
          exact ⟨zs[i], t, List.getElem?_eq_getElem hi, by rw [e, List.getD_eq_getElem?_getD, List.getElem?_eq_getElem hi] <;> rfl⟩
        refine set_update_ints ((Walks.tuple h3 _ l ne1 its).toS) s.heap.objs.size nS zs size hB vals (its.size - 0) 0 _ (by omega) (Nat.zero_le _) ⟨⟨_, Heap.get?_push_size _ rfl, rfl, rfl⟩, (L1.push _)⟩ ?c0 ?c1
        case c0 => exact ⟨0, Nat.le_refl 0, setR_new_at (show ((s.heap.push (nso w)).push (isoT l)).get? s.heap.objs.size = some (nso w) from Heap.get?_push_of_some _ gS)⟩
        case c1 =>
          intro s' c' mv lc' R'
          obtain ⟨g, gg, dd, tk', os'⟩ := s'
          have e1 : gg = s.gens := mv.gens
          have e2 : dd = s.drawn := mv.drawn
          have e3 : os' = s.os := mv.os
          subst e1; subst e2; subst e3
          show wpAny _ _ _ _ _ _
          refine wpAny_pure ?_
          show wpAny _ _ (ret Value.none) _ _ _
          rw [size] at lc'
          refine wpAny_pure ⟨rfl, g, tk', c', rfl, R', lc', fun b o e => ?_⟩
          have b0 : b < s.heap.objs.size := Heap.lt_size e
          refine mv.heap b o (fun hm => ?_) (Heap.get?_push_of_some _ (Heap.get?_push_of_some _ e))
          rcases List.mem_cons.mp hm with q | q
          · exact absurd q (Nat.ne_of_lt b0)
          · rcases List.mem_cons.mp q with q | q
            · rw [z1] at q
              exact absurd q (Nat.ne_of_lt (Nat.lt_succ_of_lt b0))
            · cases q
      · cases r2 with
        | error e => exact hr2
        | ok f2 =>
          cases f2 with
          | ret r =>
            obtain ⟨rfl, g, tk, c, rfl, R2, lc2, kk⟩ := hr2
            repeat (any_goals (first | assumption | wp_step))
            exact k _ _ _ R2 lc2 kk
          | next => exact hr2.elim
          | brk => exact hr2.elim
          | cont => exact hr2.elim
    | next => exact hr.elim
    | brk => exact hr.elim
    | cont => exact hr.elim
end
/-- sorted(set(xs)), xs a tuple of ints -/
def rSetT (w : World) (K : PySem.W.Frag) : List V → Hp → VK → Prop := fun vs H Q => ∃ (l : Addr) (zs : List Int), vs = [.ref l] ∧ SqT K H l (zs.map V.int) ∧ zs.length + 1 < scanBound ∧
  ∀ p c, H p = none → c ≤ zs.length → Q (.ref p) (upd H p (SetO w p (fun j => decide (j ∈ zs)) c))
theorem cr_setT {X : Cx} (hc : X.calm = true) : CallR X (.type "set") (rSetT X.w X.K) := by
  intro pins s σ H vs us Q I r h
  obtain ⟨l, zs, rfl, hl, hb, q⟩ := h
  obtain ⟨u, rfl, ru⟩ := r.one
  cases ru
  obtain ⟨its, rv, p, hz⟩ := I.tuple hl
  refine set_of_tuple zs (I.ok.hd hc) p (by simpa using ints_of_vals rv) hb fun g tk c R hc' kp => ?_
  exact ⟨.ref _, upd H s.heap.objs.size (SetO X.w s.heap.objs.size (fun j => decide (j ∈ zs)) c), I.laid kp (Nat.le_refl _) (setO_new R), rfl, q _ c (I.hok.fresh (Nat.le_refl _)) hc'⟩
end Tb

namespace Tb
open PySem PySem.Spec PyProof.Rows L2
/-! ### set of a tuple of tuples of ints, by the way of St -/
section
variable {P : Program} {w : World} {A : Around} {E : Value → Shared → Prop} {s : Shared}
theorem set_of_tuples {l : Addr} {its : Array Value} (ks : List (Addr × List Int)) {Q : Value → Shared → Prop} (h0 : A.handled = none) (hL : s.heap.IsTuple l its) (hI : its.toList = ks.map fun p => Value.ref p.1) (hk : ∀ p ∈ ks, IsT P w s.heap p.2 p.1) (hB : ks.length < 64) (hu : A.units + 3 < cLine)
    (k : ∀ (g : Heap) (tk : Nat) (L : List (Addr × List Int)) (es : Array (Int × Value)) (ep : Nat) (t : SetTable), SetTR P w g s.heap.objs.size L es ep t → Got ks ks.length L → (∀ b o, s.heap.get? b = some o → g.get? b = some o) → Q (.ref s.heap.objs.size) { s with heap := g, toks := tk }) :
    wpAny (model P w) A (call (.type "set") [.ref l]) Q E s := by
  have size : its.size = ks.length := by
    have := congrArg List.length hI
    rwa [Array.length_toList, List.length_map] at this
  obtain ⟨cc, tl, hmro⟩ := F.called_set.mro
  have made := F.called_set.made
  have subs := F.called_set.sub
  refine wpAny_call (codeAny_of_tree ?_)
  show wpAny _ _ (callAny (.type "set") _) _ _ _
  refine wpAny_pure ⟨Code.quiet_builtin _ (by decide +kernel), ?_⟩
  refine codeAny_builtin F.entry_type_call ?_
  rw [Around.under_plain (weight_type_call_type "set" [.ref l] []) rfl]
  have nt := F.called_set.notType
  have cr := F.called_set.canCreate
  have tc := F.typeCall_set_1 (.ref l)
  repeat (any_goals (first | assumption | wp_step))
  refine codeAny_mono (code_set_led1 (.ref l) (E := E) (Q₁ := fun u s1 => u = .ref s.heap.objs.size ∧ s1 = { s with heap := s.heap.push (nso w) }) ⟨rfl, rfl⟩) fun r s1 hr => ?_
  cases r with
  | error e => exact hr
  | ok fl =>
    cases fl with
    | ret u =>
      obtain ⟨rfl, rfl⟩ := hr
      have gS : (s.heap.push (nso w)).get? s.heap.objs.size = some (nso w) := Heap.get?_push_size _ rfl
      have tS : Shared.TypeIs { s with heap := s.heap.push (nso w) } (.ref s.heap.objs.size) "set" := ⟨_, gS, rfl⟩
      have il := F.called_set.init.lookup
      have ib := F.called_set.init.bind (.ref s.heap.objs.size)
      repeat (any_goals (first | assumption | wp_step))
      refine codeAny_mono (codeAny_call_builtin (R := wants (fun r s2 => r = .none ∧ ∃ g tk L es ep t, s2 = { s with heap := g, toks := tk } ∧ SetTR P w g s.heap.objs.size L es ep t ∧ Got ks ks.length L ∧
          (∀ b o, s.heap.get? b = some o → g.get? b = some o)) E) F.called_set.init.plain F.entry_set_init (check_set_init_1 tS ?_)) fun r2 s2 hr2 => ?_
      · obtain ⟨ol, gl, cl, nl, dl⟩ := hL
        obtain ⟨lc, ld, lt, ls⟩ := ol
        simp only at cl dl
        subst cl; subst dl
        have gl' : (s.heap.push (nso w)).get? l = some { cls := .type "tuple", dict := ld, data := .seq its nl, slots := ls } := Heap.get?_push_of_some _ gl
        have q1 := F.sub_tuple_set
        have q2 := F.sub_tuple_frozenset
        have q3 : (Value.type "tuple" == Value.type "dict") = false := by decide
        have L1 : (s.heap.push (nso w)).IsTuple l its := ⟨_, gl', rfl, nl, rfl⟩
        unfold Builtin.«set.__init__» noKeywords Builtin.Frozenset.updateFrom
        generalize hPI : pyIter = PI
        wp_walk
        subst hPI
        refine wpAny_pyIter_tuple L1 ?_
        refine wpAny_bind (wpAny_runValue ?_)
        have below : l < s.heap.objs.size := Heap.lt_size gl
        have h3 : A.in1.in1.in1.handled = none := by simp [h0]
        have z1 : (s.heap.push (nso w)).objs.size = s.heap.objs.size + 1 := Heap.size_push ..
        have ne1 : l ≠ (s.heap.push (nso w)).objs.size := by
          rw [z1]; exact Nat.ne_of_lt (Nat.lt_succ_of_lt below)
        have nS : s.heap.objs.size ∉ [(s.heap.push (nso w)).objs.size, l] := by
          rw [z1]
          simp only [List.mem_cons, List.mem_singleton, List.not_mem_nil, or_false, not_or]
          exact ⟨Nat.ne_of_lt (Nat.lt_succ_self _), Nat.ne_of_gt below⟩
        have vals : ∀ (i : Nat) (v : Value), its[i]? = some v → ∃ p, ks[i]? = some p ∧ v = .ref p.1 := by
          intro i v hv
          have e : its.toList[i]? = some v := by rw [Array.getElem?_toList]; exact hv
          rw [hI, List.getElem?_map] at e
          obtain ⟨p, hp, ep⟩ := Option.map_eq_some_iff.mp e
          exact ⟨p, hp, ep.symm⟩
        have off : ∀ b, s.heap.objs.size ≤ b → s.heap.get? b = none := fun b hb => by
          cases e : s.heap.get? b with
          | none => rfl
          | some o => exact absurd (Nat.lt_of_lt_of_le (Heap.lt_size e) hb) (Nat.lt_irrefl _)
        refine set_update_tups ((Walks.tuple h3 _ l ne1 its).toS) s.heap.objs.size nS ks size hB vals s.heap hk (off _ (Nat.le_refl _)) (fun b hb => off b (by rw [List.mem_singleton.mp hb, z1]; exact Nat.le_succ _)) hu (its.size - 0) 0 _ (by omega) (Nat.zero_le _) ⟨⟨_, Heap.get?_push_size _ rfl, rfl, rfl⟩, (L1.push _)⟩ (fun b o e => Heap.get?_push_of_some _ (Heap.get?_push_of_some _ e)) ?c0 ?c1
        case c0 => exact ⟨[], #[], 0, _, setTR_fresh (show ((s.heap.push (nso w)).push (isoT l)).get? s.heap.objs.size = some (nso w) from Heap.get?_push_of_some _ gS), Got.zero ks⟩
        case c1 =>
          intro s' L es ep t mv R' g' kk
          obtain ⟨g, gg, dd, tk', os'⟩ := s'
          have e1 : gg = s.gens := mv.gens
          have e2 : dd = s.drawn := mv.drawn
          have e3 : os' = s.os := mv.os
          subst e1; subst e2; subst e3
          show wpAny _ _ _ _ _ _
          refine wpAny_pure ?_
          show wpAny _ _ (ret Value.none) _ _ _
          rw [size] at g'
          exact wpAny_pure ⟨rfl, g, tk', L, es, ep, t, rfl, R', g', kk⟩
      · cases r2 with
        | error e => exact hr2
        | ok f2 =>
          cases f2 with
          | ret r =>
            obtain ⟨rfl, g, tk, L, es, ep, t, rfl, R2, g2, kk⟩ := hr2
            repeat (any_goals (first | assumption | wp_step))
            exact k _ _ _ _ _ _ R2 g2 kk
          | next => exact hr2.elim
          | brk => exact hr2.elim
          | cont => exact hr2.elim
    | next => exact hr.elim
    | brk => exact hr.elim
    | cont => exact hr.elim
end
/-- set(xs), xs a tuple of tuples of ints -/
def rSetTT (K : PySem.W.Frag) (P : Program) (w : World) : List V → Hp → VK → Prop := fun xs H Q => ∃ (l : Addr) (ks : List (Addr × List Int)), xs = [V.ref l] ∧ SqT K H l (ks.map fun p => V.ref p.1) ∧ (∀ p ∈ ks, SqT K H p.1 (p.2.map V.int)) ∧ ks.length < 64 ∧
  ∀ a L, H a = none → (∀ p ∈ L, p ∈ ks) → (∀ p ∈ ks, p.2 ∈ L.map (·.2)) → Q (.ref a) (upd H a (SetTO P w a L))
theorem cr_setTT {X : Cx} (hc : X.calm = true) (hu : X.A.units + 64 < cLine) : CallR X (.type "set") (rSetTT X.K X.prog X.w) := by
  intro pins s σ H vs us Q I r h
  obtain ⟨l, ks, rfl, hl, hk, hf, q⟩ := h
  obtain ⟨u, rfl, ru⟩ := r.one
  cases ru
  obtain ⟨its, rv, p, hz⟩ := I.tuple hl
  have hn : H s.heap.objs.size = none := I.hok.fresh (Nat.le_refl _)
  refine set_of_tuples ks (I.ok.hd hc) p (by simpa using refs_of_vals rv) (fun p hp => I.isT (hk p hp)) hf (by omega) fun g tk L es ep t R g2 kp => ?_
  refine ⟨.ref _, upd H s.heap.objs.size (SetTO X.prog X.w s.heap.objs.size L), I.laid (t' := tk) kp (Nat.le_refl _) (setTO_new R.t0), rfl, q _ L hn (fun p hp => ?_) fun p hp => ?_⟩
  · exact List.mem_of_mem_take (g2.sub p hp)
  · exact g2.all p (by rw [List.take_length]; exact hp)
end Tb

/-! What a def computes, as a function of data: the locals (shared data, or a list of one's own), the heap they stand in, what a step may change. -/
namespace Ev
open PySem PySem.Spec PyProof.Rows L2 Tb

/-- a local: data that nobody changes any more, or a list that this name alone holds -/
inductive L where
  | dat (x : PyData)
  | lst (xs : List PyData)
abbrev Lo := List (Option L)

def keyD : Key → PyData
  | .inl i => .int i
  | .inr s => .str s
/-! ### data in a heap -/
mutual
inductive Rq (K : PySem.W.Frag) (S : Hp) : V → PyData → Prop
  | non : Rq K S .non .none
  | bl (b : Bool) : Rq K S (.bl b) (.bool b)
  | int (i : Int) : Rq K S (.int i) (.int i)
  | str (x : Str) : Rq K S (.str x) (.str x)
  | lst {a : Addr} {xs : List V} {ds : List PyData} : S a = some (.lst xs) → RqL K S xs ds → Rq K S (.ref a) (.list ds)
  | tup {a : Addr} {xs : List V} {ds : List PyData} : SqT K S a xs → RqL K S xs ds → Rq K S (.ref a) (.tuple ds)
  | dct {a : Addr} {kvs : List (Key × V)} {ps : List (PyData × PyData)} : S a = some (.dK kvs) → RqK K S kvs ps → Rq K S (.ref a) (.dict ps)
inductive RqL (K : PySem.W.Frag) (S : Hp) : List V → List PyData → Prop
  | nil : RqL K S [] []
  | cons {v : V} {vs : List V} {d : PyData} {ds : List PyData} : Rq K S v d → RqL K S vs ds → RqL K S (v :: vs) (d :: ds)
inductive RqK (K : PySem.W.Frag) (S : Hp) : List (Key × V) → List (PyData × PyData) → Prop
  | nil : RqK K S [] []
  | cons {k : Key} {v : V} {kvs : List (Key × V)} {d : PyData} {ps : List (PyData × PyData)} : Rq K S v d → RqK K S kvs ps → RqK K S ((k, v) :: kvs) ((keyD k, d) :: ps)
end
def Sub (S H : Hp) : Prop := ∀ b o, S b = some o → H b = some o
theorem Sub.refl (S : Hp) : Sub S S := fun _ _ h => h
theorem Sub.trans {A B C : Hp} (x : Sub A B) (y : Sub B C) : Sub A C := fun b o h => y b o (x b o h)
variable {K : PySem.W.Frag}
theorem Sub.sqL {S H : Hp} (s : Sub S H) {a : Addr} {xs : List V} (h : SqL K S a xs) : SqL K H a xs := by
  rcases h with (h | ⟨o, h⟩) | h
  · exact .inl (.inl (s _ _ h))
  · exact .inl (.inr ⟨o, s _ _ h⟩)
  · exact .inr h
theorem Sub.sqT {S H : Hp} (s : Sub S H) {a : Addr} {xs : List V} (h : SqT K S a xs) : SqT K H a xs := by
  rcases h with (h | ⟨o, h⟩) | h
  · exact .inl (.inl (s _ _ h))
  · exact .inl (.inr ⟨o, s _ _ h⟩)
  · exact .inr h
mutual
theorem Rq.sub {S H : Hp} (s : Sub S H) : ∀ {v : V} {d : PyData}, Rq K S v d → Rq K H v d
  | _, _, .non => .non
  | _, _, .bl b => .bl b
  | _, _, .int i => .int i
  | _, _, .str x => .str x
  | _, _, .lst h r => .lst (s _ _ h) (RqL.sub s r)
  | _, _, .tup h r => .tup (s.sqT h) (RqL.sub s r)
  | _, _, .dct h r => .dct (s _ _ h) (RqK.sub s r)
theorem RqL.sub {S H : Hp} (s : Sub S H) : ∀ {vs : List V} {ds : List PyData}, RqL K S vs ds → RqL K H vs ds
  | _, _, .nil => .nil
  | _, _, .cons a b => .cons (Rq.sub s a) (RqL.sub s b)
theorem RqK.sub {S H : Hp} (s : Sub S H) : ∀ {kvs : List (Key × V)} {ps : List (PyData × PyData)}, RqK K S kvs ps → RqK K H kvs ps
  | _, _, .nil => .nil
  | _, _, .cons a b => .cons (Rq.sub s a) (RqK.sub s b)
end
theorem RqL.length {S : Hp} : ∀ {vs : List V} {ds : List PyData}, RqL K S vs ds → vs.length = ds.length
  | _, _, .nil => rfl
  | _, _, .cons _ t => congrArg Nat.succ (RqL.length t)
theorem RqL.get {S : Hp} : ∀ {vs : List V} {ds : List PyData} {i : Nat} {v : V}, RqL K S vs ds → vs[i]? = some v → ∃ d, ds[i]? = some d ∧ Rq K S v d
  | _, _, _, _, .nil, e => by simp at e
  | _, _, 0, _, .cons r _, e => by simp at e; subst e; exact ⟨_, rfl, r⟩
  | _, _, i + 1, v, .cons _ t, e => by
    obtain ⟨d, h1, h2⟩ := RqL.get (i := i) (v := v) t (by simpa using e)
    exact ⟨d, by simpa using h1, h2⟩
theorem RqL.get' {S : Hp} : ∀ {vs : List V} {ds : List PyData} {i : Nat} {d : PyData}, RqL K S vs ds → ds[i]? = some d → ∃ v, vs[i]? = some v ∧ Rq K S v d
  | _, _, _, _, .nil, e => by simp at e
  | _, _, 0, _, .cons r _, e => by simp at e; subst e; exact ⟨_, rfl, r⟩
  | _, _, i + 1, v, .cons _ t, e => by
    obtain ⟨d, h1, h2⟩ := RqL.get' (i := i) (d := v) t (by simpa using e)
    exact ⟨d, by simpa using h1, h2⟩
theorem RqL.app {S : Hp} : ∀ {vs ws : List V} {ds es : List PyData}, RqL K S vs ds → RqL K S ws es → RqL K S (vs ++ ws) (ds ++ es)
  | _, _, _, _, .nil, s => s
  | _, _, _, _, .cons r t, s => .cons r (RqL.app t s)
theorem RqL.take {S : Hp} : ∀ {vs : List V} {ds : List PyData} (n : Nat), RqL K S vs ds → RqL K S (vs.take n) (ds.take n)
  | _, _, 0, _ => by simpa using RqL.nil
  | _, _, n + 1, .nil => .nil
  | _, _, n + 1, .cons r t => .cons r (RqL.take n t)
theorem RqL.drop {S : Hp} : ∀ {vs : List V} {ds : List PyData} (n : Nat), RqL K S vs ds → RqL K S (vs.drop n) (ds.drop n)
  | _, _, 0, r => by simpa using r
  | _, _, n + 1, .nil => .nil
  | _, _, n + 1, .cons r t => RqL.drop n t
theorem RqL.set {S : Hp} {x : V} {d : PyData} (r : Rq K S x d) : ∀ {vs : List V} {ds : List PyData} (i : Nat), RqL K S vs ds → RqL K S (vs.set i x) (ds.set i d)
  | _, _, _, .nil => .nil
  | _, _, 0, .cons _ t => .cons r t
  | _, _, i + 1, .cons q t => .cons q (RqL.set r i t)
theorem RqL.erase {S : Hp} : ∀ {vs : List V} {ds : List PyData} (i : Nat), RqL K S vs ds → RqL K S (vs.eraseIdx i) (ds.eraseIdx i)
  | _, _, _, .nil => .nil
  | _, _, 0, .cons _ t => t
  | _, _, i + 1, .cons q t => .cons q (RqL.erase i t)
theorem RqL.ints {S : Hp} : ∀ ns : List Int, RqL K S (ns.map V.int) (ns.map PyData.int)
  | [] => .nil
  | n :: r => .cons (.int n) (RqL.ints r)
theorem RqL.ints_of {S : Hp} : ∀ {ns : List Int} {vs : List V}, RqL K S vs (ns.map PyData.int) → vs = ns.map V.int
  | [], _, h => by cases h; rfl
  | n :: r, _, h => by
    cases h with
    | cons a b =>
      cases a
      rw [RqL.ints_of b]; rfl
mutual
theorem Rq.dp {S : Hp} : ∀ {d : PyData} {v : V}, d.canLay0 = true → Rq K S v d → Dp K S v d
  | _, _, _, .non => .non
  | _, _, _, .bl b => .bl b
  | _, _, _, .int i => .int i
  | _, _, _, .str x => .str x
  | .list ds, _, c, .lst h r => .lst (.inl (.inl h)) (RqL.dp (ds := ds) (by simpa [PyData.canLay0] using c) r)
  | .tuple ds, _, c, .tup h r => .tup h (RqL.dp (ds := ds) (by simpa [PyData.canLay0] using c) r)
  | .dict _, _, c, .dct _ _ => by simp [PyData.canLay0] at c
theorem RqL.dp {S : Hp} : ∀ {ds : List PyData} {vs : List V}, PyData.canLayAll0 ds = true → RqL K S vs ds → DpAll K S vs ds
  | _, _, _, .nil => .nil
  | d :: ds, _, c, .cons a b => by
    have c' : d.canLay0 = true ∧ PyData.canLayAll0 ds = true := by simpa [PyData.canLayAll0] using c
    exact .cons (Rq.dp c'.1 a) (RqL.dp c'.2 b)
end

/-! ### what a step may change -/
/-- new to a heap that is kept -/
def Fz (A : Hp) (t : Addr) : Prop := (∀ o, A t = some o → ∃ ps, o = .tbl ps) ∧ ¬ GxR.TabG A t
/-- what is new to a heap stays so in all that it was made of -/
structure Ext (F : Addr → Prop) (S H S' H' : Hp) (F' : Addr → Prop) : Prop where
  keep : ∀ b o, ¬ F b → H b = some o → (∀ ps, o ≠ .tbl ps) → H' b = some o
  tab : ∀ P, GxR.TabG H P → GxR.TabG H' P
  sub : Sub S S'
  domS : ∀ b, S' b ≠ none → S b ≠ none ∨ F b ∨ Fz H b
  domF : ∀ b, F' b → F b ∨ Fz H b
theorem fz_none {H : Hp} {b : Addr} (h : H b = none) : Fz H b := by
  refine ⟨fun o e => ?_, fun t => ?_⟩
  · rw [h] at e; cases e
  · obtain ⟨ps, e, _⟩ := t
    rw [h] at e; cases e
theorem Fz.no {H : Hp} {b : Addr} (h : Fz H b) {o : HO} (e : H b = some o) (n : ∀ ps, o ≠ .tbl ps) : False := by
  obtain ⟨ps, q⟩ := h.1 o e
  exact n ps q
theorem Ext.fz {F F' : Addr → Prop} {S H S' H' : Hp} (x : Ext F S H S' H' F') {b : Addr} (h : Fz H' b) : F b ∨ Fz H b := by
  by_cases f : F b
  · exact .inl f
  · refine .inr ⟨fun o e => ?_, fun t => h.2 (x.tab _ t)⟩
    cases o with
    | tbl ps => exact ⟨ps, rfl⟩
    | _ => exact (Fz.no h (x.keep b _ f e fun ps z => by cases z) fun ps z => by cases z).elim
theorem Ext.trans {F F1 F2 : Addr → Prop} {S H S1 H1 S2 H2 : Hp} (x : Ext F S H S1 H1 F1) (y : Ext F1 S1 H1 S2 H2 F2) : Ext F S H S2 H2 F2 := by
  refine ⟨fun b o f e n => y.keep b o (fun z => ?_) (x.keep b o f e n) n, fun P t => y.tab P (x.tab P t), x.sub.trans y.sub, fun b h => ?_, fun b h => ?_⟩
  · rcases x.domF b z with z | z
    · exact f z
    · exact z.no e n
  · rcases y.domS b h with z | z | z
    · exact x.domS b z
    · rcases x.domF b z with z | z
      · exact .inr (.inl z)
      · exact .inr (.inr z)
    · rcases x.fz z with z | z
      · exact .inr (.inl z)
      · exact .inr (.inr z)
  · rcases y.domF b h with z | z
    · exact x.domF b z
    · exact x.fz z
theorem Ext.refl (F : Addr → Prop) (S H : Hp) : Ext F S H S H F := ⟨fun _ _ _ e _ => e, fun _ h => h, Sub.refl _, fun _ h => .inl h, fun _ h => .inl h⟩
/-- no table among the shared data -/
def NoT (S : Hp) : Prop := ∀ b ps, S b ≠ some (.tbl ps)
/-- a new thing is laid, and shared -/
theorem Ext.new {F : Addr → Prop} {S H : Hp} {p : Addr} {o : HO} (h : H p = none) (s : Sub S H) : Ext F S H (upd S p o) (upd H p o) F := by
  have hS : S p = none := by
    cases q : S p with
    | none => rfl
    | some u => rw [s _ _ q] at h; cases h
  refine ⟨fun b u _ e _ => by rw [upd_ne (ne_of_none e h)]; exact e, fun P t => tabG_of (fun b u e => by rw [upd_ne (ne_of_none e h)]; exact e) t, fun b u e => by rw [upd_ne (ne_of_none e hS)]; exact e, fun b z => ?_, fun b z => .inl z⟩
  by_cases q : b = p
  · subst q; exact .inr (.inr (fz_none h))
  · rw [upd_ne q] at z; exact .inl z
/-- a new thing is laid, not shared -/
theorem Ext.lay {F : Addr → Prop} {S H : Hp} {p : Addr} {o : HO} (h : H p = none) : Ext F S H S (upd H p o) F :=
  ⟨fun b u _ e _ => by rw [upd_ne (ne_of_none e h)]; exact e, fun P t => tabG_of (fun b u e => by rw [upd_ne (ne_of_none e h)]; exact e) t, Sub.refl _, fun b z => .inl z, fun b z => .inl z⟩
theorem Sub.upd {S H : Hp} {p : Addr} {o : HO} (s : Sub S H) : Sub (upd S p o) (upd H p o) := fun b u e => by
  by_cases q : b = p
  · subst q; rw [upd_same] at e ⊢; exact e
  · rw [upd_ne q] at e ⊢; exact s _ _ e
theorem Sub.lay {S H : Hp} {p : Addr} {o : HO} (s : Sub S H) (h : S p = none) : Sub S (L2.upd H p o) := fun b u e => by
  rw [upd_ne (ne_of_none e h)]; exact s _ _ e
theorem NoT.upd {S : Hp} {p : Addr} {o : HO} (n : NoT S) (h : ∀ ps, o ≠ .tbl ps) : NoT (upd S p o) := fun b ps e => by
  by_cases q : b = p
  · subst q; rw [upd_same] at e; exact h ps (Option.some.inj e)
  · rw [upd_ne q] at e; exact n b ps e

/-! ### the locals -/
def RepL (K : PySem.W.Frag) (S H : Hp) (v : V) : L → Prop
  | .dat x => Rq K S v x
  | .lst xs => ∃ a vs, v = .ref a ∧ H a = some (.lst vs) ∧ RqL K S vs xs
def OwnAt (σ : L2.St) (lo : Lo) (i : Nat) (a : Addr) : Prop := σ[i]? = some (some (.ref a)) ∧ ∃ xs, lo[i]? = some (some (.lst xs))
def Own (σ : L2.St) (lo : Lo) : Addr → Prop := fun a => ∃ i, OwnAt σ lo i a
structure Stt (K : PySem.W.Frag) (S H : Hp) (σ : L2.St) (lo : Lo) : Prop where
  sub : Sub S H
  noT : NoT S
  len : lo.length = σ.length
  loc : ∀ (i : Nat) (l : L), lo[i]? = some (some l) → ∃ v, σ[i]? = some (some v) ∧ RepL K S H v l
  own : ∀ (i : Nat) (a : Addr), OwnAt σ lo i a → S a = none
  inj : ∀ (i j : Nat) (a : Addr), OwnAt σ lo i a → OwnAt σ lo j a → i = j
section
variable {S H S' H' : Hp} {σ : L2.St} {lo : Lo}
theorem Stt.ownH (s : Stt K S H σ lo) {a : Addr} (h : Own σ lo a) : ∃ vs, H a = some (.lst vs) := by
  obtain ⟨i, e, xs, l⟩ := h
  obtain ⟨v, e', b, vs, r, hb, _⟩ := s.loc i _ l
  rw [e] at e'
  cases e'
  cases r
  exact ⟨vs, hb⟩
/-- the heaps grow, nothing of one's own is touched -/
theorem Stt.grow (s : Stt K S H σ lo) (x : Ext (Own σ lo) S H S' H' (Own σ lo)) (sub : Sub S' H') (noT : NoT S') (o : ∀ a, Own σ lo a → H' a = H a ∧ S' a = none) : Stt K S' H' σ lo := by
  refine ⟨sub, noT, s.len, fun i l e => ?_, fun i a h => (o a ⟨i, h⟩).2, s.inj⟩
  obtain ⟨v, e', r⟩ := s.loc i l e
  refine ⟨v, e', ?_⟩
  cases l with
  | dat y => exact Rq.sub x.sub r
  | lst xs =>
    obtain ⟨a, vs, rfl, h, q⟩ := r
    exact ⟨a, vs, rfl, by rw [(o a ⟨i, e', xs, e⟩).1]; exact h, RqL.sub x.sub q⟩
/-- .. a new thing, shared -/
theorem Stt.new (s : Stt K S H σ lo) {p : Addr} {u : HO} (h : H p = none) (n : ∀ ps, u ≠ .tbl ps) : Stt K (upd S p u) (upd H p u) σ lo :=
  s.grow (Ext.new h s.sub) s.sub.upd (s.noT.upd n) fun a o => by
    obtain ⟨vs, e⟩ := s.ownH o
    obtain ⟨i, w⟩ := o
    have ne : a ≠ p := ne_of_none e h
    rw [upd_ne ne, upd_ne ne]
    exact ⟨rfl, s.own i a w⟩
/-- .. a new thing, not shared -/
theorem Stt.lay (s : Stt K S H σ lo) {p : Addr} {u : HO} (h : H p = none) : Stt K S (upd H p u) σ lo := by
  have hS : S p = none := by
    cases q : S p with
    | none => rfl
    | some u => rw [s.sub _ _ q] at h; cases h
  exact s.grow (Ext.lay h) (s.sub.lay hS) s.noT fun a o => by
    obtain ⟨vs, e⟩ := s.ownH o
    obtain ⟨i, w⟩ := o
    rw [upd_ne (ne_of_none e h)]
    exact ⟨rfl, s.own i a w⟩
end
/-- the heaps grow, all that is tracked stays -/
structure Gro (S H S' H' : Hp) : Prop where
  sub : Sub S' H'
  noT : NoT S'
  keep : Sub H H'
  subS : Sub S S'
  dom : ∀ b, S' b ≠ none → S b ≠ none ∨ H b = none
theorem Gro.refl {S H : Hp} (s : Sub S H) (n : NoT S) : Gro S H S H := ⟨s, n, Sub.refl _, Sub.refl _, fun _ h => .inl h⟩
theorem Gro.new {S H : Hp} {p : Addr} {u : HO} (s : Sub S H) (n : NoT S) (h : H p = none) (nt : ∀ ps, u ≠ .tbl ps) : Gro S H (upd S p u) (upd H p u) := by
  have hS : S p = none := by
    cases q : S p with
    | none => rfl
    | some u => rw [s _ _ q] at h; cases h
  refine ⟨s.upd, n.upd nt, fun b o e => by rw [upd_ne (ne_of_none e h)]; exact e, fun b o e => by rw [upd_ne (ne_of_none e hS)]; exact e, fun b z => ?_⟩
  by_cases q : b = p
  · subst q; exact .inr h
  · rw [upd_ne q] at z; exact .inl z
theorem Gro.lay {S H : Hp} {p : Addr} {u : HO} (s : Sub S H) (n : NoT S) (h : H p = none) : Gro S H S (upd H p u) := by
  have hS : S p = none := by
    cases q : S p with
    | none => rfl
    | some u => rw [s _ _ q] at h; cases h
  exact ⟨s.lay hS, n, fun b o e => by rw [upd_ne (ne_of_none e h)]; exact e, Sub.refl _, fun b z => .inl z⟩
theorem Gro.trans {S H S1 H1 S2 H2 : Hp} (x : Gro S H S1 H1) (y : Gro S1 H1 S2 H2) : Gro S H S2 H2 := by
  refine ⟨y.sub, y.noT, x.keep.trans y.keep, x.subS.trans y.subS, fun b h => ?_⟩
  rcases y.dom b h with z | z
  · exact x.dom b z
  · cases q : H b with
    | none => exact .inr rfl
    | some o => rw [x.keep _ _ q] at z; cases z
theorem Gro.ext {F : Addr → Prop} {S H S' H' : Hp} (g : Gro S H S' H') : Ext F S H S' H' F :=
  ⟨fun b o _ e _ => g.keep _ _ e, fun P t => tabG_of g.keep t, g.subS, fun b h => (g.dom b h).imp id fun z => .inr (fz_none z), fun b h => .inl h⟩
theorem Stt.gro {S H S' H' : Hp} {σ : L2.St} {lo : Lo} (s : Stt K S H σ lo) (g : Gro S H S' H') : Stt K S' H' σ lo :=
  s.grow g.ext g.sub g.noT fun a o => by
    obtain ⟨vs, e⟩ := s.ownH o
    obtain ⟨i, w⟩ := o
    refine ⟨(g.keep _ _ e).trans e.symm, ?_⟩
    cases q : S' a with
    | none => rfl
    | some u =>
      rcases g.dom a (by rw [q]; simp) with z | z
      · exact absurd (s.own i a w) z
      · rw [z] at e; cases e
/-- the tables of code -/
def AllT (T : List Addr) (H : Hp) : Prop := ∀ P ∈ T, GxR.TabG H P
theorem AllT.ext {T : List Addr} {F F' : Addr → Prop} {S H S' H' : Hp} (a : AllT T H) (x : Ext F S H S' H' F') : AllT T H' := fun P h => x.tab P (a P h)

/-! ### the judgements -/
abbrev GE := Lo → Option (PyData × Lo)
abbrev GT := Lo → Option (Bool × Lo)
def tE (K : PySem.W.Frag) (T : List Addr) (g : GE) : TE := fun σ H Q => ∃ S lo, Stt K S H σ lo ∧ AllT T H ∧ ∃ x lo', g lo = some (x, lo') ∧ ∀ v S' H', Stt K S' H' σ lo' → Rq K S' v x → Ext (Own σ lo) S H S' H' (Own σ lo') → Q v H'
def tT (K : PySem.W.Frag) (T : List Addr) (g : GT) : TT := fun σ H Q => ∃ S lo, Stt K S H σ lo ∧ AllT T H ∧ ∃ b lo', g lo = some (b, lo') ∧ ∀ S' H', Stt K S' H' σ lo' → Ext (Own σ lo) S H S' H' (Own σ lo') → Q b H'
theorem pe_imp {X : Cx} {e : Expr} {t t' : TE} (h : PE X e t) (i : ∀ σ H Q, t' σ H Q → t σ H Q) : PE X e t' := ⟨fun pins s σ H Q I w => h.run pins s σ H Q I (i σ H Q w)⟩
theorem pt_imp {X : Cx} {e : Expr} {t t' : TT} (h : PT X e t) (i : ∀ σ H Q, t' σ H Q → t σ H Q) : PT X e t' := ⟨fun pins s σ H Q I w => h.run pins s σ H Q I (i σ H Q w)⟩
theorem pw_imp {X : Cx} {e : Expr} {t t' : TT} (h : PW X e t) (i : ∀ σ H Q, t' σ H Q → t σ H Q) : PW X e t' := ⟨fun wh pins s σ H Q I w => h.run wh pins s σ H Q I (i σ H Q w)⟩
theorem pa_imp {X : Cx} {es : List Expr} {t t' : TA} (h : PA X es t) (i : ∀ σ H Q, t' σ H Q → t σ H Q) : PA X es t' := ⟨fun pos pins s σ H Q I w => h.run pos pins s σ H Q I (i σ H Q w)⟩
theorem ps_imp {X : Cx} {st : Stmt} {t t' : TS} (h : PS X st t) (i : ∀ D σ H, t' D σ H → t D σ H) : PS X st t' := ⟨fun pins s σ H D I w => h.run pins s σ H D I (i D σ H w)⟩
theorem pss_imp {X : Cx} {st : List Stmt} {t t' : TS} (h : PSs X st t) (i : ∀ D σ H, t' D σ H → t D σ H) : PSs X st t' := ⟨fun pins s σ H D I w => h.run pins s σ H D I (i D σ H w)⟩
end Ev

namespace Ev
open PySem PySem.Spec PyProof.Rows L2 Tb
section
variable {X : Cx} {T : List Addr} {pos : Pos}
/-- what a reading of a value gives -/
theorem tE_done {K : PySem.W.Frag} {T : List Addr} {S H : Hp} {σ : L2.St} {lo lo' : Lo} {g : GE} {x : PyData} (h : Stt K S H σ lo) (a : AllT T H) (e : g lo = some (x, lo')) {Q : VK} (q : ∀ v S' H', Stt K S' H' σ lo' → Rq K S' v x → Ext (Own σ lo) S H S' H' (Own σ lo') → Q v H') : tE K T g σ H Q := ⟨S, lo, h, a, x, lo', e, q⟩
/-! ### names, constants -/
def vF (i : Nat) : GE := fun lo => match lo[i]? with
  | some (some (.dat x)) => some (x, lo)
  | _ => none
theorem ev_var {i : Nat} {x : Str} (h : PE X (.Name x pos) (tVar i)) : PE X (.Name x pos) (tE X.K T (vF i)) := by
  refine pe_imp h fun σ H Q w => ?_
  obtain ⟨S, lo, st, at', y, lo', e, q⟩ := w
  unfold vF at e
  split at e
  · rename_i z hz
    cases e
    obtain ⟨v, ev, r⟩ := st.loc _ _ hz
    exact ⟨v, ev, q v S H st r (Ext.refl _ _ _)⟩
  · cases e
/-- a list of one's own is read, and shared from then on -/
def frzF (i : Nat) : GE := fun lo => match lo[i]? with
  | some (some (.dat x)) => some (x, lo)
  | some (some (.lst xs)) => some (.list xs, lo.set i (some (.dat (.list xs))))
  | _ => none
theorem Stt.frz {K : PySem.W.Frag} {S H : Hp} {σ : L2.St} {lo : Lo} {i : Nat} {xs : List PyData} {a : Addr} {vs : List V} (s : Stt K S H σ lo) (e : lo[i]? = some (some (.lst xs))) (eσ : σ[i]? = some (some (.ref a))) (hH : H a = some (.lst vs)) (r : RqL K S vs xs) :
    Stt K (upd S a (.lst vs)) H σ (lo.set i (some (.dat (.list xs)))) ∧ Rq K (upd S a (.lst vs)) (.ref a) (.list xs) ∧ Ext (Own σ lo) S H (upd S a (.lst vs)) H (Own σ (lo.set i (some (.dat (.list xs))))) := by
  have oa : OwnAt σ lo i a := ⟨eσ, xs, e⟩
  have hS := s.own i a oa
  have sb : Sub S (upd S a (.lst vs)) := fun b o h => by rw [upd_ne (ne_of_none h hS)]; exact h
  have rq : Rq K (upd S a (.lst vs)) (.ref a) (.list xs) := .lst upd_same (RqL.sub sb r)
  have hi : i < lo.length := (List.getElem?_eq_some_iff.mp e).1
  have oth : ∀ j b, OwnAt σ (lo.set i (some (.dat (.list xs)))) j b → OwnAt σ lo j b ∧ j ≠ i := fun j b ⟨h1, ys, h2⟩ => by
    by_cases q : j = i
    · subst q
      rw [List.getElem?_set_self hi] at h2
      cases h2
    · rw [List.getElem?_set_ne (Ne.symm q)] at h2
      exact ⟨⟨h1, ys, h2⟩, q⟩
  refine ⟨⟨fun b o h => ?_, s.noT.upd (fun ps z => by cases z), by rw [List.length_set]; exact s.len, fun j l h => ?_, fun j b h => ?_, fun j k b h1 h2 => s.inj j k b (oth j b h1).1 (oth k b h2).1⟩, rq, ⟨fun b o _ h _ => h, fun _ h => h, sb, fun b h => ?_, fun b ⟨j, h⟩ => .inl ⟨j, (oth j b h).1⟩⟩⟩
  · by_cases q : b = a
    · subst q; rw [upd_same] at h; cases h; exact hH
    · rw [upd_ne q] at h; exact s.sub _ _ h
  · by_cases q : j = i
    · subst q
      rw [List.getElem?_set_self hi] at h
      cases h
      exact ⟨.ref a, eσ, rq⟩
    · rw [List.getElem?_set_ne (Ne.symm q)] at h
      obtain ⟨v, ev, rr⟩ := s.loc j l h
      refine ⟨v, ev, ?_⟩
      cases l with
      | dat y => exact Rq.sub sb rr
      | lst ys =>
        obtain ⟨b, ws, e1, e2, e3⟩ := rr
        exact ⟨b, ws, e1, e2, RqL.sub sb e3⟩
  · obtain ⟨h1, h2⟩ := oth j b h
    have ne : b ≠ a := fun z => h2 (s.inj j i a (z ▸ h1) oa)
    rw [upd_ne ne]
    exact s.own j b h1
  · by_cases q : b = a
    · subst q; exact .inr (.inl ⟨i, oa⟩)
    · rw [upd_ne q] at h; exact .inl h
theorem ev_frz {i : Nat} {x : Str} (h : PE X (.Name x pos) (tVar i)) : PE X (.Name x pos) (tE X.K T (frzF i)) := by
  refine pe_imp h fun σ H Q w => ?_
  obtain ⟨S, lo, st, at', y, lo', e, q⟩ := w
  unfold frzF at e
  split at e
  · rename_i z hz
    cases e
    obtain ⟨v, ev, r⟩ := st.loc _ _ hz
    exact ⟨v, ev, q v S H st r (Ext.refl _ _ _)⟩
  · rename_i xs hz
    cases e
    obtain ⟨v, ev, a, vs, rfl, hH, r⟩ := st.loc _ _ hz
    obtain ⟨s1, s2, s3⟩ := st.frz hz ev hH r
    exact ⟨.ref a, ev, q _ _ _ s1 s2 s3⟩
  · cases e
def cF (x : PyData) : GE := fun lo => some (x, lo)
theorem ev_c {e : Expr} {v : V} {x : PyData} (h : PE X e (tC v)) (r : ∀ S, Rq X.K S v x) : PE X e (tE X.K T (cF x)) := by
  refine pe_imp h fun σ H Q w => ?_
  obtain ⟨S, lo, st, at', y, lo', e, q⟩ := w
  cases e
  exact q v S H st (r S) (Ext.refl _ _ _)
theorem ev_int {i : Int} {j : Nat} : PE X (.Constant (.int i) j pos) (tE X.K T (cF (.int i))) := ev_c pe_int fun _ => .int i
theorem ev_bl {b : Bool} {j : Nat} : PE X (.Constant (.bool b) j pos) (tE X.K T (cF (.bool b))) := ev_c pe_bl fun _ => .bl b
theorem ev_non {j : Nat} : PE X (.Constant .none j pos) (tE X.K T (cF .none)) := ev_c pe_non fun _ => .non
theorem ev_str {x : Str} {j : Nat} : PE X (.Constant (.str x) j pos) (tE X.K T (cF (.str x))) := ev_c pe_str fun _ => .str x

/-! ### operators, by values -/
/-- data; a list may stand in H alone, its items shared -/
inductive RqT (K : PySem.W.Frag) (S H : Hp) : V → PyData → Prop
  | of {v : V} {x : PyData} : Rq K S v x → RqT K S H v x
  | own {a : Addr} {vs : List V} {xs : List PyData} : H a = some (.lst vs) → RqL K S vs xs → RqT K S H (.ref a) (.list xs)
inductive RqTL (K : PySem.W.Frag) (S H : Hp) : List V → List PyData → Prop
  | nil : RqTL K S H [] []
  | cons {v : V} {vs : List V} {d : PyData} {ds : List PyData} : RqT K S H v d → RqTL K S H vs ds → RqTL K S H (v :: vs) (d :: ds)
section
variable {K : PySem.W.Frag} {S H : Hp} {v : V}
theorem RqT.list {xs : List PyData} (s : Sub S H) (r : RqT K S H v (.list xs)) : ∃ a vs, v = .ref a ∧ H a = some (.lst vs) ∧ RqL K S vs xs := by
  cases r with
  | of r =>
    cases r with
    | lst h r => exact ⟨_, _, rfl, s _ _ h, r⟩
  | own h r => exact ⟨_, _, rfl, h, r⟩
theorem RqT.rqH {x : PyData} (s : Sub S H) (r : RqT K S H v x) : Rq K H v x := by
  cases r with
  | of r => exact Rq.sub s r
  | own h r => exact .lst h (RqL.sub s r)
theorem RqT.int {i : Int} (r : RqT K S H v (.int i)) : v = .int i := by
  cases r with
  | of r => cases r; rfl
theorem RqT.bool {b : Bool} (r : RqT K S H v (.bool b)) : v = .bl b := by
  cases r with
  | of r => cases r; rfl
theorem RqT.str {x : Str} (r : RqT K S H v (.str x)) : v = .str x := by
  cases r with
  | of r => cases r; rfl
theorem RqT.none (r : RqT K S H v .none) : v = .non := by
  cases r with
  | of r => cases r; rfl
theorem RqT.tuple {xs : List PyData} (r : RqT K S H v (.tuple xs)) : ∃ a vs, v = .ref a ∧ SqT K S a vs ∧ RqL K S vs xs := by
  cases r with
  | of r =>
    cases r with
    | tup h r => exact ⟨_, _, rfl, h, r⟩
theorem RqT.dict {ps : List (PyData × PyData)} (r : RqT K S H v (.dict ps)) : ∃ a kvs, v = .ref a ∧ S a = some (.dK kvs) ∧ RqK K S kvs ps := by
  cases r with
  | of r =>
    cases r with
    | dct h r => exact ⟨_, _, rfl, h, r⟩
theorem RqTL.of : ∀ {vs : List V} {ds : List PyData}, RqL K S vs ds → RqTL K S H vs ds
  | _, _, .nil => .nil
  | _, _, .cons a b => .cons (.of a) (RqTL.of b)
end
def Val2 (K : PySem.W.Frag) (f : PyData → PyData → Option PyData) (r : R2) : Prop := ∀ (S H : Hp) (v u : V) (x y z : PyData) (Q : VK), Sub S H → NoT S → RqT K S H v x → RqT K S H u y → f x y = some z → (∀ w S' H', Gro S H S' H' → Rq K S' w z → Q w H') → r v u H Q
def op2 (f : PyData → PyData → Option PyData) (ga gb : GE) : GE := fun lo => (ga lo).bind fun p => (gb p.2).bind fun q => (f p.1 q.1).bind fun z => some (z, q.2)
theorem op2_some {f : PyData → PyData → Option PyData} {ga gb : GE} {lo lo' : Lo} {z : PyData} (h : op2 f ga gb lo = some (z, lo')) : ∃ x l1 y, ga lo = some (x, l1) ∧ gb l1 = some (y, lo') ∧ f x y = some z := by
  unfold op2 at h
  cases e1 : ga lo with
  | none => rw [e1] at h; cases h
  | some p =>
    rw [e1] at h
    simp only [Option.bind_some] at h
    cases e2 : gb p.2 with
    | none => rw [e2] at h; cases h
    | some q =>
      rw [e2] at h
      simp only [Option.bind_some] at h
      cases e3 : f p.1 q.1 with
      | none => rw [e3] at h; cases h
      | some w =>
        rw [e3] at h
        simp only [Option.bind_some, Option.some.injEq, Prod.mk.injEq] at h
        obtain ⟨rfl, rfl⟩ := h
        exact ⟨p.1, p.2, q.1, rfl, e2, e3⟩
theorem tOp_of {r : R2} {f : PyData → PyData → Option PyData} {ga gb : GE} (v : Val2 X.K f r) {σ : L2.St} {H : Hp} {Q : VK} (w : tE X.K T (op2 f ga gb) σ H Q) : tOp r (tE X.K T ga) (tE X.K T gb) σ H Q := by
  obtain ⟨S, lo, st, at', z, lo', e, q⟩ := w
  obtain ⟨x, l1, y, e1, e2, e3⟩ := op2_some e
  refine ⟨S, lo, st, at', x, l1, e1, fun v1 S1 H1 st1 r1 x1 => ?_⟩
  refine ⟨S1, l1, st1, at'.ext x1, y, lo', e2, fun v2 S2 H2 st2 r2 x2 => ?_⟩
  refine v S2 H2 v1 v2 x y z Q st2.sub st2.noT (.of (Rq.sub x2.sub r1)) (.of r2) e3 fun w S3 H3 g r3 => ?_
  exact q w S3 H3 (st2.gro g) r3 ((x1.trans x2).trans g.ext)
theorem ev_op {op : Operator} {r : R2} {f : PyData → PyData → Option PyData} {a b : Expr} {ga gb : GE} (ho : OpR X (binaryOp op) r) (v : Val2 X.K f r) (ha : PE X a (tE X.K T ga)) (hb : PE X b (tE X.K T gb)) : PE X (.BinOp a op b pos) (tE X.K T (op2 f ga gb)) :=
  pe_imp (pe_op ho ha hb) fun _ _ _ w => tOp_of v w
theorem ev_cmp {op : CmpOp} {r : R2} {f : PyData → PyData → Option PyData} {a b : Expr} {ga gb : GE} (ho : OpR X (compareOp op) r) (v : Val2 X.K f r) (ha : PE X a (tE X.K T ga)) (hb : PE X b (tE X.K T gb)) (hm : behindInMarks op b = false) : PE X (.Compare a [op] [b] pos) (tE X.K T (op2 f ga gb)) :=
  pe_imp (pe_cmpR ho ha hb hm) fun _ _ _ w => tOp_of v w
theorem ev_ix {r : R2} {f : PyData → PyData → Option PyData} {a b : Expr} {ga gb : GE} (ho : IxR X r) (v : Val2 X.K f r) (ha : PE X a (tE X.K T ga)) (hb : PE X b (tE X.K T gb)) (hs : PlainIx b) : PE X (.Subscript a b pos) (tE X.K T (op2 f ga gb)) :=
  pe_imp (pe_ix ho ha hb hs) fun _ _ _ w => tOp_of v w
/-- a name that may hold a list of one's own, read for this moment -/
def ownD (i : Nat) (lo : Lo) : Option PyData := match lo[i]? with
  | some (some (.dat x)) => some x
  | some (some (.lst xs)) => some (.list xs)
  | _ => none
theorem Stt.read {K : PySem.W.Frag} {S H : Hp} {σ : L2.St} {lo : Lo} {i : Nat} {x : PyData} (st : Stt K S H σ lo) (e : ownD i lo = some x) : ∃ v, σ[i]? = some (some v) ∧ RqT K S H v x := by
  unfold ownD at e
  split at e
  · rename_i y hy
    cases e
    obtain ⟨v, ev, r⟩ := st.loc i _ hy
    exact ⟨v, ev, .of r⟩
  · rename_i y hy
    cases e
    obtain ⟨v, ev, a, vs, rfl, h, r⟩ := st.loc i _ hy
    exact ⟨_, ev, .own h r⟩
  · cases e
/-- the left one, the right one is such a name -/
def op2L (f : PyData → PyData → Option PyData) (i : Nat) (gb : GE) : GE := fun lo => (ownD i lo).bind fun _ => (gb lo).bind fun q => (ownD i q.2).bind fun x => (f x q.1).bind fun z => some (z, q.2)
def op2R (f : PyData → PyData → Option PyData) (ga : GE) (i : Nat) : GE := fun lo => (ga lo).bind fun p => (ownD i p.2).bind fun y => (f p.1 y).bind fun z => some (z, p.2)
theorem tOpL_of {r : R2} {f : PyData → PyData → Option PyData} {i : Nat} {gb : GE} (v : Val2 X.K f r) {σ : L2.St} {H : Hp} {Q : VK} (w : tE X.K T (op2L f i gb) σ H Q) : tOp r (tVar i) (tE X.K T gb) σ H Q := by
  obtain ⟨S, lo, st, at', z, lo', e, q⟩ := w
  obtain ⟨x0, e0, e⟩ := Option.bind_eq_some_iff.mp e
  obtain ⟨p, e1, e⟩ := Option.bind_eq_some_iff.mp e
  obtain ⟨x, e2, e⟩ := Option.bind_eq_some_iff.mp e
  obtain ⟨z', e3, e⟩ := Option.bind_eq_some_iff.mp e
  cases e
  obtain ⟨v0, ev0, _⟩ := st.read e0
  refine ⟨v0, ev0, S, lo, st, at', p.1, p.2, e1, fun u S1 H1 st1 r1 x1 => ?_⟩
  obtain ⟨v1, ev1, rv1⟩ := st1.read e2
  rw [ev0] at ev1
  cases ev1
  exact v S1 H1 v0 u x p.1 z Q st1.sub st1.noT rv1 (.of r1) e3 fun w S2 H2 g r2 => q w S2 H2 (st1.gro g) r2 (x1.trans g.ext)
theorem tOpR_of {r : R2} {f : PyData → PyData → Option PyData} {i : Nat} {ga : GE} (v : Val2 X.K f r) {σ : L2.St} {H : Hp} {Q : VK} (w : tE X.K T (op2R f ga i) σ H Q) : tOp r (tE X.K T ga) (tVar i) σ H Q := by
  obtain ⟨S, lo, st, at', z, lo', e, q⟩ := w
  obtain ⟨p, e1, e⟩ := Option.bind_eq_some_iff.mp e
  obtain ⟨y, e2, e⟩ := Option.bind_eq_some_iff.mp e
  obtain ⟨z', e3, e⟩ := Option.bind_eq_some_iff.mp e
  cases e
  refine ⟨S, lo, st, at', p.1, p.2, e1, fun u S1 H1 st1 r1 x1 => ?_⟩
  obtain ⟨v1, ev1, rv1⟩ := st1.read e2
  exact ⟨v1, ev1, v S1 H1 u v1 p.1 y z Q st1.sub st1.noT (.of r1) rv1 e3 fun w S2 H2 g r2 => q w S2 H2 (st1.gro g) r2 (x1.trans g.ext)⟩
/-! ### tests -/
def bF (g : GE) : GT := fun lo => (g lo).bind fun p => match p.1 with
  | .bool b => some (b, p.2)
  | _ => none
theorem bF_some {g : GE} {lo lo' : Lo} {b : Bool} (h : bF g lo = some (b, lo')) : g lo = some (.bool b, lo') := by
  unfold bF at h
  cases e : g lo with
  | none => rw [e] at h; cases h
  | some p =>
    rw [e] at h
    simp only [Option.bind_some] at h
    split at h
    · rename_i c hc
      cases h
      rw [← hc]
    · cases h
theorem tB_of {g : GE} {σ : L2.St} {H : Hp} {Q : Bool → Hp → Prop} (w : tT X.K T (bF g) σ H Q) : tB (tE X.K T g) σ H Q := by
  obtain ⟨S, lo, st, at', b, lo', e, q⟩ := w
  refine ⟨S, lo, st, at', _, lo', bF_some e, fun v S1 H1 st1 r1 x1 => ?_⟩
  cases r1
  exact ⟨b, rfl, q S1 H1 st1 x1⟩
theorem et_val {e : Expr} {g : GE} (h : PE X e (tE X.K T g)) (he : ∀ whole, isTrue e X.env whole = (do let v ← whole; standAt e.pos; holding [v] (truthy v)) := by intro _; rfl) : PT X e (tT X.K T (bF g)) :=
  pt_imp (pt_val h he) fun _ _ _ w => tB_of w
theorem et_cmp {op : CmpOp} {r : R2} {f : PyData → PyData → Option PyData} {a b : Expr} {ga gb : GE} (ho : OpR X (compareOp op) r) (v : Val2 X.K f r) (ha : PE X a (tE X.K T ga)) (hb : PE X b (tE X.K T gb)) (hm : behindInMarks op b = false) : PT X (.Compare a [op] [b] pos) (tT X.K T (bF (op2 f ga gb))) :=
  pt_imp (pt_cmpR ho ha hb hm) fun σ H Q w => by
    have := tB_of w
    exact tOp_of (Q := fun x H' => ∃ k, x = .bl k ∧ Q k H') v this
def notT (t : GT) : GT := fun lo => (t lo).bind fun p => some (!p.1, p.2)
def andT (t u : GT) : GT := fun lo => (t lo).bind fun p => if p.1 = true then u p.2 else some (false, p.2)
def orT (t u : GT) : GT := fun lo => (t lo).bind fun p => if p.1 = true then some (true, p.2) else u p.2
theorem et_not {a : Expr} {t : GT} (h : PT X a (tT X.K T t)) : PT X (.UnaryOp .Not a pos) (tT X.K T (notT t)) := by
  refine pt_imp (pt_not h) fun σ H Q w => ?_
  obtain ⟨S, lo, st, at', b, lo', e, q⟩ := w
  unfold notT at e
  obtain ⟨p, e1, e2⟩ := Option.bind_eq_some_iff.mp e
  cases e2
  exact ⟨S, lo, st, at', p.1, p.2, e1, q⟩
theorem ew_and1 {a : Expr} {t : GT} (h : PT X a (tT X.K T t)) : PW X (.BoolOp .And [a] pos) (tT X.K T t) := pw_and1 h
theorem ew_or1 {a : Expr} {t : GT} (h : PT X a (tT X.K T t)) : PW X (.BoolOp .Or [a] pos) (tT X.K T t) := pw_or1 h
theorem ew_and {a b : Expr} {rest : List Expr} {t u : GT} (h : PT X a (tT X.K T t)) (k : PW X (.BoolOp .And (b :: rest) pos) (tT X.K T u)) : PW X (.BoolOp .And (a :: b :: rest) pos) (tT X.K T (andT t u)) := by
  refine pw_imp (pw_and h k) fun σ H Q w => ?_
  obtain ⟨S, lo, st, at', b, lo', e, q⟩ := w
  obtain ⟨p, e1, e2⟩ := Option.bind_eq_some_iff.mp e
  refine ⟨S, lo, st, at', p.1, p.2, e1, fun S1 H1 st1 x1 => ?_⟩
  refine ite2 (fun c => ?_) (fun c => ?_)
  · rw [if_pos c] at e2
    exact ⟨S1, p.2, st1, at'.ext x1, b, lo', e2, fun S2 H2 st2 x2 => q S2 H2 st2 (x1.trans x2)⟩
  · rw [if_neg c] at e2
    cases e2
    exact q S1 H1 st1 x1
theorem ew_or {a b : Expr} {rest : List Expr} {t u : GT} (h : PT X a (tT X.K T t)) (k : PW X (.BoolOp .Or (b :: rest) pos) (tT X.K T u)) : PW X (.BoolOp .Or (a :: b :: rest) pos) (tT X.K T (orT t u)) := by
  refine pw_imp (pw_or h k) fun σ H Q w => ?_
  obtain ⟨S, lo, st, at', b, lo', e, q⟩ := w
  obtain ⟨p, e1, e2⟩ := Option.bind_eq_some_iff.mp e
  refine ⟨S, lo, st, at', p.1, p.2, e1, fun S1 H1 st1 x1 => ?_⟩
  refine ite2 (fun c => ?_) (fun c => ?_)
  · rw [if_pos c] at e2
    cases e2
    exact q S1 H1 st1 x1
  · rw [if_neg c] at e2
    exact ⟨S1, p.2, st1, at'.ext x1, b, lo', e2, fun S2 H2 st2 x2 => q S2 H2 st2 (x1.trans x2)⟩
/-! ### and, or, not, a if t else b as values -/
def tstE (t : GT) : GE := fun lo => (t lo).bind fun p => some (.bool p.1, p.2)
def notE (g : GE) : GE := tstE (notT (bF g))
def andE (g k : GE) : GE := fun lo => (bF g lo).bind fun p => if p.1 = true then k p.2 else some (.bool false, p.2)
def orE (g k : GE) : GE := fun lo => (bF g lo).bind fun p => if p.1 = true then some (.bool true, p.2) else k p.2
def ifE (t : GT) (g k : GE) : GE := fun lo => (t lo).bind fun p => if p.1 = true then g p.2 else k p.2
theorem ev_one {op : BoolOp} {a : Expr} {g : GE} (h : PE X a (tE X.K T g)) : PE X (.BoolOp op [a] pos) (tE X.K T g) := pe_one h
theorem ev_not {a : Expr} {g : GE} (h : PE X a (tE X.K T g)) : PE X (.UnaryOp .Not a pos) (tE X.K T (notE g)) := by
  refine pe_imp (pe_not h) fun σ H Q w => ?_
  obtain ⟨S, lo, st, at', x, lo', e, q⟩ := w
  obtain ⟨p, e1, e2⟩ := Option.bind_eq_some_iff.mp e
  obtain ⟨r, e3, e4⟩ := Option.bind_eq_some_iff.mp e1
  cases e2
  cases e4
  refine ⟨S, lo, st, at', _, r.2, bF_some (b := r.1) e3, fun v S1 H1 st1 r1 x1 => ?_⟩
  cases r1
  exact ⟨_, rfl, q _ S1 H1 st1 (.bl _) x1⟩
theorem ev_and {a b : Expr} {rest : List Expr} {g k : GE} (h : PE X a (tE X.K T g)) (hk : PE X (.BoolOp .And (b :: rest) pos) (tE X.K T k)) : PE X (.BoolOp .And (a :: b :: rest) pos) (tE X.K T (andE g k)) := by
  refine pe_imp (pe_and h hk) fun σ H Q w => ?_
  obtain ⟨S, lo, st, at', x, lo', e, q⟩ := w
  obtain ⟨p, e1, e2⟩ := Option.bind_eq_some_iff.mp e
  refine ⟨S, lo, st, at', _, p.2, bF_some (b := p.1) e1, fun v S1 H1 st1 r1 x1 => ?_⟩
  cases r1
  refine ⟨_, rfl, ite2 (fun c => ?_) (fun c => ?_)⟩
  · rw [if_pos c] at e2
    exact ⟨S1, p.2, st1, at'.ext x1, x, lo', e2, fun v S2 H2 st2 r2 x2 => q v S2 H2 st2 r2 (x1.trans x2)⟩
  · rw [if_neg c] at e2
    cases e2
    exact q _ S1 H1 st1 (.bl _) x1
theorem ev_or {a b : Expr} {rest : List Expr} {g k : GE} (h : PE X a (tE X.K T g)) (hk : PE X (.BoolOp .Or (b :: rest) pos) (tE X.K T k)) : PE X (.BoolOp .Or (a :: b :: rest) pos) (tE X.K T (orE g k)) := by
  refine pe_imp (pe_or h hk) fun σ H Q w => ?_
  obtain ⟨S, lo, st, at', x, lo', e, q⟩ := w
  obtain ⟨p, e1, e2⟩ := Option.bind_eq_some_iff.mp e
  refine ⟨S, lo, st, at', _, p.2, bF_some (b := p.1) e1, fun v S1 H1 st1 r1 x1 => ?_⟩
  cases r1
  refine ⟨_, rfl, ite2 (fun c => ?_) (fun c => ?_)⟩
  · rw [if_pos c] at e2
    cases e2
    exact q _ S1 H1 st1 (.bl _) x1
  · rw [if_neg c] at e2
    exact ⟨S1, p.2, st1, at'.ext x1, x, lo', e2, fun v S2 H2 st2 r2 x2 => q v S2 H2 st2 r2 (x1.trans x2)⟩
theorem ev_if {c a b : Expr} {t : GT} {g k : GE} (hc : PT X c (tT X.K T t)) (ha : PE X a (tE X.K T g)) (hb : PE X b (tE X.K T k)) : PE X (.IfExp c a b pos) (tE X.K T (ifE t g k)) := by
  refine pe_imp (pe_ifExp hc ha hb) fun σ H Q w => ?_
  obtain ⟨S, lo, st, at', x, lo', e, q⟩ := w
  obtain ⟨p, e1, e2⟩ := Option.bind_eq_some_iff.mp e
  refine ⟨S, lo, st, at', p.1, p.2, e1, fun S1 H1 st1 x1 => ?_⟩
  refine ite2 (fun c => ?_) (fun c => ?_)
  · rw [if_pos c] at e2
    exact ⟨S1, p.2, st1, at'.ext x1, x, lo', e2, fun v S2 H2 st2 r2 x2 => q v S2 H2 st2 r2 (x1.trans x2)⟩
  · rw [if_neg c] at e2
    exact ⟨S1, p.2, st1, at'.ext x1, x, lo', e2, fun v S2 H2 st2 r2 x2 => q v S2 H2 st2 r2 (x1.trans x2)⟩
/-! ### arguments, displays, built-ins -/
abbrev GA := Lo → Option (List PyData × Lo)
def tAr (K : PySem.W.Frag) (T : List Addr) (g : GA) : TA := fun σ H Q => ∃ S lo, Stt K S H σ lo ∧ AllT T H ∧ ∃ xs lo', g lo = some (xs, lo') ∧ ∀ vs S' H', Stt K S' H' σ lo' → RqL K S' vs xs → Ext (Own σ lo) S H S' H' (Own σ lo') → Q vs H'
def nilA : GA := fun lo => some ([], lo)
def consA (g : GE) (k : GA) : GA := fun lo => (g lo).bind fun p => (k p.2).bind fun q => some (p.1 :: q.1, q.2)
theorem ea_nil : PA X [] (tAr X.K T nilA) := by
  refine pa_imp pa_nil fun σ H Q w => ?_
  obtain ⟨S, lo, st, at', x, lo', e, q⟩ := w
  cases e
  exact q [] S H st .nil (Ext.refl _ _ _)
theorem ea_cons {e : Expr} {es : List Expr} {g : GE} {k : GA} (h : PE X e (tE X.K T g)) (hr : PA X es (tAr X.K T k)) (hs : starEach (e :: es) X.env = (false, eval e X.env) :: starEach es X.env := by rfl) : PA X (e :: es) (tAr X.K T (consA g k)) := by
  refine pa_imp (pa_cons h hr hs) fun σ H Q w => ?_
  obtain ⟨S, lo, st, at', xs, lo', e, q⟩ := w
  obtain ⟨p, e1, e2⟩ := Option.bind_eq_some_iff.mp e
  obtain ⟨r, e3, e4⟩ := Option.bind_eq_some_iff.mp e2
  cases e4
  refine ⟨S, lo, st, at', p.1, p.2, e1, fun v S1 H1 st1 r1 x1 => ?_⟩
  exact ⟨S1, p.2, st1, at'.ext x1, r.1, r.2, e3, fun vs S2 H2 st2 r2 x2 => q (v :: vs) S2 H2 st2 (.cons (Rq.sub x2.sub r1) r2) (x1.trans x2)⟩
def szOk (n : Nat) : Bool := decide (n ≤ sizeLine)
def tupF (g : GA) : GE := fun lo => (g lo).bind fun p => if p.1.length ≤ sizeLine then some (.tuple p.1, p.2) else none
def lstF (g : GA) : GE := fun lo => (g lo).bind fun p => if p.1.length ≤ sizeLine then some (.list p.1, p.2) else none
theorem ev_tup {es : List Expr} {j : Nat} {g : GA} (h : PA X es (tAr X.K T g)) : PE X (.Tuple es j pos) (tE X.K T (tupF g)) := by
  refine pe_imp (pe_tup h) fun σ H Q w => ?_
  obtain ⟨S, lo, st, at', x, lo', e, q⟩ := w
  obtain ⟨p, e1, e2⟩ := Option.bind_eq_some_iff.mp e
  split at e2
  · rename_i hz
    cases e2
    refine ⟨S, lo, st, at', p.1, p.2, e1, fun vs S1 H1 st1 r1 x1 => ⟨by rw [r1.length]; exact hz, fun a ha => ?_⟩⟩
    have g1 := Gro.new (u := .tup vs) st1.sub st1.noT ha (fun ps z => by cases z)
    exact q _ _ _ (st1.gro g1) (.tup (.inl (.inl upd_same)) (RqL.sub g1.subS r1)) (x1.trans g1.ext)
  · cases e2
theorem ev_lst {es : List Expr} {g : GA} (h : PA X es (tAr X.K T g)) : PE X (.List es pos) (tE X.K T (lstF g)) := by
  refine pe_imp (pe_lst h) fun σ H Q w => ?_
  obtain ⟨S, lo, st, at', x, lo', e, q⟩ := w
  obtain ⟨p, e1, e2⟩ := Option.bind_eq_some_iff.mp e
  split at e2
  · rename_i hz
    cases e2
    refine ⟨S, lo, st, at', p.1, p.2, e1, fun vs S1 H1 st1 r1 x1 => ⟨by rw [r1.length]; exact hz, fun a ha => ?_⟩⟩
    have g1 := Gro.new (u := .lst vs) st1.sub st1.noT ha (fun ps z => by cases z)
    exact q _ _ _ (st1.gro g1) (.lst upd_same (RqL.sub g1.subS r1)) (x1.trans g1.ext)
  · cases e2
/-- a built-in called with data -/
def ValN (K : PySem.W.Frag) (f : List PyData → Option PyData) (r : List V → Hp → VK → Prop) : Prop := ∀ (S H : Hp) (vs : List V) (xs : List PyData) (z : PyData) (Q : VK), Sub S H → NoT S → RqTL K S H vs xs → f xs = some z → (∀ w S' H', Gro S H S' H' → Rq K S' w z → Q w H') → r vs H Q
def callF (f : List PyData → Option PyData) (g : GA) : GE := fun lo => (g lo).bind fun p => (f p.1).bind fun z => some (z, p.2)
theorem tCB_of {r : List V → Hp → VK → Prop} {f : List PyData → Option PyData} {g : GA} (v : ValN X.K f r) {σ : L2.St} {H : Hp} {Q : VK} (w : tE X.K T (callF f g) σ H Q) : tCB r (tAr X.K T g) σ H Q := by
  obtain ⟨S, lo, st, at', z, lo', e, q⟩ := w
  obtain ⟨p, e1, e2⟩ := Option.bind_eq_some_iff.mp e
  obtain ⟨z', e3, e4⟩ := Option.bind_eq_some_iff.mp e2
  cases e4
  refine ⟨S, lo, st, at', p.1, p.2, e1, fun vs S1 H1 st1 r1 x1 => ?_⟩
  exact v S1 H1 vs p.1 z Q st1.sub st1.noT (.of r1) e3 fun w S2 H2 g2 r2 => q w S2 H2 (st1.gro g2) r2 (x1.trans g2.ext)
/-- .. called with such a name alone -/
def callN (f : List PyData → Option PyData) (i : Nat) : GE := fun lo => (ownD i lo).bind fun x => (f [x]).bind fun z => some (z, lo)
theorem tCBN_of {r : List V → Hp → VK → Prop} {f : List PyData → Option PyData} {i : Nat} (v : ValN X.K f r) {σ : L2.St} {H : Hp} {Q : VK} (w : tE X.K T (callN f i) σ H Q) : tCB r (tCons (tVar i) tNil) σ H Q := by
  obtain ⟨S, lo, st, at', z, lo', e, q⟩ := w
  obtain ⟨x, e1, e⟩ := Option.bind_eq_some_iff.mp e
  obtain ⟨z', e3, e⟩ := Option.bind_eq_some_iff.mp e
  cases e
  obtain ⟨v1, ev1, rv1⟩ := st.read e1
  exact ⟨v1, ev1, v S H [v1] [x] z Q st.sub st.noT (.cons rv1 .nil) e3 fun w S2 H2 g r2 => q w S2 H2 (st.gro g) r2 g.ext⟩
theorem tE_imp {K : PySem.W.Frag} {g g' : GE} (h : ∀ lo, g lo = g' lo) {σ : L2.St} {H : Hp} {Q : VK} : tE K T g σ H Q → tE K T g' σ H Q := by
  have : g = g' := funext h
  rw [this]; exact id
end
end Ev

namespace Ev
open PySem PySem.Spec PyProof.Rows L2 Tb
variable {K : PySem.W.Frag}
/-! ### a name is given data -/
theorem Stt.set {S H : Hp} {σ : L2.St} {lo : Lo} (s : Stt K S H σ lo) {i : Nat} {v : V} {x : PyData} (r : Rq K S v x) : Stt K S H (σ.set i (some v)) (lo.set i (some (.dat x))) ∧ ∀ a, Own (σ.set i (some v)) (lo.set i (some (.dat x))) a → Own σ lo a := by
  have oth : ∀ j b, OwnAt (σ.set i (some v)) (lo.set i (some (.dat x))) j b → OwnAt σ lo j b := fun j b ⟨h1, ys, h2⟩ => by
    by_cases q : j = i
    · subst q
      by_cases hi : j < lo.length
      · rw [List.getElem?_set_self hi] at h2
        cases h2
      · rw [List.getElem?_eq_none (by rw [List.length_set]; omega)] at h2
        cases h2
    · rw [List.getElem?_set_ne (Ne.symm q)] at h1 h2
      exact ⟨h1, ys, h2⟩
  refine ⟨⟨s.sub, s.noT, by rw [List.length_set, List.length_set]; exact s.len, fun j l h => ?_, fun j b h => s.own j b (oth j b h), fun j k b h1 h2 => s.inj j k b (oth j b h1) (oth k b h2)⟩, fun a ⟨j, h⟩ => ⟨j, oth j a h⟩⟩
  by_cases q : j = i
  · subst q
    have hi : j < lo.length := by
      have := (List.getElem?_eq_some_iff.mp h).1
      rwa [List.length_set] at this
    rw [List.getElem?_set_self hi] at h
    cases h
    exact ⟨v, List.getElem?_set_self (by rw [← s.len]; exact hi), r⟩
  · rw [List.getElem?_set_ne (Ne.symm q)] at h
    obtain ⟨w, e, rr⟩ := s.loc j l h
    exact ⟨w, by rw [List.getElem?_set_ne (Ne.symm q)]; exact e, rr⟩
/-- .. forgets what it had -/
theorem Stt.wipe1 {S H : Hp} {σ : L2.St} {lo : Lo} (s : Stt K S H σ lo) {i : Nat} {o : Option V} : Stt K S H (σ.set i o) (lo.set i none) ∧ ∀ a, Own (σ.set i o) (lo.set i none) a → Own σ lo a := by
  have ne : ∀ j (l : L), (lo.set i none)[j]? = some (some l) → j ≠ i := fun j l h q => by
    subst q
    by_cases hi : j < lo.length
    · rw [List.getElem?_set_self hi] at h
      cases h
    · rw [List.getElem?_eq_none (by rw [List.length_set]; omega)] at h
      cases h
  have oth : ∀ j b, OwnAt (σ.set i o) (lo.set i none) j b → OwnAt σ lo j b := fun j b ⟨h1, ys, h2⟩ => by
    have q := ne j _ h2
    rw [List.getElem?_set_ne (Ne.symm q)] at h1 h2
    exact ⟨h1, ys, h2⟩
  refine ⟨⟨s.sub, s.noT, by rw [List.length_set, List.length_set]; exact s.len, fun j l h => ?_, fun j b h => s.own j b (oth j b h), fun j k b h1 h2 => s.inj j k b (oth j b h1) (oth k b h2)⟩, fun a ⟨j, h⟩ => ⟨j, oth j a h⟩⟩
  have q := ne j l h
  rw [List.getElem?_set_ne (Ne.symm q)] at h
  obtain ⟨w, e, rr⟩ := s.loc j l h
  exact ⟨w, by rw [List.getElem?_set_ne (Ne.symm q)]; exact e, rr⟩
theorem Ext.shrink {F F1 F2 : Addr → Prop} {S H S' H' : Hp} (x : Ext F S H S' H' F1) (h : ∀ a, F2 a → F1 a) : Ext F S H S' H' F2 := ⟨x.keep, x.tab, x.sub, x.domS, fun b hb => x.domF b (h b hb)⟩
theorem Ext.widen {F F1 F2 : Addr → Prop} {S H S' H' : Hp} (x : Ext F S H S' H' F1) (h : ∀ a, F a → F2 a) : Ext F2 S H S' H' F1 :=
  ⟨fun b o n => x.keep b o fun z => n (h b z), x.tab, x.sub, fun b hb => (x.domS b hb).imp id (Or.imp (h b) id), fun b hb => (x.domF b hb).imp (h b) id⟩

/-! ### statements -/
inductive Out where
  | nx | rt (x : PyData) | bk | ct
abbrev GS := Lo → Option (Out × Lo)
def endO (K : PySem.W.Frag) (D : Ends) (S : Hp) (σ : L2.St) (H : Hp) : Out → Prop
  | .nx => D.nx σ H
  | .rt x => ∀ v, Rq K S v x → D.rt v H
  | .bk => D.bk σ H
  | .ct => D.ct σ H
def tS (K : PySem.W.Frag) (T : List Addr) (pin : Bool) (g : GS) : TS := fun D σ H => ∃ S lo, Stt K S H σ lo ∧ AllT T H ∧ ∃ o lo', g lo = some (o, lo') ∧ ∀ σ' S' H', Stt K S' H' σ' lo' → Ext (Own σ lo) S H S' H' (Own σ' lo') → (pin = true → σ'[0]? = σ[0]?) → endO K D S' σ' H' o
section
variable {X : Cx} {T : List Addr} {pos : Pos} {pin : Bool}
def nilS : GS := fun lo => some (.nx, lo)
def seqS (g k : GS) : GS := fun lo => (g lo).bind fun p => match p.1 with
  | .nx => k p.2
  | .rt x => some (.rt x, p.2)
  | .bk => some (.bk, p.2)
  | .ct => some (.ct, p.2)
theorem es_nil : PSs X [] (tS X.K T pin nilS) := by
  refine pss_imp pss_nil fun D σ H w => ?_
  obtain ⟨S, lo, st, at', o, lo', e, q⟩ := w
  cases e
  exact q σ S H st (Ext.refl _ _ _) fun _ => rfl
theorem es_cons {st : Stmt} {rest : List Stmt} {g k : GS} (h : PS X st (tS X.K T pin g)) (hk : PSs X rest (tS X.K T pin k)) : PSs X (st :: rest) (tS X.K T pin (seqS g k)) := by
  refine pss_imp (pss_cons h hk) fun D σ H w => ?_
  obtain ⟨S, lo, st, at', o, lo', e, q⟩ := w
  obtain ⟨p, e1, e2⟩ := Option.bind_eq_some_iff.mp e
  obtain ⟨o1, l1⟩ := p
  refine ⟨S, lo, st, at', o1, l1, e1, fun σ1 S1 H1 st1 x1 p1 => ?_⟩
  cases o1 with
  | nx => exact ⟨S1, l1, st1, at'.ext x1, o, lo', e2, fun σ2 S2 H2 st2 x2 p2 => q σ2 S2 H2 st2 (x1.trans x2) fun z => (p2 z).trans (p1 z)⟩
  | rt x =>
    cases e2
    exact q σ1 S1 H1 st1 x1 p1
  | bk =>
    cases e2
    exact q σ1 S1 H1 st1 x1 p1
  | ct =>
    cases e2
    exact q σ1 S1 H1 st1 x1 p1
theorem es_one {st : Stmt} {g : GS} (h : PS X st (tS X.K T pin g)) : PSs X [st] (tS X.K T pin g) := pss_one h
def neverS : GS := fun _ => none
theorem es_never {st : Stmt} : PS X st (tS X.K T pin neverS) := by
  refine ps_imp ps_never fun D σ H w => ?_
  obtain ⟨_, _, _, _, _, _, e, _⟩ := w
  cases e
def retS (g : GE) : GS := fun lo => (g lo).bind fun p => some (.rt p.1, p.2)
theorem es_ret {e : Expr} {g : GE} (h : PE X e (tE X.K T g)) : PS X (.Return (some e) pos) (tS X.K T pin (retS g)) := by
  refine ps_imp (ps_ret h) fun D σ H w => ?_
  obtain ⟨S, lo, st, at', o, lo', e, q⟩ := w
  obtain ⟨p, e1, e2⟩ := Option.bind_eq_some_iff.mp e
  cases e2
  exact ⟨S, lo, st, at', p.1, p.2, e1, fun v S1 H1 st1 r1 x1 => q σ S1 H1 st1 x1 (fun _ => rfl) v r1⟩
def dropS (g : GE) : GS := fun lo => (g lo).bind fun p => some (.nx, p.2)
theorem es_expr {e : Expr} {g : GE} (h : PE X e (tE X.K T g)) (hs : swapsWith e none pos.line X.env = pure false := by rfl) : PS X (.Expr e pos) (tS X.K T pin (dropS g)) := by
  refine ps_imp (ps_expr h hs) fun D σ H w => ?_
  obtain ⟨S, lo, st, at', o, lo', e, q⟩ := w
  obtain ⟨p, e1, e2⟩ := Option.bind_eq_some_iff.mp e
  cases e2
  exact ⟨S, lo, st, at', p.1, p.2, e1, fun v S1 H1 st1 r1 x1 => q σ S1 H1 st1 x1 (fun _ => rfl)⟩
def bkS : GS := fun lo => some (.bk, lo)
def ctS : GS := fun lo => some (.ct, lo)
theorem es_break : PS X (.Break pos) (tS X.K T pin bkS) := by
  refine ps_imp ps_break fun D σ H w => ?_
  obtain ⟨S, lo, st, at', o, lo', e, q⟩ := w
  cases e
  exact q σ S H st (Ext.refl _ _ _) fun _ => rfl
theorem es_continue : PS X (.Continue pos) (tS X.K T pin ctS) := by
  refine ps_imp ps_continue fun D σ H w => ?_
  obtain ⟨S, lo, st, at', o, lo', e, q⟩ := w
  cases e
  exact q σ S H st (Ext.refl _ _ _) fun _ => rfl
theorem es_pass : PS X (.Pass pos) (tS X.K T pin nilS) := by
  refine ps_imp ps_pass fun D σ H w => ?_
  obtain ⟨S, lo, st, at', o, lo', e, q⟩ := w
  cases e
  exact q σ S H st (Ext.refl _ _ _) fun _ => rfl
def ifS (t : GT) (g k : GS) : GS := fun lo => (t lo).bind fun p => if p.1 = true then g p.2 else k p.2
theorem es_if {c : Expr} {a b : List Stmt} {t : GT} {g k : GS} (hc : PT X c (tT X.K T t)) (ha : PSs X a (tS X.K T pin g)) (hb : PSs X b (tS X.K T pin k)) : PS X (.If c a b pos) (tS X.K T pin (ifS t g k)) := by
  refine ps_imp (ps_if hc ha hb) fun D σ H w => ?_
  obtain ⟨S, lo, st, at', o, lo', e, q⟩ := w
  obtain ⟨p, e1, e2⟩ := Option.bind_eq_some_iff.mp e
  refine ⟨S, lo, st, at', p.1, p.2, e1, fun S1 H1 st1 x1 => ?_⟩
  refine ite2 (fun c => ?_) (fun c => ?_)
  · rw [if_pos c] at e2
    exact ⟨S1, p.2, st1, at'.ext x1, o, lo', e2, fun σ2 S2 H2 st2 x2 p2 => q σ2 S2 H2 st2 (x1.trans x2) p2⟩
  · rw [if_neg c] at e2
    exact ⟨S1, p.2, st1, at'.ext x1, o, lo', e2, fun σ2 S2 H2 st2 x2 p2 => q σ2 S2 H2 st2 (x1.trans x2) p2⟩
/-! ### targets -/
abbrev GG := PyData → Lo → Option Lo
def TGt (K : PySem.W.Frag) (pin : Bool) (t : TG) (gg : GG) : Prop := ∀ (v : V) (x : PyData) (σ : L2.St) (H : Hp) (Q : L2.St → Hp → Prop) (S : Hp) (lo lo' : Lo), Stt K S H σ lo → Rq K S v x → gg x lo = some lo' →
  (∀ σ' H', Stt K S H' σ' lo' → Ext (Own σ lo) S H S H' (Own σ' lo') → (pin = true → σ'[0]? = σ[0]?) → Q σ' H') → t v σ H Q
def nmG (i : Nat) : GG := fun x lo => some (lo.set i (some (.dat x)))
theorem eg_name {i : Nat} (hp : pin = true → i ≠ 0) : TGt K pin (gName i) (nmG i) := fun v x σ H Q S lo lo' st r e q => by
  cases e
  obtain ⟨s1, s2⟩ := st.set (i := i) r
  exact q _ _ s1 ((Ext.refl _ _ _).shrink s2) fun z => by rw [List.getElem?_set_ne (hp z)]
def TGts (K : PySem.W.Frag) (pin : Bool) (t : TGs) (gg : List PyData → Lo → Option Lo) : Prop := ∀ (vs : List V) (xs : List PyData) (σ : L2.St) (H : Hp) (Q : L2.St → Hp → Prop) (S : Hp) (lo lo' : Lo), Stt K S H σ lo → RqL K S vs xs → gg xs lo = some lo' →
  (∀ σ' H', Stt K S H' σ' lo' → Ext (Own σ lo) S H S H' (Own σ' lo') → (pin = true → σ'[0]? = σ[0]?) → Q σ' H') → t vs σ H Q
def nilGs : List PyData → Lo → Option Lo := fun xs lo => match xs with
  | [] => some lo
  | _ => none
def consGs (g : GG) (k : List PyData → Lo → Option Lo) : List PyData → Lo → Option Lo := fun xs lo => match xs with
  | x :: r => (g x lo).bind (k r)
  | _ => none
theorem egs_nil : TGts K pin gNil nilGs := fun vs xs σ H Q S lo lo' st r e q => by
  cases xs with
  | nil =>
    cases e
    cases r
    exact ⟨rfl, q σ H st (Ext.refl _ _ _) fun _ => rfl⟩
  | cons _ _ => cases e
theorem egs_cons {t : TG} {u : TGs} {g : GG} {k : List PyData → Lo → Option Lo} (h : TGt K pin t g) (hk : TGts K pin u k) : TGts K pin (gCons t u) (consGs g k) := fun vs xs σ H Q S lo lo' st r e q => by
  cases xs with
  | nil => cases e
  | cons x r' =>
    obtain ⟨l, e1, e2⟩ := Option.bind_eq_some_iff.mp e
    cases r with
    | cons r1 r2 =>
      refine ⟨_, _, rfl, h _ x σ H _ S lo l st r1 e1 fun σ1 H1 st1 o1 p1 => ?_⟩
      exact hk _ r' σ1 H1 Q S l lo' st1 r2 e2 fun σ2 H2 st2 o2 p2 => q σ2 H2 st2 (o1.trans o2) fun z => (p2 z).trans (p1 z)
def tpG (n : Nat) (k : List PyData → Lo → Option Lo) : GG := fun x lo => match x with
  | .tuple xs => if xs.length = n then k xs lo else none
  | _ => none
theorem eg_tup {n : Nat} {u : TGs} {k : List PyData → Lo → Option Lo} (hk : TGts K pin u k) : TGt K pin (gTup K n u) (tpG n k) := fun v x σ H Q S lo lo' st r e q => by
  unfold tpG at e
  split at e
  · rename_i xs
    split at e
    · rename_i hn
      cases r with
      | tup h rr => exact ⟨_, _, rfl, st.sub.sqT h, by rw [rr.length]; exact hn, hk _ xs σ H Q S lo lo' st rr e q⟩
    · cases e
  · cases e
/-- target = e -/
def asgS (g : GE) (gg : GG) : GS := fun lo => (g lo).bind fun p => (gg p.1 p.2).bind fun l => some (.nx, l)
theorem es_asg {tg e : Expr} {t : TG} {g : GE} {gg : GG} (he : PE X e (tE X.K T g)) (hg : PG X tg t) (ht : TGt X.K pin t gg) (hs : swapsWithSole [tg] e pos.line X.env = pure false := by rfl) (hw : swappedStores [tg] e X.env = pure none := by rfl)
    (h1 : (assignEach [tg] X.env).map (·.2) = [assign tg X.env] := by rfl) : PS X (.Assign [tg] e pos) (tS X.K T pin (asgS g gg)) := by
  refine ps_imp (ps_asg he hg hs hw h1) fun D σ H w => ?_
  obtain ⟨S, lo, st, at', o, lo', e, q⟩ := w
  obtain ⟨p, e1, e2⟩ := Option.bind_eq_some_iff.mp e
  obtain ⟨l, e3, e4⟩ := Option.bind_eq_some_iff.mp e2
  cases e4
  refine ⟨S, lo, st, at', p.1, p.2, e1, fun v S1 H1 st1 r1 x1 => ?_⟩
  exact ht v p.1 σ H1 _ S1 p.2 _ st1 r1 e3 fun σ2 H2 st2 o2 p2 => q σ2 S1 H2 st2 (x1.trans o2) p2
/-! ### walks -/
def Walks (K : PySem.W.Frag) (J : It) (S : Hp) (xs : List PyData) : Prop := ∀ (i : Nat) (S' H' : Hp), Sub S S' → Sub S' H' → NoT S' → i ≤ xs.length →
  (i = xs.length ∧ J.stop i H') ∨ ∃ x, xs[i]? = some x ∧ J.go i H' ∧ ∀ v H'', J.yld i H' v H'' → ∃ S'', Gro S' H' S'' H'' ∧ Rq K S'' v x
def tI (K : PySem.W.Frag) (T : List Addr) (g : GA) : TI := fun σ H R => ∃ S lo, Stt K S H σ lo ∧ AllT T H ∧ ∃ xs lo', g lo = some (xs, lo') ∧ ∀ J S' H', Stt K S' H' σ lo' → Ext (Own σ lo) S H S' H' (Own σ lo') → Walks K J S' xs → R J H'
theorem pi_imp {tg e : Expr} {t t' : TI} (h : PI X tg e t) (i : ∀ σ H R, t' σ H R → t σ H R) : PI X tg e t' := ⟨fun pins s σ H R I w => h.run pins s σ H R I (i σ H R w)⟩
theorem walks_l {a : Addr} {S : Hp} {vs : List V} {xs : List PyData} (h : S a = some (.lst vs)) (r : RqL K S vs xs) : Walks K (Itl K a) S xs := fun i S' H' s1 s2 n hi => by
  have q : SqL K H' a vs := .inl (.inl (s2 _ _ (s1 _ _ h)))
  rcases Nat.lt_or_ge i xs.length with hlt | hge
  · obtain ⟨v, hv, rv⟩ := r.get' (List.getElem?_eq_getElem hlt)
    refine .inr ⟨_, List.getElem?_eq_getElem hlt, ⟨vs, v, q, hv⟩, fun w H'' ⟨e1, e2⟩ => ?_⟩
    subst e1
    have := e2 vs q
    rw [hv] at this
    cases this
    exact ⟨S', Gro.refl s2 n, Rq.sub s1 rv⟩
  · exact .inl ⟨Nat.le_antisymm hi hge, vs, q, by rw [r.length]; exact hge⟩
theorem walks_t {a : Addr} {S : Hp} {vs : List V} {xs : List PyData} (h : SqT K S a vs) (r : RqL K S vs xs) : Walks K (Itt K a) S xs := fun i S' H' s1 s2 n hi => by
  have q : SqT K H' a vs := s2.sqT (s1.sqT h)
  rcases Nat.lt_or_ge i xs.length with hlt | hge
  · obtain ⟨v, hv, rv⟩ := r.get' (List.getElem?_eq_getElem hlt)
    refine .inr ⟨_, List.getElem?_eq_getElem hlt, ⟨vs, v, q, hv⟩, fun w H'' ⟨e1, e2⟩ => ?_⟩
    subst e1
    have := e2 vs q
    rw [hv] at this
    cases this
    exact ⟨S', Gro.refl s2 n, Rq.sub s1 rv⟩
  · exact .inl ⟨Nat.le_antisymm hi hge, vs, q, by rw [r.length]; exact hge⟩
def seqI (g : GE) : GA := fun lo => (g lo).bind fun p => match p.1 with
  | .list xs => some (xs, p.2)
  | .tuple xs => some (xs, p.2)
  | _ => none
theorem ei_seq {tg e : Expr} {g : GE} (h : PE X e (tE X.K T g)) : PI X tg e (tI X.K T (seqI g)) := by
  refine pi_imp (pi_sq h) fun σ H R w => ?_
  obtain ⟨S, lo, st, at', xs, lo', e, q⟩ := w
  obtain ⟨p, e1, e2⟩ := Option.bind_eq_some_iff.mp e
  refine ⟨S, lo, st, at', p.1, p.2, e1, fun v S1 H1 st1 r1 x1 => ?_⟩
  obtain ⟨y, l1⟩ := p
  cases y with
  | list ys =>
    cases e2
    cases r1 with
    | lst h rr => exact ⟨_, _, rfl, .inl ⟨.inl (.inl (st1.sub _ _ h)), q _ S1 H1 st1 x1 (walks_l h rr)⟩⟩
  | tuple ys =>
    cases e2
    cases r1 with
    | tup h rr => exact ⟨_, _, rfl, .inr ⟨st1.sub.sqT h, q _ S1 H1 st1 x1 (walks_t h rr)⟩⟩
  | _ => cases e2
theorem walks_r {S : Hp} {lo : Int} {n : Nat} : Walks K (Itr lo n) S ((List.range n).map fun i => PyData.int (lo + (i : Nat))) := fun i S' H' s1 s2 nt hi => by
  rw [List.length_map, List.length_range] at hi ⊢
  rcases Nat.lt_or_ge i n with hlt | hge
  · refine .inr ⟨.int (lo + (i : Nat)), by rw [List.getElem?_map, List.getElem?_range hlt]; rfl, hlt, fun w H'' ⟨e1, e2⟩ => ?_⟩
    subst e1 e2
    exact ⟨S', Gro.refl s2 nt, .int _⟩
  · exact .inl ⟨Nat.le_antisymm hi hge, hge⟩
def small62 (i : Int) : Bool := decide (-(2 ^ 62) ≤ i) && decide (i < 2 ^ 62)
theorem small62_iff {i : Int} : small62 i = true ↔ -(2 ^ 62) ≤ i ∧ i < 2 ^ 62 := by
  unfold small62
  rw [Bool.and_eq_true, decide_eq_true_eq, decide_eq_true_eq]
def rgL (lo hi : Int) : List PyData := (List.range (hi - lo).toNat).map fun i => PyData.int (lo + (i : Nat))
def rg1I (g : GA) : GA := fun lo => (g lo).bind fun p => match p.1 with
  | [.int n] => if small62 n = true then some (rgL 0 n, p.2) else none
  | _ => none
def rg2I (g : GA) : GA := fun lo => (g lo).bind fun p => match p.1 with
  | [.int a, .int b] => if small62 a = true ∧ small62 b = true then some (rgL a b, p.2) else none
  | _ => none
theorem ei_range1 {tg a : Expr} {g : GA} {p : Pos} (hg : Gl X "range") (hm : X.mg "range" = none) (h : PA X [a] (tAr X.K T g)) (hs : starEach [a] X.env = [(false, eval a X.env)] := by rfl) : PI X tg (.Call (.Name "range" p) [a] [] pos) (tI X.K T (rg1I g)) := by
  refine pi_imp (pi_range1 hg hm h hs) fun σ H R w => ?_
  obtain ⟨S, lo, st, at', xs, lo', e, q⟩ := w
  obtain ⟨p, e1, e2⟩ := Option.bind_eq_some_iff.mp e
  refine ⟨S, lo, st, at', p.1, p.2, e1, fun v S1 H1 st1 r1 x1 => ?_⟩
  split at e2
  · rename_i n hp
    split at e2
    · rename_i hn
      cases e2
      rw [hp] at r1
      cases r1 with
      | cons r1 r2 =>
        cases r2
        cases r1
        obtain ⟨b1, b2⟩ := small62_iff.mp hn
        exact ⟨n, rfl, b1, b2, by
          have := q (Itr 0 (n - 0).toNat) S1 H1 st1 x1 (walks_r (lo := 0) (n := (n - 0).toNat))
          rw [Int.sub_zero] at this
          exact this⟩
    · cases e2
  · cases e2
theorem ei_range2 {tg a b : Expr} {g : GA} {p : Pos} (hg : Gl X "range") (hm : X.mg "range" = none) (h : PA X [a, b] (tAr X.K T g)) (hs : starEach [a, b] X.env = [(false, eval a X.env), (false, eval b X.env)] := by rfl) (hs2 : starEach [b] X.env = [(false, eval b X.env)] := by rfl) : PI X tg (.Call (.Name "range" p) [a, b] [] pos) (tI X.K T (rg2I g)) := by
  refine pi_imp (pi_range2 hg hm h hs hs2) fun σ H R w => ?_
  obtain ⟨S, lo, st, at', xs, lo', e, q⟩ := w
  obtain ⟨p, e1, e2⟩ := Option.bind_eq_some_iff.mp e
  refine ⟨S, lo, st, at', p.1, p.2, e1, fun v S1 H1 st1 r1 x1 => ?_⟩
  split at e2
  · rename_i i j hp
    split at e2
    · rename_i hn
      cases e2
      rw [hp] at r1
      cases r1 with
      | cons r1 r2 =>
        cases r2 with
        | cons r2 r3 =>
          cases r3
          cases r1
          cases r2
          obtain ⟨b1, b2⟩ := small62_iff.mp hn.1
          obtain ⟨b3, b4⟩ := small62_iff.mp hn.2
          exact ⟨i, j, rfl, ⟨b1, b2, b3, b4⟩, q _ S1 H1 st1 x1 walks_r⟩
    · cases e2
  · cases e2
end
end Ev

namespace Ev
open PySem PySem.Spec PyProof.Rows L2 Tb
variable {K : PySem.W.Frag}
section
variable {X : Cx} {T : List Addr} {pos : Pos} {pin : Bool}
/-! ### for, while -/
def forGo (gg : GG) (body : GS) : List PyData → Lo → Option (Out × Lo)
  | [], lo => some (.nx, lo)
  | x :: r, lo => (gg x lo).bind fun l => (body l).bind fun p => match p.1 with
    | .nx => forGo gg body r p.2
    | .ct => forGo gg body r p.2
    | .bk => some (.nx, p.2)
    | .rt v => some (.rt v, p.2)
def forS (gi : GA) (gg : GG) (body : GS) : GS := fun lo => (gi lo).bind fun p => forGo gg body p.1 p.2
theorem es_for {tg iter : Expr} {body : List Stmt} {gi : GA} {gg : GG} {g : GS} {t : TG} (hp : PassesOwn (model X.prog X.w) X.A X.env X.xe) (hc : X.calm = true) (hi : PI X tg iter (tI X.K T gi)) (hg : PG X tg t) (ht : TGt X.K pin t gg) (hb : PSs X body (tS X.K T pin g))
    (hs : ∀ x, foldedSetIterable iter X.env x = pure x := by intro _; rfl) : PS X (.For tg iter body [] pos) (tS X.K T pin (forS gi gg g)) := by
  refine ps_imp (ps_for hp hc hi hg hb hs) fun D σ H w => ?_
  obtain ⟨S, lo, st, at', o, lo', e, q⟩ := w
  obtain ⟨p, e1, e2⟩ := Option.bind_eq_some_iff.mp e
  obtain ⟨xs, l1⟩ := p
  refine ⟨S, lo, st, at', xs, l1, e1, fun J S1 H1 st1 x1 wk => ?_⟩
  refine ⟨fun i m σ' H' => m = xs.length - i ∧ i ≤ xs.length ∧ ∃ S' lo2, Stt X.K S' H' σ' lo2 ∧ Sub S1 S' ∧ Ext (Own σ lo) S H S' H' (Own σ' lo2) ∧ (pin = true → σ'[0]? = σ[0]?) ∧ forGo gg g (xs.drop i) lo2 = some (o, lo'), ⟨xs.length, by simp, Nat.zero_le _, S1, l1, st1, Sub.refl _, x1, fun _ => rfl, e2⟩, ?_⟩
  rintro i m σ' H' ⟨rfl, hi', S', lo2, st2, s12, x2, p2, eg⟩
  rcases wk i S' H' s12 st2.sub st2.noT hi' with ⟨ei, stop⟩ | ⟨x, hx, go, yl⟩
  · refine .inl ⟨stop, ?_⟩
    rw [ei, List.drop_length] at eg
    cases eg
    exact q σ' S' H' st2 x2 p2
  · have hlt : i < xs.length := (List.getElem?_eq_some_iff.mp hx).1
    have ed : xs.drop i = x :: xs.drop (i + 1) := by
      rw [List.drop_eq_getElem_cons hlt]
      rw [List.getElem?_eq_getElem hlt] at hx
      cases hx
      rfl
    rw [ed] at eg
    obtain ⟨l, e3, e4⟩ := Option.bind_eq_some_iff.mp eg
    obtain ⟨r, e5, e6⟩ := Option.bind_eq_some_iff.mp e4
    obtain ⟨o1, l3⟩ := r
    refine .inr ⟨go, fun σ3 H3 => ∃ S3 lo3, Stt X.K S3 H3 σ3 lo3 ∧ Sub S1 S3 ∧ Ext (Own σ lo) S H S3 H3 (Own σ3 lo3) ∧ (pin = true → σ3[0]? = σ[0]?) ∧ forGo gg g (xs.drop (i + 1)) lo3 = some (o, lo'), fun σ3 H3 ⟨S3, lo3, a, b, c, d, f⟩ => ⟨xs.length - (i + 1), by omega, rfl, hlt, S3, lo3, a, b, c, d, f⟩, fun v H3 y => ?_⟩
    obtain ⟨S3, gr, rv⟩ := yl v H3 y
    have st3 := st2.gro gr
    refine ht v x σ' H3 _ S3 lo2 l st3 rv e3 fun σ4 H4 st4 o4 p4 => ?_
    have x4 : Ext (Own σ lo) S H S3 H4 (Own σ4 l) := (x2.trans gr.ext).trans o4
    refine ⟨S3, l, st4, at'.ext x4, o1, l3, e5, fun σ5 S5 H5 st5 x5 p5 => ?_⟩
    have x45 := x4.trans x5
    have s15 := (s12.trans gr.subS).trans x5.sub
    have pp : pin = true → σ5[0]? = σ[0]? := fun z => ((p5 z).trans (p4 z)).trans (p2 z)
    cases o1 with
    | nx => exact ⟨S5, l3, st5, s15, x45, pp, e6⟩
    | ct => exact ⟨S5, l3, st5, s15, x45, pp, e6⟩
    | bk =>
      cases e6
      exact q σ5 S5 H5 st5 x45 pp
    | rt v =>
      cases e6
      exact q σ5 S5 H5 st5 x45 pp
def whileS (t : GT) (body : GS) : Nat → GS
  | 0 => fun _ => none
  | n + 1 => fun lo => (t lo).bind fun p => if p.1 = true then (body p.2).bind fun q => match q.1 with
      | .nx => whileS t body n q.2
      | .ct => whileS t body n q.2
      | .bk => some (.nx, q.2)
      | .rt v => some (.rt v, q.2)
    else some (.nx, p.2)
theorem es_while {c : Expr} {body : List Stmt} {t : GT} {g : GS} {n : Nat} (hp : PassesOwn (model X.prog X.w) X.A X.env X.xe) (hc : PT X c (tT X.K T t)) (hb : PSs X body (tS X.K T pin g)) : PS X (.While c body [] pos) (tS X.K T pin (whileS t g n)) := by
  refine ps_imp (ps_while hp hc hb) fun D σ H w => ?_
  obtain ⟨S, lo, st, at', o, lo', e, q⟩ := w
  refine ⟨fun m σ' H' => ∃ S' lo2, Stt X.K S' H' σ' lo2 ∧ Ext (Own σ lo) S H S' H' (Own σ' lo2) ∧ (pin = true → σ'[0]? = σ[0]?) ∧ whileS t g m lo2 = some (o, lo'), ⟨n, S, lo, st, Ext.refl _ _ _, fun _ => rfl, e⟩, ?_⟩
  rintro m σ' H' ⟨S', lo2, st2, x2, p2, eg⟩
  cases m with
  | zero => cases eg
  | succ m =>
    obtain ⟨r, e1, e2⟩ := Option.bind_eq_some_iff.mp eg
    refine ⟨S', lo2, st2, at'.ext x2, r.1, r.2, e1, fun S3 H3 st3 x3 => ?_⟩
    refine ite2 (fun c => ?_) (fun c => ?_)
    · rw [if_pos c] at e2
      obtain ⟨r', e3, e4⟩ := Option.bind_eq_some_iff.mp e2
      obtain ⟨o1, l3⟩ := r'
      refine ⟨fun σ4 H4 => ∃ S4 lo4, Stt X.K S4 H4 σ4 lo4 ∧ Ext (Own σ lo) S H S4 H4 (Own σ4 lo4) ∧ (pin = true → σ4[0]? = σ[0]?) ∧ whileS t g m lo4 = some (o, lo'), fun σ4 H4 z => ⟨m, Nat.lt_succ_self _, z⟩, ?_⟩
      refine ⟨S3, r.2, st3, at'.ext (x2.trans x3), o1, l3, e3, fun σ5 S5 H5 st5 x5 p5 => ?_⟩
      have x45 := (x2.trans x3).trans x5
      have pp : pin = true → σ5[0]? = σ[0]? := fun z => (p5 z).trans (p2 z)
      cases o1 with
      | nx => exact ⟨S5, l3, st5, x45, pp, e4⟩
      | ct => exact ⟨S5, l3, st5, x45, pp, e4⟩
      | bk =>
        cases e4
        exact q σ5 S5 H5 st5 x45 pp
      | rt v =>
        cases e4
        exact q σ5 S5 H5 st5 x45 pp
    · rw [if_neg c] at e2
      cases e2
      exact q σ' S3 H3 st3 (x2.trans x3) p2
/-! ### truth of data -/
def truD : PyData → Option Bool
  | .none => some false
  | .bool b => some b
  | .int i => some (i != 0)
  | .list xs => some (!xs.isEmpty)
  | .tuple xs => some (!xs.isEmpty)
  | .str x => if x.length ≤ sizeLine then some (x.length != 0) else none
  | _ => none
def truT (g : GE) : GT := fun lo => (g lo).bind fun p => (truD p.1).bind fun b => some (b, p.2)
theorem truV_of {S H : Hp} {v : V} {x : PyData} {b : Bool} (s : Sub S H) (r : Rq K S v x) (e : truD x = some b) : TruV K v H b := by
  cases r with
  | non => cases e; rfl
  | bl c => cases e; rfl
  | int i => cases e; rfl
  | str y =>
    have e' : (if y.length ≤ sizeLine then some (y.length != 0) else none) = some b := e
    split at e'
    · rename_i hz
      cases e'
      refine ⟨hz, ?_⟩
      cases hl : y.length with
      | zero => rfl
      | succ n =>
        have z : ¬ ((n : Int) + 1 = 0) := by omega
        simp [z]
    · cases e'
  | lst h rr =>
    cases e
    refine .inl ⟨_, .inl (.inl (s _ _ h)), ?_⟩
    have := rr.length
    rename_i xs ds
    cases xs <;> cases ds <;> first | rfl | simp at this
  | tup h rr =>
    cases e
    refine .inr (.inl ⟨_, s.sqT h, ?_⟩)
    have := rr.length
    rename_i xs ds
    cases xs <;> cases ds <;> first | rfl | simp at this
  | dct h rr => cases e
theorem et_truth {a : Expr} {g : GE} (h : PE X a (tE X.K T g)) (he : ∀ whole, isTrue a X.env whole = (do let v ← whole; standAt a.pos; holding [v] (truthy v))) : PT X a (tT X.K T (truT g)) := by
  refine pt_imp (pt_truth h he) fun σ H Q w => ?_
  obtain ⟨S, lo, st, at', b, lo', e, q⟩ := w
  obtain ⟨p, e1, e2⟩ := Option.bind_eq_some_iff.mp e
  obtain ⟨c, e3, e4⟩ := Option.bind_eq_some_iff.mp e2
  cases e4
  exact ⟨S, lo, st, at', p.1, p.2, e1, fun v S1 H1 st1 r1 x1 => ⟨b, truV_of st1.sub r1 e3, q S1 H1 st1 x1⟩⟩
/-! ### blocks: names of their own -/
def wipeL (lo : Lo) : List Nat → Lo
  | [] => lo
  | v :: vs => (wipeL lo vs).set v none
/-- behind the block: its names are as they were ahead -/
def rstL (lo l2 : Lo) : List Nat → Lo
  | [] => l2
  | v :: vs => (rstL lo l2 vs).set v (lo.getD v none)
/-- none of these is a list of one's own -/
def noOwn (lo : Lo) : List Nat → Bool
  | [] => true
  | v :: vs => (match lo.getD v none with
    | some (.lst _) => false
    | _ => true) && noOwn lo vs
theorem Stt.wipe {S H : Hp} {σ : L2.St} {lo : Lo} (s : Stt K S H σ lo) : ∀ vs : List Nat, Stt K S H (wipe σ vs) (wipeL lo vs) ∧ ∀ a, Own (wipe σ vs) (wipeL lo vs) a → Own σ lo a
  | [] => ⟨s, fun _ h => h⟩
  | v :: vs => by
    obtain ⟨h1, h2⟩ := s.wipe vs
    obtain ⟨h3, h4⟩ := h1.wipe1 (i := v) (o := none)
    exact ⟨h3, fun a h => h2 a (h4 a h)⟩
theorem rstL_len (lo l2 : Lo) : ∀ vs : List Nat, (rstL lo l2 vs).length = l2.length
  | [] => rfl
  | v :: vs => by unfold rstL; rw [List.length_set, rstL_len lo l2 vs]
theorem rstL_in {lo l2 : Lo} {l : L} {j : Nat} : ∀ {vs : List Nat}, (rstL lo l2 vs)[j]? = some (some l) → (j ∈ vs ∧ lo[j]? = some (some l)) ∨ (j ∉ vs ∧ l2[j]? = some (some l))
  | [], h => .inr ⟨by simp, h⟩
  | v :: vs, h => by
    unfold rstL at h
    by_cases hv : v = j
    · subst hv
      by_cases hl : v < (rstL lo l2 vs).length
      · rw [List.getElem?_set_self hl] at h
        refine .inl ⟨by simp, ?_⟩
        rw [List.getD_eq_getElem?_getD] at h
        cases q : lo[v]? with
        | none => rw [q] at h; cases h
        | some y => rw [q] at h; cases h; rfl
      · rw [List.getElem?_eq_none (by rw [List.length_set]; omega)] at h
        cases h
    · rw [List.getElem?_set_ne hv] at h
      rcases rstL_in h with ⟨a, b⟩ | ⟨a, b⟩
      · exact .inl ⟨List.mem_cons_of_mem _ a, b⟩
      · exact .inr ⟨by simp only [List.mem_cons, not_or]; exact ⟨fun e => hv e.symm, a⟩, b⟩
theorem noOwn_at {lo : Lo} {j : Nat} {xs : List PyData} : ∀ {vs : List Nat}, noOwn lo vs = true → j ∈ vs → lo[j]? = some (some (.lst xs)) → False
  | [], _, h, _ => by simp at h
  | v :: vs, n, h, e => by
    unfold noOwn at n
    rw [Bool.and_eq_true] at n
    rcases List.mem_cons.mp h with z | z
    · subst z
      have := n.1
      rw [List.getD_eq_getElem?_getD, e] at this
      cases this
    · exact noOwn_at n.2 z e
/-- out of the block -/
theorem Stt.leave {S H S' H' : Hp} {σ σ' : L2.St} {lo l2 : Lo} {vs : List Nat} (s : Stt K S H σ lo) (n : noOwn lo vs = true) (s' : Stt K S' H' σ' l2) (sub : Sub S S') (hσ : ∀ j, j ∉ vs → σ'[j]? = σ[j]?) (hl : σ'.length = σ.length) :
    Stt K S' H' σ (rstL lo l2 vs) ∧ ∀ a, Own σ (rstL lo l2 vs) a → Own σ' l2 a := by
  have oth : ∀ j b, OwnAt σ (rstL lo l2 vs) j b → OwnAt σ' l2 j b := fun j b ⟨h1, ys, h2⟩ => by
    rcases rstL_in h2 with ⟨a, e⟩ | ⟨a, e⟩
    · exact (noOwn_at n a e).elim
    · exact ⟨by rw [hσ j a]; exact h1, ys, e⟩
  refine ⟨⟨s'.sub, s'.noT, by rw [rstL_len, s'.len, hl], fun j l h => ?_, fun j b h => s'.own j b (oth j b h), fun j k b h1 h2 => s'.inj j k b (oth j b h1) (oth k b h2)⟩, fun a ⟨j, h⟩ => ⟨j, oth j a h⟩⟩
  rcases rstL_in h with ⟨a, e⟩ | ⟨a, e⟩
  · obtain ⟨v, ev, r⟩ := s.loc j l e
    refine ⟨v, ev, ?_⟩
    cases l with
    | dat y => exact Rq.sub sub r
    | lst ys => exact (noOwn_at n a e).elim
  · obtain ⟨v, ev, r⟩ := s'.loc j l e
    exact ⟨v, by rw [← hσ j a]; exact ev, r⟩
/-! ### [e for .. in .. if ..] -/
def yesT : GT := fun lo => some (true, lo)
theorem ets_nil : PTs X [] (tT X.K T yesT) := ⟨fun pins s σ H Q I w => by
  obtain ⟨S, lo, st, at', b, lo', e, q⟩ := w
  cases e
  exact (pts_nil (X := X)).run pins s σ H Q I (q S H st (Ext.refl _ _ _))⟩
theorem ets_one {c : Expr} {t : GT} (h : PT X c (tT X.K T t)) : PTs X [c] (tT X.K T t) := pts_one h
def lcGo (vs : List Nat) (gg : GG) (t : GT) (g : GE) : List PyData → Lo → List PyData → Option (List PyData × Lo)
  | [], lo, acc => some (acc, lo)
  | x :: r, lo, acc => (gg x lo).bind fun l => (t l).bind fun p => if p.1 = true then (g p.2).bind fun q => if acc.length < sizeLine then lcGo vs gg t g r (wipeL q.2 vs) (acc ++ [q.1]) else none
    else lcGo vs gg t g r (wipeL p.2 vs) acc
def lcF (gi : GA) (vs : List Nat) (gg : GG) (t : GT) (g : GE) : GE := fun lo => (gi lo).bind fun p => if noOwn p.2 vs = true then (lcGo vs gg t g p.1 (wipeL p.2 vs) []).bind fun q => some (.list q.1, rstL p.2 q.2 vs) else none
/-- what the block is, turn by turn -/
theorem wipe_rst {σ σ2 : L2.St} {vs : List Nat} (h : wipe σ2 vs = wipe σ vs) : (∀ j, j ∉ vs → σ2[j]? = σ[j]?) ∧ σ2.length = σ.length := by
  refine ⟨fun j hj => ?_, ?_⟩
  · rw [← wipe_out (σ := σ2) hj, h, wipe_out hj]
  · rw [← wipe_length σ2 vs, h, wipe_length]
theorem wipe_in {σ : L2.St} {j : Nat} : ∀ {vs : List Nat}, j ∈ vs → (wipe σ vs)[j]? = if j < σ.length then some none else none
  | [], h => by simp at h
  | v :: vs, h => by
    unfold wipe
    by_cases e : v = j
    · subst e
      rw [List.getElem?_set_self']
      by_cases hl : v < σ.length
      · have : v < (wipe σ vs).length := by rw [wipe_length]; exact hl
        simp [hl, List.getElem?_eq_getElem this]
      · have : (wipe σ vs)[v]? = none := List.getElem?_eq_none (by rw [wipe_length]; omega)
        simp [hl, this]
    · rw [List.getElem?_set_ne e]
      exact wipe_in ((List.mem_cons.mp h).resolve_left fun z => e z.symm)
theorem wipe_idem (σ : L2.St) (vs : List Nat) : wipe (wipe σ vs) vs = wipe σ vs := List.ext_getElem? fun j => by
  by_cases h : j ∈ vs
  · rw [wipe_in h, wipe_in h, wipe_length]
  · rw [wipe_out h]
/-- a block's target stores to the block's names alone -/
def TGb (K : PySem.W.Frag) (vs : List Nat) (t : TG) (gg : GG) : Prop := ∀ (v : V) (x : PyData) (σ : L2.St) (H : Hp) (Q : L2.St → Hp → Prop) (S : Hp) (lo lo' : Lo), Stt K S H σ lo → Rq K S v x → gg x lo = some lo' →
  (∀ σ', Stt K S H σ' lo' → (∀ a, Own σ' lo' a → Own σ lo a) → wipe σ' vs = wipe σ vs → Q σ' H) → t v σ H Q
theorem wipe_set {σ : L2.St} {i : Nat} {o : Option V} : ∀ {vs : List Nat}, i ∈ vs → wipe (σ.set i o) vs = wipe σ vs
  | [], h => by simp at h
  | v :: vs, h => by
    unfold wipe
    by_cases hm : i ∈ vs
    · rw [wipe_set hm]
    · have e : i = v := by
        rcases List.mem_cons.mp h with z | z
        · exact z
        · exact absurd z hm
      subst e
      have : ∀ ws : List Nat, i ∉ ws → wipe (σ.set i o) ws = (wipe σ ws).set i o := by
        intro ws
        induction ws with
        | nil => intro _; rfl
        | cons w r ih =>
          intro hw
          have h1 : w ≠ i := fun e => hw (by rw [e]; exact List.mem_cons_self)
          have h2 : i ∉ r := fun m => hw (List.mem_cons_of_mem _ m)
          unfold wipe
          rw [ih h2, List.set_comm _ _ (Ne.symm h1)]
      rw [this vs hm, List.set_set]
theorem egb_name {vs : List Nat} {i : Nat} (hi : i ∈ vs) : TGb K vs (gName i) (nmG i) := fun v x σ H Q S lo lo' st r e q => by
  cases e
  obtain ⟨s1, s2⟩ := st.set (i := i) r
  exact q _ s1 s2 (wipe_set hi)
def TGbs (K : PySem.W.Frag) (vs : List Nat) (t : TGs) (gg : List PyData → Lo → Option Lo) : Prop := ∀ (ws : List V) (xs : List PyData) (σ : L2.St) (H : Hp) (Q : L2.St → Hp → Prop) (S : Hp) (lo lo' : Lo), Stt K S H σ lo → RqL K S ws xs → gg xs lo = some lo' →
  (∀ σ', Stt K S H σ' lo' → (∀ a, Own σ' lo' a → Own σ lo a) → wipe σ' vs = wipe σ vs → Q σ' H) → t ws σ H Q
theorem egbs_nil {vs : List Nat} : TGbs K vs gNil nilGs := fun ws xs σ H Q S lo lo' st r e q => by
  cases xs with
  | nil =>
    cases e
    cases r
    exact ⟨rfl, q σ st (fun _ h => h) rfl⟩
  | cons _ _ => cases e
theorem egbs_cons {vs : List Nat} {t : TG} {u : TGs} {g : GG} {k : List PyData → Lo → Option Lo} (h : TGb K vs t g) (hk : TGbs K vs u k) : TGbs K vs (gCons t u) (consGs g k) := fun ws xs σ H Q S lo lo' st r e q => by
  cases xs with
  | nil => cases e
  | cons x r' =>
    obtain ⟨l, e1, e2⟩ := Option.bind_eq_some_iff.mp e
    cases r with
    | cons r1 r2 =>
      refine ⟨_, _, rfl, h _ x σ H _ S lo l st r1 e1 fun σ1 st1 o1 p1 => ?_⟩
      exact hk _ r' σ1 H Q S l lo' st1 r2 e2 fun σ2 st2 o2 p2 => q σ2 st2 (fun a z => o1 a (o2 a z)) (p2.trans p1)
theorem egb_tup {vs : List Nat} {n : Nat} {u : TGs} {k : List PyData → Lo → Option Lo} (hk : TGbs K vs u k) : TGb K vs (gTup K n u) (tpG n k) := fun v x σ H Q S lo lo' st r e q => by
  unfold tpG at e
  split at e
  · rename_i xs
    split at e
    · rename_i hn
      cases r with
      | tup h rr => exact ⟨_, _, rfl, st.sub.sqT h, by rw [rr.length]; exact hn, hk _ xs σ H Q S lo lo' st rr e q⟩
    · cases e
  · cases e
theorem Stt.not_new {S H : Hp} {σ : L2.St} {lo : Lo} (s : Stt K S H σ lo) {p : Addr} (h : H p = none) : ¬ Own σ lo p ∧ S p = none := by
  refine ⟨fun o => ?_, ?_⟩
  · obtain ⟨vs, e⟩ := s.ownH o
    rw [h] at e; cases e
  · cases q : S p with
    | none => rfl
    | some u => rw [s.sub _ _ q] at h; cases h
/-- what the block has: its locals, the new list at D -/
structure Blk (K : PySem.W.Frag) (T : List Addr) (F : Addr → Prop) (S1 H1 : Hp) (D : Addr) (S H : Hp) (σ : L2.St) (lo : Lo) (acc : List PyData) : Prop where
  st : Stt K S H σ lo
  ext : Ext F S1 H1 S H (Own σ lo)
  at_ : ∃ us, H D = some (.lst us) ∧ RqL K S us acc
  noS : S D = none
  noO : ¬ Own σ lo D
theorem Blk.next {T : List Addr} {F : Addr → Prop} {S1 H1 S H S' H' : Hp} {D : Addr} {σ σ' : L2.St} {lo lo' : Lo} {acc : List PyData} (b : Blk K T F S1 H1 D S H σ lo acc) (st : Stt K S' H' σ' lo') (x : Ext (Own σ lo) S H S' H' (Own σ' lo')) : Blk K T F S1 H1 D S' H' σ' lo' acc := by
  obtain ⟨us, hD, r⟩ := b.at_
  have nz : ¬ Fz H D := fun z => z.no hD fun ps q => by cases q
  refine ⟨st, b.ext.trans x, ⟨us, x.keep D _ b.noO hD (fun ps q => by cases q), RqL.sub x.sub r⟩, ?_, fun o => ?_⟩
  · cases q : S' D with
    | none => rfl
    | some u =>
      rcases x.domS D (by rw [q]; simp) with z | z | z
      · exact absurd b.noS z
      · exact absurd z b.noO
      · exact absurd z nz
  · rcases x.domF D o with z | z
    · exact b.noO z
    · exact nz z
theorem Blk.app {T : List Addr} {F : Addr → Prop} {S1 H1 S H : Hp} {D : Addr} {σ : L2.St} {lo : Lo} {acc : List PyData} {v : V} {y : PyData} (b : Blk K T F S1 H1 D S H σ lo acc) (rv : Rq K S v y) (h1 : H1 D = none ∨ Fz H1 D) (hF : ¬ F D) :
    ∃ us, H D = some (.lst us) ∧ us.length = acc.length ∧ Blk K T F S1 H1 D S (upd H D (.lst (us ++ [v]))) σ lo (acc ++ [y]) := by
  obtain ⟨us, hD, r⟩ := b.at_
  have nz : Fz H1 D := h1.elim fz_none id
  refine ⟨us, hD, r.length, ⟨?_, ?_, ⟨_, upd_same, r.app (.cons rv .nil)⟩, b.noS, b.noO⟩⟩
  · refine ⟨fun c o e => by rw [upd_ne (ne_of_none e b.noS)]; exact b.st.sub _ _ e, b.st.noT, b.st.len, fun i l e => ?_, b.st.own, b.st.inj⟩
    obtain ⟨w, ew, rw'⟩ := b.st.loc i l e
    refine ⟨w, ew, ?_⟩
    cases l with
    | dat z => exact rw'
    | lst zs =>
      obtain ⟨c, ws, rfl, hc, rr⟩ := rw'
      have ne : c ≠ D := fun z => b.noO ⟨i, by rw [← z]; exact ew, zs, e⟩
      exact ⟨c, ws, rfl, by rw [upd_ne ne]; exact hc, rr⟩
  · refine ⟨fun c o f e n => ?_, fun P t => ?_, b.ext.sub, b.ext.domS, b.ext.domF⟩
    · have ne : c ≠ D := fun z => nz.no (z ▸ e) n
      rw [upd_ne ne]
      exact b.ext.keep c o f e n
    · obtain ⟨qs, e3, t3⟩ := b.ext.tab P t
      have ne : P ≠ D := fun z => nz.2 (z ▸ t)
      exact ⟨qs, by rw [upd_ne ne]; exact e3, t3⟩
theorem tLc_of {gi : GA} {vs : List Nat} {gg : GG} {t : GT} {g : GE} {tg' : TG} (hgb : TGb X.K vs tg' gg) {σ : L2.St} {H : Hp} {Q : VK} (w : tE X.K T (lcF gi vs gg t g) σ H Q) : tLc (tI X.K T gi) tg' (tT X.K T t) (tE X.K T g) vs σ H Q := by
  obtain ⟨S, lo, st, at', x, lo', e, q⟩ := w
  obtain ⟨p, e1, e2⟩ := Option.bind_eq_some_iff.mp e
  obtain ⟨xs, l1⟩ := p
  split at e2
  · rename_i hno
    obtain ⟨r, e3, e4⟩ := Option.bind_eq_some_iff.mp e2
    obtain ⟨out, l9⟩ := r
    cases e4
    refine ⟨S, lo, st, at', xs, l1, e1, fun J S1 H1 st1 x1 wk D hD => ?_⟩
    obtain ⟨stw, ow⟩ := st1.wipe vs
    have nD := st1.not_new hD
    have nDw : ¬ Own (L2.wipe σ vs) (wipeL l1 vs) D := fun z => nD.1 (ow D z)
    -- the block's own invariant
    refine ⟨fun i m H' => m = xs.length - i ∧ i ≤ xs.length ∧ ∃ S' lo2 acc, Blk X.K T (Own (L2.wipe σ vs) (wipeL l1 vs)) S1 H1 D S' H' (L2.wipe σ vs) lo2 acc ∧ lcGo vs gg t g (xs.drop i) lo2 acc = some (out, l9), ⟨xs.length, by simp, Nat.zero_le _, S1, wipeL l1 vs, [], ⟨stw.lay hD, Ext.lay hD, ⟨[], upd_same, .nil⟩, nD.2, nDw⟩, e3⟩, ?_⟩
    rintro i m H' ⟨rfl, hi', S', lo2, acc, B, eg⟩
    rcases wk i S' H' B.ext.sub B.st.sub B.st.noT hi' with ⟨ei, stop⟩ | ⟨x, hx, go, yl⟩
    · refine .inl ⟨stop, ?_⟩
      rw [ei, List.drop_length] at eg
      cases eg
      obtain ⟨us, hU, rU⟩ := B.at_
      -- the list is shared from now on
      have sb : Sub S' (upd S' D (.lst us)) := fun b o h => by rw [upd_ne (ne_of_none h B.noS)]; exact h
      obtain ⟨s9, o9⟩ := st1.leave hno B.st B.ext.sub (fun j hj => wipe_out hj) (wipe_length σ vs)
      have s10 : Stt X.K (upd S' D (.lst us)) H' σ (rstL l1 l9 vs) := by
        refine ⟨fun b o h => ?_, s9.noT.upd (fun ps z => by cases z), s9.len, fun j l h => ?_, fun j b h => ?_, s9.inj⟩
        · by_cases z : b = D
          · subst z; rw [upd_same] at h; cases h; exact hU
          · rw [upd_ne z] at h; exact s9.sub _ _ h
        · obtain ⟨v, ev, rr⟩ := s9.loc j l h
          refine ⟨v, ev, ?_⟩
          cases l with
          | dat y => exact Rq.sub sb rr
          | lst ys =>
            obtain ⟨b, ws, z1, z2, z3⟩ := rr
            exact ⟨b, ws, z1, z2, RqL.sub sb z3⟩
        · have ne : b ≠ D := fun z => B.noO (o9 D ⟨j, z ▸ h⟩)
          rw [upd_ne ne]
          exact s9.own j b h
      have x9 : Ext (Own σ l1) S1 H1 S' H' (Own σ (rstL l1 l9 vs)) := (B.ext.shrink o9).widen ow
      have x10 : Ext (Own σ l1) S1 H1 (upd S' D (.lst us)) H' (Own σ (rstL l1 l9 vs)) := ⟨x9.keep, x9.tab, x9.sub.trans sb, fun b z => by
        by_cases y : b = D
        · subst y; exact .inr (.inr (fz_none hD))
        · rw [upd_ne y] at z; exact x9.domS b z, x9.domF⟩
      exact q _ _ _ s10 (.lst upd_same (RqL.sub sb rU)) (x1.trans x10)
    · have hlt : i < xs.length := (List.getElem?_eq_some_iff.mp hx).1
      have ed : xs.drop i = x :: xs.drop (i + 1) := by
        rw [List.drop_eq_getElem_cons hlt]
        rw [List.getElem?_eq_getElem hlt] at hx
        cases hx
        rfl
      rw [ed] at eg
      obtain ⟨l, e5, e6⟩ := Option.bind_eq_some_iff.mp eg
      obtain ⟨r1, e7, e8⟩ := Option.bind_eq_some_iff.mp e6
      refine .inr ⟨go, fun H3 => ∃ S3 lo3 acc3, Blk X.K T (Own (L2.wipe σ vs) (wipeL l1 vs)) S1 H1 D S3 H3 (L2.wipe σ vs) lo3 acc3 ∧ lcGo vs gg t g (xs.drop (i + 1)) lo3 acc3 = some (out, l9), fun H3 ⟨S3, lo3, acc3, a, b⟩ => ⟨xs.length - (i + 1), by omega, rfl, hlt, S3, lo3, acc3, a, b⟩, fun v H3 y => ?_⟩
      obtain ⟨S3, gr, rv⟩ := yl v H3 y
      have B3 := B.next (B.st.gro gr) gr.ext
      refine hgb v x (L2.wipe σ vs) H3 _ S3 lo2 l B3.st rv e5 fun σ4 st4 o4 p4' => ?_
      have p4 : wipe σ4 vs = wipe σ vs := p4'.trans (wipe_idem σ vs)
      refine ⟨p4, ?_⟩
      have B4 := B3.next st4 ((Ext.refl _ _ _).shrink o4)
      have back : ∀ {S6 H6 : Hp} {l6 : Lo} {acc6 : List PyData}, Blk X.K T (Own (L2.wipe σ vs) (wipeL l1 vs)) S1 H1 D S6 H6 σ4 l6 acc6 → Blk X.K T (Own (L2.wipe σ vs) (wipeL l1 vs)) S1 H1 D S6 H6 (L2.wipe σ vs) (wipeL l6 vs) acc6 := fun {S6 H6 l6 acc6} b => by
        obtain ⟨z1, z2⟩ := b.st.wipe vs
        rw [p4] at z1 z2
        exact ⟨z1, b.ext.shrink z2, b.at_, b.noS, fun o => b.noO (z2 D o)⟩
      refine ⟨S3, l, st4, (at'.ext x1).ext B4.ext, r1.1, r1.2, e7, fun S5 H5 st5 x5 => ?_⟩
      have B5 := B4.next st5 x5
      refine ite2 (fun c => ?_) (fun c => ?_)
      · rw [if_pos c] at e8
        obtain ⟨r2, e9, e10⟩ := Option.bind_eq_some_iff.mp e8
        refine ⟨S5, r1.2, st5, (at'.ext x1).ext B5.ext, r2.1, r2.2, e9, fun w S6 H6 st6 r6 x6 => ?_⟩
        have B6 := B5.next st6 x6
        obtain ⟨us, hU, lU, B7⟩ := B6.app r6 (.inl hD) nDw
        split at e10
        · rename_i hz
          exact ⟨us, hU, by rw [lU]; exact hz, S6, _, _, back B7, e10⟩
        · cases e10
      · rw [if_neg c] at e8
        exact ⟨S5, _, _, back B5, e8⟩
  · cases e2
theorem ev_lc {elt tg iter : Expr} {ifs : List Expr} {scope : Scope} {own : List (Str × Nat)} {gi : GA} {gg : GG} {t : GT} {g : GE} {tg' : TG} (hc : X.calm = true) (hN : X.N.Nodup) (hi : PI X tg iter (tI X.K T gi)) (ok : BlkOk X.N X.env.scope scope own)
    (hg : ∀ (s : Shared) (H : Hp) (C : Addr) (cl : List (Str × Addr)) (fp : List Addr), PG (X.blk s H scope (compEnvC scope cl C X.env) fp) tg tg') (hgb : TGb X.K (own.map (·.2)) tg' gg)
    (ht : ∀ (s : Shared) (H : Hp) (C : Addr) (cl : List (Str × Addr)) (fp : List Addr), PTs (X.blk s H scope (compEnvC scope cl C X.env) fp) ifs (tT X.K T t))
    (he : ∀ (s : Shared) (H : Hp) (C : Addr) (cl : List (Str × Addr)) (fp : List Addr), PE (X.blk s H scope (compEnvC scope cl C X.env) fp) elt (tE X.K T g)) (hs : ∀ x, foldedSetIterable iter X.env x = pure x := by intro _; rfl) :
    PE X (.ListComp elt [⟨tg, iter, ifs, 0⟩] scope pos) (tE X.K T (lcF gi (own.map (·.2)) gg t g)) :=
  pe_imp (pe_lc hc hN hi ok hg ht he hs) fun _ _ _ w => tLc_of hgb w
end
end Ev

namespace Ev
open PySem PySem.Spec PyProof.Rows L2 Tb
variable {K : PySem.W.Frag}
theorem tabbed_ext {P : Addr} {F : Addr → Prop} {S H H' : Hp} (h : GxR.TabG H P) (t : GxR.Tabbed P H H') : Ext F S H S H' F := by
  have k := Kp.tabbed h t
  exact ⟨fun b o _ e n => k.keep b o e n, k.tab, Sub.refl _, fun _ h => .inl h, fun _ h => .inl h⟩
theorem Stt.tabbed {S H H' : Hp} {σ : L2.St} {lo : Lo} {P : Addr} (s : Stt K S H σ lo) (h : GxR.TabG H P) (t : GxR.Tabbed P H H') : Stt K S H' σ lo := by
  have k := Kp.tabbed h t
  have sub : Sub S H' := fun b o e => k.keep b o (s.sub _ _ e) fun ps z => s.noT b ps (by rw [e, z])
  refine s.grow (tabbed_ext h t) sub s.noT fun a o => ?_
  obtain ⟨vs, e⟩ := s.ownH o
  obtain ⟨i, w⟩ := o
  exact ⟨(k.lst e).trans e.symm, s.own i a w⟩
section
variable {X : Cx} {T : List Addr} {pos : Pos}
/-! ### all(e for x in ..), any(..) -/
/-- go: what a truth must be for the walk to go on -/
def allGo (vs : List Nat) (gg : GG) (g : GE) (go : Bool) : List PyData → Lo → Option (Bool × Lo)
  | [], lo => some (go, lo)
  | x :: r, lo => (gg x lo).bind fun l => (bF g l).bind fun p => if p.1 = go then allGo vs gg g go r p.2 else some (!go, p.2)
def allF (gi : GA) (ix : Nat) (g : GE) (go : Bool) : GE := fun lo => (gi lo).bind fun p => if noOwn p.2 [ix] = true then (allGo [ix] (nmG ix) g go p.1 (wipeL p.2 [ix])).bind fun q => some (.bool q.1, rstL p.2 q.2 [ix]) else none
theorem tAllG_of {gi : GA} {g : GE} {go : Bool} {ix : Nat} {P : Addr} (hP : P ∈ T) {σ : L2.St} {H : Hp} {Q : VK} (w : tE X.K T (allF gi ix g go) σ H Q) :
    Gx.tAllG P ix (tI X.K T gi) (gName ix) (tE X.K T g) go σ H Q := by
  obtain ⟨S, lo, st, at', x, lo', e, q⟩ := w
  obtain ⟨p, e1, e2⟩ := Option.bind_eq_some_iff.mp e
  obtain ⟨xs, l1⟩ := p
  split at e2
  · rename_i hno
    obtain ⟨r, e3, e4⟩ := Option.bind_eq_some_iff.mp e2
    obtain ⟨out, l9⟩ := r
    cases e4
    refine ⟨S, lo, st, at', xs, l1, e1, fun J S1 H1 st1 x1 wk => ⟨at'.ext x1 P hP, fun H2 t2 => ?_⟩⟩
    have hT := at'.ext x1 P hP
    have st2 := st1.tabbed hT t2
    have x2 : Ext (Own σ l1) S1 H1 S1 H2 (Own σ l1) := tabbed_ext hT t2
    obtain ⟨stw, ow⟩ := st2.wipe [ix]
    have a2 := at'.ext (x1.trans x2)
    -- behind the block
    have done : ∀ {S' H' : Hp} {σ' : L2.St}, (∀ j, j ∉ [ix] → σ'[j]? = σ[j]?) → σ'.length = σ.length → Stt X.K S' H' σ' l9 → Ext (Own (L2.wipe σ [ix]) (wipeL l1 [ix])) S1 H2 S' H' (Own σ' l9) → Q (.bl out) H' := fun {S' H' σ'} hσ hl st' x' => by
      obtain ⟨s9, o9⟩ := st2.leave hno st' x'.sub hσ hl
      exact q _ S' H' s9 (.bl out) ((x1.trans x2).trans ((x'.shrink o9).widen ow))
    have sets : ∀ v, (∀ j, j ∉ [ix] → (σ.set ix v)[j]? = σ[j]?) ∧ (σ.set ix v).length = σ.length := fun v => ⟨fun j hj => by rw [List.getElem?_set_ne (fun z => hj (by simp [z]))], by rw [List.length_set]⟩
    refine ⟨xs.length, ⟨fun i σ' H' => (∃ v, σ' = σ.set ix v) ∧ ∃ S' lo2, Stt X.K S' H' σ' lo2 ∧ Ext (Own (L2.wipe σ [ix]) (wipeL l1 [ix])) S1 H2 S' H' (Own σ' lo2) ∧ allGo [ix] (nmG ix) g go (xs.drop i) lo2 = some (out, l9),
      fun b _ σ' H' => b = !go ∧ Q (.bl (!go)) H', fun H' => Q (.bl go) H'⟩, ?_, ⟨⟨none, rfl⟩, S1, _, stw, (Ext.refl _ _ _), e3⟩, fun _ _ _ z => z.2, fun _ z => z⟩
    rintro i σ' H' hi' ⟨⟨v0, rfl⟩, S', lo2, st', x', eg⟩
    rcases wk i S' H' x'.sub st'.sub st'.noT hi' with ⟨ei, stop⟩ | ⟨x, hx, gone, yl⟩
    · refine .inl ⟨stop, ?_⟩
      rw [ei, List.drop_length] at eg
      cases eg
      exact done (sets v0).1 (sets v0).2 st' x'
    · have hlt : i < xs.length := (List.getElem?_eq_some_iff.mp hx).1
      have ed : xs.drop i = x :: xs.drop (i + 1) := by
        rw [List.drop_eq_getElem_cons hlt]
        rw [List.getElem?_eq_getElem hlt] at hx
        cases hx
        rfl
      rw [ed] at eg
      obtain ⟨l, e5, e6⟩ := Option.bind_eq_some_iff.mp eg
      obtain ⟨r1, e7, e8⟩ := Option.bind_eq_some_iff.mp e6
      cases e5
      refine .inr ⟨hlt, gone, fun v H3 y => ?_⟩
      obtain ⟨S3, gr, rv⟩ := yl v H3 y
      have st3 := st'.gro gr
      obtain ⟨st4, o4⟩ := st3.set (i := ix) rv
      have x4 := (x'.trans gr.ext).shrink o4
      refine ⟨S3, _, st4, a2.ext x4, _, r1.2, bF_some (b := r1.1) e7, fun w S5 H5 st5 r5 x5 => ?_⟩
      cases r5
      refine ⟨r1.1, rfl, ?_⟩
      have x45 := x4.trans x5
      have es : ((σ.set ix v0).set ix (some v)) = σ.set ix (some v) := List.set_set ..
      refine ite2 (fun c => ?_) (fun c => ?_)
      · rw [if_pos c] at e8
        exact ⟨⟨some v, es⟩, S5, r1.2, st5, x45, e8⟩
      · rw [if_neg c] at e8
        cases e8
        refine ⟨by cases h : r1.1 <;> cases go <;> first | rfl | (rw [h] at c; exact absurd rfl c), ?_⟩
        rw [es] at st5 x45
        exact done (sets _).1 (sets _).2 st5 x45
  · cases e2
variable {elt iter : Expr} {x : Str} {px p gpos : Pos} {scope : Scope} {ix k : Nat} {P c : Addr} {gi : GA} {g : GE}
theorem ev_all (hP : P ∈ T) (hr : Room (k + 1) X.A) (hga : Gl X "all") (hma : X.mg "all" = none) (TB : GxR.TabB X.base X.mg c P) (hcode : X.env.code = .ref c) (G : Gx.GScp X.N X.env.scope scope x ix) (hi : PI X (.Name x px) iter (tI X.K T gi))
    (hgt : ∀ (s : Shared) (H : Hp) (C : Addr) (code : Value) (fp : List Addr), PG (Gx.gcx X (Gx.gA X (Gx.gE X scope C code)) s H (Gx.gE X scope C code) fp) (.Name x px) (gName ix))
    (hel : ∀ (s : Shared) (H : Hp) (C : Addr) (code : Value) (fp : List Addr), Room k (Gx.gA X (Gx.gE X scope C code)) → PE (Gx.gcx X (Gx.gA X (Gx.gE X scope C code)) s H (Gx.gE X scope C code) fp) elt (tE X.K T g))
    (hs : ∀ v, genFold iter X.env v = pure v)
    (he : starEach [.GeneratorExp elt [⟨.Name x px, iter, [], 0⟩] scope gpos] X.env = (false, eval (.GeneratorExp elt [⟨.Name x px, iter, [], 0⟩] scope gpos) X.env) :: starEach [] X.env := by rfl) :
    PE X (.Call (.Name "all" p) [.GeneratorExp elt [⟨.Name x px, iter, [], 0⟩] scope gpos] [] pos) (tE X.K T (allF gi ix g true)) :=
  pe_imp (Gx.pe_all hr hga hma TB hcode G hi hgt hel hs he) fun _ _ _ w => tAllG_of hP w
theorem ev_any (hP : P ∈ T) (hr : Room (k + 1) X.A) (hga : Gl X "any") (hma : X.mg "any" = none) (TB : GxR.TabB X.base X.mg c P) (hcode : X.env.code = .ref c) (G : Gx.GScp X.N X.env.scope scope x ix) (hi : PI X (.Name x px) iter (tI X.K T gi))
    (hgt : ∀ (s : Shared) (H : Hp) (C : Addr) (code : Value) (fp : List Addr), PG (Gx.gcx X (Gx.gA X (Gx.gE X scope C code)) s H (Gx.gE X scope C code) fp) (.Name x px) (gName ix))
    (hel : ∀ (s : Shared) (H : Hp) (C : Addr) (code : Value) (fp : List Addr), Room k (Gx.gA X (Gx.gE X scope C code)) → PE (Gx.gcx X (Gx.gA X (Gx.gE X scope C code)) s H (Gx.gE X scope C code) fp) elt (tE X.K T g))
    (hs : ∀ v, genFold iter X.env v = pure v)
    (he : starEach [.GeneratorExp elt [⟨.Name x px, iter, [], 0⟩] scope gpos] X.env = (false, eval (.GeneratorExp elt [⟨.Name x px, iter, [], 0⟩] scope gpos) X.env) :: starEach [] X.env := by rfl) :
    PE X (.Call (.Name "any" p) [.GeneratorExp elt [⟨.Name x px, iter, [], 0⟩] scope gpos] [] pos) (tE X.K T (allF gi ix g false)) :=
  pe_imp (Gx.pe_any hr hga hma TB hcode G hi hgt hel hs he) fun _ _ _ w => tAllG_of hP w
end
end Ev

namespace Ev
open PySem PySem.Spec PyProof.Rows L2 Tb
variable {K : PySem.W.Frag}
/-! ### [e for .. in .. for .. in ..] -/
/-- the turns of a block's loop that puts to the list at D -/
theorem lc_loop {T : List Addr} {F : Addr → Prop} {S0 H0 S1 H1 : Hp} {D : Addr} {σ : L2.St} {lo l9 : Lo} {acc out xs : List PyData} {vs : List Nat} {gg : GG} {t : GT} {g : GE} {tg' : TG} {J : It} {Fin : Hp → Prop} (hgb : TGb K vs tg' gg) (wk : Walks K J S1 xs) (a0 : AllT T H0) (hD : Fz H0 D) (hF : ¬ F D)
    (B0 : Blk K T F S0 H0 D S1 H1 (wipe σ vs) lo acc) (eg : lcGo vs gg t g xs lo acc = some (out, l9)) (fin : ∀ S' H', Blk K T F S0 H0 D S' H' (wipe σ vs) l9 out → Sub S1 S' → Fin H') :
    ∃ W : Nat → Nat → Hp → Prop, (∃ m, W 0 m H1) ∧ ∀ i m H, W i m H → (J.stop i H ∧ Fin H) ∨ (J.go i H ∧ ∃ Nx : Hp → Prop, (∀ H', Nx H' → ∃ m', m' < m ∧ W (i + 1) m' H') ∧ ∀ x H', J.yld i H x H' → tg' x (wipe σ vs) H' fun σ2 H2 => wipe σ2 vs = wipe σ vs ∧ tT K T t σ2 H2 fun b H3 =>
      if b = true then tE K T g σ2 H3 fun y H4 => ∃ acc, H4 D = some (.lst acc) ∧ acc.length < sizeLine ∧ Nx (upd H4 D (.lst (acc ++ [y]))) else Nx H3) := by
  refine ⟨fun i m H' => m = xs.length - i ∧ i ≤ xs.length ∧ ∃ S' lo2 acc, Blk K T F S0 H0 D S' H' (wipe σ vs) lo2 acc ∧ Sub S1 S' ∧ lcGo vs gg t g (xs.drop i) lo2 acc = some (out, l9), ⟨xs.length, by simp, Nat.zero_le _, S1, lo, acc, B0, Sub.refl _, eg⟩, ?_⟩
  rintro i m H' ⟨rfl, hi', S', lo2, acc, B, s1, eg⟩
  rcases wk i S' H' s1 B.st.sub B.st.noT hi' with ⟨ei, stop⟩ | ⟨x, hx, go, yl⟩
  · refine .inl ⟨stop, ?_⟩
    rw [ei, List.drop_length] at eg
    cases eg
    exact fin S' H' B s1
  · have hlt : i < xs.length := (List.getElem?_eq_some_iff.mp hx).1
    have ed : xs.drop i = x :: xs.drop (i + 1) := by
      rw [List.drop_eq_getElem_cons hlt]
      rw [List.getElem?_eq_getElem hlt] at hx
      cases hx
      rfl
    rw [ed] at eg
    obtain ⟨l, e5, e6⟩ := Option.bind_eq_some_iff.mp eg
    obtain ⟨r1, e7, e8⟩ := Option.bind_eq_some_iff.mp e6
    refine .inr ⟨go, fun H3 => ∃ S3 lo3 acc3, Blk K T F S0 H0 D S3 H3 (wipe σ vs) lo3 acc3 ∧ Sub S1 S3 ∧ lcGo vs gg t g (xs.drop (i + 1)) lo3 acc3 = some (out, l9), fun H3 ⟨S3, lo3, acc3, a, b, c⟩ => ⟨xs.length - (i + 1), by omega, rfl, hlt, S3, lo3, acc3, a, b, c⟩, fun v H3 y => ?_⟩
    obtain ⟨S3, gr, rv⟩ := yl v H3 y
    have B3 := B.next (B.st.gro gr) gr.ext
    refine hgb v x (wipe σ vs) H3 _ S3 lo2 l B3.st rv e5 fun σ4 st4 o4 p4' => ?_
    have p4 : wipe σ4 vs = wipe σ vs := p4'.trans (wipe_idem σ vs)
    refine ⟨p4, ?_⟩
    have B4 := B3.next st4 ((Ext.refl _ _ _).shrink o4)
    have back : ∀ {S6 H6 : Hp} {l6 : Lo} {acc6 : List PyData}, Blk K T F S0 H0 D S6 H6 σ4 l6 acc6 → Blk K T F S0 H0 D S6 H6 (wipe σ vs) (wipeL l6 vs) acc6 := fun {S6 H6 l6 acc6} b => by
      obtain ⟨z1, z2⟩ := b.st.wipe vs
      rw [p4] at z1 z2
      exact ⟨z1, b.ext.shrink z2, b.at_, b.noS, fun o => b.noO (z2 D o)⟩
    refine ⟨S3, l, st4, a0.ext B4.ext, r1.1, r1.2, e7, fun S5 H5 st5 x5 => ?_⟩
    have B5 := B4.next st5 x5
    refine ite2 (fun c => ?_) (fun c => ?_)
    · rw [if_pos c] at e8
      obtain ⟨r2, e9, e10⟩ := Option.bind_eq_some_iff.mp e8
      refine ⟨S5, r1.2, st5, a0.ext B5.ext, r2.1, r2.2, e9, fun w S6 H6 st6 r6 x6 => ?_⟩
      have B6 := B5.next st6 x6
      obtain ⟨us, hU, lU, B7⟩ := B6.app r6 (.inr hD) hF
      split at e10
      · rename_i hz
        exact ⟨us, hU, by rw [lU]; exact hz, S6, _, _, back B7, ((s1.trans gr.subS).trans x5.sub).trans x6.sub, e10⟩
      · cases e10
    · rw [if_neg c] at e8
      exact ⟨S5, _, _, back B5, (s1.trans gr.subS).trans x5.sub, e8⟩
def lc2Go (vs : List Nat) (gg : GG) (t : GT) (gi1 : GA) (vs1 : List Nat) (gg1 : GG) (t1 : GT) (g : GE) : List PyData → Lo → List PyData → Option (List PyData × Lo)
  | [], lo, acc => some (acc, lo)
  | x :: r, lo, acc => (gg x lo).bind fun l => (t l).bind fun p => if p.1 = true then (gi1 p.2).bind fun q => (lcGo vs1 gg1 t1 g q.1 (wipeL q.2 vs1) acc).bind fun z => lc2Go vs gg t gi1 vs1 gg1 t1 g r (wipeL z.2 vs) z.1
    else lc2Go vs gg t gi1 vs1 gg1 t1 g r (wipeL p.2 vs) acc
def lc2F (gi : GA) (vs : List Nat) (gg : GG) (t : GT) (gi1 : GA) (vs1 : List Nat) (gg1 : GG) (t1 : GT) (g : GE) : GE := fun lo => (gi lo).bind fun p => if noOwn p.2 vs = true then (lc2Go vs gg t gi1 vs1 gg1 t1 g p.1 (wipeL p.2 vs) []).bind fun q => some (.list q.1, rstL p.2 q.2 vs) else none
/-- the new list is shared from now on -/
theorem Blk.done {T : List Addr} {S1 H1 S' H' : Hp} {D : Addr} {σ : L2.St} {l1 l9 : Lo} {vs : List Nat} {out : List PyData} (st1 : Stt K S1 H1 σ l1) (hD : H1 D = none) (hno : noOwn l1 vs = true)
    (B : Blk K T (Own (wipe σ vs) (wipeL l1 vs)) S1 H1 D S' H' (wipe σ vs) l9 out) : ∃ S'', Stt K S'' H' σ (rstL l1 l9 vs) ∧ Rq K S'' (.ref D) (.list out) ∧ Ext (Own σ l1) S1 H1 S'' H' (Own σ (rstL l1 l9 vs)) := by
  obtain ⟨us, hU, rU⟩ := B.at_
  obtain ⟨stw, ow⟩ := st1.wipe vs
  have sb : Sub S' (upd S' D (.lst us)) := fun b o h => by rw [upd_ne (ne_of_none h B.noS)]; exact h
  obtain ⟨s9, o9⟩ := st1.leave hno B.st B.ext.sub (fun j hj => wipe_out hj) (wipe_length σ vs)
  have s10 : Stt K (upd S' D (.lst us)) H' σ (rstL l1 l9 vs) := by
    refine ⟨fun b o h => ?_, s9.noT.upd (fun ps z => by cases z), s9.len, fun j l h => ?_, fun j b h => ?_, s9.inj⟩
    · by_cases z : b = D
      · subst z; rw [upd_same] at h; cases h; exact hU
      · rw [upd_ne z] at h; exact s9.sub _ _ h
    · obtain ⟨v, ev, rr⟩ := s9.loc j l h
      refine ⟨v, ev, ?_⟩
      cases l with
      | dat y => exact Rq.sub sb rr
      | lst ys =>
        obtain ⟨b, ws, z1, z2, z3⟩ := rr
        exact ⟨b, ws, z1, z2, RqL.sub sb z3⟩
    · have ne : b ≠ D := fun z => B.noO (o9 D ⟨j, z ▸ h⟩)
      rw [upd_ne ne]
      exact s9.own j b h
  have x9 : Ext (Own σ l1) S1 H1 S' H' (Own σ (rstL l1 l9 vs)) := (B.ext.shrink o9).widen ow
  refine ⟨_, s10, .lst upd_same (RqL.sub sb rU), x9.keep, x9.tab, x9.sub.trans sb, fun b z => ?_, x9.domF⟩
  by_cases y : b = D
  · subst y; exact .inr (.inr (fz_none hD))
  · rw [upd_ne y] at z; exact x9.domS b z
section
variable {X : Cx} {T : List Addr} {pos : Pos}
theorem tLc2_of {gi gi1 : GA} {vs vs1 : List Nat} {gg gg1 : GG} {t t1 : GT} {g : GE} {tg' tg1' : TG} (hgb : TGb X.K vs tg' gg) (hgb1 : TGb X.K vs1 tg1' gg1) (hv : ∀ i ∈ vs1, i ∈ vs) {σ : L2.St} {H : Hp} {Q : VK} (w : tE X.K T (lc2F gi vs gg t gi1 vs1 gg1 t1 g) σ H Q) :
    tLc2 (tI X.K T gi) tg' (tT X.K T t) (tI X.K T gi1) tg1' (tT X.K T t1) (tE X.K T g) vs vs1 σ H Q := by
  obtain ⟨S, lo, st, at', x, lo', e, q⟩ := w
  obtain ⟨p, e1, e2⟩ := Option.bind_eq_some_iff.mp e
  obtain ⟨xs, l1⟩ := p
  split at e2
  · rename_i hno
    obtain ⟨r, e3, e4⟩ := Option.bind_eq_some_iff.mp e2
    obtain ⟨out, l9⟩ := r
    cases e4
    refine ⟨S, lo, st, at', xs, l1, e1, fun J S1 H1 st1 x1 wk D hD => ?_⟩
    obtain ⟨stw, ow⟩ := st1.wipe vs
    have nD := st1.not_new hD
    have nDw : ¬ Own (wipe σ vs) (wipeL l1 vs) D := fun z => nD.1 (ow D z)
    have a1 := at'.ext x1
    refine ⟨fun i m H' => m = xs.length - i ∧ i ≤ xs.length ∧ ∃ S' lo2 acc, Blk X.K T (Own (wipe σ vs) (wipeL l1 vs)) S1 H1 D S' H' (wipe σ vs) lo2 acc ∧ lc2Go vs gg t gi1 vs1 gg1 t1 g (xs.drop i) lo2 acc = some (out, l9), ⟨xs.length, by simp, Nat.zero_le _, S1, wipeL l1 vs, [], ⟨stw.lay hD, Ext.lay hD, ⟨[], upd_same, .nil⟩, nD.2, nDw⟩, e3⟩, ?_⟩
    rintro i m H' ⟨rfl, hi', S', lo2, acc, B, eg⟩
    rcases wk i S' H' B.ext.sub B.st.sub B.st.noT hi' with ⟨ei, stop⟩ | ⟨x, hx, go, yl⟩
    · refine .inl ⟨stop, ?_⟩
      rw [ei, List.drop_length] at eg
      cases eg
      obtain ⟨S'', s10, r10, x10⟩ := B.done st1 hD hno
      exact q _ _ _ s10 r10 (x1.trans x10)
    · have hlt : i < xs.length := (List.getElem?_eq_some_iff.mp hx).1
      have ed : xs.drop i = x :: xs.drop (i + 1) := by
        rw [List.drop_eq_getElem_cons hlt]
        rw [List.getElem?_eq_getElem hlt] at hx
        cases hx
        rfl
      rw [ed] at eg
      obtain ⟨l, e5, e6⟩ := Option.bind_eq_some_iff.mp eg
      obtain ⟨r1, e7, e8⟩ := Option.bind_eq_some_iff.mp e6
      refine .inr ⟨go, fun H3 => ∃ S3 lo3 acc3, Blk X.K T (Own (wipe σ vs) (wipeL l1 vs)) S1 H1 D S3 H3 (wipe σ vs) lo3 acc3 ∧ lc2Go vs gg t gi1 vs1 gg1 t1 g (xs.drop (i + 1)) lo3 acc3 = some (out, l9), fun H3 ⟨S3, lo3, acc3, a, b⟩ => ⟨xs.length - (i + 1), by omega, rfl, hlt, S3, lo3, acc3, a, b⟩, fun v H3 y => ?_⟩
      obtain ⟨S3, gr, rv⟩ := yl v H3 y
      have B3 := B.next (B.st.gro gr) gr.ext
      refine hgb v x (wipe σ vs) H3 _ S3 lo2 l B3.st rv e5 fun σ4 st4 o4 p4' => ?_
      have p4 : wipe σ4 vs = wipe σ vs := p4'.trans (wipe_idem σ vs)
      refine ⟨p4, ?_⟩
      have B4 := B3.next st4 ((Ext.refl _ _ _).shrink o4)
      have back : ∀ {S6 H6 : Hp} {σ6 : L2.St} {l6 : Lo} {acc6 : List PyData}, wipe σ6 vs = wipe σ vs → Blk X.K T (Own (wipe σ vs) (wipeL l1 vs)) S1 H1 D S6 H6 σ6 l6 acc6 → Blk X.K T (Own (wipe σ vs) (wipeL l1 vs)) S1 H1 D S6 H6 (wipe σ vs) (wipeL l6 vs) acc6 := fun {S6 H6 σ6 l6 acc6} p6 b => by
        obtain ⟨z1, z2⟩ := b.st.wipe vs
        rw [p6] at z1 z2
        exact ⟨z1, b.ext.shrink z2, b.at_, b.noS, fun o => b.noO (z2 D o)⟩
      refine ⟨S3, l, st4, a1.ext B4.ext, r1.1, r1.2, e7, fun S5 H5 st5 x5 => ?_⟩
      have B5 := B4.next st5 x5
      refine ite2 (fun c => ?_) (fun c => ?_)
      · rw [if_pos c] at e8
        obtain ⟨r2, e9, e10⟩ := Option.bind_eq_some_iff.mp e8
        obtain ⟨r3, e11, e12⟩ := Option.bind_eq_some_iff.mp e10
        refine ⟨S5, r1.2, st5, a1.ext B5.ext, r2.1, r2.2, e9, fun J1 S6 H6 st6 x6 wk1 => ?_⟩
        have B6 := B5.next st6 x6
        obtain ⟨z1, z2⟩ := st6.wipe vs1
        have B6w : Blk X.K T (Own (wipe σ vs) (wipeL l1 vs)) S1 H1 D S6 H6 (wipe σ4 vs1) (wipeL r2.2 vs1) acc := ⟨z1, B6.ext.shrink z2, B6.at_, B6.noS, fun o => B6.noO (z2 D o)⟩
        refine lc_loop (σ := σ4) (l9 := r3.2) (out := r3.1) hgb1 wk1 a1 (fz_none hD) nDw B6w e11 fun S7 H7 B7 s7 => ?_
        refine ⟨S7, _, _, back ?_ B7, e12⟩
        -- the inner names are among the outer ones
        have : ∀ j, (wipe (wipe σ4 vs1) vs)[j]? = (wipe σ vs)[j]? := fun j => by
          by_cases hj : j ∈ vs
          · rw [wipe_in hj, wipe_in hj, wipe_length, ← wipe_length σ4 vs, p4, wipe_length]
          · rw [wipe_out hj, wipe_out (fun z => hj (hv j z)), wipe_out hj, ← wipe_out (σ := σ4) hj, p4, wipe_out hj]
        exact List.ext_getElem? this
      · rw [if_neg c] at e8
        exact ⟨S5, _, _, back p4 B5, e8⟩
  · cases e2
end
end Ev

namespace Ev
open PySem PySem.Spec PyProof.Rows L2 Tb
variable {K : PySem.W.Frag}
/-! ### defs of data -/
abbrev ExtN (S H S' H' : Hp) : Prop := Ext (fun _ => False) S H S' H' (fun _ => False)
/-- called with data it returns data, and changes nothing -/
def spD (K : PySem.W.Frag) (T : List Addr) (f : List PyData → Option PyData) : Sp := fun vs H Q _ => ∃ S xs, Sub S H ∧ NoT S ∧ RqL K S vs xs ∧ AllT T H ∧ ∃ r, f xs = some r ∧ ∀ v S' H', Sub S' H' → NoT S' → Rq K S' v r → ExtN S H S' H' → Q v H'
/-- its first argument is a list that it may change -/
def spB (K : PySem.W.Frag) (T : List Addr) (f : List PyData → List PyData → Option (PyData × List PyData)) : Sp := fun vs H Q _ => ∃ S p us ws ys xs, vs = .ref p :: ws ∧ Sub S H ∧ NoT S ∧ S p = none ∧ H p = some (.lst us) ∧ RqL K S us ys ∧ RqL K S ws xs ∧ AllT T H ∧
  ∃ r zs, f ys xs = some (r, zs) ∧ ∀ v S' H', Sub S' H' → NoT S' → S' p = none → (∃ us', H' p = some (.lst us') ∧ RqL K S' us' zs) → Rq K S' v r → Ext (· = p) S H S' H' (· = p) → Q v H'
def lo0 (xs : List PyData) (n : Nat) : Lo := xs.map (fun x => some (L.dat x)) ++ List.replicate n none
def runD (n N : Nat) (g : GS) (xs : List PyData) : Option PyData := if xs.length = n then (g (lo0 xs (N - n))).bind fun p => match p.1 with
  | .nx => some .none
  | .rt x => some x
  | _ => none else none
def runB (n N : Nat) (g : GS) (ys xs : List PyData) : Option (PyData × List PyData) := if xs.length + 1 = n then (g (some (.lst ys) :: lo0 xs (N - n))).bind fun (p : Out × Lo) => match (p.2[0]? : Option (Option L)) with
  | some (some (.lst zs)) => match p.1 with
    | .nx => some (.none, zs)
    | .rt x => some (x, zs)
    | _ => none
  | _ => none else none
theorem stt0 {S H : Hp} {vs : List V} {xs : List PyData} (s : Sub S H) (n : NoT S) (r : RqL K S vs xs) (m : Nat) : Stt K S H (vs.map some ++ List.replicate m none) (lo0 xs m) ∧ ∀ a, ¬ Own (vs.map some ++ List.replicate m none) (lo0 xs m) a := by
  have at_ : ∀ (i : Nat) (l : L), (lo0 xs m)[i]? = some (some l) → ∃ x, xs[i]? = some x ∧ l = .dat x := fun i l e => by
    unfold lo0 at e
    by_cases hi : i < xs.length
    · rw [List.getElem?_append_left (by rw [List.length_map]; exact hi), List.getElem?_map, List.getElem?_eq_getElem hi] at e
      cases e
      exact ⟨_, List.getElem?_eq_getElem hi, rfl⟩
    · rw [List.getElem?_append_right (by rw [List.length_map]; omega), List.getElem?_replicate] at e
      split at e <;> cases e
  have no : ∀ i a, ¬ OwnAt (vs.map some ++ List.replicate m none) (lo0 xs m) i a := fun i a ⟨_, ys, e⟩ => by
    obtain ⟨_, _, z⟩ := at_ i _ e
    cases z
  refine ⟨⟨s, n, by unfold lo0; simp [r.length], fun i l e => ?_, fun i a h => (no i a h).elim, fun i j a h => (no i a h).elim⟩, fun a ⟨i, h⟩ => no i a h⟩
  obtain ⟨x, hx, rfl⟩ := at_ i l e
  obtain ⟨v, hv, rv⟩ := r.get' hx
  refine ⟨v, ?_, rv⟩
  have hi : i < vs.length := (List.getElem?_eq_some_iff.mp hv).1
  rw [List.getElem?_append_left (by rw [List.length_map]; exact hi), List.getElem?_map, hv]
  rfl
/-- a def whose code object is told -/
structure FunC (K : PySem.W.Frag) (x qual : Str) (st : Stmt) (f : Addr) (fd : FuncData) (c : Addr) : Prop where
  ex : ∃ (oc : Value) (od : Option Addr) (kV doc pm : Value) (an : Option Addr) (ct : Value) (osl : Array (Option Value)),
    fd = PySem.W.fnOf x qual (defArgs st) (defBody st) (defScope st) .none kV doc pm an (.ref c) ct ∧ K.lookup f = some ⟨oc, od, .func fd, osl⟩ ∧ PySem.W.codeIn K (.ref c) qual = true
  kp : PySem.W.keepIn K (.ref f) = true
theorem FunC.fn {x qual : Str} {st : Stmt} {f c : Addr} {fd : FuncData} (F : FunC K x qual st f fd c) : Fun K x qual st f fd := by
  obtain ⟨oc, od, kV, doc, pm, an, ct, osl, h1, lk, hcd⟩ := F.ex
  exact ⟨⟨oc, od, kV, doc, pm, an, .ref c, ct, osl, h1, lk, hcd⟩, F.kp⟩
def gscpC (N : List Str) (sc scope : Scope) (x : Str) (ix : Nat) : Bool :=
  decide (scope.kind = .function) && !scope.isCoroutine && decide (scope.names.lookup (".0" : Str) = some NameKind.local) && decide (scope.names.lookup x = some .local) && decide (N[ix]? = some x) && !(N.contains (".0" : Str)) && decide N.Nodup &&
    scope.names.all fun p => !decide (p.2 = .cell) && (!decide (p.2 = .local) || p.1 == (".0" : Str) || p.1 == x) && (!decide (p.2 = .free) || decide (sc.names.lookup p.1 = some .cell) || decide (sc.names.lookup p.1 = some .free))
theorem gscp_by {N : List Str} {sc scope : Scope} {x : Str} {ix : Nat} (h : gscpC N sc scope x ix = true) : Gx.GScp N sc scope x ix := by
  unfold gscpC at h
  simp only [Bool.and_eq_true, decide_eq_true_eq, Bool.not_eq_true', List.all_eq_true, Bool.or_eq_true, beq_iff_eq, decide_eq_false_iff_not] at h
  obtain ⟨⟨⟨⟨⟨⟨⟨h1, h2⟩, h3⟩, h4⟩, h5⟩, h6⟩, h7⟩, h8⟩ := h
  refine ⟨h1, h2, fun y hy => (h8 y hy).1.1, h3, fun y hy => ?_, h4, fun y hy e => ?_, h7, h5, fun hm => ?_⟩
  · rcases (h8 _ (PySem.mem_of_lookup hy)).1.2 with (z | z) | z
    · exact absurd rfl z
    · exact .inl z
    · exact .inr z
  · rcases (h8 y hy).2 with (z | z) | z
    · exact absurd e z
    · exact .inl z
    · exact .inr z
  · rw [List.contains_iff_mem.mpr hm] at h6
    cases h6
section
variable {P : Program} {w : World} {mg : Str → Option Value} {base : Heap} {N ps : List Str} {qual x : Str} {st : Stmt} {f c : Addr} {fd : FuncData} {k : Nat} {T : List Addr} {g : GS}
theorem FunC.okG {sp : Sp} (F : FunC K x qual st f fd c) (S : FnScope N ps (defScope st)) (len : ∀ vs H Q E, sp vs H Q E → vs.length = ps.length)
    (hb : ∀ (A : Around) (outer : List Env) (s : Shared) (H : Hp) (vs : List V) (Q : VK), Room k (A.deeper (envOfC qual (defScope st) s.heap.objs.size f (.ref c))) → A.guards = some [] → sp vs H Q E0 →
      ∃ t, PSs (cxOf CX0 P w K mg base N qual (defScope st) f (.ref c) A outer s H E0).nox (defBody st) t ∧ t { nx := fun _ H' => Q .non H', rt := Q } (start N vs) H) : FnG P w K mg base (k + 1) f fd ps sp := by
  obtain ⟨oc, od, kV, doc, pm, an, ct, osl, rfl, lk, hcd⟩ := F.ex
  refine ⟨len, fun A outer s H args us vs Q hr hgd e0 hbn r hsp => ?_⟩
  have hl := len _ _ _ _ hsp
  have inS : K.In s.heap := e0.mod.kin.keeps fun b o e => (e0.bs b o e).1
  have noL : s.heap.NoLimit := e0.mod.nolimit.keeps fun b o e => (e0.bs b o e).1
  have kinds : ∀ y ∈ ps.zip us, (defScope st).names.lookup y.1 = some .local ∨ ((defScope st).names.lookup y.1 = some .cell ∧ ((cellsFrom (s.heap.objs.size + 1) (defScope st).names []).lookup y.1).isSome = true) := by
    rintro ⟨n, v⟩ hy
    rcases S.par n (List.of_mem_zip hy).1 with q | q
    · exact .inl q
    · exact .inr ⟨q, PySem.W.cellsFrom_some _ _ _ (.inl q)⟩
  refine codeAny_call_function hr.depth (inS _ _ lk) rfl S.co S.gen rfl (PySem.W.codeRec_of inS hcd) (hbn _ _ _ _ ?_)
  refine wpAny_newFunctionEnv_cells S.kind kinds fun env he s1 xc => ?_
  subst he
  refine ⟨noL.keeps xc.toInCall.keep, codeAny_func ?_⟩
  obtain ⟨t, ht, hq⟩ := hb A outer s H vs Q (hr.deeper _) hgd hsp
  have J : Inv (cxOf CX0 P w K mg base N qual (defScope st) f (.ref c) A outer s H E0) [] (start N vs) H s1 := inv_start S hr.hd e0 hl r xc
  refine wpAny_mono (ht.nox.run [] s1 (start N vs) H _ J hq) (fun fl s' hs => ?_) fun e s' hs => hs
  cases fl with
  | ret u =>
    obtain ⟨v, σ', H', I', rv, q⟩ := hs
    exact ⟨v, H', I'.os, I'.bare, I'.base, I'.hok, rv, q⟩
  | next =>
    obtain ⟨σ', H', I', q⟩ := hs
    exact ⟨V.non, H', I'.os, I'.bare, I'.base, I'.hok, rfl, q⟩
  | brk => obtain ⟨_, _, _, q⟩ := hs; exact q.elim
  | cont => obtain ⟨_, _, _, q⟩ := hs; exact q.elim
theorem spD_len {n N : Nat} {g : GS} {vs : List V} {H : Hp} {Q : VK} {E : XK} (h : spD K T (runD n N g) vs H Q E) : vs.length = n := by
  obtain ⟨S, xs, _, _, r, _, y, e, _⟩ := h
  unfold runD at e
  split at e
  · rename_i z
    rw [r.length]; exact z
  · cases e
theorem spB_len {n N : Nat} {g : GS} {vs : List V} {H : Hp} {Q : VK} {E : XK} (h : spB K T (runB n N g) vs H Q E) : vs.length = n := by
  obtain ⟨S, p, us, ws, ys, xs, rfl, _, _, _, _, _, r, _, y, zs, e, _⟩ := h
  unfold runB at e
  split at e
  · rename_i z
    rw [List.length_cons, r.length]; exact z
  · cases e
theorem readD {vs : List V} {H : Hp} {Q : VK} {E : XK} (h : spD K T (runD ps.length N.length g) vs H Q E) : tS K T false g { nx := fun _ H' => Q .non H', rt := Q } (start N vs) H := by
  have hl := spD_len h
  obtain ⟨S, xs, s, n, r, a, y, e, q⟩ := h
  unfold runD at e
  split at e
  · obtain ⟨p, e1, e2⟩ := Option.bind_eq_some_iff.mp e
    obtain ⟨s0, no⟩ := stt0 s n r (N.length - vs.length)
    refine ⟨S, _, s0, a, p.1, p.2, by rw [hl]; exact e1, fun σ' S' H' st' x' _ => ?_⟩
    have x2 : ExtN S H S' H' := ⟨fun b o _ => x'.keep b o (no b), x'.tab, x'.sub, fun b hb => (x'.domS b hb).imp id (Or.imp (no b) id), fun b hb => hb.elim⟩
    obtain ⟨o, l⟩ := p
    cases o with
    | nx =>
      cases e2
      exact q .non S' H' st'.sub st'.noT .non x2
    | rt z =>
      cases e2
      exact fun v rv => q v S' H' st'.sub st'.noT rv x2
    | bk => cases e2
    | ct => cases e2
  · cases e
theorem readB {vs : List V} {H : Hp} {Q : VK} {E : XK} (h : spB K T (runB ps.length N.length g) vs H Q E) : tS K T true g { nx := fun _ H' => Q .non H', rt := Q } (start N vs) H := by
  have hl := spB_len h
  obtain ⟨S, a, us, ws, ys, xs, rfl, s, n, sa, hH, ru, r, at', y, zs, e, q⟩ := h
  unfold runB at e
  split at e
  · obtain ⟨p, e1, e2⟩ := Option.bind_eq_some_iff.mp e
    have hl' : ws.length + 1 = ps.length := by simpa using hl
    obtain ⟨s0, no⟩ := stt0 s n r (N.length - (ws.length + 1))
    have es : start N (V.ref a :: ws) = some (.ref a) :: (ws.map some ++ List.replicate (N.length - (ws.length + 1)) none) := rfl
    have own0 : ∀ i b, OwnAt (some (.ref a) :: (ws.map some ++ List.replicate (N.length - (ws.length + 1)) none)) (some (.lst ys) :: lo0 xs (N.length - (ws.length + 1))) i b → i = 0 ∧ b = a := fun i b ⟨h1, zs, h2⟩ => by
      cases i with
      | zero =>
        cases h1
        exact ⟨rfl, rfl⟩
      | succ j => exact (no b ⟨j, by simpa using h1, zs, by simpa using h2⟩).elim
    have st : Stt K S H (some (.ref a) :: (ws.map some ++ List.replicate (N.length - (ws.length + 1)) none)) (some (.lst ys) :: lo0 xs (N.length - (ws.length + 1))) := by
      refine ⟨s, n, by simpa using s0.len, fun i l h => ?_, fun i b h => by rw [(own0 i b h).2]; exact sa, fun i j b h1 h2 => (own0 i b h1).1.trans (own0 j b h2).1.symm⟩
      cases i with
      | zero =>
        cases h
        exact ⟨.ref a, rfl, a, us, rfl, hH, ru⟩
      | succ j =>
        obtain ⟨v, ev, rr⟩ := s0.loc j l (by simpa using h)
        exact ⟨v, by simpa using ev, rr⟩
    have ow : ∀ b, Own (some (.ref a) :: (ws.map some ++ List.replicate (N.length - (ws.length + 1)) none)) (some (.lst ys) :: lo0 xs (N.length - (ws.length + 1))) b ↔ b = a := fun b => ⟨fun ⟨i, h⟩ => (own0 i b h).2, fun h => ⟨0, by rw [h]; rfl, ys, rfl⟩⟩
    rw [es]
    refine ⟨S, _, st, at', p.1, p.2, by rw [hl']; exact e1, fun σ' S' H' st' x' pin => ?_⟩
    obtain ⟨o, l⟩ := p
    have σ0 : σ'[0]? = some (some (.ref a)) := pin rfl
    split at e2
    · rename_i zs' hz
      have oa : OwnAt σ' l 0 a := ⟨σ0, zs', hz⟩
      obtain ⟨v, ev, b, us', rfl, hb, rb⟩ := st'.loc 0 _ hz
      rw [σ0] at ev
      cases ev
      have x2 : Ext (· = a) S H S' H' (· = a) := ⟨fun b o nb => x'.keep b o fun z => nb ((ow b).mp z), x'.tab, x'.sub, fun b hb => (x'.domS b hb).imp id (Or.imp (ow b).mp id), fun b hb => .inl hb⟩
      cases o with
      | nx =>
        cases e2
        exact q .non S' H' st'.sub st'.noT (st'.own 0 a oa) ⟨us', hb, rb⟩ .non x2
      | rt z =>
        cases e2
        exact fun v rv => q v S' H' st'.sub st'.noT (st'.own 0 a oa) ⟨us', hb, rb⟩ rv x2
      | bk => cases e2
      | ct => cases e2
    · cases e2
  · cases e
abbrev cxC (P : Program) (w : World) (K : PySem.W.Frag) (mg : Str → Option Value) (base : Heap) (N : List Str) (qual : Str) (st : Stmt) (f : Addr) (cd : Value) (A : Around) (outer : List Env) (s : Shared) (H : Hp) : Cx := (cxOf CX0 P w K mg base N qual (defScope st) f cd A outer s H E0).nox
theorem fnD (F : Fun K x qual st f fd) (S : FnScope N ps (defScope st)) (hb : ∀ (cdv : Value) (A : Around) (outer : List Env) (s : Shared) (H : Hp), Room k (cxC P w K mg base N qual st f cdv A outer s H).A → A.guards = some [] → PSs (cxC P w K mg base N qual st f cdv A outer s H) (defBody st) (tS K T false g)) :
    FnG P w K mg base (k + 1) f fd ps (spD K T (runD ps.length N.length g)) :=
  Tb.okG F S (fun vs H Q E h => spD_len h) fun cdv A outer s H vs Q hr hgd h => ⟨_, hb cdv A outer s H hr hgd, readD h⟩
theorem fnDC (F : FunC K x qual st f fd c) (S : FnScope N ps (defScope st)) (hb : ∀ (A : Around) (outer : List Env) (s : Shared) (H : Hp), Room k (cxC P w K mg base N qual st f (.ref c) A outer s H).A → A.guards = some [] → PSs (cxC P w K mg base N qual st f (.ref c) A outer s H) (defBody st) (tS K T false g)) :
    FnG P w K mg base (k + 1) f fd ps (spD K T (runD ps.length N.length g)) :=
  FunC.okG F S (fun vs H Q E h => spD_len h) fun A outer s H vs Q hr hgd h => ⟨_, hb A outer s H hr hgd, readD h⟩
theorem fnB (F : Fun K x qual st f fd) (S : FnScope N ps (defScope st)) (hb : ∀ (cdv : Value) (A : Around) (outer : List Env) (s : Shared) (H : Hp), Room k (cxC P w K mg base N qual st f cdv A outer s H).A → A.guards = some [] → PSs (cxC P w K mg base N qual st f cdv A outer s H) (defBody st) (tS K T true g)) :
    FnG P w K mg base (k + 1) f fd ps (spB K T (runB ps.length N.length g)) :=
  Tb.okG F S (fun vs H Q E h => spB_len h) fun cdv A outer s H vs Q hr hgd h => ⟨_, hb cdv A outer s H hr hgd, readB h⟩
theorem fnBC (F : FunC K x qual st f fd c) (S : FnScope N ps (defScope st)) (hb : ∀ (A : Around) (outer : List Env) (s : Shared) (H : Hp), Room k (cxC P w K mg base N qual st f (.ref c) A outer s H).A → A.guards = some [] → PSs (cxC P w K mg base N qual st f (.ref c) A outer s H) (defBody st) (tS K T true g)) :
    FnG P w K mg base (k + 1) f fd ps (spB K T (runB ps.length N.length g)) :=
  FunC.okG F S (fun vs H Q E h => spB_len h) fun A outer s H vs Q hr hgd h => ⟨_, hb A outer s H hr hgd, readB h⟩
end
/-! ### calls -/
theorem FnG.mono {P : Program} {w : World} {K : PySem.W.Frag} {mg : Str → Option Value} {base : Heap} {j k : Nat} {f : Addr} {fd : FuncData} {ps : List Str} {sp : Sp} (F : FnG P w K mg base j f fd ps sp) (h : j ≤ k) : FnG P w K mg base k f fd ps sp :=
  ⟨F.len, fun A outer s H args us vs Q hr => F.run A outer s H args us vs Q (hr.mono h)⟩
section
variable {X : Cx} {T : List Addr} {pos p : Pos} {k : Nat} {f : Addr} {fd : FuncData} {ps : List Str} {x : Str} {e : Expr} {es : List Expr}
theorem Stt.called {S H S' H' : Hp} {σ : L2.St} {lo : Lo} (s : Stt K S H σ lo) (x : ExtN S H S' H') (sub : Sub S' H') (noT : NoT S') : Stt K S' H' σ lo ∧ Ext (Own σ lo) S H S' H' (Own σ lo) := by
  have x2 : Ext (Own σ lo) S H S' H' (Own σ lo) := ⟨fun b o _ => x.keep b o id, x.tab, x.sub, fun b hb => (x.domS b hb).imp id (Or.imp False.elim id), fun b hb => .inl hb⟩
  refine ⟨s.grow x2 sub noT fun a o => ?_, x2⟩
  obtain ⟨vs, e⟩ := s.ownH o
  obtain ⟨i, w⟩ := o
  refine ⟨(x.keep a _ id e fun ps z => by cases z).trans e.symm, ?_⟩
  cases q : S' a with
  | none => rfl
  | some u =>
    rcases x.domS a (by rw [q]; simp) with z | z | z
    · exact absurd (s.own i a w) z
    · exact z.elim
    · exact (z.no e fun ps z => by cases z).elim
theorem tCall_of {fn : List PyData → Option PyData} {g : GA} {σ : L2.St} {H : Hp} {Q : VK} (w : tE X.K T (callF fn g) σ H Q) : tAr X.K T g σ H fun vs H1 => spD X.K T fn vs H1 Q E0 := by
  obtain ⟨S, lo, st, at', z, lo', e, q⟩ := w
  obtain ⟨p, e1, e2⟩ := Option.bind_eq_some_iff.mp e
  obtain ⟨z', e3, e4⟩ := Option.bind_eq_some_iff.mp e2
  cases e4
  refine ⟨S, lo, st, at', p.1, p.2, e1, fun vs S1 H1 st1 r1 x1 => ?_⟩
  refine ⟨S1, p.1, st1.sub, st1.noT, r1, at'.ext x1, z, e3, fun v S2 H2 sb nt rv x2 => ?_⟩
  obtain ⟨st2, x2'⟩ := st1.called x2 sb nt
  exact q v S2 H2 st2 rv (x1.trans x2')
theorem ev_call {fn : List PyData → Option PyData} {g : GA} (F : FnG X.prog X.w X.K X.mg X.base k f fd ps (spD X.K T fn)) (hr : Room k X.A) (hgd : X.A.guards = some []) (hg : Gl X x) (hm : X.mg x = some (.ref f)) (hk : PySem.W.keepIn X.K (.ref f) = true) (hb : Binds X.K fd ps [])
    (ha : PA X (e :: es) (tAr X.K T g)) (hdb : (x == ("__debug__" : Str)) = false := by decide) (he : starEach (e :: es) X.env = (false, eval e X.env) :: starEach es X.env := by rfl) (hpl : (backTo pos (starEach es X.env)).any (·.1) = false := by rfl) :
    PE X (.Call (.Name x p) (e :: es) [] pos) (tE X.K T (callF fn g)) := by
  refine pe_imp (pe_callG F hr hgd hg hm hk hb ha hdb he hpl) fun σ H Q w => ?_
  obtain ⟨S, lo, st, at', xs, lo', e1, q⟩ := tCall_of (X := X) w
  exact ⟨S, lo, st, at', xs, lo', e1, fun vs S1 H1 st1 r1 x1 => by
    show spD X.K T fn (vs ++ []) H1 Q E0
    rw [List.append_nil]; exact q vs S1 H1 st1 r1 x1⟩
/-- the first argument is a list of one's own, by its name -/
def callBF (fn : List PyData → List PyData → Option (PyData × List PyData)) (i : Nat) (g : GA) : GE := fun lo => match lo[i]? with
  | some (some (.lst _)) => (g lo).bind fun p => match p.2[i]? with
    | some (some (.lst ys)) => (fn ys p.1).bind fun r => some (r.1, p.2.set i (some (.lst r.2)))
    | _ => none
  | _ => none
theorem Stt.calledB {S H S' H' : Hp} {σ : L2.St} {lo : Lo} {i : Nat} {a : Addr} {ys zs : List PyData} (s : Stt K S H σ lo) (e : lo[i]? = some (some (.lst ys))) (eσ : σ[i]? = some (some (.ref a))) (x : Ext (· = a) S H S' H' (· = a)) (sub : Sub S' H') (noT : NoT S') (sa : S' a = none) (hz : ∃ us, H' a = some (.lst us) ∧ RqL K S' us zs) :
    Stt K S' H' σ (lo.set i (some (.lst zs))) ∧ Ext (Own σ lo) S H S' H' (Own σ (lo.set i (some (.lst zs)))) := by
  have oa : OwnAt σ lo i a := ⟨eσ, ys, e⟩
  have hi : i < lo.length := (List.getElem?_eq_some_iff.mp e).1
  have oth : ∀ j b, OwnAt σ (lo.set i (some (.lst zs))) j b → OwnAt σ lo j b := fun j b ⟨h1, ws, h2⟩ => by
    by_cases q : j = i
    · subst q; exact ⟨h1, ys, e⟩
    · rw [List.getElem?_set_ne (Ne.symm q)] at h2
      exact ⟨h1, ws, h2⟩
  have keepO : ∀ j b, OwnAt σ lo j b → j ≠ i → H' b = H b ∧ S' b = none ∧ b ≠ a := fun j b o nj => by
    have ne : b ≠ a := fun z => nj (s.inj j i a (z ▸ o) oa)
    obtain ⟨vs, hb⟩ := s.ownH ⟨j, o⟩
    refine ⟨(x.keep b _ ne hb fun ps z => by cases z).trans hb.symm, ?_, ne⟩
    cases q : S' b with
    | none => rfl
    | some u =>
      rcases x.domS b (by rw [q]; simp) with z | z | z
      · exact absurd (s.own j b o) z
      · exact absurd z ne
      · exact (z.no hb fun ps z => by cases z).elim
  refine ⟨⟨sub, noT, by rw [List.length_set]; exact s.len, fun j l h => ?_, fun j b h => ?_, fun j k b h1 h2 => s.inj j k b (oth j b h1) (oth k b h2)⟩, ?_⟩
  · by_cases q : j = i
    · subst q
      rw [List.getElem?_set_self hi] at h
      cases h
      obtain ⟨us, h1, h2⟩ := hz
      exact ⟨.ref a, eσ, a, us, rfl, h1, h2⟩
    · rw [List.getElem?_set_ne (Ne.symm q)] at h
      obtain ⟨v, ev, rr⟩ := s.loc j l h
      refine ⟨v, ev, ?_⟩
      cases l with
      | dat y => exact Rq.sub x.sub rr
      | lst ws =>
        obtain ⟨b, vs, rfl, hb, rb⟩ := rr
        exact ⟨b, vs, rfl, by rw [(keepO j b ⟨ev, ws, h⟩ q).1]; exact hb, RqL.sub x.sub rb⟩
  · by_cases q : j = i
    · subst q
      have : b = a := by
        have := h.1
        rw [eσ] at this
        cases this
        rfl
      rw [this]; exact sa
    · exact (keepO j b (oth j b h) q).2.1
  · exact ⟨fun b o n => x.keep b o fun z => n (by rw [z]; exact ⟨i, oa⟩), x.tab, x.sub, fun b hb => (x.domS b hb).imp id (Or.imp (fun z => by rw [z]; exact ⟨i, oa⟩) id), fun b ⟨j, h⟩ => .inl ⟨j, oth j b h⟩⟩
theorem ev_callB {fn : List PyData → List PyData → Option (PyData × List PyData)} {g : GA} {i : Nat} (F : FnG X.prog X.w X.K X.mg X.base k f fd ps (spB X.K T fn)) (hr : Room k X.A) (hgd : X.A.guards = some []) (hg : Gl X x) (hm : X.mg x = some (.ref f)) (hk : PySem.W.keepIn X.K (.ref f) = true) (hb : Binds X.K fd ps [])
    (hv : PE X e (tVar i)) (ha : PA X es (tAr X.K T g)) (hdb : (x == ("__debug__" : Str)) = false := by decide) (he : starEach (e :: es) X.env = (false, eval e X.env) :: starEach es X.env := by rfl) (hpl : (backTo pos (starEach es X.env)).any (·.1) = false := by rfl) :
    PE X (.Call (.Name x p) (e :: es) [] pos) (tE X.K T (callBF fn i g)) := by
  refine pe_imp (pe_callG F hr hgd hg hm hk hb (pa_cons hv ha he) hdb he hpl) fun σ H Q w => ?_
  obtain ⟨S, lo, st, at', z, lo', e, q⟩ := w
  unfold callBF at e
  split at e
  · rename_i y0 hy0
    obtain ⟨p, e1, e2⟩ := Option.bind_eq_some_iff.mp e
    obtain ⟨v, ev, a, vs0, rfl, _, _⟩ := st.loc i _ hy0
    refine ⟨.ref a, ev, S, lo, st, at', p.1, p.2, e1, fun vs S1 H1 st1 r1 x1 => ?_⟩
    split at e2
    · rename_i ys hys
      obtain ⟨r, e3, e4⟩ := Option.bind_eq_some_iff.mp e2
      cases e4
      obtain ⟨v, ev', b, us, rfl, hb', rb⟩ := st1.loc i _ hys
      rw [ev] at ev'
      cases ev'
      rw [List.append_nil]
      refine ⟨S1, a, us, vs, ys, p.1, rfl, st1.sub, st1.noT, st1.own i a ⟨ev, ys, hys⟩, hb', rb, r1, at'.ext x1, r.1, r.2, e3, fun v S2 H2 sb nt sa hz rv x2 => ?_⟩
      obtain ⟨st2, x2'⟩ := st1.calledB hys ev x2 sb nt sa hz
      exact q v S2 H2 st2 rv (x1.trans x2')
    · cases e2
  · cases e
end
end Ev

namespace Ev
open PySem PySem.Spec PyProof.Rows L2 Tb
variable {K : PySem.W.Frag}
/-! ### operators of data -/
theorem Val2.or {f : PyData → PyData → Option PyData} {f1 f2 : PyData → PyData → Option PyData} {r1 r2 : R2} (h1 : Val2 K f1 r1) (h2 : Val2 K f2 r2) (h : ∀ x y z, f x y = some z → f1 x y = some z ∨ f2 x y = some z) : Val2 K f (fun x y H Q => r1 x y H Q ∨ r2 x y H Q) := fun S H v u x y z Q s n rx ry e q => by
  rcases h x y z e with e | e
  · exact .inl (h1 S H v u x y z Q s n rx ry e q)
  · exact .inr (h2 S H v u x y z Q s n rx ry e q)
/-- two whole numbers -/
def intF (C : Int → Int → Bool) (g : Int → Int → PyData) : PyData → PyData → Option PyData
  | .int i, .int j => if C i j = true then some (g i j) else none
  | _, _ => none
theorem val_int {C : Int → Int → Bool} {g : Int → Int → PyData} {CP : Int → Int → Prop} {gv : Int → Int → V} (hC : ∀ i j, C i j = true → CP i j) (hg : ∀ S i j, Rq K S (gv i j) (g i j)) : Val2 K (intF C g) (rI CP gv) := fun S H v u x y z Q s n rx ry e q => by
  unfold intF at e
  split at e
  · rename_i i j
    split at e
    · rename_i c
      cases e
      exact ⟨i, j, rx.int, ry.int, hC i j c, q _ S H (Gro.refl s n) (hg S i j)⟩
    · cases e
  · cases e
theorem val_int0 {g : Int → Int → PyData} {gv : Int → Int → V} (hg : ∀ S i j, Rq K S (gv i j) (g i j)) : Val2 K (intF (fun _ _ => true) g) (rI0 gv) := fun S H v u x y z Q s n rx ry e q => by
  unfold intF at e
  split at e
  · rename_i i j
    cases e
    exact ⟨i, j, rx.int, ry.int, q _ S H (Gro.refl s n) (hg S i j)⟩
  · cases e
def catL : PyData → PyData → Option PyData
  | .list xs, .list ys => if xs.length + ys.length ≤ sizeLine then some (.list (xs ++ ys)) else none
  | _, _ => none
def catT : PyData → PyData → Option PyData
  | .tuple xs, .tuple ys => if xs.length + ys.length ≤ sizeLine ∧ xs.isEmpty = false ∧ ys.isEmpty = false then some (.tuple (xs ++ ys)) else none
  | _, _ => none
def catS : PyData → PyData → Option PyData
  | .str x, .str y => if x.length + y.length ≤ sizeLine then some (.str (x ++ y)) else none
  | _, _ => none
theorem val_catL : Val2 K catL rCat := fun S H v u x y z Q s n rx ry e q => by
  unfold catL at e
  split at e
  · split at e
    · rename_i hz
      cases e
      obtain ⟨a, vs, rfl, h1, r1⟩ := rx.list s
      obtain ⟨b, us, rfl, h2, r2⟩ := ry.list s
      refine ⟨_, _, _, _, rfl, rfl, h1, h2, by rw [r1.length, r2.length]; exact hz, fun p hp => ?_⟩
      have g := Gro.new (u := .lst (vs ++ us)) s n hp (by intro ps z; cases z)
      exact q _ _ _ g (.lst upd_same (RqL.sub g.subS (r1.app r2)))
    · cases e
  · cases e
theorem RqL.nil_iff {S : Hp} {vs : List V} {ds : List PyData} (r : RqL K S vs ds) : vs = [] ↔ ds.isEmpty = true := by
  cases r <;> simp
theorem val_catT : Val2 K catT (rCatT K) := fun S H v u x y z Q s n rx ry e q => by
  unfold catT at e
  split at e
  · split at e
    · rename_i hz
      cases e
      obtain ⟨a, vs, rfl, h1, r1⟩ := rx.tuple
      obtain ⟨b, us, rfl, h2, r2⟩ := ry.tuple
      refine ⟨_, _, _, _, rfl, rfl, s.sqT h1, s.sqT h2, fun z => ?_, by rw [r1.length, r2.length]; exact hz.1, fun z => ?_, fun _ p hp => ?_⟩
      · rw [r1.nil_iff.mp z] at hz; exact absurd hz.2.1 (by simp)
      · rw [r2.nil_iff.mp z] at hz; exact absurd hz.2.2 (by simp)
      · have g := Gro.new (u := .tup (vs ++ us)) s n hp (by intro ps z; cases z)
        exact q _ _ _ g (.tup (.inl (.inl upd_same)) (RqL.sub g.subS (r1.app r2)))
    · cases e
  · cases e
theorem val_catS : Val2 K catS (fun x y H Q => ∃ i j, x = .str i ∧ y = .str j ∧ i.length + j.length ≤ sizeLine ∧ Q (.str (i ++ j)) H) := fun S H v u x y z Q s n rx ry e q => by
  unfold catS at e
  split at e
  · split at e
    · rename_i hz
      cases e
      exact ⟨_, _, rx.str, ry.str, hz, q _ S H (Gro.refl s n) (.str _)⟩
    · cases e
  · cases e
def addI : PyData → PyData → Option PyData := intF (fun _ _ => true) fun i j => .int (i + j)
def addF : PyData → PyData → Option PyData
  | .int i, .int j => some (.int (i + j))
  | .list xs, .list ys => if xs.length + ys.length ≤ sizeLine then some (.list (xs ++ ys)) else none
  | .tuple xs, .tuple ys => if xs.length + ys.length ≤ sizeLine ∧ xs.isEmpty = false ∧ ys.isEmpty = false then some (.tuple (xs ++ ys)) else none
  | .str x, .str y => if x.length + y.length ≤ sizeLine then some (.str (x ++ y)) else none
  | _, _ => none
def rAddQ (K : PySem.W.Frag) : R2 := fun x y H Q => (rI0 (fun i j => .int (i + j)) x y H Q ∨ rCat x y H Q) ∨ (rCatT K x y H Q ∨ ∃ i j, x = .str i ∧ y = .str j ∧ i.length + j.length ≤ sizeLine ∧ Q (.str (i ++ j)) H)
def addIL : PyData → PyData → Option PyData
  | .int i, .int j => some (.int (i + j))
  | .list xs, .list ys => catL (.list xs) (.list ys)
  | _, _ => none
def addTS : PyData → PyData → Option PyData
  | .tuple xs, .tuple ys => catT (.tuple xs) (.tuple ys)
  | .str x, .str y => catS (.str x) (.str y)
  | _, _ => none
theorem val_add : Val2 K addF (rAddQ K) := by
  refine Val2.or (f1 := addIL) (f2 := addTS) (Val2.or (val_int0 fun S i j => .int _) val_catL fun x y z e => ?_) (Val2.or val_catT val_catS fun x y z e => ?_) fun x y z e => ?_
  · cases x <;> cases y <;> first | (cases e; done) | exact .inl e | exact .inr e
  · cases x <;> cases y <;> first | (cases e; done) | exact .inl e | exact .inr e
  · cases x <;> cases y <;> first | (cases e; done) | exact .inl e | exact .inr e
section
variable {X : Cx} {T : List Addr} {pos : Pos} {a b : Expr} {ga gb : GE}
theorem op_addQ : OpR X (binaryOp .Add) (rAddQ X.K) := (op_add.or op_cat).or (op_catT.or op_add_str)
theorem ev_add (ha : PE X a (tE X.K T ga)) (hb : PE X b (tE X.K T gb)) : PE X (.BinOp a .Add b pos) (tE X.K T (op2 addF ga gb)) := ev_op op_addQ val_add ha hb
def subF : PyData → PyData → Option PyData := intF (fun _ _ => true) fun i j => .int (i - j)
theorem ev_sub (ha : PE X a (tE X.K T ga)) (hb : PE X b (tE X.K T gb)) : PE X (.BinOp a .Sub b pos) (tE X.K T (op2 subF ga gb)) := ev_op op_sub (val_int0 fun S i j => .int _) ha hb
def mulF : PyData → PyData → Option PyData := intF (fun i j => (decide (-(2 ^ 64) < i) && decide (i < 2 ^ 64)) || (decide (-(2 ^ 64) < j) && decide (j < 2 ^ 64))) fun i j => .int (i * j)
theorem ev_mul (ha : PE X a (tE X.K T ga)) (hb : PE X b (tE X.K T gb)) : PE X (.BinOp a .Mult b pos) (tE X.K T (op2 mulF ga gb)) := ev_op op_mul (val_int (fun i j h => by
  rw [Bool.or_eq_true, Bool.and_eq_true, Bool.and_eq_true, decide_eq_true_eq, decide_eq_true_eq, decide_eq_true_eq, decide_eq_true_eq] at h
  exact h) fun S i j => .int _) ha hb
def modF : PyData → PyData → Option PyData := intF (fun _ j => decide (0 < j)) fun i j => .int (i % j)
theorem ev_mod (ha : PE X a (tE X.K T ga)) (hb : PE X b (tE X.K T gb)) : PE X (.BinOp a .Mod b pos) (tE X.K T (op2 modF ga gb)) := ev_op op_mod (val_int (fun i j h => of_decide_eq_true h) fun S i j => .int _) ha hb
def fdivF : PyData → PyData → Option PyData := intF (fun _ j => decide (0 < j) && decide (j < 1073741824)) fun i j => .int (i / j)
theorem ev_fdiv (ha : PE X a (tE X.K T ga)) (hb : PE X b (tE X.K T gb)) : PE X (.BinOp a .FloorDiv b pos) (tE X.K T (op2 fdivF ga gb)) := ev_op op_fdiv (val_int (fun i j h => by
  rw [Bool.and_eq_true, decide_eq_true_eq, decide_eq_true_eq] at h
  exact h) fun S i j => .int _) ha hb
def powF : PyData → PyData → Option PyData := intF (fun i j => decide (0 ≤ j) && decide (j ≤ 1000000) && decide (i.natAbs < 2 ^ 64)) fun i j => .int (i ^ j.toNat)
theorem ev_pow (ha : PE X a (tE X.K T ga)) (hb : PE X b (tE X.K T gb)) : PE X (.BinOp a .Pow b pos) (tE X.K T (op2 powF ga gb)) := ev_op op_pow (val_int (fun i j h => by
  rw [Bool.and_eq_true, Bool.and_eq_true, decide_eq_true_eq, decide_eq_true_eq, decide_eq_true_eq] at h
  exact ⟨h.1.1, h.1.2, h.2⟩) fun S i j => .int _) ha hb
def negF : PyData → Option PyData
  | .int i => some (.int (-i))
  | _ => none
def un1 (f : PyData → Option PyData) (g : GE) : GE := fun lo => (g lo).bind fun p => (f p.1).bind fun z => some (z, p.2)
theorem ev_neg (ha : PE X a (tE X.K T ga)) : PE X (.UnaryOp .USub a pos) (tE X.K T (un1 negF ga)) := by
  refine pe_imp (pe_un un_neg ha) fun σ H Q w => ?_
  obtain ⟨S, lo, st, at', z, lo', e, q⟩ := w
  obtain ⟨p, e1, e2⟩ := Option.bind_eq_some_iff.mp e
  obtain ⟨z', e3, e4⟩ := Option.bind_eq_some_iff.mp e2
  cases e4
  refine ⟨S, lo, st, at', p.1, p.2, e1, fun v S1 H1 st1 r1 x1 => ?_⟩
  unfold negF at e3
  split at e3
  · rename_i i hi
    cases e3
    rw [hi] at r1
    cases r1
    exact ⟨i, rfl, q _ S1 H1 st1 (.int _) x1⟩
  · cases e3
/-! ### comparisons -/
def cmpF (g : Int → Int → Bool) : PyData → PyData → Option PyData := intF (fun _ _ => true) fun i j => .bool (g i j)
abbrev ltF := cmpF fun i j => decide (i < j)
abbrev leF := cmpF fun i j => decide (i ≤ j)
abbrev gtF := cmpF fun i j => decide (j < i)
abbrev geF := cmpF fun i j => decide (j ≤ i)
theorem val_lt : Val2 K ltF (rI0 fun i j => .bl (decide (i < j))) := val_int0 fun S i j => .bl _
theorem val_le : Val2 K leF (rI0 fun i j => .bl (decide (i ≤ j))) := val_int0 fun S i j => .bl _
theorem val_gt : Val2 K gtF (rI0 fun i j => .bl (decide (j < i))) := val_int0 fun S i j => .bl _
theorem val_ge : Val2 K geF (rI0 fun i j => .bl (decide (j ≤ i))) := val_int0 fun S i j => .bl _
def eqF : PyData → PyData → Option PyData := fun x y => if SeqAt.shaped x = true ∧ SeqAt.shaped y = true then some (.bool (PyData.eqv x y)) else none
def neF : PyData → PyData → Option PyData := fun x y => if SeqAt.shaped x = true ∧ SeqAt.shaped y = true then some (.bool (!PyData.eqv x y)) else none
theorem val_eq : Val2 K eqF (rEqD K) := fun S H v u x y z Q s n rx ry e q => by
  unfold eqF at e
  split at e
  · rename_i h
    cases e
    exact ⟨x, y, Rq.dp (SeqAt.canLay_of_shaped h.1) (rx.rqH s), Rq.dp (SeqAt.canLay_of_shaped h.2) (ry.rqH s), h.1, h.2, q _ S H (Gro.refl s n) (.bl _)⟩
  · cases e
theorem val_ne : Val2 K neF (rNeD K) := fun S H v u x y z Q s n rx ry e q => by
  unfold neF at e
  split at e
  · rename_i h
    cases e
    exact ⟨x, y, Rq.dp (SeqAt.canLay_of_shaped h.1) (rx.rqH s), Rq.dp (SeqAt.canLay_of_shaped h.2) (ry.rqH s), h.1, h.2, q _ S H (Gro.refl s n) (.bl _)⟩
  · cases e
/-- is None, is not None -/
def isNF : PyData → PyData → Option PyData
  | x, .none => some (.bool (match x with | .none => true | _ => false))
  | _, _ => none
def notNF : PyData → PyData → Option PyData
  | x, .none => some (.bool (match x with | .none => false | _ => true))
  | _, _ => none
theorem val_isN : Val2 K isNF (fun x y H Q => y = .non ∧ Q (.bl (decide (x = .non))) H) := fun S H v u x y z Q s n rx ry e q => by
  unfold isNF at e
  split at e
  · cases e
    refine ⟨ry.none, ?_⟩
    have rx := rx.rqH s
    cases rx <;> exact q _ S H (Gro.refl s n) (.bl _)
  · cases e
theorem val_notN : Val2 K notNF (fun x y H Q => y = .non ∧ Q (.bl (!decide (x = .non))) H) := fun S H v u x y z Q s n rx ry e q => by
  unfold notNF at e
  split at e
  · cases e
    refine ⟨ry.none, ?_⟩
    have rx := rx.rqH s
    cases rx <;> exact q _ S H (Gro.refl s n) (.bl _)
  · cases e
/-- is True, is not True: of truths -/
def isBF : PyData → PyData → Option PyData
  | .bool a, .bool b => some (.bool (a == b))
  | _, _ => none
def notBF : PyData → PyData → Option PyData
  | .bool a, .bool b => some (.bool (!(a == b)))
  | _, _ => none
theorem val_isB : Val2 K isBF (fun x y H Q => ∃ a b, x = .bl a ∧ y = .bl b ∧ Q (.bl (decide (a = b))) H) := fun S H v u x y z Q s n rx ry e q => by
  unfold isBF at e
  split at e
  · cases e
    exact ⟨_, _, rx.bool, ry.bool, q _ S H (Gro.refl s n) (by rw [Bool.beq_eq_decide_eq]; exact .bl _)⟩
  · cases e
theorem val_notB : Val2 K notBF (fun x y H Q => ∃ a b, x = .bl a ∧ y = .bl b ∧ Q (.bl (!decide (a = b))) H) := fun S H v u x y z Q s n rx ry e q => by
  unfold notBF at e
  split at e
  · cases e
    exact ⟨_, _, rx.bool, ry.bool, q _ S H (Gro.refl s n) (by rw [Bool.beq_eq_decide_eq]; exact .bl _)⟩
  · cases e
/-- in a list or a tuple -/
def kidsD : PyData → Option (List PyData)
  | .list xs => some xs
  | .tuple xs => some xs
  | _ => none
def inF : PyData → PyData → Option PyData := fun x y => (kidsD y).bind fun ds => if SeqAt.shaped x = true ∧ SeqAt.shaped y = true then some (.bool (ds.any fun z => PyData.eqv z x)) else none
def rInD (K : PySem.W.Frag) (neg : Bool) : R2 := fun x y H Q => ∃ d dd ds, Dp K H x d ∧ Dp K H y dd ∧ kidsD dd = some ds ∧ SeqAt.shaped d = true ∧ SeqAt.shaped dd = true ∧ Q (.bl (if neg = true then !(ds.any fun z => PyData.eqv z d) else ds.any fun z => PyData.eqv z d)) H
theorem val_in : Val2 K inF (rInD K false) := fun S H v u x y z Q s n rx ry e q => by
  obtain ⟨ds, e1, e2⟩ := Option.bind_eq_some_iff.mp e
  split at e2
  · rename_i h
    cases e2
    exact ⟨x, y, ds, Rq.dp (SeqAt.canLay_of_shaped h.1) (rx.rqH s), Rq.dp (SeqAt.canLay_of_shaped h.2) (ry.rqH s), e1, h.1, h.2, q _ S H (Gro.refl s n) (.bl _)⟩
  · cases e2
theorem op_inD (hu : X.A.units + 65 < cLine) : OpR X (compareOp .In) (rInD X.K false) := by
  intro pins s σ H x y v u Q I rx ry h
  obtain ⟨d, dd, ds, hd, he, sq, sd, se, q⟩ := h
  obtain ⟨as, r1⟩ := Dp.reads I d x v hd rx
  cases dd with
  | list es =>
    cases sq
    obtain ⟨bs, r2⟩ := Dp.reads I (.list ds) y u he ry
    exact SeqAt.in_list_reads r2 r1 (SeqAt.canLay_of_shaped se) (SeqAt.canLay_of_shaped sd) (room_in_shaped sd hu) ⟨.bl _, H, I, rfl, q⟩
  | tuple es =>
    cases sq
    obtain ⟨bs, r2⟩ := Dp.reads I (.tuple ds) y u he ry
    exact SeqAt.in_tuple_reads r2 r1 (SeqAt.canLay_of_shaped se) (SeqAt.canLay_of_shaped sd) (room_in_shaped sd hu) ⟨.bl _, H, I, rfl, q⟩
  | _ => cases sq
end
end Ev

namespace Ev
open PySem PySem.Spec PyProof.Rows L2 Tb
variable {K : PySem.W.Frag}
/-! ### sorted(a list or a tuple of any data of one kind) -/
section
variable {prog : Program} {w : World} {A : Around} {E : Value → Shared → Prop} {s : Shared} {β : Type} {vs : List Value} {bs : List β} {enc : β → PyData} {R : Value → β → Prop}
/-- the heap behind a walk's items being gathered -/
abbrev gath (h : Heap) (its : Array Value) : Heap := (h.push (seqObj "list" #[] 0)).update h.objs.size (Obj.mapSeq (· ++ its))
theorem gath_size (h : Heap) (its : Array Value) : (gath h its).objs.size = h.objs.size + 1 := by
  unfold gath
  rw [Heap.size_update, size_push']
theorem gath_old {h : Heap} {its : Array Value} {b : Addr} {u : Obj} (z : h.get? b = some u) : (gath h its).get? b = some u :=
  (Heap.get?_update_other _ _ (Nat.ne_of_gt (Heap.lt_size z))).trans (Heap.get?_push_of_some _ z)
theorem gather {l : Addr} {o : Obj} {T : String} {its : Array Value} {n : Nat} {Q : List Value → Shared → Prop} (hT : T = "list" ∨ T = "tuple") (ho : s.heap.get? l = some o) (hc : o.cls = .type T) (hd : o.data = .seq its n)
    (q : Q its.toList { s with heap := gath s.heap its }) (hz : its.size ≤ sizeLine) : wpAny (model prog w) A (collect (.ref l)) Q E s := by
  have at0 : (s.heap.push (seqObj "list" #[] 0)).get? s.heap.objs.size = some (seqObj "list" #[] 0) := Heap.get?_push_size _ rfl
  have at1 := Heap.get?_update_self (Obj.mapSeq (· ++ its)) at0 rfl
  have last : wpAny (model prog w) A (load s.heap.objs.size >>= fun u => match u.data with
      | .seq xs _ => pure xs.toList
      | _ => unsupported "internal:collect") Q E { s with heap := gath s.heap its } := by
    refine wpAny_bind (wpAny_load at1 (wpAny_pure ?_))
    have e0 : ((#[] : Array Value) ++ its).toList = its.toList := by rw [Array.empty_append]
    exact e0 ▸ q
  unfold collect
  refine wpAny_bind (wpAny_runValue (codeAny_builtin (id := "proto.collect") F.entry_proto_collect ?run))
  case run =>
    rw [Around.under_plainId (id := "proto.collect") F.plain_proto_collect]
    refine (show wpAny _ A.in1 (newList [] >>= fun u => again (.builtin "list.__iadd__" ⟨[u, .ref l], []⟩)) _ _ s from wpAny_bind (wpAny_newObj_type ?made))
    case made =>
      refine wpAny_pure ⟨plainId_quiet (id := "list.__iadd__") F.plain_list_iadd _, codeAny_builtin (id := "list.__iadd__") F.entry_list_iadd ?ext⟩
      case ext =>
        rw [Around.under_plainId (id := "list.__iadd__") F.plain_list_iadd]
        refine (show wpAny _ A.in1 (Builtin.List.listExtendWith (.ref s.heap.objs.size) (.ref l) (.ref s.heap.objs.size)) _ _ _ from wpAny_mono (wpAny_extend_seq (hsz := hz) (A := A) (s := { s with heap := s.heap.push (seqObj "list" #[] 0) })
          (R := fun r s1 => r = .ok (.ret (.ref s.heap.objs.size)) ∧ s1 = { s with heap := gath s.heap its }) _ l _ 0 hT at0 (Heap.get?_push_of_some _ ho) hc hd ⟨rfl, rfl⟩) (fun fin s1 y => ?_) (fun e s1 y => absurd y.1 (by simp)))
        cases fin with
        | done f =>
          obtain ⟨y1, rfl⟩ := y
          cases y1
          exact last
        | again c => exact ⟨y.1, codeAny_mono y.2 fun r s2 y2 => by obtain ⟨rfl, rfl⟩ := y2; exact last⟩
open PySem.W in
theorem sorted_seq {l : Addr} {o : Obj} {T : String} {n : Nat} {Q : Value → Shared → Prop} (hT : T = "list" ∨ T = "tuple") (ho : s.heap.get? l = some o) (hc : o.cls = .type T) (hd : o.data = .seq vs.toArray n)
    (e : EachIs R vs bs) (er : EachIs (fun v b => ∃ as, Reads s.heap v (enc b) as) vs bs) (hal : AllAlike (bs.map enc)) (hk : Sortable (bs.map enc)) (hL : bs.length ≤ sizeLine) (hu : ∀ b, b ∈ bs → A.units + 2 + (enc b).depth < cLine)
    (h : ∀ (out : List Value) (p : Addr) (h' : Heap) (c : Nat), EachIs R out (bs.mergeSort (dataLe false enc)) → s.heap.objs.size ≤ p → (∀ b u, s.heap.get? b = some u → h'.get? b = some u) → h'.get? p = some (seqObj "list" out.toArray c) → Q (.ref p) { s with heap := h' }) :
    wpAny (model prog w) A (call (.builtin "sorted") [.ref l]) Q E s := by
  have hlen : vs.length ≤ sizeLine := by rw [e.length]; exact hL
  refine call_function_entry_kw kind_sorted plain_sorted entry_sorted (args_sorted1 _) ?_
  unfold Builtin.«sorted»
  refine wpAny_bind (m := checkCount "sorted" 1 1 _) (wpAny_pure ?_)
  refine wpAny_bind (gather hT ho hc hd ?_ (by rw [List.size_toArray]; exact hlen))
  refine wpAny_bind (wpAny_newList ?_ hlen)
  have k1 : ∀ b u, s.heap.get? b = some u → (gath s.heap vs.toArray).get? b = some u := fun b u z => gath_old z
  have big : s.heap.objs.size ≤ (gath s.heap vs.toArray).objs.size := by rw [gath_size]; exact Nat.le_succ _
  generalize gath s.heap vs.toArray = h1 at k1 big
  have at1 : (h1.push (seqObj "list" vs.toArray 0)).get? h1.objs.size = some (seqObj "list" vs.toArray 0) := Heap.get?_push_size _ rfl
  have old1 : ∀ b u, s.heap.get? b = some u → (h1.push (seqObj "list" vs.toArray 0)).get? b = some u := fun b u z => Heap.get?_push_of_some _ (k1 b u z)
  refine wpAny_bind (wpAny_holding (wpAny_call_entry_kw slot_list_sort ⟨_, at1, rfl⟩ entry_list_sort ?body (args_list_sort _)))
  case body =>
    have er' : EachIs (fun v b => ∃ as, Reads (sortingHeap (h1.push (seqObj "list" vs.toArray 0)) h1.objs.size vs) v (enc b) as) vs bs := er.mono fun _ _ ⟨as, r⟩ => ⟨as, PyProof.Rows.Reads.keeps (fun b u z => sortingHeap_old (Nat.ne_of_lt (Heap.lt_size (k1 b u z))) (old1 b u z)) r⟩
    refine list_sort_vals (s := { s with heap := h1.push (seqObj "list" vs.toArray 0) }) at1 (SortsAt.data (s := { s with heap := sortingHeap (h1.push (seqObj "list" vs.toArray 0)) h1.objs.size vs }) (each_map (R := fun v d => ∃ as, Reads (sortingHeap (h1.push (seqObj "list" vs.toArray 0)) h1.objs.size vs) v d as) enc er') hal hk (bound_map hu)) hlen ?_
    obtain ⟨c, hc'⟩ := PyProof.Rows.sortedHeap_at (out := (sortVals (dataKind (sortingHeap (h1.push (seqObj "list" vs.toArray 0)) h1.objs.size vs) (bs.map enc)) false vs vs).toArray) at1
    exact ⟨_, rfl, wpAny_pure ⟨_, rfl, h _ _ _ c (sortVals_data false e er' hal) big (fun b u z => by
      rw [PyProof.Rows.sortedHeap_old (Nat.ne_of_lt (Heap.lt_size (k1 b u z))) (Heap.lt_size (old1 b u z))]
      exact old1 b u z) hc'⟩⟩
end

/-! ### data, of one kind -/
def tupNE : PyData → Bool
  | .tuple (_ :: _) => true
  | _ => false
def plainD : PyData → Bool
  | .tuple _ => false
  | .none => false
  | _ => true
def sortOk (xs : List PyData) : Bool := decide (xs.length ≤ sizeLine) && xs.all SeqAt.shaped && (xs.all fun x => xs.all fun y => PySem.W.alike x y) && (xs.all tupNE || xs.all plainD)
noncomputable def srtD (xs : List PyData) : List PyData := xs.mergeSort (PySem.W.dataLe false id)
noncomputable def sortF : List PyData → Option PyData
  | [x] => (kidsD x).bind fun xs => if sortOk xs = true then some (.list (srtD xs)) else none
  | _ => none
def rSortQ (K : PySem.W.Frag) : List V → Hp → VK → Prop := fun vs H Q => ∃ (a : Addr) (us : List V) (xs : List PyData), vs = [.ref a] ∧ (SqL K H a us ∨ SqT K H a us) ∧ DpAll K H us xs ∧ sortOk xs = true ∧
  ∀ (p : Addr) (ps : List (V × PyData)), ps.map Prod.snd = srtD xs → (∀ q ∈ ps, q ∈ us.zip xs) → H p = none → Q (.ref p) (upd H p (.lst (ps.map Prod.fst)))
theorem zip_each {X : Cx} {pins : List (Addr × Obj)} {σ : L2.St} {H : Hp} {s : Shared} (I : Inv X pins σ H s) : ∀ {us : List V} {xs : List PyData} {its : List Value}, DpAll X.K H us xs → Vals us its →
    PySem.W.EachIs (fun v (b : V × PyData) => RelV b.1 v) its (us.zip xs) ∧ PySem.W.EachIs (fun v (b : V × PyData) => ∃ as, Reads s.heap v b.2 as) its (us.zip xs)
  | _, _, _, .nil, .nil => ⟨.nil, .nil⟩
  | _, _, _, .cons a b, .cons r t => by
    obtain ⟨h1, h2⟩ := zip_each I b t
    exact ⟨.cons r h1, .cons (Dp.reads I _ _ _ a r) h2⟩
theorem each_vals : ∀ {out : List Value} {ps : List (V × PyData)}, PySem.W.EachIs (fun v (b : V × PyData) => RelV b.1 v) out ps → Vals (ps.map Prod.fst) out
  | _, _, .nil => .nil
  | _, _, .cons h t => .cons h (each_vals t)
theorem zip_snd : ∀ {us : List V} {xs : List PyData}, us.length = xs.length → (us.zip xs).map Prod.snd = xs
  | [], [], _ => rfl
  | u :: us, x :: xs, h => by
    rw [List.zip_cons_cons, List.map_cons, zip_snd (by simpa using h)]
  | [], _ :: _, h => by simp at h
  | _ :: _, [], h => by simp at h
theorem DpAll.length {H : Hp} : ∀ {vs : List V} {ds : List PyData}, DpAll K H vs ds → vs.length = ds.length
  | _, _, .nil => rfl
  | _, _, .cons _ t => congrArg Nat.succ (DpAll.length t)
theorem sortOk_iff {xs : List PyData} (h : sortOk xs = true) : xs.length ≤ sizeLine ∧ (∀ x ∈ xs, SeqAt.shaped x = true) ∧ PySem.W.AllAlike xs ∧ PySem.W.Sortable xs := by
  unfold sortOk at h
  rw [Bool.and_eq_true, Bool.and_eq_true, Bool.and_eq_true, decide_eq_true_eq] at h
  obtain ⟨⟨⟨h1, h2⟩, h3⟩, h4⟩ := h
  refine ⟨h1, List.all_eq_true.mp h2, fun d hd d' hd' => List.all_eq_true.mp (List.all_eq_true.mp h3 d hd) d' hd', ?_⟩
  rcases Bool.or_eq_true_iff.mp h4 with z | z
  · refine .inl fun d hd => ?_
    have := List.all_eq_true.mp z d hd
    match d, this with
    | .tuple (x :: r), _ => exact ⟨x, r, rfl⟩
  · refine .inr fun d hd => ?_
    have := List.all_eq_true.mp z d hd
    cases d <;> first | (cases this; done) | (refine ⟨?_, ?_⟩ <;> intros <;> intro z <;> cases z)
theorem cr_sortQ {X : Cx} (hu : X.A.units + 66 < cLine) : CallR X (.builtin "sorted") (rSortQ X.K) := by
  intro pins s σ H vs us0 Q I r h
  obtain ⟨a, us, xs, rfl, hs, hd, ok, q⟩ := h
  obtain ⟨u, rfl, ru⟩ := r.one
  obtain rfl : u = Value.ref a := ru
  obtain ⟨hz, hsh, hal, hsb⟩ := sortOk_iff ok
  have hln := DpAll.length hd
  have ez := zip_snd hln
  have main : ∀ (its : List Value) (o : Obj) (T : String) (n : Nat), Vals us its → (T = "list" ∨ T = "tuple") → s.heap.get? a = some o → o.cls = .type T → o.data = .seq its.toArray n → wpAny (model X.prog X.w) X.A (call (.builtin "sorted") [.ref a]) (EP X pins σ Q) X.xe s := fun its o T n rv hT ho hc hdt => by
    obtain ⟨e1, e2⟩ := zip_each I hd rv
    refine sorted_seq (enc := Prod.snd) hT ho hc hdt e1 e2 (by rw [ez]; exact hal) (by rw [ez]; exact hsb) (by rw [List.length_zip, hln, Nat.min_self]; exact hz) (fun b hb => ?_) fun out p h' c eo big kp at' => ?_
    · have hm : b.2 ∈ xs := by rw [← ez]; exact List.mem_map_of_mem hb
      have := SeqAt.depth_of_shaped (hsh _ hm)
      omega
    · have hn : H p = none := I.hok.fresh big
      have lo : ((us.zip xs).mergeSort (PySem.W.dataLe false Prod.snd)).length = xs.length := by rw [List.length_mergeSort, List.length_zip, hln, Nat.min_self]
      refine ⟨.ref p, upd H p (.lst (((us.zip xs).mergeSort (PySem.W.dataLe false Prod.snd)).map Prod.fst)), I.laid (t' := s.toks) kp big ⟨by rw [List.length_map, lo]; exact hz, out, c, each_vals eo, at'⟩, rfl, q p _ ?_ (fun y hy => List.mem_mergeSort.mp hy) hn⟩
      have : ((us.zip xs).mergeSort (PySem.W.dataLe false Prod.snd)).map Prod.snd = ((us.zip xs).map Prod.snd).mergeSort (PySem.W.dataLe false id) := List.map_mergeSort fun _ _ _ _ => rfl
      rw [this, ez]
      rfl
  rcases hs with hs | hs
  · obtain ⟨its, rv, ⟨o, n, ho, hc, _, hdt⟩, _⟩ := I.list hs
    exact main its o "list" n rv (.inl rfl) ho hc hdt
  · obtain ⟨its, rv, ⟨o, ho, hc, n, hdt⟩, _⟩ := I.tuple hs
    exact main its o "tuple" n rv (.inr rfl) ho hc hdt
theorem RqL.of_zip {S : Hp} : ∀ {us : List V} {xs : List PyData}, RqL K S us xs → ∀ q ∈ us.zip xs, Rq K S q.1 q.2
  | _, _, .nil, q, h => by simp at h
  | _, _, .cons a b, q, h => by
    rcases List.mem_cons.mp h with z | z
    · rw [z]; exact a
    · exact RqL.of_zip b q z
theorem RqL.pairs {S : Hp} : ∀ {ps : List (V × PyData)}, (∀ q ∈ ps, Rq K S q.1 q.2) → RqL K S (ps.map Prod.fst) (ps.map Prod.snd)
  | [], _ => .nil
  | p :: ps, h => .cons (h p List.mem_cons_self) (RqL.pairs fun q hq => h q (List.mem_cons_of_mem _ hq))
theorem RqL.dpAll {S : Hp} : ∀ {us : List V} {xs : List PyData}, (∀ x ∈ xs, SeqAt.shaped x = true) → RqL K S us xs → DpAll K S us xs
  | _, _, _, .nil => .nil
  | _, _, h, .cons a b => .cons (Rq.dp (SeqAt.canLay_of_shaped (h _ List.mem_cons_self)) a) (RqL.dpAll (fun x hx => h x (List.mem_cons_of_mem _ hx)) b)
/-- a list or a tuple, its items shared -/
theorem RqT.seq {S H : Hp} {v : V} {x : PyData} {xs : List PyData} (s : Sub S H) (r : RqT K S H v x) (e : kidsD x = some xs) : ∃ a us, v = .ref a ∧ (SqL K H a us ∨ SqT K H a us) ∧ RqL K S us xs := by
  cases x with
  | list ys =>
    cases e
    obtain ⟨a, us, rfl, h, rl⟩ := r.list s
    exact ⟨a, us, rfl, .inl (.inl (.inl h)), rl⟩
  | tuple ys =>
    cases e
    obtain ⟨a, us, rfl, h, rl⟩ := r.tuple
    exact ⟨a, us, rfl, .inr (s.sqT h), rl⟩
  | _ => cases e
theorem RqTL.one {S H : Hp} {vs : List V} {x : PyData} (r : RqTL K S H vs [x]) : ∃ v, vs = [v] ∧ RqT K S H v x := by
  cases r with
  | cons a b => cases b; exact ⟨_, rfl, a⟩
theorem RqTL.two {S H : Hp} {vs : List V} {x y : PyData} (r : RqTL K S H vs [x, y]) : ∃ v u, vs = [v, u] ∧ RqT K S H v x ∧ RqT K S H u y := by
  cases r with
  | cons a b =>
    obtain ⟨u, rfl, c⟩ := b.one
    exact ⟨_, _, rfl, a, c⟩
theorem val_sort : ValN K sortF (rSortQ K) := fun S H vs ds z Q s n r e q => by
  unfold sortF at e
  split at e
  · obtain ⟨xs, e1, e2⟩ := Option.bind_eq_some_iff.mp e
    split at e2
    · rename_i ok
      cases e2
      obtain ⟨v, rfl, rv⟩ := r.one
      obtain ⟨a, us, rfl, hs, rl⟩ := rv.seq s e1
      refine ⟨a, us, xs, rfl, hs, RqL.dpAll (sortOk_iff ok).2.1 (RqL.sub s rl), ok, fun p ps h1 h2 hp => ?_⟩
      have g := Gro.new (u := .lst (ps.map Prod.fst)) s n hp (by intro ps z; cases z)
      refine q _ _ _ g (.lst upd_same ?_)
      rw [← h1]
      exact RqL.sub g.subS (RqL.pairs fun y hy => rl.of_zip y (h2 y hy))
    · cases e2
  · cases e
/-! ### not in -/
def notInF : PyData → PyData → Option PyData := fun x y => (kidsD y).bind fun ds => if SeqAt.shaped x = true ∧ SeqAt.shaped y = true then some (.bool (!(ds.any fun z => PyData.eqv z x))) else none
theorem val_notIn : Val2 K notInF (rInD K true) := fun S H v u x y z Q s n rx ry e q => by
  obtain ⟨ds, e1, e2⟩ := Option.bind_eq_some_iff.mp e
  split at e2
  · rename_i h
    cases e2
    exact ⟨x, y, ds, Rq.dp (SeqAt.canLay_of_shaped h.1) (rx.rqH s), Rq.dp (SeqAt.canLay_of_shaped h.2) (ry.rqH s), e1, h.1, h.2, q _ S H (Gro.refl s n) (.bl _)⟩
  · cases e2
theorem op_notInD {X : Cx} (hu : X.A.units + 65 < cLine) : OpR X (compareOp .NotIn) (rInD X.K true) := by
  intro pins s σ H x y v u Q I rx ry h
  obtain ⟨d, dd, ds, hd, he, sq, sd, se, q⟩ := h
  obtain ⟨as, r1⟩ := Dp.reads I d x v hd rx
  cases dd with
  | list es =>
    cases sq
    obtain ⟨bs, r2⟩ := Dp.reads I (.list ds) y u he ry
    exact SeqAt.notIn_list_reads r2 r1 (SeqAt.canLay_of_shaped se) (SeqAt.canLay_of_shaped sd) (room_in_shaped sd hu) ⟨.bl _, H, I, rfl, q⟩
  | tuple es =>
    cases sq
    obtain ⟨bs, r2⟩ := Dp.reads I (.tuple ds) y u he ry
    exact SeqAt.notIn_tuple_reads r2 r1 (SeqAt.canLay_of_shaped se) (SeqAt.canLay_of_shaped sd) (room_in_shaped sd hu) ⟨.bl _, H, I, rfl, q⟩
  | _ => cases sq
/-! ### an item by its place -/
def ixF : PyData → PyData → Option PyData
  | .list xs, .int i => atI xs i
  | .tuple xs, .int i => atI xs i
  | .str z, .int i => if z.length ≤ sizeLine then (atI z.cps.toList i).bind fun c => some (.str ⟨#[c]⟩) else none
  | _, _ => none
theorem RqL.atI {S : Hp} {vs : List V} {ds : List PyData} {i : Int} {d : PyData} (r : RqL K S vs ds) (e : atI ds i = some d) : ∃ v, L2.atI vs i = some v ∧ Rq K S v d := by
  unfold L2.atI at e ⊢
  rw [r.length]
  obtain ⟨j, e1, e2⟩ := Option.bind_eq_some_iff.mp e
  obtain ⟨v, hv, rv⟩ := r.get' e2
  exact ⟨v, by rw [e1]; exact hv, rv⟩
theorem val_ix : Val2 K ixF (rIx K) := fun S H v u x y z Q s n rx ry e q => by
  unfold ixF at e
  split at e
  · rename_i xs i
    obtain ⟨a, vs, rfl, h, r⟩ := rx.list s
    obtain ⟨w, hw, rw'⟩ := r.atI e
    exact .inl ⟨a, vs, i, w, rfl, ry.int, .inl (.inl h), hw, q w S H (Gro.refl s n) rw'⟩
  · rename_i xs i
    obtain ⟨a, vs, rfl, h, r⟩ := rx.tuple
    obtain ⟨w, hw, rw'⟩ := r.atI e
    exact .inr (.inl ⟨a, vs, i, w, rfl, ry.int, s.sqT h, hw, q w S H (Gro.refl s n) rw'⟩)
  · rename_i zz i
    split at e
    · rename_i hz
      obtain ⟨c, e1, e2⟩ := Option.bind_eq_some_iff.mp e
      cases e2
      exact .inr (.inr ⟨zz, i, c, rx.str, ry.int, hz, e1, q _ S H (Gro.refl s n) (.str _)⟩)
    · cases e
  · cases e
/-! ### parts of a list, of a tuple, of a text -/
def cutD {α : Type} (xs : List α) (lo hi : Option Int) : List α := (xs.drop (HT.sIx xs.length 0 lo)).take (HT.sIx xs.length xs.length hi - HT.sIx xs.length 0 lo)
theorem RqL.cut {S : Hp} {vs : List V} {ds : List PyData} (r : RqL K S vs ds) (lo hi : Option Int) : RqL K S (cutV vs lo hi) (cutD ds lo hi) := by
  unfold cutV cutD
  rw [r.length]
  exact (r.drop _).take _
def sliF (x : PyData) (lo hi : Option Int) : Option PyData := match x with
  | .list xs => some (.list (cutD xs lo hi))
  | .tuple xs => if HT.sIx xs.length 0 lo = 0 ∧ HT.sIx xs.length xs.length hi = xs.length then none else some (.tuple (cutD xs lo hi))
  | .str z => if z.length ≤ sizeLine then some (.str (cutS z lo hi)) else none
  | _ => none
abbrev GO := Lo → Option (Option Int × Lo)
def tO (K : PySem.W.Frag) (T : List Addr) (g : GO) : TO := fun σ H Q => ∃ S lo, Stt K S H σ lo ∧ AllT T H ∧ ∃ o lo', g lo = some (o, lo') ∧ ∀ S' H', Stt K S' H' σ lo' → Ext (Own σ lo) S H S' H' (Own σ lo') → Q o H'
def noO : GO := fun lo => some (none, lo)
def soO (g : GE) : GO := fun lo => (g lo).bind fun p => match p.1 with
  | .int i => some (some i, p.2)
  | _ => none
theorem po_imp {X : Cx} {e : Option Expr} {t t' : TO} (h : PO X e t) (i : ∀ σ H Q, t' σ H Q → t σ H Q) : PO X e t' := ⟨fun pins s σ H Q I w => h.run pins s σ H Q I (i σ H Q w)⟩
section
variable {X : Cx} {T : List Addr} {pos p2 : Pos} {a e : Expr} {ga g : GE} {gl gh : GO} {lo hi : Option Expr}
theorem eo_none : PO X none (tO X.K T noO) := po_imp po_none fun σ H Q w => by
  obtain ⟨S, lo, st, at', o, lo', e, q⟩ := w
  cases e
  exact q S H st (Ext.refl _ _ _)
theorem eo_some (h : PE X e (tE X.K T g)) : PO X (some e) (tO X.K T (soO g)) := po_imp (po_some h) fun σ H Q w => by
  obtain ⟨S, lo, st, at', o, lo', e, q⟩ := w
  obtain ⟨p, e1, e2⟩ := Option.bind_eq_some_iff.mp e
  refine ⟨S, lo, st, at', p.1, p.2, e1, fun v S1 H1 st1 r1 x1 => ?_⟩
  split at e2
  · rename_i i hi
    cases e2
    rw [hi] at r1
    cases r1
    exact ⟨i, rfl, q S1 H1 st1 x1⟩
  · cases e2
def slF (ga : GE) (gl gh : GO) : GE := fun lo => (ga lo).bind fun p => (gl p.2).bind fun l => (gh l.2).bind fun h => (sliF p.1 l.1 h.1).bind fun z => some (z, h.2)
theorem ev_slice (ha : PE X a (tE X.K T ga)) (hl : PO X lo (tO X.K T gl)) (hh : PO X hi (tO X.K T gh)) : PE X (.Subscript a (.Slice lo hi none p2) pos) (tE X.K T (slF ga gl gh)) := by
  refine pe_imp (pe_slice ((sl_list.or sl_tup).or sl_str) ha hl hh) fun σ H Q w => ?_
  obtain ⟨S, lo, st, at', z, lo', e, q⟩ := w
  obtain ⟨p, e1, e⟩ := Option.bind_eq_some_iff.mp e
  obtain ⟨l, e2, e⟩ := Option.bind_eq_some_iff.mp e
  obtain ⟨h, e3, e⟩ := Option.bind_eq_some_iff.mp e
  obtain ⟨z', e4, e⟩ := Option.bind_eq_some_iff.mp e
  cases e
  refine ⟨S, lo, st, at', p.1, p.2, e1, fun v S1 H1 st1 r1 x1 => ⟨S1, p.2, st1, at'.ext x1, l.1, l.2, e2, fun S2 H2 st2 x2 => ⟨S2, l.2, st2, (at'.ext x1).ext x2, h.1, h.2, e3, fun S3 H3 st3 x3 => ?_⟩⟩⟩
  have x13 := (x1.trans x2).trans x3
  have r3 : Rq X.K S3 v p.1 := Rq.sub (x2.sub.trans x3.sub) r1
  unfold sliF at e4
  split at e4
  · rename_i xs hx
    cases e4
    rw [hx] at r3
    cases r3 with
    | lst hS rl =>
      rename_i c us
      refine .inl (.inl ⟨_, us, rfl, .inl (.inl (st3.sub _ _ hS)), fun c' hp => ?_⟩)
      have g := Gro.new (u := .lst (cutV us l.1 h.1)) st3.sub st3.noT hp (by intro ps z; cases z)
      refine q _ _ _ (st3.gro g) (.lst upd_same (RqL.sub g.subS (RqL.cut rl _ _))) (x13.trans g.ext)
  · rename_i xs hx
    split at e4
    · cases e4
    · rename_i nw
      cases e4
      rw [hx] at r3
      cases r3 with
      | tup hS rl =>
        rename_i c us
        refine .inl (.inr ⟨_, us, rfl, st3.sub.sqT hS, by rw [rl.length]; exact nw, fun c' hp => ?_⟩)
        have g := Gro.new (u := .tup (cutV us l.1 h.1)) st3.sub st3.noT hp (by intro ps z; cases z)
        refine q _ _ _ (st3.gro g) (.tup (.inl (.inl upd_same)) (RqL.sub g.subS (RqL.cut rl _ _))) (x13.trans g.ext)
  · rename_i zz hx
    split at e4
    · rename_i hz
      cases e4
      rw [hx] at r3
      cases r3
      exact .inr ⟨zz, rfl, hz, q _ S3 H3 st3 (.str _) x13⟩
    · cases e4
  · cases e4
end
end Ev

namespace Ev
open PySem PySem.Spec PyProof.Rows L2 Tb
variable {K : PySem.W.Frag}
/-! ### built-ins -/
section
variable {X : Cx} {T : List Addr} {pos p p2 pos2 : Pos} {x : Str} {a b e : Expr} {es : List Expr} {g ga gb : GE} {ga' : GA}
theorem ev_blt {id : String} {r : List V → Hp → VK → Prop} {f : List PyData → Option PyData} (hc : CallR X (.builtin id) r) (v : ValN X.K f r) (hg : Gl X x) (hm : X.mg x = none) (hv : bootBuiltins x = some (.builtin id)) (ha : PA X (e :: es) (tAr X.K T ga')) (hn : x ≠ "__name__" := by decide) (hdb : (x == ("__debug__" : Str)) = false := by decide)
    (he : starEach (e :: es) X.env = (false, eval e X.env) :: starEach es X.env := by rfl) (hpl : (backTo pos (starEach es X.env)).any (·.1) = false := by rfl) : PE X (.Call (.Name x p) (e :: es) [] pos) (tE X.K T (callF f ga')) :=
  pe_imp (pe_callB hc hg hm hv ha hn hdb he hpl) fun _ _ _ w => tCB_of v w
theorem ev_bltN {id : String} {i : Nat} {r : List V → Hp → VK → Prop} {f : List PyData → Option PyData} (hc : CallR X (.builtin id) r) (v : ValN X.K f r) (hg : Gl X x) (hm : X.mg x = none) (hv : bootBuiltins x = some (.builtin id)) (ha : PE X e (tVar i)) (hn : x ≠ "__name__" := by decide) (hdb : (x == ("__debug__" : Str)) = false := by decide)
    (he : starEach [e] X.env = (false, eval e X.env) :: starEach [] X.env := by rfl) : PE X (.Call (.Name x p) [e] [] pos) (tE X.K T (callN f i)) :=
  pe_imp (pe_callB hc hg hm hv (pa_cons ha pa_nil he) hn hdb he rfl) fun _ _ _ w => tCBN_of v w
theorem ev_bty {id : String} {r : List V → Hp → VK → Prop} {f : List PyData → Option PyData} (hc : CallR X (.type id) r) (v : ValN X.K f r) (hg : Gl X x) (hm : X.mg x = none) (hv : bootBuiltins x = some (.type id)) (ha : PA X (e :: es) (tAr X.K T ga')) (hn : x ≠ "__name__" := by decide) (hdb : (x == ("__debug__" : Str)) = false := by decide)
    (he : starEach (e :: es) X.env = (false, eval e X.env) :: starEach es X.env := by rfl) (hpl : (backTo pos (starEach es X.env)).any (·.1) = false := by rfl) : PE X (.Call (.Name x p) (e :: es) [] pos) (tE X.K T (callF f ga')) :=
  pe_imp (pe_callTy hc hg hm hv ha hn hdb he hpl) fun _ _ _ w => tCB_of v w
theorem ev_btyN {id : String} {i : Nat} {r : List V → Hp → VK → Prop} {f : List PyData → Option PyData} (hc : CallR X (.type id) r) (v : ValN X.K f r) (hg : Gl X x) (hm : X.mg x = none) (hv : bootBuiltins x = some (.type id)) (ha : PE X e (tVar i)) (hn : x ≠ "__name__" := by decide) (hdb : (x == ("__debug__" : Str)) = false := by decide)
    (he : starEach [e] X.env = (false, eval e X.env) :: starEach [] X.env := by rfl) : PE X (.Call (.Name x p) [e] [] pos) (tE X.K T (callN f i)) :=
  pe_imp (pe_callTy hc hg hm hv (pa_cons ha pa_nil he) hn hdb he rfl) fun _ _ _ w => tCBN_of v w
/-! isinstance -/
def isF (b : PyData → Bool) : PyData → Option PyData := fun x => some (.bool (b x))
theorem RqT.tyX {S H : Hp} {v : V} {d : PyData} (s : Sub S H) (r : RqT K S H v d) : TyX K H v (.type (tyN d)) := by
  have r := r.rqH s
  cases r with
  | non => exact .base .non
  | bl b => exact .base (.bl b)
  | int i => exact .base (.int i)
  | str y => exact .base (.str y)
  | lst h _ => exact .base (.lst h)
  | tup h _ =>
    rcases h with (h | ⟨o, h⟩) | ⟨o, its, n, h, hc, _⟩
    · exact .base (.tup h)
    · exact .fTuple h
    · exact .kTuple h hc
  | dct h _ => exact .base (.dK h)
theorem ev_isi {b : PyData → Bool} {n : String} (kit : ∀ d : PyData, PySem.W.kitOne X.K (.type (tyN d)) (.type n) = some (b d)) (hg : Gl X "isinstance") (hm : X.mg "isinstance" = none) (ht : PE X e (tC (.ty n))) (ha : PE X a (tE X.K T ga))
    (he : starEach [a, e] X.env = (false, eval a X.env) :: starEach [e] X.env := by rfl) (he2 : starEach [e] X.env = (false, eval e X.env) :: starEach [] X.env := by rfl) (hpl : (backTo pos (starEach [e] X.env)).any (·.1) = false := by rfl) : PE X (.Call (.Name "isinstance" p) [a, e] [] pos) (tE X.K T (un1 (isF b) ga)) := by
  refine pe_imp (pe_callB call_isi hg hm (by decide +kernel) (pa_cons ha (pa_cons ht pa_nil he2) he) (by decide) (by decide) he hpl) fun σ H Q w => ?_
  obtain ⟨S, lo, st, at', z, lo', e, q⟩ := w
  obtain ⟨y, e1, e2⟩ := Option.bind_eq_some_iff.mp e
  cases e2
  exact ⟨S, lo, st, at', y.1, y.2, e1, fun v S1 H1 st1 r1 x1 => ⟨v, .ty n, _, _, _, rfl, .ty n, (RqT.of r1).tyX st1.sub, kit y.1, q _ S1 H1 st1 (.bl _) x1⟩⟩
/-- isinstance(a, (list, tuple)) -/
theorem ev_isiT {e1 e2 : Expr} {j : Nat} {pt : Pos} (hg : Gl X "isinstance") (hm : X.mg "isinstance" = none) (h1 : PE X e1 (tC (.ty "list"))) (h2 : PE X e2 (tC (.ty "tuple"))) (ha : PE X a (tE X.K T ga))
    (he : starEach [a, .Tuple [e1, e2] j pt] X.env = (false, eval a X.env) :: starEach [.Tuple [e1, e2] j pt] X.env := by rfl) (he1 : starEach [e1, e2] X.env = (false, eval e1 X.env) :: starEach [e2] X.env := by rfl) (he2 : starEach [e2] X.env = (false, eval e2 X.env) :: starEach [] X.env := by rfl) (hpl : (backTo pos (starEach [.Tuple [e1, e2] j pt] X.env)).any (·.1) = false := by rfl) :
    PE X (.Call (.Name "isinstance" p) [a, .Tuple [e1, e2] j pt] [] pos) (tE X.K T (un1 (isF isSq) ga)) := by
  refine pe_imp (pe_callB call_isiT hg hm (by decide +kernel) (pa_cons ha (pa_cons (pe_tup (pa_cons h1 (pa_cons h2 pa_nil he2) he1)) pa_nil) he) (by decide) (by decide) he hpl) fun σ H Q w => ?_
  obtain ⟨S, lo, st, at', z, lo', e, q⟩ := w
  obtain ⟨y, e1, e2⟩ := Option.bind_eq_some_iff.mp e
  cases e2
  refine ⟨S, lo, st, at', y.1, y.2, e1, fun v S1 H1 st1 r1 x1 => ⟨(by show 2 ≤ sizeLine; decide), fun t ht => ?_⟩⟩
  have st2 := st1.lay (u := .tup [V.ty "list", V.ty "tuple"]) ht
  exact ⟨v, t, _, _, _, _, rfl, upd_same, .cons (.ty _) (.cons (.ty _) .nil), (RqT.of r1).tyX st2.sub, kit_seq y.1, q _ _ _ st2 (.bl _) (x1.trans (Ext.lay ht))⟩
def isTp : PyData → Bool
  | .tuple _ => true
  | _ => false
def isLs : PyData → Bool
  | .list _ => true
  | _ => false
def isSt : PyData → Bool
  | .str _ => true
  | _ => false
theorem kit_tup : ∀ d : PyData, PySem.W.kitOne K (.type (tyN d)) (.type "tuple") = some (isTp d)
  | .none => kit_ty (show kitB "NoneType" "tuple" = some false by decide +kernel)
  | .bool _ => kit_ty (show kitB "bool" "tuple" = some false by decide +kernel)
  | .int _ => kit_ty (show kitB "int" "tuple" = some false by decide +kernel)
  | .str _ => kit_ty (show kitB "str" "tuple" = some false by decide +kernel)
  | .list _ => kit_ty (show kitB "list" "tuple" = some false by decide +kernel)
  | .tuple _ => kit_ty (show kitB "tuple" "tuple" = some true by decide +kernel)
  | .dict _ => kit_ty (show kitB "dict" "tuple" = some false by decide +kernel)
theorem kit_list : ∀ d : PyData, PySem.W.kitOne K (.type (tyN d)) (.type "list") = some (isLs d)
  | .none => kit_ty (show kitB "NoneType" "list" = some false by decide +kernel)
  | .bool _ => kit_ty (show kitB "bool" "list" = some false by decide +kernel)
  | .int _ => kit_ty (show kitB "int" "list" = some false by decide +kernel)
  | .str _ => kit_ty (show kitB "str" "list" = some false by decide +kernel)
  | .list _ => kit_ty (show kitB "list" "list" = some true by decide +kernel)
  | .tuple _ => kit_ty (show kitB "tuple" "list" = some false by decide +kernel)
  | .dict _ => kit_ty (show kitB "dict" "list" = some false by decide +kernel)
theorem kit_str : ∀ d : PyData, PySem.W.kitOne K (.type (tyN d)) (.type "str") = some (isSt d)
  | .none => kit_ty (show kitB "NoneType" "str" = some false by decide +kernel)
  | .bool _ => kit_ty (show kitB "bool" "str" = some false by decide +kernel)
  | .int _ => kit_ty (show kitB "int" "str" = some false by decide +kernel)
  | .str _ => kit_ty (show kitB "str" "str" = some true by decide +kernel)
  | .list _ => kit_ty (show kitB "list" "str" = some false by decide +kernel)
  | .tuple _ => kit_ty (show kitB "tuple" "str" = some false by decide +kernel)
  | .dict _ => kit_ty (show kitB "dict" "str" = some false by decide +kernel)
theorem pe_ty {x : Str} {n : String} (hg : Gl X x) (hm : X.mg x = none) (hv : bootBuiltins x = some (.type n)) (hn : x ≠ "__name__" := by decide) (hdb : (x == ("__debug__" : Str)) = false := by decide) : PE X (.Name x pos) (tC (.ty n)) := pe_bltn (v := .ty n) hg hm hv rfl hn hdb
end
/-! len, list, tuple, min, max, abs, sum, divmod -/
def lenF : List PyData → Option PyData
  | [.list xs] => some (.int xs.length)
  | [.tuple xs] => some (.int xs.length)
  | [.str z] => if z.length ≤ sizeLine then some (.int z.length) else none
  | _ => none
def rLenQ (K : PySem.W.Frag) : List V → Hp → VK → Prop := fun xs H Q => ∃ x n, xs = [x] ∧ LenV K x H n ∧ Q (.int n) H
theorem val_len : ValN K lenF (rLenQ K) := fun S H vs ds z Q s n r e q => by
  unfold lenF at e
  split at e
  · cases e
    obtain ⟨v, rfl, rv⟩ := r.one
    obtain ⟨a, us, rfl, h, rl⟩ := rv.list s
    exact ⟨_, _, rfl, .inl ⟨us, .inl (.inl h), rl.length.symm⟩, q _ S H (Gro.refl s n) (.int _)⟩
  · cases e
    obtain ⟨v, rfl, rv⟩ := r.one
    obtain ⟨a, us, rfl, h, rl⟩ := rv.tuple
    exact ⟨_, _, rfl, .inr ⟨us, s.sqT h, rl.length.symm⟩, q _ S H (Gro.refl s n) (.int _)⟩
  · split at e
    · rename_i hz
      cases e
      obtain ⟨v, rfl, rv⟩ := r.one
      rw [rv.str]
      exact ⟨_, _, rfl, ⟨hz, rfl⟩, q _ S H (Gro.refl s n) (.int _)⟩
    · cases e
  · cases e
def listF : List PyData → Option PyData
  | [x] => (kidsD x).bind fun xs => some (.list xs)
  | _ => none
def rListQ (K : PySem.W.Frag) : List V → Hp → VK → Prop := fun xs H Q => ∃ p ys, xs = [.ref p] ∧ (SqL K H p ys ∨ SqT K H p ys) ∧ ∀ l, H l = none → Q (.ref l) (upd H l (.lst ys))
theorem val_list : ValN K listF (rListQ K) := fun S H vs ds z Q s n r e q => by
  unfold listF at e
  split at e
  · obtain ⟨xs, e1, e2⟩ := Option.bind_eq_some_iff.mp e
    cases e2
    obtain ⟨v, rfl, rv⟩ := r.one
    obtain ⟨a, us, rfl, hs, rl⟩ := rv.seq s e1
    refine ⟨a, us, rfl, hs, fun l hl => ?_⟩
    have g := Gro.new (u := .lst us) s n hl (by intro ps z; cases z)
    exact q _ _ _ g (.lst upd_same (RqL.sub g.subS rl))
  · cases e
def tupleF : List PyData → Option PyData
  | [.list xs] => some (.tuple xs)
  | [.tuple xs] => some (.tuple xs)
  | _ => none
def rTupQ (K : PySem.W.Frag) : List V → Hp → VK → Prop := fun xs H Q => ∃ p ys, xs = [.ref p] ∧ ((SqL K H p ys ∧ ∀ l, H l = none → Q (.ref l) (upd H l (.tup ys))) ∨ (SqT K H p ys ∧ Q (.ref p) H))
theorem val_tuple : ValN K tupleF (rTupQ K) := fun S H vs ds z Q s n r e q => by
  unfold tupleF at e
  split at e
  · cases e
    obtain ⟨v, rfl, rv⟩ := r.one
    obtain ⟨a, us, rfl, h, rl⟩ := rv.list s
    refine ⟨a, us, rfl, .inl ⟨.inl (.inl h), fun l hl => ?_⟩⟩
    have g := Gro.new (u := .tup us) s n hl (by intro ps z; cases z)
    exact q _ _ _ g (.tup (.inl (.inl upd_same)) (RqL.sub g.subS rl))
  · cases e
    obtain ⟨v, rfl, rv⟩ := r.one
    obtain ⟨a, us, rfl, h, rl⟩ := rv.tuple
    exact ⟨a, us, rfl, .inr ⟨s.sqT h, q _ S H (Gro.refl s n) (.tup h rl)⟩⟩
  · cases e
def max2F : List PyData → Option PyData
  | [.int i, .int j] => some (.int (if j > i then j else i))
  | _ => none
theorem val_max2 : ValN K max2F (fun xs H Q => ∃ i j, xs = [.int i, .int j] ∧ Q (.int (if j > i then j else i)) H) := fun S H vs ds z Q s n r e q => by
  unfold max2F at e
  split at e
  · cases e
    obtain ⟨v, u, rfl, rv, ru⟩ := r.two
    rw [rv.int, ru.int]
    exact ⟨_, _, rfl, q _ S H (Gro.refl s n) (.int _)⟩
  · cases e
def min2F : List PyData → Option PyData
  | [.int i, .int j] => some (.int (if j < i then j else i))
  | _ => none
theorem val_min2 : ValN K min2F (fun xs H Q => ∃ i j, xs = [.int i, .int j] ∧ Q (.int (if j < i then j else i)) H) := fun S H vs ds z Q s n r e q => by
  unfold min2F at e
  split at e
  · cases e
    obtain ⟨v, u, rfl, rv, ru⟩ := r.two
    rw [rv.int, ru.int]
    exact ⟨_, _, rfl, q _ S H (Gro.refl s n) (.int _)⟩
  · cases e
def absF : List PyData → Option PyData
  | [.int i] => some (.int (if i < 0 then -i else i))
  | _ => none
theorem val_abs : ValN K absF (fun xs H Q => ∃ i, xs = [.int i] ∧ Q (.int (if i < 0 then -i else i)) H) := fun S H vs ds z Q s n r e q => by
  unfold absF at e
  split at e
  · cases e
    obtain ⟨v, rfl, rv⟩ := r.one
    rw [rv.int]
    exact ⟨_, rfl, q _ S H (Gro.refl s n) (.int _)⟩
  · cases e
def divmodF : List PyData → Option PyData
  | [.int i, .int j] => if 0 < j ∧ j < 1073741824 then some (.tuple [.int (i / j), .int (i % j)]) else none
  | _ => none
theorem val_divmod : ValN K divmodF (fun xs H Q => ∃ i j, xs = [.int i, .int j] ∧ CDiv i j ∧ ∀ p, H p = none → Q (.ref p) (upd H p (.tup [.int (i / j), .int (i % j)]))) := fun S H vs ds z Q s n r e q => by
  unfold divmodF at e
  split at e
  · split at e
    · rename_i h
      cases e
      obtain ⟨v, u, rfl, rv, ru⟩ := r.two
      rw [rv.int, ru.int]
      refine ⟨_, _, rfl, h, fun p hp => ?_⟩
      exact q _ _ _ (Gro.new s n hp (by intro ps z; cases z)) (.tup (.inl (.inl upd_same)) (.cons (.int _) (.cons (.int _) .nil)))
    · cases e
  · cases e
/-- all of them ints -/
def intsD : List PyData → Option (List Int)
  | [] => some []
  | .int i :: r => (intsD r).bind fun is => some (i :: is)
  | _ => none
theorem intsD_map : ∀ ns : List Int, intsD (ns.map PyData.int) = some ns
  | [] => rfl
  | n :: r => by
    show (intsD (r.map PyData.int)).bind _ = _
    rw [intsD_map r]; rfl
theorem intsD_eq : ∀ {ds : List PyData} {ns : List Int}, intsD ds = some ns → ds = ns.map PyData.int
  | [], _, h => by cases h; rfl
  | d :: r, ns, h => by
    cases d with
    | int i =>
      obtain ⟨is, e1, e2⟩ := Option.bind_eq_some_iff.mp (show (intsD r).bind _ = some ns from h)
      cases e2
      rw [intsD_eq e1]; rfl
    | _ => cases h
def sumF : List PyData → Option PyData
  | [.list xs] => (intsD xs).bind fun ns => some (.int ns.sum)
  | _ => none
theorem val_sum : ValN K sumF (rSum K) := fun S H vs ds z Q s n r e q => by
  unfold sumF at e
  split at e
  · obtain ⟨ns, e1, e2⟩ := Option.bind_eq_some_iff.mp e
    cases e2
    obtain ⟨v, rfl, rv⟩ := r.one
    obtain ⟨a, us, rfl, h, rl⟩ := rv.list s
    rw [intsD_eq e1] at rl
    rw [rl.ints_of] at h
    exact ⟨a, ns, rfl, .inl (.inl h), q _ S H (Gro.refl s n) (.int _)⟩
  · cases e
/-! list(range(..)) -/
section
variable {X : Cx} {T : List Addr} {pos p p2 pos2 : Pos} {a b : Expr} {ga gb : GE}
def listRgF (ga : GE) : GE := fun lo => (ga lo).bind fun p => match p.1 with
  | .int n => if small62 n = true ∧ n.toNat ≤ 2 ^ 24 then some (.list (rgL 0 n), p.2) else none
  | _ => none
theorem rgV_rq {S : Hp} {lo hi : Int} : RqL K S (rgV lo hi) (rgL lo hi) := by
  unfold rgV rgL
  have : ∀ l : List Nat, RqL K S (l.map fun i => V.int (lo + (i : Nat))) (l.map fun i => PyData.int (lo + (i : Nat))) := fun l => by
    induction l with
    | nil => exact .nil
    | cons x r ih => exact .cons (.int _) ih
  exact this _
theorem ev_listRg (hc : X.calm = true) (hg : Gl X "list") (hm : X.mg "list" = none) (hg2 : Gl X "range") (hm2 : X.mg "range" = none) (ha : PE X a (tE X.K T ga)) (na : starEach [a] X.env = (false, eval a X.env) :: starEach [] X.env := by rfl)
    (nb : starEach [.Call (.Name "range" p2) [a] [] pos2] X.env = (false, eval (.Call (.Name "range" p2) [a] [] pos2) X.env) :: starEach [] X.env := by rfl) : PE X (.Call (.Name "list" p) [.Call (.Name "range" p2) [a] [] pos2] [] pos) (tE X.K T (listRgF ga)) := by
  refine pe_imp (pe_listRg hc hg hm (prg_1 hg2 hm2 ha na) nb) fun σ H Q w => ?_
  obtain ⟨S, lo, st, at', z, lo', e, q⟩ := w
  obtain ⟨y, e1, e2⟩ := Option.bind_eq_some_iff.mp e
  refine ⟨S, lo, st, at', y.1, y.2, e1, fun v S1 H1 st1 r1 x1 => ?_⟩
  split at e2
  · rename_i n hn
    split at e2
    · rename_i hb
      cases e2
      rw [hn] at r1
      cases r1
      obtain ⟨b1, b2⟩ := small62_iff.mp hb.1
      refine ⟨n, rfl, ⟨by decide, by decide, b1, b2, by rw [Int.sub_zero]; exact hb.2⟩, fun c hc => ?_⟩
      have g := Gro.new (u := .lst (rgV 0 n)) st1.sub st1.noT hc (by intro ps z; cases z)
      exact q _ _ _ (st1.gro g) (.lst upd_same rgV_rq) (x1.trans g.ext)
    · cases e2
  · cases e2
end
end Ev

namespace Ev
open PySem PySem.Spec PyProof.Rows L2 Tb
variable {K : PySem.W.Frag}
/-! ### lists of one's own: made -/
abbrev GL := Lo → Option (List PyData × Lo)
/-- a new list, that nothing else holds -/
def tL (K : PySem.W.Frag) (T : List Addr) (g : GL) : TE := fun σ H Q => ∃ S lo, Stt K S H σ lo ∧ AllT T H ∧ ∃ xs lo', g lo = some (xs, lo') ∧
  ∀ a us S' H', Stt K S' H' σ lo' → H' a = some (.lst us) → RqL K S' us xs → S' a = none → ¬ Own σ lo' a → (Own σ lo a ∨ Fz H a) → Ext (Own σ lo) S H S' H' (Own σ lo') → Q (.ref a) H'
section
variable {S H S' H' : Hp} {σ : L2.St} {lo : Lo}
/-- a name is given such a list -/
theorem Stt.setL (s : Stt K S H σ lo) {i : Nat} {a : Addr} {us : List V} {xs : List PyData} (h : H a = some (.lst us)) (r : RqL K S us xs) (sa : S a = none) (no : ¬ Own σ lo a) :
    Stt K S H (σ.set i (some (.ref a))) (lo.set i (some (.lst xs))) ∧ ∀ b, Own (σ.set i (some (.ref a))) (lo.set i (some (.lst xs))) b → Own σ lo b ∨ b = a := by
  have oth : ∀ j b, OwnAt (σ.set i (some (.ref a))) (lo.set i (some (.lst xs))) j b → (j ≠ i ∧ OwnAt σ lo j b) ∨ (j = i ∧ b = a) := fun j b ⟨h1, ys, h2⟩ => by
    by_cases q : j = i
    · subst q
      by_cases hj : j < σ.length
      · rw [List.getElem?_set_self hj] at h1
        cases h1
        exact .inr ⟨rfl, rfl⟩
      · rw [List.getElem?_eq_none (by rw [List.length_set]; omega)] at h1
        cases h1
    · rw [List.getElem?_set_ne (Ne.symm q)] at h1 h2
      exact .inl ⟨q, h1, ys, h2⟩
  refine ⟨⟨s.sub, s.noT, by rw [List.length_set, List.length_set]; exact s.len, fun j l e => ?_, fun j b o => ?_, fun j k b h1 h2 => ?_⟩, fun b ⟨j, o⟩ => (oth j b o).elim (fun z => .inl ⟨j, z.2⟩) fun z => .inr z.2⟩
  · by_cases q : j = i
    · subst q
      have hj : j < lo.length := by
        have := (List.getElem?_eq_some_iff.mp e).1
        rwa [List.length_set] at this
      rw [List.getElem?_set_self hj] at e
      cases e
      exact ⟨_, List.getElem?_set_self (by rw [← s.len]; exact hj), a, us, rfl, h, r⟩
    · rw [List.getElem?_set_ne (Ne.symm q)] at e
      obtain ⟨w, ew, rr⟩ := s.loc j l e
      exact ⟨w, by rw [List.getElem?_set_ne (Ne.symm q)]; exact ew, rr⟩
  · rcases oth j b o with z | z
    · exact s.own j b z.2
    · rw [z.2]; exact sa
  · rcases oth j b h1 with z | z <;> rcases oth k b h2 with y | y
    · exact s.inj j k b z.2 y.2
    · exact absurd ⟨j, by rw [← y.2]; exact z.2⟩ no
    · exact absurd ⟨k, by rw [← z.2]; exact y.2⟩ no
    · exact z.1.trans y.1.symm
theorem Ext.more {F F1 F2 : Addr → Prop} (x : Ext F S H S' H' F1) {a : Addr} (f : F a ∨ Fz H a) (h : ∀ b, F2 b → F1 b ∨ b = a) : Ext F S H S' H' F2 :=
  ⟨x.keep, x.tab, x.sub, x.domS, fun b hb => (h b hb).elim (x.domF b) fun z => z ▸ f⟩
end
section
variable {X : Cx} {T : List Addr} {pos p p2 pos2 : Pos} {pin : Bool} {a b e : Expr} {es : List Expr} {g ga gb : GE} {ga' : GA} {gl gl' : GL}
/-- [..] -/
def lstL (g : GA) : GL := fun lo => (g lo).bind fun p => if p.1.length ≤ sizeLine then some (p.1, p.2) else none
theorem el_lst (h : PA X es (tAr X.K T ga')) : PE X (.List es pos) (tL X.K T (lstL ga')) := by
  refine pe_imp (pe_lst h) fun σ H Q w => ?_
  obtain ⟨S, lo, st, at', x, lo', e, q⟩ := w
  obtain ⟨y, e1, e2⟩ := Option.bind_eq_some_iff.mp e
  split at e2
  · rename_i hz
    cases e2
    refine ⟨S, lo, st, at', y.1, y.2, e1, fun vs S1 H1 st1 r1 x1 => ⟨by rw [r1.length]; exact hz, fun c hc => ?_⟩⟩
    obtain ⟨n1, n2⟩ := st1.not_new hc
    exact q c vs S1 _ (st1.lay hc) upd_same r1 n2 n1 (x1.fz (fz_none hc)) (x1.trans (Ext.lay hc))
  · cases e2
/-- list(a) -/
def listL (g : GE) : GL := fun lo => (g lo).bind fun p => (kidsD p.1).bind fun xs => some (xs, p.2)
theorem el_list (hg : Gl X "list") (hm : X.mg "list" = none) (ha : PE X a (tE X.K T ga)) (he : starEach [a] X.env = (false, eval a X.env) :: starEach [] X.env := by rfl) : PE X (.Call (.Name "list" p) [a] [] pos) (tL X.K T (listL ga)) := by
  refine pe_imp (pe_callTy call_list_of hg hm (by decide +kernel) (pa_cons ha pa_nil he) (by decide) (by decide) he rfl) fun σ H Q w => ?_
  obtain ⟨S, lo, st, at', x, lo', e, q⟩ := w
  obtain ⟨y, e1, e2⟩ := Option.bind_eq_some_iff.mp e
  obtain ⟨xs, e3, e4⟩ := Option.bind_eq_some_iff.mp e2
  cases e4
  refine ⟨S, lo, st, at', y.1, y.2, e1, fun v S1 H1 st1 r1 x1 => ?_⟩
  obtain ⟨c, us, rfl, hs, rl⟩ := (RqT.of r1).seq st1.sub e3
  refine ⟨c, us, rfl, hs, fun l hl => ?_⟩
  obtain ⟨n1, n2⟩ := st1.not_new hl
  exact q l us S1 _ (st1.lay hl) upd_same rl n2 n1 (x1.fz (fz_none hl)) (x1.trans (Ext.lay hl))
/-- .. of a list of one's own -/
def listNL (i : Nat) : GL := fun lo => (ownD i lo).bind fun x => (kidsD x).bind fun xs => some (xs, lo)
theorem el_listN {i : Nat} (hg : Gl X "list") (hm : X.mg "list" = none) (ha : PE X a (tVar i)) (he : starEach [a] X.env = (false, eval a X.env) :: starEach [] X.env := by rfl) : PE X (.Call (.Name "list" p) [a] [] pos) (tL X.K T (listNL i)) := by
  refine pe_imp (pe_callTy call_list_of hg hm (by decide +kernel) (pa_cons ha pa_nil he) (by decide) (by decide) he rfl) fun σ H Q w => ?_
  obtain ⟨S, lo, st, at', x, lo', e, q⟩ := w
  obtain ⟨y, e1, e2⟩ := Option.bind_eq_some_iff.mp e
  obtain ⟨xs, e3, e4⟩ := Option.bind_eq_some_iff.mp e2
  cases e4
  obtain ⟨v, ev, rv⟩ := st.read e1
  obtain ⟨c, us, rfl, hs, rl⟩ := rv.seq st.sub e3
  refine ⟨.ref c, ev, c, us, rfl, hs, fun l hl => ?_⟩
  obtain ⟨n1, n2⟩ := st.not_new hl
  exact q l us S _ (st.lay hl) upd_same rl n2 n1 (.inr (fz_none hl)) (Ext.lay hl)
/-- name = such a list -/
def asgL (g : GL) (i : Nat) : GS := fun lo => (g lo).bind fun p => some (.nx, p.2.set i (some (.lst p.1)))
theorem es_asgL {tg : Expr} {i : Nat} (he : PE X e (tL X.K T gl)) (hg : PG X tg (gName i)) (hp : pin = true → i ≠ 0) (hs : swapsWithSole [tg] e pos.line X.env = pure false := by rfl) (hw : swappedStores [tg] e X.env = pure none := by rfl)
    (h1 : (assignEach [tg] X.env).map (·.2) = [assign tg X.env] := by rfl) : PS X (.Assign [tg] e pos) (tS X.K T pin (asgL gl i)) := by
  refine ps_imp (ps_asg he hg hs hw h1) fun D σ H w => ?_
  obtain ⟨S, lo, st, at', o, lo', e, q⟩ := w
  obtain ⟨y, e1, e2⟩ := Option.bind_eq_some_iff.mp e
  cases e2
  refine ⟨S, lo, st, at', y.1, y.2, e1, fun c us S1 H1 st1 h1 r1 n1 n2 f1 x1 => ?_⟩
  obtain ⟨st2, o2⟩ := st1.setL (i := i) h1 r1 n1 n2
  exact q _ S1 H1 st2 (x1.more f1 o2) fun z => by rw [List.getElem?_set_ne (hp z)]
/-! two names at once -/
def par2 (g k : GE) (i j : Nat) : GS := fun lo => (g lo).bind fun p => (k p.2).bind fun q => some (.nx, (q.2.set i (some (.dat p.1))).set j (some (.dat q.1)))
def parEL (g : GE) (k : GL) (i j : Nat) : GS := fun lo => (g lo).bind fun p => (k p.2).bind fun q => some (.nx, (q.2.set i (some (.dat p.1))).set j (some (.lst q.1)))
def parLE (g : GL) (k : GE) (i j : Nat) : GS := fun lo => (g lo).bind fun p => (k p.2).bind fun q => some (.nx, (q.2.set i (some (.lst p.1))).set j (some (.dat q.1)))
def parLL (g k : GL) (i j : Nat) : GS := fun lo => (g lo).bind fun p => (k p.2).bind fun q => some (.nx, (q.2.set i (some (.lst p.1))).set j (some (.lst q.1)))
theorem set2_pin {σ : L2.St} {i j : Nat} {u v : Option V} (hp : pin = true → i ≠ 0 ∧ j ≠ 0) : pin = true → ((σ.set i u).set j v)[0]? = σ[0]? := fun z => by
  rw [List.getElem?_set_ne (hp z).2, List.getElem?_set_ne (hp z).1]
section
variable {i j : Nat} {x y : Str} {px py pt pt2 : Pos} {kt k2 : Nat}
theorem es_par {st : Stmt} (hs : PS X st (tPar i j (tCons (tE X.K T ga) (tCons (tE X.K T gb) tNil)))) (hp : pin = true → i ≠ 0 ∧ j ≠ 0) : PS X st (tS X.K T pin (par2 ga gb i j)) := by
  refine ps_imp hs fun D σ H w => ?_
  obtain ⟨S, lo, st, at', o, lo', e, q⟩ := w
  obtain ⟨y, e1, e2⟩ := Option.bind_eq_some_iff.mp e
  obtain ⟨z, e3, e4⟩ := Option.bind_eq_some_iff.mp e2
  cases e4
  refine ⟨S, lo, st, at', y.1, y.2, e1, fun v S1 H1 st1 r1 x1 => ⟨S1, y.2, st1, at'.ext x1, z.1, z.2, e3, fun u S2 H2 st2 r2 x2 => ⟨v, u, rfl, ?_⟩⟩⟩
  obtain ⟨st3, o3⟩ := st2.set (i := i) (Rq.sub x2.sub r1)
  obtain ⟨st4, o4⟩ := st3.set (i := j) r2
  exact q _ S2 H2 st4 ((x1.trans x2).shrink fun a h => o3 a (o4 a h)) (set2_pin hp)
theorem es_parEL {st : Stmt} (hs : PS X st (tPar i j (tCons (tE X.K T ga) (tCons (tL X.K T gl) tNil)))) (hp : pin = true → i ≠ 0 ∧ j ≠ 0) : PS X st (tS X.K T pin (parEL ga gl i j)) := by
  refine ps_imp hs fun D σ H w => ?_
  obtain ⟨S, lo, st, at', o, lo', e, q⟩ := w
  obtain ⟨y, e1, e2⟩ := Option.bind_eq_some_iff.mp e
  obtain ⟨z, e3, e4⟩ := Option.bind_eq_some_iff.mp e2
  cases e4
  refine ⟨S, lo, st, at', y.1, y.2, e1, fun v S1 H1 st1 r1 x1 => ⟨S1, y.2, st1, at'.ext x1, z.1, z.2, e3, fun c us S2 H2 st2 h2 r2 n1 n2 f2 x2 => ⟨v, .ref c, rfl, ?_⟩⟩⟩
  obtain ⟨st3, o3⟩ := st2.set (i := i) (Rq.sub x2.sub r1)
  obtain ⟨st4, o4⟩ := st3.setL (i := j) h2 r2 n1 (fun h => n2 (o3 c h))
  refine q _ S2 H2 st4 ((x1.trans x2).more ?_ fun b h => (o4 b h).imp (o3 b) id) (set2_pin hp)
  rcases f2 with h | h
  · exact x1.domF c h
  · exact x1.fz h
theorem es_parLE {st : Stmt} (hs : PS X st (tPar i j (tCons (tL X.K T gl) (tCons (tE X.K T gb) tNil)))) (hp : pin = true → i ≠ 0 ∧ j ≠ 0) : PS X st (tS X.K T pin (parLE gl gb i j)) := by
  refine ps_imp hs fun D σ H w => ?_
  obtain ⟨S, lo, st, at', o, lo', e, q⟩ := w
  obtain ⟨y, e1, e2⟩ := Option.bind_eq_some_iff.mp e
  obtain ⟨z, e3, e4⟩ := Option.bind_eq_some_iff.mp e2
  cases e4
  refine ⟨S, lo, st, at', y.1, y.2, e1, fun c us S1 H1 st1 h1 r1 n1 n2 f1 x1 => ⟨S1, y.2, st1, at'.ext x1, z.1, z.2, e3, fun u S2 H2 st2 r2 x2 => ⟨.ref c, u, rfl, ?_⟩⟩⟩
  have nz : ¬ Fz H1 c := fun z => z.no h1 fun ps z => by cases z
  have n3 : ¬ Own σ z.2 c := fun o => (x2.domF c o).elim n2 nz
  have n4 : S2 c = none := by
    cases q : S2 c with
    | none => rfl
    | some w =>
      rcases x2.domS c (by rw [q]; simp) with y | y | y
      · exact absurd n1 y
      · exact absurd y n2
      · exact absurd y nz
  obtain ⟨st3, o3⟩ := st2.setL (i := i) (x2.keep c _ n2 h1 (by intro ps z; cases z)) (RqL.sub x2.sub r1) n4 n3
  obtain ⟨st4, o4⟩ := st3.set (i := j) r2
  exact q _ S2 H2 st4 ((x1.trans x2).more f1 fun b h => o3 b (o4 b h)) (set2_pin hp)
theorem es_parLL {st : Stmt} (hs : PS X st (tPar i j (tCons (tL X.K T gl) (tCons (tL X.K T gl') tNil)))) (hp : pin = true → i ≠ 0 ∧ j ≠ 0) : PS X st (tS X.K T pin (parLL gl gl' i j)) := by
  refine ps_imp hs fun D σ H w => ?_
  obtain ⟨S, lo, st, at', o, lo', e, q⟩ := w
  obtain ⟨y, e1, e2⟩ := Option.bind_eq_some_iff.mp e
  obtain ⟨z, e3, e4⟩ := Option.bind_eq_some_iff.mp e2
  cases e4
  refine ⟨S, lo, st, at', y.1, y.2, e1, fun c us S1 H1 st1 h1 r1 n1 n2 f1 x1 => ⟨S1, y.2, st1, at'.ext x1, z.1, z.2, e3, fun d ws S2 H2 st2 h2 r2 m1 m2 f2 x2 => ⟨.ref c, .ref d, rfl, ?_⟩⟩⟩
  have nz : ¬ Fz H1 c := fun z => z.no h1 fun ps z => by cases z
  have n3 : ¬ Own σ z.2 c := fun o => (x2.domF c o).elim n2 nz
  have n4 : S2 c = none := by
    cases q : S2 c with
    | none => rfl
    | some w =>
      rcases x2.domS c (by rw [q]; simp) with y | y | y
      · exact absurd n1 y
      · exact absurd y n2
      · exact absurd y nz
  have ne : d ≠ c := fun e => by
    subst e
    rcases f2 with h | h
    · exact n2 h
    · exact nz h
  obtain ⟨st3, o3⟩ := st2.setL (i := i) (x2.keep c _ n2 h1 (by intro ps z; cases z)) (RqL.sub x2.sub r1) n4 n3
  obtain ⟨st4, o4⟩ := st3.setL (i := j) h2 r2 m1 (fun h => (o3 d h).elim m2 ne)
  have fd : Own σ lo d ∨ Fz H d := by
    rcases f2 with h | h
    · exact x1.domF d h
    · exact x1.fz h
  refine q _ S2 H2 st4 ⟨(x1.trans x2).keep, (x1.trans x2).tab, (x1.trans x2).sub, (x1.trans x2).domS, fun b hb => ?_⟩ (set2_pin hp)
  rcases o4 b hb with h | h
  · rcases o3 b h with h | h
    · exact (x1.trans x2).domF b h
    · rw [h]; exact f1
  · rw [h]; exact fd
end
/-! ### lists of one's own: changed -/
theorem Stt.put {K : PySem.W.Frag} {S H : Hp} {σ : L2.St} {lo : Lo} (s : Stt K S H σ lo) {i : Nat} {a : Addr} {xs ys : List PyData} {us ws : List V} (e : lo[i]? = some (some (.lst xs))) (eσ : σ[i]? = some (some (.ref a))) (hH : H a = some (.lst us)) (r : RqL K S ws ys) :
    Stt K S (upd H a (.lst ws)) σ (lo.set i (some (.lst ys))) ∧ Ext (Own σ lo) S H S (upd H a (.lst ws)) (Own σ (lo.set i (some (.lst ys)))) := by
  have oa : OwnAt σ lo i a := ⟨eσ, xs, e⟩
  have sa := s.own i a oa
  have x : Ext (· = a) S H S (upd H a (.lst ws)) (· = a) := ⟨fun b o n h _ => by rw [upd_ne n]; exact h, fun P t => by
    obtain ⟨ps, h1, h2⟩ := t
    have ne : P ≠ a := fun z => by rw [z, hH] at h1; cases h1
    exact ⟨ps, by rw [upd_ne ne]; exact h1, h2⟩, Sub.refl _, fun _ h => .inl h, fun _ h => .inl h⟩
  refine s.calledB e eσ x (fun b o h => ?_) s.noT sa ⟨ws, upd_same, r⟩
  rw [upd_ne (ne_of_none h sa)]
  exact s.sub _ _ h
/-- a list of one's own -/
def ownL (i : Nat) (lo : Lo) : Option (List PyData) := match lo[i]? with
  | some (some (.lst xs)) => some xs
  | _ => none
theorem Stt.readL {K : PySem.W.Frag} {S H : Hp} {σ : L2.St} {lo : Lo} {i : Nat} {xs : List PyData} (st : Stt K S H σ lo) (e : ownL i lo = some xs) : lo[i]? = some (some (.lst xs)) ∧ ∃ a us, σ[i]? = some (some (.ref a)) ∧ H a = some (.lst us) ∧ RqL K S us xs := by
  unfold ownL at e
  split at e
  · rename_i y hy
    cases e
    obtain ⟨v, ev, a, us, rfl, h, r⟩ := st.loc i _ hy
    exact ⟨hy, a, us, ev, h, r⟩
  · cases e
/-- name.append(e) -/
def appS (i : Nat) (g : GE) : GE := fun lo => (ownL i lo).bind fun _ => (g lo).bind fun p => match p.2[i]? with
  | some (some (.lst xs)) => if xs.length < sizeLine then some (.none, p.2.set i (some (.lst (xs ++ [p.1])))) else none
  | _ => none
theorem ev_append {ap cp : Pos} {i : Nat} (hv : PE X b (tVar i)) (ha : PE X a (tE X.K T ga)) (hbase : attributeBase b "append" X.env (eval b X.env) = eval b X.env := by rfl)
    (hfew : ((backTo cp (starEach [a] X.env)).all (fun x => !x.1) && (backToKw cp (keywordEach [] X.env)).all (fun x => x.1.isSome) && decide ([a].length + ([] : List Keyword).length + (if ([] : List Keyword).isEmpty then 0 else 1) < 30)) = true := by rfl)
    (hline : (ap.endLine == cp.line) = true := by rfl) (hs : starEach [a] X.env = (false, eval a X.env) :: starEach [] X.env := by rfl) : PE X (.Call (.Attribute b "append" ap) [a] [] cp) (tE X.K T (appS i ga)) := by
  refine pe_imp (pe_bm PySem.F.plainAttrs_list PySem.F.slot_list_append PySem.F.type_list_append mt_append hv (pa_cons ha pa_nil hs) hbase hfew hline hs rfl) fun σ H Q w => ?_
  obtain ⟨S, lo, st, at', x, lo', e, q⟩ := w
  obtain ⟨y0, e0, e⟩ := Option.bind_eq_some_iff.mp e
  obtain ⟨p, e1, e2⟩ := Option.bind_eq_some_iff.mp e
  obtain ⟨_, c0, us0, ev0, h0, _⟩ := st.readL e0
  split at e2
  · rename_i xs hx
    split at e2
    · rename_i hz
      cases e2
      refine ⟨.ref c0, ev0, .inl ⟨rfl, us0, .inl (.inl h0)⟩, S, lo, st, at', p.1, p.2, e1, fun v S1 H1 st1 r1 x1 => ?_⟩
      obtain ⟨w, ev, c, us, rfl, h, r⟩ := st1.loc i _ hx
      rw [ev0] at ev
      cases ev
      refine ⟨c0, us, v, rfl, rfl, h, by rw [r.length]; exact hz, ?_⟩
      obtain ⟨st2, x2⟩ := st1.put hx ev0 h (r.app (.cons r1 .nil))
      exact q .non S1 _ st2 .non (x1.trans x2)
    · cases e2
  · cases e2
/-- name.pop(e) -/
def popF (i : Nat) (g : GE) : GE := fun lo => (ownL i lo).bind fun _ => (g lo).bind fun p => match p.1, p.2[i]? with
  | .int k, some (some (.lst xs)) => if -(2 ^ 63) ≤ k ∧ k < 2 ^ 63 then (seqIndex? k xs.length).bind fun j => (xs[j]?).bind fun y => some (y, p.2.set i (some (.lst (xs.eraseIdx j)))) else none
  | _, _ => none
theorem ev_pop {ap cp : Pos} {i : Nat} (hv : PE X b (tVar i)) (ha : PE X a (tE X.K T ga)) (hbase : attributeBase b "pop" X.env (eval b X.env) = eval b X.env := by rfl)
    (hfew : ((backTo cp (starEach [a] X.env)).all (fun x => !x.1) && (backToKw cp (keywordEach [] X.env)).all (fun x => x.1.isSome) && decide ([a].length + ([] : List Keyword).length + (if ([] : List Keyword).isEmpty then 0 else 1) < 30)) = true := by rfl)
    (hline : (ap.endLine == cp.line) = true := by rfl) (hs : starEach [a] X.env = (false, eval a X.env) :: starEach [] X.env := by rfl) : PE X (.Call (.Attribute b "pop" ap) [a] [] cp) (tE X.K T (popF i ga)) := by
  refine pe_imp (pe_bm PySem.F.plainAttrs_list PySem.F.slot_list_pop PySem.F.type_list_pop mt_popAt hv (pa_cons ha pa_nil hs) hbase hfew hline hs rfl) fun σ H Q w => ?_
  obtain ⟨S, lo, st, at', x, lo', e, q⟩ := w
  obtain ⟨y0, e0, e⟩ := Option.bind_eq_some_iff.mp e
  obtain ⟨p, e1, e2⟩ := Option.bind_eq_some_iff.mp e
  obtain ⟨_, c0, us0, ev0, h0, _⟩ := st.readL e0
  split at e2
  · rename_i k xs hk hx
    split at e2
    · rename_i hb
      obtain ⟨j, e3, e4⟩ := Option.bind_eq_some_iff.mp e2
      obtain ⟨y, e5, e6⟩ := Option.bind_eq_some_iff.mp e4
      cases e6
      refine ⟨.ref c0, ev0, .inl ⟨rfl, us0, .inl (.inl h0)⟩, S, lo, st, at', p.1, p.2, e1, fun v S1 H1 st1 r1 x1 => ?_⟩
      obtain ⟨w, ev, c, us, rfl, h, r⟩ := st1.loc i _ hx
      rw [ev0] at ev
      cases ev
      rw [hk] at r1
      cases r1
      obtain ⟨w, hw, rw'⟩ := r.get' e5
      refine ⟨c0, us, k, j, w, rfl, rfl, h, hb.1, hb.2, by rw [r.length]; exact e3, hw, ?_⟩
      obtain ⟨st2, x2⟩ := st1.put hx ev0 h (r.erase j)
      exact q w S1 _ st2 rw' (x1.trans x2)
    · cases e2
  · cases e2
/-- name[k] = e -/
def stoS (i : Nat) (g gk : GE) : GS := fun lo => (g lo).bind fun p => (ownL i p.2).bind fun _ => (gk p.2).bind fun k => match k.1, k.2[i]? with
  | .int z, some (some (.lst xs)) => (ixN xs.length z).bind fun j => some (.nx, k.2.set i (some (.lst (xs.set j p.1))))
  | _, _ => none
theorem es_store {k : Expr} {sp : Pos} {i : Nat} {gk : GE} (he : PE X e (tE X.K T g)) (hv : PE X b (tVar i)) (hk : PE X k (tE X.K T gk)) (ha : ∀ v, assign (.Subscript b k sp) X.env v = (do
      let ov ← holding [v] (eval b X.env)
      let iv ← holding [v, ov] (eval k X.env)
      standAt sp
      holding [v, ov, iv] (setItem ov iv v)
      release [v, ov, iv] []) := by intro _; rfl) (hs : swapsWithSole [.Subscript b k sp] e pos.line X.env = pure false := by rfl) (hw : swappedStores [.Subscript b k sp] e X.env = pure none := by rfl)
    (h1 : (assignEach [.Subscript b k sp] X.env).map (·.2) = [assign (.Subscript b k sp) X.env] := by rfl) : PS X (.Assign [.Subscript b k sp] e pos) (tS X.K T pin (stoS i g gk)) := by
  refine ps_imp (ps_asg he (pg_sub hv hk set_list ha) hs hw h1) fun D σ H w => ?_
  obtain ⟨S, lo, st, at', o, lo', e, q⟩ := w
  obtain ⟨p, e1, e2⟩ := Option.bind_eq_some_iff.mp e
  obtain ⟨y0, e0, e2⟩ := Option.bind_eq_some_iff.mp e2
  obtain ⟨y, e3, e4⟩ := Option.bind_eq_some_iff.mp e2
  split at e4
  · rename_i z xs hz hx
    obtain ⟨j, e5, e6⟩ := Option.bind_eq_some_iff.mp e4
    cases e6
    refine ⟨S, lo, st, at', p.1, p.2, e1, fun v S1 H1 st1 r1 x1 => ?_⟩
    obtain ⟨_, c, us, evc, hc, rc⟩ := st1.readL e0
    refine ⟨.ref c, evc, S1, p.2, st1, at'.ext x1, y.1, y.2, e3, fun u S2 H2 st2 r2 x2 => ?_⟩
    rw [hz] at r2
    cases r2
    obtain ⟨w, ev, c2, us2, rfl, h2, rl2⟩ := st2.loc i _ hx
    rw [evc] at ev
    cases ev
    refine ⟨c, us2, z, j, rfl, rfl, h2, by rw [rl2.length]; exact e5, ?_⟩
    obtain ⟨st3, x3⟩ := st2.put hx evc h2 (RqL.set (Rq.sub x2.sub r1) j rl2)
    exact q σ S2 _ st3 ((x1.trans x2).trans x3) fun _ => rfl
  · cases e4
/-- a target name[k], k written -/
def subG (i : Nat) (k : Int) : GG := fun x lo => match lo[i]? with
  | some (some (.lst xs)) => (ixN xs.length k).bind fun j => some (lo.set i (some (.lst (xs.set j x))))
  | _ => none
theorem eg_sub {i : Nat} {k : Int} : TGt K pin (gSub (tVar i) (tC (.int k)) rSetL) (subG i k) := fun v x σ H Q S lo lo' st r e q => by
  unfold subG at e
  split at e
  · rename_i xs hx
    obtain ⟨j, e5, e6⟩ := Option.bind_eq_some_iff.mp e
    cases e6
    obtain ⟨w, ev, c, us, rfl, h, rl⟩ := st.loc i _ hx
    refine ⟨.ref c, ev, c, us, k, j, rfl, rfl, h, by rw [rl.length]; exact e5, ?_⟩
    obtain ⟨st3, x3⟩ := st.put hx ev h (RqL.set r j rl)
    exact q σ _ st3 x3 fun _ => rfl
  · cases e
/-! ### name = [e for ..] -/
def setLcS (g : GE) (i : Nat) : GS := fun lo => (g lo).bind fun p => some (.nx, p.2.set i (some (.dat p.1)))
theorem es_setE {st : Stmt} {i : Nat} {t : TE} (h : PS X st (tAsg t (gName i))) (ht : ∀ σ H Q, tE X.K T g σ H Q → t σ H Q) (hp : pin = true → i ≠ 0) : PS X st (tS X.K T pin (setLcS g i)) := by
  refine ps_imp h fun D σ H w => ?_
  obtain ⟨S, lo, st, at', o, lo', e, q⟩ := w
  obtain ⟨p, e1, e2⟩ := Option.bind_eq_some_iff.mp e
  cases e2
  refine ht σ H _ ⟨S, lo, st, at', p.1, p.2, e1, fun v S1 H1 st1 r1 x1 => ?_⟩
  obtain ⟨st2, o2⟩ := st1.set (i := i) r1
  exact q _ S1 H1 st2 (x1.shrink o2) fun z => by rw [List.getElem?_set_ne (hp z)]
end
end Ev

namespace Ev
open PySem PySem.Spec PyProof.Rows L2 Tb
variable {K : PySem.W.Frag}
/-! ### len(set(a list or a tuple of ints, of tuples of ints)) -/
def dd {α : Type} [DecidableEq α] : List α → List α
  | [] => []
  | x :: r => if x ∈ r then dd r else x :: dd r
theorem mem_dd {α : Type} [DecidableEq α] {z : α} : ∀ {l : List α}, z ∈ dd l ↔ z ∈ l
  | [] => by simp [dd]
  | x :: r => by
    unfold dd
    split
    · rw [mem_dd, List.mem_cons]
      exact ⟨.inr, fun h => h.elim (fun e => by rw [e]; assumption) id⟩
    · rw [List.mem_cons, List.mem_cons, mem_dd]
theorem dd_nodup {α : Type} [DecidableEq α] : ∀ l : List α, (dd l).Nodup
  | [] => List.nodup_nil
  | x :: r => by
    unfold dd
    split
    · exact dd_nodup r
    · exact List.nodup_cons.mpr ⟨fun h => by rw [mem_dd] at h; contradiction, dd_nodup r⟩
theorem nodup_len {α : Type} [DecidableEq α] {l m : List α} (hl : l.Nodup) (hm : m.Nodup) (h : ∀ z, z ∈ l ↔ z ∈ m) : l.length = m.length :=
  (List.perm_iff_count.mpr fun z => by rw [hl.count, hm.count]; simp [h z]).length_eq
theorem dd_len {α : Type} [DecidableEq α] {l m : List α} (hl : l.Nodup) (h : ∀ z, z ∈ l ↔ z ∈ m) : l.length = (dd m).length := nodup_len hl (dd_nodup m) fun z => by rw [mem_dd]; exact h z
theorem dd_of_nodup {α : Type} [DecidableEq α] {l : List α} (h : l.Nodup) : (dd l).length = l.length := (dd_len h fun _ => Iff.rfl).symm
/-- tuples of ints -/
def tupsD : List PyData → Option (List (List Int))
  | [] => some []
  | .tuple ds :: r => (intsD ds).bind fun ns => (tupsD r).bind fun ks => some (ns :: ks)
  | _ => none
def lenSetF (x : PyData) : Option PyData := (kidsD x).bind fun ds => match intsD ds, tupsD ds with
  | some ns, _ => if ns.length + 1 < scanBound then some (.int (dd ns).length) else none
  | none, some ks => if ks.length < 64 then some (.int (dd ks).length) else none
  | none, none => none
theorem RqL.tups {S : Hp} : ∀ {ds : List PyData} {ks : List (List Int)} {us : List V}, tupsD ds = some ks → RqL K S us ds → ∃ ps : List (Addr × List Int), us = ps.map (fun p => V.ref p.1) ∧ ks = ps.map (·.2) ∧ ∀ p ∈ ps, SqT K S p.1 (p.2.map V.int)
  | [], ks, us, h, r => by
    cases h
    cases r
    exact ⟨[], rfl, rfl, fun p hp => by simp at hp⟩
  | d :: r, ks, us, h, rr => by
    cases d with
    | tuple es =>
      obtain ⟨ns, e1, e2⟩ := Option.bind_eq_some_iff.mp (show (intsD es).bind _ = some ks from h)
      obtain ⟨k2, e3, e4⟩ := Option.bind_eq_some_iff.mp e2
      cases e4
      obtain ⟨v, vs, rfl, r1, r2⟩ : ∃ v vs, us = v :: vs ∧ Rq K S v (.tuple es) ∧ RqL K S vs r := by
        cases rr with
        | cons a b => exact ⟨_, _, rfl, a, b⟩
      obtain ⟨c, ws, rfl, ht, rl⟩ : ∃ c ws, v = .ref c ∧ SqT K S c ws ∧ RqL K S ws es := by
        cases r1 with
        | tup a b => exact ⟨_, _, rfl, a, b⟩
      rw [intsD_eq e1] at rl
      rw [rl.ints_of] at ht
      obtain ⟨ps, rfl, rfl, hp⟩ := RqL.tups e3 r2
      refine ⟨(c, ns) :: ps, rfl, rfl, fun p h => ?_⟩
      rcases List.mem_cons.mp h with z | z
      · rw [z]; exact ht
      · exact hp p z
    | _ => cases h
theorem sets_fit {P : Program} {w : World} {h : Heap} {a : Addr} {L : List (Addr × List Int)} (R : SetT0 P w h a L) : ∃ o es ep t, h.get? a = some o ∧ o.ExactSet ∧ o.data = .set es ep t ∧ SetTable.fits t es.size = true ∧ es.size = L.length ∧ L.length < 64 ∧ (L.map (·.2)).Nodup := by
  obtain ⟨es, ep, t, ⟨o, ho, hx, hd⟩, h2, h3, h4, h5, h6, h7, h8⟩ := R.ex
  have sz : es.size = L.length := by
    have := congrArg List.length h2
    rw [Array.length_toList] at this
    rw [this]
    unfold rowsOf
    rw [List.length_map]
  refine ⟨o, es, ep, t, ho, hx, hd, ?_, sz, h8, h4⟩
  have e2 := h3.sz
  have e1 := h3.dm
  rw [List.length_map] at e2
  have e3 : t.dummies.size = 0 := by rw [e1]; rfl
  have : t.place.size + t.dummies.size ≤ t.mask := by omega
  refine Bool.and_eq_true_iff.mpr ⟨?_, decide_eq_true this⟩
  rw [sz, e2, beq_self_eq_true]
def rLenSet (P : Program) (w : World) : List V → Hp → VK → Prop := fun vs H Q => ∃ a, vs = [V.ref a] ∧ ((∃ S c, H a = some (SetO w a S c) ∧ ∀ ks : List Int, ks.Nodup → (∀ k, S k = true ↔ k ∈ ks) → ks.length = c → Q (.int c) H) ∨ ∃ L, H a = some (SetTO P w a L) ∧ ((L.map (·.2)).Nodup → Q (.int L.length) H))
theorem cr_lenSet {X : Cx} : CallR X (.builtin "len") (rLenSet X.prog X.w) := by
  intro pins s σ H vs us Q I r h
  obtain ⟨a, rfl, h⟩ := h
  obtain ⟨u, rfl, ru⟩ := r.one
  obtain rfl : u = Value.ref a := ru
  have hs : scanBound < 2 ^ 63 := by unfold scanBound; omega
  rcases h with ⟨S, c, hH, q⟩ | ⟨L, hH, q⟩
  · obtain ⟨o, es, ep, t, ho, hx, hd, h1, h2, h3, h4, h5, h6, _⟩ := (I.hok a _ hH).1
    refine call_len_set ho hx hd h5 (by omega) ⟨.int _, H, I.tok _, ⟨_, rfl⟩, ?_⟩
    rw [h6]
    exact q _ h2 h3 (by rw [List.length_map, Array.length_toList, h6])
  · obtain ⟨o, es, ep, t, ho, hx, hd, h5, h6, h7, h8⟩ := sets_fit (I.hok a _ hH).1
    refine call_len_set ho hx hd h5 (by omega) ⟨.int _, H, I.tok _, ⟨_, rfl⟩, ?_⟩
    rw [h6]
    exact q h8
section
variable {X : Cx} {T : List Addr} {pos p p2 pos2 : Pos} {a : Expr} {ga : GE}
def rSetQ (X : Cx) : List V → Hp → VK → Prop := fun vs H Q => rSetL X.w X.K vs H Q ∨ rSetT X.w X.K vs H Q ∨ rSetOfT X.K X.prog X.w vs H Q ∨ rSetTT X.K X.prog X.w vs H Q
theorem cr_setQ (hc : X.calm = true) (hu : X.A.units + 66 < cLine) : CallR X (.type "set") (rSetQ X) := by
  intro pins s σ H vs us Q I r h
  rcases h with h | h | h | h
  · exact cr_setL hc pins s σ H vs us Q I r h
  · exact cr_setT hc pins s σ H vs us Q I r h
  · exact cr_setOfT hc (by omega) pins s σ H vs us Q I r h
  · exact cr_setTT hc (by omega) pins s σ H vs us Q I r h
theorem tups_len {L ks : List (Addr × List Int)} (h1 : ∀ p ∈ L, p ∈ ks) (h2 : ∀ p ∈ ks, p.2 ∈ L.map (·.2)) (nd : (L.map (·.2)).Nodup) : L.length = (dd (ks.map (·.2))).length := by
  have := dd_len nd (m := ks.map (·.2)) fun z => ⟨fun h => ?_, fun h => ?_⟩
  · rwa [List.length_map] at this
  · obtain ⟨p, hp, rfl⟩ := List.mem_map.mp h
    exact List.mem_map_of_mem (h1 p hp)
  · obtain ⟨p, hp, rfl⟩ := List.mem_map.mp h
    exact h2 p hp
theorem ints_len {zs ks : List Int} (h : ∀ k, (decide (k ∈ zs)) = true ↔ k ∈ ks) (nd : ks.Nodup) : ks.length = (dd zs).length := dd_len nd fun z => by rw [← h z, decide_eq_true_eq]
theorem ev_lenSet (hc : X.calm = true) (hu : X.A.units + 66 < cLine) (hg : Gl X "len") (hm : X.mg "len" = none) (hg2 : Gl X "set") (hm2 : X.mg "set" = none) (ha : PE X a (tE X.K T ga))
    (he2 : starEach [a] X.env = (false, eval a X.env) :: starEach [] X.env := by rfl) (he : starEach [.Call (.Name "set" p2) [a] [] pos2] X.env = (false, eval (.Call (.Name "set" p2) [a] [] pos2) X.env) :: starEach [] X.env := by rfl) :
    PE X (.Call (.Name "len" p) [.Call (.Name "set" p2) [a] [] pos2] [] pos) (tE X.K T (un1 lenSetF ga)) := by
  refine pe_imp (pe_callB cr_lenSet hg hm (by decide +kernel) (pa_cons (pe_callTy (cr_setQ hc hu) hg2 hm2 (by decide +kernel) (pa_cons ha pa_nil he2) (by decide) (by decide) he2 rfl) pa_nil he) (by decide) (by decide) he rfl) fun σ H Q w => ?_
  obtain ⟨S, lo, st, at', z, lo', e, q⟩ := w
  obtain ⟨y, e1, e2⟩ := Option.bind_eq_some_iff.mp e
  obtain ⟨z', e3, e4⟩ := Option.bind_eq_some_iff.mp e2
  cases e4
  refine ⟨S, lo, st, at', y.1, y.2, e1, fun v S1 H1 st1 r1 x1 => ?_⟩
  unfold lenSetF at e3
  obtain ⟨ds, e5, e6⟩ := Option.bind_eq_some_iff.mp e3
  obtain ⟨c, us, rfl, hs, rl⟩ := (RqT.of (H := H1) r1).seq st1.sub e5
  have fin : ∀ {u : HO} {p : Addr} {n : Nat}, H1 p = none → z = .int n → Q (.int n) (upd H1 p u) := fun {u p n} hp hz => by
    rw [hz] at q
    exact q _ _ _ (st1.lay hp) (.int _) (x1.trans (Ext.lay hp))
  split at e6
  · rename_i _ ns hn
    split at e6
    · rename_i hz
      cases e6
      rw [intsD_eq hn] at rl
      rw [rl.ints_of] at hs
      rcases hs with hs | hs
      · refine .inl ⟨c, ns, rfl, hs, hz, fun p k hp hk => ⟨p, rfl, .inl ⟨_, _, upd_same, fun ks' nd hm' hl => ?_⟩⟩⟩
        rw [← hl, ints_len hm' nd]
        exact fin hp rfl
      · refine .inr (.inl ⟨c, ns, rfl, hs, hz, fun p k hp hk => ⟨p, rfl, .inl ⟨_, _, upd_same, fun ks' nd hm' hl => ?_⟩⟩⟩)
        rw [← hl, ints_len hm' nd]
        exact fin hp rfl
    · cases e6
  · rename_i ks hn hk
    split at e6
    · rename_i hz
      cases e6
      obtain ⟨ps, rfl, rfl, hp'⟩ := RqL.tups hk rl
      rw [List.length_map] at hz
      have hq : ∀ p ∈ ps, SqT X.K H1 p.1 (p.2.map V.int) := fun p h => st1.sub.sqT (hp' p h)
      rcases hs with hs | hs
      · refine .inr (.inr (.inl ⟨c, ps, rfl, hs, hq, hz, fun p L hp h1 h2 => ⟨p, rfl, .inr ⟨_, upd_same, fun nd => ?_⟩⟩⟩))
        rw [tups_len h1 h2 nd]
        exact fin hp rfl
      · refine .inr (.inr (.inr ⟨c, ps, rfl, hs, hq, hz, fun p L hp h1 h2 => ⟨p, rfl, .inr ⟨_, upd_same, fun nd => ?_⟩⟩⟩))
        rw [tups_len h1 h2 nd]
        exact fin hp rfl
    · cases e6
  · cases e6
end
end Ev

namespace Ev
open PySem PySem.Spec PyProof.Rows L2 Tb
variable {K : PySem.W.Frag}
/-! ### enumerate(a list) -/
def enumD (xs : List PyData) : List PyData := xs.mapIdx fun i x => .tuple [.int (i : Nat), x]
theorem walks_e {a : Addr} {S : Hp} {vs : List V} {xs : List PyData} (h : S a = some (.lst vs)) (r : RqL K S vs xs) : Walks K (Ite K a) S (enumD xs) := fun i S' H' s1 s2 n hi => by
  have q : SqL K H' a vs := .inl (.inl (s2 _ _ (s1 _ _ h)))
  have hl : (enumD xs).length = xs.length := List.length_mapIdx
  rw [hl] at hi ⊢
  rcases Nat.lt_or_ge i xs.length with hlt | hge
  · obtain ⟨v, hv, rv⟩ := r.get' (List.getElem?_eq_getElem hlt)
    refine .inr ⟨.tuple [.int (i : Nat), xs[i]], by unfold enumD; rw [List.getElem?_mapIdx, List.getElem?_eq_getElem hlt]; rfl, ⟨vs, v, q, hv⟩, fun w H'' ⟨T, x, e1, e2, e3, e4⟩ => ?_⟩
    subst e1 e3
    have := e4 vs q
    rw [hv] at this
    cases this
    have g := Gro.new (u := .tup [V.int (i : Nat), v]) s2 n e2 (by intro ps z; cases z)
    exact ⟨_, g, .tup (.inl (.inl upd_same)) (.cons (.int _) (.cons (Rq.sub (s1.trans g.subS) rv) .nil))⟩
  · exact .inl ⟨Nat.le_antisymm hi hge, vs, q, by rw [r.length]; exact hge⟩
section
variable {X : Cx} {T : List Addr} {pos p tpos : Pos} {e : Expr} {es elts : List Expr} {g : GE} {kk : Nat}
def enumI (g : GE) : GA := fun lo => (g lo).bind fun p => match p.1 with
  | .list xs => some (enumD xs, p.2)
  | _ => none
theorem ei_enum (hg : Gl X "enumerate") (hm : X.mg "enumerate" = none) (h : PE X e (tE X.K T g)) (hs : starEach [e] X.env = (false, eval e X.env) :: starEach [] X.env := by rfl) (hs2 : starEach [e] X.env = [(false, eval e X.env)] := by rfl) : PI X (.Tuple elts kk tpos) (.Call (.Name "enumerate" p) [e] [] pos) (tI X.K T (enumI g)) := by
  refine pi_imp (pi_enum hg hm (pa_cons h pa_nil hs) hs2) fun σ H R w => ?_
  obtain ⟨S, lo, st, at', xs, lo', e, q⟩ := w
  obtain ⟨p, e1, e2⟩ := Option.bind_eq_some_iff.mp e
  refine ⟨S, lo, st, at', p.1, p.2, e1, fun v S1 H1 st1 r1 x1 => ?_⟩
  split at e2
  · rename_i ys hy
    cases e2
    rw [hy] at r1
    obtain ⟨a, us, rfl, h, rr⟩ : ∃ a us, v = .ref a ∧ S1 a = some (.lst us) ∧ RqL X.K S1 us ys := by
      cases r1 with
      | lst h rr => exact ⟨_, _, rfl, h, rr⟩
    exact ⟨a, us, rfl, .inl (.inl (st1.sub _ _ h)), q _ S1 H1 st1 x1 (walks_e h rr)⟩
  · cases e2
end
/-! ### repr -/
mutual
def noTup : PyData → Bool
  | .tuple _ => false
  | .dict _ => false
  | .list ds => noTups ds
  | _ => true
def noTups : List PyData → Bool
  | [] => true
  | d :: r => noTup d && noTups r
end
mutual
theorem Rq.rp {S : Hp} : ∀ {d : PyData} {v : V}, noTup d = true → Rq K S v d → Rp K S v d
  | _, _, _, .non => .non
  | _, _, _, .bl b => .bl b
  | _, _, _, .int i => .int i
  | _, _, _, .str x => .str x
  | .list ds, _, c, .lst h r => .lst h (RqL.rp (ds := ds) (by simpa [noTup] using c) r)
  | .tuple ds, _, c, .tup h r => by simp [noTup] at c
  | .dict _, _, c, .dct _ _ => by simp [noTup] at c
theorem RqL.rp {S : Hp} : ∀ {ds : List PyData} {vs : List V}, noTups ds = true → RqL K S vs ds → RpL K S vs ds
  | _, _, _, .nil => .nil
  | d :: ds, _, c, .cons a b => by
    have c' : noTup d = true ∧ noTups ds = true := by simpa [noTups] using c
    exact .cons (Rq.rp c'.1 a) (RqL.rp c'.2 b)
end
def reprOk (x : PyData) : Prop := noTup x = true ∧ x.showable = true ∧ x.depth ≤ 60 ∧ x.shown.length ≤ sizeLine
instance (x : PyData) : Decidable (reprOk x) := by unfold reprOk; infer_instance
def reprF : List PyData → Option PyData
  | [x] => if reprOk x then some (.str x.shown) else none
  | _ => none
theorem val_repr : ValN K reprF (rRepr K) := fun S H vs ds z Q s n r e q => by
  unfold reprF at e
  split at e
  · split at e
    · rename_i ok
      cases e
      obtain ⟨v, rfl, rv⟩ := r.one
      exact ⟨v, _, rfl, Rq.rp ok.1 (rv.rqH s), ok.2.1, ok.2.2.1, ok.2.2.2, q _ S H (Gro.refl s n) (.str _)⟩
    · cases e
  · cases e
/-! ### f(.., b = y, a = x): all by name, in any order -/
def pick {α : Type} (ix : List Nat) (l : List α) : List α := ix.filterMap fun i => l[i]?
theorem vals_pick {zs : List V} {ws : List Value} (r : Vals zs ws) : ∀ ix : List Nat, Vals (pick ix zs) (pick ix ws)
  | [] => .nil
  | i :: ix => by
    have ih := vals_pick r ix
    unfold pick at ih ⊢
    rw [List.filterMap_cons, List.filterMap_cons]
    cases h : zs[i]? with
    | none =>
      have : ws[i]? = none := by
        rw [List.getElem?_eq_none_iff] at h ⊢
        rw [← r.length]; exact h
      rw [this]; exact ih
    | some z =>
      obtain ⟨u, hu, ru⟩ := r.get h
      rw [hu]
      exact .cons ru ih
theorem rqL_pick {S : Hp} {zs : List V} {xs : List PyData} (r : RqL K S zs xs) : ∀ ix : List Nat, RqL K S (pick ix zs) (pick ix xs)
  | [] => .nil
  | i :: ix => by
    have ih := rqL_pick r ix
    unfold pick at ih ⊢
    rw [List.filterMap_cons, List.filterMap_cons]
    cases h : zs[i]? with
    | none =>
      have : xs[i]? = none := by
        rw [List.getElem?_eq_none_iff] at h ⊢
        rw [← r.length]; exact h
      rw [this]; exact ih
    | some z =>
      obtain ⟨u, hu, ru⟩ := r.get h
      rw [hu]
      exact .cons ru ih
section
variable {X : Cx} {k : Nat} {f : Addr} {fd : FuncData} {ps ks : List Str} {x : Str} {p pos : Pos} {kws : List Keyword} {T : List Addr}
def tKw (sp : Sp) (n : Nat) (ix : List Nat) (tk : TA) : TE := fun σ H Q => tk σ H fun zs H2 => zs.length = n ∧ sp (pick ix zs) H2 Q E0
theorem pe_callGK {sp : Sp} {tk : TA} {ix : List Nat} (F : FnG X.prog X.w X.K X.mg X.base k f fd ps sp) (hr : Room k X.A) (hgd : X.A.guards = some []) (hg : Gl X x) (hm : X.mg x = some (.ref f)) (hk : PySem.W.keepIn X.K (.ref f) = true) (hb : ∀ (s : Shared) (ws : List Value), ws.length = ks.length → BindsTo s fd ⟨[], ks.zip ws⟩ (ps.zip (pick ix ws)))
    (hkw : PK X kws tk) (hall : (backToKw pos (keywordEach kws X.env)).all (·.1.isSome) = true := by rfl) (hks : (backToKw pos (keywordEach kws X.env)).filterMap (·.1) = ks := by rfl)
    (hdb : (x == ("__debug__" : Str)) = false := by decide)
    (hpl : ((backTo pos (starEach [] X.env)).any (·.1) || (backToKw pos (keywordEach kws X.env)).any (·.1.isNone)) = false := by rfl) :
    PE X (.Call (.Name x p) [] kws pos) (tKw sp ks.length ix tk) := by
  refine ⟨fun pins s σ H Q I h => ?_⟩
  refine wpAny_Call_Name_kw (ld_glob I hg hm ?_ hdb)
  refine PySem.W.callWith_KW0 (h₀ := X.base) I.ok.mod.kin hk hall (thn (hkw.run pos pins s σ H _ I h) fun ws s2 ⟨zs, H2, I2, rz, hz, q2⟩ => ⟨I2.kIn, ?_⟩) hpl
  rw [hks]
  refine wpAny_call (codeAny_mono (F.run X.A X.stack s2 H2 ⟨[], ks.zip ws⟩ (pick ix ws) (pick ix zs) Q hr hgd I2.env0 (hb s2 ws (by rw [← rz.length]; exact hz)) (vals_pick rz ix) q2) fun r s' hq => ?_)
  cases r with
  | error e => exact hq.elim
  | ok fl =>
    cases fl with
    | ret u => exact I2.after hq
    | next => exact hq.elim
    | brk => exact hq.elim
    | cont => exact hq.elim
theorem pk_imp {t t' : TA} (h : PK X kws t) (i : ∀ σ H Q, t' σ H Q → t σ H Q) : PK X kws t' := ⟨fun pos pins s σ H Q I w => h.run pos pins s σ H Q I (i σ H Q w)⟩
theorem ek_nil : PK X [] (tAr X.K T nilA) := by
  refine pk_imp pk_nil fun σ H Q w => ?_
  obtain ⟨S, lo, st, at', x, lo', e, q⟩ := w
  cases e
  exact q [] S H st .nil (Ext.refl _ _ _)
theorem ek_cons {kpos : Pos} {nm : Option Str} {e : Expr} {g : GE} {kk : GA} (h : PE X e (tE X.K T g)) (hr : PK X kws (tAr X.K T kk)) : PK X (⟨nm, e, kpos⟩ :: kws) (tAr X.K T (consA g kk)) := by
  refine pk_imp (pk_cons h hr) fun σ H Q w => ?_
  obtain ⟨S, lo, st, at', xs, lo', e, q⟩ := w
  obtain ⟨p, e1, e2⟩ := Option.bind_eq_some_iff.mp e
  obtain ⟨r, e3, e4⟩ := Option.bind_eq_some_iff.mp e2
  cases e4
  refine ⟨S, lo, st, at', p.1, p.2, e1, fun v S1 H1 st1 r1 x1 => ?_⟩
  exact ⟨S1, p.2, st1, at'.ext x1, r.1, r.2, e3, fun vs S2 H2 st2 r2 x2 => q (v :: vs) S2 H2 st2 (.cons (Rq.sub x2.sub r1) r2) (x1.trans x2)⟩
def callKF (fn : List PyData → Option PyData) (n : Nat) (ix : List Nat) (g : GA) : GE := fun lo => (g lo).bind fun p => if p.1.length = n then (fn (pick ix p.1)).bind fun z => some (z, p.2) else none
theorem ev_callK {fn : List PyData → Option PyData} {g : GA} {ix : List Nat} (F : FnG X.prog X.w X.K X.mg X.base k f fd ps (spD X.K T fn)) (hr : Room k X.A) (hgd : X.A.guards = some []) (hg : Gl X x) (hm : X.mg x = some (.ref f)) (hk : PySem.W.keepIn X.K (.ref f) = true) (hb : ∀ (s : Shared) (ws : List Value), ws.length = ks.length → BindsTo s fd ⟨[], ks.zip ws⟩ (ps.zip (pick ix ws)))
    (hkw : PK X kws (tAr X.K T g)) (hall : (backToKw pos (keywordEach kws X.env)).all (·.1.isSome) = true := by rfl) (hks : (backToKw pos (keywordEach kws X.env)).filterMap (·.1) = ks := by rfl)
    (hdb : (x == ("__debug__" : Str)) = false := by decide)
    (hpl : ((backTo pos (starEach [] X.env)).any (·.1) || (backToKw pos (keywordEach kws X.env)).any (·.1.isNone)) = false := by rfl) :
    PE X (.Call (.Name x p) [] kws pos) (tE X.K T (callKF fn ks.length ix g)) := by
  refine pe_imp (pe_callGK F hr hgd hg hm hk hb hkw hall hks hdb hpl) fun σ H Q w => ?_
  obtain ⟨S, lo, st, at', z, lo', e, q⟩ := w
  obtain ⟨p, e1, e2⟩ := Option.bind_eq_some_iff.mp e
  split at e2
  · rename_i hn
    obtain ⟨z', e3, e4⟩ := Option.bind_eq_some_iff.mp e2
    cases e4
    refine ⟨S, lo, st, at', p.1, p.2, e1, fun vs S1 H1 st1 r1 x1 => ⟨by rw [r1.length]; exact hn, ?_⟩⟩
    refine ⟨S1, pick ix p.1, st1.sub, st1.noT, rqL_pick r1 ix, at'.ext x1, z, e3, fun v S2 H2 sb nt rv x2 => ?_⟩
    obtain ⟨st2, x2'⟩ := st1.called x2 sb nt
    exact q v S2 H2 st2 rv (x1.trans x2')
  · cases e2
end
end Ev

namespace Ev
open PySem PySem.Spec PyProof.Rows L2 Tb
section
variable {X : Cx} {T : List Addr} {pos : Pos} {a b c : Expr} {ga gb gc : GE} {r : R2} {f : PyData → PyData → Option PyData} {i : Nat}
/-! operators with a list of one's own, by its name -/
theorem ev_opL {op : Operator} (ho : OpR X (binaryOp op) r) (v : Val2 X.K f r) (ha : PE X a (tVar i)) (hb : PE X b (tE X.K T gb)) : PE X (.BinOp a op b pos) (tE X.K T (op2L f i gb)) :=
  pe_imp (pe_op ho ha hb) fun _ _ _ w => tOpL_of v w
theorem ev_opR {op : Operator} (ho : OpR X (binaryOp op) r) (v : Val2 X.K f r) (ha : PE X a (tE X.K T ga)) (hb : PE X b (tVar i)) : PE X (.BinOp a op b pos) (tE X.K T (op2R f ga i)) :=
  pe_imp (pe_op ho ha hb) fun _ _ _ w => tOpR_of v w
theorem ev_cmpL {op : CmpOp} (ho : OpR X (compareOp op) r) (v : Val2 X.K f r) (ha : PE X a (tVar i)) (hb : PE X b (tE X.K T gb)) (hm : behindInMarks op b = false) : PE X (.Compare a [op] [b] pos) (tE X.K T (op2L f i gb)) :=
  pe_imp (pe_cmpR ho ha hb hm) fun _ _ _ w => tOpL_of v w
theorem ev_cmpR {op : CmpOp} (ho : OpR X (compareOp op) r) (v : Val2 X.K f r) (ha : PE X a (tE X.K T ga)) (hb : PE X b (tVar i)) (hm : behindInMarks op b = false) : PE X (.Compare a [op] [b] pos) (tE X.K T (op2R f ga i)) :=
  pe_imp (pe_cmpR ho ha hb hm) fun _ _ _ w => tOpR_of v w
theorem ev_ixL (ho : IxR X r) (v : Val2 X.K f r) (ha : PE X a (tVar i)) (hb : PE X b (tE X.K T gb)) (hs : PlainIx b) : PE X (.Subscript a b pos) (tE X.K T (op2L f i gb)) :=
  pe_imp (pe_ix ho ha hb hs) fun _ _ _ w => tOpL_of v w
theorem et_cmpL {op : CmpOp} (ho : OpR X (compareOp op) r) (v : Val2 X.K f r) (ha : PE X a (tVar i)) (hb : PE X b (tE X.K T gb)) (hm : behindInMarks op b = false) : PT X (.Compare a [op] [b] pos) (tT X.K T (bF (op2L f i gb))) :=
  pt_imp (pt_cmpR ho ha hb hm) fun σ H Q w => by
    have := tB_of w
    exact tOpL_of (Q := fun x H' => ∃ k, x = .bl k ∧ Q k H') v this
theorem et_cmpR {op : CmpOp} (ho : OpR X (compareOp op) r) (v : Val2 X.K f r) (ha : PE X a (tE X.K T ga)) (hb : PE X b (tVar i)) (hm : behindInMarks op b = false) : PT X (.Compare a [op] [b] pos) (tT X.K T (bF (op2R f ga i))) :=
  pt_imp (pt_cmpR ho ha hb hm) fun σ H Q w => by
    have := tB_of w
    exact tOpR_of (Q := fun x H' => ∃ k, x = .bl k ∧ Q k H') v this
/-! a op b op' c -/
def chF (f f' : PyData → PyData → Option PyData) (ga gb gc : GE) : GE := fun lo => (ga lo).bind fun p => (gb p.2).bind fun q => (f p.1 q.1).bind fun z => match z with
  | .bool true => (gc q.2).bind fun u => (f' q.1 u.1).bind fun y => some (y, u.2)
  | .bool false => some (.bool false, q.2)
  | _ => none
theorem tCh_of {r' : R2} {f' : PyData → PyData → Option PyData} (v : Val2 X.K f r) (v' : Val2 X.K f' r') {σ : L2.St} {H : Hp} {Q : VK} (w : tE X.K T (chF f f' ga gb gc) σ H Q) : tChain r r' (tE X.K T ga) (tE X.K T gb) (tE X.K T gc) σ H Q := by
  obtain ⟨S, lo, st, at', x, lo', e, q⟩ := w
  obtain ⟨p, e1, e⟩ := Option.bind_eq_some_iff.mp e
  obtain ⟨y, e2, e⟩ := Option.bind_eq_some_iff.mp e
  obtain ⟨z, e3, e⟩ := Option.bind_eq_some_iff.mp e
  refine ⟨S, lo, st, at', p.1, p.2, e1, fun w1 S1 H1 st1 r1 x1 => ⟨S1, p.2, st1, at'.ext x1, y.1, y.2, e2, fun w2 S2 H2 st2 r2 x2 => ?_⟩⟩
  refine v S2 H2 w1 w2 p.1 y.1 z _ st2.sub st2.noT (.of (Rq.sub x2.sub r1)) (.of r2) e3 fun w3 S3 H3 g3 r3 => ?_
  have st3 := st2.gro g3
  have x3 := (x1.trans x2).trans g3.ext
  split at e
  · obtain ⟨u, e4, e⟩ := Option.bind_eq_some_iff.mp e
    obtain ⟨y', e5, e⟩ := Option.bind_eq_some_iff.mp e
    cases e
    cases r3
    refine ⟨true, rfl, ?_⟩
    rw [if_pos rfl]
    refine ⟨S3, y.2, st3, at'.ext x3, u.1, u.2, e4, fun w4 S4 H4 st4 r4 x4 => ?_⟩
    exact v' S4 H4 w2 w4 y.1 u.1 x _ st4.sub st4.noT (.of (Rq.sub (g3.subS.trans x4.sub) r2)) (.of r4) e5 fun w5 S5 H5 g5 r5 => q w5 S5 H5 (st4.gro g5) r5 ((x3.trans x4).trans g5.ext)
  · cases e
    cases r3
    refine ⟨false, rfl, ?_⟩
    rw [if_neg Bool.false_ne_true]
    exact q _ S3 H3 st3 (.bl _) x3
  · cases e
theorem ev_chain {op op' : CmpOp} {r' : R2} {f' : PyData → PyData → Option PyData} (ho : OpR X (compareOp op) r) (v : Val2 X.K f r) (ho' : OpR X (compareOp op') r') (v' : Val2 X.K f' r') (ha : PE X a (tE X.K T ga)) (hb : PE X b (tE X.K T gb)) (hc : PE X c (tE X.K T gc))
    (hm : lastMarks [op, op'] [b, c] = false := by with_unfolding_all rfl) : PE X (.Compare a [op, op'] [b, c] pos) (tE X.K T (chF f f' ga gb gc)) :=
  pe_imp (pe_chain ho ho' ha hb hc hm) fun _ _ _ w => tCh_of v v' w
theorem et_chain {op op' : CmpOp} {r' : R2} {f' : PyData → PyData → Option PyData} (ho : OpR X (compareOp op) r) (v : Val2 X.K f r) (ho' : OpR X (compareOp op') r') (v' : Val2 X.K f' r') (ha : PE X a (tE X.K T ga)) (hb : PE X b (tE X.K T gb)) (hc : PE X c (tE X.K T gc))
    (hm : lastMarks [op, op'] [b, c] = false := by with_unfolding_all rfl) : PT X (.Compare a [op, op'] [b, c] pos) (tT X.K T (bF (chF f f' ga gb gc))) :=
  pt_imp (pt_chain ho ho' ha hb hc hm) fun σ H Q w => tCh_of (Q := fun x H' => ∃ k, x = .bl k ∧ Q k H') v v' (tB_of w)
theorem ev_glob {x : Str} {i : Int} {t : Tok} (hg : Gl X x) (hm : X.mg x = some (.int i t)) (hdb : (x == ("__debug__" : Str)) = false := by decide) : PE X (.Name x pos) (tE X.K T (cF (.int i))) := ev_c (pe_glob (v := .int i) hg hm ⟨_, rfl⟩ hdb) fun _ => .int i
end
section
variable {K : PySem.W.Frag} {P : Program} {w : World} {mg : Str → Option Value} {base : Heap} {N ps : List Str} {qual x : Str} {st : Stmt} {f c : Addr} {fd : FuncData} {k n m : Nat} {T : List Addr} {g : GS}
theorem fnD1 {r : List PyData → Option PyData} (hr : r = runD n m g) (F : Fun K x qual st f fd) (S : FnScope N ps (defScope st)) (hn : ps.length = n) (hm : N.length = m) (hb : ∀ (cdv : Value) (A : Around) (outer : List Env) (s : Shared) (H : Hp), Room k (cxC P w K mg base N qual st f cdv A outer s H).A → A.guards = some [] → PSs (cxC P w K mg base N qual st f cdv A outer s H) (defBody st) (tS K T false g)) :
    FnG P w K mg base (k + 1) f fd ps (spD K T r) := by
  subst hr hn hm
  exact fnD F S hb
theorem fnDC1 {r : List PyData → Option PyData} (hr : r = runD n m g) (F : FunC K x qual st f fd c) (S : FnScope N ps (defScope st)) (hn : ps.length = n) (hm : N.length = m) (hb : ∀ (A : Around) (outer : List Env) (s : Shared) (H : Hp), Room k (cxC P w K mg base N qual st f (.ref c) A outer s H).A → A.guards = some [] → PSs (cxC P w K mg base N qual st f (.ref c) A outer s H) (defBody st) (tS K T false g)) :
    FnG P w K mg base (k + 1) f fd ps (spD K T r) := by
  subst hr hn hm
  exact fnDC F S hb
theorem fnB1 {r : List PyData → List PyData → Option (PyData × List PyData)} (hr : r = runB n m g) (F : Fun K x qual st f fd) (S : FnScope N ps (defScope st)) (hn : ps.length = n) (hm : N.length = m) (hb : ∀ (cdv : Value) (A : Around) (outer : List Env) (s : Shared) (H : Hp), Room k (cxC P w K mg base N qual st f cdv A outer s H).A → A.guards = some [] → PSs (cxC P w K mg base N qual st f cdv A outer s H) (defBody st) (tS K T true g)) :
    FnG P w K mg base (k + 1) f fd ps (spB K T r) := by
  subst hr hn hm
  exact fnB F S hb
theorem fnBC1 {r : List PyData → List PyData → Option (PyData × List PyData)} (hr : r = runB n m g) (F : FunC K x qual st f fd c) (S : FnScope N ps (defScope st)) (hn : ps.length = n) (hm : N.length = m) (hb : ∀ (A : Around) (outer : List Env) (s : Shared) (H : Hp), Room k (cxC P w K mg base N qual st f (.ref c) A outer s H).A → A.guards = some [] → PSs (cxC P w K mg base N qual st f (.ref c) A outer s H) (defBody st) (tS K T true g)) :
    FnG P w K mg base (k + 1) f fd ps (spB K T r) := by
  subst hr hn hm
  exact fnBC F S hb
end
end Ev

/-! What is told as a pair, its second item a new list that nothing else holds. -/
namespace Ev
open PySem PySem.Spec PyProof.Rows L2 Tb
variable {K : PySem.W.Frag}
abbrev GW := Lo → Option ((PyData × List PyData) × Lo)
def tW (K : PySem.W.Frag) (T : List Addr) (g : GW) : TE := fun σ H Q => ∃ S lo, Stt K S H σ lo ∧ AllT T H ∧ ∃ y lo', g lo = some (y, lo') ∧
  ∀ p c v us S' H', Stt K S' H' σ lo' → H' p = some (.tup [v, .ref c]) → H' c = some (.lst us) → Rq K S' v y.1 → RqL K S' us y.2 → S' c = none → ¬ Own σ lo' c → (Own σ lo c ∨ Fz H c) → Ext (Own σ lo) S H S' H' (Own σ lo') → Q (.ref p) H'
def spW (K : PySem.W.Frag) (T : List Addr) (fn : List PyData → Option (PyData × List PyData)) : Sp := fun vs H Q _ => ∃ S xs, Sub S H ∧ NoT S ∧ RqL K S vs xs ∧ AllT T H ∧ ∃ y, fn xs = some y ∧
  ∀ p c v us S' H', Sub S' H' → NoT S' → H' p = some (.tup [v, .ref c]) → H' c = some (.lst us) → Rq K S' v y.1 → RqL K S' us y.2 → S' c = none → Fz H c → ExtN S H S' H' → Q (.ref p) H'
section
variable {X : Cx} {T : List Addr} {pos p p2 pos2 : Pos} {pin : Bool} {a b e : Expr} {es : List Expr} {g ga gb : GE} {ga' : GA} {gl gl' : GL}
noncomputable def sortL (g : GE) : GL := fun lo => (g lo).bind fun p => (kidsD p.1).bind fun xs => if sortOk xs = true then some (srtD xs, p.2) else none
theorem el_sorted (hu : X.A.units + 66 < cLine) (hg : Gl X "sorted") (hm : X.mg "sorted" = none) (ha : PE X a (tE X.K T ga)) (he : starEach [a] X.env = (false, eval a X.env) :: starEach [] X.env := by rfl) : PE X (.Call (.Name "sorted" p) [a] [] pos) (tL X.K T (sortL ga)) := by
  refine pe_imp (pe_callB (cr_sortQ hu) hg hm (by decide +kernel) (pa_cons ha pa_nil he) (by decide) (by decide) he rfl) fun σ H Q w => ?_
  obtain ⟨S, lo, st, at', x, lo', e, q⟩ := w
  obtain ⟨y, e1, e2⟩ := Option.bind_eq_some_iff.mp e
  obtain ⟨xs, e3, e4⟩ := Option.bind_eq_some_iff.mp e2
  split at e4
  · rename_i ok
    cases e4
    refine ⟨S, lo, st, at', y.1, y.2, e1, fun v S1 H1 st1 r1 x1 => ?_⟩
    obtain ⟨c, us, rfl, hs, rl⟩ := (RqT.of (H := H1) r1).seq st1.sub e3
    refine ⟨c, us, xs, rfl, hs, RqL.dpAll (sortOk_iff ok).2.1 (RqL.sub st1.sub rl), ok, fun l ps h1 h2 hl => ?_⟩
    obtain ⟨n1, n2⟩ := st1.not_new hl
    refine q l _ S1 _ (st1.lay hl) upd_same ?_ n2 n1 (x1.fz (fz_none hl)) (x1.trans (Ext.lay hl))
    rw [← h1]
    exact RqL.pairs fun y hy => rl.of_zip y (h2 y hy)
  · cases e4
/-- (e, a new list) -/
def pairW (g : GE) (k : GL) : GW := fun lo => (g lo).bind fun p => (k p.2).bind fun q => some ((p.1, q.1), q.2)
theorem ew_pair {j : Nat} (h : PE X a (tE X.K T ga)) (k : PE X b (tL X.K T gl))
    (he : starEach [a, b] X.env = (false, eval a X.env) :: starEach [b] X.env := by rfl) (he2 : starEach [b] X.env = (false, eval b X.env) :: starEach [] X.env := by rfl) : PE X (.Tuple [a, b] j pos) (tW X.K T (pairW ga gl)) := by
  refine pe_imp (pe_tup (pa_cons h (pa_cons k pa_nil he2) he)) fun σ H Q w => ?_
  obtain ⟨S, lo, st, at', y, lo', e, q⟩ := w
  obtain ⟨x, e1, e2⟩ := Option.bind_eq_some_iff.mp e
  obtain ⟨z, e3, e4⟩ := Option.bind_eq_some_iff.mp e2
  cases e4
  refine ⟨S, lo, st, at', x.1, x.2, e1, fun v S1 H1 st1 r1 x1 => ⟨S1, x.2, st1, at'.ext x1, z.1, z.2, e3, fun c us S2 H2 st2 h2 r2 n1 n2 f2 x2 => ⟨(by show 2 ≤ sizeLine; decide), fun t ht => ?_⟩⟩⟩
  have ne : c ≠ t := ne_of_none h2 ht
  exact q t c v us _ _ (st2.lay ht) upd_same (by rw [upd_ne ne]; exact h2) (Rq.sub x2.sub r1) r2 n1 n2 (f2.elim (fun o => x1.domF c o) fun f => x1.fz f) ((x1.trans x2).trans (Ext.lay ht))
/-- e[1].append(None) -/
def app1F (g : GW) : GE := fun lo => (g lo).bind fun r => if r.1.2.length < sizeLine then some (.none, r.2) else none
theorem ev_app1 {g : GW} {j j2 : Nat} {pi ps ap pn cp : Pos} (h : PE X e (tW X.K T g)) (hbase : attributeBase (.Subscript e (.Constant (.int 1) j pi) ps) "append" X.env (eval (.Subscript e (.Constant (.int 1) j pi) ps) X.env) = eval (.Subscript e (.Constant (.int 1) j pi) ps) X.env := by rfl)
    (hfew : ((backTo cp (starEach [.Constant .none j2 pn] X.env)).all (fun x => !x.1) && (backToKw cp (keywordEach [] X.env)).all (fun x => x.1.isSome) && decide ([Expr.Constant .none j2 pn].length + ([] : List Keyword).length + (if ([] : List Keyword).isEmpty then 0 else 1) < 30)) = true := by rfl)
    (hline : (ap.endLine == cp.line) = true := by rfl) (hs : starEach [.Constant .none j2 pn] X.env = (false, eval (.Constant .none j2 pn) X.env) :: starEach [] X.env := by rfl) :
    PE X (.Call (.Attribute (.Subscript e (.Constant (.int 1) j pi) ps) "append" ap) [.Constant .none j2 pn] [] cp) (tE X.K T (app1F g)) := by
  refine pe_imp (pe_bm PySem.F.plainAttrs_list PySem.F.slot_list_append PySem.F.type_list_append mt_append (pe_ix ix_seq h pe_int (fun _ _ => rfl)) (pa_cons pe_non pa_nil hs) hbase hfew hline hs rfl) fun σ H Q w => ?_
  obtain ⟨S, lo, st, at', x, lo', e, q⟩ := w
  obtain ⟨y, e1, e2⟩ := Option.bind_eq_some_iff.mp e
  split at e2
  · rename_i hz
    cases e2
    refine ⟨S, lo, st, at', y.1, y.2, e1, fun p c v us S1 H1 st1 hp hc rv rl sc no fz x1 => ?_⟩
    refine .inr (.inl ⟨p, [v, .ref c], 1, .ref c, rfl, rfl, .inl (.inl hp), rfl, .inl ⟨rfl, us, .inl (.inl hc)⟩, ⟨c, us, .non, rfl, rfl, hc, by rw [rl.length]; exact hz, ?_⟩⟩)
    have st2 : Stt X.K S1 (upd H1 c (.lst (us ++ [.non]))) σ y.2 := by
      refine ⟨fun b o hb => ?_, st1.noT, st1.len, fun i l hl => ?_, st1.own, st1.inj⟩
      · rw [upd_ne (ne_of_none hb sc)]; exact st1.sub _ _ hb
      · obtain ⟨u, hu, ru⟩ := st1.loc i l hl
        refine ⟨u, hu, ?_⟩
        cases l with
        | dat z => exact ru
        | lst xs =>
          obtain ⟨b, ws, rfl, hb, rb⟩ := ru
          have ne : b ≠ c := fun z => no ⟨i, by rw [← z]; exact hu, xs, hl⟩
          exact ⟨b, ws, rfl, by rw [upd_ne ne]; exact hb, rb⟩
    refine q .non S1 _ st2 .non ⟨fun b o nb hb nt => ?_, fun P t => ?_, x1.sub, x1.domS, x1.domF⟩
    · have ne : b ≠ c := fun z => fz.elim (fun o => nb (z ▸ o)) fun f => f.no (z ▸ hb) nt
      rw [upd_ne ne]; exact x1.keep b o nb hb nt
    · obtain ⟨qs, e3, t3⟩ := x1.tab P t
      have ne : P ≠ c := fun z => fz.elim (fun o => by
        obtain ⟨ws, hw⟩ := st.ownH o
        obtain ⟨ps, h1, _⟩ := t
        rw [z, hw] at h1
        cases h1) fun f => f.2 (z ▸ t)
      exact ⟨qs, by rw [upd_ne ne]; exact e3, t3⟩
  · cases e2
/-! bodies that tell such a pair -/
def tSW (K : PySem.W.Frag) (T : List Addr) (g : GW) : TS := fun D σ H => ∃ S lo, Stt K S H σ lo ∧ AllT T H ∧ ∃ y lo', g lo = some (y, lo') ∧
  ∀ σ' p c v us S' H', Stt K S' H' σ' lo' → H' p = some (.tup [v, .ref c]) → H' c = some (.lst us) → Rq K S' v y.1 → RqL K S' us y.2 → S' c = none → (Own σ lo c ∨ Fz H c) → Ext (Own σ lo) S H S' H' (Own σ' lo') → D.rt (.ref p) H'
theorem esw_ret {g : GW} (h : PE X e (tW X.K T g)) : PS X (.Return (some e) pos) (tSW X.K T g) := by
  refine ps_imp (ps_ret h) fun D σ H w => ?_
  obtain ⟨S, lo, st, at', y, lo', e, q⟩ := w
  exact ⟨S, lo, st, at', y, lo', e, fun p c v us S' H' st' h1 h2 r1 r2 s n f x => q σ p c v us S' H' st' h1 h2 r1 r2 s f x⟩
def seqW (g : GS) (k : GW) : GW := fun lo => (g lo).bind fun p => match p.1 with
  | .nx => k p.2
  | _ => none
theorem esw_cons {st : Stmt} {rest : List Stmt} {g : GS} {k : GW} (h : PS X st (tS X.K T false g)) (hk : PSs X rest (tSW X.K T k)) : PSs X (st :: rest) (tSW X.K T (seqW g k)) := by
  refine pss_imp (pss_cons h hk) fun D σ H w => ?_
  obtain ⟨S, lo, st, at', y, lo', e, q⟩ := w
  obtain ⟨p, e1, e2⟩ := Option.bind_eq_some_iff.mp e
  obtain ⟨o1, l1⟩ := p
  cases o1 with
  | nx =>
    refine ⟨S, lo, st, at', .nx, l1, e1, fun σ1 S1 H1 st1 x1 _ => ⟨S1, l1, st1, at'.ext x1, y, lo', e2, fun σ2 p c v us S2 H2 st2 h1 h2 r1 r2 s f x2 => ?_⟩⟩
    exact q σ2 p c v us S2 H2 st2 h1 h2 r1 r2 s (f.elim (fun o => x1.domF c o) fun f => x1.fz f) (x1.trans x2)
  | rt _ => cases e2
  | bk => cases e2
  | ct => cases e2
theorem esw_one {st : Stmt} {g : GW} (h : PS X st (tSW X.K T g)) : PSs X [st] (tSW X.K T g) := pss_one h
end
def runW (n N : Nat) (g : GW) (xs : List PyData) : Option (PyData × List PyData) := if xs.length = n then (g (lo0 xs (N - n))).bind fun p => some p.1 else none
section
variable {P : Program} {w : World} {mg : Str → Option Value} {base : Heap} {N ps : List Str} {qual x : Str} {st : Stmt} {f c : Addr} {fd : FuncData} {k n m : Nat} {T : List Addr} {g : GW}
theorem spW_len {n N : Nat} {g : GW} {vs : List V} {H : Hp} {Q : VK} {E : XK} (h : spW K T (runW n N g) vs H Q E) : vs.length = n := by
  obtain ⟨S, xs, _, _, r, _, y, e, _⟩ := h
  unfold runW at e
  split at e
  · rename_i z
    rw [r.length]; exact z
  · cases e
theorem readW {vs : List V} {H : Hp} {Q : VK} {E : XK} (h : spW K T (runW ps.length N.length g) vs H Q E) : tSW K T g { nx := fun _ H' => Q .non H', rt := Q } (start N vs) H := by
  have hl := spW_len h
  obtain ⟨S, xs, s, n, r, a, y, e, q⟩ := h
  unfold runW at e
  split at e
  · obtain ⟨p, e1, e2⟩ := Option.bind_eq_some_iff.mp e
    cases e2
    obtain ⟨s0, no⟩ := stt0 s n r (N.length - vs.length)
    refine ⟨S, _, s0, a, p.1, p.2, by rw [hl]; exact e1, fun σ' t c v us S' H' st' h1 h2 r1 r2 sc f x' => ?_⟩
    exact q t c v us S' H' st'.sub st'.noT h1 h2 r1 r2 sc (f.resolve_left (no c)) ⟨fun b o _ => x'.keep b o (no b), x'.tab, x'.sub, fun b hb => (x'.domS b hb).imp id (Or.imp (no b) id), fun b hb => hb.elim⟩
  · cases e
theorem fnW1 {r : List PyData → Option (PyData × List PyData)} (hr : r = runW n m g) (F : Fun K x qual st f fd) (S : FnScope N ps (defScope st)) (hn : ps.length = n) (hm : N.length = m) (hb : ∀ (cdv : Value) (A : Around) (outer : List Env) (s : Shared) (H : Hp), Room k (cxC P w K mg base N qual st f cdv A outer s H).A → A.guards = some [] → PSs (cxC P w K mg base N qual st f cdv A outer s H) (defBody st) (tSW K T g)) :
    FnG P w K mg base (k + 1) f fd ps (spW K T r) := by
  subst hr hn hm
  exact Tb.okG F S (fun vs H Q E h => spW_len h) fun cdv A outer s H vs Q hr hgd h => ⟨_, hb cdv A outer s H hr hgd, readW h⟩
end
section
variable {X : Cx} {T : List Addr} {pos p : Pos} {k : Nat} {f : Addr} {fd : FuncData} {ps : List Str} {x : Str} {e : Expr} {es : List Expr}
def callWF (fn : List PyData → Option (PyData × List PyData)) (g : GA) : GW := fun lo => (g lo).bind fun p => (fn p.1).bind fun z => some (z, p.2)
theorem ew_call {fn : List PyData → Option (PyData × List PyData)} {g : GA} (F : FnG X.prog X.w X.K X.mg X.base k f fd ps (spW X.K T fn)) (hr : Room k X.A) (hgd : X.A.guards = some []) (hg : Gl X x) (hm : X.mg x = some (.ref f)) (hk : PySem.W.keepIn X.K (.ref f) = true) (hb : Binds X.K fd ps [])
    (ha : PA X (e :: es) (tAr X.K T g)) (hdb : (x == ("__debug__" : Str)) = false := by decide) (he : starEach (e :: es) X.env = (false, eval e X.env) :: starEach es X.env := by rfl) (hpl : (backTo pos (starEach es X.env)).any (·.1) = false := by rfl) :
    PE X (.Call (.Name x p) (e :: es) [] pos) (tW X.K T (callWF fn g)) := by
  refine pe_imp (pe_callG F hr hgd hg hm hk hb ha hdb he hpl) fun σ H Q w => ?_
  obtain ⟨S, lo, st, at', z, lo', e, q⟩ := w
  obtain ⟨y, e1, e2⟩ := Option.bind_eq_some_iff.mp e
  obtain ⟨z', e3, e4⟩ := Option.bind_eq_some_iff.mp e2
  cases e4
  refine ⟨S, lo, st, at', y.1, y.2, e1, fun vs S1 H1 st1 r1 x1 => ?_⟩
  show spW X.K T fn (vs ++ []) H1 Q E0
  rw [List.append_nil]
  refine ⟨S1, y.1, st1.sub, st1.noT, r1, at'.ext x1, z, e3, fun t c v us S2 H2 sb nt h1 h2 rv rl sc fz x2 => ?_⟩
  obtain ⟨st2, x2'⟩ := st1.called x2 sb nt
  refine q t c v us S2 H2 st2 h1 h2 rv rl sc (fun o => ?_) (x1.fz fz) (x1.trans x2')
  obtain ⟨ws, hw⟩ := st1.ownH o
  exact fz.no hw fun ps z => by cases z
end
end Ev

namespace Ev
open PySem PySem.Spec PyProof.Rows L2 Tb
/-! _law_draw(_law_pot_here, _law_many): 0 _law_pot_here, 1 _law_many, 2 _law_digit -/
noncomputable def g__law_draw : GS := (seqS (ifS (bF (op2 gtF (op2L ixF 0 (cF (.int 0))) (cF (.int 0)))) (seqS (asgS (callF divmodF (consA (op2L ixF 0 (cF (.int 0))) (consA (vF 1) nilA))) (tpG 2 (consGs (subG 0 0) (consGs (nmG 2) nilGs))))
  (retS (vF 2))) nilS)
  (seqS (stoS 0 (op2 modF (op2 addF (op2 mulF (op2L ixF 0 (cF (.int 1))) (cF (.int 48271))) (cF (.int 151))) (cF (.int 2147483587))) (cF (.int 1)))
  (retS (op2 modF (op2 fdivF (op2 modF (op2 mulF (op2L ixF 0 (cF (.int 1))) (op2L ixF 0 (cF (.int 1)))) (cF (.int 2147483549))) (cF (.int 13))) (vF 1)))))
noncomputable def r__law_draw : List PyData → List PyData → Option (PyData × List PyData) := runB 2 3 g__law_draw
/-! _law_web(_law_pot_here, _law_least, _law_most): 0 _law_pot_here, 1 _law_least, 2 _law_most, 3 _law_many, 4 _law_ties, 5 _law_low, 6 _law_high -/
noncomputable def g__law_web : GS := (seqS (parEL (op2 addF (vF 1) (callBF r__law_draw 0 (consA (op2 addF (op2 subF (vF 2) (vF 1)) (cF (.int 1))) nilA))) (lstL nilA) 3 4)
  (seqS (forS (rg1I (consA (vF 3) nilA)) (nmG 5) (forS (rg2I (consA (op2 addF (vF 5) (cF (.int 1))) (consA (vF 3) nilA))) (nmG 6) (ifS (bF (op2 eqF (callBF r__law_draw 0 (consA (cF (.int 2)) nilA)) (cF (.int 0)))) (dropS (appS 4 (tupF (consA (vF 5) (consA (vF 6) nilA))))) nilS)))
  (retS (tupF (consA (vF 3) (consA (frzF 4) nilA))))))
noncomputable def r__law_web : List PyData → List PyData → Option (PyData × List PyData) := runB 3 7 g__law_web
/-! is_integer(value): 0 value -/
noncomputable def g_is_integer : GS := (retS (andE (un1 (isF isIB) (vF 0)) (notE (un1 (isF isB) (vF 0)))))
noncomputable def r_is_integer : List PyData → Option PyData := runD 1 1 g_is_integer
/-! is_list(value): 0 value -/
noncomputable def g_is_list : GS := (retS (un1 (isF isSq) (vF 0)))
noncomputable def r_is_list : List PyData → Option PyData := runD 1 1 g_is_list
/-! is_count(value): 0 value -/
noncomputable def g_is_count : GS := (retS (andE (callF r_is_integer (consA (vF 0) nilA)) (op2 geF (vF 0) (cF (.int 0)))))
noncomputable def r_is_count : List PyData → Option PyData := runD 1 1 g_is_count
/-! is_count_below(value, bound): 0 value, 1 bound -/
noncomputable def g_is_count_below : GS := (retS (andE (callF r_is_count (consA (vF 0) nilA)) (op2 ltF (vF 0) (vF 1))))
noncomputable def r_is_count_below : List PyData → Option PyData := runD 2 2 g_is_count_below
/-! is_tie(value, many): 0 value, 1 many -/
noncomputable def g_is_tie : GS := (seqS (ifS (orT (notT (bF (un1 (isF isTp) (vF 0)))) (bF (op2 neF (callF lenF (consA (vF 0) nilA)) (cF (.int 2))))) (retS (cF (.bool false))) nilS)
  (retS (andE (callF r_is_count_below (consA (op2 ixF (vF 0) (cF (.int 0))) (consA (vF 1) nilA))) (callF r_is_count_below (consA (op2 ixF (vF 0) (cF (.int 1))) (consA (vF 1) nilA))))))
noncomputable def r_is_tie : List PyData → Option PyData := runD 2 2 g_is_tie
/-! is_web(value): 0 value, 1 many, 2 ties, 3 tie -/
noncomputable def g_is_web : GS := (seqS (ifS (orT (notT (bF (un1 (isF isTp) (vF 0)))) (bF (op2 neF (callF lenF (consA (vF 0) nilA)) (cF (.int 2))))) (retS (cF (.bool false))) nilS)
  (seqS (asgS (vF 0) (tpG 2 (consGs (nmG 1) (consGs (nmG 2) nilGs))))
  (seqS (ifS (orT (notT (bF (callF r_is_integer (consA (vF 1) nilA)))) (orT (notT (bF (chF leF leF (cF (.int 1)) (vF 1) (cF (.int 6))))) (notT (bF (callF r_is_list (consA (vF 2) nilA)))))) (retS (cF (.bool false))) nilS)
  (retS (andE (allF (seqI (vF 2)) 3 (andE (callF r_is_tie (consA (vF 3) (consA (vF 1) nilA))) (op2 ltF (op2 ixF (vF 3) (cF (.int 0))) (op2 ixF (vF 3) (cF (.int 1))))) true) (op2 eqF (un1 lenSetF (vF 2)) (callF lenF (consA (vF 2) nilA))))))))
noncomputable def r_is_web : List PyData → Option PyData := runD 1 4 g_is_web
/-! check_web(value): 0 value -/
noncomputable def g_check_web : GS := (ifS (notT (bF (callF r_is_web (consA (vF 0) nilA)))) neverS nilS)
noncomputable def r_check_web : List PyData → Option PyData := runD 1 1 g_check_web
/-! copies_of(web): 0 web -/
noncomputable def g_copies_of : GS := (retS (listRgF (op2 ixF (vF 0) (cF (.int 0)))))
noncomputable def r_copies_of : List PyData → Option PyData := runD 1 1 g_copies_of
/-! are_tied(web, one, other): 0 web, 1 one, 2 other -/
noncomputable def g_are_tied : GS := (retS (op2 inF (tupF (consA (callF min2F (consA (vF 1) (consA (vF 2) nilA))) (consA (callF max2F (consA (vF 1) (consA (vF 2) nilA))) nilA))) (op2 ixF (vF 0) (cF (.int 1)))))
noncomputable def r_are_tied : List PyData → Option PyData := runD 3 3 g_are_tied
/-! neighbours_of(web, copy): 0 web, 1 copy, 2 other -/
noncomputable def g_neighbours_of : GS := (retS (lcF (seqI (callF r_copies_of (consA (vF 0) nilA))) [2] (nmG 2) (bF (callF r_are_tied (consA (vF 0) (consA (vF 1) (consA (vF 2) nilA))))) (vF 2)))
noncomputable def r_neighbours_of : List PyData → Option PyData := runD 2 3 g_neighbours_of
/-! first_ring(web): 0 web, 1 paths, 2 copy, 3 path -/
noncomputable def g_first_ring : GS := (seqS (setLcS (lcF (seqI (callF r_copies_of (consA (vF 0) nilA))) [2] (nmG 2) yesT (lstF (consA (vF 2) nilA))) 1)
  (seqS (whileS (truT (vF 1)) (seqS (forS (seqI (vF 1)) (nmG 3) (ifS (andT (bF (op2 gtF (callF lenF (consA (vF 3) nilA)) (cF (.int 2)))) (bF (callF r_are_tied (consA (vF 0) (consA (op2 ixF (vF 3) (cF (.int 0))) (consA (op2 ixF (vF 3) (un1 negF (cF (.int 1)))) nilA)))))) (retS (vF 3)) nilS))
  (setLcS (lc2F (seqI (vF 1)) [3, 2] (nmG 3) yesT (seqI (callF r_neighbours_of (consA (vF 0) (consA (op2 ixF (vF 3) (un1 negF (cF (.int 1)))) nilA)))) [2] (nmG 2) (bF (op2 notInF (vF 2) (vF 3))) (op2 addF (vF 3) (lstF (consA (vF 2) nilA)))) 1)) 4096)
  (retS (cF .none))))
noncomputable def r_first_ring : List PyData → Option PyData := runD 1 4 g_first_ring
/-! ring(web): 0 web -/
noncomputable def g_ring : GS := (seqS (dropS (callF r_check_web (consA (vF 0) nilA)))
  (retS (callF r_first_ring (consA (vF 0) nilA))))
noncomputable def r_ring : List PyData → Option PyData := runD 1 1 g_ring
/-! _law_near(_law_ties, _law_copy): 0 _law_ties, 1 _law_copy, 2 _law_low, 3 _law_high -/
noncomputable def g__law_near : GS := (retS (callF sortF (consA (op2 addF (lcF (seqI (vF 0)) [2, 3] (tpG 2 (consGs (nmG 2) (consGs (nmG 3) nilGs))) (bF (op2 eqF (vF 2) (vF 1))) (vF 3)) (lcF (seqI (vF 0)) [2, 3] (tpG 2 (consGs (nmG 2) (consGs (nmG 3) nilGs))) (bF (op2 eqF (vF 3) (vF 1))) (vF 2))) nilA)))
noncomputable def r__law_near : List PyData → Option PyData := runD 2 4 g__law_near
/-! _law_is_ring(_law_ties, _law_value): 0 _law_ties, 1 _law_value, 2 _law_place, 3 _law_copy -/
noncomputable def g__law_is_ring : GS := (seqS (ifS (orT (notT (bF (un1 (isF isLs) (vF 1)))) (orT (bF (op2 ltF (callF lenF (consA (vF 1) nilA)) (cF (.int 3)))) (bF (op2 neF (un1 lenSetF (vF 1)) (callF lenF (consA (vF 1) nilA)))))) (retS (cF (.bool false))) nilS)
  (seqS (forS (enumI (vF 1)) (tpG 2 (consGs (nmG 2) (consGs (nmG 3) nilGs))) (ifS (bF (op2 notInF (op2 ixF (vF 1) (op2 subF (vF 2) (cF (.int 1)))) (callF r__law_near (consA (vF 0) (consA (vF 3) nilA))))) (retS (cF (.bool false))) nilS))
  (retS (cF (.bool true)))))
noncomputable def r__law_is_ring : List PyData → Option PyData := runD 2 4 g__law_is_ring
/-! web_as_told(web): 0 web -/
noncomputable def g_web_as_told : GS := (retS (tupF (consA (op2 ixF (vF 0) (cF (.int 0))) (consA (callF sortF (consA (op2 ixF (vF 0) (cF (.int 1))) nilA)) nilA))))
noncomputable def r_web_as_told : List PyData → Option PyData := runD 1 1 g_web_as_told
noncomputable def gW_web_as_told : GW := (pairW (op2 ixF (vF 0) (cF (.int 0))) (sortL (op2 ixF (vF 0) (cF (.int 1)))))
noncomputable def rW_web_as_told : List PyData → Option (PyData × List PyData) := runW 1 1 gW_web_as_told
/-! told_web(web): 0 web -/
noncomputable def g_told_web : GS := (seqS (dropS (callF r_check_web (consA (vF 0) nilA)))
  (retS (callF r_web_as_told (consA (vF 0) nilA))))
noncomputable def r_told_web : List PyData → Option PyData := runD 1 1 g_told_web
noncomputable def gW_told_web : GW := (seqW (dropS (callF r_check_web (consA (vF 0) nilA))) (callWF rW_web_as_told (consA (vF 0) nilA)))
noncomputable def rW_told_web : List PyData → Option (PyData × List PyData) := runW 1 1 gW_told_web
/-! neighbours(web, copy): 0 web, 1 copy -/
noncomputable def g_neighbours : GS := (seqS (dropS (callF r_check_web (consA (vF 0) nilA)))
  (seqS (ifS (notT (bF (callF r_is_count_below (consA (vF 1) (consA (op2 ixF (vF 0) (cF (.int 0))) nilA))))) neverS nilS)
  (retS (callF r_neighbours_of (consA (vF 0) (consA (vF 1) nilA))))))
noncomputable def r_neighbours : List PyData → Option PyData := runD 2 2 g_neighbours
/-! is_tied_to_some(web, copy, others): 0 web, 1 copy, 2 others, 3 other -/
noncomputable def g_is_tied_to_some : GS := (retS (allF (seqI (vF 2)) 3 (callF r_are_tied (consA (vF 0) (consA (vF 1) (consA (vF 3) nilA)))) false))
noncomputable def r_is_tied_to_some : List PyData → Option PyData := runD 3 4 g_is_tied_to_some
/-! is_joined(web): 0 web, 1 reached, 2 places, 3 copy -/
noncomputable def g_is_joined : GS := (seqS (dropS (callF r_check_web (consA (vF 0) nilA)))
  (seqS (asgS (tupF (consA (lstF (consA (cF (.int 0)) nilA)) (consA (lstF (consA (cF (.int 0)) nilA)) nilA))) (tpG 2 (consGs (nmG 1) (consGs (nmG 2) nilGs))))
  (seqS (whileS (truT (vF 2)) (seqS (asgS (lcF (seqI (callF r_copies_of (consA (vF 0) nilA))) [3] (nmG 3) (andT (bF (op2 notInF (vF 3) (vF 1))) (bF (callF r_is_tied_to_some (consA (vF 0) (consA (vF 3) (consA (vF 2) nilA)))))) (vF 3)) (nmG 2))
  (asgS (op2 addF (vF 1) (vF 2)) (nmG 1))) 4096)
  (retS (op2 eqF (callF lenF (consA (vF 1) nilA)) (op2 ixF (vF 0) (cF (.int 0))))))))
noncomputable def r_is_joined : List PyData → Option PyData := runD 1 4 g_is_joined
/-! has_ring(web): 0 web -/
noncomputable def g_has_ring : GS := (seqS (dropS (callF r_check_web (consA (vF 0) nilA)))
  (retS (op2 notNF (callF r_first_ring (consA (vF 0) nilA)) (cF .none))))
noncomputable def r_has_ring : List PyData → Option PyData := runD 1 1 g_has_ring
/-! _law_piece(_law_ties, _law_copy): 0 _law_ties, 1 _law_copy, 2 _law_found, 3 _law_turn, 4 _law_here, 5 _law_other -/
noncomputable def g__law_piece : GS := (seqS (asgS (lstF (consA (vF 1) nilA)) (nmG 2))
  (seqS (forS (rg1I (consA (cF (.int 6)) nilA)) (nmG 3) (forS (seqI (callF listF (consA (vF 2) nilA))) (nmG 4) (asgS (op2 addF (vF 2) (lcF (seqI (callF r__law_near (consA (vF 0) (consA (vF 4) nilA)))) [5] (nmG 5) (bF (op2 notInF (vF 5) (vF 2))) (vF 5))) (nmG 2))))
  (retS (callF sortF (consA (vF 2) nilA)))))
noncomputable def r__law_piece : List PyData → Option PyData := runD 2 6 g__law_piece
/-! _law_right(_law_pot_here): 0 _law_pot_here, 1 _law_many, 2 _law_ties, 3 _law_left, 4 _law_given, 5 _law_web_here, 6 _law_copy, 7 _law_pieces, 8 _law_due, 9 _law_told -/
noncomputable def g__law_right : GS := (seqS (asgS (callBF r__law_web 0 (consA (cF (.int 1)) (consA (cF (.int 6)) nilA))) (tpG 2 (consGs (nmG 1) (consGs (nmG 2) nilGs))))
  (seqS (parLL (listL (vF 2)) (lstL nilA) 3 4)
  (seqS (whileS (bF (op2L neF 3 (lstF nilA))) (dropS (appS 4 (popF 3 (callBF r__law_draw 0 (consA (callN lenF 3) nilA))))) 4096)
  (seqS (asgS (tupF (consA (vF 1) (consA (ifE (bF (op2 eqF (callBF r__law_draw 0 (consA (cF (.int 2)) nilA)) (cF (.int 0)))) (frzF 4) (callN tupleF 4)) nilA))) (nmG 5))
  (seqS (ifS (orT (bF (op2 notBF (callF r_is_web (consA (vF 5) nilA)) (cF (.bool true)))) (orT (bF (op2 neF (callF r_told_web (consA (vF 5) nilA)) (tupF (consA (vF 1) (consA (vF 2) nilA))))) (notT (bF (un1 (isF isLs) (op2 ixF (callF r_told_web (consA (vF 5) nilA)) (cF (.int 1)))))))) (retS (cF (.bool false))) nilS)
  (seqS (forS (rg1I (consA (vF 1) nilA)) (nmG 6) (ifS (orT (bF (op2 neF (callF r_neighbours (consA (vF 5) (consA (vF 6) nilA))) (callF r__law_near (consA (vF 2) (consA (vF 6) nilA))))) (bF (op2 neF (callKF r_neighbours 2 [1, 0] (consA (vF 6) (consA (vF 5) nilA))) (callF r__law_near (consA (vF 2) (consA (vF 6) nilA)))))) (retS (cF (.bool false))) nilS))
  (seqS (asgS (un1 lenSetF (lcF (rg1I (consA (vF 1) nilA)) [6] (nmG 6) yesT (op2 ixF (callF r__law_piece (consA (vF 2) (consA (vF 6) nilA))) (cF (.int 0))))) (nmG 7))
  (seqS (asgS (lstF (consA (op2 eqF (vF 7) (cF (.int 1))) (consA (op2 gtF (callF lenF (consA (vF 2) nilA)) (op2 subF (vF 1) (vF 7))) nilA))) (nmG 8))
  (seqS (ifS (bF (op2 neF (callF reprF (consA (lstF (consA (callF r_is_joined (consA (vF 5) nilA)) (consA (callF r_has_ring (consA (vF 5) nilA)) nilA))) nilA)) (callF reprF (consA (vF 8) nilA)))) (retS (cF (.bool false))) nilS)
  (seqS (asgS (callF r_ring (consA (vF 5) nilA)) (nmG 9))
  (seqS (ifS (notT (truT (op2 ixF (vF 8) (cF (.int 1))))) (retS (op2 isNF (vF 9) (cF .none))) nilS)
  (seqS (dropS (app1F (callWF rW_told_web (consA (vF 5) nilA))))
  (retS (andE (callF r__law_is_ring (consA (vF 2) (consA (vF 9) nilA))) (op2 eqF (callKF r_told_web 1 [0] (consA (vF 5) nilA)) (tupF (consA (vF 1) (consA (vF 2) nilA))))))))))))))))))
noncomputable def r__law_right : List PyData → List PyData → Option (PyData × List PyData) := runB 1 10 g__law_right
/-! _law_pot(_law_script, _law_k): 0 _law_script, 1 _law_k, 2 _law_cell -/
noncomputable def g__law_pot : GS := (seqS (asgS (op2 addF (op2 addF (op2 mulF (cF (.int 449)) (vF 1)) (cF (.int 827))) (op2 modF (callF sumF (consA (slF (vF 0) noO (soO (cF (.int 1)))) nilA)) (cF (.int 1000003)))) (nmG 2))
  (seqS (ifS (bF (op2 ltF (vF 1) (callF lenF (consA (vF 0) nilA)))) (asgS (callF absF (consA (op2 ixF (vF 0) (vF 1)) nilA)) (nmG 2)) nilS)
  (retS (lstF (consA (callF max2F (consA (cF (.int 0)) (consA (op2 subF (vF 2) (op2 powF (cF (.int 10)) (cF (.int 18)))) nilA))) (consA (op2 addF (op2 modF (op2 mulF (op2 addF (op2 modF (vF 2) (cF (.int 2147483549))) (cF (.int 151))) (op2 powF (op2 addF (op2 mulF (cF (.int 2)) (vF 1)) (cF (.int 95))) (cF (.int 3)))) (cF (.int 2147483477))) (cF (.int 1))) nilA))))))
noncomputable def r__law_pot : List PyData → Option PyData := runD 2 3 g__law_pot
/-! law(_law_script): 0 _law_script -/
-- by hand
end Ev

/-! Data made of ints: shapes, comparisons, sorting. -/
namespace Ev
open PySem PySem.Spec PyProof.Rows L2 Tb
abbrev ID (ns : List Int) : List PyData := ns.map PyData.int
def tieD (p : Int × Int) : PyData := .tuple [.int p.1, .int p.2]
abbrev TD (ts : List (Int × Int)) : List PyData := ts.map tieD
/-! ### shapes -/
def Sh (k : Nat) (d : PyData) : Prop := d.canLay0 = true ∧ d.depth ≤ k
theorem Sh.mono {j k : Nat} {d : PyData} (h : Sh j d) (l : j ≤ k) : Sh k d := ⟨h.1, Nat.le_trans h.2 l⟩
theorem Sh.ok {k : Nat} {d : PyData} (h : Sh k d) (l : k ≤ 64 := by decide) : SeqAt.shaped d = true := by
  unfold SeqAt.shaped
  rw [h.1, Bool.true_and, decide_eq_true_eq]
  exact Nat.le_trans h.2 l
theorem sh_int (k : Nat) (i : Int) : Sh k (.int i) := ⟨by simp [PyData.canLay0], by simp [PyData.depth]⟩
theorem sh_bl (k : Nat) (i : Bool) : Sh k (.bool i) := ⟨by simp [PyData.canLay0], by simp [PyData.depth]⟩
theorem sh_non (k : Nat) : Sh k .none := ⟨by simp [PyData.canLay0], by simp [PyData.depth]⟩
theorem sh_all {k : Nat} : ∀ {xs : List PyData}, (∀ x ∈ xs, Sh k x) → PyData.canLayAll0 xs = true ∧ PyData.depthAll xs ≤ k
  | [], _ => ⟨by simp [PyData.canLayAll0], by simp [PyData.depthAll]⟩
  | x :: r, h => by
    obtain ⟨a, b⟩ := h x List.mem_cons_self
    obtain ⟨c, d⟩ := sh_all fun y hy => h y (List.mem_cons_of_mem _ hy)
    exact ⟨by rw [PyData.canLayAll0, a, c]; rfl, by rw [PyData.depthAll]; exact Nat.max_le.mpr ⟨b, d⟩⟩
theorem sh_list {k : Nat} {xs : List PyData} (h : ∀ x ∈ xs, Sh k x) : Sh (k + 1) (.list xs) := by
  obtain ⟨a, b⟩ := sh_all h
  exact ⟨by rw [PyData.canLay0]; exact a, by rw [PyData.depth]; omega⟩
theorem sh_tup {k : Nat} {xs : List PyData} (h : ∀ x ∈ xs, Sh k x) : Sh (k + 1) (.tuple xs) := by
  obtain ⟨a, b⟩ := sh_all h
  exact ⟨by rw [PyData.canLay0]; exact a, by rw [PyData.depth]; omega⟩
theorem sh_tie (p : Int × Int) : Sh 1 (tieD p) := sh_tup fun x h => by
  simp only [List.mem_cons, List.not_mem_nil, or_false] at h
  rcases h with rfl | rfl <;> exact sh_int _ _
theorem sh_ID {ns : List Int} : ∀ x ∈ ID ns, Sh 0 x := fun x h => by
  obtain ⟨n, _, rfl⟩ := List.mem_map.mp h
  exact sh_int _ _
theorem sh_TD {ts : List (Int × Int)} : ∀ x ∈ TD ts, Sh 1 x := fun x h => by
  obtain ⟨n, _, rfl⟩ := List.mem_map.mp h
  exact sh_tie _
/-! ### comparisons -/
theorem eqv_int (a b : Int) : PyData.eqv (.int a) (.int b) = decide (a = b) := by
  rw [PyData.eqv]
  by_cases h : a = b
  · rw [decide_eq_true h, h]; simp
  · rw [decide_eq_false h]; simpa using h
theorem eqv_ints : ∀ ns ms : List Int, PyData.eqvAll (ID ns) (ID ms) = decide (ns = ms)
  | [], [] => by simp [PyData.eqvAll]
  | [], _ :: _ => by simp [PyData.eqvAll]
  | _ :: _, [] => by simp [PyData.eqvAll]
  | a :: r, b :: t => by
    show PyData.eqvAll (.int a :: ID r) (.int b :: ID t) = _
    rw [PyData.eqvAll, eqv_int, eqv_ints r t]
    by_cases h : a = b <;> by_cases h2 : r = t <;> simp [h, h2]
theorem eqv_tie (p q : Int × Int) : PyData.eqv (tieD p) (tieD q) = decide (p = q) := by
  unfold tieD
  rw [PyData.eqv, PyData.eqvAll, PyData.eqvAll, PyData.eqvAll, eqv_int, eqv_int]
  by_cases h : p.1 = q.1 <;> by_cases h2 : p.2 = q.2 <;> simp [Prod.ext_iff, h, h2]
theorem eqv_ties : ∀ ns ms : List (Int × Int), PyData.eqvAll (TD ns) (TD ms) = decide (ns = ms)
  | [], [] => by simp [PyData.eqvAll]
  | [], _ :: _ => by simp [PyData.eqvAll]
  | _ :: _, [] => by simp [PyData.eqvAll]
  | a :: r, b :: t => by
    show PyData.eqvAll (tieD a :: TD r) (tieD b :: TD t) = _
    rw [PyData.eqvAll, eqv_tie, eqv_ties r t]
    by_cases h : a = b <;> by_cases h2 : r = t <;> simp [h, h2]
theorem any_int (ns : List Int) (a : Int) : ((ID ns).any fun z => PyData.eqv z (.int a)) = decide (a ∈ ns) := by
  induction ns with
  | nil => simp
  | cons n r ih =>
    show (PyData.eqv (.int n) (.int a) || (ID r).any _) = _
    rw [ih, eqv_int]
    rw [← Bool.decide_or]
    exact decide_eq_decide.mpr (by rw [List.mem_cons, eq_comm])
theorem any_tie (ts : List (Int × Int)) (p : Int × Int) : ((TD ts).any fun z => PyData.eqv z (tieD p)) = decide (p ∈ ts) := by
  induction ts with
  | nil => simp
  | cons n r ih =>
    show (PyData.eqv (tieD n) (tieD p) || (TD r).any _) = _
    rw [ih, eqv_tie]
    rw [← Bool.decide_or]
    exact decide_eq_decide.mpr (by rw [List.mem_cons, eq_comm])
theorem in_int (ns : List Int) (a : Int) : inF (.int a) (.list (ID ns)) = some (.bool (decide (a ∈ ns))) := by
  unfold inF kidsD
  rw [Option.bind_some, if_pos ⟨(sh_int 0 a).ok, (sh_list sh_ID).ok⟩, any_int]
theorem notIn_int (ns : List Int) (a : Int) : notInF (.int a) (.list (ID ns)) = some (.bool (!decide (a ∈ ns))) := by
  unfold notInF kidsD
  rw [Option.bind_some, if_pos ⟨(sh_int 0 a).ok, (sh_list sh_ID).ok⟩, any_int]
theorem in_tie (ts : List (Int × Int)) (p : Int × Int) : inF (tieD p) (.list (TD ts)) = some (.bool (decide (p ∈ ts))) := by
  unfold inF kidsD
  rw [Option.bind_some, if_pos ⟨(sh_tie p).ok, (sh_list sh_TD).ok⟩, any_tie]
theorem in_tieT (ts : List (Int × Int)) (p : Int × Int) : inF (tieD p) (.tuple (TD ts)) = some (.bool (decide (p ∈ ts))) := by
  unfold inF kidsD
  rw [Option.bind_some, if_pos ⟨(sh_tie p).ok, (sh_tup sh_TD).ok⟩, any_tie]
theorem eq_int (a b : Int) : eqF (.int a) (.int b) = some (.bool (decide (a = b))) := by
  unfold eqF
  rw [if_pos ⟨(sh_int 0 a).ok, (sh_int 0 b).ok⟩, eqv_int]
theorem ne_int (a b : Int) : neF (.int a) (.int b) = some (.bool (!decide (a = b))) := by
  unfold neF
  rw [if_pos ⟨(sh_int 0 a).ok, (sh_int 0 b).ok⟩, eqv_int]
theorem eqL_int (a b : List Int) : eqF (.list (ID a)) (.list (ID b)) = some (.bool (decide (a = b))) := by
  unfold eqF
  rw [if_pos ⟨(sh_list sh_ID).ok, (sh_list sh_ID).ok⟩, PyData.eqv, eqv_ints]
theorem neL_int (a b : List Int) : neF (.list (ID a)) (.list (ID b)) = some (.bool (!decide (a = b))) := by
  unfold neF
  rw [if_pos ⟨(sh_list sh_ID).ok, (sh_list sh_ID).ok⟩, PyData.eqv, eqv_ints]
/-! ### len(set(..)) -/
theorem lenSet_int {ns : List Int} (h : ns.length < 4000) : lenSetF (.list (ID ns)) = some (.int (dd ns).length) := by
  unfold lenSetF kidsD
  rw [Option.bind_some, intsD_map]
  exact if_pos (by unfold scanBound; omega)
theorem tupsD_map : ∀ ts : List (Int × Int), tupsD (TD ts) = some (ts.map fun p => [p.1, p.2])
  | [] => rfl
  | p :: r => by
    show (intsD [.int p.1, .int p.2]).bind _ = _
    rw [show intsD [.int p.1, .int p.2] = some [p.1, p.2] from rfl, Option.bind_some, tupsD_map r]; rfl
theorem dd_map {α β : Type} [DecidableEq α] [DecidableEq β] {f : α → β} (hf : ∀ x y, f x = f y → x = y) : ∀ l : List α, dd (l.map f) = (dd l).map f
  | [] => rfl
  | x :: r => by
    rw [List.map_cons, dd, dd, dd_map hf r]
    have : f x ∈ r.map f ↔ x ∈ r := ⟨fun h => by
      obtain ⟨y, hy, e⟩ := List.mem_map.mp h
      rw [← hf _ _ e]; exact hy, fun h => List.mem_map_of_mem h⟩
    by_cases h : x ∈ r
    · rw [if_pos h, if_pos (this.mpr h)]
    · rw [if_neg h, if_neg (fun z => h (this.mp z))]; rfl
theorem lenSet_tie {ts : List (Int × Int)} {d : PyData} (hd : kidsD d = some (TD ts)) (h : ts.length < 64) : lenSetF d = some (.int (dd ts).length) := by
  unfold lenSetF
  rw [hd, Option.bind_some, tupsD_map]
  cases ts with
  | nil => rfl
  | cons p r =>
    rw [show intsD (TD (p :: r)) = none from rfl]
    show (if _ then _ else _) = _
    rw [List.length_map, if_pos h, dd_map (f := fun p : Int × Int => [p.1, p.2]) (fun x y e => by
      have e' : [x.1, x.2] = [y.1, y.2] := e
      simp only [List.cons.injEq, and_true] at e'
      exact Prod.ext e'.1 e'.2), List.length_map]
/-! ### sorted -/
theorem one_sorted {α : Type} {R : α → α → Prop} (anti : ∀ x y, R x y → R y x → x = y) : ∀ {a b : List α}, a.Perm b → a.Pairwise R → b.Pairwise R → a = b
  | [], b, p, _, _ => (List.Perm.nil_eq p)
  | x :: r, b, p, ha, hb => by
    cases b with
    | nil => exact absurd p.symm (List.not_perm_nil_cons _ _) 
    | cons y t =>
      obtain ⟨ha1, ha2⟩ := List.pairwise_cons.mp ha
      obtain ⟨hb1, hb2⟩ := List.pairwise_cons.mp hb
      have e : x = y := by
        rcases List.mem_cons.mp (p.subset List.mem_cons_self) with z | z
        · exact z
        · rcases List.mem_cons.mp (p.symm.subset List.mem_cons_self) with u | u
          · exact u.symm
          · exact anti _ _ (ha1 _ u) (hb1 _ z)
      subst e
      rw [one_sorted anti (List.Perm.cons_inv p) ha2 hb2]
def iSort (ns : List Int) : List Int := ns.mergeSort fun a b => decide (a ≤ b)
theorem le_int (a b : Int) : PySem.W.dataLe false id (.int a) (.int b) = decide (a ≤ b) := by
  show (!PyProof.Rows.lexLt itemOrd [.inl b] [.inl a]) = _
  rw [PyProof.Rows.lexLt]
  show (!(decide (b < a) || (!decide (a < b) && false))) = _
  by_cases h : b < a
  · simp [h]
  · simp [h]; omega
theorem srt_ID (ns : List Int) : srtD (ID ns) = ID (iSort ns) := by
  unfold srtD iSort
  exact (List.map_mergeSort fun a _ b _ => (le_int a b).symm).symm
theorem sort_ID {d : PyData} {ns : List Int} (hd : kidsD d = some (ID ns)) (h : ns.length ≤ 16777216) : sortF [d] = some (.list (ID (iSort ns))) := by
  unfold sortF
  have ok : sortOk (ID ns) = true := by
    unfold sortOk
    have e1 : decide ((ID ns).length ≤ sizeLine) = true := decide_eq_true (by rw [List.length_map, sizeLine_eq]; exact h)
    have e2 : (ID ns).all SeqAt.shaped = true := List.all_eq_true.mpr fun x hx => (sh_ID x hx).ok
    have e3 : ((ID ns).all fun x => (ID ns).all fun y => PySem.W.alike x y) = true := List.all_eq_true.mpr fun x hx => List.all_eq_true.mpr fun y hy => by
      obtain ⟨i, _, rfl⟩ := List.mem_map.mp hx
      obtain ⟨j, _, rfl⟩ := List.mem_map.mp hy
      simp [PySem.W.alike]
    have e4 : (ID ns).all plainD = true := List.all_eq_true.mpr fun x hx => by
      obtain ⟨i, _, rfl⟩ := List.mem_map.mp hx
      rfl
    rw [e1, e2, e3, e4]; simp
  show (kidsD d).bind _ = _
  rw [hd, Option.bind_some, if_pos ok, srt_ID]
theorem iSort_perm (ns : List Int) : (iSort ns).Perm ns := List.mergeSort_perm _ _
theorem iSort_sorted (ns : List Int) : (iSort ns).Pairwise (· ≤ ·) := by
  have := List.pairwise_mergeSort (le := fun a b : Int => decide (a ≤ b)) (fun a b c h1 h2 => by
    rw [decide_eq_true_eq] at *; omega) (fun a b => by
    rw [Bool.or_eq_true, decide_eq_true_eq, decide_eq_true_eq]; omega) ns
  exact this.imp fun h => of_decide_eq_true h
theorem iSort_eq {ns ms : List Int} (p : ns.Perm ms) (h : ms.Pairwise (· ≤ ·)) : iSort ns = ms :=
  one_sorted (R := (· ≤ ·)) (fun x y a b => Int.le_antisymm a b) ((iSort_perm ns).trans p) (iSort_sorted ns) h
def tieLe (p q : Int × Int) : Bool := decide (p.1 < q.1) || (decide (p.1 = q.1) && decide (p.2 ≤ q.2))
theorem tieLe_iff {p q : Int × Int} : tieLe p q = true ↔ p.1 < q.1 ∨ (p.1 = q.1 ∧ p.2 ≤ q.2) := by
  unfold tieLe
  rw [Bool.or_eq_true, Bool.and_eq_true, decide_eq_true_eq, decide_eq_true_eq, decide_eq_true_eq]
def tSort (ts : List (Int × Int)) : List (Int × Int) := ts.mergeSort tieLe
theorem le_tie (p q : Int × Int) : PySem.W.dataLe false id (tieD p) (tieD q) = tieLe p q := by
  obtain ⟨a, b⟩ := p
  obtain ⟨c, d⟩ := q
  show (!PyProof.Rows.lexLt itemOrd [.inl 1, .inl c, .inl 1, .inl d, .inl 0] [.inl 1, .inl a, .inl 1, .inl b, .inl 0]) = tieLe (a, b) (c, d)
  simp only [PyProof.Rows.lexLt]
  show (!(decide ((1 : Int) < 1) || (!decide ((1 : Int) < 1) && (decide (c < a) || (!decide (a < c) && (decide ((1 : Int) < 1) || (!decide ((1 : Int) < 1) && (decide (d < b) || (!decide (b < d) && (decide ((0 : Int) < 0) || (!decide ((0 : Int) < 0) && false))))))))))) = (decide (a < c) || (decide (a = c) && decide (b ≤ d)))
  have h1 : decide ((1 : Int) < 1) = false := by decide
  have h0 : decide ((0 : Int) < 0) = false := by decide
  rw [h1, h0]
  by_cases x : a < c
  · have : ¬ c < a := by omega
    simp [x, this]
  · by_cases y : c < a
    · have : ¬ a = c := by omega
      simp [x, y, this]
    · have : a = c := by omega
      subst this
      by_cases z : d < b
      · have : ¬ b ≤ d := by omega
        simp [z, this]
      · have : b ≤ d := by omega
        simp [z, this]
theorem sort_TD {d : PyData} {ts : List (Int × Int)} (hd : kidsD d = some (TD ts)) (h : ts.length ≤ 16777216) : sortF [d] = some (.list (TD (tSort ts))) := by
  unfold sortF
  have ok : sortOk (TD ts) = true := by
    unfold sortOk
    have e1 : decide ((TD ts).length ≤ sizeLine) = true := decide_eq_true (by rw [List.length_map, sizeLine_eq]; exact h)
    have e2 : (TD ts).all SeqAt.shaped = true := List.all_eq_true.mpr fun x hx => (sh_TD x hx).ok
    have e3 : ((TD ts).all fun x => (TD ts).all fun y => PySem.W.alike x y) = true := List.all_eq_true.mpr fun x hx => List.all_eq_true.mpr fun y hy => by
      obtain ⟨i, _, rfl⟩ := List.mem_map.mp hx
      obtain ⟨j, _, rfl⟩ := List.mem_map.mp hy
      simp [tieD, PySem.W.alike, PySem.W.alikeAll]
    have e4 : (TD ts).all tupNE = true := List.all_eq_true.mpr fun x hx => by
      obtain ⟨i, _, rfl⟩ := List.mem_map.mp hx
      rfl
    rw [e1, e2, e3, e4]; simp
  show (kidsD d).bind _ = _
  rw [hd, Option.bind_some, if_pos ok]
  unfold srtD tSort
  rw [(List.map_mergeSort fun a _ b _ => (le_tie a b).symm).symm]
theorem tSort_eq {ts us : List (Int × Int)} (p : ts.Perm us) (h : us.Pairwise fun a b => tieLe a b = true) : tSort ts = us := by
  have s : (tSort ts).Pairwise fun a b => tieLe a b = true := List.pairwise_mergeSort (fun a b c h1 h2 => by
    rw [tieLe_iff] at *; omega) (fun a b => by
    rw [Bool.or_eq_true, tieLe_iff, tieLe_iff]; omega) ts
  refine one_sorted (R := fun a b => tieLe a b = true) (fun x y a b => ?_) ((List.mergeSort_perm _ _).trans p) s h
  rw [tieLe_iff] at a b
  exact Prod.ext (by omega) (by omega)
end Ev

/-! What loops and comprehensions compute. -/
namespace Ev
open PySem PySem.Spec PyProof.Rows L2 Tb
theorem runD_eq {n m : Nat} {g : GS} {xs : List PyData} {x : PyData} {l : Lo} (hn : xs.length = n) (h : g (lo0 xs (m - n)) = some (.rt x, l)) : runD n m g xs = some x := by
  unfold runD
  rw [if_pos hn, h]; rfl
theorem runD_non {n m : Nat} {g : GS} {xs : List PyData} {l : Lo} (hn : xs.length = n) (h : g (lo0 xs (m - n)) = some (.nx, l)) : runD n m g xs = some .none := by
  unfold runD
  rw [if_pos hn, h]; rfl
theorem runB_eq {n m : Nat} {g : GS} {ys zs xs : List PyData} {x : PyData} {l : Lo} (hn : xs.length + 1 = n) (h : g (some (.lst ys) :: lo0 xs (m - n)) = some (.rt x, l)) (hl : l[0]? = some (some (.lst zs))) : runB n m g ys xs = some (x, zs) := by
  unfold runB
  rw [if_pos hn, h, Option.bind_some, hl]
theorem wipeL_set {v : Nat} {o : Option L} : ∀ {vs : List Nat} {lo : Lo}, v ∈ vs → wipeL (lo.set v o) vs = wipeL lo vs
  | [], _, h => by simp at h
  | w :: vs, lo, h => by
    unfold wipeL
    by_cases hm : v ∈ vs
    · rw [wipeL_set hm]
    · have e : v = w := by
        rcases List.mem_cons.mp h with z | z
        · exact z
        · exact absurd z hm
      subst e
      have : ∀ ws : List Nat, v ∉ ws → wipeL (lo.set v o) ws = (wipeL lo ws).set v o := by
        intro ws
        induction ws with
        | nil => intro _; rfl
        | cons u r ih =>
          intro hw
          have h1 : u ≠ v := fun e => hw (by rw [e]; exact List.mem_cons_self)
          have h2 : v ∉ r := fun m => hw (List.mem_cons_of_mem _ m)
          unfold wipeL
          rw [ih h2, List.set_comm _ _ (Ne.symm h1)]
      rw [this vs hm, List.set_set]
theorem wipeL_idem (vs : List Nat) (lo : Lo) : ∀ ws : List Nat, (∀ v ∈ ws, v ∈ vs) → wipeL (wipeL lo ws) vs = wipeL lo vs
  | [], _ => rfl
  | w :: ws, h => by
    rw [wipeL, wipeL_set (h w List.mem_cons_self)]
    exact wipeL_idem vs lo ws fun v hv => h v (List.mem_cons_of_mem _ hv)
theorem set_getD {lo : Lo} {v : Nat} {o : Option L} : (lo.set v o).set v (lo.getD v none) = lo := by
  rw [List.set_set]
  apply List.ext_getElem?
  intro i
  by_cases h : v = i
  · subst h
    rw [List.getElem?_set_self']
    cases q : lo[v]? with
    | none => rfl
    | some u => simp [List.getD_eq_getElem?_getD, q]
  · rw [List.getElem?_set_ne h]
theorem rst_any {lo : Lo} : ∀ {vs : List Nat} {l2 : Lo}, (∀ i, i ∉ vs → l2[i]? = lo[i]?) → l2.length = lo.length → rstL lo l2 vs = lo
  | [], l2, h, _ => List.ext_getElem? fun i => h i (by simp)
  | v :: vs, l2, h, hl => by
    have aux : ∀ {ws : List Nat} {l3 : Lo} {i : Nat}, i ∉ ws → (rstL lo l3 ws)[i]? = l3[i]? := by
      intro ws
      induction ws with
      | nil => intro l3 i _; rfl
      | cons w r ih =>
        intro l3 i hi
        unfold rstL
        rw [List.getElem?_set_ne fun e => hi (by rw [e]; exact List.mem_cons_self)]
        exact ih fun m => hi (List.mem_cons_of_mem _ m)
    have inn : ∀ {ws : List Nat} {l3 : Lo} {i : Nat}, i ∈ ws → l3.length = lo.length → (rstL lo l3 ws)[i]? = lo[i]? := by
      intro ws
      induction ws with
      | nil => intro l3 i hi; simp at hi
      | cons w r ih =>
        intro l3 i hi hl
        unfold rstL
        by_cases e : w = i
        · subst e
          rw [List.getElem?_set_self']
          have hlen : (rstL lo l3 r).length = lo.length := by rw [rstL_len, hl]
          by_cases hw : w < lo.length
          · rw [List.getElem?_eq_getElem (by rw [hlen]; exact hw), List.getElem?_eq_getElem hw, List.getD_eq_getElem?_getD, List.getElem?_eq_getElem hw]; rfl
          · rw [List.getElem?_eq_none (by rw [hlen]; omega), List.getElem?_eq_none (by omega)]; rfl
        · rw [List.getElem?_set_ne e]
          exact ih ((List.mem_cons.mp hi).resolve_left fun z => e z.symm) hl
    refine List.ext_getElem? fun i => ?_
    by_cases hi : i ∈ v :: vs
    · exact inn hi hl
    · rw [aux hi]; exact h i hi
theorem wipeL_len' (lo : Lo) : ∀ vs : List Nat, (wipeL lo vs).length = lo.length
  | [] => rfl
  | v :: vs => by rw [wipeL, List.length_set, wipeL_len' lo vs]
theorem wipeL_out {lo : Lo} {i : Nat} : ∀ {vs : List Nat}, i ∉ vs → (wipeL lo vs)[i]? = lo[i]?
  | [], _ => rfl
  | v :: vs, h => by
    rw [wipeL, List.getElem?_set_ne fun e => h (by rw [e]; exact List.mem_cons_self)]
    exact wipeL_out fun m => h (List.mem_cons_of_mem _ m)
theorem rst_wipe (lo : Lo) (vs : List Nat) : rstL lo (wipeL lo vs) vs = lo := rst_any (fun i h => wipeL_out h) (wipeL_len' lo vs)
theorem seq_nx {g k : GS} {lo l : Lo} (h : g lo = some (.nx, l)) : seqS g k lo = k l := by
  unfold seqS
  rw [h]; rfl
theorem seq_rt {g k : GS} {lo l : Lo} {x : PyData} (h : g lo = some (.rt x, l)) : seqS g k lo = some (.rt x, l) := by
  unfold seqS
  rw [h]; rfl
theorem op2_eq {f : PyData → PyData → Option PyData} {ga gb : GE} {lo l1 l2 : Lo} {x y z : PyData} (h1 : ga lo = some (x, l1)) (h2 : gb l1 = some (y, l2)) (h3 : f x y = some z) : op2 f ga gb lo = some (z, l2) := by
  unfold op2
  rw [h1]
  show (gb l1).bind _ = _
  rw [h2]
  show (f x y).bind _ = _
  rw [h3]; rfl
theorem asg_eq {g : GE} {lo l1 : Lo} {x : PyData} {i : Nat} (h : g lo = some (x, l1)) : asgS g (nmG i) lo = some (.nx, l1.set i (some (.dat x))) := by
  unfold asgS
  rw [h]; rfl
theorem ret_eq {g : GE} {lo l1 : Lo} {x : PyData} (h : g lo = some (x, l1)) : retS g lo = some (.rt x, l1) := by
  unfold retS
  rw [h]; rfl
theorem call1_eq {f : List PyData → Option PyData} {g : GE} {lo l1 : Lo} {x z : PyData} (h : g lo = some (x, l1)) (h2 : f [x] = some z) : callF f (consA g nilA) lo = some (z, l1) := by
  unfold callF consA
  rw [h]
  show (f [x]).bind _ = _
  rw [h2]; rfl
theorem call2_eq {f : List PyData → Option PyData} {g k : GE} {lo l1 l2 : Lo} {x y z : PyData} (h : g lo = some (x, l1)) (h1 : k l1 = some (y, l2)) (h2 : f [x, y] = some z) : callF f (consA g (consA k nilA)) lo = some (z, l2) := by
  unfold callF consA
  rw [h]
  show ((Option.bind ((k l1).bind _) _).bind _) = _
  rw [h1]
  show (f [x, y]).bind _ = _
  rw [h2]; rfl
/-! ### comprehensions -/
theorem lcGo_spec {vs : List Nat} {gg : GG} {t : GT} {g : GE} {lo : Lo} (p : PyData → Bool) (v : PyData → PyData) : ∀ (xs acc : List PyData), (∀ x ∈ xs, ∃ l1, gg x lo = some l1 ∧ wipeL l1 vs = lo ∧ t l1 = some (p x, l1) ∧ (p x = true → g l1 = some (v x, l1))) → acc.length + xs.length ≤ sizeLine →
    lcGo vs gg t g xs lo acc = some (acc ++ (xs.filter p).map v, lo)
  | [], acc, _, _ => by simp [lcGo]
  | x :: r, acc, h, hl => by
    obtain ⟨l1, e1, e2, e3, e4⟩ := h x List.mem_cons_self
    rw [List.length_cons] at hl
    unfold lcGo
    rw [e1, Option.bind_some, e3, Option.bind_some]
    cases hp : p x with
    | true =>
      rw [if_pos (show (true, l1).1 = true from rfl), e4 hp, Option.bind_some, if_pos (by omega), e2, lcGo_spec p v r _ (fun y hy => h y (List.mem_cons_of_mem _ hy)) (by rw [List.length_append]; simp; omega), List.filter_cons_of_pos hp]
      simp
    | false =>
      rw [if_neg (show ¬ (false, l1).1 = true from Bool.false_ne_true), e2, lcGo_spec p v r _ (fun y hy => h y (List.mem_cons_of_mem _ hy)) (by omega), List.filter_cons_of_neg (by rw [hp]; exact Bool.false_ne_true)]
theorem lcF_spec {gi : GA} {vs : List Nat} {gg : GG} {t : GT} {g : GE} {lo lo1 : Lo} {xs : List PyData} (p : PyData → Bool) (v : PyData → PyData) (hi : gi lo = some (xs, lo1)) (no : noOwn lo1 vs = true) (hl : xs.length ≤ sizeLine)
    (h : ∀ x ∈ xs, ∃ l1, gg x (wipeL lo1 vs) = some l1 ∧ wipeL l1 vs = wipeL lo1 vs ∧ t l1 = some (p x, l1) ∧ (p x = true → g l1 = some (v x, l1))) : lcF gi vs gg t g lo = some (.list ((xs.filter p).map v), lo1) := by
  unfold lcF
  rw [hi, Option.bind_some, if_pos no, lcGo_spec p v xs [] h (by simpa using hl), Option.bind_some, rst_wipe]
  rfl
/-- .. of ints -/
theorem lcF_int {gi : GA} {vs : List Nat} {gg : GG} {t : GT} {g : GE} {lo lo1 : Lo} {ns : List Int} (p : Int → Bool) (v : Int → PyData) (hi : gi lo = some (ID ns, lo1)) (no : noOwn lo1 vs = true) (hl : ns.length ≤ sizeLine)
    (h : ∀ n ∈ ns, ∃ l1, gg (.int n) (wipeL lo1 vs) = some l1 ∧ wipeL l1 vs = wipeL lo1 vs ∧ t l1 = some (p n, l1) ∧ (p n = true → g l1 = some (v n, l1))) : lcF gi vs gg t g lo = some (.list ((ns.filter p).map v), lo1) := by
  have := lcF_spec (gi := gi) (vs := vs) (gg := gg) (t := t) (g := g) (lo := lo) (lo1 := lo1) (xs := ID ns) (fun x => match x with | .int n => p n | _ => false) (fun x => match x with | .int n => v n | _ => .none) hi no (by rw [List.length_map]; exact hl) fun x hx => by
    obtain ⟨n, hn, rfl⟩ := List.mem_map.mp hx
    exact h n hn
  rw [this, List.filter_map, List.map_map]
  rfl
/-! ### all, any -/
theorem allGo_spec {ix : Nat} {g : GE} {go : Bool} {lo : Lo} (p : PyData → Bool) : ∀ (xs : List PyData) (l : Lo), (∃ o, l = lo.set ix o) → (∀ x ∈ xs, bF g (lo.set ix (some (.dat x))) = some (p x, lo.set ix (some (.dat x)))) →
    ∃ o, allGo [ix] (nmG ix) g go xs l = some (if go = true then xs.all p else xs.any p, lo.set ix o)
  | [], l, ⟨o, e⟩, _ => ⟨o, by rw [e]; cases go <;> rfl⟩
  | x :: r, l, ⟨o, e⟩, h => by
    unfold allGo nmG
    rw [Option.bind_some, e, List.set_set, h x List.mem_cons_self, Option.bind_some]
    by_cases hp : p x = go
    · rw [if_pos hp]
      obtain ⟨o', e'⟩ := allGo_spec (go := go) p r (lo.set ix (some (.dat x))) ⟨_, rfl⟩ fun y hy => h y (List.mem_cons_of_mem _ hy)
      refine ⟨o', ?_⟩
      unfold nmG at e'
      rw [e', List.all_cons, List.any_cons, hp]
      cases go <;> rfl
    · rw [if_neg hp]
      refine ⟨some (.dat x), ?_⟩
      rw [List.all_cons, List.any_cons]
      cases go <;> cases hq : p x <;> first | (rw [hq] at hp; exact absurd rfl hp) | rfl
theorem allF_spec {gi : GA} {ix : Nat} {g : GE} {go : Bool} {lo lo1 : Lo} {xs : List PyData} (p : PyData → Bool) (hi : gi lo = some (xs, lo1)) (no : noOwn lo1 [ix] = true)
    (h : ∀ x ∈ xs, bF g (lo1.set ix (some (.dat x))) = some (p x, lo1.set ix (some (.dat x)))) : allF gi ix g go lo = some (.bool (if go = true then xs.all p else xs.any p), lo1) := by
  obtain ⟨o, e⟩ := allGo_spec (go := go) (lo := lo1) p xs (wipeL lo1 [ix]) ⟨none, rfl⟩ h
  unfold allF
  rw [hi, Option.bind_some, if_pos no, e, Option.bind_some]
  have : rstL lo1 (lo1.set ix o) [ix] = lo1 := set_getD
  rw [this]
/-! ### for -/
/-- each turn goes on -/
theorem forGo_inv {gg : GG} {body : GS} (R : Nat → Lo → Prop) : ∀ (xs : List PyData) (i : Nat) (lo : Lo), R i lo → (∀ (j : Nat) (x : PyData) (l : Lo), xs[j]? = some x → R (i + j) l → ∃ l1 l2, gg x l = some l1 ∧ (body l1 = some (.nx, l2) ∨ body l1 = some (.ct, l2)) ∧ R (i + j + 1) l2) → ∃ l9, forGo gg body xs lo = some (.nx, l9) ∧ R (i + xs.length) l9
  | [], i, lo, h, _ => ⟨lo, rfl, h⟩
  | x :: r, i, lo, h, hs => by
    obtain ⟨l1, l2, e1, e2, e3⟩ := hs 0 x lo rfl h
    have : ∃ l9, forGo gg body r l2 = some (.nx, l9) ∧ R (i + 1 + r.length) l9 := forGo_inv R r (i + 1) l2 e3 fun j y l hy hl => by
      have := hs (j + 1) y l (by simpa using hy) (by rw [show i + (j + 1) = i + 1 + j by omega]; exact hl)
      rw [show i + (j + 1) = i + 1 + j by omega] at this
      exact this
    obtain ⟨l9, e4, e5⟩ := this
    refine ⟨l9, ?_, by rw [List.length_cons, show i + (r.length + 1) = i + 1 + r.length by omega]; exact e5⟩
    unfold forGo
    rw [e1, Option.bind_some]
    rcases e2 with e2 | e2
    · rw [e2, Option.bind_some]; exact e4
    · rw [e2, Option.bind_some]; exact e4
theorem forGo_inv0 {gg : GG} {body : GS} (R : Nat → Lo → Prop) (xs : List PyData) (lo : Lo) (h : R 0 lo) (hs : ∀ (j : Nat) (x : PyData) (l : Lo), xs[j]? = some x → R j l → ∃ l1 l2, gg x l = some l1 ∧ (body l1 = some (.nx, l2) ∨ body l1 = some (.ct, l2)) ∧ R (j + 1) l2) : ∃ l9, forGo gg body xs lo = some (.nx, l9) ∧ R xs.length l9 := by
  have := forGo_inv (gg := gg) (body := body) R xs 0 lo h (by simpa using hs)
  simpa using this
theorem rgL_at {a b : Int} {i : Nat} {x : PyData} (h : (rgL a b)[i]? = some x) : x = .int (a + (i : Int)) ∧ i < (b - a).toNat := by
  unfold rgL at h
  rw [List.getElem?_map] at h
  obtain ⟨j, hj, rfl⟩ := Option.map_eq_some_iff.mp h
  have hl := (List.getElem?_eq_some_iff.mp hj).1
  rw [List.length_range] at hl
  rw [List.getElem?_range hl] at hj
  cases hj
  exact ⟨rfl, hl⟩
theorem forS_of {gi : GA} {gg : GG} {body : GS} {lo l1 : Lo} {xs : List PyData} {r : Option (Out × Lo)} (h : gi lo = some (xs, l1)) (k : forGo gg body xs l1 = r) : forS gi gg body lo = r := by
  unfold forS
  rw [h]; exact k
theorem rg2I_of {g : GA} {lo l1 : Lo} {a b : Int} (h : g lo = some ([.int a, .int b], l1)) (s1 : small62 a = true) (s2 : small62 b = true) : rg2I g lo = some (rgL a b, l1) := by
  unfold rg2I
  rw [h]
  exact if_pos ⟨s1, s2⟩
theorem rg1I_of {g : GA} {lo l1 : Lo} {a : Int} (h : g lo = some ([.int a], l1)) (s1 : small62 a = true) : rg1I g lo = some (rgL 0 a, l1) := by
  unfold rg1I
  rw [h]
  exact if_pos s1
/-- the first turn that gives something back -/
theorem forGo_find {gg : GG} {body : GS} (R : Lo → Prop) (p : PyData → Bool) (v : PyData → PyData) : ∀ (xs : List PyData) (lo : Lo), R lo → (∀ x ∈ xs, ∀ l, R l → ∃ l1 l2, gg x l = some l1 ∧ R l2 ∧ body l1 = some (if p x = true then .rt (v x) else .nx, l2)) →
    ∃ l9, R l9 ∧ forGo gg body xs lo = some (match xs.find? p with | some x => .rt (v x) | none => .nx, l9)
  | [], lo, h, _ => ⟨lo, h, rfl⟩
  | x :: r, lo, h, hs => by
    obtain ⟨l1, l2, e1, e2, e3⟩ := hs x List.mem_cons_self lo h
    unfold forGo
    rw [e1, Option.bind_some, e3, Option.bind_some, List.find?_cons]
    cases hp : p x with
    | true => exact ⟨l2, e2, rfl⟩
    | false =>
      obtain ⟨l9, a, b⟩ := forGo_find R p v r l2 e2 fun y hy => hs y (List.mem_cons_of_mem _ hy)
      exact ⟨l9, a, b⟩
/-- .. over data of some kind -/
theorem forGo_findM {α : Type} {gg : GG} {body : GS} (f : α → PyData) (R : Lo → Prop) (p : α → Bool) : ∀ (as : List α) (lo : Lo), R lo → (∀ a ∈ as, ∀ l, R l → ∃ l1 l2, gg (f a) l = some l1 ∧ R l2 ∧ body l1 = some (if p a = true then .rt (f a) else .nx, l2)) →
    ∃ l9, R l9 ∧ forGo gg body (as.map f) lo = some (match as.find? p with | some a => .rt (f a) | none => .nx, l9)
  | [], lo, h, _ => ⟨lo, h, rfl⟩
  | x :: r, lo, h, hs => by
    obtain ⟨l1, l2, e1, e2, e3⟩ := hs x List.mem_cons_self lo h
    rw [List.map_cons]
    unfold forGo
    rw [e1, Option.bind_some, e3, Option.bind_some, List.find?_cons]
    cases hp : p x with
    | true => exact ⟨l2, e2, rfl⟩
    | false =>
      obtain ⟨l9, a, b⟩ := forGo_findM f R p r l2 e2 fun y hy => hs y (List.mem_cons_of_mem _ hy)
      exact ⟨l9, a, b⟩
/-! ### two clauses -/
theorem lcGo_int {vs : List Nat} {gg : GG} {t : GT} {g : GE} {lo : Lo} (p : Int → Bool) (v : Int → PyData) (ns : List Int) (acc : List PyData) (h : ∀ n ∈ ns, ∃ l1, gg (.int n) lo = some l1 ∧ wipeL l1 vs = lo ∧ t l1 = some (p n, l1) ∧ (p n = true → g l1 = some (v n, l1))) (hl : acc.length + ns.length ≤ sizeLine) :
    lcGo vs gg t g (ID ns) lo acc = some (acc ++ (ns.filter p).map v, lo) := by
  have := lcGo_spec (vs := vs) (gg := gg) (t := t) (g := g) (lo := lo) (fun x => match x with | .int n => p n | _ => false) (fun x => match x with | .int n => v n | _ => .none) (ID ns) acc (fun x hx => by
    obtain ⟨n, hn, rfl⟩ := List.mem_map.mp hx
    exact h n hn) (by rw [List.length_map]; exact hl)
  rw [this, List.filter_map, List.map_map]
  rfl
theorem lc2Go_spec {α : Type} (f : α → PyData) {vs vs1 : List Nat} {gg gg1 : GG} {t t1 : GT} {gi1 : GA} {g : GE} {lo : Lo} (ns : α → List Int) (c : α → Int → Bool) (v : α → Int → PyData) : ∀ (as : List α) (acc : List PyData),
    (∀ a ∈ as, ∃ l1, gg (f a) lo = some l1 ∧ t l1 = some (true, l1) ∧ gi1 l1 = some (ID (ns a), l1) ∧ wipeL (wipeL l1 vs1) vs = lo ∧ ∀ i ∈ ns a, ∃ l2, gg1 (.int i) (wipeL l1 vs1) = some l2 ∧ wipeL l2 vs1 = wipeL l1 vs1 ∧ t1 l2 = some (c a i, l2) ∧ (c a i = true → g l2 = some (v a i, l2))) →
    acc.length + (as.map fun a => (ns a).length).sum ≤ sizeLine → lc2Go vs gg t gi1 vs1 gg1 t1 g (as.map f) lo acc = some (acc ++ as.flatMap (fun a => ((ns a).filter (c a)).map (v a)), lo)
  | [], acc, _, _ => by simp [lc2Go]
  | a :: r, acc, h, hl => by
    obtain ⟨l1, e1, e2, e3, e4, e5⟩ := h a List.mem_cons_self
    rw [List.map_cons, List.sum_cons] at hl
    have lf := List.length_filter_le (c a) (ns a)
    rw [List.map_cons]
    unfold lc2Go
    rw [e1, Option.bind_some, e2, Option.bind_some, if_pos (show (true, l1).1 = true from rfl), e3, Option.bind_some, lcGo_int (c a) (v a) (ns a) acc e5 (by omega), Option.bind_some, e4,
      lc2Go_spec f ns c v r _ (fun b hb => h b (List.mem_cons_of_mem _ hb)) (by rw [List.length_append, List.length_map]; omega), List.flatMap_cons, List.append_assoc]
theorem lc2F_spec {α : Type} (f : α → PyData) {gi : GA} {vs vs1 : List Nat} {gg gg1 : GG} {t t1 : GT} {gi1 : GA} {g : GE} {lo lo1 : Lo} (as : List α) (ns : α → List Int) (c : α → Int → Bool) (v : α → Int → PyData) (hi : gi lo = some (as.map f, lo1)) (no : noOwn lo1 vs = true)
    (h : ∀ a ∈ as, ∃ l1, gg (f a) (wipeL lo1 vs) = some l1 ∧ t l1 = some (true, l1) ∧ gi1 l1 = some (ID (ns a), l1) ∧ wipeL (wipeL l1 vs1) vs = wipeL lo1 vs ∧ ∀ i ∈ ns a, ∃ l2, gg1 (.int i) (wipeL l1 vs1) = some l2 ∧ wipeL l2 vs1 = wipeL l1 vs1 ∧ t1 l2 = some (c a i, l2) ∧ (c a i = true → g l2 = some (v a i, l2)))
    (hl : (as.map fun a => (ns a).length).sum ≤ sizeLine) : lc2F gi vs gg t gi1 vs1 gg1 t1 g lo = some (.list (as.flatMap fun a => ((ns a).filter (c a)).map (v a)), lo1) := by
  unfold lc2F
  rw [hi, Option.bind_some, if_pos no, lc2Go_spec f ns c v as [] h (by simpa using hl), Option.bind_some, rst_wipe]
  rfl
/-! ### places -/
theorem ix_nat {xs : List PyData} {i : Nat} {x : PyData} (h : xs[i]? = some x) : ixF (.list xs) (.int (i : Nat)) = some x := by
  have hi := (List.getElem?_eq_some_iff.mp h).1
  show L2.atI xs (i : Nat) = _
  unfold L2.atI ixN
  rw [if_pos (by omega), if_pos (by omega)]
  exact h
theorem ix_last {xs : List PyData} {x : PyData} : ixF (.list (xs ++ [x])) (.int (-1)) = some x := by
  show L2.atI (xs ++ [x]) (-1) = _
  unfold L2.atI ixN
  rw [if_neg (by omega), if_pos (by rw [List.length_append]; simp; omega)]
  show (xs ++ [x])[(-1 + ((xs ++ [x]).length : Int)).toNat]? = _
  rw [show (-1 + ((xs ++ [x]).length : Int)).toNat = xs.length by rw [List.length_append]; simp; omega]
  simp
theorem cat_list {xs ys : List PyData} (h : xs.length + ys.length ≤ sizeLine) : addF (.list xs) (.list ys) = some (.list (xs ++ ys)) := if_pos h
/-! ### while -/
theorem whileS_spec {t : GT} {body : GS} (R : Nat → Lo → Prop) (Q : Out → Lo → Prop)
    (h : ∀ m lo, R m lo → (∃ l1, t lo = some (false, l1) ∧ Q .nx l1) ∨ ∃ l1 o l2, t lo = some (true, l1) ∧ body l1 = some (o, l2) ∧ (((o = .nx ∨ o = .ct) ∧ ∃ m', m' < m ∧ R m' l2) ∨ ∃ x, o = .rt x ∧ Q o l2)) :
    ∀ (f m : Nat) (lo : Lo), R m lo → m < f → ∃ o l, whileS t body f lo = some (o, l) ∧ Q o l
  | 0, m, _, _, hf => by omega
  | f + 1, m, lo, r, hf => by
    unfold whileS
    rcases h m lo r with ⟨l1, e1, q⟩ | ⟨l1, o, l2, e1, e2, q⟩
    · rw [e1, Option.bind_some, if_neg (show ¬ (false, l1).1 = true from Bool.false_ne_true)]
      exact ⟨_, _, rfl, q⟩
    · rw [e1, Option.bind_some, if_pos (show (true, l1).1 = true from rfl), e2, Option.bind_some]
      rcases q with ⟨z, m', lt, r'⟩ | ⟨x, rfl, q⟩
      · obtain ⟨o', l', e3, q'⟩ := whileS_spec R Q h f m' l2 r' (by omega)
        rcases z with rfl | rfl
        · exact ⟨o', l', e3, q'⟩
        · exact ⟨o', l', e3, q'⟩
      · exact ⟨_, _, rfl, q⟩
end Ev

/-! What the program says of a web. -/
namespace Ev
open PySem PySem.Spec PyProof.Rows L2 Tb
/-- a web of n copies, its ties ts told in a list or a tuple d -/
structure Web (n : Int) (ts : List (Int × Int)) (d : PyData) : Prop where
  lo : 1 ≤ n
  hi : n ≤ 6
  rng : ∀ p ∈ ts, 0 ≤ p.1 ∧ p.1 < p.2 ∧ p.2 < n
  nd : ts.Nodup
  kids : kidsD d = some (TD ts)
  few : ts.length < 64
abbrev webD (n : Int) (d : PyData) : PyData := .tuple [.int n, d]
theorem kids_sq {d : PyData} {xs : List PyData} (h : kidsD d = some xs) : d = .list xs ∨ d = .tuple xs := by
  cases d <;> first | (cases h; exact .inl rfl) | (cases h; exact .inr rfl) | cases h
theorem s_is_integer (i : Int) : r_is_integer [.int i] = some (.bool true) := runD_eq (l := [some (.dat (.int i))]) rfl (by
  unfold g_is_integer
  repeat (simp only [lo0, List.map_cons, List.map_nil, List.replicate, List.cons_append, List.nil_append, Nat.reduceSub, seqS, retS, dropS, nilS, ifS, asgS, nmG, tpG, consGs, nilGs, vF, cF, un1, isF, op2, callF, consA, nilA, andE, orE, notE, tstE, notT, andT, orT, bF, truT, truD, tupF, lstF, Option.bind_some, Option.bind_none, List.getElem?_cons_zero, List.getElem?_cons_succ, List.set_cons_zero, List.set_cons_succ, List.length_cons, List.length_nil, if_true, if_false, Bool.not_true, Bool.not_false, eq_self, reduceCtorEq, Bool.false_eq_true, ↓reduceIte, Nat.reduceAdd, decide_true, decide_false, Bool.not_not])
  rfl)
theorem s_is_count (i : Int) : r_is_count [.int i] = some (.bool (decide (0 ≤ i))) := runD_eq (l := [some (.dat (.int i))]) rfl (by
  unfold g_is_count
  repeat (simp only [lo0, List.map_cons, List.map_nil, List.replicate, List.cons_append, List.nil_append, Nat.reduceSub, seqS, retS, dropS, nilS, ifS, asgS, nmG, tpG, consGs, nilGs, vF, cF, un1, isF, op2, callF, consA, nilA, andE, orE, notE, tstE, notT, andT, orT, bF, truT, truD, tupF, lstF, Option.bind_some, Option.bind_none, List.getElem?_cons_zero, List.getElem?_cons_succ, List.set_cons_zero, List.set_cons_succ, List.length_cons, List.length_nil, if_true, if_false, Bool.not_true, Bool.not_false, eq_self, reduceCtorEq, Bool.false_eq_true, ↓reduceIte, Nat.reduceAdd, decide_true, decide_false, Bool.not_not, s_is_integer])
  rfl)
theorem s_is_count_below (i n : Int) : r_is_count_below [.int i, .int n] = some (.bool (decide (0 ≤ i) && decide (i < n))) := runD_eq (l := [some (.dat (.int i)), some (.dat (.int n))]) rfl (by
  unfold g_is_count_below
  repeat (simp only [lo0, List.map_cons, List.map_nil, List.replicate, List.cons_append, List.nil_append, Nat.reduceSub, seqS, retS, dropS, nilS, ifS, asgS, nmG, tpG, consGs, nilGs, vF, cF, un1, isF, op2, callF, consA, nilA, andE, orE, notE, tstE, notT, andT, orT, bF, truT, truD, tupF, lstF, Option.bind_some, Option.bind_none, List.getElem?_cons_zero, List.getElem?_cons_succ, List.set_cons_zero, List.set_cons_succ, List.length_cons, List.length_nil, if_true, if_false, Bool.not_true, Bool.not_false, eq_self, reduceCtorEq, Bool.false_eq_true, ↓reduceIte, Nat.reduceAdd, decide_true, decide_false, Bool.not_not, s_is_count])
  by_cases h : 0 ≤ i <;> simp [h, cmpF, intF])
theorem s_is_list {d : PyData} {xs : List PyData} (h : kidsD d = some xs) : r_is_list [d] = some (.bool true) := runD_eq (l := [some (.dat d)]) rfl (by
  unfold g_is_list
  repeat (simp only [lo0, List.map_cons, List.map_nil, List.replicate, List.cons_append, List.nil_append, Nat.reduceSub, seqS, retS, dropS, nilS, ifS, asgS, nmG, tpG, consGs, nilGs, vF, cF, un1, isF, op2, callF, consA, nilA, andE, orE, notE, tstE, notT, andT, orT, bF, truT, truD, tupF, lstF, Option.bind_some, Option.bind_none, List.getElem?_cons_zero, List.getElem?_cons_succ, List.set_cons_zero, List.set_cons_succ, List.length_cons, List.length_nil, if_true, if_false, Bool.not_true, Bool.not_false, eq_self, reduceCtorEq, Bool.false_eq_true, ↓reduceIte, Nat.reduceAdd, decide_true, decide_false, Bool.not_not])
  rcases kids_sq h with rfl | rfl <;> rfl)
theorem s_is_tie {a b n : Int} (h : 0 ≤ a ∧ a < b ∧ b < n) : r_is_tie [tieD (a, b), .int n] = some (.bool true) := by
  refine runD_eq (l := [some (.dat (tieD (a, b))), some (.dat (.int n))]) rfl ?_
  unfold g_is_tie tieD
  have e1 : ixF (.tuple [.int a, .int b]) (.int 0) = some (.int a) := rfl
  have e2 : ixF (.tuple [.int a, .int b]) (.int 1) = some (.int b) := rfl
  have e3 : lenF [.tuple [.int a, .int b]] = some (.int 2) := rfl
  have h2 : a < n := by omega
  have h3 : 0 ≤ b := by omega
  repeat (simp only [lo0, List.map_cons, List.map_nil, List.replicate, List.cons_append, List.nil_append, Nat.reduceSub, seqS, retS, dropS, nilS, ifS, asgS, nmG, tpG, consGs, nilGs, vF, cF, un1, isF, op2, callF, consA, nilA, andE, orE, notE, tstE, notT, andT, orT, bF, truT, truD, tupF, lstF, Option.bind_some, Option.bind_none, List.getElem?_cons_zero, List.getElem?_cons_succ, List.set_cons_zero, List.set_cons_succ, List.length_cons, List.length_nil, if_true, if_false, Bool.not_true, Bool.not_false, eq_self, reduceCtorEq, Bool.false_eq_true, ↓reduceIte, Nat.reduceAdd, decide_true, decide_false, Bool.not_not, e1, e2, e3, isTp, ne_int, s_is_count_below, h.1, h2, h3, h.2.2, Bool.and_self])
theorem web_ix0 (n : Int) (d : PyData) : ixF (webD n d) (.int 0) = some (.int n) := rfl
theorem web_ix1 (n : Int) (d : PyData) : ixF (webD n d) (.int 1) = some d := rfl
theorem dd_self {α : Type} [DecidableEq α] {l : List α} (h : l.Nodup) : dd l = l := by
  induction l with
  | nil => rfl
  | cons x r ih =>
    obtain ⟨a, b⟩ := List.nodup_cons.mp h
    rw [dd, if_neg a, ih b]
theorem len_kids {d : PyData} {xs : List PyData} (h : kidsD d = some xs) : lenF [d] = some (.int xs.length) := by
  rcases kids_sq h with rfl | rfl <;> rfl
section
variable {n : Int} {ts : List (Int × Int)} {d : PyData}
theorem s_is_web (w : Web n ts d) : r_is_web [webD n d] = some (.bool true) := by
  have e1 : lenF [webD n d] = some (.int 2) := rfl
  have e2 : ∀ z : PyData, isTp (webD n z) = true := fun _ => rfl
  have l1 := w.lo
  have l2 := w.hi
  refine runD_eq (l := [some (.dat (webD n d)), some (.dat (.int n)), some (.dat d), none]) rfl ?_
  unfold g_is_web
  have ea : ∀ lo : Lo, lo = [some (.dat (webD n d)), some (.dat (.int n)), some (.dat d), none] → allF (seqI (vF 2)) 3 (andE (callF r_is_tie (consA (vF 3) (consA (vF 1) nilA))) (op2 ltF (op2 ixF (vF 3) (cF (.int 0))) (op2 ixF (vF 3) (cF (.int 1))))) true lo = some (.bool true, lo) := fun lo elo => by
    subst elo
    have hi : seqI (vF 2) [some (.dat (webD n d)), some (.dat (.int n)), some (.dat d), none] = some (TD ts, [some (.dat (webD n d)), some (.dat (.int n)), some (.dat d), none]) := by
      rcases kids_sq w.kids with h | h <;> rw [h] <;> rfl
    have := allF_spec (go := true) (g := andE (callF r_is_tie (consA (vF 3) (consA (vF 1) nilA))) (op2 ltF (op2 ixF (vF 3) (cF (.int 0))) (op2 ixF (vF 3) (cF (.int 1))))) (ix := 3) (fun _ => true) hi rfl fun x hx => by
      obtain ⟨⟨a, b⟩, hp, rfl⟩ := List.mem_map.mp hx
      have hr := w.rng (a, b) hp
      have e1 : ixF (tieD (a, b)) (.int 0) = some (.int a) := rfl
      have e2 : ixF (tieD (a, b)) (.int 1) = some (.int b) := rfl
      have e4 : a < b := hr.2.1
      repeat (simp only [lo0, List.map_cons, List.map_nil, List.replicate, List.cons_append, List.nil_append, Nat.reduceSub, seqS, retS, dropS, nilS, ifS, asgS, nmG, tpG, consGs, nilGs, vF, cF, un1, isF, op2, callF, consA, nilA, andE, orE, notE, tstE, notT, andT, orT, bF, truT, truD, tupF, lstF, Option.bind_some, Option.bind_none, List.getElem?_cons_zero, List.getElem?_cons_succ, List.set_cons_zero, List.set_cons_succ, List.length_cons, List.length_nil, if_true, if_false, Bool.not_true, Bool.not_false, eq_self, reduceCtorEq, Bool.false_eq_true, ↓reduceIte, Nat.reduceAdd, decide_true, decide_false, Bool.not_not, s_is_tie hr, e1, e2, cmpF, intF, e4])
    rw [this, if_pos rfl]
    simp
  have ech : chF leF leF (cF (.int 1)) (vF 1) (cF (.int 6)) [some (.dat (webD n d)), some (.dat (.int n)), some (.dat d), none] = some (.bool true, [some (.dat (webD n d)), some (.dat (.int n)), some (.dat d), none]) := by
    unfold chF
    repeat (simp only [lo0, List.map_cons, List.map_nil, List.replicate, List.cons_append, List.nil_append, Nat.reduceSub, seqS, retS, dropS, nilS, ifS, asgS, nmG, tpG, consGs, nilGs, vF, cF, un1, isF, op2, callF, consA, nilA, andE, orE, notE, tstE, notT, andT, orT, bF, truT, truD, tupF, lstF, Option.bind_some, Option.bind_none, List.getElem?_cons_zero, List.getElem?_cons_succ, List.set_cons_zero, List.set_cons_succ, List.length_cons, List.length_nil, if_true, if_false, Bool.not_true, Bool.not_false, eq_self, reduceCtorEq, Bool.false_eq_true, ↓reduceIte, Nat.reduceAdd, decide_true, decide_false, Bool.not_not, cmpF, intF])
    rw [decide_eq_true l1, decide_eq_true l2]
  repeat (simp only [lo0, List.map_cons, List.map_nil, List.replicate, List.cons_append, List.nil_append, Nat.reduceSub, seqS, retS, dropS, nilS, ifS, asgS, nmG, tpG, consGs, nilGs, vF, cF, un1, isF, op2, callF, consA, nilA, andE, orE, notE, tstE, notT, andT, orT, bF, truT, truD, tupF, lstF, Option.bind_some, Option.bind_none, List.getElem?_cons_zero, List.getElem?_cons_succ, List.set_cons_zero, List.set_cons_succ, List.length_cons, List.length_nil, if_true, if_false, Bool.not_true, Bool.not_false, eq_self, reduceCtorEq, Bool.false_eq_true, ↓reduceIte, Nat.reduceAdd, decide_true, decide_false, Bool.not_not, e1, e2, ne_int, s_is_integer, s_is_list w.kids, ech, ea _ rfl, lenSet_tie w.kids w.few, dd_self w.nd, len_kids w.kids, eq_int, List.length_map])
theorem s_check_web (w : Web n ts d) : r_check_web [webD n d] = some .none := runD_non (l := [some (.dat (webD n d))]) rfl (by
  unfold g_check_web
  repeat (simp only [lo0, List.map_cons, List.map_nil, List.replicate, List.cons_append, List.nil_append, Nat.reduceSub, seqS, retS, dropS, nilS, ifS, asgS, nmG, tpG, consGs, nilGs, vF, cF, un1, isF, op2, callF, consA, nilA, andE, orE, notE, tstE, notT, andT, orT, bF, truT, truD, tupF, lstF, Option.bind_some, Option.bind_none, List.getElem?_cons_zero, List.getElem?_cons_succ, List.set_cons_zero, List.set_cons_succ, List.length_cons, List.length_nil, if_true, if_false, Bool.not_true, Bool.not_false, eq_self, reduceCtorEq, Bool.false_eq_true, ↓reduceIte, Nat.reduceAdd, decide_true, decide_false, Bool.not_not, s_is_web w]))
theorem s_web_as_told (w : Web n ts d) : r_web_as_told [webD n d] = some (webD n (.list (TD (tSort ts)))) := runD_eq (l := [some (.dat (webD n d))]) rfl (by
  unfold g_web_as_told
  have := w.few
  have e : (2 : Nat) ≤ sizeLine := by decide
  repeat (simp only [lo0, List.map_cons, List.map_nil, List.replicate, List.cons_append, List.nil_append, Nat.reduceSub, seqS, retS, dropS, nilS, ifS, asgS, nmG, tpG, consGs, nilGs, vF, cF, un1, isF, op2, callF, consA, nilA, andE, orE, notE, tstE, notT, andT, orT, bF, truT, truD, tupF, lstF, Option.bind_some, Option.bind_none, List.getElem?_cons_zero, List.getElem?_cons_succ, List.set_cons_zero, List.set_cons_succ, List.length_cons, List.length_nil, if_true, if_false, Bool.not_true, Bool.not_false, eq_self, reduceCtorEq, Bool.false_eq_true, ↓reduceIte, Nat.reduceAdd, decide_true, decide_false, Bool.not_not, web_ix0, web_ix1, sort_TD w.kids (by omega), e]))
theorem s_told_web (w : Web n ts d) : r_told_web [webD n d] = some (webD n (.list (TD (tSort ts)))) := runD_eq (l := [some (.dat (webD n d))]) rfl (by
  unfold g_told_web
  repeat (simp only [lo0, List.map_cons, List.map_nil, List.replicate, List.cons_append, List.nil_append, Nat.reduceSub, seqS, retS, dropS, nilS, ifS, asgS, nmG, tpG, consGs, nilGs, vF, cF, un1, isF, op2, callF, consA, nilA, andE, orE, notE, tstE, notT, andT, orT, bF, truT, truD, tupF, lstF, Option.bind_some, Option.bind_none, List.getElem?_cons_zero, List.getElem?_cons_succ, List.set_cons_zero, List.set_cons_succ, List.length_cons, List.length_nil, if_true, if_false, Bool.not_true, Bool.not_false, eq_self, reduceCtorEq, Bool.false_eq_true, ↓reduceIte, Nat.reduceAdd, decide_true, decide_false, Bool.not_not, s_check_web w, s_web_as_told w]))
def cps (n : Int) : List Int := (List.range n.toNat).map fun i : Nat => (i : Int)
theorem rgL_cps (n : Int) : rgL 0 n = ID (cps n) := by
  unfold rgL cps ID
  rw [Int.sub_zero, List.map_map]
  exact List.map_congr_left fun i _ => by simp
theorem mem_cps {n i : Int} : i ∈ cps n ↔ 0 ≤ i ∧ i < n := by
  unfold cps
  rw [List.mem_map]
  constructor
  · rintro ⟨k, hk, rfl⟩
    rw [List.mem_range] at hk
    omega
  · rintro ⟨a, b⟩
    exact ⟨i.toNat, by rw [List.mem_range]; omega, by omega⟩
theorem cps_len {n : Int} : (cps n).length = n.toNat := by unfold cps; simp
theorem cps_nd {n : Int} : (cps n).Nodup := by
  unfold cps
  exact (List.nodup_range).map _ fun a b h => by omega
theorem listRg_eq {g : GE} {lo lo1 : Lo} {n : Int} (h : g lo = some (.int n, lo1)) (h2 : 0 ≤ n) (h3 : n ≤ 64) : listRgF g lo = some (.list (ID (cps n)), lo1) := by
  unfold listRgF
  rw [h, Option.bind_some]
  show (if small62 n = true ∧ n.toNat ≤ 2 ^ 24 then some (PyData.list (rgL 0 n), lo1) else none) = _
  rw [if_pos ⟨small62_iff.mpr (by omega), by omega⟩, rgL_cps]
theorem s_copies_of (w : Web n ts d) : r_copies_of [webD n d] = some (.list (ID (cps n))) := runD_eq (l := [some (.dat (webD n d))]) rfl (by
  have l1 := w.lo
  have l2 := w.hi
  unfold g_copies_of retS
  rw [listRg_eq (n := n) (lo1 := [some (.dat (webD n d))]) rfl (by omega) (by omega)]
  rfl)
def mn (a b : Int) : Int := if b < a then b else a
def mx (a b : Int) : Int := if b > a then b else a
def tied (ts : List (Int × Int)) (a b : Int) : Bool := decide ((mn a b, mx a b) ∈ ts)
theorem tied_symm (a b : Int) : tied ts a b = tied ts b a := by
  unfold tied mn mx
  rcases Int.lt_trichotomy a b with h | h | h
  · rw [if_neg (by omega), if_pos h, if_pos h, if_neg (by omega)]
  · rw [h]
  · rw [if_pos h, if_neg (by omega), if_neg (by omega), if_pos h]
theorem s_are_tied (w : Web n ts d) (a b : Int) : r_are_tied [webD n d, .int a, .int b] = some (.bool (tied ts a b)) := runD_eq (l := [some (.dat (webD n d)), some (.dat (.int a)), some (.dat (.int b))]) rfl (by
  unfold g_are_tied
  have e1 : min2F [.int a, .int b] = some (.int (mn a b)) := rfl
  have e2 : max2F [.int a, .int b] = some (.int (mx a b)) := rfl
  have e : (2 : Nat) ≤ sizeLine := by decide
  have e3 : inF (.tuple [.int (mn a b), .int (mx a b)]) d = some (.bool (tied ts a b)) := by
    rcases kids_sq w.kids with h | h <;> rw [h]
    · exact in_tie ts (mn a b, mx a b)
    · exact in_tieT ts (mn a b, mx a b)
  repeat (simp only [lo0, List.map_cons, List.map_nil, List.replicate, List.cons_append, List.nil_append, Nat.reduceSub, seqS, retS, dropS, nilS, ifS, asgS, nmG, tpG, consGs, nilGs, vF, cF, un1, isF, op2, callF, consA, nilA, andE, orE, notE, tstE, notT, andT, orT, bF, truT, truD, tupF, lstF, Option.bind_some, Option.bind_none, List.getElem?_cons_zero, List.getElem?_cons_succ, List.set_cons_zero, List.set_cons_succ, List.length_cons, List.length_nil, if_true, if_false, Bool.not_true, Bool.not_false, eq_self, reduceCtorEq, Bool.false_eq_true, ↓reduceIte, Nat.reduceAdd, decide_true, decide_false, Bool.not_not, e1, e2, web_ix1, e, e3]))
def nbs (n : Int) (ts : List (Int × Int)) (a : Int) : List Int := (cps n).filter (tied ts a)
theorem cps_small (w : Web n ts d) : (cps n).length ≤ 6 := by
  have := w.hi
  rw [cps_len]; omega
theorem s_neighbours_of (w : Web n ts d) (a : Int) : r_neighbours_of [webD n d, .int a] = some (.list (ID (nbs n ts a))) := runD_eq (l := [some (.dat (webD n d)), some (.dat (.int a)), none]) rfl (by
  have := cps_small w
  unfold g_neighbours_of retS
  have e := lcF_int (gi := seqI (callF r_copies_of (consA (vF 0) nilA))) (vs := [2]) (gg := nmG 2) (t := bF (callF r_are_tied (consA (vF 0) (consA (vF 1) (consA (vF 2) nilA))))) (g := vF 2) (lo := [some (.dat (webD n d)), some (.dat (.int a)), none]) (lo1 := [some (.dat (webD n d)), some (.dat (.int a)), none]) (ns := cps n) (tied ts a) PyData.int (by
    unfold seqI
    repeat (simp only [lo0, List.map_cons, List.map_nil, List.replicate, List.cons_append, List.nil_append, Nat.reduceSub, seqS, retS, dropS, nilS, ifS, asgS, nmG, tpG, consGs, nilGs, vF, cF, un1, isF, op2, callF, consA, nilA, andE, orE, notE, tstE, notT, andT, orT, bF, truT, truD, tupF, lstF, Option.bind_some, Option.bind_none, List.getElem?_cons_zero, List.getElem?_cons_succ, List.set_cons_zero, List.set_cons_succ, List.length_cons, List.length_nil, if_true, if_false, Bool.not_true, Bool.not_false, eq_self, reduceCtorEq, Bool.false_eq_true, ↓reduceIte, Nat.reduceAdd, decide_true, decide_false, Bool.not_not, s_copies_of w])) rfl (by rw [sizeLine_eq]; omega) fun c hc => ⟨[some (.dat (webD n d)), some (.dat (.int a)), some (.dat (.int c))], rfl, rfl, by repeat (simp only [lo0, List.map_cons, List.map_nil, List.replicate, List.cons_append, List.nil_append, Nat.reduceSub, seqS, retS, dropS, nilS, ifS, asgS, nmG, tpG, consGs, nilGs, vF, cF, un1, isF, op2, callF, consA, nilA, andE, orE, notE, tstE, notT, andT, orT, bF, truT, truD, tupF, lstF, Option.bind_some, Option.bind_none, List.getElem?_cons_zero, List.getElem?_cons_succ, List.set_cons_zero, List.set_cons_succ, List.length_cons, List.length_nil, if_true, if_false, Bool.not_true, Bool.not_false, eq_self, reduceCtorEq, Bool.false_eq_true, ↓reduceIte, Nat.reduceAdd, decide_true, decide_false, Bool.not_not, s_are_tied w]), fun _ => rfl⟩
  show (lcF _ _ _ _ _ [some (.dat (webD n d)), some (.dat (.int a)), none]).bind _ = _
  rw [e]
  rfl)
theorem s_neighbours (w : Web n ts d) {a : Int} (ha : 0 ≤ a ∧ a < n) : r_neighbours [webD n d, .int a] = some (.list (ID (nbs n ts a))) := runD_eq (l := [some (.dat (webD n d)), some (.dat (.int a))]) rfl (by
  unfold g_neighbours
  repeat (simp only [lo0, List.map_cons, List.map_nil, List.replicate, List.cons_append, List.nil_append, Nat.reduceSub, seqS, retS, dropS, nilS, ifS, asgS, nmG, tpG, consGs, nilGs, vF, cF, un1, isF, op2, callF, consA, nilA, andE, orE, notE, tstE, notT, andT, orT, bF, truT, truD, tupF, lstF, Option.bind_some, Option.bind_none, List.getElem?_cons_zero, List.getElem?_cons_succ, List.set_cons_zero, List.set_cons_succ, List.length_cons, List.length_nil, if_true, if_false, Bool.not_true, Bool.not_false, eq_self, reduceCtorEq, Bool.false_eq_true, ↓reduceIte, Nat.reduceAdd, decide_true, decide_false, Bool.not_not, s_check_web w, web_ix0, s_is_count_below, ha.1, ha.2, Bool.and_self, s_neighbours_of w]))
theorem s_is_tied_to_some (w : Web n ts d) (c : Int) (os : List Int) : r_is_tied_to_some [webD n d, .int c, .list (ID os)] = some (.bool (os.any (tied ts c))) := runD_eq (l := [some (.dat (webD n d)), some (.dat (.int c)), some (.dat (.list (ID os))), none]) rfl (by
  unfold g_is_tied_to_some retS
  have e := allF_spec (gi := seqI (vF 2)) (ix := 3) (g := callF r_are_tied (consA (vF 0) (consA (vF 1) (consA (vF 3) nilA)))) (go := false) (lo := [some (.dat (webD n d)), some (.dat (.int c)), some (.dat (.list (ID os))), none]) (fun x => match x with | .int o => tied ts c o | _ => false) (xs := ID os) (lo1 := [some (.dat (webD n d)), some (.dat (.int c)), some (.dat (.list (ID os))), none]) rfl rfl fun x hx => by
    obtain ⟨o, _, rfl⟩ := List.mem_map.mp hx
    repeat (simp only [lo0, List.map_cons, List.map_nil, List.replicate, List.cons_append, List.nil_append, Nat.reduceSub, seqS, retS, dropS, nilS, ifS, asgS, nmG, tpG, consGs, nilGs, vF, cF, un1, isF, op2, callF, consA, nilA, andE, orE, notE, tstE, notT, andT, orT, bF, truT, truD, tupF, lstF, Option.bind_some, Option.bind_none, List.getElem?_cons_zero, List.getElem?_cons_succ, List.set_cons_zero, List.set_cons_succ, List.length_cons, List.length_nil, if_true, if_false, Bool.not_true, Bool.not_false, eq_self, reduceCtorEq, Bool.false_eq_true, ↓reduceIte, Nat.reduceAdd, decide_true, decide_false, Bool.not_not, s_are_tied w])
  show (allF _ _ _ _ [some (.dat (webD n d)), some (.dat (.int c)), some (.dat (.list (ID os))), none]).bind _ = _
  rw [e, Option.bind_some, List.any_map]
  rfl)
end
end Ev

namespace Ev
open PySem PySem.Spec PyProof.Rows L2 Tb
/-! ### ways -/
inductive Conn (ts : List (Int × Int)) (a : Int) : Int → Prop
  | refl : Conn ts a a
  | step {b c : Int} : Conn ts a b → tied ts b c = true → Conn ts a c
theorem Conn.trans {ts : List (Int × Int)} {a b c : Int} (h : Conn ts a b) (k : Conn ts b c) : Conn ts a c := by
  induction k with
  | refl => exact h
  | step _ e ih => exact ih.step e
theorem Conn.one {ts : List (Int × Int)} {a b : Int} (h : tied ts a b = true) : Conn ts a b := Conn.refl.step h
theorem Conn.symm {ts : List (Int × Int)} {a b : Int} (h : Conn ts a b) : Conn ts b a := by
  induction h with
  | refl => exact .refl
  | step _ e ih => exact (Conn.one (by rw [tied_symm]; exact e)).trans ih
theorem sub_len {l m : List Int} (nd : l.Nodup) (h : ∀ x ∈ l, x ∈ m) : l.length ≤ m.length := by
  induction l generalizing m with
  | nil => simp
  | cons x r ih =>
    obtain ⟨a, b⟩ := List.nodup_cons.mp nd
    have hx := h x List.mem_cons_self
    have := ih (m := m.erase x) b fun y hy => (List.mem_erase_of_ne fun e : y = x => a (by rw [← e]; exact hy)).mpr (h y (List.mem_cons_of_mem _ hy))
    rw [List.length_erase_of_mem hx] at this
    have : 0 < m.length := List.length_pos_of_mem hx
    rw [List.length_cons]
    omega
theorem sub_all {l m : List Int} (nd : l.Nodup) (h : ∀ x ∈ l, x ∈ m) (hl : m.length ≤ l.length) : ∀ x ∈ m, x ∈ l := fun x hx => by
  by_cases hm : x ∈ l
  · exact hm
  · have := sub_len (l := x :: l) (m := m) (List.nodup_cons.mpr ⟨hm, nd⟩) fun y hy => by
      rcases List.mem_cons.mp hy with z | z
      · rw [z]; exact hx
      · exact h y z
    rw [List.length_cons] at this
    omega
section
variable {n : Int} {ts : List (Int × Int)} {d : PyData}
theorem tied_cps (w : Web n ts d) {a b : Int} (h : tied ts a b = true) : a ∈ cps n ∧ b ∈ cps n := by
  have := w.rng _ (of_decide_eq_true h)
  unfold mn mx at this
  rw [mem_cps, mem_cps]
  by_cases c : b < a
  · rw [if_pos c, if_neg (by omega)] at this
    have := this.2.2
    omega
  · rw [if_neg c] at this
    by_cases c2 : b > a
    · rw [if_pos c2] at this
      omega
    · rw [if_neg c2] at this
      omega
theorem Conn.cps (w : Web n ts d) {a b : Int} (h : Conn ts a b) (ha : a ∈ Ev.cps n) : b ∈ Ev.cps n := by
  cases h with
  | refl => exact ha
  | step _ e => exact (tied_cps w e).2
/-! ### is_joined -/
def jNew (n : Int) (ts : List (Int × Int)) (r p : List Int) : List Int := (cps n).filter fun c => !decide (c ∈ r) && p.any (tied ts c)
structure JInv (n : Int) (ts : List (Int × Int)) (r p : List Int) : Prop where
  nd : r.Nodup
  sub : ∀ x ∈ r, x ∈ cps n ∧ Conn ts 0 x
  zero : 0 ∈ r
  psub : ∀ x ∈ p, x ∈ r
  shut : ∀ x ∈ r, x ∉ p → ∀ c ∈ cps n, tied ts x c = true → c ∈ r
theorem JInv.next {r p : List Int} (J : JInv n ts r p) : JInv n ts (r ++ jNew n ts r p) (jNew n ts r p) := by
  have mem : ∀ {x}, x ∈ jNew n ts r p ↔ x ∈ cps n ∧ x ∉ r ∧ p.any (tied ts x) = true := fun {x} => by
    unfold jNew
    rw [List.mem_filter, Bool.and_eq_true, Bool.not_eq_true', decide_eq_false_iff_not]
  refine ⟨List.nodup_append.mpr ⟨J.nd, (cps_nd (n := n)).filter _, fun x hx y hy e => (mem.mp hy).2.1 (e ▸ hx)⟩, fun x hx => ?_, List.mem_append_left _ J.zero, fun x hx => List.mem_append_right _ hx, fun x hx hn c hc ht => ?_⟩
  · rcases List.mem_append.mp hx with h | h
    · exact J.sub x h
    · obtain ⟨h1, _, h2⟩ := mem.mp h
      obtain ⟨y, hy, ht⟩ := List.any_eq_true.mp h2
      exact ⟨h1, (J.sub y (J.psub y hy)).2.step (by rw [tied_symm]; exact ht)⟩
  · have hr : x ∈ r := (List.mem_append.mp hx).resolve_right hn
    by_cases hp : x ∈ p
    · by_cases hcr : c ∈ r
      · exact List.mem_append_left _ hcr
      · exact List.mem_append_right _ (mem.mpr ⟨hc, hcr, List.any_eq_true.mpr ⟨x, hp, by rw [tied_symm]; exact ht⟩⟩)
    · exact List.mem_append_left _ (J.shut x hr hp c hc ht)
theorem JInv.len (w : Web n ts d) {r p : List Int} (J : JInv n ts r p) : r.length ≤ 6 := Nat.le_trans (sub_len J.nd fun x hx => (J.sub x hx).1) (cps_small w)
theorem s_is_joined (w : Web n ts d) : ∃ b, r_is_joined [webD n d] = some (.bool b) ∧ (b = true ↔ ∀ c ∈ cps n, Conn ts 0 c) := by
  have l1 := w.lo
  have l2 := w.hi
  -- the turns
  obtain ⟨o, l, e, q⟩ := whileS_spec (t := truT (vF 2)) (body := seqS (asgS (lcF (seqI (callF r_copies_of (consA (vF 0) nilA))) [3] (nmG 3) (andT (bF (op2 notInF (vF 3) (vF 1))) (bF (callF r_is_tied_to_some (consA (vF 0) (consA (vF 3) (consA (vF 2) nilA)))))) (vF 3)) (nmG 2)) (asgS (op2 addF (vF 1) (vF 2)) (nmG 1)))
    (fun m lo => ∃ r p, lo = [some (.dat (webD n d)), some (.dat (.list (ID r))), some (.dat (.list (ID p))), none] ∧ JInv n ts r p ∧ m = if p = [] then 0 else 7 - r.length)
    (fun o lo => o = .nx ∧ ∃ r, lo = [some (.dat (webD n d)), some (.dat (.list (ID r))), some (.dat (.list (ID []))), none] ∧ JInv n ts r [])
    (fun m lo ⟨r, p, elo, J, em⟩ => by
      subst elo
      by_cases hp : p = []
      · subst hp
        exact .inl ⟨_, rfl, rfl, r, rfl, J⟩
      · have tr : truD (.list (ID p)) = some true := by
          cases p with
          | nil => exact absurd rfl hp
          | cons _ _ => rfl
        refine .inr ⟨[some (.dat (webD n d)), some (.dat (.list (ID r))), some (.dat (.list (ID p))), none], .nx, [some (.dat (webD n d)), some (.dat (.list (ID (r ++ jNew n ts r p)))), some (.dat (.list (ID (jNew n ts r p)))), none], ?_, ?_, .inl ⟨.inl rfl, _, ?_, _, _, rfl, J.next, rfl⟩⟩
        · unfold truT vF
          simp only [List.getElem?_cons_succ, List.getElem?_cons_zero, Option.bind_some, tr]
        · have hs := cps_small w
          have e := lcF_int (gi := seqI (callF r_copies_of (consA (vF 0) nilA))) (vs := [3]) (gg := nmG 3) (t := andT (bF (op2 notInF (vF 3) (vF 1))) (bF (callF r_is_tied_to_some (consA (vF 0) (consA (vF 3) (consA (vF 2) nilA)))))) (g := vF 3) (lo := [some (.dat (webD n d)), some (.dat (.list (ID r))), some (.dat (.list (ID p))), none]) (lo1 := [some (.dat (webD n d)), some (.dat (.list (ID r))), some (.dat (.list (ID p))), none]) (ns := cps n) (fun c => !decide (c ∈ r) && p.any (tied ts c)) PyData.int (by
            unfold seqI
            repeat (simp only [lo0, List.map_cons, List.map_nil, List.replicate, List.cons_append, List.nil_append, Nat.reduceSub, seqS, retS, dropS, nilS, ifS, asgS, nmG, tpG, consGs, nilGs, vF, cF, un1, isF, op2, callF, consA, nilA, andE, orE, notE, tstE, notT, andT, orT, bF, truT, truD, tupF, lstF, Option.bind_some, Option.bind_none, List.getElem?_cons_zero, List.getElem?_cons_succ, List.set_cons_zero, List.set_cons_succ, List.length_cons, List.length_nil, if_true, if_false, Bool.not_true, Bool.not_false, eq_self, reduceCtorEq, Bool.false_eq_true, ↓reduceIte, Nat.reduceAdd, decide_true, decide_false, Bool.not_not, s_copies_of w])) rfl (by rw [sizeLine_eq]; omega) fun c hc => ⟨[some (.dat (webD n d)), some (.dat (.list (ID r))), some (.dat (.list (ID p))), some (.dat (.int c))], rfl, rfl, by
              by_cases hc : c ∈ r
              · repeat (simp only [lo0, List.map_cons, List.map_nil, List.replicate, List.cons_append, List.nil_append, Nat.reduceSub, seqS, retS, dropS, nilS, ifS, asgS, nmG, tpG, consGs, nilGs, vF, cF, un1, isF, op2, callF, consA, nilA, andE, orE, notE, tstE, notT, andT, orT, bF, truT, truD, tupF, lstF, Option.bind_some, Option.bind_none, List.getElem?_cons_zero, List.getElem?_cons_succ, List.set_cons_zero, List.set_cons_succ, List.length_cons, List.length_nil, if_true, if_false, Bool.not_true, Bool.not_false, eq_self, reduceCtorEq, Bool.false_eq_true, ↓reduceIte, Nat.reduceAdd, decide_true, decide_false, Bool.not_not, notIn_int, s_is_tied_to_some w, hc, Bool.false_and])
              · repeat (simp only [lo0, List.map_cons, List.map_nil, List.replicate, List.cons_append, List.nil_append, Nat.reduceSub, seqS, retS, dropS, nilS, ifS, asgS, nmG, tpG, consGs, nilGs, vF, cF, un1, isF, op2, callF, consA, nilA, andE, orE, notE, tstE, notT, andT, orT, bF, truT, truD, tupF, lstF, Option.bind_some, Option.bind_none, List.getElem?_cons_zero, List.getElem?_cons_succ, List.set_cons_zero, List.set_cons_succ, List.length_cons, List.length_nil, if_true, if_false, Bool.not_true, Bool.not_false, eq_self, reduceCtorEq, Bool.false_eq_true, ↓reduceIte, Nat.reduceAdd, decide_true, decide_false, Bool.not_not, notIn_int, s_is_tied_to_some w, hc, Bool.true_and]), fun _ => rfl⟩
          have hj : (jNew n ts r p).length ≤ 6 := Nat.le_trans (List.length_filter_le _ _) (cps_small w)
          have hr := J.len w
          have e2 : addF (.list (ID r)) (.list (ID (jNew n ts r p))) = some (.list (ID (r ++ jNew n ts r p))) := by
            rw [cat_list (by rw [List.length_map, List.length_map, sizeLine_eq]; omega), ← List.map_append]
          have e : _ = some (PyData.list (ID (jNew n ts r p)), _) := e
          repeat (simp only [lo0, List.map_cons, List.map_nil, List.replicate, List.cons_append, List.nil_append, Nat.reduceSub, seqS, retS, dropS, nilS, ifS, asgS, nmG, tpG, consGs, nilGs, vF, cF, un1, isF, op2, callF, consA, nilA, andE, orE, notE, tstE, notT, andT, orT, bF, truT, truD, tupF, lstF, Option.bind_some, Option.bind_none, List.getElem?_cons_zero, List.getElem?_cons_succ, List.set_cons_zero, List.set_cons_succ, List.length_cons, List.length_nil, if_true, if_false, Bool.not_true, Bool.not_false, eq_self, reduceCtorEq, Bool.false_eq_true, ↓reduceIte, Nat.reduceAdd, decide_true, decide_false, Bool.not_not, e, e2])
        · have h1 : (r ++ jNew n ts r p).length ≤ 6 := J.next.len w
          have h0 := J.len w
          rw [em, if_neg hp]
          rw [List.length_append] at h1 ⊢
          split
          · omega
          · rename_i h
            have := List.length_pos_iff.mpr h
            omega)
    4096 6 _ ⟨[0], [0], rfl, ⟨by simp, fun x hx => by
      rw [List.mem_singleton] at hx
      subst hx
      exact ⟨mem_cps.mpr (by omega), .refl⟩, by simp, fun x hx => hx, fun x hx hn => absurd hx hn⟩, by simp⟩ (by decide)
  obtain ⟨rfl, r, rfl, J⟩ := q
  have e2 : (2 : Nat) ≤ sizeLine := by decide
  have e1 : (1 : Nat) ≤ sizeLine := by decide
  have e3 : lenF [.list (ID r)] = some (.int r.length) := by rw [len_kids (xs := ID r) rfl, List.length_map]
  refine ⟨decide ((r.length : Int) = n), runD_eq (l := [some (.dat (webD n d)), some (.dat (.list (ID r))), some (.dat (.list (ID []))), none]) rfl ?_, ?_⟩
  · unfold g_is_joined
    simp only [ID, List.map_cons, List.map_nil] at e
    repeat (simp only [lo0, List.map_cons, List.map_nil, List.replicate, List.cons_append, List.nil_append, Nat.reduceSub, seqS, retS, dropS, nilS, ifS, asgS, nmG, tpG, consGs, nilGs, vF, cF, un1, isF, op2, callF, consA, nilA, andE, orE, notE, tstE, notT, andT, orT, bF, truT, truD, tupF, lstF, Option.bind_some, Option.bind_none, List.getElem?_cons_zero, List.getElem?_cons_succ, List.set_cons_zero, List.set_cons_succ, List.length_cons, List.length_nil, if_true, if_false, Bool.not_true, Bool.not_false, eq_self, reduceCtorEq, Bool.false_eq_true, ↓reduceIte, Nat.reduceAdd, decide_true, decide_false, Bool.not_not, s_check_web w, e1, e2, e, e3, web_ix0, eq_int])
  · rw [decide_eq_true_eq]
    constructor
    · intro h c hc
      exact (J.sub c (sub_all J.nd (fun x hx => (J.sub x hx).1) (by rw [cps_len]; omega) c hc)).2
    · intro h
      have all : ∀ c, Conn ts 0 c → c ∈ r := fun c hc => by
        induction hc with
        | refl => exact J.zero
        | step hb ht ih => exact J.shut _ ih (by simp) _ (tied_cps w ht).2 ht
      have a := sub_len J.nd fun x hx => (J.sub x hx).1
      have b := sub_len (cps_nd (n := n)) fun x hx => all x (h x hx)
      rw [cps_len] at a b
      omega
end
end Ev

/-! The first ring of a web. -/
namespace Ev
open PySem PySem.Spec PyProof.Rows L2 Tb
/-- each is tied to the next -/
def lk (ts : List (Int × Int)) : List Int → Prop
  | [] => True
  | [_] => True
  | a :: b :: r => tied ts a b = true ∧ lk ts (b :: r)
theorem lk_snoc {ts : List (Int × Int)} {b c : Int} : ∀ {p : List Int}, lk ts (p ++ [b] ++ [c]) ↔ lk ts (p ++ [b]) ∧ tied ts b c = true
  | [] => by simp [lk]
  | [a] => by simp [lk]
  | a :: a' :: r => by
    have ih := lk_snoc (ts := ts) (b := b) (c := c) (p := a' :: r)
    show tied ts a a' = true ∧ lk ts (a' :: r ++ [b] ++ [c]) ↔ (tied ts a a' = true ∧ lk ts (a' :: r ++ [b])) ∧ _
    rw [ih, and_assoc]
/-- a way of k + 1 copies, none twice -/
structure SP (n : Int) (ts : List (Int × Int)) (k : Nat) (p : List Int) : Prop where
  len : p.length = k + 1
  nd : p.Nodup
  sub : ∀ x ∈ p, x ∈ cps n
  lk : lk ts p
/-- .. that closes -/
def closes (ts : List (Int × Int)) (p : List Int) : Bool := decide (2 < p.length) && tied ts (p.headD 0) (p.getLastD 0)
abbrev lD (p : List Int) : PyData := .list (ID p)
section
variable {n : Int} {ts : List (Int × Int)} {d : PyData}
theorem SP.ne {k : Nat} {p : List Int} (h : SP n ts k p) : ∃ q b, p = q ++ [b] := by
  have : p ≠ [] := fun e => by have := h.len; rw [e] at this; simp at this
  exact ⟨p.dropLast, p.getLast this, (List.dropLast_concat_getLast this).symm⟩
theorem SP.le (w : Web n ts d) {k : Nat} {p : List Int} (h : SP n ts k p) : k ≤ 5 := by
  have := sub_len h.nd h.sub
  have := cps_small w
  have := h.len
  omega
/-- one further -/
def pNew (n : Int) (ts : List (Int × Int)) (ps : List (List Int)) : List (List Int) := ps.flatMap fun p => ((nbs n ts (p.getLastD 0)).filter fun c => !decide (c ∈ p)).map fun c => p ++ [c]
theorem mem_nbs (w : Web n ts d) {a c : Int} : c ∈ nbs n ts a ↔ tied ts a c = true := by
  unfold nbs
  rw [List.mem_filter]
  exact ⟨fun h => h.2, fun h => ⟨(tied_cps w h).2, h⟩⟩
theorem pNew_sp (w : Web n ts d) {k : Nat} {ps : List (List Int)} (h : ∀ p, p ∈ ps ↔ SP n ts k p) : ∀ p, p ∈ pNew n ts ps ↔ SP n ts (k + 1) p := fun p => by
  unfold pNew
  rw [List.mem_flatMap]
  constructor
  · rintro ⟨q, hq, hp⟩
    obtain ⟨c, hc, rfl⟩ := List.mem_map.mp hp
    have s := (h q).mp hq
    obtain ⟨q', b, rfl⟩ := s.ne
    rw [List.mem_filter, Bool.not_eq_true', decide_eq_false_iff_not, mem_nbs w, show (q' ++ [b]).getLastD 0 = b by simp] at hc
    refine ⟨by rw [List.length_append, s.len]; rfl, List.nodup_append.mpr ⟨s.nd, by simp, fun x hx y hy e => hc.2 ?_⟩, fun x hx => ?_, lk_snoc.mpr ⟨s.lk, hc.1⟩⟩
    · rw [List.mem_singleton] at hy
      rw [← hy, ← e]; exact hx
    · rcases List.mem_append.mp hx with z | z
      · exact s.sub x z
      · rw [List.mem_singleton] at z
        rw [z]; exact (tied_cps w hc.1).2
  · intro s
    obtain ⟨q, c, rfl⟩ := s.ne
    have hl := s.len
    rw [List.length_append] at hl
    have hq : q ≠ [] := fun e => by rw [e] at hl; simp at hl
    have eq : q = q.dropLast ++ [q.getLast hq] := (List.dropLast_concat_getLast hq).symm
    have hlk := s.lk
    rw [eq] at hlk
    obtain ⟨k1, k2⟩ := lk_snoc.mp hlk
    rw [← eq] at k1
    obtain ⟨n1, n2, n3⟩ := List.nodup_append.mp s.nd
    have hc : c ∉ q := fun hm => n3 c hm c (by simp) rfl
    refine ⟨q, (h q).mpr ⟨by simpa using hl, n1, fun x hx => s.sub x (List.mem_append_left _ hx), k1⟩, List.mem_map.mpr ⟨c, ?_, rfl⟩⟩
    rw [List.mem_filter, Bool.not_eq_true', decide_eq_false_iff_not, mem_nbs w]
    refine ⟨?_, hc⟩
    rw [eq, show (q.dropLast ++ [q.getLast hq]).getLastD 0 = q.getLast hq by simp]
    exact k2
theorem pNew_len (w : Web n ts d) : ∀ ps : List (List Int), (pNew n ts ps).length ≤ 6 * ps.length ∧ (ps.map fun p => (nbs n ts (p.getLastD 0)).length).sum ≤ 6 * ps.length
  | [] => by simp [pNew]
  | p :: r => by
    have hn : (nbs n ts (p.getLastD 0)).length ≤ 6 := Nat.le_trans (List.length_filter_le _ _) (cps_small w)
    obtain ⟨a, b⟩ := pNew_len w r
    have e : pNew n ts (p :: r) = ((nbs n ts (p.getLastD 0)).filter fun c => !decide (c ∈ p)).map (fun c => p ++ [c]) ++ pNew n ts r := by unfold pNew; rw [List.flatMap_cons]
    have lf := List.length_filter_le (fun c => !decide (c ∈ p)) (nbs n ts (p.getLastD 0))
    rw [e, List.length_append, List.length_map, List.map_cons, List.sum_cons, List.length_cons]
    omega
/-- a ring: a way of three copies or more, none twice, that closes -/
structure Ring (n : Int) (ts : List (Int × Int)) (p : List Int) : Prop where
  nd : p.Nodup
  sub : ∀ x ∈ p, x ∈ cps n
  lk : Ev.lk ts p
  closes : closes ts p = true
/-- all ways of k + 1 copies, no ring among the shorter ones -/
structure FInv (n : Int) (ts : List (Int × Int)) (k : Nat) (ps : List (List Int)) : Prop where
  all : ∀ p, p ∈ ps ↔ SP n ts k p
  no : ∀ j p, j < k → SP n ts j p → closes ts p = false
  few : ps.length ≤ 6 ^ (k + 1)
theorem ix_head {p : List Int} (h : p ≠ []) : ixF (lD p) (.int 0) = some (.int (p.headD 0)) := by
  cases p with
  | nil => exact absurd rfl h
  | cons a r => exact ix_nat (i := 0) rfl
theorem ix_lst {p : List Int} (h : p ≠ []) : ixF (lD p) (.int (-1)) = some (.int (p.getLastD 0)) := by
  have e : p = p.dropLast ++ [p.getLast h] := (List.dropLast_concat_getLast h).symm
  rw [e, show (p.dropLast ++ [p.getLast h]).getLastD 0 = p.getLast h by simp]
  show ixF (.list (ID (p.dropLast ++ [p.getLast h]))) _ = _
  rw [show ID (p.dropLast ++ [p.getLast h]) = ID p.dropLast ++ [.int (p.getLast h)] by simp [ID]]
  exact ix_last
theorem lk_take {ts : List (Int × Int)} : ∀ (k : Nat) (p : List Int), lk ts p → lk ts (p.take k)
  | 0, _, _ => by simp [lk]
  | 1, [], _ => by simp [lk]
  | 1, _ :: _, _ => by simp [lk]
  | k + 2, [], _ => by simp [lk]
  | k + 2, [a], _ => by simp [lk]
  | k + 2, a :: b :: r, h => ⟨h.1, lk_take (k + 1) (b :: r) h.2⟩
theorem first_inv : FInv n ts 0 ((cps n).map fun c => [c]) ∨ 6 < (cps n).length := by
  by_cases h : 6 < (cps n).length
  · exact .inr h
  · refine .inl ⟨fun p => ?_, fun j p h => by omega, by rw [List.length_map]; omega⟩
    rw [List.mem_map]
    constructor
    · rintro ⟨c, hc, rfl⟩
      exact ⟨rfl, by simp, fun x hx => by
        rw [List.mem_singleton] at hx
        rw [hx]; exact hc, trivial⟩
    · intro s
      have hl := s.len
      match p, hl with
      | [c], _ => exact ⟨c, s.sub c (by simp), rfl⟩
theorem s_first_ring (w : Web n ts d) : ∃ x, r_first_ring [webD n d] = some x ∧ ((x = .none ∧ ∀ p, ¬ Ring n ts p) ∨ ∃ p, x = lD p ∧ Ring n ts p) := by
  have l1 := w.lo
  have l2 := w.hi
  have negF1 : negF (.int 1) = some (.int (-1)) := rfl
  obtain ⟨o, l, e, q⟩ := whileS_spec (t := truT (vF 1)) (body := seqS (forS (seqI (vF 1)) (nmG 3) (ifS (andT (bF (op2 gtF (callF lenF (consA (vF 3) nilA)) (cF (.int 2)))) (bF (callF r_are_tied (consA (vF 0) (consA (op2 ixF (vF 3) (cF (.int 0))) (consA (op2 ixF (vF 3) (un1 negF (cF (.int 1)))) nilA)))))) (retS (vF 3)) nilS))
  (setLcS (lc2F (seqI (vF 1)) [3, 2] (nmG 3) yesT (seqI (callF r_neighbours_of (consA (vF 0) (consA (op2 ixF (vF 3) (un1 negF (cF (.int 1)))) nilA)))) [2] (nmG 2) (bF (op2 notInF (vF 2) (vF 3))) (op2 addF (vF 3) (lstF (consA (vF 2) nilA)))) 1))
    (fun m lo => ∃ k ps o3, lo = [some (.dat (webD n d)), some (.dat (.list (ps.map lD))), none, o3] ∧ (∀ xs, o3 ≠ some (.lst xs)) ∧ FInv n ts k ps ∧ m + k = 7)
    (fun o lo => (o = .nx ∧ ∀ p, ¬ Ring n ts p) ∨ ∃ p, o = .rt (lD p) ∧ Ring n ts p)
    (fun m lo ⟨k, ps, o3, elo, no3, J, em⟩ => by
      subst elo
      by_cases hp : ps = []
      · subst hp
        refine .inl ⟨_, rfl, .inl ⟨rfl, fun p R => ?_⟩⟩
        -- no way of k + 1 copies: none longer
        have hc : 2 < p.length := by
          have := R.closes
          unfold closes at this
          rw [Bool.and_eq_true, decide_eq_true_eq] at this
          exact this.1
        by_cases hk : p.length - 1 < k
        · have := J.no (p.length - 1) p hk ⟨by omega, R.nd, R.sub, R.lk⟩
          rw [R.closes] at this
          cases this
        · have := (J.all (p.take (k + 1))).mpr ⟨by rw [List.length_take]; omega, R.nd.sublist (List.take_sublist _ _), fun x hx => R.sub x (List.mem_of_mem_take hx), lk_take _ _ R.lk⟩
          simp at this
      · obtain ⟨p0, hp0⟩ := List.exists_mem_of_ne_nil _ hp
        have hk : k ≤ 5 := ((J.all p0).mp hp0).le w
        have tr : truD (.list (ps.map lD)) = some true := by
          cases ps with
          | nil => exact absurd rfl hp
          | cons _ _ => rfl
        obtain ⟨l9, ⟨o9, e9, n9⟩, f9⟩ := forGo_findM (gg := nmG 3) (body := ifS (andT (bF (op2 gtF (callF lenF (consA (vF 3) nilA)) (cF (.int 2)))) (bF (callF r_are_tied (consA (vF 0) (consA (op2 ixF (vF 3) (cF (.int 0))) (consA (op2 ixF (vF 3) (un1 negF (cF (.int 1)))) nilA)))))) (retS (vF 3)) nilS) lD
          (fun l => ∃ o, l = [some (.dat (webD n d)), some (.dat (.list (ps.map lD))), none, o] ∧ ∀ xs, o ≠ some (.lst xs)) (closes ts) ps _ ⟨o3, rfl, no3⟩ fun p hp l ⟨o, el, _⟩ => by
            subst el
            refine ⟨[some (.dat (webD n d)), some (.dat (.list (ps.map lD))), none, some (.dat (lD p))], [some (.dat (webD n d)), some (.dat (.list (ps.map lD))), none, some (.dat (lD p))], rfl, ⟨_, rfl, fun _ z => by cases z⟩, ?_⟩
            have hne : p ≠ [] := fun z => by have := ((J.all p).mp hp).len; rw [z] at this; simp at this
            have e1 : lenF [lD p] = some (.int p.length) := by rw [len_kids (xs := ID p) rfl, List.length_map]
            have e2 : gtF (.int p.length) (.int 2) = some (.bool (decide (2 < p.length))) := by
              show some (PyData.bool (decide ((2 : Int) < p.length))) = _
              rw [show decide ((2 : Int) < p.length) = decide (2 < p.length) from decide_eq_decide.mpr (by omega)]
            unfold closes
            by_cases hl : 2 < p.length
            · repeat (simp only [lo0, List.map_cons, List.map_nil, List.replicate, List.cons_append, List.nil_append, Nat.reduceSub, seqS, retS, dropS, nilS, ifS, asgS, nmG, tpG, consGs, nilGs, vF, cF, un1, isF, op2, callF, consA, nilA, andE, orE, notE, tstE, notT, andT, orT, bF, truT, truD, tupF, lstF, Option.bind_some, Option.bind_none, List.getElem?_cons_zero, List.getElem?_cons_succ, List.set_cons_zero, List.set_cons_succ, List.length_cons, List.length_nil, if_true, if_false, Bool.not_true, Bool.not_false, eq_self, reduceCtorEq, Bool.false_eq_true, ↓reduceIte, Nat.reduceAdd, decide_true, decide_false, Bool.not_not, e1, e2, hl, ix_head hne, ix_lst hne, negF1, s_are_tied w, Bool.true_and])
              cases tied ts (p.headD 0) (p.getLastD 0) <;> rfl
            · repeat (simp only [lo0, List.map_cons, List.map_nil, List.replicate, List.cons_append, List.nil_append, Nat.reduceSub, seqS, retS, dropS, nilS, ifS, asgS, nmG, tpG, consGs, nilGs, vF, cF, un1, isF, op2, callF, consA, nilA, andE, orE, notE, tstE, notT, andT, orT, bF, truT, truD, tupF, lstF, Option.bind_some, Option.bind_none, List.getElem?_cons_zero, List.getElem?_cons_succ, List.set_cons_zero, List.set_cons_succ, List.length_cons, List.length_nil, if_true, if_false, Bool.not_true, Bool.not_false, eq_self, reduceCtorEq, Bool.false_eq_true, ↓reduceIte, Nat.reduceAdd, decide_true, decide_false, Bool.not_not, e1, e2, hl, Bool.false_and])
        subst e9
        have f8 : forS (seqI (vF 1)) (nmG 3) (ifS (andT (bF (op2 gtF (callF lenF (consA (vF 3) nilA)) (cF (.int 2)))) (bF (callF r_are_tied (consA (vF 0) (consA (op2 ixF (vF 3) (cF (.int 0))) (consA (op2 ixF (vF 3) (un1 negF (cF (.int 1)))) nilA)))))) (retS (vF 3)) nilS) [some (.dat (webD n d)), some (.dat (.list (ps.map lD))), none, o3] = _ := f9
        have tt : truT (vF 1) [some (.dat (webD n d)), some (.dat (.list (ps.map lD))), none, o3] = some (true, [some (.dat (webD n d)), some (.dat (.list (ps.map lD))), none, o3]) := by
          unfold truT vF
          simp only [List.getElem?_cons_succ, List.getElem?_cons_zero, Option.bind_some, tr]
        cases hf : ps.find? (closes ts) with
        | some p =>
          rw [hf] at f8
          have hm := (J.all p).mp (List.mem_of_find?_eq_some hf)
          refine .inr ⟨_, .rt (lD p), [some (.dat (webD n d)), some (.dat (.list (ps.map lD))), none, o9], tt, ?_, .inr ⟨lD p, rfl, .inr ⟨p, rfl, hm.nd, hm.sub, hm.lk, List.find?_some hf⟩⟩⟩
          unfold seqS
          rw [f8]; rfl
        | none =>
          rw [hf] at f8
          have hpow : 6 ^ (k + 1) ≤ 6 ^ 6 := Nat.pow_le_pow_right (by decide) (by omega)
          have hfew := J.few
          have pl := pNew_len w ps
          have lc := lc2F_spec (gi := seqI (vF 1)) (vs := [3, 2]) (gg := nmG 3) (t := yesT) (gi1 := seqI (callF r_neighbours_of (consA (vF 0) (consA (op2 ixF (vF 3) (un1 negF (cF (.int 1)))) nilA)))) (vs1 := [2]) (gg1 := nmG 2) (t1 := bF (op2 notInF (vF 2) (vF 3))) (g := op2 addF (vF 3) (lstF (consA (vF 2) nilA))) (lo := [some (.dat (webD n d)), some (.dat (.list (ps.map lD))), none, o9]) (lo1 := [some (.dat (webD n d)), some (.dat (.list (ps.map lD))), none, o9]) lD ps (fun p => nbs n ts (p.getLastD 0)) (fun p c => !decide (c ∈ p)) (fun p c => lD (p ++ [c])) rfl (by
              cases o9 with
              | none => rfl
              | some x =>
                cases x with
                | dat _ => rfl
                | lst xs => exact absurd rfl (n9 xs)) (fun p hp => by
              have s := (J.all p).mp hp
              have hne : p ≠ [] := fun z => by have := s.len; rw [z] at this; simp at this
              refine ⟨[some (.dat (webD n d)), some (.dat (.list (ps.map lD))), none, some (.dat (lD p))], rfl, rfl, ?_, rfl, fun c hc => ⟨[some (.dat (webD n d)), some (.dat (.list (ps.map lD))), some (.dat (.int c)), some (.dat (lD p))], rfl, rfl, ?_, fun _ => ?_⟩⟩
              · unfold seqI
                repeat (simp only [lo0, List.map_cons, List.map_nil, List.replicate, List.cons_append, List.nil_append, Nat.reduceSub, seqS, retS, dropS, nilS, ifS, asgS, nmG, tpG, consGs, nilGs, vF, cF, un1, isF, op2, callF, consA, nilA, andE, orE, notE, tstE, notT, andT, orT, bF, truT, truD, tupF, lstF, Option.bind_some, Option.bind_none, List.getElem?_cons_zero, List.getElem?_cons_succ, List.set_cons_zero, List.set_cons_succ, List.length_cons, List.length_nil, if_true, if_false, Bool.not_true, Bool.not_false, eq_self, reduceCtorEq, Bool.false_eq_true, ↓reduceIte, Nat.reduceAdd, decide_true, decide_false, Bool.not_not, ix_lst hne, negF1, s_neighbours_of w])
              · have := notIn_int p c
                repeat (simp only [lo0, List.map_cons, List.map_nil, List.replicate, List.cons_append, List.nil_append, Nat.reduceSub, seqS, retS, dropS, nilS, ifS, asgS, nmG, tpG, consGs, nilGs, vF, cF, un1, isF, op2, callF, consA, nilA, andE, orE, notE, tstE, notT, andT, orT, bF, truT, truD, tupF, lstF, Option.bind_some, Option.bind_none, List.getElem?_cons_zero, List.getElem?_cons_succ, List.set_cons_zero, List.set_cons_succ, List.length_cons, List.length_nil, if_true, if_false, Bool.not_true, Bool.not_false, eq_self, reduceCtorEq, Bool.false_eq_true, ↓reduceIte, Nat.reduceAdd, decide_true, decide_false, Bool.not_not, this])
              · have e1 : (1 : Nat) ≤ sizeLine := by decide
                have hl := s.len
                have e2 : addF (lD p) (.list [.int c]) = some (lD (p ++ [c])) := by
                  show addF (.list (ID p)) (.list [.int c]) = _
                  rw [cat_list (by rw [List.length_map, sizeLine_eq]; simp; omega)]
                  simp [ID]
                repeat (simp only [lo0, List.map_cons, List.map_nil, List.replicate, List.cons_append, List.nil_append, Nat.reduceSub, seqS, retS, dropS, nilS, ifS, asgS, nmG, tpG, consGs, nilGs, vF, cF, un1, isF, op2, callF, consA, nilA, andE, orE, notE, tstE, notT, andT, orT, bF, truT, truD, tupF, lstF, Option.bind_some, Option.bind_none, List.getElem?_cons_zero, List.getElem?_cons_succ, List.set_cons_zero, List.set_cons_succ, List.length_cons, List.length_nil, if_true, if_false, Bool.not_true, Bool.not_false, eq_self, reduceCtorEq, Bool.false_eq_true, ↓reduceIte, Nat.reduceAdd, decide_true, decide_false, Bool.not_not, e1, e2])) (by rw [sizeLine_eq]; omega)
          have en : (ps.flatMap fun p => ((nbs n ts (p.getLastD 0)).filter fun c => !decide (c ∈ p)).map fun c => lD (p ++ [c])) = (pNew n ts ps).map lD := by
            unfold pNew
            rw [List.map_flatMap]
            simp only [List.map_map]
            rfl
          rw [en] at lc
          refine .inr ⟨_, .nx, [some (.dat (webD n d)), some (.dat (.list ((pNew n ts ps).map lD))), none, o9], tt, ?_, .inl ⟨.inl rfl, 7 - (k + 1), by omega, k + 1, pNew n ts ps, o9, rfl, n9, ⟨pNew_sp w J.all, fun j p hj hs => ?_, ?_⟩, by omega⟩⟩
          · unfold seqS
            rw [f8]
            show setLcS _ 1 [some (.dat (webD n d)), some (.dat (.list (ps.map lD))), none, o9] = _
            unfold setLcS
            rw [lc]; rfl
          · by_cases hk' : j < k
            · exact J.no j p hk' hs
            · have : j = k := by omega
              subst this
              have := List.find?_eq_none.mp hf p ((J.all p).mpr hs)
              simpa using this
          · rw [Nat.pow_succ]
            omega)
    4096 7 _ ⟨0, (cps n).map fun c => [c], none, rfl, (fun _ z => by cases z), (first_inv (n := n) (ts := ts)).resolve_right (by have := cps_small w; omega), rfl⟩ (by decide)
  have lc := lcF_int (gi := seqI (callF r_copies_of (consA (vF 0) nilA))) (vs := [2]) (gg := nmG 2) (t := yesT) (g := lstF (consA (vF 2) nilA)) (lo := [some (.dat (webD n d)), none, none, none]) (lo1 := [some (.dat (webD n d)), none, none, none]) (ns := cps n) (fun _ => true) (fun c => lD [c]) (by
    unfold seqI
    repeat (simp only [lo0, List.map_cons, List.map_nil, List.replicate, List.cons_append, List.nil_append, Nat.reduceSub, seqS, retS, dropS, nilS, ifS, asgS, nmG, tpG, consGs, nilGs, vF, cF, un1, isF, op2, callF, consA, nilA, andE, orE, notE, tstE, notT, andT, orT, bF, truT, truD, tupF, lstF, Option.bind_some, Option.bind_none, List.getElem?_cons_zero, List.getElem?_cons_succ, List.set_cons_zero, List.set_cons_succ, List.length_cons, List.length_nil, if_true, if_false, Bool.not_true, Bool.not_false, eq_self, reduceCtorEq, Bool.false_eq_true, ↓reduceIte, Nat.reduceAdd, decide_true, decide_false, Bool.not_not, s_copies_of w])) rfl (by have := cps_small w; rw [sizeLine_eq]; omega) fun c hc => ⟨[some (.dat (webD n d)), none, some (.dat (.int c)), none], rfl, rfl, rfl, fun _ => by
      have e1 : (1 : Nat) ≤ sizeLine := by decide
      repeat (simp only [lo0, List.map_cons, List.map_nil, List.replicate, List.cons_append, List.nil_append, Nat.reduceSub, seqS, retS, dropS, nilS, ifS, asgS, nmG, tpG, consGs, nilGs, vF, cF, un1, isF, op2, callF, consA, nilA, andE, orE, notE, tstE, notT, andT, orT, bF, truT, truD, tupF, lstF, Option.bind_some, Option.bind_none, List.getElem?_cons_zero, List.getElem?_cons_succ, List.set_cons_zero, List.set_cons_succ, List.length_cons, List.length_nil, if_true, if_false, Bool.not_true, Bool.not_false, eq_self, reduceCtorEq, Bool.false_eq_true, ↓reduceIte, Nat.reduceAdd, decide_true, decide_false, Bool.not_not, e1, lD, ID])⟩
  rw [List.filter_eq_self.mpr fun _ _ => rfl] at lc
  have en : ((cps n).map fun c => [c]).map lD = (cps n).map fun c => lD [c] := by rw [List.map_map]; rfl
  rw [en] at e
  have st : setLcS (lcF (seqI (callF r_copies_of (consA (vF 0) nilA))) [2] (nmG 2) yesT (lstF (consA (vF 2) nilA))) 1 [some (.dat (webD n d)), none, none, none] = some (.nx, [some (.dat (webD n d)), some (.dat (.list ((cps n).map fun c => lD [c]))), none, none]) := by
    unfold setLcS
    rw [lc]; rfl
  rcases q with ⟨rfl, h⟩ | ⟨p, rfl, R⟩
  · refine ⟨.none, runD_eq (l := l) rfl ?_, .inl ⟨rfl, h⟩⟩
    show seqS _ (seqS _ _) [some (.dat (webD n d)), none, none, none] = _
    rw [seq_nx st, seq_nx e]
    rfl
  · refine ⟨lD p, runD_eq (l := l) rfl ?_, .inr ⟨p, rfl, R⟩⟩
    show seqS _ (seqS _ _) [some (.dat (webD n d)), none, none, none] = _
    rw [seq_nx st, seq_rt e]
theorem s_has_ring (w : Web n ts d) : ∃ b, r_has_ring [webD n d] = some (.bool b) ∧ (b = true ↔ ∃ p, Ring n ts p) := by
  obtain ⟨x, e, h⟩ := s_first_ring w
  rcases h with ⟨rfl, h⟩ | ⟨p, rfl, R⟩
  · refine ⟨false, runD_eq (l := [some (.dat (webD n d))]) rfl ?_, ⟨(fun z => by cases z), fun ⟨p, R⟩ => (h p R).elim⟩⟩
    unfold g_has_ring
    repeat (simp only [lo0, List.map_cons, List.map_nil, List.replicate, List.cons_append, List.nil_append, Nat.reduceSub, seqS, retS, dropS, nilS, ifS, asgS, nmG, tpG, consGs, nilGs, vF, cF, un1, isF, op2, callF, consA, nilA, andE, orE, notE, tstE, notT, andT, orT, bF, truT, truD, tupF, lstF, Option.bind_some, Option.bind_none, List.getElem?_cons_zero, List.getElem?_cons_succ, List.set_cons_zero, List.set_cons_succ, List.length_cons, List.length_nil, if_true, if_false, Bool.not_true, Bool.not_false, eq_self, reduceCtorEq, Bool.false_eq_true, ↓reduceIte, Nat.reduceAdd, decide_true, decide_false, Bool.not_not, s_check_web w, e])
    rfl
  · refine ⟨true, runD_eq (l := [some (.dat (webD n d))]) rfl ?_, ⟨fun _ => ⟨p, R⟩, fun _ => rfl⟩⟩
    unfold g_has_ring
    repeat (simp only [lo0, List.map_cons, List.map_nil, List.replicate, List.cons_append, List.nil_append, Nat.reduceSub, seqS, retS, dropS, nilS, ifS, asgS, nmG, tpG, consGs, nilGs, vF, cF, un1, isF, op2, callF, consA, nilA, andE, orE, notE, tstE, notT, andT, orT, bF, truT, truD, tupF, lstF, Option.bind_some, Option.bind_none, List.getElem?_cons_zero, List.getElem?_cons_succ, List.set_cons_zero, List.set_cons_succ, List.length_cons, List.length_nil, if_true, if_false, Bool.not_true, Bool.not_false, eq_self, reduceCtorEq, Bool.false_eq_true, ↓reduceIte, Nat.reduceAdd, decide_true, decide_false, Bool.not_not, s_check_web w, e])
    rfl
theorem s_ring (w : Web n ts d) : ∃ x, r_ring [webD n d] = some x ∧ ((x = .none ∧ ∀ p, ¬ Ring n ts p) ∨ ∃ p, x = lD p ∧ Ring n ts p) := by
  obtain ⟨x, e, h⟩ := s_first_ring w
  refine ⟨x, runD_eq (l := [some (.dat (webD n d))]) rfl ?_, h⟩
  unfold g_ring
  repeat (simp only [lo0, List.map_cons, List.map_nil, List.replicate, List.cons_append, List.nil_append, Nat.reduceSub, seqS, retS, dropS, nilS, ifS, asgS, nmG, tpG, consGs, nilGs, vF, cF, un1, isF, op2, callF, consA, nilA, andE, orE, notE, tstE, notT, andT, orT, bF, truT, truD, tupF, lstF, Option.bind_some, Option.bind_none, List.getElem?_cons_zero, List.getElem?_cons_succ, List.set_cons_zero, List.set_cons_succ, List.length_cons, List.length_nil, if_true, if_false, Bool.not_true, Bool.not_false, eq_self, reduceCtorEq, Bool.false_eq_true, ↓reduceIte, Nat.reduceAdd, decide_true, decide_false, Bool.not_not, s_check_web w, e])
end
end Ev

/-! The law's own: what it draws. -/
namespace Ev
open PySem PySem.Spec PyProof.Rows L2 Tb
def Pot (ys : List PyData) : Prop := ∃ a b : Int, ys = [.int a, .int b] ∧ 0 ≤ a ∧ 0 ≤ b
theorem emod_rng (a : Int) {m : Int} (h : 0 < m) : 0 ≤ a % m ∧ a % m < m := ⟨Int.emod_nonneg a (by omega), Int.emod_lt_of_pos a h⟩
theorem s_draw {ys : List PyData} (hy : Pot ys) {m : Int} (h1 : 0 < m) (h2 : m < 1073741824) : ∃ r zs, r__law_draw ys [.int m] = some (.int r, zs) ∧ Pot zs ∧ 0 ≤ r ∧ r < m := by
  obtain ⟨a, b, rfl, ha, hb⟩ := hy
  by_cases h : 0 < a
  · refine ⟨a % m, [.int (a / m), .int b], runB_eq (l := [some (.lst [.int (a / m), .int b]), some (.dat (.int m)), some (.dat (.int (a % m)))]) rfl ?_ rfl, ⟨_, _, rfl, Int.ediv_nonneg ha (by omega), hb⟩, (emod_rng a h1).1, (emod_rng a h1).2⟩
    unfold g__law_draw
    have e1 : ixF (.list [.int a, .int b]) (.int 0) = some (.int a) := rfl
    have e2 : ixN (0 + 1 + 1) 0 = some 0 := rfl
    have e3 : divmodF [.int a, .int m] = some (.tuple [.int (a / m), .int (a % m)]) := if_pos ⟨h1, h2⟩
    repeat (simp only [lo0, List.map_cons, List.map_nil, List.replicate, List.cons_append, List.nil_append, Nat.reduceSub, seqS, retS, dropS, nilS, ifS, asgS, nmG, tpG, consGs, nilGs, vF, cF, un1, isF, op2, callF, consA, nilA, andE, orE, notE, tstE, notT, andT, orT, bF, truT, truD, tupF, lstF, Option.bind_some, Option.bind_none, List.getElem?_cons_zero, List.getElem?_cons_succ, List.set_cons_zero, List.set_cons_succ, List.length_cons, List.length_nil, if_true, if_false, Bool.not_true, Bool.not_false, eq_self, reduceCtorEq, Bool.false_eq_true, ↓reduceIte, Nat.reduceAdd, decide_true, decide_false, Bool.not_not, op2L, ownD, e1, cmpF, intF, h, e3, subG, e2])
  · refine ⟨((b * 48271 + 151) % 2147483587) * ((b * 48271 + 151) % 2147483587) % 2147483549 / 13 % m, [.int a, .int ((b * 48271 + 151) % 2147483587)], runB_eq (l := [some (.lst [.int a, .int ((b * 48271 + 151) % 2147483587)]), some (.dat (.int m)), none]) rfl ?_ rfl, ⟨_, _, rfl, ha, (emod_rng _ (by decide)).1⟩, (emod_rng _ h1).1, (emod_rng _ h1).2⟩
    unfold g__law_draw
    have e1 : ixF (.list [.int a, .int b]) (.int 0) = some (.int a) := rfl
    have e2 : ixF (.list [.int a, .int b]) (.int 1) = some (.int b) := rfl
    have e3 : ixN (0 + 1 + 1) 1 = some 1 := rfl
    have e4 : mulF (.int b) (.int 48271) = some (.int (b * 48271)) := by
      exact if_pos (by simp only [Bool.or_eq_true, Bool.and_eq_true, decide_eq_true_eq]; omega)
    have e5 : addF (.int (b * 48271)) (.int 151) = some (.int (b * 48271 + 151)) := rfl
    have e6 : modF (.int (b * 48271 + 151)) (.int 2147483587) = some (.int ((b * 48271 + 151) % 2147483587)) := rfl
    generalize hc : (b * 48271 + 151) % 2147483587 = c at e6 ⊢
    have hcr := emod_rng (b * 48271 + 151) (m := 2147483587) (by decide)
    rw [hc] at hcr
    have f1 : ixF (.list [.int a, .int c]) (.int 1) = some (.int c) := rfl
    have f2 : mulF (.int c) (.int c) = some (.int (c * c)) := by
      exact if_pos (by simp only [Bool.or_eq_true, Bool.and_eq_true, decide_eq_true_eq]; omega)
    have f3 : modF (.int (c * c)) (.int 2147483549) = some (.int (c * c % 2147483549)) := rfl
    have f4 : fdivF (.int (c * c % 2147483549)) (.int 13) = some (.int (c * c % 2147483549 / 13)) := rfl
    have f5 : modF (.int (c * c % 2147483549 / 13)) (.int m) = some (.int (c * c % 2147483549 / 13 % m)) := if_pos (decide_eq_true h1)
    repeat (simp only [lo0, List.map_cons, List.map_nil, List.replicate, List.cons_append, List.nil_append, Nat.reduceSub, seqS, retS, dropS, nilS, ifS, asgS, nmG, tpG, consGs, nilGs, vF, cF, un1, isF, op2, callF, consA, nilA, andE, orE, notE, tstE, notT, andT, orT, bF, truT, truD, tupF, lstF, Option.bind_some, Option.bind_none, List.getElem?_cons_zero, List.getElem?_cons_succ, List.set_cons_zero, List.set_cons_succ, List.length_cons, List.length_nil, if_true, if_false, Bool.not_true, Bool.not_false, eq_self, reduceCtorEq, Bool.false_eq_true, ↓reduceIte, Nat.reduceAdd, decide_true, decide_false, Bool.not_not, op2L, ownD, ownL, e1, cmpF, intF, h, e2, e3, e4, e5, e6, stoS, f1, f2, f3, f4, f5])
def ltT (p q : Int × Int) : Prop := p.1 < q.1 ∨ (p.1 = q.1 ∧ p.2 < q.2)
/-- the ties drawn so far -/
structure Drawn (n : Int) (i j k : Int) (ts : List (Int × Int)) : Prop where
  up : ts.Pairwise ltT
  rng : ∀ p ∈ ts, 0 ≤ p.1 ∧ p.1 < p.2 ∧ p.2 < n
  below : ∀ p ∈ ts, p.1 < i ∨ (p.1 = i ∧ p.2 < j)
  few : (ts.length : Int) ≤ k
theorem Drawn.nd {n i j k : Int} {ts : List (Int × Int)} (h : Drawn n i j k ts) : ts.Nodup := h.up.imp fun {a b} h e => by
  subst e
  unfold ltT at h
  omega
theorem Drawn.sorted {n i j k : Int} {ts : List (Int × Int)} (h : Drawn n i j k ts) : ts.Pairwise fun a b => tieLe a b = true := h.up.imp fun {a b} h => by
  rw [tieLe_iff]
  unfold ltT at h
  omega
theorem s_law_web {ys : List PyData} (hy : Pot ys) {l h : Int} (hl : 1 ≤ l) (hlh : l ≤ h) (hh : h ≤ 6) : ∃ n ts zs, r__law_web ys [.int l, .int h] = some (.tuple [.int n, .list (TD ts)], zs) ∧ Pot zs ∧ l ≤ n ∧ n ≤ h ∧ Drawn n n 0 36 ts := by
  obtain ⟨r, zs, ed, pz, r0, r1⟩ := s_draw hy (m := h - l + 1) (by omega) (by omega)
  have e0 : parEL (op2 addF (vF 1) (callBF r__law_draw 0 (consA (op2 addF (op2 subF (vF 2) (vF 1)) (cF (.int 1))) nilA))) (lstL nilA) 3 4 [some (.lst ys), some (.dat (.int l)), some (.dat (.int h)), none, none, none, none] = some (.nx, [some (.lst zs), some (.dat (.int l)), some (.dat (.int h)), some (.dat (.int (l + r))), some (.lst (TD [])), none, none]) := by
    have z : (0 : Nat) ≤ sizeLine := Nat.zero_le _
    have a1 : subF (.int h) (.int l) = some (.int (h - l)) := rfl
    have a2 : addF (.int (h - l)) (.int 1) = some (.int (h - l + 1)) := rfl
    have a3 : addF (.int l) (.int r) = some (.int (l + r)) := rfl
    repeat (simp only [lo0, List.map_cons, List.map_nil, List.replicate, List.cons_append, List.nil_append, Nat.reduceSub, seqS, retS, dropS, nilS, ifS, asgS, nmG, tpG, consGs, nilGs, vF, cF, un1, isF, op2, callF, consA, nilA, andE, orE, notE, tstE, notT, andT, orT, bF, truT, truD, tupF, lstF, Option.bind_some, Option.bind_none, List.getElem?_cons_zero, List.getElem?_cons_succ, List.set_cons_zero, List.set_cons_succ, List.length_cons, List.length_nil, if_true, if_false, Bool.not_true, Bool.not_false, eq_self, reduceCtorEq, Bool.false_eq_true, ↓reduceIte, Nat.reduceAdd, decide_true, decide_false, Bool.not_not, parEL, callBF, lstL, a1, a2, a3, ed, z])
  generalize hn : l + r = n at e0
  -- the ties
  obtain ⟨l9, f9, pt, ts, o5, o6, rfl, pp, dr⟩ := forGo_inv0 (gg := nmG 5) (body := forS (rg2I (consA (op2 addF (vF 5) (cF (.int 1))) (consA (vF 3) nilA))) (nmG 6) (ifS (bF (op2 eqF (callBF r__law_draw 0 (consA (cF (.int 2)) nilA)) (cF (.int 0)))) (dropS (appS 4 (tupF (consA (vF 5) (consA (vF 6) nilA))))) nilS))
    (fun i lo => ∃ pt ts o5 o6, lo = [some (.lst pt), some (.dat (.int l)), some (.dat (.int h)), some (.dat (.int n)), some (.lst (TD ts)), o5, o6] ∧ Pot pt ∧ Drawn n i 0 (6 * i) ts)
    (rgL 0 n) _ ⟨zs, [], none, none, rfl, pz, .nil, (fun p hp => by cases hp), (fun p hp => by cases hp), by simp⟩ fun i x lo hx ⟨pt, ts, o5, o6, elo, pp, dr⟩ => by
      subst elo
      obtain ⟨ex, hi⟩ := rgL_at hx
      rw [Int.zero_add] at ex
      rw [Int.sub_zero] at hi
      subst ex
      obtain ⟨l8, f8, pt', ts', o6', rfl, pp', dr'⟩ := forGo_inv0 (gg := nmG 6) (body := ifS (bF (op2 eqF (callBF r__law_draw 0 (consA (cF (.int 2)) nilA)) (cF (.int 0)))) (dropS (appS 4 (tupF (consA (vF 5) (consA (vF 6) nilA))))) nilS)
        (fun j lo => ∃ pt ts o6, lo = [some (.lst pt), some (.dat (.int l)), some (.dat (.int h)), some (.dat (.int n)), some (.lst (TD ts)), some (.dat (.int (i : Int))), o6] ∧ Pot pt ∧ Drawn n i (i + 1 + j) (6 * i + j) ts)
        (rgL (i + 1) n) [some (.lst pt), some (.dat (.int l)), some (.dat (.int h)), some (.dat (.int n)), some (.lst (TD ts)), some (.dat (.int (i : Int))), o6] ⟨pt, ts, o6, rfl, pp, dr.up, dr.rng, fun p hp => (dr.below p hp).elim .inl fun z => by have := (dr.rng p hp); omega, by simpa using dr.few⟩ fun j y lo hy ⟨pt, ts, o6, elo, pp, dr⟩ => by
          subst elo
          obtain ⟨ey, hjl⟩ := rgL_at hy
          subst ey
          obtain ⟨r, qs, e, pq, _, _⟩ := s_draw pp (m := 2) (by decide) (by decide)
          by_cases hr : r = 0
          · subst hr
            refine ⟨[some (.lst pt), some (.dat (.int l)), some (.dat (.int h)), some (.dat (.int n)), some (.lst (TD ts)), some (.dat (.int (i : Int))), some (.dat (.int ((i : Int) + 1 + (j : Int))))], [some (.lst qs), some (.dat (.int l)), some (.dat (.int h)), some (.dat (.int n)), some (.lst (TD (ts ++ [((i : Int), (i : Int) + 1 + (j : Int))]))), some (.dat (.int (i : Int))), some (.dat (.int ((i : Int) + 1 + (j : Int))))], rfl, .inl ?_, qs, _, _, rfl, pq, ?_⟩
            · have e2 : (2 : Nat) ≤ sizeLine := by decide
              have e3 : (TD ts).length < sizeLine := by
                have := dr.few
                rw [List.length_map, sizeLine_eq]
                omega
              have e4 : TD (ts ++ [((i : Int), (i : Int) + 1 + (j : Int))]) = TD ts ++ [.tuple [.int (i : Int), .int ((i : Int) + 1 + (j : Int))]] := by simp [TD, tieD]
              repeat (simp only [lo0, List.map_cons, List.map_nil, List.replicate, List.cons_append, List.nil_append, Nat.reduceSub, seqS, retS, dropS, nilS, ifS, asgS, nmG, tpG, consGs, nilGs, vF, cF, un1, isF, op2, callF, consA, nilA, andE, orE, notE, tstE, notT, andT, orT, bF, truT, truD, tupF, lstF, Option.bind_some, Option.bind_none, List.getElem?_cons_zero, List.getElem?_cons_succ, List.set_cons_zero, List.set_cons_succ, List.length_cons, List.length_nil, if_true, if_false, Bool.not_true, Bool.not_false, eq_self, reduceCtorEq, Bool.false_eq_true, ↓reduceIte, Nat.reduceAdd, decide_true, decide_false, Bool.not_not, callBF, e, eq_int, appS, ownL, e2, e3, e4])
            · refine ⟨List.pairwise_append.mpr ⟨dr.up, by simp, fun a ha b hb => ?_⟩, fun p hp => ?_, fun p hp => ?_, ?_⟩
              · rw [List.mem_singleton] at hb
                subst hb
                have := dr.below a ha
                unfold ltT
                simp only
                omega
              · rcases List.mem_append.mp hp with z | z
                · exact dr.rng p z
                · rw [List.mem_singleton] at z
                  subst z
                  simp only
                  omega
              · rcases List.mem_append.mp hp with z | z
                · have := dr.below p z
                  omega
                · rw [List.mem_singleton] at z
                  subst z
                  exact .inr ⟨rfl, by
                    show (i : Int) + 1 + (j : Int) < _
                    omega⟩
              · have := dr.few
                rw [List.length_append, List.length_singleton]
                omega
          · refine ⟨[some (.lst pt), some (.dat (.int l)), some (.dat (.int h)), some (.dat (.int n)), some (.lst (TD ts)), some (.dat (.int (i : Int))), some (.dat (.int ((i : Int) + 1 + (j : Int))))], [some (.lst qs), some (.dat (.int l)), some (.dat (.int h)), some (.dat (.int n)), some (.lst (TD ts)), some (.dat (.int (i : Int))), some (.dat (.int ((i : Int) + 1 + (j : Int))))], rfl, .inl ?_, qs, _, _, rfl, pq, dr.up, dr.rng, fun p hp => by have := dr.below p hp; omega, by have := dr.few; omega⟩
            repeat (simp only [lo0, List.map_cons, List.map_nil, List.replicate, List.cons_append, List.nil_append, Nat.reduceSub, seqS, retS, dropS, nilS, ifS, asgS, nmG, tpG, consGs, nilGs, vF, cF, un1, isF, op2, callF, consA, nilA, andE, orE, notE, tstE, notT, andT, orT, bF, truT, truD, tupF, lstF, Option.bind_some, Option.bind_none, List.getElem?_cons_zero, List.getElem?_cons_succ, List.set_cons_zero, List.set_cons_succ, List.length_cons, List.length_nil, if_true, if_false, Bool.not_true, Bool.not_false, eq_self, reduceCtorEq, Bool.false_eq_true, ↓reduceIte, Nat.reduceAdd, decide_true, decide_false, Bool.not_not, callBF, e, eq_int, hr])
      have lr : (rgL (i + 1) n).length = (n - (i + 1)).toNat := by unfold rgL; simp
      refine ⟨[some (.lst pt), some (.dat (.int l)), some (.dat (.int h)), some (.dat (.int n)), some (.lst (TD ts)), some (.dat (.int (i : Int))), o6], [some (.lst pt'), some (.dat (.int l)), some (.dat (.int h)), some (.dat (.int n)), some (.lst (TD ts')), some (.dat (.int (i : Int))), o6'], rfl, .inl ?_, pt', ts', some (.dat (.int (i : Int))), o6', rfl, pp', dr'.up, dr'.rng, fun p hp => ?_, ?_⟩
      · have s1 : small62 ((i : Int) + 1) = true := small62_iff.mpr (by omega)
        have s2 : small62 n = true := small62_iff.mpr (by omega)
        have a3 : addF (.int (i : Int)) (.int 1) = some (.int ((i : Int) + 1)) := rfl
        have hi : rg2I (consA (op2 addF (vF 5) (cF (.int 1))) (consA (vF 3) nilA)) [some (.lst pt), some (.dat (.int l)), some (.dat (.int h)), some (.dat (.int n)), some (.lst (TD ts)), some (.dat (.int (i : Int))), o6] = some (rgL ((i : Int) + 1) n, [some (.lst pt), some (.dat (.int l)), some (.dat (.int h)), some (.dat (.int n)), some (.lst (TD ts)), some (.dat (.int (i : Int))), o6]) := by
          exact rg2I_of (by repeat (simp only [lo0, List.map_cons, List.map_nil, List.replicate, List.cons_append, List.nil_append, Nat.reduceSub, seqS, retS, dropS, nilS, ifS, asgS, nmG, tpG, consGs, nilGs, vF, cF, un1, isF, op2, callF, consA, nilA, andE, orE, notE, tstE, notT, andT, orT, bF, truT, truD, tupF, lstF, Option.bind_some, Option.bind_none, List.getElem?_cons_zero, List.getElem?_cons_succ, List.set_cons_zero, List.set_cons_succ, List.length_cons, List.length_nil, if_true, if_false, Bool.not_true, Bool.not_false, eq_self, reduceCtorEq, Bool.false_eq_true, ↓reduceIte, Nat.reduceAdd, decide_true, decide_false, Bool.not_not, a3])) s1 s2
        exact forS_of hi f8
      · have := dr'.below p hp
        have := dr'.rng p hp
        omega
      · have := dr'.few
        rw [lr] at this
        omega
  have len : (rgL 0 n).length = n.toNat := by rw [rgL_cps, List.length_map, cps_len]
  rw [len] at dr
  have s2 : small62 n = true := small62_iff.mpr (by omega)
  have e2 : (2 : Nat) ≤ sizeLine := by decide
  refine ⟨n, ts, pt, runB_eq (l := [some (.lst pt), some (.dat (.int l)), some (.dat (.int h)), some (.dat (.int n)), some (.dat (.list (TD ts))), o5, o6]) rfl ?_ rfl, pp, by omega, by omega, dr.up, dr.rng, fun p hp => by have := dr.below p hp; omega, by have := dr.few; omega⟩
  show seqS _ (seqS _ _) [some (.lst ys), some (.dat (.int l)), some (.dat (.int h)), none, none, none, none] = _
  rw [seq_nx e0]
  rw [seq_nx (forS_of (gi := rg1I (consA (vF 3) nilA)) (lo := [some (.lst zs), some (.dat (.int l)), some (.dat (.int h)), some (.dat (.int n)), some (.lst (TD [])), none, none]) (by repeat (simp only [lo0, List.map_cons, List.map_nil, List.replicate, List.cons_append, List.nil_append, Nat.reduceSub, seqS, retS, dropS, nilS, ifS, asgS, nmG, tpG, consGs, nilGs, vF, cF, un1, isF, op2, callF, consA, nilA, andE, orE, notE, tstE, notT, andT, orT, bF, truT, truD, tupF, lstF, Option.bind_some, Option.bind_none, List.getElem?_cons_zero, List.getElem?_cons_succ, List.set_cons_zero, List.set_cons_succ, List.length_cons, List.length_nil, if_true, if_false, Bool.not_true, Bool.not_false, eq_self, reduceCtorEq, Bool.false_eq_true, ↓reduceIte, Nat.reduceAdd, decide_true, decide_false, Bool.not_not, rg1I, s2])) f9)]
  repeat (simp only [lo0, List.map_cons, List.map_nil, List.replicate, List.cons_append, List.nil_append, Nat.reduceSub, seqS, retS, dropS, nilS, ifS, asgS, nmG, tpG, consGs, nilGs, vF, cF, un1, isF, op2, callF, consA, nilA, andE, orE, notE, tstE, notT, andT, orT, bF, truT, truD, tupF, lstF, Option.bind_some, Option.bind_none, List.getElem?_cons_zero, List.getElem?_cons_succ, List.set_cons_zero, List.set_cons_succ, List.length_cons, List.length_nil, if_true, if_false, Bool.not_true, Bool.not_false, eq_self, reduceCtorEq, Bool.false_eq_true, ↓reduceIte, Nat.reduceAdd, decide_true, decide_false, Bool.not_not, frzF, e2])
end Ev

/-! The law's own: who is near, who is in a piece, what is a ring. -/
namespace Ev
open PySem PySem.Spec PyProof.Rows L2 Tb
/-- the ties, drawn and sorted -/
structure Ties (n : Int) (ts : List (Int × Int)) : Prop where
  lo : 1 ≤ n
  hi : n ≤ 6
  rng : ∀ p ∈ ts, 0 ≤ p.1 ∧ p.1 < p.2 ∧ p.2 < n
  nd : ts.Nodup
  few : ts.length ≤ 36
section
variable {n : Int} {ts : List (Int × Int)}
theorem Ties.web (t : Ties n ts) : Web n ts (.list (TD ts)) := ⟨t.lo, t.hi, t.rng, t.nd, rfl, by have := t.few; omega⟩
theorem lcF_tie {gi : GA} {vs : List Nat} {gg : GG} {t : GT} {g : GE} {lo lo1 : Lo} (p : Int × Int → Bool) (v : Int × Int → PyData) (hi : gi lo = some (TD ts, lo1)) (no : noOwn lo1 vs = true) (hl : ts.length ≤ sizeLine)
    (h : ∀ a b : Int, (a, b) ∈ ts → ∃ l1, gg (tieD (a, b)) (wipeL lo1 vs) = some l1 ∧ wipeL l1 vs = wipeL lo1 vs ∧ t l1 = some (p (a, b), l1) ∧ (p (a, b) = true → g l1 = some (v (a, b), l1))) : lcF gi vs gg t g lo = some (.list ((ts.filter p).map v), lo1) := by
  have := lcF_spec (gi := gi) (vs := vs) (gg := gg) (t := t) (g := g) (lo := lo) (lo1 := lo1) (xs := TD ts) (fun x => match x with | .tuple [.int a, .int b] => p (a, b) | _ => false) (fun x => match x with | .tuple [.int a, .int b] => v (a, b) | _ => .none) hi no (by rw [List.length_map]; exact hl) fun x hx => by
    obtain ⟨⟨a, b⟩, hn, rfl⟩ := List.mem_map.mp hx
    exact h a b hn
  rw [this, List.filter_map, List.map_map]
  rfl
def nearL (ts : List (Int × Int)) (c : Int) : List Int := (ts.filter fun p => decide (p.1 = c)).map (·.2) ++ (ts.filter fun p => decide (p.2 = c)).map (·.1)
theorem s_near (t : Ties n ts) (c : Int) : r__law_near [.list (TD ts), .int c] = some (.list (ID (iSort (nearL ts c)))) := runD_eq (l := [some (.dat (.list (TD ts))), some (.dat (.int c)), none, none]) rfl (by
  have few := t.few
  have e1 := lcF_tie (ts := ts) (gi := seqI (vF 0)) (vs := [2, 3]) (gg := tpG 2 (consGs (nmG 2) (consGs (nmG 3) nilGs))) (t := bF (op2 eqF (vF 2) (vF 1))) (g := vF 3) (lo := [some (.dat (.list (TD ts))), some (.dat (.int c)), none, none]) (lo1 := [some (.dat (.list (TD ts))), some (.dat (.int c)), none, none]) (fun p => decide (p.1 = c)) (fun p => .int p.2) rfl rfl (by rw [sizeLine_eq]; omega) fun a b hab =>
    ⟨[some (.dat (.list (TD ts))), some (.dat (.int c)), some (.dat (.int a)), some (.dat (.int b))], rfl, rfl, by repeat (simp only [lo0, List.map_cons, List.map_nil, List.replicate, List.cons_append, List.nil_append, Nat.reduceSub, seqS, retS, dropS, nilS, ifS, asgS, nmG, tpG, consGs, nilGs, vF, cF, un1, isF, op2, callF, consA, nilA, andE, orE, notE, tstE, notT, andT, orT, bF, truT, truD, tupF, lstF, Option.bind_some, Option.bind_none, List.getElem?_cons_zero, List.getElem?_cons_succ, List.set_cons_zero, List.set_cons_succ, List.length_cons, List.length_nil, if_true, if_false, Bool.not_true, Bool.not_false, eq_self, reduceCtorEq, Bool.false_eq_true, ↓reduceIte, Nat.reduceAdd, decide_true, decide_false, Bool.not_not, eq_int]), fun _ => rfl⟩
  have e2 := lcF_tie (ts := ts) (gi := seqI (vF 0)) (vs := [2, 3]) (gg := tpG 2 (consGs (nmG 2) (consGs (nmG 3) nilGs))) (t := bF (op2 eqF (vF 3) (vF 1))) (g := vF 2) (lo := [some (.dat (.list (TD ts))), some (.dat (.int c)), none, none]) (lo1 := [some (.dat (.list (TD ts))), some (.dat (.int c)), none, none]) (fun p => decide (p.2 = c)) (fun p => .int p.1) rfl rfl (by rw [sizeLine_eq]; omega) fun a b hab =>
    ⟨[some (.dat (.list (TD ts))), some (.dat (.int c)), some (.dat (.int a)), some (.dat (.int b))], rfl, rfl, by repeat (simp only [lo0, List.map_cons, List.map_nil, List.replicate, List.cons_append, List.nil_append, Nat.reduceSub, seqS, retS, dropS, nilS, ifS, asgS, nmG, tpG, consGs, nilGs, vF, cF, un1, isF, op2, callF, consA, nilA, andE, orE, notE, tstE, notT, andT, orT, bF, truT, truD, tupF, lstF, Option.bind_some, Option.bind_none, List.getElem?_cons_zero, List.getElem?_cons_succ, List.set_cons_zero, List.set_cons_succ, List.length_cons, List.length_nil, if_true, if_false, Bool.not_true, Bool.not_false, eq_self, reduceCtorEq, Bool.false_eq_true, ↓reduceIte, Nat.reduceAdd, decide_true, decide_false, Bool.not_not, eq_int]), fun _ => rfl⟩
  have l1 := List.length_filter_le (fun p : Int × Int => decide (p.1 = c)) ts
  have l2 := List.length_filter_le (fun p : Int × Int => decide (p.2 = c)) ts
  have e3 : addF (.list ((ts.filter fun p => decide (p.1 = c)).map fun p => PyData.int p.2)) (.list ((ts.filter fun p => decide (p.2 = c)).map fun p => PyData.int p.1)) = some (.list (ID (nearL ts c))) := by
    rw [cat_list (by rw [List.length_map, List.length_map, sizeLine_eq]; omega)]
    unfold nearL ID
    rw [List.map_append, List.map_map, List.map_map]
    rfl
  have e4 : sortF [.list (ID (nearL ts c))] = some (.list (ID (iSort (nearL ts c)))) := sort_ID rfl (by unfold nearL; rw [List.length_append, List.length_map, List.length_map]; omega)
  exact ret_eq (call1_eq (op2_eq e1 e2 e3) e4))
theorem mem_near (t : Ties n ts) {c x : Int} : x ∈ nearL ts c ↔ tied ts c x = true := by
  unfold nearL tied mn mx
  rw [List.mem_append, List.mem_map, List.mem_map, decide_eq_true_eq]
  constructor
  · rintro (⟨p, hp, rfl⟩ | ⟨p, hp, rfl⟩)
    · rw [List.mem_filter, decide_eq_true_eq] at hp
      obtain ⟨h1, rfl⟩ := hp
      have := t.rng p h1
      rw [if_neg (by omega), if_pos (by omega)]
      exact h1
    · rw [List.mem_filter, decide_eq_true_eq] at hp
      obtain ⟨h1, rfl⟩ := hp
      have := t.rng p h1
      rw [if_pos (by omega), if_neg (by omega)]
      exact h1
  · intro h
    by_cases hx : x < c
    · rw [if_pos hx, if_neg (by omega)] at h
      exact .inr ⟨(x, c), by rw [List.mem_filter]; exact ⟨h, by simp⟩, rfl⟩
    · rw [if_neg hx] at h
      by_cases hc : x > c
      · rw [if_pos hc] at h
        exact .inl ⟨(c, x), by rw [List.mem_filter]; exact ⟨h, by simp⟩, rfl⟩
      · rw [if_neg hc] at h
        have := t.rng _ h
        simp only at this
        omega
theorem near_nd (t : Ties n ts) (c : Int) : (nearL ts c).Nodup := by
  unfold nearL
  refine List.nodup_append.mpr ⟨?_, ?_, fun x hx y hy e => ?_⟩
  · refine List.pairwise_map.mpr ((t.nd.filter _).imp_of_mem fun {a b} ha hb h e => h ?_)
    rw [List.mem_filter, decide_eq_true_eq] at ha hb
    exact Prod.ext (ha.2.trans hb.2.symm) e
  · refine List.pairwise_map.mpr ((t.nd.filter _).imp_of_mem fun {a b} ha hb h e => h ?_)
    rw [List.mem_filter, decide_eq_true_eq] at ha hb
    exact Prod.ext e (ha.2.trans hb.2.symm)
  · obtain ⟨p, hp, rfl⟩ := List.mem_map.mp hx
    obtain ⟨q, hq, rfl⟩ := List.mem_map.mp hy
    rw [List.mem_filter, decide_eq_true_eq] at hp hq
    have h1 := t.rng p hp.1
    have h2 := t.rng q hq.1
    have e' : p.2 = q.1 := e
    have := hp.2
    have := hq.2
    omega
theorem cps_sorted : (cps n).Pairwise (· < ·) := by
  unfold cps
  exact List.pairwise_map.mpr (List.pairwise_lt_range.imp fun h => by omega)
/-- the law's way of telling who is near agrees with the program's -/
theorem near_eq (t : Ties n ts) (c : Int) : iSort (nearL ts c) = nbs n ts c := by
  refine iSort_eq ?_ ?_
  · refine List.perm_iff_count.mpr fun z => ?_
    have n1 := near_nd t c
    have n2 : (nbs n ts c).Nodup := (cps_nd (n := n)).filter _
    rw [n1.count, n2.count]
    simp only [mem_near t, mem_nbs t.web]
  · unfold nbs
    exact ((cps_sorted (n := n)).filter _).imp fun h => Int.le_of_lt h
theorem s_near' (t : Ties n ts) (c : Int) : r__law_near [.list (TD ts), .int c] = some (.list (ID (nbs n ts c))) := by rw [s_near t, near_eq t]
/-! ### a piece -/
structure PInv (n : Int) (ts : List (Int × Int)) (c : Int) (f : List Int) : Prop where
  nd : f.Nodup
  sub : ∀ x ∈ f, x ∈ cps n ∧ Conn ts c x
  me : c ∈ f
def pAdd (n : Int) (ts : List (Int × Int)) (f : List Int) (x : Int) : List Int := f ++ (nbs n ts x).filter fun y => !decide (y ∈ f)
theorem PInv.add (t : Ties n ts) {c x : Int} {f : List Int} (h : PInv n ts c f) (hx : x ∈ f) : PInv n ts c (pAdd n ts f x) ∧ (∀ y ∈ f, y ∈ pAdd n ts f x) ∧ ∀ y ∈ nbs n ts x, y ∈ pAdd n ts f x := by
  unfold pAdd
  refine ⟨⟨List.nodup_append.mpr ⟨h.nd, ((cps_nd (n := n)).filter _).filter _, fun a ha b hb e => ?_⟩, fun y hy => ?_, List.mem_append_left _ h.me⟩, fun y hy => List.mem_append_left _ hy, fun y hy => ?_⟩
  · rw [List.mem_filter, Bool.not_eq_true', decide_eq_false_iff_not] at hb
    exact hb.2 (e ▸ ha)
  · rcases List.mem_append.mp hy with z | z
    · exact h.sub y z
    · rw [List.mem_filter] at z
      have := (mem_nbs t.web).mp z.1
      exact ⟨(tied_cps t.web this).2, (h.sub x hx).2.step this⟩
  · by_cases hm : y ∈ f
    · exact List.mem_append_left _ hm
    · exact List.mem_append_right _ (List.mem_filter.mpr ⟨hy, by simp [hm]⟩)
theorem PInv.len (t : Ties n ts) {c : Int} {f : List Int} (h : PInv n ts c f) : f.length ≤ 6 := Nat.le_trans (sub_len h.nd fun x hx => (h.sub x hx).1) (cps_small t.web)
/-- all that one comes to -/
def Full (ts : List (Int × Int)) (c : Int) (f : List Int) : Prop := ∀ x, Conn ts c x → x ∈ f
theorem s_piece (t : Ties n ts) {c : Int} (hc : c ∈ cps n) : ∃ l, r__law_piece [.list (TD ts), .int c] = some (.list (ID l)) ∧ l.Pairwise (· ≤ ·) ∧ ∀ x, x ∈ l ↔ Conn ts c x := by
  have one : (1 : Nat) ≤ sizeLine := by decide
  obtain ⟨l9, f9, f, o3, o4, rfl, J, G⟩ := forGo_inv0 (gg := nmG 3) (body := forS (seqI (callF listF (consA (vF 2) nilA))) (nmG 4) (asgS (op2 addF (vF 2) (lcF (seqI (callF r__law_near (consA (vF 0) (consA (vF 4) nilA)))) [5] (nmG 5) (bF (op2 notInF (vF 5) (vF 2))) (vF 5))) (nmG 2)))
    (fun i lo => ∃ f o3 o4, lo = [some (.dat (.list (TD ts))), some (.dat (.int c)), some (.dat (.list (ID f))), o3, o4, none] ∧ PInv n ts c f ∧ (Full ts c f ∨ i + 1 ≤ f.length))
    (rgL 0 6) [some (.dat (.list (TD ts))), some (.dat (.int c)), some (.dat (.list (ID [c]))), none, none, none] ⟨[c], none, none, rfl, ⟨by simp, fun x hx => by
      rw [List.mem_singleton] at hx
      rw [hx]; exact ⟨hc, .refl⟩, by simp⟩, .inr (by simp)⟩ fun i x lo hx ⟨f0, o3, o4, elo, J0, G0⟩ => by
      subst elo
      obtain ⟨l8, f8, f, o4', rfl, J, hsub, hnb⟩ := forGo_inv0 (gg := nmG 4) (body := asgS (op2 addF (vF 2) (lcF (seqI (callF r__law_near (consA (vF 0) (consA (vF 4) nilA)))) [5] (nmG 5) (bF (op2 notInF (vF 5) (vF 2))) (vF 5))) (nmG 2))
        (fun j lo => ∃ f o4, lo = [some (.dat (.list (TD ts))), some (.dat (.int c)), some (.dat (.list (ID f))), some (.dat x), o4, none] ∧ PInv n ts c f ∧ (∀ y ∈ f0, y ∈ f) ∧ ∀ y ∈ f0.take j, ∀ z ∈ nbs n ts y, z ∈ f)
        (ID f0) [some (.dat (.list (TD ts))), some (.dat (.int c)), some (.dat (.list (ID f0))), some (.dat x), o4, none] ⟨f0, o4, rfl, J0, fun y hy => hy, fun y hy => by simp at hy⟩ fun j y lo hy ⟨f, o4, elo, J, hs, hn⟩ => by
          subst elo
          rw [List.getElem?_map] at hy
          obtain ⟨a, ha, rfl⟩ := Option.map_eq_some_iff.mp hy
          have haf := hs a (List.mem_of_getElem? ha)
          obtain ⟨J', s1, s2⟩ := J.add t haf
          have hf := J.len t
          have hn6 : (nbs n ts a).length ≤ 6 := Nat.le_trans (List.length_filter_le _ _) (cps_small t.web)
          have lc := lcF_int (gi := seqI (callF r__law_near (consA (vF 0) (consA (vF 4) nilA)))) (vs := [5]) (gg := nmG 5) (t := bF (op2 notInF (vF 5) (vF 2))) (g := vF 5) (lo := [some (.dat (.list (TD ts))), some (.dat (.int c)), some (.dat (.list (ID f))), some (.dat x), some (.dat (.int a)), none]) (lo1 := [some (.dat (.list (TD ts))), some (.dat (.int c)), some (.dat (.list (ID f))), some (.dat x), some (.dat (.int a)), none]) (ns := nbs n ts a) (fun y => !decide (y ∈ f)) PyData.int (by
            unfold seqI
            repeat (simp only [lo0, List.map_cons, List.map_nil, List.replicate, List.cons_append, List.nil_append, Nat.reduceSub, seqS, retS, dropS, nilS, ifS, asgS, nmG, tpG, consGs, nilGs, vF, cF, un1, isF, op2, callF, consA, nilA, andE, orE, notE, tstE, notT, andT, orT, bF, truT, truD, tupF, lstF, Option.bind_some, Option.bind_none, List.getElem?_cons_zero, List.getElem?_cons_succ, List.set_cons_zero, List.set_cons_succ, List.length_cons, List.length_nil, if_true, if_false, Bool.not_true, Bool.not_false, eq_self, reduceCtorEq, Bool.false_eq_true, ↓reduceIte, Nat.reduceAdd, decide_true, decide_false, Bool.not_not, s_near' t])) rfl (by rw [sizeLine_eq]; omega) fun z hz => ⟨[some (.dat (.list (TD ts))), some (.dat (.int c)), some (.dat (.list (ID f))), some (.dat x), some (.dat (.int a)), some (.dat (.int z))], rfl, rfl, by repeat (simp only [lo0, List.map_cons, List.map_nil, List.replicate, List.cons_append, List.nil_append, Nat.reduceSub, seqS, retS, dropS, nilS, ifS, asgS, nmG, tpG, consGs, nilGs, vF, cF, un1, isF, op2, callF, consA, nilA, andE, orE, notE, tstE, notT, andT, orT, bF, truT, truD, tupF, lstF, Option.bind_some, Option.bind_none, List.getElem?_cons_zero, List.getElem?_cons_succ, List.set_cons_zero, List.set_cons_succ, List.length_cons, List.length_nil, if_true, if_false, Bool.not_true, Bool.not_false, eq_self, reduceCtorEq, Bool.false_eq_true, ↓reduceIte, Nat.reduceAdd, decide_true, decide_false, Bool.not_not, notIn_int]), fun _ => rfl⟩
          have l2 := List.length_filter_le (fun y => !decide (y ∈ f)) (nbs n ts a)
          have e2 : addF (.list (ID f)) (.list (List.map PyData.int ((nbs n ts a).filter fun y => !decide (y ∈ f)))) = some (.list (ID (pAdd n ts f a))) := by
            rw [cat_list (by rw [List.length_map, List.length_map, sizeLine_eq]; omega), ← List.map_append]
            rfl
          refine ⟨[some (.dat (.list (TD ts))), some (.dat (.int c)), some (.dat (.list (ID f))), some (.dat x), some (.dat (.int a)), none], [some (.dat (.list (TD ts))), some (.dat (.int c)), some (.dat (.list (ID (pAdd n ts f a)))), some (.dat x), some (.dat (.int a)), none], rfl, .inl ?_, pAdd n ts f a, some (.dat (.int a)), rfl, J', fun y hy => s1 y (hs y hy), fun y hy z hz => ?_⟩
          · exact asg_eq (op2_eq (ga := vF 2) rfl lc e2)
          · rw [List.take_succ, ha] at hy
            rcases List.mem_append.mp hy with w | w
            · exact s1 z (hn y w z hz)
            · have : y = a := by simpa using w
              rw [this] at hz
              exact s2 z hz
      have hi : seqI (callF listF (consA (vF 2) nilA)) [some (.dat (.list (TD ts))), some (.dat (.int c)), some (.dat (.list (ID f0))), some (.dat x), o4, none] = some (ID f0, [some (.dat (.list (TD ts))), some (.dat (.int c)), some (.dat (.list (ID f0))), some (.dat x), o4, none]) := rfl
      refine ⟨[some (.dat (.list (TD ts))), some (.dat (.int c)), some (.dat (.list (ID f0))), some (.dat x), o4, none], [some (.dat (.list (TD ts))), some (.dat (.int c)), some (.dat (.list (ID f))), some (.dat x), o4', none], rfl, .inl (forS_of hi f8), f, _, o4', rfl, J, ?_⟩
      rw [List.length_map, List.take_length] at hnb
      -- it grows, or is full
      by_cases full : Full ts c f
      · exact .inl full
      · refine .inr ?_
        have nf0 : ¬ Full ts c f0 := fun h => full fun x hx => hsub x (h x hx)
        have g0 := G0.resolve_left nf0
        by_cases hlt : f0.length < f.length
        · omega
        · exfalso
          have all := sub_all J0.nd hsub (by omega)
          refine nf0 fun x hx => ?_
          induction hx with
          | refl => exact J0.me
          | step _ e ih => exact all _ (hnb _ ih _ ((mem_nbs t.web).mpr e))
  have full : Full ts c f := by
    rcases G with h | h
    · exact h
    · have := J.len t
      have : (rgL 0 6).length = 6 := rfl
      omega
  have e4 : sortF [.list (ID f)] = some (.list (ID (iSort f))) := sort_ID rfl (by have := J.len t; omega)
  refine ⟨iSort f, runD_eq (l := [some (.dat (.list (TD ts))), some (.dat (.int c)), some (.dat (.list (ID f))), o3, o4, none]) rfl ?_, iSort_sorted f, fun x => ?_⟩
  · have e0 : asgS (lstF (consA (vF 1) nilA)) (nmG 2) [some (.dat (.list (TD ts))), some (.dat (.int c)), none, none, none, none] = some (.nx, [some (.dat (.list (TD ts))), some (.dat (.int c)), some (.dat (.list (ID [c]))), none, none, none]) := by
      repeat (simp only [lo0, List.map_cons, List.map_nil, List.replicate, List.cons_append, List.nil_append, Nat.reduceSub, seqS, retS, dropS, nilS, ifS, asgS, nmG, tpG, consGs, nilGs, vF, cF, un1, isF, op2, callF, consA, nilA, andE, orE, notE, tstE, notT, andT, orT, bF, truT, truD, tupF, lstF, Option.bind_some, Option.bind_none, List.getElem?_cons_zero, List.getElem?_cons_succ, List.set_cons_zero, List.set_cons_succ, List.length_cons, List.length_nil, if_true, if_false, Bool.not_true, Bool.not_false, eq_self, reduceCtorEq, Bool.false_eq_true, ↓reduceIte, Nat.reduceAdd, decide_true, decide_false, Bool.not_not, one])
    show seqS _ (seqS _ _) [some (.dat (.list (TD ts))), some (.dat (.int c)), none, none, none, none] = _
    rw [seq_nx e0, seq_nx (forS_of (gi := rg1I (consA (cF (.int 6)) nilA)) (rg1I_of rfl (by decide)) f9)]
    exact ret_eq (call1_eq (g := vF 2) rfl e4)
  · rw [(iSort_perm f).mem_iff]
    exact ⟨fun h => (J.sub x h).2, full x⟩
/-! ### a ring, as the law asks it -/
theorem lk_get : ∀ {p : List Int} {j : Nat} {a b : Int}, lk ts p → p[j]? = some a → p[j + 1]? = some b → tied ts a b = true
  | [], _, _, _, _, h, _ => by simp at h
  | [_], 0, _, _, _, _, h => by simp at h
  | [_], j + 1, _, _, _, h, _ => by simp at h
  | x :: y :: r, 0, a, b, l, h1, h2 => by
    simp at h1 h2
    subst h1 h2
    exact l.1
  | x :: y :: r, j + 1, a, b, l, h1, h2 => lk_get (p := y :: r) (j := j) l.2 (by simpa using h1) (by simpa using h2)
theorem s_is_ring (t : Ties n ts) {p : List Int} (R : Ring n ts p) : r__law_is_ring [.list (TD ts), lD p] = some (.bool true) := by
  have hc := R.closes
  unfold closes at hc
  rw [Bool.and_eq_true, decide_eq_true_eq] at hc
  have hl := sub_len R.nd R.sub
  have h6 := cps_small t.web
  have hne : p ≠ [] := fun e => by rw [e] at hc; simp at hc
  obtain ⟨l9, f9, o2, o3, rfl⟩ := forGo_inv0 (gg := tpG 2 (consGs (nmG 2) (consGs (nmG 3) nilGs))) (body := ifS (bF (op2 notInF (op2 ixF (vF 1) (op2 subF (vF 2) (cF (.int 1)))) (callF r__law_near (consA (vF 0) (consA (vF 3) nilA))))) (retS (cF (.bool false))) nilS)
    (fun j lo => ∃ o2 o3, lo = [some (.dat (.list (TD ts))), some (.dat (lD p)), o2, o3]) (enumD (ID p)) [some (.dat (.list (TD ts))), some (.dat (lD p)), none, none] ⟨none, none, rfl⟩ fun j x lo hx ⟨o2, o3, elo⟩ => by
      subst elo
      unfold enumD at hx
      rw [List.getElem?_mapIdx, List.getElem?_map] at hx
      obtain ⟨y, hy, rfl⟩ := Option.map_eq_some_iff.mp hx
      obtain ⟨a, ha, rfl⟩ := Option.map_eq_some_iff.mp hy
      -- who stands ahead of it
      obtain ⟨b, e1, e2⟩ : ∃ b, ixF (lD p) (.int ((j : Int) - 1)) = some (.int b) ∧ tied ts a b = true := by
        cases j with
        | zero =>
          refine ⟨p.getLastD 0, ix_lst hne, ?_⟩
          have : a = p.headD 0 := by
            cases p with
            | nil => exact absurd rfl hne
            | cons u r => simpa using ha.symm
          rw [this]; exact hc.2
        | succ k =>
          have hk : k < p.length := by
            have := (List.getElem?_eq_some_iff.mp ha).1
            omega
          refine ⟨p[k], ?_, ?_⟩
          · rw [show ((k + 1 : Nat) : Int) - 1 = (k : Nat) by omega]
            exact ix_nat (by rw [List.getElem?_map, List.getElem?_eq_getElem hk]; rfl)
          · rw [tied_symm]
            exact lk_get R.lk (List.getElem?_eq_getElem hk) ha
      have e3 : subF (.int (j : Int)) (.int 1) = some (.int ((j : Int) - 1)) := rfl
      have e4 : notInF (.int b) (.list (ID (nbs n ts a))) = some (.bool false) := by
        rw [notIn_int, decide_eq_true ((mem_nbs t.web).mpr e2)]; rfl
      refine ⟨[some (.dat (.list (TD ts))), some (.dat (lD p)), some (.dat (.int (j : Int))), some (.dat (.int a))], [some (.dat (.list (TD ts))), some (.dat (lD p)), some (.dat (.int (j : Int))), some (.dat (.int a))], rfl, .inl ?_, _, _, rfl⟩
      repeat (simp only [lo0, List.map_cons, List.map_nil, List.replicate, List.cons_append, List.nil_append, Nat.reduceSub, seqS, retS, dropS, nilS, ifS, asgS, nmG, tpG, consGs, nilGs, vF, cF, un1, isF, op2, callF, consA, nilA, andE, orE, notE, tstE, notT, andT, orT, bF, truT, truD, tupF, lstF, Option.bind_some, Option.bind_none, List.getElem?_cons_zero, List.getElem?_cons_succ, List.set_cons_zero, List.set_cons_succ, List.length_cons, List.length_nil, if_true, if_false, Bool.not_true, Bool.not_false, eq_self, reduceCtorEq, Bool.false_eq_true, ↓reduceIte, Nat.reduceAdd, decide_true, decide_false, Bool.not_not, e1, e3, s_near' t, e4])
  have i1 : isLs (lD p) = true := rfl
  have i2 : lenF [lD p] = some (.int p.length) := by rw [len_kids (xs := ID p) rfl, List.length_map]
  have i3 : ltF (.int (p.length : Int)) (.int 3) = some (.bool false) := by
    show some (PyData.bool (decide ((p.length : Int) < 3))) = _
    rw [decide_eq_false (by omega)]
  have i4 : lenSetF (lD p) = some (.int p.length) := by
    rw [lenSet_int (by omega), dd_self R.nd]
  have i5 : neF (.int (p.length : Int)) (.int (p.length : Int)) = some (.bool false) := by rw [ne_int, decide_eq_true rfl]; rfl
  refine runD_eq (l := [some (.dat (.list (TD ts))), some (.dat (lD p)), o2, o3]) rfl ?_
  have e0 : ifS (orT (notT (bF (un1 (isF isLs) (vF 1)))) (orT (bF (op2 ltF (callF lenF (consA (vF 1) nilA)) (cF (.int 3)))) (bF (op2 neF (un1 lenSetF (vF 1)) (callF lenF (consA (vF 1) nilA)))))) (retS (cF (.bool false))) nilS [some (.dat (.list (TD ts))), some (.dat (lD p)), none, none] = some (.nx, [some (.dat (.list (TD ts))), some (.dat (lD p)), none, none]) := by
    repeat (simp only [lo0, List.map_cons, List.map_nil, List.replicate, List.cons_append, List.nil_append, Nat.reduceSub, seqS, retS, dropS, nilS, ifS, asgS, nmG, tpG, consGs, nilGs, vF, cF, un1, isF, op2, callF, consA, nilA, andE, orE, notE, tstE, notT, andT, orT, bF, truT, truD, tupF, lstF, Option.bind_some, Option.bind_none, List.getElem?_cons_zero, List.getElem?_cons_succ, List.set_cons_zero, List.set_cons_succ, List.length_cons, List.length_nil, if_true, if_false, Bool.not_true, Bool.not_false, eq_self, reduceCtorEq, Bool.false_eq_true, ↓reduceIte, Nat.reduceAdd, decide_true, decide_false, Bool.not_not, i1, i2, i3, i4, i5])
  show seqS _ (seqS _ _) [some (.dat (.list (TD ts))), some (.dat (lD p)), none, none] = _
  rw [seq_nx e0, seq_nx (forS_of (gi := enumI (vF 1)) (l1 := [some (.dat (.list (TD ts))), some (.dat (lD p)), none, none]) (xs := enumD (ID p)) rfl f9)]
  rfl
end
end Ev

/-! There is a ring exactly if there are more ties than copies less pieces. -/
namespace Ev
open PySem PySem.Spec PyProof.Rows L2 Tb
open Classical in
/-- the least of their pieces -/
noncomputable def roots (n : Int) (ts : List (Int × Int)) : List Int := (cps n).filter fun r => decide (∀ x, Conn ts r x → r ≤ x)
structure Edges (n : Int) (ts : List (Int × Int)) : Prop where
  rng : ∀ p ∈ ts, 0 ≤ p.1 ∧ p.1 < p.2 ∧ p.2 < n
  nd : ts.Nodup
section
variable {n : Int} {ts : List (Int × Int)}
open Classical in
theorem mem_roots {r : Int} : r ∈ roots n ts ↔ r ∈ cps n ∧ ∀ x, Conn ts r x → r ≤ x := by
  unfold roots
  rw [List.mem_filter, decide_eq_true_eq]
theorem roots_nd : (roots n ts).Nodup := (cps_nd (n := n)).filter _
theorem tie_in (E : Edges n ts) {a b : Int} (h : tied ts a b = true) : a ∈ cps n ∧ b ∈ cps n := by
  have := E.rng _ (of_decide_eq_true h)
  unfold mn mx at this
  rw [mem_cps, mem_cps]
  by_cases c : b < a
  · rw [if_pos c, if_neg (by omega)] at this
    have := this.2.2
    omega
  · rw [if_neg c] at this
    by_cases c2 : b > a
    · rw [if_pos c2] at this
      omega
    · rw [if_neg c2] at this
      omega
theorem conn_in (E : Edges n ts) {a b : Int} (h : Conn ts a b) (ha : a ∈ cps n) : b ∈ cps n := by
  cases h with
  | refl => exact ha
  | step _ e => exact (tie_in E e).2
/-- each copy's piece has a least one -/
theorem root_of (E : Edges n ts) {a : Int} (ha : a ∈ cps n) : ∃ r, r ∈ roots n ts ∧ Conn ts a r := by
  have : ∀ (k : Nat) (b : Int), b.toNat ≤ k → b ∈ cps n → Conn ts a b → ∃ r, r ∈ roots n ts ∧ Conn ts a r := by
    intro k
    induction k with
    | zero =>
      intro b hk hb hc
      refine ⟨b, mem_roots.mpr ⟨hb, fun x hx => ?_⟩, hc⟩
      have := mem_cps.mp (conn_in E hx hb)
      omega
    | succ k ih =>
      intro b hk hb hc
      by_cases h : ∀ x, Conn ts b x → b ≤ x
      · exact ⟨b, mem_roots.mpr ⟨hb, h⟩, hc⟩
      · simp only [Classical.not_forall] at h
        obtain ⟨x, hx, hlt⟩ := h
        have hxc := conn_in E hx hb
        have := mem_cps.mp hxc
        exact ih x (by omega) hxc (hc.trans hx)
  exact this a.toNat a (Nat.le_refl _) ha .refl
theorem root_eq {r s : Int} (hr : r ∈ roots n ts) (hs : s ∈ roots n ts) (h : Conn ts r s) : r = s :=
  Int.le_antisymm ((mem_roots.mp hr).2 s h) ((mem_roots.mp hs).2 r h.symm)
theorem tied_cons {u v a b : Int} (huv : u < v) : tied ((u, v) :: ts) a b = true ↔ ((a = u ∧ b = v) ∨ (a = v ∧ b = u)) ∨ tied ts a b = true := by
  unfold tied
  rw [decide_eq_true_eq, decide_eq_true_eq, List.mem_cons]
  refine or_congr_left ?_
  unfold mn mx
  rw [Prod.mk.injEq]
  by_cases c : b < a
  · rw [if_pos c, if_neg (by omega)]
    omega
  · rw [if_neg c]
    by_cases c2 : b > a
    · rw [if_pos c2]
      omega
    · rw [if_neg c2]
      omega
theorem Conn.more {u v a b : Int} (huv : u < v) (h : Conn ts a b) : Conn ((u, v) :: ts) a b := by
  induction h with
  | refl => exact .refl
  | step _ e ih => exact ih.step ((tied_cons huv).mpr (.inr e))
theorem conn_cons {u v a b : Int} (huv : u < v) (h : Conn ((u, v) :: ts) a b) : Conn ts a b ∨ (Conn ts a u ∧ Conn ts v b) ∨ (Conn ts a v ∧ Conn ts u b) := by
  induction h with
  | refl => exact .inl .refl
  | step _ e ih =>
    rcases (tied_cons huv).mp e with (⟨rfl, rfl⟩ | ⟨rfl, rfl⟩) | e
    · rcases ih with h | ⟨h1, h2⟩ | ⟨h1, h2⟩
      · exact .inr (.inl ⟨h, .refl⟩)
      · exact .inr (.inl ⟨h1, .refl⟩)
      · exact .inl h1
    · rcases ih with h | ⟨h1, h2⟩ | ⟨h1, h2⟩
      · exact .inr (.inr ⟨h, .refl⟩)
      · exact .inl h1
      · exact .inr (.inr ⟨h1, .refl⟩)
    · rcases ih with h | ⟨h1, h2⟩ | ⟨h1, h2⟩
      · exact .inl (h.step e)
      · exact .inr (.inl ⟨h1, h2.step e⟩)
      · exact .inr (.inr ⟨h1, h2.step e⟩)
theorem Edges.tail {p : Int × Int} (E : Edges n (p :: ts)) : Edges n ts := ⟨fun q hq => E.rng q (List.mem_cons_of_mem _ hq), (List.nodup_cons.mp E.nd).2⟩
theorem Edges.head {u v : Int} (E : Edges n ((u, v) :: ts)) : u < v ∧ u ∈ cps n ∧ v ∈ cps n := by
  have := E.rng (u, v) List.mem_cons_self
  simp only at this
  rw [mem_cps, mem_cps]
  omega
/-- a tie makes one piece less at most .. -/
theorem roots_cons {u v : Int} (E : Edges n ((u, v) :: ts)) : (roots n ts).length ≤ (roots n ((u, v) :: ts)).length + 1 := by
  obtain ⟨huv, hu, hv⟩ := E.head
  obtain ⟨ru, h1, h2⟩ := root_of E.tail hu
  obtain ⟨rv, h3, h4⟩ := root_of E.tail hv
  have := sub_len (l := roots n ts) (m := (if ru < rv then rv else ru) :: roots n ((u, v) :: ts)) roots_nd fun r hr => by
    by_cases h : r ∈ roots n ((u, v) :: ts)
    · exact List.mem_cons_of_mem _ h
    · have h0 := (mem_roots.mp hr).1
      have : ∃ x, Conn ((u, v) :: ts) r x ∧ x < r := by
        by_cases hx : ∀ x, Conn ((u, v) :: ts) r x → r ≤ x
        · exact absurd (mem_roots.mpr ⟨h0, hx⟩) h
        · simp only [Classical.not_forall] at hx
          obtain ⟨x, a, b⟩ := hx
          exact ⟨x, a, by omega⟩
      obtain ⟨x, hx, lt⟩ := this
      rcases conn_cons huv hx with c | ⟨c1, c2⟩ | ⟨c1, c2⟩
      · have := (mem_roots.mp hr).2 x c
        omega
      · have e : r = ru := root_eq hr h1 (c1.trans h2)
        have := (mem_roots.mp h3).2 x (h4.symm.trans c2)
        rw [if_neg (by omega), e]
        exact List.mem_cons_self
      · have e : r = rv := root_eq hr h3 (c1.trans h4)
        have := (mem_roots.mp h1).2 x (h2.symm.trans c2)
        rw [if_pos (by omega), e]
        exact List.mem_cons_self
  simpa using this
/-- .. and one less, if it ties two pieces -/
theorem roots_less {u v : Int} (E : Edges n ((u, v) :: ts)) (no : ¬ Conn ts u v) : (roots n ((u, v) :: ts)).length + 1 ≤ (roots n ts).length := by
  obtain ⟨huv, hu, hv⟩ := E.head
  obtain ⟨ru, h1, h2⟩ := root_of E.tail hu
  obtain ⟨rv, h3, h4⟩ := root_of E.tail hv
  have ne : ru ≠ rv := fun e => no (h2.trans (by rw [e]; exact h4.symm))
  have c12 : Conn ((u, v) :: ts) ru rv := ((h2.symm.more huv).step ((tied_cons huv).mpr (.inl (.inl ⟨rfl, rfl⟩)))).trans (h4.more huv)
  have := sub_len (l := (if ru < rv then rv else ru) :: roots n ((u, v) :: ts)) (m := roots n ts) (List.nodup_cons.mpr ⟨fun h => ?_, roots_nd⟩) fun r hr => ?_
  · simpa using this
  · split at h
    · have := (mem_roots.mp h).2 ru c12.symm
      omega
    · have := (mem_roots.mp h).2 rv c12
      omega
  · rcases List.mem_cons.mp hr with z | z
    · rw [z]
      split
      · exact h3
      · exact h1
    · obtain ⟨a, b⟩ := mem_roots.mp z
      exact mem_roots.mpr ⟨a, fun x hx => b x (hx.more huv)⟩
open Classical in
theorem roots_nil : (roots n []).length = (cps n).length := by
  have : roots n [] = cps n := by
    unfold roots
    refine List.filter_eq_self.mpr fun r hr => decide_eq_true fun x hx => ?_
    cases hx with
    | refl => exact Int.le_refl _
    | step _ e => simp [tied] at e
  rw [this]
theorem enough : ∀ {ts : List (Int × Int)}, Edges n ts → (cps n).length ≤ ts.length + (roots n ts).length
  | [], _ => by rw [roots_nil]; simp
  | (u, v) :: ts, E => by
    have := enough E.tail
    have := roots_cons E
    rw [List.length_cons]
    omega
/-- a way without twins -/
theorem way (E : Edges n ts) {a b : Int} (ha : a ∈ cps n) (h : Conn ts a b) : ∃ p : List Int, p ≠ [] ∧ p.Nodup ∧ lk ts p ∧ (∀ x ∈ p, x ∈ cps n) ∧ p.headD 0 = a ∧ p.getLastD 0 = b := by
  induction h with
  | refl => exact ⟨[a], by simp, by simp, trivial, by simpa using ha, rfl, rfl⟩
  | step hb e ih =>
    rename_i b c
    obtain ⟨p, h1, h2, h3, h4, h5, h6⟩ := ih
    by_cases hc : c ∈ p
    · obtain ⟨p1, p2, rfl⟩ := List.append_of_mem hc
      have el : p1 ++ c :: p2 = (p1 ++ [c]) ++ p2 := by simp
      have tk : p1 ++ [c] = (p1 ++ c :: p2).take (p1.length + 1) := by
        rw [el, List.take_left' (by simp)]
      refine ⟨p1 ++ [c], by simp, ?_, ?_, fun x hx => h4 x ?_, ?_, by simp⟩
      · rw [tk]; exact h2.sublist (List.take_sublist _ _)
      · rw [tk]; exact lk_take _ _ h3
      · rw [el]; exact List.mem_append_left _ hx
      · rw [← h5]
        cases p1 <;> rfl
    · have ep : p = p.dropLast ++ [p.getLast h1] := (List.dropLast_concat_getLast h1).symm
      have eb : p.getLast h1 = b := by
        rw [← h6]
        conv => rhs; rw [ep]
        simp
      refine ⟨p ++ [c], by simp, List.nodup_append.mpr ⟨h2, by simp, fun x hx y hy e => hc ?_⟩, ?_, fun x hx => ?_, ?_, by simp⟩
      · rw [List.mem_singleton] at hy
        rw [← hy, ← e]; exact hx
      · rw [ep, eb] at h3 ⊢
        exact lk_snoc.mpr ⟨h3, e⟩
      · rcases List.mem_append.mp hx with z | z
        · exact h4 x z
        · rw [List.mem_singleton] at z
          rw [z]; exact (tie_in E e).2
      · rw [← h5]
        cases p with
        | nil => exact absurd rfl h1
        | cons _ _ => rfl
theorem lk_more {u v : Int} (huv : u < v) : ∀ {p : List Int}, lk ts p → lk ((u, v) :: ts) p
  | [], _ => trivial
  | [_], _ => trivial
  | a :: b :: r, h => ⟨(tied_cons huv).mpr (.inr h.1), lk_more huv h.2⟩
theorem closes_more {u v : Int} (huv : u < v) {p : List Int} (h : closes ts p = true) : closes ((u, v) :: ts) p = true := by
  unfold closes at h ⊢
  rw [Bool.and_eq_true] at h ⊢
  exact ⟨h.1, (tied_cons huv).mpr (.inr h.2)⟩
/-- no ring: few ties -/
theorem no_ring : ∀ {ts : List (Int × Int)}, Edges n ts → (∀ p, ¬ Ring n ts p) → ts.length + (roots n ts).length ≤ (cps n).length
  | [], _, _ => by rw [roots_nil]; simp
  | (u, v) :: ts, E, no => by
    obtain ⟨huv, hu, hv⟩ := E.head
    have ih := no_ring E.tail fun p R => no p ⟨R.nd, R.sub, lk_more huv R.lk, closes_more huv R.closes⟩
    have nc : ¬ Conn ts u v := fun hc => by
      obtain ⟨p, h1, h2, h3, h4, h5, h6⟩ := way E.tail hu hc
      refine no p ⟨h2, h4, lk_more huv h3, ?_⟩
      unfold closes
      rw [Bool.and_eq_true, decide_eq_true_eq, h5, h6]
      refine ⟨?_, (tied_cons huv).mpr (.inl (.inl ⟨rfl, rfl⟩))⟩
      match p, h1, h3, h5, h6 with
      | [a], _, _, h5, h6 =>
        have h5 : a = u := h5
        have h6 : a = v := h6
        omega
      | [a, b], _, h3, h5, h6 =>
        have h5 : a = u := h5
        have h6 : b = v := h6
        have ht : tied ts u v = true := by rw [← h5, ← h6]; exact h3.1
        have := of_decide_eq_true ht
        unfold mn mx at this
        rw [if_neg (by omega), if_pos (by omega)] at this
        exact absurd this (List.nodup_cons.mp E.nd).1
      | a :: b :: c :: r, _, _, _, _ => simp
    have := roots_less E nc
    rw [List.length_cons]
    omega
theorem tied_erase {e : Int × Int} (nd : ts.Nodup) {a b : Int} : tied (ts.erase e) a b = true ↔ tied ts a b = true ∧ (mn a b, mx a b) ≠ e := by
  unfold tied
  rw [decide_eq_true_eq, decide_eq_true_eq, nd.mem_erase_iff, and_comm]
theorem conn_lk {ts : List (Int × Int)} : ∀ {p : List Int} {a : Int}, lk ts (a :: p) → Conn ts a ((a :: p).getLastD 0)
  | [], a, _ => .refl
  | b :: r, a, h => (Conn.one h.1).trans (conn_lk (p := r) h.2)
theorem lk_erase {e : Int × Int} (nd : ts.Nodup) : ∀ {p : List Int}, lk ts p → (∀ (j : Nat) (a b : Int), p[j]? = some a → p[j + 1]? = some b → (mn a b, mx a b) ≠ e) → lk (ts.erase e) p
  | [], _, _ => trivial
  | [_], _, _ => trivial
  | a :: b :: r, h, k => ⟨(tied_erase nd).mpr ⟨h.1, k 0 a b rfl rfl⟩, lk_erase nd (p := b :: r) h.2 fun j x y hx hy => k (j + 1) x y (by simpa using hx) (by simpa using hy)⟩
theorem mnx (a b : Int) : (a ≤ b ∧ mn a b = a ∧ mx a b = b) ∨ (b < a ∧ mn a b = b ∧ mx a b = a) := by
  unfold mn mx
  by_cases c : b < a
  · rw [if_pos c, if_neg (by omega)]
    exact .inr ⟨c, rfl, rfl⟩
  · rw [if_neg c]
    by_cases c2 : b > a
    · rw [if_pos c2]
      exact .inl ⟨by omega, rfl, rfl⟩
    · rw [if_neg c2]
      exact .inl ⟨by omega, rfl, by omega⟩
theorem two_of {a b h l : Int} (q : (mn a b, mx a b) = (mn h l, mx h l)) : (a = h ∧ b = l) ∨ (a = l ∧ b = h) := by
  rw [Prod.mk.injEq] at q
  have h1 := mnx a b
  have h2 := mnx h l
  omega
/-- a ring: one tie too many -/
theorem a_ring (E : Edges n ts) {p : List Int} (R : Ring n ts p) : (cps n).length < ts.length + (roots n ts).length := by
  have hc := R.closes
  unfold closes at hc
  rw [Bool.and_eq_true, decide_eq_true_eq] at hc
  obtain ⟨h3, ht⟩ := hc
  generalize hh : p.headD 0 = h at ht
  generalize hl : p.getLastD 0 = l at ht
  have hm : (mn h l, mx h l) ∈ ts := of_decide_eq_true ht
  have nd := E.nd
  have E' : Edges n (ts.erase (mn h l, mx h l)) := ⟨fun q hq => E.rng q (List.mem_of_mem_erase hq), nd.erase _⟩
  -- the way round does without it
  have lk' : lk (ts.erase (mn h l, mx h l)) p := by
    have e0 : p[0]? = some h := by
      cases p with
      | nil => simp at h3
      | cons a r => exact congrArg some hh
    have e9 : p[p.length - 1]? = some l := by
      have hne : p ≠ [] := fun e => by rw [e] at h3; simp at h3
      rw [← hl]
      have : p = p.dropLast ++ [p.getLast hne] := (List.dropLast_concat_getLast hne).symm
      conv => lhs; rw [this]
      conv => rhs; rw [this]
      simp
    refine lk_erase nd R.lk fun j a b ha hb q => ?_
    have lb := (List.getElem?_eq_some_iff.mp hb).1
    rcases two_of q with ⟨rfl, rfl⟩ | ⟨rfl, rfl⟩
    · have i1 : j = 0 := (List.getElem?_inj (by omega) R.nd).mp (ha.trans e0.symm)
      have i2 : j + 1 = p.length - 1 := (List.getElem?_inj lb R.nd).mp (hb.trans e9.symm)
      omega
    · have i1 : j = p.length - 1 := (List.getElem?_inj (by omega) R.nd).mp (ha.trans e9.symm)
      omega
  have cn : Conn (ts.erase (mn h l, mx h l)) h l := by
    cases p with
    | nil => simp at h3
    | cons a r =>
      have := conn_lk lk'
      rw [hl] at this
      have e : a = h := hh
      rw [← e]; rw [e]; rw [e] at this; exact this
  have tr : ∀ {a b : Int}, Conn ts a b → Conn (ts.erase (mn h l, mx h l)) a b := fun {a b} hab => by
    induction hab with
    | refl => exact .refl
    | step hb e ih =>
      rename_i b c
      by_cases q : (mn b c, mx b c) = (mn h l, mx h l)
      · rcases two_of q with ⟨rfl, rfl⟩ | ⟨rfl, rfl⟩
        · exact ih.trans cn
        · exact ih.trans cn.symm
      · exact ih.step ((tied_erase nd).mpr ⟨e, q⟩)
  have r1 := sub_len (l := roots n (ts.erase (mn h l, mx h l))) (m := roots n ts) roots_nd fun r hr => by
    obtain ⟨a, b⟩ := mem_roots.mp hr
    exact mem_roots.mpr ⟨a, fun x hx => b x (tr hx)⟩
  have := enough E'
  have h2 := List.length_erase_of_mem hm
  have : 0 < ts.length := List.length_pos_of_mem hm
  omega
end
end Ev

/-! What the law itself asks. -/
namespace Ev
open PySem PySem.Spec PyProof.Rows L2 Tb
section
variable {n : Int} {ts us : List (Int × Int)} {d : PyData}
theorem tied_perm (h : us.Perm ts) : tied us = tied ts := by
  funext a b
  unfold tied
  exact decide_eq_decide.mpr h.mem_iff
theorem conn_perm (h : us.Perm ts) {a b : Int} (c : Conn us a b) : Conn ts a b := by
  induction c with
  | refl => exact .refl
  | step _ e ih => exact ih.step (by rw [← tied_perm h]; exact e)
theorem lk_perm (h : us.Perm ts) : ∀ {p : List Int}, lk us p → lk ts p
  | [], _ => trivial
  | [_], _ => trivial
  | a :: b :: r, l => ⟨by rw [← tied_perm h]; exact l.1, lk_perm h l.2⟩
theorem ring_perm (h : us.Perm ts) {p : List Int} (R : Ring n us p) : Ring n ts p := ⟨R.nd, R.sub, lk_perm h R.lk, by
  have := R.closes
  unfold closes at this ⊢
  rw [← tied_perm h]; exact this⟩
theorem nbs_perm (h : us.Perm ts) (a : Int) : nbs n us a = nbs n ts a := by
  unfold nbs
  rw [tied_perm h]
/-- the least of its piece -/
noncomputable def rep (n : Int) (ts : List (Int × Int)) (c : Int) : Int := Classical.epsilon fun r => r ∈ roots n ts ∧ Conn ts c r
theorem rep_spec (E : Edges n ts) {c : Int} (h : c ∈ cps n) : rep n ts c ∈ roots n ts ∧ Conn ts c (rep n ts c) := Classical.epsilon_spec (p := fun r => r ∈ roots n ts ∧ Conn ts c r) (root_of E h)
theorem Ties.edges (t : Ties n ts) : Edges n ts := ⟨t.rng, t.nd⟩
theorem s_piece0 (t : Ties n ts) {c : Int} (h : c ∈ cps n) : ∃ l, r__law_piece [.list (TD ts), .int c] = some (.list (ID l)) ∧ ixF (.list (ID l)) (.int 0) = some (.int (rep n ts c)) := by
  obtain ⟨l, e, so, mem⟩ := s_piece t h
  obtain ⟨h1, h2⟩ := rep_spec t.edges h
  refine ⟨l, e, ?_⟩
  have hne : l ≠ [] := fun z => by
    have := (mem c).mpr .refl
    rw [z] at this
    cases this
  rw [show PyData.list (ID l) = lD l from rfl, ix_head hne]
  cases l with
  | nil => exact absurd rfl hne
  | cons a r =>
    have ha := (mem a).mp List.mem_cons_self
    have hr : a ∈ roots n ts := mem_roots.mpr ⟨conn_in t.edges ha h, fun x hx => by
      rcases List.mem_cons.mp ((mem x).mpr (ha.trans hx)) with z | z
      · rw [z]; exact Int.le_refl _
      · exact (List.pairwise_cons.mp so).1 x z⟩
    rw [show (a :: r).headD 0 = a from rfl, root_eq hr h1 (ha.symm.trans h2)]
theorem pieces_eq (t : Ties n ts) : (dd ((cps n).map (rep n ts))).length = (roots n ts).length := by
  refine (dd_len roots_nd fun z => ?_).symm
  rw [List.mem_map]
  constructor
  · intro hz
    have hc := (mem_roots.mp hz).1
    obtain ⟨h1, h2⟩ := rep_spec t.edges hc
    exact ⟨z, hc, (root_eq hz h1 h2).symm⟩
  · rintro ⟨c, hc, rfl⟩
    exact (rep_spec t.edges hc).1
theorem one_piece (t : Ties n ts) : (∀ c ∈ cps n, Conn ts 0 c) ↔ (roots n ts).length = 1 := by
  have h0 : (0 : Int) ∈ cps n := mem_cps.mpr (by have := t.lo; omega)
  obtain ⟨r0, h1, h2⟩ := root_of t.edges h0
  constructor
  · intro all
    have a := sub_len (l := roots n ts) (m := [r0]) roots_nd fun r hr => by
      rw [List.mem_singleton]
      exact root_eq hr h1 ((all r (mem_roots.mp hr).1).symm.trans h2)
    have b : 0 < (roots n ts).length := List.length_pos_of_mem h1
    have : [r0].length = 1 := rfl
    omega
  · intro len c hc
    obtain ⟨r, h3, h4⟩ := root_of t.edges hc
    have := sub_all (l := [r0]) (m := roots n ts) (by simp) (fun x hx => by
      rw [List.mem_singleton] at hx
      rw [hx]; exact h1) (by rw [len]; exact Nat.le_refl _) r h3
    rw [List.mem_singleton] at this
    rw [this] at h4
    exact h2.trans h4.symm
theorem ring_iff (t : Ties n ts) : (∃ p, Ring n ts p) ↔ (cps n).length < ts.length + (roots n ts).length := by
  constructor
  · rintro ⟨p, R⟩
    exact a_ring t.edges R
  · intro h
    by_cases hp : ∃ p, Ring n ts p
    · exact hp
    · have := no_ring t.edges fun p R => hp ⟨p, R⟩
      omega
theorem repr2 (a b : Bool) : ∃ s, reprF [.list [.bool a, .bool b]] = some (.str s) ∧ neF (.str s) (.str s) = some (.bool false) := by
  have key : ∀ a b : Bool, reprOk (.list [.bool a, .bool b]) ∧ SeqAt.shaped (.str (PyData.shown (.list [.bool a, .bool b]))) = true := by decide +kernel
  obtain ⟨k1, k2⟩ := key a b
  refine ⟨_, if_pos k1, ?_⟩
  unfold neF
  rw [if_pos ⟨k2, k2⟩, PyData.eqv, beq_self_eq_true]; rfl
theorem s_web_as_toldW (w : Web n ts d) : rW_web_as_told [webD n d] = some (.int n, TD (tSort ts)) := by
  have e := sort_TD w.kids (by have := w.few; omega)
  simp only [sortF, w.kids, Option.bind_some] at e
  have e2 : sortOk (TD ts) = true ∧ srtD (TD ts) = TD (tSort ts) := by
    split at e
    · rename_i h
      exact ⟨h, by simpa using e⟩
    · cases e
  unfold rW_web_as_told runW gW_web_as_told
  repeat (simp only [lo0, List.map_cons, List.map_nil, List.replicate, List.cons_append, List.nil_append, Nat.reduceSub, seqS, retS, dropS, nilS, ifS, asgS, nmG, tpG, consGs, nilGs, vF, cF, un1, isF, op2, callF, consA, nilA, andE, orE, notE, tstE, notT, andT, orT, bF, truT, truD, tupF, lstF, Option.bind_some, Option.bind_none, List.getElem?_cons_zero, List.getElem?_cons_succ, List.set_cons_zero, List.set_cons_succ, List.length_cons, List.length_nil, if_true, if_false, Bool.not_true, Bool.not_false, eq_self, reduceCtorEq, Bool.false_eq_true, ↓reduceIte, Nat.reduceAdd, decide_true, decide_false, Bool.not_not, pairW, sortL, web_ix0, web_ix1, w.kids, e2.1, e2.2])
theorem s_told_webW (w : Web n ts d) : rW_told_web [webD n d] = some (.int n, TD (tSort ts)) := by
  unfold rW_told_web runW gW_told_web
  repeat (simp only [lo0, List.map_cons, List.map_nil, List.replicate, List.cons_append, List.nil_append, Nat.reduceSub, seqS, retS, dropS, nilS, ifS, asgS, nmG, tpG, consGs, nilGs, vF, cF, un1, isF, op2, callF, consA, nilA, andE, orE, notE, tstE, notT, andT, orT, bF, truT, truD, tupF, lstF, Option.bind_some, Option.bind_none, List.getElem?_cons_zero, List.getElem?_cons_succ, List.set_cons_zero, List.set_cons_succ, List.length_cons, List.length_nil, if_true, if_false, Bool.not_true, Bool.not_false, eq_self, reduceCtorEq, Bool.false_eq_true, ↓reduceIte, Nat.reduceAdd, decide_true, decide_false, Bool.not_not, seqW, callWF, s_check_web w, s_web_as_toldW w])
theorem erase_TD : ∀ (ls : List (Int × Int)) (i : Nat), (TD ls).eraseIdx i = TD (ls.eraseIdx i)
  | [], _ => rfl
  | _ :: _, 0 => rfl
  | a :: r, i + 1 => congrArg (tieD a :: ·) (erase_TD r i)
theorem eq_web (n : Int) (ts : List (Int × Int)) : eqF (webD n (.list (TD ts))) (webD n (.list (TD ts))) = some (.bool true) ∧ neF (webD n (.list (TD ts))) (webD n (.list (TD ts))) = some (.bool false) := by
  have sh : Sh 3 (webD n (.list (TD ts))) := sh_tup fun x hx => by
    simp only [List.mem_cons, List.not_mem_nil, or_false] at hx
    rcases hx with rfl | rfl
    · exact sh_int _ _
    · exact sh_list sh_TD
  have e : PyData.eqv (webD n (.list (TD ts))) (webD n (.list (TD ts))) = true := by
    rw [PyData.eqv, PyData.eqvAll, PyData.eqvAll, PyData.eqvAll, eqv_int, PyData.eqv, eqv_ties]
    simp
  unfold eqF neF
  rw [if_pos ⟨sh.ok, sh.ok⟩, if_pos ⟨sh.ok, sh.ok⟩, e]
  exact ⟨rfl, rfl⟩
end

theorem s_law_right {ys : List PyData} (hy : Pot ys) : ∃ zs, r__law_right ys [] = some (.bool true, zs) := by
  have two : (2 : Nat) ≤ sizeLine := by decide
  obtain ⟨n, ts, q1, e0, p1, n1, n6, dr⟩ := s_law_web hy (l := 1) (h := 6) (by decide) (by decide) (by decide)
  have t : Ties n ts := ⟨n1, n6, dr.rng, dr.nd, by have := dr.few; omega⟩
  have few := t.few
  have w0 := t.web
  have h0 : (asgS (callBF r__law_web 0 (consA (cF (.int 1)) (consA (cF (.int 6)) nilA))) (tpG 2 (consGs (nmG 1) (consGs (nmG 2) nilGs)))) [some (.lst ys), none, none, none, none, none, none, none, none, none] = some (.nx, [some (.lst q1), some (.dat (.int n)), some (.dat (.list (TD ts))), none, none, none, none, none, none, none]) := by
    unfold asgS callBF
    repeat (simp only [lo0, List.map_cons, List.map_nil, List.replicate, List.cons_append, List.nil_append, Nat.reduceSub, seqS, retS, dropS, nilS, ifS, asgS, nmG, tpG, consGs, nilGs, vF, cF, un1, isF, op2, callF, consA, nilA, andE, orE, notE, tstE, notT, andT, orT, bF, truT, truD, tupF, lstF, Option.bind_some, Option.bind_none, List.getElem?_cons_zero, List.getElem?_cons_succ, List.set_cons_zero, List.set_cons_succ, List.length_cons, List.length_nil, if_true, if_false, Bool.not_true, Bool.not_false, eq_self, reduceCtorEq, Bool.false_eq_true, ↓reduceIte, Nat.reduceAdd, decide_true, decide_false, Bool.not_not, e0])
  have h1 : (parLL (listL (vF 2)) (lstL nilA) 3 4) [some (.lst q1), some (.dat (.int n)), some (.dat (.list (TD ts))), none, none, none, none, none, none, none] = some (.nx, [some (.lst q1), some (.dat (.int n)), some (.dat (.list (TD ts))), some (.lst (TD ts)), some (.lst (TD [])), none, none, none, none, none]) := by
    have z : (0 : Nat) ≤ sizeLine := Nat.zero_le _
    have k : kidsD (.list (TD ts)) = some (TD ts) := rfl
    repeat (simp only [lo0, List.map_cons, List.map_nil, List.replicate, List.cons_append, List.nil_append, Nat.reduceSub, seqS, retS, dropS, nilS, ifS, asgS, nmG, tpG, consGs, nilGs, vF, cF, un1, isF, op2, callF, consA, nilA, andE, orE, notE, tstE, notT, andT, orT, bF, truT, truD, tupF, lstF, Option.bind_some, Option.bind_none, List.getElem?_cons_zero, List.getElem?_cons_succ, List.set_cons_zero, List.set_cons_succ, List.length_cons, List.length_nil, if_true, if_false, Bool.not_true, Bool.not_false, eq_self, reduceCtorEq, Bool.false_eq_true, ↓reduceIte, Nat.reduceAdd, decide_true, decide_false, Bool.not_not, parLL, listL, lstL, k, z])
  -- the ties, in any sequence
  obtain ⟨o, l2, h2, rfl, q2, us, rfl, p2, pm⟩ : ∃ o l, (whileS (bF (op2L neF 3 (lstF nilA))) (dropS (appS 4 (popF 3 (callBF r__law_draw 0 (consA (callN lenF 3) nilA))))) 4096) ([some (.lst q1), some (.dat (.int n)), some (.dat (.list (TD ts))), some (.lst (TD ts)), some (.lst (TD [])), none, none, none, none, none]) = some (o, l) ∧ o = .nx ∧ ∃ q us, l = [some (.lst q), some (.dat (.int n)), some (.dat (.list (TD ts))), some (.lst (TD [])), some (.lst (TD us)), none, none, none, none, none] ∧ Pot q ∧ us.Perm ts := by
    have := whileS_spec (t := bF (op2L neF 3 (lstF nilA))) (body := dropS (appS 4 (popF 3 (callBF r__law_draw 0 (consA (callN lenF 3) nilA)))))
      (fun m lo => ∃ q ls us, lo = [some (.lst q), some (.dat (.int n)), some (.dat (.list (TD ts))), some (.lst (TD ls)), some (.lst (TD us)), none, none, none, none, none] ∧ Pot q ∧ (us ++ ls).Perm ts ∧ m = ls.length) (fun o lo => o = .nx ∧ ∃ q us, lo = [some (.lst q), some (.dat (.int n)), some (.dat (.list (TD ts))), some (.lst (TD [])), some (.lst (TD us)), none, none, none, none, none] ∧ Pot q ∧ us.Perm ts)
      (fun m lo ⟨q, ls, us, elo, hq, pm, em⟩ => by
        subst elo
        have ne : neF (.list (TD ls)) (.list []) = some (.bool (!decide (ls = []))) := by
          unfold neF
          rw [if_pos ⟨(sh_list sh_TD).ok, (sh_list (k := 0) (xs := []) (by simp)).ok⟩, PyData.eqv]
          exact congrArg (fun b => some (PyData.bool (!b))) (eqv_ties ls [])
        have z : (0 : Nat) ≤ sizeLine := Nat.zero_le _
        have tt : bF (op2L neF 3 (lstF nilA)) ([some (.lst q), some (.dat (.int n)), some (.dat (.list (TD ts))), some (.lst (TD ls)), some (.lst (TD us)), none, none, none, none, none]) = some (!decide (ls = []), [some (.lst q), some (.dat (.int n)), some (.dat (.list (TD ts))), some (.lst (TD ls)), some (.lst (TD us)), none, none, none, none, none]) := by
          repeat (simp only [lo0, List.map_cons, List.map_nil, List.replicate, List.cons_append, List.nil_append, Nat.reduceSub, seqS, retS, dropS, nilS, ifS, asgS, nmG, tpG, consGs, nilGs, vF, cF, un1, isF, op2, callF, consA, nilA, andE, orE, notE, tstE, notT, andT, orT, bF, truT, truD, tupF, lstF, Option.bind_some, Option.bind_none, List.getElem?_cons_zero, List.getElem?_cons_succ, List.set_cons_zero, List.set_cons_succ, List.length_cons, List.length_nil, if_true, if_false, Bool.not_true, Bool.not_false, eq_self, reduceCtorEq, Bool.false_eq_true, ↓reduceIte, Nat.reduceAdd, decide_true, decide_false, Bool.not_not, op2L, ownD, ne, z])
        by_cases hl : ls = []
        · subst hl
          refine .inl ⟨_, tt, rfl, q, us, rfl, hq, by simpa using pm⟩
        · rw [decide_eq_false hl] at tt
          have hpos := List.length_pos_iff.mpr hl
          have hlen : (us ++ ls).length = ts.length := pm.length_eq
          rw [List.length_append] at hlen
          obtain ⟨r, q', e, hq', r0, r1⟩ := s_draw hq (m := (ls.length : Int)) (by omega) (by omega)
          have el : lenF [.list (TD ls)] = some (.int ls.length) := by rw [len_kids (xs := TD ls) rfl, List.length_map]
          have hr : r.toNat < ls.length := by omega
          have eix : seqIndex? r (TD ls).length = some r.toNat := by
            rw [List.length_map]
            have a : ¬ r < 0 := by omega
            unfold seqIndex?
            simp [a, r0, r1]
          have eat : (TD ls)[r.toNat]? = some (tieD ls[r.toNat]) := by rw [List.getElem?_map, List.getElem?_eq_getElem hr]; rfl
          have eer : (TD ls).eraseIdx r.toNat = TD (ls.eraseIdx r.toNat) := erase_TD ls _
          have bnd : -(2 ^ 63) ≤ r ∧ r < 2 ^ 63 := by omega
          have sz : (TD us).length < sizeLine := by rw [List.length_map, sizeLine_eq]; omega
          have eap : TD us ++ [tieD ls[r.toNat]] = TD (us ++ [ls[r.toNat]]) := by unfold TD; rw [List.map_append]; rfl
          have hpop : popF 3 (callBF r__law_draw 0 (consA (callN lenF 3) nilA)) ([some (.lst q), some (.dat (.int n)), some (.dat (.list (TD ts))), some (.lst (TD ls)), some (.lst (TD us)), none, none, none, none, none]) = some (tieD ls[r.toNat], [some (.lst q'), some (.dat (.int n)), some (.dat (.list (TD ts))), some (.lst (TD (ls.eraseIdx r.toNat))), some (.lst (TD us)), none, none, none, none, none]) := by
            have hd : callBF r__law_draw 0 (consA (callN lenF 3) nilA) ([some (.lst q), some (.dat (.int n)), some (.dat (.list (TD ts))), some (.lst (TD ls)), some (.lst (TD us)), none, none, none, none, none]) = some (.int r, [some (.lst q'), some (.dat (.int n)), some (.dat (.list (TD ts))), some (.lst (TD ls)), some (.lst (TD us)), none, none, none, none, none]) := by
              repeat (simp only [lo0, List.map_cons, List.map_nil, List.replicate, List.cons_append, List.nil_append, Nat.reduceSub, seqS, retS, dropS, nilS, ifS, asgS, nmG, tpG, consGs, nilGs, vF, cF, un1, isF, op2, callF, consA, nilA, andE, orE, notE, tstE, notT, andT, orT, bF, truT, truD, tupF, lstF, Option.bind_some, Option.bind_none, List.getElem?_cons_zero, List.getElem?_cons_succ, List.set_cons_zero, List.set_cons_succ, List.length_cons, List.length_nil, if_true, if_false, Bool.not_true, Bool.not_false, eq_self, reduceCtorEq, Bool.false_eq_true, ↓reduceIte, Nat.reduceAdd, decide_true, decide_false, Bool.not_not, callBF, callN, ownD, el, e])
            show (Option.bind (some (TD ls)) _) = _
            rw [Option.bind_some, hd]
            show (if -(2 ^ 63) ≤ r ∧ r < 2 ^ 63 then _ else _) = _
            rw [if_pos bnd, eix, Option.bind_some, eat, Option.bind_some, eer]
            rfl
          refine .inr ⟨_, .nx, [some (.lst q'), some (.dat (.int n)), some (.dat (.list (TD ts))), some (.lst (TD (ls.eraseIdx r.toNat))), some (.lst (TD (us ++ [ls[r.toNat]]))), none, none, none, none, none], tt, ?_, .inl ⟨.inl rfl, _, ?_, q', _, _, rfl, hq', ?_, rfl⟩⟩
          · have happ : appS 4 (popF 3 (callBF r__law_draw 0 (consA (callN lenF 3) nilA))) ([some (.lst q), some (.dat (.int n)), some (.dat (.list (TD ts))), some (.lst (TD ls)), some (.lst (TD us)), none, none, none, none, none]) = some (.none, [some (.lst q'), some (.dat (.int n)), some (.dat (.list (TD ts))), some (.lst (TD (ls.eraseIdx r.toNat))), some (.lst (TD (us ++ [ls[r.toNat]]))), none, none, none, none, none]) := by
              show (Option.bind (some (TD us)) _) = _
              rw [Option.bind_some, hpop]
              show (if (TD us).length < sizeLine then _ else _) = _
              rw [if_pos sz, eap]
              rfl
            unfold dropS
            rw [happ]; rfl
          · rw [em, List.length_eraseIdx, if_pos hr]
            omega
          · rw [List.append_assoc]
            refine (List.Perm.append_left us ?_).trans pm
            rw [List.eraseIdx_eq_take_drop_succ]
            have := List.perm_middle (a := ls[r.toNat]) (l₁ := ls.take r.toNat) (l₂ := ls.drop (r.toNat + 1))
            have e2 : ls.take r.toNat ++ ls[r.toNat] :: ls.drop (r.toNat + 1) = ls := by
              rw [← List.drop_eq_getElem_cons hr, List.take_append_drop]
            rw [e2] at this
            exact this.symm)
      4096 ts.length ([some (.lst q1), some (.dat (.int n)), some (.dat (.list (TD ts))), some (.lst (TD ts)), some (.lst (TD [])), none, none, none, none, none]) ⟨q1, ts, [], rfl, p1, by simp, rfl⟩ (by omega)
    obtain ⟨o, l, e, rfl, r⟩ := this
    exact ⟨_, l, e, rfl, r⟩
  have so : tSort us = ts := tSort_eq pm dr.sorted
  have lenu : us.length = ts.length := pm.length_eq
  -- the web
  obtain ⟨d, g4, q3, h3, p3, kd⟩ : ∃ d g4 q3, (asgS (tupF (consA (vF 1) (consA (ifE (bF (op2 eqF (callBF r__law_draw 0 (consA (cF (.int 2)) nilA)) (cF (.int 0)))) (frzF 4) (callN tupleF 4)) nilA))) (nmG 5)) ([some (.lst q2), some (.dat (.int n)), some (.dat (.list (TD ts))), some (.lst (TD [])), some (.lst (TD us)), none, none, none, none, none]) = some (.nx, [some (.lst q3), some (.dat (.int n)), some (.dat (.list (TD ts))), some (.lst (TD [])), g4, some (.dat (webD n d)), none, none, none, none]) ∧ Pot q3 ∧ kidsD d = some (TD us) := by
    obtain ⟨r, q3, e, p3, _, _⟩ := s_draw p2 (m := 2) (by decide) (by decide)
    by_cases hr : r = 0
    · subst hr
      refine ⟨.list (TD us), some (.dat (.list (TD us))), q3, asg_eq (x := webD n (.list (TD us))) (l1 := [some (.lst q3), some (.dat (.int n)), some (.dat (.list (TD ts))), some (.lst (TD [])), some (.dat (.list (TD us))), none, none, none, none, none]) ?_, p3, rfl⟩
      repeat (simp only [lo0, List.map_cons, List.map_nil, List.replicate, List.cons_append, List.nil_append, Nat.reduceSub, seqS, retS, dropS, nilS, ifS, asgS, nmG, tpG, consGs, nilGs, vF, cF, un1, isF, op2, callF, consA, nilA, andE, orE, notE, tstE, notT, andT, orT, bF, truT, truD, tupF, lstF, Option.bind_some, Option.bind_none, List.getElem?_cons_zero, List.getElem?_cons_succ, List.set_cons_zero, List.set_cons_succ, List.length_cons, List.length_nil, if_true, if_false, Bool.not_true, Bool.not_false, eq_self, reduceCtorEq, Bool.false_eq_true, ↓reduceIte, Nat.reduceAdd, decide_true, decide_false, Bool.not_not, ifE, callBF, e, eq_int, frzF, two])
    · refine ⟨.tuple (TD us), some (.lst (TD us)), q3, asg_eq (x := webD n (.tuple (TD us))) (l1 := [some (.lst q3), some (.dat (.int n)), some (.dat (.list (TD ts))), some (.lst (TD [])), some (.lst (TD us)), none, none, none, none, none]) ?_, p3, rfl⟩
      have e2 : tupleF [.list (TD us)] = some (.tuple (TD us)) := rfl
      repeat (simp only [lo0, List.map_cons, List.map_nil, List.replicate, List.cons_append, List.nil_append, Nat.reduceSub, seqS, retS, dropS, nilS, ifS, asgS, nmG, tpG, consGs, nilGs, vF, cF, un1, isF, op2, callF, consA, nilA, andE, orE, notE, tstE, notT, andT, orT, bF, truT, truD, tupF, lstF, Option.bind_some, Option.bind_none, List.getElem?_cons_zero, List.getElem?_cons_succ, List.set_cons_zero, List.set_cons_succ, List.length_cons, List.length_nil, if_true, if_false, Bool.not_true, Bool.not_false, eq_self, reduceCtorEq, Bool.false_eq_true, ↓reduceIte, Nat.reduceAdd, decide_true, decide_false, Bool.not_not, ifE, callBF, e, eq_int, callN, ownD, two, hr, e2])
  have wb : Web n us d := ⟨t.lo, t.hi, fun p hp => t.rng p (pm.subset hp), pm.nodup_iff.mpr t.nd, kd, by omega⟩
  have told : r_told_web [webD n d] = some (webD n (.list (TD ts))) := by rw [s_told_web wb, so]
  have i1 : ixF (webD n (.list (TD ts))) (.int 1) = some (.list (TD ts)) := rfl
  have i2 : isLs (.list (TD ts)) = true := rfl
  have nb : notBF (.bool true) (.bool true) = some (.bool false) := rfl
  have h4 : (ifS (orT (bF (op2 notBF (callF r_is_web (consA (vF 5) nilA)) (cF (.bool true)))) (orT (bF (op2 neF (callF r_told_web (consA (vF 5) nilA)) (tupF (consA (vF 1) (consA (vF 2) nilA))))) (notT (bF (un1 (isF isLs) (op2 ixF (callF r_told_web (consA (vF 5) nilA)) (cF (.int 1)))))))) (retS (cF (.bool false))) nilS) [some (.lst q3), some (.dat (.int n)), some (.dat (.list (TD ts))), some (.lst (TD [])), g4, some (.dat (webD n d)), none, none, none, none] = some (.nx, [some (.lst q3), some (.dat (.int n)), some (.dat (.list (TD ts))), some (.lst (TD [])), g4, some (.dat (webD n d)), none, none, none, none]) := by
    repeat (simp only [lo0, List.map_cons, List.map_nil, List.replicate, List.cons_append, List.nil_append, Nat.reduceSub, seqS, retS, dropS, nilS, ifS, asgS, nmG, tpG, consGs, nilGs, vF, cF, un1, isF, op2, callF, consA, nilA, andE, orE, notE, tstE, notT, andT, orT, bF, truT, truD, tupF, lstF, Option.bind_some, Option.bind_none, List.getElem?_cons_zero, List.getElem?_cons_succ, List.set_cons_zero, List.set_cons_succ, List.length_cons, List.length_nil, if_true, if_false, Bool.not_true, Bool.not_false, eq_self, reduceCtorEq, Bool.false_eq_true, ↓reduceIte, Nat.reduceAdd, decide_true, decide_false, Bool.not_not, s_is_web wb, nb, told, two, (eq_web n ts).2, i1, i2])
  have s2 : small62 n = true := small62_iff.mpr (by omega)
  have len : (rgL 0 n).length = n.toNat := by rw [rgL_cps, List.length_map, cps_len]
  obtain ⟨l5, f5, o6, rfl, no6⟩ := forGo_inv0 (gg := nmG 6) (body := ifS (orT (bF (op2 neF (callF r_neighbours (consA (vF 5) (consA (vF 6) nilA))) (callF r__law_near (consA (vF 2) (consA (vF 6) nilA))))) (bF (op2 neF (callKF r_neighbours 2 [1, 0] (consA (vF 6) (consA (vF 5) nilA))) (callF r__law_near (consA (vF 2) (consA (vF 6) nilA)))))) (retS (cF (.bool false))) nilS)
    (fun _ lo => ∃ o6, lo = [some (.lst q3), some (.dat (.int n)), some (.dat (.list (TD ts))), some (.lst (TD [])), g4, some (.dat (webD n d)), o6, none, none, none] ∧ ∀ xs, o6 ≠ some (.lst xs)) (rgL 0 n) [some (.lst q3), some (.dat (.int n)), some (.dat (.list (TD ts))), some (.lst (TD [])), g4, some (.dat (webD n d)), none, none, none, none] ⟨none, rfl, fun _ z => by cases z⟩ fun j x lo hx ⟨o6, elo, _⟩ => by
      subst elo
      obtain ⟨ex, hj⟩ := rgL_at hx
      rw [Int.zero_add] at ex
      subst ex
      have e1 := s_neighbours wb (a := (j : Int)) (by omega)
      rw [nbs_perm pm] at e1
      have e2 := s_near' t (j : Int)
      have e3 : neF (.list (ID (nbs n ts (j : Int)))) (.list (ID (nbs n ts (j : Int)))) = some (.bool false) := by rw [neL_int, decide_eq_true rfl]; rfl
      have pk : pick [1, 0] [.int (j : Int), webD n d] = [webD n d, .int (j : Int)] := rfl
      refine ⟨[some (.lst q3), some (.dat (.int n)), some (.dat (.list (TD ts))), some (.lst (TD [])), g4, some (.dat (webD n d)), some (.dat (.int (j : Int))), none, none, none], [some (.lst q3), some (.dat (.int n)), some (.dat (.list (TD ts))), some (.lst (TD [])), g4, some (.dat (webD n d)), some (.dat (.int (j : Int))), none, none, none], rfl, .inl ?_, _, rfl, fun _ z => by cases z⟩
      repeat (simp only [lo0, List.map_cons, List.map_nil, List.replicate, List.cons_append, List.nil_append, Nat.reduceSub, seqS, retS, dropS, nilS, ifS, asgS, nmG, tpG, consGs, nilGs, vF, cF, un1, isF, op2, callF, consA, nilA, andE, orE, notE, tstE, notT, andT, orT, bF, truT, truD, tupF, lstF, Option.bind_some, Option.bind_none, List.getElem?_cons_zero, List.getElem?_cons_succ, List.set_cons_zero, List.set_cons_succ, List.length_cons, List.length_nil, if_true, if_false, Bool.not_true, Bool.not_false, eq_self, reduceCtorEq, Bool.false_eq_true, ↓reduceIte, Nat.reduceAdd, decide_true, decide_false, Bool.not_not, e1, e2, e3, callKF, pk])
  have h5 : (forS (rg1I (consA (vF 1) nilA)) (nmG 6) (ifS (orT (bF (op2 neF (callF r_neighbours (consA (vF 5) (consA (vF 6) nilA))) (callF r__law_near (consA (vF 2) (consA (vF 6) nilA))))) (bF (op2 neF (callKF r_neighbours 2 [1, 0] (consA (vF 6) (consA (vF 5) nilA))) (callF r__law_near (consA (vF 2) (consA (vF 6) nilA)))))) (retS (cF (.bool false))) nilS)) [some (.lst q3), some (.dat (.int n)), some (.dat (.list (TD ts))), some (.lst (TD [])), g4, some (.dat (webD n d)), none, none, none, none] = some (.nx, [some (.lst q3), some (.dat (.int n)), some (.dat (.list (TD ts))), some (.lst (TD [])), g4, some (.dat (webD n d)), o6, none, none, none]) := forS_of (rg1I_of (g := consA (vF 1) nilA) rfl s2) f5
  -- the pieces
  have hcl := cps_small t.web
  have lc := lcF_int (gi := rg1I (consA (vF 1) nilA)) (vs := [6]) (gg := nmG 6) (t := yesT) (g := op2 ixF (callF r__law_piece (consA (vF 2) (consA (vF 6) nilA))) (cF (.int 0))) (lo := [some (.lst q3), some (.dat (.int n)), some (.dat (.list (TD ts))), some (.lst (TD [])), g4, some (.dat (webD n d)), o6, none, none, none]) (lo1 := [some (.lst q3), some (.dat (.int n)), some (.dat (.list (TD ts))), some (.lst (TD [])), g4, some (.dat (webD n d)), o6, none, none, none]) (ns := cps n) (fun _ => true) (fun c => .int (rep n ts c)) (by
    rw [← rgL_cps]
    exact rg1I_of (g := consA (vF 1) nilA) rfl s2) (by
    cases o6 with
    | none => rfl
    | some x =>
      cases x with
      | dat _ => rfl
      | lst xs => exact absurd rfl (no6 xs)) (by rw [sizeLine_eq]; omega) fun c hc => by
      obtain ⟨l, e1, e2⟩ := s_piece0 t hc
      refine ⟨[some (.lst q3), some (.dat (.int n)), some (.dat (.list (TD ts))), some (.lst (TD [])), g4, some (.dat (webD n d)), some (.dat (.int c)), none, none, none], rfl, rfl, rfl, fun _ => ?_⟩
      exact op2_eq (call2_eq (g := vF 2) (k := vF 6) rfl rfl e1) rfl e2
  rw [List.filter_eq_self.mpr fun _ _ => rfl] at lc
  have en : (cps n).map (fun c => PyData.int (rep n ts c)) = ID ((cps n).map (rep n ts)) := by unfold ID; rw [List.map_map]; rfl
  rw [en] at lc
  have eset : lenSetF (.list (ID ((cps n).map (rep n ts)))) = some (.int (roots n ts).length) := by
    rw [lenSet_int (by rw [List.length_map]; omega), pieces_eq t]
  have h6 : (asgS (un1 lenSetF (lcF (rg1I (consA (vF 1) nilA)) [6] (nmG 6) yesT (op2 ixF (callF r__law_piece (consA (vF 2) (consA (vF 6) nilA))) (cF (.int 0))))) (nmG 7)) [some (.lst q3), some (.dat (.int n)), some (.dat (.list (TD ts))), some (.lst (TD [])), g4, some (.dat (webD n d)), o6, none, none, none] = some (.nx, [some (.lst q3), some (.dat (.int n)), some (.dat (.list (TD ts))), some (.lst (TD [])), g4, some (.dat (webD n d)), o6, some (.dat (.int ((roots n ts).length : Int))), none, none]) := by
    refine asg_eq (l1 := [some (.lst q3), some (.dat (.int n)), some (.dat (.list (TD ts))), some (.lst (TD [])), g4, some (.dat (webD n d)), o6, none, none, none]) ?_
    unfold un1
    rw [lc]
    show (lenSetF _).bind _ = _
    rw [eset]; rfl
  -- what is due
  have lt : lenF [.list (TD ts)] = some (.int ts.length) := by rw [len_kids (xs := TD ts) rfl, List.length_map]
  have sb : subF (.int n) (.int ((roots n ts).length : Int)) = some (.int (n - (roots n ts).length)) := rfl
  have gt : gtF (.int (ts.length : Int)) (.int (n - (roots n ts).length)) = some (.bool (decide (n - (roots n ts).length < ts.length))) := rfl
  have h7 : (asgS (lstF (consA (op2 eqF (vF 7) (cF (.int 1))) (consA (op2 gtF (callF lenF (consA (vF 2) nilA)) (op2 subF (vF 1) (vF 7))) nilA))) (nmG 8)) [some (.lst q3), some (.dat (.int n)), some (.dat (.list (TD ts))), some (.lst (TD [])), g4, some (.dat (webD n d)), o6, some (.dat (.int ((roots n ts).length : Int))), none, none] = some (.nx, [some (.lst q3), some (.dat (.int n)), some (.dat (.list (TD ts))), some (.lst (TD [])), g4, some (.dat (webD n d)), o6, some (.dat (.int ((roots n ts).length : Int))), some (.dat (.list [.bool (decide (((roots n ts).length : Int) = 1)), .bool (decide (n - (roots n ts).length < ts.length))])), none]) := by
    repeat (simp only [lo0, List.map_cons, List.map_nil, List.replicate, List.cons_append, List.nil_append, Nat.reduceSub, seqS, retS, dropS, nilS, ifS, asgS, nmG, tpG, consGs, nilGs, vF, cF, un1, isF, op2, callF, consA, nilA, andE, orE, notE, tstE, notT, andT, orT, bF, truT, truD, tupF, lstF, Option.bind_some, Option.bind_none, List.getElem?_cons_zero, List.getElem?_cons_succ, List.set_cons_zero, List.set_cons_succ, List.length_cons, List.length_nil, if_true, if_false, Bool.not_true, Bool.not_false, eq_self, reduceCtorEq, Bool.false_eq_true, ↓reduceIte, Nat.reduceAdd, decide_true, decide_false, Bool.not_not, eq_int, lt, sb, gt, two])
  obtain ⟨b1, ej, hj⟩ := s_is_joined wb
  obtain ⟨b2, eh, hh⟩ := s_has_ring wb
  have hb1 : b1 = decide (((roots n ts).length : Int) = 1) := by
    have : b1 = true ↔ (roots n ts).length = 1 := by
      rw [hj, ← one_piece t]
      exact ⟨fun h c hc => conn_perm pm (h c hc), fun h c hc => conn_perm pm.symm (h c hc)⟩
    cases hb : b1 with
    | true => exact (decide_eq_true (by have := this.mp hb; omega)).symm
    | false => exact (decide_eq_false fun z => by
        have := this.mpr (by omega)
        rw [hb] at this; cases this).symm
  have ringi : (∃ p, Ring n us p) ↔ n - (roots n ts).length < ts.length := by
    have := ring_iff t
    rw [cps_len] at this
    constructor
    · rintro ⟨p, R⟩
      have := this.mp ⟨p, ring_perm pm R⟩
      omega
    · intro h
      obtain ⟨p, R⟩ := this.mpr (by omega)
      exact ⟨p, ring_perm pm.symm R⟩
  have hb2 : b2 = decide (n - (roots n ts).length < ts.length) := by
    cases hb : b2 with
    | true => exact (decide_eq_true (ringi.mp (hh.mp hb))).symm
    | false => exact (decide_eq_false fun z => by
        have := hh.mpr (ringi.mpr z)
        rw [hb] at this; cases this).symm
  rw [← hb1, ← hb2] at h7
  obtain ⟨s, er, es⟩ := repr2 b1 b2
  have h8 : (ifS (bF (op2 neF (callF reprF (consA (lstF (consA (callF r_is_joined (consA (vF 5) nilA)) (consA (callF r_has_ring (consA (vF 5) nilA)) nilA))) nilA)) (callF reprF (consA (vF 8) nilA)))) (retS (cF (.bool false))) nilS) [some (.lst q3), some (.dat (.int n)), some (.dat (.list (TD ts))), some (.lst (TD [])), g4, some (.dat (webD n d)), o6, some (.dat (.int ((roots n ts).length : Int))), some (.dat (.list [.bool b1, .bool b2])), none] = some (.nx, [some (.lst q3), some (.dat (.int n)), some (.dat (.list (TD ts))), some (.lst (TD [])), g4, some (.dat (webD n d)), o6, some (.dat (.int ((roots n ts).length : Int))), some (.dat (.list [.bool b1, .bool b2])), none]) := by
    repeat (simp only [lo0, List.map_cons, List.map_nil, List.replicate, List.cons_append, List.nil_append, Nat.reduceSub, seqS, retS, dropS, nilS, ifS, asgS, nmG, tpG, consGs, nilGs, vF, cF, un1, isF, op2, callF, consA, nilA, andE, orE, notE, tstE, notT, andT, orT, bF, truT, truD, tupF, lstF, Option.bind_some, Option.bind_none, List.getElem?_cons_zero, List.getElem?_cons_succ, List.set_cons_zero, List.set_cons_succ, List.length_cons, List.length_nil, if_true, if_false, Bool.not_true, Bool.not_false, eq_self, reduceCtorEq, Bool.false_eq_true, ↓reduceIte, Nat.reduceAdd, decide_true, decide_false, Bool.not_not, ej, eh, er, es, two])
  obtain ⟨x, ex, hx⟩ := s_ring wb
  have h9 : (asgS (callF r_ring (consA (vF 5) nilA)) (nmG 9)) [some (.lst q3), some (.dat (.int n)), some (.dat (.list (TD ts))), some (.lst (TD [])), g4, some (.dat (webD n d)), o6, some (.dat (.int ((roots n ts).length : Int))), some (.dat (.list [.bool b1, .bool b2])), none] = some (.nx, [some (.lst q3), some (.dat (.int n)), some (.dat (.list (TD ts))), some (.lst (TD [])), g4, some (.dat (webD n d)), o6, some (.dat (.int ((roots n ts).length : Int))), some (.dat (.list [.bool b1, .bool b2])), some (.dat x)]) := asg_eq (l1 := [some (.lst q3), some (.dat (.int n)), some (.dat (.list (TD ts))), some (.lst (TD [])), g4, some (.dat (webD n d)), o6, some (.dat (.int ((roots n ts).length : Int))), some (.dat (.list [.bool b1, .bool b2])), none]) (call1_eq (g := vF 5) rfl ex)
  have i8 : ixF (.list [.bool b1, .bool b2]) (.int 1) = some (.bool b2) := rfl
  have start : ∀ {o : Out} {l : Lo}, seqS (ifS (notT (truT (op2 ixF (vF 8) (cF (.int 1))))) (retS (op2 isNF (vF 9) (cF .none))) nilS) (seqS (dropS (app1F (callWF rW_told_web (consA (vF 5) nilA)))) (retS (andE (callF r__law_is_ring (consA (vF 2) (consA (vF 9) nilA))) (op2 eqF (callKF r_told_web 1 [0] (consA (vF 5) nilA)) (tupF (consA (vF 1) (consA (vF 2) nilA))))))) [some (.lst q3), some (.dat (.int n)), some (.dat (.list (TD ts))), some (.lst (TD [])), g4, some (.dat (webD n d)), o6, some (.dat (.int ((roots n ts).length : Int))), some (.dat (.list [.bool b1, .bool b2])), some (.dat x)] = some (o, l) → g__law_right [some (.lst ys), none, none, none, none, none, none, none, none, none] = some (o, l) := fun {o l} h => by
    show seqS _ (seqS _ (seqS _ (seqS _ (seqS _ (seqS _ (seqS _ (seqS _ (seqS _ (seqS _ _))))))))) [some (.lst ys), none, none, none, none, none, none, none, none, none] = _
    rw [seq_nx h0, seq_nx h1, seq_nx h2, seq_nx h3, seq_nx h4, seq_nx h5, seq_nx h6, seq_nx h7, seq_nx h8, seq_nx h9]
    exact h
  rcases hx with ⟨rfl, no⟩ | ⟨p, rfl, R⟩
  · have eb : b2 = false := by
      cases hb : b2 with
      | false => rfl
      | true =>
        obtain ⟨p, R⟩ := hh.mp hb
        exact (no p R).elim
    have h10 : (ifS (notT (truT (op2 ixF (vF 8) (cF (.int 1))))) (retS (op2 isNF (vF 9) (cF .none))) nilS) [some (.lst q3), some (.dat (.int n)), some (.dat (.list (TD ts))), some (.lst (TD [])), g4, some (.dat (webD n d)), o6, some (.dat (.int ((roots n ts).length : Int))), some (.dat (.list [.bool b1, .bool b2])), some (.dat .none)] = some (.rt (.bool true), [some (.lst q3), some (.dat (.int n)), some (.dat (.list (TD ts))), some (.lst (TD [])), g4, some (.dat (webD n d)), o6, some (.dat (.int ((roots n ts).length : Int))), some (.dat (.list [.bool b1, .bool b2])), some (.dat .none)]) := by
      rw [eb]
      rfl
    exact ⟨q3, runB_eq rfl (start (seq_rt h10)) rfl⟩
  · have eb : b2 = true := hh.mpr ⟨p, R⟩
    have h10 : (ifS (notT (truT (op2 ixF (vF 8) (cF (.int 1))))) (retS (op2 isNF (vF 9) (cF .none))) nilS) [some (.lst q3), some (.dat (.int n)), some (.dat (.list (TD ts))), some (.lst (TD [])), g4, some (.dat (webD n d)), o6, some (.dat (.int ((roots n ts).length : Int))), some (.dat (.list [.bool b1, .bool b2])), some (.dat (lD p))] = some (.nx, [some (.lst q3), some (.dat (.int n)), some (.dat (.list (TD ts))), some (.lst (TD [])), g4, some (.dat (webD n d)), o6, some (.dat (.int ((roots n ts).length : Int))), some (.dat (.list [.bool b1, .bool b2])), some (.dat (lD p))]) := by
      rw [eb]
      rfl
    have tw := s_told_webW wb
    have sz : (TD (tSort us)).length < sizeLine := by rw [so, List.length_map, sizeLine_eq]; omega
    have h11 : (dropS (app1F (callWF rW_told_web (consA (vF 5) nilA)))) [some (.lst q3), some (.dat (.int n)), some (.dat (.list (TD ts))), some (.lst (TD [])), g4, some (.dat (webD n d)), o6, some (.dat (.int ((roots n ts).length : Int))), some (.dat (.list [.bool b1, .bool b2])), some (.dat (lD p))] = some (.nx, [some (.lst q3), some (.dat (.int n)), some (.dat (.list (TD ts))), some (.lst (TD [])), g4, some (.dat (webD n d)), o6, some (.dat (.int ((roots n ts).length : Int))), some (.dat (.list [.bool b1, .bool b2])), some (.dat (lD p))]) := by
      have : app1F (callWF rW_told_web (consA (vF 5) nilA)) [some (.lst q3), some (.dat (.int n)), some (.dat (.list (TD ts))), some (.lst (TD [])), g4, some (.dat (webD n d)), o6, some (.dat (.int ((roots n ts).length : Int))), some (.dat (.list [.bool b1, .bool b2])), some (.dat (lD p))] = some (.none, [some (.lst q3), some (.dat (.int n)), some (.dat (.list (TD ts))), some (.lst (TD [])), g4, some (.dat (webD n d)), o6, some (.dat (.int ((roots n ts).length : Int))), some (.dat (.list [.bool b1, .bool b2])), some (.dat (lD p))]) := by
        show ((Option.bind (rW_told_web [webD n d]) _).bind _) = _
        rw [tw]
        show (if (TD (tSort us)).length < sizeLine then _ else _) = _
        rw [if_pos sz]
      unfold dropS
      rw [this]; rfl
    have isr := s_is_ring t (ring_perm pm R)
    have pk : pick [0] [webD n d] = [webD n d] := rfl
    have h12 : (retS (andE (callF r__law_is_ring (consA (vF 2) (consA (vF 9) nilA))) (op2 eqF (callKF r_told_web 1 [0] (consA (vF 5) nilA)) (tupF (consA (vF 1) (consA (vF 2) nilA)))))) [some (.lst q3), some (.dat (.int n)), some (.dat (.list (TD ts))), some (.lst (TD [])), g4, some (.dat (webD n d)), o6, some (.dat (.int ((roots n ts).length : Int))), some (.dat (.list [.bool b1, .bool b2])), some (.dat (lD p))] = some (.rt (.bool true), [some (.lst q3), some (.dat (.int n)), some (.dat (.list (TD ts))), some (.lst (TD [])), g4, some (.dat (webD n d)), o6, some (.dat (.int ((roots n ts).length : Int))), some (.dat (.list [.bool b1, .bool b2])), some (.dat (lD p))]) := by
      repeat (simp only [lo0, List.map_cons, List.map_nil, List.replicate, List.cons_append, List.nil_append, Nat.reduceSub, seqS, retS, dropS, nilS, ifS, asgS, nmG, tpG, consGs, nilGs, vF, cF, un1, isF, op2, callF, consA, nilA, andE, orE, notE, tstE, notT, andT, orT, bF, truT, truD, tupF, lstF, Option.bind_some, Option.bind_none, List.getElem?_cons_zero, List.getElem?_cons_succ, List.set_cons_zero, List.set_cons_succ, List.length_cons, List.length_nil, if_true, if_false, Bool.not_true, Bool.not_false, eq_self, reduceCtorEq, Bool.false_eq_true, ↓reduceIte, Nat.reduceAdd, decide_true, decide_false, Bool.not_not, isr, callKF, pk, told, two, (eq_web n ts).1])
    exact ⟨q3, runB_eq rfl (start (by rw [seq_nx h10, seq_nx h11]; exact h12)) rfl⟩
end Ev

namespace Ev
open PySem PySem.Spec PyProof.Rows L2 Tb
def top (i : Nat) : Stmt := PySem.Challenge.pw_partsmet_k81_whole_webs_and_rings.main.body.getD i (.Pass ⟨0, 0, 0, 0⟩)
abbrev st__law_draw : Stmt := top 28
abbrev st__law_web : Stmt := top 30
abbrev st_is_integer : Stmt := top 1
abbrev st_is_list : Stmt := top 4
abbrev st_is_count : Stmt := top 2
abbrev st_is_count_below : Stmt := top 3
abbrev st_is_tie : Stmt := top 10
abbrev st_is_web : Stmt := top 13
abbrev st_check_web : Stmt := top 19
abbrev st_copies_of : Stmt := top 21
abbrev st_are_tied : Stmt := top 22
abbrev st_neighbours_of : Stmt := top 23
abbrev st_first_ring : Stmt := top 25
abbrev st_ring : Stmt := top 18
abbrev st__law_near : Stmt := top 31
abbrev st__law_is_ring : Stmt := top 33
abbrev st_web_as_told : Stmt := top 20
abbrev st_told_web : Stmt := top 14
abbrev st_neighbours : Stmt := top 15
abbrev st_is_tied_to_some : Stmt := top 24
abbrev st_is_joined : Stmt := top 16
abbrev st_has_ring : Stmt := top 17
abbrev st__law_piece : Stmt := top 32
abbrev st__law_right : Stmt := top 34
abbrev st__law_pot : Stmt := top 27
abbrev st_law : Stmt := top 35
abbrev fnNames : List String := ["_law_draw", "_law_web", "is_integer", "is_list", "is_count", "is_count_below", "is_tie", "is_web", "check_web", "copies_of", "are_tied", "neighbours_of", "first_ring", "ring", "_law_near", "_law_is_ring", "web_as_told", "told_web", "neighbours", "is_tied_to_some", "is_joined", "has_ring", "_law_piece", "_law_right", "_law_pot", "law"]
abbrev blNames : List String := ["isinstance", "int", "bool", "str", "dict", "list", "tuple", "len", "all", "any", "range", "abs", "sum", "min", "max", "divmod", "sorted", "set", "repr", "enumerate", "zip"]
structure Tx (mg : Str → Option Value) (f : String → Addr) : Prop where
  fn : ∀ x ∈ fnNames, mg (Str.ofString x) = some (.ref (f x))
  bl : ∀ x ∈ blNames, mg (Str.ofString x) = none
theorem _root_.L2.Room.u66 {k : Nat} {A : Around} (r : Room k A) : A.units + 66 < cLine := by have := r.un; omega
theorem _root_.L2.Room.u66' {k : Nat} {A : Around} (r : Room k A) : A.units + 65 < cLine := by have := r.un; omega
section
variable {P : Program} {w : World} {K : PySem.W.Frag} {mg : Str → Option Value} {base : Heap} {f : String → Addr} {T : List Addr}
abbrev N__law_draw : List Str := ["_law_pot_here", "_law_many", "_law_digit"]
theorem sc__law_draw : FnScope N__law_draw ["_law_pot_here", "_law_many"] (defScope st__law_draw) := ⟨rfl, rfl, rfl, by decide +kernel, rfl, by decide +kernel, by decide +kernel⟩
theorem ok__law_draw {a : Addr} {fd : FuncData} (TX : Tx mg f) (F : Fun K "_law_draw" "_law_draw" st__law_draw a fd) :
    FnG P w K mg base 1 a fd ["_law_pot_here", "_law_many"] (spB K T r__law_draw) :=
  fnB1 (g := g__law_draw) rfl F sc__law_draw rfl rfl fun cdv A outer s H hr hgd => by
    unfold g__law_draw
    exact (es_cons (es_if (et_cmp op_gt val_gt (ev_ixL ix_seq val_ix (pv 0) ev_int (fun _ _ => rfl)) ev_int (nomark _)) (es_cons (es_asg (ev_blt call_divmod val_divmod rfl (TX.bl "divmod" (by decide)) (by decide +kernel) (ea_cons (ev_ixL ix_seq val_ix (pv 0) ev_int (fun _ _ => rfl)) (ea_cons (ev_var (pv 1)) ea_nil))) (pg_tup rfl (pgs_cons (pg_sub (pv 0) pe_int set_list) (pgs_cons (pg_name (i := 2) sc__law_draw.nd rfl (by first | exact Or.inl rfl | exact Or.inr (Or.inl rfl) | exact Or.inr rfl)) pgs_nil))) (eg_tup (egs_cons eg_sub (egs_cons (eg_name (by decide)) egs_nil))))
      (es_one (es_ret (ev_var (pv 2))))) es_nil)
      (es_cons (es_store (ev_mod (ev_add (ev_mul (ev_ixL ix_seq val_ix (pv 0) ev_int (fun _ _ => rfl)) ev_int) ev_int) ev_int) (pv 0) ev_int (by intro _; rfl))
      (es_one (es_ret (ev_mod (ev_fdiv (ev_mod (ev_mul (ev_ixL ix_seq val_ix (pv 0) ev_int (fun _ _ => rfl)) (ev_ixL ix_seq val_ix (pv 0) ev_int (fun _ _ => rfl))) ev_int) ev_int) (ev_var (pv 1)))))))
abbrev N__law_web : List Str := ["_law_pot_here", "_law_least", "_law_most", "_law_many", "_law_ties", "_law_low", "_law_high"]
theorem sc__law_web : FnScope N__law_web ["_law_pot_here", "_law_least", "_law_most"] (defScope st__law_web) := ⟨rfl, rfl, rfl, by decide +kernel, rfl, by decide +kernel, by decide +kernel⟩
theorem ok__law_web {a : Addr} {fd : FuncData} (TX : Tx mg f) (F : Fun K "_law_web" "_law_web" st__law_web a fd)
    {fd__law_draw : FuncData} (G__law_draw : FnG P w K mg base 1 (f "_law_draw") fd__law_draw ["_law_pot_here", "_law_many"] (spB K T r__law_draw)) (k__law_draw : PySem.W.keepIn K (.ref (f "_law_draw")) = true) (B__law_draw : Binds K fd__law_draw ["_law_pot_here", "_law_many"] []) :
    FnG P w K mg base 2 a fd ["_law_pot_here", "_law_least", "_law_most"] (spB K T r__law_web) :=
  fnB1 (g := g__law_web) rfl F sc__law_web rfl rfl fun cdv A outer s H hr hgd => by
    unfold g__law_web
    exact (es_cons (es_parEL (ps_par (i := 3) (j := 4) rfl sc__law_web.nd rfl rfl (by decide) (by first | rfl | decide +kernel) (by first | rfl | decide +kernel) (pa_cons (ev_add (ev_var (pv 1)) (ev_callB G__law_draw (hr.mono (by decide)) hgd rfl (TX.fn "_law_draw" (by decide)) k__law_draw B__law_draw (pv 0) (ea_cons (ev_add (ev_sub (ev_var (pv 2)) (ev_var (pv 1))) ev_int) ea_nil))) (pa_cons (el_lst ea_nil) pa_nil)) (by rfl)) (by decide))
      (es_cons (es_for PassesOwn.never rfl (ei_range1 rfl (TX.bl "range" (by decide)) (ea_cons (ev_var (pv 3)) ea_nil)) (pg_name (i := 5) sc__law_web.nd rfl (by first | exact Or.inl rfl | exact Or.inr (Or.inl rfl) | exact Or.inr rfl)) (eg_name (by decide)) (es_one (es_for PassesOwn.never rfl (ei_range2 rfl (TX.bl "range" (by decide)) (ea_cons (ev_add (ev_var (pv 5)) ev_int) (ea_cons (ev_var (pv 3)) ea_nil))) (pg_name (i := 6) sc__law_web.nd rfl (by first | exact Or.inl rfl | exact Or.inr (Or.inl rfl) | exact Or.inr rfl)) (eg_name (by decide)) (es_one (es_if (et_cmp (op_eqD hr.units) val_eq (ev_callB G__law_draw (hr.mono (by decide)) hgd rfl (TX.fn "_law_draw" (by decide)) k__law_draw B__law_draw (pv 0) (ea_cons ev_int ea_nil)) ev_int (nomark _)) (es_one (es_expr (ev_append (pv 4) (ev_tup (ea_cons (ev_var (pv 5)) (ea_cons (ev_var (pv 6)) ea_nil)))))) es_nil)))))
      (es_one (es_ret (ev_tup (ea_cons (ev_var (pv 3)) (ea_cons (ev_frz (pv 4)) ea_nil)))))))
abbrev N_is_integer : List Str := ["value"]
theorem sc_is_integer : FnScope N_is_integer ["value"] (defScope st_is_integer) := ⟨rfl, rfl, rfl, by decide +kernel, rfl, by decide +kernel, by decide +kernel⟩
theorem ok_is_integer {a : Addr} {fd : FuncData} (TX : Tx mg f) (F : Fun K "is_integer" "is_integer" st_is_integer a fd) :
    FnG P w K mg base 1 a fd ["value"] (spD K T r_is_integer) :=
  fnD1 (g := g_is_integer) rfl F sc_is_integer rfl rfl fun cdv A outer s H hr hgd => by
    unfold g_is_integer
    exact (es_one (es_ret (ev_and (ev_isi (b := isIB) kit_int rfl (TX.bl "isinstance" (by decide)) (Ev.pe_ty rfl (TX.bl "int" (by decide)) (by decide +kernel)) (ev_var (pv 0))) (ev_one (ev_not (ev_isi (b := isB) kit_bool rfl (TX.bl "isinstance" (by decide)) (Ev.pe_ty rfl (TX.bl "bool" (by decide)) (by decide +kernel)) (ev_var (pv 0))))))))
abbrev N_is_list : List Str := ["value"]
theorem sc_is_list : FnScope N_is_list ["value"] (defScope st_is_list) := ⟨rfl, rfl, rfl, by decide +kernel, rfl, by decide +kernel, by decide +kernel⟩
theorem ok_is_list {a : Addr} {fd : FuncData} (TX : Tx mg f) (F : Fun K "is_list" "is_list" st_is_list a fd) :
    FnG P w K mg base 1 a fd ["value"] (spD K T r_is_list) :=
  fnD1 (g := g_is_list) rfl F sc_is_list rfl rfl fun cdv A outer s H hr hgd => by
    unfold g_is_list
    exact (es_one (es_ret (ev_isiT rfl (TX.bl "isinstance" (by decide)) (Ev.pe_ty rfl (TX.bl "list" (by decide)) (by decide +kernel)) (Ev.pe_ty rfl (TX.bl "tuple" (by decide)) (by decide +kernel)) (ev_var (pv 0)))))
abbrev N_is_count : List Str := ["value"]
theorem sc_is_count : FnScope N_is_count ["value"] (defScope st_is_count) := ⟨rfl, rfl, rfl, by decide +kernel, rfl, by decide +kernel, by decide +kernel⟩
theorem ok_is_count {a : Addr} {fd : FuncData} (TX : Tx mg f) (F : Fun K "is_count" "is_count" st_is_count a fd)
    {fd_is_integer : FuncData} (G_is_integer : FnG P w K mg base 1 (f "is_integer") fd_is_integer ["value"] (spD K T r_is_integer)) (k_is_integer : PySem.W.keepIn K (.ref (f "is_integer")) = true) (B_is_integer : Binds K fd_is_integer ["value"] []) :
    FnG P w K mg base 2 a fd ["value"] (spD K T r_is_count) :=
  fnD1 (g := g_is_count) rfl F sc_is_count rfl rfl fun cdv A outer s H hr hgd => by
    unfold g_is_count
    exact (es_one (es_ret (ev_and (ev_call G_is_integer (hr.mono (by decide)) hgd rfl (TX.fn "is_integer" (by decide)) k_is_integer B_is_integer (ea_cons (ev_var (pv 0)) ea_nil)) (ev_one (ev_cmp op_ge val_ge (ev_var (pv 0)) ev_int (nomark _))))))
abbrev N_is_count_below : List Str := ["value", "bound"]
theorem sc_is_count_below : FnScope N_is_count_below ["value", "bound"] (defScope st_is_count_below) := ⟨rfl, rfl, rfl, by decide +kernel, rfl, by decide +kernel, by decide +kernel⟩
theorem ok_is_count_below {a : Addr} {fd : FuncData} (TX : Tx mg f) (F : Fun K "is_count_below" "is_count_below" st_is_count_below a fd)
    {fd_is_count : FuncData} (G_is_count : FnG P w K mg base 2 (f "is_count") fd_is_count ["value"] (spD K T r_is_count)) (k_is_count : PySem.W.keepIn K (.ref (f "is_count")) = true) (B_is_count : Binds K fd_is_count ["value"] []) :
    FnG P w K mg base 3 a fd ["value", "bound"] (spD K T r_is_count_below) :=
  fnD1 (g := g_is_count_below) rfl F sc_is_count_below rfl rfl fun cdv A outer s H hr hgd => by
    unfold g_is_count_below
    exact (es_one (es_ret (ev_and (ev_call G_is_count (hr.mono (by decide)) hgd rfl (TX.fn "is_count" (by decide)) k_is_count B_is_count (ea_cons (ev_var (pv 0)) ea_nil)) (ev_one (ev_cmp op_lt val_lt (ev_var (pv 0)) (ev_var (pv 1)) (nomark _))))))
abbrev N_is_tie : List Str := ["value", "many"]
theorem sc_is_tie : FnScope N_is_tie ["value", "many"] (defScope st_is_tie) := ⟨rfl, rfl, rfl, by decide +kernel, rfl, by decide +kernel, by decide +kernel⟩
theorem ok_is_tie {a : Addr} {fd : FuncData} (TX : Tx mg f) (F : Fun K "is_tie" "is_tie" st_is_tie a fd)
    {fd_is_count_below : FuncData} (G_is_count_below : FnG P w K mg base 3 (f "is_count_below") fd_is_count_below ["value", "bound"] (spD K T r_is_count_below)) (k_is_count_below : PySem.W.keepIn K (.ref (f "is_count_below")) = true) (B_is_count_below : Binds K fd_is_count_below ["value", "bound"] []) :
    FnG P w K mg base 4 a fd ["value", "many"] (spD K T r_is_tie) :=
  fnD1 (g := g_is_tie) rfl F sc_is_tie rfl rfl fun cdv A outer s H hr hgd => by
    unfold g_is_tie
    exact (es_cons (es_if (PW.pt (ew_or (et_not (et_val (ev_isi (b := isTp) kit_tup rfl (TX.bl "isinstance" (by decide)) (Ev.pe_ty rfl (TX.bl "tuple" (by decide)) (by decide +kernel)) (ev_var (pv 0))))) (ew_or1 (et_cmp (op_neD hr.units) val_ne (ev_blt call_len val_len rfl (TX.bl "len" (by decide)) (by decide +kernel) (ea_cons (ev_var (pv 0)) ea_nil)) ev_int (nomark _))))) (es_one (es_ret ev_bl)) es_nil)
      (es_one (es_ret (ev_and (ev_call G_is_count_below (hr.mono (by decide)) hgd rfl (TX.fn "is_count_below" (by decide)) k_is_count_below B_is_count_below (ea_cons (ev_ix ix_seq val_ix (ev_var (pv 0)) ev_int (fun _ _ => rfl)) (ea_cons (ev_var (pv 1)) ea_nil))) (ev_one (ev_call G_is_count_below (hr.mono (by decide)) hgd rfl (TX.fn "is_count_below" (by decide)) k_is_count_below B_is_count_below (ea_cons (ev_ix ix_seq val_ix (ev_var (pv 0)) ev_int (fun _ _ => rfl)) (ea_cons (ev_var (pv 1)) ea_nil))))))))
abbrev N_is_web : List Str := ["value", "many", "ties", "tie"]
theorem sc_is_web : FnScope N_is_web ["value"] (defScope st_is_web) := ⟨rfl, rfl, rfl, by decide +kernel, rfl, by decide +kernel, by decide +kernel⟩
theorem ok_is_web {a c p : Addr} {fd : FuncData} (TX : Tx mg f) (F : FunC K "is_web" "is_web" st_is_web a fd c) (TB : GxR.TabB base mg c p) (hP : p ∈ T) {t_MOST_COPIES : Tok} (c_MOST_COPIES : mg "MOST_COPIES" = some (.int 6 t_MOST_COPIES))
    {fd_is_integer : FuncData} (G_is_integer : FnG P w K mg base 1 (f "is_integer") fd_is_integer ["value"] (spD K T r_is_integer)) (k_is_integer : PySem.W.keepIn K (.ref (f "is_integer")) = true) (B_is_integer : Binds K fd_is_integer ["value"] [])
    {fd_is_list : FuncData} (G_is_list : FnG P w K mg base 1 (f "is_list") fd_is_list ["value"] (spD K T r_is_list)) (k_is_list : PySem.W.keepIn K (.ref (f "is_list")) = true) (B_is_list : Binds K fd_is_list ["value"] [])
    {fd_is_tie : FuncData} (G_is_tie : FnG P w K mg base 4 (f "is_tie") fd_is_tie ["value", "many"] (spD K T r_is_tie)) (k_is_tie : PySem.W.keepIn K (.ref (f "is_tie")) = true) (B_is_tie : Binds K fd_is_tie ["value", "many"] []) :
    FnG P w K mg base 6 a fd ["value"] (spD K T r_is_web) :=
  fnDC1 (g := g_is_web) rfl F sc_is_web rfl rfl fun A outer s H hr hgd => by
    unfold g_is_web
    exact (es_cons (es_if (PW.pt (ew_or (et_not (et_val (ev_isi (b := isTp) kit_tup rfl (TX.bl "isinstance" (by decide)) (Ev.pe_ty rfl (TX.bl "tuple" (by decide)) (by decide +kernel)) (ev_var (pv 0))))) (ew_or1 (et_cmp (op_neD hr.units) val_ne (ev_blt call_len val_len rfl (TX.bl "len" (by decide)) (by decide +kernel) (ea_cons (ev_var (pv 0)) ea_nil)) ev_int (nomark _))))) (es_one (es_ret ev_bl)) es_nil)
      (es_cons (es_asg (ev_var (pv 0)) (pg_tup rfl (pgs_cons (pg_name (i := 1) sc_is_web.nd rfl (by first | exact Or.inl rfl | exact Or.inr (Or.inl rfl) | exact Or.inr rfl)) (pgs_cons (pg_name (i := 2) sc_is_web.nd rfl (by first | exact Or.inl rfl | exact Or.inr (Or.inl rfl) | exact Or.inr rfl)) pgs_nil))) (eg_tup (egs_cons (eg_name (by decide)) (egs_cons (eg_name (by decide)) egs_nil))))
      (es_cons (es_if (PW.pt (ew_or (et_not (et_val (ev_call G_is_integer (hr.mono (by decide)) hgd rfl (TX.fn "is_integer" (by decide)) k_is_integer B_is_integer (ea_cons (ev_var (pv 1)) ea_nil)))) (ew_or (et_not (et_chain op_le val_le op_le val_le ev_int (ev_var (pv 1)) (ev_glob rfl c_MOST_COPIES))) (ew_or1 (et_not (et_val (ev_call G_is_list (hr.mono (by decide)) hgd rfl (TX.fn "is_list" (by decide)) k_is_list B_is_list (ea_cons (ev_var (pv 2)) ea_nil)))))))) (es_one (es_ret ev_bl)) es_nil)
      (es_one (es_ret (ev_and (ev_all (k := 4) (ix := 3) hP (hr.mono (by decide)) rfl (TX.bl "all" (by decide)) TB rfl (gscp_by (by change gscpC N_is_web (defScope st_is_web) _ _ _ = true; decide +kernel)) (ei_seq (ev_var (pv 2))) (fun _ _ _ _ _ => pg_name (i := 3) sc_is_web.nd rfl (by first | exact Or.inl rfl | exact Or.inr (Or.inl rfl) | exact Or.inr rfl)) (fun _ _ _ _ _ hr => (ev_and (ev_call G_is_tie (hr.mono (by decide)) hgd rfl (TX.fn "is_tie" (by decide)) k_is_tie B_is_tie (ea_cons (ev_var (pv 3)) (ea_cons (ev_var (pv 1)) ea_nil))) (ev_one (ev_cmp op_lt val_lt (ev_ix ix_seq val_ix (ev_var (pv 3)) ev_int (fun _ _ => rfl)) (ev_ix ix_seq val_ix (ev_var (pv 3)) ev_int (fun _ _ => rfl)) (nomark _))))) (fun _ => rfl)) (ev_one (ev_cmp (op_eqD hr.units) val_eq (ev_lenSet rfl hr.u66 rfl (TX.bl "len" (by decide)) rfl (TX.bl "set" (by decide)) (ev_var (pv 2))) (ev_blt call_len val_len rfl (TX.bl "len" (by decide)) (by decide +kernel) (ea_cons (ev_var (pv 2)) ea_nil)) (nomark _)))))))))
abbrev N_check_web : List Str := ["value"]
theorem sc_check_web : FnScope N_check_web ["value"] (defScope st_check_web) := ⟨rfl, rfl, rfl, by decide +kernel, rfl, by decide +kernel, by decide +kernel⟩
theorem ok_check_web {a : Addr} {fd : FuncData} (TX : Tx mg f) (F : Fun K "check_web" "check_web" st_check_web a fd)
    {fd_is_web : FuncData} (G_is_web : FnG P w K mg base 6 (f "is_web") fd_is_web ["value"] (spD K T r_is_web)) (k_is_web : PySem.W.keepIn K (.ref (f "is_web")) = true) (B_is_web : Binds K fd_is_web ["value"] []) :
    FnG P w K mg base 7 a fd ["value"] (spD K T r_check_web) :=
  fnD1 (g := g_check_web) rfl F sc_check_web rfl rfl fun cdv A outer s H hr hgd => by
    unfold g_check_web
    exact (es_one (es_if (et_not (et_val (ev_call G_is_web (hr.mono (by decide)) hgd rfl (TX.fn "is_web" (by decide)) k_is_web B_is_web (ea_cons (ev_var (pv 0)) ea_nil)))) (es_one es_never) es_nil))
abbrev N_copies_of : List Str := ["web"]
theorem sc_copies_of : FnScope N_copies_of ["web"] (defScope st_copies_of) := ⟨rfl, rfl, rfl, by decide +kernel, rfl, by decide +kernel, by decide +kernel⟩
theorem ok_copies_of {a : Addr} {fd : FuncData} (TX : Tx mg f) (F : Fun K "copies_of" "copies_of" st_copies_of a fd) :
    FnG P w K mg base 1 a fd ["web"] (spD K T r_copies_of) :=
  fnD1 (g := g_copies_of) rfl F sc_copies_of rfl rfl fun cdv A outer s H hr hgd => by
    unfold g_copies_of
    exact (es_one (es_ret (ev_listRg rfl rfl (TX.bl "list" (by decide)) rfl (TX.bl "range" (by decide)) (ev_ix ix_seq val_ix (ev_var (pv 0)) ev_int (fun _ _ => rfl)))))
abbrev N_are_tied : List Str := ["web", "one", "other"]
theorem sc_are_tied : FnScope N_are_tied ["web", "one", "other"] (defScope st_are_tied) := ⟨rfl, rfl, rfl, by decide +kernel, rfl, by decide +kernel, by decide +kernel⟩
theorem ok_are_tied {a : Addr} {fd : FuncData} (TX : Tx mg f) (F : Fun K "are_tied" "are_tied" st_are_tied a fd) :
    FnG P w K mg base 1 a fd ["web", "one", "other"] (spD K T r_are_tied) :=
  fnD1 (g := g_are_tied) rfl F sc_are_tied rfl rfl fun cdv A outer s H hr hgd => by
    unfold g_are_tied
    exact (es_one (es_ret (ev_cmp (op_inD hr.u66') val_in (ev_tup (ea_cons (ev_blt (call_min2 rfl) val_min2 rfl (TX.bl "min" (by decide)) (by decide +kernel) (ea_cons (ev_var (pv 1)) (ea_cons (ev_var (pv 2)) ea_nil))) (ea_cons (ev_blt (call_max2 rfl) val_max2 rfl (TX.bl "max" (by decide)) (by decide +kernel) (ea_cons (ev_var (pv 1)) (ea_cons (ev_var (pv 2)) ea_nil))) ea_nil))) (ev_ix ix_seq val_ix (ev_var (pv 0)) ev_int (fun _ _ => rfl)) (by rfl))))
abbrev N_neighbours_of : List Str := ["web", "copy", "other"]
theorem sc_neighbours_of : FnScope N_neighbours_of ["web", "copy"] (defScope st_neighbours_of) := ⟨rfl, rfl, rfl, by decide +kernel, rfl, by decide +kernel, by decide +kernel⟩
theorem ok_neighbours_of {a : Addr} {fd : FuncData} (TX : Tx mg f) (F : Fun K "neighbours_of" "neighbours_of" st_neighbours_of a fd)
    {fd_copies_of : FuncData} (G_copies_of : FnG P w K mg base 1 (f "copies_of") fd_copies_of ["web"] (spD K T r_copies_of)) (k_copies_of : PySem.W.keepIn K (.ref (f "copies_of")) = true) (B_copies_of : Binds K fd_copies_of ["web"] [])
    {fd_are_tied : FuncData} (G_are_tied : FnG P w K mg base 1 (f "are_tied") fd_are_tied ["web", "one", "other"] (spD K T r_are_tied)) (k_are_tied : PySem.W.keepIn K (.ref (f "are_tied")) = true) (B_are_tied : Binds K fd_are_tied ["web", "one", "other"] []) :
    FnG P w K mg base 2 a fd ["web", "copy"] (spD K T r_neighbours_of) :=
  fnD1 (g := g_neighbours_of) rfl F sc_neighbours_of rfl rfl fun cdv A outer s H hr hgd => by
    unfold g_neighbours_of
    exact (es_one (es_ret (ev_lc (own := [("other", 2)]) rfl sc_neighbours_of.nd (ei_seq (ev_call G_copies_of (hr.mono (by decide)) hgd rfl (TX.fn "copies_of" (by decide)) k_copies_of B_copies_of (ea_cons (ev_var (pv 0)) ea_nil))) (blkOk_by (by first | (change blkC N_neighbours_of (defScope st_neighbours_of) _ _ = true; decide +kernel) | decide +kernel)) (fun _ _ _ _ _ => by exact (pg_name (i := 2) sc_neighbours_of.nd rfl (by first | exact Or.inl rfl | exact Or.inr (Or.inl rfl) | exact Or.inr rfl))) (egb_name (by decide)) (fun _ _ _ _ _ => by exact (ets_one (et_val (ev_call G_are_tied (hr.mono (by decide)) hgd rfl (TX.fn "are_tied" (by decide)) k_are_tied B_are_tied (ea_cons (ev_var (pv 0)) (ea_cons (ev_var (pv 1)) (ea_cons (ev_var (pv 2)) ea_nil))))))) (fun _ _ _ _ _ => by exact (ev_var (pv 2))))))
abbrev N_first_ring : List Str := ["web", "paths", "copy", "path"]
theorem sc_first_ring : FnScope N_first_ring ["web"] (defScope st_first_ring) := ⟨rfl, rfl, rfl, by decide +kernel, rfl, by decide +kernel, by decide +kernel⟩
theorem ok_first_ring {a : Addr} {fd : FuncData} (TX : Tx mg f) (F : Fun K "first_ring" "first_ring" st_first_ring a fd)
    {fd_copies_of : FuncData} (G_copies_of : FnG P w K mg base 1 (f "copies_of") fd_copies_of ["web"] (spD K T r_copies_of)) (k_copies_of : PySem.W.keepIn K (.ref (f "copies_of")) = true) (B_copies_of : Binds K fd_copies_of ["web"] [])
    {fd_are_tied : FuncData} (G_are_tied : FnG P w K mg base 1 (f "are_tied") fd_are_tied ["web", "one", "other"] (spD K T r_are_tied)) (k_are_tied : PySem.W.keepIn K (.ref (f "are_tied")) = true) (B_are_tied : Binds K fd_are_tied ["web", "one", "other"] [])
    {fd_neighbours_of : FuncData} (G_neighbours_of : FnG P w K mg base 2 (f "neighbours_of") fd_neighbours_of ["web", "copy"] (spD K T r_neighbours_of)) (k_neighbours_of : PySem.W.keepIn K (.ref (f "neighbours_of")) = true) (B_neighbours_of : Binds K fd_neighbours_of ["web", "copy"] []) :
    FnG P w K mg base 3 a fd ["web"] (spD K T r_first_ring) :=
  fnD1 (g := g_first_ring) rfl F sc_first_ring rfl rfl fun cdv A outer s H hr hgd => by
    unfold g_first_ring
    exact (es_cons (es_setE (i := 1) (ps_setLc (own := [("copy", 2)]) rfl sc_first_ring.nd rfl (by first | rfl | decide +kernel) (sw_true rfl (by first | rfl | decide +kernel) rfl (by decide +kernel)) (ei_seq (ev_call G_copies_of (hr.mono (by decide)) hgd rfl (TX.fn "copies_of" (by decide)) k_copies_of B_copies_of (ea_cons (ev_var (pv 0)) ea_nil))) (blkOk_by (by first | (change blkC N_first_ring (defScope st_first_ring) _ _ = true; decide +kernel) | decide +kernel)) (fun _ _ _ _ _ => by exact (pg_name (i := 2) sc_first_ring.nd rfl (by first | exact Or.inl rfl | exact Or.inr (Or.inl rfl) | exact Or.inr rfl))) (fun _ _ _ _ _ => by exact ets_nil) (fun _ _ _ _ _ => by exact (ev_lst (ea_cons (ev_var (pv 2)) ea_nil)))) (fun _ _ _ w => tLc_of (egb_name (by decide)) w) (by decide))
      (es_cons (es_while (n := 4096) PassesOwn.never (et_truth (ev_var (pv 1)) (by intro _; rfl)) (es_cons (es_for PassesOwn.never rfl (ei_seq (ev_var (pv 1))) (pg_name (i := 3) sc_first_ring.nd rfl (by first | exact Or.inl rfl | exact Or.inr (Or.inl rfl) | exact Or.inr rfl)) (eg_name (by decide)) (es_one (es_if (PW.pt (ew_and (et_cmp op_gt val_gt (ev_blt call_len val_len rfl (TX.bl "len" (by decide)) (by decide +kernel) (ea_cons (ev_var (pv 3)) ea_nil)) ev_int (nomark _)) (ew_and1 (et_val (ev_call G_are_tied (hr.mono (by decide)) hgd rfl (TX.fn "are_tied" (by decide)) k_are_tied B_are_tied (ea_cons (ev_var (pv 0)) (ea_cons (ev_ix ix_seq val_ix (ev_var (pv 3)) ev_int (fun _ _ => rfl)) (ea_cons (ev_ix ix_seq val_ix (ev_var (pv 3)) (ev_neg ev_int) (fun _ _ => rfl)) ea_nil)))))))) (es_one (es_ret (ev_var (pv 3)))) es_nil)))
      (es_one (es_setE (i := 1) (ps_setLc2 (own := [("path", 3), ("copy", 2)]) (vs1 := [2]) rfl sc_first_ring.nd rfl (by first | rfl | decide +kernel) (sw_true rfl (by first | rfl | decide +kernel) rfl (by decide +kernel)) (ei_seq (ev_var (pv 1))) (blkOk_by (by first | (change blkC N_first_ring (defScope st_first_ring) _ _ = true; decide +kernel) | decide +kernel)) (by decide) (fun _ _ _ _ _ => by exact (pg_name (i := 3) sc_first_ring.nd rfl (by first | exact Or.inl rfl | exact Or.inr (Or.inl rfl) | exact Or.inr rfl))) (fun _ _ _ _ _ => by exact ets_nil) (fun _ _ _ _ _ => by exact (ei_seq (ev_call G_neighbours_of (hr.mono (by decide)) hgd rfl (TX.fn "neighbours_of" (by decide)) k_neighbours_of B_neighbours_of (ea_cons (ev_var (pv 0)) (ea_cons (ev_ix ix_seq val_ix (ev_var (pv 3)) (ev_neg ev_int) (fun _ _ => rfl)) ea_nil))))) (fun _ _ _ _ _ => by exact (pg_name (i := 2) sc_first_ring.nd rfl (by first | exact Or.inl rfl | exact Or.inr (Or.inl rfl) | exact Or.inr rfl))) (fun _ _ _ _ _ => by exact (ets_one (et_cmp (Ev.op_notInD hr.u66') val_notIn (ev_var (pv 2)) (ev_var (pv 3)) (by rfl)))) (fun _ _ _ _ _ => by exact (ev_add (ev_var (pv 3)) (ev_lst (ea_cons (ev_var (pv 2)) ea_nil))))) (fun _ _ _ w => tLc2_of (egb_name (by decide)) (egb_name (by decide)) (by decide) w) (by decide)))))
      (es_one (es_ret ev_non))))
abbrev N_ring : List Str := ["web"]
theorem sc_ring : FnScope N_ring ["web"] (defScope st_ring) := ⟨rfl, rfl, rfl, by decide +kernel, rfl, by decide +kernel, by decide +kernel⟩
theorem ok_ring {a : Addr} {fd : FuncData} (TX : Tx mg f) (F : Fun K "ring" "ring" st_ring a fd)
    {fd_check_web : FuncData} (G_check_web : FnG P w K mg base 7 (f "check_web") fd_check_web ["value"] (spD K T r_check_web)) (k_check_web : PySem.W.keepIn K (.ref (f "check_web")) = true) (B_check_web : Binds K fd_check_web ["value"] [])
    {fd_first_ring : FuncData} (G_first_ring : FnG P w K mg base 3 (f "first_ring") fd_first_ring ["web"] (spD K T r_first_ring)) (k_first_ring : PySem.W.keepIn K (.ref (f "first_ring")) = true) (B_first_ring : Binds K fd_first_ring ["web"] []) :
    FnG P w K mg base 8 a fd ["web"] (spD K T r_ring) :=
  fnD1 (g := g_ring) rfl F sc_ring rfl rfl fun cdv A outer s H hr hgd => by
    unfold g_ring
    exact (es_cons (es_expr (ev_call G_check_web (hr.mono (by decide)) hgd rfl (TX.fn "check_web" (by decide)) k_check_web B_check_web (ea_cons (ev_var (pv 0)) ea_nil)))
      (es_one (es_ret (ev_call G_first_ring (hr.mono (by decide)) hgd rfl (TX.fn "first_ring" (by decide)) k_first_ring B_first_ring (ea_cons (ev_var (pv 0)) ea_nil)))))
abbrev N__law_near : List Str := ["_law_ties", "_law_copy", "_law_low", "_law_high"]
theorem sc__law_near : FnScope N__law_near ["_law_ties", "_law_copy"] (defScope st__law_near) := ⟨rfl, rfl, rfl, by decide +kernel, rfl, by decide +kernel, by decide +kernel⟩
theorem ok__law_near {a : Addr} {fd : FuncData} (TX : Tx mg f) (F : Fun K "_law_near" "_law_near" st__law_near a fd) :
    FnG P w K mg base 1 a fd ["_law_ties", "_law_copy"] (spD K T r__law_near) :=
  fnD1 (g := g__law_near) rfl F sc__law_near rfl rfl fun cdv A outer s H hr hgd => by
    unfold g__law_near
    exact (es_one (es_ret (ev_blt (cr_sortQ hr.u66) val_sort rfl (TX.bl "sorted" (by decide)) (by decide +kernel) (ea_cons (ev_add (ev_lc (own := [("_law_low", 2), ("_law_high", 3)]) rfl sc__law_near.nd (ei_seq (ev_var (pv 0))) (blkOk_by (by first | (change blkC N__law_near (defScope st__law_near) _ _ = true; decide +kernel) | decide +kernel)) (fun _ _ _ _ _ => by exact (pg_tup rfl (pgs_cons (pg_name (i := 2) sc__law_near.nd rfl (by first | exact Or.inl rfl | exact Or.inr (Or.inl rfl) | exact Or.inr rfl)) (pgs_cons (pg_name (i := 3) sc__law_near.nd rfl (by first | exact Or.inl rfl | exact Or.inr (Or.inl rfl) | exact Or.inr rfl)) pgs_nil)))) (egb_tup (egbs_cons (egb_name (by decide)) (egbs_cons (egb_name (by decide)) egbs_nil))) (fun _ _ _ _ _ => by exact (ets_one (et_cmp (op_eqD hr.units) val_eq (ev_var (pv 2)) (ev_var (pv 1)) (nomark _)))) (fun _ _ _ _ _ => by exact (ev_var (pv 3)))) (ev_lc (own := [("_law_low", 2), ("_law_high", 3)]) rfl sc__law_near.nd (ei_seq (ev_var (pv 0))) (blkOk_by (by first | (change blkC N__law_near (defScope st__law_near) _ _ = true; decide +kernel) | decide +kernel)) (fun _ _ _ _ _ => by exact (pg_tup rfl (pgs_cons (pg_name (i := 2) sc__law_near.nd rfl (by first | exact Or.inl rfl | exact Or.inr (Or.inl rfl) | exact Or.inr rfl)) (pgs_cons (pg_name (i := 3) sc__law_near.nd rfl (by first | exact Or.inl rfl | exact Or.inr (Or.inl rfl) | exact Or.inr rfl)) pgs_nil)))) (egb_tup (egbs_cons (egb_name (by decide)) (egbs_cons (egb_name (by decide)) egbs_nil))) (fun _ _ _ _ _ => by exact (ets_one (et_cmp (op_eqD hr.units) val_eq (ev_var (pv 3)) (ev_var (pv 1)) (nomark _)))) (fun _ _ _ _ _ => by exact (ev_var (pv 2))))) ea_nil))))
abbrev N__law_is_ring : List Str := ["_law_ties", "_law_value", "_law_place", "_law_copy"]
theorem sc__law_is_ring : FnScope N__law_is_ring ["_law_ties", "_law_value"] (defScope st__law_is_ring) := ⟨rfl, rfl, rfl, by decide +kernel, rfl, by decide +kernel, by decide +kernel⟩
theorem ok__law_is_ring {a : Addr} {fd : FuncData} (TX : Tx mg f) (F : Fun K "_law_is_ring" "_law_is_ring" st__law_is_ring a fd)
    {fd__law_near : FuncData} (G__law_near : FnG P w K mg base 1 (f "_law_near") fd__law_near ["_law_ties", "_law_copy"] (spD K T r__law_near)) (k__law_near : PySem.W.keepIn K (.ref (f "_law_near")) = true) (B__law_near : Binds K fd__law_near ["_law_ties", "_law_copy"] []) :
    FnG P w K mg base 2 a fd ["_law_ties", "_law_value"] (spD K T r__law_is_ring) :=
  fnD1 (g := g__law_is_ring) rfl F sc__law_is_ring rfl rfl fun cdv A outer s H hr hgd => by
    unfold g__law_is_ring
    exact (es_cons (es_if (PW.pt (ew_or (et_not (et_val (ev_isi (b := isLs) kit_list rfl (TX.bl "isinstance" (by decide)) (Ev.pe_ty rfl (TX.bl "list" (by decide)) (by decide +kernel)) (ev_var (pv 1))))) (ew_or (et_cmp op_lt val_lt (ev_blt call_len val_len rfl (TX.bl "len" (by decide)) (by decide +kernel) (ea_cons (ev_var (pv 1)) ea_nil)) ev_int (nomark _)) (ew_or1 (et_cmp (op_neD hr.units) val_ne (ev_lenSet rfl hr.u66 rfl (TX.bl "len" (by decide)) rfl (TX.bl "set" (by decide)) (ev_var (pv 1))) (ev_blt call_len val_len rfl (TX.bl "len" (by decide)) (by decide +kernel) (ea_cons (ev_var (pv 1)) ea_nil)) (nomark _)))))) (es_one (es_ret ev_bl)) es_nil)
      (es_cons (es_for PassesOwn.never rfl (ei_enum rfl (TX.bl "enumerate" (by decide)) (ev_var (pv 1))) (pg_tup rfl (pgs_cons (pg_name (i := 2) sc__law_is_ring.nd rfl (by first | exact Or.inl rfl | exact Or.inr (Or.inl rfl) | exact Or.inr rfl)) (pgs_cons (pg_name (i := 3) sc__law_is_ring.nd rfl (by first | exact Or.inl rfl | exact Or.inr (Or.inl rfl) | exact Or.inr rfl)) pgs_nil))) (eg_tup (egs_cons (eg_name (by decide)) (egs_cons (eg_name (by decide)) egs_nil))) (es_one (es_if (et_cmp (Ev.op_notInD hr.u66') val_notIn (ev_ix ix_seq val_ix (ev_var (pv 1)) (ev_sub (ev_var (pv 2)) ev_int) (fun _ _ => rfl)) (ev_call G__law_near (hr.mono (by decide)) hgd rfl (TX.fn "_law_near" (by decide)) k__law_near B__law_near (ea_cons (ev_var (pv 0)) (ea_cons (ev_var (pv 3)) ea_nil))) (by rfl)) (es_one (es_ret ev_bl)) es_nil)))
      (es_one (es_ret ev_bl))))
abbrev N_web_as_told : List Str := ["web"]
theorem sc_web_as_told : FnScope N_web_as_told ["web"] (defScope st_web_as_told) := ⟨rfl, rfl, rfl, by decide +kernel, rfl, by decide +kernel, by decide +kernel⟩
theorem ok_web_as_told {a : Addr} {fd : FuncData} (TX : Tx mg f) (F : Fun K "web_as_told" "web_as_told" st_web_as_told a fd) :
    FnG P w K mg base 1 a fd ["web"] (spD K T r_web_as_told) :=
  fnD1 (g := g_web_as_told) rfl F sc_web_as_told rfl rfl fun cdv A outer s H hr hgd => by
    unfold g_web_as_told
    exact (es_one (es_ret (ev_tup (ea_cons (ev_ix ix_seq val_ix (ev_var (pv 0)) ev_int (fun _ _ => rfl)) (ea_cons (ev_blt (cr_sortQ hr.u66) val_sort rfl (TX.bl "sorted" (by decide)) (by decide +kernel) (ea_cons (ev_ix ix_seq val_ix (ev_var (pv 0)) ev_int (fun _ _ => rfl)) ea_nil)) ea_nil)))))
theorem okW_web_as_told {a : Addr} {fd : FuncData} (TX : Tx mg f) (F : Fun K "web_as_told" "web_as_told" st_web_as_told a fd) :
    FnG P w K mg base 1 a fd ["web"] (spW K T rW_web_as_told) :=
  fnW1 (g := gW_web_as_told) rfl F sc_web_as_told rfl rfl fun cdv A outer s H hr hgd => by
    unfold gW_web_as_told
    exact (esw_one (esw_ret (ew_pair (ev_ix ix_seq val_ix (ev_var (pv 0)) ev_int (fun _ _ => rfl)) (el_sorted hr.u66 rfl (TX.bl "sorted" (by decide)) (ev_ix ix_seq val_ix (ev_var (pv 0)) ev_int (fun _ _ => rfl))))))
abbrev N_told_web : List Str := ["web"]
theorem sc_told_web : FnScope N_told_web ["web"] (defScope st_told_web) := ⟨rfl, rfl, rfl, by decide +kernel, rfl, by decide +kernel, by decide +kernel⟩
theorem ok_told_web {a : Addr} {fd : FuncData} (TX : Tx mg f) (F : Fun K "told_web" "told_web" st_told_web a fd)
    {fd_check_web : FuncData} (G_check_web : FnG P w K mg base 7 (f "check_web") fd_check_web ["value"] (spD K T r_check_web)) (k_check_web : PySem.W.keepIn K (.ref (f "check_web")) = true) (B_check_web : Binds K fd_check_web ["value"] [])
    {fd_web_as_told : FuncData} (G_web_as_told : FnG P w K mg base 1 (f "web_as_told") fd_web_as_told ["web"] (spD K T r_web_as_told)) (k_web_as_told : PySem.W.keepIn K (.ref (f "web_as_told")) = true) (B_web_as_told : Binds K fd_web_as_told ["web"] []) :
    FnG P w K mg base 8 a fd ["web"] (spD K T r_told_web) :=
  fnD1 (g := g_told_web) rfl F sc_told_web rfl rfl fun cdv A outer s H hr hgd => by
    unfold g_told_web
    exact (es_cons (es_expr (ev_call G_check_web (hr.mono (by decide)) hgd rfl (TX.fn "check_web" (by decide)) k_check_web B_check_web (ea_cons (ev_var (pv 0)) ea_nil)))
      (es_one (es_ret (ev_call G_web_as_told (hr.mono (by decide)) hgd rfl (TX.fn "web_as_told" (by decide)) k_web_as_told B_web_as_told (ea_cons (ev_var (pv 0)) ea_nil)))))
theorem okW_told_web {a : Addr} {fd : FuncData} (TX : Tx mg f) (F : Fun K "told_web" "told_web" st_told_web a fd)
    {fd_check_web : FuncData} (G_check_web : FnG P w K mg base 7 (f "check_web") fd_check_web ["value"] (spD K T r_check_web)) (k_check_web : PySem.W.keepIn K (.ref (f "check_web")) = true) (B_check_web : Binds K fd_check_web ["value"] [])
    {fd_web_as_told : FuncData} (GW_web_as_told : FnG P w K mg base 1 (f "web_as_told") fd_web_as_told ["web"] (spW K T rW_web_as_told)) (k_web_as_told : PySem.W.keepIn K (.ref (f "web_as_told")) = true) (B_web_as_told : Binds K fd_web_as_told ["web"] []) :
    FnG P w K mg base 8 a fd ["web"] (spW K T rW_told_web) :=
  fnW1 (g := gW_told_web) rfl F sc_told_web rfl rfl fun cdv A outer s H hr hgd => by
    unfold gW_told_web
    exact (esw_cons (es_expr (ev_call G_check_web (hr.mono (by decide)) hgd rfl (TX.fn "check_web" (by decide)) k_check_web B_check_web (ea_cons (ev_var (pv 0)) ea_nil))) (esw_one (esw_ret (ew_call GW_web_as_told (hr.mono (by decide)) hgd rfl (TX.fn "web_as_told" (by decide)) k_web_as_told B_web_as_told (ea_cons (ev_var (pv 0)) ea_nil)))))
abbrev N_neighbours : List Str := ["web", "copy"]
theorem sc_neighbours : FnScope N_neighbours ["web", "copy"] (defScope st_neighbours) := ⟨rfl, rfl, rfl, by decide +kernel, rfl, by decide +kernel, by decide +kernel⟩
theorem ok_neighbours {a : Addr} {fd : FuncData} (TX : Tx mg f) (F : Fun K "neighbours" "neighbours" st_neighbours a fd)
    {fd_check_web : FuncData} (G_check_web : FnG P w K mg base 7 (f "check_web") fd_check_web ["value"] (spD K T r_check_web)) (k_check_web : PySem.W.keepIn K (.ref (f "check_web")) = true) (B_check_web : Binds K fd_check_web ["value"] [])
    {fd_is_count_below : FuncData} (G_is_count_below : FnG P w K mg base 3 (f "is_count_below") fd_is_count_below ["value", "bound"] (spD K T r_is_count_below)) (k_is_count_below : PySem.W.keepIn K (.ref (f "is_count_below")) = true) (B_is_count_below : Binds K fd_is_count_below ["value", "bound"] [])
    {fd_neighbours_of : FuncData} (G_neighbours_of : FnG P w K mg base 2 (f "neighbours_of") fd_neighbours_of ["web", "copy"] (spD K T r_neighbours_of)) (k_neighbours_of : PySem.W.keepIn K (.ref (f "neighbours_of")) = true) (B_neighbours_of : Binds K fd_neighbours_of ["web", "copy"] []) :
    FnG P w K mg base 8 a fd ["web", "copy"] (spD K T r_neighbours) :=
  fnD1 (g := g_neighbours) rfl F sc_neighbours rfl rfl fun cdv A outer s H hr hgd => by
    unfold g_neighbours
    exact (es_cons (es_expr (ev_call G_check_web (hr.mono (by decide)) hgd rfl (TX.fn "check_web" (by decide)) k_check_web B_check_web (ea_cons (ev_var (pv 0)) ea_nil)))
      (es_cons (es_if (et_not (et_val (ev_call G_is_count_below (hr.mono (by decide)) hgd rfl (TX.fn "is_count_below" (by decide)) k_is_count_below B_is_count_below (ea_cons (ev_var (pv 1)) (ea_cons (ev_ix ix_seq val_ix (ev_var (pv 0)) ev_int (fun _ _ => rfl)) ea_nil))))) (es_one es_never) es_nil)
      (es_one (es_ret (ev_call G_neighbours_of (hr.mono (by decide)) hgd rfl (TX.fn "neighbours_of" (by decide)) k_neighbours_of B_neighbours_of (ea_cons (ev_var (pv 0)) (ea_cons (ev_var (pv 1)) ea_nil)))))))
abbrev N_is_tied_to_some : List Str := ["web", "copy", "others", "other"]
theorem sc_is_tied_to_some : FnScope N_is_tied_to_some ["web", "copy", "others"] (defScope st_is_tied_to_some) := ⟨rfl, rfl, rfl, by decide +kernel, rfl, by decide +kernel, by decide +kernel⟩
theorem ok_is_tied_to_some {a c p : Addr} {fd : FuncData} (TX : Tx mg f) (F : FunC K "is_tied_to_some" "is_tied_to_some" st_is_tied_to_some a fd c) (TB : GxR.TabB base mg c p) (hP : p ∈ T)
    {fd_are_tied : FuncData} (G_are_tied : FnG P w K mg base 1 (f "are_tied") fd_are_tied ["web", "one", "other"] (spD K T r_are_tied)) (k_are_tied : PySem.W.keepIn K (.ref (f "are_tied")) = true) (B_are_tied : Binds K fd_are_tied ["web", "one", "other"] []) :
    FnG P w K mg base 3 a fd ["web", "copy", "others"] (spD K T r_is_tied_to_some) :=
  fnDC1 (g := g_is_tied_to_some) rfl F sc_is_tied_to_some rfl rfl fun A outer s H hr hgd => by
    unfold g_is_tied_to_some
    exact (es_one (es_ret (ev_any (k := 1) (ix := 3) hP (hr.mono (by decide)) rfl (TX.bl "any" (by decide)) TB rfl (gscp_by (by change gscpC N_is_tied_to_some (defScope st_is_tied_to_some) _ _ _ = true; decide +kernel)) (ei_seq (ev_var (pv 2))) (fun _ _ _ _ _ => pg_name (i := 3) sc_is_tied_to_some.nd rfl (by first | exact Or.inl rfl | exact Or.inr (Or.inl rfl) | exact Or.inr rfl)) (fun _ _ _ _ _ hr => (ev_call G_are_tied (hr.mono (by decide)) hgd rfl (TX.fn "are_tied" (by decide)) k_are_tied B_are_tied (ea_cons (ev_var (pv 0)) (ea_cons (ev_var (pv 1)) (ea_cons (ev_var (pv 3)) ea_nil))))) (fun _ => rfl))))
abbrev N_is_joined : List Str := ["web", "reached", "places", "copy"]
theorem sc_is_joined : FnScope N_is_joined ["web"] (defScope st_is_joined) := ⟨rfl, rfl, rfl, by decide +kernel, rfl, by decide +kernel, by decide +kernel⟩
theorem ok_is_joined {a : Addr} {fd : FuncData} (TX : Tx mg f) (F : Fun K "is_joined" "is_joined" st_is_joined a fd)
    {fd_check_web : FuncData} (G_check_web : FnG P w K mg base 7 (f "check_web") fd_check_web ["value"] (spD K T r_check_web)) (k_check_web : PySem.W.keepIn K (.ref (f "check_web")) = true) (B_check_web : Binds K fd_check_web ["value"] [])
    {fd_copies_of : FuncData} (G_copies_of : FnG P w K mg base 1 (f "copies_of") fd_copies_of ["web"] (spD K T r_copies_of)) (k_copies_of : PySem.W.keepIn K (.ref (f "copies_of")) = true) (B_copies_of : Binds K fd_copies_of ["web"] [])
    {fd_is_tied_to_some : FuncData} (G_is_tied_to_some : FnG P w K mg base 3 (f "is_tied_to_some") fd_is_tied_to_some ["web", "copy", "others"] (spD K T r_is_tied_to_some)) (k_is_tied_to_some : PySem.W.keepIn K (.ref (f "is_tied_to_some")) = true) (B_is_tied_to_some : Binds K fd_is_tied_to_some ["web", "copy", "others"] []) :
    FnG P w K mg base 8 a fd ["web"] (spD K T r_is_joined) :=
  fnD1 (g := g_is_joined) rfl F sc_is_joined rfl rfl fun cdv A outer s H hr hgd => by
    unfold g_is_joined
    exact (es_cons (es_expr (ev_call G_check_web (hr.mono (by decide)) hgd rfl (TX.fn "check_web" (by decide)) k_check_web B_check_web (ea_cons (ev_var (pv 0)) ea_nil)))
      (es_cons (es_asg (ev_tup (ea_cons (ev_lst (ea_cons ev_int ea_nil)) (ea_cons (ev_lst (ea_cons ev_int ea_nil)) ea_nil))) (pg_tup rfl (pgs_cons (pg_name (i := 1) sc_is_joined.nd rfl (by first | exact Or.inl rfl | exact Or.inr (Or.inl rfl) | exact Or.inr rfl)) (pgs_cons (pg_name (i := 2) sc_is_joined.nd rfl (by first | exact Or.inl rfl | exact Or.inr (Or.inl rfl) | exact Or.inr rfl)) pgs_nil))) (eg_tup (egs_cons (eg_name (by decide)) (egs_cons (eg_name (by decide)) egs_nil))))
      (es_cons (es_while (n := 4096) PassesOwn.never (et_truth (ev_var (pv 2)) (by intro _; rfl)) (es_cons (es_asg (ev_lc (own := [("copy", 3)]) rfl sc_is_joined.nd (ei_seq (ev_call G_copies_of (hr.mono (by decide)) hgd rfl (TX.fn "copies_of" (by decide)) k_copies_of B_copies_of (ea_cons (ev_var (pv 0)) ea_nil))) (blkOk_by (by first | (change blkC N_is_joined (defScope st_is_joined) _ _ = true; decide +kernel) | decide +kernel)) (fun _ _ _ _ _ => by exact (pg_name (i := 3) sc_is_joined.nd rfl (by first | exact Or.inl rfl | exact Or.inr (Or.inl rfl) | exact Or.inr rfl))) (egb_name (by decide)) (fun _ _ _ _ _ => by exact (ets_one (PW.pt (ew_and (et_cmp (Ev.op_notInD hr.u66') val_notIn (ev_var (pv 3)) (ev_var (pv 1)) (by rfl)) (ew_and1 (et_val (ev_call G_is_tied_to_some (hr.mono (by decide)) hgd rfl (TX.fn "is_tied_to_some" (by decide)) k_is_tied_to_some B_is_tied_to_some (ea_cons (ev_var (pv 0)) (ea_cons (ev_var (pv 3)) (ea_cons (ev_var (pv 2)) ea_nil)))))))))) (fun _ _ _ _ _ => by exact (ev_var (pv 3)))) (pg_name (i := 2) sc_is_joined.nd rfl (by first | exact Or.inl rfl | exact Or.inr (Or.inl rfl) | exact Or.inr rfl)) (eg_name (by decide)))
      (es_one (es_asg (ev_add (ev_var (pv 1)) (ev_var (pv 2))) (pg_name (i := 1) sc_is_joined.nd rfl (by first | exact Or.inl rfl | exact Or.inr (Or.inl rfl) | exact Or.inr rfl)) (eg_name (by decide))))))
      (es_one (es_ret (ev_cmp (op_eqD hr.units) val_eq (ev_blt call_len val_len rfl (TX.bl "len" (by decide)) (by decide +kernel) (ea_cons (ev_var (pv 1)) ea_nil)) (ev_ix ix_seq val_ix (ev_var (pv 0)) ev_int (fun _ _ => rfl)) (nomark _)))))))
abbrev N_has_ring : List Str := ["web"]
theorem sc_has_ring : FnScope N_has_ring ["web"] (defScope st_has_ring) := ⟨rfl, rfl, rfl, by decide +kernel, rfl, by decide +kernel, by decide +kernel⟩
theorem ok_has_ring {a : Addr} {fd : FuncData} (TX : Tx mg f) (F : Fun K "has_ring" "has_ring" st_has_ring a fd)
    {fd_check_web : FuncData} (G_check_web : FnG P w K mg base 7 (f "check_web") fd_check_web ["value"] (spD K T r_check_web)) (k_check_web : PySem.W.keepIn K (.ref (f "check_web")) = true) (B_check_web : Binds K fd_check_web ["value"] [])
    {fd_first_ring : FuncData} (G_first_ring : FnG P w K mg base 3 (f "first_ring") fd_first_ring ["web"] (spD K T r_first_ring)) (k_first_ring : PySem.W.keepIn K (.ref (f "first_ring")) = true) (B_first_ring : Binds K fd_first_ring ["web"] []) :
    FnG P w K mg base 8 a fd ["web"] (spD K T r_has_ring) :=
  fnD1 (g := g_has_ring) rfl F sc_has_ring rfl rfl fun cdv A outer s H hr hgd => by
    unfold g_has_ring
    exact (es_cons (es_expr (ev_call G_check_web (hr.mono (by decide)) hgd rfl (TX.fn "check_web" (by decide)) k_check_web B_check_web (ea_cons (ev_var (pv 0)) ea_nil)))
      (es_one (es_ret (ev_cmp op_notN val_notN (ev_call G_first_ring (hr.mono (by decide)) hgd rfl (TX.fn "first_ring" (by decide)) k_first_ring B_first_ring (ea_cons (ev_var (pv 0)) ea_nil)) ev_non (nomark _)))))
abbrev N__law_piece : List Str := ["_law_ties", "_law_copy", "_law_found", "_law_turn", "_law_here", "_law_other"]
theorem sc__law_piece : FnScope N__law_piece ["_law_ties", "_law_copy"] (defScope st__law_piece) := ⟨rfl, rfl, rfl, by decide +kernel, rfl, by decide +kernel, by decide +kernel⟩
theorem ok__law_piece {a : Addr} {fd : FuncData} (TX : Tx mg f) (F : Fun K "_law_piece" "_law_piece" st__law_piece a fd)
    {fd__law_near : FuncData} (G__law_near : FnG P w K mg base 1 (f "_law_near") fd__law_near ["_law_ties", "_law_copy"] (spD K T r__law_near)) (k__law_near : PySem.W.keepIn K (.ref (f "_law_near")) = true) (B__law_near : Binds K fd__law_near ["_law_ties", "_law_copy"] []) :
    FnG P w K mg base 2 a fd ["_law_ties", "_law_copy"] (spD K T r__law_piece) :=
  fnD1 (g := g__law_piece) rfl F sc__law_piece rfl rfl fun cdv A outer s H hr hgd => by
    unfold g__law_piece
    exact (es_cons (es_asg (ev_lst (ea_cons (ev_var (pv 1)) ea_nil)) (pg_name (i := 2) sc__law_piece.nd rfl (by first | exact Or.inl rfl | exact Or.inr (Or.inl rfl) | exact Or.inr rfl)) (eg_name (by decide)))
      (es_cons (es_for PassesOwn.never rfl (ei_range1 rfl (TX.bl "range" (by decide)) (ea_cons ev_int ea_nil)) (pg_name (i := 3) sc__law_piece.nd rfl (by first | exact Or.inl rfl | exact Or.inr (Or.inl rfl) | exact Or.inr rfl)) (eg_name (by decide)) (es_one (es_for PassesOwn.never rfl (ei_seq (ev_bty call_list_of val_list rfl (TX.bl "list" (by decide)) (by decide +kernel) (ea_cons (ev_var (pv 2)) ea_nil))) (pg_name (i := 4) sc__law_piece.nd rfl (by first | exact Or.inl rfl | exact Or.inr (Or.inl rfl) | exact Or.inr rfl)) (eg_name (by decide)) (es_one (es_asg (ev_add (ev_var (pv 2)) (ev_lc (own := [("_law_other", 5)]) rfl sc__law_piece.nd (ei_seq (ev_call G__law_near (hr.mono (by decide)) hgd rfl (TX.fn "_law_near" (by decide)) k__law_near B__law_near (ea_cons (ev_var (pv 0)) (ea_cons (ev_var (pv 4)) ea_nil)))) (blkOk_by (by first | (change blkC N__law_piece (defScope st__law_piece) _ _ = true; decide +kernel) | decide +kernel)) (fun _ _ _ _ _ => by exact (pg_name (i := 5) sc__law_piece.nd rfl (by first | exact Or.inl rfl | exact Or.inr (Or.inl rfl) | exact Or.inr rfl))) (egb_name (by decide)) (fun _ _ _ _ _ => by exact (ets_one (et_cmp (Ev.op_notInD hr.u66') val_notIn (ev_var (pv 5)) (ev_var (pv 2)) (by rfl)))) (fun _ _ _ _ _ => by exact (ev_var (pv 5))))) (pg_name (i := 2) sc__law_piece.nd rfl (by first | exact Or.inl rfl | exact Or.inr (Or.inl rfl) | exact Or.inr rfl)) (eg_name (by decide)))))))
      (es_one (es_ret (ev_blt (cr_sortQ hr.u66) val_sort rfl (TX.bl "sorted" (by decide)) (by decide +kernel) (ea_cons (ev_var (pv 2)) ea_nil))))))
abbrev N__law_right : List Str := ["_law_pot_here", "_law_many", "_law_ties", "_law_left", "_law_given", "_law_web_here", "_law_copy", "_law_pieces", "_law_due", "_law_told"]
theorem sc__law_right : FnScope N__law_right ["_law_pot_here"] (defScope st__law_right) := ⟨rfl, rfl, rfl, by decide +kernel, rfl, by decide +kernel, by decide +kernel⟩
theorem ok__law_right {a : Addr} {fd : FuncData} (TX : Tx mg f) (F : Fun K "_law_right" "_law_right" st__law_right a fd) (hsys : ∃ o, base.get? sysModules = some o)
    {fd__law_web : FuncData} (G__law_web : FnG P w K mg base 2 (f "_law_web") fd__law_web ["_law_pot_here", "_law_least", "_law_most"] (spB K T r__law_web)) (k__law_web : PySem.W.keepIn K (.ref (f "_law_web")) = true) (B__law_web : Binds K fd__law_web ["_law_pot_here", "_law_least", "_law_most"] [])
    {fd__law_draw : FuncData} (G__law_draw : FnG P w K mg base 1 (f "_law_draw") fd__law_draw ["_law_pot_here", "_law_many"] (spB K T r__law_draw)) (k__law_draw : PySem.W.keepIn K (.ref (f "_law_draw")) = true) (B__law_draw : Binds K fd__law_draw ["_law_pot_here", "_law_many"] [])
    {fd_is_web : FuncData} (G_is_web : FnG P w K mg base 6 (f "is_web") fd_is_web ["value"] (spD K T r_is_web)) (k_is_web : PySem.W.keepIn K (.ref (f "is_web")) = true) (B_is_web : Binds K fd_is_web ["value"] [])
    {fd_told_web : FuncData} (G_told_web : FnG P w K mg base 8 (f "told_web") fd_told_web ["web"] (spD K T r_told_web)) (GW_told_web : FnG P w K mg base 8 (f "told_web") fd_told_web ["web"] (spW K T rW_told_web)) (k_told_web : PySem.W.keepIn K (.ref (f "told_web")) = true) (B_told_web : Binds K fd_told_web ["web"] [])
    {fd_neighbours : FuncData} (G_neighbours : FnG P w K mg base 8 (f "neighbours") fd_neighbours ["web", "copy"] (spD K T r_neighbours)) (k_neighbours : PySem.W.keepIn K (.ref (f "neighbours")) = true) (B_neighbours : Binds K fd_neighbours ["web", "copy"] [])
    {fd__law_near : FuncData} (G__law_near : FnG P w K mg base 1 (f "_law_near") fd__law_near ["_law_ties", "_law_copy"] (spD K T r__law_near)) (k__law_near : PySem.W.keepIn K (.ref (f "_law_near")) = true) (B__law_near : Binds K fd__law_near ["_law_ties", "_law_copy"] [])
    {fd__law_piece : FuncData} (G__law_piece : FnG P w K mg base 2 (f "_law_piece") fd__law_piece ["_law_ties", "_law_copy"] (spD K T r__law_piece)) (k__law_piece : PySem.W.keepIn K (.ref (f "_law_piece")) = true) (B__law_piece : Binds K fd__law_piece ["_law_ties", "_law_copy"] [])
    {fd_is_joined : FuncData} (G_is_joined : FnG P w K mg base 8 (f "is_joined") fd_is_joined ["web"] (spD K T r_is_joined)) (k_is_joined : PySem.W.keepIn K (.ref (f "is_joined")) = true) (B_is_joined : Binds K fd_is_joined ["web"] [])
    {fd_has_ring : FuncData} (G_has_ring : FnG P w K mg base 8 (f "has_ring") fd_has_ring ["web"] (spD K T r_has_ring)) (k_has_ring : PySem.W.keepIn K (.ref (f "has_ring")) = true) (B_has_ring : Binds K fd_has_ring ["web"] [])
    {fd_ring : FuncData} (G_ring : FnG P w K mg base 8 (f "ring") fd_ring ["web"] (spD K T r_ring)) (k_ring : PySem.W.keepIn K (.ref (f "ring")) = true) (B_ring : Binds K fd_ring ["web"] [])
    {fd__law_is_ring : FuncData} (G__law_is_ring : FnG P w K mg base 2 (f "_law_is_ring") fd__law_is_ring ["_law_ties", "_law_value"] (spD K T r__law_is_ring)) (k__law_is_ring : PySem.W.keepIn K (.ref (f "_law_is_ring")) = true) (B__law_is_ring : Binds K fd__law_is_ring ["_law_ties", "_law_value"] [])
    (KB_neighbours_copy_web : ∀ (s : Shared) (ws : List Value), ws.length = ["copy", "web"].length → BindsTo s fd_neighbours ⟨[], (["copy", "web"] : List Str).zip ws⟩ ((["web", "copy"] : List Str).zip (pick [1, 0] ws)))
    (KB_told_web_web : ∀ (s : Shared) (ws : List Value), ws.length = ["web"].length → BindsTo s fd_told_web ⟨[], (["web"] : List Str).zip ws⟩ ((["web"] : List Str).zip (pick [0] ws))) :
    FnG P w K mg base 9 a fd ["_law_pot_here"] (spB K T r__law_right) :=
  fnB1 (g := g__law_right) rfl F sc__law_right rfl rfl fun cdv A outer s H hr hgd => by
    unfold g__law_right
    exact (es_cons (es_asg (ev_callB G__law_web (hr.mono (by decide)) hgd rfl (TX.fn "_law_web" (by decide)) k__law_web B__law_web (pv 0) (ea_cons ev_int (ea_cons ev_int ea_nil))) (pg_tup rfl (pgs_cons (pg_name (i := 1) sc__law_right.nd rfl (by first | exact Or.inl rfl | exact Or.inr (Or.inl rfl) | exact Or.inr rfl)) (pgs_cons (pg_name (i := 2) sc__law_right.nd rfl (by first | exact Or.inl rfl | exact Or.inr (Or.inl rfl) | exact Or.inr rfl)) pgs_nil))) (eg_tup (egs_cons (eg_name (by decide)) (egs_cons (eg_name (by decide)) egs_nil))))
      (es_cons (es_parLL (ps_par (i := 3) (j := 4) rfl sc__law_right.nd rfl rfl (by decide) (by first | rfl | decide +kernel) (by first | rfl | decide +kernel) (pa_cons (el_list rfl (TX.bl "list" (by decide)) (ev_var (pv 2))) (pa_cons (el_lst ea_nil) pa_nil)) (by rfl)) (by decide))
      (es_cons (es_while (n := 4096) PassesOwn.never (et_cmpL (op_neD hr.units) val_ne (pv 3) (ev_lst ea_nil) (nomark _)) (es_one (es_expr (ev_append (pv 4) (ev_pop (pv 3) (ev_callB G__law_draw (hr.mono (by decide)) hgd rfl (TX.fn "_law_draw" (by decide)) k__law_draw B__law_draw (pv 0) (ea_cons (ev_bltN call_len val_len rfl (TX.bl "len" (by decide)) (by decide +kernel) (pv 3)) ea_nil)))))))
      (es_cons (es_asg (ev_tup (ea_cons (ev_var (pv 1)) (ea_cons (ev_if (et_cmp (op_eqD hr.units) val_eq (ev_callB G__law_draw (hr.mono (by decide)) hgd rfl (TX.fn "_law_draw" (by decide)) k__law_draw B__law_draw (pv 0) (ea_cons ev_int ea_nil)) ev_int (nomark _)) (ev_frz (pv 4)) (ev_btyN call_tuple_of val_tuple rfl (TX.bl "tuple" (by decide)) (by decide +kernel) (pv 4))) ea_nil))) (pg_name (i := 5) sc__law_right.nd rfl (by first | exact Or.inl rfl | exact Or.inr (Or.inl rfl) | exact Or.inr rfl)) (eg_name (by decide)))
      (es_cons (es_if (PW.pt (ew_or (et_cmp op_isnot_bl val_notB (ev_call G_is_web (hr.mono (by decide)) hgd rfl (TX.fn "is_web" (by decide)) k_is_web B_is_web (ea_cons (ev_var (pv 5)) ea_nil)) ev_bl (nomark _)) (ew_or (et_cmp (op_neD hr.units) val_ne (ev_call G_told_web (hr.mono (by decide)) hgd rfl (TX.fn "told_web" (by decide)) k_told_web B_told_web (ea_cons (ev_var (pv 5)) ea_nil)) (ev_tup (ea_cons (ev_var (pv 1)) (ea_cons (ev_var (pv 2)) ea_nil))) (nomark _)) (ew_or1 (et_not (et_val (ev_isi (b := isLs) kit_list rfl (TX.bl "isinstance" (by decide)) (Ev.pe_ty rfl (TX.bl "list" (by decide)) (by decide +kernel)) (ev_ix ix_seq val_ix (ev_call G_told_web (hr.mono (by decide)) hgd rfl (TX.fn "told_web" (by decide)) k_told_web B_told_web (ea_cons (ev_var (pv 5)) ea_nil)) ev_int (fun _ _ => rfl))))))))) (es_one (es_ret ev_bl)) es_nil)
      (es_cons (es_for PassesOwn.never rfl (ei_range1 rfl (TX.bl "range" (by decide)) (ea_cons (ev_var (pv 1)) ea_nil)) (pg_name (i := 6) sc__law_right.nd rfl (by first | exact Or.inl rfl | exact Or.inr (Or.inl rfl) | exact Or.inr rfl)) (eg_name (by decide)) (es_one (es_if (PW.pt (ew_or (et_cmp (op_neD hr.units) val_ne (ev_call G_neighbours (hr.mono (by decide)) hgd rfl (TX.fn "neighbours" (by decide)) k_neighbours B_neighbours (ea_cons (ev_var (pv 5)) (ea_cons (ev_var (pv 6)) ea_nil))) (ev_call G__law_near (hr.mono (by decide)) hgd rfl (TX.fn "_law_near" (by decide)) k__law_near B__law_near (ea_cons (ev_var (pv 2)) (ea_cons (ev_var (pv 6)) ea_nil))) (nomark _)) (ew_or1 (et_cmp (op_neD hr.units) val_ne (ev_callK (ks := ["copy", "web"]) (ix := [1, 0]) G_neighbours (hr.mono (by decide)) hgd rfl (TX.fn "neighbours" (by decide)) k_neighbours KB_neighbours_copy_web (ek_cons (ev_var (pv 6)) (ek_cons (ev_var (pv 5)) ek_nil))) (ev_call G__law_near (hr.mono (by decide)) hgd rfl (TX.fn "_law_near" (by decide)) k__law_near B__law_near (ea_cons (ev_var (pv 2)) (ea_cons (ev_var (pv 6)) ea_nil))) (nomark _))))) (es_one (es_ret ev_bl)) es_nil)))
      (es_cons (es_asg (ev_lenSet rfl hr.u66 rfl (TX.bl "len" (by decide)) rfl (TX.bl "set" (by decide)) (ev_lc (own := [("_law_copy", 6)]) rfl sc__law_right.nd (ei_range1 rfl (TX.bl "range" (by decide)) (ea_cons (ev_var (pv 1)) ea_nil)) (blkOk_by (by first | (change blkC N__law_right (defScope st__law_right) _ _ = true; decide +kernel) | decide +kernel)) (fun _ _ _ _ _ => by exact (pg_name (i := 6) sc__law_right.nd rfl (by first | exact Or.inl rfl | exact Or.inr (Or.inl rfl) | exact Or.inr rfl))) (egb_name (by decide)) (fun _ _ _ _ _ => by exact ets_nil) (fun _ _ _ _ _ => by exact (ev_ix ix_seq val_ix (ev_call G__law_piece (hr.mono (by decide)) hgd rfl (TX.fn "_law_piece" (by decide)) k__law_piece B__law_piece (ea_cons (ev_var (pv 2)) (ea_cons (ev_var (pv 6)) ea_nil))) ev_int (fun _ _ => rfl))))) (pg_name (i := 7) sc__law_right.nd rfl (by first | exact Or.inl rfl | exact Or.inr (Or.inl rfl) | exact Or.inr rfl)) (eg_name (by decide)))
      (es_cons (es_asg (ev_lst (ea_cons (ev_cmp (op_eqD hr.units) val_eq (ev_var (pv 7)) ev_int (nomark _)) (ea_cons (ev_cmp op_gt val_gt (ev_blt call_len val_len rfl (TX.bl "len" (by decide)) (by decide +kernel) (ea_cons (ev_var (pv 2)) ea_nil)) (ev_sub (ev_var (pv 1)) (ev_var (pv 7))) (nomark _)) ea_nil))) (pg_name (i := 8) sc__law_right.nd rfl (by first | exact Or.inl rfl | exact Or.inr (Or.inl rfl) | exact Or.inr rfl)) (eg_name (by decide)))
      (es_cons (es_if (et_cmp (op_neD hr.units) val_ne (ev_blt (cr_repr hr.units hgd hsys) val_repr rfl (TX.bl "repr" (by decide)) (by decide +kernel) (ea_cons (ev_lst (ea_cons (ev_call G_is_joined (hr.mono (by decide)) hgd rfl (TX.fn "is_joined" (by decide)) k_is_joined B_is_joined (ea_cons (ev_var (pv 5)) ea_nil)) (ea_cons (ev_call G_has_ring (hr.mono (by decide)) hgd rfl (TX.fn "has_ring" (by decide)) k_has_ring B_has_ring (ea_cons (ev_var (pv 5)) ea_nil)) ea_nil))) ea_nil)) (ev_blt (cr_repr hr.units hgd hsys) val_repr rfl (TX.bl "repr" (by decide)) (by decide +kernel) (ea_cons (ev_var (pv 8)) ea_nil)) (nomark _)) (es_one (es_ret ev_bl)) es_nil)
      (es_cons (es_asg (ev_call G_ring (hr.mono (by decide)) hgd rfl (TX.fn "ring" (by decide)) k_ring B_ring (ea_cons (ev_var (pv 5)) ea_nil)) (pg_name (i := 9) sc__law_right.nd rfl (by first | exact Or.inl rfl | exact Or.inr (Or.inl rfl) | exact Or.inr rfl)) (eg_name (by decide)))
      (es_cons (es_if (et_not (et_truth (ev_ix ix_seq val_ix (ev_var (pv 8)) ev_int (fun _ _ => rfl)) (by intro _; rfl))) (es_one (es_ret (ev_cmp op_isN val_isN (ev_var (pv 9)) ev_non (nomark _)))) es_nil)
      (es_cons (es_expr (ev_app1 (ew_call GW_told_web (hr.mono (by decide)) hgd rfl (TX.fn "told_web" (by decide)) k_told_web B_told_web (ea_cons (ev_var (pv 5)) ea_nil))))
      (es_one (es_ret (ev_and (ev_call G__law_is_ring (hr.mono (by decide)) hgd rfl (TX.fn "_law_is_ring" (by decide)) k__law_is_ring B__law_is_ring (ea_cons (ev_var (pv 2)) (ea_cons (ev_var (pv 9)) ea_nil))) (ev_one (ev_cmp (op_eqD hr.units) val_eq (ev_callK (ks := ["web"]) (ix := [0]) G_told_web (hr.mono (by decide)) hgd rfl (TX.fn "told_web" (by decide)) k_told_web KB_told_web_web (ek_cons (ev_var (pv 5)) ek_nil)) (ev_tup (ea_cons (ev_var (pv 1)) (ea_cons (ev_var (pv 2)) ea_nil))) (nomark _))))))))))))))))))
abbrev N__law_pot : List Str := ["_law_script", "_law_k", "_law_cell"]
theorem sc__law_pot : FnScope N__law_pot ["_law_script", "_law_k"] (defScope st__law_pot) := ⟨rfl, rfl, rfl, by decide +kernel, rfl, by decide +kernel, by decide +kernel⟩
theorem ok__law_pot {a : Addr} {fd : FuncData} (TX : Tx mg f) (F : Fun K "_law_pot" "_law_pot" st__law_pot a fd) :
    FnG P w K mg base 1 a fd ["_law_script", "_law_k"] (spD K T r__law_pot) :=
  fnD1 (g := g__law_pot) rfl F sc__law_pot rfl rfl fun cdv A outer s H hr hgd => by
    unfold g__law_pot
    exact (es_cons (es_asg (ev_add (ev_add (ev_mul ev_int (ev_var (pv 1))) ev_int) (ev_mod (ev_blt (cr_sum rfl) val_sum rfl (TX.bl "sum" (by decide)) (by decide +kernel) (ea_cons (ev_slice (ev_var (pv 0)) eo_none (eo_some ev_int)) ea_nil)) ev_int)) (pg_name (i := 2) sc__law_pot.nd rfl (by first | exact Or.inl rfl | exact Or.inr (Or.inl rfl) | exact Or.inr rfl)) (eg_name (by decide)))
      (es_cons (es_if (et_cmp op_lt val_lt (ev_var (pv 1)) (ev_blt call_len val_len rfl (TX.bl "len" (by decide)) (by decide +kernel) (ea_cons (ev_var (pv 0)) ea_nil)) (nomark _)) (es_one (es_asg (ev_blt call_abs val_abs rfl (TX.bl "abs" (by decide)) (by decide +kernel) (ea_cons (ev_ix ix_seq val_ix (ev_var (pv 0)) (ev_var (pv 1)) (fun _ _ => rfl)) ea_nil)) (pg_name (i := 2) sc__law_pot.nd rfl (by first | exact Or.inl rfl | exact Or.inr (Or.inl rfl) | exact Or.inr rfl)) (eg_name (by decide)))) es_nil)
      (es_one (es_ret (ev_lst (ea_cons (ev_blt (call_max2 rfl) val_max2 rfl (TX.bl "max" (by decide)) (by decide +kernel) (ea_cons ev_int (ea_cons (ev_sub (ev_var (pv 2)) (ev_pow ev_int ev_int)) ea_nil))) (ea_cons (ev_add (ev_mod (ev_mul (ev_add (ev_mod (ev_var (pv 2)) ev_int) ev_int) (ev_pow (ev_add (ev_mul ev_int (ev_var (pv 1))) ev_int) ev_int)) ev_int) ev_int) ea_nil)))))))
abbrev N_law : List Str := ["_law_script"]
end
end Ev

namespace Tb
open PySem PySem.Spec PyProof.Rows L2
/-! ### the end: the law's def is called, nothing tracked but its script and two tables -/
section
variable {K : PySem.W.Frag} {tb : List Addr} {a : Addr} {ob : Obj} {xs : List V}
open Classical in
/-- what is tracked at the start -/
noncomputable def st0 (K : PySem.W.Frag) (tb : List Addr) (a : Addr) (ob : Obj) (xs : List V) : Hp := fun b => if b ∈ tb then some (.tbl #[]) else if b = a ∧ K.lookup a = none then some (.frz ob (.lst xs)) else none
theorem st0_tab {b : Addr} (h : b ∈ tb) : st0 K tb a ob xs b = some (.tbl #[]) := if_pos h
theorem st0_by {b : Addr} {u : HO} (h : st0 K tb a ob xs b = some u) : (b ∈ tb ∧ u = .tbl #[]) ∨ (b = a ∧ K.lookup a = none ∧ u = .frz ob (.lst xs)) := by
  unfold st0 at h
  split at h
  · exact .inl ⟨by assumption, (Option.some.inj h).symm⟩
  · split at h
    · rename_i z
      exact .inr ⟨z.1, z.2, (Option.some.inj h).symm⟩
    · cases h
theorem st0_un {b : Addr} (h : st0 K tb a ob xs b = none) : b ∉ tb ∧ ¬ (b = a ∧ K.lookup a = none) := by
  unfold st0 at h
  split at h
  · cases h
  · split at h
    · cases h
    · exact ⟨by assumption, by assumption⟩
theorem un_of {b : Addr} (h : ∀ u, st0 K tb a ob xs b ≠ some u) : st0 K tb a ob xs b = none := by
  cases q : st0 K tb a ob xs b with
  | none => rfl
  | some u => exact absurd q (h u)
end
section
variable {P : Program} {w : World} {K : PySem.W.Frag} {mg mb : Str → Option Value} {k : Nat} {fa a : Addr} {cs : List (Addr × Addr)} {fd : FuncData} {x : Str} {sp : Sp} {s : Shared} {us : List Value} {ns : List Int}
theorem law_end (X : K.In s.heap) (gl : s.heap.Ns mainGlobals mg) (bl : s.heap.Ns builtinsNs mb) (blb : ∀ y : Str, y ≠ "__name__" → mb y = bootBuiltins y) (nl : s.heap.NoLimit) (ge : s.gens = #[]) (sm : ∃ mm, s.heap.Ns sysModules mm)
    (tT : ∀ q ∈ cs, s.heap.get? q.2 = some { cls := .none, data := .fields #[] }) (tK : ∀ q ∈ cs, K.lookup q.2 = none) (tC : ∀ q ∈ cs, PySem.W.CodeHd s.heap q.1 q.2)
    (bm : ∃ (m : Addr) (o : Obj), mg "__builtins__" = some (.ref m) ∧ m ≠ builtinsNs ∧ s.heap.get? m = some o ∧ o.cls = .type "module" ∧ o.dict = some builtinsNs ∧ o.data = .plain)
    (oa : s.heap.get? a = some { cls := .type "list", data := .seq us.toArray }) (ia : IntsAre us ns) (la : ns.length ≤ sizeLine) (rm : Room k callerA) (gd : callerA.guards = some [])
    (F : ∀ base : Heap, K.In base → base.Ns mainGlobals mg → (∃ o, base.get? sysModules = some o) → (∀ q ∈ cs, GxR.TabB base mg q.1 q.2) → FnG P w K mg base k fa fd [x] sp) (bd : ∀ (s : Shared) (u : Value), BindsTo s fd ⟨[u], []⟩ [(x, u)])
    (asks : ∀ H : Hp, (∀ q ∈ cs, H q.2 = some (.tbl #[])) → SqL K H a (ns.map V.int) → sp [.ref a] H (fun v _ => v = .bl true) E0) :
    codeAny (model P w) callerA (.call (.ref fa) ⟨[.ref a], []⟩) (fun r s' => r = .ok (.ret (.bool true)) ∧ OldK s.heap s'.heap ∧ s'.os = s.os ∧ AllBare s'.gens) s := by
  have tabs : ∀ b ∈ cs.map Prod.snd, s.heap.get? b = some { cls := .none, data := .fields #[] } := fun b hb => by
    obtain ⟨q, hq, rfl⟩ := List.mem_map.mp hb
    exact tT q hq
  have inT : ∀ q ∈ cs, q.2 ∈ cs.map Prod.snd := fun q hq => List.mem_map_of_mem hq
  generalize hG : st0 K (cs.map Prod.snd) a { cls := .type "list", data := .seq us.toArray } (ns.map V.int) = G
  have Gby : ∀ {b : Addr} {u : HO}, G b = some u → (b ∈ cs.map Prod.snd ∧ u = .tbl #[]) ∨ (b = a ∧ K.lookup a = none ∧ u = .frz { cls := .type "list", data := .seq us.toArray } (.lst (ns.map V.int))) := fun {b u} e => by
    rw [← hG] at e
    exact st0_by e
  have Gtab : ∀ q ∈ cs, G q.2 = some (.tbl #[]) := fun q hq => by
    rw [← hG]
    exact st0_tab (inT q hq)
  -- what is neither a list nor a table isn't tracked
  have hid : ∀ {b : Addr} {o : Obj}, s.heap.get? b = some o → (∀ vs m, o.data ≠ .seq vs m) → o.data ≠ .fields #[] → G b = none := fun {b o} e n1 n2 => by
    cases q : G b with
    | none => rfl
    | some u =>
      rcases Gby q with ⟨z, _⟩ | ⟨z, _⟩
      · rw [tabs b z] at e
        exact absurd (congrArg Obj.data (Option.some.inj e)).symm n2
      · rw [z, oa] at e
        exact absurd (congrArg Obj.data (Option.some.inj e)).symm (n1 _ _)
  have space : ∀ {b : Addr} {m : Str → Option Value}, s.heap.Ns b m → (hidT s.heap G).Ns b m := fun {b m} n => by
    obtain ⟨o, es, ep, e, d, r⟩ := n
    exact ⟨o, es, ep, hidT_get e (hid e (fun vs n z => by rw [d] at z; cases z) fun z => by rw [d] at z; cases z), d, r⟩
  have Xb : K.In (hidT s.heap G) := fun b o e => by
    refine hidT_get (X b o e) ?_
    cases q : G b with
    | none => rfl
    | some u =>
      rcases Gby q with ⟨z, _⟩ | ⟨z, z2, _⟩
      · obtain ⟨y, hy, ey⟩ := List.mem_map.mp z
        rw [← ey, tK y hy] at e; cases e
      · rw [z, z2] at e; cases e
  have fx : ∀ {b : Addr} {o : Obj} {vs : Array Value}, s.heap.get? b = some o → o.data = .fields vs → vs ≠ #[] → (hidT s.heap G).get? b = some o := fun {b o vs} e d n =>
    hidT_get e (hid e (fun vs n z => by rw [d] at z; cases z) fun z => n (by rw [d] at z; exact Data.fields.inj z))
  have TB : ∀ q ∈ cs, GxR.TabB (hidT s.heap G) mg q.1 q.2 := fun q hq => by
    have hT := tT q hq
    obtain ⟨m, o, m1, m2, m3, m4, m5, m6⟩ := bm
    refine ⟨?_, ⟨m, o, m1, m2, fun z => ?_, fun z => ?_, ?_, m4, m5, m6⟩, fun z => ?_⟩
    · obtain ⟨oc, vs, file, tf, fl, tg, inF, text, tt, c1, c2, c3, c4, c5⟩ := tC q hq
      exact ⟨oc, vs, file, tf, fl, tg, inF, text, tt, fx c1 c3 (fun z => by rw [z] at c4; simp at c4), c2, c3, c4, c5⟩
    · obtain ⟨o', _, _, e, d, _⟩ := gl
      rw [z, e] at m3
      rw [Option.some.inj m3, m6] at d
      cases d
    · rw [z, hT] at m3
      have := Option.some.inj m3
      rw [← this] at m6
      cases m6
    · exact hidT_get m3 (hid m3 (fun vs n z => by rw [m6] at z; cases z) fun z => by rw [m6] at z; cases z)
    · obtain ⟨o', _, _, e, d, _⟩ := gl
      rw [z, hT] at e
      rw [← Option.some.inj e] at d
      cases d
  have sq : SqL K G a (ns.map V.int) := by
    have aT : a ∉ cs.map Prod.snd := fun z => by
      have := tabs a z
      rw [oa] at this
      have := congrArg Obj.data (Option.some.inj this)
      cases this
    cases q : K.lookup a with
    | none =>
      refine .inl (.inr ⟨{ cls := .type "list", data := .seq us.toArray }, ?_⟩)
      rw [← hG]
      unfold st0
      rw [if_neg aT, if_pos ⟨rfl, q⟩]
    | some o =>
      have e := X a o q
      rw [oa] at e
      cases e
      exact .inr ⟨_, us.toArray, _, q, rfl, rfl, rfl, by rw [List.size_toArray, ia.length]; exact la, by simpa using vals_ints ia⟩
  have ok : HOk P w G s.heap := fun b u e => by
    rcases Gby e with ⟨z, rfl⟩ | ⟨rfl, _, rfl⟩
    · exact tabs b z
    · exact ⟨oa, by rw [List.length_map]; exact la, us, _, vals_ints ia, oa⟩
  have e0 : Env0 P w K mg (hidT s.heap G) callerA [] s G :=
    ⟨rfl, ⟨Xb, space gl, ⟨mb, space bl, blb⟩, by obtain ⟨mc, n1, n2⟩ := nl; exact ⟨mc, space n1, n2⟩⟩, fun b o e => of_hidT e, by rw [hidT_size]; exact Nat.le_refl _, trivial, (fun b hb => by cases hb), ok, .of_eq ge⟩
  have smo : ∃ o, (hidT s.heap G).get? sysModules = some o := by
    obtain ⟨mm, n⟩ := sm
    obtain ⟨o, _, _, e, _⟩ := space n
    exact ⟨o, e⟩
  refine codeAny_mono ((F _ Xb (space gl) smo TB).run callerA [] s G ⟨[.ref a], []⟩ [.ref a] [.ref a] _ rm gd e0 (bd s (.ref a)) (.cons rfl .nil) (asks G Gtab sq)) fun r s' h => ?_
  match r, h with
  | .ok (.ret u), h =>
    obtain ⟨v, G', h1, h2, un, ok', rv, hv⟩ := h
    have hv' : v = .bl true := hv
    rw [hv'] at rv
    have eu : u = Value.bool true := rv
    rw [eu]
    have stays : ∀ b o, b ∉ cs.map Prod.snd → s.heap.get? b = some o → s'.heap.get? b = some o := fun b o nb e => by
      cases q : G b with
      | none => exact un.keep b o e q (fun z => by cases z) (fun z => by cases z)
      | some y =>
        rcases Gby q with ⟨z, _⟩ | ⟨rfl, _, rfl⟩
        · exact absurd z nb
        · obtain ⟨e2, _⟩ := ok' _ _ (un.frzs _ _ _ q)
          rw [oa] at e
          rw [e2]; exact e
    have more : ∀ b ∈ cs.map Prod.snd, ∃ (o : Array Value) (q : Addr × Addr), q ∈ cs ∧ q.2 = b ∧ s'.heap.get? b = some { cls := .none, data := .fields o } := fun b hb => by
      obtain ⟨q, hq, rfl⟩ := List.mem_map.mp hb
      obtain ⟨mo, z⟩ := un.tbls q.2 #[] (Gtab q hq)
      exact ⟨_, q, hq, rfl, ok' _ _ z⟩
    refine ⟨rfl, ⟨fun b o e => ?_, fun b o e => ?_⟩, h1, h2⟩
    · by_cases hb : b ∈ cs.map Prod.snd
      · obtain ⟨mo, q, hq, rfl, z⟩ := more b hb
        have eo := tT q hq
        rw [eo] at e
        rw [← Option.some.inj e]
        exact .inr (.inl ⟨((tC q hq).tab eo).isCodeTable, rfl, #[], mo, rfl, by rw [Array.empty_append]; exact z⟩)
      · exact .inl (stays b o hb e)
    · by_cases hb : b ∈ cs.map Prod.snd
      · obtain ⟨mo, q, hq, rfl, z⟩ := more b hb
        exact ⟨_, z⟩
      · exact ⟨o, stays b o hb e⟩
  | .ok .next, h => exact h.elim
  | .ok .brk, h => exact h.elim
  | .ok .cont, h => exact h.elim
  | .error e, h => exact h.elim
end
end Tb

namespace Ev
open PySem PySem.Spec PyProof.Rows L2 Tb
section
variable {P : Program} {w : World} {K : PySem.W.Frag} {mg : Str → Option Value} {base : Heap} {f : String → Addr} {T : List Addr}
/-! ### the pot, out of the script -/
def spPot (K : PySem.W.Frag) : Sp := fun vs H Q _ => ∃ (l : Addr) (ns : List Int), vs = [.ref l, .int 0] ∧ SqL K H l (ns.map V.int) ∧ ∀ (p : Addr) (a b : Int) (H' : Hp), H' p = some (.lst [.int a, .int b]) → 0 ≤ a → 0 ≤ b → Kp H H' → Q (.ref p) H'
theorem bi_sum : bootBuiltins "sum" = some (.builtin "sum") := by decide +kernel
theorem bi_abs : bootBuiltins "abs" = some (.builtin "abs") := by decide +kernel
theorem bi_max : bootBuiltins "max" = some (.builtin "max") := by decide +kernel
theorem bi_len : bootBuiltins "len" = some (.builtin "len") := by decide +kernel
theorem okP {a : Addr} {fd : FuncData} (TX : Tx mg f) (F : Fun K "_law_pot" "_law_pot" st__law_pot a fd) : FnG P w K mg base 1 a fd ["_law_script", "_law_k"] (spPot K) := by
  refine Tb.okG F sc__law_pot (fun vs H Q E h => ?_) fun cdv A outer s H vs Q hr hgd h => ?_
  · obtain ⟨l, ns, rfl, _⟩ := h
    rfl
  obtain ⟨l, ns, rfl, hl, q⟩ := h
  refine ⟨_, pss_cons (ps_set (i := 2) sc__law_pot.nd rfl (Or.inl rfl) (pe_op op_add (pe_op op_add (pe_op op_mul pe_int (pv 1)) pe_int) (pe_op op_mod (pe_callB (cr_sum rfl) rfl (TX.bl "sum" (by decide)) bi_sum (pa_cons (pe_slice sl_list (pv 0) po_none (po_some pe_int)) pa_nil)) pe_int)))
    (pss_cons (ps_if (pt_cmpR op_lt (pv 1) (pe_callB call_len rfl (TX.bl "len" (by decide)) bi_len (pa_cons (pv 0) pa_nil)) (nomark _)) (pss_one (ps_set (i := 2) sc__law_pot.nd rfl (Or.inl rfl) (pe_callB call_abs rfl (TX.bl "abs" (by decide)) bi_abs (pa_cons (pe_ix ix_list (pv 0) (pv 1) (fun _ _ => rfl)) pa_nil)))) pss_nil)
    (pss_one (ps_ret (pe_lst (pa_cons (pe_callB (call_max2 rfl) rfl (TX.bl "max" (by decide)) bi_max (pa_cons pe_int (pa_cons (pe_op op_sub (pv 2) (pe_op op_pow pe_int pe_int)) pa_nil)))
      (pa_cons (pe_op op_add (pe_op op_mod (pe_op op_mul (pe_op op_add (pe_op op_mod (pv 2) pe_int) pe_int) (pe_op op_pow (pe_op op_add (pe_op op_mul pe_int (pv 1)) pe_int) pe_int)) pe_int) pe_int) pa_nil)))))), ?_⟩
  have mx : ∀ x : Int, 0 ≤ (if x > 0 then x else 0) := fun x => by split <;> omega
  have md : ∀ x : Int, 0 ≤ x % 2147483477 + 1 := fun x => by
    have h1 := Int.emod_nonneg x (show (2147483477 : Int) ≠ 0 by decide)
    omega
  have p31 : (0 : Int) < 2147483549 := by decide
  have p32 : (0 : Int) < 2147483477 := by decide
  have cp : CPow 10 18 := ⟨by decide, by decide, by decide⟩
  have cp3 : CPow (2 * 0 + 95) 3 := ⟨by decide, by decide, by decide⟩
  have ec : ∀ (lo hi : Option Int), cutV (ns.map V.int) lo hi = (cutD ns lo hi).map V.int := fun lo hi => by
    unfold cutV cutD
    rw [List.length_map, List.map_take, List.map_drop]
  -- whatever the cell is
  refine ⟨_, rfl, _, _, rfl, rfl, .inl (by decide), _, _, rfl, rfl, _, rfl, 1, rfl, l, _, rfl, hl, fun t ht => ?_⟩
  have k1 : Kp H (upd H t (.lst (cutV (ns.map V.int) none (some 1)))) := Kp.new ht
  have hl1 : SqL K (upd H t (.lst (cutV (ns.map V.int) none (some 1)))) l (ns.map V.int) := Ev.Sub.sqL (fun b o e => by rw [upd_ne (ne_of_none e ht)]; exact e) hl
  refine ⟨t, cutD ns none (some 1), rfl, .inl (.inl (by rw [upd_same, ec])), _, _, rfl, rfl, (show (0 : Int) < 1000003 by decide), _, _, rfl, rfl, ?_⟩
  refine ⟨_, rfl, _, rfl, _, ns.length, rfl, .inl ⟨_, hl1, by rw [List.length_map]⟩, _, _, rfl, rfl, _, rfl, ite2 (fun c => ?_) (fun c => ?_)⟩
  · cases ns with
    | nil => simp at c
    | cons n0 nr =>
      refine ⟨_, rfl, _, rfl, l, _, _, .int n0, rfl, rfl, hl1, (by simpa using atI_nat (xs := List.map V.int (n0 :: nr)) (j := 0) (v := .int n0) rfl), _, rfl, ?_⟩
      refine ⟨_, rfl, _, _, rfl, rfl, cp, _, _, rfl, rfl, _, _, rfl, _, rfl, _, _, rfl, rfl, p31, _, _, rfl, rfl, _, rfl, _, _, rfl, rfl, .inl (by decide), _, _, rfl, rfl, _, _, rfl, rfl, cp3, _, _, rfl, rfl, .inr (by decide), _, _, rfl, rfl, p32, _, _, rfl, rfl, (by show 2 ≤ sizeLine; decide), fun p hp => ?_⟩
      exact q p _ _ _ upd_same (mx _) (md _) (k1.trans (Kp.new hp))
  · refine ⟨_, rfl, _, _, rfl, rfl, cp, _, _, rfl, rfl, _, _, rfl, _, rfl, _, _, rfl, rfl, p31, _, _, rfl, rfl, _, rfl, _, _, rfl, rfl, .inl (by decide), _, _, rfl, rfl, _, _, rfl, rfl, cp3, _, _, rfl, rfl, .inr (by decide), _, _, rfl, rfl, p32, _, _, rfl, rfl, (by show 2 ≤ sizeLine; decide), fun p hp => ?_⟩
    exact q p _ _ _ upd_same (mx _) (md _) (k1.trans (Kp.new hp))
/-! ### law -/
def spLaw (K : PySem.W.Frag) (T : List Addr) : Sp := fun vs H Q _ => ∃ (l : Addr) (ns : List Int), vs = [.ref l] ∧ SqL K H l (ns.map V.int) ∧ AllT T H ∧ ∀ H', Q (.bl true) H'
theorem scL : FnScope ["_law_script"] ["_law_script"] (defScope st_law) := ⟨rfl, rfl, rfl, by decide +kernel, rfl, by decide +kernel, by decide +kernel⟩
theorem okL {a : Addr} {fd fp fr : FuncData} (TX : Tx mg f) (F : Fun K "law" "law" st_law a fd) (Gp : FnG P w K mg base 1 (f "_law_pot") fp ["_law_script", "_law_k"] (spPot K)) (kp : PySem.W.keepIn K (.ref (f "_law_pot")) = true) (Bp : Binds K fp ["_law_script", "_law_k"] [])
    (Gr : FnG P w K mg base 9 (f "_law_right") fr ["_law_pot_here"] (spB K T r__law_right)) (kr : PySem.W.keepIn K (.ref (f "_law_right")) = true) (Br : Binds K fr ["_law_pot_here"] []) : FnG P w K mg base 10 a fd ["_law_script"] (spLaw K T) := by
  refine Tb.okG F scL (fun vs H Q E h => ?_) fun cdv A outer s H vs Q hr hgd h => ?_
  · obtain ⟨l, ns, rfl, _⟩ := h
    rfl
  obtain ⟨l, ns, rfl, hl, at', q⟩ := h
  refine ⟨_, pss_one (ps_ret (pe_callG Gr hr hgd rfl (TX.fn "_law_right" (by decide)) kr Br (pa_cons (pe_callG Gp (hr.mono (by decide)) hgd rfl (TX.fn "_law_pot" (by decide)) kp Bp (pa_cons (pv 0) (pa_cons pe_int pa_nil))) pa_nil))), ?_⟩
  refine ⟨_, rfl, l, ns, rfl, hl, fun p x y H1 hp hx hy k1 => ?_⟩
  obtain ⟨zs, e⟩ := s_law_right (ys := [.int x, .int y]) ⟨x, y, rfl, hx, hy⟩
  refine ⟨fun _ => none, p, [.int x, .int y], [], [.int x, .int y], [], rfl, (fun b o z => by cases z), (fun b ps z => by cases z), rfl, hp, .cons (.int _) (.cons (.int _) .nil), .nil, fun b hb => k1.tab b (at' b hb), _, zs, e, fun v S' H' _ _ _ _ rv _ => ?_⟩
  cases rv
  exact q H'
end
end Ev

namespace Ev
open PySem PySem.Spec PyProof.Rows L2 Tb
def fOf (mg : Str → Option Value) (n : String) : Addr := match mg (Str.ofString n) with
  | some (.ref b) => b
  | _ => 0
theorem fOf_eq {mg : Str → Option Value} {n : String} {b : Addr} (h : mg (Str.ofString n) = some (.ref b)) : fOf mg n = b := by
  unfold fOf
  rw [h]
theorem said {P q : Program} {loose : List Str} {XP : (Str → Option Value) → Heap → Prop} {w : World} {s0 s : Shared} {mg mb : Str → Option Value} {K : PySem.W.Frag} {fa a : Addr} {us : List Value} {ns : List Int} {d13 d24 : DefRec} {c13 T13 c24 T24 : Addr} {t_MOST_COPIES : Tok}
    {f28 : Addr} {od28 an28 : Option Addr} {sl28 : Array (Option Value)} {oc28 kV28 dc28 pm28 cd28 ct28 : Value}
    {f30 : Addr} {od30 an30 : Option Addr} {sl30 : Array (Option Value)} {oc30 kV30 dc30 pm30 cd30 ct30 : Value}
    {f1 : Addr} {od1 an1 : Option Addr} {sl1 : Array (Option Value)} {oc1 kV1 dc1 pm1 cd1 ct1 : Value}
    {f4 : Addr} {od4 an4 : Option Addr} {sl4 : Array (Option Value)} {oc4 kV4 dc4 pm4 cd4 ct4 : Value}
    {f2 : Addr} {od2 an2 : Option Addr} {sl2 : Array (Option Value)} {oc2 kV2 dc2 pm2 cd2 ct2 : Value}
    {f3 : Addr} {od3 an3 : Option Addr} {sl3 : Array (Option Value)} {oc3 kV3 dc3 pm3 cd3 ct3 : Value}
    {f10 : Addr} {od10 an10 : Option Addr} {sl10 : Array (Option Value)} {oc10 kV10 dc10 pm10 cd10 ct10 : Value}
    {f13 : Addr} {od13 an13 : Option Addr} {sl13 : Array (Option Value)} {oc13 kV13 dc13 pm13 ct13 : Value}
    {f19 : Addr} {od19 an19 : Option Addr} {sl19 : Array (Option Value)} {oc19 kV19 dc19 pm19 cd19 ct19 : Value}
    {f21 : Addr} {od21 an21 : Option Addr} {sl21 : Array (Option Value)} {oc21 kV21 dc21 pm21 cd21 ct21 : Value}
    {f22 : Addr} {od22 an22 : Option Addr} {sl22 : Array (Option Value)} {oc22 kV22 dc22 pm22 cd22 ct22 : Value}
    {f23 : Addr} {od23 an23 : Option Addr} {sl23 : Array (Option Value)} {oc23 kV23 dc23 pm23 cd23 ct23 : Value}
    {f25 : Addr} {od25 an25 : Option Addr} {sl25 : Array (Option Value)} {oc25 kV25 dc25 pm25 cd25 ct25 : Value}
    {f18 : Addr} {od18 an18 : Option Addr} {sl18 : Array (Option Value)} {oc18 kV18 dc18 pm18 cd18 ct18 : Value}
    {f31 : Addr} {od31 an31 : Option Addr} {sl31 : Array (Option Value)} {oc31 kV31 dc31 pm31 cd31 ct31 : Value}
    {f33 : Addr} {od33 an33 : Option Addr} {sl33 : Array (Option Value)} {oc33 kV33 dc33 pm33 cd33 ct33 : Value}
    {f20 : Addr} {od20 an20 : Option Addr} {sl20 : Array (Option Value)} {oc20 kV20 dc20 pm20 cd20 ct20 : Value}
    {f14 : Addr} {od14 an14 : Option Addr} {sl14 : Array (Option Value)} {oc14 kV14 dc14 pm14 cd14 ct14 : Value}
    {f15 : Addr} {od15 an15 : Option Addr} {sl15 : Array (Option Value)} {oc15 kV15 dc15 pm15 cd15 ct15 : Value}
    {f24 : Addr} {od24 an24 : Option Addr} {sl24 : Array (Option Value)} {oc24 kV24 dc24 pm24 ct24 : Value}
    {f16 : Addr} {od16 an16 : Option Addr} {sl16 : Array (Option Value)} {oc16 kV16 dc16 pm16 cd16 ct16 : Value}
    {f17 : Addr} {od17 an17 : Option Addr} {sl17 : Array (Option Value)} {oc17 kV17 dc17 pm17 cd17 ct17 : Value}
    {f32 : Addr} {od32 an32 : Option Addr} {sl32 : Array (Option Value)} {oc32 kV32 dc32 pm32 cd32 ct32 : Value}
    {f34 : Addr} {od34 an34 : Option Addr} {sl34 : Array (Option Value)} {oc34 kV34 dc34 pm34 cd34 ct34 : Value}
    {f27 : Addr} {od27 an27 : Option Addr} {sl27 : Array (Option Value)} {oc27 kV27 dc27 pm27 cd27 ct27 : Value}
    {f35 : Addr} {od35 an35 : Option Addr} {sl35 : Array (Option Value)} {oc35 kV35 dc35 pm35 cd35 ct35 : Value}
    (G : PySem.W.Ground q loose [] XP w s0 mg mb s.heap) (X : K.In s.heap) (hmg : mg "law" = some (.ref fa)) (imp : importsNone q = true) (ge : s.gens = #[])
    (oa : s.heap.get? a = some { cls := .type "list", data := .seq us.toArray }) (ia : IntsAre us ns) (la : ns.length ≤ 63)
    (r13 : (recsOf q).find? (fun e => e.name == ("is_web" : Str)) = some d13) (t13 : PySem.W.tabIn K "is_web" = some (c13, T13)) (n13 : K.lookup T13 = none)
    (r24 : (recsOf q).find? (fun e => e.name == ("is_tied_to_some" : Str)) = some d24) (t24 : PySem.W.tabIn K "is_tied_to_some" = some (c24, T24)) (n24 : K.lookup T24 = none)
    (am0 : PySem.W.nsIn K mainGlobals "MOST_COPIES" = some (some (.int 6 t_MOST_COPIES)))
    (a28 : PySem.W.nsIn K mainGlobals "_law_draw" = some (some (.ref f28))) (l28 : K.lookup f28 = some ⟨oc28, od28, .func (PySem.W.fnOf "_law_draw" "_law_draw" (defArgs (top 28)) (defBody (top 28)) (defScope (top 28)) .none kV28 dc28 pm28 an28 cd28 ct28), sl28⟩) (y28 : PySem.W.codeIn K cd28 "_law_draw" = true) (k28 : PySem.W.keepIn K (.ref f28) = true)
    (a30 : PySem.W.nsIn K mainGlobals "_law_web" = some (some (.ref f30))) (l30 : K.lookup f30 = some ⟨oc30, od30, .func (PySem.W.fnOf "_law_web" "_law_web" (defArgs (top 30)) (defBody (top 30)) (defScope (top 30)) .none kV30 dc30 pm30 an30 cd30 ct30), sl30⟩) (y30 : PySem.W.codeIn K cd30 "_law_web" = true) (k30 : PySem.W.keepIn K (.ref f30) = true)
    (a1 : PySem.W.nsIn K mainGlobals "is_integer" = some (some (.ref f1))) (l1 : K.lookup f1 = some ⟨oc1, od1, .func (PySem.W.fnOf "is_integer" "is_integer" (defArgs (top 1)) (defBody (top 1)) (defScope (top 1)) .none kV1 dc1 pm1 an1 cd1 ct1), sl1⟩) (y1 : PySem.W.codeIn K cd1 "is_integer" = true) (k1 : PySem.W.keepIn K (.ref f1) = true)
    (a4 : PySem.W.nsIn K mainGlobals "is_list" = some (some (.ref f4))) (l4 : K.lookup f4 = some ⟨oc4, od4, .func (PySem.W.fnOf "is_list" "is_list" (defArgs (top 4)) (defBody (top 4)) (defScope (top 4)) .none kV4 dc4 pm4 an4 cd4 ct4), sl4⟩) (y4 : PySem.W.codeIn K cd4 "is_list" = true) (k4 : PySem.W.keepIn K (.ref f4) = true)
    (a2 : PySem.W.nsIn K mainGlobals "is_count" = some (some (.ref f2))) (l2 : K.lookup f2 = some ⟨oc2, od2, .func (PySem.W.fnOf "is_count" "is_count" (defArgs (top 2)) (defBody (top 2)) (defScope (top 2)) .none kV2 dc2 pm2 an2 cd2 ct2), sl2⟩) (y2 : PySem.W.codeIn K cd2 "is_count" = true) (k2 : PySem.W.keepIn K (.ref f2) = true)
    (a3 : PySem.W.nsIn K mainGlobals "is_count_below" = some (some (.ref f3))) (l3 : K.lookup f3 = some ⟨oc3, od3, .func (PySem.W.fnOf "is_count_below" "is_count_below" (defArgs (top 3)) (defBody (top 3)) (defScope (top 3)) .none kV3 dc3 pm3 an3 cd3 ct3), sl3⟩) (y3 : PySem.W.codeIn K cd3 "is_count_below" = true) (k3 : PySem.W.keepIn K (.ref f3) = true)
    (a10 : PySem.W.nsIn K mainGlobals "is_tie" = some (some (.ref f10))) (l10 : K.lookup f10 = some ⟨oc10, od10, .func (PySem.W.fnOf "is_tie" "is_tie" (defArgs (top 10)) (defBody (top 10)) (defScope (top 10)) .none kV10 dc10 pm10 an10 cd10 ct10), sl10⟩) (y10 : PySem.W.codeIn K cd10 "is_tie" = true) (k10 : PySem.W.keepIn K (.ref f10) = true)
    (a13 : PySem.W.nsIn K mainGlobals "is_web" = some (some (.ref f13))) (l13 : K.lookup f13 = some ⟨oc13, od13, .func (PySem.W.fnOf "is_web" "is_web" (defArgs (top 13)) (defBody (top 13)) (defScope (top 13)) .none kV13 dc13 pm13 an13 (.ref c13) ct13), sl13⟩) (y13 : PySem.W.codeIn K (.ref c13) "is_web" = true) (k13 : PySem.W.keepIn K (.ref f13) = true)
    (a19 : PySem.W.nsIn K mainGlobals "check_web" = some (some (.ref f19))) (l19 : K.lookup f19 = some ⟨oc19, od19, .func (PySem.W.fnOf "check_web" "check_web" (defArgs (top 19)) (defBody (top 19)) (defScope (top 19)) .none kV19 dc19 pm19 an19 cd19 ct19), sl19⟩) (y19 : PySem.W.codeIn K cd19 "check_web" = true) (k19 : PySem.W.keepIn K (.ref f19) = true)
    (a21 : PySem.W.nsIn K mainGlobals "copies_of" = some (some (.ref f21))) (l21 : K.lookup f21 = some ⟨oc21, od21, .func (PySem.W.fnOf "copies_of" "copies_of" (defArgs (top 21)) (defBody (top 21)) (defScope (top 21)) .none kV21 dc21 pm21 an21 cd21 ct21), sl21⟩) (y21 : PySem.W.codeIn K cd21 "copies_of" = true) (k21 : PySem.W.keepIn K (.ref f21) = true)
    (a22 : PySem.W.nsIn K mainGlobals "are_tied" = some (some (.ref f22))) (l22 : K.lookup f22 = some ⟨oc22, od22, .func (PySem.W.fnOf "are_tied" "are_tied" (defArgs (top 22)) (defBody (top 22)) (defScope (top 22)) .none kV22 dc22 pm22 an22 cd22 ct22), sl22⟩) (y22 : PySem.W.codeIn K cd22 "are_tied" = true) (k22 : PySem.W.keepIn K (.ref f22) = true)
    (a23 : PySem.W.nsIn K mainGlobals "neighbours_of" = some (some (.ref f23))) (l23 : K.lookup f23 = some ⟨oc23, od23, .func (PySem.W.fnOf "neighbours_of" "neighbours_of" (defArgs (top 23)) (defBody (top 23)) (defScope (top 23)) .none kV23 dc23 pm23 an23 cd23 ct23), sl23⟩) (y23 : PySem.W.codeIn K cd23 "neighbours_of" = true) (k23 : PySem.W.keepIn K (.ref f23) = true)
    (a25 : PySem.W.nsIn K mainGlobals "first_ring" = some (some (.ref f25))) (l25 : K.lookup f25 = some ⟨oc25, od25, .func (PySem.W.fnOf "first_ring" "first_ring" (defArgs (top 25)) (defBody (top 25)) (defScope (top 25)) .none kV25 dc25 pm25 an25 cd25 ct25), sl25⟩) (y25 : PySem.W.codeIn K cd25 "first_ring" = true) (k25 : PySem.W.keepIn K (.ref f25) = true)
    (a18 : PySem.W.nsIn K mainGlobals "ring" = some (some (.ref f18))) (l18 : K.lookup f18 = some ⟨oc18, od18, .func (PySem.W.fnOf "ring" "ring" (defArgs (top 18)) (defBody (top 18)) (defScope (top 18)) .none kV18 dc18 pm18 an18 cd18 ct18), sl18⟩) (y18 : PySem.W.codeIn K cd18 "ring" = true) (k18 : PySem.W.keepIn K (.ref f18) = true)
    (a31 : PySem.W.nsIn K mainGlobals "_law_near" = some (some (.ref f31))) (l31 : K.lookup f31 = some ⟨oc31, od31, .func (PySem.W.fnOf "_law_near" "_law_near" (defArgs (top 31)) (defBody (top 31)) (defScope (top 31)) .none kV31 dc31 pm31 an31 cd31 ct31), sl31⟩) (y31 : PySem.W.codeIn K cd31 "_law_near" = true) (k31 : PySem.W.keepIn K (.ref f31) = true)
    (a33 : PySem.W.nsIn K mainGlobals "_law_is_ring" = some (some (.ref f33))) (l33 : K.lookup f33 = some ⟨oc33, od33, .func (PySem.W.fnOf "_law_is_ring" "_law_is_ring" (defArgs (top 33)) (defBody (top 33)) (defScope (top 33)) .none kV33 dc33 pm33 an33 cd33 ct33), sl33⟩) (y33 : PySem.W.codeIn K cd33 "_law_is_ring" = true) (k33 : PySem.W.keepIn K (.ref f33) = true)
    (a20 : PySem.W.nsIn K mainGlobals "web_as_told" = some (some (.ref f20))) (l20 : K.lookup f20 = some ⟨oc20, od20, .func (PySem.W.fnOf "web_as_told" "web_as_told" (defArgs (top 20)) (defBody (top 20)) (defScope (top 20)) .none kV20 dc20 pm20 an20 cd20 ct20), sl20⟩) (y20 : PySem.W.codeIn K cd20 "web_as_told" = true) (k20 : PySem.W.keepIn K (.ref f20) = true)
    (a14 : PySem.W.nsIn K mainGlobals "told_web" = some (some (.ref f14))) (l14 : K.lookup f14 = some ⟨oc14, od14, .func (PySem.W.fnOf "told_web" "told_web" (defArgs (top 14)) (defBody (top 14)) (defScope (top 14)) .none kV14 dc14 pm14 an14 cd14 ct14), sl14⟩) (y14 : PySem.W.codeIn K cd14 "told_web" = true) (k14 : PySem.W.keepIn K (.ref f14) = true)
    (a15 : PySem.W.nsIn K mainGlobals "neighbours" = some (some (.ref f15))) (l15 : K.lookup f15 = some ⟨oc15, od15, .func (PySem.W.fnOf "neighbours" "neighbours" (defArgs (top 15)) (defBody (top 15)) (defScope (top 15)) .none kV15 dc15 pm15 an15 cd15 ct15), sl15⟩) (y15 : PySem.W.codeIn K cd15 "neighbours" = true) (k15 : PySem.W.keepIn K (.ref f15) = true)
    (a24 : PySem.W.nsIn K mainGlobals "is_tied_to_some" = some (some (.ref f24))) (l24 : K.lookup f24 = some ⟨oc24, od24, .func (PySem.W.fnOf "is_tied_to_some" "is_tied_to_some" (defArgs (top 24)) (defBody (top 24)) (defScope (top 24)) .none kV24 dc24 pm24 an24 (.ref c24) ct24), sl24⟩) (y24 : PySem.W.codeIn K (.ref c24) "is_tied_to_some" = true) (k24 : PySem.W.keepIn K (.ref f24) = true)
    (a16 : PySem.W.nsIn K mainGlobals "is_joined" = some (some (.ref f16))) (l16 : K.lookup f16 = some ⟨oc16, od16, .func (PySem.W.fnOf "is_joined" "is_joined" (defArgs (top 16)) (defBody (top 16)) (defScope (top 16)) .none kV16 dc16 pm16 an16 cd16 ct16), sl16⟩) (y16 : PySem.W.codeIn K cd16 "is_joined" = true) (k16 : PySem.W.keepIn K (.ref f16) = true)
    (a17 : PySem.W.nsIn K mainGlobals "has_ring" = some (some (.ref f17))) (l17 : K.lookup f17 = some ⟨oc17, od17, .func (PySem.W.fnOf "has_ring" "has_ring" (defArgs (top 17)) (defBody (top 17)) (defScope (top 17)) .none kV17 dc17 pm17 an17 cd17 ct17), sl17⟩) (y17 : PySem.W.codeIn K cd17 "has_ring" = true) (k17 : PySem.W.keepIn K (.ref f17) = true)
    (a32 : PySem.W.nsIn K mainGlobals "_law_piece" = some (some (.ref f32))) (l32 : K.lookup f32 = some ⟨oc32, od32, .func (PySem.W.fnOf "_law_piece" "_law_piece" (defArgs (top 32)) (defBody (top 32)) (defScope (top 32)) .none kV32 dc32 pm32 an32 cd32 ct32), sl32⟩) (y32 : PySem.W.codeIn K cd32 "_law_piece" = true) (k32 : PySem.W.keepIn K (.ref f32) = true)
    (a34 : PySem.W.nsIn K mainGlobals "_law_right" = some (some (.ref f34))) (l34 : K.lookup f34 = some ⟨oc34, od34, .func (PySem.W.fnOf "_law_right" "_law_right" (defArgs (top 34)) (defBody (top 34)) (defScope (top 34)) .none kV34 dc34 pm34 an34 cd34 ct34), sl34⟩) (y34 : PySem.W.codeIn K cd34 "_law_right" = true) (k34 : PySem.W.keepIn K (.ref f34) = true)
    (a27 : PySem.W.nsIn K mainGlobals "_law_pot" = some (some (.ref f27))) (l27 : K.lookup f27 = some ⟨oc27, od27, .func (PySem.W.fnOf "_law_pot" "_law_pot" (defArgs (top 27)) (defBody (top 27)) (defScope (top 27)) .none kV27 dc27 pm27 an27 cd27 ct27), sl27⟩) (y27 : PySem.W.codeIn K cd27 "_law_pot" = true) (k27 : PySem.W.keepIn K (.ref f27) = true)
    (a35 : PySem.W.nsIn K mainGlobals "law" = some (some (.ref f35))) (l35 : K.lookup f35 = some ⟨oc35, od35, .func (PySem.W.fnOf "law" "law" (defArgs (top 35)) (defBody (top 35)) (defScope (top 35)) .none kV35 dc35 pm35 an35 cd35 ct35), sl35⟩) (y35 : PySem.W.codeIn K cd35 "law" = true) (k35 : PySem.W.keepIn K (.ref f35) = true)
    (z0 : PySem.W.nsIn K mainGlobals "isinstance" = some none)
    (z1 : PySem.W.nsIn K mainGlobals "int" = some none)
    (z2 : PySem.W.nsIn K mainGlobals "bool" = some none)
    (z3 : PySem.W.nsIn K mainGlobals "str" = some none)
    (z4 : PySem.W.nsIn K mainGlobals "dict" = some none)
    (z5 : PySem.W.nsIn K mainGlobals "list" = some none)
    (z6 : PySem.W.nsIn K mainGlobals "tuple" = some none)
    (z7 : PySem.W.nsIn K mainGlobals "len" = some none)
    (z8 : PySem.W.nsIn K mainGlobals "all" = some none)
    (z9 : PySem.W.nsIn K mainGlobals "any" = some none)
    (z10 : PySem.W.nsIn K mainGlobals "range" = some none)
    (z11 : PySem.W.nsIn K mainGlobals "abs" = some none)
    (z12 : PySem.W.nsIn K mainGlobals "sum" = some none)
    (z13 : PySem.W.nsIn K mainGlobals "min" = some none)
    (z14 : PySem.W.nsIn K mainGlobals "max" = some none)
    (z15 : PySem.W.nsIn K mainGlobals "divmod" = some none)
    (z16 : PySem.W.nsIn K mainGlobals "sorted" = some none)
    (z17 : PySem.W.nsIn K mainGlobals "set" = some none)
    (z18 : PySem.W.nsIn K mainGlobals "repr" = some none)
    (z19 : PySem.W.nsIn K mainGlobals "enumerate" = some none)
    (z20 : PySem.W.nsIn K mainGlobals "zip" = some none)
    : codeAny (model P w) callerA (.call (.ref fa) ⟨[.ref a], []⟩) (fun r s' => r = .ok (.ret (.bool true)) ∧ OldK s.heap s'.heap ∧ s'.os = s.os ∧ AllBare s'.gens) s := by
  have m28 : mg (Str.ofString "_law_draw") = some (.ref f28) := PySem.W.mg_of X G.T.g a28
  have m30 : mg (Str.ofString "_law_web") = some (.ref f30) := PySem.W.mg_of X G.T.g a30
  have m1 : mg (Str.ofString "is_integer") = some (.ref f1) := PySem.W.mg_of X G.T.g a1
  have m4 : mg (Str.ofString "is_list") = some (.ref f4) := PySem.W.mg_of X G.T.g a4
  have m2 : mg (Str.ofString "is_count") = some (.ref f2) := PySem.W.mg_of X G.T.g a2
  have m3 : mg (Str.ofString "is_count_below") = some (.ref f3) := PySem.W.mg_of X G.T.g a3
  have m10 : mg (Str.ofString "is_tie") = some (.ref f10) := PySem.W.mg_of X G.T.g a10
  have m13 : mg (Str.ofString "is_web") = some (.ref f13) := PySem.W.mg_of X G.T.g a13
  have m19 : mg (Str.ofString "check_web") = some (.ref f19) := PySem.W.mg_of X G.T.g a19
  have m21 : mg (Str.ofString "copies_of") = some (.ref f21) := PySem.W.mg_of X G.T.g a21
  have m22 : mg (Str.ofString "are_tied") = some (.ref f22) := PySem.W.mg_of X G.T.g a22
  have m23 : mg (Str.ofString "neighbours_of") = some (.ref f23) := PySem.W.mg_of X G.T.g a23
  have m25 : mg (Str.ofString "first_ring") = some (.ref f25) := PySem.W.mg_of X G.T.g a25
  have m18 : mg (Str.ofString "ring") = some (.ref f18) := PySem.W.mg_of X G.T.g a18
  have m31 : mg (Str.ofString "_law_near") = some (.ref f31) := PySem.W.mg_of X G.T.g a31
  have m33 : mg (Str.ofString "_law_is_ring") = some (.ref f33) := PySem.W.mg_of X G.T.g a33
  have m20 : mg (Str.ofString "web_as_told") = some (.ref f20) := PySem.W.mg_of X G.T.g a20
  have m14 : mg (Str.ofString "told_web") = some (.ref f14) := PySem.W.mg_of X G.T.g a14
  have m15 : mg (Str.ofString "neighbours") = some (.ref f15) := PySem.W.mg_of X G.T.g a15
  have m24 : mg (Str.ofString "is_tied_to_some") = some (.ref f24) := PySem.W.mg_of X G.T.g a24
  have m16 : mg (Str.ofString "is_joined") = some (.ref f16) := PySem.W.mg_of X G.T.g a16
  have m17 : mg (Str.ofString "has_ring") = some (.ref f17) := PySem.W.mg_of X G.T.g a17
  have m32 : mg (Str.ofString "_law_piece") = some (.ref f32) := PySem.W.mg_of X G.T.g a32
  have m34 : mg (Str.ofString "_law_right") = some (.ref f34) := PySem.W.mg_of X G.T.g a34
  have m27 : mg (Str.ofString "_law_pot") = some (.ref f27) := PySem.W.mg_of X G.T.g a27
  have m35 : mg (Str.ofString "law") = some (.ref f35) := PySem.W.mg_of X G.T.g a35
  have c_MOST_COPIES := PySem.W.mg_of X G.T.g am0
  have u0 : mg (Str.ofString "isinstance") = none := PySem.W.mg_none_of X G.T.g z0
  have u1 : mg (Str.ofString "int") = none := PySem.W.mg_none_of X G.T.g z1
  have u2 : mg (Str.ofString "bool") = none := PySem.W.mg_none_of X G.T.g z2
  have u3 : mg (Str.ofString "str") = none := PySem.W.mg_none_of X G.T.g z3
  have u4 : mg (Str.ofString "dict") = none := PySem.W.mg_none_of X G.T.g z4
  have u5 : mg (Str.ofString "list") = none := PySem.W.mg_none_of X G.T.g z5
  have u6 : mg (Str.ofString "tuple") = none := PySem.W.mg_none_of X G.T.g z6
  have u7 : mg (Str.ofString "len") = none := PySem.W.mg_none_of X G.T.g z7
  have u8 : mg (Str.ofString "all") = none := PySem.W.mg_none_of X G.T.g z8
  have u9 : mg (Str.ofString "any") = none := PySem.W.mg_none_of X G.T.g z9
  have u10 : mg (Str.ofString "range") = none := PySem.W.mg_none_of X G.T.g z10
  have u11 : mg (Str.ofString "abs") = none := PySem.W.mg_none_of X G.T.g z11
  have u12 : mg (Str.ofString "sum") = none := PySem.W.mg_none_of X G.T.g z12
  have u13 : mg (Str.ofString "min") = none := PySem.W.mg_none_of X G.T.g z13
  have u14 : mg (Str.ofString "max") = none := PySem.W.mg_none_of X G.T.g z14
  have u15 : mg (Str.ofString "divmod") = none := PySem.W.mg_none_of X G.T.g z15
  have u16 : mg (Str.ofString "sorted") = none := PySem.W.mg_none_of X G.T.g z16
  have u17 : mg (Str.ofString "set") = none := PySem.W.mg_none_of X G.T.g z17
  have u18 : mg (Str.ofString "repr") = none := PySem.W.mg_none_of X G.T.g z18
  have u19 : mg (Str.ofString "enumerate") = none := PySem.W.mg_none_of X G.T.g z19
  have u20 : mg (Str.ofString "zip") = none := PySem.W.mg_none_of X G.T.g z20
  have e28 := fOf_eq m28
  have e30 := fOf_eq m30
  have e1 := fOf_eq m1
  have e4 := fOf_eq m4
  have e2 := fOf_eq m2
  have e3 := fOf_eq m3
  have e10 := fOf_eq m10
  have e13 := fOf_eq m13
  have e19 := fOf_eq m19
  have e21 := fOf_eq m21
  have e22 := fOf_eq m22
  have e23 := fOf_eq m23
  have e25 := fOf_eq m25
  have e18 := fOf_eq m18
  have e31 := fOf_eq m31
  have e33 := fOf_eq m33
  have e20 := fOf_eq m20
  have e14 := fOf_eq m14
  have e15 := fOf_eq m15
  have e24 := fOf_eq m24
  have e16 := fOf_eq m16
  have e17 := fOf_eq m17
  have e32 := fOf_eq m32
  have e34 := fOf_eq m34
  have e27 := fOf_eq m27
  have e35 := fOf_eq m35
  subst e28
  subst e30
  subst e1
  subst e4
  subst e2
  subst e3
  subst e10
  subst e13
  subst e19
  subst e21
  subst e22
  subst e23
  subst e25
  subst e18
  subst e31
  subst e33
  subst e20
  subst e14
  subst e15
  subst e24
  subst e16
  subst e17
  subst e32
  subst e34
  subst e27
  subst e35
  have efa : fa = fOf mg "law" := by
    have := hmg.symm.trans m35
    cases this
    rfl
  have TX : Tx mg (fOf mg) := by
    refine ⟨fun x hx => ?_, fun x hx => ?_⟩
    · simp only [List.mem_cons, List.not_mem_nil, or_false] at hx
      rcases hx with rfl | rfl | rfl | rfl | rfl | rfl | rfl | rfl | rfl | rfl | rfl | rfl | rfl | rfl | rfl | rfl | rfl | rfl | rfl | rfl | rfl | rfl | rfl | rfl | rfl | rfl
      · exact m28
      · exact m30
      · exact m1
      · exact m4
      · exact m2
      · exact m3
      · exact m10
      · exact m13
      · exact m19
      · exact m21
      · exact m22
      · exact m23
      · exact m25
      · exact m18
      · exact m31
      · exact m33
      · exact m20
      · exact m14
      · exact m15
      · exact m24
      · exact m16
      · exact m17
      · exact m32
      · exact m34
      · exact m27
      · exact m35
    · simp only [List.mem_cons, List.not_mem_nil, or_false] at hx
      rcases hx with rfl | rfl | rfl | rfl | rfl | rfl | rfl | rfl | rfl | rfl | rfl | rfl | rfl | rfl | rfl | rfl | rfl | rfl | rfl | rfl | rfl
      · exact u0
      · exact u1
      · exact u2
      · exact u3
      · exact u4
      · exact u5
      · exact u6
      · exact u7
      · exact u8
      · exact u9
      · exact u10
      · exact u11
      · exact u12
      · exact u13
      · exact u14
      · exact u15
      · exact u16
      · exact u17
      · exact u18
      · exact u19
      · exact u20
  have F28 := fun_mk (st := top 28) l28 y28 k28
  have B28 := F28.binds (ps := ["_law_pot_here", "_law_many"]) fun _ _ _ _ _ _ us hl => match us, hl with | [_, _], _ => rfl
  have F30 := fun_mk (st := top 30) l30 y30 k30
  have B30 := F30.binds (ps := ["_law_pot_here", "_law_least", "_law_most"]) fun _ _ _ _ _ _ us hl => match us, hl with | [_, _, _], _ => rfl
  have F1 := fun_mk (st := top 1) l1 y1 k1
  have B1 := F1.binds (ps := ["value"]) fun _ _ _ _ _ _ us hl => match us, hl with | [_], _ => rfl
  have F4 := fun_mk (st := top 4) l4 y4 k4
  have B4 := F4.binds (ps := ["value"]) fun _ _ _ _ _ _ us hl => match us, hl with | [_], _ => rfl
  have F2 := fun_mk (st := top 2) l2 y2 k2
  have B2 := F2.binds (ps := ["value"]) fun _ _ _ _ _ _ us hl => match us, hl with | [_], _ => rfl
  have F3 := fun_mk (st := top 3) l3 y3 k3
  have B3 := F3.binds (ps := ["value", "bound"]) fun _ _ _ _ _ _ us hl => match us, hl with | [_, _], _ => rfl
  have F10 := fun_mk (st := top 10) l10 y10 k10
  have B10 := F10.binds (ps := ["value", "many"]) fun _ _ _ _ _ _ us hl => match us, hl with | [_, _], _ => rfl
  have F13 : FunC K "is_web" "is_web" (top 13) (fOf mg "is_web") _ c13 := ⟨⟨oc13, od13, kV13, dc13, pm13, an13, ct13, sl13, rfl, l13, y13⟩, k13⟩
  have B13 := F13.fn.binds (ps := ["value"]) fun _ _ _ _ _ _ us hl => match us, hl with | [_], _ => rfl
  have F19 := fun_mk (st := top 19) l19 y19 k19
  have B19 := F19.binds (ps := ["value"]) fun _ _ _ _ _ _ us hl => match us, hl with | [_], _ => rfl
  have F21 := fun_mk (st := top 21) l21 y21 k21
  have B21 := F21.binds (ps := ["web"]) fun _ _ _ _ _ _ us hl => match us, hl with | [_], _ => rfl
  have F22 := fun_mk (st := top 22) l22 y22 k22
  have B22 := F22.binds (ps := ["web", "one", "other"]) fun _ _ _ _ _ _ us hl => match us, hl with | [_, _, _], _ => rfl
  have F23 := fun_mk (st := top 23) l23 y23 k23
  have B23 := F23.binds (ps := ["web", "copy"]) fun _ _ _ _ _ _ us hl => match us, hl with | [_, _], _ => rfl
  have F25 := fun_mk (st := top 25) l25 y25 k25
  have B25 := F25.binds (ps := ["web"]) fun _ _ _ _ _ _ us hl => match us, hl with | [_], _ => rfl
  have F18 := fun_mk (st := top 18) l18 y18 k18
  have B18 := F18.binds (ps := ["web"]) fun _ _ _ _ _ _ us hl => match us, hl with | [_], _ => rfl
  have F31 := fun_mk (st := top 31) l31 y31 k31
  have B31 := F31.binds (ps := ["_law_ties", "_law_copy"]) fun _ _ _ _ _ _ us hl => match us, hl with | [_, _], _ => rfl
  have F33 := fun_mk (st := top 33) l33 y33 k33
  have B33 := F33.binds (ps := ["_law_ties", "_law_value"]) fun _ _ _ _ _ _ us hl => match us, hl with | [_, _], _ => rfl
  have F20 := fun_mk (st := top 20) l20 y20 k20
  have B20 := F20.binds (ps := ["web"]) fun _ _ _ _ _ _ us hl => match us, hl with | [_], _ => rfl
  have F14 := fun_mk (st := top 14) l14 y14 k14
  have B14 := F14.binds (ps := ["web"]) fun _ _ _ _ _ _ us hl => match us, hl with | [_], _ => rfl
  have F15 := fun_mk (st := top 15) l15 y15 k15
  have B15 := F15.binds (ps := ["web", "copy"]) fun _ _ _ _ _ _ us hl => match us, hl with | [_, _], _ => rfl
  have F24 : FunC K "is_tied_to_some" "is_tied_to_some" (top 24) (fOf mg "is_tied_to_some") _ c24 := ⟨⟨oc24, od24, kV24, dc24, pm24, an24, ct24, sl24, rfl, l24, y24⟩, k24⟩
  have B24 := F24.fn.binds (ps := ["web", "copy", "others"]) fun _ _ _ _ _ _ us hl => match us, hl with | [_, _, _], _ => rfl
  have F16 := fun_mk (st := top 16) l16 y16 k16
  have B16 := F16.binds (ps := ["web"]) fun _ _ _ _ _ _ us hl => match us, hl with | [_], _ => rfl
  have F17 := fun_mk (st := top 17) l17 y17 k17
  have B17 := F17.binds (ps := ["web"]) fun _ _ _ _ _ _ us hl => match us, hl with | [_], _ => rfl
  have F32 := fun_mk (st := top 32) l32 y32 k32
  have B32 := F32.binds (ps := ["_law_ties", "_law_copy"]) fun _ _ _ _ _ _ us hl => match us, hl with | [_, _], _ => rfl
  have F34 := fun_mk (st := top 34) l34 y34 k34
  have B34 := F34.binds (ps := ["_law_pot_here"]) fun _ _ _ _ _ _ us hl => match us, hl with | [_], _ => rfl
  have F27 := fun_mk (st := top 27) l27 y27 k27
  have B27 := F27.binds (ps := ["_law_script", "_law_k"]) fun _ _ _ _ _ _ us hl => match us, hl with | [_, _], _ => rfl
  have F35 := fun_mk (st := top 35) l35 y35 k35
  have B35 := F35.binds (ps := ["_law_script"]) fun _ _ _ _ _ _ us hl => match us, hl with | [_], _ => rfl
  have BL : ∀ (s : Shared) (v : Value), BindsTo s (PySem.W.fnOf "law" "law" (defArgs (top 35)) (defBody (top 35)) (defScope (top 35)) .none kV35 dc35 pm35 an35 cd35 ct35) ⟨[v], []⟩ [("_law_script", v)] := fun s v => .of_eq rfl
  obtain ⟨h13, q13⟩ := PySem.W.tab_of G.T X r13 t13
  obtain ⟨h24, q24⟩ := PySem.W.tab_of G.T X r24 t24
  rw [efa]
  have each : ∀ {C : Addr × Addr → Prop}, C (c13, T13) → C (c24, T24) →  ∀ q ∈ ([(c13, T13), (c24, T24)] : List (Addr × Addr)), C q := fun x13 x24 q hq => by
    simp only [List.mem_cons, List.not_mem_nil, or_false] at hq
    rcases hq with rfl | rfl
    · exact x13
    · exact x24
  refine law_end (k := 10) (x := "_law_script") (cs := [(c13, T13), (c24, T24)]) (sp := spLaw K [T13, T24]) X G.T.g G.T.b G.T.builtins G.T.nolimit ge (by obtain ⟨mm, z, _⟩ := (G.T.seer imp).mods; exact ⟨mm, z⟩) (each q13 q24) (each n13 n24) (each h13 h24) G.T.bmain oa ia (Nat.le_trans la (by decide)) ⟨rfl, by decide, by decide⟩ rfl
    (fun base Xb gb smo TB => ?_) (fun s v => BL s v) (fun H hH hS => ⟨a, ns, rfl, hS, fun b hb => ?_, fun _ => rfl⟩)
  rotate_left 1
  · simp only [List.mem_cons, List.not_mem_nil, or_false] at hb
    rcases hb with e | e
    · rw [e]; exact ⟨#[], hH (c13, T13) (by simp), trivial⟩
    · rw [e]; exact ⟨#[], hH (c24, T24) (by simp), trivial⟩
  have TB13 := TB (c13, T13) (by simp)
  have TB24 := TB (c24, T24) (by simp)
  have G28 := ok__law_draw (P := P) (w := w) (K := K) (mg := mg) (base := base) (T := [T13, T24]) (f := fOf mg) TX F28
  have G30 := ok__law_web (P := P) (w := w) (K := K) (mg := mg) (base := base) (T := [T13, T24]) (f := fOf mg) TX F30 G28 k28 B28
  have G1 := ok_is_integer (P := P) (w := w) (K := K) (mg := mg) (base := base) (T := [T13, T24]) (f := fOf mg) TX F1
  have G4 := ok_is_list (P := P) (w := w) (K := K) (mg := mg) (base := base) (T := [T13, T24]) (f := fOf mg) TX F4
  have G2 := ok_is_count (P := P) (w := w) (K := K) (mg := mg) (base := base) (T := [T13, T24]) (f := fOf mg) TX F2 G1 k1 B1
  have G3 := ok_is_count_below (P := P) (w := w) (K := K) (mg := mg) (base := base) (T := [T13, T24]) (f := fOf mg) TX F3 G2 k2 B2
  have G10 := ok_is_tie (P := P) (w := w) (K := K) (mg := mg) (base := base) (T := [T13, T24]) (f := fOf mg) TX F10 G3 k3 B3
  have G13 := ok_is_web (P := P) (w := w) (K := K) (mg := mg) (base := base) (T := [T13, T24]) (f := fOf mg) TX F13 TB13 (by simp) c_MOST_COPIES G1 k1 B1 G4 k4 B4 G10 k10 B10
  have G19 := ok_check_web (P := P) (w := w) (K := K) (mg := mg) (base := base) (T := [T13, T24]) (f := fOf mg) TX F19 G13 k13 B13
  have G21 := ok_copies_of (P := P) (w := w) (K := K) (mg := mg) (base := base) (T := [T13, T24]) (f := fOf mg) TX F21
  have G22 := ok_are_tied (P := P) (w := w) (K := K) (mg := mg) (base := base) (T := [T13, T24]) (f := fOf mg) TX F22
  have G23 := ok_neighbours_of (P := P) (w := w) (K := K) (mg := mg) (base := base) (T := [T13, T24]) (f := fOf mg) TX F23 G21 k21 B21 G22 k22 B22
  have G25 := ok_first_ring (P := P) (w := w) (K := K) (mg := mg) (base := base) (T := [T13, T24]) (f := fOf mg) TX F25 G21 k21 B21 G22 k22 B22 G23 k23 B23
  have G18 := ok_ring (P := P) (w := w) (K := K) (mg := mg) (base := base) (T := [T13, T24]) (f := fOf mg) TX F18 G19 k19 B19 G25 k25 B25
  have G31 := ok__law_near (P := P) (w := w) (K := K) (mg := mg) (base := base) (T := [T13, T24]) (f := fOf mg) TX F31
  have G33 := ok__law_is_ring (P := P) (w := w) (K := K) (mg := mg) (base := base) (T := [T13, T24]) (f := fOf mg) TX F33 G31 k31 B31
  have G20 := ok_web_as_told (P := P) (w := w) (K := K) (mg := mg) (base := base) (T := [T13, T24]) (f := fOf mg) TX F20
  have GW20 := okW_web_as_told (P := P) (w := w) (K := K) (mg := mg) (base := base) (T := [T13, T24]) (f := fOf mg) TX F20
  have G14 := ok_told_web (P := P) (w := w) (K := K) (mg := mg) (base := base) (T := [T13, T24]) (f := fOf mg) TX F14 G19 k19 B19 G20 k20 B20
  have GW14 := okW_told_web (P := P) (w := w) (K := K) (mg := mg) (base := base) (T := [T13, T24]) (f := fOf mg) TX F14 G19 k19 B19 GW20 k20 B20
  have G15 := ok_neighbours (P := P) (w := w) (K := K) (mg := mg) (base := base) (T := [T13, T24]) (f := fOf mg) TX F15 G19 k19 B19 G3 k3 B3 G23 k23 B23
  have G24 := ok_is_tied_to_some (P := P) (w := w) (K := K) (mg := mg) (base := base) (T := [T13, T24]) (f := fOf mg) TX F24 TB24 (by simp) G22 k22 B22
  have G16 := ok_is_joined (P := P) (w := w) (K := K) (mg := mg) (base := base) (T := [T13, T24]) (f := fOf mg) TX F16 G19 k19 B19 G21 k21 B21 G24 k24 B24
  have G17 := ok_has_ring (P := P) (w := w) (K := K) (mg := mg) (base := base) (T := [T13, T24]) (f := fOf mg) TX F17 G19 k19 B19 G25 k25 B25
  have G32 := ok__law_piece (P := P) (w := w) (K := K) (mg := mg) (base := base) (T := [T13, T24]) (f := fOf mg) TX F32 G31 k31 B31
  have G34 := ok__law_right (P := P) (w := w) (K := K) (mg := mg) (base := base) (T := [T13, T24]) (f := fOf mg) TX F34 smo G30 k30 B30 G28 k28 B28 G13 k13 B13 G14 GW14 k14 B14 G15 k15 B15 G31 k31 B31 G32 k32 B32 G16 k16 B16 G17 k17 B17 G18 k18 B18 G33 k33 B33 (fun s ws hl => match ws, hl with | [_, _], _ => .of_eq rfl) (fun s ws hl => match ws, hl with | [_], _ => .of_eq rfl)
  have G27 := okP (P := P) (w := w) (K := K) (mg := mg) (base := base) (f := fOf mg) TX F27
  exact okL TX F35 G27 k27 B27 G34 k34 B34
end Ev

open PySem PySem.W PyProof.Rows
set_option maxRecDepth 100000 in
set_option maxHeartbeats 0 in
theorem PySem.Challenge.cw_partsmet_k81_whole_webs_and_rings_holds : PySem.Challenge.rw_partsmet_k81_whole_webs_and_rings.Holds := by
  w_on; o_law; k_head; (case hw => w_witness2)
  k_fill
  refine Att.attach_callB (l := PySem.Challenge.rw_partsmet_k81_whole_webs_and_rings) (n := 63) rfl rfl fun w s0 s1 mg mb fa o pm cd doc a us ns G Y ho hd hcd hmg hobj hints hlen hbits hg => ?_
  have KX := PySem.W.kIn_of Y
  refine' Ev.said G KX hmg ?imp hg hobj hints hlen ?r13 ?t13 ?n13 ?r24 ?t24 ?n24 ?am0 ?a28 ?l28 ?y28 ?k28 ?a30 ?l30 ?y30 ?k30 ?a1 ?l1 ?y1 ?k1 ?a4 ?l4 ?y4 ?k4 ?a2 ?l2 ?y2 ?k2 ?a3 ?l3 ?y3 ?k3 ?a10 ?l10 ?y10 ?k10 ?a13 ?l13 ?y13 ?k13 ?a19 ?l19 ?y19 ?k19 ?a21 ?l21 ?y21 ?k21 ?a22 ?l22 ?y22 ?k22 ?a23 ?l23 ?y23 ?k23 ?a25 ?l25 ?y25 ?k25 ?a18 ?l18 ?y18 ?k18 ?a31 ?l31 ?y31 ?k31 ?a33 ?l33 ?y33 ?k33 ?a20 ?l20 ?y20 ?k20 ?a14 ?l14 ?y14 ?k14 ?a15 ?l15 ?y15 ?k15 ?a24 ?l24 ?y24 ?k24 ?a16 ?l16 ?y16 ?k16 ?a17 ?l17 ?y17 ?k17 ?a32 ?l32 ?y32 ?k32 ?a34 ?l34 ?y34 ?k34 ?a27 ?l27 ?y27 ?k27 ?a35 ?l35 ?y35 ?k35 ?z0 ?z1 ?z2 ?z3 ?z4 ?z5 ?z6 ?z7 ?z8 ?z9 ?z10 ?z11 ?z12 ?z13 ?z14 ?z15 ?z16 ?z17 ?z18 ?z19 ?z20
  case imp => decide +kernel
  case r13 => rfl
  case t13 => rfl
  case n13 => rfl
  case r24 => rfl
  case t24 => rfl
  case n24 => rfl
  case am0 => k_is
  case a28 => k_is
  case l28 => k_is
  case y28 => k_is
  case k28 => k_is
  case a30 => k_is
  case l30 => k_is
  case y30 => k_is
  case k30 => k_is
  case a1 => k_is
  case l1 => k_is
  case y1 => k_is
  case k1 => k_is
  case a4 => k_is
  case l4 => k_is
  case y4 => k_is
  case k4 => k_is
  case a2 => k_is
  case l2 => k_is
  case y2 => k_is
  case k2 => k_is
  case a3 => k_is
  case l3 => k_is
  case y3 => k_is
  case k3 => k_is
  case a10 => k_is
  case l10 => k_is
  case y10 => k_is
  case k10 => k_is
  case a13 => k_is
  case l13 => k_is
  case y13 => k_is
  case k13 => k_is
  case a19 => k_is
  case l19 => k_is
  case y19 => k_is
  case k19 => k_is
  case a21 => k_is
  case l21 => k_is
  case y21 => k_is
  case k21 => k_is
  case a22 => k_is
  case l22 => k_is
  case y22 => k_is
  case k22 => k_is
  case a23 => k_is
  case l23 => k_is
  case y23 => k_is
  case k23 => k_is
  case a25 => k_is
  case l25 => k_is
  case y25 => k_is
  case k25 => k_is
  case a18 => k_is
  case l18 => k_is
  case y18 => k_is
  case k18 => k_is
  case a31 => k_is
  case l31 => k_is
  case y31 => k_is
  case k31 => k_is
  case a33 => k_is
  case l33 => k_is
  case y33 => k_is
  case k33 => k_is
  case a20 => k_is
  case l20 => k_is
  case y20 => k_is
  case k20 => k_is
  case a14 => k_is
  case l14 => k_is
  case y14 => k_is
  case k14 => k_is
  case a15 => k_is
  case l15 => k_is
  case y15 => k_is
  case k15 => k_is
  case a24 => k_is
  case l24 => k_is
  case y24 => k_is
  case k24 => k_is
  case a16 => k_is
  case l16 => k_is
  case y16 => k_is
  case k16 => k_is
  case a17 => k_is
  case l17 => k_is
  case y17 => k_is
  case k17 => k_is
  case a32 => k_is
  case l32 => k_is
  case y32 => k_is
  case k32 => k_is
  case a34 => k_is
  case l34 => k_is
  case y34 => k_is
  case k34 => k_is
  case a27 => k_is
  case l27 => k_is
  case y27 => k_is
  case k27 => k_is
  case a35 => k_is
  case l35 => k_is
  case y35 => k_is
  case k35 => k_is
  case z0 => k_is
  case z1 => k_is
  case z2 => k_is
  case z3 => k_is
  case z4 => k_is
  case z5 => k_is
  case z6 => k_is
  case z7 => k_is
  case z8 => k_is
  case z9 => k_is
  case z10 => k_is
  case z11 => k_is
  case z12 => k_is
  case z13 => k_is
  case z14 => k_is
  case z15 => k_is
  case z16 => k_is
  case z17 => k_is
  case z18 => k_is
  case z19 => k_is
  case z20 => k_is
