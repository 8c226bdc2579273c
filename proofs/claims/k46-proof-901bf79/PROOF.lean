import PyProof.Rows.All
import Wide.All
import OpenK.AllK
import Wide.FinOn
import HandS.ForMost
import HandS.AnyAll
import HandS.GenOver
import HandS.IsInst
import HandS.Strs
import HandS.SetFor
import HandS.Deep
import HandS.Conv
import HandS.Style
import HandS.Sort
import PyProof.ReprRoads
import PyProof.CallFns
import HandS.TupSets
import KE.SortData
import KE.LtSeq
import KE.DataEq
import HandS.Wide
import HandS.TupLe
import PyProof.TupleOfSeq
import HandS.Keys
import HandS.DictComp
import HandS.ListItems
import HandS.Zip
import HandS.More
import KE.DataMinKey
import KE.DataMinMax
import HandS.EndTab
import HandS.Head0
import HandS.Head1
import HandS.Head2
import HandS.HeadHook4
import HandS.Steps
import HandS.Defaults
import PySem.Challenge.RW_partsmet_k46_whole_grades_by_all_states
set_option Elab.async false
set_option linter.all false
set_option maxRecDepth 100000
set_option maxHeartbeats 4000000
namespace Gx
open PySem PySem.Spec PyProof.Rows L2
/-- the scope of the generator expression, over the scope of the def around -/
structure GScp (N : List Str) (sc scope : Scope) (x : Str) (ix : Nat) : Prop where
  kind : scope.kind = .function
  co : scope.isCoroutine = false
  cell : ∀ y ∈ scope.names, y.2 ≠ .cell
  dot : scope.names.lookup (".0" : Str) = some NameKind.local
  loc : ∀ y, scope.names.lookup y = some .local → y = (".0" : Str) ∨ y = x
  xl : scope.names.lookup x = some .local
  free : ∀ y ∈ scope.names, y.2 = .free → sc.names.lookup y.1 = some .cell ∨ sc.names.lookup y.1 = some .free
  nd : N.Nodup
  spot : N[ix]? = some x
  nodot : (".0" : Str) ∉ N
/-- the context in which the generator's code runs: entered at s -/
def gcx (X : Cx) (A : Around) (s : Shared) (H : Hp) (env : Env) (fp : List Addr) : Cx where
  prog := X.prog
  w := X.w
  K := X.K
  mg := X.mg
  base := X.base
  A := A
  N := X.N
  s_0 := s
  H_0 := H
  env := env
  outer := X.stack
  stack := env :: X.stack
  ex := fp
  fn := fun _ => false
  calm := true
  pn := []
  xe := fun _ _ => False
/-- states with other generators alone -/
theorem inv_gens {X : Cx} {pins : List (Addr × Obj)} {σ : L2.St} {H : Hp} {s : Shared} (I : Inv X pins σ H s) {g' : Array GenState} (hb : AllBare g') : Inv X pins σ H { s with gens := g' } :=
  ⟨I.ok, I.os, hb, I.base, I.loc, I.cell, I.free, I.freeC, I.pin, I.hok, I.len⟩
theorem bare_set {G : Array GenState} {g : Nat} {x : GenState} (h : AllBare G) (hx : x.bare = true) : AllBare (G.setIfInBounds g x) := by
  intro y hy
  rcases Array.mem_or_eq_of_mem_setIfInBounds hy with q | q
  · exact h y q
  · rw [q]; exact hx
section
variable {X : Cx} {pins : List (Addr × Obj)} {σ : L2.St} {H : Hp} {s : Shared}
theorem clo_sub {env : Env} {scope : Scope} (has : ∀ y ∈ scope.names, y.2 = .free → ∃ c, env.cells.lookup y.1 = some c) {y : Str} {c : Addr} (e : (cloFrom env.cells scope.names []).lookup y = some c) : env.cells.lookup y = some c := by
  rcases cloFrom_mem (PySem.mem_of_lookup e) with hm | ⟨h1, h2⟩
  · cases hm
  · obtain ⟨c1, hc⟩ := has _ h1 rfl
    have hc' : env.cells.lookup y = some c1 := hc
    have : c = c1 := by rw [h2, hc'] <;> rfl
    rw [this]; exact hc'
/-- the generator's frame has been laid: the invariant of its context -/
theorem gx_start {N : List Str} {scope : Scope} {x : Str} {ix : Nat} {A : Around} {code : Value} {fp : List Addr} {itv : Value} {h1 : Heap} {tk : Nat} {gens' : Array GenState} {pin : List (Addr × Obj)}
    (I : Inv X pins σ H s) (G : GScp X.N X.env.scope scope x ix)
    (hA : A.frames = some (genEnv scope (cloFrom X.env.cells scope.names []) s.heap.objs.size code builtinsNs X.env :: X.stack)) (hd : A.handled = none)
    (hfp : ∀ b ∈ fp, FpOk X pins H b) (hlt : ∀ b ∈ fp, b < s.heap.objs.size)
    (hns : h1.Ns s.heap.objs.size fun y => if y = (".0" : Str) then some itv else none) (kp : ∀ b o, s.heap.get? b = some o → h1.get? b = some o) (hb : AllBare gens')
    (hpin : ∀ p ∈ pin, h1.get? p.1 = some p.2 ∧ s.heap.objs.size < p.1 ∧ ∀ v, p.2.data ≠ .cell v) :
    Inv (gcx X A s H (genEnv scope (cloFrom X.env.cells scope.names []) s.heap.objs.size code builtinsNs X.env) fp) pin (σ.set ix none) H { s with heap := h1, toks := tk, gens := gens' } := by
  have has : ∀ y ∈ scope.names, y.2 = .free → ∃ c, X.env.cells.lookup y.1 = some c := fun y hy e => by
    rcases G.free y hy e with k | k
    · exact I.ok.has _ (.inl k)
    · exact I.ok.has _ (.inr k)
  have cm : ∀ {y c}, (cloFrom X.env.cells scope.names []).lookup y = some c → X.env.cells.lookup y = some c := fun {y c} e => clo_sub has e
  have look : ∀ {y}, scope.names.lookup y = some .free → ∃ c, (cloFrom X.env.cells scope.names []).lookup y = some c := fun {y} hl => by
    have hy : (y, NameKind.free) ∈ scope.names := PySem.mem_of_lookup hl
    exact mem_lookup (cloFrom_has (cells := X.env.cells) (acc := []) hy)
  have cellK : ∀ {c : Addr} {v : Option Value}, s.heap.IsCell c v → h1.IsCell c v := fun {c v} ⟨o, ho, hd⟩ => ⟨o, kp _ _ ho, hd⟩
  refine ⟨⟨I.ok.mod, G.kind, I.ok.glob, rfl, Nat.le_refl _, fun y z c e1 e2 => I.ok.inj y z c (cm e1) (cm e2), fun y hy => ?_, fun y c z _ => ?_, fun _ => hd, hA, .inr ⟨rfl, rfl⟩, fun b hb => ⟨Nat.ne_of_lt (hlt b hb), fun y c e => ?_⟩, I.bs,
      Nat.le_trans I.ok.bsz I.sz, fun b o e hb => ?_, fun b hb hm => ?_, I.stack, I.stkFree⟩,
    rfl, hb, Un.kept kp, ⟨_, hns, fun i y v e1 e2 e3 => ?_⟩, fun y c e => ?_, I.hok.fresh (Nat.le_refl _), fun y c e => I.freeC y c (cm e), fun p hp => ?_, I.hok.kept kp, ?_⟩
  · have hy : scope.names.lookup y = some .cell ∨ scope.names.lookup y = some .free := hy
    rcases hy with hy | hy
    · exact absurd rfl (G.cell _ (PySem.mem_of_lookup hy))
    · exact look hy
  · cases z
  · exact (hfp b hb).2.2.2.2.1 y c (cm e)
  · obtain ⟨_, _, _, h4, _⟩ := hfp b hb
    rcases h4 with h4 | h4
    · exact I.ok.noex b o e h4
    · exact absurd (Nat.lt_of_lt_of_le (Nat.lt_of_lt_of_le (Heap.lt_size e) I.ok.bsz) h4) (Nat.lt_irrefl _)
  · obtain ⟨_, h2, h3, _⟩ := hfp b hb
    rcases List.mem_cons.mp (I.stkSub b hm) with z | z
    · exact h2 z
    · exact h3 z
  · have e3 : Vis scope y := e3
    have e2' : i ≠ ix ∧ σ[i]? = some (some v) := by
      by_cases hi : i = ix
      · subst hi
        have hl : i < σ.length := by
          rw [I.len]
          exact (List.getElem?_eq_some_iff.mp G.spot).1
        rw [List.getElem?_set_self hl] at e2
        cases e2
      · rw [List.getElem?_set_ne (fun q => hi q.symm)] at e2
        exact ⟨hi, e2⟩
    rcases e3 with k | k | k
    · rcases G.loc y k with z | z
      · exact absurd (List.mem_of_getElem? (show X.N[i]? = some (".0" : Str) by rw [← z]; exact e1)) G.nodot
      · exact absurd (nodup_ix G.nd (show X.N[i]? = some x by rw [← z]; exact e1) G.spot) e2'.1
    · exact absurd rfl (G.cell _ (PySem.mem_of_lookup k))
    · obtain ⟨m, hn, hl⟩ := I.loc
      have hfr := G.free _ (PySem.mem_of_lookup k) rfl
      have hvis : Vis X.env.scope y := hfr.elim (fun k => .inr (.inl k)) (fun k => .inr (.inr k))
      obtain ⟨w', r, q⟩ := hl i y v e1 e2'.2 hvis
      obtain ⟨c2, h2⟩ := look k
      refine ⟨w', r, .inr ⟨.inr k, c2, h2, ?_⟩⟩
      have c1 := cm h2
      rcases q with ⟨k', _⟩ | ⟨_, c3, e', z⟩
      · have k' : X.env.scope.names.lookup y = some .local := k'
        rcases hfr with k2 | k2 <;> rw [show X.env.scope.names.lookup y = _ from k2] at k' <;> cases k'
      · rw [c1] at e'
        cases e'
        exact cellK z
  · obtain ⟨w', z⟩ := I.cell y c (cm e)
    exact ⟨w', cellK z⟩
  · have hp' : p ∈ pin := by
      rcases List.mem_append.mp hp with z | z
      · exact absurd (show p ∈ ([] : List (Addr × Obj)) from z) (by simp)
      · exact z
    obtain ⟨q1, q2, q3⟩ := hpin p hp'
    refine ⟨q1, I.hok.fresh (Nat.le_of_lt q2), Nat.ne_of_gt q2, fun hm => ?_, q3⟩
    have hm' : p.1 ∈ frs X.stack := hm
    rcases List.mem_cons.mp (I.stkSub _ hm') with z | z
    · have := I.lt
      rw [← z] at this
      exact absurd (Nat.lt_trans this q2) (Nat.lt_irrefl _)
    · exact I.nofs (Nat.le_of_lt q2) z
  · rw [List.length_set]; exact I.len
end
/-- what is wanted of it: W between the turns (behind i items), Out behind an item that was handed out and will not be followed, Fin behind the last -/
structure Plan where
  W : Nat → L2.St → Hp → Prop
  Out : Bool → Nat → L2.St → Hp → Prop
  Fin : Hp → Prop
def gY (Z : Cx) (pin : List (Addr × Obj)) (fp : List Addr) (tn : Nat → Heap → Prop) (Pn : Plan) (go : Bool) (n g : Nat) : Protocol := fun m _ v s kap =>
  ∃ (i : Nat) (b : Bool) (σ : L2.St) (H : Hp), i + m + 1 = n ∧ v = .bool b ∧ Inv Z pin σ H s ∧ g < s.gens.size ∧
    (if b = go then Pn.W (i + 1) σ H else Pn.Out b i σ H) ∧
    (b = go → ∀ s'' : Shared, s''.heap = s.heap → s''.os = s.os → AllBare s''.gens → g < s''.gens.size → kap (.send .none) s'')
def gP (Z : Cx) (pin : List (Addr × Obj)) (Pn : Plan) (g : Nat) : Nat → Shared → Shared → Prop := fun _ _ s => ∃ σ H, Inv Z pin σ H s ∧ Pn.Fin H ∧ g < s.gens.size
/-- one item, the plan's way -/
def Turns (J : It) (g : TG) (te : TE) (go : Bool) (n : Nat) (Pn : Plan) : Prop :=
  ∀ i σ H, i ≤ n → Pn.W i σ H → (J.stop i H ∧ Pn.Fin H) ∨ (i < n ∧ J.go i H ∧ ∀ x H', J.yld i H x H' → g x σ H' fun σ2 H2 => te σ2 H2 fun v H3 => ∃ b, v = .bl b ∧ if b = go then Pn.W (i + 1) σ2 H3 else Pn.Out b i σ2 H3)
theorem inv_same {Z : Cx} {pin : List (Addr × Obj)} {σ : L2.St} {H : Hp} {s s' : Shared} (I : Inv Z pin σ H s) (hh : s'.heap = s.heap) (ho : s'.os = s.os) (hb : AllBare s'.gens) : Inv Z pin σ H s' := by
  obtain ⟨hp, gg, d, t, os⟩ := s'
  subst hh
  subst ho
  exact ⟨I.ok, I.os, hb, I.base, I.loc, I.cell, I.free, I.freeC, I.pin, I.hok, I.len⟩
theorem seg_turns {Z : Cx} {elt tg iter : Expr} {scope : Scope} {pos : Pos} {it : Addr} {fp : List Addr} {tn : Nat → Heap → Prop} {J : It} {gt : TG} {te : TE} {A : Around} {pin : List (Addr × Obj)} {go : Bool} {n g : Nat} {Pn : Plan}
    (T : Turn Z.prog Z.w Z.K tg J fp it tn) (hg : PG Z tg gt) (hel : PE Z elt te) (hx : ∀ e s, ¬ Z.xe e s) (hc : Z.calm = true) (hco : Z.env.scope.isCoroutine = false)
    (hA : A.over (.compLoop (.GeneratorExp elt [⟨tg, iter, [], 0⟩] scope pos) 0 (.ref it) .none Z.env) [] = Z.A) (tt : Turns J gt te go n Pn)
    (stat : ∀ {H : Hp}, (∀ d ∈ fp, H d = none) → ∀ d ∈ fp, FpOk Z pin H d) :
    ∀ (k i : Nat) (s₀ s : Shared) (σ : L2.St) (H : Hp), i + k = n → Inv Z pin σ H s → tn i s.heap → (∀ d ∈ fp, H d = none) → g < s.gens.size → Pn.W i σ H →
      Seg (model Z.prog Z.w) A (fun m s₁ r s₂ => r = .ok .next ∧ gP Z pin Pn g m s₁ s₂) (gY Z pin fp tn Pn go n g) k s₀
        (.compLoop (.GeneratorExp elt [⟨tg, iter, [], 0⟩] scope pos) 0 (.ref it) .none Z.env)
        ((model Z.prog Z.w).den (.compLoop (.GeneratorExp elt [⟨tg, iter, [], 0⟩] scope pos) 0 (.ref it) .none Z.env)) [] s := by
  intro k
  induction k with
  | zero =>
    intro i s₀ s σ H hk I hst hn hgz hw
    show Seg _ A _ _ _ s₀ _ ((compTurn (.GeneratorExp elt [⟨tg, iter, [], 0⟩] scope pos) 0 (.ref it) .none Z.env).onRaise (leaving Z.env)) [] s
    rw [compTurn_gen, Sem.onRaise_eq_wrap]
    refine seg_bind_wrap (wpAny_standAt ?_)
    rcases tt i σ H (by omega) hw with ⟨stp, fin⟩ | ⟨hlt, _⟩
    · refine seg_bind_wrap ?_
      rw [hA]
      refine GenW.wpAny_gsz (n := g + 1) hgz (wpAny_mono (T.done Z rfl rfl rfl hc i pin s σ H (fun _ _ => False) I (stat hn) hst stp) (fun r s1 h1 hz => ?_) fun _ _ e => e.elim)
      obtain ⟨hr, I1⟩ := h1
      subst hr
      exact seg_end (.ok .next) ⟨rfl, σ, H, I1, fin, hz⟩
    · exact absurd hlt (by omega)
  | succ k ih =>
    intro i s₀ s σ H hk I hst hn hgz hw
    show Seg _ A _ _ _ s₀ _ ((compTurn (.GeneratorExp elt [⟨tg, iter, [], 0⟩] scope pos) 0 (.ref it) .none Z.env).onRaise (leaving Z.env)) [] s
    rw [compTurn_gen, Sem.onRaise_eq_wrap]
    refine seg_bind_wrap (wpAny_standAt ?_)
    refine seg_bind_wrap ?_
    rw [hA]
    rcases tt i σ H (by omega) hw with ⟨stp, fin⟩ | ⟨hlt, gO, step⟩
    · refine GenW.wpAny_gsz (n := g + 1) hgz (wpAny_mono (T.done Z rfl rfl rfl hc i pin s σ H (fun _ _ => False) I (stat hn) hst stp) (fun r s1 h1 hz => ?_) fun _ _ e => e.elim)
      obtain ⟨hr, I1⟩ := h1
      subst hr
      exact seg_end (.ok .next) ⟨rfl, σ, H, I1, fin, hz⟩
    · refine GenW.wpAny_gsz (n := g + 1) hgz (wpAny_mono (T.item Z rfl rfl rfl hc i pin s σ H (fun _ _ => False) I (stat hn) hst gO) (fun r s1 h1 hz1 => ?_) fun _ _ e => e.elim)
      obtain ⟨u, hr, h1⟩ := h1
      subst hr
      refine seg_bind_wrap ?_
      rw [hA]
      refine GenW.wpAny_gsz (n := g + 1) hz1 (wpAny_mono h1 (fun _ s2 h2 hz2 => ?_) fun _ _ e => e.elim)
      obtain ⟨x, H2, I2, r2, y2, st2, n2⟩ := h2
      have P2 := I2.pinned (stat n2) (T.obj _ _ st2)
      refine seg_bind_wrap ?_
      rw [hA]
      refine GenW.wpAny_gsz (n := g + 1) hz2 (wpAny_mono (hg.run _ s2 σ H2 x u _ P2 r2 (step x H2 y2)) (fun _ s3 h3 hz3 => ?_) fun e s3 he _ => (hx e s3 he).elim)
      obtain ⟨σ3, H3, I3, q3⟩ := h3
      refine seg_bind_wrap ?_
      simp only [List.forIn_nil]
      refine wpAny_pure ?_
      simp only [if_true]
      have hy : ∀ v, yieldOut Z.env v = yieldValue v := fun v => by simp only [yieldOut, hco, Bool.false_eq_true, if_false]
      simp only [hy]
      rw [Sem.bind_eq_wrap', Sem.bind_eq_wrap', Sem.wrap_wrap, Sem.wrap_wrap]
      refine seg_wrap ?_
      rw [hA]
      refine GenW.wpAny_gsz (n := g + 1) hz3 (wpAny_mono (hel.run _ s3 σ3 H3 _ I3 q3) (fun v s4 h4 hz4 => ?_) fun e s4 he _ => (hx e s4 he).elim)
      obtain ⟨w4, H4, I4, r4, b, eb, q4⟩ := h4
      subst eb
      obtain rfl : v = Value.bool b := r4
      have st4 : tn (i + 1) s4.heap := T.keep _ _ _ st2 fun d hd o e => (I4.pin (d, o) (List.mem_append_right _ (List.mem_append_right _ (mem_pinsAt hd e)))).1
      have n4 : ∀ d ∈ fp, H4 d = none := fun d hd => by
        obtain ⟨o, e, _⟩ := T.obj _ _ st2 d hd
        exact (I4.pin (d, o) (List.mem_append_right _ (List.mem_append_right _ (mem_pinsAt hd e)))).2.1
      have I4' := I4.unpinned
      refine seg_at (seg_yield rfl rfl rfl ⟨i, b, σ3, H4, by omega, rfl, I4', hz4, q4, fun hb s'' e1 e2 e3 e4 => ?_⟩)
      rw [if_pos hb] at q4
      exact seg_again rfl (ih (i + 1) s'' s'' σ3 H4 (by omega) (inv_same I4' e1 e2 e3) (by rw [e1]; exact st4) n4 e4 q4)
theorem seg_begin {Z : Cx} {elt tg iter : Expr} {scope : Scope} {pos : Pos} {it : Addr} {fp : List Addr} {tn : Nat → Heap → Prop} {J : It} {gt : TG} {te : TE} {A : Around} {pin : List (Addr × Obj)} {go : Bool} {n g : Nat} {Pn : Plan}
    (T : Turn Z.prog Z.w Z.K tg J fp it tn) (hg : PG Z tg gt) (hel : PE Z elt te) (hx : ∀ e s, ¬ Z.xe e s) (hc : Z.calm = true) (hco : Z.env.scope.isCoroutine = false)
    (hA : A.over (.compLoop (.GeneratorExp elt [⟨tg, iter, [], 0⟩] scope pos) 0 (.ref it) .none Z.env) [] = Z.A) (tt : Turns J gt te go n Pn)
    (stat : ∀ {H : Hp}, (∀ d ∈ fp, H d = none) → ∀ d ∈ fp, FpOk Z pin H d)
    (s₀ s : Shared) (σ : L2.St) (H : Hp) (I : Inv Z pin σ H s) (hst : tn 0 s.heap) (hn : ∀ d ∈ fp, H d = none) (hgz : g < s.gens.size) (hw : Pn.W 0 σ H) :
    Seg (model Z.prog Z.w) A (fun m s₁ r s₂ => r = .ok .next ∧ gP Z pin Pn g m s₁ s₂) (gY Z pin fp tn Pn go n g) n s₀
      (.compStart (.GeneratorExp elt [⟨tg, iter, [], 0⟩] scope pos) 0 (.ref it) .none Z.env)
      ((model Z.prog Z.w).den (.compStart (.GeneratorExp elt [⟨tg, iter, [], 0⟩] scope pos) 0 (.ref it) .none Z.env)) [] s := by
  have lp := seg_turns (pos := pos) T hg hel hx hc hco hA tt stat n 0 s₀ s σ H (by omega) I hst hn hgz hw
  show Seg _ A _ _ _ s₀ _ ((compStart (.GeneratorExp elt [⟨tg, iter, [], 0⟩] scope pos) 0 (.ref it) .none Z.env).onRaise (leaving Z.env)) [] s
  unfold compStart
  rw [Sem.onRaise_eq_wrap]
  show Seg _ A _ _ _ s₀ _ ((ask >>= _).wrap _ _ _ _) [] s
  refine seg_bind_wrap (wpAny_askSetting ?_)
  split
  · exact seg_again rfl lp
  · refine seg_bind_wrap (wpAny_rule ?_)
    show Seg _ A _ _ _ s₀ _ ((standAt iter.pos >>= _).wrap _ _ _ _) [] s
    exact seg_bind_wrap (wpAny_standAt (seg_bind_wrap (T.self _ 0 s _ _ hst (seg_again rfl lp))))
theorem isGen_pin {Z : Cx} {σ : L2.St} {H : Hp} {s : Shared} {a : Addr} {o : Obj} {g : Nat} {nm qn : Value} (hc : o.cls = .type "generator") (hd : o.data = .fields #[.int g 0, nm, qn]) (hs : o.slots = #[]) (I : Inv Z [(a, o)] σ H s) : s.heap.IsGen a g :=
  ⟨o, nm, qn, (I.pin (a, o) (List.mem_append_right _ (List.mem_singleton.mpr rfl))).1, hc, hd, hs⟩
section
variable {Z : Cx} {fp : List Addr} {tn : Nat → Heap → Prop} {A : Around} {a : Addr} {o : Obj} {n g : Nat} {Pn : Plan} {R : Result → Shared → Prop} {nm qn : Value}
theorem all_walk (hoc : o.cls = .type "generator") (hod : o.data = .fields #[.int g 0, nm, qn]) (hos : o.slots = #[]) (hh : A.handled = none) (hroom : A.depth < recursionLimit)
    (hOut : ∀ i σ H s, Inv Z [(a, o)] σ H s → Pn.Out false i σ H → R (.ok (.ret (.bool false))) s)
    (hFin : ∀ σ H s, Inv Z [(a, o)] σ H s → Pn.Fin H → R (.ok (.ret (.bool true))) s) :
    ∀ (m : Nat) (s : Shared) (gs : GenState) (σ : L2.St) (H : Hp), Inv Z [(a, o)] σ H s → s.gens[g]? = some gs → gs.Goes (model Z.prog Z.w) A.in1.in1 (fun m s₁ r s₂ => r = .ok .next ∧ gP Z [(a, o)] Pn g m s₁ s₂) (gY Z [(a, o)] fp tn Pn true n g) m (.send .none) (s.setGen g .running) →
      codeAny (model Z.prog Z.w) A (.builtin "all.loop" ⟨[.ref a], []⟩) R s := by
  intro m
  induction m with
  | zero =>
    intro s gs σ H I hgs hgo
    refine codeAny_builtin F.entry_all_loop ?_
    rw [Around.under_plainId F.plain_all_loop _]
    show wpAny _ A.in1 (pyNext (.ref a) >>= _) _ _ s
    refine wpAny_bind (wpAny_pyNext_genexpQ (P := gP Z [(a, o)] Pn g) hh I.nolimit hroom (isGen_pin hoc hod hos I) hgs hgo (fun v s₁ gs' hb hv => ?_) (fun s₁ hp h' hk => ?_))
    · obtain ⟨i, b, σ1, H1, hi, rfl, I1, hz, q, hkap⟩ := hv
      cases b with
      | true => exact (hkap rfl s₁ rfl rfl I1.bare hz).elim
      | false =>
        refine wpAny_bind (wpAny_holding (wpAny_truthy_bool ?_))
        refine wpAny_bind (wpAny_letGo ?_)
        simp only [Bool.false_eq_true, if_false]
        refine wpAny_bind (wpAny_rule (wpAny_pure ?_))
        exact hOut i σ1 H1 _ (inv_gens I1 (bare_set I1.bare hb)) (by simpa using q)
    · obtain ⟨σ1, H1, I1, q, hz⟩ := hp
      refine wpAny_bind (wpAny_rule (wpAny_pure ?_))
      exact hFin σ1 H1 _ ((inv_gens I1 (bare_set I1.bare rfl)).kept hk) q
  | succ m ih =>
    intro s gs σ H I hgs hgo
    refine codeAny_builtin F.entry_all_loop ?_
    rw [Around.under_plainId F.plain_all_loop _]
    show wpAny _ A.in1 (pyNext (.ref a) >>= _) _ _ s
    refine wpAny_bind (wpAny_pyNext_genexpQ (P := gP Z [(a, o)] Pn g) hh I.nolimit hroom (isGen_pin hoc hod hos I) hgs hgo (fun v s₁ gs' hb hv => ?_) (fun s₁ hp h' hk => ?_))
    · obtain ⟨i, b, σ1, H1, hi, rfl, I1, hz, q, hkap⟩ := hv
      refine wpAny_bind (wpAny_holding (wpAny_truthy_bool ?_))
      refine wpAny_bind (wpAny_letGo ?_)
      have hz' : g < (s₁.setGen g gs').gens.size := by rw [GenW.setGen_size]; exact hz
      cases b with
      | true =>
        simp only [if_true]
        refine wpAny_pure ⟨plainId_quiet F.plain_all_loop _, ih (s₁.setGen g gs') gs' σ1 H1 (inv_gens I1 (bare_set I1.bare hb)) ?_ ?_⟩
        · show (s₁.gens.setIfInBounds g gs')[g]? = some gs'
          rw [Array.getElem?_setIfInBounds_self_of_lt hz]
        · exact hkap rfl _ rfl rfl (bare_set (bare_set I1.bare hb) rfl) (by rw [GenW.setGen_size]; exact hz')
      | false =>
        simp only [Bool.false_eq_true, if_false]
        refine wpAny_bind (wpAny_rule (wpAny_pure ?_))
        exact hOut i σ1 H1 _ (inv_gens I1 (bare_set I1.bare hb)) (by simpa using q)
    · obtain ⟨σ1, H1, I1, q, hz⟩ := hp
      refine wpAny_bind (wpAny_rule (wpAny_pure ?_))
      exact hFin σ1 H1 _ ((inv_gens I1 (bare_set I1.bare rfl)).kept hk) q
theorem any_walk (hoc : o.cls = .type "generator") (hod : o.data = .fields #[.int g 0, nm, qn]) (hos : o.slots = #[]) (hh : A.handled = none) (hroom : A.depth < recursionLimit)
    (hOut : ∀ i σ H s, Inv Z [(a, o)] σ H s → Pn.Out true i σ H → R (.ok (.ret (.bool true))) s)
    (hFin : ∀ σ H s, Inv Z [(a, o)] σ H s → Pn.Fin H → R (.ok (.ret (.bool false))) s) :
    ∀ (m : Nat) (s : Shared) (gs : GenState) (σ : L2.St) (H : Hp), Inv Z [(a, o)] σ H s → s.gens[g]? = some gs → gs.Goes (model Z.prog Z.w) A.in1.in1 (fun m s₁ r s₂ => r = .ok .next ∧ gP Z [(a, o)] Pn g m s₁ s₂) (gY Z [(a, o)] fp tn Pn false n g) m (.send .none) (s.setGen g .running) →
      codeAny (model Z.prog Z.w) A (.builtin "any.loop" ⟨[.ref a], []⟩) R s := by
  intro m
  induction m with
  | zero =>
    intro s gs σ H I hgs hgo
    refine codeAny_builtin F.entry_any_loop ?_
    rw [Around.under_plainId F.plain_any_loop _]
    show wpAny _ A.in1 (pyNext (.ref a) >>= _) _ _ s
    refine wpAny_bind (wpAny_pyNext_genexpQ (P := gP Z [(a, o)] Pn g) hh I.nolimit hroom (isGen_pin hoc hod hos I) hgs hgo (fun v s₁ gs' hb hv => ?_) (fun s₁ hp h' hk => ?_))
    · obtain ⟨i, b, σ1, H1, hi, rfl, I1, hz, q, hkap⟩ := hv
      cases b with
      | false => exact (hkap rfl s₁ rfl rfl I1.bare hz).elim
      | true =>
        refine wpAny_bind (wpAny_holding (wpAny_truthy_bool ?_))
        refine wpAny_bind (wpAny_letGo ?_)
        simp only [if_true]
        refine wpAny_bind (wpAny_rule (wpAny_pure ?_))
        exact hOut i σ1 H1 _ (inv_gens I1 (bare_set I1.bare hb)) (by simpa using q)
    · obtain ⟨σ1, H1, I1, q, hz⟩ := hp
      refine wpAny_bind (wpAny_rule (wpAny_pure ?_))
      exact hFin σ1 H1 _ ((inv_gens I1 (bare_set I1.bare rfl)).kept hk) q
  | succ m ih =>
    intro s gs σ H I hgs hgo
    refine codeAny_builtin F.entry_any_loop ?_
    rw [Around.under_plainId F.plain_any_loop _]
    show wpAny _ A.in1 (pyNext (.ref a) >>= _) _ _ s
    refine wpAny_bind (wpAny_pyNext_genexpQ (P := gP Z [(a, o)] Pn g) hh I.nolimit hroom (isGen_pin hoc hod hos I) hgs hgo (fun v s₁ gs' hb hv => ?_) (fun s₁ hp h' hk => ?_))
    · obtain ⟨i, b, σ1, H1, hi, rfl, I1, hz, q, hkap⟩ := hv
      refine wpAny_bind (wpAny_holding (wpAny_truthy_bool ?_))
      refine wpAny_bind (wpAny_letGo ?_)
      have hz' : g < (s₁.setGen g gs').gens.size := by rw [GenW.setGen_size]; exact hz
      cases b with
      | false =>
        simp only [Bool.false_eq_true, if_false]
        refine wpAny_pure ⟨plainId_quiet F.plain_any_loop _, ih (s₁.setGen g gs') gs' σ1 H1 (inv_gens I1 (bare_set I1.bare hb)) ?_ ?_⟩
        · show (s₁.gens.setIfInBounds g gs')[g]? = some gs'
          rw [Array.getElem?_setIfInBounds_self_of_lt hz]
        · exact hkap rfl _ rfl rfl (bare_set (bare_set I1.bare hb) rfl) (by rw [GenW.setGen_size]; exact hz')
      | true =>
        simp only [if_true]
        refine wpAny_bind (wpAny_rule (wpAny_pure ?_))
        exact hOut i σ1 H1 _ (inv_gens I1 (bare_set I1.bare hb)) (by simpa using q)
    · obtain ⟨σ1, H1, I1, q, hz⟩ := hp
      refine wpAny_bind (wpAny_rule (wpAny_pure ?_))
      exact hFin σ1 H1 _ ((inv_gens I1 (bare_set I1.bare rfl)).kept hk) q
end
/-- the code that runs in the generator's frame, from a builtin's loop -/
abbrev gA (X : Cx) (env : Env) : Around := X.A.in1.in1.deeper env
abbrev gE (X : Cx) (scope : Scope) (C : Addr) (code : Value) : Env := genEnv scope (cloFrom X.env.cells scope.names []) C code builtinsNs X.env
/-- what a walk over the generator leads to: R, from the plan's ends -/
def tAllG (P : Addr) (ix : Nat) (wi : TI) (g : TG) (te : TE) (go : Bool) : TE := fun σ H Q => wi σ H fun J H1 => GxR.TabG H1 P ∧ ∀ H2, GxR.Tabbed P H1 H2 → ∃ (n : Nat) (Pn : Plan), Turns J g te go n Pn ∧ Pn.W 0 (σ.set ix none) H2 ∧
  (∀ i σ' H', Pn.Out (!go) i σ' H' → Q (.bl (!go)) H') ∧ ∀ H', Pn.Fin H' → Q (.bl go) H'
section
variable {X : Cx} {elt iter : Expr} {x : Str} {px p pos gpos : Pos} {scope : Scope} {ix k : Nat} {wi : TI} {g : TG} {te : TE} {P c : Addr}
theorem gen_made {pins : List (Addr × Obj)} {σ : L2.St} {H : Hp} {s : Shared} {go : Bool} {R : V → Hp → Prop} {Q' : Value → Shared → Prop}
    (hr : Room (k + 1) X.A) (TB : GxR.TabB X.base X.mg c P) (hcode : X.env.code = .ref c) (G : GScp X.N X.env.scope scope x ix) (hi : PI X (.Name x px) iter wi)
    (hgt : ∀ (s : Shared) (H : Hp) (C : Addr) (code : Value) (fp : List Addr), PG (gcx X (gA X (gE X scope C code)) s H (gE X scope C code) fp) (.Name x px) g)
    (hel : ∀ (s : Shared) (H : Hp) (C : Addr) (code : Value) (fp : List Addr), Room k (gA X (gE X scope C code)) → PE (gcx X (gA X (gE X scope C code)) s H (gE X scope C code) fp) elt te)
    (hs : ∀ v, genFold iter X.env v = pure v) (I : Inv X pins σ H s) (h : tAllG P ix wi g te go σ H R)
    (hQ : ∀ (Z : Cx) (fp : List Addr) (tn : Nat → Heap → Prop) (a : Addr) (o : Obj) (n gg : Nat) (Pn : Plan) (nm qn : Value) (s5 : Shared) (gs : GenState) (σ5 : L2.St) (H5 : Hp), Z.prog = X.prog → Z.w = X.w →
      o.cls = .type "generator" → o.data = .fields #[.int gg 0, nm, qn] → o.slots = #[] → Inv Z [(a, o)] σ5 H5 s5 → s5.gens[gg]? = some gs →
      gs.Goes (model Z.prog Z.w) X.A.in1.in1 (fun m s₁ r s₂ => r = .ok .next ∧ gP Z [(a, o)] Pn gg m s₁ s₂) (gY Z [(a, o)] fp tn Pn go n gg) n (.send .none) (s5.setGen gg .running) →
      (∀ i σ' H' s', Inv Z [(a, o)] σ' H' s' → Pn.Out (!go) i σ' H' → ∃ H'', Inv X pins σ H'' s' ∧ R (.bl (!go)) H'') →
      (∀ σ' H' s', Inv Z [(a, o)] σ' H' s' → Pn.Fin H' → ∃ H'', Inv X pins σ H'' s' ∧ R (.bl go) H'') → Q' (.ref a) s5) :
    wpAny (model X.prog X.w) X.A (eval (.GeneratorExp elt [⟨.Name x px, iter, [], 0⟩] scope gpos) X.env) Q' X.xe s := by
  have has : ∀ y ∈ scope.names, y.2 = .free → ∃ c, X.env.cells.lookup y.1 = some c := fun y hy e => by
    rcases G.free y hy e with k | k
    · exact I.ok.has _ (.inl k)
    · exact I.ok.has _ (.inr k)
  refine wpAny_GeneratorExp_make G.co (closure_ok has) G.cell G.dot G.kind (by have := hr.dp; omega) ?_ hs
  refine thn (hi.run pins s σ H _ I h) fun xv s1 h1 => thn h1 fun itv s2 h2 => ?_
  obtain ⟨it, fp, tn, J, H1, rfl, I1, T, st1, f1, ⟨ps, hP, ht⟩, plan⟩ := h2
  have hPs : s2.heap.get? P = some { cls := .none, data := .fields ps } := I1.hok P _ hP
  have cd : PySem.W.CodeHd s2.heap c P := TB.code.keeps fun b u e => I1.bk b u e
  have fpP : ∀ b ∈ fp, b ≠ P := fun b hb z => by
    have := (f1 b hb).1
    rw [z, hP] at this
    cases this
  have cont : ∀ (code : Value) (h3 : Heap) (tk : Nat) (ps' : Array Value), Heap.ExtBut P s2.heap h3 → h3.get? P = some { cls := .none, data := .fields ps' } → (∃ more, ps' = ps ++ more) → TriplesOk ps'.toList →
      wpAny (model X.prog X.w) X.A (builtinsFor X.env.globals X.env.builtins) (fun bi s₄ => ∀ h', h'.Ns s₄.heap.objs.size (fun y => if y = (".0" : Str) then some (.ref it) else none) → Heap.SameBut s₄.heap.objs.size (s₄.heap.push { cls := .type "frame", data := .dict #[] }) h' →
          Q' (.ref h'.objs.size) { s₄ with
            gens := s₄.gens.push (.fresh (.compStart (.GeneratorExp elt [⟨.Name x px, iter, [], 0⟩] scope gpos) 0 (.ref it) .none (genEnv scope (cloFrom X.env.cells scope.names []) s₄.heap.objs.size code bi X.env))),
            toks := s₄.toks + 1 + 1 + 1,
            heap := h'.push { cls := .type "generator", data := .fields #[.int s₄.gens.size 0, .str "<genexpr>" (s₄.toks + 1), .str (X.env.qual ++ "<genexpr>") (s₄.toks + 1 + 1)] } }) X.xe { s2 with heap := h3, toks := tk } := by
    intro code h3 tk ps' hx hP3 hmore ht3
    obtain ⟨bm, ob, e1, e2, e3, e4, e5, e6, e7, e8⟩ := TB.bm
    refine wpAny_builtinsFor (m := X.mg) (by rw [I1.ok.glob]; exact (I1.mod.glob.keeps I1.bk).extBut hx TB.gP) e1 e2 (hx _ _ e4 (I1.bk _ _ e5)) e6 e7 e8 ?_
    intro h' hns hsb
    obtain ⟨more, rfl⟩ := hmore
    have I3 : Inv X pins σ (upd H1 P (.tbl (ps ++ more))) { s2 with heap := h3, toks := tk } :=
      GxR.inv_tab (more := more) (h' := h3) (g' := s2.gens) (d' := s2.drawn) (t' := tk) I1 hP (fun b u hb e => hx b u hb e) hP3 I1.bare
    have H2 : GxR.Tabbed P H1 (upd H1 P (.tbl (ps ++ more))) := ⟨⟨ps ++ more, upd_same, ht3⟩, fun b hb => upd_ne hb⟩
    obtain ⟨n, Pn, tt, w0, pOut, pFin⟩ := plan _ H2
    have f3 : ∀ b ∈ fp, FpOk X pins (upd H1 P (.tbl (ps ++ more))) b := fun b hb => ⟨by rw [upd_ne (fpP b hb)]; exact (f1 b hb).1, (f1 b hb).2⟩
    have st3 : tn 0 h3 := T.keep _ _ _ st1 fun b hb o e => hx b o (fpP b hb) e
    have lt3 : ∀ b ∈ fp, b < h3.objs.size := fun b hb => by
      obtain ⟨o, e, _⟩ := T.obj _ _ st3 b hb
      exact Heap.lt_size e
    have hsz : h'.objs.size = h3.objs.size + 1 := by rw [hsb.1, Heap.size_push]
    have kp' : ∀ b o, h3.get? b = some o → h'.get? b = some o := fun b o e => hsb.extBut b o (Nat.ne_of_lt (Heap.lt_size e)) (Heap.get?_push_of_some _ e)
    have key : ∀ (o : Obj) (nm qn : Value), o.cls = .type "generator" → o.data = .fields #[.int s2.gens.size 0, nm, qn] → o.slots = #[] → (h'.push o).get? h'.objs.size = some o →
        Q' (.ref h'.objs.size) { s2 with
            gens := s2.gens.push (.fresh (.compStart (.GeneratorExp elt [⟨.Name x px, iter, [], 0⟩] scope gpos) 0 (.ref it) .none (gE X scope h3.objs.size code))),
            toks := tk + 1 + 1 + 1, heap := h'.push o } := by
      intro o nm qn hc hd hsl hget
      have kp5 : ∀ b u, h3.get? b = some u → (h'.push o).get? b = some u := fun b u e => Heap.get?_push_of_some _ (kp' b u e)
      have bare5 : AllBare (s2.gens.push (.fresh (.compStart (.GeneratorExp elt [⟨.Name x px, iter, [], 0⟩] scope gpos) 0 (.ref it) .none (gE X scope h3.objs.size code)))) := I1.bare.push rfl
      have Rm : Room k (gA X (gE X scope h3.objs.size code)) := ⟨hr.hd, by have := hr.dp; show X.A.depth + 1 + 3 * k + 5 < _; omega, by have := hr.un; show X.A.units + 1 + 1 + 3 + 16 * k + 200 < _; omega⟩
      have J0 := gx_start (A := gA X (gE X scope h3.objs.size code)) (code := code) (fp := fp) (itv := .ref it) (h1 := h'.push o) (tk := tk + 1 + 1 + 1) (pin := [(h'.objs.size, o)])
        (gens' := s2.gens.push (.fresh (.compStart (.GeneratorExp elt [⟨.Name x px, iter, [], 0⟩] scope gpos) 0 (.ref it) .none (gE X scope h3.objs.size code)))) (x := x) (ix := ix) (N := X.N) I3 G
        (Around.frames_deeper I.ok.frames) hr.hd f3 lt3 (hns.push _) kp5 bare5 (fun q hq => by
          rw [List.mem_singleton.mp hq]
          refine ⟨hget, ?_, fun v z => ?_⟩
          · show h3.objs.size < h'.objs.size
            omega
          · rw [hd] at z; cases z)
      have st5 : tn 0 (h'.push o) := T.keep _ _ _ st3 fun b hb u e => kp5 b u e
      have n5 : ∀ d ∈ fp, upd H1 P (.tbl (ps ++ more)) d = none := fun d hd => (f3 d hd).1
      have back : ∀ {σ' : L2.St} {H' : Hp} {s' : Shared}, Inv (gcx X (gA X (gE X scope h3.objs.size code)) { s2 with heap := h3, toks := tk } (upd H1 P (.tbl (ps ++ more))) (gE X scope h3.objs.size code) fp) [(h'.objs.size, o)] σ' H' s' → Inv X pins σ H' s' := fun {σ' H' s'} J =>
        I3.call' (ch := fp) J.os J.base J.hok J.bare fun b hb => ⟨(f3 b hb).2.2.2.1, (f3 b hb).2.1, (f3 b hb).2.2.2.2.1, (f3 b hb).2.2.2.2.2⟩
      have stat : ∀ {HH : Hp}, (∀ d ∈ fp, HH d = none) → ∀ d ∈ fp, FpOk (gcx X (gA X (gE X scope h3.objs.size code)) { s2 with heap := h3, toks := tk } (upd H1 P (.tbl (ps ++ more))) (gE X scope h3.objs.size code) fp) [(h'.objs.size, o)] HH d := fun {HH} hn d hd => by
        refine ⟨hn d hd, Nat.ne_of_lt (lt3 d hd), fun hm => ?_, .inl hd, fun y cc e => (f3 d hd).2.2.2.2.1 y cc (clo_sub has e), fun q hq => ?_⟩
        · have hm' : d ∈ frs X.stack := hm
          rcases List.mem_cons.mp (I3.stkSub d hm') with z | z
          · exact (f3 d hd).2.1 z
          · exact (f3 d hd).2.2.1 z
        · have hq' : q ∈ [(h'.objs.size, o)] := by
            rcases List.mem_append.mp hq with z | z
            · exact absurd (show q ∈ ([] : List (Addr × Obj)) from z) (by simp)
            · exact z
          rw [List.mem_singleton.mp hq']
          show h'.objs.size ≠ d
          exact Nat.ne_of_gt (by rw [hsz]; exact Nat.lt_succ_of_lt (lt3 d hd))
      have gsz : s2.gens.size < (s2.gens.push (GenState.fresh (.compStart (.GeneratorExp elt [⟨.Name x px, iter, [], 0⟩] scope gpos) 0 (.ref it) .none (gE X scope h3.objs.size code)))).size := by
        rw [Array.size_push]; exact Nat.lt_succ_self _
      refine hQ (gcx X (gA X (gE X scope h3.objs.size code)) { s2 with heap := h3, toks := tk } (upd H1 P (.tbl (ps ++ more))) (gE X scope h3.objs.size code) fp) fp tn h'.objs.size o n s2.gens.size Pn nm qn _ _ _ _ rfl rfl hc hd hsl J0 (Array.getElem?_push_size ..) ⟨rfl, ?_⟩ (fun i σ' H' s' J q => ⟨H', back J, pOut i σ' H' q⟩) (fun σ' H' s' J q => ⟨H', back J, pFin H' q⟩)
      refine seg_begin (Z := gcx X (gA X (gE X scope h3.objs.size code)) { s2 with heap := h3, toks := tk } (upd H1 P (.tbl (ps ++ more))) (gE X scope h3.objs.size code) fp) (g := s2.gens.size) (A := X.A.in1.in1)
        T (hgt _ _ _ _ _) (hel _ _ _ _ _ Rm) (fun _ _ z => z) rfl G.co rfl tt stat _ _ _ _ (inv_gens J0 (bare_set bare5 rfl)) st5 n5 ?_ w0
      rw [GenW.setGen_size]
      exact gsz
    exact key _ _ _ rfl rfl rfl (Heap.get?_push_size _ rfl)
  refine ⟨I1.nolimit, ?_⟩
  cases hf : codeAmong gpos ps.toList with
  | none =>
    refine wpAny_genexprCodeX hcode (cd.code hPs ht) (cd.tab hPs) hf fun c' h' tk hx hge hlt hco' _ htab' _ => ?_
    obtain ⟨o1, vs, f1, tf, fl, tg, inF, tx, tt, op, _, _, _, _, _, _, _, _, _, htr, _⟩ := hco'
    exact cont _ h' tk _ hx htab'.2 ⟨_, rfl⟩ htr
  | some cv =>
    refine wpAny_genexprCode_hit hcode (cd.code hPs ht) hf ?_
    exact cont cv s2.heap s2.toks ps (Heap.ExtBut.refl _ _) hPs ⟨#[], by simp⟩ ht
/-- all(elt for x in iter) -/
theorem pe_all (hr : Room (k + 1) X.A) (hga : Gl X "all") (hma : X.mg "all" = none) (TB : GxR.TabB X.base X.mg c P) (hcode : X.env.code = .ref c) (G : GScp X.N X.env.scope scope x ix) (hi : PI X (.Name x px) iter wi)
    (hgt : ∀ (s : Shared) (H : Hp) (C : Addr) (code : Value) (fp : List Addr), PG (gcx X (gA X (gE X scope C code)) s H (gE X scope C code) fp) (.Name x px) g)
    (hel : ∀ (s : Shared) (H : Hp) (C : Addr) (code : Value) (fp : List Addr), Room k (gA X (gE X scope C code)) → PE (gcx X (gA X (gE X scope C code)) s H (gE X scope C code) fp) elt te)
    (hs : ∀ v, genFold iter X.env v = pure v)
    (he : starEach [.GeneratorExp elt [⟨.Name x px, iter, [], 0⟩] scope gpos] X.env = (false, eval (.GeneratorExp elt [⟨.Name x px, iter, [], 0⟩] scope gpos) X.env) :: starEach [] X.env := by rfl) :
    PE X (.Call (.Name "all" p) [.GeneratorExp elt [⟨.Name x px, iter, [], 0⟩] scope gpos] [] pos) (tAllG P ix wi g te true) := by
  refine ⟨fun pins s σ H Q I h => ?_⟩
  refine wpAny_Call_Name_kw (ld_blt I hga hma boot_all ?_)
  refine PyProof.Rows.callWith_builtin1 ?_ he (by rfl)
  rw [he]
  refine Calls.spliced_cons (gen_made hr TB hcode G hi hgt hel hs I h fun Z fp tn a o n gg Pn nm qn s5 gs σ5 H5 e1 e2 hc hd hsl J hgs hgo oOut oFin => ?_)
  refine Calls.spliced_nil ?_
  refine call_function_tree F.kind_all F.plain_all F.entry_all (F.args_all1 _) ?_
  unfold Builtin.«all»
  refine wpAny_bind (m := oneArg "all" _) (wpAny_pure ?_)
  refine wpAny_bind (wpAny_pyIter_gen (isGen_pin hc hd hsl J) ?_)
  refine wpAny_pure ⟨plainId_quiet F.plain_all_loop _, ?_⟩
  rw [← e1, ← e2]
  refine all_walk hc hd hsl hr.hd (by have := hr.dp; show X.A.depth < _; omega) (fun i σ' H' s' J' q => ?_) (fun σ' H' s' J' q => ?_) n s5 gs σ5 H5 J hgs hgo
  · obtain ⟨H'', I', q'⟩ := oOut i σ' H' s' J' q
    exact ⟨.bl false, H'', I', rfl, q'⟩
  · obtain ⟨H'', I', q'⟩ := oFin σ' H' s' J' q
    exact ⟨.bl true, H'', I', rfl, q'⟩
/-- any(elt for x in iter) -/
theorem pe_any (hr : Room (k + 1) X.A) (hga : Gl X "any") (hma : X.mg "any" = none) (TB : GxR.TabB X.base X.mg c P) (hcode : X.env.code = .ref c) (G : GScp X.N X.env.scope scope x ix) (hi : PI X (.Name x px) iter wi)
    (hgt : ∀ (s : Shared) (H : Hp) (C : Addr) (code : Value) (fp : List Addr), PG (gcx X (gA X (gE X scope C code)) s H (gE X scope C code) fp) (.Name x px) g)
    (hel : ∀ (s : Shared) (H : Hp) (C : Addr) (code : Value) (fp : List Addr), Room k (gA X (gE X scope C code)) → PE (gcx X (gA X (gE X scope C code)) s H (gE X scope C code) fp) elt te)
    (hs : ∀ v, genFold iter X.env v = pure v)
    (he : starEach [.GeneratorExp elt [⟨.Name x px, iter, [], 0⟩] scope gpos] X.env = (false, eval (.GeneratorExp elt [⟨.Name x px, iter, [], 0⟩] scope gpos) X.env) :: starEach [] X.env := by rfl) :
    PE X (.Call (.Name "any" p) [.GeneratorExp elt [⟨.Name x px, iter, [], 0⟩] scope gpos] [] pos) (tAllG P ix wi g te false) := by
  refine ⟨fun pins s σ H Q I h => ?_⟩
  refine wpAny_Call_Name_kw (ld_blt I hga hma boot_any ?_)
  refine PyProof.Rows.callWith_builtin1 ?_ he (by rfl)
  rw [he]
  refine Calls.spliced_cons (gen_made hr TB hcode G hi hgt hel hs I h fun Z fp tn a o n gg Pn nm qn s5 gs σ5 H5 e1 e2 hc hd hsl J hgs hgo oOut oFin => ?_)
  refine Calls.spliced_nil ?_
  refine call_function_tree F.kind_any F.plain_any F.entry_any (F.args_any1 _) ?_
  unfold Builtin.«any»
  refine wpAny_bind (m := oneArg "any" _) (wpAny_pure ?_)
  refine wpAny_bind (wpAny_pyIter_gen (isGen_pin hc hd hsl J) ?_)
  refine wpAny_pure ⟨plainId_quiet F.plain_any_loop _, ?_⟩
  rw [← e1, ← e2]
  refine any_walk hc hd hsl hr.hd (by have := hr.dp; show X.A.depth < _; omega) (fun i σ' H' s' J' q => ?_) (fun σ' H' s' J' q => ?_) n s5 gs σ5 H5 J hgs hgo
  · obtain ⟨H'', I', q'⟩ := oOut i σ' H' s' J' q
    exact ⟨.bl true, H'', I', rfl, q'⟩
  · obtain ⟨H'', I', q'⟩ := oFin σ' H' s' J' q
    exact ⟨.bl false, H'', I', rfl, q'⟩
end
end Gx
namespace Tb
open PySem PySem.Spec PyProof.Rows L2
structure Kp (H H' : Hp) : Prop where
  keep : ∀ b o, H b = some o → (∀ ps, o ≠ .tbl ps) → H' b = some o
  tab : ∀ P, GxR.TabG H P → GxR.TabG H' P
theorem Kp.refl (H : Hp) : Kp H H := ⟨fun _ _ h _ => h, fun _ h => h⟩
theorem Kp.trans {A B C : Hp} (x : Kp A B) (y : Kp B C) : Kp A C := ⟨fun b o h n => y.keep b o (x.keep b o h n) n, fun P h => y.tab P (x.tab P h)⟩
theorem tabG_of {H H' : Hp} {P : Addr} (e : ∀ b o, H b = some o → H' b = some o) (h : GxR.TabG H P) : GxR.TabG H' P := by
  obtain ⟨ps, h1, h2⟩ := h
  exact ⟨ps, e _ _ h1, h2⟩
theorem Kp.of {H H' : Hp} (e : ∀ b o, H b = some o → H' b = some o) : Kp H H' := ⟨fun b o h _ => e b o h, fun _ h => tabG_of e h⟩
theorem Kp.new {H : Hp} {p : Addr} {o : HO} (h : H p = none) : Kp H (upd H p o) := Kp.of fun b u e => by
  rw [upd_ne (ne_of_none e h)]; exact e
theorem Kp.tabbed {P : Addr} {H H' : Hp} (hP : GxR.TabG H P) (t : GxR.Tabbed P H H') : Kp H H' := by
  refine ⟨fun b o h n => ?_, fun Q h => ?_⟩
  · obtain ⟨ps, hp, _⟩ := hP
    have : b ≠ P := fun z => by
      rw [z, hp] at h
      exact n ps (Option.some.inj h).symm
    rw [t.2 b this]; exact h
  · by_cases q : Q = P
    · rw [q]; exact t.1
    · obtain ⟨ps, h1, h2⟩ := h
      exact ⟨ps, by rw [t.2 Q q]; exact h1, h2⟩
theorem Kp.lst {H H' : Hp} (k : Kp H H') {a : Addr} {xs : List V} (h : H a = some (.lst xs)) : H' a = some (.lst xs) := k.keep a _ h fun ps z => by cases z
theorem Kp.tup {H H' : Hp} (k : Kp H H') {a : Addr} {xs : List V} (h : H a = some (.tup xs)) : H' a = some (.tup xs) := k.keep a _ h fun ps z => by cases z
theorem Kp.dK {H H' : Hp} (k : Kp H H') {a : Addr} {xs} (h : H a = some (.dK xs)) : H' a = some (.dK xs) := k.keep a _ h fun ps z => by cases z
theorem Kp.sqT {K : PySem.W.Frag} {H H' : Hp} (k : Kp H H') {a : Addr} {xs : List V} (h : SqT K H a xs) : SqT K H' a xs := by
  rcases h with (h | ⟨o, h⟩) | h
  · exact .inl (.inl (k.tup h))
  · exact .inl (.inr ⟨o, k.keep a _ h fun ps z => by cases z⟩)
  · exact .inr h
mutual
inductive Rp (K : PySem.W.Frag) (H : Hp) : V → PyData → Prop
  | non : Rp K H .non .none
  | bl (b : Bool) : Rp K H (.bl b) (.bool b)
  | int (i : Int) : Rp K H (.int i) (.int i)
  | str (x : Str) : Rp K H (.str x) (.str x)
  | lst {a : Addr} {xs : List V} {ds : List PyData} : H a = some (.lst xs) → RpL K H xs ds → Rp K H (.ref a) (.list ds)
  | tup {a : Addr} {xs : List V} {ds : List PyData} : H a = some (.tup xs) → RpL K H xs ds → Rp K H (.ref a) (.tuple ds)
  | dct {a : Addr} : H a = some (.dK []) → Rp K H (.ref a) (.dict [])
inductive RpL (K : PySem.W.Frag) (H : Hp) : List V → List PyData → Prop
  | nil : RpL K H [] []
  | cons {v : V} {vs : List V} {d : PyData} {ds : List PyData} : Rp K H v d → RpL K H vs ds → RpL K H (v :: vs) (d :: ds)
end
variable {K : PySem.W.Frag}
mutual
theorem Rp.kp {H H' : Hp} (k : Kp H H') : ∀ {d : PyData} {v : V}, Rp K H v d → Rp K H' v d
  | _, _, .non => .non
  | _, _, .bl b => .bl b
  | _, _, .int i => .int i
  | _, _, .str x => .str x
  | _, _, .lst h a => .lst (k.lst h) (RpL.kp k a)
  | _, _, .tup h a => .tup (k.tup h) (RpL.kp k a)
  | _, _, .dct h => .dct (k.dK h)
theorem RpL.kp {H H' : Hp} (k : Kp H H') : ∀ {ds : List PyData} {vs : List V}, RpL K H vs ds → RpL K H' vs ds
  | _, _, .nil => .nil
  | _, _, .cons a b => .cons (Rp.kp k a) (RpL.kp k b)
end
theorem RpL.length {H : Hp} : ∀ {ds : List PyData} {vs : List V}, RpL K H vs ds → vs.length = ds.length
  | _, _, .nil => rfl
  | _, _, .cons _ t => congrArg Nat.succ (RpL.length t)
theorem RpL.get {H : Hp} : ∀ {ds : List PyData} {vs : List V} {i : Nat} {v : V}, RpL K H vs ds → vs[i]? = some v → ∃ d, ds[i]? = some d ∧ Rp K H v d
  | _, _, _, _, .nil, e => by simp at e
  | _, _, 0, _, .cons r _, e => by simp at e; subst e; exact ⟨_, rfl, r⟩
  | _, _, i + 1, v, .cons _ t, e => by
    obtain ⟨d, h1, h2⟩ := RpL.get (i := i) (v := v) t (by simpa using e)
    exact ⟨d, by simpa using h1, h2⟩
theorem RpL.app {H : Hp} : ∀ {ds es : List PyData} {vs ws : List V}, RpL K H vs ds → RpL K H ws es → RpL K H (vs ++ ws) (ds ++ es)
  | _, _, _, _, .nil, s => s
  | _, _, _, _, .cons r t, s => .cons r (RpL.app t s)
theorem RpL.set {H : Hp} {x : V} {d : PyData} (r : Rp K H x d) : ∀ {ds : List PyData} {vs : List V} (i : Nat), RpL K H vs ds → RpL K H (vs.set i x) (ds.set i d)
  | _, _, _, .nil => .nil
  | _, _, 0, .cons _ t => .cons r t
  | _, _, i + 1, .cons q t => .cons q (RpL.set r i t)
mutual
theorem Rp.reads {X : Cx} {pins : List (Addr × Obj)} {σ : L2.St} {H : Hp} {s : Shared} (I : Inv X pins σ H s) : ∀ (d : PyData) (v : V) (u : Value), Rp X.K H v d → RelV v u → ∃ as, Reads s.heap u d as ∧ ∀ a ∈ as, H a ≠ none
  | .none, _, _, h, r => by cases h; cases r; exact ⟨_, Reads.none, fun a z => by cases z⟩
  | .bool b, _, _, h, r => by cases h; cases r; exact ⟨_, Reads.bool b, fun a z => by cases z⟩
  | .int i, _, _, h, r => by cases h; obtain ⟨t, rfl⟩ := r; exact ⟨_, Reads.int i t, fun a z => by cases z⟩
  | .str x, _, _, h, r => by cases h; obtain ⟨t, rfl⟩ := r; exact ⟨_, Reads.str x t, fun a z => by cases z⟩
  | .list ds, _, _, h, r => by
    cases h with
    | lst hs ha =>
      cases r
      obtain ⟨z, its, n, rv, ho⟩ := I.hok _ _ hs
      obtain ⟨as, hr, hn⟩ := RpL.reads I ds _ its ha rv
      refine ⟨_, Reads.list ho rfl rfl hr, fun b hb => ?_⟩
      rcases List.mem_cons.mp hb with e | e
      · rw [e, hs]; simp
      · exact hn b e
  | .tuple ds, _, _, h, r => by
    cases h with
    | tup hs ha =>
      cases r
      obtain ⟨z, its, rv, o, ho, hc, n, hd⟩ := I.hok _ _ hs
      obtain ⟨as, hr, hn⟩ := RpL.reads I ds _ its ha rv
      exact ⟨_, Reads.tuple ho hc hd hr, hn⟩
  | .dict kvs, _, _, h, r => by
    cases h with
    | dct hs =>
      cases r
      obtain ⟨_, _, vs, rv, o, es, ep, ho, hx, hd, hk, hp, _⟩ := I.hok _ _ hs
      cases rv
      have e0 : es.toList = [] := by
        cases q : es.toList with
        | nil => rfl
        | cons x t => rw [q] at hp; cases hp
      refine ⟨_, Reads.dict (kvs := []) (as := []) (bs := []) ho hx.1 hd (by rw [e0]; exact .nil) (by rw [e0]; exact .nil), fun b hb => ?_⟩
      rcases List.mem_append.mp hb with e | e
      · rcases List.mem_cons.mp e with e | e
        · rw [e, hs]; simp
        · cases e
      · cases e
theorem RpL.reads {X : Cx} {pins : List (Addr × Obj)} {σ : L2.St} {H : Hp} {s : Shared} (I : Inv X pins σ H s) : ∀ (ds : List PyData) (vs : List V) (us : List Value), RpL X.K H vs ds → Vals vs us → ∃ as, ReadsAll s.heap us ds as ∧ ∀ a ∈ as, H a ≠ none
  | [], _, _, h, r => by cases h; cases r; exact ⟨_, ReadsAll.nil, fun a z => by cases z⟩
  | d :: ds, _, _, h, r => by
    cases h with
    | cons h1 h2 =>
      cases r with
      | cons r1 r2 =>
        obtain ⟨as, q1, n1⟩ := Rp.reads I d _ _ h1 r1
        obtain ⟨bs, q2, n2⟩ := RpL.reads I ds _ _ h2 r2
        refine ⟨_, ReadsAll.cons q1 q2, fun a ha => ?_⟩
        rcases List.mem_append.mp ha with z | z
        · exact n1 a z
        · exact n2 a z
end
def tyN : PyData → String
  | .none => "NoneType"
  | .bool _ => "bool"
  | .int _ => "int"
  | .str _ => "str"
  | .list _ => "list"
  | .tuple _ => "tuple"
  | .dict _ => "dict"
def isIB : PyData → Bool
  | .int _ => true
  | .bool _ => true
  | _ => false
def isB : PyData → Bool
  | .bool _ => true
  | _ => false
def isSq : PyData → Bool
  | .list _ => true
  | .tuple _ => true
  | _ => false
theorem kit_int : ∀ d : PyData, PySem.W.kitOne K (.type (tyN d)) (.type "int") = some (isIB d)
  | .none => kit_ty (show kitB "NoneType" "int" = some false by decide +kernel)
  | .bool _ => kit_ty (show kitB "bool" "int" = some true by decide +kernel)
  | .int _ => kit_ty (show kitB "int" "int" = some true by decide +kernel)
  | .str _ => kit_ty (show kitB "str" "int" = some false by decide +kernel)
  | .list _ => kit_ty (show kitB "list" "int" = some false by decide +kernel)
  | .tuple _ => kit_ty (show kitB "tuple" "int" = some false by decide +kernel)
  | .dict _ => kit_ty (show kitB "dict" "int" = some false by decide +kernel)
theorem kit_bool : ∀ d : PyData, PySem.W.kitOne K (.type (tyN d)) (.type "bool") = some (isB d)
  | .none => kit_ty (show kitB "NoneType" "bool" = some false by decide +kernel)
  | .bool _ => kit_ty (show kitB "bool" "bool" = some true by decide +kernel)
  | .int _ => kit_ty (show kitB "int" "bool" = some false by decide +kernel)
  | .str _ => kit_ty (show kitB "str" "bool" = some false by decide +kernel)
  | .list _ => kit_ty (show kitB "list" "bool" = some false by decide +kernel)
  | .tuple _ => kit_ty (show kitB "tuple" "bool" = some false by decide +kernel)
  | .dict _ => kit_ty (show kitB "dict" "bool" = some false by decide +kernel)
theorem kit_seq : ∀ d : PyData, PySem.W.kitAny K (.type (tyN d)) [.type "list", .type "tuple"] = some (isSq d)
  | .none => kitAny_cons (b := false) (kit_ty (show kitB "NoneType" "list" = some false by decide +kernel)) (fun _ => kitAny_cons (b := false) (kit_ty (show kitB "NoneType" "tuple" = some false by decide +kernel)) (fun _ => kitAny_nil) (fun z => nomatch z)) (fun z => nomatch z)
  | .bool _ => kitAny_cons (b := false) (kit_ty (show kitB "bool" "list" = some false by decide +kernel)) (fun _ => kitAny_cons (b := false) (kit_ty (show kitB "bool" "tuple" = some false by decide +kernel)) (fun _ => kitAny_nil) (fun z => nomatch z)) (fun z => nomatch z)
  | .int _ => kitAny_cons (b := false) (kit_ty (show kitB "int" "list" = some false by decide +kernel)) (fun _ => kitAny_cons (b := false) (kit_ty (show kitB "int" "tuple" = some false by decide +kernel)) (fun _ => kitAny_nil) (fun z => nomatch z)) (fun z => nomatch z)
  | .str _ => kitAny_cons (b := false) (kit_ty (show kitB "str" "list" = some false by decide +kernel)) (fun _ => kitAny_cons (b := false) (kit_ty (show kitB "str" "tuple" = some false by decide +kernel)) (fun _ => kitAny_nil) (fun z => nomatch z)) (fun z => nomatch z)
  | .list _ => kitAny_cons (b := true) (kit_ty (show kitB "list" "list" = some true by decide +kernel)) (fun z => nomatch z) (fun _ => rfl)
  | .tuple _ => kitAny_cons (b := false) (kit_ty (show kitB "tuple" "list" = some false by decide +kernel)) (fun _ => kitAny_cons (b := true) (kit_ty (show kitB "tuple" "tuple" = some true by decide +kernel)) (fun z => nomatch z) (fun _ => rfl)) (fun z => nomatch z)
  | .dict _ => kitAny_cons (b := false) (kit_ty (show kitB "dict" "list" = some false by decide +kernel)) (fun _ => kitAny_cons (b := false) (kit_ty (show kitB "dict" "tuple" = some false by decide +kernel)) (fun _ => kitAny_nil) (fun z => nomatch z)) (fun z => nomatch z)
end Tb
namespace Tb
open PySem PySem.Spec PyProof.Rows L2
structure FnG (P : Program) (w : World) (K : PySem.W.Frag) (mg : Str → Option Value) (base : Heap) (k : Nat) (f : Addr) (fd : FuncData) (ps : List Str) (sp : Sp) : Prop where
  len : ∀ vs H Q E, sp vs H Q E → vs.length = ps.length
  run : ∀ (A : Around) (outer : List Env) (s : Shared) (H : Hp) (args : Args) (us : List Value) (vs : List V) (Q : VK), Room k A → A.guards = some [] → Env0 P w K mg base A outer s H → BindsTo s fd args (ps.zip us) → Vals vs us → sp vs H Q E0 →
    codeAny (model P w) A (.call (.ref f) args) (CR CX0 outer P w H s Q E0) s
section
variable {P : Program} {w : World} {K : PySem.W.Frag} {mg : Str → Option Value} {base : Heap} {N ps : List Str} {qual x : Str} {st : Stmt} {f : Addr} {fd : FuncData} {k : Nat} {sp : Sp}
theorem okG (F : Fun K x qual st f fd) (S : FnScope N ps (defScope st)) (len : ∀ vs H Q E, sp vs H Q E → vs.length = ps.length)
    (hb : ∀ (cdv : Value) (A : Around) (outer : List Env) (s : Shared) (H : Hp) (vs : List V) (Q : VK), Room k (A.deeper (envOfC qual (defScope st) s.heap.objs.size f cdv)) → A.guards = some [] → sp vs H Q E0 →
      ∃ t, PSs (cxOf CX0 P w K mg base N qual (defScope st) f cdv A outer s H E0).nox (defBody st) t ∧ t { nx := fun _ H' => Q .non H', rt := Q } (start N vs) H) : FnG P w K mg base (k + 1) f fd ps sp := by
  obtain ⟨oc, od, kV, doc, pm, an, cdv, ct, osl, rfl, lk, hcd⟩ := F.ex
  refine ⟨len, fun A outer s H args us vs Q hr hgd e0 hbn r hsp => ?_⟩
  have hl := len _ _ _ _ hsp
  have inS : K.In s.heap := e0.mod.kin.keeps fun b o e => (e0.bs b o e).1
  have noL : s.heap.NoLimit := e0.mod.nolimit.keeps fun b o e => (e0.bs b o e).1
  have kinds : ∀ y ∈ ps.zip us, (defScope st).names.lookup y.1 = some .local ∨ ((defScope st).names.lookup y.1 = some .cell ∧ ((cellsFrom (s.heap.objs.size + 1) (defScope st).names []).lookup y.1).isSome = true) := by
    rintro ⟨n, v⟩ hy
    rcases S.par n (List.of_mem_zip hy).1 with q | q
    · exact .inl q
    · exact .inr ⟨q, PySem.W.cellsFrom_some _ _ _ (.inl q)⟩
  refine codeAny_call_function hr.depth (inS _ _ lk) rfl S.co S.gen rfl (PySem.W.codeRec_of inS hcd) (hbn _ _ _ _ ?_)
  refine wpAny_newFunctionEnv_cells S.kind kinds fun env he s1 xc => ?_
  subst he
  refine ⟨noL.keeps xc.toInCall.keep, codeAny_func ?_⟩
  obtain ⟨t, ht, hq⟩ := hb cdv A outer s H vs Q (hr.deeper _) hgd hsp
  have J : Inv (cxOf CX0 P w K mg base N qual (defScope st) f cdv A outer s H E0) [] (start N vs) H s1 := inv_start S hr.hd e0 hl r xc
  refine wpAny_mono (ht.nox.run [] s1 (start N vs) H _ J hq) (fun fl s' hs => ?_) fun e s' hs => hs
  cases fl with
  | ret u =>
    obtain ⟨v, σ', H', I', rv, q⟩ := hs
    exact ⟨v, H', I'.os, I'.bare, I'.base, I'.hok, rv, q⟩
  | next =>
    obtain ⟨σ', H', I', q⟩ := hs
    exact ⟨V.non, H', I'.os, I'.bare, I'.base, I'.hok, rfl, q⟩
  | brk => obtain ⟨_, _, _, q⟩ := hs; exact q.elim
  | cont => obtain ⟨_, _, _, q⟩ := hs; exact q.elim
end
section
variable {X : Cx} {k : Nat} {f : Addr} {fd : FuncData} {ps : List Str} {sp : Sp} {x : Str} {p pos : Pos} {e : Expr} {es : List Expr} {t : TA}
theorem pe_callG (F : FnG X.prog X.w X.K X.mg X.base k f fd ps sp) (hr : Room k X.A) (hgd : X.A.guards = some []) (hg : Gl X x) (hm : X.mg x = some (.ref f)) (hk : PySem.W.keepIn X.K (.ref f) = true) (hb : Binds X.K fd ps [])
    (ha : PA X (e :: es) t) (hdb : (x == ("__debug__" : Str)) = false := by decide) (he : starEach (e :: es) X.env = (false, eval e X.env) :: starEach es X.env := by rfl) (hpl : (backTo pos (starEach es X.env)).any (·.1) = false := by rfl) :
    PE X (.Call (.Name x p) (e :: es) [] pos) (tCall sp [] E0 t) := by
  refine ⟨fun pins s σ H Q I h => ?_⟩
  refine wpAny_Call_Name_kw (ld_glob I hg hm ?_ hdb)
  refine PySem.W.callWith_K (h₀ := X.base) I.ok.mod.kin hk (thn (ha.run pos pins s σ H _ I h) fun us s1 h1 => ?_) he hpl
  obtain ⟨vs, H1, I1, r, q⟩ := h1
  refine ⟨I1.kIn, ?_⟩
  rw [List.append_nil] at q
  have hl : us.length = ps.length := by rw [← r.length]; exact F.len _ _ _ _ q
  have bt := hb s1 us I1.kIn (by rw [List.append_nil]; exact hl)
  rw [List.append_nil] at bt
  refine wpAny_call (codeAny_mono (F.run X.A X.stack s1 H1 ⟨us, []⟩ us vs Q hr hgd I1.env0 bt r q) fun r s' hq => ?_)
  cases r with
  | error e => exact hq.elim
  | ok fl =>
    cases fl with
    | ret u => exact I1.after hq
    | next => exact hq.elim
    | brk => exact hq.elim
    | cont => exact hq.elim
end
end Tb
namespace Tb
open PySem PySem.Spec PyProof.Rows L2
abbrev nso (w : World) : Obj := { cls := .type "set", dict := none, data := .set #[] 0 (.fresh 0 0 (!w.params.followText "set-order")) }
abbrev iso (l : Addr) : Obj := { cls := .type "list_iterator", data := .fields #[.ref l, .int 0 0] }
section
variable {P : Program} {w : World} {A : Around} {E : Value → Shared → Prop} {s : Shared}
theorem set_of_list {l : Addr} {its : Array Value} (zs : List Int) {Q : Value → Shared → Prop} (h0 : A.handled = none) (hL : s.heap.IsList l its) (hI : IntsAre its.toList zs) (hB : zs.length + 1 < scanBound)
    (k : ∀ (g : Heap) (tk c : Nat), SetR w g s.heap.objs.size (fun j => decide (j ∈ zs)) c → c ≤ zs.length → (∀ b o, s.heap.get? b = some o → g.get? b = some o) → Q (.ref s.heap.objs.size) { s with heap := g, toks := tk }) :
    wpAny (model P w) A (call (.type "set") [.ref l]) Q E s := by
  have size : its.size = zs.length := by
    have := IntsAre.length hI
    rwa [Array.length_toList] at this
  obtain ⟨cc, tl, hmro⟩ := F.called_set.mro
  have made := F.called_set.made
  have subs := F.called_set.sub
  refine wpAny_call (codeAny_of_tree ?_)
  show wpAny _ _ (callAny (.type "set") _) _ _ _
  refine wpAny_pure ⟨Code.quiet_builtin _ (by decide +kernel), ?_⟩
  refine codeAny_builtin F.entry_type_call ?_
  rw [Around.under_plain (weight_type_call_type "set" [.ref l] []) rfl]
  have nt := F.called_set.notType
  have cr := F.called_set.canCreate
  have tc := F.typeCall_set_1 (.ref l)
  repeat (any_goals (first | assumption | wp_step))
  refine codeAny_mono (code_set_led1 (.ref l) (E := E) (Q₁ := fun u s1 => u = .ref s.heap.objs.size ∧ s1 = { s with heap := s.heap.push (nso w) }) ⟨rfl, rfl⟩) fun r s1 hr => ?_
  cases r with
  | error e => exact hr
  | ok fl =>
    cases fl with
    | ret u =>
      obtain ⟨rfl, rfl⟩ := hr
      have gS : (s.heap.push (nso w)).get? s.heap.objs.size = some (nso w) := Heap.get?_push_size _ rfl
      have tS : Shared.TypeIs { s with heap := s.heap.push (nso w) } (.ref s.heap.objs.size) "set" := ⟨_, gS, rfl⟩
      have il := F.called_set.init.lookup
      have ib := F.called_set.init.bind (.ref s.heap.objs.size)
      repeat (any_goals (first | assumption | wp_step))
      refine codeAny_mono (codeAny_call_builtin (R := wants (fun r s2 => r = .none ∧ ∃ g tk c, s2 = { s with heap := g, toks := tk } ∧ SetR w g s.heap.objs.size (fun j => decide (j ∈ zs)) c ∧ c ≤ zs.length ∧
          (∀ b o, s.heap.get? b = some o → g.get? b = some o)) E) F.called_set.init.plain F.entry_set_init (check_set_init_1 tS ?_)) fun r2 s2 hr2 => ?_
      · obtain ⟨ol, gl, cl, nl, dl⟩ := hL
        obtain ⟨lc, ld, lt, ls⟩ := ol
        simp only at cl dl
        subst cl; subst dl
        have gl' : (s.heap.push (nso w)).get? l = some { cls := .type "list", dict := ld, data := .seq its nl, slots := ls } := Heap.get?_push_of_some _ gl
        have q1 := F.sub_list_set
        have q2 := F.sub_list_frozenset
        have q3 : (Value.type "list" == Value.type "dict") = false := by decide
        have L1 : (s.heap.push (nso w)).IsList l its := ⟨_, gl', rfl, nl, rfl⟩
        unfold Builtin.«set.__init__» noKeywords Builtin.Frozenset.updateFrom
        generalize hPI : pyIter = PI
        wp_walk
        subst hPI
        refine wpAny_pyIter_list L1 ?_
        refine wpAny_bind (wpAny_runValue ?_)
        have below : l < s.heap.objs.size := Heap.lt_size gl
        have h3 : A.in1.in1.in1.handled = none := by simp [h0]
        have z1 : (s.heap.push (nso w)).objs.size = s.heap.objs.size + 1 := Heap.size_push ..
        have ne1 : l ≠ (s.heap.push (nso w)).objs.size := by
          rw [z1]; exact Nat.ne_of_lt (Nat.lt_succ_of_lt below)
        have nS : s.heap.objs.size ∉ [(s.heap.push (nso w)).objs.size, l] := by
          rw [z1]
          simp only [List.mem_cons, List.mem_singleton, List.not_mem_nil, or_false, not_or]
          exact ⟨Nat.ne_of_lt (Nat.lt_succ_self _), Nat.ne_of_gt below⟩
        have vals : ∀ (i : Nat) (v : Value), its[i]? = some v → ∃ z t, zs[i]? = some z ∧ v = .int z t := by
          intro i v hv
          have hi : i < zs.length := by rw [← size]; exact (Array.getElem?_eq_some_iff.mp hv).1
          obtain ⟨t, e⟩ := PyProof.Rows.IntsAre.int_at hI i v (by rw [Array.getElem?_toList]; exact hv)
          exact ⟨zs[i], t, List.getElem?_eq_getElem hi, by rw [e, List.getD_eq_getElem?_getD, List.getElem?_eq_getElem hi] <;> rfl⟩
        refine set_update_ints ((Walks.list h3 _ l ne1 its).toS) s.heap.objs.size nS zs size hB vals (its.size - 0) 0 _ (by omega) (Nat.zero_le _) ⟨⟨_, Heap.get?_push_size _ rfl, rfl, rfl⟩, (L1.push _)⟩ ?c0 ?c1
        case c0 => exact ⟨0, Nat.le_refl 0, setR_new_at (show ((s.heap.push (nso w)).push (iso l)).get? s.heap.objs.size = some (nso w) from Heap.get?_push_of_some _ gS)⟩
        case c1 =>
          intro s' c' mv lc' R'
          obtain ⟨g, gg, dd, tk', os'⟩ := s'
          have e1 : gg = s.gens := mv.gens
          have e2 : dd = s.drawn := mv.drawn
          have e3 : os' = s.os := mv.os
          subst e1; subst e2; subst e3
          show wpAny _ _ _ _ _ _
          refine wpAny_pure ?_
          show wpAny _ _ (ret Value.none) _ _ _
          rw [size] at lc'
          refine wpAny_pure ⟨rfl, g, tk', c', rfl, R', lc', fun b o e => ?_⟩
          have b0 : b < s.heap.objs.size := Heap.lt_size e
          refine mv.heap b o (fun hm => ?_) (Heap.get?_push_of_some _ (Heap.get?_push_of_some _ e))
          rcases List.mem_cons.mp hm with q | q
          · exact absurd q (Nat.ne_of_lt b0)
          · rcases List.mem_cons.mp q with q | q
            · rw [z1] at q
              exact absurd q (Nat.ne_of_lt (Nat.lt_succ_of_lt b0))
            · cases q
      · cases r2 with
        | error e => exact hr2
        | ok f2 =>
          cases f2 with
          | ret r =>
            obtain ⟨rfl, g, tk, c, rfl, R2, lc2, kk⟩ := hr2
            repeat (any_goals (first | assumption | wp_step))
            exact k _ _ _ R2 lc2 kk
          | next => exact hr2.elim
          | brk => exact hr2.elim
          | cont => exact hr2.elim
    | next => exact hr.elim
    | brk => exact hr.elim
    | cont => exact hr.elim
end
/-- sorted(set(xs)), xs a list of ints -/
def rSetL (w : World) (K : PySem.W.Frag) : List V → Hp → VK → Prop := fun vs H Q => ∃ (l : Addr) (zs : List Int), vs = [.ref l] ∧ SqL K H l (zs.map V.int) ∧ zs.length + 1 < scanBound ∧
  ∀ p c, H p = none → c ≤ zs.length → Q (.ref p) (upd H p (SetO w p (fun j => decide (j ∈ zs)) c))
theorem cr_setL {X : Cx} (hc : X.calm = true) : CallR X (.type "set") (rSetL X.w X.K) := by
  intro pins s σ H vs us Q I r h
  obtain ⟨l, zs, rfl, hl, hb, q⟩ := h
  obtain ⟨u, rfl, ru⟩ := r.one
  cases ru
  obtain ⟨its, rv, p, hz⟩ := I.list hl
  refine set_of_list zs (I.ok.hd hc) p.isList (by simpa using ints_of_vals rv) hb fun g tk c R hc' kp => ?_
  exact ⟨.ref _, upd H s.heap.objs.size (SetO X.w s.heap.objs.size (fun j => decide (j ∈ zs)) c), I.laid kp (Nat.le_refl _) (setO_new R), rfl, q _ c (I.hok.fresh (Nat.le_refl _)) hc'⟩
end Tb
namespace Tb
open PySem PySem.Spec PyProof.Rows L2
abbrev isoT (l : Addr) : Obj := { cls := .type "tuple_iterator", data := .fields #[.ref l, .int 0 0] }
section
variable {P : Program} {w : World} {A : Around} {E : Value → Shared → Prop} {s : Shared}
theorem set_of_tuple {l : Addr} {its : Array Value} (zs : List Int) {Q : Value → Shared → Prop} (h0 : A.handled = none) (hL : s.heap.IsTuple l its) (hI : IntsAre its.toList zs) (hB : zs.length + 1 < scanBound)
    (k : ∀ (g : Heap) (tk c : Nat), SetR w g s.heap.objs.size (fun j => decide (j ∈ zs)) c → c ≤ zs.length → (∀ b o, s.heap.get? b = some o → g.get? b = some o) → Q (.ref s.heap.objs.size) { s with heap := g, toks := tk }) :
    wpAny (model P w) A (call (.type "set") [.ref l]) Q E s := by
  have size : its.size = zs.length := by
    have := IntsAre.length hI
    rwa [Array.length_toList] at this
  obtain ⟨cc, tl, hmro⟩ := F.called_set.mro
  have made := F.called_set.made
  have subs := F.called_set.sub
  refine wpAny_call (codeAny_of_tree ?_)
  show wpAny _ _ (callAny (.type "set") _) _ _ _
  refine wpAny_pure ⟨Code.quiet_builtin _ (by decide +kernel), ?_⟩
  refine codeAny_builtin F.entry_type_call ?_
  rw [Around.under_plain (weight_type_call_type "set" [.ref l] []) rfl]
  have nt := F.called_set.notType
  have cr := F.called_set.canCreate
  have tc := F.typeCall_set_1 (.ref l)
  repeat (any_goals (first | assumption | wp_step))
  refine codeAny_mono (code_set_led1 (.ref l) (E := E) (Q₁ := fun u s1 => u = .ref s.heap.objs.size ∧ s1 = { s with heap := s.heap.push (nso w) }) ⟨rfl, rfl⟩) fun r s1 hr => ?_
  cases r with
  | error e => exact hr
  | ok fl =>
    cases fl with
    | ret u =>
      obtain ⟨rfl, rfl⟩ := hr
      have gS : (s.heap.push (nso w)).get? s.heap.objs.size = some (nso w) := Heap.get?_push_size _ rfl
      have tS : Shared.TypeIs { s with heap := s.heap.push (nso w) } (.ref s.heap.objs.size) "set" := ⟨_, gS, rfl⟩
      have il := F.called_set.init.lookup
      have ib := F.called_set.init.bind (.ref s.heap.objs.size)
      repeat (any_goals (first | assumption | wp_step))
      refine codeAny_mono (codeAny_call_builtin (R := wants (fun r s2 => r = .none ∧ ∃ g tk c, s2 = { s with heap := g, toks := tk } ∧ SetR w g s.heap.objs.size (fun j => decide (j ∈ zs)) c ∧ c ≤ zs.length ∧
          (∀ b o, s.heap.get? b = some o → g.get? b = some o)) E) F.called_set.init.plain F.entry_set_init (check_set_init_1 tS ?_)) fun r2 s2 hr2 => ?_
      · obtain ⟨ol, gl, cl, nl, dl⟩ := hL
        obtain ⟨lc, ld, lt, ls⟩ := ol
        simp only at cl dl
        subst cl; subst dl
        have gl' : (s.heap.push (nso w)).get? l = some { cls := .type "tuple", dict := ld, data := .seq its nl, slots := ls } := Heap.get?_push_of_some _ gl
        have q1 := F.sub_tuple_set
        have q2 := F.sub_tuple_frozenset
        have q3 : (Value.type "tuple" == Value.type "dict") = false := by decide
        have L1 : (s.heap.push (nso w)).IsTuple l its := ⟨_, gl', rfl, nl, rfl⟩
        unfold Builtin.«set.__init__» noKeywords Builtin.Frozenset.updateFrom
        generalize hPI : pyIter = PI
        wp_walk
        subst hPI
        refine wpAny_pyIter_tuple L1 ?_
        refine wpAny_bind (wpAny_runValue ?_)
        have below : l < s.heap.objs.size := Heap.lt_size gl
        have h3 : A.in1.in1.in1.handled = none := by simp [h0]
        have z1 : (s.heap.push (nso w)).objs.size = s.heap.objs.size + 1 := Heap.size_push ..
        have ne1 : l ≠ (s.heap.push (nso w)).objs.size := by
          rw [z1]; exact Nat.ne_of_lt (Nat.lt_succ_of_lt below)
        have nS : s.heap.objs.size ∉ [(s.heap.push (nso w)).objs.size, l] := by
          rw [z1]
          simp only [List.mem_cons, List.mem_singleton, List.not_mem_nil, or_false, not_or]
          exact ⟨Nat.ne_of_lt (Nat.lt_succ_self _), Nat.ne_of_gt below⟩
        have vals : ∀ (i : Nat) (v : Value), its[i]? = some v → ∃ z t, zs[i]? = some z ∧ v = .int z t := by
          intro i v hv
          have hi : i < zs.length := by rw [← size]; exact (Array.getElem?_eq_some_iff.mp hv).1
          obtain ⟨t, e⟩ := PyProof.Rows.IntsAre.int_at hI i v (by rw [Array.getElem?_toList]; exact hv)
          exact ⟨zs[i], t, List.getElem?_eq_getElem hi, by rw [e, List.getD_eq_getElem?_getD, List.getElem?_eq_getElem hi] <;> rfl⟩
        refine set_update_ints ((Walks.tuple h3 _ l ne1 its).toS) s.heap.objs.size nS zs size hB vals (its.size - 0) 0 _ (by omega) (Nat.zero_le _) ⟨⟨_, Heap.get?_push_size _ rfl, rfl, rfl⟩, (L1.push _)⟩ ?c0 ?c1
        case c0 => exact ⟨0, Nat.le_refl 0, setR_new_at (show ((s.heap.push (nso w)).push (isoT l)).get? s.heap.objs.size = some (nso w) from Heap.get?_push_of_some _ gS)⟩
        case c1 =>
          intro s' c' mv lc' R'
          obtain ⟨g, gg, dd, tk', os'⟩ := s'
          have e1 : gg = s.gens := mv.gens
          have e2 : dd = s.drawn := mv.drawn
          have e3 : os' = s.os := mv.os
          subst e1; subst e2; subst e3
          show wpAny _ _ _ _ _ _
          refine wpAny_pure ?_
          show wpAny _ _ (ret Value.none) _ _ _
          rw [size] at lc'
          refine wpAny_pure ⟨rfl, g, tk', c', rfl, R', lc', fun b o e => ?_⟩
          have b0 : b < s.heap.objs.size := Heap.lt_size e
          refine mv.heap b o (fun hm => ?_) (Heap.get?_push_of_some _ (Heap.get?_push_of_some _ e))
          rcases List.mem_cons.mp hm with q | q
          · exact absurd q (Nat.ne_of_lt b0)
          · rcases List.mem_cons.mp q with q | q
            · rw [z1] at q
              exact absurd q (Nat.ne_of_lt (Nat.lt_succ_of_lt b0))
            · cases q
      · cases r2 with
        | error e => exact hr2
        | ok f2 =>
          cases f2 with
          | ret r =>
            obtain ⟨rfl, g, tk, c, rfl, R2, lc2, kk⟩ := hr2
            repeat (any_goals (first | assumption | wp_step))
            exact k _ _ _ R2 lc2 kk
          | next => exact hr2.elim
          | brk => exact hr2.elim
          | cont => exact hr2.elim
    | next => exact hr.elim
    | brk => exact hr.elim
    | cont => exact hr.elim
end
/-- sorted(set(xs)), xs a tuple of ints -/
def rSetT (w : World) (K : PySem.W.Frag) : List V → Hp → VK → Prop := fun vs H Q => ∃ (l : Addr) (zs : List Int), vs = [.ref l] ∧ SqT K H l (zs.map V.int) ∧ zs.length + 1 < scanBound ∧
  ∀ p c, H p = none → c ≤ zs.length → Q (.ref p) (upd H p (SetO w p (fun j => decide (j ∈ zs)) c))
theorem cr_setT {X : Cx} (hc : X.calm = true) : CallR X (.type "set") (rSetT X.w X.K) := by
  intro pins s σ H vs us Q I r h
  obtain ⟨l, zs, rfl, hl, hb, q⟩ := h
  obtain ⟨u, rfl, ru⟩ := r.one
  cases ru
  obtain ⟨its, rv, p, hz⟩ := I.tuple hl
  refine set_of_tuple zs (I.ok.hd hc) p (by simpa using ints_of_vals rv) hb fun g tk c R hc' kp => ?_
  exact ⟨.ref _, upd H s.heap.objs.size (SetO X.w s.heap.objs.size (fun j => decide (j ∈ zs)) c), I.laid kp (Nat.le_refl _) (setO_new R), rfl, q _ c (I.hok.fresh (Nat.le_refl _)) hc'⟩
end Tb
namespace Tb
open PySem PySem.Spec PyProof.Rows L2
section
variable {P : Program} {w : World} {A : Around} {E : Value → Shared → Prop} {s : Shared}
theorem set_of_tuples {l : Addr} {its : Array Value} (ks : List (Addr × List Int)) {Q : Value → Shared → Prop} (h0 : A.handled = none) (hL : s.heap.IsTuple l its) (hI : its.toList = ks.map fun p => Value.ref p.1) (hk : ∀ p ∈ ks, IsT P w s.heap p.2 p.1) (hB : ks.length < 64) (hu : A.units + 3 < cLine)
    (k : ∀ (g : Heap) (tk : Nat) (L : List (Addr × List Int)) (es : Array (Int × Value)) (ep : Nat) (t : SetTable), SetTR P w g s.heap.objs.size L es ep t → Got ks ks.length L → (∀ b o, s.heap.get? b = some o → g.get? b = some o) → Q (.ref s.heap.objs.size) { s with heap := g, toks := tk }) :
    wpAny (model P w) A (call (.type "set") [.ref l]) Q E s := by
  have size : its.size = ks.length := by
    have := congrArg List.length hI
    rwa [Array.length_toList, List.length_map] at this
  obtain ⟨cc, tl, hmro⟩ := F.called_set.mro
  have made := F.called_set.made
  have subs := F.called_set.sub
  refine wpAny_call (codeAny_of_tree ?_)
  show wpAny _ _ (callAny (.type "set") _) _ _ _
  refine wpAny_pure ⟨Code.quiet_builtin _ (by decide +kernel), ?_⟩
  refine codeAny_builtin F.entry_type_call ?_
  rw [Around.under_plain (weight_type_call_type "set" [.ref l] []) rfl]
  have nt := F.called_set.notType
  have cr := F.called_set.canCreate
  have tc := F.typeCall_set_1 (.ref l)
  repeat (any_goals (first | assumption | wp_step))
  refine codeAny_mono (code_set_led1 (.ref l) (E := E) (Q₁ := fun u s1 => u = .ref s.heap.objs.size ∧ s1 = { s with heap := s.heap.push (nso w) }) ⟨rfl, rfl⟩) fun r s1 hr => ?_
  cases r with
  | error e => exact hr
  | ok fl =>
    cases fl with
    | ret u =>
      obtain ⟨rfl, rfl⟩ := hr
      have gS : (s.heap.push (nso w)).get? s.heap.objs.size = some (nso w) := Heap.get?_push_size _ rfl
      have tS : Shared.TypeIs { s with heap := s.heap.push (nso w) } (.ref s.heap.objs.size) "set" := ⟨_, gS, rfl⟩
      have il := F.called_set.init.lookup
      have ib := F.called_set.init.bind (.ref s.heap.objs.size)
      repeat (any_goals (first | assumption | wp_step))
      refine codeAny_mono (codeAny_call_builtin (R := wants (fun r s2 => r = .none ∧ ∃ g tk L es ep t, s2 = { s with heap := g, toks := tk } ∧ SetTR P w g s.heap.objs.size L es ep t ∧ Got ks ks.length L ∧
          (∀ b o, s.heap.get? b = some o → g.get? b = some o)) E) F.called_set.init.plain F.entry_set_init (check_set_init_1 tS ?_)) fun r2 s2 hr2 => ?_
      · obtain ⟨ol, gl, cl, nl, dl⟩ := hL
        obtain ⟨lc, ld, lt, ls⟩ := ol
        simp only at cl dl
        subst cl; subst dl
        have gl' : (s.heap.push (nso w)).get? l = some { cls := .type "tuple", dict := ld, data := .seq its nl, slots := ls } := Heap.get?_push_of_some _ gl
        have q1 := F.sub_tuple_set
        have q2 := F.sub_tuple_frozenset
        have q3 : (Value.type "tuple" == Value.type "dict") = false := by decide
        have L1 : (s.heap.push (nso w)).IsTuple l its := ⟨_, gl', rfl, nl, rfl⟩
        unfold Builtin.«set.__init__» noKeywords Builtin.Frozenset.updateFrom
        generalize hPI : pyIter = PI
        wp_walk
        subst hPI
        refine wpAny_pyIter_tuple L1 ?_
        refine wpAny_bind (wpAny_runValue ?_)
        have below : l < s.heap.objs.size := Heap.lt_size gl
        have h3 : A.in1.in1.in1.handled = none := by simp [h0]
        have z1 : (s.heap.push (nso w)).objs.size = s.heap.objs.size + 1 := Heap.size_push ..
        have ne1 : l ≠ (s.heap.push (nso w)).objs.size := by
          rw [z1]; exact Nat.ne_of_lt (Nat.lt_succ_of_lt below)
        have nS : s.heap.objs.size ∉ [(s.heap.push (nso w)).objs.size, l] := by
          rw [z1]
          simp only [List.mem_cons, List.mem_singleton, List.not_mem_nil, or_false, not_or]
          exact ⟨Nat.ne_of_lt (Nat.lt_succ_self _), Nat.ne_of_gt below⟩
        have vals : ∀ (i : Nat) (v : Value), its[i]? = some v → ∃ p, ks[i]? = some p ∧ v = .ref p.1 := by
          intro i v hv
          have e : its.toList[i]? = some v := by rw [Array.getElem?_toList]; exact hv
          rw [hI, List.getElem?_map] at e
          obtain ⟨p, hp, ep⟩ := Option.map_eq_some_iff.mp e
          exact ⟨p, hp, ep.symm⟩
        have off : ∀ b, s.heap.objs.size ≤ b → s.heap.get? b = none := fun b hb => by
          cases e : s.heap.get? b with
          | none => rfl
          | some o => exact absurd (Nat.lt_of_lt_of_le (Heap.lt_size e) hb) (Nat.lt_irrefl _)
        refine set_update_tups ((Walks.tuple h3 _ l ne1 its).toS) s.heap.objs.size nS ks size hB vals s.heap hk (off _ (Nat.le_refl _)) (fun b hb => off b (by rw [List.mem_singleton.mp hb, z1]; exact Nat.le_succ _)) hu (its.size - 0) 0 _ (by omega) (Nat.zero_le _) ⟨⟨_, Heap.get?_push_size _ rfl, rfl, rfl⟩, (L1.push _)⟩ (fun b o e => Heap.get?_push_of_some _ (Heap.get?_push_of_some _ e)) ?c0 ?c1
        case c0 => exact ⟨[], #[], 0, _, setTR_fresh (show ((s.heap.push (nso w)).push (isoT l)).get? s.heap.objs.size = some (nso w) from Heap.get?_push_of_some _ gS), Got.zero ks⟩
        case c1 =>
          intro s' L es ep t mv R' g' kk
          obtain ⟨g, gg, dd, tk', os'⟩ := s'
          have e1 : gg = s.gens := mv.gens
          have e2 : dd = s.drawn := mv.drawn
          have e3 : os' = s.os := mv.os
          subst e1; subst e2; subst e3
          show wpAny _ _ _ _ _ _
          refine wpAny_pure ?_
          show wpAny _ _ (ret Value.none) _ _ _
          rw [size] at g'
          exact wpAny_pure ⟨rfl, g, tk', L, es, ep, t, rfl, R', g', kk⟩
      · cases r2 with
        | error e => exact hr2
        | ok f2 =>
          cases f2 with
          | ret r =>
            obtain ⟨rfl, g, tk, L, es, ep, t, rfl, R2, g2, kk⟩ := hr2
            repeat (any_goals (first | assumption | wp_step))
            exact k _ _ _ _ _ _ R2 g2 kk
          | next => exact hr2.elim
          | brk => exact hr2.elim
          | cont => exact hr2.elim
    | next => exact hr.elim
    | brk => exact hr.elim
    | cont => exact hr.elim
end
/-- set(xs), xs a tuple of tuples of ints -/
def rSetTT (K : PySem.W.Frag) (P : Program) (w : World) : List V → Hp → VK → Prop := fun xs H Q => ∃ (l : Addr) (ks : List (Addr × List Int)), xs = [V.ref l] ∧ SqT K H l (ks.map fun p => V.ref p.1) ∧ (∀ p ∈ ks, SqT K H p.1 (p.2.map V.int)) ∧ ks.length < 64 ∧
  ∀ a L, H a = none → (∀ p ∈ L, p ∈ ks) → (∀ p ∈ ks, p.2 ∈ L.map (·.2)) → Q (.ref a) (upd H a (SetTO P w a L))
theorem cr_setTT {X : Cx} (hc : X.calm = true) (hu : X.A.units + 64 < cLine) : CallR X (.type "set") (rSetTT X.K X.prog X.w) := by
  intro pins s σ H vs us Q I r h
  obtain ⟨l, ks, rfl, hl, hk, hf, q⟩ := h
  obtain ⟨u, rfl, ru⟩ := r.one
  cases ru
  obtain ⟨its, rv, p, hz⟩ := I.tuple hl
  have hn : H s.heap.objs.size = none := I.hok.fresh (Nat.le_refl _)
  refine set_of_tuples ks (I.ok.hd hc) p (by simpa using refs_of_vals rv) (fun p hp => I.isT (hk p hp)) hf (by omega) fun g tk L es ep t R g2 kp => ?_
  refine ⟨.ref _, upd H s.heap.objs.size (SetTO X.prog X.w s.heap.objs.size L), I.laid (t' := tk) kp (Nat.le_refl _) (setTO_new R.t0), rfl, q _ L hn (fun p hp => ?_) fun p hp => ?_⟩
  · exact List.mem_of_mem_take (g2.sub p hp)
  · exact g2.all p (by rw [List.take_length]; exact hp)
end Tb
namespace Gx
open PySem PySem.Spec PyProof.Rows L2
theorem turn_out (elt t0 i0 t1 i1 : Expr) (scope : Scope) (pos : Pos) (it acc : Value) (env : Env) :
    compTurn (.GeneratorExp elt [⟨t0, i0, [], 0⟩, ⟨t1, i1, [], 0⟩] scope pos) 0 it acc env = (do
      standAt i0.pos
      match ← pyNext it with
      | none => pure (.done .next)
      | some v =>
        letOwnedTupleGo t0 it v
        assign t0 env v
        let x ← eval i1 env
        standAt i1.pos
        let x ← foldedSetIterable i1 env x
        let _ ← runOwn (.compStart (.GeneratorExp elt [⟨t0, i0, [], 0⟩, ⟨t1, i1, [], 0⟩] scope pos) 1 (← holding [x] (pyIter x)) acc env) env
        again (.compLoop (.GeneratorExp elt [⟨t0, i0, [], 0⟩, ⟨t1, i1, [], 0⟩] scope pos) 0 it acc env)) := by rfl
theorem turn_in (elt t0 i0 t1 i1 : Expr) (scope : Scope) (pos : Pos) (it acc : Value) (env : Env) :
    compTurn (.GeneratorExp elt [⟨t0, i0, [], 0⟩, ⟨t1, i1, [], 0⟩] scope pos) 1 it acc env = (do
      standAt i1.pos
      match ← pyNext it with
      | none => pure (.done .next)
      | some v =>
        letOwnedTupleGo t1 it v
        assign t1 env v
        (do let v ← eval elt env; standAt elt.pos; let _ ← yieldOut env v)
        again (.compLoop (.GeneratorExp elt [⟨t0, i0, [], 0⟩, ⟨t1, i1, [], 0⟩] scope pos) 1 it acc env)) := by rfl
/-- what is wanted of a generator of two clauses: W0 m i ahead of the i-th turn of the first, m items still to come at most; W1 within -/
structure Plan2 where
  W0 : Nat → Nat → L2.St → Hp → Prop
  W1 : It → Nat → Nat → Nat → L2.St → Hp → Prop
  Out : Bool → L2.St → Hp → Prop
  Fin : Hp → Prop
structure Turns2 (J : It) (g0 : TG) (w1 : TI) (g1 : TG) (te : TE) (go : Bool) (n0 : Nat) (Pn : Plan2) : Prop where
  out : ∀ m i σ H, i ≤ n0 → Pn.W0 m i σ H → (J.stop i H ∧ Pn.Fin H) ∨ (i < n0 ∧ J.go i H ∧ ∀ x H', J.yld i H x H' → g0 x σ H' fun σ2 H2 => w1 σ2 H2 fun J1 H3 => Pn.W1 J1 m i 0 σ2 H3)
  inn : ∀ J1 m i j σ H, i < n0 → Pn.W1 J1 m i j σ H → (J1.stop j H ∧ Pn.W0 m (i + 1) σ H) ∨ (J1.go j H ∧ ∃ m', m = m' + 1 ∧ ∀ x H', J1.yld j H x H' → g1 x σ H' fun σ2 H2 => te σ2 H2 fun v H3 => ∃ b, v = .bl b ∧ if b = go then Pn.W1 J1 m' i (j + 1) σ2 H3 else Pn.Out b σ2 H3)
def Plan2.flat (Pn : Plan2) : Plan := ⟨fun _ _ _ => True, fun b _ σ H => Pn.Out b σ H, Pn.Fin⟩
section
variable {Z : Cx} {elt t0 i0 t1 i1 : Expr} {scope : Scope} {pos : Pos} {it : Addr} {fp : List Addr} {tn : Nat → Heap → Prop} {J : It} {g0 g1 : TG} {w1 : TI} {te : TE} {A : Around} {pin : List (Addr × Obj)} {go : Bool} {n n0 g : Nat} {Pn : Plan2}
abbrev ge2 (elt t0 i0 t1 i1 : Expr) (scope : Scope) (pos : Pos) : Expr := .GeneratorExp elt [⟨t0, i0, [], 0⟩, ⟨t1, i1, [], 0⟩] scope pos
abbrev lo0 (elt t0 i0 t1 i1 : Expr) (scope : Scope) (pos : Pos) (it : Addr) (env : Env) : Code := .compLoop (ge2 elt t0 i0 t1 i1 scope pos) 0 (.ref it) .none env
abbrev lo1 (elt t0 i0 t1 i1 : Expr) (scope : Scope) (pos : Pos) (it : Addr) (env : Env) : Code := .compLoop (ge2 elt t0 i0 t1 i1 scope pos) 1 (.ref it) .none env
/-- ahead of a turn of the first clause -/
def SO (Z : Cx) (elt t0 i0 t1 i1 : Expr) (scope : Scope) (pos : Pos) (it : Addr) (fp : List Addr) (tn : Nat → Heap → Prop) (A : Around) (pin : List (Addr × Obj)) (go : Bool) (n g : Nat) (Pn : Plan2) (m i : Nat) : Prop :=
  ∀ (s₀ s : Shared) (σ : L2.St) (H : Hp), Inv Z pin σ H s → tn i s.heap → (∀ d ∈ fp, H d = none) → g < s.gens.size → Pn.W0 m i σ H → m ≤ n →
    Seg (model Z.prog Z.w) A (fun m s₁ r s₂ => r = .ok .next ∧ gP Z pin Pn.flat g m s₁ s₂) (gY Z pin fp tn Pn.flat go n g) m s₀ (lo0 elt t0 i0 t1 i1 scope pos it Z.env) ((model Z.prog Z.w).den (lo0 elt t0 i0 t1 i1 scope pos it Z.env)) [] s
/-- within: the second clause's loop, the first one's turn behind it on the stack -/
def SI (Z : Cx) (elt t0 i0 t1 i1 : Expr) (scope : Scope) (pos : Pos) (it : Addr) (fp : List Addr) (tn : Nat → Heap → Prop) (A : Around) (pin : List (Addr × Obj)) (go : Bool) (n g : Nat) (Pn : Plan2) (m i : Nat) : Prop :=
  ∀ (s₀ s : Shared) (σ : L2.St) (H : Hp) (F0 : Frame) (j : Nat) (it1 : Addr) (fp1 : List Addr) (tn1 : Nat → Heap → Prop) (J1 : It),
    (splitAtGen [F0] = none) → ([F0].any Frame.guarded = false) → (A.over (lo1 elt t0 i0 t1 i1 scope pos it1 Z.env) [F0] = Z.A) →
    (∀ m' s₀' s', Seg (model Z.prog Z.w) A (fun m s₁ r s₂ => r = .ok .next ∧ gP Z pin Pn.flat g m s₁ s₂) (gY Z pin fp tn Pn.flat go n g) m' s₀' (lo0 elt t0 i0 t1 i1 scope pos it Z.env) ((model Z.prog Z.w).den (lo0 elt t0 i0 t1 i1 scope pos it Z.env)) [] s' →
      Seg (model Z.prog Z.w) A (fun m s₁ r s₂ => r = .ok .next ∧ gP Z pin Pn.flat g m s₁ s₂) (gY Z pin fp tn Pn.flat go n g) m' s₀' (lo1 elt t0 i0 t1 i1 scope pos it1 Z.env) (leafOf (.ok .next)) [F0] s') →
    Turn Z.prog Z.w Z.K t1 J1 fp1 it1 tn1 → (∀ {H : Hp}, (∀ d ∈ fp1, H d = none) → ∀ d ∈ fp1, FpOk Z pin H d) → (∀ d ∈ fp, ∀ b ∈ fp1, d ≠ b) →
    Inv Z pin σ H s → tn (i + 1) s.heap → (∀ d ∈ fp, H d = none) → tn1 j s.heap → (∀ d ∈ fp1, H d = none) → g < s.gens.size → Pn.W1 J1 m i j σ H → m ≤ n →
    Seg (model Z.prog Z.w) A (fun m s₁ r s₂ => r = .ok .next ∧ gP Z pin Pn.flat g m s₁ s₂) (gY Z pin fp tn Pn.flat go n g) m s₀ (lo1 elt t0 i0 t1 i1 scope pos it1 Z.env) ((model Z.prog Z.w).den (lo1 elt t0 i0 t1 i1 scope pos it1 Z.env)) [F0] s
theorem fp_more {Z : Cx} {pin : List (Addr × Obj)} {H : Hp} {h : Heap} {fp : List Addr} {b : Addr} (f : FpOk Z pin H b) (d : ∀ a ∈ fp, a ≠ b) : FpOk Z (pin ++ pinsAt fp h) H b := by
  obtain ⟨h1, h2, h3, h4, h5, h6⟩ := f
  refine ⟨h1, h2, h3, h4, h5, fun p hp => ?_⟩
  rcases List.mem_append.mp hp with z | z
  · exact h6 p (List.mem_append_left _ z)
  · rcases List.mem_append.mp z with z | z
    · exact h6 p (List.mem_append_right _ z)
    · exact d _ (of_pinsAt z).1
theorem si_of (T : Turn Z.prog Z.w Z.K t0 J fp it tn) (hg1 : PG Z t1 g1) (hel : PE Z elt te) (hx : ∀ e s, ¬ Z.xe e s) (hc : Z.calm = true) (hco : Z.env.scope.isCoroutine = false) (tt : Turns2 J g0 w1 g1 te go n0 Pn)
    (stat : ∀ {H : Hp}, (∀ d ∈ fp, H d = none) → ∀ d ∈ fp, FpOk Z pin H d) {m i : Nat} (hi : i < n0)
    (ih : ∀ m', m = m' + 1 → SI Z elt t0 i0 t1 i1 scope pos it fp tn A pin go n g Pn m' i) (so : SO Z elt t0 i0 t1 i1 scope pos it fp tn A pin go n g Pn m (i + 1)) : SI Z elt t0 i0 t1 i1 scope pos it fp tn A pin go n g Pn m i := by
  intro s₀ s σ H F0 j it1 fp1 tn1 J1 hF1 hF2 hA hk T1 stat1 dis I st0 n0' st1 n1' hgz hw hm
  show Seg _ A _ _ _ s₀ _ ((compTurn (ge2 elt t0 i0 t1 i1 scope pos) 1 (.ref it1) .none Z.env).onRaise _) [F0] s
  rw [turn_in, Sem.onRaise_eq_wrap]
  refine seg_bind_wrap (wpAny_standAt ?_)
  refine seg_bind_wrap ?_
  rw [hA]
  have P0 := I.pinned (stat n0') (T.obj _ _ st0)
  have f1 : ∀ d ∈ fp1, FpOk Z (pin ++ pinsAt fp s.heap) H d := fun d hd => fp_more (stat1 n1' d hd) fun a ha => dis a ha d hd
  have keep0 : ∀ {pl : List (Addr × Obj)} {σ' : L2.St} {H' : Hp} {s' : Shared}, Inv Z (pin ++ pinsAt fp s.heap ++ pl) σ' H' s' → tn (i + 1) s'.heap ∧ ∀ d ∈ fp, H' d = none := fun {pl σ' H' s'} I' => by
    refine ⟨T.keep _ _ _ st0 fun d hd o e => (I'.pin (d, o) (List.mem_append_right _ (List.mem_append_left _ (List.mem_append_right _ (mem_pinsAt hd e))))).1, fun d hd => ?_⟩
    obtain ⟨o, e, _⟩ := T.obj _ _ st0 d hd
    exact (I'.pin (d, o) (List.mem_append_right _ (List.mem_append_left _ (List.mem_append_right _ (mem_pinsAt hd e))))).2.1
  rcases tt.inn J1 m i j σ H hi hw with ⟨stp, w0⟩ | ⟨gO, m', rfl, step⟩
  · refine GenW.wpAny_gsz (n := g + 1) hgz (wpAny_mono (T1.done Z rfl rfl rfl hc j _ s σ H (fun _ _ => False) P0 f1 st1 stp) (fun r s1 h1 hz => ?_) fun _ _ e => e.elim)
    obtain ⟨hr, I1⟩ := h1
    subst hr
    obtain ⟨a1, a2⟩ := keep0 (pl := []) (by rw [List.append_nil]; exact I1)
    exact hk m _ s1 (so _ s1 σ H I1.unpinned a1 a2 hz w0 hm)
  · refine GenW.wpAny_gsz (n := g + 1) hgz (wpAny_mono (T1.item Z rfl rfl rfl hc j _ s σ H (fun _ _ => False) P0 f1 st1 gO) (fun r s1 h1 hz1 => ?_) fun _ _ e => e.elim)
    obtain ⟨u, hr, h1⟩ := h1
    subst hr
    refine seg_bind_wrap ?_
    rw [hA]
    refine GenW.wpAny_gsz (n := g + 1) hz1 (wpAny_mono h1 (fun _ s2 h2 hz2 => ?_) fun _ _ e => e.elim)
    obtain ⟨x, H2, I2, r2, y2, st2, n2⟩ := h2
    have f2 : ∀ d ∈ fp1, FpOk Z (pin ++ pinsAt fp s.heap) H2 d := fun d hd => ⟨n2 d hd, (f1 d hd).2⟩
    have P2 := I2.pinned f2 (T1.obj _ _ st2)
    refine seg_bind_wrap ?_
    rw [hA]
    refine GenW.wpAny_gsz (n := g + 1) hz2 (wpAny_mono (hg1.run _ s2 σ H2 x u _ P2 r2 (step x H2 y2)) (fun _ s3 h3 hz3 => ?_) fun e s3 he _ => (hx e s3 he).elim)
    obtain ⟨σ3, H3, I3, q3⟩ := h3
    have hy : ∀ v, yieldOut Z.env v = yieldValue v := fun v => by simp only [yieldOut, hco, Bool.false_eq_true, if_false]
    simp only [hy]
    rw [Sem.bind_eq_wrap', Sem.bind_eq_wrap', Sem.wrap_wrap, Sem.wrap_wrap]
    refine seg_wrap ?_
    rw [hA]
    refine GenW.wpAny_gsz (n := g + 1) hz3 (wpAny_mono (hel.run _ s3 σ3 H3 _ I3 q3) (fun v s4 h4 hz4 => ?_) fun e s4 he _ => (hx e s4 he).elim)
    obtain ⟨w4, H4, I4, r4, b, eb, q4⟩ := h4
    subst eb
    obtain rfl : v = Value.bool b := r4
    obtain ⟨a1, a2⟩ := keep0 I4
    have st4 : tn1 (j + 1) s4.heap := T1.keep _ _ _ st2 fun d hd o e => (I4.pin (d, o) (List.mem_append_right _ (List.mem_append_right _ (mem_pinsAt hd e)))).1
    have n4 : ∀ d ∈ fp1, H4 d = none := fun d hd => by
      obtain ⟨o, e, _⟩ := T1.obj _ _ st2 d hd
      exact (I4.pin (d, o) (List.mem_append_right _ (List.mem_append_right _ (mem_pinsAt hd e)))).2.1
    have I4' := I4.unpinned.unpinned
    refine seg_at (seg_yield hF1 rfl hF2 ⟨n - m' - 1, b, σ3, H4, by omega, rfl, I4', hz4, ?_, fun hb s'' e1 e2 e3 e4 => ?_⟩)
    · by_cases hb : b = go
      · rw [if_pos hb]; exact trivial
      · rw [if_neg hb] at q4 ⊢
        exact q4
    · rw [if_pos hb] at q4
      exact seg_again rfl (ih m' rfl s'' s'' σ3 H4 F0 (j + 1) it1 fp1 tn1 J1 hF1 hF2 hA hk T1 stat1 dis (inv_same I4' e1 e2 e3) (by rw [e1]; exact a1) a2 (by rw [e1]; exact st4) n4 e4 q4 (by omega))
theorem so_of (T : Turn Z.prog Z.w Z.K t0 J fp it tn) (hg0 : PG Z t0 g0) (hw1 : PI Z t1 i1 w1) (hx : ∀ e s, ¬ Z.xe e s) (hc : Z.calm = true) (tt : Turns2 J g0 w1 g1 te go n0 Pn)
    (hs1 : ∀ x, foldedSetIterable i1 Z.env x = pure x)
    (hA : A.over (lo0 elt t0 i0 t1 i1 scope pos it Z.env) [] = Z.A)
    (hA1 : ∀ (it1 : Addr) (k g l p), A.over (lo1 elt t0 i0 t1 i1 scope pos it1 Z.env) [.ret k none g l (lo0 elt t0 i0 t1 i1 scope pos it Z.env) p []] = Z.A)
    (stat : ∀ {H : Hp}, (∀ d ∈ fp, H d = none) → ∀ d ∈ fp, FpOk Z pin H d) {m i : Nat} (hi : i ≤ n0)
    (si : i < n0 → SI Z elt t0 i0 t1 i1 scope pos it fp tn A pin go n g Pn m i) : SO Z elt t0 i0 t1 i1 scope pos it fp tn A pin go n g Pn m i := by
  intro s₀ s σ H I hst hn hgz hw hm
  show Seg _ A _ _ _ s₀ _ ((compTurn (ge2 elt t0 i0 t1 i1 scope pos) 0 (.ref it) .none Z.env).onRaise (leaving Z.env)) [] s
  rw [turn_out, Sem.onRaise_eq_wrap]
  refine seg_bind_wrap (wpAny_standAt ?_)
  refine seg_bind_wrap ?_
  rw [hA]
  rcases tt.out m i σ H hi hw with ⟨stp, fin⟩ | ⟨hlt, gO, step⟩
  · refine GenW.wpAny_gsz (n := g + 1) hgz (wpAny_mono (T.done Z rfl rfl rfl hc i pin s σ H (fun _ _ => False) I (stat hn) hst stp) (fun r s1 h1 hz => ?_) fun _ _ e => e.elim)
    obtain ⟨hr, I1⟩ := h1
    subst hr
    exact seg_end (.ok .next) ⟨rfl, σ, H, I1, fin, hz⟩
  · refine GenW.wpAny_gsz (n := g + 1) hgz (wpAny_mono (T.item Z rfl rfl rfl hc i pin s σ H (fun _ _ => False) I (stat hn) hst gO) (fun r s1 h1 hz1 => ?_) fun _ _ e => e.elim)
    obtain ⟨u, hr, h1⟩ := h1
    subst hr
    refine seg_bind_wrap ?_
    rw [hA]
    refine GenW.wpAny_gsz (n := g + 1) hz1 (wpAny_mono h1 (fun _ s2 h2 hz2 => ?_) fun _ _ e => e.elim)
    obtain ⟨x, H2, I2, r2, y2, st2, n2⟩ := h2
    have P2 := I2.pinned (stat n2) (T.obj _ _ st2)
    refine seg_bind_wrap ?_
    rw [hA]
    refine GenW.wpAny_gsz (n := g + 1) hz2 (wpAny_mono (hg0.run _ s2 σ H2 x u _ P2 r2 (step x H2 y2)) (fun _ s3 h3 hz3 => ?_) fun e s3 he _ => (hx e s3 he).elim)
    obtain ⟨σ3, H3, I3, q3⟩ := h3
    refine seg_bind_wrap ?_
    rw [hA]
    refine GenW.wpAny_gsz (n := g + 1) hz3 (wpAny_mono (hw1.run _ s3 σ3 H3 _ I3 q3) (fun v s4 h4 hz4 => ?_) fun e s4 he _ => (hx e s4 he).elim)
    refine seg_bind_wrap (wpAny_standAt ?_)
    rw [hs1]
    refine seg_bind_wrap (wpAny_pure ?_)
    refine seg_bind_wrap ?_
    rw [hA]
    refine GenW.wpAny_gsz (n := g + 1) hz4 (wpAny_holding (wpAny_mono h4 (fun itv s5 h5 hz5 => ?_) fun e s5 he _ => (hx e s5 he).elim))
    obtain ⟨it1, fp1, tn1, J1, H5, rfl, I5, T1, st1, f1, q5⟩ := h5
    have a1 : tn (i + 1) s5.heap := T.keep _ _ _ st2 fun d hd o e => (I5.pin (d, o) (List.mem_append_right _ (List.mem_append_right _ (mem_pinsAt hd e)))).1
    have a2 : ∀ d ∈ fp, H5 d = none := fun d hd => by
      obtain ⟨o, e, _⟩ := T.obj _ _ st2 d hd
      exact (I5.pin (d, o) (List.mem_append_right _ (List.mem_append_right _ (mem_pinsAt hd e)))).2.1
    have dis : ∀ d ∈ fp, ∀ b ∈ fp1, d ≠ b := fun d hd b hb => by
      obtain ⟨o, e, _⟩ := T.obj _ _ st2 d hd
      exact (f1 b hb).2.2.2.2.2 (d, o) (List.mem_append_right _ (List.mem_append_right _ (mem_pinsAt hd e)))
    have stat1 : ∀ {H : Hp}, (∀ d ∈ fp1, H d = none) → ∀ d ∈ fp1, FpOk Z pin H d := fun {H} hn d hd => by
      obtain ⟨_, h2, h3, h4, h5, h6⟩ := f1 d hd
      refine ⟨hn d hd, h2, h3, h4, h5, fun p hp => ?_⟩
      rcases List.mem_append.mp hp with z | z
      · exact h6 p (List.mem_append_left _ z)
      · exact h6 p (List.mem_append_right _ (List.mem_append_left _ z))
    unfold runOwn run
    rw [Sem.onRaise_eq_wrap, Sem.bind_eq_wrap', Sem.wrap_wrap, Sem.wrap_wrap]
    refine seg_call fun p => ?_
    have lp := fun (F0 : Frame) (b1 : splitAtGen [F0] = none) (b2 : [F0].any Frame.guarded = false) b3 b4 => si hlt s₀ s5 σ3 H5 F0 0 it1 fp1 tn1 J1 b1 b2 b3 b4 T1 stat1 dis I5.unpinned a1 a2 st1 (fun d hd => (f1 d hd).1) hz5 q5 hm
    show Seg _ A _ _ _ s₀ _ ((compStart (ge2 elt t0 i0 t1 i1 scope pos) 1 (.ref it1) .none Z.env).onRaise _) [_] s5
    unfold compStart
    rw [Sem.onRaise_eq_wrap]
    show Seg _ A _ _ _ s₀ _ ((ask >>= _).wrap _ _ _ _) [_] s5
    refine seg_bind_wrap (wpAny_askSetting ?_)
    split
    · refine seg_again rfl (lp _ rfl rfl (hA1 _ _ _ _ _) ?_)
      exact fun m' s₀' s' h => seg_leaf (.ok .next) (seg_again rfl h)
    · refine seg_bind_wrap (wpAny_rule ?_)
      show Seg _ A _ _ _ s₀ _ ((standAt i1.pos >>= _).wrap _ _ _ _) [_] s5
      refine seg_bind_wrap (wpAny_standAt (seg_bind_wrap (T1.self _ 0 s5 _ _ st1 (seg_again rfl (lp _ rfl rfl (hA1 _ _ _ _ _) ?_)))))
      exact fun m' s₀' s' h => seg_leaf (.ok .next) (seg_again rfl h)
theorem both (T : Turn Z.prog Z.w Z.K t0 J fp it tn) (hg0 : PG Z t0 g0) (hw1 : PI Z t1 i1 w1) (hg1 : PG Z t1 g1) (hel : PE Z elt te) (hx : ∀ e s, ¬ Z.xe e s) (hc : Z.calm = true) (hco : Z.env.scope.isCoroutine = false) (tt : Turns2 J g0 w1 g1 te go n0 Pn)
    (hs1 : ∀ x, foldedSetIterable i1 Z.env x = pure x)
    (hA : A.over (lo0 elt t0 i0 t1 i1 scope pos it Z.env) [] = Z.A)
    (hA1 : ∀ (it1 : Addr) (k g l p), A.over (lo1 elt t0 i0 t1 i1 scope pos it1 Z.env) [.ret k none g l (lo0 elt t0 i0 t1 i1 scope pos it Z.env) p []] = Z.A)
    (stat : ∀ {H : Hp}, (∀ d ∈ fp, H d = none) → ∀ d ∈ fp, FpOk Z pin H d) :
    ∀ m, (∀ i, i ≤ n0 → SO Z elt t0 i0 t1 i1 scope pos it fp tn A pin go n g Pn m i) ∧ ∀ i, i < n0 → SI Z elt t0 i0 t1 i1 scope pos it fp tn A pin go n g Pn m i := by
  have step : ∀ m, (∀ i, i < n0 → ∀ m', m = m' + 1 → SI Z elt t0 i0 t1 i1 scope pos it fp tn A pin go n g Pn m' i) → (∀ i, i ≤ n0 → SO Z elt t0 i0 t1 i1 scope pos it fp tn A pin go n g Pn m i) ∧ ∀ i, i < n0 → SI Z elt t0 i0 t1 i1 scope pos it fp tn A pin go n g Pn m i := by
    intro m ih
    have so : ∀ d i, i + d = n0 → SO Z elt t0 i0 t1 i1 scope pos it fp tn A pin go n g Pn m i := by
      intro d
      induction d with
      | zero => exact fun i e => so_of T hg0 hw1 hx hc tt hs1 hA hA1 stat (by omega) fun h => absurd h (by omega)
      | succ d id => exact fun i e => so_of T hg0 hw1 hx hc tt hs1 hA hA1 stat (by omega) fun h => si_of T hg1 hel hx hc hco tt stat h (ih i h) (id (i + 1) (by omega))
    exact ⟨fun i h => so (n0 - i) i (by omega), fun i h => si_of T hg1 hel hx hc hco tt stat h (ih i h) (so (n0 - (i + 1)) (i + 1) (by omega))⟩
  intro m
  induction m with
  | zero => exact step 0 fun i _ m' e => by cases e
  | succ m ih =>
    refine step (m + 1) fun i h m' e => ?_
    have : m = m' := by omega
    subst this
    exact ih.2 i h
theorem begin2 (T : Turn Z.prog Z.w Z.K t0 J fp it tn) (hA3 : A.over (.compStart (ge2 elt t0 i0 t1 i1 scope pos) 0 (.ref it) .none Z.env) [] = Z.A) {m : Nat} (so : SO Z elt t0 i0 t1 i1 scope pos it fp tn A pin go n g Pn m 0)
    (s₀ s : Shared) (σ : L2.St) (H : Hp) (I : Inv Z pin σ H s) (hst : tn 0 s.heap) (hn : ∀ d ∈ fp, H d = none) (hgz : g < s.gens.size) (hw : Pn.W0 m 0 σ H) (hm : m ≤ n) :
    Seg (model Z.prog Z.w) A (fun m s₁ r s₂ => r = .ok .next ∧ gP Z pin Pn.flat g m s₁ s₂) (gY Z pin fp tn Pn.flat go n g) m s₀ (.compStart (ge2 elt t0 i0 t1 i1 scope pos) 0 (.ref it) .none Z.env)
      ((model Z.prog Z.w).den (.compStart (ge2 elt t0 i0 t1 i1 scope pos) 0 (.ref it) .none Z.env)) [] s := by
  have lp := so s₀ s σ H I hst hn hgz hw hm
  show Seg _ A _ _ _ s₀ _ ((compStart (ge2 elt t0 i0 t1 i1 scope pos) 0 (.ref it) .none Z.env).onRaise (leaving Z.env)) [] s
  unfold compStart
  rw [Sem.onRaise_eq_wrap]
  show Seg _ A _ _ _ s₀ _ ((ask >>= _).wrap _ _ _ _) [] s
  refine seg_bind_wrap (wpAny_askSetting ?_)
  split
  · exact seg_again rfl lp
  · refine seg_bind_wrap (wpAny_rule ?_)
    show Seg _ A _ _ _ s₀ _ ((standAt i0.pos >>= _).wrap _ _ _ _) [] s
    exact seg_bind_wrap (wpAny_standAt (seg_bind_wrap (T.self _ 0 s _ _ hst (seg_again rfl lp))))
end
structure GScL (N : List Str) (sc scope : Scope) (own : List (Str × Nat)) : Prop where
  kind : scope.kind = .function
  co : scope.isCoroutine = false
  cell : ∀ y ∈ scope.names, y.2 ≠ .cell
  dot : scope.names.lookup (".0" : Str) = some NameKind.local
  loc : ∀ y, scope.names.lookup y = some .local → y = (".0" : Str) ∨ ∃ i, (y, i) ∈ own
  free : ∀ y ∈ scope.names, y.2 = .free → sc.names.lookup y.1 = some .cell ∨ sc.names.lookup y.1 = some .free
  nd : N.Nodup
  spot : ∀ q ∈ own, N[q.2]? = some q.1
  nodot : (".0" : Str) ∉ N
section
variable {X : Cx} {pins : List (Addr × Obj)} {σ : L2.St} {H : Hp} {s : Shared}
/-- the generator's frame has been laid: the invariant of its context -/
theorem gx_startL {N : List Str} {scope : Scope} {own : List (Str × Nat)} {A : Around} {code : Value} {fp : List Addr} {itv : Value} {h1 : Heap} {tk : Nat} {gens' : Array GenState} {pin : List (Addr × Obj)}
    (I : Inv X pins σ H s) (G : GScL X.N X.env.scope scope own)
    (hA : A.frames = some (genEnv scope (cloFrom X.env.cells scope.names []) s.heap.objs.size code builtinsNs X.env :: X.stack)) (hd : A.handled = none)
    (hfp : ∀ b ∈ fp, FpOk X pins H b) (hlt : ∀ b ∈ fp, b < s.heap.objs.size)
    (hns : h1.Ns s.heap.objs.size fun y => if y = (".0" : Str) then some itv else none) (kp : ∀ b o, s.heap.get? b = some o → h1.get? b = some o) (hb : AllBare gens')
    (hpin : ∀ p ∈ pin, h1.get? p.1 = some p.2 ∧ s.heap.objs.size < p.1 ∧ ∀ v, p.2.data ≠ .cell v) :
    Inv (gcx X A s H (genEnv scope (cloFrom X.env.cells scope.names []) s.heap.objs.size code builtinsNs X.env) fp) pin (wipe σ (own.map (·.2))) H { s with heap := h1, toks := tk, gens := gens' } := by
  have has : ∀ y ∈ scope.names, y.2 = .free → ∃ c, X.env.cells.lookup y.1 = some c := fun y hy e => by
    rcases G.free y hy e with k | k
    · exact I.ok.has _ (.inl k)
    · exact I.ok.has _ (.inr k)
  have cm : ∀ {y c}, (cloFrom X.env.cells scope.names []).lookup y = some c → X.env.cells.lookup y = some c := fun {y c} e => clo_sub has e
  have look : ∀ {y}, scope.names.lookup y = some .free → ∃ c, (cloFrom X.env.cells scope.names []).lookup y = some c := fun {y} hl => by
    have hy : (y, NameKind.free) ∈ scope.names := PySem.mem_of_lookup hl
    exact mem_lookup (cloFrom_has (cells := X.env.cells) (acc := []) hy)
  have cellK : ∀ {c : Addr} {v : Option Value}, s.heap.IsCell c v → h1.IsCell c v := fun {c v} ⟨o, ho, hd⟩ => ⟨o, kp _ _ ho, hd⟩
  refine ⟨⟨I.ok.mod, G.kind, I.ok.glob, rfl, Nat.le_refl _, fun y z c e1 e2 => I.ok.inj y z c (cm e1) (cm e2), fun y hy => ?_, fun y c z _ => ?_, fun _ => hd, hA, .inr ⟨rfl, rfl⟩, fun b hb => ⟨Nat.ne_of_lt (hlt b hb), fun y c e => ?_⟩, I.bs,
      Nat.le_trans I.ok.bsz I.sz, fun b o e hb => ?_, fun b hb hm => ?_, I.stack, I.stkFree⟩,
    rfl, hb, Un.kept kp, ⟨_, hns, fun i y v e1 e2 e3 => ?_⟩, fun y c e => ?_, I.hok.fresh (Nat.le_refl _), fun y c e => I.freeC y c (cm e), fun p hp => ?_, I.hok.kept kp, ?_⟩
  · have hy : scope.names.lookup y = some .cell ∨ scope.names.lookup y = some .free := hy
    rcases hy with hy | hy
    · exact absurd rfl (G.cell _ (PySem.mem_of_lookup hy))
    · exact look hy
  · cases z
  · exact (hfp b hb).2.2.2.2.1 y c (cm e)
  · obtain ⟨_, _, _, h4, _⟩ := hfp b hb
    rcases h4 with h4 | h4
    · exact I.ok.noex b o e h4
    · exact absurd (Nat.lt_of_lt_of_le (Nat.lt_of_lt_of_le (Heap.lt_size e) I.ok.bsz) h4) (Nat.lt_irrefl _)
  · obtain ⟨_, h2, h3, _⟩ := hfp b hb
    rcases List.mem_cons.mp (I.stkSub b hm) with z | z
    · exact h2 z
    · exact h3 z
  · have e3 : Vis scope y := e3
    have e2' := wipe_some e2
    rcases e3 with k | k | k
    · rcases G.loc y k with z | z
      · exact absurd (List.mem_of_getElem? (show X.N[i]? = some (".0" : Str) by rw [← z]; exact e1)) G.nodot
      · obtain ⟨i', hi'⟩ := z
        have := nodup_ix G.nd e1 (G.spot _ hi')
        exact absurd (List.mem_map.mpr ⟨_, hi', this.symm⟩) e2'.2
    · exact absurd rfl (G.cell _ (PySem.mem_of_lookup k))
    · obtain ⟨m, hn, hl⟩ := I.loc
      have hfr := G.free _ (PySem.mem_of_lookup k) rfl
      have hvis : Vis X.env.scope y := hfr.elim (fun k => .inr (.inl k)) (fun k => .inr (.inr k))
      obtain ⟨w', r, q⟩ := hl i y v e1 e2'.1 hvis
      obtain ⟨c2, h2⟩ := look k
      refine ⟨w', r, .inr ⟨.inr k, c2, h2, ?_⟩⟩
      have c1 := cm h2
      rcases q with ⟨k', _⟩ | ⟨_, c3, e', z⟩
      · have k' : X.env.scope.names.lookup y = some .local := k'
        rcases hfr with k2 | k2 <;> rw [show X.env.scope.names.lookup y = _ from k2] at k' <;> cases k'
      · rw [c1] at e'
        cases e'
        exact cellK z
  · obtain ⟨w', z⟩ := I.cell y c (cm e)
    exact ⟨w', cellK z⟩
  · have hp' : p ∈ pin := by
      rcases List.mem_append.mp hp with z | z
      · exact absurd (show p ∈ ([] : List (Addr × Obj)) from z) (by simp)
      · exact z
    obtain ⟨q1, q2, q3⟩ := hpin p hp'
    refine ⟨q1, I.hok.fresh (Nat.le_of_lt q2), Nat.ne_of_gt q2, fun hm => ?_, q3⟩
    have hm' : p.1 ∈ frs X.stack := hm
    rcases List.mem_cons.mp (I.stkSub _ hm') with z | z
    · have := I.lt
      rw [← z] at this
      exact absurd (Nat.lt_trans this q2) (Nat.lt_irrefl _)
    · exact I.nofs (Nat.le_of_lt q2) z
  · rw [wipe_length]; exact I.len
end
end Gx
namespace Gx
open PySem PySem.Spec PyProof.Rows L2
theorem eval_ge (elt target iter : Expr) (rest : List Comprehension) (scope : Scope) (pos : Pos) (env : Env) (hco : scope.isCoroutine = false) :
    eval (.GeneratorExp elt (⟨target, iter, [], 0⟩ :: rest) scope pos) env = (do
      let v ← eval iter env
      standAt iter.pos
      let v ← genFold iter env v
      let iv ← holding [v] (pyIter v)
      enterFrame
      let cl ← closureFor scope env
      let cd ← genexprCode env pos (env.qual ++ "<genexpr>") scope
      let bi ← builtinsFor env.globals env.builtins
      let ce ← newFunctionEnv scope env.globals cl [(".0", iv)] (env.qual ++ "<genexpr>.") none cd none bi
      newGenerator (.compStart (.GeneratorExp elt (⟨target, iter, [], 0⟩ :: rest) scope pos) 0 iv .none ce) "<genexpr>" (env.qual ++ "<genexpr>")) := by
  rw [arm_eval_GeneratorExp]
  simp only [hco, Bool.false_eq_true, if_false]
  cases iter <;> rfl
section
variable {M : Model} {A : Around} {E : Value → Shared → Prop} {s : Shared}
theorem made_ge {env : Env} {elt target iter : Expr} {rest : List Comprehension} {scope : Scope} {cl : List (Str × Addr)} {pos : Pos} {Q : Value → Shared → Prop}
    (hco : scope.isCoroutine = false) (cls : closureFor scope env = pure cl) (hcell : ∀ y ∈ scope.names, y.2 ≠ .cell) (dot : scope.names.lookup (".0" : Str) = some NameKind.local) (kd : scope.kind = .function) (room : A.depth < recursionLimit)
    (h : wpAny M A (eval iter env) (fun xv s1 => wpAny M A (pyIter xv) (fun iv s2 => s2.heap.NoLimit ∧
      wpAny M A (genexprCode env pos (env.qual ++ "<genexpr>") scope) (fun cd s3 => wpAny M A (builtinsFor env.globals env.builtins) (fun bi s4 =>
        ∀ h', h'.Ns s4.heap.objs.size (fun y => if y = (".0" : Str) then some iv else none) → Heap.SameBut s4.heap.objs.size (s4.heap.push { cls := .type "frame", data := .dict #[] }) h' →
          Q (.ref h'.objs.size) { s4 with
            gens := s4.gens.push (.fresh (.compStart (.GeneratorExp elt (⟨target, iter, [], 0⟩ :: rest) scope pos) 0 iv .none (genEnv scope cl s4.heap.objs.size cd bi env))),
            toks := s4.toks + 1 + 1 + 1, heap := h'.push { cls := .type "generator", data := .fields #[.int s4.gens.size 0, .str "<genexpr>" (s4.toks + 1), .str (env.qual ++ "<genexpr>") (s4.toks + 1 + 1)] } }) E s3) E s2) E s1) E s)
    (hs : ∀ v, genFold iter env v = pure v) : wpAny M A (eval (.GeneratorExp elt (⟨target, iter, [], 0⟩ :: rest) scope pos) env) Q E s := by
  rw [eval_ge _ _ _ _ _ _ _ hco, cls]
  refine wpAny_bind (wpAny_mono h (fun v s1 h1 => wpAny_bind (wpAny_standAt (wpAny_bind (wpAny_of_eq (hs v) (wpAny_bind (wpAny_holding (wpAny_mono h1 (fun iv s2 h2 => ?_) fun _ _ e => e))))))) fun _ _ e => e)
  refine wpAny_bind (wpAny_enterFrame h2.1 room (wpAny_bind (wpAny_pure (wpAny_bind (wpAny_mono h2.2 (fun cd s3 h3 => wpAny_bind (wpAny_mono h3 (fun bi s4 h4 => ?_) fun _ _ e => e)) fun _ _ e => e)))))
  refine wpAny_bind (wpAny_newFunctionEnv hcell (fun y hy => ?_) (fun h' hn hb => ?_) kd)
  · rw [List.mem_singleton.mp hy]; exact dot
  have e : (fun y : Str => ([((".0" : Str), iv)] : List (Str × Value)).reverse.lookup y) = fun y : Str => if y = (".0" : Str) then some iv else none := by
    funext y
    by_cases z : y = ".0"
    · subst z; simp
    · have b : (y == (".0" : Str)) = false := by simpa using z
      simp [List.lookup, b, z]
  rw [e] at hn
  simp only [newGenerator, newFields]
  exact wpAny_bind (wpAny_newGen (wpAny_bind (wpAny_mkText (wpAny_bind (wpAny_mkText (wpAny_newObj_type (h4 h' hn hb) (by size_fits)))))))
end
def tAllG2 (P : Addr) (own : List (Str × Nat)) (wi : TI) (g : TG) (w1 : TI) (g1 : TG) (te : TE) (go : Bool) : TE := fun σ H Q => wi σ H fun J H1 => GxR.TabG H1 P ∧ ∀ H2, GxR.Tabbed P H1 H2 → ∃ (n0 n : Nat) (Pn : Plan2), Turns2 J g w1 g1 te go n0 Pn ∧ Pn.W0 n 0 (wipe σ (own.map (·.2))) H2 ∧
  (∀ σ' H', Pn.Out (!go) σ' H' → Q (.bl (!go)) H') ∧ ∀ H', Pn.Fin H' → Q (.bl go) H'
section
variable {X : Cx} {elt t0 t1 iter i1 : Expr} {p pos gpos : Pos} {scope : Scope} {own : List (Str × Nat)} {k : Nat} {wi w1 : TI} {g g1 : TG} {te : TE} {P c : Addr}
theorem gen_made2 {pins : List (Addr × Obj)} {σ : L2.St} {H : Hp} {s : Shared} {go : Bool} {R : V → Hp → Prop} {Q' : Value → Shared → Prop}
    (hr : Room (k + 1) X.A) (TB : GxR.TabB X.base X.mg c P) (hcode : X.env.code = .ref c) (G : GScL X.N X.env.scope scope own) (hi : PI X t0 iter wi)
    (hgt : ∀ (s : Shared) (H : Hp) (C : Addr) (code : Value) (fp : List Addr), PG (gcx X (gA X (gE X scope C code)) s H (gE X scope C code) fp) t0 g)
    (hw1 : ∀ (s : Shared) (H : Hp) (C : Addr) (code : Value) (fp : List Addr), Room k (gA X (gE X scope C code)) → PI (gcx X (gA X (gE X scope C code)) s H (gE X scope C code) fp) t1 i1 w1)
    (hg1 : ∀ (s : Shared) (H : Hp) (C : Addr) (code : Value) (fp : List Addr), PG (gcx X (gA X (gE X scope C code)) s H (gE X scope C code) fp) t1 g1)
    (hel : ∀ (s : Shared) (H : Hp) (C : Addr) (code : Value) (fp : List Addr), Room k (gA X (gE X scope C code)) → PE (gcx X (gA X (gE X scope C code)) s H (gE X scope C code) fp) elt te)
    (hs : ∀ v, genFold iter X.env v = pure v) (hs1 : ∀ env v, foldedSetIterable i1 env v = pure v) (I : Inv X pins σ H s) (h : tAllG2 P own wi g w1 g1 te go σ H R)
    (hQ : ∀ (Z : Cx) (fp : List Addr) (tn : Nat → Heap → Prop) (a : Addr) (o : Obj) (n gg : Nat) (Pn : Plan) (nm qn : Value) (s5 : Shared) (gs : GenState) (σ5 : L2.St) (H5 : Hp), Z.prog = X.prog → Z.w = X.w →
      o.cls = .type "generator" → o.data = .fields #[.int gg 0, nm, qn] → o.slots = #[] → Inv Z [(a, o)] σ5 H5 s5 → s5.gens[gg]? = some gs →
      gs.Goes (model Z.prog Z.w) X.A.in1.in1 (fun m s₁ r s₂ => r = .ok .next ∧ gP Z [(a, o)] Pn gg m s₁ s₂) (gY Z [(a, o)] fp tn Pn go n gg) n (.send .none) (s5.setGen gg .running) →
      (∀ i σ' H' s', Inv Z [(a, o)] σ' H' s' → Pn.Out (!go) i σ' H' → ∃ H'', Inv X pins σ H'' s' ∧ R (.bl (!go)) H'') →
      (∀ σ' H' s', Inv Z [(a, o)] σ' H' s' → Pn.Fin H' → ∃ H'', Inv X pins σ H'' s' ∧ R (.bl go) H'') → Q' (.ref a) s5) :
    wpAny (model X.prog X.w) X.A (eval (.GeneratorExp elt [⟨t0, iter, [], 0⟩, ⟨t1, i1, [], 0⟩] scope gpos) X.env) Q' X.xe s := by
  have has : ∀ y ∈ scope.names, y.2 = .free → ∃ c, X.env.cells.lookup y.1 = some c := fun y hy e => by
    rcases G.free y hy e with k | k
    · exact I.ok.has _ (.inl k)
    · exact I.ok.has _ (.inr k)
  refine made_ge G.co (closure_ok has) G.cell G.dot G.kind (by have := hr.dp; omega) ?_ hs
  refine thn (hi.run pins s σ H _ I h) fun xv s1 h1 => thn h1 fun itv s2 h2 => ?_
  obtain ⟨it, fp, tn, J, H1, rfl, I1, T, st1, f1, ⟨ps, hP, ht⟩, plan⟩ := h2
  have hPs : s2.heap.get? P = some { cls := .none, data := .fields ps } := I1.hok P _ hP
  have cd : PySem.W.CodeHd s2.heap c P := TB.code.keeps fun b u e => I1.bk b u e
  have fpP : ∀ b ∈ fp, b ≠ P := fun b hb z => by
    have := (f1 b hb).1
    rw [z, hP] at this
    cases this
  have cont : ∀ (code : Value) (h3 : Heap) (tk : Nat) (ps' : Array Value), Heap.ExtBut P s2.heap h3 → h3.get? P = some { cls := .none, data := .fields ps' } → (∃ more, ps' = ps ++ more) → TriplesOk ps'.toList →
      wpAny (model X.prog X.w) X.A (builtinsFor X.env.globals X.env.builtins) (fun bi s₄ => ∀ h', h'.Ns s₄.heap.objs.size (fun y => if y = (".0" : Str) then some (.ref it) else none) → Heap.SameBut s₄.heap.objs.size (s₄.heap.push { cls := .type "frame", data := .dict #[] }) h' →
          Q' (.ref h'.objs.size) { s₄ with
            gens := s₄.gens.push (.fresh (.compStart (.GeneratorExp elt [⟨t0, iter, [], 0⟩, ⟨t1, i1, [], 0⟩] scope gpos) 0 (.ref it) .none (genEnv scope (cloFrom X.env.cells scope.names []) s₄.heap.objs.size code bi X.env))),
            toks := s₄.toks + 1 + 1 + 1,
            heap := h'.push { cls := .type "generator", data := .fields #[.int s₄.gens.size 0, .str "<genexpr>" (s₄.toks + 1), .str (X.env.qual ++ "<genexpr>") (s₄.toks + 1 + 1)] } }) X.xe { s2 with heap := h3, toks := tk } := by
    intro code h3 tk ps' hx hP3 hmore ht3
    obtain ⟨bm, ob, e1, e2, e3, e4, e5, e6, e7, e8⟩ := TB.bm
    refine wpAny_builtinsFor (m := X.mg) (by rw [I1.ok.glob]; exact (I1.mod.glob.keeps I1.bk).extBut hx TB.gP) e1 e2 (hx _ _ e4 (I1.bk _ _ e5)) e6 e7 e8 ?_
    intro h' hns hsb
    obtain ⟨more, rfl⟩ := hmore
    have I3 : Inv X pins σ (upd H1 P (.tbl (ps ++ more))) { s2 with heap := h3, toks := tk } :=
      GxR.inv_tab (more := more) (h' := h3) (g' := s2.gens) (d' := s2.drawn) (t' := tk) I1 hP (fun b u hb e => hx b u hb e) hP3 I1.bare
    have H2 : GxR.Tabbed P H1 (upd H1 P (.tbl (ps ++ more))) := ⟨⟨ps ++ more, upd_same, ht3⟩, fun b hb => upd_ne hb⟩
    obtain ⟨n0, n, Pn2, tt, w0, pOut, pFin⟩ := plan _ H2
    have f3 : ∀ b ∈ fp, FpOk X pins (upd H1 P (.tbl (ps ++ more))) b := fun b hb => ⟨by rw [upd_ne (fpP b hb)]; exact (f1 b hb).1, (f1 b hb).2⟩
    have st3 : tn 0 h3 := T.keep _ _ _ st1 fun b hb o e => hx b o (fpP b hb) e
    have lt3 : ∀ b ∈ fp, b < h3.objs.size := fun b hb => by
      obtain ⟨o, e, _⟩ := T.obj _ _ st3 b hb
      exact Heap.lt_size e
    have hsz : h'.objs.size = h3.objs.size + 1 := by rw [hsb.1, Heap.size_push]
    have kp' : ∀ b o, h3.get? b = some o → h'.get? b = some o := fun b o e => hsb.extBut b o (Nat.ne_of_lt (Heap.lt_size e)) (Heap.get?_push_of_some _ e)
    have key : ∀ (o : Obj) (nm qn : Value), o.cls = .type "generator" → o.data = .fields #[.int s2.gens.size 0, nm, qn] → o.slots = #[] → (h'.push o).get? h'.objs.size = some o →
        Q' (.ref h'.objs.size) { s2 with
            gens := s2.gens.push (.fresh (.compStart (.GeneratorExp elt [⟨t0, iter, [], 0⟩, ⟨t1, i1, [], 0⟩] scope gpos) 0 (.ref it) .none (gE X scope h3.objs.size code))),
            toks := tk + 1 + 1 + 1, heap := h'.push o } := by
      intro o nm qn hc hd hsl hget
      have kp5 : ∀ b u, h3.get? b = some u → (h'.push o).get? b = some u := fun b u e => Heap.get?_push_of_some _ (kp' b u e)
      have bare5 : AllBare (s2.gens.push (.fresh (.compStart (.GeneratorExp elt [⟨t0, iter, [], 0⟩, ⟨t1, i1, [], 0⟩] scope gpos) 0 (.ref it) .none (gE X scope h3.objs.size code)))) := I1.bare.push rfl
      have Rm : Room k (gA X (gE X scope h3.objs.size code)) := ⟨hr.hd, by have := hr.dp; show X.A.depth + 1 + 3 * k + 5 < _; omega, by have := hr.un; show X.A.units + 1 + 1 + 3 + 16 * k + 200 < _; omega⟩
      have J0 := gx_startL (A := gA X (gE X scope h3.objs.size code)) (code := code) (fp := fp) (itv := .ref it) (h1 := h'.push o) (tk := tk + 1 + 1 + 1) (pin := [(h'.objs.size, o)])
        (gens' := s2.gens.push (.fresh (.compStart (.GeneratorExp elt [⟨t0, iter, [], 0⟩, ⟨t1, i1, [], 0⟩] scope gpos) 0 (.ref it) .none (gE X scope h3.objs.size code)))) (own := own) (N := X.N) I3 G
        (Around.frames_deeper I.ok.frames) hr.hd f3 lt3 (hns.push _) kp5 bare5 (fun q hq => by
          rw [List.mem_singleton.mp hq]
          refine ⟨hget, ?_, fun v z => ?_⟩
          · show h3.objs.size < h'.objs.size
            omega
          · rw [hd] at z; cases z)
      have st5 : tn 0 (h'.push o) := T.keep _ _ _ st3 fun b hb u e => kp5 b u e
      have n5 : ∀ d ∈ fp, upd H1 P (.tbl (ps ++ more)) d = none := fun d hd => (f3 d hd).1
      have back : ∀ {σ' : L2.St} {H' : Hp} {s' : Shared}, Inv (gcx X (gA X (gE X scope h3.objs.size code)) { s2 with heap := h3, toks := tk } (upd H1 P (.tbl (ps ++ more))) (gE X scope h3.objs.size code) fp) [(h'.objs.size, o)] σ' H' s' → Inv X pins σ H' s' := fun {σ' H' s'} J =>
        I3.call' (ch := fp) J.os J.base J.hok J.bare fun b hb => ⟨(f3 b hb).2.2.2.1, (f3 b hb).2.1, (f3 b hb).2.2.2.2.1, (f3 b hb).2.2.2.2.2⟩
      have stat : ∀ {HH : Hp}, (∀ d ∈ fp, HH d = none) → ∀ d ∈ fp, FpOk (gcx X (gA X (gE X scope h3.objs.size code)) { s2 with heap := h3, toks := tk } (upd H1 P (.tbl (ps ++ more))) (gE X scope h3.objs.size code) fp) [(h'.objs.size, o)] HH d := fun {HH} hn d hd => by
        refine ⟨hn d hd, Nat.ne_of_lt (lt3 d hd), fun hm => ?_, .inl hd, fun y cc e => (f3 d hd).2.2.2.2.1 y cc (clo_sub has e), fun q hq => ?_⟩
        · have hm' : d ∈ frs X.stack := hm
          rcases List.mem_cons.mp (I3.stkSub d hm') with z | z
          · exact (f3 d hd).2.1 z
          · exact (f3 d hd).2.2.1 z
        · have hq' : q ∈ [(h'.objs.size, o)] := by
            rcases List.mem_append.mp hq with z | z
            · exact absurd (show q ∈ ([] : List (Addr × Obj)) from z) (by simp)
            · exact z
          rw [List.mem_singleton.mp hq']
          show h'.objs.size ≠ d
          exact Nat.ne_of_gt (by rw [hsz]; exact Nat.lt_succ_of_lt (lt3 d hd))
      have gsz : s2.gens.size < (s2.gens.push (GenState.fresh (.compStart (.GeneratorExp elt [⟨t0, iter, [], 0⟩, ⟨t1, i1, [], 0⟩] scope gpos) 0 (.ref it) .none (gE X scope h3.objs.size code)))).size := by
        rw [Array.size_push]; exact Nat.lt_succ_self _
      refine hQ (gcx X (gA X (gE X scope h3.objs.size code)) { s2 with heap := h3, toks := tk } (upd H1 P (.tbl (ps ++ more))) (gE X scope h3.objs.size code) fp) fp tn h'.objs.size o n s2.gens.size Pn2.flat nm qn _ _ _ _ rfl rfl hc hd hsl J0 (Array.getElem?_push_size ..) ⟨rfl, ?_⟩ (fun i σ' H' s' J q => ⟨H', back J, pOut σ' H' q⟩) (fun σ' H' s' J q => ⟨H', back J, pFin H' q⟩)
      have bt := both (Z := gcx X (gA X (gE X scope h3.objs.size code)) { s2 with heap := h3, toks := tk } (upd H1 P (.tbl (ps ++ more))) (gE X scope h3.objs.size code) fp) (i0 := iter) (scope := scope) (pos := gpos) (n := n) (g := s2.gens.size) (A := X.A.in1.in1)
        T (hgt _ _ _ _ _) (hw1 _ _ _ _ _ Rm) (hg1 _ _ _ _ _) (hel _ _ _ _ _ Rm) (fun _ _ z => z) rfl G.co tt (hs1 _) rfl (fun _ _ _ _ _ => rfl) stat n
      refine begin2 (Z := gcx X (gA X (gE X scope h3.objs.size code)) { s2 with heap := h3, toks := tk } (upd H1 P (.tbl (ps ++ more))) (gE X scope h3.objs.size code) fp) T rfl (bt.1 0 (Nat.zero_le _)) _ _ _ _ (inv_gens J0 (bare_set bare5 rfl)) st5 n5 ?_ w0 (Nat.le_refl _)
      rw [GenW.setGen_size]
      exact gsz
    exact key _ _ _ rfl rfl rfl (Heap.get?_push_size _ rfl)
  refine ⟨I1.nolimit, ?_⟩
  cases hf : codeAmong gpos ps.toList with
  | none =>
    refine wpAny_genexprCodeX hcode (cd.code hPs ht) (cd.tab hPs) hf fun c' h' tk hx hge hlt hco' _ htab' _ => ?_
    obtain ⟨o1, vs, f1, tf, fl, tg, inF, tx, tt, op, _, _, _, _, _, _, _, _, _, htr, _⟩ := hco'
    exact cont _ h' tk _ hx htab'.2 ⟨_, rfl⟩ htr
  | some cv =>
    refine wpAny_genexprCode_hit hcode (cd.code hPs ht) hf ?_
    exact cont cv s2.heap s2.toks ps (Heap.ExtBut.refl _ _) hPs ⟨#[], by simp⟩ ht
/-- all(elt for x in iter) -/
theorem pe_all2 (hr : Room (k + 1) X.A) (hga : Gl X "all") (hma : X.mg "all" = none) (TB : GxR.TabB X.base X.mg c P) (hcode : X.env.code = .ref c) (G : GScL X.N X.env.scope scope own) (hi : PI X t0 iter wi)
    (hgt : ∀ (s : Shared) (H : Hp) (C : Addr) (code : Value) (fp : List Addr), PG (gcx X (gA X (gE X scope C code)) s H (gE X scope C code) fp) t0 g)
    (hw1 : ∀ (s : Shared) (H : Hp) (C : Addr) (code : Value) (fp : List Addr), Room k (gA X (gE X scope C code)) → PI (gcx X (gA X (gE X scope C code)) s H (gE X scope C code) fp) t1 i1 w1)
    (hg1 : ∀ (s : Shared) (H : Hp) (C : Addr) (code : Value) (fp : List Addr), PG (gcx X (gA X (gE X scope C code)) s H (gE X scope C code) fp) t1 g1)
    (hel : ∀ (s : Shared) (H : Hp) (C : Addr) (code : Value) (fp : List Addr), Room k (gA X (gE X scope C code)) → PE (gcx X (gA X (gE X scope C code)) s H (gE X scope C code) fp) elt te)
    (hs : ∀ v, genFold iter X.env v = pure v) (hs1 : ∀ env v, foldedSetIterable i1 env v = pure v)
    (he : starEach [.GeneratorExp elt [⟨t0, iter, [], 0⟩, ⟨t1, i1, [], 0⟩] scope gpos] X.env = (false, eval (.GeneratorExp elt [⟨t0, iter, [], 0⟩, ⟨t1, i1, [], 0⟩] scope gpos) X.env) :: starEach [] X.env := by rfl) :
    PE X (.Call (.Name "all" p) [.GeneratorExp elt [⟨t0, iter, [], 0⟩, ⟨t1, i1, [], 0⟩] scope gpos] [] pos) (tAllG2 P own wi g w1 g1 te true) := by
  refine ⟨fun pins s σ H Q I h => ?_⟩
  refine wpAny_Call_Name_kw (ld_blt I hga hma boot_all ?_)
  refine PyProof.Rows.callWith_builtin1 ?_ he (by rfl)
  rw [he]
  refine Calls.spliced_cons (gen_made2 hr TB hcode G hi hgt hw1 hg1 hel hs hs1 I h fun Z fp tn a o n gg Pn nm qn s5 gs σ5 H5 e1 e2 hc hd hsl J hgs hgo oOut oFin => ?_)
  refine Calls.spliced_nil ?_
  refine call_function_tree F.kind_all F.plain_all F.entry_all (F.args_all1 _) ?_
  unfold Builtin.«all»
  refine wpAny_bind (m := oneArg "all" _) (wpAny_pure ?_)
  refine wpAny_bind (wpAny_pyIter_gen (isGen_pin hc hd hsl J) ?_)
  refine wpAny_pure ⟨plainId_quiet F.plain_all_loop _, ?_⟩
  rw [← e1, ← e2]
  refine all_walk hc hd hsl hr.hd (by have := hr.dp; show X.A.depth < _; omega) (fun i σ' H' s' J' q => ?_) (fun σ' H' s' J' q => ?_) n s5 gs σ5 H5 J hgs hgo
  · obtain ⟨H'', I', q'⟩ := oOut i σ' H' s' J' q
    exact ⟨.bl false, H'', I', rfl, q'⟩
  · obtain ⟨H'', I', q'⟩ := oFin σ' H' s' J' q
    exact ⟨.bl true, H'', I', rfl, q'⟩
/-- any(elt for x in iter) -/
theorem pe_any2 (hr : Room (k + 1) X.A) (hga : Gl X "any") (hma : X.mg "any" = none) (TB : GxR.TabB X.base X.mg c P) (hcode : X.env.code = .ref c) (G : GScL X.N X.env.scope scope own) (hi : PI X t0 iter wi)
    (hgt : ∀ (s : Shared) (H : Hp) (C : Addr) (code : Value) (fp : List Addr), PG (gcx X (gA X (gE X scope C code)) s H (gE X scope C code) fp) t0 g)
    (hw1 : ∀ (s : Shared) (H : Hp) (C : Addr) (code : Value) (fp : List Addr), Room k (gA X (gE X scope C code)) → PI (gcx X (gA X (gE X scope C code)) s H (gE X scope C code) fp) t1 i1 w1)
    (hg1 : ∀ (s : Shared) (H : Hp) (C : Addr) (code : Value) (fp : List Addr), PG (gcx X (gA X (gE X scope C code)) s H (gE X scope C code) fp) t1 g1)
    (hel : ∀ (s : Shared) (H : Hp) (C : Addr) (code : Value) (fp : List Addr), Room k (gA X (gE X scope C code)) → PE (gcx X (gA X (gE X scope C code)) s H (gE X scope C code) fp) elt te)
    (hs : ∀ v, genFold iter X.env v = pure v) (hs1 : ∀ env v, foldedSetIterable i1 env v = pure v)
    (he : starEach [.GeneratorExp elt [⟨t0, iter, [], 0⟩, ⟨t1, i1, [], 0⟩] scope gpos] X.env = (false, eval (.GeneratorExp elt [⟨t0, iter, [], 0⟩, ⟨t1, i1, [], 0⟩] scope gpos) X.env) :: starEach [] X.env := by rfl) :
    PE X (.Call (.Name "any" p) [.GeneratorExp elt [⟨t0, iter, [], 0⟩, ⟨t1, i1, [], 0⟩] scope gpos] [] pos) (tAllG2 P own wi g w1 g1 te false) := by
  refine ⟨fun pins s σ H Q I h => ?_⟩
  refine wpAny_Call_Name_kw (ld_blt I hga hma boot_any ?_)
  refine PyProof.Rows.callWith_builtin1 ?_ he (by rfl)
  rw [he]
  refine Calls.spliced_cons (gen_made2 hr TB hcode G hi hgt hw1 hg1 hel hs hs1 I h fun Z fp tn a o n gg Pn nm qn s5 gs σ5 H5 e1 e2 hc hd hsl J hgs hgo oOut oFin => ?_)
  refine Calls.spliced_nil ?_
  refine call_function_tree F.kind_any F.plain_any F.entry_any (F.args_any1 _) ?_
  unfold Builtin.«any»
  refine wpAny_bind (m := oneArg "any" _) (wpAny_pure ?_)
  refine wpAny_bind (wpAny_pyIter_gen (isGen_pin hc hd hsl J) ?_)
  refine wpAny_pure ⟨plainId_quiet F.plain_any_loop _, ?_⟩
  rw [← e1, ← e2]
  refine any_walk hc hd hsl hr.hd (by have := hr.dp; show X.A.depth < _; omega) (fun i σ' H' s' J' q => ?_) (fun σ' H' s' J' q => ?_) n s5 gs σ5 H5 J hgs hgo
  · obtain ⟨H'', I', q'⟩ := oOut i σ' H' s' J' q
    exact ⟨.bl true, H'', I', rfl, q'⟩
  · obtain ⟨H'', I', q'⟩ := oFin σ' H' s' J' q
    exact ⟨.bl false, H'', I', rfl, q'⟩
end
end Gx
namespace Tb
open PySem PySem.Spec PyProof.Rows L2
end Tb
namespace Ev
open PySem PySem.Spec PyProof.Rows L2 Tb
/-- a local: data that nobody changes any more, or a list that this name alone holds -/
inductive OwnO where
  | lst (xs : List PyData)
  | dct (ps : List (PyData × PyData))
/-- .. or a range -/
inductive L where
  | dat (x : PyData)
  | rng (a b : Int)
  | own (o : OwnO)
abbrev L.lst (xs : List PyData) : L := .own (.lst xs)
abbrev L.dct (ps : List (PyData × PyData)) : L := .own (.dct ps)
abbrev Lo := List (Option L)
def keyD : Key → PyData
  | .inl i => .int i
  | .inr s => .str s
mutual
inductive Rq (K : PySem.W.Frag) (S : Hp) : V → PyData → Prop
  | non : Rq K S .non .none
  | bl (b : Bool) : Rq K S (.bl b) (.bool b)
  | int (i : Int) : Rq K S (.int i) (.int i)
  | str (x : Str) : Rq K S (.str x) (.str x)
  | lst {a : Addr} {xs : List V} {ds : List PyData} : Rd S a (.lst xs) → RqL K S xs ds → Rq K S (.ref a) (.list ds)
  | tup {a : Addr} {xs : List V} {ds : List PyData} : SqT K S a xs → RqL K S xs ds → Rq K S (.ref a) (.tuple ds)
  | dct {a : Addr} {kvs : List (Key × V)} {ps : List (PyData × PyData)} : S a = some (.dK kvs) → RqK K S kvs ps → Rq K S (.ref a) (.dict ps)
inductive RqL (K : PySem.W.Frag) (S : Hp) : List V → List PyData → Prop
  | nil : RqL K S [] []
  | cons {v : V} {vs : List V} {d : PyData} {ds : List PyData} : Rq K S v d → RqL K S vs ds → RqL K S (v :: vs) (d :: ds)
inductive RqK (K : PySem.W.Frag) (S : Hp) : List (Key × V) → List (PyData × PyData) → Prop
  | nil : RqK K S [] []
  | cons {k : Key} {v : V} {kvs : List (Key × V)} {d : PyData} {ps : List (PyData × PyData)} : Rq K S v d → RqK K S kvs ps → RqK K S ((k, v) :: kvs) ((keyD k, d) :: ps)
end
def Sub (S H : Hp) : Prop := ∀ b o, S b = some o → H b = some o
theorem Sub.refl (S : Hp) : Sub S S := fun _ _ h => h
theorem Sub.trans {A B C : Hp} (x : Sub A B) (y : Sub B C) : Sub A C := fun b o h => y b o (x b o h)
variable {K : PySem.W.Frag}
theorem Sub.rd {S H : Hp} (s : Sub S H) {a : Addr} {u : HO} (h : Rd S a u) : Rd H a u := by
  rcases h with h | ⟨o, h⟩
  · exact .inl (s _ _ h)
  · exact .inr ⟨o, s _ _ h⟩
theorem Sub.sqT {S H : Hp} (s : Sub S H) {a : Addr} {xs : List V} (h : SqT K S a xs) : SqT K H a xs := by
  rcases h with (h | ⟨o, h⟩) | h
  · exact .inl (.inl (s _ _ h))
  · exact .inl (.inr ⟨o, s _ _ h⟩)
  · exact .inr h
mutual
theorem Rq.sub {S H : Hp} (s : Sub S H) : ∀ {v : V} {d : PyData}, Rq K S v d → Rq K H v d
  | _, _, .non => .non
  | _, _, .bl b => .bl b
  | _, _, .int i => .int i
  | _, _, .str x => .str x
  | _, _, .lst h r => .lst (s.rd h) (RqL.sub s r)
  | _, _, .tup h r => .tup (s.sqT h) (RqL.sub s r)
  | _, _, .dct h r => .dct (s _ _ h) (RqK.sub s r)
theorem RqL.sub {S H : Hp} (s : Sub S H) : ∀ {vs : List V} {ds : List PyData}, RqL K S vs ds → RqL K H vs ds
  | _, _, .nil => .nil
  | _, _, .cons a b => .cons (Rq.sub s a) (RqL.sub s b)
theorem RqK.sub {S H : Hp} (s : Sub S H) : ∀ {kvs : List (Key × V)} {ps : List (PyData × PyData)}, RqK K S kvs ps → RqK K H kvs ps
  | _, _, .nil => .nil
  | _, _, .cons a b => .cons (Rq.sub s a) (RqK.sub s b)
end
theorem RqL.length {S : Hp} : ∀ {vs : List V} {ds : List PyData}, RqL K S vs ds → vs.length = ds.length
  | _, _, .nil => rfl
  | _, _, .cons _ t => congrArg Nat.succ (RqL.length t)
theorem RqL.get {S : Hp} : ∀ {vs : List V} {ds : List PyData} {i : Nat} {v : V}, RqL K S vs ds → vs[i]? = some v → ∃ d, ds[i]? = some d ∧ Rq K S v d
  | _, _, _, _, .nil, e => by simp at e
  | _, _, 0, _, .cons r _, e => by simp at e; subst e; exact ⟨_, rfl, r⟩
  | _, _, i + 1, v, .cons _ t, e => by
    obtain ⟨d, h1, h2⟩ := RqL.get (i := i) (v := v) t (by simpa using e)
    exact ⟨d, by simpa using h1, h2⟩
theorem RqL.get' {S : Hp} : ∀ {vs : List V} {ds : List PyData} {i : Nat} {d : PyData}, RqL K S vs ds → ds[i]? = some d → ∃ v, vs[i]? = some v ∧ Rq K S v d
  | _, _, _, _, .nil, e => by simp at e
  | _, _, 0, _, .cons r _, e => by simp at e; subst e; exact ⟨_, rfl, r⟩
  | _, _, i + 1, v, .cons _ t, e => by
    obtain ⟨d, h1, h2⟩ := RqL.get' (i := i) (d := v) t (by simpa using e)
    exact ⟨d, by simpa using h1, h2⟩
theorem RqL.app {S : Hp} : ∀ {vs ws : List V} {ds es : List PyData}, RqL K S vs ds → RqL K S ws es → RqL K S (vs ++ ws) (ds ++ es)
  | _, _, _, _, .nil, s => s
  | _, _, _, _, .cons r t, s => .cons r (RqL.app t s)
theorem RqL.take {S : Hp} : ∀ {vs : List V} {ds : List PyData} (n : Nat), RqL K S vs ds → RqL K S (vs.take n) (ds.take n)
  | _, _, 0, _ => by simpa using RqL.nil
  | _, _, n + 1, .nil => .nil
  | _, _, n + 1, .cons r t => .cons r (RqL.take n t)
theorem RqL.drop {S : Hp} : ∀ {vs : List V} {ds : List PyData} (n : Nat), RqL K S vs ds → RqL K S (vs.drop n) (ds.drop n)
  | _, _, 0, r => by simpa using r
  | _, _, n + 1, .nil => .nil
  | _, _, n + 1, .cons r t => RqL.drop n t
theorem RqL.set {S : Hp} {x : V} {d : PyData} (r : Rq K S x d) : ∀ {vs : List V} {ds : List PyData} (i : Nat), RqL K S vs ds → RqL K S (vs.set i x) (ds.set i d)
  | _, _, _, .nil => .nil
  | _, _, 0, .cons _ t => .cons r t
  | _, _, i + 1, .cons q t => .cons q (RqL.set r i t)
theorem RqL.ints {S : Hp} : ∀ ns : List Int, RqL K S (ns.map V.int) (ns.map PyData.int)
  | [] => .nil
  | n :: r => .cons (.int n) (RqL.ints r)
theorem RqL.ints_of {S : Hp} : ∀ {ns : List Int} {vs : List V}, RqL K S vs (ns.map PyData.int) → vs = ns.map V.int
  | [], _, h => by cases h; rfl
  | n :: r, _, h => by
    cases h with
    | cons a b =>
      cases a
      rw [RqL.ints_of b]; rfl
mutual
theorem Rq.dp {S : Hp} : ∀ {d : PyData} {v : V}, d.canLay0 = true → Rq K S v d → Dp K S v d
  | _, _, _, .non => .non
  | _, _, _, .bl b => .bl b
  | _, _, _, .int i => .int i
  | _, _, _, .str x => .str x
  | .list ds, _, c, .lst h r => .lst (.inl h) (RqL.dp (ds := ds) (by simpa [PyData.canLay0] using c) r)
  | .tuple ds, _, c, .tup h r => .tup h (RqL.dp (ds := ds) (by simpa [PyData.canLay0] using c) r)
  | .dict _, _, c, .dct _ _ => by simp [PyData.canLay0] at c
theorem RqL.dp {S : Hp} : ∀ {ds : List PyData} {vs : List V}, PyData.canLayAll0 ds = true → RqL K S vs ds → DpAll K S vs ds
  | _, _, _, .nil => .nil
  | d :: ds, _, c, .cons a b => by
    have c' : d.canLay0 = true ∧ PyData.canLayAll0 ds = true := by simpa [PyData.canLayAll0] using c
    exact .cons (Rq.dp c'.1 a) (RqL.dp c'.2 b)
end
/-- new to a heap that is kept -/
def Fz (A : Hp) (t : Addr) : Prop := (∀ o, A t = some o → ∃ ps, o = .tbl ps) ∧ ¬ GxR.TabG A t
/-- what is new to a heap stays so in all that it was made of -/
structure Ext (F : Addr → Prop) (S H S' H' : Hp) (F' : Addr → Prop) : Prop where
  keep : ∀ b o, ¬ F b → H b = some o → (∀ ps, o ≠ .tbl ps) → H' b = some o
  tab : ∀ P, GxR.TabG H P → GxR.TabG H' P
  sub : Sub S S'
  domS : ∀ b, S' b ≠ none → S b ≠ none ∨ F b ∨ Fz H b
  domF : ∀ b, F' b → F b ∨ Fz H b
theorem fz_none {H : Hp} {b : Addr} (h : H b = none) : Fz H b := by
  refine ⟨fun o e => ?_, fun t => ?_⟩
  · rw [h] at e; cases e
  · obtain ⟨ps, e, _⟩ := t
    rw [h] at e; cases e
theorem Fz.no {H : Hp} {b : Addr} (h : Fz H b) {o : HO} (e : H b = some o) (n : ∀ ps, o ≠ .tbl ps) : False := by
  obtain ⟨ps, q⟩ := h.1 o e
  exact n ps q
theorem Ext.fz {F F' : Addr → Prop} {S H S' H' : Hp} (x : Ext F S H S' H' F') {b : Addr} (h : Fz H' b) : F b ∨ Fz H b := by
  by_cases f : F b
  · exact .inl f
  · refine .inr ⟨fun o e => ?_, fun t => h.2 (x.tab _ t)⟩
    cases o with
    | tbl ps => exact ⟨ps, rfl⟩
    | _ => exact (Fz.no h (x.keep b _ f e fun ps z => by cases z) fun ps z => by cases z).elim
theorem Ext.trans {F F1 F2 : Addr → Prop} {S H S1 H1 S2 H2 : Hp} (x : Ext F S H S1 H1 F1) (y : Ext F1 S1 H1 S2 H2 F2) : Ext F S H S2 H2 F2 := by
  refine ⟨fun b o f e n => y.keep b o (fun z => ?_) (x.keep b o f e n) n, fun P t => y.tab P (x.tab P t), x.sub.trans y.sub, fun b h => ?_, fun b h => ?_⟩
  · rcases x.domF b z with z | z
    · exact f z
    · exact z.no e n
  · rcases y.domS b h with z | z | z
    · exact x.domS b z
    · rcases x.domF b z with z | z
      · exact .inr (.inl z)
      · exact .inr (.inr z)
    · rcases x.fz z with z | z
      · exact .inr (.inl z)
      · exact .inr (.inr z)
  · rcases y.domF b h with z | z
    · exact x.domF b z
    · exact x.fz z
theorem Ext.refl (F : Addr → Prop) (S H : Hp) : Ext F S H S H F := ⟨fun _ _ _ e _ => e, fun _ h => h, Sub.refl _, fun _ h => .inl h, fun _ h => .inl h⟩
/-- no table among the shared data -/
def NoT (S : Hp) : Prop := ∀ b ps, S b ≠ some (.tbl ps)
/-- a new thing is laid, not shared -/
theorem Ext.lay {F : Addr → Prop} {S H : Hp} {p : Addr} {o : HO} (h : H p = none) : Ext F S H S (upd H p o) F :=
  ⟨fun b u _ e _ => by rw [upd_ne (ne_of_none e h)]; exact e, fun P t => tabG_of (fun b u e => by rw [upd_ne (ne_of_none e h)]; exact e) t, Sub.refl _, fun b z => .inl z, fun b z => .inl z⟩
theorem Sub.upd {S H : Hp} {p : Addr} {o : HO} (s : Sub S H) : Sub (upd S p o) (upd H p o) := fun b u e => by
  by_cases q : b = p
  · subst q; rw [upd_same] at e ⊢; exact e
  · rw [upd_ne q] at e ⊢; exact s _ _ e
theorem Sub.lay {S H : Hp} {p : Addr} {o : HO} (s : Sub S H) (h : S p = none) : Sub S (L2.upd H p o) := fun b u e => by
  rw [upd_ne (ne_of_none e h)]; exact s _ _ e
theorem NoT.upd {S : Hp} {p : Addr} {o : HO} (n : NoT S) (h : ∀ ps, o ≠ .tbl ps) : NoT (upd S p o) := fun b ps e => by
  by_cases q : b = p
  · subst q; rw [upd_same] at e; exact h ps (Option.some.inj e)
  · rw [upd_ne q] at e; exact n b ps e
inductive RepO (K : PySem.W.Frag) (S : Hp) : HO → OwnO → Prop
  | lst {vs : List V} {xs : List PyData} : RqL K S vs xs → RepO K S (.lst vs) (.lst xs)
  | dct {kvs : List (Key × V)} {ps : List (PyData × PyData)} : RqK K S kvs ps → RepO K S (.dK kvs) (.dct ps)
theorem RepO.sub {S H : Hp} (s : Sub S H) {ho : HO} {o : OwnO} (r : RepO K S ho o) : RepO K H ho o := by
  cases r with
  | lst r => exact .lst (RqL.sub s r)
  | dct r => exact .dct (RqK.sub s r)
theorem RepO.nt {S : Hp} {ho : HO} {o : OwnO} (r : RepO K S ho o) : ∀ ps, ho ≠ .tbl ps := fun ps e => by
  cases r <;> cases e
def RepL (K : PySem.W.Frag) (S H : Hp) (v : V) : L → Prop
  | .dat x => Rq K S v x
  | .rng lo hi => ∃ a, v = .ref a ∧ S a = some (.rng lo hi)
  | .own o => ∃ a ho, v = .ref a ∧ H a = some ho ∧ RepO K S ho o
theorem RepL.lstI {S H : Hp} {v : V} {xs : List PyData} : RepL K S H v (.lst xs) ↔ ∃ a vs, v = .ref a ∧ H a = some (.lst vs) ∧ RqL K S vs xs := by
  constructor
  · rintro ⟨a, ho, rfl, h, r⟩
    cases r with
    | lst r => exact ⟨a, _, rfl, h, r⟩
  · rintro ⟨a, vs, rfl, h, r⟩
    exact ⟨a, _, rfl, h, .lst r⟩
def OwnAt (σ : L2.St) (lo : Lo) (i : Nat) (a : Addr) : Prop := σ[i]? = some (some (.ref a)) ∧ ∃ o, lo[i]? = some (some (.own o))
def Own (σ : L2.St) (lo : Lo) : Addr → Prop := fun a => ∃ i, OwnAt σ lo i a
structure Stt (K : PySem.W.Frag) (S H : Hp) (σ : L2.St) (lo : Lo) : Prop where
  sub : Sub S H
  noT : NoT S
  len : lo.length = σ.length
  loc : ∀ (i : Nat) (l : L), lo[i]? = some (some l) → ∃ v, σ[i]? = some (some v) ∧ RepL K S H v l
  own : ∀ (i : Nat) (a : Addr), OwnAt σ lo i a → S a = none
  inj : ∀ (i j : Nat) (a : Addr), OwnAt σ lo i a → OwnAt σ lo j a → i = j
section
variable {S H S' H' : Hp} {σ : L2.St} {lo : Lo}
theorem Stt.ownH (s : Stt K S H σ lo) {a : Addr} (h : Own σ lo a) : ∃ ho, H a = some ho ∧ ∀ ps, ho ≠ .tbl ps := by
  obtain ⟨i, e, xs, l⟩ := h
  obtain ⟨v, e', b, vs, r, hb, ro⟩ := s.loc i _ l
  rw [e] at e'
  cases e'
  cases r
  exact ⟨vs, hb, ro.nt⟩
theorem Stt.locL (s : Stt K S H σ lo) {i : Nat} {xs : List PyData} (h : lo[i]? = some (some (.lst xs))) : ∃ v, σ[i]? = some (some v) ∧ ∃ a vs, v = .ref a ∧ H a = some (.lst vs) ∧ RqL K S vs xs := by
  obtain ⟨v, e, r⟩ := s.loc i _ h
  exact ⟨v, e, RepL.lstI.mp r⟩
/-- the heaps grow, nothing of one's own is touched -/
theorem Stt.grow (s : Stt K S H σ lo) (x : Ext (Own σ lo) S H S' H' (Own σ lo)) (sub : Sub S' H') (noT : NoT S') (o : ∀ a, Own σ lo a → H' a = H a ∧ S' a = none) : Stt K S' H' σ lo := by
  refine ⟨sub, noT, s.len, fun i l e => ?_, fun i a h => (o a ⟨i, h⟩).2, s.inj⟩
  obtain ⟨v, e', r⟩ := s.loc i l e
  refine ⟨v, e', ?_⟩
  cases l with
  | dat y => exact Rq.sub x.sub r
  | rng _ _ =>
    obtain ⟨a, rfl, h⟩ := r
    exact ⟨a, rfl, x.sub _ _ h⟩
  | own xs =>
    obtain ⟨a, vs, rfl, h, q⟩ := r
    exact ⟨a, vs, rfl, by rw [(o a ⟨i, e', xs, e⟩).1]; exact h, RepO.sub x.sub q⟩
/-- .. a new thing, not shared -/
theorem Stt.lay (s : Stt K S H σ lo) {p : Addr} {u : HO} (h : H p = none) : Stt K S (upd H p u) σ lo := by
  have hS : S p = none := by
    cases q : S p with
    | none => rfl
    | some u => rw [s.sub _ _ q] at h; cases h
  exact s.grow (Ext.lay h) (s.sub.lay hS) s.noT fun a o => by
    obtain ⟨vs, e, _⟩ := s.ownH o
    obtain ⟨i, w⟩ := o
    rw [upd_ne (ne_of_none e h)]
    exact ⟨rfl, s.own i a w⟩
end
/-- the heaps grow, all that is tracked stays -/
structure Gro (S H S' H' : Hp) : Prop where
  sub : Sub S' H'
  noT : NoT S'
  keep : Sub H H'
  subS : Sub S S'
  dom : ∀ b, S' b ≠ none → S b ≠ none ∨ H b = none
theorem Gro.refl {S H : Hp} (s : Sub S H) (n : NoT S) : Gro S H S H := ⟨s, n, Sub.refl _, Sub.refl _, fun _ h => .inl h⟩
theorem Gro.new {S H : Hp} {p : Addr} {u : HO} (s : Sub S H) (n : NoT S) (h : H p = none) (nt : ∀ ps, u ≠ .tbl ps) : Gro S H (upd S p u) (upd H p u) := by
  have hS : S p = none := by
    cases q : S p with
    | none => rfl
    | some u => rw [s _ _ q] at h; cases h
  refine ⟨s.upd, n.upd nt, fun b o e => by rw [upd_ne (ne_of_none e h)]; exact e, fun b o e => by rw [upd_ne (ne_of_none e hS)]; exact e, fun b z => ?_⟩
  by_cases q : b = p
  · subst q; exact .inr h
  · rw [upd_ne q] at z; exact .inl z
theorem Gro.lay {S H : Hp} {p : Addr} {u : HO} (s : Sub S H) (n : NoT S) (h : H p = none) : Gro S H S (upd H p u) := by
  have hS : S p = none := by
    cases q : S p with
    | none => rfl
    | some u => rw [s _ _ q] at h; cases h
  exact ⟨s.lay hS, n, fun b o e => by rw [upd_ne (ne_of_none e h)]; exact e, Sub.refl _, fun b z => .inl z⟩
theorem Gro.trans {S H S1 H1 S2 H2 : Hp} (x : Gro S H S1 H1) (y : Gro S1 H1 S2 H2) : Gro S H S2 H2 := by
  refine ⟨y.sub, y.noT, x.keep.trans y.keep, x.subS.trans y.subS, fun b h => ?_⟩
  rcases y.dom b h with z | z
  · exact x.dom b z
  · cases q : H b with
    | none => exact .inr rfl
    | some o => rw [x.keep _ _ q] at z; cases z
theorem Gro.ext {F : Addr → Prop} {S H S' H' : Hp} (g : Gro S H S' H') : Ext F S H S' H' F :=
  ⟨fun b o _ e _ => g.keep _ _ e, fun P t => tabG_of g.keep t, g.subS, fun b h => (g.dom b h).imp id fun z => .inr (fz_none z), fun b h => .inl h⟩
theorem Stt.gro {S H S' H' : Hp} {σ : L2.St} {lo : Lo} (s : Stt K S H σ lo) (g : Gro S H S' H') : Stt K S' H' σ lo :=
  s.grow g.ext g.sub g.noT fun a o => by
    obtain ⟨vs, e, _⟩ := s.ownH o
    obtain ⟨i, w⟩ := o
    refine ⟨(g.keep _ _ e).trans e.symm, ?_⟩
    cases q : S' a with
    | none => rfl
    | some u =>
      rcases g.dom a (by rw [q]; simp) with z | z
      · exact absurd (s.own i a w) z
      · rw [z] at e; cases e
/-- the tables of code -/
def AllT (T : List Addr) (H : Hp) : Prop := ∀ P ∈ T, GxR.TabG H P
theorem AllT.ext {T : List Addr} {F F' : Addr → Prop} {S H S' H' : Hp} (a : AllT T H) (x : Ext F S H S' H' F') : AllT T H' := fun P h => x.tab P (a P h)
abbrev GE := Lo → Option (PyData × Lo)
abbrev GT := Lo → Option (Bool × Lo)
def tE (K : PySem.W.Frag) (T : List Addr) (g : GE) : TE := fun σ H Q => ∃ S lo, Stt K S H σ lo ∧ AllT T H ∧ ∃ x lo', g lo = some (x, lo') ∧ ∀ v S' H', Stt K S' H' σ lo' → Rq K S' v x → Ext (Own σ lo) S H S' H' (Own σ lo') → Q v H'
def tT (K : PySem.W.Frag) (T : List Addr) (g : GT) : TT := fun σ H Q => ∃ S lo, Stt K S H σ lo ∧ AllT T H ∧ ∃ b lo', g lo = some (b, lo') ∧ ∀ S' H', Stt K S' H' σ lo' → Ext (Own σ lo) S H S' H' (Own σ lo') → Q b H'
theorem pe_imp {X : Cx} {e : Expr} {t t' : TE} (h : PE X e t) (i : ∀ σ H Q, t' σ H Q → t σ H Q) : PE X e t' := ⟨fun pins s σ H Q I w => h.run pins s σ H Q I (i σ H Q w)⟩
theorem pt_imp {X : Cx} {e : Expr} {t t' : TT} (h : PT X e t) (i : ∀ σ H Q, t' σ H Q → t σ H Q) : PT X e t' := ⟨fun pins s σ H Q I w => h.run pins s σ H Q I (i σ H Q w)⟩
theorem pw_imp {X : Cx} {e : Expr} {t t' : TT} (h : PW X e t) (i : ∀ σ H Q, t' σ H Q → t σ H Q) : PW X e t' := ⟨fun wh pins s σ H Q I w => h.run wh pins s σ H Q I (i σ H Q w)⟩
theorem pa_imp {X : Cx} {es : List Expr} {t t' : TA} (h : PA X es t) (i : ∀ σ H Q, t' σ H Q → t σ H Q) : PA X es t' := ⟨fun pos pins s σ H Q I w => h.run pos pins s σ H Q I (i σ H Q w)⟩
theorem ps_imp {X : Cx} {st : Stmt} {t t' : TS} (h : PS X st t) (i : ∀ D σ H, t' D σ H → t D σ H) : PS X st t' := ⟨fun pins s σ H D I w => h.run pins s σ H D I (i D σ H w)⟩
theorem pss_imp {X : Cx} {st : List Stmt} {t t' : TS} (h : PSs X st t) (i : ∀ D σ H, t' D σ H → t D σ H) : PSs X st t' := ⟨fun pins s σ H D I w => h.run pins s σ H D I (i D σ H w)⟩
end Ev
namespace Ev
open PySem PySem.Spec PyProof.Rows L2 Tb
def noLst (K : PySem.W.Frag) : Bool := K.all fun p => match p.2.cls with
  | .type c => !(decide (c = "list"))
  | _ => true
inductive EntOk (K : PySem.W.Frag) : List DictEntry → List (Str × PyData) → Prop
  | nil : EntOk K [] []
  | cons {h : Int} {x : Str} {t : Tok} {u : Value} {v0 : V} {v : PyData} {r : List DictEntry} {tab : List (Str × PyData)} : RelV v0 u → (∀ S, Rq K S v0 v) → EntOk K r tab → EntOk K (⟨h, .str x t, u⟩ :: r) ((x, v) :: tab)
end Ev
section
open PySem PySem.W PyProof.Rows
set_option maxRecDepth 100000 in
set_option maxHeartbeats 0 in
theorem Wl46 (h : PySem.Challenge.rw_partsmet_k46_whole_grades_by_all_states.row.wellSaid = true → PySem.Challenge.rw_partsmet_k46_whole_grades_by_all_states.row.Holds) : PySem.Challenge.rw_partsmet_k46_whole_grades_by_all_states.Holds := by
  w_on; o_law
  exact h (by assumption)
end
namespace Ev
open PySem PySem.SeqAt AutoSeq1 MeetsSeq MeetsSeq2 MeetsSeq3 SeqRoads2
/-- all places ahead are the same -/
def Upto (e : Nat → Bool) (j : Nat) : Prop := ∀ i, i < j → e i = true
theorem Upto.succ {e : Nat → Bool} {j : Nat} (u : Upto e j) (h : e j = true) : Upto e (j + 1) := fun i hi => by
  rcases Nat.lt_succ_iff_lt_or_eq.mp hi with z | z
  · exact u i z
  · rw [z]; exact h
def Lz (A : Around) (s : Shared) (us vs : Array Value) (e r : Nat → Bool) : Prop :=
  (∀ j (h1 : j < us.size) (h2 : j < vs.size), EqAt A s us[j] vs[j] (e j)) ∧ ∀ j (h1 : j < us.size) (h2 : j < vs.size), Upto e j → e j = false → RcLt A s us[j] vs[j] (r j)
theorem meets_tup_lt {l b : Addr} {us vs : Array Value} {n m : Nat} {dl db : Option Addr} {sl sb : Array (Option Value)} {e r : Nat → Bool} :
    Meets (Builtin.«tuple.__lt__» ⟨[.ref l, .ref b], []⟩) (fun A R s =>
      (s.heap.get? l = some ⟨.type "tuple", dl, .seq us n, sl⟩ ∧ s.heap.get? b = some ⟨.type "tuple", db, .seq vs m, sb⟩) ∧ Lz A.in1 s us vs e r ∧
      R (.ok (.ret (.bool (firstLt e r (decide (us.size < vs.size)) (List.range (min us.size vs.size)))))) s) := by
  refine .of_wp fun P w A R s h => ?_
  obtain ⟨hp, g, d, tk, os⟩ := s
  obtain ⟨⟨h1, h2⟩, ⟨q1, q2⟩, hR⟩ := h
  have _sub := AutoSeq1.sub_tuple_tuple
  have len : (us.toList.zip vs.toList).length = min us.size vs.size := by simp
  wp_walk using wpAny_loadPart' h1, wpAny_loadPart' h2, wpAny_forIn_list _ (fun left acc t => (acc.1 = none ∧ t = ⟨hp, g, d, tk, os⟩) ∧ ∃ i, (left = (us.toList.zip vs.toList).drop i ∧ Upto e i) ∧
    R (.ok (.ret (.bool (firstLt e r (decide (us.size < vs.size)) ((List.range (min us.size vs.size)).drop i))))) ⟨hp, g, d, tk, os⟩) _
  case turn =>
    rintro ⟨p, q⟩ left acc t ⟨⟨a0, rfl⟩, i, ⟨hz, up⟩, hq⟩
    have il : i < (us.toList.zip vs.toList).length := by
      by_cases z : i < (us.toList.zip vs.toList).length
      · exact z
      · rw [List.drop_of_length_le (by omega)] at hz; cases hz
    have im : i < min us.size vs.size := by rw [← len]; exact il
    have i1 : i < us.size := by omega
    have i2 : i < vs.size := by omega
    rw [List.drop_eq_getElem_cons il] at hz
    obtain ⟨e1, e2⟩ := List.cons.inj hz
    obtain ⟨rfl, rfl⟩ : p = us[i] ∧ q = vs[i] := ⟨by simpa using congrArg Prod.fst e1, by simpa using congrArg Prod.snd e1⟩
    rw [show (List.range (min us.size vs.size)).drop i = i :: (List.range (min us.size vs.size)).drop (i + 1) by simp [List.drop_eq_getElem_cons, im]] at hq
    refine wpAny_bind (q1 i i1 i2 P w _ _ ?_)
    by_cases c : e i = true
    · rw [firstLt_yes c] at hq
      rw [c]
      wp_walk
      exact ⟨⟨rfl, rfl⟩, i + 1, ⟨e2, up.succ c⟩, hq⟩
    · have c : e i = false := by simpa using c
      rw [firstLt_no c] at hq
      rw [c]
      have q3 := q2 i i1 i2 up c P w
      generalize richCompare .Lt us[i] vs[i] = md at q3 ⊢
      wp_walk
      refine q3 _ _ ?_
      wp_walk
      exact ⟨_, rfl, hq⟩
  case fin =>
    rintro ⟨acc, acc2⟩ t ⟨⟨a0, rfl⟩, i, ⟨hz, _⟩, hq⟩
    obtain rfl : acc = none := a0
    have big : min us.size vs.size ≤ i := by
      by_cases z : i < (us.toList.zip vs.toList).length
      · rw [List.drop_eq_getElem_cons z] at hz; cases hz
      · omega
    rw [List.drop_of_length_le (by simpa using big)] at hq
    wp_walk
    exact ⟨_, rfl, by simpa [firstLt, Builtin.Tuple.tupleCompareSizes] using hq⟩
  case h => exact ⟨⟨rfl, rfl⟩, 0, ⟨rfl, fun i hi => absurd hi (Nat.not_lt_zero i)⟩, by simpa using hR⟩
theorem tup_lt {A : Around} {s : Shared} {l b : Addr} {us vs : Array Value} {e r : Nat → Bool} (h1 : s.heap.IsTuple l us) (h2 : s.heap.IsTuple b vs) (hu : A.units < cLine) (z : Lz A.in1 s us vs e r) :
    RcLt A s (.ref l) (.ref b) (firstLt e r (decide (us.size < vs.size)) (List.range (min us.size vs.size))) := by
  intro P w E Q h
  obtain ⟨⟨c1, d1, x1, y1⟩, a1, a2, n1, a3⟩ := h1
  obtain ⟨⟨c2, d2, x2, y2⟩, b1, b2, n2, b3⟩ := h2
  dsimp only at a2 a3 b2 b3
  subst a2 a3 b2 b3
  refine richCompare_meets_room (op := .Lt) ⟨_, a1, rfl⟩ ⟨_, b1, rfl⟩ F.slot_tuple_lt F.entry_tuple_lt (F.args_tuple_lt_2 _ _) (meets_tup_lt (e := e) (r := r)) ⟨⟨a1, b1⟩, z, ?_⟩ hu
  refine show Value.bool (firstLt e r (decide (us.size < vs.size)) (List.range (min us.size vs.size))) ≠ Value.notImplemented ∧ Q (.bool (firstLt e r (decide (us.size < vs.size)) (List.range (min us.size vs.size)))) s from ⟨(fun x => nomatch x), h⟩
end Ev
namespace Ev
open PySem PySem.SeqAt PyProof.Rows PySem.W
mutual
def cmpD : PyData → PyData → Bool
  | .bool _, .bool _ => true
  | .int _, .int _ => true
  | .str _, .str _ => true
  | .list xs, .list ys => cmpL xs ys
  | .tuple xs, .tuple ys => cmpT xs ys
  | _, _ => false
def cmpL : List PyData → List PyData → Bool
  | x :: xs, y :: ys => cmpD x y && cmpL xs ys
  | [], _ => true
  | _ :: _, [] => true
def cmpT : List PyData → List PyData → Bool
  | x :: xs, y :: ys => cmpD x y && (!PyData.eqv x y || cmpT xs ys)
  | [], _ => true
  | _ :: _, [] => true
end
abbrev lx := PyProof.Rows.lexLt itemOrd
theorem cmpL_cons {x y : PyData} {xs ys : List PyData} (h : cmpL (x :: xs) (y :: ys) = true) : cmpD x y = true ∧ cmpL xs ys = true := by
  rw [cmpL, Bool.and_eq_true] at h; exact h
theorem cmpT_cons {x y : PyData} {xs ys : List PyData} (h : cmpT (x :: xs) (y :: ys) = true) : cmpD x y = true ∧ (PyData.eqv x y = true → cmpT xs ys = true) := by
  rw [cmpT, Bool.and_eq_true] at h
  refine ⟨h.1, fun e => ?_⟩
  have := h.2
  rw [e] at this; simpa using this
theorem cmpL_T : ∀ {xs ys : List PyData}, cmpL xs ys = true → cmpT xs ys = true
  | [], _, _ => by rw [cmpT]
  | _ :: _, [], _ => by rw [cmpT]
  | x :: xs, y :: ys, h => by
    obtain ⟨a, b⟩ := cmpL_cons h
    rw [cmpT, a, cmpL_T b]; simp
mutual
theorem toks_of_eqv : ∀ {x y : PyData}, PyData.eqv x y = true → keyToks x = keyToks y
  | .none, y, h => by cases y <;> first | rfl | (simp [PyData.eqv] at h)
  | .bool a, y, h => by cases y <;> simp_all [PyData.eqv, keyToks]
  | .int a, y, h => by cases y <;> simp_all [PyData.eqv, keyToks]
  | .str a, y, h => by cases y <;> simp_all [PyData.eqv, keyToks]
  | .list xs, y, h => by
    cases y with
    | list ys => rw [PyData.eqv] at h; rw [keyToks, keyToks]; exact toksAll_of_eqv h
    | _ => simp [PyData.eqv] at h
  | .tuple xs, y, h => by
    cases y with
    | tuple ys => rw [PyData.eqv] at h; rw [keyToks, keyToks]; exact toksAll_of_eqv h
    | _ => simp [PyData.eqv] at h
  | .dict _, y, h => by cases y <;> simp [PyData.eqv] at h
theorem toksAll_of_eqv : ∀ {xs ys : List PyData}, PyData.eqvAll xs ys = true → keyToksAll xs = keyToksAll ys
  | [], [], _ => rfl
  | [], _ :: _, h => by simp [PyData.eqvAll] at h
  | _ :: _, [], h => by simp [PyData.eqvAll] at h
  | x :: xs, y :: ys, h => by
    rw [PyData.eqvAll, Bool.and_eq_true] at h
    rw [keyToksAll, keyToksAll, toks_of_eqv h.1, toksAll_of_eqv h.2]
end
mutual
theorem toks_far : ∀ {x y : PyData}, cmpD x y = true → PyData.eqv x y = false → ∀ l m, lx (keyToks x ++ l) (keyToks y ++ m) = lx (keyToks x) (keyToks y)
  | .bool a, y, c, e, l, m => by
    cases y with
    | bool b =>
      have ne : a ≠ b := fun q => by subst q; simp [PyData.eqv] at e
      rw [keyToks, keyToks]
      exact lex_atom (fun q => ne (by have := Sum.inl.inj q; cases a <;> cases b <;> simp_all)) l m
    | _ => simp [cmpD] at c
  | .int a, y, c, e, l, m => by
    cases y with
    | int b =>
      have ne : a ≠ b := fun q => by subst q; simp [PyData.eqv] at e
      rw [keyToks, keyToks]
      exact lex_atom (fun q => ne (Sum.inl.inj q)) l m
    | _ => simp [cmpD] at c
  | .str a, y, c, e, l, m => by
    cases y with
    | str b =>
      have ne : a ≠ b := fun q => by subst q; simp [PyData.eqv] at e
      rw [keyToks, keyToks]
      exact lex_atom (fun q => ne (str_of_cps (Sum.inr.inj q))) l m
    | _ => simp [cmpD] at c
  | .list xs, y, c, e, l, m => by
    cases y with
    | list ys => rw [keyToks, keyToks]; exact toksAll_far (cmpL_T (by simpa [cmpD] using c)) (by simpa [PyData.eqv] using e) l m
    | _ => simp [cmpD] at c
  | .tuple xs, y, c, e, l, m => by
    cases y with
    | tuple ys => rw [keyToks, keyToks]; exact toksAll_far (by simpa [cmpD] using c) (by simpa [PyData.eqv] using e) l m
    | _ => simp [cmpD] at c
  | .none, y, c, _, _, _ => by cases y <;> simp [cmpD] at c
  | .dict _, y, c, _, _, _ => by cases y <;> simp [cmpD] at c
theorem toksAll_far : ∀ {xs ys : List PyData}, cmpT xs ys = true → PyData.eqvAll xs ys = false → ∀ l m, lx (keyToksAll xs ++ l) (keyToksAll ys ++ m) = lx (keyToksAll xs) (keyToksAll ys)
  | [], [], _, e, _, _ => by simp [PyData.eqvAll] at e
  | [], y :: ys, _, _, l, m => by
    rw [keyToksAll, keyToksAll]
    exact (lex_atom (by simp) _ _).trans (lex_atom (by simp) _ _).symm
  | x :: xs, [], _, _, l, m => by
    rw [keyToksAll, keyToksAll]
    exact (lex_atom (by simp) _ _).trans (lex_atom (by simp) _ _).symm
  | x :: xs, y :: ys, c, e, l, m => by
    obtain ⟨c1, c2⟩ := cmpT_cons c
    rw [keyToksAll, keyToksAll, List.cons_append, List.cons_append]
    refine (lex_self (O := itemOrd) _ _ _).trans (Eq.trans ?_ (lex_self (O := itemOrd) _ _ _).symm)
    rw [List.append_assoc, List.append_assoc]
    by_cases q : PyData.eqv x y = true
    · rw [toks_of_eqv q]
      have e2 : PyData.eqvAll xs ys = false := by rw [PyData.eqvAll, q, Bool.true_and] at e; exact e
      exact (lex_pre _ _ _).trans ((toksAll_far (c2 q) e2 l m).trans (lex_pre _ _ _).symm)
    · have q : PyData.eqv x y = false := by simpa using q
      exact (toks_far c1 q _ _).trans (toks_far c1 q _ _).symm
end
theorem lt_same {x y : PyData} {xs ys : List PyData} (e : PyData.eqv x y = true) : lx (keyToksAll (x :: xs)) (keyToksAll (y :: ys)) = lx (keyToksAll xs) (keyToksAll ys) := by
  rw [keyToksAll, keyToksAll, toks_of_eqv e]
  exact (lex_self (O := itemOrd) _ _ _).trans (lex_pre _ _ _)
theorem lt_other {x y : PyData} {xs ys : List PyData} (c : cmpD x y = true) (e : PyData.eqv x y = false) : lx (keyToksAll (x :: xs)) (keyToksAll (y :: ys)) = dataLt x y := by
  rw [keyToksAll, keyToksAll]
  exact (lex_self (O := itemOrd) _ _ _).trans (toks_far c e _ _)
theorem lt_nil (ys : List PyData) : lx (keyToksAll []) (keyToksAll ys) = !ys.isEmpty := by
  cases ys with
  | nil => exact lex_irrefl _
  | cons y t =>
    rw [keyToksAll, keyToksAll]
    exact (lex_diff (O := itemOrd) (by simp)).trans rfl
theorem lt_cons_nil (x : PyData) (xs : List PyData) : lx (keyToksAll (x :: xs)) (keyToksAll []) = false := by
  rw [keyToksAll, keyToksAll]
  exact (lex_diff (O := itemOrd) (by simp)).trans rfl
theorem first_lx : ∀ {xs ys : List PyData}, cmpT xs ys = true → firstLt (pairEq xs ys) (fun j => dataLt (xs.getD j .none) (ys.getD j .none)) (decide (xs.length < ys.length)) (List.range (min xs.length ys.length)) = lx (keyToksAll xs) (keyToksAll ys)
  | [], ys, _ => by
    rw [lt_nil]
    cases ys <;> simp [firstLt]
  | x :: xs, [], _ => by
    rw [lt_cons_nil]
    simp [firstLt]
  | x :: xs, y :: ys, c => by
    obtain ⟨c1, c2⟩ := cmpT_cons c
    have e1 : min (x :: xs).length (y :: ys).length = min xs.length ys.length + 1 := by
      rw [List.length_cons, List.length_cons]; omega
    have e2 : decide ((x :: xs).length < (y :: ys).length) = decide (xs.length < ys.length) := by
      rw [List.length_cons, List.length_cons]
      exact decide_eq_decide.mpr (by omega)
    rw [e1, e2, List.range_succ_eq_map]
    by_cases q : PyData.eqv x y = true
    · rw [firstLt_yes (show pairEq (x :: xs) (y :: ys) 0 = true from q), firstLt_map, lt_same q, ← first_lx (c2 q)]
      rfl
    · have q : PyData.eqv x y = false := by simpa using q
      rw [firstLt_no (show pairEq (x :: xs) (y :: ys) 0 = false from q), lt_other c1 q]
      rfl
mutual
theorem reads_one {h : Heap} : ∀ {d d' : PyData} {v : Value} {as bs : List Addr}, d.canLay0 = true → d'.canLay0 = true → Reads h v d as → Reads h v d' bs → d = d'
  | .none, _, _, _, _, _, _, r, q => by cases r; cases q; rfl
  | .bool _, _, _, _, _, _, _, r, q => by cases r; cases q; rfl
  | .int _, _, _, _, _, _, _, r, q => by cases r; cases q; rfl
  | .str _, _, _, _, _, _, _, r, q => by cases r; cases q; rfl
  | .list xs, d', _, _, _, c, c', r, q => by
    cases r with
    | list h1 h2 h3 h4 =>
      cases q with
      | list k1 k2 k3 k4 =>
        rw [h1] at k1; cases k1
        rw [h3] at k3; cases k3
        rw [readsAll_one (by simpa [PyData.canLay0] using c) (by simpa [PyData.canLay0] using c') h4 k4]
      | tuple k1 k2 k3 k4 =>
        rw [h1] at k1; cases k1
        rw [h2] at k2
        injection k2 with k2
        exact absurd k2 (by decide)
      | dict k1 k2 k3 k4 k5 => simp [PyData.canLay0] at c'
  | .tuple xs, d', _, _, _, c, c', r, q => by
    cases r with
    | tuple h1 h2 h3 h4 =>
      cases q with
      | tuple k1 k2 k3 k4 =>
        rw [h1] at k1; cases k1
        rw [h3] at k3; cases k3
        rw [readsAll_one (by simpa [PyData.canLay0] using c) (by simpa [PyData.canLay0] using c') h4 k4]
      | list k1 k2 k3 k4 =>
        rw [h1] at k1; cases k1
        rw [h2] at k2
        injection k2 with k2
        exact absurd k2 (by decide)
      | dict k1 k2 k3 k4 k5 => simp [PyData.canLay0] at c'
  | .dict _, _, _, _, _, c, _, _, _ => by simp [PyData.canLay0] at c
theorem readsAll_one {h : Heap} : ∀ {xs ys : List PyData} {vs : List Value} {as bs : List Addr}, PyData.canLayAll0 xs = true → PyData.canLayAll0 ys = true → ReadsAll h vs xs as → ReadsAll h vs ys bs → xs = ys
  | [], _, _, _, _, _, _, r, q => by cases r; cases q; rfl
  | x :: xs, [], _, _, _, _, _, r, q => by cases q; cases r
  | x :: xs, y :: ys, _, _, _, c, c', r, q => by
    have z1 : x.canLay0 = true ∧ PyData.canLayAll0 xs = true := by simpa [PyData.canLayAll0] using c
    have z2 : y.canLay0 = true ∧ PyData.canLayAll0 ys = true := by simpa [PyData.canLayAll0] using c'
    cases r with
    | cons r1 r2 =>
      cases q with
      | cons q1 q2 => rw [reads_one z1.1 z2.1 r1 q1, readsAll_one z1.2 z2.2 r2 q2]
end
end Ev
namespace Ev
open PySem PySem.Spec PyProof.Rows L2 Tb
section
variable {X : Cx} {T : List Addr} {pos : Pos}
def vF (i : Nat) : GE := fun lo => match lo[i]? with
  | some (some (.dat x)) => some (x, lo)
  | _ => none
theorem ev_var {i : Nat} {x : Str} (h : PE X (.Name x pos) (tVar i)) : PE X (.Name x pos) (tE X.K T (vF i)) := by
  refine pe_imp h fun σ H Q w => ?_
  obtain ⟨S, lo, st, at', y, lo', e, q⟩ := w
  unfold vF at e
  split at e
  · rename_i z hz
    cases e
    obtain ⟨v, ev, r⟩ := st.loc _ _ hz
    exact ⟨v, ev, q v S H st r (Ext.refl _ _ _)⟩
  · cases e
/-- a list of one's own is read, and shared from then on -/
def frzF (i : Nat) : GE := fun lo => match lo[i]? with
  | some (some (.dat x)) => some (x, lo)
  | some (some (.own (.lst xs))) => some (.list xs, lo.set i (some (.dat (.list xs))))
  | _ => none
theorem Stt.frz {K : PySem.W.Frag} {S H : Hp} {σ : L2.St} {lo : Lo} {i : Nat} {xs : List PyData} {a : Addr} {vs : List V} (s : Stt K S H σ lo) (e : lo[i]? = some (some (.lst xs))) (eσ : σ[i]? = some (some (.ref a))) (hH : H a = some (.lst vs)) (r : RqL K S vs xs) :
    Stt K (upd S a (.lst vs)) H σ (lo.set i (some (.dat (.list xs)))) ∧ Rq K (upd S a (.lst vs)) (.ref a) (.list xs) ∧ Ext (Own σ lo) S H (upd S a (.lst vs)) H (Own σ (lo.set i (some (.dat (.list xs))))) := by
  have oa : OwnAt σ lo i a := ⟨eσ, _, e⟩
  have hS := s.own i a oa
  have sb : Sub S (upd S a (.lst vs)) := fun b o h => by rw [upd_ne (ne_of_none h hS)]; exact h
  have rq : Rq K (upd S a (.lst vs)) (.ref a) (.list xs) := .lst (.inl upd_same) (RqL.sub sb r)
  have hi : i < lo.length := (List.getElem?_eq_some_iff.mp e).1
  have oth : ∀ j b, OwnAt σ (lo.set i (some (.dat (.list xs)))) j b → OwnAt σ lo j b ∧ j ≠ i := fun j b ⟨h1, ys, h2⟩ => by
    by_cases q : j = i
    · subst q
      rw [List.getElem?_set_self hi] at h2
      cases h2
    · rw [List.getElem?_set_ne (Ne.symm q)] at h2
      exact ⟨⟨h1, ys, h2⟩, q⟩
  refine ⟨⟨fun b o h => ?_, s.noT.upd (fun ps z => by cases z), by rw [List.length_set]; exact s.len, fun j l h => ?_, fun j b h => ?_, fun j k b h1 h2 => s.inj j k b (oth j b h1).1 (oth k b h2).1⟩, rq, ⟨fun b o _ h _ => h, fun _ h => h, sb, fun b h => ?_, fun b ⟨j, h⟩ => .inl ⟨j, (oth j b h).1⟩⟩⟩
  · by_cases q : b = a
    · subst q; rw [upd_same] at h; cases h; exact hH
    · rw [upd_ne q] at h; exact s.sub _ _ h
  · by_cases q : j = i
    · subst q
      rw [List.getElem?_set_self hi] at h
      cases h
      exact ⟨.ref a, eσ, rq⟩
    · rw [List.getElem?_set_ne (Ne.symm q)] at h
      obtain ⟨v, ev, rr⟩ := s.loc j l h
      refine ⟨v, ev, ?_⟩
      cases l with
      | dat y => exact Rq.sub sb rr
      | rng _ _ =>
        obtain ⟨b, e1, e2⟩ := rr
        exact ⟨b, e1, sb _ _ e2⟩
      | own ys =>
        obtain ⟨b, ws, e1, e2, e3⟩ := rr
        exact ⟨b, ws, e1, e2, RepO.sub sb e3⟩
  · obtain ⟨h1, h2⟩ := oth j b h
    have ne : b ≠ a := fun z => h2 (s.inj j i a (z ▸ h1) oa)
    rw [upd_ne ne]
    exact s.own j b h1
  · by_cases q : b = a
    · subst q; exact .inr (.inl ⟨i, oa⟩)
    · rw [upd_ne q] at h; exact .inl h
theorem ev_frz {i : Nat} {x : Str} (h : PE X (.Name x pos) (tVar i)) : PE X (.Name x pos) (tE X.K T (frzF i)) := by
  refine pe_imp h fun σ H Q w => ?_
  obtain ⟨S, lo, st, at', y, lo', e, q⟩ := w
  unfold frzF at e
  split at e
  · rename_i z hz
    cases e
    obtain ⟨v, ev, r⟩ := st.loc _ _ hz
    exact ⟨v, ev, q v S H st r (Ext.refl _ _ _)⟩
  · rename_i xs hz
    cases e
    obtain ⟨v, ev, a, vs, rfl, hH, r⟩ := st.locL hz
    obtain ⟨s1, s2, s3⟩ := st.frz hz ev hH r
    exact ⟨.ref a, ev, q _ _ _ s1 s2 s3⟩
  · cases e
def cF (x : PyData) : GE := fun lo => some (x, lo)
theorem ev_c {e : Expr} {v : V} {x : PyData} (h : PE X e (tC v)) (r : ∀ S, Rq X.K S v x) : PE X e (tE X.K T (cF x)) := by
  refine pe_imp h fun σ H Q w => ?_
  obtain ⟨S, lo, st, at', y, lo', e, q⟩ := w
  cases e
  exact q v S H st (r S) (Ext.refl _ _ _)
theorem ev_int {i : Int} {j : Nat} : PE X (.Constant (.int i) j pos) (tE X.K T (cF (.int i))) := ev_c pe_int fun _ => .int i
theorem ev_bl {b : Bool} {j : Nat} : PE X (.Constant (.bool b) j pos) (tE X.K T (cF (.bool b))) := ev_c pe_bl fun _ => .bl b
theorem ev_non {j : Nat} : PE X (.Constant .none j pos) (tE X.K T (cF .none)) := ev_c pe_non fun _ => .non
theorem ev_str {x : Str} {j : Nat} : PE X (.Constant (.str x) j pos) (tE X.K T (cF (.str x))) := ev_c pe_str fun _ => .str x
/-- data; a list may stand in H alone, its items shared -/
inductive RqT (K : PySem.W.Frag) (S H : Hp) : V → PyData → Prop
  | of {v : V} {x : PyData} : Rq K S v x → RqT K S H v x
  | own {a : Addr} {vs : List V} {xs : List PyData} : H a = some (.lst vs) → RqL K S vs xs → RqT K S H (.ref a) (.list xs)
inductive RqTL (K : PySem.W.Frag) (S H : Hp) : List V → List PyData → Prop
  | nil : RqTL K S H [] []
  | cons {v : V} {vs : List V} {d : PyData} {ds : List PyData} : RqT K S H v d → RqTL K S H vs ds → RqTL K S H (v :: vs) (d :: ds)
section
variable {K : PySem.W.Frag} {S H : Hp} {v : V}
theorem RqT.list {xs : List PyData} (s : Sub S H) (r : RqT K S H v (.list xs)) : ∃ a vs, v = .ref a ∧ Rd H a (.lst vs) ∧ RqL K S vs xs := by
  cases r with
  | of r =>
    cases r with
    | lst h r => exact ⟨_, _, rfl, s.rd h, r⟩
  | own h r => exact ⟨_, _, rfl, .inl h, r⟩
theorem RqT.rqH {x : PyData} (s : Sub S H) (r : RqT K S H v x) : Rq K H v x := by
  cases r with
  | of r => exact Rq.sub s r
  | own h r => exact .lst (.inl h) (RqL.sub s r)
theorem RqT.int {i : Int} (r : RqT K S H v (.int i)) : v = .int i := by
  cases r with
  | of r => cases r; rfl
theorem RqT.bool {b : Bool} (r : RqT K S H v (.bool b)) : v = .bl b := by
  cases r with
  | of r => cases r; rfl
theorem RqT.str {x : Str} (r : RqT K S H v (.str x)) : v = .str x := by
  cases r with
  | of r => cases r; rfl
theorem RqT.none (r : RqT K S H v .none) : v = .non := by
  cases r with
  | of r => cases r; rfl
theorem RqT.tuple {xs : List PyData} (r : RqT K S H v (.tuple xs)) : ∃ a vs, v = .ref a ∧ SqT K S a vs ∧ RqL K S vs xs := by
  cases r with
  | of r =>
    cases r with
    | tup h r => exact ⟨_, _, rfl, h, r⟩
theorem RqT.dict {ps : List (PyData × PyData)} (r : RqT K S H v (.dict ps)) : ∃ a kvs, v = .ref a ∧ S a = some (.dK kvs) ∧ RqK K S kvs ps := by
  cases r with
  | of r =>
    cases r with
    | dct h r => exact ⟨_, _, rfl, h, r⟩
theorem RqTL.of : ∀ {vs : List V} {ds : List PyData}, RqL K S vs ds → RqTL K S H vs ds
  | _, _, .nil => .nil
  | _, _, .cons a b => .cons (.of a) (RqTL.of b)
end
def Val2 (K : PySem.W.Frag) (f : PyData → PyData → Option PyData) (r : R2) : Prop := ∀ (S H : Hp) (v u : V) (x y z : PyData) (Q : VK), Sub S H → NoT S → RqT K S H v x → RqT K S H u y → f x y = some z → (∀ w S' H', Gro S H S' H' → Rq K S' w z → Q w H') → r v u H Q
def op2 (f : PyData → PyData → Option PyData) (ga gb : GE) : GE := fun lo => (ga lo).bind fun p => (gb p.2).bind fun q => (f p.1 q.1).bind fun z => some (z, q.2)
theorem op2_some {f : PyData → PyData → Option PyData} {ga gb : GE} {lo lo' : Lo} {z : PyData} (h : op2 f ga gb lo = some (z, lo')) : ∃ x l1 y, ga lo = some (x, l1) ∧ gb l1 = some (y, lo') ∧ f x y = some z := by
  unfold op2 at h
  cases e1 : ga lo with
  | none => rw [e1] at h; cases h
  | some p =>
    rw [e1] at h
    simp only [Option.bind_some] at h
    cases e2 : gb p.2 with
    | none => rw [e2] at h; cases h
    | some q =>
      rw [e2] at h
      simp only [Option.bind_some] at h
      cases e3 : f p.1 q.1 with
      | none => rw [e3] at h; cases h
      | some w =>
        rw [e3] at h
        simp only [Option.bind_some, Option.some.injEq, Prod.mk.injEq] at h
        obtain ⟨rfl, rfl⟩ := h
        exact ⟨p.1, p.2, q.1, rfl, e2, e3⟩
theorem tOp_of {r : R2} {f : PyData → PyData → Option PyData} {ga gb : GE} (v : Val2 X.K f r) {σ : L2.St} {H : Hp} {Q : VK} (w : tE X.K T (op2 f ga gb) σ H Q) : tOp r (tE X.K T ga) (tE X.K T gb) σ H Q := by
  obtain ⟨S, lo, st, at', z, lo', e, q⟩ := w
  obtain ⟨x, l1, y, e1, e2, e3⟩ := op2_some e
  refine ⟨S, lo, st, at', x, l1, e1, fun v1 S1 H1 st1 r1 x1 => ?_⟩
  refine ⟨S1, l1, st1, at'.ext x1, y, lo', e2, fun v2 S2 H2 st2 r2 x2 => ?_⟩
  refine v S2 H2 v1 v2 x y z Q st2.sub st2.noT (.of (Rq.sub x2.sub r1)) (.of r2) e3 fun w S3 H3 g r3 => ?_
  exact q w S3 H3 (st2.gro g) r3 ((x1.trans x2).trans g.ext)
theorem ev_op {op : Operator} {r : R2} {f : PyData → PyData → Option PyData} {a b : Expr} {ga gb : GE} (ho : OpR X (binaryOp op) r) (v : Val2 X.K f r) (ha : PE X a (tE X.K T ga)) (hb : PE X b (tE X.K T gb)) : PE X (.BinOp a op b pos) (tE X.K T (op2 f ga gb)) :=
  pe_imp (pe_op ho ha hb) fun _ _ _ w => tOp_of v w
theorem ev_cmp {op : CmpOp} {r : R2} {f : PyData → PyData → Option PyData} {a b : Expr} {ga gb : GE} (ho : OpR X (compareOp op) r) (v : Val2 X.K f r) (ha : PE X a (tE X.K T ga)) (hb : PE X b (tE X.K T gb)) (hm : behindInMarks op b = false) : PE X (.Compare a [op] [b] pos) (tE X.K T (op2 f ga gb)) :=
  pe_imp (pe_cmpR ho ha hb hm) fun _ _ _ w => tOp_of v w
theorem ev_ix {r : R2} {f : PyData → PyData → Option PyData} {a b : Expr} {ga gb : GE} (ho : IxR X r) (v : Val2 X.K f r) (ha : PE X a (tE X.K T ga)) (hb : PE X b (tE X.K T gb)) (hs : PlainIx b) : PE X (.Subscript a b pos) (tE X.K T (op2 f ga gb)) :=
  pe_imp (pe_ix ho ha hb hs) fun _ _ _ w => tOp_of v w
/-- a name that may hold a list of one's own, read for this moment -/
def ownD (i : Nat) (lo : Lo) : Option PyData := match lo[i]? with
  | some (some (.dat x)) => some x
  | some (some (.own (.lst xs))) => some (.list xs)
  | _ => none
theorem Stt.read {K : PySem.W.Frag} {S H : Hp} {σ : L2.St} {lo : Lo} {i : Nat} {x : PyData} (st : Stt K S H σ lo) (e : ownD i lo = some x) : ∃ v, σ[i]? = some (some v) ∧ RqT K S H v x := by
  unfold ownD at e
  split at e
  · rename_i y hy
    cases e
    obtain ⟨v, ev, r⟩ := st.loc i _ hy
    exact ⟨v, ev, .of r⟩
  · rename_i y hy
    cases e
    obtain ⟨v, ev, a, vs, rfl, h, r⟩ := st.locL hy
    exact ⟨_, ev, .own h r⟩
  · cases e
/-- the left one, the right one is such a name -/
def op2L (f : PyData → PyData → Option PyData) (i : Nat) (gb : GE) : GE := fun lo => (ownD i lo).bind fun _ => (gb lo).bind fun q => (ownD i q.2).bind fun x => (f x q.1).bind fun z => some (z, q.2)
def op2R (f : PyData → PyData → Option PyData) (ga : GE) (i : Nat) : GE := fun lo => (ga lo).bind fun p => (ownD i p.2).bind fun y => (f p.1 y).bind fun z => some (z, p.2)
theorem tOpL_of {r : R2} {f : PyData → PyData → Option PyData} {i : Nat} {gb : GE} (v : Val2 X.K f r) {σ : L2.St} {H : Hp} {Q : VK} (w : tE X.K T (op2L f i gb) σ H Q) : tOp r (tVar i) (tE X.K T gb) σ H Q := by
  obtain ⟨S, lo, st, at', z, lo', e, q⟩ := w
  obtain ⟨x0, e0, e⟩ := Option.bind_eq_some_iff.mp e
  obtain ⟨p, e1, e⟩ := Option.bind_eq_some_iff.mp e
  obtain ⟨x, e2, e⟩ := Option.bind_eq_some_iff.mp e
  obtain ⟨z', e3, e⟩ := Option.bind_eq_some_iff.mp e
  cases e
  obtain ⟨v0, ev0, _⟩ := st.read e0
  refine ⟨v0, ev0, S, lo, st, at', p.1, p.2, e1, fun u S1 H1 st1 r1 x1 => ?_⟩
  obtain ⟨v1, ev1, rv1⟩ := st1.read e2
  rw [ev0] at ev1
  cases ev1
  exact v S1 H1 v0 u x p.1 z Q st1.sub st1.noT rv1 (.of r1) e3 fun w S2 H2 g r2 => q w S2 H2 (st1.gro g) r2 (x1.trans g.ext)
theorem tOpR_of {r : R2} {f : PyData → PyData → Option PyData} {i : Nat} {ga : GE} (v : Val2 X.K f r) {σ : L2.St} {H : Hp} {Q : VK} (w : tE X.K T (op2R f ga i) σ H Q) : tOp r (tE X.K T ga) (tVar i) σ H Q := by
  obtain ⟨S, lo, st, at', z, lo', e, q⟩ := w
  obtain ⟨p, e1, e⟩ := Option.bind_eq_some_iff.mp e
  obtain ⟨y, e2, e⟩ := Option.bind_eq_some_iff.mp e
  obtain ⟨z', e3, e⟩ := Option.bind_eq_some_iff.mp e
  cases e
  refine ⟨S, lo, st, at', p.1, p.2, e1, fun u S1 H1 st1 r1 x1 => ?_⟩
  obtain ⟨v1, ev1, rv1⟩ := st1.read e2
  exact ⟨v1, ev1, v S1 H1 u v1 p.1 y z Q st1.sub st1.noT (.of r1) rv1 e3 fun w S2 H2 g r2 => q w S2 H2 (st1.gro g) r2 (x1.trans g.ext)⟩
def bF (g : GE) : GT := fun lo => (g lo).bind fun p => match p.1 with
  | .bool b => some (b, p.2)
  | _ => none
theorem bF_some {g : GE} {lo lo' : Lo} {b : Bool} (h : bF g lo = some (b, lo')) : g lo = some (.bool b, lo') := by
  unfold bF at h
  cases e : g lo with
  | none => rw [e] at h; cases h
  | some p =>
    rw [e] at h
    simp only [Option.bind_some] at h
    split at h
    · rename_i c hc
      cases h
      rw [← hc]
    · cases h
theorem tB_of {g : GE} {σ : L2.St} {H : Hp} {Q : Bool → Hp → Prop} (w : tT X.K T (bF g) σ H Q) : tB (tE X.K T g) σ H Q := by
  obtain ⟨S, lo, st, at', b, lo', e, q⟩ := w
  refine ⟨S, lo, st, at', _, lo', bF_some e, fun v S1 H1 st1 r1 x1 => ?_⟩
  cases r1
  exact ⟨b, rfl, q S1 H1 st1 x1⟩
theorem et_val {e : Expr} {g : GE} (h : PE X e (tE X.K T g)) (he : ∀ whole, isTrue e X.env whole = (do let v ← whole; standAt e.pos; holding [v] (truthy v)) := by intro _; rfl) : PT X e (tT X.K T (bF g)) :=
  pt_imp (pt_val h he) fun _ _ _ w => tB_of w
theorem et_cmp {op : CmpOp} {r : R2} {f : PyData → PyData → Option PyData} {a b : Expr} {ga gb : GE} (ho : OpR X (compareOp op) r) (v : Val2 X.K f r) (ha : PE X a (tE X.K T ga)) (hb : PE X b (tE X.K T gb)) (hm : behindInMarks op b = false) : PT X (.Compare a [op] [b] pos) (tT X.K T (bF (op2 f ga gb))) :=
  pt_imp (pt_cmpR ho ha hb hm) fun σ H Q w => by
    have := tB_of w
    exact tOp_of (Q := fun x H' => ∃ k, x = .bl k ∧ Q k H') v this
def notT (t : GT) : GT := fun lo => (t lo).bind fun p => some (!p.1, p.2)
def andT (t u : GT) : GT := fun lo => (t lo).bind fun p => if p.1 = true then u p.2 else some (false, p.2)
def orT (t u : GT) : GT := fun lo => (t lo).bind fun p => if p.1 = true then some (true, p.2) else u p.2
theorem et_not {a : Expr} {t : GT} (h : PT X a (tT X.K T t)) : PT X (.UnaryOp .Not a pos) (tT X.K T (notT t)) := by
  refine pt_imp (pt_not h) fun σ H Q w => ?_
  obtain ⟨S, lo, st, at', b, lo', e, q⟩ := w
  unfold notT at e
  obtain ⟨p, e1, e2⟩ := Option.bind_eq_some_iff.mp e
  cases e2
  exact ⟨S, lo, st, at', p.1, p.2, e1, q⟩
theorem ew_and1 {a : Expr} {t : GT} (h : PT X a (tT X.K T t)) : PW X (.BoolOp .And [a] pos) (tT X.K T t) := pw_and1 h
theorem ew_or1 {a : Expr} {t : GT} (h : PT X a (tT X.K T t)) : PW X (.BoolOp .Or [a] pos) (tT X.K T t) := pw_or1 h
theorem ew_and {a b : Expr} {rest : List Expr} {t u : GT} (h : PT X a (tT X.K T t)) (k : PW X (.BoolOp .And (b :: rest) pos) (tT X.K T u)) : PW X (.BoolOp .And (a :: b :: rest) pos) (tT X.K T (andT t u)) := by
  refine pw_imp (pw_and h k) fun σ H Q w => ?_
  obtain ⟨S, lo, st, at', b, lo', e, q⟩ := w
  obtain ⟨p, e1, e2⟩ := Option.bind_eq_some_iff.mp e
  refine ⟨S, lo, st, at', p.1, p.2, e1, fun S1 H1 st1 x1 => ?_⟩
  refine ite2 (fun c => ?_) (fun c => ?_)
  · rw [if_pos c] at e2
    exact ⟨S1, p.2, st1, at'.ext x1, b, lo', e2, fun S2 H2 st2 x2 => q S2 H2 st2 (x1.trans x2)⟩
  · rw [if_neg c] at e2
    cases e2
    exact q S1 H1 st1 x1
theorem ew_or {a b : Expr} {rest : List Expr} {t u : GT} (h : PT X a (tT X.K T t)) (k : PW X (.BoolOp .Or (b :: rest) pos) (tT X.K T u)) : PW X (.BoolOp .Or (a :: b :: rest) pos) (tT X.K T (orT t u)) := by
  refine pw_imp (pw_or h k) fun σ H Q w => ?_
  obtain ⟨S, lo, st, at', b, lo', e, q⟩ := w
  obtain ⟨p, e1, e2⟩ := Option.bind_eq_some_iff.mp e
  refine ⟨S, lo, st, at', p.1, p.2, e1, fun S1 H1 st1 x1 => ?_⟩
  refine ite2 (fun c => ?_) (fun c => ?_)
  · rw [if_pos c] at e2
    cases e2
    exact q S1 H1 st1 x1
  · rw [if_neg c] at e2
    exact ⟨S1, p.2, st1, at'.ext x1, b, lo', e2, fun S2 H2 st2 x2 => q S2 H2 st2 (x1.trans x2)⟩
def tstE (t : GT) : GE := fun lo => (t lo).bind fun p => some (.bool p.1, p.2)
def notE (g : GE) : GE := tstE (notT (bF g))
def andE (g k : GE) : GE := fun lo => (bF g lo).bind fun p => if p.1 = true then k p.2 else some (.bool false, p.2)
def orE (g k : GE) : GE := fun lo => (bF g lo).bind fun p => if p.1 = true then some (.bool true, p.2) else k p.2
def ifE (t : GT) (g k : GE) : GE := fun lo => (t lo).bind fun p => if p.1 = true then g p.2 else k p.2
theorem ev_one {op : BoolOp} {a : Expr} {g : GE} (h : PE X a (tE X.K T g)) : PE X (.BoolOp op [a] pos) (tE X.K T g) := pe_one h
theorem ev_not {a : Expr} {g : GE} (h : PE X a (tE X.K T g)) : PE X (.UnaryOp .Not a pos) (tE X.K T (notE g)) := by
  refine pe_imp (pe_not h) fun σ H Q w => ?_
  obtain ⟨S, lo, st, at', x, lo', e, q⟩ := w
  obtain ⟨p, e1, e2⟩ := Option.bind_eq_some_iff.mp e
  obtain ⟨r, e3, e4⟩ := Option.bind_eq_some_iff.mp e1
  cases e2
  cases e4
  refine ⟨S, lo, st, at', _, r.2, bF_some (b := r.1) e3, fun v S1 H1 st1 r1 x1 => ?_⟩
  cases r1
  exact ⟨_, rfl, q _ S1 H1 st1 (.bl _) x1⟩
theorem ev_and {a b : Expr} {rest : List Expr} {g k : GE} (h : PE X a (tE X.K T g)) (hk : PE X (.BoolOp .And (b :: rest) pos) (tE X.K T k)) : PE X (.BoolOp .And (a :: b :: rest) pos) (tE X.K T (andE g k)) := by
  refine pe_imp (pe_and h hk) fun σ H Q w => ?_
  obtain ⟨S, lo, st, at', x, lo', e, q⟩ := w
  obtain ⟨p, e1, e2⟩ := Option.bind_eq_some_iff.mp e
  refine ⟨S, lo, st, at', _, p.2, bF_some (b := p.1) e1, fun v S1 H1 st1 r1 x1 => ?_⟩
  cases r1
  refine ⟨_, rfl, ite2 (fun c => ?_) (fun c => ?_)⟩
  · rw [if_pos c] at e2
    exact ⟨S1, p.2, st1, at'.ext x1, x, lo', e2, fun v S2 H2 st2 r2 x2 => q v S2 H2 st2 r2 (x1.trans x2)⟩
  · rw [if_neg c] at e2
    cases e2
    exact q _ S1 H1 st1 (.bl _) x1
theorem ev_or {a b : Expr} {rest : List Expr} {g k : GE} (h : PE X a (tE X.K T g)) (hk : PE X (.BoolOp .Or (b :: rest) pos) (tE X.K T k)) : PE X (.BoolOp .Or (a :: b :: rest) pos) (tE X.K T (orE g k)) := by
  refine pe_imp (pe_or h hk) fun σ H Q w => ?_
  obtain ⟨S, lo, st, at', x, lo', e, q⟩ := w
  obtain ⟨p, e1, e2⟩ := Option.bind_eq_some_iff.mp e
  refine ⟨S, lo, st, at', _, p.2, bF_some (b := p.1) e1, fun v S1 H1 st1 r1 x1 => ?_⟩
  cases r1
  refine ⟨_, rfl, ite2 (fun c => ?_) (fun c => ?_)⟩
  · rw [if_pos c] at e2
    cases e2
    exact q _ S1 H1 st1 (.bl _) x1
  · rw [if_neg c] at e2
    exact ⟨S1, p.2, st1, at'.ext x1, x, lo', e2, fun v S2 H2 st2 r2 x2 => q v S2 H2 st2 r2 (x1.trans x2)⟩
theorem ev_if {c a b : Expr} {t : GT} {g k : GE} (hc : PT X c (tT X.K T t)) (ha : PE X a (tE X.K T g)) (hb : PE X b (tE X.K T k)) : PE X (.IfExp c a b pos) (tE X.K T (ifE t g k)) := by
  refine pe_imp (pe_ifExp hc ha hb) fun σ H Q w => ?_
  obtain ⟨S, lo, st, at', x, lo', e, q⟩ := w
  obtain ⟨p, e1, e2⟩ := Option.bind_eq_some_iff.mp e
  refine ⟨S, lo, st, at', p.1, p.2, e1, fun S1 H1 st1 x1 => ?_⟩
  refine ite2 (fun c => ?_) (fun c => ?_)
  · rw [if_pos c] at e2
    exact ⟨S1, p.2, st1, at'.ext x1, x, lo', e2, fun v S2 H2 st2 r2 x2 => q v S2 H2 st2 r2 (x1.trans x2)⟩
  · rw [if_neg c] at e2
    exact ⟨S1, p.2, st1, at'.ext x1, x, lo', e2, fun v S2 H2 st2 r2 x2 => q v S2 H2 st2 r2 (x1.trans x2)⟩
abbrev GA := Lo → Option (List PyData × Lo)
def tAr (K : PySem.W.Frag) (T : List Addr) (g : GA) : TA := fun σ H Q => ∃ S lo, Stt K S H σ lo ∧ AllT T H ∧ ∃ xs lo', g lo = some (xs, lo') ∧ ∀ vs S' H', Stt K S' H' σ lo' → RqL K S' vs xs → Ext (Own σ lo) S H S' H' (Own σ lo') → Q vs H'
def nilA : GA := fun lo => some ([], lo)
def consA (g : GE) (k : GA) : GA := fun lo => (g lo).bind fun p => (k p.2).bind fun q => some (p.1 :: q.1, q.2)
theorem ea_nil : PA X [] (tAr X.K T nilA) := by
  refine pa_imp pa_nil fun σ H Q w => ?_
  obtain ⟨S, lo, st, at', x, lo', e, q⟩ := w
  cases e
  exact q [] S H st .nil (Ext.refl _ _ _)
theorem ea_cons {e : Expr} {es : List Expr} {g : GE} {k : GA} (h : PE X e (tE X.K T g)) (hr : PA X es (tAr X.K T k)) (hs : starEach (e :: es) X.env = (false, eval e X.env) :: starEach es X.env := by rfl) : PA X (e :: es) (tAr X.K T (consA g k)) := by
  refine pa_imp (pa_cons h hr hs) fun σ H Q w => ?_
  obtain ⟨S, lo, st, at', xs, lo', e, q⟩ := w
  obtain ⟨p, e1, e2⟩ := Option.bind_eq_some_iff.mp e
  obtain ⟨r, e3, e4⟩ := Option.bind_eq_some_iff.mp e2
  cases e4
  refine ⟨S, lo, st, at', p.1, p.2, e1, fun v S1 H1 st1 r1 x1 => ?_⟩
  exact ⟨S1, p.2, st1, at'.ext x1, r.1, r.2, e3, fun vs S2 H2 st2 r2 x2 => q (v :: vs) S2 H2 st2 (.cons (Rq.sub x2.sub r1) r2) (x1.trans x2)⟩
def tupF (g : GA) : GE := fun lo => (g lo).bind fun p => if p.1.length ≤ sizeLine then some (.tuple p.1, p.2) else none
def lstF (g : GA) : GE := fun lo => (g lo).bind fun p => if p.1.length ≤ sizeLine then some (.list p.1, p.2) else none
theorem ev_tup {es : List Expr} {j : Nat} {g : GA} (h : PA X es (tAr X.K T g)) : PE X (.Tuple es j pos) (tE X.K T (tupF g)) := by
  refine pe_imp (pe_tup h) fun σ H Q w => ?_
  obtain ⟨S, lo, st, at', x, lo', e, q⟩ := w
  obtain ⟨p, e1, e2⟩ := Option.bind_eq_some_iff.mp e
  split at e2
  · rename_i hz
    cases e2
    refine ⟨S, lo, st, at', p.1, p.2, e1, fun vs S1 H1 st1 r1 x1 => ⟨by rw [r1.length]; exact hz, fun a ha => ?_⟩⟩
    have g1 := Gro.new (u := .tup vs) st1.sub st1.noT ha (fun ps z => by cases z)
    exact q _ _ _ (st1.gro g1) (.tup (.inl (.inl upd_same)) (RqL.sub g1.subS r1)) (x1.trans g1.ext)
  · cases e2
theorem ev_lst {es : List Expr} {g : GA} (h : PA X es (tAr X.K T g)) : PE X (.List es pos) (tE X.K T (lstF g)) := by
  refine pe_imp (pe_lst h) fun σ H Q w => ?_
  obtain ⟨S, lo, st, at', x, lo', e, q⟩ := w
  obtain ⟨p, e1, e2⟩ := Option.bind_eq_some_iff.mp e
  split at e2
  · rename_i hz
    cases e2
    refine ⟨S, lo, st, at', p.1, p.2, e1, fun vs S1 H1 st1 r1 x1 => ⟨by rw [r1.length]; exact hz, fun a ha => ?_⟩⟩
    have g1 := Gro.new (u := .lst vs) st1.sub st1.noT ha (fun ps z => by cases z)
    exact q _ _ _ (st1.gro g1) (.lst (.inl upd_same) (RqL.sub g1.subS r1)) (x1.trans g1.ext)
  · cases e2
/-- a built-in called with data -/
def ValN (K : PySem.W.Frag) (f : List PyData → Option PyData) (r : List V → Hp → VK → Prop) : Prop := ∀ (S H : Hp) (vs : List V) (xs : List PyData) (z : PyData) (Q : VK), Sub S H → NoT S → RqTL K S H vs xs → f xs = some z → (∀ w S' H', Gro S H S' H' → Rq K S' w z → Q w H') → r vs H Q
def callF (f : List PyData → Option PyData) (g : GA) : GE := fun lo => (g lo).bind fun p => (f p.1).bind fun z => some (z, p.2)
theorem tCB_of {r : List V → Hp → VK → Prop} {f : List PyData → Option PyData} {g : GA} (v : ValN X.K f r) {σ : L2.St} {H : Hp} {Q : VK} (w : tE X.K T (callF f g) σ H Q) : tCB r (tAr X.K T g) σ H Q := by
  obtain ⟨S, lo, st, at', z, lo', e, q⟩ := w
  obtain ⟨p, e1, e2⟩ := Option.bind_eq_some_iff.mp e
  obtain ⟨z', e3, e4⟩ := Option.bind_eq_some_iff.mp e2
  cases e4
  refine ⟨S, lo, st, at', p.1, p.2, e1, fun vs S1 H1 st1 r1 x1 => ?_⟩
  exact v S1 H1 vs p.1 z Q st1.sub st1.noT (.of r1) e3 fun w S2 H2 g2 r2 => q w S2 H2 (st1.gro g2) r2 (x1.trans g2.ext)
/-- .. called with such a name alone -/
def callN (f : List PyData → Option PyData) (i : Nat) : GE := fun lo => (ownD i lo).bind fun x => (f [x]).bind fun z => some (z, lo)
theorem tCBN_of {r : List V → Hp → VK → Prop} {f : List PyData → Option PyData} {i : Nat} (v : ValN X.K f r) {σ : L2.St} {H : Hp} {Q : VK} (w : tE X.K T (callN f i) σ H Q) : tCB r (tCons (tVar i) tNil) σ H Q := by
  obtain ⟨S, lo, st, at', z, lo', e, q⟩ := w
  obtain ⟨x, e1, e⟩ := Option.bind_eq_some_iff.mp e
  obtain ⟨z', e3, e⟩ := Option.bind_eq_some_iff.mp e
  cases e
  obtain ⟨v1, ev1, rv1⟩ := st.read e1
  exact ⟨v1, ev1, v S H [v1] [x] z Q st.sub st.noT (.cons rv1 .nil) e3 fun w S2 H2 g r2 => q w S2 H2 (st.gro g) r2 g.ext⟩
end
end Ev
namespace Ev
open PySem PySem.Spec PyProof.Rows L2 Tb
variable {K : PySem.W.Frag}
theorem Stt.set {S H : Hp} {σ : L2.St} {lo : Lo} (s : Stt K S H σ lo) {i : Nat} {v : V} {x : PyData} (r : Rq K S v x) : Stt K S H (σ.set i (some v)) (lo.set i (some (.dat x))) ∧ ∀ a, Own (σ.set i (some v)) (lo.set i (some (.dat x))) a → Own σ lo a := by
  have oth : ∀ j b, OwnAt (σ.set i (some v)) (lo.set i (some (.dat x))) j b → OwnAt σ lo j b := fun j b ⟨h1, ys, h2⟩ => by
    by_cases q : j = i
    · subst q
      by_cases hi : j < lo.length
      · rw [List.getElem?_set_self hi] at h2
        cases h2
      · rw [List.getElem?_eq_none (by rw [List.length_set]; omega)] at h2
        cases h2
    · rw [List.getElem?_set_ne (Ne.symm q)] at h1 h2
      exact ⟨h1, ys, h2⟩
  refine ⟨⟨s.sub, s.noT, by rw [List.length_set, List.length_set]; exact s.len, fun j l h => ?_, fun j b h => s.own j b (oth j b h), fun j k b h1 h2 => s.inj j k b (oth j b h1) (oth k b h2)⟩, fun a ⟨j, h⟩ => ⟨j, oth j a h⟩⟩
  by_cases q : j = i
  · subst q
    have hi : j < lo.length := by
      have := (List.getElem?_eq_some_iff.mp h).1
      rwa [List.length_set] at this
    rw [List.getElem?_set_self hi] at h
    cases h
    exact ⟨v, List.getElem?_set_self (by rw [← s.len]; exact hi), r⟩
  · rw [List.getElem?_set_ne (Ne.symm q)] at h
    obtain ⟨w, e, rr⟩ := s.loc j l h
    exact ⟨w, by rw [List.getElem?_set_ne (Ne.symm q)]; exact e, rr⟩
/-- .. forgets what it had -/
theorem Stt.wipe1 {S H : Hp} {σ : L2.St} {lo : Lo} (s : Stt K S H σ lo) {i : Nat} {o : Option V} : Stt K S H (σ.set i o) (lo.set i none) ∧ ∀ a, Own (σ.set i o) (lo.set i none) a → Own σ lo a := by
  have ne : ∀ j (l : L), (lo.set i none)[j]? = some (some l) → j ≠ i := fun j l h q => by
    subst q
    by_cases hi : j < lo.length
    · rw [List.getElem?_set_self hi] at h
      cases h
    · rw [List.getElem?_eq_none (by rw [List.length_set]; omega)] at h
      cases h
  have oth : ∀ j b, OwnAt (σ.set i o) (lo.set i none) j b → OwnAt σ lo j b := fun j b ⟨h1, ys, h2⟩ => by
    have q := ne j _ h2
    rw [List.getElem?_set_ne (Ne.symm q)] at h1 h2
    exact ⟨h1, ys, h2⟩
  refine ⟨⟨s.sub, s.noT, by rw [List.length_set, List.length_set]; exact s.len, fun j l h => ?_, fun j b h => s.own j b (oth j b h), fun j k b h1 h2 => s.inj j k b (oth j b h1) (oth k b h2)⟩, fun a ⟨j, h⟩ => ⟨j, oth j a h⟩⟩
  have q := ne j l h
  rw [List.getElem?_set_ne (Ne.symm q)] at h
  obtain ⟨w, e, rr⟩ := s.loc j l h
  exact ⟨w, by rw [List.getElem?_set_ne (Ne.symm q)]; exact e, rr⟩
theorem Ext.shrink {F F1 F2 : Addr → Prop} {S H S' H' : Hp} (x : Ext F S H S' H' F1) (h : ∀ a, F2 a → F1 a) : Ext F S H S' H' F2 := ⟨x.keep, x.tab, x.sub, x.domS, fun b hb => x.domF b (h b hb)⟩
theorem Ext.widen {F F1 F2 : Addr → Prop} {S H S' H' : Hp} (x : Ext F S H S' H' F1) (h : ∀ a, F a → F2 a) : Ext F2 S H S' H' F1 :=
  ⟨fun b o n => x.keep b o fun z => n (h b z), x.tab, x.sub, fun b hb => (x.domS b hb).imp id (Or.imp (h b) id), fun b hb => (x.domF b hb).imp (h b) id⟩
inductive Out where
  | nx | rt (x : PyData) | bk | ct
abbrev GS := Lo → Option (Out × Lo)
def endO (K : PySem.W.Frag) (D : Ends) (S : Hp) (σ : L2.St) (H : Hp) : Out → Prop
  | .nx => D.nx σ H
  | .rt x => ∀ v, Rq K S v x → D.rt v H
  | .bk => D.bk σ H
  | .ct => D.ct σ H
def tS (K : PySem.W.Frag) (T : List Addr) (pin : Bool) (g : GS) : TS := fun D σ H => ∃ S lo, Stt K S H σ lo ∧ AllT T H ∧ ∃ o lo', g lo = some (o, lo') ∧ ∀ σ' S' H', Stt K S' H' σ' lo' → Ext (Own σ lo) S H S' H' (Own σ' lo') → (pin = true → σ'[0]? = σ[0]?) → endO K D S' σ' H' o
section
variable {X : Cx} {T : List Addr} {pos : Pos} {pin : Bool}
def nilS : GS := fun lo => some (.nx, lo)
def seqS (g k : GS) : GS := fun lo => (g lo).bind fun p => match p.1 with
  | .nx => k p.2
  | .rt x => some (.rt x, p.2)
  | .bk => some (.bk, p.2)
  | .ct => some (.ct, p.2)
theorem es_nil : PSs X [] (tS X.K T pin nilS) := by
  refine pss_imp pss_nil fun D σ H w => ?_
  obtain ⟨S, lo, st, at', o, lo', e, q⟩ := w
  cases e
  exact q σ S H st (Ext.refl _ _ _) fun _ => rfl
theorem es_cons {st : Stmt} {rest : List Stmt} {g k : GS} (h : PS X st (tS X.K T pin g)) (hk : PSs X rest (tS X.K T pin k)) : PSs X (st :: rest) (tS X.K T pin (seqS g k)) := by
  refine pss_imp (pss_cons h hk) fun D σ H w => ?_
  obtain ⟨S, lo, st, at', o, lo', e, q⟩ := w
  obtain ⟨p, e1, e2⟩ := Option.bind_eq_some_iff.mp e
  obtain ⟨o1, l1⟩ := p
  refine ⟨S, lo, st, at', o1, l1, e1, fun σ1 S1 H1 st1 x1 p1 => ?_⟩
  cases o1 with
  | nx => exact ⟨S1, l1, st1, at'.ext x1, o, lo', e2, fun σ2 S2 H2 st2 x2 p2 => q σ2 S2 H2 st2 (x1.trans x2) fun z => (p2 z).trans (p1 z)⟩
  | rt x =>
    cases e2
    exact q σ1 S1 H1 st1 x1 p1
  | bk =>
    cases e2
    exact q σ1 S1 H1 st1 x1 p1
  | ct =>
    cases e2
    exact q σ1 S1 H1 st1 x1 p1
theorem es_one {st : Stmt} {g : GS} (h : PS X st (tS X.K T pin g)) : PSs X [st] (tS X.K T pin g) := pss_one h
def neverS : GS := fun _ => none
theorem es_never {st : Stmt} : PS X st (tS X.K T pin neverS) := by
  refine ps_imp ps_never fun D σ H w => ?_
  obtain ⟨_, _, _, _, _, _, e, _⟩ := w
  cases e
def retS (g : GE) : GS := fun lo => (g lo).bind fun p => some (.rt p.1, p.2)
theorem es_ret {e : Expr} {g : GE} (h : PE X e (tE X.K T g)) : PS X (.Return (some e) pos) (tS X.K T pin (retS g)) := by
  refine ps_imp (ps_ret h) fun D σ H w => ?_
  obtain ⟨S, lo, st, at', o, lo', e, q⟩ := w
  obtain ⟨p, e1, e2⟩ := Option.bind_eq_some_iff.mp e
  cases e2
  exact ⟨S, lo, st, at', p.1, p.2, e1, fun v S1 H1 st1 r1 x1 => q σ S1 H1 st1 x1 (fun _ => rfl) v r1⟩
def dropS (g : GE) : GS := fun lo => (g lo).bind fun p => some (.nx, p.2)
theorem es_expr {e : Expr} {g : GE} (h : PE X e (tE X.K T g)) (hs : swapsWith e none pos.line X.env = pure false := by rfl) : PS X (.Expr e pos) (tS X.K T pin (dropS g)) := by
  refine ps_imp (ps_expr h hs) fun D σ H w => ?_
  obtain ⟨S, lo, st, at', o, lo', e, q⟩ := w
  obtain ⟨p, e1, e2⟩ := Option.bind_eq_some_iff.mp e
  cases e2
  exact ⟨S, lo, st, at', p.1, p.2, e1, fun v S1 H1 st1 r1 x1 => q σ S1 H1 st1 x1 (fun _ => rfl)⟩
def ifS (t : GT) (g k : GS) : GS := fun lo => (t lo).bind fun p => if p.1 = true then g p.2 else k p.2
theorem es_if {c : Expr} {a b : List Stmt} {t : GT} {g k : GS} (hc : PT X c (tT X.K T t)) (ha : PSs X a (tS X.K T pin g)) (hb : PSs X b (tS X.K T pin k)) : PS X (.If c a b pos) (tS X.K T pin (ifS t g k)) := by
  refine ps_imp (ps_if hc ha hb) fun D σ H w => ?_
  obtain ⟨S, lo, st, at', o, lo', e, q⟩ := w
  obtain ⟨p, e1, e2⟩ := Option.bind_eq_some_iff.mp e
  refine ⟨S, lo, st, at', p.1, p.2, e1, fun S1 H1 st1 x1 => ?_⟩
  refine ite2 (fun c => ?_) (fun c => ?_)
  · rw [if_pos c] at e2
    exact ⟨S1, p.2, st1, at'.ext x1, o, lo', e2, fun σ2 S2 H2 st2 x2 p2 => q σ2 S2 H2 st2 (x1.trans x2) p2⟩
  · rw [if_neg c] at e2
    exact ⟨S1, p.2, st1, at'.ext x1, o, lo', e2, fun σ2 S2 H2 st2 x2 p2 => q σ2 S2 H2 st2 (x1.trans x2) p2⟩
abbrev GG := PyData → Lo → Option Lo
def TGt (K : PySem.W.Frag) (pin : Bool) (t : TG) (gg : GG) : Prop := ∀ (v : V) (x : PyData) (σ : L2.St) (H : Hp) (Q : L2.St → Hp → Prop) (S : Hp) (lo lo' : Lo), Stt K S H σ lo → Rq K S v x → gg x lo = some lo' →
  (∀ σ' H', Stt K S H' σ' lo' → Ext (Own σ lo) S H S H' (Own σ' lo') → (pin = true → σ'[0]? = σ[0]?) → Q σ' H') → t v σ H Q
def nmG (i : Nat) : GG := fun x lo => some (lo.set i (some (.dat x)))
theorem eg_name {i : Nat} (hp : pin = true → i ≠ 0) : TGt K pin (gName i) (nmG i) := fun v x σ H Q S lo lo' st r e q => by
  cases e
  obtain ⟨s1, s2⟩ := st.set (i := i) r
  exact q _ _ s1 ((Ext.refl _ _ _).shrink s2) fun z => by rw [List.getElem?_set_ne (hp z)]
def TGts (K : PySem.W.Frag) (pin : Bool) (t : TGs) (gg : List PyData → Lo → Option Lo) : Prop := ∀ (vs : List V) (xs : List PyData) (σ : L2.St) (H : Hp) (Q : L2.St → Hp → Prop) (S : Hp) (lo lo' : Lo), Stt K S H σ lo → RqL K S vs xs → gg xs lo = some lo' →
  (∀ σ' H', Stt K S H' σ' lo' → Ext (Own σ lo) S H S H' (Own σ' lo') → (pin = true → σ'[0]? = σ[0]?) → Q σ' H') → t vs σ H Q
def nilGs : List PyData → Lo → Option Lo := fun xs lo => match xs with
  | [] => some lo
  | _ => none
def consGs (g : GG) (k : List PyData → Lo → Option Lo) : List PyData → Lo → Option Lo := fun xs lo => match xs with
  | x :: r => (g x lo).bind (k r)
  | _ => none
theorem egs_nil : TGts K pin gNil nilGs := fun vs xs σ H Q S lo lo' st r e q => by
  cases xs with
  | nil =>
    cases e
    cases r
    exact ⟨rfl, q σ H st (Ext.refl _ _ _) fun _ => rfl⟩
  | cons _ _ => cases e
theorem egs_cons {t : TG} {u : TGs} {g : GG} {k : List PyData → Lo → Option Lo} (h : TGt K pin t g) (hk : TGts K pin u k) : TGts K pin (gCons t u) (consGs g k) := fun vs xs σ H Q S lo lo' st r e q => by
  cases xs with
  | nil => cases e
  | cons x r' =>
    obtain ⟨l, e1, e2⟩ := Option.bind_eq_some_iff.mp e
    cases r with
    | cons r1 r2 =>
      refine ⟨_, _, rfl, h _ x σ H _ S lo l st r1 e1 fun σ1 H1 st1 o1 p1 => ?_⟩
      exact hk _ r' σ1 H1 Q S l lo' st1 r2 e2 fun σ2 H2 st2 o2 p2 => q σ2 H2 st2 (o1.trans o2) fun z => (p2 z).trans (p1 z)
def tpG (n : Nat) (k : List PyData → Lo → Option Lo) : GG := fun x lo => match x with
  | .tuple xs => if xs.length = n then k xs lo else none
  | _ => none
theorem eg_tup {n : Nat} {u : TGs} {k : List PyData → Lo → Option Lo} (hk : TGts K pin u k) : TGt K pin (gTup K n u) (tpG n k) := fun v x σ H Q S lo lo' st r e q => by
  unfold tpG at e
  split at e
  · rename_i xs
    split at e
    · rename_i hn
      cases r with
      | tup h rr => exact ⟨_, _, rfl, st.sub.sqT h, by rw [rr.length]; exact hn, hk _ xs σ H Q S lo lo' st rr e q⟩
    · cases e
  · cases e
/-- target = e -/
def asgS (g : GE) (gg : GG) : GS := fun lo => (g lo).bind fun p => (gg p.1 p.2).bind fun l => some (.nx, l)
theorem es_asg {tg e : Expr} {t : TG} {g : GE} {gg : GG} (he : PE X e (tE X.K T g)) (hg : PG X tg t) (ht : TGt X.K pin t gg) (hs : swapsWithSole [tg] e pos.line X.env = pure false := by rfl) (hw : swappedStores [tg] e X.env = pure none := by rfl)
    (h1 : (assignEach [tg] X.env).map (·.2) = [assign tg X.env] := by rfl) : PS X (.Assign [tg] e pos) (tS X.K T pin (asgS g gg)) := by
  refine ps_imp (ps_asg he hg hs hw h1) fun D σ H w => ?_
  obtain ⟨S, lo, st, at', o, lo', e, q⟩ := w
  obtain ⟨p, e1, e2⟩ := Option.bind_eq_some_iff.mp e
  obtain ⟨l, e3, e4⟩ := Option.bind_eq_some_iff.mp e2
  cases e4
  refine ⟨S, lo, st, at', p.1, p.2, e1, fun v S1 H1 st1 r1 x1 => ?_⟩
  exact ht v p.1 σ H1 _ S1 p.2 _ st1 r1 e3 fun σ2 H2 st2 o2 p2 => q σ2 S1 H2 st2 (x1.trans o2) p2
def Walks (K : PySem.W.Frag) (J : It) (S : Hp) (xs : List PyData) : Prop := ∀ (i : Nat) (S' H' : Hp), Sub S S' → Sub S' H' → NoT S' → i ≤ xs.length →
  (i = xs.length ∧ J.stop i H') ∨ ∃ x, xs[i]? = some x ∧ J.go i H' ∧ ∀ v H'', J.yld i H' v H'' → ∃ S'', Gro S' H' S'' H'' ∧ Rq K S'' v x
def tI (K : PySem.W.Frag) (T : List Addr) (g : GA) : TI := fun σ H R => ∃ S lo, Stt K S H σ lo ∧ AllT T H ∧ ∃ xs lo', g lo = some (xs, lo') ∧ ∀ J S' H', Stt K S' H' σ lo' → Ext (Own σ lo) S H S' H' (Own σ lo') → Walks K J S' xs → R J H'
theorem pi_imp {tg e : Expr} {t t' : TI} (h : PI X tg e t) (i : ∀ σ H R, t' σ H R → t σ H R) : PI X tg e t' := ⟨fun pins s σ H R I w => h.run pins s σ H R I (i σ H R w)⟩
theorem walks_l {a : Addr} {S : Hp} {vs : List V} {xs : List PyData} (h : Rd S a (.lst vs)) (r : RqL K S vs xs) : Walks K (Itl K a) S xs := fun i S' H' s1 s2 n hi => by
  have q : SqL K H' a vs := .inl (s2.rd (s1.rd h))
  rcases Nat.lt_or_ge i xs.length with hlt | hge
  · obtain ⟨v, hv, rv⟩ := r.get' (List.getElem?_eq_getElem hlt)
    refine .inr ⟨_, List.getElem?_eq_getElem hlt, ⟨vs, v, q, hv⟩, fun w H'' ⟨e1, e2⟩ => ?_⟩
    subst e1
    have := e2 vs q
    rw [hv] at this
    cases this
    exact ⟨S', Gro.refl s2 n, Rq.sub s1 rv⟩
  · exact .inl ⟨Nat.le_antisymm hi hge, vs, q, by rw [r.length]; exact hge⟩
theorem walks_t {a : Addr} {S : Hp} {vs : List V} {xs : List PyData} (h : SqT K S a vs) (r : RqL K S vs xs) : Walks K (Itt K a) S xs := fun i S' H' s1 s2 n hi => by
  have q : SqT K H' a vs := s2.sqT (s1.sqT h)
  rcases Nat.lt_or_ge i xs.length with hlt | hge
  · obtain ⟨v, hv, rv⟩ := r.get' (List.getElem?_eq_getElem hlt)
    refine .inr ⟨_, List.getElem?_eq_getElem hlt, ⟨vs, v, q, hv⟩, fun w H'' ⟨e1, e2⟩ => ?_⟩
    subst e1
    have := e2 vs q
    rw [hv] at this
    cases this
    exact ⟨S', Gro.refl s2 n, Rq.sub s1 rv⟩
  · exact .inl ⟨Nat.le_antisymm hi hge, vs, q, by rw [r.length]; exact hge⟩
/-- what a for walks: a list, a tuple, or the signs of a text -/
def iSqS (K : PySem.W.Frag) (tl : TE) : TI := fun σ H R => tl σ H fun x H1 => (∃ a xs, x = .ref a ∧ ((SqL K H1 a xs ∧ R (Itl K a) H1) ∨ (SqT K H1 a xs ∧ R (Itt K a) H1))) ∨ ∃ z, x = .str z ∧ R (Its z) H1
theorem pi_sqS {X : Cx} {tg l : Expr} {tl : TE} (hl : PE X l tl) : PI X tg l (iSqS X.K tl) := by
  refine ⟨fun pins s σ H R I h => thn (hl.run pins s σ H _ I h) fun u s1 h1 => ?_⟩
  obtain ⟨y, H1, I1, r1, q⟩ := h1
  rcases q with ⟨a, xs, rfl, q⟩ | ⟨z, rfl, q⟩
  · cases r1
    rcases q with ⟨q1, q2⟩ | ⟨q1, q2⟩
    · obtain ⟨its, rv, p, hz⟩ := I1.list q1
      refine wpAny_pyIter_list p.isList ?_
      have I2 : Inv X pins σ H1 { s1 with heap := s1.heap.push { cls := .type "list_iterator", data := .fields #[.ref a, .int 0 0] } } := I1.kept (t' := s1.toks) fun b o e => Heap.get?_push_of_some _ e
      exact ⟨s1.heap.objs.size, [s1.heap.objs.size], _, _, H1, rfl, I2, turn_list a _, ⟨_, Heap.get?_push_size _ rfl, rfl, rfl⟩, fun b hb => by
        rw [List.mem_singleton.mp hb]
        exact I1.fpOk (Nat.le_refl _) (I1.hok.fresh (Nat.le_refl _)), q2⟩
    · obtain ⟨its, rv, p, hz⟩ := I1.tuple q1
      refine wpAny_pyIter_tuple p ?_
      have I2 : Inv X pins σ H1 { s1 with heap := s1.heap.push { cls := .type "tuple_iterator", data := .fields #[.ref a, .int 0 0] } } := I1.kept (t' := s1.toks) fun b o e => Heap.get?_push_of_some _ e
      exact ⟨s1.heap.objs.size, [s1.heap.objs.size], _, _, H1, rfl, I2, turn_tuple a _, ⟨_, Heap.get?_push_size _ rfl, rfl, rfl⟩, fun b hb => by
        rw [List.mem_singleton.mp hb]
        exact I1.fpOk (Nat.le_refl _) (I1.hok.fresh (Nat.le_refl _)), q2⟩
  · obtain ⟨tok, rfl⟩ := r1
    by_cases plain : z.cps.all (· < 128) = true
    · refine wpAny_pyIter_ascii plain (pi_one (tk := s1.toks) I1 _ (turn_str _ z tok "str_ascii_iterator" (.inl rfl)) ?_ q)
      exact ⟨_, Heap.get?_push_size _ rfl, rfl, rfl⟩
    · refine wpAny_pyIter_wide (by simpa using plain) (pi_one (tk := s1.toks) I1 _ (turn_str _ z tok "str_iterator" (.inr rfl)) ?_ q)
      exact ⟨_, Heap.get?_push_size _ rfl, rfl, rfl⟩
/-- the signs of a text, as texts -/
def chD (z : Str) : List PyData := z.cps.toList.map fun c => .str ⟨#[c]⟩
theorem walks_s {z : Str} {S : Hp} : Walks K (Its z) S (chD z) := fun i S' H' s1 s2 n hi => by
  have len : (chD z).length = z.cps.size := by unfold chD; simp
  rcases Nat.lt_or_ge i z.cps.size with hlt | hge
  · refine .inr ⟨.str ⟨#[z.cps[i]]⟩, by unfold chD; rw [List.getElem?_map]; simp [hlt], hlt, fun w H'' hw => ?_⟩
    obtain ⟨rfl, c, hc, rfl⟩ := hw
    rw [Array.getElem?_eq_getElem hlt] at hc
    cases hc
    exact ⟨S', Gro.refl s2 n, .str _⟩
  · exact .inl ⟨by omega, hge⟩
def seqI (g : GE) : GA := fun lo => (g lo).bind fun p => match p.1 with
  | .list xs => some (xs, p.2)
  | .tuple xs => some (xs, p.2)
  | .str z => some (chD z, p.2)
  | _ => none
theorem ei_seq {tg e : Expr} {g : GE} (h : PE X e (tE X.K T g)) : PI X tg e (tI X.K T (seqI g)) := by
  refine pi_imp (pi_sqS h) fun σ H R w => ?_
  obtain ⟨S, lo, st, at', xs, lo', e, q⟩ := w
  obtain ⟨p, e1, e2⟩ := Option.bind_eq_some_iff.mp e
  refine ⟨S, lo, st, at', p.1, p.2, e1, fun v S1 H1 st1 r1 x1 => ?_⟩
  obtain ⟨y, l1⟩ := p
  cases y with
  | list ys =>
    cases e2
    cases r1 with
    | lst h rr => exact .inl ⟨_, _, rfl, .inl ⟨.inl (st1.sub.rd h), q _ S1 H1 st1 x1 (walks_l h rr)⟩⟩
  | tuple ys =>
    cases e2
    cases r1 with
    | tup h rr => exact .inl ⟨_, _, rfl, .inr ⟨st1.sub.sqT h, q _ S1 H1 st1 x1 (walks_t h rr)⟩⟩
  | str z =>
    cases e2
    cases r1
    exact .inr ⟨z, rfl, q _ S1 H1 st1 x1 walks_s⟩
  | _ => cases e2
theorem walks_r {S : Hp} {lo : Int} {n : Nat} : Walks K (Itr lo n) S ((List.range n).map fun i => PyData.int (lo + (i : Nat))) := fun i S' H' s1 s2 nt hi => by
  rw [List.length_map, List.length_range] at hi ⊢
  rcases Nat.lt_or_ge i n with hlt | hge
  · refine .inr ⟨.int (lo + (i : Nat)), by rw [List.getElem?_map, List.getElem?_range hlt]; rfl, hlt, fun w H'' ⟨e1, e2⟩ => ?_⟩
    subst e1 e2
    exact ⟨S', Gro.refl s2 nt, .int _⟩
  · exact .inl ⟨Nat.le_antisymm hi hge, hge⟩
def small62 (i : Int) : Bool := decide (-(2 ^ 62) ≤ i) && decide (i < 2 ^ 62)
theorem small62_iff {i : Int} : small62 i = true ↔ -(2 ^ 62) ≤ i ∧ i < 2 ^ 62 := by
  unfold small62
  rw [Bool.and_eq_true, decide_eq_true_eq, decide_eq_true_eq]
def rgL (lo hi : Int) : List PyData := (List.range (hi - lo).toNat).map fun i => PyData.int (lo + (i : Nat))
def rg1I (g : GA) : GA := fun lo => (g lo).bind fun p => match p.1 with
  | [.int n] => if small62 n = true then some (rgL 0 n, p.2) else none
  | _ => none
def rg2I (g : GA) : GA := fun lo => (g lo).bind fun p => match p.1 with
  | [.int a, .int b] => if small62 a = true ∧ small62 b = true then some (rgL a b, p.2) else none
  | _ => none
theorem ei_range1 {tg a : Expr} {g : GA} {p : Pos} (hg : Gl X "range") (hm : X.mg "range" = none) (h : PA X [a] (tAr X.K T g)) (hs : starEach [a] X.env = [(false, eval a X.env)] := by rfl) : PI X tg (.Call (.Name "range" p) [a] [] pos) (tI X.K T (rg1I g)) := by
  refine pi_imp (pi_range1 hg hm h hs) fun σ H R w => ?_
  obtain ⟨S, lo, st, at', xs, lo', e, q⟩ := w
  obtain ⟨p, e1, e2⟩ := Option.bind_eq_some_iff.mp e
  refine ⟨S, lo, st, at', p.1, p.2, e1, fun v S1 H1 st1 r1 x1 => ?_⟩
  split at e2
  · rename_i n hp
    split at e2
    · rename_i hn
      cases e2
      rw [hp] at r1
      cases r1 with
      | cons r1 r2 =>
        cases r2
        cases r1
        obtain ⟨b1, b2⟩ := small62_iff.mp hn
        exact ⟨n, rfl, b1, b2, by
          have := q (Itr 0 (n - 0).toNat) S1 H1 st1 x1 (walks_r (lo := 0) (n := (n - 0).toNat))
          rw [Int.sub_zero] at this
          exact this⟩
    · cases e2
  · cases e2
theorem ei_range2 {tg a b : Expr} {g : GA} {p : Pos} (hg : Gl X "range") (hm : X.mg "range" = none) (h : PA X [a, b] (tAr X.K T g)) (hs : starEach [a, b] X.env = [(false, eval a X.env), (false, eval b X.env)] := by rfl) (hs2 : starEach [b] X.env = [(false, eval b X.env)] := by rfl) : PI X tg (.Call (.Name "range" p) [a, b] [] pos) (tI X.K T (rg2I g)) := by
  refine pi_imp (pi_range2 hg hm h hs hs2) fun σ H R w => ?_
  obtain ⟨S, lo, st, at', xs, lo', e, q⟩ := w
  obtain ⟨p, e1, e2⟩ := Option.bind_eq_some_iff.mp e
  refine ⟨S, lo, st, at', p.1, p.2, e1, fun v S1 H1 st1 r1 x1 => ?_⟩
  split at e2
  · rename_i i j hp
    split at e2
    · rename_i hn
      cases e2
      rw [hp] at r1
      cases r1 with
      | cons r1 r2 =>
        cases r2 with
        | cons r2 r3 =>
          cases r3
          cases r1
          cases r2
          obtain ⟨b1, b2⟩ := small62_iff.mp hn.1
          obtain ⟨b3, b4⟩ := small62_iff.mp hn.2
          exact ⟨i, j, rfl, ⟨b1, b2, b3, b4⟩, q _ S1 H1 st1 x1 walks_r⟩
    · cases e2
  · cases e2
end
end Ev
namespace Ev
open PySem PySem.Spec PyProof.Rows L2 Tb
variable {K : PySem.W.Frag}
section
variable {X : Cx} {T : List Addr} {pos : Pos} {pin : Bool}
def forGo (gg : GG) (body : GS) : List PyData → Lo → Option (Out × Lo)
  | [], lo => some (.nx, lo)
  | x :: r, lo => (gg x lo).bind fun l => (body l).bind fun p => match p.1 with
    | .nx => forGo gg body r p.2
    | .ct => forGo gg body r p.2
    | .bk => some (.nx, p.2)
    | .rt v => some (.rt v, p.2)
def forS (gi : GA) (gg : GG) (body : GS) : GS := fun lo => (gi lo).bind fun p => forGo gg body p.1 p.2
theorem es_for {tg iter : Expr} {body : List Stmt} {gi : GA} {gg : GG} {g : GS} {t : TG} (hp : PassesOwn (model X.prog X.w) X.A X.env X.xe) (hc : X.calm = true) (hi : PI X tg iter (tI X.K T gi)) (hg : PG X tg t) (ht : TGt X.K pin t gg) (hb : PSs X body (tS X.K T pin g))
    (hs : ∀ x, foldedSetIterable iter X.env x = pure x := by intro _; rfl) : PS X (.For tg iter body [] pos) (tS X.K T pin (forS gi gg g)) := by
  refine ps_imp (ps_for hp hc hi hg hb hs) fun D σ H w => ?_
  obtain ⟨S, lo, st, at', o, lo', e, q⟩ := w
  obtain ⟨p, e1, e2⟩ := Option.bind_eq_some_iff.mp e
  obtain ⟨xs, l1⟩ := p
  refine ⟨S, lo, st, at', xs, l1, e1, fun J S1 H1 st1 x1 wk => ?_⟩
  refine ⟨fun i m σ' H' => m = xs.length - i ∧ i ≤ xs.length ∧ ∃ S' lo2, Stt X.K S' H' σ' lo2 ∧ Sub S1 S' ∧ Ext (Own σ lo) S H S' H' (Own σ' lo2) ∧ (pin = true → σ'[0]? = σ[0]?) ∧ forGo gg g (xs.drop i) lo2 = some (o, lo'), ⟨xs.length, by simp, Nat.zero_le _, S1, l1, st1, Sub.refl _, x1, fun _ => rfl, e2⟩, ?_⟩
  rintro i m σ' H' ⟨rfl, hi', S', lo2, st2, s12, x2, p2, eg⟩
  rcases wk i S' H' s12 st2.sub st2.noT hi' with ⟨ei, stop⟩ | ⟨x, hx, go, yl⟩
  · refine .inl ⟨stop, ?_⟩
    rw [ei, List.drop_length] at eg
    cases eg
    exact q σ' S' H' st2 x2 p2
  · have hlt : i < xs.length := (List.getElem?_eq_some_iff.mp hx).1
    have ed : xs.drop i = x :: xs.drop (i + 1) := by
      rw [List.drop_eq_getElem_cons hlt]
      rw [List.getElem?_eq_getElem hlt] at hx
      cases hx
      rfl
    rw [ed] at eg
    obtain ⟨l, e3, e4⟩ := Option.bind_eq_some_iff.mp eg
    obtain ⟨r, e5, e6⟩ := Option.bind_eq_some_iff.mp e4
    obtain ⟨o1, l3⟩ := r
    refine .inr ⟨go, fun σ3 H3 => ∃ S3 lo3, Stt X.K S3 H3 σ3 lo3 ∧ Sub S1 S3 ∧ Ext (Own σ lo) S H S3 H3 (Own σ3 lo3) ∧ (pin = true → σ3[0]? = σ[0]?) ∧ forGo gg g (xs.drop (i + 1)) lo3 = some (o, lo'), fun σ3 H3 ⟨S3, lo3, a, b, c, d, f⟩ => ⟨xs.length - (i + 1), by omega, rfl, hlt, S3, lo3, a, b, c, d, f⟩, fun v H3 y => ?_⟩
    obtain ⟨S3, gr, rv⟩ := yl v H3 y
    have st3 := st2.gro gr
    refine ht v x σ' H3 _ S3 lo2 l st3 rv e3 fun σ4 H4 st4 o4 p4 => ?_
    have x4 : Ext (Own σ lo) S H S3 H4 (Own σ4 l) := (x2.trans gr.ext).trans o4
    refine ⟨S3, l, st4, at'.ext x4, o1, l3, e5, fun σ5 S5 H5 st5 x5 p5 => ?_⟩
    have x45 := x4.trans x5
    have s15 := (s12.trans gr.subS).trans x5.sub
    have pp : pin = true → σ5[0]? = σ[0]? := fun z => ((p5 z).trans (p4 z)).trans (p2 z)
    cases o1 with
    | nx => exact ⟨S5, l3, st5, s15, x45, pp, e6⟩
    | ct => exact ⟨S5, l3, st5, s15, x45, pp, e6⟩
    | bk =>
      cases e6
      exact q σ5 S5 H5 st5 x45 pp
    | rt v =>
      cases e6
      exact q σ5 S5 H5 st5 x45 pp
def whileS (t : GT) (body : GS) : Nat → GS
  | 0 => fun _ => none
  | n + 1 => fun lo => (t lo).bind fun p => if p.1 = true then (body p.2).bind fun q => match q.1 with
      | .nx => whileS t body n q.2
      | .ct => whileS t body n q.2
      | .bk => some (.nx, q.2)
      | .rt v => some (.rt v, q.2)
    else some (.nx, p.2)
theorem es_while {c : Expr} {body : List Stmt} {t : GT} {g : GS} {n : Nat} (hp : PassesOwn (model X.prog X.w) X.A X.env X.xe) (hc : PT X c (tT X.K T t)) (hb : PSs X body (tS X.K T pin g)) : PS X (.While c body [] pos) (tS X.K T pin (whileS t g n)) := by
  refine ps_imp (ps_while hp hc hb) fun D σ H w => ?_
  obtain ⟨S, lo, st, at', o, lo', e, q⟩ := w
  refine ⟨fun m σ' H' => ∃ S' lo2, Stt X.K S' H' σ' lo2 ∧ Ext (Own σ lo) S H S' H' (Own σ' lo2) ∧ (pin = true → σ'[0]? = σ[0]?) ∧ whileS t g m lo2 = some (o, lo'), ⟨n, S, lo, st, Ext.refl _ _ _, fun _ => rfl, e⟩, ?_⟩
  rintro m σ' H' ⟨S', lo2, st2, x2, p2, eg⟩
  cases m with
  | zero => cases eg
  | succ m =>
    obtain ⟨r, e1, e2⟩ := Option.bind_eq_some_iff.mp eg
    refine ⟨S', lo2, st2, at'.ext x2, r.1, r.2, e1, fun S3 H3 st3 x3 => ?_⟩
    refine ite2 (fun c => ?_) (fun c => ?_)
    · rw [if_pos c] at e2
      obtain ⟨r', e3, e4⟩ := Option.bind_eq_some_iff.mp e2
      obtain ⟨o1, l3⟩ := r'
      refine ⟨fun σ4 H4 => ∃ S4 lo4, Stt X.K S4 H4 σ4 lo4 ∧ Ext (Own σ lo) S H S4 H4 (Own σ4 lo4) ∧ (pin = true → σ4[0]? = σ[0]?) ∧ whileS t g m lo4 = some (o, lo'), fun σ4 H4 z => ⟨m, Nat.lt_succ_self _, z⟩, ?_⟩
      refine ⟨S3, r.2, st3, at'.ext (x2.trans x3), o1, l3, e3, fun σ5 S5 H5 st5 x5 p5 => ?_⟩
      have x45 := (x2.trans x3).trans x5
      have pp : pin = true → σ5[0]? = σ[0]? := fun z => (p5 z).trans (p2 z)
      cases o1 with
      | nx => exact ⟨S5, l3, st5, x45, pp, e4⟩
      | ct => exact ⟨S5, l3, st5, x45, pp, e4⟩
      | bk =>
        cases e4
        exact q σ5 S5 H5 st5 x45 pp
      | rt v =>
        cases e4
        exact q σ5 S5 H5 st5 x45 pp
    · rw [if_neg c] at e2
      cases e2
      exact q σ' S3 H3 st3 (x2.trans x3) p2
def truD : PyData → Option Bool
  | .none => some false
  | .bool b => some b
  | .int i => some (i != 0)
  | .list xs => some (!xs.isEmpty)
  | .tuple xs => some (!xs.isEmpty)
  | .str x => if x.length ≤ sizeLine then some (x.length != 0) else none
  | _ => none
def truT (g : GE) : GT := fun lo => (g lo).bind fun p => (truD p.1).bind fun b => some (b, p.2)
def wipeL (lo : Lo) : List Nat → Lo
  | [] => lo
  | v :: vs => (wipeL lo vs).set v none
/-- behind the block: its names are as they were ahead -/
def rstL (lo l2 : Lo) : List Nat → Lo
  | [] => l2
  | v :: vs => (rstL lo l2 vs).set v (lo.getD v none)
/-- none of these is a list of one's own -/
def noOwn (lo : Lo) : List Nat → Bool
  | [] => true
  | v :: vs => (match lo.getD v none with
    | some (.own _) => false
    | _ => true) && noOwn lo vs
theorem Stt.wipe {S H : Hp} {σ : L2.St} {lo : Lo} (s : Stt K S H σ lo) : ∀ vs : List Nat, Stt K S H (wipe σ vs) (wipeL lo vs) ∧ ∀ a, Own (wipe σ vs) (wipeL lo vs) a → Own σ lo a
  | [] => ⟨s, fun _ h => h⟩
  | v :: vs => by
    obtain ⟨h1, h2⟩ := s.wipe vs
    obtain ⟨h3, h4⟩ := h1.wipe1 (i := v) (o := none)
    exact ⟨h3, fun a h => h2 a (h4 a h)⟩
theorem rstL_len (lo l2 : Lo) : ∀ vs : List Nat, (rstL lo l2 vs).length = l2.length
  | [] => rfl
  | v :: vs => by unfold rstL; rw [List.length_set, rstL_len lo l2 vs]
theorem rstL_in {lo l2 : Lo} {l : L} {j : Nat} : ∀ {vs : List Nat}, (rstL lo l2 vs)[j]? = some (some l) → (j ∈ vs ∧ lo[j]? = some (some l)) ∨ (j ∉ vs ∧ l2[j]? = some (some l))
  | [], h => .inr ⟨by simp, h⟩
  | v :: vs, h => by
    unfold rstL at h
    by_cases hv : v = j
    · subst hv
      by_cases hl : v < (rstL lo l2 vs).length
      · rw [List.getElem?_set_self hl] at h
        refine .inl ⟨by simp, ?_⟩
        rw [List.getD_eq_getElem?_getD] at h
        cases q : lo[v]? with
        | none => rw [q] at h; cases h
        | some y => rw [q] at h; cases h; rfl
      · rw [List.getElem?_eq_none (by rw [List.length_set]; omega)] at h
        cases h
    · rw [List.getElem?_set_ne hv] at h
      rcases rstL_in h with ⟨a, b⟩ | ⟨a, b⟩
      · exact .inl ⟨List.mem_cons_of_mem _ a, b⟩
      · exact .inr ⟨by simp only [List.mem_cons, not_or]; exact ⟨fun e => hv e.symm, a⟩, b⟩
theorem noOwn_at {lo : Lo} {j : Nat} {xs : OwnO} : ∀ {vs : List Nat}, noOwn lo vs = true → j ∈ vs → lo[j]? = some (some (.own xs)) → False
  | [], _, h, _ => by simp at h
  | v :: vs, n, h, e => by
    unfold noOwn at n
    rw [Bool.and_eq_true] at n
    rcases List.mem_cons.mp h with z | z
    · subst z
      have := n.1
      rw [List.getD_eq_getElem?_getD, e] at this
      cases this
    · exact noOwn_at n.2 z e
/-- out of the block -/
theorem Stt.leave {S H S' H' : Hp} {σ σ' : L2.St} {lo l2 : Lo} {vs : List Nat} (s : Stt K S H σ lo) (n : noOwn lo vs = true) (s' : Stt K S' H' σ' l2) (sub : Sub S S') (hσ : ∀ j, j ∉ vs → σ'[j]? = σ[j]?) (hl : σ'.length = σ.length) :
    Stt K S' H' σ (rstL lo l2 vs) ∧ ∀ a, Own σ (rstL lo l2 vs) a → Own σ' l2 a := by
  have oth : ∀ j b, OwnAt σ (rstL lo l2 vs) j b → OwnAt σ' l2 j b := fun j b ⟨h1, ys, h2⟩ => by
    rcases rstL_in h2 with ⟨a, e⟩ | ⟨a, e⟩
    · exact (noOwn_at n a e).elim
    · exact ⟨by rw [hσ j a]; exact h1, ys, e⟩
  refine ⟨⟨s'.sub, s'.noT, by rw [rstL_len, s'.len, hl], fun j l h => ?_, fun j b h => s'.own j b (oth j b h), fun j k b h1 h2 => s'.inj j k b (oth j b h1) (oth k b h2)⟩, fun a ⟨j, h⟩ => ⟨j, oth j a h⟩⟩
  rcases rstL_in h with ⟨a, e⟩ | ⟨a, e⟩
  · obtain ⟨v, ev, r⟩ := s.loc j l e
    refine ⟨v, ev, ?_⟩
    cases l with
    | dat y => exact Rq.sub sub r
    | rng _ _ =>
      obtain ⟨b, h1, h2⟩ := r
      exact ⟨b, h1, sub _ _ h2⟩
    | own ys => exact (noOwn_at n a e).elim
  · obtain ⟨v, ev, r⟩ := s'.loc j l e
    exact ⟨v, by rw [← hσ j a]; exact ev, r⟩
def yesT : GT := fun lo => some (true, lo)
theorem ets_nil : PTs X [] (tT X.K T yesT) := ⟨fun pins s σ H Q I w => by
  obtain ⟨S, lo, st, at', b, lo', e, q⟩ := w
  cases e
  exact (pts_nil (X := X)).run pins s σ H Q I (q S H st (Ext.refl _ _ _))⟩
theorem ets_one {c : Expr} {t : GT} (h : PT X c (tT X.K T t)) : PTs X [c] (tT X.K T t) := pts_one h
def lcGo (vs : List Nat) (gg : GG) (t : GT) (g : GE) : List PyData → Lo → List PyData → Option (List PyData × Lo)
  | [], lo, acc => some (acc, lo)
  | x :: r, lo, acc => (gg x lo).bind fun l => (t l).bind fun p => if p.1 = true then (g p.2).bind fun q => if acc.length < sizeLine then lcGo vs gg t g r (wipeL q.2 vs) (acc ++ [q.1]) else none
    else lcGo vs gg t g r (wipeL p.2 vs) acc
def lcF (gi : GA) (vs : List Nat) (gg : GG) (t : GT) (g : GE) : GE := fun lo => (gi lo).bind fun p => if noOwn p.2 vs = true then (lcGo vs gg t g p.1 (wipeL p.2 vs) []).bind fun q => some (.list q.1, rstL p.2 q.2 vs) else none
/-- what the block is, turn by turn -/
theorem wipe_rst {σ σ2 : L2.St} {vs : List Nat} (h : wipe σ2 vs = wipe σ vs) : (∀ j, j ∉ vs → σ2[j]? = σ[j]?) ∧ σ2.length = σ.length := by
  refine ⟨fun j hj => ?_, ?_⟩
  · rw [← wipe_out (σ := σ2) hj, h, wipe_out hj]
  · rw [← wipe_length σ2 vs, h, wipe_length]
theorem wipe_in {σ : L2.St} {j : Nat} : ∀ {vs : List Nat}, j ∈ vs → (wipe σ vs)[j]? = if j < σ.length then some none else none
  | [], h => by simp at h
  | v :: vs, h => by
    unfold wipe
    by_cases e : v = j
    · subst e
      rw [List.getElem?_set_self']
      by_cases hl : v < σ.length
      · have : v < (wipe σ vs).length := by rw [wipe_length]; exact hl
        simp [hl, List.getElem?_eq_getElem this]
      · have : (wipe σ vs)[v]? = none := List.getElem?_eq_none (by rw [wipe_length]; omega)
        simp [hl, this]
    · rw [List.getElem?_set_ne e]
      exact wipe_in ((List.mem_cons.mp h).resolve_left fun z => e z.symm)
theorem wipe_idem (σ : L2.St) (vs : List Nat) : wipe (wipe σ vs) vs = wipe σ vs := List.ext_getElem? fun j => by
  by_cases h : j ∈ vs
  · rw [wipe_in h, wipe_in h, wipe_length]
  · rw [wipe_out h]
/-- a block's target stores to the block's names alone -/
def TGb (K : PySem.W.Frag) (vs : List Nat) (t : TG) (gg : GG) : Prop := ∀ (v : V) (x : PyData) (σ : L2.St) (H : Hp) (Q : L2.St → Hp → Prop) (S : Hp) (lo lo' : Lo), Stt K S H σ lo → Rq K S v x → gg x lo = some lo' →
  (∀ σ', Stt K S H σ' lo' → (∀ a, Own σ' lo' a → Own σ lo a) → wipe σ' vs = wipe σ vs → Q σ' H) → t v σ H Q
theorem wipe_set {σ : L2.St} {i : Nat} {o : Option V} : ∀ {vs : List Nat}, i ∈ vs → wipe (σ.set i o) vs = wipe σ vs
  | [], h => by simp at h
  | v :: vs, h => by
    unfold wipe
    by_cases hm : i ∈ vs
    · rw [wipe_set hm]
    · have e : i = v := by
        rcases List.mem_cons.mp h with z | z
        · exact z
        · exact absurd z hm
      subst e
      have : ∀ ws : List Nat, i ∉ ws → wipe (σ.set i o) ws = (wipe σ ws).set i o := by
        intro ws
        induction ws with
        | nil => intro _; rfl
        | cons w r ih =>
          intro hw
          have h1 : w ≠ i := fun e => hw (by rw [e]; exact List.mem_cons_self)
          have h2 : i ∉ r := fun m => hw (List.mem_cons_of_mem _ m)
          unfold wipe
          rw [ih h2, List.set_comm _ _ (Ne.symm h1)]
      rw [this vs hm, List.set_set]
theorem egb_name {vs : List Nat} {i : Nat} (hi : i ∈ vs) : TGb K vs (gName i) (nmG i) := fun v x σ H Q S lo lo' st r e q => by
  cases e
  obtain ⟨s1, s2⟩ := st.set (i := i) r
  exact q _ s1 s2 (wipe_set hi)
def TGbs (K : PySem.W.Frag) (vs : List Nat) (t : TGs) (gg : List PyData → Lo → Option Lo) : Prop := ∀ (ws : List V) (xs : List PyData) (σ : L2.St) (H : Hp) (Q : L2.St → Hp → Prop) (S : Hp) (lo lo' : Lo), Stt K S H σ lo → RqL K S ws xs → gg xs lo = some lo' →
  (∀ σ', Stt K S H σ' lo' → (∀ a, Own σ' lo' a → Own σ lo a) → wipe σ' vs = wipe σ vs → Q σ' H) → t ws σ H Q
theorem egbs_nil {vs : List Nat} : TGbs K vs gNil nilGs := fun ws xs σ H Q S lo lo' st r e q => by
  cases xs with
  | nil =>
    cases e
    cases r
    exact ⟨rfl, q σ st (fun _ h => h) rfl⟩
  | cons _ _ => cases e
theorem egbs_cons {vs : List Nat} {t : TG} {u : TGs} {g : GG} {k : List PyData → Lo → Option Lo} (h : TGb K vs t g) (hk : TGbs K vs u k) : TGbs K vs (gCons t u) (consGs g k) := fun ws xs σ H Q S lo lo' st r e q => by
  cases xs with
  | nil => cases e
  | cons x r' =>
    obtain ⟨l, e1, e2⟩ := Option.bind_eq_some_iff.mp e
    cases r with
    | cons r1 r2 =>
      refine ⟨_, _, rfl, h _ x σ H _ S lo l st r1 e1 fun σ1 st1 o1 p1 => ?_⟩
      exact hk _ r' σ1 H Q S l lo' st1 r2 e2 fun σ2 st2 o2 p2 => q σ2 st2 (fun a z => o1 a (o2 a z)) (p2.trans p1)
theorem egb_tup {vs : List Nat} {n : Nat} {u : TGs} {k : List PyData → Lo → Option Lo} (hk : TGbs K vs u k) : TGb K vs (gTup K n u) (tpG n k) := fun v x σ H Q S lo lo' st r e q => by
  unfold tpG at e
  split at e
  · rename_i xs
    split at e
    · rename_i hn
      cases r with
      | tup h rr => exact ⟨_, _, rfl, st.sub.sqT h, by rw [rr.length]; exact hn, hk _ xs σ H Q S lo lo' st rr e q⟩
    · cases e
  · cases e
theorem Stt.not_new {S H : Hp} {σ : L2.St} {lo : Lo} (s : Stt K S H σ lo) {p : Addr} (h : H p = none) : ¬ Own σ lo p ∧ S p = none := by
  refine ⟨fun o => ?_, ?_⟩
  · obtain ⟨vs, e, _⟩ := s.ownH o
    rw [h] at e; cases e
  · cases q : S p with
    | none => rfl
    | some u => rw [s.sub _ _ q] at h; cases h
/-- what the block has: its locals, the new list at D -/
structure Blk (K : PySem.W.Frag) (T : List Addr) (F : Addr → Prop) (S1 H1 : Hp) (D : Addr) (S H : Hp) (σ : L2.St) (lo : Lo) (acc : List PyData) : Prop where
  st : Stt K S H σ lo
  ext : Ext F S1 H1 S H (Own σ lo)
  at_ : ∃ us, H D = some (.lst us) ∧ RqL K S us acc
  noS : S D = none
  noO : ¬ Own σ lo D
theorem Blk.next {T : List Addr} {F : Addr → Prop} {S1 H1 S H S' H' : Hp} {D : Addr} {σ σ' : L2.St} {lo lo' : Lo} {acc : List PyData} (b : Blk K T F S1 H1 D S H σ lo acc) (st : Stt K S' H' σ' lo') (x : Ext (Own σ lo) S H S' H' (Own σ' lo')) : Blk K T F S1 H1 D S' H' σ' lo' acc := by
  obtain ⟨us, hD, r⟩ := b.at_
  have nz : ¬ Fz H D := fun z => z.no hD fun ps q => by cases q
  refine ⟨st, b.ext.trans x, ⟨us, x.keep D _ b.noO hD (fun ps q => by cases q), RqL.sub x.sub r⟩, ?_, fun o => ?_⟩
  · cases q : S' D with
    | none => rfl
    | some u =>
      rcases x.domS D (by rw [q]; simp) with z | z | z
      · exact absurd b.noS z
      · exact absurd z b.noO
      · exact absurd z nz
  · rcases x.domF D o with z | z
    · exact b.noO z
    · exact nz z
theorem Blk.app {T : List Addr} {F : Addr → Prop} {S1 H1 S H : Hp} {D : Addr} {σ : L2.St} {lo : Lo} {acc : List PyData} {v : V} {y : PyData} (b : Blk K T F S1 H1 D S H σ lo acc) (rv : Rq K S v y) (h1 : H1 D = none ∨ Fz H1 D) (hF : ¬ F D) :
    ∃ us, H D = some (.lst us) ∧ us.length = acc.length ∧ Blk K T F S1 H1 D S (upd H D (.lst (us ++ [v]))) σ lo (acc ++ [y]) := by
  obtain ⟨us, hD, r⟩ := b.at_
  have nz : Fz H1 D := h1.elim fz_none id
  refine ⟨us, hD, r.length, ⟨?_, ?_, ⟨_, upd_same, r.app (.cons rv .nil)⟩, b.noS, b.noO⟩⟩
  · refine ⟨fun c o e => by rw [upd_ne (ne_of_none e b.noS)]; exact b.st.sub _ _ e, b.st.noT, b.st.len, fun i l e => ?_, b.st.own, b.st.inj⟩
    obtain ⟨w, ew, rw'⟩ := b.st.loc i l e
    refine ⟨w, ew, ?_⟩
    cases l with
    | dat z => exact rw'
    | rng _ _ => exact rw'
    | own zs =>
      obtain ⟨c, ws, rfl, hc, rr⟩ := rw'
      have ne : c ≠ D := fun z => b.noO ⟨i, by rw [← z]; exact ew, zs, e⟩
      exact ⟨c, ws, rfl, by rw [upd_ne ne]; exact hc, rr⟩
  · refine ⟨fun c o f e n => ?_, fun P t => ?_, b.ext.sub, b.ext.domS, b.ext.domF⟩
    · have ne : c ≠ D := fun z => nz.no (z ▸ e) n
      rw [upd_ne ne]
      exact b.ext.keep c o f e n
    · obtain ⟨qs, e3, t3⟩ := b.ext.tab P t
      have ne : P ≠ D := fun z => nz.2 (z ▸ t)
      exact ⟨qs, by rw [upd_ne ne]; exact e3, t3⟩
theorem tLc_of {gi : GA} {vs : List Nat} {gg : GG} {t : GT} {g : GE} {tg' : TG} (hgb : TGb X.K vs tg' gg) {σ : L2.St} {H : Hp} {Q : VK} (w : tE X.K T (lcF gi vs gg t g) σ H Q) : tLc (tI X.K T gi) tg' (tT X.K T t) (tE X.K T g) vs σ H Q := by
  obtain ⟨S, lo, st, at', x, lo', e, q⟩ := w
  obtain ⟨p, e1, e2⟩ := Option.bind_eq_some_iff.mp e
  obtain ⟨xs, l1⟩ := p
  split at e2
  · rename_i hno
    obtain ⟨r, e3, e4⟩ := Option.bind_eq_some_iff.mp e2
    obtain ⟨out, l9⟩ := r
    cases e4
    refine ⟨S, lo, st, at', xs, l1, e1, fun J S1 H1 st1 x1 wk D hD => ?_⟩
    obtain ⟨stw, ow⟩ := st1.wipe vs
    have nD := st1.not_new hD
    have nDw : ¬ Own (L2.wipe σ vs) (wipeL l1 vs) D := fun z => nD.1 (ow D z)
    -- the block's own invariant
    refine ⟨fun i m H' => m = xs.length - i ∧ i ≤ xs.length ∧ ∃ S' lo2 acc, Blk X.K T (Own (L2.wipe σ vs) (wipeL l1 vs)) S1 H1 D S' H' (L2.wipe σ vs) lo2 acc ∧ lcGo vs gg t g (xs.drop i) lo2 acc = some (out, l9), ⟨xs.length, by simp, Nat.zero_le _, S1, wipeL l1 vs, [], ⟨stw.lay hD, Ext.lay hD, ⟨[], upd_same, .nil⟩, nD.2, nDw⟩, e3⟩, ?_⟩
    rintro i m H' ⟨rfl, hi', S', lo2, acc, B, eg⟩
    rcases wk i S' H' B.ext.sub B.st.sub B.st.noT hi' with ⟨ei, stop⟩ | ⟨x, hx, go, yl⟩
    · refine .inl ⟨stop, ?_⟩
      rw [ei, List.drop_length] at eg
      cases eg
      obtain ⟨us, hU, rU⟩ := B.at_
      -- the list is shared from now on
      have sb : Sub S' (upd S' D (.lst us)) := fun b o h => by rw [upd_ne (ne_of_none h B.noS)]; exact h
      obtain ⟨s9, o9⟩ := st1.leave hno B.st B.ext.sub (fun j hj => wipe_out hj) (wipe_length σ vs)
      have s10 : Stt X.K (upd S' D (.lst us)) H' σ (rstL l1 l9 vs) := by
        refine ⟨fun b o h => ?_, s9.noT.upd (fun ps z => by cases z), s9.len, fun j l h => ?_, fun j b h => ?_, s9.inj⟩
        · by_cases z : b = D
          · subst z; rw [upd_same] at h; cases h; exact hU
          · rw [upd_ne z] at h; exact s9.sub _ _ h
        · obtain ⟨v, ev, rr⟩ := s9.loc j l h
          refine ⟨v, ev, ?_⟩
          cases l with
          | dat y => exact Rq.sub sb rr
          | rng _ _ =>
            obtain ⟨b, z1, z2⟩ := rr
            exact ⟨b, z1, sb _ _ z2⟩
          | own ys =>
            obtain ⟨b, ws, z1, z2, z3⟩ := rr
            exact ⟨b, ws, z1, z2, RepO.sub sb z3⟩
        · have ne : b ≠ D := fun z => B.noO (o9 D ⟨j, z ▸ h⟩)
          rw [upd_ne ne]
          exact s9.own j b h
      have x9 : Ext (Own σ l1) S1 H1 S' H' (Own σ (rstL l1 l9 vs)) := (B.ext.shrink o9).widen ow
      have x10 : Ext (Own σ l1) S1 H1 (upd S' D (.lst us)) H' (Own σ (rstL l1 l9 vs)) := ⟨x9.keep, x9.tab, x9.sub.trans sb, fun b z => by
        by_cases y : b = D
        · subst y; exact .inr (.inr (fz_none hD))
        · rw [upd_ne y] at z; exact x9.domS b z, x9.domF⟩
      exact q _ _ _ s10 (.lst (.inl upd_same) (RqL.sub sb rU)) (x1.trans x10)
    · have hlt : i < xs.length := (List.getElem?_eq_some_iff.mp hx).1
      have ed : xs.drop i = x :: xs.drop (i + 1) := by
        rw [List.drop_eq_getElem_cons hlt]
        rw [List.getElem?_eq_getElem hlt] at hx
        cases hx
        rfl
      rw [ed] at eg
      obtain ⟨l, e5, e6⟩ := Option.bind_eq_some_iff.mp eg
      obtain ⟨r1, e7, e8⟩ := Option.bind_eq_some_iff.mp e6
      refine .inr ⟨go, fun H3 => ∃ S3 lo3 acc3, Blk X.K T (Own (L2.wipe σ vs) (wipeL l1 vs)) S1 H1 D S3 H3 (L2.wipe σ vs) lo3 acc3 ∧ lcGo vs gg t g (xs.drop (i + 1)) lo3 acc3 = some (out, l9), fun H3 ⟨S3, lo3, acc3, a, b⟩ => ⟨xs.length - (i + 1), by omega, rfl, hlt, S3, lo3, acc3, a, b⟩, fun v H3 y => ?_⟩
      obtain ⟨S3, gr, rv⟩ := yl v H3 y
      have B3 := B.next (B.st.gro gr) gr.ext
      refine hgb v x (L2.wipe σ vs) H3 _ S3 lo2 l B3.st rv e5 fun σ4 st4 o4 p4' => ?_
      have p4 : wipe σ4 vs = wipe σ vs := p4'.trans (wipe_idem σ vs)
      refine ⟨p4, ?_⟩
      have B4 := B3.next st4 ((Ext.refl _ _ _).shrink o4)
      have back : ∀ {S6 H6 : Hp} {l6 : Lo} {acc6 : List PyData}, Blk X.K T (Own (L2.wipe σ vs) (wipeL l1 vs)) S1 H1 D S6 H6 σ4 l6 acc6 → Blk X.K T (Own (L2.wipe σ vs) (wipeL l1 vs)) S1 H1 D S6 H6 (L2.wipe σ vs) (wipeL l6 vs) acc6 := fun {S6 H6 l6 acc6} b => by
        obtain ⟨z1, z2⟩ := b.st.wipe vs
        rw [p4] at z1 z2
        exact ⟨z1, b.ext.shrink z2, b.at_, b.noS, fun o => b.noO (z2 D o)⟩
      refine ⟨S3, l, st4, (at'.ext x1).ext B4.ext, r1.1, r1.2, e7, fun S5 H5 st5 x5 => ?_⟩
      have B5 := B4.next st5 x5
      refine ite2 (fun c => ?_) (fun c => ?_)
      · rw [if_pos c] at e8
        obtain ⟨r2, e9, e10⟩ := Option.bind_eq_some_iff.mp e8
        refine ⟨S5, r1.2, st5, (at'.ext x1).ext B5.ext, r2.1, r2.2, e9, fun w S6 H6 st6 r6 x6 => ?_⟩
        have B6 := B5.next st6 x6
        obtain ⟨us, hU, lU, B7⟩ := B6.app r6 (.inl hD) nDw
        split at e10
        · rename_i hz
          exact ⟨us, hU, by rw [lU]; exact hz, S6, _, _, back B7, e10⟩
        · cases e10
      · rw [if_neg c] at e8
        exact ⟨S5, _, _, back B5, e8⟩
  · cases e2
theorem ev_lc {elt tg iter : Expr} {ifs : List Expr} {scope : Scope} {own : List (Str × Nat)} {gi : GA} {gg : GG} {t : GT} {g : GE} {tg' : TG} (hc : X.calm = true) (hN : X.N.Nodup) (hi : PI X tg iter (tI X.K T gi)) (ok : BlkOk X.N X.env.scope scope own)
    (hg : ∀ (s : Shared) (H : Hp) (C : Addr) (cl : List (Str × Addr)) (fp : List Addr), PG (X.blk s H scope (compEnvC scope cl C X.env) fp) tg tg') (hgb : TGb X.K (own.map (·.2)) tg' gg)
    (ht : ∀ (s : Shared) (H : Hp) (C : Addr) (cl : List (Str × Addr)) (fp : List Addr), PTs (X.blk s H scope (compEnvC scope cl C X.env) fp) ifs (tT X.K T t))
    (he : ∀ (s : Shared) (H : Hp) (C : Addr) (cl : List (Str × Addr)) (fp : List Addr), PE (X.blk s H scope (compEnvC scope cl C X.env) fp) elt (tE X.K T g)) (hs : ∀ x, foldedSetIterable iter X.env x = pure x := by intro _; rfl) :
    PE X (.ListComp elt [⟨tg, iter, ifs, 0⟩] scope pos) (tE X.K T (lcF gi (own.map (·.2)) gg t g)) :=
  pe_imp (pe_lc hc hN hi ok hg ht he hs) fun _ _ _ w => tLc_of hgb w
end
end Ev
namespace Ev
open PySem PySem.Spec PyProof.Rows L2 Tb
variable {K : PySem.W.Frag}
theorem tabbed_ext {P : Addr} {F : Addr → Prop} {S H H' : Hp} (h : GxR.TabG H P) (t : GxR.Tabbed P H H') : Ext F S H S H' F := by
  have k := Kp.tabbed h t
  exact ⟨fun b o _ e n => k.keep b o e n, k.tab, Sub.refl _, fun _ h => .inl h, fun _ h => .inl h⟩
theorem Stt.tabbed {S H H' : Hp} {σ : L2.St} {lo : Lo} {P : Addr} (s : Stt K S H σ lo) (h : GxR.TabG H P) (t : GxR.Tabbed P H H') : Stt K S H' σ lo := by
  have k := Kp.tabbed h t
  have sub : Sub S H' := fun b o e => k.keep b o (s.sub _ _ e) fun ps z => s.noT b ps (by rw [e, z])
  refine s.grow (tabbed_ext h t) sub s.noT fun a o => ?_
  obtain ⟨vs, e, nt⟩ := s.ownH o
  obtain ⟨i, w⟩ := o
  exact ⟨(k.keep _ _ e nt).trans e.symm, s.own i a w⟩
section
variable {X : Cx} {T : List Addr} {pos : Pos}
/-- go: what a truth must be for the walk to go on -/
def allGo (vs : List Nat) (gg : GG) (g : GE) (go : Bool) : List PyData → Lo → Option (Bool × Lo)
  | [], lo => some (go, lo)
  | x :: r, lo => (gg x lo).bind fun l => (bF g l).bind fun p => if p.1 = go then allGo vs gg g go r p.2 else some (!go, p.2)
def allF (gi : GA) (ix : Nat) (g : GE) (go : Bool) : GE := fun lo => (gi lo).bind fun p => if noOwn p.2 [ix] = true then (allGo [ix] (nmG ix) g go p.1 (wipeL p.2 [ix])).bind fun q => some (.bool q.1, rstL p.2 q.2 [ix]) else none
theorem tAllG_of {gi : GA} {g : GE} {go : Bool} {ix : Nat} {P : Addr} (hP : P ∈ T) {σ : L2.St} {H : Hp} {Q : VK} (w : tE X.K T (allF gi ix g go) σ H Q) :
    Gx.tAllG P ix (tI X.K T gi) (gName ix) (tE X.K T g) go σ H Q := by
  obtain ⟨S, lo, st, at', x, lo', e, q⟩ := w
  obtain ⟨p, e1, e2⟩ := Option.bind_eq_some_iff.mp e
  obtain ⟨xs, l1⟩ := p
  split at e2
  · rename_i hno
    obtain ⟨r, e3, e4⟩ := Option.bind_eq_some_iff.mp e2
    obtain ⟨out, l9⟩ := r
    cases e4
    refine ⟨S, lo, st, at', xs, l1, e1, fun J S1 H1 st1 x1 wk => ⟨at'.ext x1 P hP, fun H2 t2 => ?_⟩⟩
    have hT := at'.ext x1 P hP
    have st2 := st1.tabbed hT t2
    have x2 : Ext (Own σ l1) S1 H1 S1 H2 (Own σ l1) := tabbed_ext hT t2
    obtain ⟨stw, ow⟩ := st2.wipe [ix]
    have a2 := at'.ext (x1.trans x2)
    -- behind the block
    have done : ∀ {S' H' : Hp} {σ' : L2.St}, (∀ j, j ∉ [ix] → σ'[j]? = σ[j]?) → σ'.length = σ.length → Stt X.K S' H' σ' l9 → Ext (Own (L2.wipe σ [ix]) (wipeL l1 [ix])) S1 H2 S' H' (Own σ' l9) → Q (.bl out) H' := fun {S' H' σ'} hσ hl st' x' => by
      obtain ⟨s9, o9⟩ := st2.leave hno st' x'.sub hσ hl
      exact q _ S' H' s9 (.bl out) ((x1.trans x2).trans ((x'.shrink o9).widen ow))
    have sets : ∀ v, (∀ j, j ∉ [ix] → (σ.set ix v)[j]? = σ[j]?) ∧ (σ.set ix v).length = σ.length := fun v => ⟨fun j hj => by rw [List.getElem?_set_ne (fun z => hj (by simp [z]))], by rw [List.length_set]⟩
    refine ⟨xs.length, ⟨fun i σ' H' => (∃ v, σ' = σ.set ix v) ∧ ∃ S' lo2, Stt X.K S' H' σ' lo2 ∧ Ext (Own (L2.wipe σ [ix]) (wipeL l1 [ix])) S1 H2 S' H' (Own σ' lo2) ∧ allGo [ix] (nmG ix) g go (xs.drop i) lo2 = some (out, l9),
      fun b _ σ' H' => b = !go ∧ Q (.bl (!go)) H', fun H' => Q (.bl go) H'⟩, ?_, ⟨⟨none, rfl⟩, S1, _, stw, (Ext.refl _ _ _), e3⟩, fun _ _ _ z => z.2, fun _ z => z⟩
    rintro i σ' H' hi' ⟨⟨v0, rfl⟩, S', lo2, st', x', eg⟩
    rcases wk i S' H' x'.sub st'.sub st'.noT hi' with ⟨ei, stop⟩ | ⟨x, hx, gone, yl⟩
    · refine .inl ⟨stop, ?_⟩
      rw [ei, List.drop_length] at eg
      cases eg
      exact done (sets v0).1 (sets v0).2 st' x'
    · have hlt : i < xs.length := (List.getElem?_eq_some_iff.mp hx).1
      have ed : xs.drop i = x :: xs.drop (i + 1) := by
        rw [List.drop_eq_getElem_cons hlt]
        rw [List.getElem?_eq_getElem hlt] at hx
        cases hx
        rfl
      rw [ed] at eg
      obtain ⟨l, e5, e6⟩ := Option.bind_eq_some_iff.mp eg
      obtain ⟨r1, e7, e8⟩ := Option.bind_eq_some_iff.mp e6
      cases e5
      refine .inr ⟨hlt, gone, fun v H3 y => ?_⟩
      obtain ⟨S3, gr, rv⟩ := yl v H3 y
      have st3 := st'.gro gr
      obtain ⟨st4, o4⟩ := st3.set (i := ix) rv
      have x4 := (x'.trans gr.ext).shrink o4
      refine ⟨S3, _, st4, a2.ext x4, _, r1.2, bF_some (b := r1.1) e7, fun w S5 H5 st5 r5 x5 => ?_⟩
      cases r5
      refine ⟨r1.1, rfl, ?_⟩
      have x45 := x4.trans x5
      have es : ((σ.set ix v0).set ix (some v)) = σ.set ix (some v) := List.set_set ..
      refine ite2 (fun c => ?_) (fun c => ?_)
      · rw [if_pos c] at e8
        exact ⟨⟨some v, es⟩, S5, r1.2, st5, x45, e8⟩
      · rw [if_neg c] at e8
        cases e8
        refine ⟨by cases h : r1.1 <;> cases go <;> first | rfl | (rw [h] at c; exact absurd rfl c), ?_⟩
        rw [es] at st5 x45
        exact done (sets _).1 (sets _).2 st5 x45
  · cases e2
variable {elt iter : Expr} {x : Str} {px p gpos : Pos} {scope : Scope} {ix k : Nat} {P c : Addr} {gi : GA} {g : GE}
theorem ev_all (hP : P ∈ T) (hr : Room (k + 1) X.A) (hga : Gl X "all") (hma : X.mg "all" = none) (TB : GxR.TabB X.base X.mg c P) (hcode : X.env.code = .ref c) (G : Gx.GScp X.N X.env.scope scope x ix) (hi : PI X (.Name x px) iter (tI X.K T gi))
    (hgt : ∀ (s : Shared) (H : Hp) (C : Addr) (code : Value) (fp : List Addr), PG (Gx.gcx X (Gx.gA X (Gx.gE X scope C code)) s H (Gx.gE X scope C code) fp) (.Name x px) (gName ix))
    (hel : ∀ (s : Shared) (H : Hp) (C : Addr) (code : Value) (fp : List Addr), Room k (Gx.gA X (Gx.gE X scope C code)) → PE (Gx.gcx X (Gx.gA X (Gx.gE X scope C code)) s H (Gx.gE X scope C code) fp) elt (tE X.K T g))
    (hs : ∀ v, genFold iter X.env v = pure v)
    (he : starEach [.GeneratorExp elt [⟨.Name x px, iter, [], 0⟩] scope gpos] X.env = (false, eval (.GeneratorExp elt [⟨.Name x px, iter, [], 0⟩] scope gpos) X.env) :: starEach [] X.env := by rfl) :
    PE X (.Call (.Name "all" p) [.GeneratorExp elt [⟨.Name x px, iter, [], 0⟩] scope gpos] [] pos) (tE X.K T (allF gi ix g true)) :=
  pe_imp (Gx.pe_all hr hga hma TB hcode G hi hgt hel hs he) fun _ _ _ w => tAllG_of hP w
theorem ev_any (hP : P ∈ T) (hr : Room (k + 1) X.A) (hga : Gl X "any") (hma : X.mg "any" = none) (TB : GxR.TabB X.base X.mg c P) (hcode : X.env.code = .ref c) (G : Gx.GScp X.N X.env.scope scope x ix) (hi : PI X (.Name x px) iter (tI X.K T gi))
    (hgt : ∀ (s : Shared) (H : Hp) (C : Addr) (code : Value) (fp : List Addr), PG (Gx.gcx X (Gx.gA X (Gx.gE X scope C code)) s H (Gx.gE X scope C code) fp) (.Name x px) (gName ix))
    (hel : ∀ (s : Shared) (H : Hp) (C : Addr) (code : Value) (fp : List Addr), Room k (Gx.gA X (Gx.gE X scope C code)) → PE (Gx.gcx X (Gx.gA X (Gx.gE X scope C code)) s H (Gx.gE X scope C code) fp) elt (tE X.K T g))
    (hs : ∀ v, genFold iter X.env v = pure v)
    (he : starEach [.GeneratorExp elt [⟨.Name x px, iter, [], 0⟩] scope gpos] X.env = (false, eval (.GeneratorExp elt [⟨.Name x px, iter, [], 0⟩] scope gpos) X.env) :: starEach [] X.env := by rfl) :
    PE X (.Call (.Name "any" p) [.GeneratorExp elt [⟨.Name x px, iter, [], 0⟩] scope gpos] [] pos) (tE X.K T (allF gi ix g false)) :=
  pe_imp (Gx.pe_any hr hga hma TB hcode G hi hgt hel hs he) fun _ _ _ w => tAllG_of hP w
end
end Ev
namespace Ev
open PySem PySem.Spec PyProof.Rows L2 Tb
variable {K : PySem.W.Frag}
/-- the new list is shared from now on -/
theorem Blk.done {T : List Addr} {S1 H1 S' H' : Hp} {D : Addr} {σ : L2.St} {l1 l9 : Lo} {vs : List Nat} {out : List PyData} (st1 : Stt K S1 H1 σ l1) (hD : H1 D = none) (hno : noOwn l1 vs = true)
    (B : Blk K T (Own (wipe σ vs) (wipeL l1 vs)) S1 H1 D S' H' (wipe σ vs) l9 out) : ∃ S'', Stt K S'' H' σ (rstL l1 l9 vs) ∧ Rq K S'' (.ref D) (.list out) ∧ Ext (Own σ l1) S1 H1 S'' H' (Own σ (rstL l1 l9 vs)) := by
  obtain ⟨us, hU, rU⟩ := B.at_
  obtain ⟨stw, ow⟩ := st1.wipe vs
  have sb : Sub S' (upd S' D (.lst us)) := fun b o h => by rw [upd_ne (ne_of_none h B.noS)]; exact h
  obtain ⟨s9, o9⟩ := st1.leave hno B.st B.ext.sub (fun j hj => wipe_out hj) (wipe_length σ vs)
  have s10 : Stt K (upd S' D (.lst us)) H' σ (rstL l1 l9 vs) := by
    refine ⟨fun b o h => ?_, s9.noT.upd (fun ps z => by cases z), s9.len, fun j l h => ?_, fun j b h => ?_, s9.inj⟩
    · by_cases z : b = D
      · subst z; rw [upd_same] at h; cases h; exact hU
      · rw [upd_ne z] at h; exact s9.sub _ _ h
    · obtain ⟨v, ev, rr⟩ := s9.loc j l h
      refine ⟨v, ev, ?_⟩
      cases l with
      | dat y => exact Rq.sub sb rr
      | rng _ _ =>
        obtain ⟨b, z1, z2⟩ := rr
        exact ⟨b, z1, sb _ _ z2⟩
      | own ys =>
        obtain ⟨b, ws, z1, z2, z3⟩ := rr
        exact ⟨b, ws, z1, z2, RepO.sub sb z3⟩
    · have ne : b ≠ D := fun z => B.noO (o9 D ⟨j, z ▸ h⟩)
      rw [upd_ne ne]
      exact s9.own j b h
  have x9 : Ext (Own σ l1) S1 H1 S' H' (Own σ (rstL l1 l9 vs)) := (B.ext.shrink o9).widen ow
  refine ⟨_, s10, .lst (.inl upd_same) (RqL.sub sb rU), x9.keep, x9.tab, x9.sub.trans sb, fun b z => ?_, x9.domF⟩
  by_cases y : b = D
  · subst y; exact .inr (.inr (fz_none hD))
  · rw [upd_ne y] at z; exact x9.domS b z
end Ev
namespace Ev
open PySem PySem.Spec PyProof.Rows L2 Tb
variable {K : PySem.W.Frag}
abbrev ExtN (S H S' H' : Hp) : Prop := Ext (fun _ => False) S H S' H' (fun _ => False)
/-- called with data it returns data, and changes nothing -/
def spD (K : PySem.W.Frag) (T : List Addr) (f : List PyData → Option PyData) : Sp := fun vs H Q _ => ∃ S xs, Sub S H ∧ NoT S ∧ RqL K S vs xs ∧ AllT T H ∧ ∃ r, f xs = some r ∧ ∀ v S' H', Sub S' H' → NoT S' → Rq K S' v r → ExtN S H S' H' → Q v H'
/-- its first argument is a list that it may change -/
def spB (K : PySem.W.Frag) (T : List Addr) (f : List PyData → List PyData → Option (PyData × List PyData)) : Sp := fun vs H Q _ => ∃ S p us ws ys xs, vs = .ref p :: ws ∧ Sub S H ∧ NoT S ∧ S p = none ∧ H p = some (.lst us) ∧ RqL K S us ys ∧ RqL K S ws xs ∧ AllT T H ∧
  ∃ r zs, f ys xs = some (r, zs) ∧ ∀ v S' H', Sub S' H' → NoT S' → S' p = none → (∃ us', H' p = some (.lst us') ∧ RqL K S' us' zs) → Rq K S' v r → Ext (· = p) S H S' H' (· = p) → Q v H'
def lo0 (xs : List PyData) (n : Nat) : Lo := xs.map (fun x => some (L.dat x)) ++ List.replicate n none
def runD (n N : Nat) (g : GS) (xs : List PyData) : Option PyData := if xs.length = n then (g (lo0 xs (N - n))).bind fun p => match p.1 with
  | .nx => some .none
  | .rt x => some x
  | _ => none else none
def runB (n N : Nat) (g : GS) (ys xs : List PyData) : Option (PyData × List PyData) := if xs.length + 1 = n then (g (some (.lst ys) :: lo0 xs (N - n))).bind fun (p : Out × Lo) => match (p.2[0]? : Option (Option L)) with
  | some (some (.own (.lst zs))) => match p.1 with
    | .nx => some (.none, zs)
    | .rt x => some (x, zs)
    | _ => none
  | _ => none else none
theorem stt0 {S H : Hp} {vs : List V} {xs : List PyData} (s : Sub S H) (n : NoT S) (r : RqL K S vs xs) (m : Nat) : Stt K S H (vs.map some ++ List.replicate m none) (lo0 xs m) ∧ ∀ a, ¬ Own (vs.map some ++ List.replicate m none) (lo0 xs m) a := by
  have at_ : ∀ (i : Nat) (l : L), (lo0 xs m)[i]? = some (some l) → ∃ x, xs[i]? = some x ∧ l = .dat x := fun i l e => by
    unfold lo0 at e
    by_cases hi : i < xs.length
    · rw [List.getElem?_append_left (by rw [List.length_map]; exact hi), List.getElem?_map, List.getElem?_eq_getElem hi] at e
      cases e
      exact ⟨_, List.getElem?_eq_getElem hi, rfl⟩
    · rw [List.getElem?_append_right (by rw [List.length_map]; omega), List.getElem?_replicate] at e
      split at e <;> cases e
  have no : ∀ i a, ¬ OwnAt (vs.map some ++ List.replicate m none) (lo0 xs m) i a := fun i a ⟨_, ys, e⟩ => by
    obtain ⟨_, _, z⟩ := at_ i _ e
    cases z
  refine ⟨⟨s, n, by unfold lo0; simp [r.length], fun i l e => ?_, fun i a h => (no i a h).elim, fun i j a h => (no i a h).elim⟩, fun a ⟨i, h⟩ => no i a h⟩
  obtain ⟨x, hx, rfl⟩ := at_ i l e
  obtain ⟨v, hv, rv⟩ := r.get' hx
  refine ⟨v, ?_, rv⟩
  have hi : i < vs.length := (List.getElem?_eq_some_iff.mp hv).1
  rw [List.getElem?_append_left (by rw [List.length_map]; exact hi), List.getElem?_map, hv]
  rfl
/-- a def whose code object is told -/
structure FunC (K : PySem.W.Frag) (x qual : Str) (st : Stmt) (f : Addr) (fd : FuncData) (c : Addr) : Prop where
  ex : ∃ (oc : Value) (od : Option Addr) (kV doc pm : Value) (an : Option Addr) (ct : Value) (osl : Array (Option Value)),
    fd = PySem.W.fnOf x qual (defArgs st) (defBody st) (defScope st) .none kV doc pm an (.ref c) ct ∧ K.lookup f = some ⟨oc, od, .func fd, osl⟩ ∧ PySem.W.codeIn K (.ref c) qual = true
  kp : PySem.W.keepIn K (.ref f) = true
theorem FunC.fn {x qual : Str} {st : Stmt} {f c : Addr} {fd : FuncData} (F : FunC K x qual st f fd c) : Fun K x qual st f fd := by
  obtain ⟨oc, od, kV, doc, pm, an, ct, osl, h1, lk, hcd⟩ := F.ex
  exact ⟨⟨oc, od, kV, doc, pm, an, .ref c, ct, osl, h1, lk, hcd⟩, F.kp⟩
def gscpC (N : List Str) (sc scope : Scope) (x : Str) (ix : Nat) : Bool :=
  decide (scope.kind = .function) && !scope.isCoroutine && decide (scope.names.lookup (".0" : Str) = some NameKind.local) && decide (scope.names.lookup x = some .local) && decide (N[ix]? = some x) && !(N.contains (".0" : Str)) && decide N.Nodup &&
    scope.names.all fun p => !decide (p.2 = .cell) && (!decide (p.2 = .local) || p.1 == (".0" : Str) || p.1 == x) && (!decide (p.2 = .free) || decide (sc.names.lookup p.1 = some .cell) || decide (sc.names.lookup p.1 = some .free))
theorem gscp_by {N : List Str} {sc scope : Scope} {x : Str} {ix : Nat} (h : gscpC N sc scope x ix = true) : Gx.GScp N sc scope x ix := by
  unfold gscpC at h
  simp only [Bool.and_eq_true, decide_eq_true_eq, Bool.not_eq_true', List.all_eq_true, Bool.or_eq_true, beq_iff_eq, decide_eq_false_iff_not] at h
  obtain ⟨⟨⟨⟨⟨⟨⟨h1, h2⟩, h3⟩, h4⟩, h5⟩, h6⟩, h7⟩, h8⟩ := h
  refine ⟨h1, h2, fun y hy => (h8 y hy).1.1, h3, fun y hy => ?_, h4, fun y hy e => ?_, h7, h5, fun hm => ?_⟩
  · rcases (h8 _ (PySem.mem_of_lookup hy)).1.2 with (z | z) | z
    · exact absurd rfl z
    · exact .inl z
    · exact .inr z
  · rcases (h8 y hy).2 with (z | z) | z
    · exact absurd e z
    · exact .inl z
    · exact .inr z
  · rw [List.contains_iff_mem.mpr hm] at h6
    cases h6
section
variable {P : Program} {w : World} {mg : Str → Option Value} {base : Heap} {N ps : List Str} {qual x : Str} {st : Stmt} {f c : Addr} {fd : FuncData} {k : Nat} {T : List Addr} {g : GS}
theorem FunC.okG {sp : Sp} (F : FunC K x qual st f fd c) (S : FnScope N ps (defScope st)) (len : ∀ vs H Q E, sp vs H Q E → vs.length = ps.length)
    (hb : ∀ (A : Around) (outer : List Env) (s : Shared) (H : Hp) (vs : List V) (Q : VK), Room k (A.deeper (envOfC qual (defScope st) s.heap.objs.size f (.ref c))) → A.guards = some [] → sp vs H Q E0 →
      ∃ t, PSs (cxOf CX0 P w K mg base N qual (defScope st) f (.ref c) A outer s H E0).nox (defBody st) t ∧ t { nx := fun _ H' => Q .non H', rt := Q } (start N vs) H) : FnG P w K mg base (k + 1) f fd ps sp := by
  obtain ⟨oc, od, kV, doc, pm, an, ct, osl, rfl, lk, hcd⟩ := F.ex
  refine ⟨len, fun A outer s H args us vs Q hr hgd e0 hbn r hsp => ?_⟩
  have hl := len _ _ _ _ hsp
  have inS : K.In s.heap := e0.mod.kin.keeps fun b o e => (e0.bs b o e).1
  have noL : s.heap.NoLimit := e0.mod.nolimit.keeps fun b o e => (e0.bs b o e).1
  have kinds : ∀ y ∈ ps.zip us, (defScope st).names.lookup y.1 = some .local ∨ ((defScope st).names.lookup y.1 = some .cell ∧ ((cellsFrom (s.heap.objs.size + 1) (defScope st).names []).lookup y.1).isSome = true) := by
    rintro ⟨n, v⟩ hy
    rcases S.par n (List.of_mem_zip hy).1 with q | q
    · exact .inl q
    · exact .inr ⟨q, PySem.W.cellsFrom_some _ _ _ (.inl q)⟩
  refine codeAny_call_function hr.depth (inS _ _ lk) rfl S.co S.gen rfl (PySem.W.codeRec_of inS hcd) (hbn _ _ _ _ ?_)
  refine wpAny_newFunctionEnv_cells S.kind kinds fun env he s1 xc => ?_
  subst he
  refine ⟨noL.keeps xc.toInCall.keep, codeAny_func ?_⟩
  obtain ⟨t, ht, hq⟩ := hb A outer s H vs Q (hr.deeper _) hgd hsp
  have J : Inv (cxOf CX0 P w K mg base N qual (defScope st) f (.ref c) A outer s H E0) [] (start N vs) H s1 := inv_start S hr.hd e0 hl r xc
  refine wpAny_mono (ht.nox.run [] s1 (start N vs) H _ J hq) (fun fl s' hs => ?_) fun e s' hs => hs
  cases fl with
  | ret u =>
    obtain ⟨v, σ', H', I', rv, q⟩ := hs
    exact ⟨v, H', I'.os, I'.bare, I'.base, I'.hok, rv, q⟩
  | next =>
    obtain ⟨σ', H', I', q⟩ := hs
    exact ⟨V.non, H', I'.os, I'.bare, I'.base, I'.hok, rfl, q⟩
  | brk => obtain ⟨_, _, _, q⟩ := hs; exact q.elim
  | cont => obtain ⟨_, _, _, q⟩ := hs; exact q.elim
theorem spD_len {n N : Nat} {g : GS} {vs : List V} {H : Hp} {Q : VK} {E : XK} (h : spD K T (runD n N g) vs H Q E) : vs.length = n := by
  obtain ⟨S, xs, _, _, r, _, y, e, _⟩ := h
  unfold runD at e
  split at e
  · rename_i z
    rw [r.length]; exact z
  · cases e
theorem spB_len {n N : Nat} {g : GS} {vs : List V} {H : Hp} {Q : VK} {E : XK} (h : spB K T (runB n N g) vs H Q E) : vs.length = n := by
  obtain ⟨S, p, us, ws, ys, xs, rfl, _, _, _, _, _, r, _, y, zs, e, _⟩ := h
  unfold runB at e
  split at e
  · rename_i z
    rw [List.length_cons, r.length]; exact z
  · cases e
theorem readD {vs : List V} {H : Hp} {Q : VK} {E : XK} (h : spD K T (runD ps.length N.length g) vs H Q E) : tS K T false g { nx := fun _ H' => Q .non H', rt := Q } (start N vs) H := by
  have hl := spD_len h
  obtain ⟨S, xs, s, n, r, a, y, e, q⟩ := h
  unfold runD at e
  split at e
  · obtain ⟨p, e1, e2⟩ := Option.bind_eq_some_iff.mp e
    obtain ⟨s0, no⟩ := stt0 s n r (N.length - vs.length)
    refine ⟨S, _, s0, a, p.1, p.2, by rw [hl]; exact e1, fun σ' S' H' st' x' _ => ?_⟩
    have x2 : ExtN S H S' H' := ⟨fun b o _ => x'.keep b o (no b), x'.tab, x'.sub, fun b hb => (x'.domS b hb).imp id (Or.imp (no b) id), fun b hb => hb.elim⟩
    obtain ⟨o, l⟩ := p
    cases o with
    | nx =>
      cases e2
      exact q .non S' H' st'.sub st'.noT .non x2
    | rt z =>
      cases e2
      exact fun v rv => q v S' H' st'.sub st'.noT rv x2
    | bk => cases e2
    | ct => cases e2
  · cases e
theorem readB {vs : List V} {H : Hp} {Q : VK} {E : XK} (h : spB K T (runB ps.length N.length g) vs H Q E) : tS K T true g { nx := fun _ H' => Q .non H', rt := Q } (start N vs) H := by
  have hl := spB_len h
  obtain ⟨S, a, us, ws, ys, xs, rfl, s, n, sa, hH, ru, r, at', y, zs, e, q⟩ := h
  unfold runB at e
  split at e
  · obtain ⟨p, e1, e2⟩ := Option.bind_eq_some_iff.mp e
    have hl' : ws.length + 1 = ps.length := by simpa using hl
    obtain ⟨s0, no⟩ := stt0 s n r (N.length - (ws.length + 1))
    have es : start N (V.ref a :: ws) = some (.ref a) :: (ws.map some ++ List.replicate (N.length - (ws.length + 1)) none) := rfl
    have own0 : ∀ i b, OwnAt (some (.ref a) :: (ws.map some ++ List.replicate (N.length - (ws.length + 1)) none)) (some (.lst ys) :: lo0 xs (N.length - (ws.length + 1))) i b → i = 0 ∧ b = a := fun i b ⟨h1, zs, h2⟩ => by
      cases i with
      | zero =>
        cases h1
        exact ⟨rfl, rfl⟩
      | succ j => exact (no b ⟨j, by simpa using h1, zs, by simpa using h2⟩).elim
    have st : Stt K S H (some (.ref a) :: (ws.map some ++ List.replicate (N.length - (ws.length + 1)) none)) (some (.lst ys) :: lo0 xs (N.length - (ws.length + 1))) := by
      refine ⟨s, n, by simpa using s0.len, fun i l h => ?_, fun i b h => by rw [(own0 i b h).2]; exact sa, fun i j b h1 h2 => (own0 i b h1).1.trans (own0 j b h2).1.symm⟩
      cases i with
      | zero =>
        cases h
        exact ⟨.ref a, rfl, a, _, rfl, hH, .lst ru⟩
      | succ j =>
        obtain ⟨v, ev, rr⟩ := s0.loc j l (by simpa using h)
        exact ⟨v, by simpa using ev, rr⟩
    have ow : ∀ b, Own (some (.ref a) :: (ws.map some ++ List.replicate (N.length - (ws.length + 1)) none)) (some (.lst ys) :: lo0 xs (N.length - (ws.length + 1))) b ↔ b = a := fun b => ⟨fun ⟨i, h⟩ => (own0 i b h).2, fun h => ⟨0, by rw [h]; rfl, _, rfl⟩⟩
    rw [es]
    refine ⟨S, _, st, at', p.1, p.2, by rw [hl']; exact e1, fun σ' S' H' st' x' pin => ?_⟩
    obtain ⟨o, l⟩ := p
    have σ0 : σ'[0]? = some (some (.ref a)) := pin rfl
    split at e2
    · rename_i zs' hz
      have oa : OwnAt σ' l 0 a := ⟨σ0, _, hz⟩
      obtain ⟨v, ev, b, us', rfl, hb, rb⟩ := st'.locL hz
      rw [σ0] at ev
      cases ev
      have x2 : Ext (· = a) S H S' H' (· = a) := ⟨fun b o nb => x'.keep b o fun z => nb ((ow b).mp z), x'.tab, x'.sub, fun b hb => (x'.domS b hb).imp id (Or.imp (ow b).mp id), fun b hb => .inl hb⟩
      cases o with
      | nx =>
        cases e2
        exact q .non S' H' st'.sub st'.noT (st'.own 0 a oa) ⟨us', hb, rb⟩ .non x2
      | rt z =>
        cases e2
        exact fun v rv => q v S' H' st'.sub st'.noT (st'.own 0 a oa) ⟨us', hb, rb⟩ rv x2
      | bk => cases e2
      | ct => cases e2
    · cases e2
  · cases e
abbrev cxC (P : Program) (w : World) (K : PySem.W.Frag) (mg : Str → Option Value) (base : Heap) (N : List Str) (qual : Str) (st : Stmt) (f : Addr) (cd : Value) (A : Around) (outer : List Env) (s : Shared) (H : Hp) : Cx := (cxOf CX0 P w K mg base N qual (defScope st) f cd A outer s H E0).nox
theorem fnD (F : Fun K x qual st f fd) (S : FnScope N ps (defScope st)) (hb : ∀ (cdv : Value) (A : Around) (outer : List Env) (s : Shared) (H : Hp), Room k (cxC P w K mg base N qual st f cdv A outer s H).A → A.guards = some [] → PSs (cxC P w K mg base N qual st f cdv A outer s H) (defBody st) (tS K T false g)) :
    FnG P w K mg base (k + 1) f fd ps (spD K T (runD ps.length N.length g)) :=
  Tb.okG F S (fun vs H Q E h => spD_len h) fun cdv A outer s H vs Q hr hgd h => ⟨_, hb cdv A outer s H hr hgd, readD h⟩
theorem fnDC (F : FunC K x qual st f fd c) (S : FnScope N ps (defScope st)) (hb : ∀ (A : Around) (outer : List Env) (s : Shared) (H : Hp), Room k (cxC P w K mg base N qual st f (.ref c) A outer s H).A → A.guards = some [] → PSs (cxC P w K mg base N qual st f (.ref c) A outer s H) (defBody st) (tS K T false g)) :
    FnG P w K mg base (k + 1) f fd ps (spD K T (runD ps.length N.length g)) :=
  FunC.okG F S (fun vs H Q E h => spD_len h) fun A outer s H vs Q hr hgd h => ⟨_, hb A outer s H hr hgd, readD h⟩
theorem fnB (F : Fun K x qual st f fd) (S : FnScope N ps (defScope st)) (hb : ∀ (cdv : Value) (A : Around) (outer : List Env) (s : Shared) (H : Hp), Room k (cxC P w K mg base N qual st f cdv A outer s H).A → A.guards = some [] → PSs (cxC P w K mg base N qual st f cdv A outer s H) (defBody st) (tS K T true g)) :
    FnG P w K mg base (k + 1) f fd ps (spB K T (runB ps.length N.length g)) :=
  Tb.okG F S (fun vs H Q E h => spB_len h) fun cdv A outer s H vs Q hr hgd h => ⟨_, hb cdv A outer s H hr hgd, readB h⟩
end
theorem FnG.mono {P : Program} {w : World} {K : PySem.W.Frag} {mg : Str → Option Value} {base : Heap} {j k : Nat} {f : Addr} {fd : FuncData} {ps : List Str} {sp : Sp} (F : FnG P w K mg base j f fd ps sp) (h : j ≤ k) : FnG P w K mg base k f fd ps sp :=
  ⟨F.len, fun A outer s H args us vs Q hr => F.run A outer s H args us vs Q (hr.mono h)⟩
section
variable {X : Cx} {T : List Addr} {pos p : Pos} {k : Nat} {f : Addr} {fd : FuncData} {ps : List Str} {x : Str} {e : Expr} {es : List Expr}
theorem Stt.called {S H S' H' : Hp} {σ : L2.St} {lo : Lo} (s : Stt K S H σ lo) (x : ExtN S H S' H') (sub : Sub S' H') (noT : NoT S') : Stt K S' H' σ lo ∧ Ext (Own σ lo) S H S' H' (Own σ lo) := by
  have x2 : Ext (Own σ lo) S H S' H' (Own σ lo) := ⟨fun b o _ => x.keep b o id, x.tab, x.sub, fun b hb => (x.domS b hb).imp id (Or.imp False.elim id), fun b hb => .inl hb⟩
  refine ⟨s.grow x2 sub noT fun a o => ?_, x2⟩
  obtain ⟨vs, e, nt⟩ := s.ownH o
  obtain ⟨i, w⟩ := o
  refine ⟨(x.keep a _ id e nt).trans e.symm, ?_⟩
  cases q : S' a with
  | none => rfl
  | some u =>
    rcases x.domS a (by rw [q]; simp) with z | z | z
    · exact absurd (s.own i a w) z
    · exact z.elim
    · exact (z.no e nt).elim
theorem tCall_of {fn : List PyData → Option PyData} {g : GA} {σ : L2.St} {H : Hp} {Q : VK} (w : tE X.K T (callF fn g) σ H Q) : tAr X.K T g σ H fun vs H1 => spD X.K T fn vs H1 Q E0 := by
  obtain ⟨S, lo, st, at', z, lo', e, q⟩ := w
  obtain ⟨p, e1, e2⟩ := Option.bind_eq_some_iff.mp e
  obtain ⟨z', e3, e4⟩ := Option.bind_eq_some_iff.mp e2
  cases e4
  refine ⟨S, lo, st, at', p.1, p.2, e1, fun vs S1 H1 st1 r1 x1 => ?_⟩
  refine ⟨S1, p.1, st1.sub, st1.noT, r1, at'.ext x1, z, e3, fun v S2 H2 sb nt rv x2 => ?_⟩
  obtain ⟨st2, x2'⟩ := st1.called x2 sb nt
  exact q v S2 H2 st2 rv (x1.trans x2')
theorem ev_call {fn : List PyData → Option PyData} {g : GA} (F : FnG X.prog X.w X.K X.mg X.base k f fd ps (spD X.K T fn)) (hr : Room k X.A) (hgd : X.A.guards = some []) (hg : Gl X x) (hm : X.mg x = some (.ref f)) (hk : PySem.W.keepIn X.K (.ref f) = true) (hb : Binds X.K fd ps [])
    (ha : PA X (e :: es) (tAr X.K T g)) (hdb : (x == ("__debug__" : Str)) = false := by decide) (he : starEach (e :: es) X.env = (false, eval e X.env) :: starEach es X.env := by rfl) (hpl : (backTo pos (starEach es X.env)).any (·.1) = false := by rfl) :
    PE X (.Call (.Name x p) (e :: es) [] pos) (tE X.K T (callF fn g)) := by
  refine pe_imp (pe_callG F hr hgd hg hm hk hb ha hdb he hpl) fun σ H Q w => ?_
  obtain ⟨S, lo, st, at', xs, lo', e1, q⟩ := tCall_of (X := X) w
  exact ⟨S, lo, st, at', xs, lo', e1, fun vs S1 H1 st1 r1 x1 => by
    show spD X.K T fn (vs ++ []) H1 Q E0
    rw [List.append_nil]; exact q vs S1 H1 st1 r1 x1⟩
/-- the first argument is a list of one's own, by its name -/
def callBF (fn : List PyData → List PyData → Option (PyData × List PyData)) (i : Nat) (g : GA) : GE := fun lo => match lo[i]? with
  | some (some (.own (.lst _))) => (g lo).bind fun p => match p.2[i]? with
    | some (some (.own (.lst ys))) => (fn ys p.1).bind fun r => some (r.1, p.2.set i (some (.lst r.2)))
    | _ => none
  | _ => none
theorem Stt.calledO {S H S' H' : Hp} {σ : L2.St} {lo : Lo} {i : Nat} {a : Addr} {ys zs : OwnO} (s : Stt K S H σ lo) (e : lo[i]? = some (some (.own ys))) (eσ : σ[i]? = some (some (.ref a))) (x : Ext (· = a) S H S' H' (· = a)) (sub : Sub S' H') (noT : NoT S') (sa : S' a = none) (hz : ∃ us, H' a = some us ∧ RepO K S' us zs) :
    Stt K S' H' σ (lo.set i (some (.own zs))) ∧ Ext (Own σ lo) S H S' H' (Own σ (lo.set i (some (.own zs)))) := by
  have oa : OwnAt σ lo i a := ⟨eσ, ys, e⟩
  have hi : i < lo.length := (List.getElem?_eq_some_iff.mp e).1
  have oth : ∀ j b, OwnAt σ (lo.set i (some (.own zs))) j b → OwnAt σ lo j b := fun j b ⟨h1, ws, h2⟩ => by
    by_cases q : j = i
    · subst q; exact ⟨h1, ys, e⟩
    · rw [List.getElem?_set_ne (Ne.symm q)] at h2
      exact ⟨h1, ws, h2⟩
  have keepO : ∀ j b, OwnAt σ lo j b → j ≠ i → H' b = H b ∧ S' b = none ∧ b ≠ a := fun j b o nj => by
    have ne : b ≠ a := fun z => nj (s.inj j i a (z ▸ o) oa)
    obtain ⟨vs, hb, nt⟩ := s.ownH ⟨j, o⟩
    refine ⟨(x.keep b _ ne hb nt).trans hb.symm, ?_, ne⟩
    cases q : S' b with
    | none => rfl
    | some u =>
      rcases x.domS b (by rw [q]; simp) with z | z | z
      · exact absurd (s.own j b o) z
      · exact absurd z ne
      · exact (z.no hb nt).elim
  refine ⟨⟨sub, noT, by rw [List.length_set]; exact s.len, fun j l h => ?_, fun j b h => ?_, fun j k b h1 h2 => s.inj j k b (oth j b h1) (oth k b h2)⟩, ?_⟩
  · by_cases q : j = i
    · subst q
      rw [List.getElem?_set_self hi] at h
      cases h
      obtain ⟨us, h1, h2⟩ := hz
      exact ⟨.ref a, eσ, a, us, rfl, h1, h2⟩
    · rw [List.getElem?_set_ne (Ne.symm q)] at h
      obtain ⟨v, ev, rr⟩ := s.loc j l h
      refine ⟨v, ev, ?_⟩
      cases l with
      | dat y => exact Rq.sub x.sub rr
      | rng _ _ =>
        obtain ⟨b, e1, e2⟩ := rr
        exact ⟨b, e1, x.sub _ _ e2⟩
      | own ws =>
        obtain ⟨b, vs, rfl, hb, rb⟩ := rr
        exact ⟨b, vs, rfl, by rw [(keepO j b ⟨ev, ws, h⟩ q).1]; exact hb, RepO.sub x.sub rb⟩
  · by_cases q : j = i
    · subst q
      have : b = a := by
        have := h.1
        rw [eσ] at this
        cases this
        rfl
      rw [this]; exact sa
    · exact (keepO j b (oth j b h) q).2.1
  · exact ⟨fun b o n => x.keep b o fun z => n (by rw [z]; exact ⟨i, oa⟩), x.tab, x.sub, fun b hb => (x.domS b hb).imp id (Or.imp (fun z => by rw [z]; exact ⟨i, oa⟩) id), fun b ⟨j, h⟩ => .inl ⟨j, oth j b h⟩⟩
theorem Stt.calledB {S H S' H' : Hp} {σ : L2.St} {lo : Lo} {i : Nat} {a : Addr} {ys zs : List PyData} (s : Stt K S H σ lo) (e : lo[i]? = some (some (.lst ys))) (eσ : σ[i]? = some (some (.ref a))) (x : Ext (· = a) S H S' H' (· = a)) (sub : Sub S' H') (noT : NoT S') (sa : S' a = none) (hz : ∃ us, H' a = some (.lst us) ∧ RqL K S' us zs) :
    Stt K S' H' σ (lo.set i (some (.lst zs))) ∧ Ext (Own σ lo) S H S' H' (Own σ (lo.set i (some (.lst zs)))) := by
  obtain ⟨us, h1, h2⟩ := hz
  exact s.calledO e eσ x sub noT sa ⟨_, h1, .lst h2⟩
theorem ev_callB {fn : List PyData → List PyData → Option (PyData × List PyData)} {g : GA} {i : Nat} (F : FnG X.prog X.w X.K X.mg X.base k f fd ps (spB X.K T fn)) (hr : Room k X.A) (hgd : X.A.guards = some []) (hg : Gl X x) (hm : X.mg x = some (.ref f)) (hk : PySem.W.keepIn X.K (.ref f) = true) (hb : Binds X.K fd ps [])
    (hv : PE X e (tVar i)) (ha : PA X es (tAr X.K T g)) (hdb : (x == ("__debug__" : Str)) = false := by decide) (he : starEach (e :: es) X.env = (false, eval e X.env) :: starEach es X.env := by rfl) (hpl : (backTo pos (starEach es X.env)).any (·.1) = false := by rfl) :
    PE X (.Call (.Name x p) (e :: es) [] pos) (tE X.K T (callBF fn i g)) := by
  refine pe_imp (pe_callG F hr hgd hg hm hk hb (pa_cons hv ha he) hdb he hpl) fun σ H Q w => ?_
  obtain ⟨S, lo, st, at', z, lo', e, q⟩ := w
  unfold callBF at e
  split at e
  · rename_i y0 hy0
    obtain ⟨p, e1, e2⟩ := Option.bind_eq_some_iff.mp e
    obtain ⟨v, ev, a, vs0, rfl, _, _⟩ := st.locL hy0
    refine ⟨.ref a, ev, S, lo, st, at', p.1, p.2, e1, fun vs S1 H1 st1 r1 x1 => ?_⟩
    split at e2
    · rename_i ys hys
      obtain ⟨r, e3, e4⟩ := Option.bind_eq_some_iff.mp e2
      cases e4
      obtain ⟨v, ev', b, us, rfl, hb', rb⟩ := st1.locL hys
      rw [ev] at ev'
      cases ev'
      rw [List.append_nil]
      refine ⟨S1, a, us, vs, ys, p.1, rfl, st1.sub, st1.noT, st1.own i a ⟨ev, _, hys⟩, hb', rb, r1, at'.ext x1, r.1, r.2, e3, fun v S2 H2 sb nt sa hz rv x2 => ?_⟩
      obtain ⟨st2, x2'⟩ := st1.calledB hys ev x2 sb nt sa hz
      exact q v S2 H2 st2 rv (x1.trans x2')
    · cases e2
  · cases e
end
end Ev
namespace Ev
open PySem PySem.Spec PyProof.Rows L2 Tb
variable {K : PySem.W.Frag}
theorem Val2.or {f : PyData → PyData → Option PyData} {f1 f2 : PyData → PyData → Option PyData} {r1 r2 : R2} (h1 : Val2 K f1 r1) (h2 : Val2 K f2 r2) (h : ∀ x y z, f x y = some z → f1 x y = some z ∨ f2 x y = some z) : Val2 K f (fun x y H Q => r1 x y H Q ∨ r2 x y H Q) := fun S H v u x y z Q s n rx ry e q => by
  rcases h x y z e with e | e
  · exact .inl (h1 S H v u x y z Q s n rx ry e q)
  · exact .inr (h2 S H v u x y z Q s n rx ry e q)
/-- two whole numbers -/
def intF (C : Int → Int → Bool) (g : Int → Int → PyData) : PyData → PyData → Option PyData
  | .int i, .int j => if C i j = true then some (g i j) else none
  | _, _ => none
theorem val_int {C : Int → Int → Bool} {g : Int → Int → PyData} {CP : Int → Int → Prop} {gv : Int → Int → V} (hC : ∀ i j, C i j = true → CP i j) (hg : ∀ S i j, Rq K S (gv i j) (g i j)) : Val2 K (intF C g) (rI CP gv) := fun S H v u x y z Q s n rx ry e q => by
  unfold intF at e
  split at e
  · rename_i i j
    split at e
    · rename_i c
      cases e
      exact ⟨i, j, rx.int, ry.int, hC i j c, q _ S H (Gro.refl s n) (hg S i j)⟩
    · cases e
  · cases e
theorem val_int0 {g : Int → Int → PyData} {gv : Int → Int → V} (hg : ∀ S i j, Rq K S (gv i j) (g i j)) : Val2 K (intF (fun _ _ => true) g) (rI0 gv) := fun S H v u x y z Q s n rx ry e q => by
  unfold intF at e
  split at e
  · rename_i i j
    cases e
    exact ⟨i, j, rx.int, ry.int, q _ S H (Gro.refl s n) (hg S i j)⟩
  · cases e
def catL : PyData → PyData → Option PyData
  | .list xs, .list ys => if xs.length + ys.length ≤ sizeLine then some (.list (xs ++ ys)) else none
  | _, _ => none
def catT : PyData → PyData → Option PyData
  | .tuple xs, .tuple ys => if xs.length + ys.length ≤ sizeLine ∧ xs.isEmpty = false ∧ ys.isEmpty = false then some (.tuple (xs ++ ys)) else none
  | _, _ => none
def catS : PyData → PyData → Option PyData
  | .str x, .str y => if x.length + y.length ≤ sizeLine then some (.str (x ++ y)) else none
  | _, _ => none
/-- list + list, one of them locked perhaps -/
def rCatR : R2 := fun x y H Q => ∃ l b xs zs, x = .ref l ∧ y = .ref b ∧ Rd H l (.lst xs) ∧ Rd H b (.lst zs) ∧ xs.length + zs.length ≤ sizeLine ∧ ∀ p, H p = none → Q (.ref p) (upd H p (.lst (xs ++ zs)))
theorem op_catR {X : Cx} : OpR X (binaryOp .Add) rCatR := by
  intro pins s σ H x y v u Q I rx ry h
  obtain ⟨l, b, xs, zs, rfl, rfl, h1, h2, hz, q⟩ := h
  cases rx
  cases ry
  obtain ⟨_, us, n1, r1, e1⟩ := h1.ok I.hok
  obtain ⟨_, ws, n2, r2, e2⟩ := h2.ok I.hok
  refine PySem.P.add_list e1 e2 ?_ (by rw [List.size_toArray, List.size_toArray, ← r1.length, ← r2.length]; exact hz)
  rw [show us.toArray ++ ws.toArray = (us ++ ws).toArray by simp]
  exact ⟨.ref _, _, I.lnew (t' := s.toks) (r1.append r2) (by rw [List.length_append]; exact hz), rfl, q _ I.fresh⟩
theorem val_catL : Val2 K catL rCatR := fun S H v u x y z Q s n rx ry e q => by
  unfold catL at e
  split at e
  · split at e
    · rename_i hz
      cases e
      obtain ⟨a, vs, rfl, h1, r1⟩ := rx.list s
      obtain ⟨b, us, rfl, h2, r2⟩ := ry.list s
      refine ⟨_, _, _, _, rfl, rfl, h1, h2, by rw [r1.length, r2.length]; exact hz, fun p hp => ?_⟩
      have g := Gro.new (u := .lst (vs ++ us)) s n hp (by intro ps z; cases z)
      exact q _ _ _ g (.lst (.inl upd_same) (RqL.sub g.subS (r1.app r2)))
    · cases e
  · cases e
theorem RqL.nil_iff {S : Hp} {vs : List V} {ds : List PyData} (r : RqL K S vs ds) : vs = [] ↔ ds.isEmpty = true := by
  cases r <;> simp
theorem val_catT : Val2 K catT (rCatT K) := fun S H v u x y z Q s n rx ry e q => by
  unfold catT at e
  split at e
  · split at e
    · rename_i hz
      cases e
      obtain ⟨a, vs, rfl, h1, r1⟩ := rx.tuple
      obtain ⟨b, us, rfl, h2, r2⟩ := ry.tuple
      refine ⟨_, _, _, _, rfl, rfl, s.sqT h1, s.sqT h2, fun z => ?_, by rw [r1.length, r2.length]; exact hz.1, fun z => ?_, fun _ p hp => ?_⟩
      · rw [r1.nil_iff.mp z] at hz; exact absurd hz.2.1 (by simp)
      · rw [r2.nil_iff.mp z] at hz; exact absurd hz.2.2 (by simp)
      · have g := Gro.new (u := .tup (vs ++ us)) s n hp (by intro ps z; cases z)
        exact q _ _ _ g (.tup (.inl (.inl upd_same)) (RqL.sub g.subS (r1.app r2)))
    · cases e
  · cases e
theorem val_catS : Val2 K catS (fun x y H Q => ∃ i j, x = .str i ∧ y = .str j ∧ i.length + j.length ≤ sizeLine ∧ Q (.str (i ++ j)) H) := fun S H v u x y z Q s n rx ry e q => by
  unfold catS at e
  split at e
  · split at e
    · rename_i hz
      cases e
      exact ⟨_, _, rx.str, ry.str, hz, q _ S H (Gro.refl s n) (.str _)⟩
    · cases e
  · cases e
def addF : PyData → PyData → Option PyData
  | .int i, .int j => some (.int (i + j))
  | .list xs, .list ys => if xs.length + ys.length ≤ sizeLine then some (.list (xs ++ ys)) else none
  | .tuple xs, .tuple ys => if xs.length + ys.length ≤ sizeLine ∧ xs.isEmpty = false ∧ ys.isEmpty = false then some (.tuple (xs ++ ys)) else none
  | .str x, .str y => if x.length + y.length ≤ sizeLine then some (.str (x ++ y)) else none
  | _, _ => none
def rAddQ (K : PySem.W.Frag) : R2 := fun x y H Q => (rI0 (fun i j => .int (i + j)) x y H Q ∨ rCatR x y H Q) ∨ (rCatT K x y H Q ∨ ∃ i j, x = .str i ∧ y = .str j ∧ i.length + j.length ≤ sizeLine ∧ Q (.str (i ++ j)) H)
def addIL : PyData → PyData → Option PyData
  | .int i, .int j => some (.int (i + j))
  | .list xs, .list ys => catL (.list xs) (.list ys)
  | _, _ => none
def addTS : PyData → PyData → Option PyData
  | .tuple xs, .tuple ys => catT (.tuple xs) (.tuple ys)
  | .str x, .str y => catS (.str x) (.str y)
  | _, _ => none
theorem val_add : Val2 K addF (rAddQ K) := by
  refine Val2.or (f1 := addIL) (f2 := addTS) (Val2.or (val_int0 fun S i j => .int _) val_catL fun x y z e => ?_) (Val2.or val_catT val_catS fun x y z e => ?_) fun x y z e => ?_
  · cases x <;> cases y <;> first | (cases e; done) | exact .inl e | exact .inr e
  · cases x <;> cases y <;> first | (cases e; done) | exact .inl e | exact .inr e
  · cases x <;> cases y <;> first | (cases e; done) | exact .inl e | exact .inr e
section
variable {X : Cx} {T : List Addr} {pos : Pos} {a b : Expr} {ga gb : GE}
theorem op_addQ : OpR X (binaryOp .Add) (rAddQ X.K) := (op_add.or op_catR).or (op_catT.or op_add_str)
theorem ev_add (ha : PE X a (tE X.K T ga)) (hb : PE X b (tE X.K T gb)) : PE X (.BinOp a .Add b pos) (tE X.K T (op2 addF ga gb)) := ev_op op_addQ val_add ha hb
def subF : PyData → PyData → Option PyData := intF (fun _ _ => true) fun i j => .int (i - j)
theorem ev_sub (ha : PE X a (tE X.K T ga)) (hb : PE X b (tE X.K T gb)) : PE X (.BinOp a .Sub b pos) (tE X.K T (op2 subF ga gb)) := ev_op op_sub (val_int0 fun S i j => .int _) ha hb
def mulF : PyData → PyData → Option PyData := intF (fun i j => (decide (-(2 ^ 64) < i) && decide (i < 2 ^ 64)) || (decide (-(2 ^ 64) < j) && decide (j < 2 ^ 64))) fun i j => .int (i * j)
def modF : PyData → PyData → Option PyData := intF (fun _ j => decide (0 < j)) fun i j => .int (i % j)
theorem ev_mod (ha : PE X a (tE X.K T ga)) (hb : PE X b (tE X.K T gb)) : PE X (.BinOp a .Mod b pos) (tE X.K T (op2 modF ga gb)) := ev_op op_mod (val_int (fun i j h => of_decide_eq_true h) fun S i j => .int _) ha hb
def fdivF : PyData → PyData → Option PyData := intF (fun _ j => decide (0 < j) && decide (j < 1073741824)) fun i j => .int (i / j)
theorem ev_fdiv (ha : PE X a (tE X.K T ga)) (hb : PE X b (tE X.K T gb)) : PE X (.BinOp a .FloorDiv b pos) (tE X.K T (op2 fdivF ga gb)) := ev_op op_fdiv (val_int (fun i j h => by
  rw [Bool.and_eq_true, decide_eq_true_eq, decide_eq_true_eq] at h
  exact h) fun S i j => .int _) ha hb
def powF : PyData → PyData → Option PyData := intF (fun i j => decide (0 ≤ j) && decide (j ≤ 1000000) && decide (i.natAbs < 2 ^ 64)) fun i j => .int (i ^ j.toNat)
theorem ev_pow (ha : PE X a (tE X.K T ga)) (hb : PE X b (tE X.K T gb)) : PE X (.BinOp a .Pow b pos) (tE X.K T (op2 powF ga gb)) := ev_op op_pow (val_int (fun i j h => by
  rw [Bool.and_eq_true, Bool.and_eq_true, decide_eq_true_eq, decide_eq_true_eq, decide_eq_true_eq] at h
  exact ⟨h.1.1, h.1.2, h.2⟩) fun S i j => .int _) ha hb
def un1 (f : PyData → Option PyData) (g : GE) : GE := fun lo => (g lo).bind fun p => (f p.1).bind fun z => some (z, p.2)
def cmpF (g : Int → Int → Bool) : PyData → PyData → Option PyData := intF (fun _ _ => true) fun i j => .bool (g i j)
/-- numbers, or texts -/
def cmpQ (g : Int → Int → Bool) (k : Str → Str → Bool) : PyData → PyData → Option PyData
  | .int i, .int j => some (.bool (g i j))
  | .str x, .str y => some (.bool (k x y))
  | _, _ => none
def sLtB (x y : Str) : Bool := decide (x.cps.toList < y.cps.toList)
abbrev ltF := cmpQ (fun i j => decide (i < j)) sLtB
abbrev leF := cmpQ (fun i j => decide (i ≤ j)) fun x y => !sLtB y x
abbrev gtF := cmpF fun i j => decide (j < i)
abbrev geF := cmpF fun i j => decide (j ≤ i)
def rCmp (g : Int → Int → Bool) (k : Str → Str → Bool) : R2 := fun x y H Q => rI0 (fun i j => .bl (g i j)) x y H Q ∨ ∃ i j, x = .str i ∧ y = .str j ∧ Q (.bl (k i j)) H
theorem val_cmp {g : Int → Int → Bool} {k : Str → Str → Bool} : Val2 K (cmpQ g k) (rCmp g k) := fun S H v u x y z Q s n rx ry e q => by
  unfold cmpQ at e
  split at e
  · cases e
    have := val_int0 (K := K) (g := fun i j => .bool (g i j)) (gv := fun i j => .bl (g i j)) (fun S i j => .bl _) S H v u _ _ _ Q s n rx ry rfl q
    exact .inl this
  · cases e
    exact .inr ⟨_, _, rx.str, ry.str, q _ S H (Gro.refl s n) (.bl _)⟩
  · cases e
theorem val_lt : Val2 K ltF (rCmp (fun i j => decide (i < j)) sLtB) := val_cmp
theorem val_le : Val2 K leF (rCmp (fun i j => decide (i ≤ j)) fun x y => !sLtB y x) := val_cmp
theorem op_ltQ {X : Cx} : OpR X (compareOp .Lt) (rCmp (fun i j => decide (i < j)) sLtB) := fun pins s σ H x y v u Q I rx ry h => h.elim (fun h => op_lt pins s σ H x y v u Q I rx ry h) fun h => op_lt_str pins s σ H x y v u Q I rx ry h
theorem op_leQ {X : Cx} : OpR X (compareOp .LtE) (rCmp (fun i j => decide (i ≤ j)) fun x y => !sLtB y x) := fun pins s σ H x y v u Q I rx ry h => h.elim (fun h => op_le pins s σ H x y v u Q I rx ry h) fun h => op_le_str pins s σ H x y v u Q I rx ry h
theorem val_gt : Val2 K gtF (rI0 fun i j => .bl (decide (j < i))) := val_int0 fun S i j => .bl _
theorem val_ge : Val2 K geF (rI0 fun i j => .bl (decide (j ≤ i))) := val_int0 fun S i j => .bl _
def eqF : PyData → PyData → Option PyData := fun x y => if SeqAt.shaped x = true ∧ SeqAt.shaped y = true then some (.bool (PyData.eqv x y)) else none
def neF : PyData → PyData → Option PyData := fun x y => if SeqAt.shaped x = true ∧ SeqAt.shaped y = true then some (.bool (!PyData.eqv x y)) else none
theorem val_eq : Val2 K eqF (rEqD K) := fun S H v u x y z Q s n rx ry e q => by
  unfold eqF at e
  split at e
  · rename_i h
    cases e
    exact ⟨x, y, Rq.dp (SeqAt.canLay_of_shaped h.1) (rx.rqH s), Rq.dp (SeqAt.canLay_of_shaped h.2) (ry.rqH s), h.1, h.2, q _ S H (Gro.refl s n) (.bl _)⟩
  · cases e
theorem val_ne : Val2 K neF (rNeD K) := fun S H v u x y z Q s n rx ry e q => by
  unfold neF at e
  split at e
  · rename_i h
    cases e
    exact ⟨x, y, Rq.dp (SeqAt.canLay_of_shaped h.1) (rx.rqH s), Rq.dp (SeqAt.canLay_of_shaped h.2) (ry.rqH s), h.1, h.2, q _ S H (Gro.refl s n) (.bl _)⟩
  · cases e
/-- is None, is not None -/
def isNF : PyData → PyData → Option PyData
  | x, .none => some (.bool (match x with | .none => true | _ => false))
  | _, _ => none
theorem val_isN : Val2 K isNF (fun x y H Q => y = .non ∧ Q (.bl (decide (x = .non))) H) := fun S H v u x y z Q s n rx ry e q => by
  unfold isNF at e
  split at e
  · cases e
    refine ⟨ry.none, ?_⟩
    have rx := rx.rqH s
    cases rx <;> exact q _ S H (Gro.refl s n) (.bl _)
  · cases e
/-- in a list or a tuple -/
def kidsD : PyData → Option (List PyData)
  | .list xs => some xs
  | .tuple xs => some xs
  | _ => none
def inF : PyData → PyData → Option PyData := fun x y => (kidsD y).bind fun ds => if SeqAt.shaped x = true ∧ SeqAt.shaped y = true then some (.bool (ds.any fun z => PyData.eqv z x)) else none
def rInD (K : PySem.W.Frag) (neg : Bool) : R2 := fun x y H Q => ∃ d dd ds, Dp K H x d ∧ Dp K H y dd ∧ kidsD dd = some ds ∧ SeqAt.shaped d = true ∧ SeqAt.shaped dd = true ∧ Q (.bl (if neg = true then !(ds.any fun z => PyData.eqv z d) else ds.any fun z => PyData.eqv z d)) H
theorem val_in : Val2 K inF (rInD K false) := fun S H v u x y z Q s n rx ry e q => by
  obtain ⟨ds, e1, e2⟩ := Option.bind_eq_some_iff.mp e
  split at e2
  · rename_i h
    cases e2
    exact ⟨x, y, ds, Rq.dp (SeqAt.canLay_of_shaped h.1) (rx.rqH s), Rq.dp (SeqAt.canLay_of_shaped h.2) (ry.rqH s), e1, h.1, h.2, q _ S H (Gro.refl s n) (.bl _)⟩
  · cases e2
theorem op_inD (hu : X.A.units + 65 < cLine) : OpR X (compareOp .In) (rInD X.K false) := by
  intro pins s σ H x y v u Q I rx ry h
  obtain ⟨d, dd, ds, hd, he, sq, sd, se, q⟩ := h
  obtain ⟨as, r1⟩ := Dp.reads I d x v hd rx
  cases dd with
  | list es =>
    cases sq
    obtain ⟨bs, r2⟩ := Dp.reads I (.list ds) y u he ry
    exact SeqAt.in_list_reads r2 r1 (SeqAt.canLay_of_shaped se) (SeqAt.canLay_of_shaped sd) (room_in_shaped sd hu) ⟨.bl _, H, I, rfl, q⟩
  | tuple es =>
    cases sq
    obtain ⟨bs, r2⟩ := Dp.reads I (.tuple ds) y u he ry
    exact SeqAt.in_tuple_reads r2 r1 (SeqAt.canLay_of_shaped se) (SeqAt.canLay_of_shaped sd) (room_in_shaped sd hu) ⟨.bl _, H, I, rfl, q⟩
  | _ => cases sq
end
end Ev
namespace Ev
open PySem PySem.Spec PyProof.Rows L2 Tb
variable {K : PySem.W.Frag}
section
variable {prog : Program} {w : World} {A : Around} {E : Value → Shared → Prop} {s : Shared} {β : Type} {vs : List Value} {bs : List β} {enc : β → PyData} {R : Value → β → Prop}
/-- the heap behind a walk's items being gathered -/
abbrev gath (h : Heap) (its : Array Value) : Heap := (h.push (seqObj "list" #[] 0)).update h.objs.size (Obj.mapSeq (· ++ its))
theorem gath_size (h : Heap) (its : Array Value) : (gath h its).objs.size = h.objs.size + 1 := by
  unfold gath
  rw [Heap.size_update, size_push']
theorem gath_old {h : Heap} {its : Array Value} {b : Addr} {u : Obj} (z : h.get? b = some u) : (gath h its).get? b = some u :=
  (Heap.get?_update_other _ _ (Nat.ne_of_gt (Heap.lt_size z))).trans (Heap.get?_push_of_some _ z)
theorem gather {l : Addr} {o : Obj} {T : String} {its : Array Value} {n : Nat} {Q : List Value → Shared → Prop} (hT : T = "list" ∨ T = "tuple") (ho : s.heap.get? l = some o) (hc : o.cls = .type T) (hd : o.data = .seq its n)
    (q : Q its.toList { s with heap := gath s.heap its }) (hz : its.size ≤ sizeLine) : wpAny (model prog w) A (collect (.ref l)) Q E s := by
  have at0 : (s.heap.push (seqObj "list" #[] 0)).get? s.heap.objs.size = some (seqObj "list" #[] 0) := Heap.get?_push_size _ rfl
  have at1 := Heap.get?_update_self (Obj.mapSeq (· ++ its)) at0 rfl
  have last : wpAny (model prog w) A (load s.heap.objs.size >>= fun u => match u.data with
      | .seq xs _ => pure xs.toList
      | _ => unsupported "internal:collect") Q E { s with heap := gath s.heap its } := by
    refine wpAny_bind (wpAny_load at1 (wpAny_pure ?_))
    have e0 : ((#[] : Array Value) ++ its).toList = its.toList := by rw [Array.empty_append]
    exact e0 ▸ q
  unfold collect
  refine wpAny_bind (wpAny_runValue (codeAny_builtin (id := "proto.collect") F.entry_proto_collect ?run))
  case run =>
    rw [Around.under_plainId (id := "proto.collect") F.plain_proto_collect]
    refine (show wpAny _ A.in1 (newList [] >>= fun u => again (.builtin "list.__iadd__" ⟨[u, .ref l], []⟩)) _ _ s from wpAny_bind (wpAny_newObj_type ?made))
    case made =>
      refine wpAny_pure ⟨plainId_quiet (id := "list.__iadd__") F.plain_list_iadd _, codeAny_builtin (id := "list.__iadd__") F.entry_list_iadd ?ext⟩
      case ext =>
        rw [Around.under_plainId (id := "list.__iadd__") F.plain_list_iadd]
        refine (show wpAny _ A.in1 (Builtin.List.listExtendWith (.ref s.heap.objs.size) (.ref l) (.ref s.heap.objs.size)) _ _ _ from wpAny_mono (wpAny_extend_seq (hsz := hz) (A := A) (s := { s with heap := s.heap.push (seqObj "list" #[] 0) })
          (R := fun r s1 => r = .ok (.ret (.ref s.heap.objs.size)) ∧ s1 = { s with heap := gath s.heap its }) _ l _ 0 hT at0 (Heap.get?_push_of_some _ ho) hc hd ⟨rfl, rfl⟩) (fun fin s1 y => ?_) (fun e s1 y => absurd y.1 (by simp)))
        cases fin with
        | done f =>
          obtain ⟨y1, rfl⟩ := y
          cases y1
          exact last
        | again c => exact ⟨y.1, codeAny_mono y.2 fun r s2 y2 => by obtain ⟨rfl, rfl⟩ := y2; exact last⟩
end
end Ev
namespace Ev
open PySem PySem.SeqAt PyProof.Rows PySem.W PySem.Calls PySem.Spec L2 Tb
theorem cl_list {xs : List PyData} (h : (PyData.list xs).canLay0 = true) : PyData.canLayAll0 xs = true := by rw [PyData.canLay0] at h; exact h
theorem cl_tup {xs : List PyData} (h : (PyData.tuple xs).canLay0 = true) : PyData.canLayAll0 xs = true := by rw [PyData.canLay0] at h; exact h
theorem cl_cons {x : PyData} {xs : List PyData} (h : PyData.canLayAll0 (x :: xs) = true) : x.canLay0 = true ∧ PyData.canLayAll0 xs = true := by
  rw [PyData.canLayAll0, Bool.and_eq_true] at h; exact h
abbrev rOf (xs ys : List PyData) : Nat → Bool := fun j => dataLt (xs.getD j .none) (ys.getD j .none)
theorem sizeR {h : Heap} {a : Array Value} {xs : List PyData} {as : List Addr} (r : ReadsAll h a.toList xs as) : a.size = xs.length := by
  have := ReadsAll.length _ _ _ r
  simpa using this
mutual
theorem rc_lt : ∀ {x y : PyData} {A : Around} {s : Shared} {a b : Value} {as bs : List Addr}, Reads s.heap a x as → Reads s.heap b y bs → x.canLay0 = true → y.canLay0 = true → cmpD x y = true → A.units + min x.depth y.depth < cLine → RcLt A s a b (dataLt x y)
  | .none, y, _, _, _, _, _, _, _, _, _, _, c, _ => by cases y <;> simp [cmpD] at c
  | .dict _, y, _, _, _, _, _, _, _, _, _, _, c, _ => by cases y <;> simp [cmpD] at c
  | .bool p, y, _, _, _, _, _, _, ra, rb, _, _, c, _ => by
    cases y with
    | bool q =>
      cases ra; cases rb
      intro prog w E Q hq
      exact lt_bool (by rw [dataLt_bool] at hq; exact hq)
    | _ => simp [cmpD] at c
  | .int p, y, _, _, _, _, _, _, ra, rb, _, _, c, _ => by
    cases y with
    | int q =>
      cases ra; cases rb
      intro prog w E Q hq
      exact P.lt_int (by rw [dataLt_int] at hq; exact hq)
    | _ => simp [cmpD] at c
  | .str p, y, _, _, _, _, _, _, ra, rb, _, _, c, _ => by
    cases y with
    | str q =>
      cases ra; cases rb
      intro prog w E Q hq
      exact P.lt_str (by rw [dataLt_str] at hq; exact hq)
    | _ => simp [cmpD] at c
  | .list xs, y, A, s, _, _, _, _, ra, rb, c1, c2, c, hu => by
    cases y with
    | list ys =>
      have cl : cmpL xs ys = true := by simpa [cmpD] using c
      cases ra with
      | @list l o us n _ _ p1 p2 p3 p4 =>
        cases rb with
        | @list m u vs k _ _ q1 q2 q3 q4 =>
          have z := RcLt.lists (e := pairEq xs ys) (r := rOf xs ys) ⟨_, p1, p2, _, p3⟩ ⟨_, q1, q2, _, q3⟩ (room_here hu)
            (fun j j1 j2 => by
              have q := eqAt_readsAll xs ys A.in1 s us.toList vs.toList _ _ p4 q4 (cl_list c1) (cl_list c2) (room_in hu) j (by simpa using j1) (by simpa using j2)
              simpa using q)
            (fun j j1 j2 hj => by
              have q := rc_ltL (A := A.in1) p4 q4 (cl_list c1) (cl_list c2) cl (room_in hu) j (by simpa using j1) (by simpa using j2)
              simpa using q)
          rw [sizeR p4, sizeR q4, first_lx (cmpL_T cl)] at z
          rw [dataLt_list]; exact z
    | _ => simp [cmpD] at c
  | .tuple xs, y, A, s, _, _, _, _, ra, rb, c1, c2, c, hu => by
    cases y with
    | tuple ys =>
      have cl : cmpT xs ys = true := by simpa [cmpD] using c
      cases ra with
      | @tuple l o us n _ _ p1 p2 p3 p4 =>
        cases rb with
        | @tuple m u vs k _ _ q1 q2 q3 q4 =>
          have z := tup_lt (e := pairEq xs ys) (r := rOf xs ys) ⟨_, p1, p2, _, p3⟩ ⟨_, q1, q2, _, q3⟩ (room_here hu)
            ⟨fun j j1 j2 => by
              have q := eqAt_readsAll xs ys A.in1 s us.toList vs.toList _ _ p4 q4 (cl_tup c1) (cl_tup c2) (room_in hu) j (by simpa using j1) (by simpa using j2)
              simpa using q,
            fun j j1 j2 up hj => by
              have q := rc_ltT (A := A.in1) p4 q4 (cl_tup c1) (cl_tup c2) cl (room_in hu) j (by simpa using j1) (by simpa using j2) up
              simpa using q⟩
          rw [sizeR p4, sizeR q4, first_lx cl] at z
          rw [dataLt_tuple]; exact z
    | _ => simp [cmpD] at c
theorem rc_ltL : ∀ {xs ys : List PyData} {A : Around} {s : Shared} {us vs : List Value} {as bs : List Addr}, ReadsAll s.heap us xs as → ReadsAll s.heap vs ys bs → PyData.canLayAll0 xs = true → PyData.canLayAll0 ys = true → cmpL xs ys = true →
    A.units + min (PyData.depthAll xs) (PyData.depthAll ys) < cLine → ∀ (j : Nat) (h1 : j < us.length) (h2 : j < vs.length), RcLt A s us[j] vs[j] (rOf xs ys j)
  | [], _, _, _, _, _, _, _, ra, _, _, _, _, _, j, h1, _ => by cases ra; exact absurd h1 (Nat.not_lt_zero _)
  | _ :: _, [], _, _, _, _, _, _, _, rb, _, _, _, _, j, _, h2 => by cases rb; exact absurd h2 (Nat.not_lt_zero _)
  | x :: xs, y :: ys, _, _, _, _, _, _, ra, rb, c1, c2, c, hu, j, h1, h2 => by
    cases ra with
    | cons r rs =>
      cases rb with
      | cons q qs =>
        cases j with
        | zero => exact rc_lt r q (cl_cons c1).1 (cl_cons c2).1 (cmpL_cons c).1 (room_head hu)
        | succ j => exact rc_ltL rs qs (cl_cons c1).2 (cl_cons c2).2 (cmpL_cons c).2 (room_tail hu) j (Nat.lt_of_succ_lt_succ h1) (Nat.lt_of_succ_lt_succ h2)
theorem rc_ltT : ∀ {xs ys : List PyData} {A : Around} {s : Shared} {us vs : List Value} {as bs : List Addr}, ReadsAll s.heap us xs as → ReadsAll s.heap vs ys bs → PyData.canLayAll0 xs = true → PyData.canLayAll0 ys = true → cmpT xs ys = true →
    A.units + min (PyData.depthAll xs) (PyData.depthAll ys) < cLine → ∀ (j : Nat) (h1 : j < us.length) (h2 : j < vs.length), Upto (pairEq xs ys) j → RcLt A s us[j] vs[j] (rOf xs ys j)
  | [], _, _, _, _, _, _, _, ra, _, _, _, _, _, j, h1, _, _ => by cases ra; exact absurd h1 (Nat.not_lt_zero _)
  | _ :: _, [], _, _, _, _, _, _, _, rb, _, _, _, _, j, _, h2, _ => by cases rb; exact absurd h2 (Nat.not_lt_zero _)
  | x :: xs, y :: ys, _, _, _, _, _, _, ra, rb, c1, c2, c, hu, j, h1, h2, up => by
    cases ra with
    | cons r rs =>
      cases rb with
      | cons q qs =>
        cases j with
        | zero => exact rc_lt r q (cl_cons c1).1 (cl_cons c2).1 (cmpT_cons c).1 (room_head hu)
        | succ j => exact rc_ltT rs qs (cl_cons c1).2 (cl_cons c2).2 ((cmpT_cons c).2 (up 0 (Nat.succ_pos j))) (room_tail hu) j (Nat.lt_of_succ_lt_succ h1) (Nat.lt_of_succ_lt_succ h2) fun i hi => up (i + 1) (Nat.succ_lt_succ hi)
end
section
variable {P : Program} {w : World} {A : Around} {E : Value → Shared → Prop} {s : Shared}
theorem one_lt {f : Bool} {x y : PyData} {a b : Value} {as bs : List Addr} {Q : Bool → Shared → Prop} (hf : f = true → ∀ xs, x ≠ .tuple xs) (ra : Reads s.heap a x as) (rb : Reads s.heap b y bs) (c1 : x.canLay0 = true) (c2 : y.canLay0 = true) (c : cmpD x y = true)
    (hu : A.units + min x.depth y.depth < cLine) (hq : Q (dataLt x y) s) : wpAny (model P w) A (oneLt' f a b) Q E s := by
  cases f with
  | false =>
    rw [oneLt'_eq]
    simp only [Bool.false_eq_true, if_false]
    exact wpAny_bind (rc_lt ra rb c1 c2 c hu P w E _ (wpAny_truthy_bool hq))
  | true =>
    match x, y, c, hf rfl, ra, rb with
    | .bool p, .bool q, _, _, ra, rb =>
      cases ra; cases rb
      exact oneLt_bool (by rw [dataLt_bool] at hq; exact hq)
    | .int p, .int q, _, _, ra, rb =>
      cases ra; cases rb
      exact oneLt_int (by rw [dataLt_int] at hq; exact hq)
    | .str p, .str q, _, _, ra, rb =>
      cases ra; cases rb
      exact oneLt_str (by rw [dataLt_str] at hq; exact hq)
    | .tuple xs, _, _, nt, _, _ => exact absurd rfl (nt xs)
    | .list xs, .list ys, c, _, ra, rb =>
      have cl : cmpL xs ys = true := by simpa [cmpD] using c
      cases ra with
      | @list l o us n _ _ p1 p2 p3 p4 =>
        cases rb with
        | @list m u vs k _ _ q1 q2 q3 q4 =>
          rw [dataLt_list] at hq
          change Q (lx (keyToksAll xs) (keyToksAll ys)) s at hq
          rw [← first_lx (cmpL_T cl), ← sizeR p4, ← sizeR q4] at hq
          rw [oneLt'_eq]
          simp only [if_true]
          refine wpAny_bind (wpAny_cRoomFor (room_here hu) (wpAny_bind ?_))
          refine wpAny_callSpecialIfBound?_slot (T := "list") ⟨_, p1, p2⟩ F.slot_list_lt (call_list_lt (e := pairEq xs ys) (r := rOf xs ys) ⟨_, p1, p2, _, p3⟩ ⟨_, q1, q2, _, q3⟩
            (fun j j1 j2 => by
              have q := eqAt_readsAll xs ys A.in1 s us.toList vs.toList _ _ p4 q4 (cl_list c1) (cl_list c2) (room_in hu) j (by simpa using j1) (by simpa using j2)
              simpa using q)
            (fun j j1 j2 hj => by
              have q := rc_ltL (A := A.in1) p4 q4 (cl_list c1) (cl_list c2) cl (room_in hu) j (by simpa using j1) (by simpa using j2)
              simpa using q) (wpAny_truthy_bool hq))
theorem kat_cmp {b fin : Bool} {Q : Bool → Shared → Prop} : ∀ {xs ys : List PyData} {i : Nat} {us vs : List Value} {as bs : List Addr}, ReadsAll s.heap us xs as → ReadsAll s.heap vs ys bs → PyData.canLayAll0 xs = true → PyData.canLayAll0 ys = true → cmpT xs ys = true →
    A.units + min (PyData.depthAll xs) (PyData.depthAll ys) < cLine → (b = true → i = 0 → ∀ x r t, xs = x :: r → x ≠ .tuple t) → fin = decide (xs.length < ys.length) → Q (lx (keyToksAll xs) (keyToksAll ys)) s → KatLex P w A b fin Q (us.zip vs) i s
  | [], ys, i, us, vs, _, _, ra, rb, _, _, _, _, _, hf, hq => by
    cases ra
    rw [List.zip_nil_left]
    refine kat_nil ?_
    rw [lt_nil] at hq
    rw [hf]
    cases ys <;> simpa using hq
  | x :: xs, [], i, us, vs, _, _, ra, rb, _, _, _, _, _, hf, hq => by
    cases rb
    rw [List.zip_nil_right]
    refine kat_nil ?_
    rw [lt_cons_nil] at hq
    rw [hf]
    simpa using hq
  | x :: xs, y :: ys, i, _, _, _, _, ra, rb, c1, c2, c, hu, hb, hf, hq => by
    cases ra with
    | cons r rs =>
      cases rb with
      | cons q qs =>
        rw [List.zip_cons_cons]
        refine kat_cons (eqAt_reads x y A s _ _ _ _ r q (cl_cons c1).1 (cl_cons c2).1 (room_head hu) P w _ _ ?_)
        by_cases e : PyData.eqv x y = true
        · rw [e]
          rw [lt_same e] at hq
          exact kat_yes (kat_cmp rs qs (cl_cons c1).2 (cl_cons c2).2 ((cmpT_cons c).2 e) (room_tail hu) (fun _ z => absurd z (Nat.succ_ne_zero i)) (by rw [hf]; simp) hq)
        · have e : PyData.eqv x y = false := by simpa using e
          rw [e]
          rw [lt_other (cmpT_cons c).1 e] at hq
          refine kat_no (one_lt (fun z t => ?_) r q (cl_cons c1).1 (cl_cons c2).1 (cmpT_cons c).1 (room_head hu) hq)
          rw [Bool.and_eq_true] at z
          exact hb z.1 (by simpa using z.2) x xs t rfl
theorem type_cmp {x y : PyData} (h : cmpD x y = true) : dataType x = dataType y := by
  cases x <;> cases y <;> first | rfl | (simp [cmpD] at h)
end
/-- all can be compared with one another -/
def AllCmp (ds : List PyData) : Prop := ∀ x ∈ ds, x.canLay0 = true ∧ ∀ y ∈ ds, cmpD x y = true
theorem key_cmp {h : Heap} {ds : List PyData} (c : AllCmp ds) {v : Value} {d : PyData} {as : List Addr} (hd : d ∈ ds) (r : Reads h v d as) : (dataKind h ds).keyOf v = some (keyToks d) := by
  have q : ∃ d, d ∈ ds ∧ ∃ as, Reads h v d as := ⟨d, hd, as, r⟩
  obtain ⟨h1, as', h2⟩ := q.choose_spec
  have e : q.choose = d := reads_one (c _ h1).1 (c _ hd).1 h2 r
  show (open Classical in if q : ∃ d, d ∈ ds ∧ ∃ as, Reads h v d as then some (keyToks q.choose) else none) = _
  rw [dif_pos q, e]
theorem keys_cmp {h : Heap} {ds : List PyData} (c : AllCmp ds) {vs : List Value} (e : EachIs (fun v d => ∃ as, Reads h v d as) vs ds) : EachIs (fun v d => (dataKind h ds).keyOf v = some (keyToks d)) vs ds :=
  (each_mem e).mono fun _ _ z => by
    obtain ⟨⟨_, r⟩, hd⟩ := z
    exact key_cmp c hd r
section
variable {P : Program} {w : World} {A : Around} {E : Value → Shared → Prop} {s : Shared}
theorem sorts_cmp {vs : List Value} {ds : List PyData} (e : EachIs (fun v d => ∃ as, Reads s.heap v d as) vs ds) (c : AllCmp ds) (hk : Sortable ds) (hu : ∀ d, d ∈ ds → A.units + d.depth < cLine) : SortsAt P w A s (dataKind s.heap ds) vs := by
  have room : ∀ {x y : PyData}, x ∈ ds → A.units + min x.depth y.depth < cLine := fun {x y} hx => by
    have := hu x hx
    have l : min x.depth y.depth ≤ x.depth := Nat.min_le_left _ _
    omega
  refine ⟨fun v hv => by
    obtain ⟨d, hd, as, r⟩ := e.left v hv
    exact ⟨_, key_cmp c hd r⟩, ?_⟩
  rcases hk with ht | hn
  · cases ds with
    | nil =>
      cases e
      refine ⟨general', fun E x y a b Q ha _ _ => ?_, fun h2 => absurd h2 (by simp)⟩
      obtain ⟨d, _, hd, _⟩ := dataKind_inv ha
      cases hd
    | cons d0 dr =>
      obtain ⟨x0, r0, e0⟩ := ht d0 List.mem_cons_self
      have first : ∀ x r, PyData.tuple (x :: r) ∈ d0 :: dr → dataType x = dataType x0 := fun x r hm => by
        have q := (c _ hm).2 d0 List.mem_cons_self
        rw [e0] at q
        exact type_cmp (cmpT_cons (by simpa [cmpD] using q)).1
      refine ⟨tuples' (dataType x0 != Value.type "tuple"), ?_, fun h2 E Q hq => ?_⟩
      · intro E x y a b Q ha hb hq
        obtain ⟨d, as, hd, ra, rfl⟩ := dataKind_inv ha
        obtain ⟨d', as', hd', rb, rfl⟩ := dataKind_inv hb
        have hc := (c d hd).2 d' hd'
        have c1 := (c d hd).1
        have c2 := (c d' hd').1
        have hr := room (y := d') hd
        obtain ⟨x1, r1, rfl⟩ := ht d hd
        obtain ⟨x2, r2, rfl⟩ := ht d' hd'
        have hq' : Q (dataLt (.tuple (x1 :: r1)) (.tuple (x2 :: r2))) s := hq
        rw [dataLt_tuple] at hq'
        cases ra with
        | @tuple l o us n _ _ p1 p2 p3 p4 =>
          cases rb with
          | @tuple m u vs' k _ _ q1 q2 q3 q4 =>
            refine kat_lt p1 p3 q1 q3 (kat_cmp p4 q4 (cl_tup c1) (cl_tup c2) (by simpa [cmpD] using hc) ?_ ?_ ?_ hq')
            · have := room_in hr
              omega
            · intro hb _ x r t ex
              obtain ⟨rfl, rfl⟩ := List.cons.inj ex
              rw [← first _ _ hd] at hb
              exact dataType_tuple hb t
            · rw [sizeR p4, sizeR q4]
      · obtain ⟨fs, t1, t2, t3⟩ := each_katTups e ht
        refine kat_kind (T := dataType x0) t1 (by omega) (fun f hf => ?_) (beq_self_eq_true _) hq
        obtain ⟨x, r, as, m1, m2⟩ := t3 f hf
        rw [← first x r m1]
        exact looks_reads m2
  · refine ⟨oneType', ?_, fun h2 E Q hq => ?_⟩
    · intro E x y a b Q ha hb hq
      obtain ⟨d, as, hd, ra, rfl⟩ := dataKind_inv ha
      obtain ⟨d', as', hd', rb, rfl⟩ := dataKind_inv hb
      rw [keyLt'_oneType]
      exact one_lt (fun _ => (hn d hd).2) ra rb (c d hd).1 (c d' hd').1 ((c d hd).2 d' hd') (room hd) hq
    · cases ds with
      | nil =>
        cases e
        simp at h2
      | cons d0 dr =>
        refine kas_kind (T := dataType d0) h2 (fun v hv => ?_) (dataType_other (hn d0 List.mem_cons_self).2) (beq_self_eq_true _) hq
        obtain ⟨d, hd, as, r⟩ := e.left v hv
        rw [← type_cmp ((c d hd).2 d0 List.mem_cons_self)]
        exact looks_reads r
variable {β : Type} {vs : List Value} {bs : List β} {enc : β → PyData} {R : Value → β → Prop}
theorem sorted_cmp {l : Addr} {o : Obj} {T : String} {n : Nat} {Q : Value → Shared → Prop} (hT : T = "list" ∨ T = "tuple") (ho : s.heap.get? l = some o) (hc : o.cls = .type T) (hd : o.data = .seq vs.toArray n)
    (e : EachIs R vs bs) (er : EachIs (fun v b => ∃ as, Reads s.heap v (enc b) as) vs bs) (c : AllCmp (bs.map enc)) (hk : Sortable (bs.map enc)) (hL : bs.length ≤ sizeLine) (hu : ∀ b, b ∈ bs → A.units + 2 + (enc b).depth < cLine)
    (h : ∀ (out : List Value) (p : Addr) (h' : Heap) (c : Nat), EachIs R out (bs.mergeSort (dataLe false enc)) → s.heap.objs.size ≤ p → (∀ b u, s.heap.get? b = some u → h'.get? b = some u) → h'.get? p = some (seqObj "list" out.toArray c) → Q (.ref p) { s with heap := h' }) :
    wpAny (model P w) A (call (.builtin "sorted") [.ref l]) Q E s := by
  have hlen : vs.length ≤ sizeLine := by rw [e.length]; exact hL
  refine call_function_entry_kw kind_sorted plain_sorted entry_sorted (args_sorted1 _) ?_
  unfold Builtin.«sorted»
  refine wpAny_bind (m := checkCount "sorted" 1 1 _) (wpAny_pure ?_)
  refine wpAny_bind (gather hT ho hc hd ?_ (by rw [List.size_toArray]; exact hlen))
  refine wpAny_bind (wpAny_newList ?_ hlen)
  have k1 : ∀ b u, s.heap.get? b = some u → (gath s.heap vs.toArray).get? b = some u := fun b u z => gath_old z
  have big : s.heap.objs.size ≤ (gath s.heap vs.toArray).objs.size := by rw [gath_size]; exact Nat.le_succ _
  generalize gath s.heap vs.toArray = h1 at k1 big
  have at1 : (h1.push (seqObj "list" vs.toArray 0)).get? h1.objs.size = some (seqObj "list" vs.toArray 0) := Heap.get?_push_size _ rfl
  have old1 : ∀ b u, s.heap.get? b = some u → (h1.push (seqObj "list" vs.toArray 0)).get? b = some u := fun b u z => Heap.get?_push_of_some _ (k1 b u z)
  refine wpAny_bind (wpAny_holding (wpAny_call_entry_kw slot_list_sort ⟨_, at1, rfl⟩ entry_list_sort ?body (args_list_sort _)))
  case body =>
    have er' : EachIs (fun v b => ∃ as, Reads (sortingHeap (h1.push (seqObj "list" vs.toArray 0)) h1.objs.size vs) v (enc b) as) vs bs := er.mono fun _ _ ⟨as, r⟩ => ⟨as, PyProof.Rows.Reads.keeps (fun b u z => sortingHeap_old (Nat.ne_of_lt (Heap.lt_size (k1 b u z))) (old1 b u z)) r⟩
    refine list_sort_vals (s := { s with heap := h1.push (seqObj "list" vs.toArray 0) }) at1 (sorts_cmp (s := { s with heap := sortingHeap (h1.push (seqObj "list" vs.toArray 0)) h1.objs.size vs }) (each_map (R := fun v d => ∃ as, Reads (sortingHeap (h1.push (seqObj "list" vs.toArray 0)) h1.objs.size vs) v d as) enc er') c hk (bound_map hu)) hlen ?_
    obtain ⟨c', hc'⟩ := PyProof.Rows.sortedHeap_at (out := (sortVals (dataKind (sortingHeap (h1.push (seqObj "list" vs.toArray 0)) h1.objs.size vs) (bs.map enc)) false vs vs).toArray) at1
    have es : EachIs R (sortVals (dataKind (sortingHeap (h1.push (seqObj "list" vs.toArray 0)) h1.objs.size vs) (bs.map enc)) false vs vs) (bs.mergeSort (dataLe false enc)) :=
      sortVals_each (κ := dataKind _ (bs.map enc)) (fun b => keyToks (enc b)) e (each_of_map enc (keys_cmp c (each_map (R := fun v d => ∃ as, Reads _ v d as) enc er')))
    exact ⟨_, rfl, wpAny_pure ⟨_, rfl, h _ _ _ c' es big (fun b u z => by
      rw [PyProof.Rows.sortedHeap_old (Nat.ne_of_lt (Heap.lt_size (k1 b u z))) (Heap.lt_size (old1 b u z))]
      exact old1 b u z) hc'⟩⟩
end
end Ev
namespace Ev
open PySem PySem.Spec PyProof.Rows L2 Tb
variable {K : PySem.W.Frag}
def tupNE : PyData → Bool
  | .tuple (_ :: _) => true
  | _ => false
def plainD : PyData → Bool
  | .tuple _ => false
  | .none => false
  | _ => true
def sortOk (xs : List PyData) : Bool := decide (xs.length ≤ sizeLine) && xs.all SeqAt.shaped && (xs.all fun x => xs.all fun y => cmpD x y) && (xs.all tupNE || xs.all plainD)
noncomputable def srtD (xs : List PyData) : List PyData := xs.mergeSort (PySem.W.dataLe false id)
noncomputable def sortF : List PyData → Option PyData
  | [x] => (kidsD x).bind fun xs => if sortOk xs = true then some (.list (srtD xs)) else none
  | _ => none
def rSortQ (K : PySem.W.Frag) : List V → Hp → VK → Prop := fun vs H Q => ∃ (a : Addr) (us : List V) (xs : List PyData), vs = [.ref a] ∧ (SqL K H a us ∨ SqT K H a us) ∧ DpAll K H us xs ∧ sortOk xs = true ∧
  ∀ (p : Addr) (ps : List (V × PyData)), ps.map Prod.snd = srtD xs → (∀ q ∈ ps, q ∈ us.zip xs) → H p = none → Q (.ref p) (upd H p (.lst (ps.map Prod.fst)))
theorem zip_each {X : Cx} {pins : List (Addr × Obj)} {σ : L2.St} {H : Hp} {s : Shared} (I : Inv X pins σ H s) : ∀ {us : List V} {xs : List PyData} {its : List Value}, DpAll X.K H us xs → Vals us its →
    PySem.W.EachIs (fun v (b : V × PyData) => RelV b.1 v) its (us.zip xs) ∧ PySem.W.EachIs (fun v (b : V × PyData) => ∃ as, Reads s.heap v b.2 as) its (us.zip xs)
  | _, _, _, .nil, .nil => ⟨.nil, .nil⟩
  | _, _, _, .cons a b, .cons r t => by
    obtain ⟨h1, h2⟩ := zip_each I b t
    exact ⟨.cons r h1, .cons (Dp.reads I _ _ _ a r) h2⟩
theorem each_vals : ∀ {out : List Value} {ps : List (V × PyData)}, PySem.W.EachIs (fun v (b : V × PyData) => RelV b.1 v) out ps → Vals (ps.map Prod.fst) out
  | _, _, .nil => .nil
  | _, _, .cons h t => .cons h (each_vals t)
theorem zip_snd : ∀ {us : List V} {xs : List PyData}, us.length = xs.length → (us.zip xs).map Prod.snd = xs
  | [], [], _ => rfl
  | u :: us, x :: xs, h => by
    rw [List.zip_cons_cons, List.map_cons, zip_snd (by simpa using h)]
  | [], _ :: _, h => by simp at h
  | _ :: _, [], h => by simp at h
theorem DpAll.length {H : Hp} : ∀ {vs : List V} {ds : List PyData}, DpAll K H vs ds → vs.length = ds.length
  | _, _, .nil => rfl
  | _, _, .cons _ t => congrArg Nat.succ (DpAll.length t)
theorem sortOk_iff {xs : List PyData} (h : sortOk xs = true) : xs.length ≤ sizeLine ∧ (∀ x ∈ xs, SeqAt.shaped x = true) ∧ AllCmp xs ∧ PySem.W.Sortable xs := by
  unfold sortOk at h
  rw [Bool.and_eq_true, Bool.and_eq_true, Bool.and_eq_true, decide_eq_true_eq] at h
  obtain ⟨⟨⟨h1, h2⟩, h3⟩, h4⟩ := h
  refine ⟨h1, List.all_eq_true.mp h2, fun d hd => ⟨SeqAt.canLay_of_shaped (List.all_eq_true.mp h2 d hd), fun d' hd' => List.all_eq_true.mp (List.all_eq_true.mp h3 d hd) d' hd'⟩, ?_⟩
  rcases Bool.or_eq_true_iff.mp h4 with z | z
  · refine .inl fun d hd => ?_
    have := List.all_eq_true.mp z d hd
    match d, this with
    | .tuple (x :: r), _ => exact ⟨x, r, rfl⟩
  · refine .inr fun d hd => ?_
    have := List.all_eq_true.mp z d hd
    cases d <;> first | (cases this; done) | (refine ⟨?_, ?_⟩ <;> intros <;> intro z <;> cases z)
theorem cr_sortQ {X : Cx} (hu : X.A.units + 66 < cLine) : CallR X (.builtin "sorted") (rSortQ X.K) := by
  intro pins s σ H vs us0 Q I r h
  obtain ⟨a, us, xs, rfl, hs, hd, ok, q⟩ := h
  obtain ⟨u, rfl, ru⟩ := r.one
  obtain rfl : u = Value.ref a := ru
  obtain ⟨hz, hsh, hal, hsb⟩ := sortOk_iff ok
  have hln := DpAll.length hd
  have ez := zip_snd hln
  have main : ∀ (its : List Value) (o : Obj) (T : String) (n : Nat), Vals us its → (T = "list" ∨ T = "tuple") → s.heap.get? a = some o → o.cls = .type T → o.data = .seq its.toArray n → wpAny (model X.prog X.w) X.A (call (.builtin "sorted") [.ref a]) (EP X pins σ Q) X.xe s := fun its o T n rv hT ho hc hdt => by
    obtain ⟨e1, e2⟩ := zip_each I hd rv
    refine sorted_cmp (enc := Prod.snd) hT ho hc hdt e1 e2 (by rw [ez]; exact hal) (by rw [ez]; exact hsb) (by rw [List.length_zip, hln, Nat.min_self]; exact hz) (fun b hb => ?_) fun out p h' c eo big kp at' => ?_
    · have hm : b.2 ∈ xs := by rw [← ez]; exact List.mem_map_of_mem hb
      have := SeqAt.depth_of_shaped (hsh _ hm)
      omega
    · have hn : H p = none := I.hok.fresh big
      have lo : ((us.zip xs).mergeSort (PySem.W.dataLe false Prod.snd)).length = xs.length := by rw [List.length_mergeSort, List.length_zip, hln, Nat.min_self]
      refine ⟨.ref p, upd H p (.lst (((us.zip xs).mergeSort (PySem.W.dataLe false Prod.snd)).map Prod.fst)), I.laid (t' := s.toks) kp big ⟨by rw [List.length_map, lo]; exact hz, out, c, each_vals eo, at'⟩, rfl, q p _ ?_ (fun y hy => List.mem_mergeSort.mp hy) hn⟩
      have : ((us.zip xs).mergeSort (PySem.W.dataLe false Prod.snd)).map Prod.snd = ((us.zip xs).map Prod.snd).mergeSort (PySem.W.dataLe false id) := List.map_mergeSort fun _ _ _ _ => rfl
      rw [this, ez]
      rfl
  rcases hs with hs | hs
  · obtain ⟨its, rv, ⟨o, n, ho, hc, _, hdt⟩, _⟩ := I.list hs
    exact main its o "list" n rv (.inl rfl) ho hc hdt
  · obtain ⟨its, rv, ⟨o, ho, hc, n, hdt⟩, _⟩ := I.tuple hs
    exact main its o "tuple" n rv (.inr rfl) ho hc hdt
theorem RqL.of_zip {S : Hp} : ∀ {us : List V} {xs : List PyData}, RqL K S us xs → ∀ q ∈ us.zip xs, Rq K S q.1 q.2
  | _, _, .nil, q, h => by simp at h
  | _, _, .cons a b, q, h => by
    rcases List.mem_cons.mp h with z | z
    · rw [z]; exact a
    · exact RqL.of_zip b q z
theorem RqL.pairs {S : Hp} : ∀ {ps : List (V × PyData)}, (∀ q ∈ ps, Rq K S q.1 q.2) → RqL K S (ps.map Prod.fst) (ps.map Prod.snd)
  | [], _ => .nil
  | p :: ps, h => .cons (h p List.mem_cons_self) (RqL.pairs fun q hq => h q (List.mem_cons_of_mem _ hq))
theorem RqL.dpAll {S : Hp} : ∀ {us : List V} {xs : List PyData}, (∀ x ∈ xs, SeqAt.shaped x = true) → RqL K S us xs → DpAll K S us xs
  | _, _, _, .nil => .nil
  | _, _, h, .cons a b => .cons (Rq.dp (SeqAt.canLay_of_shaped (h _ List.mem_cons_self)) a) (RqL.dpAll (fun x hx => h x (List.mem_cons_of_mem _ hx)) b)
/-- a list or a tuple, its items shared -/
theorem RqT.seq {S H : Hp} {v : V} {x : PyData} {xs : List PyData} (s : Sub S H) (r : RqT K S H v x) (e : kidsD x = some xs) : ∃ a us, v = .ref a ∧ (SqL K H a us ∨ SqT K H a us) ∧ RqL K S us xs := by
  cases x with
  | list ys =>
    cases e
    obtain ⟨a, us, rfl, h, rl⟩ := r.list s
    exact ⟨a, us, rfl, .inl (.inl h), rl⟩
  | tuple ys =>
    cases e
    obtain ⟨a, us, rfl, h, rl⟩ := r.tuple
    exact ⟨a, us, rfl, .inr (s.sqT h), rl⟩
  | _ => cases e
theorem RqTL.one {S H : Hp} {vs : List V} {x : PyData} (r : RqTL K S H vs [x]) : ∃ v, vs = [v] ∧ RqT K S H v x := by
  cases r with
  | cons a b => cases b; exact ⟨_, rfl, a⟩
theorem RqTL.two {S H : Hp} {vs : List V} {x y : PyData} (r : RqTL K S H vs [x, y]) : ∃ v u, vs = [v, u] ∧ RqT K S H v x ∧ RqT K S H u y := by
  cases r with
  | cons a b =>
    obtain ⟨u, rfl, c⟩ := b.one
    exact ⟨_, _, rfl, a, c⟩
theorem val_sort : ValN K sortF (rSortQ K) := fun S H vs ds z Q s n r e q => by
  unfold sortF at e
  split at e
  · obtain ⟨xs, e1, e2⟩ := Option.bind_eq_some_iff.mp e
    split at e2
    · rename_i ok
      cases e2
      obtain ⟨v, rfl, rv⟩ := r.one
      obtain ⟨a, us, rfl, hs, rl⟩ := rv.seq s e1
      refine ⟨a, us, xs, rfl, hs, RqL.dpAll (sortOk_iff ok).2.1 (RqL.sub s rl), ok, fun p ps h1 h2 hp => ?_⟩
      have g := Gro.new (u := .lst (ps.map Prod.fst)) s n hp (by intro ps z; cases z)
      refine q _ _ _ g (.lst (.inl upd_same) ?_)
      rw [← h1]
      exact RqL.sub g.subS (RqL.pairs fun y hy => rl.of_zip y (h2 y hy))
    · cases e2
  · cases e
def notInF : PyData → PyData → Option PyData := fun x y => (kidsD y).bind fun ds => if SeqAt.shaped x = true ∧ SeqAt.shaped y = true then some (.bool (!(ds.any fun z => PyData.eqv z x))) else none
theorem val_notIn : Val2 K notInF (rInD K true) := fun S H v u x y z Q s n rx ry e q => by
  obtain ⟨ds, e1, e2⟩ := Option.bind_eq_some_iff.mp e
  split at e2
  · rename_i h
    cases e2
    exact ⟨x, y, ds, Rq.dp (SeqAt.canLay_of_shaped h.1) (rx.rqH s), Rq.dp (SeqAt.canLay_of_shaped h.2) (ry.rqH s), e1, h.1, h.2, q _ S H (Gro.refl s n) (.bl _)⟩
  · cases e2
theorem op_notInD {X : Cx} (hu : X.A.units + 65 < cLine) : OpR X (compareOp .NotIn) (rInD X.K true) := by
  intro pins s σ H x y v u Q I rx ry h
  obtain ⟨d, dd, ds, hd, he, sq, sd, se, q⟩ := h
  obtain ⟨as, r1⟩ := Dp.reads I d x v hd rx
  cases dd with
  | list es =>
    cases sq
    obtain ⟨bs, r2⟩ := Dp.reads I (.list ds) y u he ry
    exact SeqAt.notIn_list_reads r2 r1 (SeqAt.canLay_of_shaped se) (SeqAt.canLay_of_shaped sd) (room_in_shaped sd hu) ⟨.bl _, H, I, rfl, q⟩
  | tuple es =>
    cases sq
    obtain ⟨bs, r2⟩ := Dp.reads I (.tuple ds) y u he ry
    exact SeqAt.notIn_tuple_reads r2 r1 (SeqAt.canLay_of_shaped se) (SeqAt.canLay_of_shaped sd) (room_in_shaped sd hu) ⟨.bl _, H, I, rfl, q⟩
  | _ => cases sq
def ixF : PyData → PyData → Option PyData
  | .list xs, .int i => atI xs i
  | .tuple xs, .int i => atI xs i
  | .str z, .int i => if z.length ≤ sizeLine then (atI z.cps.toList i).bind fun c => some (.str ⟨#[c]⟩) else none
  | _, _ => none
theorem RqL.atI {S : Hp} {vs : List V} {ds : List PyData} {i : Int} {d : PyData} (r : RqL K S vs ds) (e : atI ds i = some d) : ∃ v, L2.atI vs i = some v ∧ Rq K S v d := by
  unfold L2.atI at e ⊢
  rw [r.length]
  obtain ⟨j, e1, e2⟩ := Option.bind_eq_some_iff.mp e
  obtain ⟨v, hv, rv⟩ := r.get' e2
  exact ⟨v, by rw [e1]; exact hv, rv⟩
theorem val_ix : Val2 K ixF (rIx K) := fun S H v u x y z Q s n rx ry e q => by
  unfold ixF at e
  split at e
  · rename_i xs i
    obtain ⟨a, vs, rfl, h, r⟩ := rx.list s
    obtain ⟨w, hw, rw'⟩ := r.atI e
    exact .inl ⟨a, vs, i, w, rfl, ry.int, .inl h, hw, q w S H (Gro.refl s n) rw'⟩
  · rename_i xs i
    obtain ⟨a, vs, rfl, h, r⟩ := rx.tuple
    obtain ⟨w, hw, rw'⟩ := r.atI e
    exact .inr (.inl ⟨a, vs, i, w, rfl, ry.int, s.sqT h, hw, q w S H (Gro.refl s n) rw'⟩)
  · rename_i zz i
    split at e
    · rename_i hz
      obtain ⟨c, e1, e2⟩ := Option.bind_eq_some_iff.mp e
      cases e2
      exact .inr (.inr ⟨zz, i, c, rx.str, ry.int, hz, e1, q _ S H (Gro.refl s n) (.str _)⟩)
    · cases e
  · cases e
def cutD {α : Type} (xs : List α) (lo hi : Option Int) : List α := (xs.drop (HT.sIx xs.length 0 lo)).take (HT.sIx xs.length xs.length hi - HT.sIx xs.length 0 lo)
theorem RqL.cut {S : Hp} {vs : List V} {ds : List PyData} (r : RqL K S vs ds) (lo hi : Option Int) : RqL K S (cutV vs lo hi) (cutD ds lo hi) := by
  unfold cutV cutD
  rw [r.length]
  exact (r.drop _).take _
def sliF (x : PyData) (lo hi : Option Int) : Option PyData := match x with
  | .list xs => some (.list (cutD xs lo hi))
  | .tuple xs => if HT.sIx xs.length 0 lo = 0 ∧ HT.sIx xs.length xs.length hi = xs.length then none else some (.tuple (cutD xs lo hi))
  | .str z => if z.length ≤ sizeLine then some (.str (cutS z lo hi)) else none
  | _ => none
abbrev GO := Lo → Option (Option Int × Lo)
def tO (K : PySem.W.Frag) (T : List Addr) (g : GO) : TO := fun σ H Q => ∃ S lo, Stt K S H σ lo ∧ AllT T H ∧ ∃ o lo', g lo = some (o, lo') ∧ ∀ S' H', Stt K S' H' σ lo' → Ext (Own σ lo) S H S' H' (Own σ lo') → Q o H'
def noO : GO := fun lo => some (none, lo)
def soO (g : GE) : GO := fun lo => (g lo).bind fun p => match p.1 with
  | .int i => some (some i, p.2)
  | _ => none
theorem po_imp {X : Cx} {e : Option Expr} {t t' : TO} (h : PO X e t) (i : ∀ σ H Q, t' σ H Q → t σ H Q) : PO X e t' := ⟨fun pins s σ H Q I w => h.run pins s σ H Q I (i σ H Q w)⟩
section
variable {X : Cx} {T : List Addr} {pos p2 : Pos} {a e : Expr} {ga g : GE} {gl gh : GO} {lo hi : Option Expr}
theorem eo_none : PO X none (tO X.K T noO) := po_imp po_none fun σ H Q w => by
  obtain ⟨S, lo, st, at', o, lo', e, q⟩ := w
  cases e
  exact q S H st (Ext.refl _ _ _)
theorem eo_some (h : PE X e (tE X.K T g)) : PO X (some e) (tO X.K T (soO g)) := po_imp (po_some h) fun σ H Q w => by
  obtain ⟨S, lo, st, at', o, lo', e, q⟩ := w
  obtain ⟨p, e1, e2⟩ := Option.bind_eq_some_iff.mp e
  refine ⟨S, lo, st, at', p.1, p.2, e1, fun v S1 H1 st1 r1 x1 => ?_⟩
  split at e2
  · rename_i i hi
    cases e2
    rw [hi] at r1
    cases r1
    exact ⟨i, rfl, q S1 H1 st1 x1⟩
  · cases e2
def slF (ga : GE) (gl gh : GO) : GE := fun lo => (ga lo).bind fun p => (gl p.2).bind fun l => (gh l.2).bind fun h => (sliF p.1 l.1 h.1).bind fun z => some (z, h.2)
theorem ev_slice (ha : PE X a (tE X.K T ga)) (hl : PO X lo (tO X.K T gl)) (hh : PO X hi (tO X.K T gh)) : PE X (.Subscript a (.Slice lo hi none p2) pos) (tE X.K T (slF ga gl gh)) := by
  refine pe_imp (pe_slice ((sl_list.or sl_tup).or sl_str) ha hl hh) fun σ H Q w => ?_
  obtain ⟨S, lo, st, at', z, lo', e, q⟩ := w
  obtain ⟨p, e1, e⟩ := Option.bind_eq_some_iff.mp e
  obtain ⟨l, e2, e⟩ := Option.bind_eq_some_iff.mp e
  obtain ⟨h, e3, e⟩ := Option.bind_eq_some_iff.mp e
  obtain ⟨z', e4, e⟩ := Option.bind_eq_some_iff.mp e
  cases e
  refine ⟨S, lo, st, at', p.1, p.2, e1, fun v S1 H1 st1 r1 x1 => ⟨S1, p.2, st1, at'.ext x1, l.1, l.2, e2, fun S2 H2 st2 x2 => ⟨S2, l.2, st2, (at'.ext x1).ext x2, h.1, h.2, e3, fun S3 H3 st3 x3 => ?_⟩⟩⟩
  have x13 := (x1.trans x2).trans x3
  have r3 : Rq X.K S3 v p.1 := Rq.sub (x2.sub.trans x3.sub) r1
  unfold sliF at e4
  split at e4
  · rename_i xs hx
    cases e4
    rw [hx] at r3
    cases r3 with
    | lst hS rl =>
      rename_i c us
      refine .inl (.inl ⟨_, us, rfl, .inl (st3.sub.rd hS), fun c' hp => ?_⟩)
      have g := Gro.new (u := .lst (cutV us l.1 h.1)) st3.sub st3.noT hp (by intro ps z; cases z)
      refine q _ _ _ (st3.gro g) (.lst (.inl upd_same) (RqL.sub g.subS (RqL.cut rl _ _))) (x13.trans g.ext)
  · rename_i xs hx
    split at e4
    · cases e4
    · rename_i nw
      cases e4
      rw [hx] at r3
      cases r3 with
      | tup hS rl =>
        rename_i c us
        refine .inl (.inr ⟨_, us, rfl, st3.sub.sqT hS, by rw [rl.length]; exact nw, fun c' hp => ?_⟩)
        have g := Gro.new (u := .tup (cutV us l.1 h.1)) st3.sub st3.noT hp (by intro ps z; cases z)
        refine q _ _ _ (st3.gro g) (.tup (.inl (.inl upd_same)) (RqL.sub g.subS (RqL.cut rl _ _))) (x13.trans g.ext)
  · rename_i zz hx
    split at e4
    · rename_i hz
      cases e4
      rw [hx] at r3
      cases r3
      exact .inr ⟨zz, rfl, hz, q _ S3 H3 st3 (.str _) x13⟩
    · cases e4
  · cases e4
end
end Ev
namespace Ev
open PySem PySem.Spec PyProof.Rows L2 Tb
variable {K : PySem.W.Frag}
section
variable {X : Cx} {T : List Addr} {pos p p2 pos2 : Pos} {x : Str} {a b e : Expr} {es : List Expr} {g ga gb : GE} {ga' : GA}
theorem ev_blt {id : String} {r : List V → Hp → VK → Prop} {f : List PyData → Option PyData} (hc : CallR X (.builtin id) r) (v : ValN X.K f r) (hg : Gl X x) (hm : X.mg x = none) (hv : bootBuiltins x = some (.builtin id)) (ha : PA X (e :: es) (tAr X.K T ga')) (hn : x ≠ "__name__" := by decide) (hdb : (x == ("__debug__" : Str)) = false := by decide)
    (he : starEach (e :: es) X.env = (false, eval e X.env) :: starEach es X.env := by rfl) (hpl : (backTo pos (starEach es X.env)).any (·.1) = false := by rfl) : PE X (.Call (.Name x p) (e :: es) [] pos) (tE X.K T (callF f ga')) :=
  pe_imp (pe_callB hc hg hm hv ha hn hdb he hpl) fun _ _ _ w => tCB_of v w
theorem ev_bltN {id : String} {i : Nat} {r : List V → Hp → VK → Prop} {f : List PyData → Option PyData} (hc : CallR X (.builtin id) r) (v : ValN X.K f r) (hg : Gl X x) (hm : X.mg x = none) (hv : bootBuiltins x = some (.builtin id)) (ha : PE X e (tVar i)) (hn : x ≠ "__name__" := by decide) (hdb : (x == ("__debug__" : Str)) = false := by decide)
    (he : starEach [e] X.env = (false, eval e X.env) :: starEach [] X.env := by rfl) : PE X (.Call (.Name x p) [e] [] pos) (tE X.K T (callN f i)) :=
  pe_imp (pe_callB hc hg hm hv (pa_cons ha pa_nil he) hn hdb he rfl) fun _ _ _ w => tCBN_of v w
theorem ev_bty {id : String} {r : List V → Hp → VK → Prop} {f : List PyData → Option PyData} (hc : CallR X (.type id) r) (v : ValN X.K f r) (hg : Gl X x) (hm : X.mg x = none) (hv : bootBuiltins x = some (.type id)) (ha : PA X (e :: es) (tAr X.K T ga')) (hn : x ≠ "__name__" := by decide) (hdb : (x == ("__debug__" : Str)) = false := by decide)
    (he : starEach (e :: es) X.env = (false, eval e X.env) :: starEach es X.env := by rfl) (hpl : (backTo pos (starEach es X.env)).any (·.1) = false := by rfl) : PE X (.Call (.Name x p) (e :: es) [] pos) (tE X.K T (callF f ga')) :=
  pe_imp (pe_callTy hc hg hm hv ha hn hdb he hpl) fun _ _ _ w => tCB_of v w
def isF (b : PyData → Bool) : PyData → Option PyData := fun x => some (.bool (b x))
theorem RqT.tyX {S H : Hp} {v : V} {d : PyData} (s : Sub S H) (r : RqT K S H v d) : TyX K H v (.type (tyN d)) := by
  have r := r.rqH s
  cases r with
  | non => exact .base .non
  | bl b => exact .base (.bl b)
  | int i => exact .base (.int i)
  | str y => exact .base (.str y)
  | lst h _ =>
    rcases h with h | ⟨o, h⟩
    · exact .base (.lst h)
    · exact .base (.frz h)
  | tup h _ =>
    rcases h with (h | ⟨o, h⟩) | ⟨o, its, n, h, hc, _⟩
    · exact .base (.tup h)
    · exact .fTuple h
    · exact .kTuple h hc
  | dct h _ => exact .base (.dK h)
theorem ev_isi {b : PyData → Bool} {n : String} (kit : ∀ d : PyData, PySem.W.kitOne X.K (.type (tyN d)) (.type n) = some (b d)) (hg : Gl X "isinstance") (hm : X.mg "isinstance" = none) (ht : PE X e (tC (.ty n))) (ha : PE X a (tE X.K T ga))
    (he : starEach [a, e] X.env = (false, eval a X.env) :: starEach [e] X.env := by rfl) (he2 : starEach [e] X.env = (false, eval e X.env) :: starEach [] X.env := by rfl) (hpl : (backTo pos (starEach [e] X.env)).any (·.1) = false := by rfl) : PE X (.Call (.Name "isinstance" p) [a, e] [] pos) (tE X.K T (un1 (isF b) ga)) := by
  refine pe_imp (pe_callB call_isi hg hm (by decide +kernel) (pa_cons ha (pa_cons ht pa_nil he2) he) (by decide) (by decide) he hpl) fun σ H Q w => ?_
  obtain ⟨S, lo, st, at', z, lo', e, q⟩ := w
  obtain ⟨y, e1, e2⟩ := Option.bind_eq_some_iff.mp e
  cases e2
  exact ⟨S, lo, st, at', y.1, y.2, e1, fun v S1 H1 st1 r1 x1 => ⟨v, .ty n, _, _, _, rfl, .ty n, (RqT.of r1).tyX st1.sub, kit y.1, q _ S1 H1 st1 (.bl _) x1⟩⟩
/-- isinstance(a, (list, tuple)) -/
theorem ev_isiT {e1 e2 : Expr} {j : Nat} {pt : Pos} (hg : Gl X "isinstance") (hm : X.mg "isinstance" = none) (h1 : PE X e1 (tC (.ty "list"))) (h2 : PE X e2 (tC (.ty "tuple"))) (ha : PE X a (tE X.K T ga))
    (he : starEach [a, .Tuple [e1, e2] j pt] X.env = (false, eval a X.env) :: starEach [.Tuple [e1, e2] j pt] X.env := by rfl) (he1 : starEach [e1, e2] X.env = (false, eval e1 X.env) :: starEach [e2] X.env := by rfl) (he2 : starEach [e2] X.env = (false, eval e2 X.env) :: starEach [] X.env := by rfl) (hpl : (backTo pos (starEach [.Tuple [e1, e2] j pt] X.env)).any (·.1) = false := by rfl) :
    PE X (.Call (.Name "isinstance" p) [a, .Tuple [e1, e2] j pt] [] pos) (tE X.K T (un1 (isF isSq) ga)) := by
  refine pe_imp (pe_callB call_isiT hg hm (by decide +kernel) (pa_cons ha (pa_cons (pe_tup (pa_cons h1 (pa_cons h2 pa_nil he2) he1)) pa_nil) he) (by decide) (by decide) he hpl) fun σ H Q w => ?_
  obtain ⟨S, lo, st, at', z, lo', e, q⟩ := w
  obtain ⟨y, e1, e2⟩ := Option.bind_eq_some_iff.mp e
  cases e2
  refine ⟨S, lo, st, at', y.1, y.2, e1, fun v S1 H1 st1 r1 x1 => ⟨(by show 2 ≤ sizeLine; decide), fun t ht => ?_⟩⟩
  have st2 := st1.lay (u := .tup [V.ty "list", V.ty "tuple"]) ht
  exact ⟨v, t, _, _, _, _, rfl, upd_same, .cons (.ty _) (.cons (.ty _) .nil), (RqT.of r1).tyX st2.sub, kit_seq y.1, q _ _ _ st2 (.bl _) (x1.trans (Ext.lay ht))⟩
def isTp : PyData → Bool
  | .tuple _ => true
  | _ => false
def isSt : PyData → Bool
  | .str _ => true
  | _ => false
theorem kit_tup : ∀ d : PyData, PySem.W.kitOne K (.type (tyN d)) (.type "tuple") = some (isTp d)
  | .none => kit_ty (show kitB "NoneType" "tuple" = some false by decide +kernel)
  | .bool _ => kit_ty (show kitB "bool" "tuple" = some false by decide +kernel)
  | .int _ => kit_ty (show kitB "int" "tuple" = some false by decide +kernel)
  | .str _ => kit_ty (show kitB "str" "tuple" = some false by decide +kernel)
  | .list _ => kit_ty (show kitB "list" "tuple" = some false by decide +kernel)
  | .tuple _ => kit_ty (show kitB "tuple" "tuple" = some true by decide +kernel)
  | .dict _ => kit_ty (show kitB "dict" "tuple" = some false by decide +kernel)
theorem kit_str : ∀ d : PyData, PySem.W.kitOne K (.type (tyN d)) (.type "str") = some (isSt d)
  | .none => kit_ty (show kitB "NoneType" "str" = some false by decide +kernel)
  | .bool _ => kit_ty (show kitB "bool" "str" = some false by decide +kernel)
  | .int _ => kit_ty (show kitB "int" "str" = some false by decide +kernel)
  | .str _ => kit_ty (show kitB "str" "str" = some true by decide +kernel)
  | .list _ => kit_ty (show kitB "list" "str" = some false by decide +kernel)
  | .tuple _ => kit_ty (show kitB "tuple" "str" = some false by decide +kernel)
  | .dict _ => kit_ty (show kitB "dict" "str" = some false by decide +kernel)
theorem pe_ty {x : Str} {n : String} (hg : Gl X x) (hm : X.mg x = none) (hv : bootBuiltins x = some (.type n)) (hn : x ≠ "__name__" := by decide) (hdb : (x == ("__debug__" : Str)) = false := by decide) : PE X (.Name x pos) (tC (.ty n)) := pe_bltn (v := .ty n) hg hm hv rfl hn hdb
end
def lenF : List PyData → Option PyData
  | [.list xs] => some (.int xs.length)
  | [.tuple xs] => some (.int xs.length)
  | [.str z] => if z.length ≤ sizeLine then some (.int z.length) else none
  | _ => none
def rLenQ (K : PySem.W.Frag) : List V → Hp → VK → Prop := fun xs H Q => ∃ x n, xs = [x] ∧ LenV K x H n ∧ Q (.int n) H
theorem val_len : ValN K lenF (rLenQ K) := fun S H vs ds z Q s n r e q => by
  unfold lenF at e
  split at e
  · cases e
    obtain ⟨v, rfl, rv⟩ := r.one
    obtain ⟨a, us, rfl, h, rl⟩ := rv.list s
    exact ⟨_, _, rfl, .inl ⟨us, .inl h, rl.length.symm⟩, q _ S H (Gro.refl s n) (.int _)⟩
  · cases e
    obtain ⟨v, rfl, rv⟩ := r.one
    obtain ⟨a, us, rfl, h, rl⟩ := rv.tuple
    exact ⟨_, _, rfl, .inr ⟨us, s.sqT h, rl.length.symm⟩, q _ S H (Gro.refl s n) (.int _)⟩
  · split at e
    · rename_i hz
      cases e
      obtain ⟨v, rfl, rv⟩ := r.one
      rw [rv.str]
      exact ⟨_, _, rfl, ⟨hz, rfl⟩, q _ S H (Gro.refl s n) (.int _)⟩
    · cases e
  · cases e
def listF : List PyData → Option PyData
  | [x] => (kidsD x).bind fun xs => some (.list xs)
  | _ => none
def rListQ (K : PySem.W.Frag) : List V → Hp → VK → Prop := fun xs H Q => ∃ p ys, xs = [.ref p] ∧ (SqL K H p ys ∨ SqT K H p ys) ∧ ∀ l, H l = none → Q (.ref l) (upd H l (.lst ys))
theorem val_list : ValN K listF (rListQ K) := fun S H vs ds z Q s n r e q => by
  unfold listF at e
  split at e
  · obtain ⟨xs, e1, e2⟩ := Option.bind_eq_some_iff.mp e
    cases e2
    obtain ⟨v, rfl, rv⟩ := r.one
    obtain ⟨a, us, rfl, hs, rl⟩ := rv.seq s e1
    refine ⟨a, us, rfl, hs, fun l hl => ?_⟩
    have g := Gro.new (u := .lst us) s n hl (by intro ps z; cases z)
    exact q _ _ _ g (.lst (.inl upd_same) (RqL.sub g.subS rl))
  · cases e
def tupleF : List PyData → Option PyData
  | [.list xs] => some (.tuple xs)
  | [.tuple xs] => some (.tuple xs)
  | _ => none
def rTupQ (K : PySem.W.Frag) : List V → Hp → VK → Prop := fun xs H Q => ∃ p ys, xs = [.ref p] ∧ ((SqL K H p ys ∧ ∀ l, H l = none → Q (.ref l) (upd H l (.tup ys))) ∨ (SqT K H p ys ∧ Q (.ref p) H))
theorem val_tuple : ValN K tupleF (rTupQ K) := fun S H vs ds z Q s n r e q => by
  unfold tupleF at e
  split at e
  · cases e
    obtain ⟨v, rfl, rv⟩ := r.one
    obtain ⟨a, us, rfl, h, rl⟩ := rv.list s
    refine ⟨a, us, rfl, .inl ⟨.inl h, fun l hl => ?_⟩⟩
    have g := Gro.new (u := .tup us) s n hl (by intro ps z; cases z)
    exact q _ _ _ g (.tup (.inl (.inl upd_same)) (RqL.sub g.subS rl))
  · cases e
    obtain ⟨v, rfl, rv⟩ := r.one
    obtain ⟨a, us, rfl, h, rl⟩ := rv.tuple
    exact ⟨a, us, rfl, .inr ⟨s.sqT h, q _ S H (Gro.refl s n) (.tup h rl)⟩⟩
  · cases e
def max2F : List PyData → Option PyData
  | [.int i, .int j] => some (.int (if j > i then j else i))
  | _ => none
theorem val_max2 : ValN K max2F (fun xs H Q => ∃ i j, xs = [.int i, .int j] ∧ Q (.int (if j > i then j else i)) H) := fun S H vs ds z Q s n r e q => by
  unfold max2F at e
  split at e
  · cases e
    obtain ⟨v, u, rfl, rv, ru⟩ := r.two
    rw [rv.int, ru.int]
    exact ⟨_, _, rfl, q _ S H (Gro.refl s n) (.int _)⟩
  · cases e
def absF : List PyData → Option PyData
  | [.int i] => some (.int (if i < 0 then -i else i))
  | _ => none
theorem val_abs : ValN K absF (fun xs H Q => ∃ i, xs = [.int i] ∧ Q (.int (if i < 0 then -i else i)) H) := fun S H vs ds z Q s n r e q => by
  unfold absF at e
  split at e
  · cases e
    obtain ⟨v, rfl, rv⟩ := r.one
    rw [rv.int]
    exact ⟨_, rfl, q _ S H (Gro.refl s n) (.int _)⟩
  · cases e
def divmodF : List PyData → Option PyData
  | [.int i, .int j] => if 0 < j ∧ j < 1073741824 then some (.tuple [.int (i / j), .int (i % j)]) else none
  | _ => none
theorem val_divmod : ValN K divmodF (fun xs H Q => ∃ i j, xs = [.int i, .int j] ∧ CDiv i j ∧ ∀ p, H p = none → Q (.ref p) (upd H p (.tup [.int (i / j), .int (i % j)]))) := fun S H vs ds z Q s n r e q => by
  unfold divmodF at e
  split at e
  · split at e
    · rename_i h
      cases e
      obtain ⟨v, u, rfl, rv, ru⟩ := r.two
      rw [rv.int, ru.int]
      refine ⟨_, _, rfl, h, fun p hp => ?_⟩
      exact q _ _ _ (Gro.new s n hp (by intro ps z; cases z)) (.tup (.inl (.inl upd_same)) (.cons (.int _) (.cons (.int _) .nil)))
    · cases e
  · cases e
/-- all of them ints -/
def intsD : List PyData → Option (List Int)
  | [] => some []
  | .int i :: r => (intsD r).bind fun is => some (i :: is)
  | _ => none
theorem intsD_eq : ∀ {ds : List PyData} {ns : List Int}, intsD ds = some ns → ds = ns.map PyData.int
  | [], _, h => by cases h; rfl
  | d :: r, ns, h => by
    cases d with
    | int i =>
      obtain ⟨is, e1, e2⟩ := Option.bind_eq_some_iff.mp (show (intsD r).bind _ = some ns from h)
      cases e2
      rw [intsD_eq e1]; rfl
    | _ => cases h
def sumF : List PyData → Option PyData
  | [.list xs] => (intsD xs).bind fun ns => some (.int ns.sum)
  | _ => none
theorem val_sum : ValN K sumF (rSum K) := fun S H vs ds z Q s n r e q => by
  unfold sumF at e
  split at e
  · obtain ⟨ns, e1, e2⟩ := Option.bind_eq_some_iff.mp e
    cases e2
    obtain ⟨v, rfl, rv⟩ := r.one
    obtain ⟨a, us, rfl, h, rl⟩ := rv.list s
    rw [intsD_eq e1] at rl
    rw [rl.ints_of] at h
    exact ⟨a, ns, rfl, .inl h, q _ S H (Gro.refl s n) (.int _)⟩
  · cases e
section
variable {X : Cx} {T : List Addr} {pos p p2 pos2 : Pos} {a b : Expr} {ga gb : GE}
def listRgF (ga : GE) : GE := fun lo => (ga lo).bind fun p => match p.1 with
  | .int n => if small62 n = true ∧ n.toNat ≤ 2 ^ 24 then some (.list (rgL 0 n), p.2) else none
  | _ => none
theorem rgV_rq {S : Hp} {lo hi : Int} : RqL K S (rgV lo hi) (rgL lo hi) := by
  unfold rgV rgL
  have : ∀ l : List Nat, RqL K S (l.map fun i => V.int (lo + (i : Nat))) (l.map fun i => PyData.int (lo + (i : Nat))) := fun l => by
    induction l with
    | nil => exact .nil
    | cons x r ih => exact .cons (.int _) ih
  exact this _
theorem ev_listRg (hc : X.calm = true) (hg : Gl X "list") (hm : X.mg "list" = none) (hg2 : Gl X "range") (hm2 : X.mg "range" = none) (ha : PE X a (tE X.K T ga)) (na : starEach [a] X.env = (false, eval a X.env) :: starEach [] X.env := by rfl)
    (nb : starEach [.Call (.Name "range" p2) [a] [] pos2] X.env = (false, eval (.Call (.Name "range" p2) [a] [] pos2) X.env) :: starEach [] X.env := by rfl) : PE X (.Call (.Name "list" p) [.Call (.Name "range" p2) [a] [] pos2] [] pos) (tE X.K T (listRgF ga)) := by
  refine pe_imp (pe_listRg hc hg hm (prg_1 hg2 hm2 ha na) nb) fun σ H Q w => ?_
  obtain ⟨S, lo, st, at', z, lo', e, q⟩ := w
  obtain ⟨y, e1, e2⟩ := Option.bind_eq_some_iff.mp e
  refine ⟨S, lo, st, at', y.1, y.2, e1, fun v S1 H1 st1 r1 x1 => ?_⟩
  split at e2
  · rename_i n hn
    split at e2
    · rename_i hb
      cases e2
      rw [hn] at r1
      cases r1
      obtain ⟨b1, b2⟩ := small62_iff.mp hb.1
      refine ⟨n, rfl, ⟨by decide, by decide, b1, b2, by rw [Int.sub_zero]; exact hb.2⟩, fun c hc => ?_⟩
      have g := Gro.new (u := .lst (rgV 0 n)) st1.sub st1.noT hc (by intro ps z; cases z)
      exact q _ _ _ (st1.gro g) (.lst (.inl upd_same) rgV_rq) (x1.trans g.ext)
    · cases e2
  · cases e2
end
end Ev
namespace Ev
open PySem PySem.Spec PyProof.Rows L2 Tb
variable {K : PySem.W.Frag}
abbrev GL := Lo → Option (List PyData × Lo)
/-- a new list, that nothing else holds -/
def tL (K : PySem.W.Frag) (T : List Addr) (g : GL) : TE := fun σ H Q => ∃ S lo, Stt K S H σ lo ∧ AllT T H ∧ ∃ xs lo', g lo = some (xs, lo') ∧
  ∀ a us S' H', Stt K S' H' σ lo' → H' a = some (.lst us) → RqL K S' us xs → S' a = none → ¬ Own σ lo' a → (Own σ lo a ∨ Fz H a) → Ext (Own σ lo) S H S' H' (Own σ lo') → Q (.ref a) H'
section
variable {S H S' H' : Hp} {σ : L2.St} {lo : Lo}
/-- a name is given such a list -/
theorem Stt.setO (s : Stt K S H σ lo) {i : Nat} {a : Addr} {us : HO} {xs : OwnO} (h : H a = some us) (r : RepO K S us xs) (sa : S a = none) (no : ¬ Own σ lo a) :
    Stt K S H (σ.set i (some (.ref a))) (lo.set i (some (.own xs))) ∧ ∀ b, Own (σ.set i (some (.ref a))) (lo.set i (some (.own xs))) b → Own σ lo b ∨ b = a := by
  have oth : ∀ j b, OwnAt (σ.set i (some (.ref a))) (lo.set i (some (.own xs))) j b → (j ≠ i ∧ OwnAt σ lo j b) ∨ (j = i ∧ b = a) := fun j b ⟨h1, ys, h2⟩ => by
    by_cases q : j = i
    · subst q
      by_cases hj : j < σ.length
      · rw [List.getElem?_set_self hj] at h1
        cases h1
        exact .inr ⟨rfl, rfl⟩
      · rw [List.getElem?_eq_none (by rw [List.length_set]; omega)] at h1
        cases h1
    · rw [List.getElem?_set_ne (Ne.symm q)] at h1 h2
      exact .inl ⟨q, h1, ys, h2⟩
  refine ⟨⟨s.sub, s.noT, by rw [List.length_set, List.length_set]; exact s.len, fun j l e => ?_, fun j b o => ?_, fun j k b h1 h2 => ?_⟩, fun b ⟨j, o⟩ => (oth j b o).elim (fun z => .inl ⟨j, z.2⟩) fun z => .inr z.2⟩
  · by_cases q : j = i
    · subst q
      have hj : j < lo.length := by
        have := (List.getElem?_eq_some_iff.mp e).1
        rwa [List.length_set] at this
      rw [List.getElem?_set_self hj] at e
      cases e
      exact ⟨_, List.getElem?_set_self (by rw [← s.len]; exact hj), a, us, rfl, h, r⟩
    · rw [List.getElem?_set_ne (Ne.symm q)] at e
      obtain ⟨w, ew, rr⟩ := s.loc j l e
      exact ⟨w, by rw [List.getElem?_set_ne (Ne.symm q)]; exact ew, rr⟩
  · rcases oth j b o with z | z
    · exact s.own j b z.2
    · rw [z.2]; exact sa
  · rcases oth j b h1 with z | z <;> rcases oth k b h2 with y | y
    · exact s.inj j k b z.2 y.2
    · exact absurd ⟨j, by rw [← y.2]; exact z.2⟩ no
    · exact absurd ⟨k, by rw [← z.2]; exact y.2⟩ no
    · exact z.1.trans y.1.symm
theorem Stt.setL (s : Stt K S H σ lo) {i : Nat} {a : Addr} {us : List V} {xs : List PyData} (h : H a = some (.lst us)) (r : RqL K S us xs) (sa : S a = none) (no : ¬ Own σ lo a) :
    Stt K S H (σ.set i (some (.ref a))) (lo.set i (some (.lst xs))) ∧ ∀ b, Own (σ.set i (some (.ref a))) (lo.set i (some (.lst xs))) b → Own σ lo b ∨ b = a := s.setO h (.lst r) sa no
theorem Ext.more {F F1 F2 : Addr → Prop} (x : Ext F S H S' H' F1) {a : Addr} (f : F a ∨ Fz H a) (h : ∀ b, F2 b → F1 b ∨ b = a) : Ext F S H S' H' F2 :=
  ⟨x.keep, x.tab, x.sub, x.domS, fun b hb => (h b hb).elim (x.domF b) fun z => z ▸ f⟩
end
section
variable {X : Cx} {T : List Addr} {pos p p2 pos2 : Pos} {pin : Bool} {a b e : Expr} {es : List Expr} {g ga gb : GE} {ga' : GA} {gl gl' : GL}
/-- [..] -/
def lstL (g : GA) : GL := fun lo => (g lo).bind fun p => if p.1.length ≤ sizeLine then some (p.1, p.2) else none
theorem el_lst (h : PA X es (tAr X.K T ga')) : PE X (.List es pos) (tL X.K T (lstL ga')) := by
  refine pe_imp (pe_lst h) fun σ H Q w => ?_
  obtain ⟨S, lo, st, at', x, lo', e, q⟩ := w
  obtain ⟨y, e1, e2⟩ := Option.bind_eq_some_iff.mp e
  split at e2
  · rename_i hz
    cases e2
    refine ⟨S, lo, st, at', y.1, y.2, e1, fun vs S1 H1 st1 r1 x1 => ⟨by rw [r1.length]; exact hz, fun c hc => ?_⟩⟩
    obtain ⟨n1, n2⟩ := st1.not_new hc
    exact q c vs S1 _ (st1.lay hc) upd_same r1 n2 n1 (x1.fz (fz_none hc)) (x1.trans (Ext.lay hc))
  · cases e2
/-- name = such a list -/
def asgL (g : GL) (i : Nat) : GS := fun lo => (g lo).bind fun p => some (.nx, p.2.set i (some (.lst p.1)))
theorem es_asgL {tg : Expr} {i : Nat} (he : PE X e (tL X.K T gl)) (hg : PG X tg (gName i)) (hp : pin = true → i ≠ 0) (hs : swapsWithSole [tg] e pos.line X.env = pure false := by rfl) (hw : swappedStores [tg] e X.env = pure none := by rfl)
    (h1 : (assignEach [tg] X.env).map (·.2) = [assign tg X.env] := by rfl) : PS X (.Assign [tg] e pos) (tS X.K T pin (asgL gl i)) := by
  refine ps_imp (ps_asg he hg hs hw h1) fun D σ H w => ?_
  obtain ⟨S, lo, st, at', o, lo', e, q⟩ := w
  obtain ⟨y, e1, e2⟩ := Option.bind_eq_some_iff.mp e
  cases e2
  refine ⟨S, lo, st, at', y.1, y.2, e1, fun c us S1 H1 st1 h1 r1 n1 n2 f1 x1 => ?_⟩
  obtain ⟨st2, o2⟩ := st1.setL (i := i) h1 r1 n1 n2
  exact q _ S1 H1 st2 (x1.more f1 o2) fun z => by rw [List.getElem?_set_ne (hp z)]
def par2 (g k : GE) (i j : Nat) : GS := fun lo => (g lo).bind fun p => (k p.2).bind fun q => some (.nx, (q.2.set i (some (.dat p.1))).set j (some (.dat q.1)))
def parEL (g : GE) (k : GL) (i j : Nat) : GS := fun lo => (g lo).bind fun p => (k p.2).bind fun q => some (.nx, (q.2.set i (some (.dat p.1))).set j (some (.lst q.1)))
def parLE (g : GL) (k : GE) (i j : Nat) : GS := fun lo => (g lo).bind fun p => (k p.2).bind fun q => some (.nx, (q.2.set i (some (.lst p.1))).set j (some (.dat q.1)))
theorem set2_pin {σ : L2.St} {i j : Nat} {u v : Option V} (hp : pin = true → i ≠ 0 ∧ j ≠ 0) : pin = true → ((σ.set i u).set j v)[0]? = σ[0]? := fun z => by
  rw [List.getElem?_set_ne (hp z).2, List.getElem?_set_ne (hp z).1]
section
variable {i j : Nat} {x y : Str} {px py pt pt2 : Pos} {kt k2 : Nat}
theorem es_par {st : Stmt} (hs : PS X st (tPar i j (tCons (tE X.K T ga) (tCons (tE X.K T gb) tNil)))) (hp : pin = true → i ≠ 0 ∧ j ≠ 0) : PS X st (tS X.K T pin (par2 ga gb i j)) := by
  refine ps_imp hs fun D σ H w => ?_
  obtain ⟨S, lo, st, at', o, lo', e, q⟩ := w
  obtain ⟨y, e1, e2⟩ := Option.bind_eq_some_iff.mp e
  obtain ⟨z, e3, e4⟩ := Option.bind_eq_some_iff.mp e2
  cases e4
  refine ⟨S, lo, st, at', y.1, y.2, e1, fun v S1 H1 st1 r1 x1 => ⟨S1, y.2, st1, at'.ext x1, z.1, z.2, e3, fun u S2 H2 st2 r2 x2 => ⟨v, u, rfl, ?_⟩⟩⟩
  obtain ⟨st3, o3⟩ := st2.set (i := i) (Rq.sub x2.sub r1)
  obtain ⟨st4, o4⟩ := st3.set (i := j) r2
  exact q _ S2 H2 st4 ((x1.trans x2).shrink fun a h => o3 a (o4 a h)) (set2_pin hp)
theorem es_parEL {st : Stmt} (hs : PS X st (tPar i j (tCons (tE X.K T ga) (tCons (tL X.K T gl) tNil)))) (hp : pin = true → i ≠ 0 ∧ j ≠ 0) : PS X st (tS X.K T pin (parEL ga gl i j)) := by
  refine ps_imp hs fun D σ H w => ?_
  obtain ⟨S, lo, st, at', o, lo', e, q⟩ := w
  obtain ⟨y, e1, e2⟩ := Option.bind_eq_some_iff.mp e
  obtain ⟨z, e3, e4⟩ := Option.bind_eq_some_iff.mp e2
  cases e4
  refine ⟨S, lo, st, at', y.1, y.2, e1, fun v S1 H1 st1 r1 x1 => ⟨S1, y.2, st1, at'.ext x1, z.1, z.2, e3, fun c us S2 H2 st2 h2 r2 n1 n2 f2 x2 => ⟨v, .ref c, rfl, ?_⟩⟩⟩
  obtain ⟨st3, o3⟩ := st2.set (i := i) (Rq.sub x2.sub r1)
  obtain ⟨st4, o4⟩ := st3.setL (i := j) h2 r2 n1 (fun h => n2 (o3 c h))
  refine q _ S2 H2 st4 ((x1.trans x2).more ?_ fun b h => (o4 b h).imp (o3 b) id) (set2_pin hp)
  rcases f2 with h | h
  · exact x1.domF c h
  · exact x1.fz h
end
theorem Stt.putO {K : PySem.W.Frag} {S H : Hp} {σ : L2.St} {lo : Lo} (s : Stt K S H σ lo) {i : Nat} {a : Addr} {xs ys : OwnO} {us ws : HO} (e : lo[i]? = some (some (.own xs))) (eσ : σ[i]? = some (some (.ref a))) (hH : H a = some us) (nt : ∀ ps, us ≠ .tbl ps) (r : RepO K S ws ys) :
    Stt K S (upd H a ws) σ (lo.set i (some (.own ys))) ∧ Ext (Own σ lo) S H S (upd H a ws) (Own σ (lo.set i (some (.own ys)))) := by
  have oa : OwnAt σ lo i a := ⟨eσ, _, e⟩
  have sa := s.own i a oa
  have x : Ext (· = a) S H S (upd H a ws) (· = a) := ⟨fun b o n h _ => by rw [upd_ne n]; exact h, fun P t => by
    obtain ⟨ps, h1, h2⟩ := t
    have ne : P ≠ a := fun z => by rw [z, hH] at h1; exact nt ps (Option.some.inj h1)
    exact ⟨ps, by rw [upd_ne ne]; exact h1, h2⟩, Sub.refl _, fun _ h => .inl h, fun _ h => .inl h⟩
  refine s.calledO e eσ x (fun b o h => ?_) s.noT sa ⟨ws, upd_same, r⟩
  rw [upd_ne (ne_of_none h sa)]
  exact s.sub _ _ h
theorem Stt.put {K : PySem.W.Frag} {S H : Hp} {σ : L2.St} {lo : Lo} (s : Stt K S H σ lo) {i : Nat} {a : Addr} {xs ys : List PyData} {us ws : List V} (e : lo[i]? = some (some (.lst xs))) (eσ : σ[i]? = some (some (.ref a))) (hH : H a = some (.lst us)) (r : RqL K S ws ys) :
    Stt K S (upd H a (.lst ws)) σ (lo.set i (some (.lst ys))) ∧ Ext (Own σ lo) S H S (upd H a (.lst ws)) (Own σ (lo.set i (some (.lst ys)))) := s.putO e eσ hH (fun ps z => by cases z) (.lst r)
/-- a list of one's own -/
def ownL (i : Nat) (lo : Lo) : Option (List PyData) := match lo[i]? with
  | some (some (.own (.lst xs))) => some xs
  | _ => none
theorem Stt.readL {K : PySem.W.Frag} {S H : Hp} {σ : L2.St} {lo : Lo} {i : Nat} {xs : List PyData} (st : Stt K S H σ lo) (e : ownL i lo = some xs) : lo[i]? = some (some (.lst xs)) ∧ ∃ a us, σ[i]? = some (some (.ref a)) ∧ H a = some (.lst us) ∧ RqL K S us xs := by
  unfold ownL at e
  split at e
  · rename_i y hy
    cases e
    obtain ⟨v, ev, a, us, rfl, h, r⟩ := st.locL hy
    exact ⟨hy, a, us, ev, h, r⟩
  · cases e
/-- name.append(e) -/
def appS (i : Nat) (g : GE) : GE := fun lo => (ownL i lo).bind fun _ => (g lo).bind fun p => match p.2[i]? with
  | some (some (.own (.lst xs))) => if xs.length < sizeLine then some (.none, p.2.set i (some (.lst (xs ++ [p.1])))) else none
  | _ => none
theorem ev_append {ap cp : Pos} {i : Nat} (hv : PE X b (tVar i)) (ha : PE X a (tE X.K T ga)) (hbase : attributeBase b "append" X.env (eval b X.env) = eval b X.env := by rfl)
    (hfew : ((backTo cp (starEach [a] X.env)).all (fun x => !x.1) && (backToKw cp (keywordEach [] X.env)).all (fun x => x.1.isSome) && decide ([a].length + ([] : List Keyword).length + (if ([] : List Keyword).isEmpty then 0 else 1) < 30)) = true := by rfl)
    (hline : (ap.endLine == cp.line) = true := by rfl) (hs : starEach [a] X.env = (false, eval a X.env) :: starEach [] X.env := by rfl) : PE X (.Call (.Attribute b "append" ap) [a] [] cp) (tE X.K T (appS i ga)) := by
  refine pe_imp (pe_bm PySem.F.plainAttrs_list PySem.F.slot_list_append PySem.F.type_list_append mt_append hv (pa_cons ha pa_nil hs) hbase hfew hline hs rfl) fun σ H Q w => ?_
  obtain ⟨S, lo, st, at', x, lo', e, q⟩ := w
  obtain ⟨y0, e0, e⟩ := Option.bind_eq_some_iff.mp e
  obtain ⟨p, e1, e2⟩ := Option.bind_eq_some_iff.mp e
  obtain ⟨_, c0, us0, ev0, h0, _⟩ := st.readL e0
  split at e2
  · rename_i xs hx
    split at e2
    · rename_i hz
      cases e2
      refine ⟨.ref c0, ev0, .inl ⟨rfl, us0, .inl (.inl h0)⟩, S, lo, st, at', p.1, p.2, e1, fun v S1 H1 st1 r1 x1 => ?_⟩
      obtain ⟨w, ev, c, us, rfl, h, r⟩ := st1.locL hx
      rw [ev0] at ev
      cases ev
      refine ⟨c0, us, v, rfl, rfl, h, by rw [r.length]; exact hz, ?_⟩
      obtain ⟨st2, x2⟩ := st1.put hx ev0 h (r.app (.cons r1 .nil))
      exact q .non S1 _ st2 .non (x1.trans x2)
    · cases e2
  · cases e2
/-- name[k] = e -/
def stoS (i : Nat) (g gk : GE) : GS := fun lo => (g lo).bind fun p => (ownL i p.2).bind fun _ => (gk p.2).bind fun k => match k.1, k.2[i]? with
  | .int z, some (some (.own (.lst xs))) => (ixN xs.length z).bind fun j => some (.nx, k.2.set i (some (.lst (xs.set j p.1))))
  | _, _ => none
theorem es_store {k : Expr} {sp : Pos} {i : Nat} {gk : GE} (he : PE X e (tE X.K T g)) (hv : PE X b (tVar i)) (hk : PE X k (tE X.K T gk)) (ha : ∀ v, assign (.Subscript b k sp) X.env v = (do
      let ov ← holding [v] (eval b X.env)
      let iv ← holding [v, ov] (eval k X.env)
      standAt sp
      holding [v, ov, iv] (setItem ov iv v)
      release [v, ov, iv] []) := by intro _; rfl) (hs : swapsWithSole [.Subscript b k sp] e pos.line X.env = pure false := by rfl) (hw : swappedStores [.Subscript b k sp] e X.env = pure none := by rfl)
    (h1 : (assignEach [.Subscript b k sp] X.env).map (·.2) = [assign (.Subscript b k sp) X.env] := by rfl) : PS X (.Assign [.Subscript b k sp] e pos) (tS X.K T pin (stoS i g gk)) := by
  refine ps_imp (ps_asg he (pg_sub hv hk set_list ha) hs hw h1) fun D σ H w => ?_
  obtain ⟨S, lo, st, at', o, lo', e, q⟩ := w
  obtain ⟨p, e1, e2⟩ := Option.bind_eq_some_iff.mp e
  obtain ⟨y0, e0, e2⟩ := Option.bind_eq_some_iff.mp e2
  obtain ⟨y, e3, e4⟩ := Option.bind_eq_some_iff.mp e2
  split at e4
  · rename_i z xs hz hx
    obtain ⟨j, e5, e6⟩ := Option.bind_eq_some_iff.mp e4
    cases e6
    refine ⟨S, lo, st, at', p.1, p.2, e1, fun v S1 H1 st1 r1 x1 => ?_⟩
    obtain ⟨_, c, us, evc, hc, rc⟩ := st1.readL e0
    refine ⟨.ref c, evc, S1, p.2, st1, at'.ext x1, y.1, y.2, e3, fun u S2 H2 st2 r2 x2 => ?_⟩
    rw [hz] at r2
    cases r2
    obtain ⟨w, ev, c2, us2, rfl, h2, rl2⟩ := st2.locL hx
    rw [evc] at ev
    cases ev
    refine ⟨c, us2, z, j, rfl, rfl, h2, by rw [rl2.length]; exact e5, ?_⟩
    obtain ⟨st3, x3⟩ := st2.put hx evc h2 (RqL.set (Rq.sub x2.sub r1) j rl2)
    exact q σ S2 _ st3 ((x1.trans x2).trans x3) fun _ => rfl
  · cases e4
/-- a target name[k], k written -/
def subG (i : Nat) (k : Int) : GG := fun x lo => match lo[i]? with
  | some (some (.own (.lst xs))) => (ixN xs.length k).bind fun j => some (lo.set i (some (.lst (xs.set j x))))
  | _ => none
theorem eg_sub {i : Nat} {k : Int} : TGt K pin (gSub (tVar i) (tC (.int k)) rSetL) (subG i k) := fun v x σ H Q S lo lo' st r e q => by
  unfold subG at e
  split at e
  · rename_i xs hx
    obtain ⟨j, e5, e6⟩ := Option.bind_eq_some_iff.mp e
    cases e6
    obtain ⟨w, ev, c, us, rfl, h, rl⟩ := st.locL hx
    refine ⟨.ref c, ev, c, us, k, j, rfl, rfl, h, by rw [rl.length]; exact e5, ?_⟩
    obtain ⟨st3, x3⟩ := st.put hx ev h (RqL.set r j rl)
    exact q σ _ st3 x3 fun _ => rfl
  · cases e
def setLcS (g : GE) (i : Nat) : GS := fun lo => (g lo).bind fun p => some (.nx, p.2.set i (some (.dat p.1)))
theorem es_setE {st : Stmt} {i : Nat} {t : TE} (h : PS X st (tAsg t (gName i))) (ht : ∀ σ H Q, tE X.K T g σ H Q → t σ H Q) (hp : pin = true → i ≠ 0) : PS X st (tS X.K T pin (setLcS g i)) := by
  refine ps_imp h fun D σ H w => ?_
  obtain ⟨S, lo, st, at', o, lo', e, q⟩ := w
  obtain ⟨p, e1, e2⟩ := Option.bind_eq_some_iff.mp e
  cases e2
  refine ht σ H _ ⟨S, lo, st, at', p.1, p.2, e1, fun v S1 H1 st1 r1 x1 => ?_⟩
  obtain ⟨st2, o2⟩ := st1.set (i := i) r1
  exact q _ S1 H1 st2 (x1.shrink o2) fun z => by rw [List.getElem?_set_ne (hp z)]
end
end Ev
namespace Tb
open PySem PySem.Spec PyProof.Rows L2
def txt (y : Int × Value) : Str := match y.2 with
  | .str z _ => z
  | _ => ⟨#[]⟩
def IsTx (w : World) (y : Int × Value) : Prop := ∃ z tk, y.2 = Value.str z tk ∧ y.1 = hashStr w z
/-- the set of texts at a, ms its members -/
def TxR (w : World) (h : Heap) (a : Addr) (ms : List Str) : Prop := ∃ ob rows epoch tab, h.get? a = some ob ∧ ob.ExactSet ∧ ob.data = .set rows epoch tab ∧ (∀ y ∈ rows.toList, IsTx w y) ∧ (rows.toList.map txt).Perm ms ∧ ms.Nodup ∧ ms.length < scanBound ∧
  tab.fits rows.size = true ∧ Ris tab.place.toList ∧ (w.params.followText "set-order" = true ∨ tab.led = true)
def putX (ms : List Str) (z : Str) : List Str := if z ∈ ms then ms else ms ++ [z]
theorem putX_len (ms : List Str) (z : Str) : (putX ms z).length ≤ ms.length + 1 := by
  unfold putX; split
  · omega
  · simp
theorem putX_nd {ms : List Str} {z : Str} (h : ms.Nodup) : (putX ms z).Nodup := by
  unfold putX; split
  · exact h
  · rename_i hz
    exact List.nodup_append.mpr ⟨h, by simp, fun x hx y hy e => by
      rw [List.mem_singleton] at hy
      exact hz (by rw [← hy, ← e]; exact hx)⟩
theorem putX_mem {ms : List Str} {z y : Str} : y ∈ putX ms z ↔ y ∈ ms ∨ y = z := by
  unfold putX; split
  · rename_i hz
    exact ⟨.inl, fun h => h.elim id fun e => e ▸ hz⟩
  · simp
theorem TxR.at {w : World} {h h' : Heap} {a : Addr} {ms : List Str} (R : TxR w h a ms) (k : ∀ o, h.get? a = some o → h'.get? a = some o) : TxR w h' a ms := by
  obtain ⟨ob, rows, epoch, tab, ho, r⟩ := R
  exact ⟨ob, rows, epoch, tab, k ob ho, r⟩
theorem TxR.size {w : World} {rows : Array (Int × Value)} {ms : List Str} (p : (rows.toList.map txt).Perm ms) : rows.size = ms.length := by
  have := p.length_eq
  rwa [List.length_map, Array.length_toList] at this
section
variable {P : Program} {w : World} {A : Around} {E : Value → Shared → Prop} {s : Shared} {a : Addr} {ms : List Str}
theorem tx_elems {l : List (Int × Value)} (g : ∀ y ∈ l, IsTx w y) : ElemsOf (strKind P w) l := fun y hy => by
  obtain ⟨z, tk, e1, e2⟩ := g y hy
  exact ⟨⟨z, by rw [e1]; exact strKind_is P w z tk, e2⟩, by rw [e1]; rfl⟩
theorem tx_is {y : Int × Value} (g : IsTx w y) (z : Str) : (strKind P w).is z y.2 = true ↔ txt y = z := by
  obtain ⟨z0, tk, e1, _⟩ := g
  have h0 := (strKind P w).is_eq_decide (k := z0) (v := y.2) (by rw [e1]; exact strKind_is P w z0 tk) z
  rw [h0, decide_eq_true_eq]
  unfold txt
  rw [e1]
  exact ⟨fun e => e.symm, fun e => e.symm⟩
theorem tx_laid {g : Bool → Sem Unit} (hg : ∀ (b : Bool) (s1 : Shared) (R : Unit → Shared → Prop), R () s1 → wpAny (model P w) A (g b) R E s1)
    {ob : Obj} {rows rows1 : Array (Int × Value)} {epoch : Nat} {tab tab1 : SetTable} {ns : List Str} (ho : s.heap.get? a = some ob) (hx : ob.ExactSet) (hd : ob.data = .set rows epoch tab)
    (g1 : ∀ y ∈ rows1.toList, IsTx w y) (p1 : (rows1.toList.map txt).Perm ns) (nd1 : ns.Nodup) (b1 : ns.length < scanBound) (f1 : tab1.fits rows1.size = true) (r1 : Ris tab1.place.toList)
    (l1 : w.params.followText "set-order" = true ∨ tab1.led = true) {wd : Bool} {R : Option Bool → Shared → Prop} (hR : ∀ h', Heap.SameBut a s.heap h' → TxR w h' a ns → R (some true) { s with heap := h' }) :
    wpAny (model P w) A (do
        storeSet a rows1 tab1
        if (!wd && tab1.tooFull) = true then do
            g (relayAll tab1 rows1 (SetTable.grown rows1.size)).2.2
            storeSet a (relayAll tab1 rows1 (SetTable.grown rows1.size)).1 (relayAll tab1 rows1 (SetTable.grown rows1.size)).2.1
            pure (some true)
          else pure (some true)) R E s := by
  have sz1 : rows1.size = ns.length := TxR.size (w := w) p1
  have small1 : rows1.size < scanBound := by rw [sz1]; exact b1
  refine wpAny_bind (wpAny_storeSet_of ho hd ?_ (fits_of_scanBound small1))
  have at1 := store_at (es' := rows1) (t' := tab1) ho hd
  have same1 := Heap.SameBut.update s.heap a (Obj.putSet rows1 tab1)
  split
  · have q1 := relayAll_perm tab1 rows1 (SetTable.grown rows1.size)
    have q2 := relayAll_fits tab1 rows1 (SetTable.grown rows1.size)
    have q3 := relayAll_ris tab1 rows1 (SetTable.grown rows1.size)
    have q4 := relayAll_led tab1 rows1 (SetTable.grown rows1.size)
    generalize relayAll tab1 rows1 (SetTable.grown rows1.size) = RA at q1 q2 q3 q4 ⊢
    obtain ⟨rows2, tab2, gv⟩ := RA
    dsimp only at q1 q2 q3 q4 ⊢
    have p2 : (rows2.toList.map txt).Perm ns := (q1.map txt).trans p1
    have small2 : rows2.size < scanBound := by rw [TxR.size (w := w) p2]; exact b1
    refine wpAny_bind (hg _ _ _ ?_)
    refine wpAny_bind (wpAny_storeSet_of at1 rfl ?_ (fits_of_scanBound small2))
    have at2 := store_at (es' := rows2) (t' := tab2) at1 rfl
    exact wpAny_pure (hR _ (same1.trans (Heap.SameBut.update _ a _)) ⟨_, rows2, _, tab2, at2, hx, rfl, fun y hy => g1 y (q1.mem_iff.mp hy), p2, nd1, b1, q2, q3, l1.imp id fun z => by rw [q4]; exact z⟩)
  · exact wpAny_pure (hR _ same1 ⟨_, rows1, _, tab1, at1, hx, rfl, g1, p1, nd1, b1, f1, r1, l1⟩)
theorem tx_add {z : Str} {tk : Tok} {Q : Bool → Shared → Prop} (R : TxR w s.heap a ms) (room : ms.length + 1 < scanBound) (hQ : ∀ h', Heap.SameBut a s.heap h' → TxR w h' a (putX ms z) → Q (!decide (z ∈ ms)) { s with heap := h' }) :
    wpAny (model P w) A (setAddHashed a (.str z tk) ((strKind P w).hash z)) Q E s := by
  obtain ⟨ob, rows, epoch, tab, ho, hx, hd, g, pm, nd, few, fit, ris, led⟩ := R
  have isz : (strKind P w).is z (.str z tk) = true := strKind_is P w z tk
  have scz : (Value.str z tk).scannable = true := rfl
  have els : ElemsOf (strKind P w) rows.toList := tx_elems g
  have small : rows.size < scanBound := by rw [TxR.size (w := w) pm]; exact few
  have hasz : z ∈ ms ↔ ∃ y ∈ rows.toList, (strKind P w).is z y.2 = true := by
    rw [← pm.mem_iff, List.mem_map]
    exact ⟨fun ⟨y, hy, e⟩ => ⟨y, hy, (tx_is (g y hy) z).mpr e⟩, fun ⟨y, hy, e⟩ => ⟨y, hy, (tx_is (g y hy) z).mp e⟩⟩
  unfold setAddHashed setAddHashedIn
  refine wpAny_holding (wpAny_bind (wpAny_setState_of ho hd fit ?_))
  dsimp only
  rw [byScan_of scz small els]
  simp only [↓reduceIte]
  unfold setAddByScan
  refine wpAny_bind (wpAny_bind (wpAny_rule (wpAny_bind (wpAny_setScan_of isz ho hd fit els ?_))))
  cases found : List.findIdx? (fun y => (strKind P w).is z y.2) rows.toList with
  | some j =>
    dsimp only
    obtain ⟨lt, ok, _⟩ := List.findIdx?_eq_some_iff_getElem.mp found
    have there : z ∈ ms := hasz.mpr ⟨rows.toList[j], List.getElem_mem lt, ok⟩
    have q := hQ s.heap (Heap.SameBut.refl a s.heap) ⟨ob, rows, epoch, tab, ho, hx, hd, g, by unfold putX; rw [if_pos there]; exact pm, putX_nd nd, by unfold putX; rw [if_pos there]; exact few, fit, ris, led⟩
    rw [decide_eq_true there] at q
    exact wpAny_pure (wpAny_pure q)
  | none =>
    dsimp only
    have gone : z ∉ ms := fun m => by
      obtain ⟨y, hy, e⟩ := hasz.mp m
      have := List.findIdx?_eq_none_iff.mp found y hy
      rw [e] at this
      cases this
    have gave : ∀ (b : Bool) {s1 : Shared} {R : Unit → Shared → Prop}, R () s1 → wpAny (model P w) A (match b with | true => rule "set.scan.the-table-gave-way" | false => pure ()) R E s1 := fun b s1 R q => by
      cases b
      · exact wpAny_pure q
      · exact wpAny_rule q
    have n1 := layNew_perm tab rows ((strKind P w).hash z) (.str z tk)
    have n2 := layNew_fits tab rows ((strKind P w).hash z) (.str z tk)
    have n3 := layNew_ris tab rows ((strKind P w).hash z) (.str z tk) ris
    have n4 := layNew_led tab rows ((strKind P w).hash z) (.str z tk)
    generalize layNew tab rows ((strKind P w).hash z) (.str z tk) = LN at n1 n2 n3 n4 ⊢
    obtain ⟨rows1, tab1, wd, gv⟩ := LN
    dsimp only at n1 n2 n3 n4 ⊢
    rw [Array.toList_push] at n1
    have n5 : rows1.toList.Perm (((strKind P w).hash z, Value.str z tk) :: rows.toList) := n1.trans (List.perm_append_singleton _ _)
    have ez : putX ms z = ms ++ [z] := by unfold putX; rw [if_neg gone]
    have p1 : (rows1.toList.map txt).Perm (putX ms z) := by
      rw [ez]
      refine (n5.map txt).trans ?_
      rw [List.map_cons]
      exact (List.Perm.cons z pm).trans (List.perm_append_singleton z ms).symm
    have g1 : ∀ y ∈ rows1.toList, IsTx w y := fun y hy => by
      rcases List.mem_cons.mp (n5.mem_iff.mp hy) with e | e
      · rw [e]; exact ⟨z, tk, rfl, rfl⟩
      · exact g y e
    have b1 : (putX ms z).length < scanBound := by rw [ez, List.length_append]; exact room
    have led1 : w.params.followText "set-order" = true ∨ tab1.led = true := led.imp id fun y => by rw [n4]; exact y
    have last : ∀ h', Heap.SameBut a s.heap h' → TxR w h' a (putX ms z) → Q true { s with heap := h' } := fun h' y r => by
      have q := hQ h' y r
      rw [decide_eq_false gone] at q
      exact q
    refine wpAny_bind (gave _ ?_)
    split
    · refine wpAny_bind ?_
      rw [hashByValue_scannable 8 scz]
      refine wpAny_pure (tx_laid ?_ ho hx hd g1 p1 (putX_nd nd) b1 ?_ ?_ ?_ fun h' y r => ?_)
      · intro b s1 R q
        cases b
        · exact wpAny_pure q
        · exact wpAny_rule q
      · first
        | exact n2
        | (split
           · exact SetTable.fits_plain_off n2
           · exact n2)
      · first
        | exact n3
        | (split <;> exact n3)
      · first
        | exact led1
        | (split <;> exact led1)
      · dsimp only
        exact wpAny_pure (last h' y r)
    · refine wpAny_bind (wpAny_pure ?_)
      simp only [↓reduceIte]
      refine tx_laid ?_ ho hx hd g1 p1 (putX_nd nd) b1 n2 n3 led1 fun h' y r => ?_
      · intro b s1 R q
        cases b
        · exact wpAny_pure q
        · exact wpAny_rule q
      · dsimp only
        exact wpAny_pure (last h' y r)
end
end Tb
namespace Tb
open PySem PySem.Spec PyProof.Rows L2
def addX (ms : List Str) (zs : List Str) : List Str := zs.foldl putX ms
theorem addX_nd : ∀ (zs ms : List Str), ms.Nodup → (addX ms zs).Nodup
  | [], _, h => h
  | z :: r, ms, h => addX_nd r (putX ms z) (putX_nd h)
theorem addX_mem {y : Str} : ∀ (zs ms : List Str), y ∈ addX ms zs ↔ y ∈ ms ∨ y ∈ zs
  | [], ms => by simp [addX]
  | z :: r, ms => by
    show y ∈ addX (putX ms z) r ↔ _
    rw [addX_mem r, putX_mem, List.mem_cons, or_assoc]
theorem addX_len : ∀ (zs ms : List Str), (addX ms zs).length ≤ ms.length + zs.length
  | [], ms => by simp [addX]
  | z :: r, ms => by
    have h1 := addX_len r (putX ms z)
    have h2 := putX_len ms z
    show (addX (putX ms z) r).length ≤ _
    rw [List.length_cons]
    omega
theorem tx_new {w : World} {h : Heap} {a : Addr} (ho : h.get? a = some (nso w)) : TxR w h a [] :=
  ⟨_, #[], 0, _, ho, ⟨rfl, rfl, rfl⟩, rfl, (fun y hy => by simp at hy), by simp, List.nodup_nil, by decide, rfl, List.Pairwise.nil, by
    show _ ∨ (!w.params.followText "set-order") = true
    cases h0 : w.params.followText "set-order" <;> simp⟩
theorem strs_at : ∀ {vs : List Value} {zs : List Str}, StrsAre vs zs → ∀ (i : Nat) (v : Value), vs[i]? = some v → ∃ z t, zs[i]? = some z ∧ v = .str z t := by
  intro vs zs h
  induction h with
  | nil => intro i v hv; simp at hv
  | cons x t _ ih =>
    intro i v hv
    cases i with
    | zero =>
      simp only [List.getElem?_cons_zero, Option.some.injEq] at hv
      exact ⟨_, _, rfl, hv.symm⟩
    | succ j => exact ih j v (by simpa using hv)
section
variable {P : Program} {w : World} {A : Around} {E : Value → Shared → Prop} {s : Shared}
theorem tx_loop {I : Addr} {fp wr : List Addr} {G : Array GenState → Array GenState → Prop} {n : Nat} {Pv : Nat → Value → Prop} {Sx : Nat → Shared → Prop} {R : Result → Shared → Prop}
    (W : WalksS P w A.in1 I fp wr G n Pv Sx) (D : Addr) (out : D ∉ fp) (zs : List Str) (en : n = zs.length) (room : zs.length + 1 < scanBound) (val : ∀ i v, Pv i v → ∃ z t, zs[i]? = some z ∧ v = .str z t) :
    ∀ (m i : Nat) (s : Shared), n - i = m → i ≤ n → Sx i s → TxR w s.heap D (addX [] (zs.take i)) →
      (∀ s1, Moved (D :: wr) G s s1 → TxR w s1.heap D (addX [] zs) → R (.ok (.ret .none)) s1) →
      codeAny (model P w) A (.builtin "set.update.loop" ⟨[.ref D, .ref I], []⟩) R s := by
  have ow : D ∉ wr := fun h => out (W.sub _ h)
  have up : ∀ b ∈ wr, b ∈ D :: wr := fun b hb => List.mem_cons_of_mem _ hb
  intro m
  induction m with
  | zero =>
    intro i s em hi st hS fin
    have e : i = n := by omega
    subst e
    refine codeAny_builtin F.entry_set_update_loop ?_
    rw [Around.under_plainId F.plain_set_update_loop _]
    refine (show wpAny _ A.in1 (pyNext (.ref I) >>= _) _ _ s from wpAny_bind (W.done s _ _ st fun s1 mv => ?_))
    refine (show wpAny _ A.in1 (ret Value.none) _ _ s1 from wpAny_pure (fin s1 (mv.mono up) ?_))
    rw [List.take_of_length_le (by omega)] at hS
    exact hS.at fun o q => mv.heap D o ow q
  | succ m ih =>
    intro i s em hi st hS fin
    have lt : i < n := by omega
    refine codeAny_builtin F.entry_set_update_loop ?_
    rw [Around.under_plainId F.plain_set_update_loop _]
    refine (show wpAny _ A.in1 (pyNext (.ref I) >>= _) _ _ s from wpAny_bind (W.item i s _ _ lt st fun v s1 pv st1 mv => ?_))
    obtain ⟨z, t, hz, rfl⟩ := val i v pv
    have hS1 : TxR w s1.heap D (addX [] (zs.take i)) := hS.at fun o q => mv.heap D o ow q
    refine (show wpAny _ A.in1 (holding [Value.str z t] (setAdd D (.str z t)) >>= _) _ _ s1 from wpAny_bind (wpAny_holding ?_))
    unfold setAdd
    refine wpAny_holding (wpAny_bind ((strKind P w).pyHash (k := z) (strKind_is _ _ _ _) ?_))
    have few : (addX [] (zs.take i)).length + 1 < scanBound := by
      have := addX_len (zs.take i) []
      simp only [List.length_nil, List.length_take] at this
      omega
    refine tx_add (s := { s1 with toks := s1.toks + 1 }) hS1 few fun h2 sb hS2 => ?_
    have e3 : putX (addX [] (zs.take i)) z = addX [] (zs.take (i + 1)) := by
      unfold addX
      rw [List.take_add_one, hz, List.foldl_append]
      rfl
    rw [e3] at hS2
    refine wpAny_pure ⟨plainId_quiet F.plain_set_update_loop _, ih (i + 1) _ (by omega) lt (W.frame _ s1 _ _ st1 (Nat.le_succ _) fun b hb o q => ?_) hS2 fun s9 mv9 hS9 => ?_⟩
    · rw [sb.2 b (fun h : b = D => out (by rw [← h]; exact hb))]; exact q
    · refine fin s9 (Moved.trans W.gtrans ((mv.mono up).then_heap (Nat.le_succ _) fun b o hb q => ?_) mv9) hS9
      rw [sb.2 b (fun h : b = D => hb (by rw [h]; exact List.mem_cons_self))]; exact q
theorem texts_of_list {l : Addr} {its : Array Value} (zs : List Str) {Q : Value → Shared → Prop} (h0 : A.handled = none) (hL : s.heap.IsList l its) (hI : StrsAre its.toList zs) (hB : zs.length + 1 < scanBound)
    (k : ∀ (g : Heap) (tk : Nat), TxR w g s.heap.objs.size (addX [] zs) → (∀ b o, s.heap.get? b = some o → g.get? b = some o) → Q (.ref s.heap.objs.size) { s with heap := g, toks := tk }) :
    wpAny (model P w) A (call (.type "set") [.ref l]) Q E s := by
  have size : its.size = zs.length := by
    have := StrsAre.len_eq hI
    rwa [Array.length_toList] at this
  obtain ⟨cc, tl, hmro⟩ := F.called_set.mro
  have made := F.called_set.made
  have subs := F.called_set.sub
  refine wpAny_call (codeAny_of_tree ?_)
  show wpAny _ _ (callAny (.type "set") _) _ _ _
  refine wpAny_pure ⟨Code.quiet_builtin _ (by decide +kernel), ?_⟩
  refine codeAny_builtin F.entry_type_call ?_
  rw [Around.under_plain (weight_type_call_type "set" [.ref l] []) rfl]
  have nt := F.called_set.notType
  have cr := F.called_set.canCreate
  have tc := F.typeCall_set_1 (.ref l)
  repeat (any_goals (first | assumption | wp_step))
  refine codeAny_mono (code_set_led1 (.ref l) (E := E) (Q₁ := fun u s1 => u = .ref s.heap.objs.size ∧ s1 = { s with heap := s.heap.push (nso w) }) ⟨rfl, rfl⟩) fun r s1 hr => ?_
  cases r with
  | error e => exact hr
  | ok fl =>
    cases fl with
    | ret u =>
      obtain ⟨rfl, rfl⟩ := hr
      have gS : (s.heap.push (nso w)).get? s.heap.objs.size = some (nso w) := Heap.get?_push_size _ rfl
      have tS : Shared.TypeIs { s with heap := s.heap.push (nso w) } (.ref s.heap.objs.size) "set" := ⟨_, gS, rfl⟩
      have il := F.called_set.init.lookup
      have ib := F.called_set.init.bind (.ref s.heap.objs.size)
      repeat (any_goals (first | assumption | wp_step))
      refine codeAny_mono (codeAny_call_builtin (R := wants (fun r s2 => r = .none ∧ ∃ g tk, s2 = { s with heap := g, toks := tk } ∧ TxR w g s.heap.objs.size (addX [] zs) ∧
          (∀ b o, s.heap.get? b = some o → g.get? b = some o)) E) F.called_set.init.plain F.entry_set_init (check_set_init_1 tS ?_)) fun r2 s2 hr2 => ?_
      · obtain ⟨ol, gl, cl, nl, dl⟩ := hL
        obtain ⟨lc, ld, lt, ls⟩ := ol
        simp only at cl dl
        subst cl; subst dl
        have gl' : (s.heap.push (nso w)).get? l = some { cls := .type "list", dict := ld, data := .seq its nl, slots := ls } := Heap.get?_push_of_some _ gl
        have q1 := F.sub_list_set
        have q2 := F.sub_list_frozenset
        have q3 : (Value.type "list" == Value.type "dict") = false := by decide
        have L1 : (s.heap.push (nso w)).IsList l its := ⟨_, gl', rfl, nl, rfl⟩
        unfold Builtin.«set.__init__» noKeywords Builtin.Frozenset.updateFrom
        generalize hPI : pyIter = PI
        wp_walk
        subst hPI
        refine wpAny_pyIter_list L1 ?_
        refine wpAny_bind (wpAny_runValue ?_)
        have below : l < s.heap.objs.size := Heap.lt_size gl
        have h3 : A.in1.in1.in1.handled = none := by simp [h0]
        have z1 : (s.heap.push (nso w)).objs.size = s.heap.objs.size + 1 := Heap.size_push ..
        have ne1 : l ≠ (s.heap.push (nso w)).objs.size := by
          rw [z1]; exact Nat.ne_of_lt (Nat.lt_succ_of_lt below)
        have nS : s.heap.objs.size ∉ [(s.heap.push (nso w)).objs.size, l] := by
          rw [z1]
          simp only [List.mem_cons, List.mem_singleton, List.not_mem_nil, or_false, not_or]
          exact ⟨Nat.ne_of_lt (Nat.lt_succ_self _), Nat.ne_of_gt below⟩
        have vals : ∀ (i : Nat) (v : Value), its[i]? = some v → ∃ z t, zs[i]? = some z ∧ v = .str z t := by
          intro i v hv
          exact strs_at hI i v (by rw [Array.getElem?_toList]; exact hv)
        refine tx_loop ((Walks.list h3 _ l ne1 its).toS) s.heap.objs.size nS zs size hB vals (its.size - 0) 0 _ (by omega) (Nat.zero_le _) ⟨⟨_, Heap.get?_push_size _ rfl, rfl, rfl⟩, (L1.push _)⟩ ?c0 ?c1
        case c0 => exact tx_new (show ((s.heap.push (nso w)).push (iso l)).get? s.heap.objs.size = some (nso w) from Heap.get?_push_of_some _ gS)
        case c1 =>
          intro s' mv R'
          obtain ⟨g, gg, dd, tk', os'⟩ := s'
          have e1 : gg = s.gens := mv.gens
          have e2 : dd = s.drawn := mv.drawn
          have e3 : os' = s.os := mv.os
          subst e1; subst e2; subst e3
          show wpAny _ _ _ _ _ _
          refine wpAny_pure ?_
          show wpAny _ _ (ret Value.none) _ _ _
          refine wpAny_pure ⟨rfl, g, tk', rfl, R', fun b o e => ?_⟩
          have b0 : b < s.heap.objs.size := Heap.lt_size e
          refine mv.heap b o (fun hm => ?_) (Heap.get?_push_of_some _ (Heap.get?_push_of_some _ e))
          rcases List.mem_cons.mp hm with q | q
          · exact absurd q (Nat.ne_of_lt b0)
          · rcases List.mem_cons.mp q with q | q
            · rw [z1] at q
              exact absurd q (Nat.ne_of_lt (Nat.lt_succ_of_lt b0))
            · cases q
      · cases r2 with
        | error e => exact hr2
        | ok f2 =>
          cases f2 with
          | ret r =>
            obtain ⟨rfl, g, tk, rfl, R2, kk⟩ := hr2
            repeat (any_goals (first | assumption | wp_step))
            exact k _ _ R2 kk
          | next => exact hr2.elim
          | brk => exact hr2.elim
          | cont => exact hr2.elim
    | next => exact hr.elim
    | brk => exact hr.elim
    | cont => exact hr.elim
end
end Tb
namespace Tb
open PySem PySem.Spec PyProof.Rows L2
section
variable {P : Program} {w : World} {A : Around} {E : Value → Shared → Prop} {s : Shared}
theorem texts_of_tuple {l : Addr} {its : Array Value} (zs : List Str) {Q : Value → Shared → Prop} (h0 : A.handled = none) (hL : s.heap.IsTuple l its) (hI : StrsAre its.toList zs) (hB : zs.length + 1 < scanBound)
    (k : ∀ (g : Heap) (tk : Nat), TxR w g s.heap.objs.size (addX [] zs) → (∀ b o, s.heap.get? b = some o → g.get? b = some o) → Q (.ref s.heap.objs.size) { s with heap := g, toks := tk }) :
    wpAny (model P w) A (call (.type "set") [.ref l]) Q E s := by
  have size : its.size = zs.length := by
    have := StrsAre.len_eq hI
    rwa [Array.length_toList] at this
  obtain ⟨cc, tl, hmro⟩ := F.called_set.mro
  have made := F.called_set.made
  have subs := F.called_set.sub
  refine wpAny_call (codeAny_of_tree ?_)
  show wpAny _ _ (callAny (.type "set") _) _ _ _
  refine wpAny_pure ⟨Code.quiet_builtin _ (by decide +kernel), ?_⟩
  refine codeAny_builtin F.entry_type_call ?_
  rw [Around.under_plain (weight_type_call_type "set" [.ref l] []) rfl]
  have nt := F.called_set.notType
  have cr := F.called_set.canCreate
  have tc := F.typeCall_set_1 (.ref l)
  repeat (any_goals (first | assumption | wp_step))
  refine codeAny_mono (code_set_led1 (.ref l) (E := E) (Q₁ := fun u s1 => u = .ref s.heap.objs.size ∧ s1 = { s with heap := s.heap.push (nso w) }) ⟨rfl, rfl⟩) fun r s1 hr => ?_
  cases r with
  | error e => exact hr
  | ok fl =>
    cases fl with
    | ret u =>
      obtain ⟨rfl, rfl⟩ := hr
      have gS : (s.heap.push (nso w)).get? s.heap.objs.size = some (nso w) := Heap.get?_push_size _ rfl
      have tS : Shared.TypeIs { s with heap := s.heap.push (nso w) } (.ref s.heap.objs.size) "set" := ⟨_, gS, rfl⟩
      have il := F.called_set.init.lookup
      have ib := F.called_set.init.bind (.ref s.heap.objs.size)
      repeat (any_goals (first | assumption | wp_step))
      refine codeAny_mono (codeAny_call_builtin (R := wants (fun r s2 => r = .none ∧ ∃ g tk, s2 = { s with heap := g, toks := tk } ∧ TxR w g s.heap.objs.size (addX [] zs) ∧
          (∀ b o, s.heap.get? b = some o → g.get? b = some o)) E) F.called_set.init.plain F.entry_set_init (check_set_init_1 tS ?_)) fun r2 s2 hr2 => ?_
      · obtain ⟨ol, gl, cl, nl, dl⟩ := hL
        obtain ⟨lc, ld, lt, ls⟩ := ol
        simp only at cl dl
        subst cl; subst dl
        have gl' : (s.heap.push (nso w)).get? l = some { cls := .type "tuple", dict := ld, data := .seq its nl, slots := ls } := Heap.get?_push_of_some _ gl
        have q1 := F.sub_tuple_set
        have q2 := F.sub_tuple_frozenset
        have q3 : (Value.type "tuple" == Value.type "dict") = false := by decide
        have L1 : (s.heap.push (nso w)).IsTuple l its := ⟨_, gl', rfl, nl, rfl⟩
        unfold Builtin.«set.__init__» noKeywords Builtin.Frozenset.updateFrom
        generalize hPI : pyIter = PI
        wp_walk
        subst hPI
        refine wpAny_pyIter_tuple L1 ?_
        refine wpAny_bind (wpAny_runValue ?_)
        have below : l < s.heap.objs.size := Heap.lt_size gl
        have h3 : A.in1.in1.in1.handled = none := by simp [h0]
        have z1 : (s.heap.push (nso w)).objs.size = s.heap.objs.size + 1 := Heap.size_push ..
        have ne1 : l ≠ (s.heap.push (nso w)).objs.size := by
          rw [z1]; exact Nat.ne_of_lt (Nat.lt_succ_of_lt below)
        have nS : s.heap.objs.size ∉ [(s.heap.push (nso w)).objs.size, l] := by
          rw [z1]
          simp only [List.mem_cons, List.mem_singleton, List.not_mem_nil, or_false, not_or]
          exact ⟨Nat.ne_of_lt (Nat.lt_succ_self _), Nat.ne_of_gt below⟩
        have vals : ∀ (i : Nat) (v : Value), its[i]? = some v → ∃ z t, zs[i]? = some z ∧ v = .str z t := by
          intro i v hv
          exact strs_at hI i v (by rw [Array.getElem?_toList]; exact hv)
        refine tx_loop ((Walks.tuple h3 _ l ne1 its).toS) s.heap.objs.size nS zs size hB vals (its.size - 0) 0 _ (by omega) (Nat.zero_le _) ⟨⟨_, Heap.get?_push_size _ rfl, rfl, rfl⟩, (L1.push _)⟩ ?c0 ?c1
        case c0 => exact tx_new (show ((s.heap.push (nso w)).push (isoT l)).get? s.heap.objs.size = some (nso w) from Heap.get?_push_of_some _ gS)
        case c1 =>
          intro s' mv R'
          obtain ⟨g, gg, dd, tk', os'⟩ := s'
          have e1 : gg = s.gens := mv.gens
          have e2 : dd = s.drawn := mv.drawn
          have e3 : os' = s.os := mv.os
          subst e1; subst e2; subst e3
          show wpAny _ _ _ _ _ _
          refine wpAny_pure ?_
          show wpAny _ _ (ret Value.none) _ _ _
          refine wpAny_pure ⟨rfl, g, tk', rfl, R', fun b o e => ?_⟩
          have b0 : b < s.heap.objs.size := Heap.lt_size e
          refine mv.heap b o (fun hm => ?_) (Heap.get?_push_of_some _ (Heap.get?_push_of_some _ e))
          rcases List.mem_cons.mp hm with q | q
          · exact absurd q (Nat.ne_of_lt b0)
          · rcases List.mem_cons.mp q with q | q
            · rw [z1] at q
              exact absurd q (Nat.ne_of_lt (Nat.lt_succ_of_lt b0))
            · cases q
      · cases r2 with
        | error e => exact hr2
        | ok f2 =>
          cases f2 with
          | ret r =>
            obtain ⟨rfl, g, tk, rfl, R2, kk⟩ := hr2
            repeat (any_goals (first | assumption | wp_step))
            exact k _ _ R2 kk
          | next => exact hr2.elim
          | brk => exact hr2.elim
          | cont => exact hr2.elim
    | next => exact hr.elim
    | brk => exact hr.elim
    | cont => exact hr.elim
end
end Tb
namespace Ev
open PySem PySem.Spec PyProof.Rows L2 Tb
abbrev dLe (x y : PyData) : Bool := PySem.W.dataLe false id x y
theorem dLe_eq (x y : PyData) : dLe x y = !PySem.W.dataLt y x := rfl
theorem dLt_irrefl (x : PyData) : PySem.W.dataLt x x = false := lex_irrefl (O := itemOrd) _
theorem dLt_trans {x y z : PyData} (a : PySem.W.dataLt x y = true) (b : PySem.W.dataLt y z = true) : PySem.W.dataLt x z = true := lex_trans (O := itemOrd) _ _ _ a b
theorem dLt_neg {x y z : PyData} (a : PySem.W.dataLt x z = true) : PySem.W.dataLt x y = true ∨ PySem.W.dataLt y z = true := lex_negTrans (O := itemOrd) _ _ _ a
theorem dLt_tot {x y : PyData} (a : PySem.W.dataLt x y = false) (b : PySem.W.dataLt y x = false) : PySem.W.keyToks x = PySem.W.keyToks y := lex_total (O := itemOrd) _ _ a b
theorem dLe_trans {x y z : PyData} (a : dLe x y = true) (b : dLe y z = true) : dLe x z = true := by
  rw [dLe_eq, Bool.not_eq_true'] at *
  cases h : PySem.W.dataLt z x with
  | false => rfl
  | true =>
    rcases dLt_neg (y := y) h with q | q
    · rw [b] at q; cases q
    · rw [a] at q; cases q
theorem dLe_total (x y : PyData) : (dLe x y || dLe y x) = true := by
  rw [dLe_eq, dLe_eq, Bool.or_eq_true, Bool.not_eq_true', Bool.not_eq_true']
  cases h : PySem.W.dataLt y x with
  | false => exact .inl rfl
  | true =>
    refine .inr ?_
    cases h2 : PySem.W.dataLt x y with
    | false => rfl
    | true =>
      have := dLt_trans h h2
      rw [dLt_irrefl] at this
      cases this
theorem dLe_anti {x y : PyData} (a : dLe x y = true) (b : dLe y x = true) : PySem.W.keyToks x = PySem.W.keyToks y := by
  rw [dLe_eq, Bool.not_eq_true'] at a b
  exact dLt_tot b a
theorem srtD_perm (xs : List PyData) : (srtD xs).Perm xs := List.mergeSort_perm _ _
theorem srtD_sorted (xs : List PyData) : (srtD xs).Pairwise fun x y => dLe x y = true := List.pairwise_mergeSort (le := dLe) (fun x y z a b => dLe_trans a b) dLe_total xs
theorem sorted_uniq {α : Type} {R : α → α → Prop} : ∀ {xs ys : List α}, xs.Perm ys → xs.Pairwise R → ys.Pairwise R → (∀ x ∈ xs, ∀ y ∈ xs, R x y → R y x → x = y) → xs = ys
  | [], ys, p, _, _, _ => by rw [List.nil_perm.mp p]
  | x :: xs, [], p, _, _, _ => by
    have := p.length_eq
    simp at this
  | x :: xs, y :: ys, p, a, b, anti => by
    obtain ⟨a1, a2⟩ := List.pairwise_cons.mp a
    obtain ⟨b1, b2⟩ := List.pairwise_cons.mp b
    have e : x = y := by
      rcases List.mem_cons.mp (p.subset List.mem_cons_self) with z | z
      · exact z
      · have hy : y ∈ x :: xs := p.symm.subset List.mem_cons_self
        rcases List.mem_cons.mp hy with u | u
        · exact u.symm
        · exact anti x List.mem_cons_self y hy (a1 y u) (b1 x z)
    subst e
    rw [sorted_uniq (List.Perm.cons_inv p) a2 b2 fun u hu v hv => anti u (List.mem_cons_of_mem _ hu) v (List.mem_cons_of_mem _ hv)]
/-- sorted data of which no two unlike ones read alike -/
theorem srtD_eq {xs ys : List PyData} (p : xs.Perm ys) (h : ys.Pairwise fun x y => dLe x y = true) (inj : ∀ x ∈ xs, ∀ y ∈ xs, PySem.W.keyToks x = PySem.W.keyToks y → x = y) : srtD xs = ys :=
  sorted_uniq ((srtD_perm xs).trans p) (srtD_sorted xs) h fun x hx y hy a b => inj x ((srtD_perm xs).subset hx) y ((srtD_perm xs).subset hy) (dLe_anti a b)
theorem srtD_congr {xs ys : List PyData} (p : xs.Perm ys) (inj : ∀ x ∈ xs, ∀ y ∈ xs, PySem.W.keyToks x = PySem.W.keyToks y → x = y) : srtD xs = srtD ys :=
  srtD_eq (p.trans (srtD_perm ys).symm) (srtD_sorted ys) inj
theorem toks_str {a b : Str} (h : PySem.W.keyToks (.str a) = PySem.W.keyToks (.str b)) : a = b := by
  simp only [PySem.W.keyToks, List.cons.injEq, Sum.inr.injEq, and_true] at h
  exact PySem.W.str_of_cps h
abbrev XD (zs : List Str) : List PyData := zs.map PyData.str
def sSort (zs : List Str) : List Str := zs.mergeSort fun a b => dLe (.str a) (.str b)
theorem srt_XD (zs : List Str) : srtD (XD zs) = XD (sSort zs) := by
  unfold srtD sSort
  exact (List.map_mergeSort (f := PyData.str) (r := fun a b => dLe (.str a) (.str b)) (s := PySem.W.dataLe false id) fun a _ b _ => rfl).symm
theorem XD_inj {a b : List Str} (h : XD a = XD b) : a = b := List.map_inj_right (fun _ _ e => PyData.str.inj e) |>.mp h
theorem sSort_congr {a b : List Str} (p : a.Perm b) : sSort a = sSort b := XD_inj (by
  rw [← srt_XD, ← srt_XD]
  refine srtD_congr (p.map _) fun x hx y hy h => ?_
  obtain ⟨u, _, rfl⟩ := List.mem_map.mp hx
  obtain ⟨v, _, rfl⟩ := List.mem_map.mp hy
  rw [toks_str h])
theorem sSort_perm (zs : List Str) : (sSort zs).Perm zs := List.mergeSort_perm _ _
def TxO (w : World) (a : Addr) (ms : List Str) : HO := .ext fun h => TxR w h a ms
theorem txO_new {P : Program} {w : World} {H : Hp} {h : Heap} {a : Addr} {ms : List Str} (R : TxR w h a ms) : ObjOk P w H h a (TxO w a ms) := by
  have ⟨o, _, _, _, ho, _⟩ := R
  exact ⟨R, ⟨o, ho⟩, fun h1 h2 p k => TxR.at p k⟩
def rSetX (w : World) (K : PySem.W.Frag) : List V → Hp → VK → Prop := fun vs H Q => ∃ (l : Addr) (zs : List Str), vs = [.ref l] ∧ (SqL K H l (zs.map V.str) ∨ SqT K H l (zs.map V.str)) ∧ zs.length + 1 < scanBound ∧
  ∀ p, H p = none → Q (.ref p) (upd H p (TxO w p (addX [] zs)))
theorem cr_setX {X : Cx} (hc : X.calm = true) : CallR X (.type "set") (rSetX X.w X.K) := by
  intro pins s σ H vs us Q I r h
  obtain ⟨l, zs, rfl, hl, hb, q⟩ := h
  obtain ⟨u, rfl, ru⟩ := r.one
  cases ru
  have fin : ∀ (g : Heap) (tk : Nat), TxR X.w g s.heap.objs.size (addX [] zs) → (∀ b o, s.heap.get? b = some o → g.get? b = some o) → EP X pins σ Q (.ref s.heap.objs.size) { s with heap := g, toks := tk } := fun g tk R kp =>
    ⟨.ref _, upd H s.heap.objs.size (TxO X.w s.heap.objs.size (addX [] zs)), I.laid kp (Nat.le_refl _) (txO_new R), rfl, q _ (I.hok.fresh (Nat.le_refl _))⟩
  rcases hl with hl | hl
  · obtain ⟨its, rv, p, hz⟩ := I.list hl
    exact texts_of_list zs (I.ok.hd hc) p.isList (by simpa using strsAre_of rv) hb fin
  · obtain ⟨its, rv, p, hz⟩ := I.tuple hl
    exact texts_of_tuple zs (I.ok.hd hc) p (by simpa using strsAre_of rv) hb fin
theorem strs_each : ∀ {vs : List Value} (zs : List Str), StrsAre vs zs → ∀ h : Heap, PySem.W.EachIs (fun v (z : Str) => ∃ tk, v = .str z tk) vs zs ∧ PySem.W.EachIs (fun v (z : Str) => ∃ as, Reads h v (PyData.str z) as) vs zs
  | _, _, .nil, _ => ⟨.nil, .nil⟩
  | _, _, .cons x t r, h => by
    obtain ⟨a, b⟩ := strs_each _ r h
    exact ⟨.cons ⟨_, rfl⟩ a, .cons ⟨_, .str _ _⟩ b⟩
theorem each_strs : ∀ {vs : List Value} {zs : List Str}, PySem.W.EachIs (fun v (z : Str) => ∃ tk, v = .str z tk) vs zs → Vals (zs.map V.str) vs
  | _, _, .nil => .nil
  | _, _, .cons h t => .cons h (each_strs t)
def txtV : Value → Str
  | .str z _ => z
  | _ => ⟨#[]⟩
theorem strs_txtV : ∀ {vs : List Value}, (∀ v ∈ vs, ∃ z tk, v = Value.str z tk) → StrsAre vs (vs.map txtV)
  | [], _ => .nil
  | v :: l, h => by
    obtain ⟨z, tk, rfl⟩ := h v List.mem_cons_self
    exact .cons z tk (strs_txtV fun x hx => h x (List.mem_cons_of_mem _ hx))
section
variable {prog : Program} {w : World} {A : Around} {E : Value → Shared → Prop} {s : Shared}
open PySem.W in
theorem sorted_texts {a : Addr} {ms : List Str} {Q : Value → Shared → Prop} (R : TxR w s.heap a ms) (hh : A.handled = none) (hu : A.units + 2 < cLine)
    (h : ∀ (s1 : Shared) (p : Addr) (out : List Value) (c : Nat), (∀ b o, s.heap.get? b = some o → s1.heap.get? b = some o) → s1.gens = s.gens → s1.os = s.os → s.heap.objs.size ≤ p → s1.heap.get? p = some (seqObj "list" out.toArray c) → Vals ((sSort ms).map V.str) out → Q (.ref p) s1) :
    wpAny (model prog w) A (call (.builtin "sorted") [.ref a]) Q E s := by
  obtain ⟨ob, rows, epoch, tab, ho, hx, hd, g, pm, nd, few, fit, ris, led⟩ := R
  have sz := TxR.size (w := w) pm
  refine call_function_entry_kw kind_sorted plain_sorted entry_sorted (args_sorted1 _) ?_
  unfold Builtin.«sorted»
  refine wpAny_bind (m := checkCount "sorted" 1 1 _) (wpAny_pure ?_)
  refine wpAny_bind (collect_set (A := A.in1) hh ⟨ob, ho, hx.1, hd⟩ fit (by rw [sz]; exact few) ris led fun s1 vs k1 big g1 o1 pv => ?_)
  have hlen : vs.length = ms.length := by rw [pv.length_eq, List.length_map, Array.length_toList]; exact sz
  have hle : vs.length ≤ sizeLine := by rw [hlen]; exact fits_of_scanBound few
  have shape : ∀ v ∈ vs, ∃ z tk, v = Value.str z tk := fun v hv => by
    obtain ⟨y, hy, e⟩ := List.mem_map.mp (pv.mem_iff.mp hv)
    obtain ⟨z, tk, e1, _⟩ := g y hy
    exact ⟨z, tk, by rw [← e]; exact e1⟩
  have hS : StrsAre vs (vs.map txtV) := strs_txtV shape
  have pt : (vs.map txtV).Perm ms := by
    have h1 := pv.map txtV
    rw [List.map_map] at h1
    exact h1.trans pm
  refine wpAny_bind (wpAny_newList ?_ hle)
  have at1 : (s1.heap.push (seqObj "list" vs.toArray 0)).get? s1.heap.objs.size = some (seqObj "list" vs.toArray 0) := Heap.get?_push_size _ rfl
  refine wpAny_bind (wpAny_holding (wpAny_call_entry_kw slot_list_sort ⟨_, at1, rfl⟩ entry_list_sort ?body (args_list_sort _)))
  case body =>
    obtain ⟨e1, e2⟩ := strs_each _ hS (sortingHeap (s1.heap.push (seqObj "list" vs.toArray 0)) s1.heap.objs.size vs)
    have al : AllAlike ((vs.map txtV).map PyData.str) := fun x hx y hy => by
      obtain ⟨u, _, rfl⟩ := List.mem_map.mp hx
      obtain ⟨v, _, rfl⟩ := List.mem_map.mp hy
      simp [alike]
    have sb : Sortable ((vs.map txtV).map PyData.str) := .inr fun x hx => by
      obtain ⟨u, _, rfl⟩ := List.mem_map.mp hx
      exact ⟨(fun z => by cases z), fun _ z => by cases z⟩
    refine list_sort_vals (s := { s1 with heap := s1.heap.push (seqObj "list" vs.toArray 0) }) at1 (SortsAt.data (s := { s1 with heap := sortingHeap (s1.heap.push (seqObj "list" vs.toArray 0)) s1.heap.objs.size vs }) (each_map (R := fun v d => ∃ as, Reads (sortingHeap (s1.heap.push (seqObj "list" vs.toArray 0)) s1.heap.objs.size vs) v d as) PyData.str e2) al sb (fun d hd => by
      obtain ⟨u, _, rfl⟩ := List.mem_map.mp hd
      have h1 : PyData.depth (.str u) = 0 := by simp [PyData.depth]
      rw [h1]
      have : (A.in1.in1).units ≤ A.units + 2 := Nat.le_refl _
      omega)) hle ?_
    obtain ⟨c, hc'⟩ := PyProof.Rows.sortedHeap_at (out := (sortVals (dataKind (sortingHeap (s1.heap.push (seqObj "list" vs.toArray 0)) s1.heap.objs.size vs) ((vs.map txtV).map PyData.str)) false vs vs).toArray) at1
    have eo := sortVals_data (enc := PyData.str) false e1 e2 al
    refine ⟨_, rfl, wpAny_pure ⟨_, rfl, h _ s1.heap.objs.size _ c (fun b u z => ?_) g1 o1 big hc' ?_⟩⟩
    · have q := k1 b u z
      have lt := Heap.lt_size q
      show (PyProof.Rows.sortedHeap _ _ vs _).get? b = some u
      rw [PyProof.Rows.sortedHeap_old (Nat.ne_of_lt lt) (by rw [size_push']; exact Nat.lt_succ_of_lt lt)]
      exact Heap.get?_push_of_some _ q
    · have e3 : sSort ms = (vs.map txtV).mergeSort (dataLe false PyData.str) := (sSort_congr pt).symm
      rw [e3]
      exact each_strs eo
end
def rSortX (w : World) : List V → Hp → VK → Prop := fun vs H Q => ∃ (a : Addr) (ms : List Str), vs = [V.ref a] ∧ H a = some (TxO w a ms) ∧ ∀ p, H p = none → Q (.ref p) (upd H p (.lst ((sSort ms).map V.str)))
theorem cr_sortX {X : Cx} (hc : X.calm = true) (hu : X.A.units + 2 < cLine) : CallR X (.builtin "sorted") (rSortX X.w) := by
  intro pins s σ H vs us Q I r h
  obtain ⟨a, ms, rfl, ha, q⟩ := h
  obtain ⟨u, rfl, ru⟩ := r.one
  obtain rfl : u = Value.ref a := ru
  have R : TxR X.w s.heap a ms := (I.hok a _ ha).1
  have few : ms.length < scanBound := by
    obtain ⟨_, _, _, _, _, _, _, _, _, _, few, _⟩ := R
    exact few
  refine sorted_texts R (I.ok.hd hc) hu fun s1 p out c k g o hp hg hv => ?_
  have hlen : ((sSort ms).map V.str).length ≤ sizeLine := by
    rw [List.length_map, (sSort_perm ms).length_eq]
    exact fits_of_scanBound few
  have hn : H p = none := I.hok.fresh hp
  have J : Inv X pins σ (upd H p (.lst ((sSort ms).map V.str))) { s with heap := s1.heap, gens := s1.gens, drawn := s1.drawn, toks := s1.toks } :=
    I.call (ch := []) (Un.laid k hp hn) (I.hok.laid k hp ⟨hlen, out, c, hv, hg⟩) (by rw [g]; exact I.bare) (fun _ z => nomatch z)
  have e : s1 = { s with heap := s1.heap, gens := s1.gens, drawn := s1.drawn, toks := s1.toks } := by
    cases s1
    cases s
    cases o
    rfl
  rw [e]
  exact ⟨.ref p, _, J, rfl, q p hn⟩
end Ev
namespace Ev
open PySem PySem.Spec PyProof.Rows L2 Tb
variable {K : PySem.W.Frag}
def dd {α : Type} [DecidableEq α] : List α → List α
  | [] => []
  | x :: r => if x ∈ r then dd r else x :: dd r
theorem mem_dd {α : Type} [DecidableEq α] {z : α} : ∀ {l : List α}, z ∈ dd l ↔ z ∈ l
  | [] => by simp [dd]
  | x :: r => by
    unfold dd
    split
    · rw [mem_dd, List.mem_cons]
      exact ⟨.inr, fun h => h.elim (fun e => by rw [e]; assumption) id⟩
    · rw [List.mem_cons, List.mem_cons, mem_dd]
theorem dd_nodup {α : Type} [DecidableEq α] : ∀ l : List α, (dd l).Nodup
  | [] => List.nodup_nil
  | x :: r => by
    unfold dd
    split
    · exact dd_nodup r
    · exact List.nodup_cons.mpr ⟨fun h => by rw [mem_dd] at h; contradiction, dd_nodup r⟩
/-- tuples of ints -/
def tupsD : List PyData → Option (List (List Int))
  | [] => some []
  | .tuple ds :: r => (intsD ds).bind fun ns => (tupsD r).bind fun ks => some (ns :: ks)
  | _ => none
/-- texts -/
def strsD : List PyData → Option (List Str)
  | [] => some []
  | .str z :: r => (strsD r).bind fun zs => some (z :: zs)
  | _ => none
theorem addX_perm (zs : List Str) : (addX [] zs).Perm (dd zs) := List.perm_iff_count.mpr fun z => by
  rw [(addX_nd zs [] List.nodup_nil).count, (dd_nodup zs).count]
  simp [mem_dd, addX_mem]
theorem strsD_eq : ∀ {ds : List PyData} {zs : List Str}, strsD ds = some zs → ds = XD zs
  | [], _, h => by cases h; rfl
  | d :: r, zs, h => by
    cases d with
    | str z =>
      obtain ⟨ws, e1, e2⟩ := Option.bind_eq_some_iff.mp (show (strsD r).bind _ = some zs from h)
      cases e2
      rw [strsD_eq e1]; rfl
    | _ => cases h
theorem RqL.strs_of {S : Hp} : ∀ {zs : List Str} {vs : List V}, RqL K S vs (XD zs) → vs = zs.map V.str
  | [], _, h => by cases h; rfl
  | n :: r, _, h => by
    cases h with
    | cons a b =>
      cases a
      rw [RqL.strs_of b]; rfl
theorem RqL.strs {S : Hp} : ∀ zs : List Str, RqL K S (zs.map V.str) (XD zs)
  | [] => .nil
  | z :: r => .cons (.str z) (RqL.strs r)
theorem RqL.tups {S : Hp} : ∀ {ds : List PyData} {ks : List (List Int)} {us : List V}, tupsD ds = some ks → RqL K S us ds → ∃ ps : List (Addr × List Int), us = ps.map (fun p => V.ref p.1) ∧ ks = ps.map (·.2) ∧ ∀ p ∈ ps, SqT K S p.1 (p.2.map V.int)
  | [], ks, us, h, r => by
    cases h
    cases r
    exact ⟨[], rfl, rfl, fun p hp => by simp at hp⟩
  | d :: r, ks, us, h, rr => by
    cases d with
    | tuple es =>
      obtain ⟨ns, e1, e2⟩ := Option.bind_eq_some_iff.mp (show (intsD es).bind _ = some ks from h)
      obtain ⟨k2, e3, e4⟩ := Option.bind_eq_some_iff.mp e2
      cases e4
      obtain ⟨v, vs, rfl, r1, r2⟩ : ∃ v vs, us = v :: vs ∧ Rq K S v (.tuple es) ∧ RqL K S vs r := by
        cases rr with
        | cons a b => exact ⟨_, _, rfl, a, b⟩
      obtain ⟨c, ws, rfl, ht, rl⟩ : ∃ c ws, v = .ref c ∧ SqT K S c ws ∧ RqL K S ws es := by
        cases r1 with
        | tup a b => exact ⟨_, _, rfl, a, b⟩
      rw [intsD_eq e1] at rl
      rw [rl.ints_of] at ht
      obtain ⟨ps, rfl, rfl, hp⟩ := RqL.tups e3 r2
      refine ⟨(c, ns) :: ps, rfl, rfl, fun p h => ?_⟩
      rcases List.mem_cons.mp h with z | z
      · rw [z]; exact ht
      · exact hp p z
    | _ => cases h
section
variable {X : Cx} {T : List Addr} {pos p p2 pos2 : Pos} {a : Expr} {ga : GE}
def rSetQ (X : Cx) : List V → Hp → VK → Prop := fun vs H Q => rSetL X.w X.K vs H Q ∨ rSetT X.w X.K vs H Q ∨ rSetOfT X.K X.prog X.w vs H Q ∨ rSetTT X.K X.prog X.w vs H Q ∨ rSetX X.w X.K vs H Q
theorem cr_setQ (hc : X.calm = true) (hu : X.A.units + 66 < cLine) : CallR X (.type "set") (rSetQ X) := by
  intro pins s σ H vs us Q I r h
  rcases h with h | h | h | h | h
  · exact cr_setL hc pins s σ H vs us Q I r h
  · exact cr_setT hc pins s σ H vs us Q I r h
  · exact cr_setOfT hc (by omega) pins s σ H vs us Q I r h
  · exact cr_setTT hc (by omega) pins s σ H vs us Q I r h
  · exact cr_setX hc pins s σ H vs us Q I r h
end
end Ev
namespace Ev
open PySem PySem.Spec PyProof.Rows L2 Tb
variable {K : PySem.W.Frag}
def enumD (xs : List PyData) : List PyData := xs.mapIdx fun i x => .tuple [.int (i : Nat), x]
theorem walks_e {a : Addr} {S : Hp} {vs : List V} {xs : List PyData} (h : Rd S a (.lst vs)) (r : RqL K S vs xs) : Walks K (Ite K a) S (enumD xs) := fun i S' H' s1 s2 n hi => by
  have q : SqL K H' a vs := .inl (s2.rd (s1.rd h))
  have hl : (enumD xs).length = xs.length := List.length_mapIdx
  rw [hl] at hi ⊢
  rcases Nat.lt_or_ge i xs.length with hlt | hge
  · obtain ⟨v, hv, rv⟩ := r.get' (List.getElem?_eq_getElem hlt)
    refine .inr ⟨.tuple [.int (i : Nat), xs[i]], by unfold enumD; rw [List.getElem?_mapIdx, List.getElem?_eq_getElem hlt]; rfl, ⟨vs, v, q, hv⟩, fun w H'' ⟨T, x, e1, e2, e3, e4⟩ => ?_⟩
    subst e1 e3
    have := e4 vs q
    rw [hv] at this
    cases this
    have g := Gro.new (u := .tup [V.int (i : Nat), v]) s2 n e2 (by intro ps z; cases z)
    exact ⟨_, g, .tup (.inl (.inl upd_same)) (.cons (.int _) (.cons (Rq.sub (s1.trans g.subS) rv) .nil))⟩
  · exact .inl ⟨Nat.le_antisymm hi hge, vs, q, by rw [r.length]; exact hge⟩
section
variable {X : Cx} {T : List Addr} {pos p tpos : Pos} {e : Expr} {es elts : List Expr} {g : GE} {kk : Nat}
def enumI (g : GE) : GA := fun lo => (g lo).bind fun p => match p.1 with
  | .list xs => some (enumD xs, p.2)
  | _ => none
theorem ei_enum (hg : Gl X "enumerate") (hm : X.mg "enumerate" = none) (h : PE X e (tE X.K T g)) (hs : starEach [e] X.env = (false, eval e X.env) :: starEach [] X.env := by rfl) (hs2 : starEach [e] X.env = [(false, eval e X.env)] := by rfl) : PI X (.Tuple elts kk tpos) (.Call (.Name "enumerate" p) [e] [] pos) (tI X.K T (enumI g)) := by
  refine pi_imp (pi_enum hg hm (pa_cons h pa_nil hs) hs2) fun σ H R w => ?_
  obtain ⟨S, lo, st, at', xs, lo', e, q⟩ := w
  obtain ⟨p, e1, e2⟩ := Option.bind_eq_some_iff.mp e
  refine ⟨S, lo, st, at', p.1, p.2, e1, fun v S1 H1 st1 r1 x1 => ?_⟩
  split at e2
  · rename_i ys hy
    cases e2
    rw [hy] at r1
    obtain ⟨a, us, rfl, h, rr⟩ : ∃ a us, v = .ref a ∧ Rd S1 a (.lst us) ∧ RqL X.K S1 us ys := by
      cases r1 with
      | lst h rr => exact ⟨_, _, rfl, h, rr⟩
    exact ⟨a, us, rfl, .inl (st1.sub.rd h), q _ S1 H1 st1 x1 (walks_e h rr)⟩
  · cases e2
end
def rReprD (K : PySem.W.Frag) : List V → Hp → VK → Prop := fun vs H Q => ∃ x d, vs = [x] ∧ Dp K H x d ∧ d.canLay0 = true ∧ d.showable = true ∧ d.depth ≤ 60 ∧ d.shown.length ≤ sizeLine ∧ Q (.str d.shown) H
theorem cr_reprD {X : Cx} (hu : X.A.units + 64 < cLine) (hgd : X.A.guards = some []) : CallR X (.builtin "repr") (rReprD X.K) := by
  intro pins s σ H vs us Q I r h
  obtain ⟨x, d, rfl, hx, hc, hs, hd, hz, q⟩ := h
  obtain ⟨u, rfl, ru⟩ := r.one
  obtain ⟨as, rd⟩ := Dp.reads I d x u hx ru
  have ref : ∀ a, u = .ref a → wpAny (model X.prog X.w) X.A (call (.builtin "repr") [u]) (EP X pins σ Q) X.xe s := by
    rintro a rfl
    exact repr_of_reads' (h₀ := s.heap) rd hs (PyData.noDict_hsm (PyData.hasDict_of_canLay d hc)) hgd (by omega) (fun _ _ e => e) (fun h' u tk hk => ⟨.str d.shown, H, I.kept hk, ⟨u, rfl⟩, q⟩) hz
  cases hx with
  | non => cases ru; exact PySem.P.repr_of_none ⟨.str _, H, I.tok _, ⟨_, rfl⟩, q⟩
  | bl b =>
    cases ru
    exact PySem.P.repr_of_bool ⟨.str _, H, I.tok _, ⟨_, rfl⟩, by cases b <;> exact q⟩
  | int i =>
    obtain ⟨t, rfl⟩ := ru
    exact PySem.P.repr_of_int (of_decide_eq_true hs) ⟨.str _, H, I.tok _, ⟨_, rfl⟩, q⟩
  | str y =>
    obtain ⟨t, rfl⟩ := ru
    exact PySem.P.repr_of_str ⟨.str _, H, I.tok _, ⟨_, rfl⟩, q⟩ hz
  | lst h a => exact ref _ ru
  | tup h a => exact ref _ ru
def reprOk (x : PyData) : Prop := x.canLay0 = true ∧ x.showable = true ∧ x.depth ≤ 60 ∧ x.shown.length ≤ sizeLine
instance (x : PyData) : Decidable (reprOk x) := by unfold reprOk; infer_instance
def reprF : List PyData → Option PyData
  | [x] => if reprOk x then some (.str x.shown) else none
  | _ => none
theorem val_repr : ValN K reprF (rReprD K) := fun S H vs ds z Q s n r e q => by
  unfold reprF at e
  split at e
  · split at e
    · rename_i ok
      cases e
      obtain ⟨v, rfl, rv⟩ := r.one
      exact ⟨v, _, rfl, Rq.dp ok.1 (rv.rqH s), ok.1, ok.2.1, ok.2.2.1, ok.2.2.2, q _ S H (Gro.refl s n) (.str _)⟩
    · cases e
  · cases e
def pick {α : Type} (ix : List Nat) (l : List α) : List α := ix.filterMap fun i => l[i]?
theorem vals_pick {zs : List V} {ws : List Value} (r : Vals zs ws) : ∀ ix : List Nat, Vals (pick ix zs) (pick ix ws)
  | [] => .nil
  | i :: ix => by
    have ih := vals_pick r ix
    unfold pick at ih ⊢
    rw [List.filterMap_cons, List.filterMap_cons]
    cases h : zs[i]? with
    | none =>
      have : ws[i]? = none := by
        rw [List.getElem?_eq_none_iff] at h ⊢
        rw [← r.length]; exact h
      rw [this]; exact ih
    | some z =>
      obtain ⟨u, hu, ru⟩ := r.get h
      rw [hu]
      exact .cons ru ih
theorem rqL_pick {S : Hp} {zs : List V} {xs : List PyData} (r : RqL K S zs xs) : ∀ ix : List Nat, RqL K S (pick ix zs) (pick ix xs)
  | [] => .nil
  | i :: ix => by
    have ih := rqL_pick r ix
    unfold pick at ih ⊢
    rw [List.filterMap_cons, List.filterMap_cons]
    cases h : zs[i]? with
    | none =>
      have : xs[i]? = none := by
        rw [List.getElem?_eq_none_iff] at h ⊢
        rw [← r.length]; exact h
      rw [this]; exact ih
    | some z =>
      obtain ⟨u, hu, ru⟩ := r.get h
      rw [hu]
      exact .cons ru ih
section
variable {X : Cx} {k : Nat} {f : Addr} {fd : FuncData} {ps ks : List Str} {x : Str} {p pos : Pos} {kws : List Keyword} {T : List Addr}
def tKw (sp : Sp) (n : Nat) (ix : List Nat) (tk : TA) : TE := fun σ H Q => tk σ H fun zs H2 => zs.length = n ∧ sp (pick ix zs) H2 Q E0
theorem pe_callGK {sp : Sp} {tk : TA} {ix : List Nat} (F : FnG X.prog X.w X.K X.mg X.base k f fd ps sp) (hr : Room k X.A) (hgd : X.A.guards = some []) (hg : Gl X x) (hm : X.mg x = some (.ref f)) (hk : PySem.W.keepIn X.K (.ref f) = true) (hb : ∀ (s : Shared) (ws : List Value), ws.length = ks.length → BindsTo s fd ⟨[], ks.zip ws⟩ (ps.zip (pick ix ws)))
    (hkw : PK X kws tk) (hall : (backToKw pos (keywordEach kws X.env)).all (·.1.isSome) = true := by rfl) (hks : (backToKw pos (keywordEach kws X.env)).filterMap (·.1) = ks := by rfl)
    (hdb : (x == ("__debug__" : Str)) = false := by decide)
    (hpl : ((backTo pos (starEach [] X.env)).any (·.1) || (backToKw pos (keywordEach kws X.env)).any (·.1.isNone)) = false := by rfl) :
    PE X (.Call (.Name x p) [] kws pos) (tKw sp ks.length ix tk) := by
  refine ⟨fun pins s σ H Q I h => ?_⟩
  refine wpAny_Call_Name_kw (ld_glob I hg hm ?_ hdb)
  refine PySem.W.callWith_KW0 (h₀ := X.base) I.ok.mod.kin hk hall (thn (hkw.run pos pins s σ H _ I h) fun ws s2 ⟨zs, H2, I2, rz, hz, q2⟩ => ⟨I2.kIn, ?_⟩) hpl
  rw [hks]
  refine wpAny_call (codeAny_mono (F.run X.A X.stack s2 H2 ⟨[], ks.zip ws⟩ (pick ix ws) (pick ix zs) Q hr hgd I2.env0 (hb s2 ws (by rw [← rz.length]; exact hz)) (vals_pick rz ix) q2) fun r s' hq => ?_)
  cases r with
  | error e => exact hq.elim
  | ok fl =>
    cases fl with
    | ret u => exact I2.after hq
    | next => exact hq.elim
    | brk => exact hq.elim
    | cont => exact hq.elim
theorem pk_imp {t t' : TA} (h : PK X kws t) (i : ∀ σ H Q, t' σ H Q → t σ H Q) : PK X kws t' := ⟨fun pos pins s σ H Q I w => h.run pos pins s σ H Q I (i σ H Q w)⟩
theorem ek_nil : PK X [] (tAr X.K T nilA) := by
  refine pk_imp pk_nil fun σ H Q w => ?_
  obtain ⟨S, lo, st, at', x, lo', e, q⟩ := w
  cases e
  exact q [] S H st .nil (Ext.refl _ _ _)
theorem ek_cons {kpos : Pos} {nm : Option Str} {e : Expr} {g : GE} {kk : GA} (h : PE X e (tE X.K T g)) (hr : PK X kws (tAr X.K T kk)) : PK X (⟨nm, e, kpos⟩ :: kws) (tAr X.K T (consA g kk)) := by
  refine pk_imp (pk_cons h hr) fun σ H Q w => ?_
  obtain ⟨S, lo, st, at', xs, lo', e, q⟩ := w
  obtain ⟨p, e1, e2⟩ := Option.bind_eq_some_iff.mp e
  obtain ⟨r, e3, e4⟩ := Option.bind_eq_some_iff.mp e2
  cases e4
  refine ⟨S, lo, st, at', p.1, p.2, e1, fun v S1 H1 st1 r1 x1 => ?_⟩
  exact ⟨S1, p.2, st1, at'.ext x1, r.1, r.2, e3, fun vs S2 H2 st2 r2 x2 => q (v :: vs) S2 H2 st2 (.cons (Rq.sub x2.sub r1) r2) (x1.trans x2)⟩
def callKF (fn : List PyData → Option PyData) (n : Nat) (ix : List Nat) (g : GA) : GE := fun lo => (g lo).bind fun p => if p.1.length = n then (fn (pick ix p.1)).bind fun z => some (z, p.2) else none
theorem ev_callK {fn : List PyData → Option PyData} {g : GA} {ix : List Nat} (F : FnG X.prog X.w X.K X.mg X.base k f fd ps (spD X.K T fn)) (hr : Room k X.A) (hgd : X.A.guards = some []) (hg : Gl X x) (hm : X.mg x = some (.ref f)) (hk : PySem.W.keepIn X.K (.ref f) = true) (hb : ∀ (s : Shared) (ws : List Value), ws.length = ks.length → BindsTo s fd ⟨[], ks.zip ws⟩ (ps.zip (pick ix ws)))
    (hkw : PK X kws (tAr X.K T g)) (hall : (backToKw pos (keywordEach kws X.env)).all (·.1.isSome) = true := by rfl) (hks : (backToKw pos (keywordEach kws X.env)).filterMap (·.1) = ks := by rfl)
    (hdb : (x == ("__debug__" : Str)) = false := by decide)
    (hpl : ((backTo pos (starEach [] X.env)).any (·.1) || (backToKw pos (keywordEach kws X.env)).any (·.1.isNone)) = false := by rfl) :
    PE X (.Call (.Name x p) [] kws pos) (tE X.K T (callKF fn ks.length ix g)) := by
  refine pe_imp (pe_callGK F hr hgd hg hm hk hb hkw hall hks hdb hpl) fun σ H Q w => ?_
  obtain ⟨S, lo, st, at', z, lo', e, q⟩ := w
  obtain ⟨p, e1, e2⟩ := Option.bind_eq_some_iff.mp e
  split at e2
  · rename_i hn
    obtain ⟨z', e3, e4⟩ := Option.bind_eq_some_iff.mp e2
    cases e4
    refine ⟨S, lo, st, at', p.1, p.2, e1, fun vs S1 H1 st1 r1 x1 => ⟨by rw [r1.length]; exact hn, ?_⟩⟩
    refine ⟨S1, pick ix p.1, st1.sub, st1.noT, rqL_pick r1 ix, at'.ext x1, z, e3, fun v S2 H2 sb nt rv x2 => ?_⟩
    obtain ⟨st2, x2'⟩ := st1.called x2 sb nt
    exact q v S2 H2 st2 rv (x1.trans x2')
  · cases e2
end
end Ev
namespace Ev
open PySem PySem.Spec PyProof.Rows L2 Tb
section
variable {X : Cx} {T : List Addr} {pos : Pos} {a b c : Expr} {ga gb gc : GE} {r : R2} {f : PyData → PyData → Option PyData} {i : Nat}
theorem ev_cmpR {op : CmpOp} (ho : OpR X (compareOp op) r) (v : Val2 X.K f r) (ha : PE X a (tE X.K T ga)) (hb : PE X b (tVar i)) (hm : behindInMarks op b = false) : PE X (.Compare a [op] [b] pos) (tE X.K T (op2R f ga i)) :=
  pe_imp (pe_cmpR ho ha hb hm) fun _ _ _ w => tOpR_of v w
theorem ev_ixL (ho : IxR X r) (v : Val2 X.K f r) (ha : PE X a (tVar i)) (hb : PE X b (tE X.K T gb)) (hs : PlainIx b) : PE X (.Subscript a b pos) (tE X.K T (op2L f i gb)) :=
  pe_imp (pe_ix ho ha hb hs) fun _ _ _ w => tOpL_of v w
theorem et_cmpR {op : CmpOp} (ho : OpR X (compareOp op) r) (v : Val2 X.K f r) (ha : PE X a (tE X.K T ga)) (hb : PE X b (tVar i)) (hm : behindInMarks op b = false) : PT X (.Compare a [op] [b] pos) (tT X.K T (bF (op2R f ga i))) :=
  pt_imp (pt_cmpR ho ha hb hm) fun σ H Q w => by
    have := tB_of w
    exact tOpR_of (Q := fun x H' => ∃ k, x = .bl k ∧ Q k H') v this
def chF (f f' : PyData → PyData → Option PyData) (ga gb gc : GE) : GE := fun lo => (ga lo).bind fun p => (gb p.2).bind fun q => (f p.1 q.1).bind fun z => match z with
  | .bool true => (gc q.2).bind fun u => (f' q.1 u.1).bind fun y => some (y, u.2)
  | .bool false => some (.bool false, q.2)
  | _ => none
theorem tCh_of {r' : R2} {f' : PyData → PyData → Option PyData} (v : Val2 X.K f r) (v' : Val2 X.K f' r') {σ : L2.St} {H : Hp} {Q : VK} (w : tE X.K T (chF f f' ga gb gc) σ H Q) : tChain r r' (tE X.K T ga) (tE X.K T gb) (tE X.K T gc) σ H Q := by
  obtain ⟨S, lo, st, at', x, lo', e, q⟩ := w
  obtain ⟨p, e1, e⟩ := Option.bind_eq_some_iff.mp e
  obtain ⟨y, e2, e⟩ := Option.bind_eq_some_iff.mp e
  obtain ⟨z, e3, e⟩ := Option.bind_eq_some_iff.mp e
  refine ⟨S, lo, st, at', p.1, p.2, e1, fun w1 S1 H1 st1 r1 x1 => ⟨S1, p.2, st1, at'.ext x1, y.1, y.2, e2, fun w2 S2 H2 st2 r2 x2 => ?_⟩⟩
  refine v S2 H2 w1 w2 p.1 y.1 z _ st2.sub st2.noT (.of (Rq.sub x2.sub r1)) (.of r2) e3 fun w3 S3 H3 g3 r3 => ?_
  have st3 := st2.gro g3
  have x3 := (x1.trans x2).trans g3.ext
  split at e
  · obtain ⟨u, e4, e⟩ := Option.bind_eq_some_iff.mp e
    obtain ⟨y', e5, e⟩ := Option.bind_eq_some_iff.mp e
    cases e
    cases r3
    refine ⟨true, rfl, ?_⟩
    rw [if_pos rfl]
    refine ⟨S3, y.2, st3, at'.ext x3, u.1, u.2, e4, fun w4 S4 H4 st4 r4 x4 => ?_⟩
    exact v' S4 H4 w2 w4 y.1 u.1 x _ st4.sub st4.noT (.of (Rq.sub (g3.subS.trans x4.sub) r2)) (.of r4) e5 fun w5 S5 H5 g5 r5 => q w5 S5 H5 (st4.gro g5) r5 ((x3.trans x4).trans g5.ext)
  · cases e
    cases r3
    refine ⟨false, rfl, ?_⟩
    rw [if_neg Bool.false_ne_true]
    exact q _ S3 H3 st3 (.bl _) x3
  · cases e
theorem ev_chain {op op' : CmpOp} {r' : R2} {f' : PyData → PyData → Option PyData} (ho : OpR X (compareOp op) r) (v : Val2 X.K f r) (ho' : OpR X (compareOp op') r') (v' : Val2 X.K f' r') (ha : PE X a (tE X.K T ga)) (hb : PE X b (tE X.K T gb)) (hc : PE X c (tE X.K T gc))
    (hm : lastMarks [op, op'] [b, c] = false := by with_unfolding_all rfl) : PE X (.Compare a [op, op'] [b, c] pos) (tE X.K T (chF f f' ga gb gc)) :=
  pe_imp (pe_chain ho ho' ha hb hc hm) fun _ _ _ w => tCh_of v v' w
theorem et_chain {op op' : CmpOp} {r' : R2} {f' : PyData → PyData → Option PyData} (ho : OpR X (compareOp op) r) (v : Val2 X.K f r) (ho' : OpR X (compareOp op') r') (v' : Val2 X.K f' r') (ha : PE X a (tE X.K T ga)) (hb : PE X b (tE X.K T gb)) (hc : PE X c (tE X.K T gc))
    (hm : lastMarks [op, op'] [b, c] = false := by with_unfolding_all rfl) : PT X (.Compare a [op, op'] [b, c] pos) (tT X.K T (bF (chF f f' ga gb gc))) :=
  pt_imp (pt_chain ho ho' ha hb hc hm) fun σ H Q w => tCh_of (Q := fun x H' => ∃ k, x = .bl k ∧ Q k H') v v' (tB_of w)
theorem ev_glob {x : Str} {i : Int} {t : Tok} (hg : Gl X x) (hm : X.mg x = some (.int i t)) (hdb : (x == ("__debug__" : Str)) = false := by decide) : PE X (.Name x pos) (tE X.K T (cF (.int i))) := ev_c (pe_glob (v := .int i) hg hm ⟨_, rfl⟩ hdb) fun _ => .int i
end
section
variable {K : PySem.W.Frag} {P : Program} {w : World} {mg : Str → Option Value} {base : Heap} {N ps : List Str} {qual x : Str} {st : Stmt} {f c : Addr} {fd : FuncData} {k n m : Nat} {T : List Addr} {g : GS}
theorem fnD1 {r : List PyData → Option PyData} (hr : r = runD n m g) (F : Fun K x qual st f fd) (S : FnScope N ps (defScope st)) (hn : ps.length = n) (hm : N.length = m) (hb : ∀ (cdv : Value) (A : Around) (outer : List Env) (s : Shared) (H : Hp), Room k (cxC P w K mg base N qual st f cdv A outer s H).A → A.guards = some [] → PSs (cxC P w K mg base N qual st f cdv A outer s H) (defBody st) (tS K T false g)) :
    FnG P w K mg base (k + 1) f fd ps (spD K T r) := by
  subst hr hn hm
  exact fnD F S hb
theorem fnDC1 {r : List PyData → Option PyData} (hr : r = runD n m g) (F : FunC K x qual st f fd c) (S : FnScope N ps (defScope st)) (hn : ps.length = n) (hm : N.length = m) (hb : ∀ (A : Around) (outer : List Env) (s : Shared) (H : Hp), Room k (cxC P w K mg base N qual st f (.ref c) A outer s H).A → A.guards = some [] → PSs (cxC P w K mg base N qual st f (.ref c) A outer s H) (defBody st) (tS K T false g)) :
    FnG P w K mg base (k + 1) f fd ps (spD K T r) := by
  subst hr hn hm
  exact fnDC F S hb
theorem fnB1 {r : List PyData → List PyData → Option (PyData × List PyData)} (hr : r = runB n m g) (F : Fun K x qual st f fd) (S : FnScope N ps (defScope st)) (hn : ps.length = n) (hm : N.length = m) (hb : ∀ (cdv : Value) (A : Around) (outer : List Env) (s : Shared) (H : Hp), Room k (cxC P w K mg base N qual st f cdv A outer s H).A → A.guards = some [] → PSs (cxC P w K mg base N qual st f cdv A outer s H) (defBody st) (tS K T true g)) :
    FnG P w K mg base (k + 1) f fd ps (spB K T r) := by
  subst hr hn hm
  exact fnB F S hb
end
end Ev
namespace Ev
open PySem PySem.Spec PyProof.Rows L2 Tb
section
variable {K : PySem.W.Frag} {P : Program} {w : World} {mg : Str → Option Value} {base : Heap} {ps : List Str} {f : Addr} {fd : FuncData} {k : Nat} {T : List Addr}
theorem fn_never {r : List PyData → Option PyData} (hr : r = fun _ => none) : FnG P w K mg base k f fd ps (spD K T r) := by
  have no : ∀ vs H Q E, ¬ spD K T r vs H Q E := fun vs H Q E h => by
    obtain ⟨S, xs, _, _, _, _, y, e, _⟩ := h
    rw [hr] at e
    cases e
  exact ⟨fun vs H Q E h => (no vs H Q E h).elim, fun A outer s H args us vs Q _ _ _ _ _ h => (no vs H Q _ h).elim⟩
end
end Ev
namespace Ev
open PySem PySem.Spec PyProof.Rows L2 Tb
variable {K : PySem.W.Frag}
def intF1 : List PyData → Option PyData
  | [.int i] => some (.int i)
  | [.bool b] => some (.int (if b then 1 else 0))
  | _ => none
def rInt1 : List V → Hp → VK → Prop := fun xs H Q => (∃ i, xs = [.int i] ∧ Q (.int i) H) ∨ ∃ k, xs = [.bl k] ∧ Q (.int (if k then 1 else 0)) H
theorem val_int1 : ValN K intF1 rInt1 := fun S H vs ds z Q s n r e q => by
  unfold intF1 at e
  split at e
  · cases e
    obtain ⟨v, rfl, rv⟩ := r.one
    rw [rv.int]
    exact .inl ⟨_, rfl, q _ S H (Gro.refl s n) (.int _)⟩
  · cases e
    obtain ⟨v, rfl, rv⟩ := r.one
    rw [rv.bool]
    exact .inr ⟨_, rfl, q _ S H (Gro.refl s n) (.int _)⟩
  · cases e
section
variable {X : Cx} {T : List Addr} {pos : Pos} {a b : Expr} {ga : GE} {i : Nat}
/-- list.extend by a list that may be locked -/
def rExtR : V → List V → Hp → VK → Prop := fun x vs H Q => ∃ l b xs zs, x = .ref l ∧ vs = [.ref b] ∧ H l = some (.lst xs) ∧ Rd H b (.lst zs) ∧ xs.length + zs.length ≤ sizeLine ∧ Q .non (upd H l (.lst (xs ++ zs)))
theorem mt_extendR : MtM X "list.extend" rExtR := by
  intro pins s σ H x vs v us Q I rx rv w
  obtain ⟨l, b, xs, zs, rfl, rfl, hl, hb, room, q⟩ := w
  cases rx
  obtain ⟨u, rfl, ru⟩ := rv.one
  cases ru
  obtain ⟨_, i1, n1, r1, len1, e1⟩ := I.lstM hl
  obtain ⟨_, i2, n2, r2, e2⟩ := hb.ok I.hok
  have len2 : zs.length = i2.length := r2.length
  have small : i1.toArray.size + i2.toArray.size ≤ sizeLine := by simp only [List.size_toArray]; omega
  have few : ¬ (!i1.toArray.isEmpty && Builtin.List.listTooLong (i1.toArray.size + i2.toArray.size)) = true := by
    rw [notLongL small, Bool.and_false]; simp
  have z1 := sizeLine_eq
  refine call_meets F.slot_list_extend ⟨_, e1, rfl⟩ F.entry_list_extend (F.args_list_extend_2 _ _) (AutoSeq1.list_extend_list_list_0 l i1.toArray n1 b i2.toArray n2 few (by simp only [List.size_toArray] at *; omega) (by simp only [List.size_toArray] at *; omega)) ⟨e1, e2, ?_⟩
  exact ⟨.non, _, I.lset (its' := i1 ++ i2) hl e1 (by simp) (r1.append r2) (by simp only [List.length_append]; omega), rfl, q⟩
def extF (i : Nat) (g : GE) : GE := fun lo => (ownL i lo).bind fun _ => (g lo).bind fun p => match p.1, p.2[i]? with
  | .list zs, some (some (.own (.lst xs))) => if xs.length + zs.length ≤ sizeLine then some (.none, p.2.set i (some (.lst (xs ++ zs)))) else none
  | _, _ => none
theorem ev_extend {ap cp : Pos} (hv : PE X b (tVar i)) (ha : PE X a (tE X.K T ga)) (hbase : attributeBase b "extend" X.env (eval b X.env) = eval b X.env := by rfl)
    (hfew : ((backTo cp (starEach [a] X.env)).all (fun x => !x.1) && (backToKw cp (keywordEach [] X.env)).all (fun x => x.1.isSome) && decide ([a].length + ([] : List Keyword).length + (if ([] : List Keyword).isEmpty then 0 else 1) < 30)) = true := by rfl)
    (hline : (ap.endLine == cp.line) = true := by rfl) (hs : starEach [a] X.env = (false, eval a X.env) :: starEach [] X.env := by rfl) : PE X (.Call (.Attribute b "extend" ap) [a] [] cp) (tE X.K T (extF i ga)) := by
  refine pe_imp (pe_bm PySem.F.plainAttrs_list PySem.F.slot_list_extend PySem.F.type_list_extend mt_extendR hv (pa_cons ha pa_nil hs) hbase hfew hline hs rfl) fun σ H Q w => ?_
  obtain ⟨S, lo, st, at', x, lo', e, q⟩ := w
  obtain ⟨y0, e0, e⟩ := Option.bind_eq_some_iff.mp e
  obtain ⟨p, e1, e2⟩ := Option.bind_eq_some_iff.mp e
  obtain ⟨_, c0, us0, ev0, h0, _⟩ := st.readL e0
  split at e2
  · rename_i zs xs hz hx
    split at e2
    · rename_i hl
      cases e2
      refine ⟨.ref c0, ev0, .inl ⟨rfl, us0, .inl (.inl h0)⟩, S, lo, st, at', p.1, p.2, e1, fun v S1 H1 st1 r1 x1 => ?_⟩
      obtain ⟨w, ev, c, us, rfl, h, r⟩ := st1.locL hx
      rw [ev0] at ev
      cases ev
      rw [hz] at r1
      obtain ⟨d, ws, rfl, hd, rd⟩ : ∃ d ws, v = .ref d ∧ Rd S1 d (.lst ws) ∧ RqL X.K S1 ws zs := by
        cases r1 with
        | lst h rr => exact ⟨_, _, rfl, h, rr⟩
      refine ⟨c0, d, us, ws, rfl, rfl, h, st1.sub.rd hd, by rw [r.length, rd.length]; exact hl, ?_⟩
      obtain ⟨st2, x2⟩ := st1.put hx ev0 h (r.app rd)
      exact q .non S1 _ st2 .non (x1.trans x2)
    · cases e2
  · cases e2
def catLL (g k : GE) : GL := fun lo => (g lo).bind fun p => (k p.2).bind fun q => match p.1, q.1 with
  | .list xs, .list ys => if xs.length + ys.length ≤ sizeLine then some (xs ++ ys, q.2) else none
  | _, _ => none
theorem el_cat {gb : GE} (ha : PE X a (tE X.K T ga)) (hb : PE X b (tE X.K T gb)) : PE X (.BinOp a .Add b pos) (tL X.K T (catLL ga gb)) := by
  refine pe_imp (pe_op op_catR ha hb) fun σ H Q w => ?_
  obtain ⟨S, lo, st, at', x, lo', e, q⟩ := w
  obtain ⟨p, e1, e⟩ := Option.bind_eq_some_iff.mp e
  obtain ⟨y, e2, e⟩ := Option.bind_eq_some_iff.mp e
  refine ⟨S, lo, st, at', p.1, p.2, e1, fun v S1 H1 st1 r1 x1 => ⟨S1, p.2, st1, at'.ext x1, y.1, y.2, e2, fun u S2 H2 st2 r2 x2 => ?_⟩⟩
  split at e
  · rename_i xs ys hx hy
    split at e
    · rename_i hz
      cases e
      rw [hx] at r1
      rw [hy] at r2
      obtain ⟨c, vs, rfl, hc, rc⟩ : ∃ c vs, v = .ref c ∧ Rd S1 c (.lst vs) ∧ RqL X.K S1 vs xs := by
        cases r1 with
        | lst h rr => exact ⟨_, _, rfl, h, rr⟩
      obtain ⟨d, ws, rfl, hd, rd⟩ : ∃ d ws, u = .ref d ∧ Rd S2 d (.lst ws) ∧ RqL X.K S2 ws ys := by
        cases r2 with
        | lst h rr => exact ⟨_, _, rfl, h, rr⟩
      refine ⟨c, d, vs, ws, rfl, rfl, st2.sub.rd (x2.sub.rd hc), st2.sub.rd hd, by rw [rc.length, rd.length]; exact hz, fun l hl => ?_⟩
      obtain ⟨n1, n2⟩ := st2.not_new hl
      exact q l _ S2 _ (st2.lay hl) upd_same ((RqL.sub x2.sub rc).app rd) n2 n1 ((x1.trans x2).fz (fz_none hl)) ((x1.trans x2).trans (Ext.lay hl))
    · cases e
  · cases e
end
end Ev
namespace Ev
open PySem PySem.Spec PyProof.Rows L2 Tb
abbrev ID (ns : List Int) : List PyData := ns.map PyData.int
def tieD (p : Int × Int) : PyData := .tuple [.int p.1, .int p.2]
abbrev TD (ts : List (Int × Int)) : List PyData := ts.map tieD
def Sh (k : Nat) (d : PyData) : Prop := d.canLay0 = true ∧ d.depth ≤ k
theorem Sh.mono {j k : Nat} {d : PyData} (h : Sh j d) (l : j ≤ k) : Sh k d := ⟨h.1, Nat.le_trans h.2 l⟩
theorem Sh.ok {k : Nat} {d : PyData} (h : Sh k d) (l : k ≤ 64 := by decide) : SeqAt.shaped d = true := by
  unfold SeqAt.shaped
  rw [h.1, Bool.true_and, decide_eq_true_eq]
  exact Nat.le_trans h.2 l
theorem sh_int (k : Nat) (i : Int) : Sh k (.int i) := ⟨by simp [PyData.canLay0], by simp [PyData.depth]⟩
theorem sh_bl (k : Nat) (i : Bool) : Sh k (.bool i) := ⟨by simp [PyData.canLay0], by simp [PyData.depth]⟩
theorem sh_all {k : Nat} : ∀ {xs : List PyData}, (∀ x ∈ xs, Sh k x) → PyData.canLayAll0 xs = true ∧ PyData.depthAll xs ≤ k
  | [], _ => ⟨by simp [PyData.canLayAll0], by simp [PyData.depthAll]⟩
  | x :: r, h => by
    obtain ⟨a, b⟩ := h x List.mem_cons_self
    obtain ⟨c, d⟩ := sh_all fun y hy => h y (List.mem_cons_of_mem _ hy)
    exact ⟨by rw [PyData.canLayAll0, a, c]; rfl, by rw [PyData.depthAll]; exact Nat.max_le.mpr ⟨b, d⟩⟩
theorem sh_list {k : Nat} {xs : List PyData} (h : ∀ x ∈ xs, Sh k x) : Sh (k + 1) (.list xs) := by
  obtain ⟨a, b⟩ := sh_all h
  exact ⟨by rw [PyData.canLay0]; exact a, by rw [PyData.depth]; omega⟩
theorem sh_tup {k : Nat} {xs : List PyData} (h : ∀ x ∈ xs, Sh k x) : Sh (k + 1) (.tuple xs) := by
  obtain ⟨a, b⟩ := sh_all h
  exact ⟨by rw [PyData.canLay0]; exact a, by rw [PyData.depth]; omega⟩
theorem sh_tie (p : Int × Int) : Sh 1 (tieD p) := sh_tup fun x h => by
  simp only [List.mem_cons, List.not_mem_nil, or_false] at h
  rcases h with rfl | rfl <;> exact sh_int _ _
theorem eqv_int (a b : Int) : PyData.eqv (.int a) (.int b) = decide (a = b) := by
  rw [PyData.eqv]
  by_cases h : a = b
  · rw [decide_eq_true h, h]; simp
  · rw [decide_eq_false h]; simpa using h
theorem eq_int (a b : Int) : eqF (.int a) (.int b) = some (.bool (decide (a = b))) := by
  unfold eqF
  rw [if_pos ⟨(sh_int 0 a).ok, (sh_int 0 b).ok⟩, eqv_int]
theorem tupsD_map : ∀ ts : List (Int × Int), tupsD (TD ts) = some (ts.map fun p => [p.1, p.2])
  | [] => rfl
  | p :: r => by
    show (intsD [.int p.1, .int p.2]).bind _ = _
    rw [show intsD [.int p.1, .int p.2] = some [p.1, p.2] from rfl, Option.bind_some, tupsD_map r]; rfl
theorem one_sorted {α : Type} {R : α → α → Prop} (anti : ∀ x y, R x y → R y x → x = y) : ∀ {a b : List α}, a.Perm b → a.Pairwise R → b.Pairwise R → a = b
  | [], b, p, _, _ => (List.Perm.nil_eq p)
  | x :: r, b, p, ha, hb => by
    cases b with
    | nil => exact absurd p.symm (List.not_perm_nil_cons _ _) 
    | cons y t =>
      obtain ⟨ha1, ha2⟩ := List.pairwise_cons.mp ha
      obtain ⟨hb1, hb2⟩ := List.pairwise_cons.mp hb
      have e : x = y := by
        rcases List.mem_cons.mp (p.subset List.mem_cons_self) with z | z
        · exact z
        · rcases List.mem_cons.mp (p.symm.subset List.mem_cons_self) with u | u
          · exact u.symm
          · exact anti _ _ (ha1 _ u) (hb1 _ z)
      subst e
      rw [one_sorted anti (List.Perm.cons_inv p) ha2 hb2]
def iSort (ns : List Int) : List Int := ns.mergeSort fun a b => decide (a ≤ b)
theorem iSort_perm (ns : List Int) : (iSort ns).Perm ns := List.mergeSort_perm _ _
theorem iSort_sorted (ns : List Int) : (iSort ns).Pairwise (· ≤ ·) := by
  have := List.pairwise_mergeSort (le := fun a b : Int => decide (a ≤ b)) (fun a b c h1 h2 => by
    rw [decide_eq_true_eq] at *; omega) (fun a b => by
    rw [Bool.or_eq_true, decide_eq_true_eq, decide_eq_true_eq]; omega) ns
  exact this.imp fun h => of_decide_eq_true h
theorem iSort_eq {ns ms : List Int} (p : ns.Perm ms) (h : ms.Pairwise (· ≤ ·)) : iSort ns = ms :=
  one_sorted (R := (· ≤ ·)) (fun x y a b => Int.le_antisymm a b) ((iSort_perm ns).trans p) (iSort_sorted ns) h
def tieLe (p q : Int × Int) : Bool := decide (p.1 < q.1) || (decide (p.1 = q.1) && decide (p.2 ≤ q.2))
theorem tieLe_iff {p q : Int × Int} : tieLe p q = true ↔ p.1 < q.1 ∨ (p.1 = q.1 ∧ p.2 ≤ q.2) := by
  unfold tieLe
  rw [Bool.or_eq_true, Bool.and_eq_true, decide_eq_true_eq, decide_eq_true_eq, decide_eq_true_eq]
def tSort (ts : List (Int × Int)) : List (Int × Int) := ts.mergeSort tieLe
theorem tSort_eq {ts us : List (Int × Int)} (p : ts.Perm us) (h : us.Pairwise fun a b => tieLe a b = true) : tSort ts = us := by
  have s : (tSort ts).Pairwise fun a b => tieLe a b = true := List.pairwise_mergeSort (fun a b c h1 h2 => by
    rw [tieLe_iff] at *; omega) (fun a b => by
    rw [Bool.or_eq_true, tieLe_iff, tieLe_iff]; omega) ts
  refine one_sorted (R := fun a b => tieLe a b = true) (fun x y a b => ?_) ((List.mergeSort_perm _ _).trans p) s h
  rw [tieLe_iff] at a b
  exact Prod.ext (by omega) (by omega)
end Ev
namespace Ev
open PySem PySem.Spec PyProof.Rows L2 Tb
def pairsD : List PyData → Option (List (Int × Int))
  | [] => some []
  | .tuple [.int a, .int b] :: r => (pairsD r).bind fun ps => some ((a, b) :: ps)
  | _ => none
theorem pairsD_eq : ∀ {ds : List PyData} {ps : List (Int × Int)}, pairsD ds = some ps → ds = TD ps
  | [], _, h => by cases h; rfl
  | d :: r, ps, h => by
    unfold pairsD at h
    split at h
    · contradiction
    · rename_i a b r' e
      cases e
      obtain ⟨qs, e1, e2⟩ := Option.bind_eq_some_iff.mp h
      cases e2
      rw [pairsD_eq e1]; rfl
    · cases h
def inB (p : Int × Int) : Bool := decide (0 ≤ p.1) && decide (p.1 < 1048576) && decide (0 ≤ p.2) && decide (p.2 < 1048576)
def sortSetF (x : PyData) : Option PyData := (kidsD x).bind fun ds => match intsD ds with
  | some ns => if ns.length < 64 then some (.list (ID (iSort (dd ns)))) else none
  | none => match strsD ds with
    | some zs => if zs.length + 1 < scanBound then some (.list (XD (sSort (dd zs)))) else none
    | none => (pairsD ds).bind fun ps => if ps.length < 64 ∧ ps.all inB = true then some (.list (TD (tSort (dd ps)))) else none
theorem dd_perm {α : Type} [DecidableEq α] {l m : List α} (hm : m.Nodup) (h : ∀ z, z ∈ l ↔ z ∈ m) : (dd l).Perm m :=
  List.perm_iff_count.mpr fun z => by rw [(dd_nodup l).count, hm.count]; simp [mem_dd, h z]
theorem bd_pair {a b : Int} (h : inB (a, b) = true) : TS.Bd 1048576 [a, b] := by
  unfold inB at h
  rw [Bool.and_eq_true, Bool.and_eq_true, Bool.and_eq_true, decide_eq_true_eq, decide_eq_true_eq, decide_eq_true_eq, decide_eq_true_eq] at h
  intro x hx
  simp only [List.mem_cons, List.not_mem_nil, or_false] at hx
  simp only at h
  rcases hx with rfl | rfl <;> omega
section
variable {X : Cx} {T : List Addr} {pos p p2 pos2 : Pos} {a : Expr} {ga : GE}
def rSortSetQ (X : Cx) : List V → Hp → VK → Prop := fun vs H Q => rSortedSet X.w vs H Q ∨ rSortedT X.K X.prog X.w vs H Q ∨ rSortX X.w vs H Q
theorem cr_sortSetQ (hc : X.calm = true) (hu : X.A.units + 66 < cLine) : CallR X (.builtin "sorted") (rSortSetQ X) := by
  intro pins s σ H vs us Q I r h
  rcases h with h | h | h
  · exact cr_sortedSet hc pins s σ H vs us Q I r h
  · exact cr_sortedT hc pins s σ H vs us Q I r h
  · exact cr_sortX hc (by omega) pins s σ H vs us Q I r h
theorem ev_sortSet (hc : X.calm = true) (hu : X.A.units + 66 < cLine) (hg : Gl X "sorted") (hm : X.mg "sorted" = none) (hg2 : Gl X "set") (hm2 : X.mg "set" = none) (ha : PE X a (tE X.K T ga))
    (he2 : starEach [a] X.env = (false, eval a X.env) :: starEach [] X.env := by rfl) (he : starEach [.Call (.Name "set" p2) [a] [] pos2] X.env = (false, eval (.Call (.Name "set" p2) [a] [] pos2) X.env) :: starEach [] X.env := by rfl) :
    PE X (.Call (.Name "sorted" p) [.Call (.Name "set" p2) [a] [] pos2] [] pos) (tE X.K T (un1 sortSetF ga)) := by
  refine pe_imp (pe_callB (cr_sortSetQ hc hu) hg hm (by decide +kernel) (pa_cons (pe_callTy (cr_setQ hc hu) hg2 hm2 (by decide +kernel) (pa_cons ha pa_nil he2) (by decide) (by decide) he2 rfl) pa_nil he) (by decide) (by decide) he rfl) fun σ H Q w => ?_
  obtain ⟨S, lo, st, at', z, lo', e, q⟩ := w
  obtain ⟨y, e1, e2⟩ := Option.bind_eq_some_iff.mp e
  obtain ⟨z', e3, e4⟩ := Option.bind_eq_some_iff.mp e2
  cases e4
  refine ⟨S, lo, st, at', y.1, y.2, e1, fun v S1 H1 st1 r1 x1 => ?_⟩
  unfold sortSetF at e3
  obtain ⟨ds, e5, e6⟩ := Option.bind_eq_some_iff.mp e3
  obtain ⟨c, us, rfl, hs, rl⟩ := (RqT.of (H := H1) r1).seq st1.sub e5
  -- the set is laid, then the list
  have fin : ∀ {u : HO} {t l : Addr} {ws : List V} {xs : List PyData}, H1 t = none → z = .list xs → upd H1 t u l = none → RqL X.K S1 ws xs → Q (.ref l) (upd (upd H1 t u) l (.lst ws)) := fun {u t l ws xs} ht hz hl rx => by
    rw [hz] at q
    have st2 := st1.lay (u := u) ht
    have g := Gro.new (u := .lst ws) st2.sub st2.noT hl (by intro ps z; cases z)
    exact q _ _ _ (st2.gro g) (.lst (.inl upd_same) (RqL.sub g.subS rx)) ((x1.trans (Ext.lay ht)).trans g.ext)
  split at e6
  · rename_i ns hn
    split at e6
    · rename_i hz
      cases e6
      rw [intsD_eq hn] at rl
      rw [rl.ints_of] at hs
      have h4 : ns.length + 1 < scanBound := by unfold scanBound; omega
      have last : ∀ (t : Addr) (k : Nat), H1 t = none → k ≤ ns.length → rSortSetQ X [.ref t] (upd H1 t (SetO X.w t (fun j => decide (j ∈ ns)) k)) Q := fun t k ht hk => by
        refine .inl ⟨t, _, k, rfl, upd_same, by omega, fun ms l hp hm hlen hl => ?_⟩
        have em : iSort (dd ns) = ms := iSort_eq (dd_perm (hp.imp fun h e => by omega) fun x => by rw [hm x, decide_eq_true_eq]) (hp.imp fun h => Int.le_of_lt h)
        exact fin ht (by rw [em]) hl (RqL.ints ms)
      rcases hs with hs | hs
      · exact .inl ⟨c, ns, rfl, hs, h4, fun t k ht hk => last t k ht hk⟩
      · exact .inr (.inl ⟨c, ns, rfl, hs, h4, fun t k ht hk => last t k ht hk⟩)
    · cases e6
  · split at e6
    · rename_i zs hzs
      split at e6
      · rename_i hz
        cases e6
        rw [strsD_eq hzs] at rl
        rw [rl.strs_of] at hs
        refine .inr (.inr (.inr (.inr ⟨c, zs, rfl, hs, hz, fun t ht => .inr (.inr ⟨t, _, rfl, upd_same, fun l hl => ?_⟩)⟩)))
        refine fin ht ?_ hl (RqL.strs _)
        rw [sSort_congr (addX_perm zs)]
      · cases e6
    obtain ⟨ps, e7, e8⟩ := Option.bind_eq_some_iff.mp e6
    split at e8
    · rename_i hz
      cases e8
      rw [pairsD_eq e7] at rl
      have tp := tupsD_map ps
      obtain ⟨ks, rfl, ek, hp'⟩ := RqL.tups tp rl
      have hlen : ks.length = ps.length := by
        have := congrArg List.length ek
        simpa using this.symm
      have hq : ∀ p ∈ ks, SqT X.K H1 p.1 (p.2.map V.int) := fun p h => st1.sub.sqT (hp' p h)
      have form : ∀ p ∈ ks, ∃ a b : Int, p.2 = [a, b] ∧ (a, b) ∈ ps := fun p hp => by
        have : p.2 ∈ ps.map fun p => [p.1, p.2] := by rw [ek]; exact List.mem_map_of_mem hp
        obtain ⟨r, hr, e⟩ := List.mem_map.mp this
        exact ⟨r.1, r.2, e.symm, hr⟩
      have last : ∀ (t : Addr) (L : List (Addr × List Int)), H1 t = none → (∀ p ∈ L, p ∈ ks) → (∀ p ∈ ks, p.2 ∈ L.map (·.2)) → rSortSetQ X [.ref t] (upd H1 t (SetTO X.prog X.w t L)) Q := fun t L ht h1 h2 => by
        refine .inr (.inl ⟨t, L, 2, 1048576, rfl, upd_same, fun p hp => ?_, by decide, fun p hp => ?_, fun L' l pm nd hf pw hl => ?_⟩)
        · have sT := hp' p (h1 p hp)
          exact Sub.sqT (fun b o e => by
            rw [upd_ne (ne_of_none (st1.sub _ _ e) ht)]
            exact st1.sub _ _ e) sT
        · obtain ⟨a, b, e, hm⟩ := form p (h1 p hp)
          rw [e]
          exact ⟨rfl, bd_pair (List.all_eq_true.mp hz.2 _ hm)⟩
        · have inL : ∀ p ∈ L', p ∈ ks := fun p hp => h1 p (pm.subset hp)
          have eqs : (L'.map fun q => PyData.tuple (ID q.2)) = TD (L'.map fun q => (q.2.getD 0 0, q.2.getD 1 0)) := by
            rw [TD, List.map_map]
            refine List.map_congr_left fun q hq => ?_
            obtain ⟨a, b, e, _⟩ := form q (inL q hq)
            show PyData.tuple (ID q.2) = tieD (q.2.getD 0 0, q.2.getD 1 0)
            rw [e]; rfl
          have es : tSort (dd ps) = L'.map fun q => (q.2.getD 0 0, q.2.getD 1 0) := by
            refine tSort_eq (dd_perm ?_ fun x => ?_) ?_
            · rw [List.Nodup, List.pairwise_map] at nd ⊢
              refine nd.imp_of_mem fun {q r} hq hr h e => h ?_
              obtain ⟨a, b, e1, _⟩ := form q (inL q hq)
              obtain ⟨a', b', e2, _⟩ := form r (inL r hr)
              rw [e1, e2] at e ⊢
              have e' : (a, b) = (a', b') := e
              cases e'
              rfl
            · rw [List.mem_map]
              constructor
              · intro hx
                have : [x.1, x.2] ∈ ks.map (·.2) := by rw [← ek]; exact List.mem_map.mpr ⟨x, hx, rfl⟩
                obtain ⟨p, hp, e⟩ := List.mem_map.mp this
                obtain ⟨r, hr, er⟩ := List.mem_map.mp (h2 p hp)
                exact ⟨r, pm.symm.subset hr, by rw [er, e]; rfl⟩
              · rintro ⟨r, hr, rfl⟩
                obtain ⟨a, b, e, hm⟩ := form r (inL r hr)
                rw [e]; exact hm
            · rw [List.pairwise_map]
              refine pw.imp_of_mem fun {q r} hq hr h => ?_
              obtain ⟨a, b, e1, m1⟩ := form q (inL q hq)
              obtain ⟨a', b', e2, m2⟩ := form r (inL r hr)
              rw [e1, e2] at h ⊢
              have := L2.code_lex (bd_pair (List.all_eq_true.mp hz.2 _ m1)) (bd_pair (List.all_eq_true.mp hz.2 _ m2)) h
              rw [tieLe_iff]
              exact this
          refine fin ht (by rw [es, ← eqs]) hl ?_
          have : ∀ M : List (Addr × List Int), (∀ p ∈ M, p ∈ ks) → RqL X.K S1 (M.map fun q => V.ref q.1) (M.map fun q => PyData.tuple (ID q.2)) := fun M => by
            induction M with
            | nil => exact fun _ => .nil
            | cons m r ih => exact fun h => .cons (.tup (hp' m (h m List.mem_cons_self)) (RqL.ints _)) (ih fun p hp => h p (List.mem_cons_of_mem _ hp))
          exact this L' inL
      rcases hs with hs | hs
      · exact .inr (.inr (.inl ⟨c, ks, rfl, hs, hq, by omega, fun t L ht h1 h2 => last t L ht h1 h2⟩))
      · exact .inr (.inr (.inr (.inl ⟨c, ks, rfl, hs, hq, by omega, fun t L ht h1 h2 => last t L ht h1 h2⟩)))
    · cases e8
end
end Ev
namespace Ev
open PySem PySem.Spec PyProof.Rows L2 Tb
section
variable {X : Cx} {T : List Addr} {pos p2 : Pos} {a b : Expr} {ga gb : GE} {gl gh : GO} {lo hi : Option Expr} {i : Nat}
/-- part of a list of one's own, by its name -/
def slNF (i : Nat) (gl gh : GO) : GE := fun lo => (ownL i lo).bind fun _ => (gl lo).bind fun l => (gh l.2).bind fun h => (ownL i h.2).bind fun xs => some (.list (cutD xs l.1 h.1), h.2)
end
end Ev
namespace Ev
open PySem PySem.Spec PyProof.Rows L2 Tb
variable {K : PySem.W.Frag}
abbrev PP := List (PyData × PyData)
def keyOf : PyData → Option Key
  | .int i => some (.inl i)
  | .str s => some (.inr s)
  | _ => none
theorem keyOf_keyD (k : Key) : keyOf (keyD k) = some k := by cases k <;> rfl
def dGet (k : Key) : PP → Option PyData
  | [] => none
  | p :: r => if keyOf p.1 = some k then some p.2 else dGet k r
def dPut (ps : PP) (k : Key) (v : PyData) : PP := if (ps.any fun p => decide (keyOf p.1 = some k)) = true then ps.map (fun p => if keyOf p.1 = some k then (p.1, v) else p) else ps ++ [(keyD k, v)]
theorem RqK.length {S : Hp} : ∀ {kvs : List (Key × V)} {ps : PP}, RqK K S kvs ps → kvs.length = ps.length
  | _, _, .nil => rfl
  | _, _, .cons _ t => congrArg Nat.succ (RqK.length t)
theorem key_dec (j k : Key) : decide (keyOf (keyD j) = some k) = decide (j = k) := by
  rw [keyOf_keyD]
  exact decide_eq_decide.mpr ⟨fun e => Option.some.inj e, fun e => by rw [e]⟩
theorem key_if {α : Type} (j k : Key) (x y : α) : (if keyOf (keyD j) = some k then x else y) = if j = k then x else y := by
  rw [keyOf_keyD]
  by_cases h : j = k
  · rw [if_pos h, if_pos (by rw [h])]
  · rw [if_neg h, if_neg fun e => h (Option.some.inj e)]
theorem RqK.get {S : Hp} {k : Key} : ∀ {kvs : List (Key × V)} {ps : PP}, RqK K S kvs ps → (valV kvs k = none ∧ dGet k ps = none) ∨ ∃ v d, valV kvs k = some v ∧ dGet k ps = some d ∧ Rq K S v d
  | _, _, .nil => .inl ⟨rfl, rfl⟩
  | _, _, .cons (k := j) (v := v) (d := d) (kvs := kvs) r t => by
    unfold dGet
    rw [show ((keyD j, d) : PyData × PyData).1 = keyD j from rfl, key_if]
    by_cases h : j = k
    · rw [if_pos h]
      exact .inr ⟨v, d, valV_pos (p := (j, v)) h, rfl, r⟩
    · rw [if_neg h, valV_neg (p := (j, v)) h]
      exact RqK.get t
theorem RqK.anyK {S : Hp} {k : Key} : ∀ {kvs : List (Key × V)} {ps : PP}, RqK K S kvs ps → (kvs.any fun kv => decide (kv.1 = k)) = ps.any fun p => decide (keyOf p.1 = some k)
  | _, _, .nil => rfl
  | _, _, .cons (k := j) r t => by
    rw [List.any_cons, List.any_cons, RqK.anyK t, show ∀ d : PyData, ((keyD j, d) : PyData × PyData).1 = keyD j from fun _ => rfl, key_dec]
theorem RqK.mapK {S : Hp} {k : Key} {v : V} {d : PyData} (r : Rq K S v d) : ∀ {kvs : List (Key × V)} {ps : PP}, RqK K S kvs ps → RqK K S (kvs.map fun kv => if kv.1 = k then (kv.1, v) else kv) (ps.map fun p => if keyOf p.1 = some k then (p.1, d) else p)
  | _, _, .nil => .nil
  | _, _, .cons (k := j) (v := u) (d := e) q t => by
    rw [List.map_cons, List.map_cons]
    show RqK K S ((if j = k then (j, v) else (j, u)) :: _) ((if keyOf (keyD j) = some k then (keyD j, d) else (keyD j, e)) :: _)
    rw [key_if]
    by_cases h : j = k
    · rw [if_pos h, if_pos h]; exact .cons r (RqK.mapK r t)
    · rw [if_neg h, if_neg h]; exact .cons q (RqK.mapK r t)
theorem RqK.app {S : Hp} : ∀ {kvs ls : List (Key × V)} {ps qs : PP}, RqK K S kvs ps → RqK K S ls qs → RqK K S (kvs ++ ls) (ps ++ qs)
  | _, _, _, _, .nil, s => s
  | _, _, _, _, .cons r t, s => .cons r (RqK.app t s)
theorem RqK.put {S : Hp} {k : Key} {v : V} {d : PyData} {kvs : List (Key × V)} {ps : PP} (t : RqK K S kvs ps) (r : Rq K S v d) : RqK K S (putK kvs k v) (dPut ps k d) := by
  unfold putK dPut
  rw [t.anyK]
  by_cases h : (ps.any fun p => decide (keyOf p.1 = some k)) = true
  · rw [if_pos h, if_pos h]; exact RqK.mapK r t
  · rw [if_neg h, if_neg h]; exact t.app (.cons r .nil)
/-- a dict by its name -/
def ownK (i : Nat) (lo : Lo) : Option PP := match lo[i]? with
  | some (some (.own (.dct ps))) => some ps
  | some (some (.dat (.dict ps))) => some ps
  | _ => none
section
variable {X : Cx} {T : List Addr} {pos : Pos} {pin : Bool} {b e : Expr} {ga gb gk gx : GE} {i : Nat}
def dixF (i : Nat) (gk : GE) : GE := fun lo => (ownK i lo).bind fun _ => (gk lo).bind fun q => (ownK i q.2).bind fun ps => (keyOf q.1).bind fun k => (dGet k ps).bind fun z => some (z, q.2)
def dinF (neg : Bool) (i : Nat) (gk : GE) : GE := fun lo => (gk lo).bind fun q => (ownK i q.2).bind fun ps => (keyOf q.1).bind fun k => some (.bool (if neg = true then !(dGet k ps).isSome else (dGet k ps).isSome), q.2)
/-- d.get(k), d.get(k, x) -/
def dget1F (i : Nat) (gk : GE) : GE := fun lo => (ownK i lo).bind fun _ => (gk lo).bind fun q => (ownK i q.2).bind fun ps => (keyOf q.1).bind fun k => some ((dGet k ps).getD .none, q.2)
def dget2F (i : Nat) (gk gx : GE) : GE := fun lo => (ownK i lo).bind fun _ => (gk lo).bind fun q => (gx q.2).bind fun x => (ownK i x.2).bind fun ps => (keyOf q.1).bind fun k => some ((dGet k ps).getD x.1, x.2)
abbrev GD := Lo → Option (PP × Lo)
variable {gd : GD}
def dMerge (ps : PP) (more : List (Key × PyData)) : PP := more.foldl (fun acc kv => dPut acc kv.1 kv.2) ps
theorem RqK.merge {S : Hp} : ∀ {ls : List (Key × V)} {more : List (Key × PyData)} {kvs : List (Key × V)} {ps : PP}, Paired (fun kv p => kv.1 = p.1 ∧ Rq K S kv.2 p.2) ls more → RqK K S kvs ps → RqK K S (mergeK kvs ls) (dMerge ps more)
  | _, _, _, _, .nil, h => h
  | (k, v) :: ls, (k', d) :: more, kvs, ps, p, h => by
    cases p with
    | cons q t =>
      obtain ⟨e, r⟩ := q
      obtain rfl : k = k' := e
      show RqK K S (mergeK (putK kvs k v) ls) (dMerge (dPut ps k d) more)
      exact RqK.merge t (h.put r)
end
end Ev
namespace Ev
open PySem PySem.Spec PyProof.Rows L2 Tb
variable {K : PySem.W.Frag}
structure BlkD (K : PySem.W.Frag) (F : Addr → Prop) (S1 H1 : Hp) (D : Addr) (S H : Hp) (σ : L2.St) (lo : Lo) (acc : PP) : Prop where
  st : Stt K S H σ lo
  ext : Ext F S1 H1 S H (Own σ lo)
  at_ : ∃ us, H D = some (.dK us) ∧ RqK K S us acc
  noS : S D = none
  noO : ¬ Own σ lo D
theorem BlkD.next {F : Addr → Prop} {S1 H1 S H S' H' : Hp} {D : Addr} {σ σ' : L2.St} {lo lo' : Lo} {acc : PP} (b : BlkD K F S1 H1 D S H σ lo acc) (st : Stt K S' H' σ' lo') (x : Ext (Own σ lo) S H S' H' (Own σ' lo')) : BlkD K F S1 H1 D S' H' σ' lo' acc := by
  obtain ⟨us, hD, r⟩ := b.at_
  have nz : ¬ Fz H D := fun z => z.no hD fun ps q => by cases q
  refine ⟨st, b.ext.trans x, ⟨us, x.keep D _ b.noO hD (fun ps q => by cases q), RqK.sub x.sub r⟩, ?_, fun o => ?_⟩
  · cases q : S' D with
    | none => rfl
    | some u =>
      rcases x.domS D (by rw [q]; simp) with z | z | z
      · exact absurd b.noS z
      · exact absurd z b.noO
      · exact absurd z nz
  · rcases x.domF D o with z | z
    · exact b.noO z
    · exact nz z
theorem BlkD.app {F : Addr → Prop} {S1 H1 S H : Hp} {D : Addr} {σ : L2.St} {lo : Lo} {acc : PP} {k : Key} {v : V} {y : PyData} (b : BlkD K F S1 H1 D S H σ lo acc) (rv : Rq K S v y) (h1 : H1 D = none) :
    ∃ us, H D = some (.dK us) ∧ us.length = acc.length ∧ BlkD K F S1 H1 D S (upd H D (.dK (putK us k v))) σ lo (dPut acc k y) := by
  obtain ⟨us, hD, r⟩ := b.at_
  have nz : Fz H1 D := fz_none h1
  refine ⟨us, hD, r.length, ⟨?_, ?_, ⟨_, upd_same, r.put rv⟩, b.noS, b.noO⟩⟩
  · refine ⟨fun c o e => by rw [upd_ne (ne_of_none e b.noS)]; exact b.st.sub _ _ e, b.st.noT, b.st.len, fun i l e => ?_, b.st.own, b.st.inj⟩
    obtain ⟨w, ew, rw'⟩ := b.st.loc i l e
    refine ⟨w, ew, ?_⟩
    cases l with
    | dat z => exact rw'
    | rng _ _ => exact rw'
    | own zs =>
      obtain ⟨c, ws, rfl, hc, rr⟩ := rw'
      have ne : c ≠ D := fun z => b.noO ⟨i, by rw [← z]; exact ew, zs, e⟩
      exact ⟨c, ws, rfl, by rw [upd_ne ne]; exact hc, rr⟩
  · refine ⟨fun c o f e n => ?_, fun P t => ?_, b.ext.sub, b.ext.domS, b.ext.domF⟩
    · have ne : c ≠ D := fun z => nz.no (z ▸ e) n
      rw [upd_ne ne]
      exact b.ext.keep c o f e n
    · obtain ⟨qs, e3, t3⟩ := b.ext.tab P t
      have ne : P ≠ D := fun z => nz.2 (z ▸ t)
      exact ⟨qs, by rw [upd_ne ne]; exact e3, t3⟩
end Ev
namespace Ev
open PySem PySem.Spec PyProof.Rows L2 Tb
variable {K : PySem.W.Frag}
theorem cr_rangeN {X : Cx} : CallR X (.type "range") (fun vs H Q => ∃ j, vs = [V.int j] ∧ ∀ p, H p = none → Q (.ref p) (upd H p (.rng 0 j))) := by
  intro pins s σ H vs us Q I r h
  obtain ⟨j, rfl, q⟩ := h
  obtain ⟨u, rfl, t, rfl⟩ := r.one
  refine call_range_1 ⟨.ref s.heap.objs.size, upd H s.heap.objs.size (.rng 0 j), I.laid (t' := s.toks + 1 + 1) (fun b o e => Heap.get?_push_of_some _ e) (Nat.le_refl _) ?_, rfl, q _ (I.hok.fresh (Nat.le_refl _))⟩
  exact ⟨_, _, _, Heap.get?_push_size _ rfl⟩
def iRgN (tl : TE) : TI := fun σ H R => tl σ H fun x H1 => ∃ a lo hi, x = .ref a ∧ H1 a = some (.rng lo hi) ∧ (-(2 ^ 62) ≤ lo ∧ lo < 2 ^ 62 ∧ -(2 ^ 62) ≤ hi ∧ hi < 2 ^ 62) ∧ R (Itr lo (hi - lo).toNat) H1
theorem pi_rgN {X : Cx} {tg l : Expr} {tl : TE} (hl : PE X l tl) : PI X tg l (iRgN tl) := by
  refine ⟨fun pins s σ H R I h => ?_⟩
  refine thn (hl.run pins s σ H _ I h) fun u s1 h1 => ?_
  obtain ⟨x, H1, I1, r1, a, lo, hi, rfl, hr, ⟨b1, b2, b3, b4⟩, q⟩ := h1
  cases r1
  obtain ⟨t, u, v, ho⟩ := I1.hok _ _ hr
  refine wpAny_pyIter_range (show IsRange s1.heap a lo hi 1 t u v from ho) (small_one b1 b2 b3 b4) ?_
  refine ⟨s1.heap.objs.size, [s1.heap.objs.size], _, _, H1, rfl, I1.kept (t' := s1.toks) fun b o e => Heap.get?_push_of_some _ e, turn_range _ lo (hi - lo).toNat, ?_, fun b hb => ?_, q⟩
  · have e1 : lo + ((0 : Nat) : Int) * 1 = lo := by simp
    have e2 : (((hi - lo).toNat : Nat) : Int) - ((0 : Nat) : Int) = Builtin.Range.rangeSize lo hi 1 := by
      rw [rangeSize_one]
      split <;> omega
    show IsRangeIter _ _ (lo + ((0 : Nat) : Int) * 1) ((((hi - lo).toNat : Nat) : Int) - ((0 : Nat) : Int)) 1
    rw [e1, e2]
    exact Heap.get?_push_size _ rfl
  · rw [List.mem_singleton.mp hb]
    exact I1.fpOk (Nat.le_refl _) (I1.hok.fresh (Nat.le_refl _))
theorem Stt.setR {S H : Hp} {σ : L2.St} {lo : Lo} (s : Stt K S H σ lo) {i : Nat} {c : Addr} {a b : Int} (r : S c = some (.rng a b)) : Stt K S H (σ.set i (some (.ref c))) (lo.set i (some (.rng a b))) ∧ ∀ a', Own (σ.set i (some (.ref c))) (lo.set i (some (.rng a b))) a' → Own σ lo a' := by
  have oth : ∀ j x, OwnAt (σ.set i (some (.ref c))) (lo.set i (some (.rng a b))) j x → OwnAt σ lo j x := fun j x ⟨h1, ys, h2⟩ => by
    by_cases q : j = i
    · subst q
      by_cases hi : j < lo.length
      · rw [List.getElem?_set_self hi] at h2
        cases h2
      · rw [List.getElem?_eq_none (by rw [List.length_set]; omega)] at h2
        cases h2
    · rw [List.getElem?_set_ne (Ne.symm q)] at h1 h2
      exact ⟨h1, ys, h2⟩
  refine ⟨⟨s.sub, s.noT, by rw [List.length_set, List.length_set]; exact s.len, fun j l h => ?_, fun j x h => s.own j x (oth j x h), fun j k x h1 h2 => s.inj j k x (oth j x h1) (oth k x h2)⟩, fun x ⟨j, h⟩ => ⟨j, oth j x h⟩⟩
  by_cases q : j = i
  · subst q
    have hi : j < lo.length := by
      have := (List.getElem?_eq_some_iff.mp h).1
      rwa [List.length_set] at this
    rw [List.getElem?_set_self hi] at h
    cases h
    exact ⟨_, List.getElem?_set_self (by rw [← s.len]; exact hi), c, rfl, r⟩
  · rw [List.getElem?_set_ne (Ne.symm q)] at h
    obtain ⟨w, e, rr⟩ := s.loc j l h
    exact ⟨w, by rw [List.getElem?_set_ne (Ne.symm q)]; exact e, rr⟩
section
variable {X : Cx} {T : List Addr} {pos p pos2 : Pos} {pin : Bool} {a e tg : Expr} {ga g : GE} {i : Nat}
def asgRg (g : GE) (i : Nat) : GS := fun lo => (g lo).bind fun p => match p.1 with
  | .int n => some (.nx, p.2.set i (some (.rng 0 n)))
  | _ => none
theorem es_asgRg (hg : Gl X "range") (hm : X.mg "range" = none) (ha : PE X a (tE X.K T ga)) (ht : PG X tg (gName i)) (hp : pin = true → i ≠ 0) (he : starEach [a] X.env = (false, eval a X.env) :: starEach [] X.env := by rfl)
    (hs : swapsWithSole [tg] (.Call (.Name "range" p) [a] [] pos2) pos.line X.env = pure false := by rfl) (hw : swappedStores [tg] (.Call (.Name "range" p) [a] [] pos2) X.env = pure none := by rfl) (h1 : (assignEach [tg] X.env).map (·.2) = [assign tg X.env] := by rfl) :
    PS X (.Assign [tg] (.Call (.Name "range" p) [a] [] pos2) pos) (tS X.K T pin (asgRg ga i)) := by
  refine ps_imp (ps_asg (pe_callTy cr_rangeN hg hm (by decide +kernel) (pa_cons ha pa_nil he) (by decide) (by decide) he rfl) ht hs hw h1) fun D σ H w => ?_
  obtain ⟨S, lo, st, at', o, lo', e, q⟩ := w
  obtain ⟨y, e1, e2⟩ := Option.bind_eq_some_iff.mp e
  refine ⟨S, lo, st, at', y.1, y.2, e1, fun v S1 H1 st1 r1 x1 => ?_⟩
  split at e2
  · rename_i n hn
    cases e2
    rw [hn] at r1
    cases r1
    refine ⟨n, rfl, fun c hc => ?_⟩
    have g1 := Gro.new (u := .rng 0 n) st1.sub st1.noT hc (fun ps z => by cases z)
    obtain ⟨st2, o2⟩ := (st1.gro g1).setR (i := i) (c := c) (a := 0) (b := n) upd_same
    exact q _ _ _ st2 ((x1.trans g1.ext).shrink o2) fun z => by rw [List.getElem?_set_ne (hp z)]
  · cases e2
def rngI (i : Nat) : GA := fun lo => match lo[i]? with
  | some (some (.rng a b)) => if small62 a = true ∧ small62 b = true then some (rgL a b, lo) else none
  | _ => none
theorem ei_rng (h : PE X e (tVar i)) : PI X tg e (tI X.K T (rngI i)) := by
  refine pi_imp (pi_rgN h) fun σ H R w => ?_
  obtain ⟨S, lo, st, at', xs, lo', e, q⟩ := w
  unfold rngI at e
  split at e
  · rename_i a b hab
    split at e
    · rename_i hz
      cases e
      obtain ⟨v, ev, c, rfl, hc⟩ := st.loc i _ hab
      have b1 := small62_iff.mp hz.1
      have b2 := small62_iff.mp hz.2
      exact ⟨.ref c, ev, c, a, b, rfl, st.sub _ _ hc, ⟨b1.1, b1.2, b2.1, b2.2⟩, q _ S H st (Ext.refl _ _ _) walks_r⟩
    · cases e
  · cases e
def boolsD : List PyData → Option (List Bool)
  | [] => some []
  | .bool b :: r => (boolsD r).bind fun bs => some (b :: bs)
  | _ => none
theorem RqL.bools {S : Hp} : ∀ {ds : List PyData} {bs : List Bool} {vs : List V}, boolsD ds = some bs → RqL K S vs ds → vs = bs.map V.bl
  | [], _, _, h, r => by cases h; cases r; rfl
  | d :: r, bs, vs, h, rr => by
    cases d with
    | bool b =>
      obtain ⟨cs, e1, e2⟩ := Option.bind_eq_some_iff.mp (show (boolsD r).bind _ = some bs from h)
      cases e2
      cases rr with
      | cons a t =>
        cases a
        rw [RqL.bools e1 t]; rfl
    | _ => cases h
def anyL : List PyData → Option PyData
  | [.list xs] => (boolsD xs).bind fun bs => some (.bool (bs.any id))
  | _ => none
def allL : List PyData → Option PyData
  | [.list xs] => (boolsD xs).bind fun bs => some (.bool (bs.all id))
  | _ => none
theorem val_anyL : ValN K anyL (rAny K) := fun S H vs ds z Q s n r e q => by
  unfold anyL at e
  split at e
  · obtain ⟨bs, e1, e2⟩ := Option.bind_eq_some_iff.mp e
    cases e2
    obtain ⟨v, rfl, rv⟩ := r.one
    obtain ⟨a, us, rfl, h, rl⟩ := rv.list s
    rw [RqL.bools e1 rl] at h
    exact ⟨a, bs, rfl, .inl h, q _ S H (Gro.refl s n) (.bl _)⟩
  · cases e
theorem val_allL : ValN K allL (rAll K) := fun S H vs ds z Q s n r e q => by
  unfold allL at e
  split at e
  · obtain ⟨bs, e1, e2⟩ := Option.bind_eq_some_iff.mp e
    cases e2
    obtain ⟨v, rfl, rv⟩ := r.one
    obtain ⟨a, us, rfl, h, rl⟩ := rv.list s
    rw [RqL.bools e1 rl] at h
    exact ⟨a, bs, rfl, .inl h, q _ S H (Gro.refl s n) (.bl _)⟩
  · cases e
def zipD (xs ys : List PyData) : List PyData := List.zipWith (fun x y => PyData.tuple [x, y]) xs ys
def zipI (g : GA) : GA := fun lo => (g lo).bind fun p => match p.1 with
  | [.list xs, .list ys] => some (zipD xs ys, p.2)
  | [.tuple xs, .tuple ys] => some (zipD xs ys, p.2)
  | _ => none
end
def all2Go (gg : GG) (gi1 : GA) (gg1 : GG) (g : GE) (go : Bool) : List PyData → Lo → Option (Bool × Lo)
  | [], lo => some (go, lo)
  | x :: r, lo => (gg x lo).bind fun l => (gi1 l).bind fun p => (allGo [] gg1 g go p.1 p.2).bind fun q => if q.1 = go then all2Go gg gi1 gg1 g go r q.2 else some (!go, q.2)
def all2F (gi : GA) (vs : List Nat) (gg : GG) (gi1 : GA) (gg1 : GG) (g : GE) (go : Bool) : GE := fun lo => (gi lo).bind fun p => if noOwn p.2 vs = true then (all2Go gg gi1 gg1 g go p.1 (wipeL p.2 vs)).bind fun q => some (.bool q.1, rstL p.2 q.2 vs) else none
/-- how many turns the inner walks take -/
def cost1 (gg1 : GG) (g : GE) (go : Bool) (k : Lo → Nat) : List PyData → Lo → Nat
  | [], lo => k lo
  | y :: r, lo => match (gg1 y lo).bind fun l => bF g l with
    | some p => if p.1 = go then cost1 gg1 g go k r p.2 + 1 else 1
    | none => 0
def cost2 (gg : GG) (gi1 : GA) (gg1 : GG) (g : GE) (go : Bool) : List PyData → Lo → Nat
  | [], _ => 0
  | x :: r, lo => match (gg x lo).bind gi1 with
    | some p => cost1 gg1 g go (cost2 gg gi1 gg1 g go r) p.1 p.2
    | none => 0
section
variable {X : Cx} {T : List Addr} {pos : Pos}
theorem tAllG2_of {gi gi1 : GA} {gg gg1 : GG} {g : GE} {go : Bool} {own : List (Str × Nat)} {P : Addr} {tg tg1 : TG} (hP : P ∈ T) (hgb : TGb X.K (own.map (·.2)) tg gg) (hgb1 : TGb X.K (own.map (·.2)) tg1 gg1) {σ : L2.St} {H : Hp} {Q : VK} (w : tE X.K T (all2F gi (own.map (·.2)) gg gi1 gg1 g go) σ H Q) :
    Gx.tAllG2 P own (tI X.K T gi) tg (tI X.K T gi1) tg1 (tE X.K T g) go σ H Q := by
  obtain ⟨S, lo, st, at', x, lo', e, q⟩ := w
  obtain ⟨p, e1, e2⟩ := Option.bind_eq_some_iff.mp e
  obtain ⟨xs, l1⟩ := p
  revert e2 hgb hgb1
  generalize hvs : own.map (·.2) = vs
  intro hgb hgb1 e2
  split at e2
  · rename_i hno
    obtain ⟨r, e3, e4⟩ := Option.bind_eq_some_iff.mp e2
    obtain ⟨out, l9⟩ := r
    cases e4
    refine ⟨S, lo, st, at', xs, l1, e1, fun J S1 H1 st1 x1 wk => ⟨at'.ext x1 P hP, fun H2 t2 => ?_⟩⟩
    have hT := at'.ext x1 P hP
    have st2 := st1.tabbed hT t2
    have x2 : Ext (Own σ l1) S1 H1 S1 H2 (Own σ l1) := tabbed_ext hT t2
    obtain ⟨stw, ow⟩ := st2.wipe vs
    have a2 := at'.ext (x1.trans x2)
    have done : ∀ {S' H' : Hp} {σ' : L2.St}, wipe σ' vs = wipe σ vs → Stt X.K S' H' σ' l9 → Ext (Own (L2.wipe σ vs) (wipeL l1 vs)) S1 H2 S' H' (Own σ' l9) → Q (.bl out) H' := fun {S' H' σ'} hσ st' x' => by
      obtain ⟨k1, k2⟩ := wipe_rst hσ
      obtain ⟨s9, o9⟩ := st2.leave hno st' x'.sub k1 k2
      exact q _ S' H' s9 (.bl out) ((x1.trans x2).trans ((x'.shrink o9).widen ow))
    rw [hvs]
    refine ⟨xs.length, cost2 gg gi1 gg1 g go xs (wipeL l1 vs), ⟨
      fun m i σ' H' => wipe σ' vs = wipe σ vs ∧ ∃ S' lo2, Stt X.K S' H' σ' lo2 ∧ Ext (Own (L2.wipe σ vs) (wipeL l1 vs)) S1 H2 S' H' (Own σ' lo2) ∧ all2Go gg gi1 gg1 g go (xs.drop i) lo2 = some (out, l9) ∧ m = cost2 gg gi1 gg1 g go (xs.drop i) lo2,
      fun J1 m i j σ' H' => wipe σ' vs = wipe σ vs ∧ ∃ S0 ys S' lo2, Walks X.K J1 S0 ys ∧ Sub S0 S' ∧ j ≤ ys.length ∧ Stt X.K S' H' σ' lo2 ∧ Ext (Own (L2.wipe σ vs) (wipeL l1 vs)) S1 H2 S' H' (Own σ' lo2) ∧
        ((allGo [] gg1 g go (ys.drop j) lo2).bind fun q => if q.1 = go then all2Go gg gi1 gg1 g go (xs.drop (i + 1)) q.2 else some (!go, q.2)) = some (out, l9) ∧ m = cost1 gg1 g go (cost2 gg gi1 gg1 g go (xs.drop (i + 1))) (ys.drop j) lo2,
      fun b σ' H' => b = !go ∧ Q (.bl (!go)) H', fun H' => Q (.bl go) H'⟩, ⟨?_, ?_⟩, ⟨wipe_idem σ vs, S1, _, stw, Ext.refl _ _ _, e3, rfl⟩, fun _ _ z => z.2, fun _ z => z⟩
    · rintro m i σ' H' hi' ⟨hw, S', lo2, st', x', eg, em⟩
      rcases wk i S' H' x'.sub st'.sub st'.noT hi' with ⟨ei, stop⟩ | ⟨x, hx, gone, yl⟩
      · refine .inl ⟨stop, ?_⟩
        rw [ei, List.drop_length] at eg
        cases eg
        exact done hw st' x'
      · have hlt : i < xs.length := (List.getElem?_eq_some_iff.mp hx).1
        have ed : xs.drop i = x :: xs.drop (i + 1) := by
          rw [List.drop_eq_getElem_cons hlt]
          rw [List.getElem?_eq_getElem hlt] at hx
          cases hx
          rfl
        rw [ed] at eg em
        obtain ⟨l, e5, e6⟩ := Option.bind_eq_some_iff.mp eg
        obtain ⟨r1, e7, e8⟩ := Option.bind_eq_some_iff.mp e6
        refine .inr ⟨hlt, gone, fun v H3 y => ?_⟩
        obtain ⟨S3, gr, rv⟩ := yl v H3 y
        refine hgb v x σ' H3 _ S3 lo2 l (st'.gro gr) rv e5 fun σ4 st4 o4 p4 => ?_
        have x4 := (x'.trans gr.ext).shrink o4
        refine ⟨S3, l, st4, a2.ext x4, r1.1, r1.2, e7, fun J1 S5 H5 st5 x5 wk1 => ?_⟩
        refine ⟨p4.trans hw, S5, r1.1, S5, r1.2, wk1, Sub.refl _, Nat.zero_le _, st5, x4.trans x5, e8, ?_⟩
        rw [em]
        show (match (gg x lo2).bind gi1 with | some p => _ | none => _) = _
        rw [e5, Option.bind_some, e7]
        rfl
    · rintro J1 m i j σ' H' hi' ⟨hw, S0, ys, S', lo2, wk1, sb, hj, st', x', eg, em⟩
      rcases wk1 j S' H' sb st'.sub st'.noT hj with ⟨ej, stop⟩ | ⟨y, hy, gone, yl⟩
      · refine .inl ⟨stop, ?_⟩
        rw [ej, List.drop_length] at eg em
        rw [show allGo [] gg1 g go [] lo2 = some (go, lo2) from rfl, Option.bind_some, if_pos rfl] at eg
        exact ⟨hw, S', lo2, st', x', eg, em⟩
      · have hlt : j < ys.length := (List.getElem?_eq_some_iff.mp hy).1
        have ed : ys.drop j = y :: ys.drop (j + 1) := by
          rw [List.drop_eq_getElem_cons hlt]
          rw [List.getElem?_eq_getElem hlt] at hy
          cases hy
          rfl
        rw [ed] at eg em
        obtain ⟨r0, e4, e5⟩ := Option.bind_eq_some_iff.mp eg
        obtain ⟨l, e6, e7⟩ := Option.bind_eq_some_iff.mp e4
        obtain ⟨r1, e8, e9⟩ := Option.bind_eq_some_iff.mp e7
        have em2 : m = if r1.1 = go then cost1 gg1 g go (cost2 gg gi1 gg1 g go (xs.drop (i + 1))) (ys.drop (j + 1)) r1.2 + 1 else 1 := by
          rw [em]
          show (match (gg1 y lo2).bind fun l => bF g l with | some p => _ | none => _) = _
          rw [e6, Option.bind_some, e8]
        refine .inr ⟨gone, m - 1, by
          rw [em2]
          split <;> omega, fun v H3 yy => ?_⟩
        obtain ⟨S3, gr, rv⟩ := yl v H3 yy
        refine hgb1 v y σ' H3 _ S3 lo2 l (st'.gro gr) rv e6 fun σ4 st4 o4 p4 => ?_
        have x4 := (x'.trans gr.ext).shrink o4
        refine ⟨S3, l, st4, a2.ext x4, _, r1.2, bF_some (b := r1.1) e8, fun w S5 H5 st5 r5 x5 => ?_⟩
        cases r5
        refine ⟨r1.1, rfl, ?_⟩
        have x45 := x4.trans x5
        refine ite2 (fun c => ?_) (fun c => ?_)
        · rw [if_pos c] at e9 em2
          refine ⟨p4.trans hw, S0, ys, S5, r1.2, wk1, sb.trans (gr.subS.trans x5.sub), hlt, st5, x45, ?_, by omega⟩
          rw [e9, Option.bind_some]; exact e5
        · rw [if_neg c] at e9
          cases e9
          have c2 : ¬ (!go) = go := by cases go <;> simp
          rw [if_neg c2] at e5
          cases e5
          refine ⟨by cases h : r1.1 <;> cases go <;> first | rfl | (rw [h] at c; exact absurd rfl c), ?_⟩
          exact done (p4.trans hw) st5 x45
  · cases e2
def gscLC (N : List Str) (sc scope : Scope) (own : List (Str × Nat)) : Bool :=
  decide (scope.kind = .function) && !scope.isCoroutine && decide (scope.names.lookup (".0" : Str) = some NameKind.local) && !(N.contains (".0" : Str)) && decide N.Nodup && (own.all fun q => decide (N[q.2]? = some q.1)) &&
    scope.names.all fun p => !decide (p.2 = .cell) && (!decide (p.2 = .local) || p.1 == (".0" : Str) || (own.map (·.1)).contains p.1) && (!decide (p.2 = .free) || decide (sc.names.lookup p.1 = some .cell) || decide (sc.names.lookup p.1 = some .free))
theorem gscL_by {N : List Str} {sc scope : Scope} {own : List (Str × Nat)} (h : gscLC N sc scope own = true) : Gx.GScL N sc scope own := by
  unfold gscLC at h
  simp only [Bool.and_eq_true, decide_eq_true_eq, Bool.not_eq_true', List.all_eq_true, Bool.or_eq_true, beq_iff_eq, decide_eq_false_iff_not] at h
  obtain ⟨⟨⟨⟨⟨⟨h1, h2⟩, h3⟩, h6⟩, h7⟩, h5⟩, h8⟩ := h
  refine ⟨h1, h2, fun y hy => (h8 y hy).1.1, h3, fun y hy => ?_, fun y hy e => ?_, h7, fun q hq => h5 q hq, fun hm => ?_⟩
  · rcases (h8 _ (PySem.mem_of_lookup hy)).1.2 with (z | z) | z
    · exact absurd rfl z
    · exact .inl z
    · refine .inr ?_
      obtain ⟨q, hq, e⟩ := List.mem_map.mp (List.contains_iff_mem.mp z)
      have e' : q.1 = y := e
      exact ⟨q.2, by rw [← e']; exact hq⟩
  · rcases (h8 y hy).2 with (z | z) | z
    · exact absurd e z
    · exact .inl z
    · exact .inr z
  · rw [List.contains_iff_mem.mpr hm] at h6
    cases h6
variable {elt t0 t1 iter i1 : Expr} {p gpos : Pos} {scope : Scope} {own : List (Str × Nat)} {k : Nat} {P c : Addr} {gi gi1 : GA} {gg gg1 : GG} {g : GE} {tg tg1 : TG}
theorem ev_all2 (hP : P ∈ T) (hr : Room (k + 1) X.A) (hga : Gl X "all") (hma : X.mg "all" = none) (TB : GxR.TabB X.base X.mg c P) (hcode : X.env.code = .ref c) (G : Gx.GScL X.N X.env.scope scope own) (hi : PI X t0 iter (tI X.K T gi))
    (hgt : ∀ (s : Shared) (H : Hp) (C : Addr) (code : Value) (fp : List Addr), PG (Gx.gcx X (Gx.gA X (Gx.gE X scope C code)) s H (Gx.gE X scope C code) fp) t0 tg) (hgb : TGb X.K (own.map (·.2)) tg gg)
    (hw1 : ∀ (s : Shared) (H : Hp) (C : Addr) (code : Value) (fp : List Addr), Room k (Gx.gA X (Gx.gE X scope C code)) → PI (Gx.gcx X (Gx.gA X (Gx.gE X scope C code)) s H (Gx.gE X scope C code) fp) t1 i1 (tI X.K T gi1))
    (hg1 : ∀ (s : Shared) (H : Hp) (C : Addr) (code : Value) (fp : List Addr), PG (Gx.gcx X (Gx.gA X (Gx.gE X scope C code)) s H (Gx.gE X scope C code) fp) t1 tg1) (hgb1 : TGb X.K (own.map (·.2)) tg1 gg1)
    (hel : ∀ (s : Shared) (H : Hp) (C : Addr) (code : Value) (fp : List Addr), Room k (Gx.gA X (Gx.gE X scope C code)) → PE (Gx.gcx X (Gx.gA X (Gx.gE X scope C code)) s H (Gx.gE X scope C code) fp) elt (tE X.K T g))
    (hs : ∀ v, genFold iter X.env v = pure v) (hs1 : ∀ env v, foldedSetIterable i1 env v = pure v)
    (he : starEach [.GeneratorExp elt [⟨t0, iter, [], 0⟩, ⟨t1, i1, [], 0⟩] scope gpos] X.env = (false, eval (.GeneratorExp elt [⟨t0, iter, [], 0⟩, ⟨t1, i1, [], 0⟩] scope gpos) X.env) :: starEach [] X.env := by rfl) :
    PE X (.Call (.Name "all" p) [.GeneratorExp elt [⟨t0, iter, [], 0⟩, ⟨t1, i1, [], 0⟩] scope gpos] [] pos) (tE X.K T (all2F gi (own.map (·.2)) gg gi1 gg1 g true)) :=
  pe_imp (Gx.pe_all2 hr hga hma TB hcode G hi hgt hw1 hg1 hel hs hs1 he) fun _ _ _ w => tAllG2_of hP hgb hgb1 w
theorem ev_any2 (hP : P ∈ T) (hr : Room (k + 1) X.A) (hga : Gl X "any") (hma : X.mg "any" = none) (TB : GxR.TabB X.base X.mg c P) (hcode : X.env.code = .ref c) (G : Gx.GScL X.N X.env.scope scope own) (hi : PI X t0 iter (tI X.K T gi))
    (hgt : ∀ (s : Shared) (H : Hp) (C : Addr) (code : Value) (fp : List Addr), PG (Gx.gcx X (Gx.gA X (Gx.gE X scope C code)) s H (Gx.gE X scope C code) fp) t0 tg) (hgb : TGb X.K (own.map (·.2)) tg gg)
    (hw1 : ∀ (s : Shared) (H : Hp) (C : Addr) (code : Value) (fp : List Addr), Room k (Gx.gA X (Gx.gE X scope C code)) → PI (Gx.gcx X (Gx.gA X (Gx.gE X scope C code)) s H (Gx.gE X scope C code) fp) t1 i1 (tI X.K T gi1))
    (hg1 : ∀ (s : Shared) (H : Hp) (C : Addr) (code : Value) (fp : List Addr), PG (Gx.gcx X (Gx.gA X (Gx.gE X scope C code)) s H (Gx.gE X scope C code) fp) t1 tg1) (hgb1 : TGb X.K (own.map (·.2)) tg1 gg1)
    (hel : ∀ (s : Shared) (H : Hp) (C : Addr) (code : Value) (fp : List Addr), Room k (Gx.gA X (Gx.gE X scope C code)) → PE (Gx.gcx X (Gx.gA X (Gx.gE X scope C code)) s H (Gx.gE X scope C code) fp) elt (tE X.K T g))
    (hs : ∀ v, genFold iter X.env v = pure v) (hs1 : ∀ env v, foldedSetIterable i1 env v = pure v)
    (he : starEach [.GeneratorExp elt [⟨t0, iter, [], 0⟩, ⟨t1, i1, [], 0⟩] scope gpos] X.env = (false, eval (.GeneratorExp elt [⟨t0, iter, [], 0⟩, ⟨t1, i1, [], 0⟩] scope gpos) X.env) :: starEach [] X.env := by rfl) :
    PE X (.Call (.Name "any" p) [.GeneratorExp elt [⟨t0, iter, [], 0⟩, ⟨t1, i1, [], 0⟩] scope gpos] [] pos) (tE X.K T (all2F gi (own.map (·.2)) gg gi1 gg1 g false)) :=
  pe_imp (Gx.pe_any2 hr hga hma TB hcode G hi hgt hw1 hg1 hel hs hs1 he) fun _ _ _ w => tAllG2_of hP hgb hgb1 w
end
end Ev
namespace Ev
open PySem PySem.Spec PyProof.Rows L2 Tb
variable {K : PySem.W.Frag}
/-- what a table of texts says -/
def tabD (tab : List (Str × PyData)) (z : Str) : Option PyData := (tab.find? fun p => decide (p.1 = z)).map (·.2)
/-- the module's name x holds the dict tab, at d -/
structure DctK (K : PySem.W.Frag) (w : World) (mg : Str → Option Value) (x : Str) (tab : List (Str × PyData)) (d : Addr) (es : Array DictEntry) (n : Nat) : Prop where
  at_ : mg x = some (.ref d)
  kd : KDict K w d es n
  has : ∀ z, match tabD tab z with
    | none => PySem.W.nsIn K d z = some none
    | some v => ∃ u v0, PySem.W.nsIn K d z = some (some u) ∧ RelV v0 u ∧ ∀ S, Rq K S v0 v
section
variable {X : Cx} {T : List Addr} {pos p : Pos} {d : Addr} {es : Array DictEntry} {n : Nat} {tab : List (Str × PyData)} {x : Str} {a : Expr} {g : GE}
theorem ix_kdE (D : KDict X.K X.w d es n) : IxR X (fun x y H Q => ∃ (z : Str) (u0 : Value) (v0 : V), x = .ref d ∧ y = .str z ∧ PySem.W.nsIn X.K d z = some (some u0) ∧ RelV v0 u0 ∧ Q v0 H) := by
  intro value slice pins s σ H x y v u Q I rx ry h hs
  obtain ⟨z, u0, v0, rfl, rfl, e, r, q⟩ := h
  cases rx
  obtain ⟨t, rfl⟩ := ry
  refine tail_any (kd_type D I) PySem.F.slot_dict_getitem.lookup ?_ hs
  exact wpAny_getItem_of (PySem.strKind_is X.prog X.w z t) (PySem.W.mapOf_K (prog := X.prog) I.kIn D.at_ D.lit) (PySem.W.find_K D.at_ e) ⟨v0, H, I.tok _, r, q⟩
def kinF (neg : Bool) (tab : List (Str × PyData)) : PyData → Option PyData
  | .str z => some (.bool (if neg = true then !(tabD tab z).isSome else (tabD tab z).isSome))
  | _ => none
def kixF (tab : List (Str × PyData)) : PyData → Option PyData
  | .str z => tabD tab z
  | _ => none
def rKin (K : PySem.W.Frag) (d : Addr) (neg : Bool) : R2 := fun x y H Q => ∃ (z : Str) (r : Option Value), x = .str z ∧ y = .ref d ∧ PySem.W.nsIn K d z = some r ∧ Q (.bl (if neg = true then !r.isSome else r.isSome)) H
theorem op_kin (D : KDict X.K X.w d es n) : OpR X (compareOp .In) (rKin X.K d false) := fun pins s σ H x y v u Q I rx ry h => op_in_kd D pins s σ H x y v u Q I rx ry h
theorem op_knotin (D : KDict X.K X.w d es n) : OpR X (compareOp .NotIn) (rKin X.K d true) := fun pins s σ H x y v u Q I rx ry h => op_notIn_kd D pins s σ H x y v u Q I rx ry h
theorem DctK.nsS {w : World} {mg : Str → Option Value} (D : DctK K w mg x tab d es n) (z : Str) : ∃ r, PySem.W.nsIn K d z = some r ∧ r.isSome = (tabD tab z).isSome := by
  have h := D.has z
  cases e : tabD tab z with
  | none => rw [e] at h; exact ⟨none, h, rfl⟩
  | some v =>
    rw [e] at h
    obtain ⟨u, v0, h1, _⟩ := h
    exact ⟨some u, h1, rfl⟩
theorem tKin_of {neg : Bool} (D : DctK X.K X.w X.mg x tab d es n) {σ : L2.St} {H : Hp} {Q : VK} (w : tE X.K T (un1 (kinF neg tab) g) σ H Q) : tOp (rKin X.K d neg) (tE X.K T g) (tC (.ref d)) σ H Q := by
  obtain ⟨S, lo, st, at', z, lo', e, q⟩ := w
  obtain ⟨y, e1, e2⟩ := Option.bind_eq_some_iff.mp e
  obtain ⟨z', e3, e4⟩ := Option.bind_eq_some_iff.mp e2
  cases e4
  refine ⟨S, lo, st, at', y.1, y.2, e1, fun v S1 H1 st1 r1 x1 => ?_⟩
  unfold kinF at e3
  split at e3
  · rename_i z hz
    cases e3
    rw [hz] at r1
    cases r1
    obtain ⟨r, h1, h2⟩ := D.nsS z
    exact ⟨z, r, rfl, rfl, h1, by rw [h2]; exact q _ S1 H1 st1 (.bl _) x1⟩
  · cases e3
theorem et_kin (D : DctK X.K X.w X.mg x tab d es n) (hg : Gl X x) (ha : PE X a (tE X.K T g)) (hm : behindInMarks .In (.Name x p) = false := by rfl) (hdb : (x == ("__debug__" : Str)) = false := by decide) : PT X (.Compare a [.In] [.Name x p] pos) (tT X.K T (bF (un1 (kinF false tab) g))) :=
  pt_imp (pt_cmpR (op_kin D.kd) ha (pe_glob (v := .ref d) hg D.at_ rfl hdb) hm) fun σ H Q w => by
    have := tB_of w
    exact tKin_of (Q := fun x H' => ∃ k, x = .bl k ∧ Q k H') D this
theorem et_knotin (D : DctK X.K X.w X.mg x tab d es n) (hg : Gl X x) (ha : PE X a (tE X.K T g)) (hm : behindInMarks .NotIn (.Name x p) = false := by rfl) (hdb : (x == ("__debug__" : Str)) = false := by decide) : PT X (.Compare a [.NotIn] [.Name x p] pos) (tT X.K T (bF (un1 (kinF true tab) g))) :=
  pt_imp (pt_cmpR (op_knotin D.kd) ha (pe_glob (v := .ref d) hg D.at_ rfl hdb) hm) fun σ H Q w => by
    have := tB_of w
    exact tKin_of (Q := fun x H' => ∃ k, x = .bl k ∧ Q k H') D this
theorem ev_kix (D : DctK X.K X.w X.mg x tab d es n) (hg : Gl X x) (ha : PE X a (tE X.K T g)) (hs : PlainIx a) (hdb : (x == ("__debug__" : Str)) = false := by decide) : PE X (.Subscript (.Name x p) a pos) (tE X.K T (un1 (kixF tab) g)) := by
  refine pe_imp (pe_ix (ix_kdE D.kd) (pe_glob (v := .ref d) hg D.at_ rfl hdb) ha hs) fun σ H Q w => ?_
  obtain ⟨S, lo, st, at', z, lo', e, q⟩ := w
  obtain ⟨y, e1, e2⟩ := Option.bind_eq_some_iff.mp e
  obtain ⟨z', e3, e4⟩ := Option.bind_eq_some_iff.mp e2
  cases e4
  refine ⟨S, lo, st, at', y.1, y.2, e1, fun v S1 H1 st1 r1 x1 => ?_⟩
  unfold kixF at e3
  split at e3
  · rename_i z hz
    rw [hz] at r1
    cases r1
    have h := D.has z
    rw [e3] at h
    obtain ⟨u, v0, h1, h2, h3⟩ := h
    exact ⟨z, u, v0, rfl, rfl, h1, h2, q _ S1 H1 st1 (h3 _) x1⟩
  · cases e3
end
end Ev
namespace Ev
open PySem PySem.Spec PyProof.Rows L2 Tb
variable {K : PySem.W.Frag}
/-- the first with the fewest items -/
def bestAt (ns : Nat → Nat) : Nat → Nat
  | 0 => 0
  | k + 1 => if ns (k + 1) < ns (bestAt ns k) then k + 1 else bestAt ns k
section
variable {X : Cx} {T : List Addr} {pos p pl kp : Pos} {e : Expr} {ta : TA} {g : GE}
def lensD : List PyData → Option (List Nat)
  | [] => some []
  | .list xs :: r => (lensD r).bind fun ns => some (xs.length :: ns)
  | _ => none
def minLenF (g : GE) : GE := fun lo => (g lo).bind fun p => match p.1 with
  | .list xs => (lensD xs).bind fun ns => (xs[bestAt (fun i => ns.getD i 0) (xs.length - 1)]?).bind fun z => some (z, p.2)
  | _ => none
end
end Ev
namespace Ev
open PySem PySem.Spec PyProof.Rows L2 Tb
variable {K : PySem.W.Frag}
def spL (K : PySem.W.Frag) (T : List Addr) (fn : List PyData → Option (List PyData)) : Sp := fun vs H Q _ => ∃ S xs, Sub S H ∧ NoT S ∧ RqL K S vs xs ∧ AllT T H ∧ ∃ y, fn xs = some y ∧
  ∀ c us S' H', Sub S' H' → NoT S' → H' c = some (.lst us) → RqL K S' us y → S' c = none → Fz H c → ExtN S H S' H' → Q (.ref c) H'
section
variable {X : Cx} {T : List Addr} {pos p : Pos} {pin : Bool} {a b e : Expr} {es : List Expr} {g ga gb : GE} {ga' : GA} {gl : GL} {gd : GD}
def tSL (K : PySem.W.Frag) (T : List Addr) (g : GL) : TS := fun D σ H => ∃ S lo, Stt K S H σ lo ∧ AllT T H ∧ ∃ y lo', g lo = some (y, lo') ∧
  ∀ σ' c us S' H', Stt K S' H' σ' lo' → H' c = some (.lst us) → RqL K S' us y → S' c = none → (Own σ lo c ∨ Fz H c) → Ext (Own σ lo) S H S' H' (Own σ' lo') → D.rt (.ref c) H'
theorem esl_ret (h : PE X e (tL X.K T gl)) : PS X (.Return (some e) pos) (tSL X.K T gl) := by
  refine ps_imp (ps_ret h) fun D σ H w => ?_
  obtain ⟨S, lo, st, at', y, lo', e, q⟩ := w
  exact ⟨S, lo, st, at', y, lo', e, fun c us S' H' st' h1 r1 s n f x => q σ c us S' H' st' h1 r1 s f x⟩
def seqL (g : GS) (k : GL) : GL := fun lo => (g lo).bind fun p => match p.1 with
  | .nx => k p.2
  | _ => none
theorem esl_cons {st : Stmt} {rest : List Stmt} {g : GS} {k : GL} (h : PS X st (tS X.K T false g)) (hk : PSs X rest (tSL X.K T k)) : PSs X (st :: rest) (tSL X.K T (seqL g k)) := by
  refine pss_imp (pss_cons h hk) fun D σ H w => ?_
  obtain ⟨S, lo, st, at', y, lo', e, q⟩ := w
  obtain ⟨p, e1, e2⟩ := Option.bind_eq_some_iff.mp e
  obtain ⟨o1, l1⟩ := p
  cases o1 with
  | nx =>
    refine ⟨S, lo, st, at', .nx, l1, e1, fun σ1 S1 H1 st1 x1 _ => ⟨S1, l1, st1, at'.ext x1, y, lo', e2, fun σ2 c us S2 H2 st2 h1 r1 s f x2 => ?_⟩⟩
    exact q σ2 c us S2 H2 st2 h1 r1 s (f.elim (fun o => x1.domF c o) fun f => x1.fz f) (x1.trans x2)
  | rt _ => cases e2
  | bk => cases e2
  | ct => cases e2
theorem esl_one {st : Stmt} {g : GL} (h : PS X st (tSL X.K T g)) : PSs X [st] (tSL X.K T g) := pss_one h
end
def runL (n N : Nat) (g : GL) (xs : List PyData) : Option (List PyData) := if xs.length = n then (g (lo0 xs (N - n))).bind fun p => some p.1 else none
section
variable {P : Program} {w : World} {mg : Str → Option Value} {base : Heap} {N ps : List Str} {qual x : Str} {st : Stmt} {f c : Addr} {fd : FuncData} {k n m : Nat} {T : List Addr} {g : GL}
theorem spL_len {n N : Nat} {g : GL} {vs : List V} {H : Hp} {Q : VK} {E : XK} (h : spL K T (runL n N g) vs H Q E) : vs.length = n := by
  obtain ⟨S, xs, _, _, r, _, y, e, _⟩ := h
  unfold runL at e
  split at e
  · rename_i z
    rw [r.length]; exact z
  · cases e
theorem readL' {vs : List V} {H : Hp} {Q : VK} {E : XK} (h : spL K T (runL ps.length N.length g) vs H Q E) : tSL K T g { nx := fun _ H' => Q .non H', rt := Q } (start N vs) H := by
  have hl := spL_len h
  obtain ⟨S, xs, s, n, r, a, y, e, q⟩ := h
  unfold runL at e
  split at e
  · obtain ⟨p, e1, e2⟩ := Option.bind_eq_some_iff.mp e
    cases e2
    obtain ⟨s0, no⟩ := stt0 s n r (N.length - vs.length)
    refine ⟨S, _, s0, a, p.1, p.2, by rw [hl]; exact e1, fun σ' c us S' H' st' h1 r1 sc f x' => ?_⟩
    exact q c us S' H' st'.sub st'.noT h1 r1 sc (f.resolve_left (no c)) ⟨fun b o _ => x'.keep b o (no b), x'.tab, x'.sub, fun b hb => (x'.domS b hb).imp id (Or.imp (no b) id), fun b hb => hb.elim⟩
  · cases e
theorem fnL1 {r : List PyData → Option (List PyData)} (hr : r = runL n m g) (F : Fun K x qual st f fd) (S : FnScope N ps (defScope st)) (hn : ps.length = n) (hm : N.length = m) (hb : ∀ (cdv : Value) (A : Around) (outer : List Env) (s : Shared) (H : Hp), Room k (cxC P w K mg base N qual st f cdv A outer s H).A → A.guards = some [] → PSs (cxC P w K mg base N qual st f cdv A outer s H) (defBody st) (tSL K T g)) :
    FnG P w K mg base (k + 1) f fd ps (spL K T r) := by
  subst hr hn hm
  exact Tb.okG F S (fun vs H Q E h => spL_len h) fun cdv A outer s H vs Q hr hgd h => ⟨_, hb cdv A outer s H hr hgd, readL' h⟩
end
section
variable {X : Cx} {T : List Addr} {pos p : Pos} {pin : Bool} {k : Nat} {f : Addr} {fd : FuncData} {ps : List Str} {x : Str} {e : Expr} {es : List Expr} {g : GA} {gl : GL} {gd : GD} {ga : GE}
/-- f() -/
theorem ev_call0 {fn : List PyData → Option PyData} (F : FnG X.prog X.w X.K X.mg X.base k f fd ps (spD X.K T fn)) (hr : Room k X.A) (hgd : X.A.guards = some []) (hg : Gl X x) (hm : X.mg x = some (.ref f)) (hk : PySem.W.keepIn X.K (.ref f) = true) (hb : Binds X.K fd ps [])
    (hdb : (x == ("__debug__" : Str)) = false := by decide) : PE X (.Call (.Name x p) [] [] pos) (tE X.K T (callF fn nilA)) := by
  refine ⟨fun pins s σ H Q I h => ?_⟩
  refine wpAny_Call_Name_kw (ld_glob I hg hm ?_ hdb)
  obtain ⟨S, lo, st, at', z, lo', e, q⟩ := h
  obtain ⟨y, e1, e2⟩ := Option.bind_eq_some_iff.mp e
  obtain ⟨z', e3, e4⟩ := Option.bind_eq_some_iff.mp e2
  cases e1
  cases e4
  have hs : spD X.K T fn [] H Q E0 := ⟨S, [], st.sub, st.noT, .nil, at', z, e3, fun v S2 H2 sb nt rv x2 => by
    obtain ⟨st2, x2'⟩ := st.called x2 sb nt
    exact q v S2 H2 st2 rv x2'⟩
  refine PySem.W.callWith_K0 I.kIn hk ?_
  have hl : ([] : List Value).length = ps.length := F.len _ _ _ _ hs
  have bt := hb s [] I.kIn (by rw [List.append_nil]; exact hl)
  rw [List.append_nil] at bt
  refine wpAny_call (codeAny_mono (F.run X.A X.stack s H ⟨[], []⟩ [] [] Q hr hgd I.env0 bt .nil hs) fun r s' hq => ?_)
  cases r with
  | error e => exact hq.elim
  | ok fl =>
    cases fl with
    | ret u => exact I.after hq
    | next => exact hq.elim
    | brk => exact hq.elim
    | cont => exact hq.elim
def callLF (fn : List PyData → Option (List PyData)) (g : GA) : GL := fun lo => (g lo).bind fun p => (fn p.1).bind fun z => some (z, p.2)
theorem el_call {fn : List PyData → Option (List PyData)} {g : GA} (F : FnG X.prog X.w X.K X.mg X.base k f fd ps (spL X.K T fn)) (hr : Room k X.A) (hgd : X.A.guards = some []) (hg : Gl X x) (hm : X.mg x = some (.ref f)) (hk : PySem.W.keepIn X.K (.ref f) = true) (hb : Binds X.K fd ps [])
    (ha : PA X (e :: es) (tAr X.K T g)) (hdb : (x == ("__debug__" : Str)) = false := by decide) (he : starEach (e :: es) X.env = (false, eval e X.env) :: starEach es X.env := by rfl) (hpl : (backTo pos (starEach es X.env)).any (·.1) = false := by rfl) :
    PE X (.Call (.Name x p) (e :: es) [] pos) (tL X.K T (callLF fn g)) := by
  refine pe_imp (pe_callG F hr hgd hg hm hk hb ha hdb he hpl) fun σ H Q w => ?_
  obtain ⟨S, lo, st, at', z, lo', e, q⟩ := w
  obtain ⟨y, e1, e2⟩ := Option.bind_eq_some_iff.mp e
  obtain ⟨z', e3, e4⟩ := Option.bind_eq_some_iff.mp e2
  cases e4
  refine ⟨S, lo, st, at', y.1, y.2, e1, fun vs S1 H1 st1 r1 x1 => ?_⟩
  show spL X.K T fn (vs ++ []) H1 Q E0
  rw [List.append_nil]
  refine ⟨S1, y.1, st1.sub, st1.noT, r1, at'.ext x1, z, e3, fun c us S2 H2 sb nt h1 rl sc fz x2 => ?_⟩
  obtain ⟨st2, x2'⟩ := st1.called x2 sb nt
  refine q c us S2 H2 st2 h1 rl sc (fun o => ?_) (x1.fz fz) (x1.trans x2')
  obtain ⟨ws, hw, nt⟩ := st1.ownH o
  exact fz.no hw nt
/-- f(a new list, ..): f may change it, nobody sees it again -/
def callBN (fn : List PyData → List PyData → Option (PyData × List PyData)) (g : GL) (k : GA) : GE := fun lo => (g lo).bind fun p => (k p.2).bind fun q => (fn p.1 q.1).bind fun r => some (r.1, q.2)
theorem ev_callBN {fn : List PyData → List PyData → Option (PyData × List PyData)} (F : FnG X.prog X.w X.K X.mg X.base k f fd ps (spB X.K T fn)) (hr : Room k X.A) (hgd : X.A.guards = some []) (hg : Gl X x) (hm : X.mg x = some (.ref f)) (hk : PySem.W.keepIn X.K (.ref f) = true) (hb : Binds X.K fd ps [])
    (hv : PE X e (tL X.K T gl)) (ha : PA X es (tAr X.K T g)) (hdb : (x == ("__debug__" : Str)) = false := by decide) (he : starEach (e :: es) X.env = (false, eval e X.env) :: starEach es X.env := by rfl) (hpl : (backTo pos (starEach es X.env)).any (·.1) = false := by rfl) :
    PE X (.Call (.Name x p) (e :: es) [] pos) (tE X.K T (callBN fn gl g)) := by
  refine pe_imp (pe_callG F hr hgd hg hm hk hb (pa_cons hv ha he) hdb he hpl) fun σ H Q w => ?_
  obtain ⟨S, lo, st, at', z, lo', e, q⟩ := w
  obtain ⟨y, e1, e⟩ := Option.bind_eq_some_iff.mp e
  obtain ⟨r, e2, e⟩ := Option.bind_eq_some_iff.mp e
  obtain ⟨u, e3, e⟩ := Option.bind_eq_some_iff.mp e
  cases e
  refine ⟨S, lo, st, at', y.1, y.2, e1, fun c us S1 H1 st1 hc rc sc nc fc x1 => ⟨S1, y.2, st1, at'.ext x1, r.1, r.2, e2, fun vs S2 H2 st2 r2 x2 => ?_⟩⟩
  have nz : ¬ Fz H1 c := fun z => z.no hc fun ps z => by cases z
  have n2 : ¬ Own σ r.2 c := fun o => (x2.domF c o).elim nc nz
  have s2 : S2 c = none := by
    cases q : S2 c with
    | none => rfl
    | some w =>
      rcases x2.domS c (by rw [q]; simp) with y | y | y
      · exact absurd sc y
      · exact absurd y nc
      · exact absurd y nz
  have hc2 := x2.keep c _ nc hc (by intro ps z; cases z)
  show spB X.K T fn ((V.ref c :: vs) ++ []) H2 Q E0
  rw [List.append_nil]
  refine ⟨S2, c, us, vs, y.1, r.1, rfl, st2.sub, st2.noT, s2, hc2, RqL.sub x2.sub rc, r2, (at'.ext x1).ext x2, u.1, u.2, e3, fun v S3 H3 sb nt s3 hz rv x3 => ?_⟩
  -- the list is nobody's
  have fz2 : Own σ lo c ∨ Fz H c := fc
  have keepO : ∀ b, Own σ r.2 b → H3 b = H2 b ∧ S3 b = none := fun b o => by
    have ne : b ≠ c := fun z => n2 (z ▸ o)
    obtain ⟨ho, hb, ntb⟩ := st2.ownH o
    refine ⟨(x3.keep b _ ne hb ntb).trans hb.symm, ?_⟩
    cases q : S3 b with
    | none => rfl
    | some w =>
      obtain ⟨i, wi⟩ := o
      rcases x3.domS b (by rw [q]; simp) with y | y | y
      · exact absurd (st2.own i b wi) y
      · exact absurd y ne
      · exact (y.no hb ntb).elim
  have st3 : Stt X.K S3 H3 σ r.2 := by
    refine ⟨sb, nt, st2.len, fun i l h => ?_, fun i b h => (keepO b ⟨i, h⟩).2, st2.inj⟩
    obtain ⟨v, ev, rr⟩ := st2.loc i l h
    refine ⟨v, ev, ?_⟩
    cases l with
    | dat y => exact Rq.sub x3.sub rr
    | rng _ _ =>
      obtain ⟨b, z1, z2⟩ := rr
      exact ⟨b, z1, x3.sub _ _ z2⟩
    | own ws =>
      obtain ⟨b, ho, rfl, hb, rb⟩ := rr
      exact ⟨b, ho, rfl, by rw [(keepO b ⟨i, ev, _, h⟩).1]; exact hb, RepO.sub x3.sub rb⟩
  have x12 := x1.trans x2
  refine q v S3 H3 st3 rv ⟨fun b o nb hb ntb => ?_, fun P t => x3.tab P (x12.tab P t), x12.sub.trans x3.sub, fun b hb => ?_, fun b hb => x12.domF b hb⟩
  · have ne : b ≠ c := fun z => by
      rcases fc with o | f
      · exact nb (z ▸ o)
      · exact f.no (z ▸ hb) ntb
    exact x3.keep b o ne (x12.keep b o nb hb ntb) ntb
  · rcases x3.domS b hb with y | y | y
    · exact x12.domS b y
    · rw [y]; exact .inr fc
    · exact .inr (x12.fz y)
end
end Ev
namespace Ev
open PySem PySem.Spec PyProof.Rows L2 Tb
variable {K : PySem.W.Frag}
/-- a list that may be locked, times a number -/
def rTimes : R2 := fun x y H Q => ∃ a n vs, x = .ref a ∧ y = .int n ∧ Rd H a (.lst vs) ∧ (-(2 ^ 63) ≤ n ∧ n < 2 ^ 63) ∧ vs.length * n.toNat ≤ sizeLine ∧ ∀ p, H p = none → Q (.ref p) (upd H p (.lst (List.replicate n.toNat vs).flatten))
theorem times_all (its : List Value) (n : Nat) : List.foldl (fun a b => a ++ b) #[] (List.replicate (if its.toArray.isEmpty = true then 0 else n) its.toArray) = (List.replicate n its).flatten.toArray := by
  have go : ∀ (m : Nat) (acc : List Value), List.foldl (fun a b => a ++ b) acc.toArray (List.replicate m its.toArray) = (acc ++ (List.replicate m its).flatten).toArray := by
    intro m
    induction m with
    | zero => intro acc; simp
    | succ m ih =>
      intro acc
      rw [List.replicate_succ, List.foldl_cons, List.append_toArray, ih (acc ++ its), List.replicate_succ, List.flatten_cons, List.append_assoc]
  cases its with
  | nil => simp
  | cons a r =>
    rw [if_neg (by simp)]
    have := go n []
    simpa using this
theorem op_times {X : Cx} : OpR X (binaryOp .Mult) rTimes := by
  intro pins s σ H x y v u Q I rx ry h
  obtain ⟨l, n, vs, rfl, rfl, hr, ⟨b1, b2⟩, hz, q⟩ := h
  cases rx
  obtain ⟨tok, rfl⟩ := ry
  obtain ⟨_, us, k, r, e⟩ := hr.ok I.hok
  have sz : us.toArray.size * n.toNat ≤ sizeLine := by rw [List.size_toArray, ← r.length]; exact hz
  have szq := sz
  rw [sizeLine_eq] at szq
  have c1 : ¬ (!Builtin.List.listFitsIndex n) = true := by simp [Builtin.List.listFitsIndex]; omega
  have c2 : ¬ us.toArray.size * n.toNat > (2 ^ 63 - 1) / 8 := by omega
  have c3 : ¬ Builtin.List.listTooLong (us.toArray.size * n.toNat) = true := by simp only [Builtin.List.listTooLong, decide_eq_true_eq, sizeLine_eq]; omega
  have lm := AutoListH.list___mul___list_int_3 l us.toArray k n tok c1 c2 c3
  refine wpAny_binaryOp_repeat_ref (T := "list") (U := "int") (by decide) ⟨_, e, rfl⟩ (fun s' => typeIs_int s' n tok)
    noFill_list_mul F.fills_int_mul F.slot_int_rmul repeat_list F.slot_int_index.lookup ?_
  refine call_meets F.slot_int_rmul (typeIs_int s n tok) F.entry_int_rmul (F.args_int_rmul_2 _ _) (int___rmul___int_list n tok l us.toArray k) ⟨e, rfl, ⟨_, e, rfl⟩, ?_⟩
  refine call_meets F.slot_list_mul ⟨_, e, rfl⟩ F.entry_list_mul (F.args_list_mul_2 _ _) lm ⟨e, ?_⟩
  rw [times_all us n.toNat]
  exact ⟨.ref _, _, I.lnew (t' := s.toks) (r.rep n.toNat) (by rw [PyProof.Rows.lm_len_rep_flat, Nat.mul_comm]; exact hz), rfl, q _ I.fresh⟩
theorem RqL.times {S : Hp} {vs : List V} {xs : List PyData} (r : RqL K S vs xs) : ∀ n : Nat, RqL K S (List.replicate n vs).flatten (List.replicate n xs).flatten
  | 0 => .nil
  | n + 1 => by
    rw [List.replicate_succ, List.replicate_succ, List.flatten_cons, List.flatten_cons]
    exact r.app (RqL.times r n)
def timesL : PyData → PyData → Option PyData
  | .list xs, .int n => if (-(2 ^ 63) ≤ n ∧ n < 2 ^ 63) ∧ xs.length * n.toNat ≤ sizeLine then some (.list (List.replicate n.toNat xs).flatten) else none
  | _, _ => none
theorem val_times : Val2 K timesL rTimes := fun S H v u x y z Q s n rx ry e q => by
  unfold timesL at e
  split at e
  · rename_i xs k
    split at e
    · rename_i c
      cases e
      obtain ⟨a, vs, rfl, h1, r1⟩ := rx.list s
      refine ⟨_, _, _, rfl, ry.int, h1, c.1, by rw [r1.length]; exact c.2, fun p hp => ?_⟩
      have g := Gro.new (u := .lst (List.replicate k.toNat vs).flatten) s n hp (by intro ps z; cases z)
      exact q _ _ _ g (.lst (.inl upd_same) (RqL.sub g.subS (r1.times _)))
    · cases e
  · cases e
def mulQ : PyData → PyData → Option PyData
  | .list xs, .int n => timesL (.list xs) (.int n)
  | .int i, .int j => mulF (.int i) (.int j)
  | _, _ => none
section
variable {X : Cx} {T : List Addr} {pos : Pos} {a b : Expr} {ga gb : GE}
theorem ev_mulQ (ha : PE X a (tE X.K T ga)) (hb : PE X b (tE X.K T gb)) : PE X (.BinOp a .Mult b pos) (tE X.K T (op2 mulQ ga gb)) :=
  ev_op (op_mul.or op_times) (Val2.or (f1 := mulF) (f2 := timesL) (val_int (fun i j h => by
    rw [Bool.or_eq_true, Bool.and_eq_true, Bool.and_eq_true, decide_eq_true_eq, decide_eq_true_eq, decide_eq_true_eq, decide_eq_true_eq] at h
    exact h) fun S i j => .int _) val_times fun x y z e => by
      cases x <;> cases y <;> first | (cases e; done) | exact .inl e | exact .inr e) ha hb
end
end Ev
namespace Ev
open PySem PySem.Spec PyProof.Rows L2 Tb
variable {K : PySem.W.Frag}
theorem RqL.at {S : Hp} : ∀ {us : List V} {xs : List PyData}, RqL K S us xs → ∀ {i : Nat} {u : V} {x : PyData}, us[i]? = some u → xs[i]? = some x → Rq K S u x
  | _, _, .nil, i, u, x, e, _ => by simp at e
  | _, _, .cons r t, 0, u, x, e, f => by
    simp only [List.getElem?_cons_zero, Option.some.injEq] at e f
    subst e f
    exact r
  | _, _, .cons r t, i + 1, u, x, e, f => by
    simp only [List.getElem?_cons_succ] at e f
    exact RqL.at t e f
end Ev
namespace Ev
open PySem PySem.Spec PyProof.Rows L2 Tb
variable {K : PySem.W.Frag}
def tieOk (n : Int) : PyData → Bool
  | .tuple [.int a, .int b] => decide (0 ≤ a) && decide (a < n) && decide (0 ≤ b) && decide (b < n)
  | _ => false
theorem tieOk_iff {n : Int} {d : PyData} : tieOk n d = true ↔ ∃ a b, d = tieD (a, b) ∧ 0 ≤ a ∧ a < n ∧ 0 ≤ b ∧ b < n := by
  constructor
  · intro h
    unfold tieOk at h
    split at h
    · rename_i a b
      simp only [Bool.and_eq_true, decide_eq_true_eq] at h
      exact ⟨a, b, rfl, h.1.1.1, h.1.1.2, h.1.2, h.2⟩
    · cases h
  · rintro ⟨a, b, rfl, h1, h2, h3, h4⟩
    show (decide (0 ≤ a) && decide (a < n) && decide (0 ≤ b) && decide (b < n)) = true
    simp [h1, h2, h3, h4]
theorem ties_shape {n : Int} {ts : List PyData} (h : ∀ z ∈ ts, tieOk n z = true) : ∀ z ∈ ts, Sh 1 z := fun z hz => by
  obtain ⟨a, b, rfl, _⟩ := tieOk_iff.mp (h z hz)
  exact sh_tie _
/-- the ties, as a matrix; one point more gone by; all -/
def tieM (ts : List PyData) (i j : Nat) : Bool := ts.any fun z => PyData.eqv z (tieD ((i : Int), (j : Int)))
def goM (m : Nat) (M : Nat → Nat → Bool) (i j : Nat) : Bool := M i j || (M i m && M m j)
def belM (ts : List PyData) : Nat → Nat → Nat → Bool
  | 0 => tieM ts
  | m + 1 => goM m (belM ts m)
def matD (n : Nat) (M : Nat → Nat → Bool) : PyData := .list ((List.range n).map fun i => .list ((List.range n).map fun j => .bool (M i j)))
def r_below_rows : List PyData → Option PyData
  | [.int n, t] => (kidsD t).bind fun ts => if 0 ≤ n ∧ n ≤ 6 ∧ ts.all (tieOk n) = true ∧ ts.length ≤ 64 then some (matD n.toNat (belM ts n.toNat)) else none
  | _ => none
def bRow (M : Nat → Nat → Bool) (n i : Nat) : List V := (List.range n).map fun j => V.bl (M i j)
theorem bRow_len (M : Nat → Nat → Bool) (n i : Nat) : (bRow M n i).length = n := by
  unfold bRow
  rw [List.length_map, List.length_range]
theorem bRow_at {M : Nat → Nat → Bool} {n i j : Nat} (h : j < n) : (bRow M n i)[j]? = some (.bl (M i j)) := by
  unfold bRow
  rw [List.getElem?_map, List.getElem?_range h]; rfl
/-- the rows of a matrix of truths -/
structure RowsB (H : Hp) (p : Addr) (n : Nat) (M : Nat → Nat → Bool) (bs : List Addr) : Prop where
  len : bs.length = n
  nd : bs.Nodup
  off : p ∉ bs
  at_ : H p = some (.lst (bs.map V.ref))
  row : ∀ (i : Nat) (b : Addr), bs[i]? = some b → H b = some (.lst (bRow M n i))
theorem RowsB.kp {H H' : Hp} {p : Addr} {n : Nat} {M : Nat → Nat → Bool} {bs : List Addr} (r : RowsB H p n M bs) (k : Kp H H') : RowsB H' p n M bs := ⟨r.len, r.nd, r.off, k.lst r.at_, fun i b e => k.lst (r.row i b e)⟩
theorem RowsB.get {H : Hp} {p : Addr} {n : Nat} {M : Nat → Nat → Bool} {bs : List Addr} (r : RowsB H p n M bs) {i : Nat} (h : i < n) : ∃ b, bs[i]? = some b ∧ H b = some (.lst (bRow M n i)) := by
  have hi : i < bs.length := by rw [r.len]; exact h
  exact ⟨_, List.getElem?_eq_getElem hi, r.row i _ (List.getElem?_eq_getElem hi)⟩
theorem ix_row {H : Hp} {p : Addr} {n : Nat} {M : Nat → Nat → Bool} {bs : List Addr} (r : RowsB H p n M bs) {i : Nat} (h : i < n) {Q : VK} (q : ∀ b, bs[i]? = some b → Q (.ref b) H) : rIxL K (.ref p) (.int (i : Int)) H Q := by
  obtain ⟨b, e, _⟩ := r.get h
  refine ⟨p, _, i, .ref b, rfl, rfl, .inl (.inl r.at_), atI_nat ?_, q b e⟩
  rw [List.getElem?_map, e]; rfl
theorem ix_cel {H : Hp} {p : Addr} {n : Nat} {M : Nat → Nat → Bool} {bs : List Addr} (r : RowsB H p n M bs) {i j : Nat} {b : Addr} (e : bs[i]? = some b) (h : j < n) {Q : VK} (q : Q (.bl (M i j)) H) : rIxL K (.ref b) (.int (j : Int)) H Q :=
  ⟨b, _, j, _, rfl, rfl, .inl (.inl (r.row i b e)), atI_nat (bRow_at h), q⟩
/-- one cell set -/
def setM (M : Nat → Nat → Bool) (i j : Nat) : Nat → Nat → Bool := fun a b => if a = i ∧ b = j then true else M a b
theorem RowsB.set {H : Hp} {p : Addr} {n : Nat} {M : Nat → Nat → Bool} {bs : List Addr} (r : RowsB H p n M bs) {i j : Nat} {b : Addr} (e : bs[i]? = some b) (h : j < n) : RowsB (upd H b (.lst ((bRow M n i).set j (.bl true)))) p n (setM M i j) bs := by
  have pb : p ≠ b := fun z => r.off (by rw [z]; exact List.mem_of_getElem? e)
  refine ⟨r.len, r.nd, r.off, by rw [upd_ne pb]; exact r.at_, fun k c ek => ?_⟩
  by_cases z : c = b
  · subst z
    have ki : k = i := (List.getElem?_inj (List.getElem?_eq_some_iff.mp ek).1 r.nd).mp (ek.trans e.symm)
    subst ki
    rw [upd_same]
    refine congrArg (fun l => some (HO.lst l)) (List.ext_getElem? fun m => ?_)
    rw [List.getElem?_set, bRow_len]
    by_cases hm : m < n
    · rw [bRow_at hm, bRow_at hm]
      unfold setM
      by_cases q : j = m
      · subst q; simp [h]
      · have q' : ¬ (m = j) := fun y => q y.symm
        simp [q, q']
    · have e1 : (bRow M n k)[m]? = none := List.getElem?_eq_none (by rw [bRow_len]; omega)
      have e2 : (bRow (setM M k j) n k)[m]? = none := List.getElem?_eq_none (by rw [bRow_len]; omega)
      rw [e1, e2]
      by_cases q : j = m
      · omega
      · simp [q]
  · rw [upd_ne z, r.row k c ek]
    refine congrArg (fun l => some (HO.lst l)) (List.ext_getElem? fun m => ?_)
    by_cases hm : m < n
    · rw [bRow_at hm, bRow_at hm]
      unfold setM
      have ki : ¬ (k = i) := fun y => z (by rw [y, e] at ek; exact (Option.some.inj ek).symm)
      simp [ki]
    · rw [List.getElem?_eq_none (by rw [bRow_len]; omega), List.getElem?_eq_none (by rw [bRow_len]; omega)]
theorem bRow_ext {M N : Nat → Nat → Bool} {n i : Nat} (h : ∀ j, j < n → M i j = N i j) : bRow M n i = bRow N n i := by
  unfold bRow
  refine List.map_congr_left fun j hj => ?_
  rw [h j (List.mem_range.mp hj)]
theorem RowsB.ext {H : Hp} {p : Addr} {n : Nat} {M N : Nat → Nat → Bool} {bs : List Addr} (r : RowsB H p n M bs) (h : ∀ i, i < n → ∀ j, j < n → M i j = N i j) : RowsB H p n N bs := ⟨r.len, r.nd, r.off, r.at_, fun i b e => by
  have hi : i < n := by rw [← r.len]; exact (List.getElem?_eq_some_iff.mp e).1
  rw [← bRow_ext (h i hi)]
  exact r.row i b e⟩
/-- the inner loops' matrix: rows before l are done, in row l the cells before h -/
def midM (m : Nat) (M : Nat → Nat → Bool) (l h : Nat) (i j : Nat) : Bool := if i < l ∨ (i = l ∧ j < h) then goM m M i j else M i j
theorem ixN_nat {n h : Nat} (hh : h < n) : ixN n (h : Int) = some h := by
  unfold ixN
  have e2 : (0 : Int) ≤ h := by omega
  have e3 : (h : Int) < n := by omega
  simp [e2, e3, hh]
theorem mid_start (m : Nat) (M : Nat → Nat → Bool) (i j : Nat) : midM m M 0 0 i j = M i j := by
  unfold midM
  rw [if_neg (by omega)]
theorem mid_end {m n : Nat} {M : Nat → Nat → Bool} {i j : Nat} (hi : i < n) : midM m M n 0 i j = goM m M i j := by
  unfold midM
  rw [if_pos (Or.inl hi)]
theorem mid_row {m n l : Nat} {M : Nat → Nat → Bool} {i j : Nat} (hj : j < n) : midM m M l n i j = midM m M (l + 1) 0 i j := by
  unfold midM
  by_cases h : i < l ∨ i = l
  · rw [if_pos (by omega), if_pos (by omega)]
  · rw [if_neg (by omega), if_neg (by omega)]
theorem mid_a {m l h : Nat} {M : Nat → Nat → Bool} : midM m M l h l m = M l m := by
  unfold midM goM
  split
  · cases M l m <;> rfl
  · rfl
theorem mid_b {m l h : Nat} {M : Nat → Nat → Bool} : midM m M l h m h = M m h := by
  unfold midM goM
  split
  · cases M m h <;> cases M m m <;> rfl
  · rfl
theorem mid_set {m l h : Nat} {M : Nat → Nat → Bool} {i j : Nat} (e : (M l m && M m h) = true) : setM (midM m M l h) l h i j = midM m M l (h + 1) i j := by
  unfold setM
  by_cases c : i = l ∧ j = h
  · obtain ⟨rfl, rfl⟩ := c
    rw [if_pos ⟨rfl, rfl⟩]
    unfold midM goM
    rw [if_pos (by omega), e, Bool.or_true]
  · rw [if_neg c]
    unfold midM
    by_cases d : i < l ∨ (i = l ∧ j < h)
    · rw [if_pos d, if_pos (by omega)]
    · rw [if_neg d, if_neg (by omega)]
theorem mid_not {m l h : Nat} {M : Nat → Nat → Bool} {i j : Nat} (e : (M l m && M m h) = false) : midM m M l h i j = midM m M l (h + 1) i j := by
  unfold midM
  by_cases d : i < l ∨ (i = l ∧ j < h)
  · rw [if_pos d, if_pos (by omega)]
  · rw [if_neg d]
    by_cases c : i = l ∧ j = h
    · obtain ⟨rfl, rfl⟩ := c
      rw [if_pos (by omega)]
      unfold goM
      rw [e, Bool.or_false]
    · rw [if_neg (by omega)]
theorem Fz.of {A B : Hp} {t : Addr} (k : Kp A B) (h : B t = none) : Fz A t := by
  refine ⟨fun o e => ?_, fun z => ?_⟩
  · cases o with
    | tbl ps => exact ⟨ps, rfl⟩
    | _ => exact absurd ((k.keep t _ e fun ps z => by cases z).symm.trans h) (by simp)
  · obtain ⟨ps, e, _⟩ := k.tab t z
    rw [h] at e; cases e
theorem _root_.Tb.Kp.overz {A B : Hp} {t : Addr} {o : HO} (k : Kp A B) (h : Fz A t) : Kp A (upd B t o) := by
  refine ⟨fun b u e n => ?_, fun P z => ?_⟩
  · rw [upd_ne (fun z => by
      rw [z] at e
      obtain ⟨ps, y⟩ := h.1 u e
      exact n ps y)]
    exact k.keep b u e n
  · obtain ⟨qs, e3, t3⟩ := k.tab P z
    have hP : P ≠ t := fun y => h.2 (by rw [← y]; exact z)
    exact ⟨qs, by rw [upd_ne hP]; exact e3, t3⟩
theorem _root_.Tb.Kp.over {A B : Hp} {p : Addr} {o : HO} (k : Kp A B) (h : A p = none) : Kp A (upd B p o) := by
  refine ⟨fun b u e n => ?_, fun P t => ?_⟩
  · rw [upd_ne (fun z => by rw [z, h] at e; cases e)]
    exact k.keep b u e n
  · obtain ⟨ps, e, t2⟩ := t
    obtain ⟨qs, e3, t3⟩ := k.tab P ⟨ps, e, t2⟩
    exact ⟨qs, by rw [upd_ne (fun z => by rw [z, h] at e; cases e)]; exact e3, t3⟩
theorem Fz.ofK {H H' : Hp} {b : Addr} (k : Kp H H') (h : Fz H' b) : Fz H b := ⟨fun o e => by
  cases o with
  | tbl ps => exact ⟨ps, rfl⟩
  | _ => exact (h.no (k.keep b _ e fun ps z => by cases z) fun ps z => by cases z).elim, fun t => h.2 (k.tab _ t)⟩
/-- the matrix is data, once its rows are shared -/
theorem RowsB.data {S H H' : Hp} {p : Addr} {n : Nat} {M : Nat → Nat → Bool} {bs : List Addr} (r : RowsB H' p n M bs) (sub : Sub S H) (noT : NoT S) (kp : Kp H H') (fz : ∀ b, b = p ∨ b ∈ bs → Fz H b) : ∃ S', Sub S' H' ∧ NoT S' ∧ Rq K S' (.ref p) (matD n M) ∧ ExtN S H S' H' := by
  let S' : Hp := fun c => if c = p ∨ c ∈ bs then H' c else S c
  have eS : ∀ c, c = p ∨ c ∈ bs → S' c = H' c := fun c hc => if_pos hc
  have eN : ∀ c, ¬ (c = p ∨ c ∈ bs) → S' c = S c := fun c hc => if_neg hc
  have sub1 : Sub S H' := fun c o hc => kp.keep c o (sub _ _ hc) fun ps z => noT c ps (by rw [hc, z])
  have sn : ∀ c, c = p ∨ c ∈ bs → S c = none := fun c hc => by
    cases q : S c with
    | none => rfl
    | some o => exact ((fz c hc).no (sub _ _ q) fun ps z => noT c ps (by rw [q, z])).elim
  have at_ : ∀ c, c = p ∨ c ∈ bs → ∃ vs, H' c = some (.lst vs) := fun c hc => by
    rcases hc with rfl | hc
    · exact ⟨_, r.at_⟩
    · obtain ⟨i, hi, e⟩ := List.mem_iff_getElem.mp hc
      exact ⟨_, r.row i c (by rw [List.getElem?_eq_getElem hi, e])⟩
  refine ⟨S', fun c o hc => ?_, fun c ps hc => ?_, ?_, ⟨fun b o _ e n => kp.keep b o e n, kp.tab, fun c o hc => ?_, fun b hb => ?_, fun b hb => hb.elim⟩⟩
  · by_cases z : c = p ∨ c ∈ bs
    · rw [eS c z] at hc; exact hc
    · rw [eN c z] at hc; exact sub1 _ _ hc
  · by_cases z : c = p ∨ c ∈ bs
    · rw [eS c z] at hc
      obtain ⟨vs, e⟩ := at_ c z
      rw [e] at hc
      cases hc
    · rw [eN c z] at hc; exact noT c ps hc
  · refine .lst (.inl (by rw [eS p (.inl rfl)]; exact r.at_)) ?_
    have row : ∀ (k : Nat), ∀ i, i + k = n → RqL K S' ((bs.drop i).map V.ref) (((List.range' i k)).map fun i => .list ((List.range n).map fun j => .bool (M i j))) := by
      intro k
      induction k with
      | zero =>
        intro i hi
        rw [List.drop_eq_nil_of_le (by rw [r.len]; omega)]
        exact .nil
      | succ k ih =>
        intro i hi
        have lt : i < bs.length := by rw [r.len]; omega
        rw [List.drop_eq_getElem_cons lt, List.range'_succ]
        refine .cons (.lst (.inl (by rw [eS _ (.inr (List.getElem_mem lt))]; exact r.row i _ (List.getElem?_eq_getElem lt))) ?_) (ih (i + 1) (by omega))
        unfold bRow
        have : ∀ l : List Nat, RqL K S' (l.map fun j => V.bl (M i j)) (l.map fun j => PyData.bool (M i j)) := fun l => by
          induction l with
          | nil => exact .nil
          | cons a t ih => exact .cons (.bl _) ih
        exact this _
    have := row n 0 (by omega)
    rw [List.drop_zero, ← List.range_eq_range'] at this
    exact this
  · have z : ¬ (c = p ∨ c ∈ bs) := fun z => by rw [sn c z] at hc; cases hc
    rw [eN c z]; exact hc
  · by_cases z : b = p ∨ b ∈ bs
    · exact .inr (.inr (fz b z))
    · rw [eN b z] at hb; exact .inl hb
end Ev
namespace Tb
open PySem PySem.Spec PyProof.Rows L2
section
variable {K : PySem.W.Frag} {tb : List Addr} {a : Addr} {ob : Obj} {xs : List V}
open Classical in
/-- what is tracked at the start -/
noncomputable def st0 (K : PySem.W.Frag) (tb : List Addr) (a : Addr) (ob : Obj) (xs : List V) : Hp := fun b => if b ∈ tb then some (.tbl #[]) else if b = a ∧ K.lookup a = none then some (.frz ob (.lst xs)) else none
theorem st0_tab {b : Addr} (h : b ∈ tb) : st0 K tb a ob xs b = some (.tbl #[]) := if_pos h
theorem st0_by {b : Addr} {u : HO} (h : st0 K tb a ob xs b = some u) : (b ∈ tb ∧ u = .tbl #[]) ∨ (b = a ∧ K.lookup a = none ∧ u = .frz ob (.lst xs)) := by
  unfold st0 at h
  split at h
  · exact .inl ⟨by assumption, (Option.some.inj h).symm⟩
  · split at h
    · rename_i z
      exact .inr ⟨z.1, z.2, (Option.some.inj h).symm⟩
    · cases h
end
section
variable {P : Program} {w : World} {K : PySem.W.Frag} {mg mb : Str → Option Value} {k : Nat} {fa a : Addr} {cs : List (Addr × Addr)} {fd : FuncData} {x : Str} {sp : Sp} {s : Shared} {us : List Value} {ns : List Int}
theorem law_end (X : K.In s.heap) (gl : s.heap.Ns mainGlobals mg) (bl : s.heap.Ns builtinsNs mb) (blb : ∀ y : Str, y ≠ "__name__" → mb y = bootBuiltins y) (nl : s.heap.NoLimit) (ge : s.gens = #[]) (sm : ∃ mm, s.heap.Ns sysModules mm)
    (tT : ∀ q ∈ cs, s.heap.get? q.2 = some { cls := .none, data := .fields #[] }) (tK : ∀ q ∈ cs, K.lookup q.2 = none) (tC : ∀ q ∈ cs, PySem.W.CodeHd s.heap q.1 q.2)
    (bm : ∃ (m : Addr) (o : Obj), mg "__builtins__" = some (.ref m) ∧ m ≠ builtinsNs ∧ s.heap.get? m = some o ∧ o.cls = .type "module" ∧ o.dict = some builtinsNs ∧ o.data = .plain)
    (oa : s.heap.get? a = some { cls := .type "list", data := .seq us.toArray }) (ia : IntsAre us ns) (la : ns.length ≤ sizeLine) (rm : Room k callerA) (gd : callerA.guards = some [])
    (F : ∀ base : Heap, K.In base → base.Ns mainGlobals mg → (∃ o, base.get? sysModules = some o) → (∀ q ∈ cs, GxR.TabB base mg q.1 q.2) → FnG P w K mg base k fa fd [x] sp) (bd : ∀ (s : Shared) (u : Value), BindsTo s fd ⟨[u], []⟩ [(x, u)])
    (asks : ∀ H : Hp, (∀ q ∈ cs, H q.2 = some (.tbl #[])) → SqL K H a (ns.map V.int) → sp [.ref a] H (fun v _ => v = .bl true) E0) :
    codeAny (model P w) callerA (.call (.ref fa) ⟨[.ref a], []⟩) (fun r s' => r = .ok (.ret (.bool true)) ∧ OldK s.heap s'.heap ∧ s'.os = s.os ∧ AllBare s'.gens) s := by
  have tabs : ∀ b ∈ cs.map Prod.snd, s.heap.get? b = some { cls := .none, data := .fields #[] } := fun b hb => by
    obtain ⟨q, hq, rfl⟩ := List.mem_map.mp hb
    exact tT q hq
  have inT : ∀ q ∈ cs, q.2 ∈ cs.map Prod.snd := fun q hq => List.mem_map_of_mem hq
  generalize hG : st0 K (cs.map Prod.snd) a { cls := .type "list", data := .seq us.toArray } (ns.map V.int) = G
  have Gby : ∀ {b : Addr} {u : HO}, G b = some u → (b ∈ cs.map Prod.snd ∧ u = .tbl #[]) ∨ (b = a ∧ K.lookup a = none ∧ u = .frz { cls := .type "list", data := .seq us.toArray } (.lst (ns.map V.int))) := fun {b u} e => by
    rw [← hG] at e
    exact st0_by e
  have Gtab : ∀ q ∈ cs, G q.2 = some (.tbl #[]) := fun q hq => by
    rw [← hG]
    exact st0_tab (inT q hq)
  -- what is neither a list nor a table isn't tracked
  have hid : ∀ {b : Addr} {o : Obj}, s.heap.get? b = some o → (∀ vs m, o.data ≠ .seq vs m) → o.data ≠ .fields #[] → G b = none := fun {b o} e n1 n2 => by
    cases q : G b with
    | none => rfl
    | some u =>
      rcases Gby q with ⟨z, _⟩ | ⟨z, _⟩
      · rw [tabs b z] at e
        exact absurd (congrArg Obj.data (Option.some.inj e)).symm n2
      · rw [z, oa] at e
        exact absurd (congrArg Obj.data (Option.some.inj e)).symm (n1 _ _)
  have space : ∀ {b : Addr} {m : Str → Option Value}, s.heap.Ns b m → (hidT s.heap G).Ns b m := fun {b m} n => by
    obtain ⟨o, es, ep, e, d, r⟩ := n
    exact ⟨o, es, ep, hidT_get e (hid e (fun vs n z => by rw [d] at z; cases z) fun z => by rw [d] at z; cases z), d, r⟩
  have Xb : K.In (hidT s.heap G) := fun b o e => by
    refine hidT_get (X b o e) ?_
    cases q : G b with
    | none => rfl
    | some u =>
      rcases Gby q with ⟨z, _⟩ | ⟨z, z2, _⟩
      · obtain ⟨y, hy, ey⟩ := List.mem_map.mp z
        rw [← ey, tK y hy] at e; cases e
      · rw [z, z2] at e; cases e
  have fx : ∀ {b : Addr} {o : Obj} {vs : Array Value}, s.heap.get? b = some o → o.data = .fields vs → vs ≠ #[] → (hidT s.heap G).get? b = some o := fun {b o vs} e d n =>
    hidT_get e (hid e (fun vs n z => by rw [d] at z; cases z) fun z => n (by rw [d] at z; exact Data.fields.inj z))
  have TB : ∀ q ∈ cs, GxR.TabB (hidT s.heap G) mg q.1 q.2 := fun q hq => by
    have hT := tT q hq
    obtain ⟨m, o, m1, m2, m3, m4, m5, m6⟩ := bm
    refine ⟨?_, ⟨m, o, m1, m2, fun z => ?_, fun z => ?_, ?_, m4, m5, m6⟩, fun z => ?_⟩
    · obtain ⟨oc, vs, file, tf, fl, tg, inF, text, tt, c1, c2, c3, c4, c5⟩ := tC q hq
      exact ⟨oc, vs, file, tf, fl, tg, inF, text, tt, fx c1 c3 (fun z => by rw [z] at c4; simp at c4), c2, c3, c4, c5⟩
    · obtain ⟨o', _, _, e, d, _⟩ := gl
      rw [z, e] at m3
      rw [Option.some.inj m3, m6] at d
      cases d
    · rw [z, hT] at m3
      have := Option.some.inj m3
      rw [← this] at m6
      cases m6
    · exact hidT_get m3 (hid m3 (fun vs n z => by rw [m6] at z; cases z) fun z => by rw [m6] at z; cases z)
    · obtain ⟨o', _, _, e, d, _⟩ := gl
      rw [z, hT] at e
      rw [← Option.some.inj e] at d
      cases d
  have sq : SqL K G a (ns.map V.int) := by
    have aT : a ∉ cs.map Prod.snd := fun z => by
      have := tabs a z
      rw [oa] at this
      have := congrArg Obj.data (Option.some.inj this)
      cases this
    cases q : K.lookup a with
    | none =>
      refine .inl (.inr ⟨{ cls := .type "list", data := .seq us.toArray }, ?_⟩)
      rw [← hG]
      unfold st0
      rw [if_neg aT, if_pos ⟨rfl, q⟩]
    | some o =>
      have e := X a o q
      rw [oa] at e
      cases e
      exact .inr ⟨_, us.toArray, _, q, rfl, rfl, rfl, by rw [List.size_toArray, ia.length]; exact la, by simpa using vals_ints ia⟩
  have ok : HOk P w G s.heap := fun b u e => by
    rcases Gby e with ⟨z, rfl⟩ | ⟨rfl, _, rfl⟩
    · exact tabs b z
    · exact ⟨oa, by rw [List.length_map]; exact la, us, _, vals_ints ia, oa⟩
  have e0 : Env0 P w K mg (hidT s.heap G) callerA [] s G :=
    ⟨rfl, ⟨Xb, space gl, ⟨mb, space bl, blb⟩, by obtain ⟨mc, n1, n2⟩ := nl; exact ⟨mc, space n1, n2⟩⟩, fun b o e => of_hidT e, by rw [hidT_size]; exact Nat.le_refl _, trivial, (fun b hb => by cases hb), ok, .of_eq ge⟩
  have smo : ∃ o, (hidT s.heap G).get? sysModules = some o := by
    obtain ⟨mm, n⟩ := sm
    obtain ⟨o, _, _, e, _⟩ := space n
    exact ⟨o, e⟩
  refine codeAny_mono ((F _ Xb (space gl) smo TB).run callerA [] s G ⟨[.ref a], []⟩ [.ref a] [.ref a] _ rm gd e0 (bd s (.ref a)) (.cons rfl .nil) (asks G Gtab sq)) fun r s' h => ?_
  match r, h with
  | .ok (.ret u), h =>
    obtain ⟨v, G', h1, h2, un, ok', rv, hv⟩ := h
    have hv' : v = .bl true := hv
    rw [hv'] at rv
    have eu : u = Value.bool true := rv
    rw [eu]
    have stays : ∀ b o, b ∉ cs.map Prod.snd → s.heap.get? b = some o → s'.heap.get? b = some o := fun b o nb e => by
      cases q : G b with
      | none => exact un.keep b o e q (fun z => by cases z) (fun z => by cases z)
      | some y =>
        rcases Gby q with ⟨z, _⟩ | ⟨rfl, _, rfl⟩
        · exact absurd z nb
        · obtain ⟨e2, _⟩ := ok' _ _ (un.frzs _ _ _ q)
          rw [oa] at e
          rw [e2]; exact e
    have more : ∀ b ∈ cs.map Prod.snd, ∃ (o : Array Value) (q : Addr × Addr), q ∈ cs ∧ q.2 = b ∧ s'.heap.get? b = some { cls := .none, data := .fields o } := fun b hb => by
      obtain ⟨q, hq, rfl⟩ := List.mem_map.mp hb
      obtain ⟨mo, z⟩ := un.tbls q.2 #[] (Gtab q hq)
      exact ⟨_, q, hq, rfl, ok' _ _ z⟩
    refine ⟨rfl, ⟨fun b o e => ?_, fun b o e => ?_⟩, h1, h2⟩
    · by_cases hb : b ∈ cs.map Prod.snd
      · obtain ⟨mo, q, hq, rfl, z⟩ := more b hb
        have eo := tT q hq
        rw [eo] at e
        rw [← Option.some.inj e]
        exact .inr (.inl ⟨((tC q hq).tab eo).isCodeTable, rfl, #[], mo, rfl, by rw [Array.empty_append]; exact z⟩)
      · exact .inl (stays b o hb e)
    · by_cases hb : b ∈ cs.map Prod.snd
      · obtain ⟨mo, q, hq, rfl, z⟩ := more b hb
        exact ⟨_, z⟩
      · exact ⟨o, stays b o hb e⟩
  | .ok .next, h => exact h.elim
  | .ok .brk, h => exact h.elim
  | .ok .cont, h => exact h.elim
  | .error e, h => exact h.elim
end
end Tb
namespace Ev
open PySem PySem.Spec PyProof.Rows L2 Tb
theorem lk_mem {a : Addr} {o : Obj} : ∀ {K : PySem.W.Frag}, K.lookup a = some o → (a, o) ∈ K
  | [], e => by cases e
  | (b, x) :: r, e => by
    simp only [List.lookup] at e
    split at e
    · rename_i q
      cases e
      rw [beq_iff_eq.mp q]
      exact .head _
    · exact .tail _ (lk_mem e)
theorem noLst_ok {K : PySem.W.Frag} {h : Heap} {a : Addr} {us : Array Value} (X : K.In h) (n : noLst K = true) (oa : h.get? a = some { cls := .type "list", data := .seq us }) : K.lookup a = none := by
  cases q : K.lookup a with
  | none => rfl
  | some o =>
    have e := X a o q
    rw [oa] at e
    cases e
    have z := List.all_eq_true.mp n _ (lk_mem q)
    simp at z
theorem ints_rq {K : PySem.W.Frag} {S : Hp} : ∀ ns : List Int, RqL K S (ns.map V.int) (ns.map PyData.int)
  | [] => .nil
  | n :: r => .cons (.int n) (ints_rq r)
section
variable {P : Program} {w : World} {K : PySem.W.Frag} {mg mb : Str → Option Value} {k : Nat} {fa a : Addr} {cs : List (Addr × Addr)} {T : List Addr} {fd : FuncData} {x : Str} {r : List PyData → Option PyData} {s : Shared} {us : List Value} {ns : List Int}
theorem law_endD (X : K.In s.heap) (gl : s.heap.Ns mainGlobals mg) (bl : s.heap.Ns builtinsNs mb) (blb : ∀ y : Str, y ≠ "__name__" → mb y = bootBuiltins y) (nl : s.heap.NoLimit) (ge : s.gens = #[]) (sm : ∃ mm, s.heap.Ns sysModules mm)
    (tT : ∀ q ∈ cs, s.heap.get? q.2 = some { cls := .none, data := .fields #[] }) (tK : ∀ q ∈ cs, K.lookup q.2 = none) (tC : ∀ q ∈ cs, PySem.W.CodeHd s.heap q.1 q.2)
    (bm : ∃ (m : Addr) (o : Obj), mg "__builtins__" = some (.ref m) ∧ m ≠ builtinsNs ∧ s.heap.get? m = some o ∧ o.cls = .type "module" ∧ o.dict = some builtinsNs ∧ o.data = .plain)
    (oa : s.heap.get? a = some { cls := .type "list", data := .seq us.toArray }) (ia : IntsAre us ns) (la : ns.length ≤ sizeLine) (rm : Room k callerA) (gd : callerA.guards = some []) (hT : T = cs.map Prod.snd) (no : noLst K = true)
    (F : ∀ base : Heap, K.In base → base.Ns mainGlobals mg → (∃ o, base.get? sysModules = some o) → (∀ q ∈ cs, GxR.TabB base mg q.1 q.2) → FnG P w K mg base k fa fd [x] (spD K T r)) (bd : ∀ (s : Shared) (u : Value), BindsTo s fd ⟨[u], []⟩ [(x, u)])
    (rr : r [.list (ns.map PyData.int)] = some (.bool true)) :
    codeAny (model P w) callerA (.call (.ref fa) ⟨[.ref a], []⟩) (fun r s' => r = .ok (.ret (.bool true)) ∧ OldK s.heap s'.heap ∧ s'.os = s.os ∧ AllBare s'.gens) s := by
  refine law_end X gl bl blb nl ge sm tT tK tC bm oa ia la rm gd F bd fun H hH hS => ?_
  have kn := noLst_ok X no oa
  have hr : Rd H a (.lst (ns.map V.int)) := by
    rcases hS with h | ⟨o, us', m, z, _⟩
    · exact h
    · rw [kn] at z; cases z
  have nt : ∀ (m : Array Value), H a ≠ some (.tbl m) := fun m z => by
    rcases hr with h | ⟨o, h⟩
    · rw [h] at z; cases z
    · rw [h] at z; cases z
  refine ⟨fun b => if b = a then H a else none, [.list (ns.map PyData.int)], fun b o e => ?_, fun b m e => ?_, .cons (.lst ?_ (ints_rq ns)) .nil, fun b hb => ?_, _, rr, fun v S' H' _ _ rv _ => ?_⟩
  · dsimp only at e
    split at e
    · rename_i q; rw [q]; exact e
    · cases e
  · dsimp only at e
    split at e
    · exact nt _ e
    · cases e
  · rcases hr with h | ⟨o, h⟩
    · exact .inl ((if_pos rfl : (if a = a then H a else none) = H a).trans h)
    · exact .inr ⟨o, (if_pos rfl : (if a = a then H a else none) = H a).trans h⟩
  · rw [hT] at hb
    obtain ⟨q, hq, rfl⟩ := List.mem_map.mp hb
    exact ⟨#[], hH q hq, trivial⟩
  · cases rv
    rfl
end
theorem EntOk.noRef {K : PySem.W.Frag} : ∀ {l : List DictEntry} {tab : List (Str × PyData)}, EntOk K l tab → l.any (·.refKey) = false
  | _, _, .nil => rfl
  | _, _, .cons _ _ h => by
    rw [List.any_cons, EntOk.noRef h]
    rfl
theorem EntOk.find {K : PySem.W.Frag} (z : Str) : ∀ {l : List DictEntry} {tab : List (Str × PyData)}, EntOk K l tab → match tabD tab z with
    | none => l.find? (·.key.isStr z) = none
    | some v => ∃ e v0, l.find? (·.key.isStr z) = some e ∧ RelV v0 e.val ∧ ∀ S, Rq K S v0 v
  | _, _, .nil => rfl
  | _, _, .cons (h := hh) (x := x) (t := t) (u := u) (v := v) (r := r) (tab := tab) r1 r2 h => by
    have ih := EntOk.find z h
    by_cases hx : x = z
    · subst hx
      have e1 : tabD ((x, v) :: tab) x = some v := by
        unfold tabD
        rw [List.find?_cons_of_pos (by simp)]
        rfl
      rw [e1]
      refine ⟨⟨hh, .str x t, u⟩, _, ?_, r1, r2⟩
      rw [List.find?_cons_of_pos (by show (x == x) = true; exact beq_self_eq_true x)]
    · have e1 : ∀ v, tabD ((x, v) :: tab) z = tabD tab z := fun v => by
        unfold tabD
        rw [List.find?_cons_of_neg (by simpa using hx)]
      rw [e1]
      rw [List.find?_cons_of_neg (by show ¬ (x == z) = true; simpa using hx)]
      exact ih
theorem EntOk.has {K : PySem.W.Frag} {d : Addr} {es : Array DictEntry} {n : Nat} {oc od sl} {tab : List (Str × PyData)} (e : K.lookup d = some ⟨oc, od, .dict es n, sl⟩) (h : EntOk K es.toList tab) (z : Str) : match tabD tab z with
    | none => PySem.W.nsIn K d z = some none
    | some v => ∃ u v0, PySem.W.nsIn K d z = some (some u) ∧ RelV v0 u ∧ ∀ S, Rq K S v0 v := by
  have f := EntOk.find z h
  have nr := h.noRef
  unfold PySem.W.nsIn
  rw [e]
  cases q : tabD tab z with
  | none =>
    rw [q] at f
    dsimp only at f ⊢
    rw [f]
    dsimp only
    rw [nr]
    rfl
  | some v =>
    rw [q] at f
    obtain ⟨e', v0, f1, f2, f3⟩ := f
    exact ⟨e'.val, v0, by dsimp only; rw [f1], f2, f3⟩
theorem dctK_of {K : PySem.W.Frag} {w : World} {mg : Str → Option Value} {x : Str} {tab : List (Str × PyData)} {d : Addr} {es : Array DictEntry} {n : Nat} (hm : mg x = some (.ref d)) (e : K.lookup d = some ⟨.type "dict", none, .dict es n, #[]⟩) (lit : PySem.W.KeysLit w.params es.toList) (low : (d == sysModules) = false) (h : EntOk K es.toList tab) : DctK K w mg x tab d es n := ⟨hm, ⟨e, lit, low⟩, fun z => EntOk.has e h z⟩
/-- a constant tuple -/
theorem rq_tupK {K : PySem.W.Frag} {a : Addr} {od : Option Addr} {us : Array Value} {n : Nat} {sl : Array (Option Value)} {vs : List V} {ds : List PyData} (h : K.lookup a = some ⟨.type "tuple", od, .seq us n, sl⟩) (hz : us.size ≤ sizeLine) (r : Vals vs us.toList) (q : ∀ S, RqL K S vs ds) (S : Hp) : Rq K S (.ref a) (.tuple ds) := .tup (.inr ⟨_, us, n, h, rfl, rfl, hz, r⟩) (q S)
mutual
/-- a constant value, looked at: numbers, texts, tuples of such -/
def valB (K : PySem.W.Frag) : Nat → Value → PyData → Bool
  | _, .none, .none => true
  | _, .bool a, .bool b => a == b
  | _, .int i _, .int j => decide (i = j)
  | _, .str x _, .str y => decide (x = y)
  | n + 1, .ref a, .tuple ds => match K.lookup a with
    | some ⟨.type t, _, .seq us _, _⟩ => decide (t = "tuple") && decide (us.size ≤ 1000) && valsB K n us.toList ds
    | _ => false
  | _, _, _ => false
def valsB (K : PySem.W.Frag) : Nat → List Value → List PyData → Bool
  | _, [], [] => true
  | n, u :: us, d :: ds => valB K n u d && valsB K n us ds
  | _, _, _ => false
end
mutual
theorem valB_ok {K : PySem.W.Frag} : ∀ (n : Nat) (u : Value) (d : PyData), valB K n u d = true → ∃ v, RelV v u ∧ ∀ S, Rq K S v d
  | n, u, d, h => by
    unfold valB at h
    split at h
    · exact ⟨.non, rfl, fun S => .non⟩
    · rename_i a b
      have : a = b := by simpa using h
      subst this
      exact ⟨.bl a, rfl, fun S => .bl a⟩
    · rename_i i t j
      have := of_decide_eq_true h
      subst this
      exact ⟨.int i, ⟨_, rfl⟩, fun S => .int i⟩
    · rename_i x t y
      have := of_decide_eq_true h
      subst this
      exact ⟨.str x, ⟨_, rfl⟩, fun S => .str x⟩
    · rename_i n a ds
      split at h
      · rename_i t od us m sl e
        rw [Bool.and_eq_true, Bool.and_eq_true, decide_eq_true_eq, decide_eq_true_eq] at h
        obtain ⟨⟨rfl, hz⟩, hv⟩ := h
        obtain ⟨vs, r, q⟩ := valsB_ok n us.toList ds hv
        exact ⟨.ref a, rfl, rq_tupK e (by rw [sizeLine_eq]; omega) r q⟩
      · cases h
    · cases h
theorem valsB_ok {K : PySem.W.Frag} : ∀ (n : Nat) (us : List Value) (ds : List PyData), valsB K n us ds = true → ∃ vs, Vals vs us ∧ ∀ S, RqL K S vs ds
  | n, [], [], _ => ⟨[], .nil, fun S => .nil⟩
  | n, u :: us, d :: ds, h => by
    unfold valsB at h
    rw [Bool.and_eq_true] at h
    obtain ⟨v, r, q⟩ := valB_ok n u d h.1
    obtain ⟨vs, rs, qs⟩ := valsB_ok n us ds h.2
    exact ⟨v :: vs, .cons r rs, fun S => .cons (q S) (qs S)⟩
  | n, [], _ :: _, h => by cases h
  | n, _ :: _, [], h => by cases h
end
def entB (K : PySem.W.Frag) : List DictEntry → List (Str × PyData) → Bool
  | [], [] => true
  | ⟨_, .str x _, u⟩ :: r, (y, v) :: tab => decide (x = y) && valB K 4 u v && entB K r tab
  | _, _ => false
theorem entB_ok {K : PySem.W.Frag} : ∀ (l : List DictEntry) (tab : List (Str × PyData)), entB K l tab = true → EntOk K l tab
  | l, tab, h => by
    unfold entB at h
    split at h
    · exact .nil
    · rename_i hh x t u r y v tab
      rw [Bool.and_eq_true, Bool.and_eq_true, decide_eq_true_eq] at h
      obtain ⟨⟨rfl, h2⟩, h3⟩ := h
      obtain ⟨v0, r0, q0⟩ := valB_ok 4 u v h2
      exact .cons r0 q0 (entB_ok r tab h3)
    · cases h
end Ev
namespace Ev
open PySem PySem.Spec PyProof.Rows L2 Tb
def refs8 (o : Obj) : List Addr := match o.data with
  | .seq its _ => its.toList.flatMap He.refV
  | .dict es _ => es.toList.flatMap fun e => He.refV e.val
  | .func fd => He.refV fd.code ++ He.refV fd.defaults
  | _ => []
def next8 (g : Addr → Option Obj) (as : List Addr) : List Addr := as.flatMap fun a => match g a with
  | some o => refs8 o
  | none => []
def as8 (g : Addr → Option Obj) : Nat → List Addr → List Addr
  | 0, as => as
  | n + 1, as => as ++ as8 g n (next8 g as)
def keep8 (o : Obj) : Bool := !He.emptyTab o && match o.cls with
  | .type c => !(decide (c = "list"))
  | _ => true
def fr8 (g : Addr → Option Obj) : PySem.W.Frag := (He.frG g (as8 g 3 [mainGlobals])).filter fun q => keep8 q.2
theorem fr8_in {h : Heap} : (fr8 h.get?).In h := fun _ _ e => by
  obtain ⟨h1, h2⟩ := List.mem_filter.mp (He.lookup_mem e)
  exact He.frG_mem h1
/-- a def at a place of the top -/
abbrev dd8 (tp : Nat → Stmt) (p : String × Nat) : He.DefD := ⟨(Str.ofString p.1, none), Str.ofString p.1, Str.ofString p.1, defArgs (tp p.2), defBody (tp p.2), defScope (tp p.2), [], []⟩
/-- a def whose last parameter has a number as its default -/
abbrev df8 (tp : Nat → Stmt) (p : String × Nat × Int) : He.DefD := ⟨(Str.ofString p.1, none), Str.ofString p.1, Str.ofString p.1, defArgs (tp p.2.1), defBody (tp p.2.1), defScope (tp p.2.1), [.int p.2.2], []⟩
structure W8 where
  wdefs : List (String × Nat)
  wdfls : List (String × Nat × Int)
  wtabs : List (String × Nat)
  wints : List (String × Int)
  wdics : List (String × List (Str × PyData))
  wcons : List (String × PyData)
  wfree : List String
def W8.fn (S : W8) (tp : Nat → Stmt) : List He.DefD := S.wdefs.map (dd8 tp) ++ S.wdfls.map (df8 tp)
def W8.ts (S : W8) : List He.Tab := S.wdics.map fun d => (fun K => He.ga K (Str.ofString d.1), d.2.map (·.1))
def glo8 (K : PySem.W.Frag) (n : String) : Bool := match PySem.W.nsIn K mainGlobals (Str.ofString n) with
  | some (some (.ref _)) => true
  | _ => false
def tab8 (K : PySem.W.Frag) (n : String) : Bool := match PySem.W.tabIn K (Str.ofString n) with
  | some (_, T) => (K.lookup T).isNone
  | _ => false
def int8 (K : PySem.W.Frag) (p : String × Int) : Bool := match PySem.W.nsIn K mainGlobals (Str.ofString p.1) with
  | some (some (.int j _)) => decide (j = p.2)
  | _ => false
def dic8 (K : PySem.W.Frag) (p : String × List (Str × PyData)) : Bool := glo8 K p.1 && match K.lookup (He.ga K (Str.ofString p.1)) with
  | some ⟨_, _, .dict es _, _⟩ => entB K es.toList p.2
  | _ => false
def con8 (K : PySem.W.Frag) (p : String × PyData) : Bool := match PySem.W.nsIn K mainGlobals (Str.ofString p.1) with
  | some (some u) => valB K 4 u p.2
  | _ => false
def fre8 (K : PySem.W.Frag) (n : String) : Bool := match PySem.W.nsIn K mainGlobals (Str.ofString n) with
  | some none => true
  | _ => false
def ex8 (S : W8) (K : PySem.W.Frag) : Bool := noLst K && (S.wdefs.all (fun p => glo8 K p.1) && (S.wdfls.all (fun p => glo8 K p.1) && (S.wtabs.all (fun p => tab8 K p.1) && (S.wints.all (int8 K) && (S.wdics.all (dic8 K) && (S.wcons.all (con8 K) && S.wfree.all (fre8 K)))))))
abbrev Al8 : Type := He.AlT × Bool
def obsK8 (S : W8) (tp : Nat → Stmt) (K : PySem.W.Frag) : Al8 := (He.obsT [] (S.fn tp) S.ts K, ex8 S K)
def val8 (S : W8) (tp : Nat → Stmt) (w : World) : Al8 := (He.valT (S.fn tp) S.ts w, true)
def obs8 (S : W8) (tp : Nat → Stmt) (g : Addr → Option Obj) : Al8 := obsK8 S tp (fr8 g)
def Says8 (S : W8) (tp : Nat → Stmt) (w : World) (K : PySem.W.Frag) : Prop := obsK8 S tp K = val8 S tp w
def hook8 (S : W8) (tp : Nat → Stmt) : PySem.W.Hook where
  α := Al8
  obs := fun s => obs8 S tp s.heap.get?
  val := fun w => val8 S tp w
  says := fun w h => ∃ K : PySem.W.Frag, K.In h ∧ Says8 S tp w K
  of := fun _ _ e => ⟨_, fr8_in, e⟩
  keeps := fun _ _ _ ⟨K, hK, c⟩ k => ⟨K, PySem.W.Frag.In.keeps hK k, c⟩
theorem obs8_eq {S : W8} {tp : Nat → Stmt} {g : Addr → Option Obj} {s : Shared} (h : ∀ a, g a = s.heap.get? a) : obs8 S tp g = (hook8 S tp).obs s := by
  have e : g = s.heap.get? := funext h
  rw [e] <;> rfl
def All8 {α : Type} (C : α → Prop) : List α → Prop
  | [] => True
  | x :: r => C x ∧ All8 C r
theorem all8_of {α : Type} {C : α → Prop} : ∀ {l : List α}, (∀ x ∈ l, C x) → All8 C l
  | [], _ => trivial
  | x :: r, h => ⟨h x (.head _), all8_of fun y hy => h y (.tail _ hy)⟩
section
variable (K : PySem.W.Frag) (tp : Nat → Stmt) (w : World)
def Def8 (nm : String) (i : Nat) : Prop := ∃ (f : Addr), (PySem.W.nsIn K mainGlobals (Str.ofString nm) = some (some (.ref f))) ∧ ∃ (od an : Option Addr) (sl : Array (Option Value)) (oc kV dc pm cd ct : Value), (K.lookup f = some ⟨oc, od, .func (PySem.W.fnOf (Str.ofString nm) (Str.ofString nm) (defArgs (tp i)) (defBody (tp i)) (defScope (tp i)) .none kV dc pm an cd ct), sl⟩) ∧ (PySem.W.codeIn K cd (Str.ofString nm) = true) ∧ (PySem.W.keepIn K (.ref f) = true)
def Tab8 (nm : String) (i : Nat) : Prop := ∃ (c T : Addr), (PySem.W.tabIn K (Str.ofString nm) = some (c, T)) ∧ (K.lookup T = none) ∧ ∃ (f : Addr), (PySem.W.nsIn K mainGlobals (Str.ofString nm) = some (some (.ref f))) ∧ ∃ (od an : Option Addr) (sl : Array (Option Value)) (oc kV dc pm ct : Value), (K.lookup f = some ⟨oc, od, .func (PySem.W.fnOf (Str.ofString nm) (Str.ofString nm) (defArgs (tp i)) (defBody (tp i)) (defScope (tp i)) .none kV dc pm an (.ref c) ct), sl⟩) ∧ (PySem.W.codeIn K (.ref c) (Str.ofString nm) = true) ∧ (PySem.W.keepIn K (.ref f) = true)
def Int8 (nm : String) (i : Int) : Prop := ∃ t : Tok, PySem.W.nsIn K mainGlobals (Str.ofString nm) = some (some (.int i t))
def Dic8 (nm : String) (tab : List (Str × PyData)) : Prop := ∃ (d : Addr) (es : Array DictEntry) (n : Nat), (PySem.W.nsIn K mainGlobals (Str.ofString nm) = some (some (.ref d))) ∧ (K.lookup d = some ⟨.type "dict", none, .dict es n, #[]⟩) ∧ (PySem.W.KeysLit w.params es.toList) ∧ ((d == sysModules) = false) ∧ EntOk K es.toList tab
def Fre8 (nm : String) : Prop := PySem.W.nsIn K mainGlobals (Str.ofString nm) = some none
end
section
variable {S : W8} {tp : Nat → Stmt} {w : World} {K : PySem.W.Frag}
theorem glo8_ok {n : String} (h : glo8 K n = true) : PySem.W.nsIn K mainGlobals (Str.ofString n) = some (some (.ref (He.ga K (Str.ofString n)))) := by
  unfold glo8 at h
  split at h
  · rename_i a e
    have e2 : He.ga K (Str.ofString n) = a := by
      unfold He.ga
      rw [e]
    rw [e, e2]
  · cases h
theorem Says8.ex (c : Says8 S tp w K) : ex8 S K = true := congrArg (fun z : Al8 => z.2) c
theorem Says8.t (c : Says8 S tp w K) : He.SaysT [] (S.fn tp) S.ts w K := congrArg (fun z : Al8 => z.1) c
theorem Says8.parts (c : Says8 S tp w K) : noLst K = true ∧ (∀ p ∈ S.wdefs, glo8 K p.1 = true) ∧ (∀ p ∈ S.wdfls, glo8 K p.1 = true) ∧ (∀ p ∈ S.wtabs, tab8 K p.1 = true) ∧ (∀ p ∈ S.wints, int8 K p = true) ∧ (∀ p ∈ S.wdics, dic8 K p = true) ∧ (∀ p ∈ S.wcons, con8 K p = true) ∧ (∀ p ∈ S.wfree, fre8 K p = true) := by
  have h := c.ex
  unfold ex8 at h
  simp only [Bool.and_eq_true, List.all_eq_true] at h
  exact h
theorem Says8.def_ (c : Says8 S tp w K) : ∀ p ∈ S.wdefs, Def8 K tp p.1 p.2 := fun p hp => by
  obtain ⟨fd, F⟩ := c.t.d.defs (d := dd8 tp p) (List.mem_append_left _ (List.mem_map_of_mem hp))
  obtain ⟨oc, od, dV, kV, doc, pm, an, cdv, ct, osl, rfl, lk, hcd, hd, hk⟩ := F.ex
  obtain ⟨_, rfl⟩ | ⟨h, _⟩ := hd
  · exact ⟨_, glo8_ok (c.parts.2.1 p hp), od, an, osl, oc, kV, doc, pm, cdv, ct, lk, hcd, F.kp⟩
  · exact absurd rfl h
theorem tab8_of {n : String} {i : Nat} (h : tab8 K n = true) (d : Def8 K tp n i) : Tab8 K tp n i := by
  obtain ⟨f, a, od, an, sl, oc, kV, dc, pm, cd, ct, l, y, k⟩ := d
  unfold tab8 at h
  split at h
  · rename_i c T e
    have e2 := e
    obtain ⟨c2, rfl⟩ := He.codeIn_ref y
    unfold PySem.W.tabIn at e2
    rw [a] at e2
    dsimp only at e2
    rw [l] at e2
    dsimp only at e2
    split at e2
    · split at e2
      · injection e2 with e3
        injection e3 with e4 e5
        subst e4
        exact ⟨_, T, e, Option.isNone_iff_eq_none.mp h, f, a, od, an, sl, oc, kV, dc, pm, ct, l, y, k⟩
      · cases e2
    · cases e2
  · cases h
theorem Says8.tab (c : Says8 S tp w K) (hs : S.wtabs ⊆ S.wdefs) : ∀ p ∈ S.wtabs, Tab8 K tp p.1 p.2 := fun p hp => tab8_of (c.parts.2.2.2.1 p hp) (c.def_ p (hs hp))
theorem Says8.int (c : Says8 S tp w K) : ∀ p ∈ S.wints, Int8 K p.1 p.2 := fun p hp => by
  have h := c.parts.2.2.2.2.1 p hp
  unfold int8 at h
  split at h
  · rename_i j t e
    have := of_decide_eq_true h
    subst this
    exact ⟨t, e⟩
  · cases h
theorem Says8.dic (c : Says8 S tp w K) : ∀ p ∈ S.wdics, Dic8 K w p.1 p.2 := fun p hp => by
  have h := c.parts.2.2.2.2.2.1 p hp
  obtain ⟨i, hi, e⟩ := List.mem_iff_getElem.mp hp
  have e2 : S.ts[i]? = some (fun K => He.ga K (Str.ofString p.1), p.2.map (·.1)) := by
    unfold W8.ts
    rw [List.getElem?_map, List.getElem?_eq_getElem hi, e]
    rfl
  obtain ⟨es, n, kd⟩ := c.t.tab i e2
  obtain ⟨k1, k2, k3⟩ := kd
  unfold dic8 at h
  rw [Bool.and_eq_true] at h
  have h2 := h.2
  dsimp only at k1
  rw [k1] at h2
  exact ⟨_, es, n, glo8_ok h.1, k1, k2, k3, entB_ok _ _ h2⟩
theorem Says8.fre (c : Says8 S tp w K) : ∀ p ∈ S.wfree, Fre8 K p := fun p hp => by
  have h := c.parts.2.2.2.2.2.2.2 p hp
  unfold fre8 at h
  split at h
  · rename_i e
    exact e
  · cases h
end
end Ev
namespace Ev
open PySem PySem.Spec PyProof.Rows
def top (i : Nat) : Stmt := PySem.Challenge.pw_partsmet_k46_whole_grades_by_all_states.main.body.getD i (.Pass ⟨0, 0, 0, 0⟩)
abbrev tab_INNER_KINDS : List (Str × PyData) := [("map", (.int 1)), ("pair", (.int 2)), ("later", (.int 2)), ("above", (.int 2))]
abbrev tab_WAY_WORDS : List (Str × PyData) := [("map", (.tuple [(.str "inner")])), ("pair", (.tuple [(.str "first"), (.str "second")])), ("later", (.tuple [(.str "first"), (.str "second")])), ("above", (.tuple [(.str "low"), (.str "high")]))]
end Ev
set_option maxHeartbeats 0
namespace Ev
open PySem PySem.W PySem.Calls PyProof.Rows
/-- what the end looks at behind the top -/
def S8 : W8 := ⟨[("_law_tables", 83), ("_law_draw", 81), ("_law_pick", 82), ("_law_small", 88), ("_law_least", 84), ("_law_is_under", 85), ("_law_join", 86), ("_law_states", 87), ("_law_parts", 90), ("_law_lowest", 92), ("_law_all_differ", 93), ("words_from", 67), ("kind_by", 68), ("ways_of", 70), ("below_rows", 16), ("are_points_in_line", 52), ("is_table_in_line", 53), ("single", 50), ("in_line", 51), ("is_list", 4), ("is_integer", 1), ("is_count", 2), ("is_count_below", 3), ("is_row", 26), ("has_table_form", 25), ("keeps_join_rules", 27), ("is_table", 21), ("check_table", 24), ("without", 30), ("lies_within", 28), ("states_within", 29), ("is_part_in", 33), ("parts_in", 34), ("parts_below", 35), ("joined_numbers", 31), ("joins_to", 32), ("is_list_of", 36), ("lists_of", 37), ("has_single_lists", 22), ("meet_of", 38), ("meet_rows", 39), ("is_distributive", 23), ("is_good", 71), ("kind_along", 69), ("bad_ways", 72), ("grade_of", 73), ("kind_as_told", 49), ("is_tie", 15), ("is_order", 14), ("is_plain_kind", 48), ("kinds_within", 47), ("is_kind", 45), ("told_kind", 46), ("grade", 66), ("_law_joined", 89), ("_law_all_single", 91), ("least_of", 63), ("is_part_of_pair", 77), ("is_part_of_later", 78), ("side_of", 62), ("part", 76), ("state_as_told", 61), ("tops_among", 17), ("is_loose", 18), ("is_tops_state", 57), ("is_map_name", 5), ("is_entry", 59), ("is_map_state", 58), ("is_above_state", 60), ("fits", 56), ("checked_state", 55), ("is_part", 75), ("_law_right", 94), ("_law_pot", 80), ("law", 95)], [], [("are_points_in_line", 52), ("is_table_in_line", 53), ("single", 50), ("in_line", 51), ("is_row", 26), ("has_table_form", 25), ("is_part_in", 33), ("is_list_of", 36), ("has_single_lists", 22), ("is_order", 14), ("tops_among", 17), ("is_tops_state", 57), ("is_map_name", 5), ("is_map_state", 58)], [("LONGEST_ROW", 20), ("MOST_DEEP", 4), ("MOST_KINDS", 12), ("MOST_POINTS", 6), ("MOST_STATES", 8), ("MOST_TIES", 15)], [("INNER_KINDS", tab_INNER_KINDS), ("WAY_WORDS", tab_WAY_WORDS)], [], ["isinstance", "int", "bool", "str", "dict", "list", "tuple", "len", "all", "any", "range", "abs", "sum", "min", "max", "divmod", "sorted", "set", "repr", "enumerate", "zip"]⟩
abbrev R8 : OpenRow := OpenLaw.row PySem.Challenge.rw_partsmet_k46_whole_grades_by_all_states
abbrev q8 : Program := view R8.prog [5, 14, 17, 22, 25, 26, 33, 36, 50, 51, 52, 53, 57, 58, 95]
def loose8_0 : List PySem.Str := ["__name__", "is_integer", "is_count", "is_count_below", "is_list", "PartError", "InvalidKind", "InvalidState", "InvalidTable", "MOST_POINTS", "MOST_TIES", "is_tie", "below_rows", "is_loose", "MOST_STATES", "is_table", "is_distributive", "check_table", "keeps_join_rules", "lies_within", "states_within", "without", "joined_numbers", "joins_to", "parts_in", "parts_below", "lists_of", "meet_of", "meet_rows", "INNER_KINDS"]
def loose8_1 : List PySem.Str := ["MOST_DEEP", "MOST_KINDS", "LONGEST_ROW", "is_kind", "told_kind", "kinds_within", "is_plain_kind", "kind_as_told", "checked_state", "fits", "is_entry", "is_above_state", "state_as_told", "side_of", "least_of", "WAY_WORDS", "grade", "words_from", "kind_by", "kind_along", "ways_of", "is_good", "bad_ways", "grade_of", "is_part", "part", "is_part_of_pair", "is_part_of_later", "_law_pot", "_law_draw"]
def loose8_2 : List PySem.Str := ["_law_pick", "_law_tables", "_law_least", "_law_is_under", "_law_join", "_law_states", "_law_small", "_law_joined", "_law_parts", "_law_all_single", "_law_lowest", "_law_all_differ", "_law_right"]
def loose8 : List PySem.Str := loose8_0 ++ loose8_1 ++ loose8_2
def ob8 (s : PySem.W.SharedT) : Al8 := obs8 S8 top (HandSHeadRun.getT s)
theorem ob8_eq (s : PySem.W.SharedT) : ob8 s = (hook8 S8 top).obs s.abs := obs8_eq (HandSHeadRun.getT_eq s)
theorem run8f (w : World) : HandSHeadRun.RunEq R8 q8 (hook8 S8 top) ob8 9000 loose8 (w.withFollow "special-get-raises" false) := by
  intro os
  kernel_rfl
theorem run8t (w : World) : HandSHeadRun.RunEq R8 q8 (hook8 S8 top) ob8 9000 loose8 (w.withFollow "special-get-raises" true) := by
  intro os
  kernel_rfl
theorem run8 (w : World) : HandSHeadRun.RunEq R8 q8 (hook8 S8 top) ob8 9000 loose8 w := byRow2 (P := fun w => HandSHeadRun.RunEq R8 q8 (hook8 S8 top) ob8 9000 loose8 w) "special-get-raises" run8f run8t w
end Ev
namespace Ev
open PySem PySem.Spec PyProof.Rows L2 Tb
section
variable {X : Cx} {T : List Addr} {pos p1 p2 pt : Pos} {pin : Bool} {a b tg : Expr} {i j : Nat} {gl : GL} {gb : GE} {kt : Nat}
theorem es_parLEc (ha : PE X (.Tuple [a, b] kt pt) (tTup (tCons (tL X.K T gl) (tCons (tE X.K T gb) tNil)))) (hg : PG X tg (gTup X.K 2 (gCons (gName i) (gCons (gName j) gNil)))) (hp : pin = true → i ≠ 0 ∧ j ≠ 0)
    (hs : swapsWithSole [tg] (.Tuple [a, b] kt pt) pos.line X.env = pure false := by rfl) (hw : swappedStores [tg] (.Tuple [a, b] kt pt) X.env = pure none := by rfl) (h1 : (assignEach [tg] X.env).map (·.2) = [assign tg X.env] := by rfl) :
    PS X (.Assign [tg] (.Tuple [a, b] kt pt) pos) (tS X.K T pin (parLE gl gb i j)) := by
  refine ps_imp (ps_asg ha hg hs hw h1) fun D σ H w => ?_
  obtain ⟨S, lo, st, at', o, lo', e, q⟩ := w
  obtain ⟨y, e1, e2⟩ := Option.bind_eq_some_iff.mp e
  obtain ⟨z, e3, e4⟩ := Option.bind_eq_some_iff.mp e2
  cases e4
  refine ⟨S, lo, st, at', y.1, y.2, e1, fun c us S1 H1 st1 h1 r1 n1 n2 f1 x1 => ⟨S1, y.2, st1, at'.ext x1, z.1, z.2, e3, fun u S2 H2 st2 r2 x2 => ?_⟩⟩
  refine ⟨by show 2 ≤ sizeLine; decide, fun p hp0 => ?_⟩
  have nz : ¬ Fz H1 c := fun z => z.no h1 fun ps z => by cases z
  have n3 : ¬ Own σ z.2 c := fun o => (x2.domF c o).elim n2 nz
  have n4 : S2 c = none := by
    cases q : S2 c with
    | none => rfl
    | some w =>
      rcases x2.domS c (by rw [q]; simp) with y | y | y
      · exact absurd n1 y
      · exact absurd y n2
      · exact absurd y nz
  have hc2 := x2.keep c _ n2 h1 (by intro ps z; cases z)
  have st3 := st2.lay (p := p) (u := .tup [.ref c, u]) hp0
  have x3 : Ext (Own σ z.2) S2 H2 S2 (upd H2 p (.tup [.ref c, u])) (Own σ z.2) := Ext.lay hp0
  have hc3 : upd H2 p (.tup [.ref c, u]) c = some (.lst us) := by rw [upd_ne (ne_of_none hc2 hp0)]; exact hc2
  refine ⟨p, [.ref c, u], rfl, .inl (.inl upd_same), rfl, _, _, rfl, _, _, rfl, rfl, ?_⟩
  obtain ⟨st4, o4⟩ := st3.setL (i := i) hc3 (RqL.sub x2.sub r1) n4 n3
  obtain ⟨st5, o5⟩ := st4.set (i := j) r2
  exact q _ S2 _ st5 (((x1.trans x2).trans x3).more f1 fun b h => o4 b (o5 b h)) (set2_pin hp)
end
end Ev
namespace Ev
open PySem PySem.Spec PyProof.Rows L2 Tb
/-- a def whose defaults stand in the tuple at td -/
structure FunT (K : PySem.W.Frag) (x qual : Str) (st : Stmt) (f : Addr) (fd : FuncData) (td : Addr) : Prop where
  ex : ∃ (oc : Value) (od : Option Addr) (kV doc pm : Value) (an : Option Addr) (cdv ct : Value) (osl : Array (Option Value)),
    fd = PySem.W.fnOf x qual (defArgs st) (defBody st) (defScope st) (.ref td) kV doc pm an cdv ct ∧ K.lookup f = some ⟨oc, od, .func fd, osl⟩ ∧ PySem.W.codeIn K cdv qual = true
section
variable {P : Program} {w : World} {K : PySem.W.Frag} {mg : Str → Option Value} {base : Heap} {N ps : List Str} {qual x : Str} {st : Stmt} {f td : Addr} {fd : FuncData} {k n m : Nat} {sp : Sp} {T : List Addr} {g : GS}
/-- all written, or the last one left out -/
theorem FunT.binds (F : FunT K x qual st f fd td) {o : Obj} {u : Value} {c : Nat} (lT : K.lookup td = some o) (oT : o.data = .seq #[u] c) (j : Nat)
    (h : ∀ (kV doc pm : Value) (an : Option Addr) (cdv ct : Value) (us : List Value), us.length + (1 - j) = ps.length →
      ∃ k, bindArgs (PySem.W.fnOf x qual (defArgs st) (defBody st) (defScope st) (.ref td) kV doc pm an cdv ct) ⟨us, []⟩ = seqItems? (.ref td) >>= k ∧ k (some #[u]) = pure (ps.zip (us ++ [u].drop j))) : Binds K fd ps ([u].drop j) := by
  obtain ⟨oc, od, kV, doc, pm, an, cdv, ct, osl, rfl, lk, hcd⟩ := F.ex
  intro s us X hlen
  have l2 : us.length + (1 - j) = ps.length := by
    rw [List.length_append, List.length_drop, List.length_singleton] at hlen
    exact hlen
  obtain ⟨k, e1, e2⟩ := h kV doc pm an cdv ct us l2
  refine BindsTo.of_looks fun M => ?_
  rw [e1]
  exact looks_items X lT oT (.of_pure e2)
end
end Ev
namespace Ev
open PySem PySem.Spec PyProof.Rows L2 Tb
section
variable {X : Cx} {T : List Addr} {pos p : Pos} {d : Addr} {es : Array DictEntry} {n : Nat} {tab : List (Str × PyData)} {x : Str} {a b f : Expr} {g ga gb gf : GE}
def kgetF (tab : List (Str × PyData)) (ge gf : GE) : GE := fun lo => (ge lo).bind fun p => (gf p.2).bind fun q => match p.1 with
  | .str z => some ((tabD tab z).getD q.1, q.2)
  | _ => none
theorem ev_kget2 {ap cp : Pos} (D : DctK X.K X.w X.mg x tab d es n) (hg : Gl X x) (ha : PE X a (tE X.K T ga)) (hf : PE X f (tE X.K T gf)) (m : M2 X (.Name x p) "get" ap a f cp) (hdb : (x == ("__debug__" : Str)) = false := by decide) :
    PE X (.Call (.Attribute (.Name x p) "get" ap) [a, f] [] cp) (tE X.K T (kgetF tab ga gf)) := by
  refine ⟨fun pins s σ H Q I w => ?_⟩
  obtain ⟨S, lo, st, at', r, lo', e, q⟩ := w
  obtain ⟨y, e1, e⟩ := Option.bind_eq_some_iff.mp e
  obtain ⟨y2, e2, e⟩ := Option.bind_eq_some_iff.mp e
  split at e
  · rename_i z hz
    cases e
    refine wpAny_Call_method m.base m.few m.line PySem.F.plainAttrs_dict PySem.F.slot_dict_get PySem.F.type_dict_get (thn ((pe_glob (v := .ref d) hg D.at_ rfl hdb).run pins s σ H (fun v H1 => v = .ref d ∧ H1 = H) I ⟨rfl, rfl⟩) fun u s1 ⟨v1, H1, I1, rx, ex, eH⟩ => ?_)
    subst ex eH
    obtain rfl : u = Value.ref d := rx
    have hd := PySem.W.mapOf_K (prog := X.prog) (w := X.w) I1.kIn D.kd.at_ D.kd.lit
    refine ⟨hd.typeIs, fun c q => ?_, ?_⟩
    · cases q
      exact ⟨_, I1.kIn _ _ D.kd.at_, rfl⟩
    rw [m.trees]
    refine Calls.callWith_builtin rfl (Calls.evalArgs_plain (Calls.spliced_cons (thn (ha.run pins s1 σ H1 (fun v H2 => ∃ S2, Stt X.K S2 H2 σ y.2 ∧ Rq X.K S2 v y.1 ∧ AllT T H2 ∧ Ext (Own σ lo) S H1 S2 H2 (Own σ y.2)) I1 ⟨S, lo, st, at', y.1, y.2, e1, fun v S2 H2 st2 r2 x2 => ⟨S2, st2, r2, at'.ext x2, x2⟩⟩) fun iv s2 ⟨v2, H2, I2, ry, S2, st2, r2, at2, x2⟩ =>
      Calls.spliced_cons (thn (hf.run pins s2 σ H2 (fun v H3 => ∃ S3, Stt X.K S3 H3 σ y2.2 ∧ Rq X.K S3 v y2.1 ∧ Ext (Own σ y.2) S2 H2 S3 H3 (Own σ y2.2)) I2 ⟨S2, y.2, st2, at2, y2.1, y2.2, e2, fun v S3 H3 st3 r3 x3 => ⟨S3, st3, r3, x3⟩⟩) fun fv s3 ⟨v3, H3, I3, rz, S3, st3, r3, x3⟩ => Calls.spliced_nil ?_))))
    rw [hz] at r2
    cases r2
    obtain ⟨t, rfl⟩ := ry
    have hd3 := PySem.W.mapOf_K (prog := X.prog) (w := X.w) I3.kIn D.kd.at_ D.kd.lit
    refine call_meetsIn PySem.F.slot_dict_get hd3.typeIs PySem.F.entry_dict_get (PySem.F.args_dict_get_3 _ _ _) (meets_dict_get_default (strKind X.prog X.w) d (PySem.strKind_is X.prog X.w z t) D.kd.low fv) ⟨_, hd3, ?_⟩
    have hh := D.has z
    cases e3 : tabD tab z with
    | none =>
      rw [e3] at hh q
      rw [PySem.W.find_K D.kd.at_ hh]
      exact ⟨v3, H3, I3.tok _, rz, q _ S3 H3 st3 r3 (x2.trans x3)⟩
    | some r =>
      rw [e3] at hh q
      obtain ⟨u, v0, h1, h2, h3⟩ := hh
      rw [PySem.W.find_K D.kd.at_ h1]
      exact ⟨v0, H3, I3.tok _, h2, q _ S3 H3 st3 (h3 _) (x2.trans x3)⟩
  · cases e
def idxF : PyData → PyData → Option PyData
  | .list ds, d => if SeqAt.shaped (.list ds) = true ∧ SeqAt.shaped d = true then (ds.findIdx? fun z => PyData.eqv z d).map fun (j : Nat) => .int j else none
  | _, _ => none
theorem ev_index {ap cp : Pos} (hu : X.A.units + 65 < cLine) (hv : PE X b (tE X.K T gb)) (ha : PE X a (tE X.K T ga)) (hbase : attributeBase b "index" X.env (eval b X.env) = eval b X.env := by rfl)
    (hfew : ((backTo cp (starEach [a] X.env)).all (fun x => !x.1) && (backToKw cp (keywordEach [] X.env)).all (fun x => x.1.isSome) && decide ([a].length + ([] : List Keyword).length + (if ([] : List Keyword).isEmpty then 0 else 1) < 30)) = true := by rfl)
    (hline : (ap.endLine == cp.line) = true := by rfl) (hs : starEach [a] X.env = (false, eval a X.env) :: starEach [] X.env := by rfl) : PE X (.Call (.Attribute b "index" ap) [a] [] cp) (tE X.K T (op2 idxF gb ga)) := by
  refine pe_imp (pe_bm PySem.F.plainAttrs_list PySem.F.slot_list_index PySem.F.type_list_index (mt_indexD hu) hv (pa_cons ha pa_nil hs) hbase hfew hline hs rfl) fun σ H Q w => ?_
  obtain ⟨S, lo, st, at', z, lo', e, q⟩ := w
  obtain ⟨x1, l1, y1, e1, e2, e3⟩ := op2_some e
  cases x1 with
  | list ds =>
    have e3 : (if SeqAt.shaped (.list ds) = true ∧ SeqAt.shaped y1 = true then (ds.findIdx? fun z => PyData.eqv z y1).map fun (j : Nat) => PyData.int j else none) = some z := e3
    split at e3
    · rename_i hsh
      obtain ⟨j, hj, rfl⟩ := Option.map_eq_some_iff.mp e3
      refine ⟨S, lo, st, at', _, l1, e1, fun v1 S1 H1 st1 r1 x1 => ?_⟩
      obtain ⟨d0, vs, rfl, hd, rd⟩ : ∃ d vs, v1 = .ref d ∧ Rd S1 d (.lst vs) ∧ RqL X.K S1 vs ds := by
        cases r1 with
        | lst h rr => exact ⟨_, _, rfl, h, rr⟩
      refine ⟨.inl ⟨rfl, vs, .inl (st1.sub.rd hd)⟩, S1, l1, st1, at'.ext x1, y1, lo', e2, fun v2 S2 H2 st2 r2 x2 => ?_⟩
      obtain ⟨hj1, hj2, hj3⟩ := List.findIdx?_eq_some_iff_getElem.mp hj
      refine ⟨d0, v2, y1, ds, j, ds[j], rfl, rfl, Rq.dp (SeqAt.canLay_of_shaped hsh.1) ((RqT.of (Rq.sub x2.sub r1)).rqH st2.sub), Rq.dp (SeqAt.canLay_of_shaped hsh.2) ((RqT.of r2).rqH st2.sub), hsh.1, hsh.2, List.getElem?_eq_getElem hj1, hj2, fun m z' hm hz => ?_, ?_⟩
      · obtain ⟨hm1, rfl⟩ := List.getElem?_eq_some_iff.mp hz
        simpa using hj3 m hm
      · exact q _ S2 H2 st2 (.int _) (x1.trans x2)
    · cases e3
  | _ => cases e3
end
end Ev
namespace Ev
open PySem PySem.Spec PyProof.Rows L2 Tb
noncomputable def g__law_tables : GS := (seqS (asgS (lstF (consA (lstF (consA (cF (.int 0)) (consA (cF (.int 1)) (consA (cF (.int 2)) (consA (cF (.int 3)) (consA (cF (.int 4)) nilA)))))) (consA (lstF (consA (cF (.int 1)) (consA (cF (.int 1)) (consA (cF (.int 4)) (consA (cF (.int 4)) (consA (cF (.int 4)) nilA)))))) (consA (lstF (consA (cF (.int 2)) (consA (cF (.int 4)) (consA (cF (.int 2)) (consA (cF (.int 4)) (consA (cF (.int 4)) nilA)))))) (consA (lstF (consA (cF (.int 3)) (consA (cF (.int 4)) (consA (cF (.int 4)) (consA (cF (.int 3)) (consA (cF (.int 4)) nilA)))))) (consA (lstF (consA (cF (.int 4)) (consA (cF (.int 4)) (consA (cF (.int 4)) (consA (cF (.int 4)) (consA (cF (.int 4)) nilA)))))) nilA)))))) (nmG 0))
  (seqS (asgS (lstF (consA (lstF (consA (cF (.int 0)) (consA (cF (.int 1)) (consA (cF (.int 2)) (consA (cF (.int 3)) (consA (cF (.int 4)) nilA)))))) (consA (lstF (consA (cF (.int 1)) (consA (cF (.int 1)) (consA (cF (.int 4)) (consA (cF (.int 3)) (consA (cF (.int 4)) nilA)))))) (consA (lstF (consA (cF (.int 2)) (consA (cF (.int 4)) (consA (cF (.int 2)) (consA (cF (.int 4)) (consA (cF (.int 4)) nilA)))))) (consA (lstF (consA (cF (.int 3)) (consA (cF (.int 3)) (consA (cF (.int 4)) (consA (cF (.int 3)) (consA (cF (.int 4)) nilA)))))) (consA (lstF (consA (cF (.int 4)) (consA (cF (.int 4)) (consA (cF (.int 4)) (consA (cF (.int 4)) (consA (cF (.int 4)) nilA)))))) nilA)))))) (nmG 1))
  (seqS (par2 (lstF (consA (lstF (consA (cF (.int 0)) (consA (cF (.int 1)) (consA (cF (.int 2)) (consA (cF (.int 3)) nilA))))) (consA (lstF (consA (cF (.int 1)) (consA (cF (.int 1)) (consA (cF (.int 3)) (consA (cF (.int 3)) nilA))))) (consA (lstF (consA (cF (.int 2)) (consA (cF (.int 3)) (consA (cF (.int 2)) (consA (cF (.int 3)) nilA))))) (consA (lstF (consA (cF (.int 3)) (consA (cF (.int 3)) (consA (cF (.int 3)) (consA (cF (.int 3)) nilA))))) nilA))))) (lstF (consA (lstF (consA (cF (.int 0)) (consA (cF (.int 1)) (consA (cF (.int 2)) nilA)))) (consA (lstF (consA (cF (.int 1)) (consA (cF (.int 1)) (consA (cF (.int 2)) nilA)))) (consA (lstF (consA (cF (.int 2)) (consA (cF (.int 2)) (consA (cF (.int 2)) nilA)))) nilA)))) 2 3)
  (seqS (asgS (lstF (consA (lstF (consA (cF (.int 0)) (consA (cF (.int 1)) (consA (cF (.int 2)) (consA (cF (.int 3)) (consA (cF (.int 4)) (consA (cF (.int 5)) (consA (cF (.int 6)) nilA)))))))) (consA (lstF (consA (cF (.int 1)) (consA (cF (.int 1)) (consA (cF (.int 4)) (consA (cF (.int 6)) (consA (cF (.int 4)) (consA (cF (.int 6)) (consA (cF (.int 6)) nilA)))))))) (consA (lstF (consA (cF (.int 2)) (consA (cF (.int 4)) (consA (cF (.int 2)) (consA (cF (.int 5)) (consA (cF (.int 4)) (consA (cF (.int 5)) (consA (cF (.int 6)) nilA)))))))) (consA (lstF (consA (cF (.int 3)) (consA (cF (.int 6)) (consA (cF (.int 5)) (consA (cF (.int 3)) (consA (cF (.int 6)) (consA (cF (.int 5)) (consA (cF (.int 6)) nilA)))))))) (consA (lstF (consA (cF (.int 4)) (consA (cF (.int 4)) (consA (cF (.int 4)) (consA (cF (.int 6)) (consA (cF (.int 4)) (consA (cF (.int 6)) (consA (cF (.int 6)) nilA)))))))) (consA (lstF (consA (cF (.int 5)) (consA (cF (.int 6)) (consA (cF (.int 5)) (consA (cF (.int 5)) (consA (cF (.int 6)) (consA (cF (.int 5)) (consA (cF (.int 6)) nilA)))))))) (consA (lstF (consA (cF (.int 6)) (consA (cF (.int 6)) (consA (cF (.int 6)) (consA (cF (.int 6)) (consA (cF (.int 6)) (consA (cF (.int 6)) (consA (cF (.int 6)) nilA)))))))) nilA)))))))) (nmG 4))
  (retS (lstF (consA (vF 2) (consA (vF 0) (consA (vF 4) (consA (vF 3) (consA (vF 1) (consA (lstF (consA (lstF (consA (cF (.int 0)) nilA)) nilA)) (consA (vF 2) nilA)))))))))))))
noncomputable def r__law_tables : List PyData → Option PyData := runD 0 5 g__law_tables
noncomputable def g__law_draw : GS := (seqS (ifS (bF (op2 gtF (op2L ixF 0 (cF (.int 0))) (cF (.int 0)))) (seqS (asgS (callF divmodF (consA (op2L ixF 0 (cF (.int 0))) (consA (vF 1) nilA))) (tpG 2 (consGs (subG 0 0) (consGs (nmG 2) nilGs))))
  (retS (vF 2))) nilS)
  (seqS (stoS 0 (op2 modF (callF intF1 (consA (op2 addF (op2 mulQ (op2L ixF 0 (cF (.int 1))) (cF (.int 39541))) (cF (.int 7321))) nilA)) (cF (.int 2147483549))) (cF (.int 1)))
  (retS (op2 modF (callF intF1 (consA (op2 fdivF (op2 modF (callF intF1 (consA (op2 mulQ (op2L ixF 0 (cF (.int 1))) (op2L ixF 0 (cF (.int 1)))) nilA)) (cF (.int 2147483543))) (cF (.int 23))) nilA)) (vF 1)))))
noncomputable def r__law_draw : List PyData → List PyData → Option (PyData × List PyData) := runB 2 3 g__law_draw
noncomputable def g__law_pick : GS := (retS (op2 ixF (vF 1) (callBF r__law_draw 0 (consA (callF lenF (consA (vF 1) nilA)) nilA))))
noncomputable def r__law_pick : List PyData → List PyData → Option (PyData × List PyData) := runB 2 2 g__law_pick
noncomputable def g__law_small : GS := (seqS (asgS (callF r__law_tables nilA) (nmG 1))
  (seqS (asgS (lstF (consA (tupF (consA (cF (.str "table")) (consA (op2 ixF (vF 1) (cF (.int 0))) nilA))) (consA (tupF (consA (cF (.str "table")) (consA (op2 ixF (vF 1) (cF (.int 1))) nilA))) (consA (tupF (consA (cF (.str "table")) (consA (op2 ixF (vF 1) (cF (.int 4))) nilA))) (consA (tupF (consA (cF (.str "tops")) (consA (cF (.int 2)) (consA (lstF nilA) nilA)))) (consA (tupF (consA (cF (.str "row")) (consA (cF (.int 3)) nilA))) nilA)))))) (nmG 2))
  (seqS (asgS (callBF r__law_pick 0 (consA (op2 addF (vF 2) (lstF (consA (tupF (consA (cF (.str "tops")) (consA (cF (.int 3)) (consA (lstF (consA (tupF (consA (cF (.int 0)) (consA (cF (.int 1)) nilA))) nilA)) nilA)))) (consA (tupF (consA (cF (.str "pair")) (consA (tupF (consA (cF (.str "row")) (consA (cF (.int 2)) nilA))) (consA (tupF (consA (cF (.str "row")) (consA (cF (.int 2)) nilA))) nilA)))) nilA)))) nilA)) (nmG 3))
  (seqS (par2 (callBF r__law_draw 0 (consA (cF (.int 6)) nilA)) (tupF (consA (cF (.str "row")) (consA (cF (.int 2)) nilA))) 4 5)
  (seqS (ifS (bF (op2 eqF (vF 4) (cF (.int 0)))) (retS (tupF (consA (cF (.str "table")) (consA (op2 ixF (vF 1) (cF (.int 2))) nilA)))) nilS)
  (seqS (ifS (bF (op2 eqF (vF 4) (cF (.int 1)))) (retS (tupF (consA (cF (.str "later")) (consA (vF 5) (consA (vF 3) nilA))))) nilS)
  (seqS (ifS (bF (op2 eqF (vF 4) (cF (.int 2)))) (retS (tupF (consA (cF (.str "later")) (consA (vF 3) (consA (vF 5) nilA))))) nilS)
  (seqS (ifS (bF (op2 eqF (vF 4) (cF (.int 3)))) (retS (tupF (consA (cF (.str "later")) (consA (vF 3) (consA (tupF (consA (cF (.str "row")) (consA (cF (.int 1)) nilA))) nilA))))) nilS)
  (retS (ifE (bF (op2 eqF (vF 4) (cF (.int 4)))) (tupF (consA (cF (.str "above")) (consA (vF 3) (consA (tupF (consA (cF (.str "tops")) (consA (cF (.int 2)) (consA (lstF nilA) nilA)))) nilA)))) (tupF (consA (cF (.str "pair")) (consA (vF 5) (consA (vF 3) nilA))))))))))))))
noncomputable def r__law_small : List PyData → List PyData → Option (PyData × List PyData) := runB 1 6 g__law_small
noncomputable def g__law_least (R__law_least : List PyData → Option PyData) : GS := (seqS (ifS (bF (op2 inF (op2 ixF (vF 0) (cF (.int 0))) (tupF (consA (cF (.str "map")) (consA (cF (.str "tops")) nilA))))) (retS (lstF nilA)) nilS)
  (seqS (ifS (bF (op2 inF (op2 ixF (vF 0) (cF (.int 0))) (tupF (consA (cF (.str "pair")) (consA (cF (.str "later")) nilA))))) (retS (tupF (consA (callF R__law_least (consA (op2 ixF (vF 0) (cF (.int 1))) nilA)) (consA (callF R__law_least (consA (op2 ixF (vF 0) (cF (.int 2))) nilA)) nilA)))) nilS)
  (retS (ifE (bF (op2 eqF (op2 ixF (vF 0) (cF (.int 0))) (cF (.str "above")))) (tupF (consA (cF (.str "low")) (consA (callF R__law_least (consA (op2 ixF (vF 0) (cF (.int 1))) nilA)) nilA))) (cF (.int 0))))))
noncomputable def r__law_least : Nat → List PyData → Option PyData
  | 0 => fun _ => none
  | m + 1 => runD 1 1 (g__law_least (r__law_least m))
noncomputable def g__law_is_under : GS := (seqS (parLE (lstL (consA (vF 1) nilA)) (cF (.int 0)) 3 4)
  (seqS (whileS (bF (op2 ltF (vF 4) (callN lenF 3))) (seqS (dropS (extF 3 (lcF (seqI (vF 0)) [5, 6] (tpG 2 (consGs (nmG 5) (consGs (nmG 6) nilGs))) (andT (bF (op2 eqF (vF 5) (op2L ixF 3 (vF 4)))) (bF (op2R notInF (vF 6) 3))) (vF 6))))
  (asgS (op2 addF (vF 4) (cF (.int 1))) (nmG 4))) 4096)
  (retS (andE (op2 neF (vF 1) (vF 2)) (op2R inF (vF 2) 3)))))
noncomputable def r__law_is_under : List PyData → Option PyData := runD 3 7 g__law_is_under
noncomputable def g__law_join (R__law_join : List PyData → Option PyData) : GS := (seqS (ifS (bF (op2 inF (op2 ixF (vF 0) (cF (.int 0))) (tupF (consA (cF (.str "count")) (consA (cF (.str "row")) nilA))))) (retS (callF max2F (consA (vF 1) (consA (vF 2) nilA)))) nilS)
  (seqS (ifS (bF (op2 eqF (op2 ixF (vF 0) (cF (.int 0))) (cF (.str "table")))) (retS (op2 ixF (op2 ixF (op2 ixF (vF 0) (cF (.int 1))) (vF 1)) (vF 2))) nilS)
  (seqS (ifS (bF (op2 eqF (op2 ixF (vF 0) (cF (.int 0))) (cF (.str "tops")))) (seqS (asgS (un1 sortSetF (op2 addF (callF listF (consA (vF 1) nilA)) (callF listF (consA (vF 2) nilA)))) (nmG 3))
  (retS (lcF (seqI (vF 3)) [4] (nmG 4) (notT (bF (callF anyL (consA (lcF (seqI (vF 3)) [5] (nmG 5) yesT (callF r__law_is_under (consA (op2 ixF (vF 0) (cF (.int 2))) (consA (vF 4) (consA (vF 5) nilA))))) nilA)))) (vF 4)))) nilS)
  (seqS (ifS (bF (op2 eqF (op2 ixF (vF 0) (cF (.int 0))) (cF (.str "map")))) (seqS neverS
  (seqS (asgS (callF (r__law_least 12) (consA (op2 ixF (vF 0) (cF (.int 1))) nilA)) (nmG 8))
  neverS)) nilS)
  (seqS (ifS (bF (op2 eqF (op2 ixF (vF 0) (cF (.int 0))) (cF (.str "above")))) (seqS (ifS (bF (op2 neF (op2 ixF (vF 1) (cF (.int 0))) (op2 ixF (vF 2) (cF (.int 0))))) (retS (ifE (bF (op2 eqF (op2 ixF (vF 1) (cF (.int 0))) (cF (.str "high")))) (vF 1) (vF 2))) nilS)
  (retS (tupF (consA (op2 ixF (vF 1) (cF (.int 0))) (consA (callF R__law_join (consA (ifE (bF (op2 eqF (op2 ixF (vF 1) (cF (.int 0))) (cF (.str "low")))) (op2 ixF (vF 0) (cF (.int 1))) (op2 ixF (vF 0) (cF (.int 2)))) (consA (op2 ixF (vF 1) (cF (.int 1))) (consA (op2 ixF (vF 2) (cF (.int 1))) nilA)))) nilA))))) nilS)
  (seqS (asgS (callF R__law_join (consA (op2 ixF (vF 0) (cF (.int 1))) (consA (op2 ixF (vF 1) (cF (.int 0))) (consA (op2 ixF (vF 2) (cF (.int 0))) nilA)))) (nmG 10))
  (seqS (ifS (orT (bF (op2 eqF (op2 ixF (vF 0) (cF (.int 0))) (cF (.str "pair")))) (bF (op2 eqF (op2 ixF (vF 1) (cF (.int 0))) (op2 ixF (vF 2) (cF (.int 0)))))) (retS (tupF (consA (vF 10) (consA (callF R__law_join (consA (op2 ixF (vF 0) (cF (.int 2))) (consA (op2 ixF (vF 1) (cF (.int 1))) (consA (op2 ixF (vF 2) (cF (.int 1))) nilA)))) nilA)))) nilS)
  (retS (ifE (bF (op2 eqF (vF 10) (op2 ixF (vF 1) (cF (.int 0))))) (vF 1) (ifE (bF (op2 eqF (vF 10) (op2 ixF (vF 2) (cF (.int 0))))) (vF 2) (tupF (consA (vF 10) (consA (callF (r__law_least 12) (consA (op2 ixF (vF 0) (cF (.int 2))) nilA)) nilA)))))))))))))
noncomputable def r__law_join : Nat → List PyData → Option PyData
  | 0 => fun _ => none
  | m + 1 => runD 3 11 (g__law_join (r__law_join m))
noncomputable def g__law_states (R__law_states : List PyData → Option PyData) : GS := (seqS (ifS (bF (op2 inF (op2 ixF (vF 0) (cF (.int 0))) (tupF (consA (cF (.str "row")) (consA (cF (.str "table")) nilA))))) (retS (listRgF (ifE (bF (op2 eqF (op2 ixF (vF 0) (cF (.int 0))) (cF (.str "row")))) (op2 ixF (vF 0) (cF (.int 1))) (callF lenF (consA (op2 ixF (vF 0) (cF (.int 1))) nilA))))) nilS)
  (seqS (ifS (bF (op2 eqF (op2 ixF (vF 0) (cF (.int 0))) (cF (.str "tops")))) (seqS (asgL (lstL (consA (lstF nilA) nilA)) 1)
  (seqS (forS (rg1I (consA (op2 ixF (vF 0) (cF (.int 1))) nilA)) (nmG 2) (asgL (catLL (frzF 1) (lcF (seqI (frzF 1)) [3] (nmG 3) yesT (op2 addF (vF 3) (lstF (consA (vF 2) nilA))))) 1))
  (retS (lcF (seqI (frzF 1)) [3] (nmG 3) (bF (op2 eqF (callF (r__law_join 12) (consA (vF 0) (consA (vF 3) (consA (lstF nilA) nilA)))) (vF 3))) (vF 3))))) nilS)
  (seqS (par2 (callF R__law_states (consA (op2 ixF (vF 0) (cF (.int 1))) nilA)) (callF R__law_states (consA (op2 ixF (vF 0) (cF (.int 2))) nilA)) 4 5)
  (seqS (ifS (bF (op2 eqF (op2 ixF (vF 0) (cF (.int 0))) (cF (.str "above")))) (retS (op2 addF (lcF (seqI (vF 4)) [6] (nmG 6) yesT (tupF (consA (cF (.str "low")) (consA (vF 6) nilA)))) (lcF (seqI (vF 5)) [6] (nmG 6) yesT (tupF (consA (cF (.str "high")) (consA (vF 6) nilA)))))) nilS)
  (seqS (asgL (lstL nilA) 1)
  (seqS (forS (seqI (vF 4)) (nmG 6) (dropS (extF 1 (lcF (seqI (vF 5)) [7] (nmG 7) yesT (tupF (consA (vF 6) (consA (vF 7) nilA)))))))
  (retS (frzF 1))))))))
noncomputable def r__law_states : Nat → List PyData → Option PyData
  | 0 => fun _ => none
  | m + 1 => runD 1 8 (g__law_states (r__law_states m))
noncomputable def g__law_parts : GS := (seqS (asgL (lstL nilA) 1)
  (seqS (forS (rg2I (consA (cF (.int 1)) (consA (callF lenF (consA (vF 0) nilA)) nilA))) (nmG 2) (seqS (asgS (lcF (rg1I (consA (callF lenF (consA (vF 0) nilA)) nilA)) [4] (nmG 4) (andT (bF (op2 neF (vF 4) (vF 2))) (bF (op2 eqF (op2 ixF (op2 ixF (vF 0) (vF 4)) (vF 2)) (vF 2)))) (vF 4)) (nmG 3))
  (ifS (notT (bF (callF anyL (consA (lcF (seqI (vF 3)) [5] (nmG 5) yesT (callF anyL (consA (lcF (seqI (vF 3)) [6] (nmG 6) yesT (op2 eqF (op2 ixF (op2 ixF (vF 0) (vF 5)) (vF 6)) (vF 2))) nilA))) nilA)))) (dropS (appS 1 (vF 2))) nilS)))
  (retS (frzF 1))))
noncomputable def r__law_parts : List PyData → Option PyData := runD 1 7 g__law_parts
noncomputable def g__law_lowest : GS := (seqS (asgS (op2 ixF (vF 1) (cF (.int 0))) (nmG 2))
  (seqS (forS (seqI (vF 1)) (nmG 3) (ifS (bF (op2 eqF (op2 ixF (op2 ixF (vF 0) (vF 3)) (vF 2)) (vF 2))) (asgS (vF 3) (nmG 2)) nilS))
  (retS (ifE (bF (callF allL (consA (lcF (seqI (vF 1)) [3] (nmG 3) yesT (op2 eqF (op2 ixF (op2 ixF (vF 0) (vF 2)) (vF 3)) (vF 3))) nilA))) (vF 2) (cF .none)))))
noncomputable def r__law_lowest : List PyData → Option PyData := runD 2 4 g__law_lowest
noncomputable def g__law_all_differ : GS := (seqS (forS (rg1I (consA (callF lenF (consA (vF 0) nilA)) nilA)) (nmG 1) (forS (rg1I (consA (callF lenF (consA (vF 0) nilA)) nilA)) (nmG 2) (seqS (setLcS (lcF (rg1I (consA (callF lenF (consA (vF 0) nilA)) nilA)) [4] (nmG 4) (bF (op2 eqF (op2 ixF (op2 ixF (vF 0) (vF 2)) (op2 ixF (op2 ixF (vF 0) (vF 4)) (vF 1))) (op2 ixF (op2 ixF (vF 0) (vF 4)) (vF 1)))) (vF 4)) 3)
  (ifS (bF (op2 isNF (callF r__law_lowest (consA (vF 0) (consA (vF 3) nilA))) (cF .none))) (retS (cF (.bool false))) nilS))))
  (retS (cF (.bool true))))
noncomputable def r__law_all_differ : List PyData → Option PyData := runD 1 5 g__law_all_differ
noncomputable def g_words_from : GS := (retS (callF listF (consA (kgetF tab_WAY_WORDS (op2 ixF (vF 0) (cF (.int 0))) (tupF nilA)) nilA)))
noncomputable def r_words_from : List PyData → Option PyData := runD 1 1 g_words_from
noncomputable def g_kind_by : GS := (retS (op2 ixF (vF 0) (op2 addF (cF (.int 1)) (op2 idxF (callF r_words_from (consA (vF 0) nilA)) (vF 1)))))
noncomputable def r_kind_by : List PyData → Option PyData := runD 2 2 g_kind_by
noncomputable def g_ways_of (R_ways_of : List PyData → Option PyData) : GS := (seqS (asgS (lstF (consA (lstF nilA) nilA)) (nmG 1))
  (seqS (forS (seqI (callF r_words_from (consA (vF 0) nilA))) (nmG 2) (asgS (op2 addF (vF 1) (lcF (seqI (callF R_ways_of (consA (callF r_kind_by (consA (vF 0) (consA (vF 2) nilA))) nilA))) [3] (nmG 3) yesT (op2 addF (lstF (consA (vF 2) nilA)) (vF 3)))) (nmG 1)))
  (retS (vF 1))))
noncomputable def r_ways_of : Nat → List PyData → Option PyData
  | 0 => fun _ => none
  | m + 1 => runD 1 4 (g_ways_of (r_ways_of m))
noncomputable def g_are_points_in_line : GS := (seqS (asgS (callF r_below_rows (consA (vF 0) (consA (vF 1) nilA))) (nmG 2))
  (retS (all2F (rg1I (consA (vF 0) nilA)) [3, 4] (nmG 3) (rg1I (consA (vF 3) nilA)) (nmG 4) (orE (op2 ixF (op2 ixF (vF 2) (vF 4)) (vF 3)) (op2 ixF (op2 ixF (vF 2) (vF 3)) (vF 4))) true)))
noncomputable def r_are_points_in_line : List PyData → Option PyData := runD 2 5 g_are_points_in_line
noncomputable def g_is_table_in_line : GS := (seqS (asgS (listRgF (callF lenF (consA (vF 0) nilA))) (nmG 1))
  (retS (all2F (seqI (vF 1)) [2, 3] (nmG 2) (seqI (vF 1)) (nmG 3) (op2 inF (op2 ixF (op2 ixF (vF 0) (vF 2)) (vF 3)) (tupF (consA (vF 2) (consA (vF 3) nilA)))) true)))
noncomputable def r_is_table_in_line : List PyData → Option PyData := runD 1 4 g_is_table_in_line
noncomputable def g_single (R_single : List PyData → Option PyData) : GS := (seqS (asgS (op2 ixF (vF 0) (cF (.int 0))) (nmG 1))
  (seqS (ifS (bF (op2 eqF (vF 1) (cF (.str "row")))) (retS (op2 eqF (op2 ixF (vF 0) (cF (.int 1))) (cF (.int 1)))) nilS)
  (seqS (ifS (bF (op2 eqF (vF 1) (cF (.str "tops")))) (retS (op2 eqF (op2 ixF (vF 0) (cF (.int 1))) (cF (.int 0)))) nilS)
  (seqS (ifS (bF (op2 eqF (vF 1) (cF (.str "table")))) (retS (op2 eqF (callF lenF (consA (op2 ixF (vF 0) (cF (.int 1))) nilA)) (cF (.int 1)))) nilS)
  (retS (andE (op2 inF (vF 1) (tupF (consA (cF (.str "map")) (consA (cF (.str "pair")) (consA (cF (.str "later")) nilA))))) (allF (seqI (slF (vF 0) (soO (cF (.int 1))) noO)) 2 (callF R_single (consA (vF 2) nilA)) true)))))))
noncomputable def r_single : Nat → List PyData → Option PyData
  | 0 => fun _ => none
  | m + 1 => runD 1 3 (g_single (r_single m))
noncomputable def g_in_line (R_in_line : List PyData → Option PyData) : GS := (seqS (asgS (op2 ixF (vF 0) (cF (.int 0))) (nmG 1))
  (seqS (ifS (bF (op2 eqF (vF 1) (cF (.str "tops")))) (retS (callF r_are_points_in_line (consA (op2 ixF (vF 0) (cF (.int 1))) (consA (op2 ixF (vF 0) (cF (.int 2))) nilA)))) nilS)
  (seqS (ifS (bF (op2 eqF (vF 1) (cF (.str "table")))) (retS (callF r_is_table_in_line (consA (op2 ixF (vF 0) (cF (.int 1))) nilA))) nilS)
  (seqS (ifS (bF (op2 eqF (vF 1) (cF (.str "map")))) (retS (callF (r_single 12) (consA (vF 0) nilA))) nilS)
  (seqS (ifS (bF (op2 eqF (vF 1) (cF (.str "pair")))) (seqS (asgS (slF (vF 0) (soO (cF (.int 1))) noO) (nmG 2))
  (retS (andE (allF (seqI (vF 2)) 3 (callF R_in_line (consA (vF 3) nilA)) true) (allF (seqI (vF 2)) 3 (callF (r_single 12) (consA (vF 3) nilA)) false)))) nilS)
  (retS (orE (op2 inF (vF 1) (tupF (consA (cF (.str "count")) (consA (cF (.str "row")) nilA)))) (allF (seqI (slF (vF 0) (soO (cF (.int 1))) noO)) 3 (callF R_in_line (consA (vF 3) nilA)) true))))))))
noncomputable def r_in_line : Nat → List PyData → Option PyData
  | 0 => fun _ => none
  | m + 1 => runD 1 4 (g_in_line (r_in_line m))
noncomputable def g_is_list : GS := (retS (un1 (isF isSq) (vF 0)))
noncomputable def r_is_list : List PyData → Option PyData := runD 1 1 g_is_list
noncomputable def g_is_integer : GS := (retS (andE (un1 (isF isIB) (vF 0)) (notE (un1 (isF isB) (vF 0)))))
noncomputable def r_is_integer : List PyData → Option PyData := runD 1 1 g_is_integer
noncomputable def g_is_count : GS := (retS (andE (callF r_is_integer (consA (vF 0) nilA)) (op2 geF (vF 0) (cF (.int 0)))))
noncomputable def r_is_count : List PyData → Option PyData := runD 1 1 g_is_count
noncomputable def g_is_count_below : GS := (retS (andE (callF r_is_count (consA (vF 0) nilA)) (op2 ltF (vF 0) (vF 1))))
noncomputable def r_is_count_below : List PyData → Option PyData := runD 2 2 g_is_count_below
noncomputable def g_is_row : GS := (seqS (ifS (orT (notT (bF (callF r_is_list (consA (vF 0) nilA)))) (bF (op2 neF (callF lenF (consA (vF 0) nilA)) (vF 1)))) (retS (cF (.bool false))) nilS)
  (retS (allF (seqI (vF 0)) 2 (callF r_is_count_below (consA (vF 2) (consA (vF 1) nilA))) true)))
noncomputable def r_is_row : List PyData → Option PyData := runD 2 3 g_is_row
noncomputable def g_has_table_form : GS := (seqS (ifS (orT (notT (bF (callF r_is_list (consA (vF 0) nilA)))) (notT (bF (chF leF leF (cF (.int 1)) (callF lenF (consA (vF 0) nilA)) (cF (.int 8)))))) (retS (cF (.bool false))) nilS)
  (retS (allF (seqI (vF 0)) 1 (callF r_is_row (consA (vF 1) (consA (callF lenF (consA (vF 0) nilA)) nilA))) true)))
noncomputable def r_has_table_form : List PyData → Option PyData := runD 1 2 g_has_table_form
noncomputable def g_keeps_join_rules : GS := (seqS (asgRg (callF lenF (consA (vF 0) nilA)) 1)
  (seqS (forS (rngI 1) (nmG 2) (seqS (ifS (orT (bF (op2 neF (op2 ixF (op2 ixF (vF 0) (vF 2)) (vF 2)) (vF 2))) (bF (op2 neF (op2 ixF (op2 ixF (vF 0) (vF 2)) (cF (.int 0))) (vF 2)))) (retS (cF (.bool false))) nilS)
  (forS (rngI 1) (nmG 3) (seqS (ifS (bF (op2 neF (op2 ixF (op2 ixF (vF 0) (vF 2)) (vF 3)) (op2 ixF (op2 ixF (vF 0) (vF 3)) (vF 2)))) (retS (cF (.bool false))) nilS)
  (forS (rngI 1) (nmG 4) (ifS (bF (op2 neF (op2 ixF (op2 ixF (vF 0) (op2 ixF (op2 ixF (vF 0) (vF 2)) (vF 3))) (vF 4)) (op2 ixF (op2 ixF (vF 0) (vF 2)) (op2 ixF (op2 ixF (vF 0) (vF 3)) (vF 4))))) (retS (cF (.bool false))) nilS))))))
  (retS (cF (.bool true)))))
noncomputable def r_keeps_join_rules : List PyData → Option PyData := runD 1 5 g_keeps_join_rules
noncomputable def g_is_table : GS := (retS (andE (callF r_has_table_form (consA (vF 0) nilA)) (callF r_keeps_join_rules (consA (vF 0) nilA))))
noncomputable def r_is_table : List PyData → Option PyData := runD 1 1 g_is_table
noncomputable def g_check_table : GS := (ifS (notT (bF (callF r_is_table (consA (vF 0) nilA)))) neverS nilS)
noncomputable def r_check_table : List PyData → Option PyData := runD 1 1 g_check_table
noncomputable def g_without : GS := (retS (lcF (seqI (vF 0)) [2] (nmG 2) (bF (op2 neF (vF 2) (vF 1))) (vF 2)))
noncomputable def r_without : List PyData → Option PyData := runD 2 3 g_without
noncomputable def g_lies_within : GS := (retS (op2 eqF (op2 ixF (op2 ixF (vF 0) (vF 1)) (vF 2)) (vF 2)))
noncomputable def r_lies_within : List PyData → Option PyData := runD 3 3 g_lies_within
noncomputable def g_states_within : GS := (retS (lcF (rg1I (consA (callF lenF (consA (vF 0) nilA)) nilA)) [2] (nmG 2) (bF (callF r_lies_within (consA (vF 0) (consA (vF 2) (consA (vF 1) nilA))))) (vF 2)))
noncomputable def r_states_within : List PyData → Option PyData := runD 2 3 g_states_within
noncomputable def g_is_part_in : GS := (seqS (asgS (callF r_without (consA (callF r_states_within (consA (vF 0) (consA (vF 1) nilA))) (consA (vF 1) nilA))) (nmG 2))
  (seqS (asgS (all2F (seqI (vF 2)) [4, 5] (nmG 4) (seqI (vF 2)) (nmG 5) (op2 eqF (op2 ixF (op2 ixF (vF 0) (vF 4)) (vF 5)) (vF 1)) false) (nmG 3))
  (retS (andE (op2 neF (vF 1) (cF (.int 0))) (notE (vF 3))))))
noncomputable def r_is_part_in : List PyData → Option PyData := runD 2 6 g_is_part_in
noncomputable def g_parts_in : GS := (retS (lcF (rg1I (consA (callF lenF (consA (vF 0) nilA)) nilA)) [1] (nmG 1) (bF (callF r_is_part_in (consA (vF 0) (consA (vF 1) nilA)))) (vF 1)))
noncomputable def r_parts_in : List PyData → Option PyData := runD 1 2 g_parts_in
noncomputable def g_parts_below : GS := (retS (lcF (seqI (callF r_parts_in (consA (vF 0) nilA))) [2] (nmG 2) (bF (callF r_lies_within (consA (vF 0) (consA (vF 2) (consA (vF 1) nilA))))) (vF 2)))
noncomputable def r_parts_below : List PyData → Option PyData := runD 2 3 g_parts_below
noncomputable def g_joined_numbers : GS := (seqS (asgS (cF (.int 0)) (nmG 2))
  (seqS (forS (seqI (vF 1)) (nmG 3) (asgS (op2 ixF (op2 ixF (vF 0) (vF 2)) (vF 3)) (nmG 2)))
  (retS (vF 2))))
noncomputable def r_joined_numbers : List PyData → Option PyData := runD 2 4 g_joined_numbers
noncomputable def g_joins_to : GS := (retS (op2 eqF (callF r_joined_numbers (consA (vF 0) (consA (vF 1) nilA))) (vF 2)))
noncomputable def r_joins_to : List PyData → Option PyData := runD 3 3 g_joins_to
noncomputable def g_is_list_of : GS := (seqS (ifS (notT (bF (callF r_joins_to (consA (vF 0) (consA (vF 1) (consA (vF 2) nilA)))))) (retS (cF (.bool false))) nilS)
  (retS (notE (allF (seqI (vF 1)) 3 (callF r_joins_to (consA (vF 0) (consA (callF r_without (consA (vF 1) (consA (vF 3) nilA))) (consA (vF 2) nilA)))) false))))
noncomputable def r_is_list_of : List PyData → Option PyData := runD 3 4 g_is_list_of
noncomputable def g_lists_of : GS := (seqS (asgS (lstF (consA (lstF nilA) nilA)) (nmG 2))
  (seqS (forS (seqI (callF r_parts_below (consA (vF 0) (consA (vF 1) nilA)))) (nmG 3) (asgS (op2 addF (vF 2) (lcF (seqI (vF 2)) [4] (nmG 4) yesT (op2 addF (vF 4) (lstF (consA (vF 3) nilA))))) (nmG 2)))
  (retS (callF sortF (consA (lcF (seqI (vF 2)) [4] (nmG 4) (bF (callF r_is_list_of (consA (vF 0) (consA (vF 4) (consA (vF 1) nilA))))) (vF 4)) nilA)))))
noncomputable def r_lists_of : List PyData → Option PyData := runD 2 5 g_lists_of
noncomputable def g_has_single_lists : GS := (seqS (dropS (callF r_check_table (consA (vF 0) nilA)))
  (retS (allF (rg1I (consA (callF lenF (consA (vF 0) nilA)) nilA)) 1 (op2 eqF (callF lenF (consA (callF r_lists_of (consA (vF 0) (consA (vF 1) nilA))) nilA)) (cF (.int 1))) true)))
noncomputable def r_has_single_lists : List PyData → Option PyData := runD 1 2 g_has_single_lists
noncomputable def g_meet_of : GS := (seqS (setLcS (lcF (seqI (callF r_states_within (consA (vF 0) (consA (vF 1) nilA)))) [4] (nmG 4) (bF (callF r_lies_within (consA (vF 0) (consA (vF 4) (consA (vF 2) nilA))))) (vF 4)) 3)
  (retS (callF r_joined_numbers (consA (vF 0) (consA (vF 3) nilA)))))
noncomputable def r_meet_of : List PyData → Option PyData := runD 3 5 g_meet_of
noncomputable def g_meet_rows : GS := (seqS (asgRg (callF lenF (consA (vF 0) nilA)) 1)
  (retS (lcF (rngI 1) [2] (nmG 2) yesT (lcF (rngI 1) [3] (nmG 3) yesT (callF r_meet_of (consA (vF 0) (consA (vF 2) (consA (vF 3) nilA))))))))
noncomputable def r_meet_rows : List PyData → Option PyData := runD 1 4 g_meet_rows
noncomputable def g_is_distributive : GS := (seqS (dropS (callF r_check_table (consA (vF 0) nilA)))
  (seqS (asgRg (callF lenF (consA (vF 0) nilA)) 1)
  (seqS (asgS (callF r_meet_rows (consA (vF 0) nilA)) (nmG 2))
  (seqS (forS (rngI 1) (nmG 3) (forS (rngI 1) (nmG 4) (forS (rngI 1) (nmG 5) (seqS (asgS (op2 ixF (op2 ixF (vF 2) (vF 3)) (op2 ixF (op2 ixF (vF 0) (vF 4)) (vF 5))) (nmG 6))
  (ifS (bF (op2 neF (vF 6) (op2 ixF (op2 ixF (vF 0) (op2 ixF (op2 ixF (vF 2) (vF 3)) (vF 4))) (op2 ixF (op2 ixF (vF 2) (vF 3)) (vF 5))))) (retS (cF (.bool false))) nilS)))))
  (retS (cF (.bool true)))))))
noncomputable def r_is_distributive : List PyData → Option PyData := runD 1 7 g_is_distributive
noncomputable def g_is_good : GS := (seqS (ifS (bF (op2 eqF (op2 ixF (vF 0) (cF (.int 0))) (cF (.str "table")))) (retS (ifE (bF (op2 eqF (vF 1) (cF (.str "lists")))) (callF r_has_single_lists (consA (op2 ixF (vF 0) (cF (.int 1))) nilA)) (callF r_is_distributive (consA (op2 ixF (vF 0) (cF (.int 1))) nilA)))) nilS)
  (retS (orE (op2 neF (op2 ixF (vF 0) (cF (.int 0))) (cF (.str "later"))) (orE (callF (r_in_line 12) (consA (op2 ixF (vF 0) (cF (.int 1))) nilA)) (callF (r_single 12) (consA (op2 ixF (vF 0) (cF (.int 2))) nilA))))))
noncomputable def r_is_good : List PyData → Option PyData := runD 2 2 g_is_good
noncomputable def g_kind_along : GS := (seqS (asgS (vF 0) (nmG 2))
  (seqS (forS (seqI (vF 1)) (nmG 3) (asgS (callF r_kind_by (consA (vF 2) (consA (vF 3) nilA))) (nmG 2)))
  (retS (vF 2))))
noncomputable def r_kind_along : List PyData → Option PyData := runD 2 4 g_kind_along
noncomputable def g_bad_ways : GS := (retS (lcF (seqI (callF (r_ways_of 12) (consA (vF 0) nilA))) [2] (nmG 2) (notT (bF (callF r_is_good (consA (callF r_kind_along (consA (vF 0) (consA (vF 2) nilA))) (consA (vF 1) nilA))))) (vF 2)))
noncomputable def r_bad_ways : List PyData → Option PyData := runD 2 3 g_bad_ways
noncomputable def g_grade_of : GS := (seqS (ifS (bF (op2 eqF (callF lenF (consA (callF r_bad_ways (consA (vF 0) (consA (cF (.str "differences")) nilA))) nilA)) (cF (.int 0)))) (retS (cF (.str "differences"))) nilS)
  (retS (ifE (bF (op2 eqF (callF lenF (consA (callF r_bad_ways (consA (vF 0) (consA (cF (.str "lists")) nilA))) nilA)) (cF (.int 0)))) (cF (.str "lists")) (cF (.str "neither")))))
noncomputable def r_grade_of : List PyData → Option PyData := runD 1 1 g_grade_of
noncomputable def g_kind_as_told (R_kind_as_told : List PyData → Option PyData) : GS := (seqS (asgS (op2 ixF (vF 0) (cF (.int 0))) (nmG 1))
  (seqS (ifS (bF (un1 (kinF false tab_INNER_KINDS) (vF 1))) (retS (callF tupleF (consA (op2 addF (lstF (consA (vF 1) nilA)) (lcF (seqI (slF (vF 0) (soO (cF (.int 1))) noO)) [2] (nmG 2) yesT (callF R_kind_as_told (consA (vF 2) nilA)))) nilA))) nilS)
  (seqS (ifS (bF (op2 eqF (vF 1) (cF (.str "tops")))) (retS (tupF (consA (vF 1) (consA (op2 ixF (vF 0) (cF (.int 1))) (consA (un1 sortSetF (op2 ixF (vF 0) (cF (.int 2)))) nilA))))) nilS)
  (seqS (ifS (bF (op2 eqF (vF 1) (cF (.str "table")))) (retS (tupF (consA (vF 1) (consA (lcF (seqI (op2 ixF (vF 0) (cF (.int 1)))) [3] (nmG 3) yesT (callF listF (consA (vF 3) nilA))) nilA)))) nilS)
  (retS (vF 0))))))
noncomputable def r_kind_as_told : Nat → List PyData → Option PyData
  | 0 => fun _ => none
  | m + 1 => runD 1 4 (g_kind_as_told (r_kind_as_told m))
noncomputable def g_is_tie : GS := (seqS (ifS (orT (notT (bF (un1 (isF isTp) (vF 0)))) (bF (op2 neF (callF lenF (consA (vF 0) nilA)) (cF (.int 2))))) (retS (cF (.bool false))) nilS)
  (retS (andE (callF r_is_count_below (consA (op2 ixF (vF 0) (cF (.int 0))) (consA (vF 1) nilA))) (callF r_is_count_below (consA (op2 ixF (vF 0) (cF (.int 1))) (consA (vF 1) nilA))))))
noncomputable def r_is_tie : List PyData → Option PyData := runD 2 2 g_is_tie
noncomputable def g_is_order : GS := (seqS (ifS (orT (notT (bF (callF r_is_integer (consA (vF 0) nilA)))) (notT (bF (chF leF leF (cF (.int 0)) (vF 0) (cF (.int 6)))))) (retS (cF (.bool false))) nilS)
  (seqS (ifS (orT (notT (bF (callF r_is_list (consA (vF 1) nilA)))) (bF (op2 gtF (callF lenF (consA (vF 1) nilA)) (cF (.int 15))))) (retS (cF (.bool false))) nilS)
  (seqS (ifS (notT (bF (allF (seqI (vF 1)) 2 (callF r_is_tie (consA (vF 2) (consA (vF 0) nilA))) true))) (retS (cF (.bool false))) nilS)
  (seqS (asgS (callF r_below_rows (consA (vF 0) (consA (vF 1) nilA))) (nmG 3))
  (retS (notE (allF (rg1I (consA (vF 0) nilA)) 4 (op2 ixF (op2 ixF (vF 3) (vF 4)) (vF 4)) false)))))))
noncomputable def r_is_order : List PyData → Option PyData := runD 2 5 g_is_order
noncomputable def g_is_plain_kind : GS := (seqS (asgS (op2 ixF (vF 0) (cF (.int 0))) (nmG 1))
  (seqS (ifS (bF (op2 eqF (vF 1) (cF (.str "count")))) (retS (op2 eqF (callF lenF (consA (vF 0) nilA)) (cF (.int 1)))) nilS)
  (seqS (ifS (bF (op2 eqF (vF 1) (cF (.str "row")))) (retS (andE (op2 eqF (callF lenF (consA (vF 0) nilA)) (cF (.int 2))) (andE (callF r_is_integer (consA (op2 ixF (vF 0) (cF (.int 1))) nilA)) (chF leF leF (cF (.int 1)) (op2 ixF (vF 0) (cF (.int 1))) (cF (.int 20)))))) nilS)
  (seqS (ifS (bF (op2 eqF (vF 1) (cF (.str "tops")))) (retS (andE (op2 eqF (callF lenF (consA (vF 0) nilA)) (cF (.int 3))) (callF r_is_order (consA (op2 ixF (vF 0) (cF (.int 1))) (consA (op2 ixF (vF 0) (cF (.int 2))) nilA))))) nilS)
  (retS (andE (op2 eqF (vF 1) (cF (.str "table"))) (andE (op2 eqF (callF lenF (consA (vF 0) nilA)) (cF (.int 2))) (callF r_is_table (consA (op2 ixF (vF 0) (cF (.int 1))) nilA)))))))))
noncomputable def r_is_plain_kind : List PyData → Option PyData := runD 1 2 g_is_plain_kind
noncomputable def g_kinds_within (R_kinds_within : List PyData → Option PyData) : GS := (seqS (ifS (orT (bF (op2 eqF (vF 1) (cF (.int 0)))) (orT (notT (bF (un1 (isF isTp) (vF 0)))) (orT (bF (op2 eqF (callF lenF (consA (vF 0) nilA)) (cF (.int 0)))) (notT (bF (un1 (isF isSt) (op2 ixF (vF 0) (cF (.int 0))))))))) (retS (cF (.int 0))) nilS)
  (seqS (ifS (bF (un1 (kinF true tab_INNER_KINDS) (op2 ixF (vF 0) (cF (.int 0))))) (retS (ifE (bF (callF r_is_plain_kind (consA (vF 0) nilA))) (cF (.int 1)) (cF (.int 0)))) nilS)
  (seqS (ifS (bF (op2 neF (callF lenF (consA (vF 0) nilA)) (op2 addF (cF (.int 1)) (un1 (kixF tab_INNER_KINDS) (op2 ixF (vF 0) (cF (.int 0))))))) (retS (cF (.int 0))) nilS)
  (seqS (setLcS (lcF (seqI (slF (vF 0) (soO (cF (.int 1))) noO)) [3] (nmG 3) yesT (callF R_kinds_within (consA (vF 3) (consA (op2 subF (vF 1) (cF (.int 1))) nilA)))) 2)
  (retS (ifE (bF (op2 inF (cF (.int 0)) (vF 2))) (cF (.int 0)) (op2 addF (cF (.int 1)) (callF sumF (consA (vF 2) nilA)))))))))
noncomputable def r_kinds_within : Nat → List PyData → Option PyData
  | 0 => fun _ => none
  | m + 1 => runD 2 4 (g_kinds_within (r_kinds_within m))
noncomputable def g_is_kind : GS := (retS (chF leF leF (cF (.int 1)) (callF (r_kinds_within 12) (consA (vF 0) (consA (cF (.int 4)) nilA))) (cF (.int 12))))
noncomputable def r_is_kind : List PyData → Option PyData := runD 1 1 g_is_kind
noncomputable def g_told_kind : GS := (seqS (ifS (notT (bF (callF r_is_kind (consA (vF 0) nilA)))) neverS nilS)
  (retS (callF (r_kind_as_told 12) (consA (vF 0) nilA))))
noncomputable def r_told_kind : List PyData → Option PyData := runD 1 1 g_told_kind
noncomputable def g_grade : GS := (retS (callF r_grade_of (consA (callF r_told_kind (consA (vF 0) nilA)) nilA)))
noncomputable def r_grade : List PyData → Option PyData := runD 1 1 g_grade
noncomputable def g__law_joined : GS := (seqS (asgS (cF (.int 0)) (nmG 2))
  (seqS (forS (seqI (vF 1)) (nmG 3) (asgS (op2 ixF (op2 ixF (vF 0) (vF 2)) (vF 3)) (nmG 2)))
  (retS (vF 2))))
noncomputable def r__law_joined : List PyData → Option PyData := runD 2 4 g__law_joined
noncomputable def g__law_all_single : GS := (seqS (forS (rg1I (consA (callF lenF (consA (vF 0) nilA)) nilA)) (nmG 2) (seqS (parEL (lcF (seqI (vF 1)) [5] (nmG 5) (bF (op2 eqF (op2 ixF (op2 ixF (vF 0) (vF 5)) (vF 2)) (vF 2))) (vF 5)) (lstL nilA) 3 4)
  (seqS (forS (seqI (vF 3)) (nmG 5) (ifS (bF (op2 neF (callF r__law_joined (consA (vF 0) (consA (lcF (seqI (vF 3)) [6] (nmG 6) (bF (op2 neF (vF 6) (vF 5))) (vF 6)) nilA))) (vF 2))) (dropS (appS 4 (vF 5))) nilS))
  (ifS (bF (op2 neF (callF r__law_joined (consA (vF 0) (consA (frzF 4) nilA))) (vF 2))) (retS (cF (.bool false))) nilS))))
  (retS (cF (.bool true))))
noncomputable def r__law_all_single : List PyData → Option PyData := runD 2 7 g__law_all_single
noncomputable def g_least_of (R_least_of : List PyData → Option PyData) : GS := (seqS (asgS (op2 ixF (vF 0) (cF (.int 0))) (nmG 1))
  (seqS (ifS (bF (op2 inF (vF 1) (tupF (consA (cF (.str "tops")) (consA (cF (.str "map")) nilA))))) (retS (lstF nilA)) nilS)
  (seqS (ifS (bF (op2 eqF (vF 1) (cF (.str "above")))) (retS (tupF (consA (cF (.str "low")) (consA (callF R_least_of (consA (op2 ixF (vF 0) (cF (.int 1))) nilA)) nilA)))) nilS)
  (seqS (ifS (bF (op2 inF (vF 1) (tupF (consA (cF (.str "pair")) (consA (cF (.str "later")) nilA))))) (retS (tupF (consA (callF R_least_of (consA (op2 ixF (vF 0) (cF (.int 1))) nilA)) (consA (callF R_least_of (consA (op2 ixF (vF 0) (cF (.int 2))) nilA)) nilA)))) nilS)
  (retS (cF (.int 0)))))))
noncomputable def r_least_of : Nat → List PyData → Option PyData
  | 0 => fun _ => none
  | m + 1 => runD 1 2 (g_least_of (r_least_of m))
noncomputable def g_side_of : GS := (retS (ifE (bF (op2 eqF (vF 1) (cF (.str "low")))) (op2 ixF (vF 0) (cF (.int 1))) (op2 ixF (vF 0) (cF (.int 2)))))
noncomputable def r_side_of : List PyData → Option PyData := runD 2 2 g_side_of
noncomputable def g_part (R_part : List PyData → Option PyData) (R_is_part_of_pair : List PyData → Option PyData) (R_is_part_of_later : List PyData → Option PyData) : GS := (seqS (asgS (op2 ixF (vF 0) (cF (.int 0))) (nmG 2))
  (seqS (ifS (bF (op2 eqF (vF 2) (cF (.str "table")))) (retS (callF r_is_part_in (consA (op2 ixF (vF 0) (cF (.int 1))) (consA (vF 1) nilA)))) nilS)
  (seqS (ifS (bF (op2 eqF (vF 2) (cF (.str "tops")))) (retS (op2 eqF (callF lenF (consA (vF 1) nilA)) (cF (.int 1)))) nilS)
  (seqS (ifS (bF (op2 eqF (vF 2) (cF (.str "map")))) (retS (andE (op2 eqF (callF lenF (consA (vF 1) nilA)) (cF (.int 1))) (callF R_part (consA (op2 ixF (vF 0) (cF (.int 1))) (consA (op2 ixF (op2 ixF (vF 1) (cF (.int 0))) (cF (.int 1))) nilA))))) nilS)
  (seqS (ifS (bF (op2 eqF (vF 2) (cF (.str "pair")))) (retS (callF R_is_part_of_pair (consA (vF 0) (consA (vF 1) nilA)))) nilS)
  (seqS (ifS (bF (op2 eqF (vF 2) (cF (.str "later")))) (retS (callF R_is_part_of_later (consA (vF 0) (consA (vF 1) nilA)))) nilS)
  (seqS (ifS (bF (op2 eqF (vF 2) (cF (.str "above")))) (retS (orE (op2 eqF (vF 1) (tupF (consA (cF (.str "high")) (consA (callF (r_least_of 12) (consA (op2 ixF (vF 0) (cF (.int 2))) nilA)) nilA)))) (callF R_part (consA (callF r_side_of (consA (vF 0) (consA (op2 ixF (vF 1) (cF (.int 0))) nilA))) (consA (op2 ixF (vF 1) (cF (.int 1))) nilA))))) nilS)
  (retS (op2 neF (vF 1) (cF (.int 0)))))))))))
noncomputable def g_is_part_of_pair (R_part : List PyData → Option PyData) (R_is_part_of_pair : List PyData → Option PyData) (R_is_part_of_later : List PyData → Option PyData) : GS := (seqS (ifS (bF (op2 eqF (op2 ixF (vF 1) (cF (.int 0))) (callF (r_least_of 12) (consA (op2 ixF (vF 0) (cF (.int 1))) nilA)))) (retS (callF R_part (consA (op2 ixF (vF 0) (cF (.int 2))) (consA (op2 ixF (vF 1) (cF (.int 1))) nilA)))) nilS)
  (retS (andE (op2 eqF (op2 ixF (vF 1) (cF (.int 1))) (callF (r_least_of 12) (consA (op2 ixF (vF 0) (cF (.int 2))) nilA))) (callF R_part (consA (op2 ixF (vF 0) (cF (.int 1))) (consA (op2 ixF (vF 1) (cF (.int 0))) nilA))))))
noncomputable def g_is_part_of_later (R_part : List PyData → Option PyData) (R_is_part_of_pair : List PyData → Option PyData) (R_is_part_of_later : List PyData → Option PyData) : GS := (seqS (ifS (bF (op2 eqF (op2 ixF (vF 1) (cF (.int 1))) (callF (r_least_of 12) (consA (op2 ixF (vF 0) (cF (.int 2))) nilA)))) (retS (callF R_part (consA (op2 ixF (vF 0) (cF (.int 1))) (consA (op2 ixF (vF 1) (cF (.int 0))) nilA)))) nilS)
  (retS (callF R_part (consA (op2 ixF (vF 0) (cF (.int 2))) (consA (op2 ixF (vF 1) (cF (.int 1))) nilA)))))
mutual
noncomputable def r_part : Nat → List PyData → Option PyData
  | 0 => fun _ => none
  | m + 1 => runD 2 3 (g_part (r_part m) (r_is_part_of_pair m) (r_is_part_of_later m))
noncomputable def r_is_part_of_pair : Nat → List PyData → Option PyData
  | 0 => fun _ => none
  | m + 1 => runD 2 2 (g_is_part_of_pair (r_part m) (r_is_part_of_pair m) (r_is_part_of_later m))
noncomputable def r_is_part_of_later : Nat → List PyData → Option PyData
  | 0 => fun _ => none
  | m + 1 => runD 2 2 (g_is_part_of_later (r_part m) (r_is_part_of_pair m) (r_is_part_of_later m))
end
noncomputable def g_state_as_told (R_state_as_told : List PyData → Option PyData) : GS := (seqS (asgS (op2 ixF (vF 0) (cF (.int 0))) (nmG 2))
  (seqS (ifS (bF (op2 eqF (vF 2) (cF (.str "tops")))) (retS (callF listF (consA (vF 1) nilA))) nilS)
  (seqS (ifS (bF (op2 eqF (vF 2) (cF (.str "map")))) (retS (lcF (seqI (vF 1)) [3, 4] (tpG 2 (consGs (nmG 3) (consGs (nmG 4) nilGs))) yesT (tupF (consA (vF 3) (consA (callF R_state_as_told (consA (op2 ixF (vF 0) (cF (.int 1))) (consA (vF 4) nilA))) nilA))))) nilS)
  (seqS (ifS (bF (op2 eqF (vF 2) (cF (.str "above")))) (retS (tupF (consA (op2 ixF (vF 1) (cF (.int 0))) (consA (callF R_state_as_told (consA (callF r_side_of (consA (vF 0) (consA (op2 ixF (vF 1) (cF (.int 0))) nilA))) (consA (op2 ixF (vF 1) (cF (.int 1))) nilA))) nilA)))) nilS)
  (seqS (ifS (bF (op2 inF (vF 2) (tupF (consA (cF (.str "pair")) (consA (cF (.str "later")) nilA))))) (retS (tupF (consA (callF R_state_as_told (consA (op2 ixF (vF 0) (cF (.int 1))) (consA (op2 ixF (vF 1) (cF (.int 0))) nilA))) (consA (callF R_state_as_told (consA (op2 ixF (vF 0) (cF (.int 2))) (consA (op2 ixF (vF 1) (cF (.int 1))) nilA))) nilA)))) nilS)
  (retS (vF 1)))))))
noncomputable def r_state_as_told : Nat → List PyData → Option PyData
  | 0 => fun _ => none
  | m + 1 => runD 2 5 (g_state_as_told (r_state_as_told m))
noncomputable def g_tops_among : GS := (retS (lcF (seqI (vF 1)) [2] (nmG 2) (notT (bF (allF (seqI (vF 1)) 3 (op2 ixF (op2 ixF (vF 0) (vF 2)) (vF 3)) false))) (vF 2)))
noncomputable def r_tops_among : List PyData → Option PyData := runD 2 4 g_tops_among
noncomputable def g_is_loose : GS := (retS (op2 eqF (callF lenF (consA (callF r_tops_among (consA (vF 0) (consA (vF 1) nilA))) nilA)) (callF lenF (consA (vF 1) nilA))))
noncomputable def r_is_loose : List PyData → Option PyData := runD 2 2 g_is_loose
noncomputable def g_is_tops_state : GS := (seqS (ifS (orT (notT (bF (callF r_is_list (consA (vF 1) nilA)))) (notT (bF (allF (seqI (vF 1)) 2 (callF r_is_count_below (consA (vF 2) (consA (op2 ixF (vF 0) (cF (.int 1))) nilA))) true)))) (retS (cF (.bool false))) nilS)
  (seqS (ifS (bF (op2 neF (callF listF (consA (vF 1) nilA)) (un1 sortSetF (vF 1)))) (retS (cF (.bool false))) nilS)
  (retS (callF r_is_loose (consA (callF r_below_rows (consA (op2 ixF (vF 0) (cF (.int 1))) (consA (op2 ixF (vF 0) (cF (.int 2))) nilA))) (consA (vF 1) nilA))))))
noncomputable def r_is_tops_state : List PyData → Option PyData := runD 2 3 g_is_tops_state
noncomputable def g_is_map_name : GS := (seqS (ifS (orT (notT (bF (un1 (isF isSt) (vF 0)))) (notT (bF (chF leF leF (cF (.int 1)) (callF lenF (consA (vF 0) nilA)) (cF (.int 8)))))) (retS (cF (.bool false))) nilS)
  (retS (allF (seqI (vF 0)) 1 (chF leF leF (cF (.str "a")) (vF 1) (cF (.str "z"))) true)))
noncomputable def r_is_map_name : List PyData → Option PyData := runD 1 2 g_is_map_name
noncomputable def g_fits (R_fits : List PyData → Option PyData) (R_is_map_state : List PyData → Option PyData) (R_is_entry : List PyData → Option PyData) (R_is_above_state : List PyData → Option PyData) : GS := (seqS (asgS (op2 ixF (vF 0) (cF (.int 0))) (nmG 2))
  (seqS (ifS (bF (op2 eqF (vF 2) (cF (.str "count")))) (retS (callF r_is_count (consA (vF 1) nilA))) nilS)
  (seqS (ifS (bF (op2 eqF (vF 2) (cF (.str "row")))) (retS (callF r_is_count_below (consA (vF 1) (consA (op2 ixF (vF 0) (cF (.int 1))) nilA)))) nilS)
  (seqS (ifS (bF (op2 eqF (vF 2) (cF (.str "table")))) (retS (callF r_is_count_below (consA (vF 1) (consA (callF lenF (consA (op2 ixF (vF 0) (cF (.int 1))) nilA)) nilA)))) nilS)
  (seqS (ifS (bF (op2 eqF (vF 2) (cF (.str "tops")))) (retS (callF r_is_tops_state (consA (vF 0) (consA (vF 1) nilA)))) nilS)
  (seqS (ifS (bF (op2 eqF (vF 2) (cF (.str "map")))) (retS (callF R_is_map_state (consA (vF 0) (consA (vF 1) nilA)))) nilS)
  (seqS (ifS (orT (notT (bF (un1 (isF isTp) (vF 1)))) (bF (op2 neF (callF lenF (consA (vF 1) nilA)) (cF (.int 2))))) (retS (cF (.bool false))) nilS)
  (seqS (ifS (bF (op2 eqF (vF 2) (cF (.str "above")))) (retS (callF R_is_above_state (consA (vF 0) (consA (vF 1) nilA)))) nilS)
  (retS (andE (callF R_fits (consA (op2 ixF (vF 0) (cF (.int 1))) (consA (op2 ixF (vF 1) (cF (.int 0))) nilA))) (callF R_fits (consA (op2 ixF (vF 0) (cF (.int 2))) (consA (op2 ixF (vF 1) (cF (.int 1))) nilA)))))))))))))
noncomputable def g_is_map_state (R_fits : List PyData → Option PyData) (R_is_map_state : List PyData → Option PyData) (R_is_entry : List PyData → Option PyData) (R_is_above_state : List PyData → Option PyData) : GS := (seqS (ifS (orT (notT (bF (callF r_is_list (consA (vF 1) nilA)))) (notT (bF (allF (seqI (vF 1)) 2 (callF R_is_entry (consA (op2 ixF (vF 0) (cF (.int 1))) (consA (vF 2) nilA))) true)))) (retS (cF (.bool false))) nilS)
  (seqS (setLcS (lcF (seqI (vF 1)) [2] (nmG 2) yesT (op2 ixF (vF 2) (cF (.int 0)))) 3)
  (retS (op2 eqF (vF 3) (un1 sortSetF (vF 3))))))
noncomputable def g_is_entry (R_fits : List PyData → Option PyData) (R_is_map_state : List PyData → Option PyData) (R_is_entry : List PyData → Option PyData) (R_is_above_state : List PyData → Option PyData) : GS := (seqS (ifS (orT (notT (bF (un1 (isF isTp) (vF 1)))) (bF (op2 neF (callF lenF (consA (vF 1) nilA)) (cF (.int 2))))) (retS (cF (.bool false))) nilS)
  (seqS (ifS (orT (notT (bF (callF r_is_map_name (consA (op2 ixF (vF 1) (cF (.int 0))) nilA)))) (notT (bF (callF R_fits (consA (vF 0) (consA (op2 ixF (vF 1) (cF (.int 1))) nilA)))))) (retS (cF (.bool false))) nilS)
  (retS (op2 neF (callF (r_state_as_told 12) (consA (vF 0) (consA (op2 ixF (vF 1) (cF (.int 1))) nilA))) (callF (r_least_of 12) (consA (vF 0) nilA))))))
noncomputable def g_is_above_state (R_fits : List PyData → Option PyData) (R_is_map_state : List PyData → Option PyData) (R_is_entry : List PyData → Option PyData) (R_is_above_state : List PyData → Option PyData) : GS := (seqS (ifS (bF (op2 eqF (op2 ixF (vF 1) (cF (.int 0))) (cF (.str "low")))) (retS (callF R_fits (consA (op2 ixF (vF 0) (cF (.int 1))) (consA (op2 ixF (vF 1) (cF (.int 1))) nilA)))) nilS)
  (retS (andE (op2 eqF (op2 ixF (vF 1) (cF (.int 0))) (cF (.str "high"))) (callF R_fits (consA (op2 ixF (vF 0) (cF (.int 2))) (consA (op2 ixF (vF 1) (cF (.int 1))) nilA))))))
mutual
noncomputable def r_fits : Nat → List PyData → Option PyData
  | 0 => fun _ => none
  | m + 1 => runD 2 3 (g_fits (r_fits m) (r_is_map_state m) (r_is_entry m) (r_is_above_state m))
noncomputable def r_is_map_state : Nat → List PyData → Option PyData
  | 0 => fun _ => none
  | m + 1 => runD 2 4 (g_is_map_state (r_fits m) (r_is_map_state m) (r_is_entry m) (r_is_above_state m))
noncomputable def r_is_entry : Nat → List PyData → Option PyData
  | 0 => fun _ => none
  | m + 1 => runD 2 2 (g_is_entry (r_fits m) (r_is_map_state m) (r_is_entry m) (r_is_above_state m))
noncomputable def r_is_above_state : Nat → List PyData → Option PyData
  | 0 => fun _ => none
  | m + 1 => runD 2 2 (g_is_above_state (r_fits m) (r_is_map_state m) (r_is_entry m) (r_is_above_state m))
end
noncomputable def g_checked_state : GS := (seqS (ifS (notT (bF (callF (r_fits 12) (consA (vF 0) (consA (vF 1) nilA))))) neverS nilS)
  (retS (callF (r_state_as_told 12) (consA (vF 0) (consA (vF 1) nilA)))))
noncomputable def r_checked_state : List PyData → Option PyData := runD 2 2 g_checked_state
noncomputable def g_is_part : GS := (seqS (asgS (callF r_told_kind (consA (vF 0) nilA)) (nmG 2))
  (retS (callF (r_part 12) (consA (vF 2) (consA (callF r_checked_state (consA (vF 2) (consA (vF 1) nilA))) nilA)))))
noncomputable def r_is_part : List PyData → Option PyData := runD 2 3 g_is_part
noncomputable def g__law_right : GS := (seqS (asgS (callBF r__law_small 0 nilA) (nmG 1))
  (seqS (asgS (callF (r__law_states 12) (consA (vF 1) nilA)) (nmG 2))
  (seqS (ifS (bF (op2 neF (op2 ixF (vF 2) (cF (.int 0))) (callF (r__law_least 12) (consA (vF 1) nilA)))) (retS (cF (.bool false))) nilS)
  (seqS (asgL (lstL nilA) 3)
  (seqS (forS (seqI (vF 2)) (nmG 4) (dropS (appS 3 (lcF (seqI (vF 2)) [5] (nmG 5) yesT (op2 idxF (vF 2) (callF (r__law_join 12) (consA (vF 1) (consA (vF 4) (consA (vF 5) nilA)))))))))
  (seqS (asgS (callF r__law_parts (consA (frzF 3) nilA)) (nmG 6))
  (seqS (forS (enumI (vF 2)) (tpG 2 (consGs (nmG 7) (consGs (nmG 8) nilGs))) (ifS (bF (op2 neF (callF reprF (consA (callF r_is_part (consA (vF 1) (consA (vF 8) nilA))) nilA)) (callF reprF (consA (op2 inF (vF 7) (vF 6)) nilA)))) (retS (cF (.bool false))) nilS))
  (seqS (ifS (bF (callF r__law_all_differ (consA (frzF 3) nilA))) (retS (op2 eqF (callF r_grade (consA (vF 1) nilA)) (cF (.str "differences")))) nilS)
  (retS (op2 eqF (callKF r_grade 1 [0] (consA (vF 1) nilA)) (ifE (bF (callF r__law_all_single (consA (frzF 3) (consA (vF 6) nilA)))) (cF (.str "lists")) (cF (.str "neither")))))))))))))
noncomputable def r__law_right : List PyData → List PyData → Option (PyData × List PyData) := runB 1 9 g__law_right
noncomputable def g__law_pot : GS := (seqS (asgS (ifE (bF (op2 ltF (vF 1) (callF lenF (consA (vF 0) nilA)))) (callF absF (consA (op2 ixF (vF 0) (vF 1)) nilA)) (op2 addF (op2 mulQ (cF (.int 947)) (vF 1)) (cF (.int 907)))) (nmG 2))
  (seqS (asgS (op2 addF (op2 modF (callF intF1 (consA (op2 addF (op2 addF (op2 mulQ (op2 modF (callF intF1 (consA (vF 2) nilA)) (cF (.int 2147483543))) (cF (.int 40471))) (op2 mulQ (cF (.int 7321)) (vF 1))) (cF (.int 229))) nilA)) (cF (.int 2147483549))) (cF (.int 1))) (nmG 3))
  (retS (lstF (consA (callF max2F (consA (cF (.int 0)) (consA (op2 subF (vF 2) (op2 powF (cF (.int 10)) (cF (.int 18)))) nilA))) (consA (vF 3) nilA))))))
noncomputable def r__law_pot : List PyData → Option PyData := runD 2 4 g__law_pot
noncomputable def gL__law_pot : GL := (seqL (asgS (ifE (bF (op2 ltF (vF 1) (callF lenF (consA (vF 0) nilA)))) (callF absF (consA (op2 ixF (vF 0) (vF 1)) nilA)) (op2 addF (op2 mulQ (cF (.int 947)) (vF 1)) (cF (.int 907)))) (nmG 2)) (seqL (asgS (op2 addF (op2 modF (callF intF1 (consA (op2 addF (op2 addF (op2 mulQ (op2 modF (callF intF1 (consA (vF 2) nilA)) (cF (.int 2147483543))) (cF (.int 40471))) (op2 mulQ (cF (.int 7321)) (vF 1))) (cF (.int 229))) nilA)) (cF (.int 2147483549))) (cF (.int 1))) (nmG 3)) (lstL (consA (callF max2F (consA (cF (.int 0)) (consA (op2 subF (vF 2) (op2 powF (cF (.int 10)) (cF (.int 18)))) nilA))) (consA (vF 3) nilA)))))
noncomputable def rL__law_pot : List PyData → Option (List PyData) := runL 2 4 gL__law_pot
noncomputable def g_law : GS := (retS (callBN r__law_right (callLF rL__law_pot (consA (vF 0) (consA (cF (.int 0)) nilA))) nilA))
noncomputable def r_law : List PyData → Option PyData := runD 1 1 g_law
end Ev
namespace Ev
open PySem PySem.Spec PyProof.Rows L2 Tb
abbrev st__law_tables : Stmt := top 83
abbrev st__law_draw : Stmt := top 81
abbrev st__law_pick : Stmt := top 82
abbrev st__law_small : Stmt := top 88
abbrev st__law_least : Stmt := top 84
abbrev st__law_is_under : Stmt := top 85
abbrev st__law_join : Stmt := top 86
abbrev st__law_states : Stmt := top 87
abbrev st__law_parts : Stmt := top 90
abbrev st__law_lowest : Stmt := top 92
abbrev st__law_all_differ : Stmt := top 93
abbrev st_words_from : Stmt := top 67
abbrev st_kind_by : Stmt := top 68
abbrev st_ways_of : Stmt := top 70
abbrev st_below_rows : Stmt := top 16
abbrev st_are_points_in_line : Stmt := top 52
abbrev st_is_table_in_line : Stmt := top 53
abbrev st_single : Stmt := top 50
abbrev st_in_line : Stmt := top 51
abbrev st_is_list : Stmt := top 4
abbrev st_is_integer : Stmt := top 1
abbrev st_is_count : Stmt := top 2
abbrev st_is_count_below : Stmt := top 3
abbrev st_is_row : Stmt := top 26
abbrev st_has_table_form : Stmt := top 25
abbrev st_keeps_join_rules : Stmt := top 27
abbrev st_is_table : Stmt := top 21
abbrev st_check_table : Stmt := top 24
abbrev st_without : Stmt := top 30
abbrev st_lies_within : Stmt := top 28
abbrev st_states_within : Stmt := top 29
abbrev st_is_part_in : Stmt := top 33
abbrev st_parts_in : Stmt := top 34
abbrev st_parts_below : Stmt := top 35
abbrev st_joined_numbers : Stmt := top 31
abbrev st_joins_to : Stmt := top 32
abbrev st_is_list_of : Stmt := top 36
abbrev st_lists_of : Stmt := top 37
abbrev st_has_single_lists : Stmt := top 22
abbrev st_meet_of : Stmt := top 38
abbrev st_meet_rows : Stmt := top 39
abbrev st_is_distributive : Stmt := top 23
abbrev st_is_good : Stmt := top 71
abbrev st_kind_along : Stmt := top 69
abbrev st_bad_ways : Stmt := top 72
abbrev st_grade_of : Stmt := top 73
abbrev st_kind_as_told : Stmt := top 49
abbrev st_is_tie : Stmt := top 15
abbrev st_is_order : Stmt := top 14
abbrev st_is_plain_kind : Stmt := top 48
abbrev st_kinds_within : Stmt := top 47
abbrev st_is_kind : Stmt := top 45
abbrev st_told_kind : Stmt := top 46
abbrev st_grade : Stmt := top 66
abbrev st__law_joined : Stmt := top 89
abbrev st__law_all_single : Stmt := top 91
abbrev st_least_of : Stmt := top 63
abbrev st_is_part_of_pair : Stmt := top 77
abbrev st_is_part_of_later : Stmt := top 78
abbrev st_side_of : Stmt := top 62
abbrev st_part : Stmt := top 76
abbrev st_state_as_told : Stmt := top 61
abbrev st_tops_among : Stmt := top 17
abbrev st_is_loose : Stmt := top 18
abbrev st_is_tops_state : Stmt := top 57
abbrev st_is_map_name : Stmt := top 5
abbrev st_is_entry : Stmt := top 59
abbrev st_is_map_state : Stmt := top 58
abbrev st_is_above_state : Stmt := top 60
abbrev st_fits : Stmt := top 56
abbrev st_checked_state : Stmt := top 55
abbrev st_is_part : Stmt := top 75
abbrev st__law_right : Stmt := top 94
abbrev st__law_pot : Stmt := top 80
abbrev st_law : Stmt := top 95
abbrev fnNames : List String := ["_law_tables", "_law_draw", "_law_pick", "_law_small", "_law_least", "_law_is_under", "_law_join", "_law_states", "_law_parts", "_law_lowest", "_law_all_differ", "words_from", "kind_by", "ways_of", "below_rows", "are_points_in_line", "is_table_in_line", "single", "in_line", "is_list", "is_integer", "is_count", "is_count_below", "is_row", "has_table_form", "keeps_join_rules", "is_table", "check_table", "without", "lies_within", "states_within", "is_part_in", "parts_in", "parts_below", "joined_numbers", "joins_to", "is_list_of", "lists_of", "has_single_lists", "meet_of", "meet_rows", "is_distributive", "is_good", "kind_along", "bad_ways", "grade_of", "kind_as_told", "is_tie", "is_order", "is_plain_kind", "kinds_within", "is_kind", "told_kind", "grade", "_law_joined", "_law_all_single", "least_of", "is_part_of_pair", "is_part_of_later", "side_of", "part", "state_as_told", "tops_among", "is_loose", "is_tops_state", "is_map_name", "is_entry", "is_map_state", "is_above_state", "fits", "checked_state", "is_part", "_law_right", "_law_pot", "law"]
abbrev blNames : List String := ["isinstance", "int", "bool", "str", "dict", "list", "tuple", "len", "all", "any", "range", "abs", "sum", "min", "max", "divmod", "sorted", "set", "repr", "enumerate", "zip"]
structure Tx (mg : Str → Option Value) (f : String → Addr) : Prop where
  fn : ∀ x ∈ fnNames, mg (Str.ofString x) = some (.ref (f x))
  bl : ∀ x ∈ blNames, mg (Str.ofString x) = none
theorem _root_.L2.Room.u66 {k : Nat} {A : Around} (r : Room k A) : A.units + 66 < cLine := by have := r.un; omega
theorem _root_.L2.Room.u66' {k : Nat} {A : Around} (r : Room k A) : A.units + 65 < cLine := by have := r.un; omega
section
variable {P : Program} {w : World} {K : PySem.W.Frag} {mg : Str → Option Value} {base : Heap} {f : String → Addr} {T : List Addr}
abbrev N__law_tables : List Str := ["_law_diamond", "_law_pentagon", "_law_square", "_law_rising", "_law_stretches"]
theorem sc__law_tables : FnScope N__law_tables [] (defScope st__law_tables) := ⟨rfl, rfl, rfl, by decide +kernel, rfl, by decide +kernel, by decide +kernel⟩
theorem ok__law_tables {a : Addr} {fd : FuncData} (TX : Tx mg f) (F : Fun K "_law_tables" "_law_tables" st__law_tables a fd) :
    FnG P w K mg base 1 a fd [] (spD K T r__law_tables) :=
  fnD1 (g := g__law_tables) rfl F sc__law_tables rfl rfl fun cdv A outer s H hr hgd => by
    unfold g__law_tables
    exact (es_cons (es_asg (ev_lst (ea_cons (ev_lst (ea_cons ev_int (ea_cons ev_int (ea_cons ev_int (ea_cons ev_int (ea_cons ev_int ea_nil)))))) (ea_cons (ev_lst (ea_cons ev_int (ea_cons ev_int (ea_cons ev_int (ea_cons ev_int (ea_cons ev_int ea_nil)))))) (ea_cons (ev_lst (ea_cons ev_int (ea_cons ev_int (ea_cons ev_int (ea_cons ev_int (ea_cons ev_int ea_nil)))))) (ea_cons (ev_lst (ea_cons ev_int (ea_cons ev_int (ea_cons ev_int (ea_cons ev_int (ea_cons ev_int ea_nil)))))) (ea_cons (ev_lst (ea_cons ev_int (ea_cons ev_int (ea_cons ev_int (ea_cons ev_int (ea_cons ev_int ea_nil)))))) ea_nil)))))) (pg_name (i := 0) sc__law_tables.nd rfl (by first | exact Or.inl rfl | exact Or.inr (Or.inl rfl) | exact Or.inr rfl)) (eg_name (by decide)))
      (es_cons (es_asg (ev_lst (ea_cons (ev_lst (ea_cons ev_int (ea_cons ev_int (ea_cons ev_int (ea_cons ev_int (ea_cons ev_int ea_nil)))))) (ea_cons (ev_lst (ea_cons ev_int (ea_cons ev_int (ea_cons ev_int (ea_cons ev_int (ea_cons ev_int ea_nil)))))) (ea_cons (ev_lst (ea_cons ev_int (ea_cons ev_int (ea_cons ev_int (ea_cons ev_int (ea_cons ev_int ea_nil)))))) (ea_cons (ev_lst (ea_cons ev_int (ea_cons ev_int (ea_cons ev_int (ea_cons ev_int (ea_cons ev_int ea_nil)))))) (ea_cons (ev_lst (ea_cons ev_int (ea_cons ev_int (ea_cons ev_int (ea_cons ev_int (ea_cons ev_int ea_nil)))))) ea_nil)))))) (pg_name (i := 1) sc__law_tables.nd rfl (by first | exact Or.inl rfl | exact Or.inr (Or.inl rfl) | exact Or.inr rfl)) (eg_name (by decide)))
      (es_cons (es_par (ps_par (i := 2) (j := 3) rfl sc__law_tables.nd rfl rfl (by decide) (by first | rfl | decide +kernel) (by first | rfl | decide +kernel) (pa_cons (ev_lst (ea_cons (ev_lst (ea_cons ev_int (ea_cons ev_int (ea_cons ev_int (ea_cons ev_int ea_nil))))) (ea_cons (ev_lst (ea_cons ev_int (ea_cons ev_int (ea_cons ev_int (ea_cons ev_int ea_nil))))) (ea_cons (ev_lst (ea_cons ev_int (ea_cons ev_int (ea_cons ev_int (ea_cons ev_int ea_nil))))) (ea_cons (ev_lst (ea_cons ev_int (ea_cons ev_int (ea_cons ev_int (ea_cons ev_int ea_nil))))) ea_nil))))) (pa_cons (ev_lst (ea_cons (ev_lst (ea_cons ev_int (ea_cons ev_int (ea_cons ev_int ea_nil)))) (ea_cons (ev_lst (ea_cons ev_int (ea_cons ev_int (ea_cons ev_int ea_nil)))) (ea_cons (ev_lst (ea_cons ev_int (ea_cons ev_int (ea_cons ev_int ea_nil)))) ea_nil)))) pa_nil)) (by rfl)) (by decide))
      (es_cons (es_asg (ev_lst (ea_cons (ev_lst (ea_cons ev_int (ea_cons ev_int (ea_cons ev_int (ea_cons ev_int (ea_cons ev_int (ea_cons ev_int (ea_cons ev_int ea_nil)))))))) (ea_cons (ev_lst (ea_cons ev_int (ea_cons ev_int (ea_cons ev_int (ea_cons ev_int (ea_cons ev_int (ea_cons ev_int (ea_cons ev_int ea_nil)))))))) (ea_cons (ev_lst (ea_cons ev_int (ea_cons ev_int (ea_cons ev_int (ea_cons ev_int (ea_cons ev_int (ea_cons ev_int (ea_cons ev_int ea_nil)))))))) (ea_cons (ev_lst (ea_cons ev_int (ea_cons ev_int (ea_cons ev_int (ea_cons ev_int (ea_cons ev_int (ea_cons ev_int (ea_cons ev_int ea_nil)))))))) (ea_cons (ev_lst (ea_cons ev_int (ea_cons ev_int (ea_cons ev_int (ea_cons ev_int (ea_cons ev_int (ea_cons ev_int (ea_cons ev_int ea_nil)))))))) (ea_cons (ev_lst (ea_cons ev_int (ea_cons ev_int (ea_cons ev_int (ea_cons ev_int (ea_cons ev_int (ea_cons ev_int (ea_cons ev_int ea_nil)))))))) (ea_cons (ev_lst (ea_cons ev_int (ea_cons ev_int (ea_cons ev_int (ea_cons ev_int (ea_cons ev_int (ea_cons ev_int (ea_cons ev_int ea_nil)))))))) ea_nil)))))))) (pg_name (i := 4) sc__law_tables.nd rfl (by first | exact Or.inl rfl | exact Or.inr (Or.inl rfl) | exact Or.inr rfl)) (eg_name (by decide)))
      (es_one (es_ret (ev_lst (ea_cons (ev_var (pv 2)) (ea_cons (ev_var (pv 0)) (ea_cons (ev_var (pv 4)) (ea_cons (ev_var (pv 3)) (ea_cons (ev_var (pv 1)) (ea_cons (ev_lst (ea_cons (ev_lst (ea_cons ev_int ea_nil)) ea_nil)) (ea_cons (ev_var (pv 2)) ea_nil))))))))))))))
abbrev N__law_draw : List Str := ["_law_pot_here", "_law_size", "_law_digit"]
theorem sc__law_draw : FnScope N__law_draw ["_law_pot_here", "_law_size"] (defScope st__law_draw) := ⟨rfl, rfl, rfl, by decide +kernel, rfl, by decide +kernel, by decide +kernel⟩
theorem ok__law_draw {a : Addr} {fd : FuncData} (TX : Tx mg f) (F : Fun K "_law_draw" "_law_draw" st__law_draw a fd) :
    FnG P w K mg base 1 a fd ["_law_pot_here", "_law_size"] (spB K T r__law_draw) :=
  fnB1 (g := g__law_draw) rfl F sc__law_draw rfl rfl fun cdv A outer s H hr hgd => by
    unfold g__law_draw
    exact (es_cons (es_if (et_cmp op_gt val_gt (ev_ixL ix_seq val_ix (pv 0) ev_int (fun _ _ => rfl)) ev_int (nomark _)) (es_cons (es_asg (ev_blt call_divmod val_divmod rfl (TX.bl "divmod" (by decide)) (by decide +kernel) (ea_cons (ev_ixL ix_seq val_ix (pv 0) ev_int (fun _ _ => rfl)) (ea_cons (ev_var (pv 1)) ea_nil))) (pg_tup rfl (pgs_cons (pg_sub (pv 0) pe_int set_list) (pgs_cons (pg_name (i := 2) sc__law_draw.nd rfl (by first | exact Or.inl rfl | exact Or.inr (Or.inl rfl) | exact Or.inr rfl)) pgs_nil))) (eg_tup (egs_cons eg_sub (egs_cons (eg_name (by decide)) egs_nil))))
      (es_one (es_ret (ev_var (pv 2))))) es_nil)
      (es_cons (es_store (ev_mod (ev_bty call_int1 val_int1 rfl (TX.bl "int" (by decide)) (by decide +kernel) (ea_cons (ev_add (ev_mulQ (ev_ixL ix_seq val_ix (pv 0) ev_int (fun _ _ => rfl)) ev_int) ev_int) ea_nil)) ev_int) (pv 0) ev_int (by intro _; rfl))
      (es_one (es_ret (ev_mod (ev_bty call_int1 val_int1 rfl (TX.bl "int" (by decide)) (by decide +kernel) (ea_cons (ev_fdiv (ev_mod (ev_bty call_int1 val_int1 rfl (TX.bl "int" (by decide)) (by decide +kernel) (ea_cons (ev_mulQ (ev_ixL ix_seq val_ix (pv 0) ev_int (fun _ _ => rfl)) (ev_ixL ix_seq val_ix (pv 0) ev_int (fun _ _ => rfl))) ea_nil)) ev_int) ev_int) ea_nil)) (ev_var (pv 1)))))))
abbrev N__law_pick : List Str := ["_law_pot_here", "_law_some"]
theorem sc__law_pick : FnScope N__law_pick ["_law_pot_here", "_law_some"] (defScope st__law_pick) := ⟨rfl, rfl, rfl, by decide +kernel, rfl, by decide +kernel, by decide +kernel⟩
theorem ok__law_pick {a : Addr} {fd : FuncData} (TX : Tx mg f) (F : Fun K "_law_pick" "_law_pick" st__law_pick a fd)
    {fd__law_draw : FuncData} (G__law_draw : FnG P w K mg base 1 (f "_law_draw") fd__law_draw ["_law_pot_here", "_law_size"] (spB K T r__law_draw)) (k__law_draw : PySem.W.keepIn K (.ref (f "_law_draw")) = true) (B__law_draw : Binds K fd__law_draw ["_law_pot_here", "_law_size"] []) :
    FnG P w K mg base 2 a fd ["_law_pot_here", "_law_some"] (spB K T r__law_pick) :=
  fnB1 (g := g__law_pick) rfl F sc__law_pick rfl rfl fun cdv A outer s H hr hgd => by
    unfold g__law_pick
    exact (es_one (es_ret (ev_ix ix_seq val_ix (ev_var (pv 1)) (ev_callB G__law_draw (hr.mono (by decide)) hgd rfl (TX.fn "_law_draw" (by decide)) k__law_draw B__law_draw (pv 0) (ea_cons (ev_blt call_len val_len rfl (TX.bl "len" (by decide)) (by decide +kernel) (ea_cons (ev_var (pv 1)) ea_nil)) ea_nil)) (fun _ _ => rfl))))
abbrev N__law_small : List Str := ["_law_pot_here", "_law_tables_here", "_law_some", "_law_inner", "_law_way", "_law_plain"]
theorem sc__law_small : FnScope N__law_small ["_law_pot_here"] (defScope st__law_small) := ⟨rfl, rfl, rfl, by decide +kernel, rfl, by decide +kernel, by decide +kernel⟩
theorem ok__law_small {a : Addr} {fd : FuncData} (TX : Tx mg f) (F : Fun K "_law_small" "_law_small" st__law_small a fd)
    {fd__law_tables : FuncData} (G__law_tables : FnG P w K mg base 1 (f "_law_tables") fd__law_tables [] (spD K T r__law_tables)) (k__law_tables : PySem.W.keepIn K (.ref (f "_law_tables")) = true) (B__law_tables : Binds K fd__law_tables [] [])
    {fd__law_pick : FuncData} (G__law_pick : FnG P w K mg base 2 (f "_law_pick") fd__law_pick ["_law_pot_here", "_law_some"] (spB K T r__law_pick)) (k__law_pick : PySem.W.keepIn K (.ref (f "_law_pick")) = true) (B__law_pick : Binds K fd__law_pick ["_law_pot_here", "_law_some"] [])
    {fd__law_draw : FuncData} (G__law_draw : FnG P w K mg base 1 (f "_law_draw") fd__law_draw ["_law_pot_here", "_law_size"] (spB K T r__law_draw)) (k__law_draw : PySem.W.keepIn K (.ref (f "_law_draw")) = true) (B__law_draw : Binds K fd__law_draw ["_law_pot_here", "_law_size"] []) :
    FnG P w K mg base 3 a fd ["_law_pot_here"] (spB K T r__law_small) :=
  fnB1 (g := g__law_small) rfl F sc__law_small rfl rfl fun cdv A outer s H hr hgd => by
    unfold g__law_small
    exact (es_cons (es_asg (ev_call0 G__law_tables (hr.mono (by decide)) hgd rfl (TX.fn "_law_tables" (by decide)) k__law_tables B__law_tables) (pg_name (i := 1) sc__law_small.nd rfl (by first | exact Or.inl rfl | exact Or.inr (Or.inl rfl) | exact Or.inr rfl)) (eg_name (by decide)))
      (es_cons (es_asg (ev_lst (ea_cons (ev_tup (ea_cons ev_str (ea_cons (ev_ix ix_seq val_ix (ev_var (pv 1)) ev_int (fun _ _ => rfl)) ea_nil))) (ea_cons (ev_tup (ea_cons ev_str (ea_cons (ev_ix ix_seq val_ix (ev_var (pv 1)) ev_int (fun _ _ => rfl)) ea_nil))) (ea_cons (ev_tup (ea_cons ev_str (ea_cons (ev_ix ix_seq val_ix (ev_var (pv 1)) ev_int (fun _ _ => rfl)) ea_nil))) (ea_cons (ev_tup (ea_cons ev_str (ea_cons ev_int (ea_cons (ev_lst ea_nil) ea_nil)))) (ea_cons (ev_tup (ea_cons ev_str (ea_cons ev_int ea_nil))) ea_nil)))))) (pg_name (i := 2) sc__law_small.nd rfl (by first | exact Or.inl rfl | exact Or.inr (Or.inl rfl) | exact Or.inr rfl)) (eg_name (by decide)))
      (es_cons (es_asg (ev_callB G__law_pick (hr.mono (by decide)) hgd rfl (TX.fn "_law_pick" (by decide)) k__law_pick B__law_pick (pv 0) (ea_cons (ev_add (ev_var (pv 2)) (ev_lst (ea_cons (ev_tup (ea_cons ev_str (ea_cons ev_int (ea_cons (ev_lst (ea_cons (ev_tup (ea_cons ev_int (ea_cons ev_int ea_nil))) ea_nil)) ea_nil)))) (ea_cons (ev_tup (ea_cons ev_str (ea_cons (ev_tup (ea_cons ev_str (ea_cons ev_int ea_nil))) (ea_cons (ev_tup (ea_cons ev_str (ea_cons ev_int ea_nil))) ea_nil)))) ea_nil)))) ea_nil)) (pg_name (i := 3) sc__law_small.nd rfl (by first | exact Or.inl rfl | exact Or.inr (Or.inl rfl) | exact Or.inr rfl)) (eg_name (by decide)))
      (es_cons (es_par (ps_par (i := 4) (j := 5) rfl sc__law_small.nd rfl rfl (by decide) (by first | rfl | decide +kernel) (by first | rfl | decide +kernel) (pa_cons (ev_callB G__law_draw (hr.mono (by decide)) hgd rfl (TX.fn "_law_draw" (by decide)) k__law_draw B__law_draw (pv 0) (ea_cons ev_int ea_nil)) (pa_cons (ev_tup (ea_cons ev_str (ea_cons ev_int ea_nil))) pa_nil)) (by rfl)) (by decide))
      (es_cons (es_if (et_cmp (op_eqD hr.units) val_eq (ev_var (pv 4)) ev_int (nomark _)) (es_one (es_ret (ev_tup (ea_cons ev_str (ea_cons (ev_ix ix_seq val_ix (ev_var (pv 1)) ev_int (fun _ _ => rfl)) ea_nil))))) es_nil)
      (es_cons (es_if (et_cmp (op_eqD hr.units) val_eq (ev_var (pv 4)) ev_int (nomark _)) (es_one (es_ret (ev_tup (ea_cons ev_str (ea_cons (ev_var (pv 5)) (ea_cons (ev_var (pv 3)) ea_nil)))))) es_nil)
      (es_cons (es_if (et_cmp (op_eqD hr.units) val_eq (ev_var (pv 4)) ev_int (nomark _)) (es_one (es_ret (ev_tup (ea_cons ev_str (ea_cons (ev_var (pv 3)) (ea_cons (ev_var (pv 5)) ea_nil)))))) es_nil)
      (es_cons (es_if (et_cmp (op_eqD hr.units) val_eq (ev_var (pv 4)) ev_int (nomark _)) (es_one (es_ret (ev_tup (ea_cons ev_str (ea_cons (ev_var (pv 3)) (ea_cons (ev_tup (ea_cons ev_str (ea_cons ev_int ea_nil))) ea_nil)))))) es_nil)
      (es_one (es_ret (ev_if (et_cmp (op_eqD hr.units) val_eq (ev_var (pv 4)) ev_int (nomark _)) (ev_tup (ea_cons ev_str (ea_cons (ev_var (pv 3)) (ea_cons (ev_tup (ea_cons ev_str (ea_cons ev_int (ea_cons (ev_lst ea_nil) ea_nil)))) ea_nil)))) (ev_tup (ea_cons ev_str (ea_cons (ev_var (pv 5)) (ea_cons (ev_var (pv 3)) ea_nil)))))))))))))))
abbrev N__law_least : List Str := ["_law_kind"]
theorem sc__law_least : FnScope N__law_least ["_law_kind"] (defScope st__law_least) := ⟨rfl, rfl, rfl, by decide +kernel, rfl, by decide +kernel, by decide +kernel⟩
theorem okR__law_least (TX : Tx mg f)
    {fd__law_least : FuncData} (F__law_least : Fun K "_law_least" "_law_least" st__law_least (f "_law_least") fd__law_least) (k__law_least : PySem.W.keepIn K (.ref (f "_law_least")) = true) (B__law_least : Binds K fd__law_least ["_law_kind"] []) :
    ∀ m, FnG P w K mg base (1 + 1 * m) (f "_law_least") fd__law_least ["_law_kind"] (spD K T (r__law_least m)) := by
  intro m
  induction m with
  | zero => exact fn_never (by rfl)
  | succ m ih =>
    have G__law_least := ih
    · refine Ev.FnG.mono (fnD1 (k := 1 + 1 * m + 0) (g := g__law_least (r__law_least m)) (by rfl) F__law_least sc__law_least rfl rfl fun cdv A outer s H hr hgd => ?_) (by omega)
      unfold g__law_least
      exact (es_cons (es_if (et_cmp (op_inD hr.u66') val_in (ev_ix ix_seq val_ix (ev_var (pv 0)) ev_int (fun _ _ => rfl)) (ev_tup (ea_cons ev_str (ea_cons ev_str ea_nil))) (by rfl)) (es_one (es_ret (ev_lst ea_nil))) es_nil)
      (es_cons (es_if (et_cmp (op_inD hr.u66') val_in (ev_ix ix_seq val_ix (ev_var (pv 0)) ev_int (fun _ _ => rfl)) (ev_tup (ea_cons ev_str (ea_cons ev_str ea_nil))) (by rfl)) (es_one (es_ret (ev_tup (ea_cons (ev_call G__law_least (hr.mono (by omega)) hgd rfl (TX.fn "_law_least" (by decide)) k__law_least B__law_least (ea_cons (ev_ix ix_seq val_ix (ev_var (pv 0)) ev_int (fun _ _ => rfl)) ea_nil)) (ea_cons (ev_call G__law_least (hr.mono (by omega)) hgd rfl (TX.fn "_law_least" (by decide)) k__law_least B__law_least (ea_cons (ev_ix ix_seq val_ix (ev_var (pv 0)) ev_int (fun _ _ => rfl)) ea_nil)) ea_nil))))) es_nil)
      (es_one (es_ret (ev_if (et_cmp (op_eqD hr.units) val_eq (ev_ix ix_seq val_ix (ev_var (pv 0)) ev_int (fun _ _ => rfl)) ev_str (nomark _)) (ev_tup (ea_cons ev_str (ea_cons (ev_call G__law_least (hr.mono (by omega)) hgd rfl (TX.fn "_law_least" (by decide)) k__law_least B__law_least (ea_cons (ev_ix ix_seq val_ix (ev_var (pv 0)) ev_int (fun _ _ => rfl)) ea_nil)) ea_nil))) ev_int)))))
abbrev N__law_is_under : List Str := ["_law_ties", "_law_low", "_law_high", "_law_reached", "_law_spot", "_law_near", "_law_far"]
theorem sc__law_is_under : FnScope N__law_is_under ["_law_ties", "_law_low", "_law_high"] (defScope st__law_is_under) := ⟨rfl, rfl, rfl, by decide +kernel, rfl, by decide +kernel, by decide +kernel⟩
theorem ok__law_is_under {a : Addr} {fd : FuncData} (TX : Tx mg f) (F : Fun K "_law_is_under" "_law_is_under" st__law_is_under a fd) :
    FnG P w K mg base 1 a fd ["_law_ties", "_law_low", "_law_high"] (spD K T r__law_is_under) :=
  fnD1 (g := g__law_is_under) rfl F sc__law_is_under rfl rfl fun cdv A outer s H hr hgd => by
    unfold g__law_is_under
    exact (es_cons (es_parLEc (i := 3) (j := 4) (pe_tup (pa_cons (el_lst (ea_cons (ev_var (pv 1)) ea_nil)) (pa_cons ev_int pa_nil))) (pg_tup rfl (pgs_cons (pg_name (i := 3) sc__law_is_under.nd rfl (by first | exact Or.inl rfl | exact Or.inr (Or.inl rfl) | exact Or.inr rfl)) (pgs_cons (pg_name (i := 4) sc__law_is_under.nd rfl (by first | exact Or.inl rfl | exact Or.inr (Or.inl rfl) | exact Or.inr rfl)) pgs_nil))) (by decide))
      (es_cons (es_while (n := 4096) PassesOwn.never (et_cmp Ev.op_ltQ val_lt (ev_var (pv 4)) (ev_bltN call_len val_len rfl (TX.bl "len" (by decide)) (by decide +kernel) (pv 3)) (nomark _)) (es_cons (es_expr (ev_extend (pv 3) (ev_lc (own := [("_law_near", 5), ("_law_far", 6)]) rfl sc__law_is_under.nd (ei_seq (ev_var (pv 0))) (blkOk_by (by first | (change blkC N__law_is_under (defScope st__law_is_under) _ _ = true; decide +kernel) | (change blkC N__law_is_under (relS _ (defScope st__law_is_under)) _ _ = true; decide +kernel))) (fun _ _ _ _ _ => by exact (pg_tup rfl (pgs_cons (pg_name (i := 5) sc__law_is_under.nd rfl (by first | exact Or.inl rfl | exact Or.inr (Or.inl rfl) | exact Or.inr rfl)) (pgs_cons (pg_name (i := 6) sc__law_is_under.nd rfl (by first | exact Or.inl rfl | exact Or.inr (Or.inl rfl) | exact Or.inr rfl)) pgs_nil)))) (egb_tup (egbs_cons (egb_name (by decide)) (egbs_cons (egb_name (by decide)) egbs_nil))) (fun _ _ _ _ _ => by exact (ets_one (PW.pt (ew_and (et_cmp (op_eqD hr.units) val_eq (ev_var (pv 5)) (ev_ixL ix_seq val_ix (pv 3) (ev_var (pv 4)) (fun _ _ => rfl)) (nomark _)) (ew_and1 (et_cmpR (Ev.op_notInD hr.u66') val_notIn (ev_var (pv 6)) (pv 3) (by rfl))))))) (fun _ _ _ _ _ => by exact (ev_var (pv 6))))))
      (es_one (es_asg (ev_add (ev_var (pv 4)) ev_int) (pg_name (i := 4) sc__law_is_under.nd rfl (by first | exact Or.inl rfl | exact Or.inr (Or.inl rfl) | exact Or.inr rfl)) (eg_name (by decide))))))
      (es_one (es_ret (ev_and (ev_cmp (op_neD hr.units) val_ne (ev_var (pv 1)) (ev_var (pv 2)) (nomark _)) (ev_one (ev_cmpR (op_inD hr.u66') val_in (ev_var (pv 2)) (pv 3) (by rfl))))))))
abbrev N__law_join : List Str := ["_law_kind", "_law_one", "_law_other", "_law_both", "_law_low", "_law_high", "_law_near", "_law_far", "_law_least_here", "_law_name", "_law_top"]
theorem sc__law_join : FnScope N__law_join ["_law_kind", "_law_one", "_law_other"] (defScope st__law_join) := ⟨rfl, rfl, rfl, by decide +kernel, rfl, by decide +kernel, by decide +kernel⟩
theorem okR__law_join (TX : Tx mg f)
    {fd__law_join : FuncData} (F__law_join : Fun K "_law_join" "_law_join" st__law_join (f "_law_join") fd__law_join) (k__law_join : PySem.W.keepIn K (.ref (f "_law_join")) = true) (B__law_join : Binds K fd__law_join ["_law_kind", "_law_one", "_law_other"] [])
    {fd__law_is_under : FuncData} (G__law_is_under : FnG P w K mg base 1 (f "_law_is_under") fd__law_is_under ["_law_ties", "_law_low", "_law_high"] (spD K T r__law_is_under)) (k__law_is_under : PySem.W.keepIn K (.ref (f "_law_is_under")) = true) (B__law_is_under : Binds K fd__law_is_under ["_law_ties", "_law_low", "_law_high"] [])
    {fd__law_least : FuncData} (G__law_least : ∀ m, FnG P w K mg base (1 + 1 * m) (f "_law_least") fd__law_least ["_law_kind"] (spD K T (r__law_least m))) (k__law_least : PySem.W.keepIn K (.ref (f "_law_least")) = true) (B__law_least : Binds K fd__law_least ["_law_kind"] []) :
    ∀ m, FnG P w K mg base (14 + 1 * m) (f "_law_join") fd__law_join ["_law_kind", "_law_one", "_law_other"] (spD K T (r__law_join m)) := by
  intro m
  induction m with
  | zero => exact fn_never (by rfl)
  | succ m ih =>
    have G__law_join := ih
    · refine Ev.FnG.mono (fnD1 (k := 14 + 1 * m + 0) (g := g__law_join (r__law_join m)) (by rfl) F__law_join sc__law_join rfl rfl fun cdv A outer s H hr hgd => ?_) (by omega)
      unfold g__law_join
      exact (es_cons (es_if (et_cmp (op_inD hr.u66') val_in (ev_ix ix_seq val_ix (ev_var (pv 0)) ev_int (fun _ _ => rfl)) (ev_tup (ea_cons ev_str (ea_cons ev_str ea_nil))) (by rfl)) (es_one (es_ret (ev_blt (call_max2 rfl) val_max2 rfl (TX.bl "max" (by decide)) (by decide +kernel) (ea_cons (ev_var (pv 1)) (ea_cons (ev_var (pv 2)) ea_nil))))) es_nil)
      (es_cons (es_if (et_cmp (op_eqD hr.units) val_eq (ev_ix ix_seq val_ix (ev_var (pv 0)) ev_int (fun _ _ => rfl)) ev_str (nomark _)) (es_one (es_ret (ev_ix ix_seq val_ix (ev_ix ix_seq val_ix (ev_ix ix_seq val_ix (ev_var (pv 0)) ev_int (fun _ _ => rfl)) (ev_var (pv 1)) (fun _ _ => rfl)) (ev_var (pv 2)) (fun _ _ => rfl)))) es_nil)
      (es_cons (es_if (et_cmp (op_eqD hr.units) val_eq (ev_ix ix_seq val_ix (ev_var (pv 0)) ev_int (fun _ _ => rfl)) ev_str (nomark _)) (es_cons (es_asg (ev_sortSet rfl hr.u66 rfl (TX.bl "sorted" (by decide)) rfl (TX.bl "set" (by decide)) (ev_add (ev_bty call_list_of val_list rfl (TX.bl "list" (by decide)) (by decide +kernel) (ea_cons (ev_var (pv 1)) ea_nil)) (ev_bty call_list_of val_list rfl (TX.bl "list" (by decide)) (by decide +kernel) (ea_cons (ev_var (pv 2)) ea_nil)))) (pg_name (i := 3) sc__law_join.nd rfl (by first | exact Or.inl rfl | exact Or.inr (Or.inl rfl) | exact Or.inr rfl)) (eg_name (by decide)))
      (es_one (es_ret (ev_lc (own := [("_law_low", 4)]) rfl sc__law_join.nd (ei_seq (ev_var (pv 3))) (blkOk_by (by first | (change blkC N__law_join (defScope st__law_join) _ _ = true; decide +kernel) | (change blkC N__law_join (relS _ (defScope st__law_join)) _ _ = true; decide +kernel))) (fun _ _ _ _ _ => by exact (pg_name (i := 4) sc__law_join.nd rfl (by first | exact Or.inl rfl | exact Or.inr (Or.inl rfl) | exact Or.inr rfl))) (egb_name (by decide)) (fun _ _ _ _ _ => by exact (ets_one (et_not (et_val (ev_blt (cr_any rfl) val_anyL rfl (TX.bl "any" (by decide)) (by decide +kernel) (ea_cons (ev_lc (own := [("_law_high", 5)]) rfl sc__law_join.nd (ei_seq (ev_var (pv 3))) (blkOk_by (by first | (change blkC N__law_join (defScope st__law_join) _ _ = true; decide +kernel) | (change blkC N__law_join (relS _ (defScope st__law_join)) _ _ = true; decide +kernel))) (fun _ _ _ _ _ => by exact (pg_name (i := 5) sc__law_join.nd rfl (by first | exact Or.inl rfl | exact Or.inr (Or.inl rfl) | exact Or.inr rfl))) (egb_name (by decide)) (fun _ _ _ _ _ => by exact ets_nil) (fun _ _ _ _ _ => by exact (ev_call G__law_is_under (hr.mono (by omega)) hgd rfl (TX.fn "_law_is_under" (by decide)) k__law_is_under B__law_is_under (ea_cons (ev_ix ix_seq val_ix (ev_var (pv 0)) ev_int (fun _ _ => rfl)) (ea_cons (ev_var (pv 4)) (ea_cons (ev_var (pv 5)) ea_nil)))))) ea_nil)))))) (fun _ _ _ _ _ => by exact (ev_var (pv 4))))))) es_nil)
      (es_cons (es_if (et_cmp (op_eqD hr.units) val_eq (ev_ix ix_seq val_ix (ev_var (pv 0)) ev_int (fun _ _ => rfl)) ev_str (nomark _)) (es_cons es_never
      (es_cons (es_asg (ev_call (G__law_least 12) (hr.mono (by omega)) hgd rfl (TX.fn "_law_least" (by decide)) k__law_least B__law_least (ea_cons (ev_ix ix_seq val_ix (ev_var (pv 0)) ev_int (fun _ _ => rfl)) ea_nil)) (pg_name (i := 8) sc__law_join.nd rfl (by first | exact Or.inl rfl | exact Or.inr (Or.inl rfl) | exact Or.inr rfl)) (eg_name (by decide)))
      (es_one es_never))) es_nil)
      (es_cons (es_if (et_cmp (op_eqD hr.units) val_eq (ev_ix ix_seq val_ix (ev_var (pv 0)) ev_int (fun _ _ => rfl)) ev_str (nomark _)) (es_cons (es_if (et_cmp (op_neD hr.units) val_ne (ev_ix ix_seq val_ix (ev_var (pv 1)) ev_int (fun _ _ => rfl)) (ev_ix ix_seq val_ix (ev_var (pv 2)) ev_int (fun _ _ => rfl)) (nomark _)) (es_one (es_ret (ev_if (et_cmp (op_eqD hr.units) val_eq (ev_ix ix_seq val_ix (ev_var (pv 1)) ev_int (fun _ _ => rfl)) ev_str (nomark _)) (ev_var (pv 1)) (ev_var (pv 2))))) es_nil)
      (es_one (es_ret (ev_tup (ea_cons (ev_ix ix_seq val_ix (ev_var (pv 1)) ev_int (fun _ _ => rfl)) (ea_cons (ev_call G__law_join (hr.mono (by omega)) hgd rfl (TX.fn "_law_join" (by decide)) k__law_join B__law_join (ea_cons (ev_if (et_cmp (op_eqD hr.units) val_eq (ev_ix ix_seq val_ix (ev_var (pv 1)) ev_int (fun _ _ => rfl)) ev_str (nomark _)) (ev_ix ix_seq val_ix (ev_var (pv 0)) ev_int (fun _ _ => rfl)) (ev_ix ix_seq val_ix (ev_var (pv 0)) ev_int (fun _ _ => rfl))) (ea_cons (ev_ix ix_seq val_ix (ev_var (pv 1)) ev_int (fun _ _ => rfl)) (ea_cons (ev_ix ix_seq val_ix (ev_var (pv 2)) ev_int (fun _ _ => rfl)) ea_nil)))) ea_nil)))))) es_nil)
      (es_cons (es_asg (ev_call G__law_join (hr.mono (by omega)) hgd rfl (TX.fn "_law_join" (by decide)) k__law_join B__law_join (ea_cons (ev_ix ix_seq val_ix (ev_var (pv 0)) ev_int (fun _ _ => rfl)) (ea_cons (ev_ix ix_seq val_ix (ev_var (pv 1)) ev_int (fun _ _ => rfl)) (ea_cons (ev_ix ix_seq val_ix (ev_var (pv 2)) ev_int (fun _ _ => rfl)) ea_nil)))) (pg_name (i := 10) sc__law_join.nd rfl (by first | exact Or.inl rfl | exact Or.inr (Or.inl rfl) | exact Or.inr rfl)) (eg_name (by decide)))
      (es_cons (es_if (PW.pt (ew_or (et_cmp (op_eqD hr.units) val_eq (ev_ix ix_seq val_ix (ev_var (pv 0)) ev_int (fun _ _ => rfl)) ev_str (nomark _)) (ew_or1 (et_cmp (op_eqD hr.units) val_eq (ev_ix ix_seq val_ix (ev_var (pv 1)) ev_int (fun _ _ => rfl)) (ev_ix ix_seq val_ix (ev_var (pv 2)) ev_int (fun _ _ => rfl)) (nomark _))))) (es_one (es_ret (ev_tup (ea_cons (ev_var (pv 10)) (ea_cons (ev_call G__law_join (hr.mono (by omega)) hgd rfl (TX.fn "_law_join" (by decide)) k__law_join B__law_join (ea_cons (ev_ix ix_seq val_ix (ev_var (pv 0)) ev_int (fun _ _ => rfl)) (ea_cons (ev_ix ix_seq val_ix (ev_var (pv 1)) ev_int (fun _ _ => rfl)) (ea_cons (ev_ix ix_seq val_ix (ev_var (pv 2)) ev_int (fun _ _ => rfl)) ea_nil)))) ea_nil))))) es_nil)
      (es_one (es_ret (ev_if (et_cmp (op_eqD hr.units) val_eq (ev_var (pv 10)) (ev_ix ix_seq val_ix (ev_var (pv 1)) ev_int (fun _ _ => rfl)) (nomark _)) (ev_var (pv 1)) (ev_if (et_cmp (op_eqD hr.units) val_eq (ev_var (pv 10)) (ev_ix ix_seq val_ix (ev_var (pv 2)) ev_int (fun _ _ => rfl)) (nomark _)) (ev_var (pv 2)) (ev_tup (ea_cons (ev_var (pv 10)) (ea_cons (ev_call (G__law_least 12) (hr.mono (by omega)) hgd rfl (TX.fn "_law_least" (by decide)) k__law_least B__law_least (ea_cons (ev_ix ix_seq val_ix (ev_var (pv 0)) ev_int (fun _ _ => rfl)) ea_nil)) ea_nil))))))))))))))
abbrev N__law_states : List Str := ["_law_kind", "_law_found", "_law_point", "_law_some", "_law_first", "_law_second", "_law_state", "_law_one"]
theorem sc__law_states : FnScope N__law_states ["_law_kind"] (defScope st__law_states) := ⟨rfl, rfl, rfl, by decide +kernel, rfl, by decide +kernel, by decide +kernel⟩
theorem okR__law_states (TX : Tx mg f)
    {fd__law_states : FuncData} (F__law_states : Fun K "_law_states" "_law_states" st__law_states (f "_law_states") fd__law_states) (k__law_states : PySem.W.keepIn K (.ref (f "_law_states")) = true) (B__law_states : Binds K fd__law_states ["_law_kind"] [])
    {fd__law_join : FuncData} (G__law_join : ∀ m, FnG P w K mg base (14 + 1 * m) (f "_law_join") fd__law_join ["_law_kind", "_law_one", "_law_other"] (spD K T (r__law_join m))) (k__law_join : PySem.W.keepIn K (.ref (f "_law_join")) = true) (B__law_join : Binds K fd__law_join ["_law_kind", "_law_one", "_law_other"] []) :
    ∀ m, FnG P w K mg base (27 + 1 * m) (f "_law_states") fd__law_states ["_law_kind"] (spD K T (r__law_states m)) := by
  intro m
  induction m with
  | zero => exact fn_never (by rfl)
  | succ m ih =>
    have G__law_states := ih
    · refine Ev.FnG.mono (fnD1 (k := 27 + 1 * m + 0) (g := g__law_states (r__law_states m)) (by rfl) F__law_states sc__law_states rfl rfl fun cdv A outer s H hr hgd => ?_) (by omega)
      unfold g__law_states
      exact (es_cons (es_if (et_cmp (op_inD hr.u66') val_in (ev_ix ix_seq val_ix (ev_var (pv 0)) ev_int (fun _ _ => rfl)) (ev_tup (ea_cons ev_str (ea_cons ev_str ea_nil))) (by rfl)) (es_one (es_ret (ev_listRg rfl rfl (TX.bl "list" (by decide)) rfl (TX.bl "range" (by decide)) (ev_if (et_cmp (op_eqD hr.units) val_eq (ev_ix ix_seq val_ix (ev_var (pv 0)) ev_int (fun _ _ => rfl)) ev_str (nomark _)) (ev_ix ix_seq val_ix (ev_var (pv 0)) ev_int (fun _ _ => rfl)) (ev_blt call_len val_len rfl (TX.bl "len" (by decide)) (by decide +kernel) (ea_cons (ev_ix ix_seq val_ix (ev_var (pv 0)) ev_int (fun _ _ => rfl)) ea_nil)))))) es_nil)
      (es_cons (es_if (et_cmp (op_eqD hr.units) val_eq (ev_ix ix_seq val_ix (ev_var (pv 0)) ev_int (fun _ _ => rfl)) ev_str (nomark _)) (es_cons (es_asgL (el_lst (ea_cons (ev_lst ea_nil) ea_nil)) (pg_name (i := 1) sc__law_states.nd rfl (by first | exact Or.inl rfl | exact Or.inr (Or.inl rfl) | exact Or.inr rfl)) (by decide))
      (es_cons (es_for PassesOwn.never rfl (ei_range1 rfl (TX.bl "range" (by decide)) (ea_cons (ev_ix ix_seq val_ix (ev_var (pv 0)) ev_int (fun _ _ => rfl)) ea_nil)) (pg_name (i := 2) sc__law_states.nd rfl (by first | exact Or.inl rfl | exact Or.inr (Or.inl rfl) | exact Or.inr rfl)) (eg_name (by decide)) (es_one (es_asgL (el_cat (ev_frz (pv 1)) (ev_lc (own := [("_law_some", 3)]) rfl sc__law_states.nd (ei_seq (ev_frz (pv 1))) (blkOk_by (by first | (change blkC N__law_states (defScope st__law_states) _ _ = true; decide +kernel) | (change blkC N__law_states (relS _ (defScope st__law_states)) _ _ = true; decide +kernel))) (fun _ _ _ _ _ => by exact (pg_name (i := 3) sc__law_states.nd rfl (by first | exact Or.inl rfl | exact Or.inr (Or.inl rfl) | exact Or.inr rfl))) (egb_name (by decide)) (fun _ _ _ _ _ => by exact ets_nil) (fun _ _ _ _ _ => by exact (ev_add (ev_var (pv 3)) (ev_lst (ea_cons (ev_var (pv 2)) ea_nil)))))) (pg_name (i := 1) sc__law_states.nd rfl (by first | exact Or.inl rfl | exact Or.inr (Or.inl rfl) | exact Or.inr rfl)) (by decide))))
      (es_one (es_ret (ev_lc (own := [("_law_some", 3)]) rfl sc__law_states.nd (ei_seq (ev_frz (pv 1))) (blkOk_by (by first | (change blkC N__law_states (defScope st__law_states) _ _ = true; decide +kernel) | (change blkC N__law_states (relS _ (defScope st__law_states)) _ _ = true; decide +kernel))) (fun _ _ _ _ _ => by exact (pg_name (i := 3) sc__law_states.nd rfl (by first | exact Or.inl rfl | exact Or.inr (Or.inl rfl) | exact Or.inr rfl))) (egb_name (by decide)) (fun _ _ _ _ _ => by exact (ets_one (et_cmp (op_eqD hr.units) val_eq (ev_call (G__law_join 12) (hr.mono (by omega)) hgd rfl (TX.fn "_law_join" (by decide)) k__law_join B__law_join (ea_cons (ev_var (pv 0)) (ea_cons (ev_var (pv 3)) (ea_cons (ev_lst ea_nil) ea_nil)))) (ev_var (pv 3)) (nomark _)))) (fun _ _ _ _ _ => by exact (ev_var (pv 3)))))))) es_nil)
      (es_cons (es_par (ps_par (i := 4) (j := 5) rfl sc__law_states.nd rfl rfl (by decide) (by first | rfl | decide +kernel) (by first | rfl | decide +kernel) (pa_cons (ev_call G__law_states (hr.mono (by omega)) hgd rfl (TX.fn "_law_states" (by decide)) k__law_states B__law_states (ea_cons (ev_ix ix_seq val_ix (ev_var (pv 0)) ev_int (fun _ _ => rfl)) ea_nil)) (pa_cons (ev_call G__law_states (hr.mono (by omega)) hgd rfl (TX.fn "_law_states" (by decide)) k__law_states B__law_states (ea_cons (ev_ix ix_seq val_ix (ev_var (pv 0)) ev_int (fun _ _ => rfl)) ea_nil)) pa_nil)) (by rfl)) (by decide))
      (es_cons (es_if (et_cmp (op_eqD hr.units) val_eq (ev_ix ix_seq val_ix (ev_var (pv 0)) ev_int (fun _ _ => rfl)) ev_str (nomark _)) (es_one (es_ret (ev_add (ev_lc (own := [("_law_state", 6)]) rfl sc__law_states.nd (ei_seq (ev_var (pv 4))) (blkOk_by (by first | (change blkC N__law_states (defScope st__law_states) _ _ = true; decide +kernel) | (change blkC N__law_states (relS _ (defScope st__law_states)) _ _ = true; decide +kernel))) (fun _ _ _ _ _ => by exact (pg_name (i := 6) sc__law_states.nd rfl (by first | exact Or.inl rfl | exact Or.inr (Or.inl rfl) | exact Or.inr rfl))) (egb_name (by decide)) (fun _ _ _ _ _ => by exact ets_nil) (fun _ _ _ _ _ => by exact (ev_tup (ea_cons ev_str (ea_cons (ev_var (pv 6)) ea_nil))))) (ev_lc (own := [("_law_state", 6)]) rfl sc__law_states.nd (ei_seq (ev_var (pv 5))) (blkOk_by (by first | (change blkC N__law_states (defScope st__law_states) _ _ = true; decide +kernel) | (change blkC N__law_states (relS _ (defScope st__law_states)) _ _ = true; decide +kernel))) (fun _ _ _ _ _ => by exact (pg_name (i := 6) sc__law_states.nd rfl (by first | exact Or.inl rfl | exact Or.inr (Or.inl rfl) | exact Or.inr rfl))) (egb_name (by decide)) (fun _ _ _ _ _ => by exact ets_nil) (fun _ _ _ _ _ => by exact (ev_tup (ea_cons ev_str (ea_cons (ev_var (pv 6)) ea_nil)))))))) es_nil)
      (es_cons (es_asgL (el_lst ea_nil) (pg_name (i := 1) sc__law_states.nd rfl (by first | exact Or.inl rfl | exact Or.inr (Or.inl rfl) | exact Or.inr rfl)) (by decide))
      (es_cons (es_for PassesOwn.never rfl (ei_seq (ev_var (pv 4))) (pg_name (i := 6) sc__law_states.nd rfl (by first | exact Or.inl rfl | exact Or.inr (Or.inl rfl) | exact Or.inr rfl)) (eg_name (by decide)) (es_one (es_expr (ev_extend (pv 1) (ev_lc (own := [("_law_one", 7)]) rfl sc__law_states.nd (ei_seq (ev_var (pv 5))) (blkOk_by (by first | (change blkC N__law_states (defScope st__law_states) _ _ = true; decide +kernel) | (change blkC N__law_states (relS _ (defScope st__law_states)) _ _ = true; decide +kernel))) (fun _ _ _ _ _ => by exact (pg_name (i := 7) sc__law_states.nd rfl (by first | exact Or.inl rfl | exact Or.inr (Or.inl rfl) | exact Or.inr rfl))) (egb_name (by decide)) (fun _ _ _ _ _ => by exact ets_nil) (fun _ _ _ _ _ => by exact (ev_tup (ea_cons (ev_var (pv 6)) (ea_cons (ev_var (pv 7)) ea_nil)))))))))
      (es_one (es_ret (ev_frz (pv 1))))))))))
abbrev N__law_parts : List Str := ["_law_rows", "_law_found", "_law_state", "_law_lesser", "_law_low", "_law_near", "_law_far"]
theorem sc__law_parts : FnScope N__law_parts ["_law_rows"] (defScope st__law_parts) := ⟨rfl, rfl, rfl, by decide +kernel, rfl, by decide +kernel, by decide +kernel⟩
theorem ok__law_parts {a : Addr} {fd : FuncData} (TX : Tx mg f) (F : Fun K "_law_parts" "_law_parts" st__law_parts a fd) :
    FnG P w K mg base 1 a fd ["_law_rows"] (spD K T r__law_parts) :=
  fnD1 (g := g__law_parts) rfl F sc__law_parts rfl rfl fun cdv A outer s H hr hgd => by
    unfold g__law_parts
    exact (es_cons (es_asgL (el_lst ea_nil) (pg_name (i := 1) sc__law_parts.nd rfl (by first | exact Or.inl rfl | exact Or.inr (Or.inl rfl) | exact Or.inr rfl)) (by decide))
      (es_cons (es_for PassesOwn.never rfl (ei_range2 rfl (TX.bl "range" (by decide)) (ea_cons ev_int (ea_cons (ev_blt call_len val_len rfl (TX.bl "len" (by decide)) (by decide +kernel) (ea_cons (ev_var (pv 0)) ea_nil)) ea_nil))) (pg_name (i := 2) sc__law_parts.nd rfl (by first | exact Or.inl rfl | exact Or.inr (Or.inl rfl) | exact Or.inr rfl)) (eg_name (by decide)) (es_cons (es_asg (ev_lc (own := [("_law_low", 4)]) rfl sc__law_parts.nd (ei_range1 rfl (TX.bl "range" (by decide)) (ea_cons (ev_blt call_len val_len rfl (TX.bl "len" (by decide)) (by decide +kernel) (ea_cons (ev_var (pv 0)) ea_nil)) ea_nil)) (blkOk_by (by first | (change blkC N__law_parts (defScope st__law_parts) _ _ = true; decide +kernel) | (change blkC N__law_parts (relS _ (defScope st__law_parts)) _ _ = true; decide +kernel))) (fun _ _ _ _ _ => by exact (pg_name (i := 4) sc__law_parts.nd rfl (by first | exact Or.inl rfl | exact Or.inr (Or.inl rfl) | exact Or.inr rfl))) (egb_name (by decide)) (fun _ _ _ _ _ => by exact (ets_one (PW.pt (ew_and (et_cmp (op_neD hr.units) val_ne (ev_var (pv 4)) (ev_var (pv 2)) (nomark _)) (ew_and1 (et_cmp (op_eqD hr.units) val_eq (ev_ix ix_seq val_ix (ev_ix ix_seq val_ix (ev_var (pv 0)) (ev_var (pv 4)) (fun _ _ => rfl)) (ev_var (pv 2)) (fun _ _ => rfl)) (ev_var (pv 2)) (nomark _))))))) (fun _ _ _ _ _ => by exact (ev_var (pv 4)))) (pg_name (i := 3) sc__law_parts.nd rfl (by first | exact Or.inl rfl | exact Or.inr (Or.inl rfl) | exact Or.inr rfl)) (eg_name (by decide)))
      (es_one (es_if (et_not (et_val (ev_blt (cr_any rfl) val_anyL rfl (TX.bl "any" (by decide)) (by decide +kernel) (ea_cons (ev_lc (own := [("_law_near", 5)]) rfl sc__law_parts.nd (ei_seq (ev_var (pv 3))) (blkOk_by (by first | (change blkC N__law_parts (defScope st__law_parts) _ _ = true; decide +kernel) | (change blkC N__law_parts (relS _ (defScope st__law_parts)) _ _ = true; decide +kernel))) (fun _ _ _ _ _ => by exact (pg_name (i := 5) sc__law_parts.nd rfl (by first | exact Or.inl rfl | exact Or.inr (Or.inl rfl) | exact Or.inr rfl))) (egb_name (by decide)) (fun _ _ _ _ _ => by exact ets_nil) (fun _ _ _ _ _ => by exact (ev_blt (cr_any rfl) val_anyL rfl (TX.bl "any" (by decide)) (by decide +kernel) (ea_cons (ev_lc (own := [("_law_far", 6)]) rfl sc__law_parts.nd (ei_seq (ev_var (pv 3))) (blkOk_by (by first | (change blkC N__law_parts (defScope st__law_parts) _ _ = true; decide +kernel) | (change blkC N__law_parts (relS _ (defScope st__law_parts)) _ _ = true; decide +kernel))) (fun _ _ _ _ _ => by exact (pg_name (i := 6) sc__law_parts.nd rfl (by first | exact Or.inl rfl | exact Or.inr (Or.inl rfl) | exact Or.inr rfl))) (egb_name (by decide)) (fun _ _ _ _ _ => by exact ets_nil) (fun _ _ _ _ _ => by exact (ev_cmp (op_eqD hr.units) val_eq (ev_ix ix_seq val_ix (ev_ix ix_seq val_ix (ev_var (pv 0)) (ev_var (pv 5)) (fun _ _ => rfl)) (ev_var (pv 6)) (fun _ _ => rfl)) (ev_var (pv 2)) (nomark _)))) ea_nil)))) ea_nil)))) (es_one (es_expr (ev_append (pv 1) (ev_var (pv 2))))) es_nil))))
      (es_one (es_ret (ev_frz (pv 1))))))
abbrev N__law_lowest : List Str := ["_law_rows", "_law_some", "_law_found", "_law_state"]
theorem sc__law_lowest : FnScope N__law_lowest ["_law_rows", "_law_some"] (defScope st__law_lowest) := ⟨rfl, rfl, rfl, by decide +kernel, rfl, by decide +kernel, by decide +kernel⟩
theorem ok__law_lowest {a : Addr} {fd : FuncData} (TX : Tx mg f) (F : Fun K "_law_lowest" "_law_lowest" st__law_lowest a fd) :
    FnG P w K mg base 1 a fd ["_law_rows", "_law_some"] (spD K T r__law_lowest) :=
  fnD1 (g := g__law_lowest) rfl F sc__law_lowest rfl rfl fun cdv A outer s H hr hgd => by
    unfold g__law_lowest
    exact (es_cons (es_asg (ev_ix ix_seq val_ix (ev_var (pv 1)) ev_int (fun _ _ => rfl)) (pg_name (i := 2) sc__law_lowest.nd rfl (by first | exact Or.inl rfl | exact Or.inr (Or.inl rfl) | exact Or.inr rfl)) (eg_name (by decide)))
      (es_cons (es_for PassesOwn.never rfl (ei_seq (ev_var (pv 1))) (pg_name (i := 3) sc__law_lowest.nd rfl (by first | exact Or.inl rfl | exact Or.inr (Or.inl rfl) | exact Or.inr rfl)) (eg_name (by decide)) (es_one (es_if (et_cmp (op_eqD hr.units) val_eq (ev_ix ix_seq val_ix (ev_ix ix_seq val_ix (ev_var (pv 0)) (ev_var (pv 3)) (fun _ _ => rfl)) (ev_var (pv 2)) (fun _ _ => rfl)) (ev_var (pv 2)) (nomark _)) (es_one (es_asg (ev_var (pv 3)) (pg_name (i := 2) sc__law_lowest.nd rfl (by first | exact Or.inl rfl | exact Or.inr (Or.inl rfl) | exact Or.inr rfl)) (eg_name (by decide)))) es_nil)))
      (es_one (es_ret (ev_if (et_val (ev_blt (cr_all rfl) val_allL rfl (TX.bl "all" (by decide)) (by decide +kernel) (ea_cons (ev_lc (own := [("_law_state", 3)]) rfl sc__law_lowest.nd (ei_seq (ev_var (pv 1))) (blkOk_by (by first | (change blkC N__law_lowest (defScope st__law_lowest) _ _ = true; decide +kernel) | (change blkC N__law_lowest (relS _ (defScope st__law_lowest)) _ _ = true; decide +kernel))) (fun _ _ _ _ _ => by exact (pg_name (i := 3) sc__law_lowest.nd rfl (by first | exact Or.inl rfl | exact Or.inr (Or.inl rfl) | exact Or.inr rfl))) (egb_name (by decide)) (fun _ _ _ _ _ => by exact ets_nil) (fun _ _ _ _ _ => by exact (ev_cmp (op_eqD hr.units) val_eq (ev_ix ix_seq val_ix (ev_ix ix_seq val_ix (ev_var (pv 0)) (ev_var (pv 2)) (fun _ _ => rfl)) (ev_var (pv 3)) (fun _ _ => rfl)) (ev_var (pv 3)) (nomark _)))) ea_nil))) (ev_var (pv 2)) ev_non)))))
abbrev N__law_all_differ : List Str := ["_law_rows", "_law_other", "_law_one", "_law_some", "_law_low"]
theorem sc__law_all_differ : FnScope N__law_all_differ ["_law_rows"] (defScope st__law_all_differ) := ⟨rfl, rfl, rfl, by decide +kernel, rfl, by decide +kernel, by decide +kernel⟩
theorem ok__law_all_differ {a : Addr} {fd : FuncData} (TX : Tx mg f) (F : Fun K "_law_all_differ" "_law_all_differ" st__law_all_differ a fd)
    {fd__law_lowest : FuncData} (G__law_lowest : FnG P w K mg base 1 (f "_law_lowest") fd__law_lowest ["_law_rows", "_law_some"] (spD K T r__law_lowest)) (k__law_lowest : PySem.W.keepIn K (.ref (f "_law_lowest")) = true) (B__law_lowest : Binds K fd__law_lowest ["_law_rows", "_law_some"] []) :
    FnG P w K mg base 2 a fd ["_law_rows"] (spD K T r__law_all_differ) :=
  fnD1 (g := g__law_all_differ) rfl F sc__law_all_differ rfl rfl fun cdv A outer s H hr hgd => by
    unfold g__law_all_differ
    exact (es_cons (es_for PassesOwn.never rfl (ei_range1 rfl (TX.bl "range" (by decide)) (ea_cons (ev_blt call_len val_len rfl (TX.bl "len" (by decide)) (by decide +kernel) (ea_cons (ev_var (pv 0)) ea_nil)) ea_nil)) (pg_name (i := 1) sc__law_all_differ.nd rfl (by first | exact Or.inl rfl | exact Or.inr (Or.inl rfl) | exact Or.inr rfl)) (eg_name (by decide)) (es_one (es_for PassesOwn.never rfl (ei_range1 rfl (TX.bl "range" (by decide)) (ea_cons (ev_blt call_len val_len rfl (TX.bl "len" (by decide)) (by decide +kernel) (ea_cons (ev_var (pv 0)) ea_nil)) ea_nil)) (pg_name (i := 2) sc__law_all_differ.nd rfl (by first | exact Or.inl rfl | exact Or.inr (Or.inl rfl) | exact Or.inr rfl)) (eg_name (by decide)) (es_cons (es_setE (i := 3) (ps_setLc (own := [("_law_low", 4)]) rfl sc__law_all_differ.nd rfl (by first | rfl | decide +kernel) (sw_true rfl (by first | rfl | decide +kernel) rfl (by decide +kernel)) (ei_range1 rfl (TX.bl "range" (by decide)) (ea_cons (ev_blt call_len val_len rfl (TX.bl "len" (by decide)) (by decide +kernel) (ea_cons (ev_var (pv 0)) ea_nil)) ea_nil)) (blkOk_by (by first | (change blkC N__law_all_differ (defScope st__law_all_differ) _ _ = true; decide +kernel) | (change blkC N__law_all_differ (relS _ (defScope st__law_all_differ)) _ _ = true; decide +kernel))) (fun _ _ _ _ _ => by exact (pg_name (i := 4) sc__law_all_differ.nd rfl (by first | exact Or.inl rfl | exact Or.inr (Or.inl rfl) | exact Or.inr rfl))) (fun _ _ _ _ _ => by exact (ets_one (et_cmp (op_eqD hr.units) val_eq (ev_ix ix_seq val_ix (ev_ix ix_seq val_ix (ev_var (pv 0)) (ev_var (pv 2)) (fun _ _ => rfl)) (ev_ix ix_seq val_ix (ev_ix ix_seq val_ix (ev_var (pv 0)) (ev_var (pv 4)) (fun _ _ => rfl)) (ev_var (pv 1)) (fun _ _ => rfl)) (fun _ _ => rfl)) (ev_ix ix_seq val_ix (ev_ix ix_seq val_ix (ev_var (pv 0)) (ev_var (pv 4)) (fun _ _ => rfl)) (ev_var (pv 1)) (fun _ _ => rfl)) (nomark _)))) (fun _ _ _ _ _ => by exact (ev_var (pv 4)))) (fun _ _ _ w => tLc_of (egb_name (by decide)) w) (by decide))
      (es_one (es_if (et_cmp op_isN val_isN (ev_call G__law_lowest (hr.mono (by decide)) hgd rfl (TX.fn "_law_lowest" (by decide)) k__law_lowest B__law_lowest (ea_cons (ev_var (pv 0)) (ea_cons (ev_var (pv 3)) ea_nil))) ev_non (nomark _)) (es_one (es_ret ev_bl)) es_nil))))))
      (es_one (es_ret ev_bl)))
abbrev N_words_from : List Str := ["kind"]
theorem sc_words_from : FnScope N_words_from ["kind"] (defScope st_words_from) := ⟨rfl, rfl, rfl, by decide +kernel, rfl, by decide +kernel, by decide +kernel⟩
theorem ok_words_from {a : Addr} {fd : FuncData} (TX : Tx mg f) (F : Fun K "words_from" "words_from" st_words_from a fd) {d_WAY_WORDS : Addr} {es_WAY_WORDS : Array DictEntry} {n_WAY_WORDS : Nat} (D_WAY_WORDS : DctK K w mg "WAY_WORDS" tab_WAY_WORDS d_WAY_WORDS es_WAY_WORDS n_WAY_WORDS) :
    FnG P w K mg base 1 a fd ["kind"] (spD K T r_words_from) :=
  fnD1 (g := g_words_from) rfl F sc_words_from rfl rfl fun cdv A outer s H hr hgd => by
    unfold g_words_from
    exact (es_one (es_ret (ev_bty call_list_of val_list rfl (TX.bl "list" (by decide)) (by decide +kernel) (ea_cons (ev_kget2 D_WAY_WORDS rfl (ev_ix ix_seq val_ix (ev_var (pv 0)) ev_int (fun _ _ => rfl)) (ev_tup ea_nil) ⟨by rfl, by rfl, by rfl, by rfl⟩) ea_nil))))
abbrev N_kind_by : List Str := ["kind", "word"]
theorem sc_kind_by : FnScope N_kind_by ["kind", "word"] (defScope st_kind_by) := ⟨rfl, rfl, rfl, by decide +kernel, rfl, by decide +kernel, by decide +kernel⟩
theorem ok_kind_by {a : Addr} {fd : FuncData} (TX : Tx mg f) (F : Fun K "kind_by" "kind_by" st_kind_by a fd)
    {fd_words_from : FuncData} (G_words_from : FnG P w K mg base 1 (f "words_from") fd_words_from ["kind"] (spD K T r_words_from)) (k_words_from : PySem.W.keepIn K (.ref (f "words_from")) = true) (B_words_from : Binds K fd_words_from ["kind"] []) :
    FnG P w K mg base 2 a fd ["kind", "word"] (spD K T r_kind_by) :=
  fnD1 (g := g_kind_by) rfl F sc_kind_by rfl rfl fun cdv A outer s H hr hgd => by
    unfold g_kind_by
    exact (es_one (es_ret (ev_ix ix_seq val_ix (ev_var (pv 0)) (ev_add ev_int (ev_index hr.u66' (ev_call G_words_from (hr.mono (by decide)) hgd rfl (TX.fn "words_from" (by decide)) k_words_from B_words_from (ea_cons (ev_var (pv 0)) ea_nil)) (ev_var (pv 1)))) (fun _ _ => rfl))))
abbrev N_ways_of : List Str := ["kind", "found", "word", "rest"]
theorem sc_ways_of : FnScope N_ways_of ["kind"] (defScope st_ways_of) := ⟨rfl, rfl, rfl, by decide +kernel, rfl, by decide +kernel, by decide +kernel⟩
theorem okR_ways_of (TX : Tx mg f)
    {fd_ways_of : FuncData} (F_ways_of : Fun K "ways_of" "ways_of" st_ways_of (f "ways_of") fd_ways_of) (k_ways_of : PySem.W.keepIn K (.ref (f "ways_of")) = true) (B_ways_of : Binds K fd_ways_of ["kind"] [])
    {fd_words_from : FuncData} (G_words_from : FnG P w K mg base 1 (f "words_from") fd_words_from ["kind"] (spD K T r_words_from)) (k_words_from : PySem.W.keepIn K (.ref (f "words_from")) = true) (B_words_from : Binds K fd_words_from ["kind"] [])
    {fd_kind_by : FuncData} (G_kind_by : FnG P w K mg base 2 (f "kind_by") fd_kind_by ["kind", "word"] (spD K T r_kind_by)) (k_kind_by : PySem.W.keepIn K (.ref (f "kind_by")) = true) (B_kind_by : Binds K fd_kind_by ["kind", "word"] []) :
    ∀ m, FnG P w K mg base (3 + 1 * m) (f "ways_of") fd_ways_of ["kind"] (spD K T (r_ways_of m)) := by
  intro m
  induction m with
  | zero => exact fn_never (by rfl)
  | succ m ih =>
    have G_ways_of := ih
    · refine Ev.FnG.mono (fnD1 (k := 3 + 1 * m + 0) (g := g_ways_of (r_ways_of m)) (by rfl) F_ways_of sc_ways_of rfl rfl fun cdv A outer s H hr hgd => ?_) (by omega)
      unfold g_ways_of
      exact (es_cons (es_asg (ev_lst (ea_cons (ev_lst ea_nil) ea_nil)) (pg_name (i := 1) sc_ways_of.nd rfl (by first | exact Or.inl rfl | exact Or.inr (Or.inl rfl) | exact Or.inr rfl)) (eg_name (by decide)))
      (es_cons (es_for PassesOwn.never rfl (ei_seq (ev_call G_words_from (hr.mono (by omega)) hgd rfl (TX.fn "words_from" (by decide)) k_words_from B_words_from (ea_cons (ev_var (pv 0)) ea_nil))) (pg_name (i := 2) sc_ways_of.nd rfl (by first | exact Or.inl rfl | exact Or.inr (Or.inl rfl) | exact Or.inr rfl)) (eg_name (by decide)) (es_one (es_asg (ev_add (ev_var (pv 1)) (ev_lc (own := [("rest", 3)]) rfl sc_ways_of.nd (ei_seq (ev_call G_ways_of (hr.mono (by omega)) hgd rfl (TX.fn "ways_of" (by decide)) k_ways_of B_ways_of (ea_cons (ev_call G_kind_by (hr.mono (by omega)) hgd rfl (TX.fn "kind_by" (by decide)) k_kind_by B_kind_by (ea_cons (ev_var (pv 0)) (ea_cons (ev_var (pv 2)) ea_nil))) ea_nil))) (blkOk_by (by first | (change blkC N_ways_of (defScope st_ways_of) _ _ = true; decide +kernel) | (change blkC N_ways_of (relS _ (defScope st_ways_of)) _ _ = true; decide +kernel))) (fun _ _ _ _ _ => by exact (pg_name (i := 3) sc_ways_of.nd rfl (by first | exact Or.inl rfl | exact Or.inr (Or.inl rfl) | exact Or.inr rfl))) (egb_name (by decide)) (fun _ _ _ _ _ => by exact ets_nil) (fun _ _ _ _ _ => by exact (ev_add (ev_lst (ea_cons (ev_var (pv 2)) ea_nil)) (ev_var (pv 3)))))) (pg_name (i := 1) sc_ways_of.nd rfl (by first | exact Or.inl rfl | exact Or.inr (Or.inl rfl) | exact Or.inr rfl)) (eg_name (by decide)))))
      (es_one (es_ret (ev_var (pv 1))))))
abbrev Nbw : List Str := ["many", "ties", "points", "rows", "middle", "low", "high", "one", "other"]
theorem sc_below_rows : FnScope Nbw ["many", "ties"] (defScope st_below_rows) := ⟨rfl, rfl, rfl, by decide +kernel, rfl, by decide +kernel, by decide +kernel⟩
theorem ok_below_rows {a : Addr} {fd : FuncData} (TX : Tx mg f) (F : Fun K "below_rows" "below_rows" st_below_rows a fd) : FnG P w K mg base 1 a fd ["many", "ties"] (spD K T r_below_rows) := by
  refine Ev.FnG.mono (j := 1) (Tb.okG F sc_below_rows (fun vs H Q E h => ?_) fun cdv A outer s H vs Q hr hgd h => ?_) (by decide)
  · obtain ⟨S, xs, _, _, r, _, y, e, _⟩ := h
    unfold r_below_rows at e
    split at e
    · exact r.length
    · cases e
  obtain ⟨S, xs, sub, noT, rx, aT, y, e, q0⟩ := h
  obtain ⟨n, v, t, ts, rfl, n6, hv, hk, hall, ey⟩ : ∃ (n : Nat) (v : V) (t : PyData) (ts : List PyData), vs = [.int (n : Int), v] ∧ n ≤ 6 ∧ Rq K S v t ∧ kidsD t = some ts ∧ (∀ z ∈ ts, tieOk (n : Int) z = true) ∧ y = matD n (belM ts n) := by
    unfold r_below_rows at e
    split at e
    · rename_i n t
      obtain ⟨ts, e1, e2⟩ := Option.bind_eq_some_iff.mp e
      split at e2
      · rename_i c
        cases e2
        cases rx with
        | cons r1 rx =>
          cases rx with
          | cons r2 rx =>
            cases rx
            cases r1
            have en : ((n.toNat : Nat) : Int) = n := by omega
            exact ⟨n.toNat, _, t, ts, by rw [en], by omega, r2, e1, by rw [en]; exact List.all_eq_true.mp c.2.2.1, rfl⟩
      · cases e2
    · cases e
  have q : ∀ p bs H', RowsB H' p n (belM ts n) bs → Kp H H' → (∀ b, b = p ∨ b ∈ bs → Fz H b) → Q (.ref p) H' := fun p bs H' r k fz => by
    obtain ⟨S', s1, s2, s3, s4⟩ := r.data (K := K) sub noT k fz
    rw [ey] at q0
    exact q0 _ S' H' s1 s2 s3 s4
  have sh1 := ties_shape hall
  have sht : SeqAt.shaped t = true := by
    cases t <;> first | (cases hk; done) | (cases hk; first | exact (sh_list sh1).ok | exact (sh_tup sh1).ok)
  have hu : (A.deeper (envOfC "below_rows" (defScope st_below_rows) s.heap.objs.size a cdv)).units + 65 < cLine := by
    have := hr.un
    omega
  refine ⟨_, pss_cons (ps_set (i := 2) sc_below_rows.nd rfl (by first | exact Or.inl rfl | exact Or.inr rfl) (pe_callTy cr_rangeN rfl (TX.bl "range" (by decide)) (by decide +kernel) (pa_cons (pv 0) pa_nil)))
    (pss_cons (ps_setLc (i := 3) (own := [("one", 7)]) (g := gName 7) (tt := tYes) (te := tLc (iRgN (tVar 2)) (gName 8) tYes (tOp (rInD K false) (tTup (tCons (tVar 7) (tCons (tVar 8) tNil))) (tVar 1)) [8]) rfl sc_below_rows.nd rfl rfl (sw_true rfl rfl rfl (by decide +kernel)) (pi_rgN (pv 2)) (blkOk_by (by change blkC Nbw (defScope st_below_rows) _ _ = true; decide +kernel)) (fun _ _ _ _ _ => pg_name (i := 7) sc_below_rows.nd rfl (by first | exact Or.inl rfl | exact Or.inr rfl)) (fun _ _ _ _ _ => pts_nil)
      (fun _ _ _ _ _ => ?el))
    (pss_cons (ps_for PassesOwn.never rfl (pi_rgN (pv 2)) (pg_name (i := 4) sc_below_rows.nd rfl (by first | exact Or.inl rfl | exact Or.inr rfl))
      (pss_one (ps_for PassesOwn.never rfl (pi_rgN (pv 2)) (pg_name (i := 5) sc_below_rows.nd rfl (by first | exact Or.inl rfl | exact Or.inr rfl))
        (pss_one (ps_for PassesOwn.never rfl (pi_rgN (pv 2)) (pg_name (i := 6) sc_below_rows.nd rfl (by first | exact Or.inl rfl | exact Or.inr rfl))
          (pss_one (ps_if (PW.pt (pw_and (pt_val (pe_ix ix_list (pe_ix ix_list (pv 3) (pv 5) (fun _ _ => rfl)) (pv 4) (fun _ _ => rfl))) (pw_and1 (pt_val (pe_ix ix_list (pe_ix ix_list (pv 3) (pv 4) (fun _ _ => rfl)) (pv 6) (fun _ _ => rfl))))))
            (pss_one (ps_asg pe_bl (pg_sub (pe_ix ix_list (pv 3) (pv 5) (fun _ _ => rfl)) (pv 6) set_list))) pss_nil)))))))
    (pss_one (ps_ret (pv 3))))), ?_⟩
  case el =>
    exact pe_lc (own := [("other", 8)]) (g := gName 8) (tt := tYes) rfl sc_below_rows.nd (pi_rgN (pv 2)) (blkOk_by (by change blkC Nbw (relS _ (defScope st_below_rows)) _ _ = true; decide +kernel)) (fun _ _ _ _ _ => pg_name (i := 8) sc_below_rows.nd rfl (by first | exact Or.inl rfl | exact Or.inr rfl)) (fun _ _ _ _ _ => pts_nil)
      (fun _ _ _ _ _ => pe_cmpR (op_inD hu) (pe_tup (pa_cons (pv 7) (pa_cons (pv 8) pa_nil))) (pv 1) rfl)
  refine ⟨_, rfl, n, rfl, fun ps hps => ?_⟩
  have k1 : Kp H (upd H ps (.rng 0 (n : Int))) := Kp.new hps
  generalize hH1 : upd H ps (.rng 0 (n : Int)) = H1 at k1
  have hrng : H1 ps = some (.rng 0 (n : Int)) := by rw [← hH1]; exact upd_same
  have bnd : -(2 ^ 62) ≤ (0 : Int) ∧ (0 : Int) < 2 ^ 62 ∧ -(2 ^ 62) ≤ (n : Int) ∧ (n : Int) < 2 ^ 62 := by omega
  have cnt : ((n : Int) - 0).toNat = n := by omega
  have keep : ∀ {H' : Hp}, Kp H1 H' → H' ps = some (.rng 0 (n : Int)) := fun k => k.keep ps _ hrng fun ps z => by cases z
  refine ⟨_, rfl, ps, 0, _, rfl, hrng, bnd, fun D hD => ?_⟩
  rw [cnt]
  refine lc_range (lo := 0) (n := n) (fun i H' => Kp H1 H' ∧ ∃ bs : List Addr, bs.length = i ∧ bs.Nodup ∧ (∀ b ∈ bs, b ≠ D ∧ Fz H1 b) ∧ H' D = some (.lst (bs.map V.ref)) ∧ ∀ (k : Nat) (b : Addr), bs[k]? = some b → H' b = some (.lst (bRow (tieM ts) n k)))
    ⟨Kp.new hD, [], rfl, List.nodup_nil, (fun b hb => by cases hb), upd_same, fun k b e => by simp at e⟩ ?_ ?_
  · rintro i H2 hi ⟨k2, bs, lb, nd, fz, hD2, hrow⟩
    rw [show (0 + (i : Int)) = (i : Int) from Int.zero_add _]
    refine ⟨rfl, ?_⟩
    refine ⟨_, rfl, ps, 0, _, rfl, keep k2, bnd, fun E hE => ?_⟩
    rw [cnt]
    refine lc_range (lo := 0) (n := n) (fun j H' => Kp H2 H' ∧ H' E = some (.lst ((List.range j).map fun j => V.bl (tieM ts i j)))) ⟨Kp.new hE, upd_same⟩ ?_ ?_
    · rintro j H3 hj ⟨k3, hE3⟩
      rw [show (0 + (j : Int)) = (j : Int) from Int.zero_add _]
      refine ⟨rfl, ?_⟩
      refine ⟨_, rfl, _, rfl, by show 2 ≤ sizeLine; decide, fun u hu' => ⟨_, rfl, ?_⟩⟩
      have ku := Kp.new (o := .tup [V.int (i : Int), V.int (j : Int)]) hu'
      refine ⟨tieD ((i : Int), (j : Int)), t, ts, .tup (.inl (.inl upd_same)) (.cons (.int _) (.cons (.int _) .nil)), Rq.dp (SeqAt.canLay_of_shaped sht) (Rq.sub (fun c o hc => (((k1.trans k2).trans k3).trans ku).keep c o (sub _ _ hc) fun ps z => noT c ps (by rw [hc, z])) hv), hk, (sh_tie _).ok, sht, ?_⟩
      refine ⟨_, ku.lst hE3, by rw [sizeLine_eq, List.length_map, List.length_range]; omega, (k3.trans ku).over hE, ?_⟩
      rw [List.range_succ, List.map_append]
      exact upd_same
    · rintro H3 ⟨k3, hE3⟩
      have nED : E ≠ D := fun z => by rw [z, hD2] at hE; cases hE
      have fE : Fz H1 E := Fz.of k2 hE
      have nE : E ∉ bs := fun z => by
        obtain ⟨k, hk, e⟩ := List.mem_iff_getElem.mp z
        rw [← e, hrow k _ (List.getElem?_eq_getElem hk)] at hE
        cases hE
      refine ⟨_, k3.lst hD2, by rw [sizeLine_eq, List.length_map]; omega, (k2.trans k3).over hD, bs ++ [E], by rw [List.length_append, lb]; rfl, List.nodup_append.mpr ⟨nd, by simp, fun x hx y hy z => nE (by rw [← List.mem_singleton.mp hy, ← z]; exact hx)⟩, fun b hb => ?_, by rw [List.map_append]; exact upd_same, fun k b e => ?_⟩
      · rcases List.mem_append.mp hb with h | h
        · exact fz b h
        · rw [List.mem_singleton.mp h]; exact ⟨nED, fE⟩
      · by_cases hk : k < bs.length
        · rw [List.getElem?_append_left hk] at e
          have nb := (fz b (List.mem_of_getElem? e)).1
          rw [upd_ne nb]
          exact k3.lst (hrow k b e)
        · rw [List.getElem?_append_right (by omega)] at e
          have k0 : k - bs.length = 0 := by
            have := (List.getElem?_eq_some_iff.mp e).1
            simp at this
            omega
          rw [k0] at e
          have eb : E = b := by simpa using e
          subst eb
          have ki : k = i := by omega
          subst ki
          rw [upd_ne nED]
          exact hE3
  rintro H2 ⟨k2, bs, lb, nd, fz, hD2, hrow⟩
  have offD : D ∉ bs := fun z => (fz D z).1 rfl
  have R0 : RowsB H2 D n (belM ts 0) bs := ⟨lb, nd, offD, hD2, hrow⟩
  have hDn := hD
  clear hD2 hrow hH1 hD
  refine ⟨_, rfl, ps, 0, _, rfl, keep k2, bnd, ?_⟩
  rw [cnt]
  refine for_range (n := n) (fun m σ H' => Kp H1 H' ∧ RowsB H' D n (belM ts m) bs ∧ ∃ o4 o5 o6, σ = [some (.int n), some v, some (.ref ps), some (.ref D), o4, o5, o6, none, none]) ⟨k2, R0, none, none, none, rfl⟩ ?_ ?_
  · rintro m σ H3 hm ⟨k3, R3, o4, o5, o6, rfl⟩
    rw [show (0 + (m : Int)) = (m : Int) from Int.zero_add _]
    refine ⟨_, rfl, ps, 0, _, rfl, keep k3, bnd, ?_⟩
    rw [cnt]
    refine for_range (n := n) (fun l σ H' => Kp H1 H' ∧ RowsB H' D n (midM m (belM ts m) l 0) bs ∧ ∃ o5 o6, σ = [some (.int n), some v, some (.ref ps), some (.ref D), some (.int (m : Int)), o5, o6, none, none]) ⟨k3, R3.ext fun i _ j _ => (mid_start m _ i j).symm, o5, o6, rfl⟩ ?_ ?_
    · rintro l σ H4 hl ⟨k4, R4, o5', o6', rfl⟩
      rw [show (0 + (l : Int)) = (l : Int) from Int.zero_add _]
      refine ⟨_, rfl, ps, 0, _, rfl, keep k4, bnd, ?_⟩
      rw [cnt]
      refine for_range (n := n) (fun h σ H' => Kp H1 H' ∧ RowsB H' D n (midM m (belM ts m) l h) bs ∧ ∃ o6, σ = [some (.int n), some v, some (.ref ps), some (.ref D), some (.int (m : Int)), some (.int (l : Int)), o6, none, none]) ⟨k4, R4, o6', rfl⟩ ?_ ?_
      · rintro h σ H5 hh ⟨k5, R5, o6'', rfl⟩
        rw [show (0 + (h : Int)) = (h : Int) from Int.zero_add _]
        refine ⟨_, rfl, _, rfl, ix_row R5 hl fun b eb => ⟨_, rfl, ix_cel R5 eb hm ⟨_, rfl, ?_⟩⟩⟩
        rw [mid_a]
        refine ite2 (fun c1 => ?_) (fun c1 => ?_)
        · refine ⟨_, rfl, _, rfl, ix_row R5 hm fun b2 eb2 => ⟨_, rfl, ix_cel R5 eb2 hh ⟨_, rfl, ?_⟩⟩⟩
          rw [mid_b]
          refine ite2 (fun c2 => ?_) (fun c2 => ?_)
          · refine ⟨_, rfl, _, rfl, ix_row R5 hl fun b3 eb3 => ⟨_, rfl, b3, _, (h : Int), h, rfl, rfl, R5.row l b3 eb3, by rw [bRow_len]; exact ixN_nat hh, ?_⟩⟩
            exact ⟨k5.overz (fz b3 (List.mem_of_getElem? eb3)).2, (R5.set eb3 hh).ext fun i _ j _ => mid_set (by rw [c1, c2]; rfl), _, rfl⟩
          · exact ⟨k5, R5.ext fun i _ j _ => mid_not (by rw [show belM ts m m h = false by simpa using c2, Bool.and_false]), _, rfl⟩
        · exact ⟨k5, R5.ext fun i _ j _ => mid_not (by rw [show belM ts m l m = false by simpa using c1]; rfl), _, rfl⟩
      · rintro σ H5 ⟨k5, R5, o6'', rfl⟩
        exact ⟨k5, R5.ext fun i _ j hj => mid_row hj, _, _, rfl⟩
    · rintro σ H4 ⟨k4, R4, o5', o6', rfl⟩
      exact ⟨k4, R4.ext fun i hi j _ => mid_end hi, _, _, _, rfl⟩
  · rintro σ H3 ⟨k3, R3, o4, o5, o6, rfl⟩
    exact ⟨_, rfl, q D bs H3 R3 (k1.trans k3) fun b hb => Fz.ofK k1 (by
      rcases hb with rfl | hb
      · exact fz_none hDn
      · exact (fz b hb).2)⟩
abbrev N_are_points_in_line : List Str := ["many", "ties", "below", "high", "low"]
theorem sc_are_points_in_line : FnScope N_are_points_in_line ["many", "ties"] (defScope st_are_points_in_line) := ⟨rfl, rfl, rfl, by decide +kernel, rfl, by decide +kernel, by decide +kernel⟩
theorem ok_are_points_in_line {a c p : Addr} {fd : FuncData} (TX : Tx mg f) (F : FunC K "are_points_in_line" "are_points_in_line" st_are_points_in_line a fd c) (TB : GxR.TabB base mg c p) (hP : p ∈ T)
    {fd_below_rows : FuncData} (G_below_rows : FnG P w K mg base 1 (f "below_rows") fd_below_rows ["many", "ties"] (spD K T r_below_rows)) (k_below_rows : PySem.W.keepIn K (.ref (f "below_rows")) = true) (B_below_rows : Binds K fd_below_rows ["many", "ties"] []) :
    FnG P w K mg base 3 a fd ["many", "ties"] (spD K T r_are_points_in_line) :=
  fnDC1 (g := g_are_points_in_line) rfl F sc_are_points_in_line rfl rfl fun A outer s H hr hgd => by
    unfold g_are_points_in_line
    exact (es_cons (es_asg (ev_call G_below_rows (hr.mono (by decide)) hgd rfl (TX.fn "below_rows" (by decide)) k_below_rows B_below_rows (ea_cons (ev_var (pv 0)) (ea_cons (ev_var (pv 1)) ea_nil))) (pg_name (i := 2) sc_are_points_in_line.nd rfl (by first | exact Or.inl rfl | exact Or.inr (Or.inl rfl) | exact Or.inr rfl)) (eg_name (by decide)))
      (es_one (es_ret (ev_all2 (k := 1) (own := [("high", 3), ("low", 4)]) hP (hr.mono (by decide)) rfl (TX.bl "all" (by decide)) TB rfl (gscL_by (by first | (change gscLC N_are_points_in_line (defScope st_are_points_in_line) _ _ = true; decide +kernel) | (change gscLC N_are_points_in_line (relS _ (defScope st_are_points_in_line)) _ _ = true; decide +kernel))) (ei_range1 rfl (TX.bl "range" (by decide)) (ea_cons (ev_var (pv 0)) ea_nil)) (fun _ _ _ _ _ => by exact (pg_name (i := 3) sc_are_points_in_line.nd rfl (by first | exact Or.inl rfl | exact Or.inr (Or.inl rfl) | exact Or.inr rfl))) (egb_name (by decide)) (fun _ _ _ _ _ hr => by exact (ei_range1 rfl (TX.bl "range" (by decide)) (ea_cons (ev_var (pv 3)) ea_nil))) (fun _ _ _ _ _ => by exact (pg_name (i := 4) sc_are_points_in_line.nd rfl (by first | exact Or.inl rfl | exact Or.inr (Or.inl rfl) | exact Or.inr rfl))) (egb_name (by decide)) (fun _ _ _ _ _ hr => by exact (ev_or (ev_ix ix_seq val_ix (ev_ix ix_seq val_ix (ev_var (pv 2)) (ev_var (pv 4)) (fun _ _ => rfl)) (ev_var (pv 3)) (fun _ _ => rfl)) (ev_one (ev_ix ix_seq val_ix (ev_ix ix_seq val_ix (ev_var (pv 2)) (ev_var (pv 3)) (fun _ _ => rfl)) (ev_var (pv 4)) (fun _ _ => rfl))))) (fun _ => rfl) (fun _ _ => rfl)))))
abbrev N_is_table_in_line : List Str := ["rows", "states", "one", "other"]
theorem sc_is_table_in_line : FnScope N_is_table_in_line ["rows"] (defScope st_is_table_in_line) := ⟨rfl, rfl, rfl, by decide +kernel, rfl, by decide +kernel, by decide +kernel⟩
theorem ok_is_table_in_line {a c p : Addr} {fd : FuncData} (TX : Tx mg f) (F : FunC K "is_table_in_line" "is_table_in_line" st_is_table_in_line a fd c) (TB : GxR.TabB base mg c p) (hP : p ∈ T) :
    FnG P w K mg base 2 a fd ["rows"] (spD K T r_is_table_in_line) :=
  fnDC1 (g := g_is_table_in_line) rfl F sc_is_table_in_line rfl rfl fun A outer s H hr hgd => by
    unfold g_is_table_in_line
    exact (es_cons (es_asg (ev_listRg rfl rfl (TX.bl "list" (by decide)) rfl (TX.bl "range" (by decide)) (ev_blt call_len val_len rfl (TX.bl "len" (by decide)) (by decide +kernel) (ea_cons (ev_var (pv 0)) ea_nil))) (pg_name (i := 1) sc_is_table_in_line.nd rfl (by first | exact Or.inl rfl | exact Or.inr (Or.inl rfl) | exact Or.inr rfl)) (eg_name (by decide)))
      (es_one (es_ret (ev_all2 (k := 0) (own := [("one", 2), ("other", 3)]) hP (hr.mono (by decide)) rfl (TX.bl "all" (by decide)) TB rfl (gscL_by (by first | (change gscLC N_is_table_in_line (defScope st_is_table_in_line) _ _ = true; decide +kernel) | (change gscLC N_is_table_in_line (relS _ (defScope st_is_table_in_line)) _ _ = true; decide +kernel))) (ei_seq (ev_var (pv 1))) (fun _ _ _ _ _ => by exact (pg_name (i := 2) sc_is_table_in_line.nd rfl (by first | exact Or.inl rfl | exact Or.inr (Or.inl rfl) | exact Or.inr rfl))) (egb_name (by decide)) (fun _ _ _ _ _ hr => by exact (ei_seq (ev_var (pv 1)))) (fun _ _ _ _ _ => by exact (pg_name (i := 3) sc_is_table_in_line.nd rfl (by first | exact Or.inl rfl | exact Or.inr (Or.inl rfl) | exact Or.inr rfl))) (egb_name (by decide)) (fun _ _ _ _ _ hr => by exact (ev_cmp (op_inD hr.u66') val_in (ev_ix ix_seq val_ix (ev_ix ix_seq val_ix (ev_var (pv 0)) (ev_var (pv 2)) (fun _ _ => rfl)) (ev_var (pv 3)) (fun _ _ => rfl)) (ev_tup (ea_cons (ev_var (pv 2)) (ea_cons (ev_var (pv 3)) ea_nil))) (by rfl))) (fun _ => rfl) (fun _ _ => rfl)))))
abbrev N_single : List Str := ["kind", "word", "part"]
theorem sc_single : FnScope N_single ["kind"] (defScope st_single) := ⟨rfl, rfl, rfl, by decide +kernel, rfl, by decide +kernel, by decide +kernel⟩
theorem okR_single (TX : Tx mg f)
    {fd_single : FuncData} {cd_single p_single : Addr} (F_single : FunC K "single" "single" st_single (f "single") fd_single cd_single) (TB_single : GxR.TabB base mg cd_single p_single) (hP_single : p_single ∈ T) (k_single : PySem.W.keepIn K (.ref (f "single")) = true) (B_single : Binds K fd_single ["kind"] []) :
    ∀ m, FnG P w K mg base (2 + 2 * m) (f "single") fd_single ["kind"] (spD K T (r_single m)) := by
  intro m
  induction m with
  | zero => exact fn_never (by rfl)
  | succ m ih =>
    have G_single := ih
    · refine Ev.FnG.mono (fnDC1 (k := 2 + 2 * m + 1) (g := g_single (r_single m)) (by rfl) F_single sc_single rfl rfl fun A outer s H hr hgd => ?_) (by omega)
      unfold g_single
      exact (es_cons (es_asg (ev_ix ix_seq val_ix (ev_var (pv 0)) ev_int (fun _ _ => rfl)) (pg_name (i := 1) sc_single.nd rfl (by first | exact Or.inl rfl | exact Or.inr (Or.inl rfl) | exact Or.inr rfl)) (eg_name (by decide)))
      (es_cons (es_if (et_cmp (op_eqD hr.units) val_eq (ev_var (pv 1)) ev_str (nomark _)) (es_one (es_ret (ev_cmp (op_eqD hr.units) val_eq (ev_ix ix_seq val_ix (ev_var (pv 0)) ev_int (fun _ _ => rfl)) ev_int (nomark _)))) es_nil)
      (es_cons (es_if (et_cmp (op_eqD hr.units) val_eq (ev_var (pv 1)) ev_str (nomark _)) (es_one (es_ret (ev_cmp (op_eqD hr.units) val_eq (ev_ix ix_seq val_ix (ev_var (pv 0)) ev_int (fun _ _ => rfl)) ev_int (nomark _)))) es_nil)
      (es_cons (es_if (et_cmp (op_eqD hr.units) val_eq (ev_var (pv 1)) ev_str (nomark _)) (es_one (es_ret (ev_cmp (op_eqD hr.units) val_eq (ev_blt call_len val_len rfl (TX.bl "len" (by decide)) (by decide +kernel) (ea_cons (ev_ix ix_seq val_ix (ev_var (pv 0)) ev_int (fun _ _ => rfl)) ea_nil)) ev_int (nomark _)))) es_nil)
      (es_one (es_ret (ev_and (ev_cmp (op_inD hr.u66') val_in (ev_var (pv 1)) (ev_tup (ea_cons ev_str (ea_cons ev_str (ea_cons ev_str ea_nil)))) (by rfl)) (ev_one (ev_all (k := (2 + 2 * m + 0)) (ix := 2) hP_single (hr.mono (by omega)) rfl (TX.bl "all" (by decide)) TB_single rfl (gscp_by (by first | (change gscpC N_single (defScope st_single) _ _ _ = true; decide +kernel) | (change gscpC N_single (relS _ (defScope st_single)) _ _ _ = true; decide +kernel))) (ei_seq (ev_slice (ev_var (pv 0)) (eo_some ev_int) eo_none)) (fun _ _ _ _ _ => pg_name (i := 2) sc_single.nd rfl (by first | exact Or.inl rfl | exact Or.inr (Or.inl rfl) | exact Or.inr rfl)) (fun _ _ _ _ _ hr => (ev_call G_single (hr.mono (by omega)) hgd rfl (TX.fn "single" (by decide)) k_single B_single (ea_cons (ev_var (pv 2)) ea_nil))) (fun _ => rfl))))))))))
abbrev N_in_line : List Str := ["kind", "word", "sides", "part"]
theorem sc_in_line : FnScope N_in_line ["kind"] (defScope st_in_line) := ⟨rfl, rfl, rfl, by decide +kernel, rfl, by decide +kernel, by decide +kernel⟩
theorem okR_in_line (TX : Tx mg f)
    {fd_in_line : FuncData} {cd_in_line p_in_line : Addr} (F_in_line : FunC K "in_line" "in_line" st_in_line (f "in_line") fd_in_line cd_in_line) (TB_in_line : GxR.TabB base mg cd_in_line p_in_line) (hP_in_line : p_in_line ∈ T) (k_in_line : PySem.W.keepIn K (.ref (f "in_line")) = true) (B_in_line : Binds K fd_in_line ["kind"] [])
    {fd_are_points_in_line : FuncData} (G_are_points_in_line : FnG P w K mg base 3 (f "are_points_in_line") fd_are_points_in_line ["many", "ties"] (spD K T r_are_points_in_line)) (k_are_points_in_line : PySem.W.keepIn K (.ref (f "are_points_in_line")) = true) (B_are_points_in_line : Binds K fd_are_points_in_line ["many", "ties"] [])
    {fd_is_table_in_line : FuncData} (G_is_table_in_line : FnG P w K mg base 2 (f "is_table_in_line") fd_is_table_in_line ["rows"] (spD K T r_is_table_in_line)) (k_is_table_in_line : PySem.W.keepIn K (.ref (f "is_table_in_line")) = true) (B_is_table_in_line : Binds K fd_is_table_in_line ["rows"] [])
    {fd_single : FuncData} (G_single : ∀ m, FnG P w K mg base (2 + 2 * m) (f "single") fd_single ["kind"] (spD K T (r_single m))) (k_single : PySem.W.keepIn K (.ref (f "single")) = true) (B_single : Binds K fd_single ["kind"] []) :
    ∀ m, FnG P w K mg base (28 + 2 * m) (f "in_line") fd_in_line ["kind"] (spD K T (r_in_line m)) := by
  intro m
  induction m with
  | zero => exact fn_never (by rfl)
  | succ m ih =>
    have G_in_line := ih
    · refine Ev.FnG.mono (fnDC1 (k := 28 + 2 * m + 1) (g := g_in_line (r_in_line m)) (by rfl) F_in_line sc_in_line rfl rfl fun A outer s H hr hgd => ?_) (by omega)
      unfold g_in_line
      exact (es_cons (es_asg (ev_ix ix_seq val_ix (ev_var (pv 0)) ev_int (fun _ _ => rfl)) (pg_name (i := 1) sc_in_line.nd rfl (by first | exact Or.inl rfl | exact Or.inr (Or.inl rfl) | exact Or.inr rfl)) (eg_name (by decide)))
      (es_cons (es_if (et_cmp (op_eqD hr.units) val_eq (ev_var (pv 1)) ev_str (nomark _)) (es_one (es_ret (ev_call G_are_points_in_line (hr.mono (by omega)) hgd rfl (TX.fn "are_points_in_line" (by decide)) k_are_points_in_line B_are_points_in_line (ea_cons (ev_ix ix_seq val_ix (ev_var (pv 0)) ev_int (fun _ _ => rfl)) (ea_cons (ev_ix ix_seq val_ix (ev_var (pv 0)) ev_int (fun _ _ => rfl)) ea_nil))))) es_nil)
      (es_cons (es_if (et_cmp (op_eqD hr.units) val_eq (ev_var (pv 1)) ev_str (nomark _)) (es_one (es_ret (ev_call G_is_table_in_line (hr.mono (by omega)) hgd rfl (TX.fn "is_table_in_line" (by decide)) k_is_table_in_line B_is_table_in_line (ea_cons (ev_ix ix_seq val_ix (ev_var (pv 0)) ev_int (fun _ _ => rfl)) ea_nil)))) es_nil)
      (es_cons (es_if (et_cmp (op_eqD hr.units) val_eq (ev_var (pv 1)) ev_str (nomark _)) (es_one (es_ret (ev_call (G_single 12) (hr.mono (by omega)) hgd rfl (TX.fn "single" (by decide)) k_single B_single (ea_cons (ev_var (pv 0)) ea_nil)))) es_nil)
      (es_cons (es_if (et_cmp (op_eqD hr.units) val_eq (ev_var (pv 1)) ev_str (nomark _)) (es_cons (es_asg (ev_slice (ev_var (pv 0)) (eo_some ev_int) eo_none) (pg_name (i := 2) sc_in_line.nd rfl (by first | exact Or.inl rfl | exact Or.inr (Or.inl rfl) | exact Or.inr rfl)) (eg_name (by decide)))
      (es_one (es_ret (ev_and (ev_all (k := (28 + 2 * m + 0)) (ix := 3) hP_in_line (hr.mono (by omega)) rfl (TX.bl "all" (by decide)) TB_in_line rfl (gscp_by (by first | (change gscpC N_in_line (defScope st_in_line) _ _ _ = true; decide +kernel) | (change gscpC N_in_line (relS _ (defScope st_in_line)) _ _ _ = true; decide +kernel))) (ei_seq (ev_var (pv 2))) (fun _ _ _ _ _ => pg_name (i := 3) sc_in_line.nd rfl (by first | exact Or.inl rfl | exact Or.inr (Or.inl rfl) | exact Or.inr rfl)) (fun _ _ _ _ _ hr => (ev_call G_in_line (hr.mono (by omega)) hgd rfl (TX.fn "in_line" (by decide)) k_in_line B_in_line (ea_cons (ev_var (pv 3)) ea_nil))) (fun _ => rfl)) (ev_one (ev_any (k := (28 + 2 * m + 0)) (ix := 3) hP_in_line (hr.mono (by omega)) rfl (TX.bl "any" (by decide)) TB_in_line rfl (gscp_by (by first | (change gscpC N_in_line (defScope st_in_line) _ _ _ = true; decide +kernel) | (change gscpC N_in_line (relS _ (defScope st_in_line)) _ _ _ = true; decide +kernel))) (ei_seq (ev_var (pv 2))) (fun _ _ _ _ _ => pg_name (i := 3) sc_in_line.nd rfl (by first | exact Or.inl rfl | exact Or.inr (Or.inl rfl) | exact Or.inr rfl)) (fun _ _ _ _ _ hr => (ev_call (G_single 12) (hr.mono (by omega)) hgd rfl (TX.fn "single" (by decide)) k_single B_single (ea_cons (ev_var (pv 3)) ea_nil))) (fun _ => rfl))))))) es_nil)
      (es_one (es_ret (ev_or (ev_cmp (op_inD hr.u66') val_in (ev_var (pv 1)) (ev_tup (ea_cons ev_str (ea_cons ev_str ea_nil))) (by rfl)) (ev_one (ev_all (k := (28 + 2 * m + 0)) (ix := 3) hP_in_line (hr.mono (by omega)) rfl (TX.bl "all" (by decide)) TB_in_line rfl (gscp_by (by first | (change gscpC N_in_line (defScope st_in_line) _ _ _ = true; decide +kernel) | (change gscpC N_in_line (relS _ (defScope st_in_line)) _ _ _ = true; decide +kernel))) (ei_seq (ev_slice (ev_var (pv 0)) (eo_some ev_int) eo_none)) (fun _ _ _ _ _ => pg_name (i := 3) sc_in_line.nd rfl (by first | exact Or.inl rfl | exact Or.inr (Or.inl rfl) | exact Or.inr rfl)) (fun _ _ _ _ _ hr => (ev_call G_in_line (hr.mono (by omega)) hgd rfl (TX.fn "in_line" (by decide)) k_in_line B_in_line (ea_cons (ev_var (pv 3)) ea_nil))) (fun _ => rfl)))))))))))
abbrev N_is_list : List Str := ["value"]
theorem sc_is_list : FnScope N_is_list ["value"] (defScope st_is_list) := ⟨rfl, rfl, rfl, by decide +kernel, rfl, by decide +kernel, by decide +kernel⟩
theorem ok_is_list {a : Addr} {fd : FuncData} (TX : Tx mg f) (F : Fun K "is_list" "is_list" st_is_list a fd) :
    FnG P w K mg base 1 a fd ["value"] (spD K T r_is_list) :=
  fnD1 (g := g_is_list) rfl F sc_is_list rfl rfl fun cdv A outer s H hr hgd => by
    unfold g_is_list
    exact (es_one (es_ret (ev_isiT rfl (TX.bl "isinstance" (by decide)) (Ev.pe_ty rfl (TX.bl "list" (by decide)) (by decide +kernel)) (Ev.pe_ty rfl (TX.bl "tuple" (by decide)) (by decide +kernel)) (ev_var (pv 0)))))
abbrev N_is_integer : List Str := ["value"]
theorem sc_is_integer : FnScope N_is_integer ["value"] (defScope st_is_integer) := ⟨rfl, rfl, rfl, by decide +kernel, rfl, by decide +kernel, by decide +kernel⟩
theorem ok_is_integer {a : Addr} {fd : FuncData} (TX : Tx mg f) (F : Fun K "is_integer" "is_integer" st_is_integer a fd) :
    FnG P w K mg base 1 a fd ["value"] (spD K T r_is_integer) :=
  fnD1 (g := g_is_integer) rfl F sc_is_integer rfl rfl fun cdv A outer s H hr hgd => by
    unfold g_is_integer
    exact (es_one (es_ret (ev_and (ev_isi (b := isIB) kit_int rfl (TX.bl "isinstance" (by decide)) (Ev.pe_ty rfl (TX.bl "int" (by decide)) (by decide +kernel)) (ev_var (pv 0))) (ev_one (ev_not (ev_isi (b := isB) kit_bool rfl (TX.bl "isinstance" (by decide)) (Ev.pe_ty rfl (TX.bl "bool" (by decide)) (by decide +kernel)) (ev_var (pv 0))))))))
abbrev N_is_count : List Str := ["value"]
theorem sc_is_count : FnScope N_is_count ["value"] (defScope st_is_count) := ⟨rfl, rfl, rfl, by decide +kernel, rfl, by decide +kernel, by decide +kernel⟩
theorem ok_is_count {a : Addr} {fd : FuncData} (TX : Tx mg f) (F : Fun K "is_count" "is_count" st_is_count a fd)
    {fd_is_integer : FuncData} (G_is_integer : FnG P w K mg base 1 (f "is_integer") fd_is_integer ["value"] (spD K T r_is_integer)) (k_is_integer : PySem.W.keepIn K (.ref (f "is_integer")) = true) (B_is_integer : Binds K fd_is_integer ["value"] []) :
    FnG P w K mg base 2 a fd ["value"] (spD K T r_is_count) :=
  fnD1 (g := g_is_count) rfl F sc_is_count rfl rfl fun cdv A outer s H hr hgd => by
    unfold g_is_count
    exact (es_one (es_ret (ev_and (ev_call G_is_integer (hr.mono (by decide)) hgd rfl (TX.fn "is_integer" (by decide)) k_is_integer B_is_integer (ea_cons (ev_var (pv 0)) ea_nil)) (ev_one (ev_cmp op_ge val_ge (ev_var (pv 0)) ev_int (nomark _))))))
abbrev N_is_count_below : List Str := ["value", "bound"]
theorem sc_is_count_below : FnScope N_is_count_below ["value", "bound"] (defScope st_is_count_below) := ⟨rfl, rfl, rfl, by decide +kernel, rfl, by decide +kernel, by decide +kernel⟩
theorem ok_is_count_below {a : Addr} {fd : FuncData} (TX : Tx mg f) (F : Fun K "is_count_below" "is_count_below" st_is_count_below a fd)
    {fd_is_count : FuncData} (G_is_count : FnG P w K mg base 2 (f "is_count") fd_is_count ["value"] (spD K T r_is_count)) (k_is_count : PySem.W.keepIn K (.ref (f "is_count")) = true) (B_is_count : Binds K fd_is_count ["value"] []) :
    FnG P w K mg base 3 a fd ["value", "bound"] (spD K T r_is_count_below) :=
  fnD1 (g := g_is_count_below) rfl F sc_is_count_below rfl rfl fun cdv A outer s H hr hgd => by
    unfold g_is_count_below
    exact (es_one (es_ret (ev_and (ev_call G_is_count (hr.mono (by decide)) hgd rfl (TX.fn "is_count" (by decide)) k_is_count B_is_count (ea_cons (ev_var (pv 0)) ea_nil)) (ev_one (ev_cmp Ev.op_ltQ val_lt (ev_var (pv 0)) (ev_var (pv 1)) (nomark _))))))
abbrev N_is_row : List Str := ["value", "many", "number"]
theorem sc_is_row : FnScope N_is_row ["value", "many"] (defScope st_is_row) := ⟨rfl, rfl, rfl, by decide +kernel, rfl, by decide +kernel, by decide +kernel⟩
theorem ok_is_row {a c p : Addr} {fd : FuncData} (TX : Tx mg f) (F : FunC K "is_row" "is_row" st_is_row a fd c) (TB : GxR.TabB base mg c p) (hP : p ∈ T)
    {fd_is_list : FuncData} (G_is_list : FnG P w K mg base 1 (f "is_list") fd_is_list ["value"] (spD K T r_is_list)) (k_is_list : PySem.W.keepIn K (.ref (f "is_list")) = true) (B_is_list : Binds K fd_is_list ["value"] [])
    {fd_is_count_below : FuncData} (G_is_count_below : FnG P w K mg base 3 (f "is_count_below") fd_is_count_below ["value", "bound"] (spD K T r_is_count_below)) (k_is_count_below : PySem.W.keepIn K (.ref (f "is_count_below")) = true) (B_is_count_below : Binds K fd_is_count_below ["value", "bound"] []) :
    FnG P w K mg base 5 a fd ["value", "many"] (spD K T r_is_row) :=
  fnDC1 (g := g_is_row) rfl F sc_is_row rfl rfl fun A outer s H hr hgd => by
    unfold g_is_row
    exact (es_cons (es_if (PW.pt (ew_or (et_not (et_val (ev_call G_is_list (hr.mono (by decide)) hgd rfl (TX.fn "is_list" (by decide)) k_is_list B_is_list (ea_cons (ev_var (pv 0)) ea_nil)))) (ew_or1 (et_cmp (op_neD hr.units) val_ne (ev_blt call_len val_len rfl (TX.bl "len" (by decide)) (by decide +kernel) (ea_cons (ev_var (pv 0)) ea_nil)) (ev_var (pv 1)) (nomark _))))) (es_one (es_ret ev_bl)) es_nil)
      (es_one (es_ret (ev_all (k := 3) (ix := 2) hP (hr.mono (by decide)) rfl (TX.bl "all" (by decide)) TB rfl (gscp_by (by first | (change gscpC N_is_row (defScope st_is_row) _ _ _ = true; decide +kernel) | (change gscpC N_is_row (relS _ (defScope st_is_row)) _ _ _ = true; decide +kernel))) (ei_seq (ev_var (pv 0))) (fun _ _ _ _ _ => pg_name (i := 2) sc_is_row.nd rfl (by first | exact Or.inl rfl | exact Or.inr (Or.inl rfl) | exact Or.inr rfl)) (fun _ _ _ _ _ hr => (ev_call G_is_count_below (hr.mono (by decide)) hgd rfl (TX.fn "is_count_below" (by decide)) k_is_count_below B_is_count_below (ea_cons (ev_var (pv 2)) (ea_cons (ev_var (pv 1)) ea_nil)))) (fun _ => rfl)))))
abbrev N_has_table_form : List Str := ["value", "row"]
theorem sc_has_table_form : FnScope N_has_table_form ["value"] (defScope st_has_table_form) := ⟨rfl, rfl, rfl, by decide +kernel, rfl, by decide +kernel, by decide +kernel⟩
theorem ok_has_table_form {a c p : Addr} {fd : FuncData} (TX : Tx mg f) (F : FunC K "has_table_form" "has_table_form" st_has_table_form a fd c) (TB : GxR.TabB base mg c p) (hP : p ∈ T) {t_MOST_STATES : Tok} (c_MOST_STATES : mg "MOST_STATES" = some (.int 8 t_MOST_STATES))
    {fd_is_list : FuncData} (G_is_list : FnG P w K mg base 1 (f "is_list") fd_is_list ["value"] (spD K T r_is_list)) (k_is_list : PySem.W.keepIn K (.ref (f "is_list")) = true) (B_is_list : Binds K fd_is_list ["value"] [])
    {fd_is_row : FuncData} (G_is_row : FnG P w K mg base 5 (f "is_row") fd_is_row ["value", "many"] (spD K T r_is_row)) (k_is_row : PySem.W.keepIn K (.ref (f "is_row")) = true) (B_is_row : Binds K fd_is_row ["value", "many"] []) :
    FnG P w K mg base 7 a fd ["value"] (spD K T r_has_table_form) :=
  fnDC1 (g := g_has_table_form) rfl F sc_has_table_form rfl rfl fun A outer s H hr hgd => by
    unfold g_has_table_form
    exact (es_cons (es_if (PW.pt (ew_or (et_not (et_val (ev_call G_is_list (hr.mono (by decide)) hgd rfl (TX.fn "is_list" (by decide)) k_is_list B_is_list (ea_cons (ev_var (pv 0)) ea_nil)))) (ew_or1 (et_not (et_chain Ev.op_leQ val_le Ev.op_leQ val_le ev_int (ev_blt call_len val_len rfl (TX.bl "len" (by decide)) (by decide +kernel) (ea_cons (ev_var (pv 0)) ea_nil)) (ev_glob rfl c_MOST_STATES)))))) (es_one (es_ret ev_bl)) es_nil)
      (es_one (es_ret (ev_all (k := 5) (ix := 1) hP (hr.mono (by decide)) rfl (TX.bl "all" (by decide)) TB rfl (gscp_by (by first | (change gscpC N_has_table_form (defScope st_has_table_form) _ _ _ = true; decide +kernel) | (change gscpC N_has_table_form (relS _ (defScope st_has_table_form)) _ _ _ = true; decide +kernel))) (ei_seq (ev_var (pv 0))) (fun _ _ _ _ _ => pg_name (i := 1) sc_has_table_form.nd rfl (by first | exact Or.inl rfl | exact Or.inr (Or.inl rfl) | exact Or.inr rfl)) (fun _ _ _ _ _ hr => (ev_call G_is_row (hr.mono (by decide)) hgd rfl (TX.fn "is_row" (by decide)) k_is_row B_is_row (ea_cons (ev_var (pv 1)) (ea_cons (ev_blt call_len val_len rfl (TX.bl "len" (by decide)) (by decide +kernel) (ea_cons (ev_var (pv 0)) ea_nil)) ea_nil)))) (fun _ => rfl)))))
abbrev N_keeps_join_rules : List Str := ["rows", "states", "one", "other", "third"]
theorem sc_keeps_join_rules : FnScope N_keeps_join_rules ["rows"] (defScope st_keeps_join_rules) := ⟨rfl, rfl, rfl, by decide +kernel, rfl, by decide +kernel, by decide +kernel⟩
theorem ok_keeps_join_rules {a : Addr} {fd : FuncData} (TX : Tx mg f) (F : Fun K "keeps_join_rules" "keeps_join_rules" st_keeps_join_rules a fd) :
    FnG P w K mg base 1 a fd ["rows"] (spD K T r_keeps_join_rules) :=
  fnD1 (g := g_keeps_join_rules) rfl F sc_keeps_join_rules rfl rfl fun cdv A outer s H hr hgd => by
    unfold g_keeps_join_rules
    exact (es_cons (es_asgRg rfl (TX.bl "range" (by decide)) (ev_blt call_len val_len rfl (TX.bl "len" (by decide)) (by decide +kernel) (ea_cons (ev_var (pv 0)) ea_nil)) (pg_name (i := 1) sc_keeps_join_rules.nd rfl (by first | exact Or.inl rfl | exact Or.inr (Or.inl rfl) | exact Or.inr rfl)) (by decide))
      (es_cons (es_for PassesOwn.never rfl (ei_rng (pv 1)) (pg_name (i := 2) sc_keeps_join_rules.nd rfl (by first | exact Or.inl rfl | exact Or.inr (Or.inl rfl) | exact Or.inr rfl)) (eg_name (by decide)) (es_cons (es_if (PW.pt (ew_or (et_cmp (op_neD hr.units) val_ne (ev_ix ix_seq val_ix (ev_ix ix_seq val_ix (ev_var (pv 0)) (ev_var (pv 2)) (fun _ _ => rfl)) (ev_var (pv 2)) (fun _ _ => rfl)) (ev_var (pv 2)) (nomark _)) (ew_or1 (et_cmp (op_neD hr.units) val_ne (ev_ix ix_seq val_ix (ev_ix ix_seq val_ix (ev_var (pv 0)) (ev_var (pv 2)) (fun _ _ => rfl)) ev_int (fun _ _ => rfl)) (ev_var (pv 2)) (nomark _))))) (es_one (es_ret ev_bl)) es_nil)
      (es_one (es_for PassesOwn.never rfl (ei_rng (pv 1)) (pg_name (i := 3) sc_keeps_join_rules.nd rfl (by first | exact Or.inl rfl | exact Or.inr (Or.inl rfl) | exact Or.inr rfl)) (eg_name (by decide)) (es_cons (es_if (et_cmp (op_neD hr.units) val_ne (ev_ix ix_seq val_ix (ev_ix ix_seq val_ix (ev_var (pv 0)) (ev_var (pv 2)) (fun _ _ => rfl)) (ev_var (pv 3)) (fun _ _ => rfl)) (ev_ix ix_seq val_ix (ev_ix ix_seq val_ix (ev_var (pv 0)) (ev_var (pv 3)) (fun _ _ => rfl)) (ev_var (pv 2)) (fun _ _ => rfl)) (nomark _)) (es_one (es_ret ev_bl)) es_nil)
      (es_one (es_for PassesOwn.never rfl (ei_rng (pv 1)) (pg_name (i := 4) sc_keeps_join_rules.nd rfl (by first | exact Or.inl rfl | exact Or.inr (Or.inl rfl) | exact Or.inr rfl)) (eg_name (by decide)) (es_one (es_if (et_cmp (op_neD hr.units) val_ne (ev_ix ix_seq val_ix (ev_ix ix_seq val_ix (ev_var (pv 0)) (ev_ix ix_seq val_ix (ev_ix ix_seq val_ix (ev_var (pv 0)) (ev_var (pv 2)) (fun _ _ => rfl)) (ev_var (pv 3)) (fun _ _ => rfl)) (fun _ _ => rfl)) (ev_var (pv 4)) (fun _ _ => rfl)) (ev_ix ix_seq val_ix (ev_ix ix_seq val_ix (ev_var (pv 0)) (ev_var (pv 2)) (fun _ _ => rfl)) (ev_ix ix_seq val_ix (ev_ix ix_seq val_ix (ev_var (pv 0)) (ev_var (pv 3)) (fun _ _ => rfl)) (ev_var (pv 4)) (fun _ _ => rfl)) (fun _ _ => rfl)) (nomark _)) (es_one (es_ret ev_bl)) es_nil)))))))))
      (es_one (es_ret ev_bl))))
abbrev N_is_table : List Str := ["value"]
theorem sc_is_table : FnScope N_is_table ["value"] (defScope st_is_table) := ⟨rfl, rfl, rfl, by decide +kernel, rfl, by decide +kernel, by decide +kernel⟩
theorem ok_is_table {a : Addr} {fd : FuncData} (TX : Tx mg f) (F : Fun K "is_table" "is_table" st_is_table a fd)
    {fd_has_table_form : FuncData} (G_has_table_form : FnG P w K mg base 7 (f "has_table_form") fd_has_table_form ["value"] (spD K T r_has_table_form)) (k_has_table_form : PySem.W.keepIn K (.ref (f "has_table_form")) = true) (B_has_table_form : Binds K fd_has_table_form ["value"] [])
    {fd_keeps_join_rules : FuncData} (G_keeps_join_rules : FnG P w K mg base 1 (f "keeps_join_rules") fd_keeps_join_rules ["rows"] (spD K T r_keeps_join_rules)) (k_keeps_join_rules : PySem.W.keepIn K (.ref (f "keeps_join_rules")) = true) (B_keeps_join_rules : Binds K fd_keeps_join_rules ["rows"] []) :
    FnG P w K mg base 8 a fd ["value"] (spD K T r_is_table) :=
  fnD1 (g := g_is_table) rfl F sc_is_table rfl rfl fun cdv A outer s H hr hgd => by
    unfold g_is_table
    exact (es_one (es_ret (ev_and (ev_call G_has_table_form (hr.mono (by decide)) hgd rfl (TX.fn "has_table_form" (by decide)) k_has_table_form B_has_table_form (ea_cons (ev_var (pv 0)) ea_nil)) (ev_one (ev_call G_keeps_join_rules (hr.mono (by decide)) hgd rfl (TX.fn "keeps_join_rules" (by decide)) k_keeps_join_rules B_keeps_join_rules (ea_cons (ev_var (pv 0)) ea_nil))))))
abbrev N_check_table : List Str := ["table"]
theorem sc_check_table : FnScope N_check_table ["table"] (defScope st_check_table) := ⟨rfl, rfl, rfl, by decide +kernel, rfl, by decide +kernel, by decide +kernel⟩
theorem ok_check_table {a : Addr} {fd : FuncData} (TX : Tx mg f) (F : Fun K "check_table" "check_table" st_check_table a fd)
    {fd_is_table : FuncData} (G_is_table : FnG P w K mg base 8 (f "is_table") fd_is_table ["value"] (spD K T r_is_table)) (k_is_table : PySem.W.keepIn K (.ref (f "is_table")) = true) (B_is_table : Binds K fd_is_table ["value"] []) :
    FnG P w K mg base 9 a fd ["table"] (spD K T r_check_table) :=
  fnD1 (g := g_check_table) rfl F sc_check_table rfl rfl fun cdv A outer s H hr hgd => by
    unfold g_check_table
    exact (es_one (es_if (et_not (et_val (ev_call G_is_table (hr.mono (by decide)) hgd rfl (TX.fn "is_table" (by decide)) k_is_table B_is_table (ea_cons (ev_var (pv 0)) ea_nil)))) (es_one es_never) es_nil))
abbrev N_without : List Str := ["numbers", "number", "each"]
theorem sc_without : FnScope N_without ["numbers", "number"] (defScope st_without) := ⟨rfl, rfl, rfl, by decide +kernel, rfl, by decide +kernel, by decide +kernel⟩
theorem ok_without {a : Addr} {fd : FuncData} (TX : Tx mg f) (F : Fun K "without" "without" st_without a fd) :
    FnG P w K mg base 1 a fd ["numbers", "number"] (spD K T r_without) :=
  fnD1 (g := g_without) rfl F sc_without rfl rfl fun cdv A outer s H hr hgd => by
    unfold g_without
    exact (es_one (es_ret (ev_lc (own := [("each", 2)]) rfl sc_without.nd (ei_seq (ev_var (pv 0))) (blkOk_by (by first | (change blkC N_without (defScope st_without) _ _ = true; decide +kernel) | (change blkC N_without (relS _ (defScope st_without)) _ _ = true; decide +kernel))) (fun _ _ _ _ _ => by exact (pg_name (i := 2) sc_without.nd rfl (by first | exact Or.inl rfl | exact Or.inr (Or.inl rfl) | exact Or.inr rfl))) (egb_name (by decide)) (fun _ _ _ _ _ => by exact (ets_one (et_cmp (op_neD hr.units) val_ne (ev_var (pv 2)) (ev_var (pv 1)) (nomark _)))) (fun _ _ _ _ _ => by exact (ev_var (pv 2))))))
abbrev N_lies_within : List Str := ["table", "one", "other"]
theorem sc_lies_within : FnScope N_lies_within ["table", "one", "other"] (defScope st_lies_within) := ⟨rfl, rfl, rfl, by decide +kernel, rfl, by decide +kernel, by decide +kernel⟩
theorem ok_lies_within {a : Addr} {fd : FuncData} (TX : Tx mg f) (F : Fun K "lies_within" "lies_within" st_lies_within a fd) :
    FnG P w K mg base 1 a fd ["table", "one", "other"] (spD K T r_lies_within) :=
  fnD1 (g := g_lies_within) rfl F sc_lies_within rfl rfl fun cdv A outer s H hr hgd => by
    unfold g_lies_within
    exact (es_one (es_ret (ev_cmp (op_eqD hr.units) val_eq (ev_ix ix_seq val_ix (ev_ix ix_seq val_ix (ev_var (pv 0)) (ev_var (pv 1)) (fun _ _ => rfl)) (ev_var (pv 2)) (fun _ _ => rfl)) (ev_var (pv 2)) (nomark _))))
abbrev N_states_within : List Str := ["table", "number", "state"]
theorem sc_states_within : FnScope N_states_within ["table", "number"] (defScope st_states_within) := ⟨rfl, rfl, rfl, by decide +kernel, rfl, by decide +kernel, by decide +kernel⟩
theorem ok_states_within {a : Addr} {fd : FuncData} (TX : Tx mg f) (F : Fun K "states_within" "states_within" st_states_within a fd)
    {fd_lies_within : FuncData} (G_lies_within : FnG P w K mg base 1 (f "lies_within") fd_lies_within ["table", "one", "other"] (spD K T r_lies_within)) (k_lies_within : PySem.W.keepIn K (.ref (f "lies_within")) = true) (B_lies_within : Binds K fd_lies_within ["table", "one", "other"] []) :
    FnG P w K mg base 2 a fd ["table", "number"] (spD K T r_states_within) :=
  fnD1 (g := g_states_within) rfl F sc_states_within rfl rfl fun cdv A outer s H hr hgd => by
    unfold g_states_within
    exact (es_one (es_ret (ev_lc (own := [("state", 2)]) rfl sc_states_within.nd (ei_range1 rfl (TX.bl "range" (by decide)) (ea_cons (ev_blt call_len val_len rfl (TX.bl "len" (by decide)) (by decide +kernel) (ea_cons (ev_var (pv 0)) ea_nil)) ea_nil)) (blkOk_by (by first | (change blkC N_states_within (defScope st_states_within) _ _ = true; decide +kernel) | (change blkC N_states_within (relS _ (defScope st_states_within)) _ _ = true; decide +kernel))) (fun _ _ _ _ _ => by exact (pg_name (i := 2) sc_states_within.nd rfl (by first | exact Or.inl rfl | exact Or.inr (Or.inl rfl) | exact Or.inr rfl))) (egb_name (by decide)) (fun _ _ _ _ _ => by exact (ets_one (et_val (ev_call G_lies_within (hr.mono (by decide)) hgd rfl (TX.fn "lies_within" (by decide)) k_lies_within B_lies_within (ea_cons (ev_var (pv 0)) (ea_cons (ev_var (pv 2)) (ea_cons (ev_var (pv 1)) ea_nil))))))) (fun _ _ _ _ _ => by exact (ev_var (pv 2))))))
abbrev N_is_part_in : List Str := ["table", "number", "lesser", "met", "one", "other"]
theorem sc_is_part_in : FnScope N_is_part_in ["table", "number"] (defScope st_is_part_in) := ⟨rfl, rfl, rfl, by decide +kernel, rfl, by decide +kernel, by decide +kernel⟩
theorem ok_is_part_in {a c p : Addr} {fd : FuncData} (TX : Tx mg f) (F : FunC K "is_part_in" "is_part_in" st_is_part_in a fd c) (TB : GxR.TabB base mg c p) (hP : p ∈ T)
    {fd_without : FuncData} (G_without : FnG P w K mg base 1 (f "without") fd_without ["numbers", "number"] (spD K T r_without)) (k_without : PySem.W.keepIn K (.ref (f "without")) = true) (B_without : Binds K fd_without ["numbers", "number"] [])
    {fd_states_within : FuncData} (G_states_within : FnG P w K mg base 2 (f "states_within") fd_states_within ["table", "number"] (spD K T r_states_within)) (k_states_within : PySem.W.keepIn K (.ref (f "states_within")) = true) (B_states_within : Binds K fd_states_within ["table", "number"] []) :
    FnG P w K mg base 4 a fd ["table", "number"] (spD K T r_is_part_in) :=
  fnDC1 (g := g_is_part_in) rfl F sc_is_part_in rfl rfl fun A outer s H hr hgd => by
    unfold g_is_part_in
    exact (es_cons (es_asg (ev_call G_without (hr.mono (by decide)) hgd rfl (TX.fn "without" (by decide)) k_without B_without (ea_cons (ev_call G_states_within (hr.mono (by decide)) hgd rfl (TX.fn "states_within" (by decide)) k_states_within B_states_within (ea_cons (ev_var (pv 0)) (ea_cons (ev_var (pv 1)) ea_nil))) (ea_cons (ev_var (pv 1)) ea_nil))) (pg_name (i := 2) sc_is_part_in.nd rfl (by first | exact Or.inl rfl | exact Or.inr (Or.inl rfl) | exact Or.inr rfl)) (eg_name (by decide)))
      (es_cons (es_asg (ev_any2 (k := 2) (own := [("one", 4), ("other", 5)]) hP (hr.mono (by decide)) rfl (TX.bl "any" (by decide)) TB rfl (gscL_by (by first | (change gscLC N_is_part_in (defScope st_is_part_in) _ _ = true; decide +kernel) | (change gscLC N_is_part_in (relS _ (defScope st_is_part_in)) _ _ = true; decide +kernel))) (ei_seq (ev_var (pv 2))) (fun _ _ _ _ _ => by exact (pg_name (i := 4) sc_is_part_in.nd rfl (by first | exact Or.inl rfl | exact Or.inr (Or.inl rfl) | exact Or.inr rfl))) (egb_name (by decide)) (fun _ _ _ _ _ hr => by exact (ei_seq (ev_var (pv 2)))) (fun _ _ _ _ _ => by exact (pg_name (i := 5) sc_is_part_in.nd rfl (by first | exact Or.inl rfl | exact Or.inr (Or.inl rfl) | exact Or.inr rfl))) (egb_name (by decide)) (fun _ _ _ _ _ hr => by exact (ev_cmp (op_eqD hr.units) val_eq (ev_ix ix_seq val_ix (ev_ix ix_seq val_ix (ev_var (pv 0)) (ev_var (pv 4)) (fun _ _ => rfl)) (ev_var (pv 5)) (fun _ _ => rfl)) (ev_var (pv 1)) (nomark _))) (fun _ => rfl) (fun _ _ => rfl)) (pg_name (i := 3) sc_is_part_in.nd rfl (by first | exact Or.inl rfl | exact Or.inr (Or.inl rfl) | exact Or.inr rfl)) (eg_name (by decide)))
      (es_one (es_ret (ev_and (ev_cmp (op_neD hr.units) val_ne (ev_var (pv 1)) ev_int (nomark _)) (ev_one (ev_not (ev_var (pv 3)))))))))
abbrev N_parts_in : List Str := ["table", "number"]
theorem sc_parts_in : FnScope N_parts_in ["table"] (defScope st_parts_in) := ⟨rfl, rfl, rfl, by decide +kernel, rfl, by decide +kernel, by decide +kernel⟩
theorem ok_parts_in {a : Addr} {fd : FuncData} (TX : Tx mg f) (F : Fun K "parts_in" "parts_in" st_parts_in a fd)
    {fd_is_part_in : FuncData} (G_is_part_in : FnG P w K mg base 4 (f "is_part_in") fd_is_part_in ["table", "number"] (spD K T r_is_part_in)) (k_is_part_in : PySem.W.keepIn K (.ref (f "is_part_in")) = true) (B_is_part_in : Binds K fd_is_part_in ["table", "number"] []) :
    FnG P w K mg base 5 a fd ["table"] (spD K T r_parts_in) :=
  fnD1 (g := g_parts_in) rfl F sc_parts_in rfl rfl fun cdv A outer s H hr hgd => by
    unfold g_parts_in
    exact (es_one (es_ret (ev_lc (own := [("number", 1)]) rfl sc_parts_in.nd (ei_range1 rfl (TX.bl "range" (by decide)) (ea_cons (ev_blt call_len val_len rfl (TX.bl "len" (by decide)) (by decide +kernel) (ea_cons (ev_var (pv 0)) ea_nil)) ea_nil)) (blkOk_by (by first | (change blkC N_parts_in (defScope st_parts_in) _ _ = true; decide +kernel) | (change blkC N_parts_in (relS _ (defScope st_parts_in)) _ _ = true; decide +kernel))) (fun _ _ _ _ _ => by exact (pg_name (i := 1) sc_parts_in.nd rfl (by first | exact Or.inl rfl | exact Or.inr (Or.inl rfl) | exact Or.inr rfl))) (egb_name (by decide)) (fun _ _ _ _ _ => by exact (ets_one (et_val (ev_call G_is_part_in (hr.mono (by decide)) hgd rfl (TX.fn "is_part_in" (by decide)) k_is_part_in B_is_part_in (ea_cons (ev_var (pv 0)) (ea_cons (ev_var (pv 1)) ea_nil)))))) (fun _ _ _ _ _ => by exact (ev_var (pv 1))))))
abbrev N_parts_below : List Str := ["table", "number", "part"]
theorem sc_parts_below : FnScope N_parts_below ["table", "number"] (defScope st_parts_below) := ⟨rfl, rfl, rfl, by decide +kernel, rfl, by decide +kernel, by decide +kernel⟩
theorem ok_parts_below {a : Addr} {fd : FuncData} (TX : Tx mg f) (F : Fun K "parts_below" "parts_below" st_parts_below a fd)
    {fd_parts_in : FuncData} (G_parts_in : FnG P w K mg base 5 (f "parts_in") fd_parts_in ["table"] (spD K T r_parts_in)) (k_parts_in : PySem.W.keepIn K (.ref (f "parts_in")) = true) (B_parts_in : Binds K fd_parts_in ["table"] [])
    {fd_lies_within : FuncData} (G_lies_within : FnG P w K mg base 1 (f "lies_within") fd_lies_within ["table", "one", "other"] (spD K T r_lies_within)) (k_lies_within : PySem.W.keepIn K (.ref (f "lies_within")) = true) (B_lies_within : Binds K fd_lies_within ["table", "one", "other"] []) :
    FnG P w K mg base 6 a fd ["table", "number"] (spD K T r_parts_below) :=
  fnD1 (g := g_parts_below) rfl F sc_parts_below rfl rfl fun cdv A outer s H hr hgd => by
    unfold g_parts_below
    exact (es_one (es_ret (ev_lc (own := [("part", 2)]) rfl sc_parts_below.nd (ei_seq (ev_call G_parts_in (hr.mono (by decide)) hgd rfl (TX.fn "parts_in" (by decide)) k_parts_in B_parts_in (ea_cons (ev_var (pv 0)) ea_nil))) (blkOk_by (by first | (change blkC N_parts_below (defScope st_parts_below) _ _ = true; decide +kernel) | (change blkC N_parts_below (relS _ (defScope st_parts_below)) _ _ = true; decide +kernel))) (fun _ _ _ _ _ => by exact (pg_name (i := 2) sc_parts_below.nd rfl (by first | exact Or.inl rfl | exact Or.inr (Or.inl rfl) | exact Or.inr rfl))) (egb_name (by decide)) (fun _ _ _ _ _ => by exact (ets_one (et_val (ev_call G_lies_within (hr.mono (by decide)) hgd rfl (TX.fn "lies_within" (by decide)) k_lies_within B_lies_within (ea_cons (ev_var (pv 0)) (ea_cons (ev_var (pv 2)) (ea_cons (ev_var (pv 1)) ea_nil))))))) (fun _ _ _ _ _ => by exact (ev_var (pv 2))))))
abbrev N_joined_numbers : List Str := ["table", "numbers", "total", "number"]
theorem sc_joined_numbers : FnScope N_joined_numbers ["table", "numbers"] (defScope st_joined_numbers) := ⟨rfl, rfl, rfl, by decide +kernel, rfl, by decide +kernel, by decide +kernel⟩
theorem ok_joined_numbers {a : Addr} {fd : FuncData} (TX : Tx mg f) (F : Fun K "joined_numbers" "joined_numbers" st_joined_numbers a fd) :
    FnG P w K mg base 1 a fd ["table", "numbers"] (spD K T r_joined_numbers) :=
  fnD1 (g := g_joined_numbers) rfl F sc_joined_numbers rfl rfl fun cdv A outer s H hr hgd => by
    unfold g_joined_numbers
    exact (es_cons (es_asg ev_int (pg_name (i := 2) sc_joined_numbers.nd rfl (by first | exact Or.inl rfl | exact Or.inr (Or.inl rfl) | exact Or.inr rfl)) (eg_name (by decide)))
      (es_cons (es_for PassesOwn.never rfl (ei_seq (ev_var (pv 1))) (pg_name (i := 3) sc_joined_numbers.nd rfl (by first | exact Or.inl rfl | exact Or.inr (Or.inl rfl) | exact Or.inr rfl)) (eg_name (by decide)) (es_one (es_asg (ev_ix ix_seq val_ix (ev_ix ix_seq val_ix (ev_var (pv 0)) (ev_var (pv 2)) (fun _ _ => rfl)) (ev_var (pv 3)) (fun _ _ => rfl)) (pg_name (i := 2) sc_joined_numbers.nd rfl (by first | exact Or.inl rfl | exact Or.inr (Or.inl rfl) | exact Or.inr rfl)) (eg_name (by decide)))))
      (es_one (es_ret (ev_var (pv 2))))))
abbrev N_joins_to : List Str := ["table", "numbers", "goal"]
theorem sc_joins_to : FnScope N_joins_to ["table", "numbers", "goal"] (defScope st_joins_to) := ⟨rfl, rfl, rfl, by decide +kernel, rfl, by decide +kernel, by decide +kernel⟩
theorem ok_joins_to {a : Addr} {fd : FuncData} (TX : Tx mg f) (F : Fun K "joins_to" "joins_to" st_joins_to a fd)
    {fd_joined_numbers : FuncData} (G_joined_numbers : FnG P w K mg base 1 (f "joined_numbers") fd_joined_numbers ["table", "numbers"] (spD K T r_joined_numbers)) (k_joined_numbers : PySem.W.keepIn K (.ref (f "joined_numbers")) = true) (B_joined_numbers : Binds K fd_joined_numbers ["table", "numbers"] []) :
    FnG P w K mg base 2 a fd ["table", "numbers", "goal"] (spD K T r_joins_to) :=
  fnD1 (g := g_joins_to) rfl F sc_joins_to rfl rfl fun cdv A outer s H hr hgd => by
    unfold g_joins_to
    exact (es_one (es_ret (ev_cmp (op_eqD hr.units) val_eq (ev_call G_joined_numbers (hr.mono (by decide)) hgd rfl (TX.fn "joined_numbers" (by decide)) k_joined_numbers B_joined_numbers (ea_cons (ev_var (pv 0)) (ea_cons (ev_var (pv 1)) ea_nil))) (ev_var (pv 2)) (nomark _))))
abbrev N_is_list_of : List Str := ["table", "parts", "number", "part"]
theorem sc_is_list_of : FnScope N_is_list_of ["table", "parts", "number"] (defScope st_is_list_of) := ⟨rfl, rfl, rfl, by decide +kernel, rfl, by decide +kernel, by decide +kernel⟩
theorem ok_is_list_of {a c p : Addr} {fd : FuncData} (TX : Tx mg f) (F : FunC K "is_list_of" "is_list_of" st_is_list_of a fd c) (TB : GxR.TabB base mg c p) (hP : p ∈ T)
    {fd_joins_to : FuncData} (G_joins_to : FnG P w K mg base 2 (f "joins_to") fd_joins_to ["table", "numbers", "goal"] (spD K T r_joins_to)) (k_joins_to : PySem.W.keepIn K (.ref (f "joins_to")) = true) (B_joins_to : Binds K fd_joins_to ["table", "numbers", "goal"] [])
    {fd_without : FuncData} (G_without : FnG P w K mg base 1 (f "without") fd_without ["numbers", "number"] (spD K T r_without)) (k_without : PySem.W.keepIn K (.ref (f "without")) = true) (B_without : Binds K fd_without ["numbers", "number"] []) :
    FnG P w K mg base 4 a fd ["table", "parts", "number"] (spD K T r_is_list_of) :=
  fnDC1 (g := g_is_list_of) rfl F sc_is_list_of rfl rfl fun A outer s H hr hgd => by
    unfold g_is_list_of
    exact (es_cons (es_if (et_not (et_val (ev_call G_joins_to (hr.mono (by decide)) hgd rfl (TX.fn "joins_to" (by decide)) k_joins_to B_joins_to (ea_cons (ev_var (pv 0)) (ea_cons (ev_var (pv 1)) (ea_cons (ev_var (pv 2)) ea_nil)))))) (es_one (es_ret ev_bl)) es_nil)
      (es_one (es_ret (ev_not (ev_any (k := 2) (ix := 3) hP (hr.mono (by decide)) rfl (TX.bl "any" (by decide)) TB rfl (gscp_by (by first | (change gscpC N_is_list_of (defScope st_is_list_of) _ _ _ = true; decide +kernel) | (change gscpC N_is_list_of (relS _ (defScope st_is_list_of)) _ _ _ = true; decide +kernel))) (ei_seq (ev_var (pv 1))) (fun _ _ _ _ _ => pg_name (i := 3) sc_is_list_of.nd rfl (by first | exact Or.inl rfl | exact Or.inr (Or.inl rfl) | exact Or.inr rfl)) (fun _ _ _ _ _ hr => (ev_call G_joins_to (hr.mono (by decide)) hgd rfl (TX.fn "joins_to" (by decide)) k_joins_to B_joins_to (ea_cons (ev_var (pv 0)) (ea_cons (ev_call G_without (hr.mono (by decide)) hgd rfl (TX.fn "without" (by decide)) k_without B_without (ea_cons (ev_var (pv 1)) (ea_cons (ev_var (pv 3)) ea_nil))) (ea_cons (ev_var (pv 2)) ea_nil))))) (fun _ => rfl))))))
abbrev N_lists_of : List Str := ["table", "number", "lots", "part", "lot"]
theorem sc_lists_of : FnScope N_lists_of ["table", "number"] (defScope st_lists_of) := ⟨rfl, rfl, rfl, by decide +kernel, rfl, by decide +kernel, by decide +kernel⟩
theorem ok_lists_of {a : Addr} {fd : FuncData} (TX : Tx mg f) (F : Fun K "lists_of" "lists_of" st_lists_of a fd)
    {fd_parts_below : FuncData} (G_parts_below : FnG P w K mg base 6 (f "parts_below") fd_parts_below ["table", "number"] (spD K T r_parts_below)) (k_parts_below : PySem.W.keepIn K (.ref (f "parts_below")) = true) (B_parts_below : Binds K fd_parts_below ["table", "number"] [])
    {fd_is_list_of : FuncData} (G_is_list_of : FnG P w K mg base 4 (f "is_list_of") fd_is_list_of ["table", "parts", "number"] (spD K T r_is_list_of)) (k_is_list_of : PySem.W.keepIn K (.ref (f "is_list_of")) = true) (B_is_list_of : Binds K fd_is_list_of ["table", "parts", "number"] []) :
    FnG P w K mg base 7 a fd ["table", "number"] (spD K T r_lists_of) :=
  fnD1 (g := g_lists_of) rfl F sc_lists_of rfl rfl fun cdv A outer s H hr hgd => by
    unfold g_lists_of
    exact (es_cons (es_asg (ev_lst (ea_cons (ev_lst ea_nil) ea_nil)) (pg_name (i := 2) sc_lists_of.nd rfl (by first | exact Or.inl rfl | exact Or.inr (Or.inl rfl) | exact Or.inr rfl)) (eg_name (by decide)))
      (es_cons (es_for PassesOwn.never rfl (ei_seq (ev_call G_parts_below (hr.mono (by decide)) hgd rfl (TX.fn "parts_below" (by decide)) k_parts_below B_parts_below (ea_cons (ev_var (pv 0)) (ea_cons (ev_var (pv 1)) ea_nil)))) (pg_name (i := 3) sc_lists_of.nd rfl (by first | exact Or.inl rfl | exact Or.inr (Or.inl rfl) | exact Or.inr rfl)) (eg_name (by decide)) (es_one (es_asg (ev_add (ev_var (pv 2)) (ev_lc (own := [("lot", 4)]) rfl sc_lists_of.nd (ei_seq (ev_var (pv 2))) (blkOk_by (by first | (change blkC N_lists_of (defScope st_lists_of) _ _ = true; decide +kernel) | (change blkC N_lists_of (relS _ (defScope st_lists_of)) _ _ = true; decide +kernel))) (fun _ _ _ _ _ => by exact (pg_name (i := 4) sc_lists_of.nd rfl (by first | exact Or.inl rfl | exact Or.inr (Or.inl rfl) | exact Or.inr rfl))) (egb_name (by decide)) (fun _ _ _ _ _ => by exact ets_nil) (fun _ _ _ _ _ => by exact (ev_add (ev_var (pv 4)) (ev_lst (ea_cons (ev_var (pv 3)) ea_nil)))))) (pg_name (i := 2) sc_lists_of.nd rfl (by first | exact Or.inl rfl | exact Or.inr (Or.inl rfl) | exact Or.inr rfl)) (eg_name (by decide)))))
      (es_one (es_ret (ev_blt (cr_sortQ hr.u66) val_sort rfl (TX.bl "sorted" (by decide)) (by decide +kernel) (ea_cons (ev_lc (own := [("lot", 4)]) rfl sc_lists_of.nd (ei_seq (ev_var (pv 2))) (blkOk_by (by first | (change blkC N_lists_of (defScope st_lists_of) _ _ = true; decide +kernel) | (change blkC N_lists_of (relS _ (defScope st_lists_of)) _ _ = true; decide +kernel))) (fun _ _ _ _ _ => by exact (pg_name (i := 4) sc_lists_of.nd rfl (by first | exact Or.inl rfl | exact Or.inr (Or.inl rfl) | exact Or.inr rfl))) (egb_name (by decide)) (fun _ _ _ _ _ => by exact (ets_one (et_val (ev_call G_is_list_of (hr.mono (by decide)) hgd rfl (TX.fn "is_list_of" (by decide)) k_is_list_of B_is_list_of (ea_cons (ev_var (pv 0)) (ea_cons (ev_var (pv 4)) (ea_cons (ev_var (pv 1)) ea_nil))))))) (fun _ _ _ _ _ => by exact (ev_var (pv 4)))) ea_nil))))))
abbrev N_has_single_lists : List Str := ["table", "number"]
theorem sc_has_single_lists : FnScope N_has_single_lists ["table"] (defScope st_has_single_lists) := ⟨rfl, rfl, rfl, by decide +kernel, rfl, by decide +kernel, by decide +kernel⟩
theorem ok_has_single_lists {a c p : Addr} {fd : FuncData} (TX : Tx mg f) (F : FunC K "has_single_lists" "has_single_lists" st_has_single_lists a fd c) (TB : GxR.TabB base mg c p) (hP : p ∈ T)
    {fd_check_table : FuncData} (G_check_table : FnG P w K mg base 9 (f "check_table") fd_check_table ["table"] (spD K T r_check_table)) (k_check_table : PySem.W.keepIn K (.ref (f "check_table")) = true) (B_check_table : Binds K fd_check_table ["table"] [])
    {fd_lists_of : FuncData} (G_lists_of : FnG P w K mg base 7 (f "lists_of") fd_lists_of ["table", "number"] (spD K T r_lists_of)) (k_lists_of : PySem.W.keepIn K (.ref (f "lists_of")) = true) (B_lists_of : Binds K fd_lists_of ["table", "number"] []) :
    FnG P w K mg base 11 a fd ["table"] (spD K T r_has_single_lists) :=
  fnDC1 (g := g_has_single_lists) rfl F sc_has_single_lists rfl rfl fun A outer s H hr hgd => by
    unfold g_has_single_lists
    exact (es_cons (es_expr (ev_call G_check_table (hr.mono (by decide)) hgd rfl (TX.fn "check_table" (by decide)) k_check_table B_check_table (ea_cons (ev_var (pv 0)) ea_nil)))
      (es_one (es_ret (ev_all (k := 9) (ix := 1) hP (hr.mono (by decide)) rfl (TX.bl "all" (by decide)) TB rfl (gscp_by (by first | (change gscpC N_has_single_lists (defScope st_has_single_lists) _ _ _ = true; decide +kernel) | (change gscpC N_has_single_lists (relS _ (defScope st_has_single_lists)) _ _ _ = true; decide +kernel))) (ei_range1 rfl (TX.bl "range" (by decide)) (ea_cons (ev_blt call_len val_len rfl (TX.bl "len" (by decide)) (by decide +kernel) (ea_cons (ev_var (pv 0)) ea_nil)) ea_nil)) (fun _ _ _ _ _ => pg_name (i := 1) sc_has_single_lists.nd rfl (by first | exact Or.inl rfl | exact Or.inr (Or.inl rfl) | exact Or.inr rfl)) (fun _ _ _ _ _ hr => (ev_cmp (op_eqD hr.units) val_eq (ev_blt call_len val_len rfl (TX.bl "len" (by decide)) (by decide +kernel) (ea_cons (ev_call G_lists_of (hr.mono (by decide)) hgd rfl (TX.fn "lists_of" (by decide)) k_lists_of B_lists_of (ea_cons (ev_var (pv 0)) (ea_cons (ev_var (pv 1)) ea_nil))) ea_nil)) ev_int (nomark _))) (fun _ => rfl)))))
abbrev N_meet_of : List Str := ["table", "one", "other", "both", "state"]
theorem sc_meet_of : FnScope N_meet_of ["table", "one", "other"] (defScope st_meet_of) := ⟨rfl, rfl, rfl, by decide +kernel, rfl, by decide +kernel, by decide +kernel⟩
theorem ok_meet_of {a : Addr} {fd : FuncData} (TX : Tx mg f) (F : Fun K "meet_of" "meet_of" st_meet_of a fd)
    {fd_states_within : FuncData} (G_states_within : FnG P w K mg base 2 (f "states_within") fd_states_within ["table", "number"] (spD K T r_states_within)) (k_states_within : PySem.W.keepIn K (.ref (f "states_within")) = true) (B_states_within : Binds K fd_states_within ["table", "number"] [])
    {fd_lies_within : FuncData} (G_lies_within : FnG P w K mg base 1 (f "lies_within") fd_lies_within ["table", "one", "other"] (spD K T r_lies_within)) (k_lies_within : PySem.W.keepIn K (.ref (f "lies_within")) = true) (B_lies_within : Binds K fd_lies_within ["table", "one", "other"] [])
    {fd_joined_numbers : FuncData} (G_joined_numbers : FnG P w K mg base 1 (f "joined_numbers") fd_joined_numbers ["table", "numbers"] (spD K T r_joined_numbers)) (k_joined_numbers : PySem.W.keepIn K (.ref (f "joined_numbers")) = true) (B_joined_numbers : Binds K fd_joined_numbers ["table", "numbers"] []) :
    FnG P w K mg base 3 a fd ["table", "one", "other"] (spD K T r_meet_of) :=
  fnD1 (g := g_meet_of) rfl F sc_meet_of rfl rfl fun cdv A outer s H hr hgd => by
    unfold g_meet_of
    exact (es_cons (es_setE (i := 3) (ps_setLc (own := [("state", 4)]) rfl sc_meet_of.nd rfl (by first | rfl | decide +kernel) (sw_true rfl (by first | rfl | decide +kernel) rfl (by decide +kernel)) (ei_seq (ev_call G_states_within (hr.mono (by decide)) hgd rfl (TX.fn "states_within" (by decide)) k_states_within B_states_within (ea_cons (ev_var (pv 0)) (ea_cons (ev_var (pv 1)) ea_nil)))) (blkOk_by (by first | (change blkC N_meet_of (defScope st_meet_of) _ _ = true; decide +kernel) | (change blkC N_meet_of (relS _ (defScope st_meet_of)) _ _ = true; decide +kernel))) (fun _ _ _ _ _ => by exact (pg_name (i := 4) sc_meet_of.nd rfl (by first | exact Or.inl rfl | exact Or.inr (Or.inl rfl) | exact Or.inr rfl))) (fun _ _ _ _ _ => by exact (ets_one (et_val (ev_call G_lies_within (hr.mono (by decide)) hgd rfl (TX.fn "lies_within" (by decide)) k_lies_within B_lies_within (ea_cons (ev_var (pv 0)) (ea_cons (ev_var (pv 4)) (ea_cons (ev_var (pv 2)) ea_nil))))))) (fun _ _ _ _ _ => by exact (ev_var (pv 4)))) (fun _ _ _ w => tLc_of (egb_name (by decide)) w) (by decide))
      (es_one (es_ret (ev_call G_joined_numbers (hr.mono (by decide)) hgd rfl (TX.fn "joined_numbers" (by decide)) k_joined_numbers B_joined_numbers (ea_cons (ev_var (pv 0)) (ea_cons (ev_var (pv 3)) ea_nil))))))
abbrev N_meet_rows : List Str := ["table", "states", "one", "other"]
theorem sc_meet_rows : FnScope N_meet_rows ["table"] (defScope st_meet_rows) := ⟨rfl, rfl, rfl, by decide +kernel, rfl, by decide +kernel, by decide +kernel⟩
theorem ok_meet_rows {a : Addr} {fd : FuncData} (TX : Tx mg f) (F : Fun K "meet_rows" "meet_rows" st_meet_rows a fd)
    {fd_meet_of : FuncData} (G_meet_of : FnG P w K mg base 3 (f "meet_of") fd_meet_of ["table", "one", "other"] (spD K T r_meet_of)) (k_meet_of : PySem.W.keepIn K (.ref (f "meet_of")) = true) (B_meet_of : Binds K fd_meet_of ["table", "one", "other"] []) :
    FnG P w K mg base 4 a fd ["table"] (spD K T r_meet_rows) :=
  fnD1 (g := g_meet_rows) rfl F sc_meet_rows rfl rfl fun cdv A outer s H hr hgd => by
    unfold g_meet_rows
    exact (es_cons (es_asgRg rfl (TX.bl "range" (by decide)) (ev_blt call_len val_len rfl (TX.bl "len" (by decide)) (by decide +kernel) (ea_cons (ev_var (pv 0)) ea_nil)) (pg_name (i := 1) sc_meet_rows.nd rfl (by first | exact Or.inl rfl | exact Or.inr (Or.inl rfl) | exact Or.inr rfl)) (by decide))
      (es_one (es_ret (ev_lc (own := [("one", 2)]) rfl sc_meet_rows.nd (ei_rng (pv 1)) (blkOk_by (by first | (change blkC N_meet_rows (defScope st_meet_rows) _ _ = true; decide +kernel) | (change blkC N_meet_rows (relS _ (defScope st_meet_rows)) _ _ = true; decide +kernel))) (fun _ _ _ _ _ => by exact (pg_name (i := 2) sc_meet_rows.nd rfl (by first | exact Or.inl rfl | exact Or.inr (Or.inl rfl) | exact Or.inr rfl))) (egb_name (by decide)) (fun _ _ _ _ _ => by exact ets_nil) (fun _ _ _ _ _ => by exact (ev_lc (own := [("other", 3)]) rfl sc_meet_rows.nd (ei_rng (pv 1)) (blkOk_by (by first | (change blkC N_meet_rows (defScope st_meet_rows) _ _ = true; decide +kernel) | (change blkC N_meet_rows (relS _ (defScope st_meet_rows)) _ _ = true; decide +kernel))) (fun _ _ _ _ _ => by exact (pg_name (i := 3) sc_meet_rows.nd rfl (by first | exact Or.inl rfl | exact Or.inr (Or.inl rfl) | exact Or.inr rfl))) (egb_name (by decide)) (fun _ _ _ _ _ => by exact ets_nil) (fun _ _ _ _ _ => by exact (ev_call G_meet_of (hr.mono (by decide)) hgd rfl (TX.fn "meet_of" (by decide)) k_meet_of B_meet_of (ea_cons (ev_var (pv 0)) (ea_cons (ev_var (pv 2)) (ea_cons (ev_var (pv 3)) ea_nil)))))))))))
abbrev N_is_distributive : List Str := ["table", "states", "meets", "one", "other", "third", "whole"]
theorem sc_is_distributive : FnScope N_is_distributive ["table"] (defScope st_is_distributive) := ⟨rfl, rfl, rfl, by decide +kernel, rfl, by decide +kernel, by decide +kernel⟩
theorem ok_is_distributive {a : Addr} {fd : FuncData} (TX : Tx mg f) (F : Fun K "is_distributive" "is_distributive" st_is_distributive a fd)
    {fd_check_table : FuncData} (G_check_table : FnG P w K mg base 9 (f "check_table") fd_check_table ["table"] (spD K T r_check_table)) (k_check_table : PySem.W.keepIn K (.ref (f "check_table")) = true) (B_check_table : Binds K fd_check_table ["table"] [])
    {fd_meet_rows : FuncData} (G_meet_rows : FnG P w K mg base 4 (f "meet_rows") fd_meet_rows ["table"] (spD K T r_meet_rows)) (k_meet_rows : PySem.W.keepIn K (.ref (f "meet_rows")) = true) (B_meet_rows : Binds K fd_meet_rows ["table"] []) :
    FnG P w K mg base 10 a fd ["table"] (spD K T r_is_distributive) :=
  fnD1 (g := g_is_distributive) rfl F sc_is_distributive rfl rfl fun cdv A outer s H hr hgd => by
    unfold g_is_distributive
    exact (es_cons (es_expr (ev_call G_check_table (hr.mono (by decide)) hgd rfl (TX.fn "check_table" (by decide)) k_check_table B_check_table (ea_cons (ev_var (pv 0)) ea_nil)))
      (es_cons (es_asgRg rfl (TX.bl "range" (by decide)) (ev_blt call_len val_len rfl (TX.bl "len" (by decide)) (by decide +kernel) (ea_cons (ev_var (pv 0)) ea_nil)) (pg_name (i := 1) sc_is_distributive.nd rfl (by first | exact Or.inl rfl | exact Or.inr (Or.inl rfl) | exact Or.inr rfl)) (by decide))
      (es_cons (es_asg (ev_call G_meet_rows (hr.mono (by decide)) hgd rfl (TX.fn "meet_rows" (by decide)) k_meet_rows B_meet_rows (ea_cons (ev_var (pv 0)) ea_nil)) (pg_name (i := 2) sc_is_distributive.nd rfl (by first | exact Or.inl rfl | exact Or.inr (Or.inl rfl) | exact Or.inr rfl)) (eg_name (by decide)))
      (es_cons (es_for PassesOwn.never rfl (ei_rng (pv 1)) (pg_name (i := 3) sc_is_distributive.nd rfl (by first | exact Or.inl rfl | exact Or.inr (Or.inl rfl) | exact Or.inr rfl)) (eg_name (by decide)) (es_one (es_for PassesOwn.never rfl (ei_rng (pv 1)) (pg_name (i := 4) sc_is_distributive.nd rfl (by first | exact Or.inl rfl | exact Or.inr (Or.inl rfl) | exact Or.inr rfl)) (eg_name (by decide)) (es_one (es_for PassesOwn.never rfl (ei_rng (pv 1)) (pg_name (i := 5) sc_is_distributive.nd rfl (by first | exact Or.inl rfl | exact Or.inr (Or.inl rfl) | exact Or.inr rfl)) (eg_name (by decide)) (es_cons (es_asg (ev_ix ix_seq val_ix (ev_ix ix_seq val_ix (ev_var (pv 2)) (ev_var (pv 3)) (fun _ _ => rfl)) (ev_ix ix_seq val_ix (ev_ix ix_seq val_ix (ev_var (pv 0)) (ev_var (pv 4)) (fun _ _ => rfl)) (ev_var (pv 5)) (fun _ _ => rfl)) (fun _ _ => rfl)) (pg_name (i := 6) sc_is_distributive.nd rfl (by first | exact Or.inl rfl | exact Or.inr (Or.inl rfl) | exact Or.inr rfl)) (eg_name (by decide)))
      (es_one (es_if (et_cmp (op_neD hr.units) val_ne (ev_var (pv 6)) (ev_ix ix_seq val_ix (ev_ix ix_seq val_ix (ev_var (pv 0)) (ev_ix ix_seq val_ix (ev_ix ix_seq val_ix (ev_var (pv 2)) (ev_var (pv 3)) (fun _ _ => rfl)) (ev_var (pv 4)) (fun _ _ => rfl)) (fun _ _ => rfl)) (ev_ix ix_seq val_ix (ev_ix ix_seq val_ix (ev_var (pv 2)) (ev_var (pv 3)) (fun _ _ => rfl)) (ev_var (pv 5)) (fun _ _ => rfl)) (fun _ _ => rfl)) (nomark _)) (es_one (es_ret ev_bl)) es_nil))))))))
      (es_one (es_ret ev_bl))))))
abbrev N_is_good : List Str := ["kind", "word"]
theorem sc_is_good : FnScope N_is_good ["kind", "word"] (defScope st_is_good) := ⟨rfl, rfl, rfl, by decide +kernel, rfl, by decide +kernel, by decide +kernel⟩
theorem ok_is_good {a : Addr} {fd : FuncData} (TX : Tx mg f) (F : Fun K "is_good" "is_good" st_is_good a fd)
    {fd_has_single_lists : FuncData} (G_has_single_lists : FnG P w K mg base 11 (f "has_single_lists") fd_has_single_lists ["table"] (spD K T r_has_single_lists)) (k_has_single_lists : PySem.W.keepIn K (.ref (f "has_single_lists")) = true) (B_has_single_lists : Binds K fd_has_single_lists ["table"] [])
    {fd_is_distributive : FuncData} (G_is_distributive : FnG P w K mg base 10 (f "is_distributive") fd_is_distributive ["table"] (spD K T r_is_distributive)) (k_is_distributive : PySem.W.keepIn K (.ref (f "is_distributive")) = true) (B_is_distributive : Binds K fd_is_distributive ["table"] [])
    {fd_in_line : FuncData} (G_in_line : ∀ m, FnG P w K mg base (28 + 2 * m) (f "in_line") fd_in_line ["kind"] (spD K T (r_in_line m))) (k_in_line : PySem.W.keepIn K (.ref (f "in_line")) = true) (B_in_line : Binds K fd_in_line ["kind"] [])
    {fd_single : FuncData} (G_single : ∀ m, FnG P w K mg base (2 + 2 * m) (f "single") fd_single ["kind"] (spD K T (r_single m))) (k_single : PySem.W.keepIn K (.ref (f "single")) = true) (B_single : Binds K fd_single ["kind"] []) :
    FnG P w K mg base 53 a fd ["kind", "word"] (spD K T r_is_good) :=
  fnD1 (g := g_is_good) rfl F sc_is_good rfl rfl fun cdv A outer s H hr hgd => by
    unfold g_is_good
    exact (es_cons (es_if (et_cmp (op_eqD hr.units) val_eq (ev_ix ix_seq val_ix (ev_var (pv 0)) ev_int (fun _ _ => rfl)) ev_str (nomark _)) (es_one (es_ret (ev_if (et_cmp (op_eqD hr.units) val_eq (ev_var (pv 1)) ev_str (nomark _)) (ev_call G_has_single_lists (hr.mono (by decide)) hgd rfl (TX.fn "has_single_lists" (by decide)) k_has_single_lists B_has_single_lists (ea_cons (ev_ix ix_seq val_ix (ev_var (pv 0)) ev_int (fun _ _ => rfl)) ea_nil)) (ev_call G_is_distributive (hr.mono (by decide)) hgd rfl (TX.fn "is_distributive" (by decide)) k_is_distributive B_is_distributive (ea_cons (ev_ix ix_seq val_ix (ev_var (pv 0)) ev_int (fun _ _ => rfl)) ea_nil))))) es_nil)
      (es_one (es_ret (ev_or (ev_cmp (op_neD hr.units) val_ne (ev_ix ix_seq val_ix (ev_var (pv 0)) ev_int (fun _ _ => rfl)) ev_str (nomark _)) (ev_or (ev_call (G_in_line 12) (hr.mono (by decide)) hgd rfl (TX.fn "in_line" (by decide)) k_in_line B_in_line (ea_cons (ev_ix ix_seq val_ix (ev_var (pv 0)) ev_int (fun _ _ => rfl)) ea_nil)) (ev_one (ev_call (G_single 12) (hr.mono (by decide)) hgd rfl (TX.fn "single" (by decide)) k_single B_single (ea_cons (ev_ix ix_seq val_ix (ev_var (pv 0)) ev_int (fun _ _ => rfl)) ea_nil))))))))
abbrev N_kind_along : List Str := ["kind", "way", "inner", "word"]
theorem sc_kind_along : FnScope N_kind_along ["kind", "way"] (defScope st_kind_along) := ⟨rfl, rfl, rfl, by decide +kernel, rfl, by decide +kernel, by decide +kernel⟩
theorem ok_kind_along {a : Addr} {fd : FuncData} (TX : Tx mg f) (F : Fun K "kind_along" "kind_along" st_kind_along a fd)
    {fd_kind_by : FuncData} (G_kind_by : FnG P w K mg base 2 (f "kind_by") fd_kind_by ["kind", "word"] (spD K T r_kind_by)) (k_kind_by : PySem.W.keepIn K (.ref (f "kind_by")) = true) (B_kind_by : Binds K fd_kind_by ["kind", "word"] []) :
    FnG P w K mg base 3 a fd ["kind", "way"] (spD K T r_kind_along) :=
  fnD1 (g := g_kind_along) rfl F sc_kind_along rfl rfl fun cdv A outer s H hr hgd => by
    unfold g_kind_along
    exact (es_cons (es_asg (ev_var (pv 0)) (pg_name (i := 2) sc_kind_along.nd rfl (by first | exact Or.inl rfl | exact Or.inr (Or.inl rfl) | exact Or.inr rfl)) (eg_name (by decide)))
      (es_cons (es_for PassesOwn.never rfl (ei_seq (ev_var (pv 1))) (pg_name (i := 3) sc_kind_along.nd rfl (by first | exact Or.inl rfl | exact Or.inr (Or.inl rfl) | exact Or.inr rfl)) (eg_name (by decide)) (es_one (es_asg (ev_call G_kind_by (hr.mono (by decide)) hgd rfl (TX.fn "kind_by" (by decide)) k_kind_by B_kind_by (ea_cons (ev_var (pv 2)) (ea_cons (ev_var (pv 3)) ea_nil))) (pg_name (i := 2) sc_kind_along.nd rfl (by first | exact Or.inl rfl | exact Or.inr (Or.inl rfl) | exact Or.inr rfl)) (eg_name (by decide)))))
      (es_one (es_ret (ev_var (pv 2))))))
abbrev N_bad_ways : List Str := ["kind", "word", "way"]
theorem sc_bad_ways : FnScope N_bad_ways ["kind", "word"] (defScope st_bad_ways) := ⟨rfl, rfl, rfl, by decide +kernel, rfl, by decide +kernel, by decide +kernel⟩
theorem ok_bad_ways {a : Addr} {fd : FuncData} (TX : Tx mg f) (F : Fun K "bad_ways" "bad_ways" st_bad_ways a fd)
    {fd_ways_of : FuncData} (G_ways_of : ∀ m, FnG P w K mg base (3 + 1 * m) (f "ways_of") fd_ways_of ["kind"] (spD K T (r_ways_of m))) (k_ways_of : PySem.W.keepIn K (.ref (f "ways_of")) = true) (B_ways_of : Binds K fd_ways_of ["kind"] [])
    {fd_is_good : FuncData} (G_is_good : FnG P w K mg base 53 (f "is_good") fd_is_good ["kind", "word"] (spD K T r_is_good)) (k_is_good : PySem.W.keepIn K (.ref (f "is_good")) = true) (B_is_good : Binds K fd_is_good ["kind", "word"] [])
    {fd_kind_along : FuncData} (G_kind_along : FnG P w K mg base 3 (f "kind_along") fd_kind_along ["kind", "way"] (spD K T r_kind_along)) (k_kind_along : PySem.W.keepIn K (.ref (f "kind_along")) = true) (B_kind_along : Binds K fd_kind_along ["kind", "way"] []) :
    FnG P w K mg base 54 a fd ["kind", "word"] (spD K T r_bad_ways) :=
  fnD1 (g := g_bad_ways) rfl F sc_bad_ways rfl rfl fun cdv A outer s H hr hgd => by
    unfold g_bad_ways
    exact (es_one (es_ret (ev_lc (own := [("way", 2)]) rfl sc_bad_ways.nd (ei_seq (ev_call (G_ways_of 12) (hr.mono (by decide)) hgd rfl (TX.fn "ways_of" (by decide)) k_ways_of B_ways_of (ea_cons (ev_var (pv 0)) ea_nil))) (blkOk_by (by first | (change blkC N_bad_ways (defScope st_bad_ways) _ _ = true; decide +kernel) | (change blkC N_bad_ways (relS _ (defScope st_bad_ways)) _ _ = true; decide +kernel))) (fun _ _ _ _ _ => by exact (pg_name (i := 2) sc_bad_ways.nd rfl (by first | exact Or.inl rfl | exact Or.inr (Or.inl rfl) | exact Or.inr rfl))) (egb_name (by decide)) (fun _ _ _ _ _ => by exact (ets_one (et_not (et_val (ev_call G_is_good (hr.mono (by decide)) hgd rfl (TX.fn "is_good" (by decide)) k_is_good B_is_good (ea_cons (ev_call G_kind_along (hr.mono (by decide)) hgd rfl (TX.fn "kind_along" (by decide)) k_kind_along B_kind_along (ea_cons (ev_var (pv 0)) (ea_cons (ev_var (pv 2)) ea_nil))) (ea_cons (ev_var (pv 1)) ea_nil))))))) (fun _ _ _ _ _ => by exact (ev_var (pv 2))))))
abbrev N_grade_of : List Str := ["kind"]
theorem sc_grade_of : FnScope N_grade_of ["kind"] (defScope st_grade_of) := ⟨rfl, rfl, rfl, by decide +kernel, rfl, by decide +kernel, by decide +kernel⟩
theorem ok_grade_of {a : Addr} {fd : FuncData} (TX : Tx mg f) (F : Fun K "grade_of" "grade_of" st_grade_of a fd)
    {fd_bad_ways : FuncData} (G_bad_ways : FnG P w K mg base 54 (f "bad_ways") fd_bad_ways ["kind", "word"] (spD K T r_bad_ways)) (k_bad_ways : PySem.W.keepIn K (.ref (f "bad_ways")) = true) (B_bad_ways : Binds K fd_bad_ways ["kind", "word"] []) :
    FnG P w K mg base 55 a fd ["kind"] (spD K T r_grade_of) :=
  fnD1 (g := g_grade_of) rfl F sc_grade_of rfl rfl fun cdv A outer s H hr hgd => by
    unfold g_grade_of
    exact (es_cons (es_if (et_cmp (op_eqD hr.units) val_eq (ev_blt call_len val_len rfl (TX.bl "len" (by decide)) (by decide +kernel) (ea_cons (ev_call G_bad_ways (hr.mono (by decide)) hgd rfl (TX.fn "bad_ways" (by decide)) k_bad_ways B_bad_ways (ea_cons (ev_var (pv 0)) (ea_cons ev_str ea_nil))) ea_nil)) ev_int (nomark _)) (es_one (es_ret ev_str)) es_nil)
      (es_one (es_ret (ev_if (et_cmp (op_eqD hr.units) val_eq (ev_blt call_len val_len rfl (TX.bl "len" (by decide)) (by decide +kernel) (ea_cons (ev_call G_bad_ways (hr.mono (by decide)) hgd rfl (TX.fn "bad_ways" (by decide)) k_bad_ways B_bad_ways (ea_cons (ev_var (pv 0)) (ea_cons ev_str ea_nil))) ea_nil)) ev_int (nomark _)) ev_str ev_str))))
abbrev N_kind_as_told : List Str := ["kind", "word", "part", "row"]
theorem sc_kind_as_told : FnScope N_kind_as_told ["kind"] (defScope st_kind_as_told) := ⟨rfl, rfl, rfl, by decide +kernel, rfl, by decide +kernel, by decide +kernel⟩
theorem okR_kind_as_told (TX : Tx mg f) {d_INNER_KINDS : Addr} {es_INNER_KINDS : Array DictEntry} {n_INNER_KINDS : Nat} (D_INNER_KINDS : DctK K w mg "INNER_KINDS" tab_INNER_KINDS d_INNER_KINDS es_INNER_KINDS n_INNER_KINDS)
    {fd_kind_as_told : FuncData} (F_kind_as_told : Fun K "kind_as_told" "kind_as_told" st_kind_as_told (f "kind_as_told") fd_kind_as_told) (k_kind_as_told : PySem.W.keepIn K (.ref (f "kind_as_told")) = true) (B_kind_as_told : Binds K fd_kind_as_told ["kind"] []) :
    ∀ m, FnG P w K mg base (1 + 1 * m) (f "kind_as_told") fd_kind_as_told ["kind"] (spD K T (r_kind_as_told m)) := by
  intro m
  induction m with
  | zero => exact fn_never (by rfl)
  | succ m ih =>
    have G_kind_as_told := ih
    · refine Ev.FnG.mono (fnD1 (k := 1 + 1 * m + 0) (g := g_kind_as_told (r_kind_as_told m)) (by rfl) F_kind_as_told sc_kind_as_told rfl rfl fun cdv A outer s H hr hgd => ?_) (by omega)
      unfold g_kind_as_told
      exact (es_cons (es_asg (ev_ix ix_seq val_ix (ev_var (pv 0)) ev_int (fun _ _ => rfl)) (pg_name (i := 1) sc_kind_as_told.nd rfl (by first | exact Or.inl rfl | exact Or.inr (Or.inl rfl) | exact Or.inr rfl)) (eg_name (by decide)))
      (es_cons (es_if (et_kin D_INNER_KINDS rfl (ev_var (pv 1))) (es_one (es_ret (ev_bty call_tuple_of val_tuple rfl (TX.bl "tuple" (by decide)) (by decide +kernel) (ea_cons (ev_add (ev_lst (ea_cons (ev_var (pv 1)) ea_nil)) (ev_lc (own := [("part", 2)]) rfl sc_kind_as_told.nd (ei_seq (ev_slice (ev_var (pv 0)) (eo_some ev_int) eo_none)) (blkOk_by (by first | (change blkC N_kind_as_told (defScope st_kind_as_told) _ _ = true; decide +kernel) | (change blkC N_kind_as_told (relS _ (defScope st_kind_as_told)) _ _ = true; decide +kernel))) (fun _ _ _ _ _ => by exact (pg_name (i := 2) sc_kind_as_told.nd rfl (by first | exact Or.inl rfl | exact Or.inr (Or.inl rfl) | exact Or.inr rfl))) (egb_name (by decide)) (fun _ _ _ _ _ => by exact ets_nil) (fun _ _ _ _ _ => by exact (ev_call G_kind_as_told (hr.mono (by omega)) hgd rfl (TX.fn "kind_as_told" (by decide)) k_kind_as_told B_kind_as_told (ea_cons (ev_var (pv 2)) ea_nil))))) ea_nil)))) es_nil)
      (es_cons (es_if (et_cmp (op_eqD hr.units) val_eq (ev_var (pv 1)) ev_str (nomark _)) (es_one (es_ret (ev_tup (ea_cons (ev_var (pv 1)) (ea_cons (ev_ix ix_seq val_ix (ev_var (pv 0)) ev_int (fun _ _ => rfl)) (ea_cons (ev_sortSet rfl hr.u66 rfl (TX.bl "sorted" (by decide)) rfl (TX.bl "set" (by decide)) (ev_ix ix_seq val_ix (ev_var (pv 0)) ev_int (fun _ _ => rfl))) ea_nil)))))) es_nil)
      (es_cons (es_if (et_cmp (op_eqD hr.units) val_eq (ev_var (pv 1)) ev_str (nomark _)) (es_one (es_ret (ev_tup (ea_cons (ev_var (pv 1)) (ea_cons (ev_lc (own := [("row", 3)]) rfl sc_kind_as_told.nd (ei_seq (ev_ix ix_seq val_ix (ev_var (pv 0)) ev_int (fun _ _ => rfl))) (blkOk_by (by first | (change blkC N_kind_as_told (defScope st_kind_as_told) _ _ = true; decide +kernel) | (change blkC N_kind_as_told (relS _ (defScope st_kind_as_told)) _ _ = true; decide +kernel))) (fun _ _ _ _ _ => by exact (pg_name (i := 3) sc_kind_as_told.nd rfl (by first | exact Or.inl rfl | exact Or.inr (Or.inl rfl) | exact Or.inr rfl))) (egb_name (by decide)) (fun _ _ _ _ _ => by exact ets_nil) (fun _ _ _ _ _ => by exact (ev_bty call_list_of val_list rfl (TX.bl "list" (by decide)) (by decide +kernel) (ea_cons (ev_var (pv 3)) ea_nil)))) ea_nil))))) es_nil)
      (es_one (es_ret (ev_var (pv 0))))))))
abbrev N_is_tie : List Str := ["value", "many"]
theorem sc_is_tie : FnScope N_is_tie ["value", "many"] (defScope st_is_tie) := ⟨rfl, rfl, rfl, by decide +kernel, rfl, by decide +kernel, by decide +kernel⟩
theorem ok_is_tie {a : Addr} {fd : FuncData} (TX : Tx mg f) (F : Fun K "is_tie" "is_tie" st_is_tie a fd)
    {fd_is_count_below : FuncData} (G_is_count_below : FnG P w K mg base 3 (f "is_count_below") fd_is_count_below ["value", "bound"] (spD K T r_is_count_below)) (k_is_count_below : PySem.W.keepIn K (.ref (f "is_count_below")) = true) (B_is_count_below : Binds K fd_is_count_below ["value", "bound"] []) :
    FnG P w K mg base 4 a fd ["value", "many"] (spD K T r_is_tie) :=
  fnD1 (g := g_is_tie) rfl F sc_is_tie rfl rfl fun cdv A outer s H hr hgd => by
    unfold g_is_tie
    exact (es_cons (es_if (PW.pt (ew_or (et_not (et_val (ev_isi (b := isTp) kit_tup rfl (TX.bl "isinstance" (by decide)) (Ev.pe_ty rfl (TX.bl "tuple" (by decide)) (by decide +kernel)) (ev_var (pv 0))))) (ew_or1 (et_cmp (op_neD hr.units) val_ne (ev_blt call_len val_len rfl (TX.bl "len" (by decide)) (by decide +kernel) (ea_cons (ev_var (pv 0)) ea_nil)) ev_int (nomark _))))) (es_one (es_ret ev_bl)) es_nil)
      (es_one (es_ret (ev_and (ev_call G_is_count_below (hr.mono (by decide)) hgd rfl (TX.fn "is_count_below" (by decide)) k_is_count_below B_is_count_below (ea_cons (ev_ix ix_seq val_ix (ev_var (pv 0)) ev_int (fun _ _ => rfl)) (ea_cons (ev_var (pv 1)) ea_nil))) (ev_one (ev_call G_is_count_below (hr.mono (by decide)) hgd rfl (TX.fn "is_count_below" (by decide)) k_is_count_below B_is_count_below (ea_cons (ev_ix ix_seq val_ix (ev_var (pv 0)) ev_int (fun _ _ => rfl)) (ea_cons (ev_var (pv 1)) ea_nil))))))))
abbrev N_is_order : List Str := ["many", "ties", "tie", "below", "point"]
theorem sc_is_order : FnScope N_is_order ["many", "ties"] (defScope st_is_order) := ⟨rfl, rfl, rfl, by decide +kernel, rfl, by decide +kernel, by decide +kernel⟩
theorem ok_is_order {a c p : Addr} {fd : FuncData} (TX : Tx mg f) (F : FunC K "is_order" "is_order" st_is_order a fd c) (TB : GxR.TabB base mg c p) (hP : p ∈ T) {t_MOST_POINTS : Tok} (c_MOST_POINTS : mg "MOST_POINTS" = some (.int 6 t_MOST_POINTS)) {t_MOST_TIES : Tok} (c_MOST_TIES : mg "MOST_TIES" = some (.int 15 t_MOST_TIES))
    {fd_is_integer : FuncData} (G_is_integer : FnG P w K mg base 1 (f "is_integer") fd_is_integer ["value"] (spD K T r_is_integer)) (k_is_integer : PySem.W.keepIn K (.ref (f "is_integer")) = true) (B_is_integer : Binds K fd_is_integer ["value"] [])
    {fd_is_list : FuncData} (G_is_list : FnG P w K mg base 1 (f "is_list") fd_is_list ["value"] (spD K T r_is_list)) (k_is_list : PySem.W.keepIn K (.ref (f "is_list")) = true) (B_is_list : Binds K fd_is_list ["value"] [])
    {fd_is_tie : FuncData} (G_is_tie : FnG P w K mg base 4 (f "is_tie") fd_is_tie ["value", "many"] (spD K T r_is_tie)) (k_is_tie : PySem.W.keepIn K (.ref (f "is_tie")) = true) (B_is_tie : Binds K fd_is_tie ["value", "many"] [])
    {fd_below_rows : FuncData} (G_below_rows : FnG P w K mg base 1 (f "below_rows") fd_below_rows ["many", "ties"] (spD K T r_below_rows)) (k_below_rows : PySem.W.keepIn K (.ref (f "below_rows")) = true) (B_below_rows : Binds K fd_below_rows ["many", "ties"] []) :
    FnG P w K mg base 6 a fd ["many", "ties"] (spD K T r_is_order) :=
  fnDC1 (g := g_is_order) rfl F sc_is_order rfl rfl fun A outer s H hr hgd => by
    unfold g_is_order
    exact (es_cons (es_if (PW.pt (ew_or (et_not (et_val (ev_call G_is_integer (hr.mono (by decide)) hgd rfl (TX.fn "is_integer" (by decide)) k_is_integer B_is_integer (ea_cons (ev_var (pv 0)) ea_nil)))) (ew_or1 (et_not (et_chain Ev.op_leQ val_le Ev.op_leQ val_le ev_int (ev_var (pv 0)) (ev_glob rfl c_MOST_POINTS)))))) (es_one (es_ret ev_bl)) es_nil)
      (es_cons (es_if (PW.pt (ew_or (et_not (et_val (ev_call G_is_list (hr.mono (by decide)) hgd rfl (TX.fn "is_list" (by decide)) k_is_list B_is_list (ea_cons (ev_var (pv 1)) ea_nil)))) (ew_or1 (et_cmp op_gt val_gt (ev_blt call_len val_len rfl (TX.bl "len" (by decide)) (by decide +kernel) (ea_cons (ev_var (pv 1)) ea_nil)) (ev_glob rfl c_MOST_TIES) (nomark _))))) (es_one (es_ret ev_bl)) es_nil)
      (es_cons (es_if (et_not (et_val (ev_all (k := 4) (ix := 2) hP (hr.mono (by decide)) rfl (TX.bl "all" (by decide)) TB rfl (gscp_by (by first | (change gscpC N_is_order (defScope st_is_order) _ _ _ = true; decide +kernel) | (change gscpC N_is_order (relS _ (defScope st_is_order)) _ _ _ = true; decide +kernel))) (ei_seq (ev_var (pv 1))) (fun _ _ _ _ _ => pg_name (i := 2) sc_is_order.nd rfl (by first | exact Or.inl rfl | exact Or.inr (Or.inl rfl) | exact Or.inr rfl)) (fun _ _ _ _ _ hr => (ev_call G_is_tie (hr.mono (by decide)) hgd rfl (TX.fn "is_tie" (by decide)) k_is_tie B_is_tie (ea_cons (ev_var (pv 2)) (ea_cons (ev_var (pv 0)) ea_nil)))) (fun _ => rfl)))) (es_one (es_ret ev_bl)) es_nil)
      (es_cons (es_asg (ev_call G_below_rows (hr.mono (by decide)) hgd rfl (TX.fn "below_rows" (by decide)) k_below_rows B_below_rows (ea_cons (ev_var (pv 0)) (ea_cons (ev_var (pv 1)) ea_nil))) (pg_name (i := 3) sc_is_order.nd rfl (by first | exact Or.inl rfl | exact Or.inr (Or.inl rfl) | exact Or.inr rfl)) (eg_name (by decide)))
      (es_one (es_ret (ev_not (ev_any (k := 4) (ix := 4) hP (hr.mono (by decide)) rfl (TX.bl "any" (by decide)) TB rfl (gscp_by (by first | (change gscpC N_is_order (defScope st_is_order) _ _ _ = true; decide +kernel) | (change gscpC N_is_order (relS _ (defScope st_is_order)) _ _ _ = true; decide +kernel))) (ei_range1 rfl (TX.bl "range" (by decide)) (ea_cons (ev_var (pv 0)) ea_nil)) (fun _ _ _ _ _ => pg_name (i := 4) sc_is_order.nd rfl (by first | exact Or.inl rfl | exact Or.inr (Or.inl rfl) | exact Or.inr rfl)) (fun _ _ _ _ _ hr => (ev_ix ix_seq val_ix (ev_ix ix_seq val_ix (ev_var (pv 3)) (ev_var (pv 4)) (fun _ _ => rfl)) (ev_var (pv 4)) (fun _ _ => rfl))) (fun _ => rfl)))))))))
abbrev N_is_plain_kind : List Str := ["value", "word"]
theorem sc_is_plain_kind : FnScope N_is_plain_kind ["value"] (defScope st_is_plain_kind) := ⟨rfl, rfl, rfl, by decide +kernel, rfl, by decide +kernel, by decide +kernel⟩
theorem ok_is_plain_kind {a : Addr} {fd : FuncData} (TX : Tx mg f) (F : Fun K "is_plain_kind" "is_plain_kind" st_is_plain_kind a fd) {t_LONGEST_ROW : Tok} (c_LONGEST_ROW : mg "LONGEST_ROW" = some (.int 20 t_LONGEST_ROW))
    {fd_is_integer : FuncData} (G_is_integer : FnG P w K mg base 1 (f "is_integer") fd_is_integer ["value"] (spD K T r_is_integer)) (k_is_integer : PySem.W.keepIn K (.ref (f "is_integer")) = true) (B_is_integer : Binds K fd_is_integer ["value"] [])
    {fd_is_order : FuncData} (G_is_order : FnG P w K mg base 6 (f "is_order") fd_is_order ["many", "ties"] (spD K T r_is_order)) (k_is_order : PySem.W.keepIn K (.ref (f "is_order")) = true) (B_is_order : Binds K fd_is_order ["many", "ties"] [])
    {fd_is_table : FuncData} (G_is_table : FnG P w K mg base 8 (f "is_table") fd_is_table ["value"] (spD K T r_is_table)) (k_is_table : PySem.W.keepIn K (.ref (f "is_table")) = true) (B_is_table : Binds K fd_is_table ["value"] []) :
    FnG P w K mg base 9 a fd ["value"] (spD K T r_is_plain_kind) :=
  fnD1 (g := g_is_plain_kind) rfl F sc_is_plain_kind rfl rfl fun cdv A outer s H hr hgd => by
    unfold g_is_plain_kind
    exact (es_cons (es_asg (ev_ix ix_seq val_ix (ev_var (pv 0)) ev_int (fun _ _ => rfl)) (pg_name (i := 1) sc_is_plain_kind.nd rfl (by first | exact Or.inl rfl | exact Or.inr (Or.inl rfl) | exact Or.inr rfl)) (eg_name (by decide)))
      (es_cons (es_if (et_cmp (op_eqD hr.units) val_eq (ev_var (pv 1)) ev_str (nomark _)) (es_one (es_ret (ev_cmp (op_eqD hr.units) val_eq (ev_blt call_len val_len rfl (TX.bl "len" (by decide)) (by decide +kernel) (ea_cons (ev_var (pv 0)) ea_nil)) ev_int (nomark _)))) es_nil)
      (es_cons (es_if (et_cmp (op_eqD hr.units) val_eq (ev_var (pv 1)) ev_str (nomark _)) (es_one (es_ret (ev_and (ev_cmp (op_eqD hr.units) val_eq (ev_blt call_len val_len rfl (TX.bl "len" (by decide)) (by decide +kernel) (ea_cons (ev_var (pv 0)) ea_nil)) ev_int (nomark _)) (ev_and (ev_call G_is_integer (hr.mono (by decide)) hgd rfl (TX.fn "is_integer" (by decide)) k_is_integer B_is_integer (ea_cons (ev_ix ix_seq val_ix (ev_var (pv 0)) ev_int (fun _ _ => rfl)) ea_nil)) (ev_one (ev_chain Ev.op_leQ val_le Ev.op_leQ val_le ev_int (ev_ix ix_seq val_ix (ev_var (pv 0)) ev_int (fun _ _ => rfl)) (ev_glob rfl c_LONGEST_ROW))))))) es_nil)
      (es_cons (es_if (et_cmp (op_eqD hr.units) val_eq (ev_var (pv 1)) ev_str (nomark _)) (es_one (es_ret (ev_and (ev_cmp (op_eqD hr.units) val_eq (ev_blt call_len val_len rfl (TX.bl "len" (by decide)) (by decide +kernel) (ea_cons (ev_var (pv 0)) ea_nil)) ev_int (nomark _)) (ev_one (ev_call G_is_order (hr.mono (by decide)) hgd rfl (TX.fn "is_order" (by decide)) k_is_order B_is_order (ea_cons (ev_ix ix_seq val_ix (ev_var (pv 0)) ev_int (fun _ _ => rfl)) (ea_cons (ev_ix ix_seq val_ix (ev_var (pv 0)) ev_int (fun _ _ => rfl)) ea_nil))))))) es_nil)
      (es_one (es_ret (ev_and (ev_cmp (op_eqD hr.units) val_eq (ev_var (pv 1)) ev_str (nomark _)) (ev_and (ev_cmp (op_eqD hr.units) val_eq (ev_blt call_len val_len rfl (TX.bl "len" (by decide)) (by decide +kernel) (ea_cons (ev_var (pv 0)) ea_nil)) ev_int (nomark _)) (ev_one (ev_call G_is_table (hr.mono (by decide)) hgd rfl (TX.fn "is_table" (by decide)) k_is_table B_is_table (ea_cons (ev_ix ix_seq val_ix (ev_var (pv 0)) ev_int (fun _ _ => rfl)) ea_nil)))))))))))
abbrev N_kinds_within : List Str := ["value", "deep", "numbers", "part"]
theorem sc_kinds_within : FnScope N_kinds_within ["value", "deep"] (defScope st_kinds_within) := ⟨rfl, rfl, rfl, by decide +kernel, rfl, by decide +kernel, by decide +kernel⟩
theorem okR_kinds_within (TX : Tx mg f) {d_INNER_KINDS : Addr} {es_INNER_KINDS : Array DictEntry} {n_INNER_KINDS : Nat} (D_INNER_KINDS : DctK K w mg "INNER_KINDS" tab_INNER_KINDS d_INNER_KINDS es_INNER_KINDS n_INNER_KINDS)
    {fd_kinds_within : FuncData} (F_kinds_within : Fun K "kinds_within" "kinds_within" st_kinds_within (f "kinds_within") fd_kinds_within) (k_kinds_within : PySem.W.keepIn K (.ref (f "kinds_within")) = true) (B_kinds_within : Binds K fd_kinds_within ["value", "deep"] [])
    {fd_is_plain_kind : FuncData} (G_is_plain_kind : FnG P w K mg base 9 (f "is_plain_kind") fd_is_plain_kind ["value"] (spD K T r_is_plain_kind)) (k_is_plain_kind : PySem.W.keepIn K (.ref (f "is_plain_kind")) = true) (B_is_plain_kind : Binds K fd_is_plain_kind ["value"] []) :
    ∀ m, FnG P w K mg base (10 + 1 * m) (f "kinds_within") fd_kinds_within ["value", "deep"] (spD K T (r_kinds_within m)) := by
  intro m
  induction m with
  | zero => exact fn_never (by rfl)
  | succ m ih =>
    have G_kinds_within := ih
    · refine Ev.FnG.mono (fnD1 (k := 10 + 1 * m + 0) (g := g_kinds_within (r_kinds_within m)) (by rfl) F_kinds_within sc_kinds_within rfl rfl fun cdv A outer s H hr hgd => ?_) (by omega)
      unfold g_kinds_within
      exact (es_cons (es_if (PW.pt (ew_or (et_cmp (op_eqD hr.units) val_eq (ev_var (pv 1)) ev_int (nomark _)) (ew_or (et_not (et_val (ev_isi (b := isTp) kit_tup rfl (TX.bl "isinstance" (by decide)) (Ev.pe_ty rfl (TX.bl "tuple" (by decide)) (by decide +kernel)) (ev_var (pv 0))))) (ew_or (et_cmp (op_eqD hr.units) val_eq (ev_blt call_len val_len rfl (TX.bl "len" (by decide)) (by decide +kernel) (ea_cons (ev_var (pv 0)) ea_nil)) ev_int (nomark _)) (ew_or1 (et_not (et_val (ev_isi (b := isSt) kit_str rfl (TX.bl "isinstance" (by decide)) (Ev.pe_ty rfl (TX.bl "str" (by decide)) (by decide +kernel)) (ev_ix ix_seq val_ix (ev_var (pv 0)) ev_int (fun _ _ => rfl)))))))))) (es_one (es_ret ev_int)) es_nil)
      (es_cons (es_if (et_knotin D_INNER_KINDS rfl (ev_ix ix_seq val_ix (ev_var (pv 0)) ev_int (fun _ _ => rfl))) (es_one (es_ret (ev_if (et_val (ev_call G_is_plain_kind (hr.mono (by omega)) hgd rfl (TX.fn "is_plain_kind" (by decide)) k_is_plain_kind B_is_plain_kind (ea_cons (ev_var (pv 0)) ea_nil))) ev_int ev_int))) es_nil)
      (es_cons (es_if (et_cmp (op_neD hr.units) val_ne (ev_blt call_len val_len rfl (TX.bl "len" (by decide)) (by decide +kernel) (ea_cons (ev_var (pv 0)) ea_nil)) (ev_add ev_int (ev_kix D_INNER_KINDS rfl (ev_ix ix_seq val_ix (ev_var (pv 0)) ev_int (fun _ _ => rfl)) (fun _ _ => rfl))) (nomark _)) (es_one (es_ret ev_int)) es_nil)
      (es_cons (es_setE (i := 2) (ps_setLc (own := [("part", 3)]) rfl sc_kinds_within.nd rfl (by first | rfl | decide +kernel) (sw_true rfl (by first | rfl | decide +kernel) rfl (by decide +kernel)) (ei_seq (ev_slice (ev_var (pv 0)) (eo_some ev_int) eo_none)) (blkOk_by (by first | (change blkC N_kinds_within (defScope st_kinds_within) _ _ = true; decide +kernel) | (change blkC N_kinds_within (relS _ (defScope st_kinds_within)) _ _ = true; decide +kernel))) (fun _ _ _ _ _ => by exact (pg_name (i := 3) sc_kinds_within.nd rfl (by first | exact Or.inl rfl | exact Or.inr (Or.inl rfl) | exact Or.inr rfl))) (fun _ _ _ _ _ => by exact ets_nil) (fun _ _ _ _ _ => by exact (ev_call G_kinds_within (hr.mono (by omega)) hgd rfl (TX.fn "kinds_within" (by decide)) k_kinds_within B_kinds_within (ea_cons (ev_var (pv 3)) (ea_cons (ev_sub (ev_var (pv 1)) ev_int) ea_nil))))) (fun _ _ _ w => tLc_of (egb_name (by decide)) w) (by decide))
      (es_one (es_ret (ev_if (et_cmp (op_inD hr.u66') val_in ev_int (ev_var (pv 2)) (by rfl)) ev_int (ev_add ev_int (ev_blt (cr_sum rfl) val_sum rfl (TX.bl "sum" (by decide)) (by decide +kernel) (ea_cons (ev_var (pv 2)) ea_nil))))))))))
abbrev N_is_kind : List Str := ["value"]
theorem sc_is_kind : FnScope N_is_kind ["value"] (defScope st_is_kind) := ⟨rfl, rfl, rfl, by decide +kernel, rfl, by decide +kernel, by decide +kernel⟩
theorem ok_is_kind {a : Addr} {fd : FuncData} (TX : Tx mg f) (F : Fun K "is_kind" "is_kind" st_is_kind a fd) {t_MOST_DEEP : Tok} (c_MOST_DEEP : mg "MOST_DEEP" = some (.int 4 t_MOST_DEEP)) {t_MOST_KINDS : Tok} (c_MOST_KINDS : mg "MOST_KINDS" = some (.int 12 t_MOST_KINDS))
    {fd_kinds_within : FuncData} (G_kinds_within : ∀ m, FnG P w K mg base (10 + 1 * m) (f "kinds_within") fd_kinds_within ["value", "deep"] (spD K T (r_kinds_within m))) (k_kinds_within : PySem.W.keepIn K (.ref (f "kinds_within")) = true) (B_kinds_within : Binds K fd_kinds_within ["value", "deep"] []) :
    FnG P w K mg base 23 a fd ["value"] (spD K T r_is_kind) :=
  fnD1 (g := g_is_kind) rfl F sc_is_kind rfl rfl fun cdv A outer s H hr hgd => by
    unfold g_is_kind
    exact (es_one (es_ret (ev_chain Ev.op_leQ val_le Ev.op_leQ val_le ev_int (ev_call (G_kinds_within 12) (hr.mono (by decide)) hgd rfl (TX.fn "kinds_within" (by decide)) k_kinds_within B_kinds_within (ea_cons (ev_var (pv 0)) (ea_cons (ev_glob rfl c_MOST_DEEP) ea_nil))) (ev_glob rfl c_MOST_KINDS))))
abbrev N_told_kind : List Str := ["kind"]
theorem sc_told_kind : FnScope N_told_kind ["kind"] (defScope st_told_kind) := ⟨rfl, rfl, rfl, by decide +kernel, rfl, by decide +kernel, by decide +kernel⟩
theorem ok_told_kind {a : Addr} {fd : FuncData} (TX : Tx mg f) (F : Fun K "told_kind" "told_kind" st_told_kind a fd)
    {fd_is_kind : FuncData} (G_is_kind : FnG P w K mg base 23 (f "is_kind") fd_is_kind ["value"] (spD K T r_is_kind)) (k_is_kind : PySem.W.keepIn K (.ref (f "is_kind")) = true) (B_is_kind : Binds K fd_is_kind ["value"] [])
    {fd_kind_as_told : FuncData} (G_kind_as_told : ∀ m, FnG P w K mg base (1 + 1 * m) (f "kind_as_told") fd_kind_as_told ["kind"] (spD K T (r_kind_as_told m))) (k_kind_as_told : PySem.W.keepIn K (.ref (f "kind_as_told")) = true) (B_kind_as_told : Binds K fd_kind_as_told ["kind"] []) :
    FnG P w K mg base 24 a fd ["kind"] (spD K T r_told_kind) :=
  fnD1 (g := g_told_kind) rfl F sc_told_kind rfl rfl fun cdv A outer s H hr hgd => by
    unfold g_told_kind
    exact (es_cons (es_if (et_not (et_val (ev_call G_is_kind (hr.mono (by decide)) hgd rfl (TX.fn "is_kind" (by decide)) k_is_kind B_is_kind (ea_cons (ev_var (pv 0)) ea_nil)))) (es_one es_never) es_nil)
      (es_one (es_ret (ev_call (G_kind_as_told 12) (hr.mono (by decide)) hgd rfl (TX.fn "kind_as_told" (by decide)) k_kind_as_told B_kind_as_told (ea_cons (ev_var (pv 0)) ea_nil)))))
abbrev N_grade : List Str := ["kind"]
theorem sc_grade : FnScope N_grade ["kind"] (defScope st_grade) := ⟨rfl, rfl, rfl, by decide +kernel, rfl, by decide +kernel, by decide +kernel⟩
theorem ok_grade {a : Addr} {fd : FuncData} (TX : Tx mg f) (F : Fun K "grade" "grade" st_grade a fd)
    {fd_grade_of : FuncData} (G_grade_of : FnG P w K mg base 55 (f "grade_of") fd_grade_of ["kind"] (spD K T r_grade_of)) (k_grade_of : PySem.W.keepIn K (.ref (f "grade_of")) = true) (B_grade_of : Binds K fd_grade_of ["kind"] [])
    {fd_told_kind : FuncData} (G_told_kind : FnG P w K mg base 24 (f "told_kind") fd_told_kind ["kind"] (spD K T r_told_kind)) (k_told_kind : PySem.W.keepIn K (.ref (f "told_kind")) = true) (B_told_kind : Binds K fd_told_kind ["kind"] []) :
    FnG P w K mg base 56 a fd ["kind"] (spD K T r_grade) :=
  fnD1 (g := g_grade) rfl F sc_grade rfl rfl fun cdv A outer s H hr hgd => by
    unfold g_grade
    exact (es_one (es_ret (ev_call G_grade_of (hr.mono (by decide)) hgd rfl (TX.fn "grade_of" (by decide)) k_grade_of B_grade_of (ea_cons (ev_call G_told_kind (hr.mono (by decide)) hgd rfl (TX.fn "told_kind" (by decide)) k_told_kind B_told_kind (ea_cons (ev_var (pv 0)) ea_nil)) ea_nil))))
abbrev N__law_joined : List Str := ["_law_rows", "_law_some", "_law_found", "_law_state"]
theorem sc__law_joined : FnScope N__law_joined ["_law_rows", "_law_some"] (defScope st__law_joined) := ⟨rfl, rfl, rfl, by decide +kernel, rfl, by decide +kernel, by decide +kernel⟩
theorem ok__law_joined {a : Addr} {fd : FuncData} (TX : Tx mg f) (F : Fun K "_law_joined" "_law_joined" st__law_joined a fd) :
    FnG P w K mg base 1 a fd ["_law_rows", "_law_some"] (spD K T r__law_joined) :=
  fnD1 (g := g__law_joined) rfl F sc__law_joined rfl rfl fun cdv A outer s H hr hgd => by
    unfold g__law_joined
    exact (es_cons (es_asg ev_int (pg_name (i := 2) sc__law_joined.nd rfl (by first | exact Or.inl rfl | exact Or.inr (Or.inl rfl) | exact Or.inr rfl)) (eg_name (by decide)))
      (es_cons (es_for PassesOwn.never rfl (ei_seq (ev_var (pv 1))) (pg_name (i := 3) sc__law_joined.nd rfl (by first | exact Or.inl rfl | exact Or.inr (Or.inl rfl) | exact Or.inr rfl)) (eg_name (by decide)) (es_one (es_asg (ev_ix ix_seq val_ix (ev_ix ix_seq val_ix (ev_var (pv 0)) (ev_var (pv 2)) (fun _ _ => rfl)) (ev_var (pv 3)) (fun _ _ => rfl)) (pg_name (i := 2) sc__law_joined.nd rfl (by first | exact Or.inl rfl | exact Or.inr (Or.inl rfl) | exact Or.inr rfl)) (eg_name (by decide)))))
      (es_one (es_ret (ev_var (pv 2))))))
abbrev N__law_all_single : List Str := ["_law_rows", "_law_parts_here", "_law_state", "_law_some", "_law_needed", "_law_part", "_law_one"]
theorem sc__law_all_single : FnScope N__law_all_single ["_law_rows", "_law_parts_here"] (defScope st__law_all_single) := ⟨rfl, rfl, rfl, by decide +kernel, rfl, by decide +kernel, by decide +kernel⟩
theorem ok__law_all_single {a : Addr} {fd : FuncData} (TX : Tx mg f) (F : Fun K "_law_all_single" "_law_all_single" st__law_all_single a fd)
    {fd__law_joined : FuncData} (G__law_joined : FnG P w K mg base 1 (f "_law_joined") fd__law_joined ["_law_rows", "_law_some"] (spD K T r__law_joined)) (k__law_joined : PySem.W.keepIn K (.ref (f "_law_joined")) = true) (B__law_joined : Binds K fd__law_joined ["_law_rows", "_law_some"] []) :
    FnG P w K mg base 2 a fd ["_law_rows", "_law_parts_here"] (spD K T r__law_all_single) :=
  fnD1 (g := g__law_all_single) rfl F sc__law_all_single rfl rfl fun cdv A outer s H hr hgd => by
    unfold g__law_all_single
    exact (es_cons (es_for PassesOwn.never rfl (ei_range1 rfl (TX.bl "range" (by decide)) (ea_cons (ev_blt call_len val_len rfl (TX.bl "len" (by decide)) (by decide +kernel) (ea_cons (ev_var (pv 0)) ea_nil)) ea_nil)) (pg_name (i := 2) sc__law_all_single.nd rfl (by first | exact Or.inl rfl | exact Or.inr (Or.inl rfl) | exact Or.inr rfl)) (eg_name (by decide)) (es_cons (es_parEL (ps_par (i := 3) (j := 4) rfl sc__law_all_single.nd rfl rfl (by decide) (by first | rfl | decide +kernel) (by first | rfl | decide +kernel) (pa_cons (ev_lc (own := [("_law_part", 5)]) rfl sc__law_all_single.nd (ei_seq (ev_var (pv 1))) (blkOk_by (by first | (change blkC N__law_all_single (defScope st__law_all_single) _ _ = true; decide +kernel) | (change blkC N__law_all_single (relS _ (defScope st__law_all_single)) _ _ = true; decide +kernel))) (fun _ _ _ _ _ => by exact (pg_name (i := 5) sc__law_all_single.nd rfl (by first | exact Or.inl rfl | exact Or.inr (Or.inl rfl) | exact Or.inr rfl))) (egb_name (by decide)) (fun _ _ _ _ _ => by exact (ets_one (et_cmp (op_eqD hr.units) val_eq (ev_ix ix_seq val_ix (ev_ix ix_seq val_ix (ev_var (pv 0)) (ev_var (pv 5)) (fun _ _ => rfl)) (ev_var (pv 2)) (fun _ _ => rfl)) (ev_var (pv 2)) (nomark _)))) (fun _ _ _ _ _ => by exact (ev_var (pv 5)))) (pa_cons (el_lst ea_nil) pa_nil)) (by rfl)) (by decide))
      (es_cons (es_for PassesOwn.never rfl (ei_seq (ev_var (pv 3))) (pg_name (i := 5) sc__law_all_single.nd rfl (by first | exact Or.inl rfl | exact Or.inr (Or.inl rfl) | exact Or.inr rfl)) (eg_name (by decide)) (es_one (es_if (et_cmp (op_neD hr.units) val_ne (ev_call G__law_joined (hr.mono (by decide)) hgd rfl (TX.fn "_law_joined" (by decide)) k__law_joined B__law_joined (ea_cons (ev_var (pv 0)) (ea_cons (ev_lc (own := [("_law_one", 6)]) rfl sc__law_all_single.nd (ei_seq (ev_var (pv 3))) (blkOk_by (by first | (change blkC N__law_all_single (defScope st__law_all_single) _ _ = true; decide +kernel) | (change blkC N__law_all_single (relS _ (defScope st__law_all_single)) _ _ = true; decide +kernel))) (fun _ _ _ _ _ => by exact (pg_name (i := 6) sc__law_all_single.nd rfl (by first | exact Or.inl rfl | exact Or.inr (Or.inl rfl) | exact Or.inr rfl))) (egb_name (by decide)) (fun _ _ _ _ _ => by exact (ets_one (et_cmp (op_neD hr.units) val_ne (ev_var (pv 6)) (ev_var (pv 5)) (nomark _)))) (fun _ _ _ _ _ => by exact (ev_var (pv 6)))) ea_nil))) (ev_var (pv 2)) (nomark _)) (es_one (es_expr (ev_append (pv 4) (ev_var (pv 5))))) es_nil)))
      (es_one (es_if (et_cmp (op_neD hr.units) val_ne (ev_call G__law_joined (hr.mono (by decide)) hgd rfl (TX.fn "_law_joined" (by decide)) k__law_joined B__law_joined (ea_cons (ev_var (pv 0)) (ea_cons (ev_frz (pv 4)) ea_nil))) (ev_var (pv 2)) (nomark _)) (es_one (es_ret ev_bl)) es_nil)))))
      (es_one (es_ret ev_bl)))
abbrev N_least_of : List Str := ["kind", "word"]
theorem sc_least_of : FnScope N_least_of ["kind"] (defScope st_least_of) := ⟨rfl, rfl, rfl, by decide +kernel, rfl, by decide +kernel, by decide +kernel⟩
theorem okR_least_of (TX : Tx mg f)
    {fd_least_of : FuncData} (F_least_of : Fun K "least_of" "least_of" st_least_of (f "least_of") fd_least_of) (k_least_of : PySem.W.keepIn K (.ref (f "least_of")) = true) (B_least_of : Binds K fd_least_of ["kind"] []) :
    ∀ m, FnG P w K mg base (1 + 1 * m) (f "least_of") fd_least_of ["kind"] (spD K T (r_least_of m)) := by
  intro m
  induction m with
  | zero => exact fn_never (by rfl)
  | succ m ih =>
    have G_least_of := ih
    · refine Ev.FnG.mono (fnD1 (k := 1 + 1 * m + 0) (g := g_least_of (r_least_of m)) (by rfl) F_least_of sc_least_of rfl rfl fun cdv A outer s H hr hgd => ?_) (by omega)
      unfold g_least_of
      exact (es_cons (es_asg (ev_ix ix_seq val_ix (ev_var (pv 0)) ev_int (fun _ _ => rfl)) (pg_name (i := 1) sc_least_of.nd rfl (by first | exact Or.inl rfl | exact Or.inr (Or.inl rfl) | exact Or.inr rfl)) (eg_name (by decide)))
      (es_cons (es_if (et_cmp (op_inD hr.u66') val_in (ev_var (pv 1)) (ev_tup (ea_cons ev_str (ea_cons ev_str ea_nil))) (by rfl)) (es_one (es_ret (ev_lst ea_nil))) es_nil)
      (es_cons (es_if (et_cmp (op_eqD hr.units) val_eq (ev_var (pv 1)) ev_str (nomark _)) (es_one (es_ret (ev_tup (ea_cons ev_str (ea_cons (ev_call G_least_of (hr.mono (by omega)) hgd rfl (TX.fn "least_of" (by decide)) k_least_of B_least_of (ea_cons (ev_ix ix_seq val_ix (ev_var (pv 0)) ev_int (fun _ _ => rfl)) ea_nil)) ea_nil))))) es_nil)
      (es_cons (es_if (et_cmp (op_inD hr.u66') val_in (ev_var (pv 1)) (ev_tup (ea_cons ev_str (ea_cons ev_str ea_nil))) (by rfl)) (es_one (es_ret (ev_tup (ea_cons (ev_call G_least_of (hr.mono (by omega)) hgd rfl (TX.fn "least_of" (by decide)) k_least_of B_least_of (ea_cons (ev_ix ix_seq val_ix (ev_var (pv 0)) ev_int (fun _ _ => rfl)) ea_nil)) (ea_cons (ev_call G_least_of (hr.mono (by omega)) hgd rfl (TX.fn "least_of" (by decide)) k_least_of B_least_of (ea_cons (ev_ix ix_seq val_ix (ev_var (pv 0)) ev_int (fun _ _ => rfl)) ea_nil)) ea_nil))))) es_nil)
      (es_one (es_ret ev_int))))))
abbrev N_side_of : List Str := ["kind", "word"]
theorem sc_side_of : FnScope N_side_of ["kind", "word"] (defScope st_side_of) := ⟨rfl, rfl, rfl, by decide +kernel, rfl, by decide +kernel, by decide +kernel⟩
theorem ok_side_of {a : Addr} {fd : FuncData} (TX : Tx mg f) (F : Fun K "side_of" "side_of" st_side_of a fd) :
    FnG P w K mg base 1 a fd ["kind", "word"] (spD K T r_side_of) :=
  fnD1 (g := g_side_of) rfl F sc_side_of rfl rfl fun cdv A outer s H hr hgd => by
    unfold g_side_of
    exact (es_one (es_ret (ev_if (et_cmp (op_eqD hr.units) val_eq (ev_var (pv 1)) ev_str (nomark _)) (ev_ix ix_seq val_ix (ev_var (pv 0)) ev_int (fun _ _ => rfl)) (ev_ix ix_seq val_ix (ev_var (pv 0)) ev_int (fun _ _ => rfl)))))
abbrev N_part : List Str := ["kind", "state", "word"]
abbrev N_is_part_of_pair : List Str := ["kind", "state"]
abbrev N_is_part_of_later : List Str := ["kind", "state"]
theorem sc_part : FnScope N_part ["kind", "state"] (defScope st_part) := ⟨rfl, rfl, rfl, by decide +kernel, rfl, by decide +kernel, by decide +kernel⟩
theorem sc_is_part_of_pair : FnScope N_is_part_of_pair ["kind", "state"] (defScope st_is_part_of_pair) := ⟨rfl, rfl, rfl, by decide +kernel, rfl, by decide +kernel, by decide +kernel⟩
theorem sc_is_part_of_later : FnScope N_is_part_of_later ["kind", "state"] (defScope st_is_part_of_later) := ⟨rfl, rfl, rfl, by decide +kernel, rfl, by decide +kernel, by decide +kernel⟩
theorem okR_part (TX : Tx mg f)
    {fd_part : FuncData} (F_part : Fun K "part" "part" st_part (f "part") fd_part) (k_part : PySem.W.keepIn K (.ref (f "part")) = true) (B_part : Binds K fd_part ["kind", "state"] [])
    {fd_is_part_of_pair : FuncData} (F_is_part_of_pair : Fun K "is_part_of_pair" "is_part_of_pair" st_is_part_of_pair (f "is_part_of_pair") fd_is_part_of_pair) (k_is_part_of_pair : PySem.W.keepIn K (.ref (f "is_part_of_pair")) = true) (B_is_part_of_pair : Binds K fd_is_part_of_pair ["kind", "state"] [])
    {fd_is_part_of_later : FuncData} (F_is_part_of_later : Fun K "is_part_of_later" "is_part_of_later" st_is_part_of_later (f "is_part_of_later") fd_is_part_of_later) (k_is_part_of_later : PySem.W.keepIn K (.ref (f "is_part_of_later")) = true) (B_is_part_of_later : Binds K fd_is_part_of_later ["kind", "state"] [])
    {fd_is_part_in : FuncData} (G_is_part_in : FnG P w K mg base 4 (f "is_part_in") fd_is_part_in ["table", "number"] (spD K T r_is_part_in)) (k_is_part_in : PySem.W.keepIn K (.ref (f "is_part_in")) = true) (B_is_part_in : Binds K fd_is_part_in ["table", "number"] [])
    {fd_least_of : FuncData} (G_least_of : ∀ m, FnG P w K mg base (1 + 1 * m) (f "least_of") fd_least_of ["kind"] (spD K T (r_least_of m))) (k_least_of : PySem.W.keepIn K (.ref (f "least_of")) = true) (B_least_of : Binds K fd_least_of ["kind"] [])
    {fd_side_of : FuncData} (G_side_of : FnG P w K mg base 1 (f "side_of") fd_side_of ["kind", "word"] (spD K T r_side_of)) (k_side_of : PySem.W.keepIn K (.ref (f "side_of")) = true) (B_side_of : Binds K fd_side_of ["kind", "word"] []) :
    ∀ m, FnG P w K mg base (14 + 1 * m) (f "part") fd_part ["kind", "state"] (spD K T (r_part m)) ∧ FnG P w K mg base (14 + 1 * m) (f "is_part_of_pair") fd_is_part_of_pair ["kind", "state"] (spD K T (r_is_part_of_pair m)) ∧ FnG P w K mg base (14 + 1 * m) (f "is_part_of_later") fd_is_part_of_later ["kind", "state"] (spD K T (r_is_part_of_later m)) := by
  intro m
  induction m with
  | zero => exact ⟨fn_never (by rfl), fn_never (by rfl), fn_never (by rfl)⟩
  | succ m ih =>
    obtain ⟨G_part, G_is_part_of_pair, G_is_part_of_later⟩ := ih
    refine ⟨?_, ?_, ?_⟩
    · refine Ev.FnG.mono (fnD1 (k := 14 + 1 * m + 0) (g := g_part (r_part m) (r_is_part_of_pair m) (r_is_part_of_later m)) (by rfl) F_part sc_part rfl rfl fun cdv A outer s H hr hgd => ?_) (by omega)
      unfold g_part
      exact (es_cons (es_asg (ev_ix ix_seq val_ix (ev_var (pv 0)) ev_int (fun _ _ => rfl)) (pg_name (i := 2) sc_part.nd rfl (by first | exact Or.inl rfl | exact Or.inr (Or.inl rfl) | exact Or.inr rfl)) (eg_name (by decide)))
      (es_cons (es_if (et_cmp (op_eqD hr.units) val_eq (ev_var (pv 2)) ev_str (nomark _)) (es_one (es_ret (ev_call G_is_part_in (hr.mono (by omega)) hgd rfl (TX.fn "is_part_in" (by decide)) k_is_part_in B_is_part_in (ea_cons (ev_ix ix_seq val_ix (ev_var (pv 0)) ev_int (fun _ _ => rfl)) (ea_cons (ev_var (pv 1)) ea_nil))))) es_nil)
      (es_cons (es_if (et_cmp (op_eqD hr.units) val_eq (ev_var (pv 2)) ev_str (nomark _)) (es_one (es_ret (ev_cmp (op_eqD hr.units) val_eq (ev_blt call_len val_len rfl (TX.bl "len" (by decide)) (by decide +kernel) (ea_cons (ev_var (pv 1)) ea_nil)) ev_int (nomark _)))) es_nil)
      (es_cons (es_if (et_cmp (op_eqD hr.units) val_eq (ev_var (pv 2)) ev_str (nomark _)) (es_one (es_ret (ev_and (ev_cmp (op_eqD hr.units) val_eq (ev_blt call_len val_len rfl (TX.bl "len" (by decide)) (by decide +kernel) (ea_cons (ev_var (pv 1)) ea_nil)) ev_int (nomark _)) (ev_one (ev_call G_part (hr.mono (by omega)) hgd rfl (TX.fn "part" (by decide)) k_part B_part (ea_cons (ev_ix ix_seq val_ix (ev_var (pv 0)) ev_int (fun _ _ => rfl)) (ea_cons (ev_ix ix_seq val_ix (ev_ix ix_seq val_ix (ev_var (pv 1)) ev_int (fun _ _ => rfl)) ev_int (fun _ _ => rfl)) ea_nil))))))) es_nil)
      (es_cons (es_if (et_cmp (op_eqD hr.units) val_eq (ev_var (pv 2)) ev_str (nomark _)) (es_one (es_ret (ev_call G_is_part_of_pair (hr.mono (by omega)) hgd rfl (TX.fn "is_part_of_pair" (by decide)) k_is_part_of_pair B_is_part_of_pair (ea_cons (ev_var (pv 0)) (ea_cons (ev_var (pv 1)) ea_nil))))) es_nil)
      (es_cons (es_if (et_cmp (op_eqD hr.units) val_eq (ev_var (pv 2)) ev_str (nomark _)) (es_one (es_ret (ev_call G_is_part_of_later (hr.mono (by omega)) hgd rfl (TX.fn "is_part_of_later" (by decide)) k_is_part_of_later B_is_part_of_later (ea_cons (ev_var (pv 0)) (ea_cons (ev_var (pv 1)) ea_nil))))) es_nil)
      (es_cons (es_if (et_cmp (op_eqD hr.units) val_eq (ev_var (pv 2)) ev_str (nomark _)) (es_one (es_ret (ev_or (ev_cmp (op_eqD hr.units) val_eq (ev_var (pv 1)) (ev_tup (ea_cons ev_str (ea_cons (ev_call (G_least_of 12) (hr.mono (by omega)) hgd rfl (TX.fn "least_of" (by decide)) k_least_of B_least_of (ea_cons (ev_ix ix_seq val_ix (ev_var (pv 0)) ev_int (fun _ _ => rfl)) ea_nil)) ea_nil))) (nomark _)) (ev_one (ev_call G_part (hr.mono (by omega)) hgd rfl (TX.fn "part" (by decide)) k_part B_part (ea_cons (ev_call G_side_of (hr.mono (by omega)) hgd rfl (TX.fn "side_of" (by decide)) k_side_of B_side_of (ea_cons (ev_var (pv 0)) (ea_cons (ev_ix ix_seq val_ix (ev_var (pv 1)) ev_int (fun _ _ => rfl)) ea_nil))) (ea_cons (ev_ix ix_seq val_ix (ev_var (pv 1)) ev_int (fun _ _ => rfl)) ea_nil))))))) es_nil)
      (es_one (es_ret (ev_cmp (op_neD hr.units) val_ne (ev_var (pv 1)) ev_int (nomark _)))))))))))
    · refine Ev.FnG.mono (fnD1 (k := 14 + 1 * m + 0) (g := g_is_part_of_pair (r_part m) (r_is_part_of_pair m) (r_is_part_of_later m)) (by rfl) F_is_part_of_pair sc_is_part_of_pair rfl rfl fun cdv A outer s H hr hgd => ?_) (by omega)
      unfold g_is_part_of_pair
      exact (es_cons (es_if (et_cmp (op_eqD hr.units) val_eq (ev_ix ix_seq val_ix (ev_var (pv 1)) ev_int (fun _ _ => rfl)) (ev_call (G_least_of 12) (hr.mono (by omega)) hgd rfl (TX.fn "least_of" (by decide)) k_least_of B_least_of (ea_cons (ev_ix ix_seq val_ix (ev_var (pv 0)) ev_int (fun _ _ => rfl)) ea_nil)) (nomark _)) (es_one (es_ret (ev_call G_part (hr.mono (by omega)) hgd rfl (TX.fn "part" (by decide)) k_part B_part (ea_cons (ev_ix ix_seq val_ix (ev_var (pv 0)) ev_int (fun _ _ => rfl)) (ea_cons (ev_ix ix_seq val_ix (ev_var (pv 1)) ev_int (fun _ _ => rfl)) ea_nil))))) es_nil)
      (es_one (es_ret (ev_and (ev_cmp (op_eqD hr.units) val_eq (ev_ix ix_seq val_ix (ev_var (pv 1)) ev_int (fun _ _ => rfl)) (ev_call (G_least_of 12) (hr.mono (by omega)) hgd rfl (TX.fn "least_of" (by decide)) k_least_of B_least_of (ea_cons (ev_ix ix_seq val_ix (ev_var (pv 0)) ev_int (fun _ _ => rfl)) ea_nil)) (nomark _)) (ev_one (ev_call G_part (hr.mono (by omega)) hgd rfl (TX.fn "part" (by decide)) k_part B_part (ea_cons (ev_ix ix_seq val_ix (ev_var (pv 0)) ev_int (fun _ _ => rfl)) (ea_cons (ev_ix ix_seq val_ix (ev_var (pv 1)) ev_int (fun _ _ => rfl)) ea_nil))))))))
    · refine Ev.FnG.mono (fnD1 (k := 14 + 1 * m + 0) (g := g_is_part_of_later (r_part m) (r_is_part_of_pair m) (r_is_part_of_later m)) (by rfl) F_is_part_of_later sc_is_part_of_later rfl rfl fun cdv A outer s H hr hgd => ?_) (by omega)
      unfold g_is_part_of_later
      exact (es_cons (es_if (et_cmp (op_eqD hr.units) val_eq (ev_ix ix_seq val_ix (ev_var (pv 1)) ev_int (fun _ _ => rfl)) (ev_call (G_least_of 12) (hr.mono (by omega)) hgd rfl (TX.fn "least_of" (by decide)) k_least_of B_least_of (ea_cons (ev_ix ix_seq val_ix (ev_var (pv 0)) ev_int (fun _ _ => rfl)) ea_nil)) (nomark _)) (es_one (es_ret (ev_call G_part (hr.mono (by omega)) hgd rfl (TX.fn "part" (by decide)) k_part B_part (ea_cons (ev_ix ix_seq val_ix (ev_var (pv 0)) ev_int (fun _ _ => rfl)) (ea_cons (ev_ix ix_seq val_ix (ev_var (pv 1)) ev_int (fun _ _ => rfl)) ea_nil))))) es_nil)
      (es_one (es_ret (ev_call G_part (hr.mono (by omega)) hgd rfl (TX.fn "part" (by decide)) k_part B_part (ea_cons (ev_ix ix_seq val_ix (ev_var (pv 0)) ev_int (fun _ _ => rfl)) (ea_cons (ev_ix ix_seq val_ix (ev_var (pv 1)) ev_int (fun _ _ => rfl)) ea_nil))))))
abbrev N_state_as_told : List Str := ["kind", "state", "word", "name", "inner"]
theorem sc_state_as_told : FnScope N_state_as_told ["kind", "state"] (defScope st_state_as_told) := ⟨rfl, rfl, rfl, by decide +kernel, rfl, by decide +kernel, by decide +kernel⟩
theorem okR_state_as_told (TX : Tx mg f)
    {fd_state_as_told : FuncData} (F_state_as_told : Fun K "state_as_told" "state_as_told" st_state_as_told (f "state_as_told") fd_state_as_told) (k_state_as_told : PySem.W.keepIn K (.ref (f "state_as_told")) = true) (B_state_as_told : Binds K fd_state_as_told ["kind", "state"] [])
    {fd_side_of : FuncData} (G_side_of : FnG P w K mg base 1 (f "side_of") fd_side_of ["kind", "word"] (spD K T r_side_of)) (k_side_of : PySem.W.keepIn K (.ref (f "side_of")) = true) (B_side_of : Binds K fd_side_of ["kind", "word"] []) :
    ∀ m, FnG P w K mg base (2 + 1 * m) (f "state_as_told") fd_state_as_told ["kind", "state"] (spD K T (r_state_as_told m)) := by
  intro m
  induction m with
  | zero => exact fn_never (by rfl)
  | succ m ih =>
    have G_state_as_told := ih
    · refine Ev.FnG.mono (fnD1 (k := 2 + 1 * m + 0) (g := g_state_as_told (r_state_as_told m)) (by rfl) F_state_as_told sc_state_as_told rfl rfl fun cdv A outer s H hr hgd => ?_) (by omega)
      unfold g_state_as_told
      exact (es_cons (es_asg (ev_ix ix_seq val_ix (ev_var (pv 0)) ev_int (fun _ _ => rfl)) (pg_name (i := 2) sc_state_as_told.nd rfl (by first | exact Or.inl rfl | exact Or.inr (Or.inl rfl) | exact Or.inr rfl)) (eg_name (by decide)))
      (es_cons (es_if (et_cmp (op_eqD hr.units) val_eq (ev_var (pv 2)) ev_str (nomark _)) (es_one (es_ret (ev_bty call_list_of val_list rfl (TX.bl "list" (by decide)) (by decide +kernel) (ea_cons (ev_var (pv 1)) ea_nil)))) es_nil)
      (es_cons (es_if (et_cmp (op_eqD hr.units) val_eq (ev_var (pv 2)) ev_str (nomark _)) (es_one (es_ret (ev_lc (own := [("name", 3), ("inner", 4)]) rfl sc_state_as_told.nd (ei_seq (ev_var (pv 1))) (blkOk_by (by first | (change blkC N_state_as_told (defScope st_state_as_told) _ _ = true; decide +kernel) | (change blkC N_state_as_told (relS _ (defScope st_state_as_told)) _ _ = true; decide +kernel))) (fun _ _ _ _ _ => by exact (pg_tup rfl (pgs_cons (pg_name (i := 3) sc_state_as_told.nd rfl (by first | exact Or.inl rfl | exact Or.inr (Or.inl rfl) | exact Or.inr rfl)) (pgs_cons (pg_name (i := 4) sc_state_as_told.nd rfl (by first | exact Or.inl rfl | exact Or.inr (Or.inl rfl) | exact Or.inr rfl)) pgs_nil)))) (egb_tup (egbs_cons (egb_name (by decide)) (egbs_cons (egb_name (by decide)) egbs_nil))) (fun _ _ _ _ _ => by exact ets_nil) (fun _ _ _ _ _ => by exact (ev_tup (ea_cons (ev_var (pv 3)) (ea_cons (ev_call G_state_as_told (hr.mono (by omega)) hgd rfl (TX.fn "state_as_told" (by decide)) k_state_as_told B_state_as_told (ea_cons (ev_ix ix_seq val_ix (ev_var (pv 0)) ev_int (fun _ _ => rfl)) (ea_cons (ev_var (pv 4)) ea_nil))) ea_nil))))))) es_nil)
      (es_cons (es_if (et_cmp (op_eqD hr.units) val_eq (ev_var (pv 2)) ev_str (nomark _)) (es_one (es_ret (ev_tup (ea_cons (ev_ix ix_seq val_ix (ev_var (pv 1)) ev_int (fun _ _ => rfl)) (ea_cons (ev_call G_state_as_told (hr.mono (by omega)) hgd rfl (TX.fn "state_as_told" (by decide)) k_state_as_told B_state_as_told (ea_cons (ev_call G_side_of (hr.mono (by omega)) hgd rfl (TX.fn "side_of" (by decide)) k_side_of B_side_of (ea_cons (ev_var (pv 0)) (ea_cons (ev_ix ix_seq val_ix (ev_var (pv 1)) ev_int (fun _ _ => rfl)) ea_nil))) (ea_cons (ev_ix ix_seq val_ix (ev_var (pv 1)) ev_int (fun _ _ => rfl)) ea_nil))) ea_nil))))) es_nil)
      (es_cons (es_if (et_cmp (op_inD hr.u66') val_in (ev_var (pv 2)) (ev_tup (ea_cons ev_str (ea_cons ev_str ea_nil))) (by rfl)) (es_one (es_ret (ev_tup (ea_cons (ev_call G_state_as_told (hr.mono (by omega)) hgd rfl (TX.fn "state_as_told" (by decide)) k_state_as_told B_state_as_told (ea_cons (ev_ix ix_seq val_ix (ev_var (pv 0)) ev_int (fun _ _ => rfl)) (ea_cons (ev_ix ix_seq val_ix (ev_var (pv 1)) ev_int (fun _ _ => rfl)) ea_nil))) (ea_cons (ev_call G_state_as_told (hr.mono (by omega)) hgd rfl (TX.fn "state_as_told" (by decide)) k_state_as_told B_state_as_told (ea_cons (ev_ix ix_seq val_ix (ev_var (pv 0)) ev_int (fun _ _ => rfl)) (ea_cons (ev_ix ix_seq val_ix (ev_var (pv 1)) ev_int (fun _ _ => rfl)) ea_nil))) ea_nil))))) es_nil)
      (es_one (es_ret (ev_var (pv 1)))))))))
abbrev N_tops_among : List Str := ["below", "points", "low", "high"]
theorem sc_tops_among : FnScope N_tops_among ["below", "points"] (defScope st_tops_among) := ⟨rfl, rfl, rfl, by decide +kernel, rfl, by decide +kernel, by decide +kernel⟩
theorem ok_tops_among {a c p : Addr} {fd : FuncData} (TX : Tx mg f) (F : FunC K "tops_among" "tops_among" st_tops_among a fd c) (TB : GxR.TabB base mg c p) (hP : p ∈ T) :
    FnG P w K mg base 2 a fd ["below", "points"] (spD K T r_tops_among) :=
  fnDC1 (g := g_tops_among) rfl F sc_tops_among rfl rfl fun A outer s H hr hgd => by
    unfold g_tops_among
    exact (es_one (es_ret (ev_lc (own := [("low", 2)]) rfl sc_tops_among.nd (ei_seq (ev_var (pv 1))) (blkOk_by (by first | (change blkC N_tops_among (defScope st_tops_among) _ _ = true; decide +kernel) | (change blkC N_tops_among (relS _ (defScope st_tops_among)) _ _ = true; decide +kernel))) (fun _ _ _ _ _ => by exact (pg_name (i := 2) sc_tops_among.nd rfl (by first | exact Or.inl rfl | exact Or.inr (Or.inl rfl) | exact Or.inr rfl))) (egb_name (by decide)) (fun _ _ _ _ _ => by exact (ets_one (et_not (et_val (ev_any (k := 0) (ix := 3) hP (hr.mono (by decide)) rfl (TX.bl "any" (by decide)) TB rfl (gscp_by (by first | (change gscpC N_tops_among (defScope st_tops_among) _ _ _ = true; decide +kernel) | (change gscpC N_tops_among (relS _ (defScope st_tops_among)) _ _ _ = true; decide +kernel))) (ei_seq (ev_var (pv 1))) (fun _ _ _ _ _ => pg_name (i := 3) sc_tops_among.nd rfl (by first | exact Or.inl rfl | exact Or.inr (Or.inl rfl) | exact Or.inr rfl)) (fun _ _ _ _ _ hr => (ev_ix ix_seq val_ix (ev_ix ix_seq val_ix (ev_var (pv 0)) (ev_var (pv 2)) (fun _ _ => rfl)) (ev_var (pv 3)) (fun _ _ => rfl))) (fun _ => rfl)))))) (fun _ _ _ _ _ => by exact (ev_var (pv 2))))))
abbrev N_is_loose : List Str := ["below", "points"]
theorem sc_is_loose : FnScope N_is_loose ["below", "points"] (defScope st_is_loose) := ⟨rfl, rfl, rfl, by decide +kernel, rfl, by decide +kernel, by decide +kernel⟩
theorem ok_is_loose {a : Addr} {fd : FuncData} (TX : Tx mg f) (F : Fun K "is_loose" "is_loose" st_is_loose a fd)
    {fd_tops_among : FuncData} (G_tops_among : FnG P w K mg base 2 (f "tops_among") fd_tops_among ["below", "points"] (spD K T r_tops_among)) (k_tops_among : PySem.W.keepIn K (.ref (f "tops_among")) = true) (B_tops_among : Binds K fd_tops_among ["below", "points"] []) :
    FnG P w K mg base 3 a fd ["below", "points"] (spD K T r_is_loose) :=
  fnD1 (g := g_is_loose) rfl F sc_is_loose rfl rfl fun cdv A outer s H hr hgd => by
    unfold g_is_loose
    exact (es_one (es_ret (ev_cmp (op_eqD hr.units) val_eq (ev_blt call_len val_len rfl (TX.bl "len" (by decide)) (by decide +kernel) (ea_cons (ev_call G_tops_among (hr.mono (by decide)) hgd rfl (TX.fn "tops_among" (by decide)) k_tops_among B_tops_among (ea_cons (ev_var (pv 0)) (ea_cons (ev_var (pv 1)) ea_nil))) ea_nil)) (ev_blt call_len val_len rfl (TX.bl "len" (by decide)) (by decide +kernel) (ea_cons (ev_var (pv 1)) ea_nil)) (nomark _))))
abbrev N_is_tops_state : List Str := ["kind", "value", "point"]
theorem sc_is_tops_state : FnScope N_is_tops_state ["kind", "value"] (defScope st_is_tops_state) := ⟨rfl, rfl, rfl, by decide +kernel, rfl, by decide +kernel, by decide +kernel⟩
theorem ok_is_tops_state {a c p : Addr} {fd : FuncData} (TX : Tx mg f) (F : FunC K "is_tops_state" "is_tops_state" st_is_tops_state a fd c) (TB : GxR.TabB base mg c p) (hP : p ∈ T)
    {fd_is_list : FuncData} (G_is_list : FnG P w K mg base 1 (f "is_list") fd_is_list ["value"] (spD K T r_is_list)) (k_is_list : PySem.W.keepIn K (.ref (f "is_list")) = true) (B_is_list : Binds K fd_is_list ["value"] [])
    {fd_is_count_below : FuncData} (G_is_count_below : FnG P w K mg base 3 (f "is_count_below") fd_is_count_below ["value", "bound"] (spD K T r_is_count_below)) (k_is_count_below : PySem.W.keepIn K (.ref (f "is_count_below")) = true) (B_is_count_below : Binds K fd_is_count_below ["value", "bound"] [])
    {fd_is_loose : FuncData} (G_is_loose : FnG P w K mg base 3 (f "is_loose") fd_is_loose ["below", "points"] (spD K T r_is_loose)) (k_is_loose : PySem.W.keepIn K (.ref (f "is_loose")) = true) (B_is_loose : Binds K fd_is_loose ["below", "points"] [])
    {fd_below_rows : FuncData} (G_below_rows : FnG P w K mg base 1 (f "below_rows") fd_below_rows ["many", "ties"] (spD K T r_below_rows)) (k_below_rows : PySem.W.keepIn K (.ref (f "below_rows")) = true) (B_below_rows : Binds K fd_below_rows ["many", "ties"] []) :
    FnG P w K mg base 5 a fd ["kind", "value"] (spD K T r_is_tops_state) :=
  fnDC1 (g := g_is_tops_state) rfl F sc_is_tops_state rfl rfl fun A outer s H hr hgd => by
    unfold g_is_tops_state
    exact (es_cons (es_if (PW.pt (ew_or (et_not (et_val (ev_call G_is_list (hr.mono (by decide)) hgd rfl (TX.fn "is_list" (by decide)) k_is_list B_is_list (ea_cons (ev_var (pv 1)) ea_nil)))) (ew_or1 (et_not (et_val (ev_all (k := 3) (ix := 2) hP (hr.mono (by decide)) rfl (TX.bl "all" (by decide)) TB rfl (gscp_by (by first | (change gscpC N_is_tops_state (defScope st_is_tops_state) _ _ _ = true; decide +kernel) | (change gscpC N_is_tops_state (relS _ (defScope st_is_tops_state)) _ _ _ = true; decide +kernel))) (ei_seq (ev_var (pv 1))) (fun _ _ _ _ _ => pg_name (i := 2) sc_is_tops_state.nd rfl (by first | exact Or.inl rfl | exact Or.inr (Or.inl rfl) | exact Or.inr rfl)) (fun _ _ _ _ _ hr => (ev_call G_is_count_below (hr.mono (by decide)) hgd rfl (TX.fn "is_count_below" (by decide)) k_is_count_below B_is_count_below (ea_cons (ev_var (pv 2)) (ea_cons (ev_ix ix_seq val_ix (ev_var (pv 0)) ev_int (fun _ _ => rfl)) ea_nil)))) (fun _ => rfl))))))) (es_one (es_ret ev_bl)) es_nil)
      (es_cons (es_if (et_cmp (op_neD hr.units) val_ne (ev_bty call_list_of val_list rfl (TX.bl "list" (by decide)) (by decide +kernel) (ea_cons (ev_var (pv 1)) ea_nil)) (ev_sortSet rfl hr.u66 rfl (TX.bl "sorted" (by decide)) rfl (TX.bl "set" (by decide)) (ev_var (pv 1))) (nomark _)) (es_one (es_ret ev_bl)) es_nil)
      (es_one (es_ret (ev_call G_is_loose (hr.mono (by decide)) hgd rfl (TX.fn "is_loose" (by decide)) k_is_loose B_is_loose (ea_cons (ev_call G_below_rows (hr.mono (by decide)) hgd rfl (TX.fn "below_rows" (by decide)) k_below_rows B_below_rows (ea_cons (ev_ix ix_seq val_ix (ev_var (pv 0)) ev_int (fun _ _ => rfl)) (ea_cons (ev_ix ix_seq val_ix (ev_var (pv 0)) ev_int (fun _ _ => rfl)) ea_nil))) (ea_cons (ev_var (pv 1)) ea_nil)))))))
abbrev N_is_map_name : List Str := ["value", "sign"]
theorem sc_is_map_name : FnScope N_is_map_name ["value"] (defScope st_is_map_name) := ⟨rfl, rfl, rfl, by decide +kernel, rfl, by decide +kernel, by decide +kernel⟩
theorem ok_is_map_name {a c p : Addr} {fd : FuncData} (TX : Tx mg f) (F : FunC K "is_map_name" "is_map_name" st_is_map_name a fd c) (TB : GxR.TabB base mg c p) (hP : p ∈ T) :
    FnG P w K mg base 2 a fd ["value"] (spD K T r_is_map_name) :=
  fnDC1 (g := g_is_map_name) rfl F sc_is_map_name rfl rfl fun A outer s H hr hgd => by
    unfold g_is_map_name
    exact (es_cons (es_if (PW.pt (ew_or (et_not (et_val (ev_isi (b := isSt) kit_str rfl (TX.bl "isinstance" (by decide)) (Ev.pe_ty rfl (TX.bl "str" (by decide)) (by decide +kernel)) (ev_var (pv 0))))) (ew_or1 (et_not (et_chain Ev.op_leQ val_le Ev.op_leQ val_le ev_int (ev_blt call_len val_len rfl (TX.bl "len" (by decide)) (by decide +kernel) (ea_cons (ev_var (pv 0)) ea_nil)) ev_int))))) (es_one (es_ret ev_bl)) es_nil)
      (es_one (es_ret (ev_all (k := 0) (ix := 1) hP (hr.mono (by decide)) rfl (TX.bl "all" (by decide)) TB rfl (gscp_by (by first | (change gscpC N_is_map_name (defScope st_is_map_name) _ _ _ = true; decide +kernel) | (change gscpC N_is_map_name (relS _ (defScope st_is_map_name)) _ _ _ = true; decide +kernel))) (ei_seq (ev_var (pv 0))) (fun _ _ _ _ _ => pg_name (i := 1) sc_is_map_name.nd rfl (by first | exact Or.inl rfl | exact Or.inr (Or.inl rfl) | exact Or.inr rfl)) (fun _ _ _ _ _ hr => (ev_chain Ev.op_leQ val_le Ev.op_leQ val_le ev_str (ev_var (pv 1)) ev_str)) (fun _ => rfl)))))
abbrev N_fits : List Str := ["kind", "value", "word"]
abbrev N_is_map_state : List Str := ["kind", "value", "entry", "names"]
abbrev N_is_entry : List Str := ["kind", "value"]
abbrev N_is_above_state : List Str := ["kind", "value"]
theorem sc_fits : FnScope N_fits ["kind", "value"] (defScope st_fits) := ⟨rfl, rfl, rfl, by decide +kernel, rfl, by decide +kernel, by decide +kernel⟩
theorem sc_is_map_state : FnScope N_is_map_state ["kind", "value"] (defScope st_is_map_state) := ⟨rfl, rfl, rfl, by decide +kernel, rfl, by decide +kernel, by decide +kernel⟩
theorem sc_is_entry : FnScope N_is_entry ["kind", "value"] (defScope st_is_entry) := ⟨rfl, rfl, rfl, by decide +kernel, rfl, by decide +kernel, by decide +kernel⟩
theorem sc_is_above_state : FnScope N_is_above_state ["kind", "value"] (defScope st_is_above_state) := ⟨rfl, rfl, rfl, by decide +kernel, rfl, by decide +kernel, by decide +kernel⟩
theorem okR_fits (TX : Tx mg f)
    {fd_fits : FuncData} (F_fits : Fun K "fits" "fits" st_fits (f "fits") fd_fits) (k_fits : PySem.W.keepIn K (.ref (f "fits")) = true) (B_fits : Binds K fd_fits ["kind", "value"] [])
    {fd_is_map_state : FuncData} {cd_is_map_state p_is_map_state : Addr} (F_is_map_state : FunC K "is_map_state" "is_map_state" st_is_map_state (f "is_map_state") fd_is_map_state cd_is_map_state) (TB_is_map_state : GxR.TabB base mg cd_is_map_state p_is_map_state) (hP_is_map_state : p_is_map_state ∈ T) (k_is_map_state : PySem.W.keepIn K (.ref (f "is_map_state")) = true) (B_is_map_state : Binds K fd_is_map_state ["kind", "value"] [])
    {fd_is_entry : FuncData} (F_is_entry : Fun K "is_entry" "is_entry" st_is_entry (f "is_entry") fd_is_entry) (k_is_entry : PySem.W.keepIn K (.ref (f "is_entry")) = true) (B_is_entry : Binds K fd_is_entry ["kind", "value"] [])
    {fd_is_above_state : FuncData} (F_is_above_state : Fun K "is_above_state" "is_above_state" st_is_above_state (f "is_above_state") fd_is_above_state) (k_is_above_state : PySem.W.keepIn K (.ref (f "is_above_state")) = true) (B_is_above_state : Binds K fd_is_above_state ["kind", "value"] [])
    {fd_is_count : FuncData} (G_is_count : FnG P w K mg base 2 (f "is_count") fd_is_count ["value"] (spD K T r_is_count)) (k_is_count : PySem.W.keepIn K (.ref (f "is_count")) = true) (B_is_count : Binds K fd_is_count ["value"] [])
    {fd_is_count_below : FuncData} (G_is_count_below : FnG P w K mg base 3 (f "is_count_below") fd_is_count_below ["value", "bound"] (spD K T r_is_count_below)) (k_is_count_below : PySem.W.keepIn K (.ref (f "is_count_below")) = true) (B_is_count_below : Binds K fd_is_count_below ["value", "bound"] [])
    {fd_is_tops_state : FuncData} (G_is_tops_state : FnG P w K mg base 5 (f "is_tops_state") fd_is_tops_state ["kind", "value"] (spD K T r_is_tops_state)) (k_is_tops_state : PySem.W.keepIn K (.ref (f "is_tops_state")) = true) (B_is_tops_state : Binds K fd_is_tops_state ["kind", "value"] [])
    {fd_is_list : FuncData} (G_is_list : FnG P w K mg base 1 (f "is_list") fd_is_list ["value"] (spD K T r_is_list)) (k_is_list : PySem.W.keepIn K (.ref (f "is_list")) = true) (B_is_list : Binds K fd_is_list ["value"] [])
    {fd_is_map_name : FuncData} (G_is_map_name : FnG P w K mg base 2 (f "is_map_name") fd_is_map_name ["value"] (spD K T r_is_map_name)) (k_is_map_name : PySem.W.keepIn K (.ref (f "is_map_name")) = true) (B_is_map_name : Binds K fd_is_map_name ["value"] [])
    {fd_state_as_told : FuncData} (G_state_as_told : ∀ m, FnG P w K mg base (2 + 1 * m) (f "state_as_told") fd_state_as_told ["kind", "state"] (spD K T (r_state_as_told m))) (k_state_as_told : PySem.W.keepIn K (.ref (f "state_as_told")) = true) (B_state_as_told : Binds K fd_state_as_told ["kind", "state"] [])
    {fd_least_of : FuncData} (G_least_of : ∀ m, FnG P w K mg base (1 + 1 * m) (f "least_of") fd_least_of ["kind"] (spD K T (r_least_of m))) (k_least_of : PySem.W.keepIn K (.ref (f "least_of")) = true) (B_least_of : Binds K fd_least_of ["kind"] []) :
    ∀ m, FnG P w K mg base (16 + 2 * m) (f "fits") fd_fits ["kind", "value"] (spD K T (r_fits m)) ∧ FnG P w K mg base (16 + 2 * m) (f "is_map_state") fd_is_map_state ["kind", "value"] (spD K T (r_is_map_state m)) ∧ FnG P w K mg base (16 + 2 * m) (f "is_entry") fd_is_entry ["kind", "value"] (spD K T (r_is_entry m)) ∧ FnG P w K mg base (16 + 2 * m) (f "is_above_state") fd_is_above_state ["kind", "value"] (spD K T (r_is_above_state m)) := by
  intro m
  induction m with
  | zero => exact ⟨fn_never (by rfl), fn_never (by rfl), fn_never (by rfl), fn_never (by rfl)⟩
  | succ m ih =>
    obtain ⟨G_fits, G_is_map_state, G_is_entry, G_is_above_state⟩ := ih
    refine ⟨?_, ?_, ?_, ?_⟩
    · refine Ev.FnG.mono (fnD1 (k := 16 + 2 * m + 1) (g := g_fits (r_fits m) (r_is_map_state m) (r_is_entry m) (r_is_above_state m)) (by rfl) F_fits sc_fits rfl rfl fun cdv A outer s H hr hgd => ?_) (by omega)
      unfold g_fits
      exact (es_cons (es_asg (ev_ix ix_seq val_ix (ev_var (pv 0)) ev_int (fun _ _ => rfl)) (pg_name (i := 2) sc_fits.nd rfl (by first | exact Or.inl rfl | exact Or.inr (Or.inl rfl) | exact Or.inr rfl)) (eg_name (by decide)))
      (es_cons (es_if (et_cmp (op_eqD hr.units) val_eq (ev_var (pv 2)) ev_str (nomark _)) (es_one (es_ret (ev_call G_is_count (hr.mono (by omega)) hgd rfl (TX.fn "is_count" (by decide)) k_is_count B_is_count (ea_cons (ev_var (pv 1)) ea_nil)))) es_nil)
      (es_cons (es_if (et_cmp (op_eqD hr.units) val_eq (ev_var (pv 2)) ev_str (nomark _)) (es_one (es_ret (ev_call G_is_count_below (hr.mono (by omega)) hgd rfl (TX.fn "is_count_below" (by decide)) k_is_count_below B_is_count_below (ea_cons (ev_var (pv 1)) (ea_cons (ev_ix ix_seq val_ix (ev_var (pv 0)) ev_int (fun _ _ => rfl)) ea_nil))))) es_nil)
      (es_cons (es_if (et_cmp (op_eqD hr.units) val_eq (ev_var (pv 2)) ev_str (nomark _)) (es_one (es_ret (ev_call G_is_count_below (hr.mono (by omega)) hgd rfl (TX.fn "is_count_below" (by decide)) k_is_count_below B_is_count_below (ea_cons (ev_var (pv 1)) (ea_cons (ev_blt call_len val_len rfl (TX.bl "len" (by decide)) (by decide +kernel) (ea_cons (ev_ix ix_seq val_ix (ev_var (pv 0)) ev_int (fun _ _ => rfl)) ea_nil)) ea_nil))))) es_nil)
      (es_cons (es_if (et_cmp (op_eqD hr.units) val_eq (ev_var (pv 2)) ev_str (nomark _)) (es_one (es_ret (ev_call G_is_tops_state (hr.mono (by omega)) hgd rfl (TX.fn "is_tops_state" (by decide)) k_is_tops_state B_is_tops_state (ea_cons (ev_var (pv 0)) (ea_cons (ev_var (pv 1)) ea_nil))))) es_nil)
      (es_cons (es_if (et_cmp (op_eqD hr.units) val_eq (ev_var (pv 2)) ev_str (nomark _)) (es_one (es_ret (ev_call G_is_map_state (hr.mono (by omega)) hgd rfl (TX.fn "is_map_state" (by decide)) k_is_map_state B_is_map_state (ea_cons (ev_var (pv 0)) (ea_cons (ev_var (pv 1)) ea_nil))))) es_nil)
      (es_cons (es_if (PW.pt (ew_or (et_not (et_val (ev_isi (b := isTp) kit_tup rfl (TX.bl "isinstance" (by decide)) (Ev.pe_ty rfl (TX.bl "tuple" (by decide)) (by decide +kernel)) (ev_var (pv 1))))) (ew_or1 (et_cmp (op_neD hr.units) val_ne (ev_blt call_len val_len rfl (TX.bl "len" (by decide)) (by decide +kernel) (ea_cons (ev_var (pv 1)) ea_nil)) ev_int (nomark _))))) (es_one (es_ret ev_bl)) es_nil)
      (es_cons (es_if (et_cmp (op_eqD hr.units) val_eq (ev_var (pv 2)) ev_str (nomark _)) (es_one (es_ret (ev_call G_is_above_state (hr.mono (by omega)) hgd rfl (TX.fn "is_above_state" (by decide)) k_is_above_state B_is_above_state (ea_cons (ev_var (pv 0)) (ea_cons (ev_var (pv 1)) ea_nil))))) es_nil)
      (es_one (es_ret (ev_and (ev_call G_fits (hr.mono (by omega)) hgd rfl (TX.fn "fits" (by decide)) k_fits B_fits (ea_cons (ev_ix ix_seq val_ix (ev_var (pv 0)) ev_int (fun _ _ => rfl)) (ea_cons (ev_ix ix_seq val_ix (ev_var (pv 1)) ev_int (fun _ _ => rfl)) ea_nil))) (ev_one (ev_call G_fits (hr.mono (by omega)) hgd rfl (TX.fn "fits" (by decide)) k_fits B_fits (ea_cons (ev_ix ix_seq val_ix (ev_var (pv 0)) ev_int (fun _ _ => rfl)) (ea_cons (ev_ix ix_seq val_ix (ev_var (pv 1)) ev_int (fun _ _ => rfl)) ea_nil)))))))))))))))
    · refine Ev.FnG.mono (fnDC1 (k := 16 + 2 * m + 1) (g := g_is_map_state (r_fits m) (r_is_map_state m) (r_is_entry m) (r_is_above_state m)) (by rfl) F_is_map_state sc_is_map_state rfl rfl fun A outer s H hr hgd => ?_) (by omega)
      unfold g_is_map_state
      exact (es_cons (es_if (PW.pt (ew_or (et_not (et_val (ev_call G_is_list (hr.mono (by omega)) hgd rfl (TX.fn "is_list" (by decide)) k_is_list B_is_list (ea_cons (ev_var (pv 1)) ea_nil)))) (ew_or1 (et_not (et_val (ev_all (k := (16 + 2 * m + 0)) (ix := 2) hP_is_map_state (hr.mono (by omega)) rfl (TX.bl "all" (by decide)) TB_is_map_state rfl (gscp_by (by first | (change gscpC N_is_map_state (defScope st_is_map_state) _ _ _ = true; decide +kernel) | (change gscpC N_is_map_state (relS _ (defScope st_is_map_state)) _ _ _ = true; decide +kernel))) (ei_seq (ev_var (pv 1))) (fun _ _ _ _ _ => pg_name (i := 2) sc_is_map_state.nd rfl (by first | exact Or.inl rfl | exact Or.inr (Or.inl rfl) | exact Or.inr rfl)) (fun _ _ _ _ _ hr => (ev_call G_is_entry (hr.mono (by omega)) hgd rfl (TX.fn "is_entry" (by decide)) k_is_entry B_is_entry (ea_cons (ev_ix ix_seq val_ix (ev_var (pv 0)) ev_int (fun _ _ => rfl)) (ea_cons (ev_var (pv 2)) ea_nil)))) (fun _ => rfl))))))) (es_one (es_ret ev_bl)) es_nil)
      (es_cons (es_setE (i := 3) (ps_setLc (own := [("entry", 2)]) rfl sc_is_map_state.nd rfl (by first | rfl | decide +kernel) (sw_true rfl (by first | rfl | decide +kernel) rfl (by decide +kernel)) (ei_seq (ev_var (pv 1))) (blkOk_by (by first | (change blkC N_is_map_state (defScope st_is_map_state) _ _ = true; decide +kernel) | (change blkC N_is_map_state (relS _ (defScope st_is_map_state)) _ _ = true; decide +kernel))) (fun _ _ _ _ _ => by exact (pg_name (i := 2) sc_is_map_state.nd rfl (by first | exact Or.inl rfl | exact Or.inr (Or.inl rfl) | exact Or.inr rfl))) (fun _ _ _ _ _ => by exact ets_nil) (fun _ _ _ _ _ => by exact (ev_ix ix_seq val_ix (ev_var (pv 2)) ev_int (fun _ _ => rfl)))) (fun _ _ _ w => tLc_of (egb_name (by decide)) w) (by decide))
      (es_one (es_ret (ev_cmp (op_eqD hr.units) val_eq (ev_var (pv 3)) (ev_sortSet rfl hr.u66 rfl (TX.bl "sorted" (by decide)) rfl (TX.bl "set" (by decide)) (ev_var (pv 3))) (nomark _))))))
    · refine Ev.FnG.mono (fnD1 (k := 16 + 2 * m + 1) (g := g_is_entry (r_fits m) (r_is_map_state m) (r_is_entry m) (r_is_above_state m)) (by rfl) F_is_entry sc_is_entry rfl rfl fun cdv A outer s H hr hgd => ?_) (by omega)
      unfold g_is_entry
      exact (es_cons (es_if (PW.pt (ew_or (et_not (et_val (ev_isi (b := isTp) kit_tup rfl (TX.bl "isinstance" (by decide)) (Ev.pe_ty rfl (TX.bl "tuple" (by decide)) (by decide +kernel)) (ev_var (pv 1))))) (ew_or1 (et_cmp (op_neD hr.units) val_ne (ev_blt call_len val_len rfl (TX.bl "len" (by decide)) (by decide +kernel) (ea_cons (ev_var (pv 1)) ea_nil)) ev_int (nomark _))))) (es_one (es_ret ev_bl)) es_nil)
      (es_cons (es_if (PW.pt (ew_or (et_not (et_val (ev_call G_is_map_name (hr.mono (by omega)) hgd rfl (TX.fn "is_map_name" (by decide)) k_is_map_name B_is_map_name (ea_cons (ev_ix ix_seq val_ix (ev_var (pv 1)) ev_int (fun _ _ => rfl)) ea_nil)))) (ew_or1 (et_not (et_val (ev_call G_fits (hr.mono (by omega)) hgd rfl (TX.fn "fits" (by decide)) k_fits B_fits (ea_cons (ev_var (pv 0)) (ea_cons (ev_ix ix_seq val_ix (ev_var (pv 1)) ev_int (fun _ _ => rfl)) ea_nil)))))))) (es_one (es_ret ev_bl)) es_nil)
      (es_one (es_ret (ev_cmp (op_neD hr.units) val_ne (ev_call (G_state_as_told 12) (hr.mono (by omega)) hgd rfl (TX.fn "state_as_told" (by decide)) k_state_as_told B_state_as_told (ea_cons (ev_var (pv 0)) (ea_cons (ev_ix ix_seq val_ix (ev_var (pv 1)) ev_int (fun _ _ => rfl)) ea_nil))) (ev_call (G_least_of 12) (hr.mono (by omega)) hgd rfl (TX.fn "least_of" (by decide)) k_least_of B_least_of (ea_cons (ev_var (pv 0)) ea_nil)) (nomark _))))))
    · refine Ev.FnG.mono (fnD1 (k := 16 + 2 * m + 1) (g := g_is_above_state (r_fits m) (r_is_map_state m) (r_is_entry m) (r_is_above_state m)) (by rfl) F_is_above_state sc_is_above_state rfl rfl fun cdv A outer s H hr hgd => ?_) (by omega)
      unfold g_is_above_state
      exact (es_cons (es_if (et_cmp (op_eqD hr.units) val_eq (ev_ix ix_seq val_ix (ev_var (pv 1)) ev_int (fun _ _ => rfl)) ev_str (nomark _)) (es_one (es_ret (ev_call G_fits (hr.mono (by omega)) hgd rfl (TX.fn "fits" (by decide)) k_fits B_fits (ea_cons (ev_ix ix_seq val_ix (ev_var (pv 0)) ev_int (fun _ _ => rfl)) (ea_cons (ev_ix ix_seq val_ix (ev_var (pv 1)) ev_int (fun _ _ => rfl)) ea_nil))))) es_nil)
      (es_one (es_ret (ev_and (ev_cmp (op_eqD hr.units) val_eq (ev_ix ix_seq val_ix (ev_var (pv 1)) ev_int (fun _ _ => rfl)) ev_str (nomark _)) (ev_one (ev_call G_fits (hr.mono (by omega)) hgd rfl (TX.fn "fits" (by decide)) k_fits B_fits (ea_cons (ev_ix ix_seq val_ix (ev_var (pv 0)) ev_int (fun _ _ => rfl)) (ea_cons (ev_ix ix_seq val_ix (ev_var (pv 1)) ev_int (fun _ _ => rfl)) ea_nil))))))))
abbrev N_checked_state : List Str := ["kind", "value"]
theorem sc_checked_state : FnScope N_checked_state ["kind", "value"] (defScope st_checked_state) := ⟨rfl, rfl, rfl, by decide +kernel, rfl, by decide +kernel, by decide +kernel⟩
theorem ok_checked_state {a : Addr} {fd : FuncData} (TX : Tx mg f) (F : Fun K "checked_state" "checked_state" st_checked_state a fd)
    {fd_fits : FuncData} (G_fits : ∀ m, FnG P w K mg base (16 + 2 * m) (f "fits") fd_fits ["kind", "value"] (spD K T (r_fits m))) (k_fits : PySem.W.keepIn K (.ref (f "fits")) = true) (B_fits : Binds K fd_fits ["kind", "value"] [])
    {fd_state_as_told : FuncData} (G_state_as_told : ∀ m, FnG P w K mg base (2 + 1 * m) (f "state_as_told") fd_state_as_told ["kind", "state"] (spD K T (r_state_as_told m))) (k_state_as_told : PySem.W.keepIn K (.ref (f "state_as_told")) = true) (B_state_as_told : Binds K fd_state_as_told ["kind", "state"] []) :
    FnG P w K mg base 41 a fd ["kind", "value"] (spD K T r_checked_state) :=
  fnD1 (g := g_checked_state) rfl F sc_checked_state rfl rfl fun cdv A outer s H hr hgd => by
    unfold g_checked_state
    exact (es_cons (es_if (et_not (et_val (ev_call (G_fits 12) (hr.mono (by decide)) hgd rfl (TX.fn "fits" (by decide)) k_fits B_fits (ea_cons (ev_var (pv 0)) (ea_cons (ev_var (pv 1)) ea_nil))))) (es_one es_never) es_nil)
      (es_one (es_ret (ev_call (G_state_as_told 12) (hr.mono (by decide)) hgd rfl (TX.fn "state_as_told" (by decide)) k_state_as_told B_state_as_told (ea_cons (ev_var (pv 0)) (ea_cons (ev_var (pv 1)) ea_nil))))))
abbrev N_is_part : List Str := ["kind", "state", "told"]
theorem sc_is_part : FnScope N_is_part ["kind", "state"] (defScope st_is_part) := ⟨rfl, rfl, rfl, by decide +kernel, rfl, by decide +kernel, by decide +kernel⟩
theorem ok_is_part {a : Addr} {fd : FuncData} (TX : Tx mg f) (F : Fun K "is_part" "is_part" st_is_part a fd)
    {fd_told_kind : FuncData} (G_told_kind : FnG P w K mg base 24 (f "told_kind") fd_told_kind ["kind"] (spD K T r_told_kind)) (k_told_kind : PySem.W.keepIn K (.ref (f "told_kind")) = true) (B_told_kind : Binds K fd_told_kind ["kind"] [])
    {fd_part : FuncData} (G_part : ∀ m, FnG P w K mg base (14 + 1 * m) (f "part") fd_part ["kind", "state"] (spD K T (r_part m))) (k_part : PySem.W.keepIn K (.ref (f "part")) = true) (B_part : Binds K fd_part ["kind", "state"] [])
    {fd_checked_state : FuncData} (G_checked_state : FnG P w K mg base 41 (f "checked_state") fd_checked_state ["kind", "value"] (spD K T r_checked_state)) (k_checked_state : PySem.W.keepIn K (.ref (f "checked_state")) = true) (B_checked_state : Binds K fd_checked_state ["kind", "value"] []) :
    FnG P w K mg base 42 a fd ["kind", "state"] (spD K T r_is_part) :=
  fnD1 (g := g_is_part) rfl F sc_is_part rfl rfl fun cdv A outer s H hr hgd => by
    unfold g_is_part
    exact (es_cons (es_asg (ev_call G_told_kind (hr.mono (by decide)) hgd rfl (TX.fn "told_kind" (by decide)) k_told_kind B_told_kind (ea_cons (ev_var (pv 0)) ea_nil)) (pg_name (i := 2) sc_is_part.nd rfl (by first | exact Or.inl rfl | exact Or.inr (Or.inl rfl) | exact Or.inr rfl)) (eg_name (by decide)))
      (es_one (es_ret (ev_call (G_part 12) (hr.mono (by decide)) hgd rfl (TX.fn "part" (by decide)) k_part B_part (ea_cons (ev_var (pv 2)) (ea_cons (ev_call G_checked_state (hr.mono (by decide)) hgd rfl (TX.fn "checked_state" (by decide)) k_checked_state B_checked_state (ea_cons (ev_var (pv 2)) (ea_cons (ev_var (pv 1)) ea_nil))) ea_nil))))))
abbrev N__law_right : List Str := ["_law_pot_here", "_law_kind", "_law_states_here", "_law_rows", "_law_one", "_law_other", "_law_parts_here", "_law_at", "_law_state"]
theorem sc__law_right : FnScope N__law_right ["_law_pot_here"] (defScope st__law_right) := ⟨rfl, rfl, rfl, by decide +kernel, rfl, by decide +kernel, by decide +kernel⟩
theorem ok__law_right {a : Addr} {fd : FuncData} (TX : Tx mg f) (F : Fun K "_law_right" "_law_right" st__law_right a fd)
    {fd__law_small : FuncData} (G__law_small : FnG P w K mg base 3 (f "_law_small") fd__law_small ["_law_pot_here"] (spB K T r__law_small)) (k__law_small : PySem.W.keepIn K (.ref (f "_law_small")) = true) (B__law_small : Binds K fd__law_small ["_law_pot_here"] [])
    {fd__law_states : FuncData} (G__law_states : ∀ m, FnG P w K mg base (27 + 1 * m) (f "_law_states") fd__law_states ["_law_kind"] (spD K T (r__law_states m))) (k__law_states : PySem.W.keepIn K (.ref (f "_law_states")) = true) (B__law_states : Binds K fd__law_states ["_law_kind"] [])
    {fd__law_least : FuncData} (G__law_least : ∀ m, FnG P w K mg base (1 + 1 * m) (f "_law_least") fd__law_least ["_law_kind"] (spD K T (r__law_least m))) (k__law_least : PySem.W.keepIn K (.ref (f "_law_least")) = true) (B__law_least : Binds K fd__law_least ["_law_kind"] [])
    {fd__law_join : FuncData} (G__law_join : ∀ m, FnG P w K mg base (14 + 1 * m) (f "_law_join") fd__law_join ["_law_kind", "_law_one", "_law_other"] (spD K T (r__law_join m))) (k__law_join : PySem.W.keepIn K (.ref (f "_law_join")) = true) (B__law_join : Binds K fd__law_join ["_law_kind", "_law_one", "_law_other"] [])
    {fd__law_parts : FuncData} (G__law_parts : FnG P w K mg base 1 (f "_law_parts") fd__law_parts ["_law_rows"] (spD K T r__law_parts)) (k__law_parts : PySem.W.keepIn K (.ref (f "_law_parts")) = true) (B__law_parts : Binds K fd__law_parts ["_law_rows"] [])
    {fd_is_part : FuncData} (G_is_part : FnG P w K mg base 42 (f "is_part") fd_is_part ["kind", "state"] (spD K T r_is_part)) (k_is_part : PySem.W.keepIn K (.ref (f "is_part")) = true) (B_is_part : Binds K fd_is_part ["kind", "state"] [])
    {fd__law_all_differ : FuncData} (G__law_all_differ : FnG P w K mg base 2 (f "_law_all_differ") fd__law_all_differ ["_law_rows"] (spD K T r__law_all_differ)) (k__law_all_differ : PySem.W.keepIn K (.ref (f "_law_all_differ")) = true) (B__law_all_differ : Binds K fd__law_all_differ ["_law_rows"] [])
    {fd_grade : FuncData} (G_grade : FnG P w K mg base 56 (f "grade") fd_grade ["kind"] (spD K T r_grade)) (k_grade : PySem.W.keepIn K (.ref (f "grade")) = true) (B_grade : Binds K fd_grade ["kind"] [])
    {fd__law_all_single : FuncData} (G__law_all_single : FnG P w K mg base 2 (f "_law_all_single") fd__law_all_single ["_law_rows", "_law_parts_here"] (spD K T r__law_all_single)) (k__law_all_single : PySem.W.keepIn K (.ref (f "_law_all_single")) = true) (B__law_all_single : Binds K fd__law_all_single ["_law_rows", "_law_parts_here"] [])
    (KB_grade_kind : ∀ (s : Shared) (ws : List Value), ws.length = ["kind"].length → BindsTo s fd_grade ⟨[], (["kind"] : List Str).zip ws⟩ ((["kind"] : List Str).zip (pick [0] ws))) :
    FnG P w K mg base 57 a fd ["_law_pot_here"] (spB K T r__law_right) :=
  fnB1 (g := g__law_right) rfl F sc__law_right rfl rfl fun cdv A outer s H hr hgd => by
    unfold g__law_right
    exact (es_cons (es_asg (ev_callB G__law_small (hr.mono (by decide)) hgd rfl (TX.fn "_law_small" (by decide)) k__law_small B__law_small (pv 0) ea_nil) (pg_name (i := 1) sc__law_right.nd rfl (by first | exact Or.inl rfl | exact Or.inr (Or.inl rfl) | exact Or.inr rfl)) (eg_name (by decide)))
      (es_cons (es_asg (ev_call (G__law_states 12) (hr.mono (by decide)) hgd rfl (TX.fn "_law_states" (by decide)) k__law_states B__law_states (ea_cons (ev_var (pv 1)) ea_nil)) (pg_name (i := 2) sc__law_right.nd rfl (by first | exact Or.inl rfl | exact Or.inr (Or.inl rfl) | exact Or.inr rfl)) (eg_name (by decide)))
      (es_cons (es_if (et_cmp (op_neD hr.units) val_ne (ev_ix ix_seq val_ix (ev_var (pv 2)) ev_int (fun _ _ => rfl)) (ev_call (G__law_least 12) (hr.mono (by decide)) hgd rfl (TX.fn "_law_least" (by decide)) k__law_least B__law_least (ea_cons (ev_var (pv 1)) ea_nil)) (nomark _)) (es_one (es_ret ev_bl)) es_nil)
      (es_cons (es_asgL (el_lst ea_nil) (pg_name (i := 3) sc__law_right.nd rfl (by first | exact Or.inl rfl | exact Or.inr (Or.inl rfl) | exact Or.inr rfl)) (by decide))
      (es_cons (es_for PassesOwn.never rfl (ei_seq (ev_var (pv 2))) (pg_name (i := 4) sc__law_right.nd rfl (by first | exact Or.inl rfl | exact Or.inr (Or.inl rfl) | exact Or.inr rfl)) (eg_name (by decide)) (es_one (es_expr (ev_append (pv 3) (ev_lc (own := [("_law_other", 5)]) rfl sc__law_right.nd (ei_seq (ev_var (pv 2))) (blkOk_by (by first | (change blkC N__law_right (defScope st__law_right) _ _ = true; decide +kernel) | (change blkC N__law_right (relS _ (defScope st__law_right)) _ _ = true; decide +kernel))) (fun _ _ _ _ _ => by exact (pg_name (i := 5) sc__law_right.nd rfl (by first | exact Or.inl rfl | exact Or.inr (Or.inl rfl) | exact Or.inr rfl))) (egb_name (by decide)) (fun _ _ _ _ _ => by exact ets_nil) (fun _ _ _ _ _ => by exact (ev_index hr.u66' (ev_var (pv 2)) (ev_call (G__law_join 12) (hr.mono (by decide)) hgd rfl (TX.fn "_law_join" (by decide)) k__law_join B__law_join (ea_cons (ev_var (pv 1)) (ea_cons (ev_var (pv 4)) (ea_cons (ev_var (pv 5)) ea_nil)))))))))))
      (es_cons (es_asg (ev_call G__law_parts (hr.mono (by decide)) hgd rfl (TX.fn "_law_parts" (by decide)) k__law_parts B__law_parts (ea_cons (ev_frz (pv 3)) ea_nil)) (pg_name (i := 6) sc__law_right.nd rfl (by first | exact Or.inl rfl | exact Or.inr (Or.inl rfl) | exact Or.inr rfl)) (eg_name (by decide)))
      (es_cons (es_for PassesOwn.never rfl (ei_enum rfl (TX.bl "enumerate" (by decide)) (ev_var (pv 2))) (pg_tup rfl (pgs_cons (pg_name (i := 7) sc__law_right.nd rfl (by first | exact Or.inl rfl | exact Or.inr (Or.inl rfl) | exact Or.inr rfl)) (pgs_cons (pg_name (i := 8) sc__law_right.nd rfl (by first | exact Or.inl rfl | exact Or.inr (Or.inl rfl) | exact Or.inr rfl)) pgs_nil))) (eg_tup (egs_cons (eg_name (by decide)) (egs_cons (eg_name (by decide)) egs_nil))) (es_one (es_if (et_cmp (op_neD hr.units) val_ne (ev_blt (cr_reprD hr.units hgd) val_repr rfl (TX.bl "repr" (by decide)) (by decide +kernel) (ea_cons (ev_call G_is_part (hr.mono (by decide)) hgd rfl (TX.fn "is_part" (by decide)) k_is_part B_is_part (ea_cons (ev_var (pv 1)) (ea_cons (ev_var (pv 8)) ea_nil))) ea_nil)) (ev_blt (cr_reprD hr.units hgd) val_repr rfl (TX.bl "repr" (by decide)) (by decide +kernel) (ea_cons (ev_cmp (op_inD hr.u66') val_in (ev_var (pv 7)) (ev_var (pv 6)) (by rfl)) ea_nil)) (nomark _)) (es_one (es_ret ev_bl)) es_nil)))
      (es_cons (es_if (et_val (ev_call G__law_all_differ (hr.mono (by decide)) hgd rfl (TX.fn "_law_all_differ" (by decide)) k__law_all_differ B__law_all_differ (ea_cons (ev_frz (pv 3)) ea_nil))) (es_one (es_ret (ev_cmp (op_eqD hr.units) val_eq (ev_call G_grade (hr.mono (by decide)) hgd rfl (TX.fn "grade" (by decide)) k_grade B_grade (ea_cons (ev_var (pv 1)) ea_nil)) ev_str (nomark _)))) es_nil)
      (es_one (es_ret (ev_cmp (op_eqD hr.units) val_eq (ev_callK (ks := ["kind"]) (ix := [0]) G_grade (hr.mono (by decide)) hgd rfl (TX.fn "grade" (by decide)) k_grade KB_grade_kind (ek_cons (ev_var (pv 1)) ek_nil)) (ev_if (et_val (ev_call G__law_all_single (hr.mono (by decide)) hgd rfl (TX.fn "_law_all_single" (by decide)) k__law_all_single B__law_all_single (ea_cons (ev_frz (pv 3)) (ea_cons (ev_var (pv 6)) ea_nil)))) ev_str ev_str) (nomark _))))))))))))
abbrev N__law_pot : List Str := ["_law_script", "_law_k", "_law_cell", "_law_mixed"]
theorem sc__law_pot : FnScope N__law_pot ["_law_script", "_law_k"] (defScope st__law_pot) := ⟨rfl, rfl, rfl, by decide +kernel, rfl, by decide +kernel, by decide +kernel⟩
theorem ok__law_pot {a : Addr} {fd : FuncData} (TX : Tx mg f) (F : Fun K "_law_pot" "_law_pot" st__law_pot a fd) :
    FnG P w K mg base 1 a fd ["_law_script", "_law_k"] (spD K T r__law_pot) :=
  fnD1 (g := g__law_pot) rfl F sc__law_pot rfl rfl fun cdv A outer s H hr hgd => by
    unfold g__law_pot
    exact (es_cons (es_asg (ev_if (et_cmp Ev.op_ltQ val_lt (ev_var (pv 1)) (ev_blt call_len val_len rfl (TX.bl "len" (by decide)) (by decide +kernel) (ea_cons (ev_var (pv 0)) ea_nil)) (nomark _)) (ev_blt call_abs val_abs rfl (TX.bl "abs" (by decide)) (by decide +kernel) (ea_cons (ev_ix ix_seq val_ix (ev_var (pv 0)) (ev_var (pv 1)) (fun _ _ => rfl)) ea_nil)) (ev_add (ev_mulQ ev_int (ev_var (pv 1))) ev_int)) (pg_name (i := 2) sc__law_pot.nd rfl (by first | exact Or.inl rfl | exact Or.inr (Or.inl rfl) | exact Or.inr rfl)) (eg_name (by decide)))
      (es_cons (es_asg (ev_add (ev_mod (ev_bty call_int1 val_int1 rfl (TX.bl "int" (by decide)) (by decide +kernel) (ea_cons (ev_add (ev_add (ev_mulQ (ev_mod (ev_bty call_int1 val_int1 rfl (TX.bl "int" (by decide)) (by decide +kernel) (ea_cons (ev_var (pv 2)) ea_nil)) ev_int) ev_int) (ev_mulQ ev_int (ev_var (pv 1)))) ev_int) ea_nil)) ev_int) ev_int) (pg_name (i := 3) sc__law_pot.nd rfl (by first | exact Or.inl rfl | exact Or.inr (Or.inl rfl) | exact Or.inr rfl)) (eg_name (by decide)))
      (es_one (es_ret (ev_lst (ea_cons (ev_blt (call_max2 rfl) val_max2 rfl (TX.bl "max" (by decide)) (by decide +kernel) (ea_cons ev_int (ea_cons (ev_sub (ev_var (pv 2)) (ev_pow ev_int ev_int)) ea_nil))) (ea_cons (ev_var (pv 3)) ea_nil)))))))
theorem okL__law_pot {a : Addr} {fd : FuncData} (TX : Tx mg f) (F : Fun K "_law_pot" "_law_pot" st__law_pot a fd) :
    FnG P w K mg base 1 a fd ["_law_script", "_law_k"] (spL K T rL__law_pot) :=
  fnL1 (g := gL__law_pot) rfl F sc__law_pot rfl rfl fun cdv A outer s H hr hgd => by
    unfold gL__law_pot
    exact (esl_cons (es_asg (ev_if (et_cmp Ev.op_ltQ val_lt (ev_var (pv 1)) (ev_blt call_len val_len rfl (TX.bl "len" (by decide)) (by decide +kernel) (ea_cons (ev_var (pv 0)) ea_nil)) (nomark _)) (ev_blt call_abs val_abs rfl (TX.bl "abs" (by decide)) (by decide +kernel) (ea_cons (ev_ix ix_seq val_ix (ev_var (pv 0)) (ev_var (pv 1)) (fun _ _ => rfl)) ea_nil)) (ev_add (ev_mulQ ev_int (ev_var (pv 1))) ev_int)) (pg_name (i := 2) sc__law_pot.nd rfl (by first | exact Or.inl rfl | exact Or.inr (Or.inl rfl) | exact Or.inr rfl)) (eg_name (by decide))) (esl_cons (es_asg (ev_add (ev_mod (ev_bty call_int1 val_int1 rfl (TX.bl "int" (by decide)) (by decide +kernel) (ea_cons (ev_add (ev_add (ev_mulQ (ev_mod (ev_bty call_int1 val_int1 rfl (TX.bl "int" (by decide)) (by decide +kernel) (ea_cons (ev_var (pv 2)) ea_nil)) ev_int) ev_int) (ev_mulQ ev_int (ev_var (pv 1)))) ev_int) ea_nil)) ev_int) ev_int) (pg_name (i := 3) sc__law_pot.nd rfl (by first | exact Or.inl rfl | exact Or.inr (Or.inl rfl) | exact Or.inr rfl)) (eg_name (by decide))) (esl_one (esl_ret (el_lst (ea_cons (ev_blt (call_max2 rfl) val_max2 rfl (TX.bl "max" (by decide)) (by decide +kernel) (ea_cons ev_int (ea_cons (ev_sub (ev_var (pv 2)) (ev_pow ev_int ev_int)) ea_nil))) (ea_cons (ev_var (pv 3)) ea_nil)))))))
abbrev N_law : List Str := ["_law_script"]
theorem sc_law : FnScope N_law ["_law_script"] (defScope st_law) := ⟨rfl, rfl, rfl, by decide +kernel, rfl, by decide +kernel, by decide +kernel⟩
theorem ok_law {a : Addr} {fd : FuncData} (TX : Tx mg f) (F : Fun K "law" "law" st_law a fd)
    {fd__law_right : FuncData} (G__law_right : FnG P w K mg base 57 (f "_law_right") fd__law_right ["_law_pot_here"] (spB K T r__law_right)) (k__law_right : PySem.W.keepIn K (.ref (f "_law_right")) = true) (B__law_right : Binds K fd__law_right ["_law_pot_here"] [])
    {fd__law_pot : FuncData} (GL__law_pot : FnG P w K mg base 1 (f "_law_pot") fd__law_pot ["_law_script", "_law_k"] (spL K T rL__law_pot)) (k__law_pot : PySem.W.keepIn K (.ref (f "_law_pot")) = true) (B__law_pot : Binds K fd__law_pot ["_law_script", "_law_k"] []) :
    FnG P w K mg base 58 a fd ["_law_script"] (spD K T r_law) :=
  fnD1 (g := g_law) rfl F sc_law rfl rfl fun cdv A outer s H hr hgd => by
    unfold g_law
    exact (es_one (es_ret (ev_callBN G__law_right (hr.mono (by decide)) hgd rfl (TX.fn "_law_right" (by decide)) k__law_right B__law_right (el_call GL__law_pot (hr.mono (by decide)) hgd rfl (TX.fn "_law_pot" (by decide)) k__law_pot B__law_pot (ea_cons (ev_var (pv 0)) (ea_cons ev_int ea_nil))) ea_nil)))
end
end Ev
namespace Ev
open PySem PySem.Spec PyProof.Rows L2 Tb
def fOf (mg : Str → Option Value) (n : String) : Addr := match mg (Str.ofString n) with
  | some (.ref b) => b
  | _ => 0
theorem fOf_eq {mg : Str → Option Value} {n : String} {b : Addr} (h : mg (Str.ofString n) = some (.ref b)) : fOf mg n = b := by
  unfold fOf
  rw [h]
theorem said (RR : ∀ ns : List Int, ns.length ≤ 63 → r_law [.list (ns.map PyData.int)] = some (.bool true)) {P q : Program} {loose : List Str} {XP : (Str → Option Value) → Heap → Prop} {w : World} {s0 s : Shared} {mg mb : Str → Option Value} {K : PySem.W.Frag} {fa a : Addr} {us : List Value} {ns : List Int}
    (G : PySem.W.Ground q loose [] XP w s0 mg mb s.heap) (X : K.In s.heap) (hmg : mg "law" = some (.ref fa)) (imp : importsNone q = true) (ge : s.gens = #[])
    (oa : s.heap.get? a = some { cls := .type "list", data := .seq us.toArray }) (ia : IntsAre us ns) (la : ns.length ≤ 63) (hx : Says8 S8 top w K)
    (rec : ["are_points_in_line", "is_table_in_line", "single", "in_line", "is_row", "has_table_form", "is_part_in", "is_list_of", "has_single_lists", "is_order", "tops_among", "is_tops_state", "is_map_name", "is_map_state"].all (fun n : String => ((recsOf q).find? (fun e => e.name == Str.ofString n)).isSome) = true)
    : codeAny (model P w) callerA (.call (.ref fa) ⟨[.ref a], []⟩) (fun r s' => r = .ok (.ret (.bool true)) ∧ OldK s.heap s'.heap ∧ s'.os = s.os ∧ AllBare s'.gens) s := by
  have rr := RR ns la
  have no := hx.parts.1
  obtain ⟨d52, r52⟩ := Option.isSome_iff_exists.mp (List.all_eq_true.mp rec "are_points_in_line" (by simp))
  obtain ⟨d53, r53⟩ := Option.isSome_iff_exists.mp (List.all_eq_true.mp rec "is_table_in_line" (by simp))
  obtain ⟨d50, r50⟩ := Option.isSome_iff_exists.mp (List.all_eq_true.mp rec "single" (by simp))
  obtain ⟨d51, r51⟩ := Option.isSome_iff_exists.mp (List.all_eq_true.mp rec "in_line" (by simp))
  obtain ⟨d26, r26⟩ := Option.isSome_iff_exists.mp (List.all_eq_true.mp rec "is_row" (by simp))
  obtain ⟨d25, r25⟩ := Option.isSome_iff_exists.mp (List.all_eq_true.mp rec "has_table_form" (by simp))
  obtain ⟨d33, r33⟩ := Option.isSome_iff_exists.mp (List.all_eq_true.mp rec "is_part_in" (by simp))
  obtain ⟨d36, r36⟩ := Option.isSome_iff_exists.mp (List.all_eq_true.mp rec "is_list_of" (by simp))
  obtain ⟨d22, r22⟩ := Option.isSome_iff_exists.mp (List.all_eq_true.mp rec "has_single_lists" (by simp))
  obtain ⟨d14, r14⟩ := Option.isSome_iff_exists.mp (List.all_eq_true.mp rec "is_order" (by simp))
  obtain ⟨d17, r17⟩ := Option.isSome_iff_exists.mp (List.all_eq_true.mp rec "tops_among" (by simp))
  obtain ⟨d57, r57⟩ := Option.isSome_iff_exists.mp (List.all_eq_true.mp rec "is_tops_state" (by simp))
  obtain ⟨d5, r5⟩ := Option.isSome_iff_exists.mp (List.all_eq_true.mp rec "is_map_name" (by simp))
  obtain ⟨d58, r58⟩ := Option.isSome_iff_exists.mp (List.all_eq_true.mp rec "is_map_state" (by simp))
  have hT0 := all8_of (hx.tab (fun p hp => by revert p; show ∀ p ∈ S8.wtabs, p ∈ S8.wdefs; decide +kernel))
  have hT : Tab8 K top "are_points_in_line" 52 ∧ Tab8 K top "is_table_in_line" 53 ∧ Tab8 K top "single" 50 ∧ Tab8 K top "in_line" 51 ∧ Tab8 K top "is_row" 26 ∧ Tab8 K top "has_table_form" 25 ∧ Tab8 K top "is_part_in" 33 ∧ Tab8 K top "is_list_of" 36 ∧ Tab8 K top "has_single_lists" 22 ∧ Tab8 K top "is_order" 14 ∧ Tab8 K top "tops_among" 17 ∧ Tab8 K top "is_tops_state" 57 ∧ Tab8 K top "is_map_name" 5 ∧ Tab8 K top "is_map_state" 58 ∧ True := hT0
  obtain ⟨b52, b53, b50, b51, b26, b25, b33, b36, b22, b14, b17, b57, b5, b58, _⟩ := hT
  have hD0 := all8_of hx.def_
  have hD : Def8 K top "_law_tables" 83 ∧ Def8 K top "_law_draw" 81 ∧ Def8 K top "_law_pick" 82 ∧ Def8 K top "_law_small" 88 ∧ Def8 K top "_law_least" 84 ∧ Def8 K top "_law_is_under" 85 ∧ Def8 K top "_law_join" 86 ∧ Def8 K top "_law_states" 87 ∧ Def8 K top "_law_parts" 90 ∧ Def8 K top "_law_lowest" 92 ∧ Def8 K top "_law_all_differ" 93 ∧ Def8 K top "words_from" 67 ∧ Def8 K top "kind_by" 68 ∧ Def8 K top "ways_of" 70 ∧ Def8 K top "below_rows" 16 ∧ Def8 K top "are_points_in_line" 52 ∧ Def8 K top "is_table_in_line" 53 ∧ Def8 K top "single" 50 ∧ Def8 K top "in_line" 51 ∧ Def8 K top "is_list" 4 ∧ Def8 K top "is_integer" 1 ∧ Def8 K top "is_count" 2 ∧ Def8 K top "is_count_below" 3 ∧ Def8 K top "is_row" 26 ∧ Def8 K top "has_table_form" 25 ∧ Def8 K top "keeps_join_rules" 27 ∧ Def8 K top "is_table" 21 ∧ Def8 K top "check_table" 24 ∧ Def8 K top "without" 30 ∧ Def8 K top "lies_within" 28 ∧ Def8 K top "states_within" 29 ∧ Def8 K top "is_part_in" 33 ∧ Def8 K top "parts_in" 34 ∧ Def8 K top "parts_below" 35 ∧ Def8 K top "joined_numbers" 31 ∧ Def8 K top "joins_to" 32 ∧ Def8 K top "is_list_of" 36 ∧ Def8 K top "lists_of" 37 ∧ Def8 K top "has_single_lists" 22 ∧ Def8 K top "meet_of" 38 ∧ Def8 K top "meet_rows" 39 ∧ Def8 K top "is_distributive" 23 ∧ Def8 K top "is_good" 71 ∧ Def8 K top "kind_along" 69 ∧ Def8 K top "bad_ways" 72 ∧ Def8 K top "grade_of" 73 ∧ Def8 K top "kind_as_told" 49 ∧ Def8 K top "is_tie" 15 ∧ Def8 K top "is_order" 14 ∧ Def8 K top "is_plain_kind" 48 ∧ Def8 K top "kinds_within" 47 ∧ Def8 K top "is_kind" 45 ∧ Def8 K top "told_kind" 46 ∧ Def8 K top "grade" 66 ∧ Def8 K top "_law_joined" 89 ∧ Def8 K top "_law_all_single" 91 ∧ Def8 K top "least_of" 63 ∧ Def8 K top "is_part_of_pair" 77 ∧ Def8 K top "is_part_of_later" 78 ∧ Def8 K top "side_of" 62 ∧ Def8 K top "part" 76 ∧ Def8 K top "state_as_told" 61 ∧ Def8 K top "tops_among" 17 ∧ Def8 K top "is_loose" 18 ∧ Def8 K top "is_tops_state" 57 ∧ Def8 K top "is_map_name" 5 ∧ Def8 K top "is_entry" 59 ∧ Def8 K top "is_map_state" 58 ∧ Def8 K top "is_above_state" 60 ∧ Def8 K top "fits" 56 ∧ Def8 K top "checked_state" 55 ∧ Def8 K top "is_part" 75 ∧ Def8 K top "_law_right" 94 ∧ Def8 K top "_law_pot" 80 ∧ Def8 K top "law" 95 ∧ True := hD0
  obtain ⟨b83, b81, b82, b88, b84, b85, b86, b87, b90, b92, b93, b67, b68, b70, b16, _, _, _, _, b4, b1, b2, b3, _, _, b27, b21, b24, b30, b28, b29, _, b34, b35, b31, b32, _, b37, _, b38, b39, b23, b71, b69, b72, b73, b49, b15, _, b48, b47, b45, b46, b66, b89, b91, b63, b77, b78, b62, b76, b61, _, b18, _, _, b59, _, b60, b56, b55, b75, b94, b80, b95, _⟩ := hD
  obtain ⟨f83, a83, od83, an83, sl83, oc83, kV83, dc83, pm83, cd83, ct83, l83, y83, k83⟩ := b83
  obtain ⟨f81, a81, od81, an81, sl81, oc81, kV81, dc81, pm81, cd81, ct81, l81, y81, k81⟩ := b81
  obtain ⟨f82, a82, od82, an82, sl82, oc82, kV82, dc82, pm82, cd82, ct82, l82, y82, k82⟩ := b82
  obtain ⟨f88, a88, od88, an88, sl88, oc88, kV88, dc88, pm88, cd88, ct88, l88, y88, k88⟩ := b88
  obtain ⟨f84, a84, od84, an84, sl84, oc84, kV84, dc84, pm84, cd84, ct84, l84, y84, k84⟩ := b84
  obtain ⟨f85, a85, od85, an85, sl85, oc85, kV85, dc85, pm85, cd85, ct85, l85, y85, k85⟩ := b85
  obtain ⟨f86, a86, od86, an86, sl86, oc86, kV86, dc86, pm86, cd86, ct86, l86, y86, k86⟩ := b86
  obtain ⟨f87, a87, od87, an87, sl87, oc87, kV87, dc87, pm87, cd87, ct87, l87, y87, k87⟩ := b87
  obtain ⟨f90, a90, od90, an90, sl90, oc90, kV90, dc90, pm90, cd90, ct90, l90, y90, k90⟩ := b90
  obtain ⟨f92, a92, od92, an92, sl92, oc92, kV92, dc92, pm92, cd92, ct92, l92, y92, k92⟩ := b92
  obtain ⟨f93, a93, od93, an93, sl93, oc93, kV93, dc93, pm93, cd93, ct93, l93, y93, k93⟩ := b93
  obtain ⟨f67, a67, od67, an67, sl67, oc67, kV67, dc67, pm67, cd67, ct67, l67, y67, k67⟩ := b67
  obtain ⟨f68, a68, od68, an68, sl68, oc68, kV68, dc68, pm68, cd68, ct68, l68, y68, k68⟩ := b68
  obtain ⟨f70, a70, od70, an70, sl70, oc70, kV70, dc70, pm70, cd70, ct70, l70, y70, k70⟩ := b70
  obtain ⟨f16, a16, od16, an16, sl16, oc16, kV16, dc16, pm16, cd16, ct16, l16, y16, k16⟩ := b16
  obtain ⟨c52, T52, t52, n52, f52, a52, od52, an52, sl52, oc52, kV52, dc52, pm52, ct52, l52, y52, k52⟩ := b52
  obtain ⟨c53, T53, t53, n53, f53, a53, od53, an53, sl53, oc53, kV53, dc53, pm53, ct53, l53, y53, k53⟩ := b53
  obtain ⟨c50, T50, t50, n50, f50, a50, od50, an50, sl50, oc50, kV50, dc50, pm50, ct50, l50, y50, k50⟩ := b50
  obtain ⟨c51, T51, t51, n51, f51, a51, od51, an51, sl51, oc51, kV51, dc51, pm51, ct51, l51, y51, k51⟩ := b51
  obtain ⟨f4, a4, od4, an4, sl4, oc4, kV4, dc4, pm4, cd4, ct4, l4, y4, k4⟩ := b4
  obtain ⟨f1, a1, od1, an1, sl1, oc1, kV1, dc1, pm1, cd1, ct1, l1, y1, k1⟩ := b1
  obtain ⟨f2, a2, od2, an2, sl2, oc2, kV2, dc2, pm2, cd2, ct2, l2, y2, k2⟩ := b2
  obtain ⟨f3, a3, od3, an3, sl3, oc3, kV3, dc3, pm3, cd3, ct3, l3, y3, k3⟩ := b3
  obtain ⟨c26, T26, t26, n26, f26, a26, od26, an26, sl26, oc26, kV26, dc26, pm26, ct26, l26, y26, k26⟩ := b26
  obtain ⟨c25, T25, t25, n25, f25, a25, od25, an25, sl25, oc25, kV25, dc25, pm25, ct25, l25, y25, k25⟩ := b25
  obtain ⟨f27, a27, od27, an27, sl27, oc27, kV27, dc27, pm27, cd27, ct27, l27, y27, k27⟩ := b27
  obtain ⟨f21, a21, od21, an21, sl21, oc21, kV21, dc21, pm21, cd21, ct21, l21, y21, k21⟩ := b21
  obtain ⟨f24, a24, od24, an24, sl24, oc24, kV24, dc24, pm24, cd24, ct24, l24, y24, k24⟩ := b24
  obtain ⟨f30, a30, od30, an30, sl30, oc30, kV30, dc30, pm30, cd30, ct30, l30, y30, k30⟩ := b30
  obtain ⟨f28, a28, od28, an28, sl28, oc28, kV28, dc28, pm28, cd28, ct28, l28, y28, k28⟩ := b28
  obtain ⟨f29, a29, od29, an29, sl29, oc29, kV29, dc29, pm29, cd29, ct29, l29, y29, k29⟩ := b29
  obtain ⟨c33, T33, t33, n33, f33, a33, od33, an33, sl33, oc33, kV33, dc33, pm33, ct33, l33, y33, k33⟩ := b33
  obtain ⟨f34, a34, od34, an34, sl34, oc34, kV34, dc34, pm34, cd34, ct34, l34, y34, k34⟩ := b34
  obtain ⟨f35, a35, od35, an35, sl35, oc35, kV35, dc35, pm35, cd35, ct35, l35, y35, k35⟩ := b35
  obtain ⟨f31, a31, od31, an31, sl31, oc31, kV31, dc31, pm31, cd31, ct31, l31, y31, k31⟩ := b31
  obtain ⟨f32, a32, od32, an32, sl32, oc32, kV32, dc32, pm32, cd32, ct32, l32, y32, k32⟩ := b32
  obtain ⟨c36, T36, t36, n36, f36, a36, od36, an36, sl36, oc36, kV36, dc36, pm36, ct36, l36, y36, k36⟩ := b36
  obtain ⟨f37, a37, od37, an37, sl37, oc37, kV37, dc37, pm37, cd37, ct37, l37, y37, k37⟩ := b37
  obtain ⟨c22, T22, t22, n22, f22, a22, od22, an22, sl22, oc22, kV22, dc22, pm22, ct22, l22, y22, k22⟩ := b22
  obtain ⟨f38, a38, od38, an38, sl38, oc38, kV38, dc38, pm38, cd38, ct38, l38, y38, k38⟩ := b38
  obtain ⟨f39, a39, od39, an39, sl39, oc39, kV39, dc39, pm39, cd39, ct39, l39, y39, k39⟩ := b39
  obtain ⟨f23, a23, od23, an23, sl23, oc23, kV23, dc23, pm23, cd23, ct23, l23, y23, k23⟩ := b23
  obtain ⟨f71, a71, od71, an71, sl71, oc71, kV71, dc71, pm71, cd71, ct71, l71, y71, k71⟩ := b71
  obtain ⟨f69, a69, od69, an69, sl69, oc69, kV69, dc69, pm69, cd69, ct69, l69, y69, k69⟩ := b69
  obtain ⟨f72, a72, od72, an72, sl72, oc72, kV72, dc72, pm72, cd72, ct72, l72, y72, k72⟩ := b72
  obtain ⟨f73, a73, od73, an73, sl73, oc73, kV73, dc73, pm73, cd73, ct73, l73, y73, k73⟩ := b73
  obtain ⟨f49, a49, od49, an49, sl49, oc49, kV49, dc49, pm49, cd49, ct49, l49, y49, k49⟩ := b49
  obtain ⟨f15, a15, od15, an15, sl15, oc15, kV15, dc15, pm15, cd15, ct15, l15, y15, k15⟩ := b15
  obtain ⟨c14, T14, t14, n14, f14, a14, od14, an14, sl14, oc14, kV14, dc14, pm14, ct14, l14, y14, k14⟩ := b14
  obtain ⟨f48, a48, od48, an48, sl48, oc48, kV48, dc48, pm48, cd48, ct48, l48, y48, k48⟩ := b48
  obtain ⟨f47, a47, od47, an47, sl47, oc47, kV47, dc47, pm47, cd47, ct47, l47, y47, k47⟩ := b47
  obtain ⟨f45, a45, od45, an45, sl45, oc45, kV45, dc45, pm45, cd45, ct45, l45, y45, k45⟩ := b45
  obtain ⟨f46, a46, od46, an46, sl46, oc46, kV46, dc46, pm46, cd46, ct46, l46, y46, k46⟩ := b46
  obtain ⟨f66, a66, od66, an66, sl66, oc66, kV66, dc66, pm66, cd66, ct66, l66, y66, k66⟩ := b66
  obtain ⟨f89, a89, od89, an89, sl89, oc89, kV89, dc89, pm89, cd89, ct89, l89, y89, k89⟩ := b89
  obtain ⟨f91, a91, od91, an91, sl91, oc91, kV91, dc91, pm91, cd91, ct91, l91, y91, k91⟩ := b91
  obtain ⟨f63, a63, od63, an63, sl63, oc63, kV63, dc63, pm63, cd63, ct63, l63, y63, k63⟩ := b63
  obtain ⟨f77, a77, od77, an77, sl77, oc77, kV77, dc77, pm77, cd77, ct77, l77, y77, k77⟩ := b77
  obtain ⟨f78, a78, od78, an78, sl78, oc78, kV78, dc78, pm78, cd78, ct78, l78, y78, k78⟩ := b78
  obtain ⟨f62, a62, od62, an62, sl62, oc62, kV62, dc62, pm62, cd62, ct62, l62, y62, k62⟩ := b62
  obtain ⟨f76, a76, od76, an76, sl76, oc76, kV76, dc76, pm76, cd76, ct76, l76, y76, k76⟩ := b76
  obtain ⟨f61, a61, od61, an61, sl61, oc61, kV61, dc61, pm61, cd61, ct61, l61, y61, k61⟩ := b61
  obtain ⟨c17, T17, t17, n17, f17, a17, od17, an17, sl17, oc17, kV17, dc17, pm17, ct17, l17, y17, k17⟩ := b17
  obtain ⟨f18, a18, od18, an18, sl18, oc18, kV18, dc18, pm18, cd18, ct18, l18, y18, k18⟩ := b18
  obtain ⟨c57, T57, t57, n57, f57, a57, od57, an57, sl57, oc57, kV57, dc57, pm57, ct57, l57, y57, k57⟩ := b57
  obtain ⟨c5, T5, t5, n5, f5, a5, od5, an5, sl5, oc5, kV5, dc5, pm5, ct5, l5, y5, k5⟩ := b5
  obtain ⟨f59, a59, od59, an59, sl59, oc59, kV59, dc59, pm59, cd59, ct59, l59, y59, k59⟩ := b59
  obtain ⟨c58, T58, t58, n58, f58, a58, od58, an58, sl58, oc58, kV58, dc58, pm58, ct58, l58, y58, k58⟩ := b58
  obtain ⟨f60, a60, od60, an60, sl60, oc60, kV60, dc60, pm60, cd60, ct60, l60, y60, k60⟩ := b60
  obtain ⟨f56, a56, od56, an56, sl56, oc56, kV56, dc56, pm56, cd56, ct56, l56, y56, k56⟩ := b56
  obtain ⟨f55, a55, od55, an55, sl55, oc55, kV55, dc55, pm55, cd55, ct55, l55, y55, k55⟩ := b55
  obtain ⟨f75, a75, od75, an75, sl75, oc75, kV75, dc75, pm75, cd75, ct75, l75, y75, k75⟩ := b75
  obtain ⟨f94, a94, od94, an94, sl94, oc94, kV94, dc94, pm94, cd94, ct94, l94, y94, k94⟩ := b94
  obtain ⟨f80, a80, od80, an80, sl80, oc80, kV80, dc80, pm80, cd80, ct80, l80, y80, k80⟩ := b80
  obtain ⟨f95, a95, od95, an95, sl95, oc95, kV95, dc95, pm95, cd95, ct95, l95, y95, k95⟩ := b95
  have hI0 := all8_of hx.int
  have hI : Int8 K "LONGEST_ROW" 20 ∧ Int8 K "MOST_DEEP" 4 ∧ Int8 K "MOST_KINDS" 12 ∧ Int8 K "MOST_POINTS" 6 ∧ Int8 K "MOST_STATES" 8 ∧ Int8 K "MOST_TIES" 15 ∧ True := hI0
  obtain ⟨⟨t_LONGEST_ROW, am0⟩, ⟨t_MOST_DEEP, am1⟩, ⟨t_MOST_KINDS, am2⟩, ⟨t_MOST_POINTS, am3⟩, ⟨t_MOST_STATES, am4⟩, ⟨t_MOST_TIES, am5⟩, _⟩ := hI
  have hK0 := all8_of hx.dic
  have hK : Dic8 K w "INNER_KINDS" tab_INNER_KINDS ∧ Dic8 K w "WAY_WORDS" tab_WAY_WORDS ∧ True := hK0
  obtain ⟨⟨d_INNER_KINDS, es_INNER_KINDS, n_INNER_KINDS, ak0, lk0, kl0, ks0, ke0⟩, ⟨d_WAY_WORDS, es_WAY_WORDS, n_WAY_WORDS, ak1, lk1, kl1, ks1, ke1⟩, _⟩ := hK
  have hF0 := all8_of hx.fre
  have hF : Fre8 K "isinstance" ∧ Fre8 K "int" ∧ Fre8 K "bool" ∧ Fre8 K "str" ∧ Fre8 K "dict" ∧ Fre8 K "list" ∧ Fre8 K "tuple" ∧ Fre8 K "len" ∧ Fre8 K "all" ∧ Fre8 K "any" ∧ Fre8 K "range" ∧ Fre8 K "abs" ∧ Fre8 K "sum" ∧ Fre8 K "min" ∧ Fre8 K "max" ∧ Fre8 K "divmod" ∧ Fre8 K "sorted" ∧ Fre8 K "set" ∧ Fre8 K "repr" ∧ Fre8 K "enumerate" ∧ Fre8 K "zip" ∧ True := hF0
  obtain ⟨z0, z1, z2, z3, z4, z5, z6, z7, z8, z9, z10, z11, z12, z13, z14, z15, z16, z17, z18, z19, z20, _⟩ := hF
  have m83 : mg (Str.ofString "_law_tables") = some (.ref f83) := PySem.W.mg_of X G.T.g a83
  have m81 : mg (Str.ofString "_law_draw") = some (.ref f81) := PySem.W.mg_of X G.T.g a81
  have m82 : mg (Str.ofString "_law_pick") = some (.ref f82) := PySem.W.mg_of X G.T.g a82
  have m88 : mg (Str.ofString "_law_small") = some (.ref f88) := PySem.W.mg_of X G.T.g a88
  have m84 : mg (Str.ofString "_law_least") = some (.ref f84) := PySem.W.mg_of X G.T.g a84
  have m85 : mg (Str.ofString "_law_is_under") = some (.ref f85) := PySem.W.mg_of X G.T.g a85
  have m86 : mg (Str.ofString "_law_join") = some (.ref f86) := PySem.W.mg_of X G.T.g a86
  have m87 : mg (Str.ofString "_law_states") = some (.ref f87) := PySem.W.mg_of X G.T.g a87
  have m90 : mg (Str.ofString "_law_parts") = some (.ref f90) := PySem.W.mg_of X G.T.g a90
  have m92 : mg (Str.ofString "_law_lowest") = some (.ref f92) := PySem.W.mg_of X G.T.g a92
  have m93 : mg (Str.ofString "_law_all_differ") = some (.ref f93) := PySem.W.mg_of X G.T.g a93
  have m67 : mg (Str.ofString "words_from") = some (.ref f67) := PySem.W.mg_of X G.T.g a67
  have m68 : mg (Str.ofString "kind_by") = some (.ref f68) := PySem.W.mg_of X G.T.g a68
  have m70 : mg (Str.ofString "ways_of") = some (.ref f70) := PySem.W.mg_of X G.T.g a70
  have m16 : mg (Str.ofString "below_rows") = some (.ref f16) := PySem.W.mg_of X G.T.g a16
  have m52 : mg (Str.ofString "are_points_in_line") = some (.ref f52) := PySem.W.mg_of X G.T.g a52
  have m53 : mg (Str.ofString "is_table_in_line") = some (.ref f53) := PySem.W.mg_of X G.T.g a53
  have m50 : mg (Str.ofString "single") = some (.ref f50) := PySem.W.mg_of X G.T.g a50
  have m51 : mg (Str.ofString "in_line") = some (.ref f51) := PySem.W.mg_of X G.T.g a51
  have m4 : mg (Str.ofString "is_list") = some (.ref f4) := PySem.W.mg_of X G.T.g a4
  have m1 : mg (Str.ofString "is_integer") = some (.ref f1) := PySem.W.mg_of X G.T.g a1
  have m2 : mg (Str.ofString "is_count") = some (.ref f2) := PySem.W.mg_of X G.T.g a2
  have m3 : mg (Str.ofString "is_count_below") = some (.ref f3) := PySem.W.mg_of X G.T.g a3
  have m26 : mg (Str.ofString "is_row") = some (.ref f26) := PySem.W.mg_of X G.T.g a26
  have m25 : mg (Str.ofString "has_table_form") = some (.ref f25) := PySem.W.mg_of X G.T.g a25
  have m27 : mg (Str.ofString "keeps_join_rules") = some (.ref f27) := PySem.W.mg_of X G.T.g a27
  have m21 : mg (Str.ofString "is_table") = some (.ref f21) := PySem.W.mg_of X G.T.g a21
  have m24 : mg (Str.ofString "check_table") = some (.ref f24) := PySem.W.mg_of X G.T.g a24
  have m30 : mg (Str.ofString "without") = some (.ref f30) := PySem.W.mg_of X G.T.g a30
  have m28 : mg (Str.ofString "lies_within") = some (.ref f28) := PySem.W.mg_of X G.T.g a28
  have m29 : mg (Str.ofString "states_within") = some (.ref f29) := PySem.W.mg_of X G.T.g a29
  have m33 : mg (Str.ofString "is_part_in") = some (.ref f33) := PySem.W.mg_of X G.T.g a33
  have m34 : mg (Str.ofString "parts_in") = some (.ref f34) := PySem.W.mg_of X G.T.g a34
  have m35 : mg (Str.ofString "parts_below") = some (.ref f35) := PySem.W.mg_of X G.T.g a35
  have m31 : mg (Str.ofString "joined_numbers") = some (.ref f31) := PySem.W.mg_of X G.T.g a31
  have m32 : mg (Str.ofString "joins_to") = some (.ref f32) := PySem.W.mg_of X G.T.g a32
  have m36 : mg (Str.ofString "is_list_of") = some (.ref f36) := PySem.W.mg_of X G.T.g a36
  have m37 : mg (Str.ofString "lists_of") = some (.ref f37) := PySem.W.mg_of X G.T.g a37
  have m22 : mg (Str.ofString "has_single_lists") = some (.ref f22) := PySem.W.mg_of X G.T.g a22
  have m38 : mg (Str.ofString "meet_of") = some (.ref f38) := PySem.W.mg_of X G.T.g a38
  have m39 : mg (Str.ofString "meet_rows") = some (.ref f39) := PySem.W.mg_of X G.T.g a39
  have m23 : mg (Str.ofString "is_distributive") = some (.ref f23) := PySem.W.mg_of X G.T.g a23
  have m71 : mg (Str.ofString "is_good") = some (.ref f71) := PySem.W.mg_of X G.T.g a71
  have m69 : mg (Str.ofString "kind_along") = some (.ref f69) := PySem.W.mg_of X G.T.g a69
  have m72 : mg (Str.ofString "bad_ways") = some (.ref f72) := PySem.W.mg_of X G.T.g a72
  have m73 : mg (Str.ofString "grade_of") = some (.ref f73) := PySem.W.mg_of X G.T.g a73
  have m49 : mg (Str.ofString "kind_as_told") = some (.ref f49) := PySem.W.mg_of X G.T.g a49
  have m15 : mg (Str.ofString "is_tie") = some (.ref f15) := PySem.W.mg_of X G.T.g a15
  have m14 : mg (Str.ofString "is_order") = some (.ref f14) := PySem.W.mg_of X G.T.g a14
  have m48 : mg (Str.ofString "is_plain_kind") = some (.ref f48) := PySem.W.mg_of X G.T.g a48
  have m47 : mg (Str.ofString "kinds_within") = some (.ref f47) := PySem.W.mg_of X G.T.g a47
  have m45 : mg (Str.ofString "is_kind") = some (.ref f45) := PySem.W.mg_of X G.T.g a45
  have m46 : mg (Str.ofString "told_kind") = some (.ref f46) := PySem.W.mg_of X G.T.g a46
  have m66 : mg (Str.ofString "grade") = some (.ref f66) := PySem.W.mg_of X G.T.g a66
  have m89 : mg (Str.ofString "_law_joined") = some (.ref f89) := PySem.W.mg_of X G.T.g a89
  have m91 : mg (Str.ofString "_law_all_single") = some (.ref f91) := PySem.W.mg_of X G.T.g a91
  have m63 : mg (Str.ofString "least_of") = some (.ref f63) := PySem.W.mg_of X G.T.g a63
  have m77 : mg (Str.ofString "is_part_of_pair") = some (.ref f77) := PySem.W.mg_of X G.T.g a77
  have m78 : mg (Str.ofString "is_part_of_later") = some (.ref f78) := PySem.W.mg_of X G.T.g a78
  have m62 : mg (Str.ofString "side_of") = some (.ref f62) := PySem.W.mg_of X G.T.g a62
  have m76 : mg (Str.ofString "part") = some (.ref f76) := PySem.W.mg_of X G.T.g a76
  have m61 : mg (Str.ofString "state_as_told") = some (.ref f61) := PySem.W.mg_of X G.T.g a61
  have m17 : mg (Str.ofString "tops_among") = some (.ref f17) := PySem.W.mg_of X G.T.g a17
  have m18 : mg (Str.ofString "is_loose") = some (.ref f18) := PySem.W.mg_of X G.T.g a18
  have m57 : mg (Str.ofString "is_tops_state") = some (.ref f57) := PySem.W.mg_of X G.T.g a57
  have m5 : mg (Str.ofString "is_map_name") = some (.ref f5) := PySem.W.mg_of X G.T.g a5
  have m59 : mg (Str.ofString "is_entry") = some (.ref f59) := PySem.W.mg_of X G.T.g a59
  have m58 : mg (Str.ofString "is_map_state") = some (.ref f58) := PySem.W.mg_of X G.T.g a58
  have m60 : mg (Str.ofString "is_above_state") = some (.ref f60) := PySem.W.mg_of X G.T.g a60
  have m56 : mg (Str.ofString "fits") = some (.ref f56) := PySem.W.mg_of X G.T.g a56
  have m55 : mg (Str.ofString "checked_state") = some (.ref f55) := PySem.W.mg_of X G.T.g a55
  have m75 : mg (Str.ofString "is_part") = some (.ref f75) := PySem.W.mg_of X G.T.g a75
  have m94 : mg (Str.ofString "_law_right") = some (.ref f94) := PySem.W.mg_of X G.T.g a94
  have m80 : mg (Str.ofString "_law_pot") = some (.ref f80) := PySem.W.mg_of X G.T.g a80
  have m95 : mg (Str.ofString "law") = some (.ref f95) := PySem.W.mg_of X G.T.g a95
  have c_LONGEST_ROW := PySem.W.mg_of X G.T.g am0
  have c_MOST_DEEP := PySem.W.mg_of X G.T.g am1
  have c_MOST_KINDS := PySem.W.mg_of X G.T.g am2
  have c_MOST_POINTS := PySem.W.mg_of X G.T.g am3
  have c_MOST_STATES := PySem.W.mg_of X G.T.g am4
  have c_MOST_TIES := PySem.W.mg_of X G.T.g am5
  have D_INNER_KINDS : DctK K w mg "INNER_KINDS" tab_INNER_KINDS d_INNER_KINDS es_INNER_KINDS n_INNER_KINDS := dctK_of (PySem.W.mg_of X G.T.g ak0) lk0 kl0 ks0 ke0
  have D_WAY_WORDS : DctK K w mg "WAY_WORDS" tab_WAY_WORDS d_WAY_WORDS es_WAY_WORDS n_WAY_WORDS := dctK_of (PySem.W.mg_of X G.T.g ak1) lk1 kl1 ks1 ke1
  have u0 : mg (Str.ofString "isinstance") = none := PySem.W.mg_none_of X G.T.g z0
  have u1 : mg (Str.ofString "int") = none := PySem.W.mg_none_of X G.T.g z1
  have u2 : mg (Str.ofString "bool") = none := PySem.W.mg_none_of X G.T.g z2
  have u3 : mg (Str.ofString "str") = none := PySem.W.mg_none_of X G.T.g z3
  have u4 : mg (Str.ofString "dict") = none := PySem.W.mg_none_of X G.T.g z4
  have u5 : mg (Str.ofString "list") = none := PySem.W.mg_none_of X G.T.g z5
  have u6 : mg (Str.ofString "tuple") = none := PySem.W.mg_none_of X G.T.g z6
  have u7 : mg (Str.ofString "len") = none := PySem.W.mg_none_of X G.T.g z7
  have u8 : mg (Str.ofString "all") = none := PySem.W.mg_none_of X G.T.g z8
  have u9 : mg (Str.ofString "any") = none := PySem.W.mg_none_of X G.T.g z9
  have u10 : mg (Str.ofString "range") = none := PySem.W.mg_none_of X G.T.g z10
  have u11 : mg (Str.ofString "abs") = none := PySem.W.mg_none_of X G.T.g z11
  have u12 : mg (Str.ofString "sum") = none := PySem.W.mg_none_of X G.T.g z12
  have u13 : mg (Str.ofString "min") = none := PySem.W.mg_none_of X G.T.g z13
  have u14 : mg (Str.ofString "max") = none := PySem.W.mg_none_of X G.T.g z14
  have u15 : mg (Str.ofString "divmod") = none := PySem.W.mg_none_of X G.T.g z15
  have u16 : mg (Str.ofString "sorted") = none := PySem.W.mg_none_of X G.T.g z16
  have u17 : mg (Str.ofString "set") = none := PySem.W.mg_none_of X G.T.g z17
  have u18 : mg (Str.ofString "repr") = none := PySem.W.mg_none_of X G.T.g z18
  have u19 : mg (Str.ofString "enumerate") = none := PySem.W.mg_none_of X G.T.g z19
  have u20 : mg (Str.ofString "zip") = none := PySem.W.mg_none_of X G.T.g z20
  have e83 := fOf_eq m83
  have e81 := fOf_eq m81
  have e82 := fOf_eq m82
  have e88 := fOf_eq m88
  have e84 := fOf_eq m84
  have e85 := fOf_eq m85
  have e86 := fOf_eq m86
  have e87 := fOf_eq m87
  have e90 := fOf_eq m90
  have e92 := fOf_eq m92
  have e93 := fOf_eq m93
  have e67 := fOf_eq m67
  have e68 := fOf_eq m68
  have e70 := fOf_eq m70
  have e16 := fOf_eq m16
  have e52 := fOf_eq m52
  have e53 := fOf_eq m53
  have e50 := fOf_eq m50
  have e51 := fOf_eq m51
  have e4 := fOf_eq m4
  have e1 := fOf_eq m1
  have e2 := fOf_eq m2
  have e3 := fOf_eq m3
  have e26 := fOf_eq m26
  have e25 := fOf_eq m25
  have e27 := fOf_eq m27
  have e21 := fOf_eq m21
  have e24 := fOf_eq m24
  have e30 := fOf_eq m30
  have e28 := fOf_eq m28
  have e29 := fOf_eq m29
  have e33 := fOf_eq m33
  have e34 := fOf_eq m34
  have e35 := fOf_eq m35
  have e31 := fOf_eq m31
  have e32 := fOf_eq m32
  have e36 := fOf_eq m36
  have e37 := fOf_eq m37
  have e22 := fOf_eq m22
  have e38 := fOf_eq m38
  have e39 := fOf_eq m39
  have e23 := fOf_eq m23
  have e71 := fOf_eq m71
  have e69 := fOf_eq m69
  have e72 := fOf_eq m72
  have e73 := fOf_eq m73
  have e49 := fOf_eq m49
  have e15 := fOf_eq m15
  have e14 := fOf_eq m14
  have e48 := fOf_eq m48
  have e47 := fOf_eq m47
  have e45 := fOf_eq m45
  have e46 := fOf_eq m46
  have e66 := fOf_eq m66
  have e89 := fOf_eq m89
  have e91 := fOf_eq m91
  have e63 := fOf_eq m63
  have e77 := fOf_eq m77
  have e78 := fOf_eq m78
  have e62 := fOf_eq m62
  have e76 := fOf_eq m76
  have e61 := fOf_eq m61
  have e17 := fOf_eq m17
  have e18 := fOf_eq m18
  have e57 := fOf_eq m57
  have e5 := fOf_eq m5
  have e59 := fOf_eq m59
  have e58 := fOf_eq m58
  have e60 := fOf_eq m60
  have e56 := fOf_eq m56
  have e55 := fOf_eq m55
  have e75 := fOf_eq m75
  have e94 := fOf_eq m94
  have e80 := fOf_eq m80
  have e95 := fOf_eq m95
  subst e83
  subst e81
  subst e82
  subst e88
  subst e84
  subst e85
  subst e86
  subst e87
  subst e90
  subst e92
  subst e93
  subst e67
  subst e68
  subst e70
  subst e16
  subst e52
  subst e53
  subst e50
  subst e51
  subst e4
  subst e1
  subst e2
  subst e3
  subst e26
  subst e25
  subst e27
  subst e21
  subst e24
  subst e30
  subst e28
  subst e29
  subst e33
  subst e34
  subst e35
  subst e31
  subst e32
  subst e36
  subst e37
  subst e22
  subst e38
  subst e39
  subst e23
  subst e71
  subst e69
  subst e72
  subst e73
  subst e49
  subst e15
  subst e14
  subst e48
  subst e47
  subst e45
  subst e46
  subst e66
  subst e89
  subst e91
  subst e63
  subst e77
  subst e78
  subst e62
  subst e76
  subst e61
  subst e17
  subst e18
  subst e57
  subst e5
  subst e59
  subst e58
  subst e60
  subst e56
  subst e55
  subst e75
  subst e94
  subst e80
  subst e95
  have efa : fa = fOf mg "law" := by
    have := hmg.symm.trans m95
    cases this
    rfl
  have TX : Tx mg (fOf mg) := by
    refine ⟨fun x hx => ?_, fun x hx => ?_⟩
    · simp only [List.mem_cons, List.not_mem_nil, or_false] at hx
      rcases hx with rfl | rfl | rfl | rfl | rfl | rfl | rfl | rfl | rfl | rfl | rfl | rfl | rfl | rfl | rfl | rfl | rfl | rfl | rfl | rfl | rfl | rfl | rfl | rfl | rfl | rfl | rfl | rfl | rfl | rfl | rfl | rfl | rfl | rfl | rfl | rfl | rfl | rfl | rfl | rfl | rfl | rfl | rfl | rfl | rfl | rfl | rfl | rfl | rfl | rfl | rfl | rfl | rfl | rfl | rfl | rfl | rfl | rfl | rfl | rfl | rfl | rfl | rfl | rfl | rfl | rfl | rfl | rfl | rfl | rfl | rfl | rfl | rfl | rfl | rfl
      · exact m83
      · exact m81
      · exact m82
      · exact m88
      · exact m84
      · exact m85
      · exact m86
      · exact m87
      · exact m90
      · exact m92
      · exact m93
      · exact m67
      · exact m68
      · exact m70
      · exact m16
      · exact m52
      · exact m53
      · exact m50
      · exact m51
      · exact m4
      · exact m1
      · exact m2
      · exact m3
      · exact m26
      · exact m25
      · exact m27
      · exact m21
      · exact m24
      · exact m30
      · exact m28
      · exact m29
      · exact m33
      · exact m34
      · exact m35
      · exact m31
      · exact m32
      · exact m36
      · exact m37
      · exact m22
      · exact m38
      · exact m39
      · exact m23
      · exact m71
      · exact m69
      · exact m72
      · exact m73
      · exact m49
      · exact m15
      · exact m14
      · exact m48
      · exact m47
      · exact m45
      · exact m46
      · exact m66
      · exact m89
      · exact m91
      · exact m63
      · exact m77
      · exact m78
      · exact m62
      · exact m76
      · exact m61
      · exact m17
      · exact m18
      · exact m57
      · exact m5
      · exact m59
      · exact m58
      · exact m60
      · exact m56
      · exact m55
      · exact m75
      · exact m94
      · exact m80
      · exact m95
    · simp only [List.mem_cons, List.not_mem_nil, or_false] at hx
      rcases hx with rfl | rfl | rfl | rfl | rfl | rfl | rfl | rfl | rfl | rfl | rfl | rfl | rfl | rfl | rfl | rfl | rfl | rfl | rfl | rfl | rfl
      · exact u0
      · exact u1
      · exact u2
      · exact u3
      · exact u4
      · exact u5
      · exact u6
      · exact u7
      · exact u8
      · exact u9
      · exact u10
      · exact u11
      · exact u12
      · exact u13
      · exact u14
      · exact u15
      · exact u16
      · exact u17
      · exact u18
      · exact u19
      · exact u20
  have F83 := fun_mk (st := top 83) l83 y83 k83
  have B83 := F83.binds (ps := []) fun _ _ _ _ _ _ us hl => match us, hl with | [], _ => rfl
  have F81 := fun_mk (st := top 81) l81 y81 k81
  have B81 := F81.binds (ps := ["_law_pot_here", "_law_size"]) fun _ _ _ _ _ _ us hl => match us, hl with | [_, _], _ => rfl
  have F82 := fun_mk (st := top 82) l82 y82 k82
  have B82 := F82.binds (ps := ["_law_pot_here", "_law_some"]) fun _ _ _ _ _ _ us hl => match us, hl with | [_, _], _ => rfl
  have F88 := fun_mk (st := top 88) l88 y88 k88
  have B88 := F88.binds (ps := ["_law_pot_here"]) fun _ _ _ _ _ _ us hl => match us, hl with | [_], _ => rfl
  have F84 := fun_mk (st := top 84) l84 y84 k84
  have B84 := F84.binds (ps := ["_law_kind"]) fun _ _ _ _ _ _ us hl => match us, hl with | [_], _ => rfl
  have F85 := fun_mk (st := top 85) l85 y85 k85
  have B85 := F85.binds (ps := ["_law_ties", "_law_low", "_law_high"]) fun _ _ _ _ _ _ us hl => match us, hl with | [_, _, _], _ => rfl
  have F86 := fun_mk (st := top 86) l86 y86 k86
  have B86 := F86.binds (ps := ["_law_kind", "_law_one", "_law_other"]) fun _ _ _ _ _ _ us hl => match us, hl with | [_, _, _], _ => rfl
  have F87 := fun_mk (st := top 87) l87 y87 k87
  have B87 := F87.binds (ps := ["_law_kind"]) fun _ _ _ _ _ _ us hl => match us, hl with | [_], _ => rfl
  have F90 := fun_mk (st := top 90) l90 y90 k90
  have B90 := F90.binds (ps := ["_law_rows"]) fun _ _ _ _ _ _ us hl => match us, hl with | [_], _ => rfl
  have F92 := fun_mk (st := top 92) l92 y92 k92
  have B92 := F92.binds (ps := ["_law_rows", "_law_some"]) fun _ _ _ _ _ _ us hl => match us, hl with | [_, _], _ => rfl
  have F93 := fun_mk (st := top 93) l93 y93 k93
  have B93 := F93.binds (ps := ["_law_rows"]) fun _ _ _ _ _ _ us hl => match us, hl with | [_], _ => rfl
  have F67 := fun_mk (st := top 67) l67 y67 k67
  have B67 := F67.binds (ps := ["kind"]) fun _ _ _ _ _ _ us hl => match us, hl with | [_], _ => rfl
  have F68 := fun_mk (st := top 68) l68 y68 k68
  have B68 := F68.binds (ps := ["kind", "word"]) fun _ _ _ _ _ _ us hl => match us, hl with | [_, _], _ => rfl
  have F70 := fun_mk (st := top 70) l70 y70 k70
  have B70 := F70.binds (ps := ["kind"]) fun _ _ _ _ _ _ us hl => match us, hl with | [_], _ => rfl
  have F16 := fun_mk (st := top 16) l16 y16 k16
  have B16 := F16.binds (ps := ["many", "ties"]) fun _ _ _ _ _ _ us hl => match us, hl with | [_, _], _ => rfl
  have F52 : FunC K "are_points_in_line" "are_points_in_line" (top 52) (fOf mg "are_points_in_line") _ c52 := ⟨⟨oc52, od52, kV52, dc52, pm52, an52, ct52, sl52, rfl, l52, y52⟩, k52⟩
  have B52 := F52.fn.binds (ps := ["many", "ties"]) fun _ _ _ _ _ _ us hl => match us, hl with | [_, _], _ => rfl
  have F53 : FunC K "is_table_in_line" "is_table_in_line" (top 53) (fOf mg "is_table_in_line") _ c53 := ⟨⟨oc53, od53, kV53, dc53, pm53, an53, ct53, sl53, rfl, l53, y53⟩, k53⟩
  have B53 := F53.fn.binds (ps := ["rows"]) fun _ _ _ _ _ _ us hl => match us, hl with | [_], _ => rfl
  have F50 : FunC K "single" "single" (top 50) (fOf mg "single") _ c50 := ⟨⟨oc50, od50, kV50, dc50, pm50, an50, ct50, sl50, rfl, l50, y50⟩, k50⟩
  have B50 := F50.fn.binds (ps := ["kind"]) fun _ _ _ _ _ _ us hl => match us, hl with | [_], _ => rfl
  have F51 : FunC K "in_line" "in_line" (top 51) (fOf mg "in_line") _ c51 := ⟨⟨oc51, od51, kV51, dc51, pm51, an51, ct51, sl51, rfl, l51, y51⟩, k51⟩
  have B51 := F51.fn.binds (ps := ["kind"]) fun _ _ _ _ _ _ us hl => match us, hl with | [_], _ => rfl
  have F4 := fun_mk (st := top 4) l4 y4 k4
  have B4 := F4.binds (ps := ["value"]) fun _ _ _ _ _ _ us hl => match us, hl with | [_], _ => rfl
  have F1 := fun_mk (st := top 1) l1 y1 k1
  have B1 := F1.binds (ps := ["value"]) fun _ _ _ _ _ _ us hl => match us, hl with | [_], _ => rfl
  have F2 := fun_mk (st := top 2) l2 y2 k2
  have B2 := F2.binds (ps := ["value"]) fun _ _ _ _ _ _ us hl => match us, hl with | [_], _ => rfl
  have F3 := fun_mk (st := top 3) l3 y3 k3
  have B3 := F3.binds (ps := ["value", "bound"]) fun _ _ _ _ _ _ us hl => match us, hl with | [_, _], _ => rfl
  have F26 : FunC K "is_row" "is_row" (top 26) (fOf mg "is_row") _ c26 := ⟨⟨oc26, od26, kV26, dc26, pm26, an26, ct26, sl26, rfl, l26, y26⟩, k26⟩
  have B26 := F26.fn.binds (ps := ["value", "many"]) fun _ _ _ _ _ _ us hl => match us, hl with | [_, _], _ => rfl
  have F25 : FunC K "has_table_form" "has_table_form" (top 25) (fOf mg "has_table_form") _ c25 := ⟨⟨oc25, od25, kV25, dc25, pm25, an25, ct25, sl25, rfl, l25, y25⟩, k25⟩
  have B25 := F25.fn.binds (ps := ["value"]) fun _ _ _ _ _ _ us hl => match us, hl with | [_], _ => rfl
  have F27 := fun_mk (st := top 27) l27 y27 k27
  have B27 := F27.binds (ps := ["rows"]) fun _ _ _ _ _ _ us hl => match us, hl with | [_], _ => rfl
  have F21 := fun_mk (st := top 21) l21 y21 k21
  have B21 := F21.binds (ps := ["value"]) fun _ _ _ _ _ _ us hl => match us, hl with | [_], _ => rfl
  have F24 := fun_mk (st := top 24) l24 y24 k24
  have B24 := F24.binds (ps := ["table"]) fun _ _ _ _ _ _ us hl => match us, hl with | [_], _ => rfl
  have F30 := fun_mk (st := top 30) l30 y30 k30
  have B30 := F30.binds (ps := ["numbers", "number"]) fun _ _ _ _ _ _ us hl => match us, hl with | [_, _], _ => rfl
  have F28 := fun_mk (st := top 28) l28 y28 k28
  have B28 := F28.binds (ps := ["table", "one", "other"]) fun _ _ _ _ _ _ us hl => match us, hl with | [_, _, _], _ => rfl
  have F29 := fun_mk (st := top 29) l29 y29 k29
  have B29 := F29.binds (ps := ["table", "number"]) fun _ _ _ _ _ _ us hl => match us, hl with | [_, _], _ => rfl
  have F33 : FunC K "is_part_in" "is_part_in" (top 33) (fOf mg "is_part_in") _ c33 := ⟨⟨oc33, od33, kV33, dc33, pm33, an33, ct33, sl33, rfl, l33, y33⟩, k33⟩
  have B33 := F33.fn.binds (ps := ["table", "number"]) fun _ _ _ _ _ _ us hl => match us, hl with | [_, _], _ => rfl
  have F34 := fun_mk (st := top 34) l34 y34 k34
  have B34 := F34.binds (ps := ["table"]) fun _ _ _ _ _ _ us hl => match us, hl with | [_], _ => rfl
  have F35 := fun_mk (st := top 35) l35 y35 k35
  have B35 := F35.binds (ps := ["table", "number"]) fun _ _ _ _ _ _ us hl => match us, hl with | [_, _], _ => rfl
  have F31 := fun_mk (st := top 31) l31 y31 k31
  have B31 := F31.binds (ps := ["table", "numbers"]) fun _ _ _ _ _ _ us hl => match us, hl with | [_, _], _ => rfl
  have F32 := fun_mk (st := top 32) l32 y32 k32
  have B32 := F32.binds (ps := ["table", "numbers", "goal"]) fun _ _ _ _ _ _ us hl => match us, hl with | [_, _, _], _ => rfl
  have F36 : FunC K "is_list_of" "is_list_of" (top 36) (fOf mg "is_list_of") _ c36 := ⟨⟨oc36, od36, kV36, dc36, pm36, an36, ct36, sl36, rfl, l36, y36⟩, k36⟩
  have B36 := F36.fn.binds (ps := ["table", "parts", "number"]) fun _ _ _ _ _ _ us hl => match us, hl with | [_, _, _], _ => rfl
  have F37 := fun_mk (st := top 37) l37 y37 k37
  have B37 := F37.binds (ps := ["table", "number"]) fun _ _ _ _ _ _ us hl => match us, hl with | [_, _], _ => rfl
  have F22 : FunC K "has_single_lists" "has_single_lists" (top 22) (fOf mg "has_single_lists") _ c22 := ⟨⟨oc22, od22, kV22, dc22, pm22, an22, ct22, sl22, rfl, l22, y22⟩, k22⟩
  have B22 := F22.fn.binds (ps := ["table"]) fun _ _ _ _ _ _ us hl => match us, hl with | [_], _ => rfl
  have F38 := fun_mk (st := top 38) l38 y38 k38
  have B38 := F38.binds (ps := ["table", "one", "other"]) fun _ _ _ _ _ _ us hl => match us, hl with | [_, _, _], _ => rfl
  have F39 := fun_mk (st := top 39) l39 y39 k39
  have B39 := F39.binds (ps := ["table"]) fun _ _ _ _ _ _ us hl => match us, hl with | [_], _ => rfl
  have F23 := fun_mk (st := top 23) l23 y23 k23
  have B23 := F23.binds (ps := ["table"]) fun _ _ _ _ _ _ us hl => match us, hl with | [_], _ => rfl
  have F71 := fun_mk (st := top 71) l71 y71 k71
  have B71 := F71.binds (ps := ["kind", "word"]) fun _ _ _ _ _ _ us hl => match us, hl with | [_, _], _ => rfl
  have F69 := fun_mk (st := top 69) l69 y69 k69
  have B69 := F69.binds (ps := ["kind", "way"]) fun _ _ _ _ _ _ us hl => match us, hl with | [_, _], _ => rfl
  have F72 := fun_mk (st := top 72) l72 y72 k72
  have B72 := F72.binds (ps := ["kind", "word"]) fun _ _ _ _ _ _ us hl => match us, hl with | [_, _], _ => rfl
  have F73 := fun_mk (st := top 73) l73 y73 k73
  have B73 := F73.binds (ps := ["kind"]) fun _ _ _ _ _ _ us hl => match us, hl with | [_], _ => rfl
  have F49 := fun_mk (st := top 49) l49 y49 k49
  have B49 := F49.binds (ps := ["kind"]) fun _ _ _ _ _ _ us hl => match us, hl with | [_], _ => rfl
  have F15 := fun_mk (st := top 15) l15 y15 k15
  have B15 := F15.binds (ps := ["value", "many"]) fun _ _ _ _ _ _ us hl => match us, hl with | [_, _], _ => rfl
  have F14 : FunC K "is_order" "is_order" (top 14) (fOf mg "is_order") _ c14 := ⟨⟨oc14, od14, kV14, dc14, pm14, an14, ct14, sl14, rfl, l14, y14⟩, k14⟩
  have B14 := F14.fn.binds (ps := ["many", "ties"]) fun _ _ _ _ _ _ us hl => match us, hl with | [_, _], _ => rfl
  have F48 := fun_mk (st := top 48) l48 y48 k48
  have B48 := F48.binds (ps := ["value"]) fun _ _ _ _ _ _ us hl => match us, hl with | [_], _ => rfl
  have F47 := fun_mk (st := top 47) l47 y47 k47
  have B47 := F47.binds (ps := ["value", "deep"]) fun _ _ _ _ _ _ us hl => match us, hl with | [_, _], _ => rfl
  have F45 := fun_mk (st := top 45) l45 y45 k45
  have B45 := F45.binds (ps := ["value"]) fun _ _ _ _ _ _ us hl => match us, hl with | [_], _ => rfl
  have F46 := fun_mk (st := top 46) l46 y46 k46
  have B46 := F46.binds (ps := ["kind"]) fun _ _ _ _ _ _ us hl => match us, hl with | [_], _ => rfl
  have F66 := fun_mk (st := top 66) l66 y66 k66
  have B66 := F66.binds (ps := ["kind"]) fun _ _ _ _ _ _ us hl => match us, hl with | [_], _ => rfl
  have F89 := fun_mk (st := top 89) l89 y89 k89
  have B89 := F89.binds (ps := ["_law_rows", "_law_some"]) fun _ _ _ _ _ _ us hl => match us, hl with | [_, _], _ => rfl
  have F91 := fun_mk (st := top 91) l91 y91 k91
  have B91 := F91.binds (ps := ["_law_rows", "_law_parts_here"]) fun _ _ _ _ _ _ us hl => match us, hl with | [_, _], _ => rfl
  have F63 := fun_mk (st := top 63) l63 y63 k63
  have B63 := F63.binds (ps := ["kind"]) fun _ _ _ _ _ _ us hl => match us, hl with | [_], _ => rfl
  have F77 := fun_mk (st := top 77) l77 y77 k77
  have B77 := F77.binds (ps := ["kind", "state"]) fun _ _ _ _ _ _ us hl => match us, hl with | [_, _], _ => rfl
  have F78 := fun_mk (st := top 78) l78 y78 k78
  have B78 := F78.binds (ps := ["kind", "state"]) fun _ _ _ _ _ _ us hl => match us, hl with | [_, _], _ => rfl
  have F62 := fun_mk (st := top 62) l62 y62 k62
  have B62 := F62.binds (ps := ["kind", "word"]) fun _ _ _ _ _ _ us hl => match us, hl with | [_, _], _ => rfl
  have F76 := fun_mk (st := top 76) l76 y76 k76
  have B76 := F76.binds (ps := ["kind", "state"]) fun _ _ _ _ _ _ us hl => match us, hl with | [_, _], _ => rfl
  have F61 := fun_mk (st := top 61) l61 y61 k61
  have B61 := F61.binds (ps := ["kind", "state"]) fun _ _ _ _ _ _ us hl => match us, hl with | [_, _], _ => rfl
  have F17 : FunC K "tops_among" "tops_among" (top 17) (fOf mg "tops_among") _ c17 := ⟨⟨oc17, od17, kV17, dc17, pm17, an17, ct17, sl17, rfl, l17, y17⟩, k17⟩
  have B17 := F17.fn.binds (ps := ["below", "points"]) fun _ _ _ _ _ _ us hl => match us, hl with | [_, _], _ => rfl
  have F18 := fun_mk (st := top 18) l18 y18 k18
  have B18 := F18.binds (ps := ["below", "points"]) fun _ _ _ _ _ _ us hl => match us, hl with | [_, _], _ => rfl
  have F57 : FunC K "is_tops_state" "is_tops_state" (top 57) (fOf mg "is_tops_state") _ c57 := ⟨⟨oc57, od57, kV57, dc57, pm57, an57, ct57, sl57, rfl, l57, y57⟩, k57⟩
  have B57 := F57.fn.binds (ps := ["kind", "value"]) fun _ _ _ _ _ _ us hl => match us, hl with | [_, _], _ => rfl
  have F5 : FunC K "is_map_name" "is_map_name" (top 5) (fOf mg "is_map_name") _ c5 := ⟨⟨oc5, od5, kV5, dc5, pm5, an5, ct5, sl5, rfl, l5, y5⟩, k5⟩
  have B5 := F5.fn.binds (ps := ["value"]) fun _ _ _ _ _ _ us hl => match us, hl with | [_], _ => rfl
  have F59 := fun_mk (st := top 59) l59 y59 k59
  have B59 := F59.binds (ps := ["kind", "value"]) fun _ _ _ _ _ _ us hl => match us, hl with | [_, _], _ => rfl
  have F58 : FunC K "is_map_state" "is_map_state" (top 58) (fOf mg "is_map_state") _ c58 := ⟨⟨oc58, od58, kV58, dc58, pm58, an58, ct58, sl58, rfl, l58, y58⟩, k58⟩
  have B58 := F58.fn.binds (ps := ["kind", "value"]) fun _ _ _ _ _ _ us hl => match us, hl with | [_, _], _ => rfl
  have F60 := fun_mk (st := top 60) l60 y60 k60
  have B60 := F60.binds (ps := ["kind", "value"]) fun _ _ _ _ _ _ us hl => match us, hl with | [_, _], _ => rfl
  have F56 := fun_mk (st := top 56) l56 y56 k56
  have B56 := F56.binds (ps := ["kind", "value"]) fun _ _ _ _ _ _ us hl => match us, hl with | [_, _], _ => rfl
  have F55 := fun_mk (st := top 55) l55 y55 k55
  have B55 := F55.binds (ps := ["kind", "value"]) fun _ _ _ _ _ _ us hl => match us, hl with | [_, _], _ => rfl
  have F75 := fun_mk (st := top 75) l75 y75 k75
  have B75 := F75.binds (ps := ["kind", "state"]) fun _ _ _ _ _ _ us hl => match us, hl with | [_, _], _ => rfl
  have F94 := fun_mk (st := top 94) l94 y94 k94
  have B94 := F94.binds (ps := ["_law_pot_here"]) fun _ _ _ _ _ _ us hl => match us, hl with | [_], _ => rfl
  have F80 := fun_mk (st := top 80) l80 y80 k80
  have B80 := F80.binds (ps := ["_law_script", "_law_k"]) fun _ _ _ _ _ _ us hl => match us, hl with | [_, _], _ => rfl
  have F95 := fun_mk (st := top 95) l95 y95 k95
  have B95 := F95.binds (ps := ["_law_script"]) fun _ _ _ _ _ _ us hl => match us, hl with | [_], _ => rfl
  have BL : ∀ (s : Shared) (v : Value), BindsTo s (PySem.W.fnOf "law" "law" (defArgs (top 95)) (defBody (top 95)) (defScope (top 95)) .none kV95 dc95 pm95 an95 cd95 ct95) ⟨[v], []⟩ [("_law_script", v)] := fun s v => .of_eq rfl
  obtain ⟨h52, q52⟩ := PySem.W.tab_of G.T X r52 t52
  obtain ⟨h53, q53⟩ := PySem.W.tab_of G.T X r53 t53
  obtain ⟨h50, q50⟩ := PySem.W.tab_of G.T X r50 t50
  obtain ⟨h51, q51⟩ := PySem.W.tab_of G.T X r51 t51
  obtain ⟨h26, q26⟩ := PySem.W.tab_of G.T X r26 t26
  obtain ⟨h25, q25⟩ := PySem.W.tab_of G.T X r25 t25
  obtain ⟨h33, q33⟩ := PySem.W.tab_of G.T X r33 t33
  obtain ⟨h36, q36⟩ := PySem.W.tab_of G.T X r36 t36
  obtain ⟨h22, q22⟩ := PySem.W.tab_of G.T X r22 t22
  obtain ⟨h14, q14⟩ := PySem.W.tab_of G.T X r14 t14
  obtain ⟨h17, q17⟩ := PySem.W.tab_of G.T X r17 t17
  obtain ⟨h57, q57⟩ := PySem.W.tab_of G.T X r57 t57
  obtain ⟨h5, q5⟩ := PySem.W.tab_of G.T X r5 t5
  obtain ⟨h58, q58⟩ := PySem.W.tab_of G.T X r58 t58
  rw [efa]
  have each : ∀ {C : Addr × Addr → Prop}, C (c52, T52) → C (c53, T53) → C (c50, T50) → C (c51, T51) → C (c26, T26) → C (c25, T25) → C (c33, T33) → C (c36, T36) → C (c22, T22) → C (c14, T14) → C (c17, T17) → C (c57, T57) → C (c5, T5) → C (c58, T58) →  ∀ q ∈ ([(c52, T52), (c53, T53), (c50, T50), (c51, T51), (c26, T26), (c25, T25), (c33, T33), (c36, T36), (c22, T22), (c14, T14), (c17, T17), (c57, T57), (c5, T5), (c58, T58)] : List (Addr × Addr)), C q := fun x52 x53 x50 x51 x26 x25 x33 x36 x22 x14 x17 x57 x5 x58 q hq => by
    simp only [List.mem_cons, List.not_mem_nil, or_false] at hq
    rcases hq with rfl | rfl | rfl | rfl | rfl | rfl | rfl | rfl | rfl | rfl | rfl | rfl | rfl | rfl
    · exact x52
    · exact x53
    · exact x50
    · exact x51
    · exact x26
    · exact x25
    · exact x33
    · exact x36
    · exact x22
    · exact x14
    · exact x17
    · exact x57
    · exact x5
    · exact x58
  refine law_endD (k := 58) (x := "_law_script") (cs := [(c52, T52), (c53, T53), (c50, T50), (c51, T51), (c26, T26), (c25, T25), (c33, T33), (c36, T36), (c22, T22), (c14, T14), (c17, T17), (c57, T57), (c5, T5), (c58, T58)]) (T := [T52, T53, T50, T51, T26, T25, T33, T36, T22, T14, T17, T57, T5, T58]) (r := r_law) X G.T.g G.T.b G.T.builtins G.T.nolimit ge (by obtain ⟨mm, z, _⟩ := (G.T.seer imp).mods; exact ⟨mm, z⟩) (each q52 q53 q50 q51 q26 q25 q33 q36 q22 q14 q17 q57 q5 q58) (each n52 n53 n50 n51 n26 n25 n33 n36 n22 n14 n17 n57 n5 n58) (each h52 h53 h50 h51 h26 h25 h33 h36 h22 h14 h17 h57 h5 h58) G.T.bmain oa ia (Nat.le_trans la (by decide)) ⟨rfl, by decide, by decide⟩ rfl rfl no
    (fun base Xb gb smo TB => ?_) (fun s v => BL s v) rr
  have TB52 := TB (c52, T52) (by simp)
  have TB53 := TB (c53, T53) (by simp)
  have TB50 := TB (c50, T50) (by simp)
  have TB51 := TB (c51, T51) (by simp)
  have TB26 := TB (c26, T26) (by simp)
  have TB25 := TB (c25, T25) (by simp)
  have TB33 := TB (c33, T33) (by simp)
  have TB36 := TB (c36, T36) (by simp)
  have TB22 := TB (c22, T22) (by simp)
  have TB14 := TB (c14, T14) (by simp)
  have TB17 := TB (c17, T17) (by simp)
  have TB57 := TB (c57, T57) (by simp)
  have TB5 := TB (c5, T5) (by simp)
  have TB58 := TB (c58, T58) (by simp)
  have G83 := ok__law_tables (P := P) (w := w) (K := K) (mg := mg) (base := base) (T := [T52, T53, T50, T51, T26, T25, T33, T36, T22, T14, T17, T57, T5, T58]) (f := fOf mg) TX F83
  have G81 := ok__law_draw (P := P) (w := w) (K := K) (mg := mg) (base := base) (T := [T52, T53, T50, T51, T26, T25, T33, T36, T22, T14, T17, T57, T5, T58]) (f := fOf mg) TX F81
  have G82 := ok__law_pick (P := P) (w := w) (K := K) (mg := mg) (base := base) (T := [T52, T53, T50, T51, T26, T25, T33, T36, T22, T14, T17, T57, T5, T58]) (f := fOf mg) TX F82 G81 k81 B81
  have G88 := ok__law_small (P := P) (w := w) (K := K) (mg := mg) (base := base) (T := [T52, T53, T50, T51, T26, T25, T33, T36, T22, T14, T17, T57, T5, T58]) (f := fOf mg) TX F88 G83 k83 B83 G82 k82 B82 G81 k81 B81
  have R84 := okR__law_least (P := P) (w := w) (K := K) (mg := mg) (base := base) (T := [T52, T53, T50, T51, T26, T25, T33, T36, T22, T14, T17, T57, T5, T58]) (f := fOf mg) TX F84 k84 B84
  have G84 := fun m => (R84 m)
  have G85 := ok__law_is_under (P := P) (w := w) (K := K) (mg := mg) (base := base) (T := [T52, T53, T50, T51, T26, T25, T33, T36, T22, T14, T17, T57, T5, T58]) (f := fOf mg) TX F85
  have R86 := okR__law_join (P := P) (w := w) (K := K) (mg := mg) (base := base) (T := [T52, T53, T50, T51, T26, T25, T33, T36, T22, T14, T17, T57, T5, T58]) (f := fOf mg) TX F86 k86 B86 G85 k85 B85 G84 k84 B84
  have G86 := fun m => (R86 m)
  have R87 := okR__law_states (P := P) (w := w) (K := K) (mg := mg) (base := base) (T := [T52, T53, T50, T51, T26, T25, T33, T36, T22, T14, T17, T57, T5, T58]) (f := fOf mg) TX F87 k87 B87 G86 k86 B86
  have G87 := fun m => (R87 m)
  have G90 := ok__law_parts (P := P) (w := w) (K := K) (mg := mg) (base := base) (T := [T52, T53, T50, T51, T26, T25, T33, T36, T22, T14, T17, T57, T5, T58]) (f := fOf mg) TX F90
  have G92 := ok__law_lowest (P := P) (w := w) (K := K) (mg := mg) (base := base) (T := [T52, T53, T50, T51, T26, T25, T33, T36, T22, T14, T17, T57, T5, T58]) (f := fOf mg) TX F92
  have G93 := ok__law_all_differ (P := P) (w := w) (K := K) (mg := mg) (base := base) (T := [T52, T53, T50, T51, T26, T25, T33, T36, T22, T14, T17, T57, T5, T58]) (f := fOf mg) TX F93 G92 k92 B92
  have G67 := ok_words_from (P := P) (w := w) (K := K) (mg := mg) (base := base) (T := [T52, T53, T50, T51, T26, T25, T33, T36, T22, T14, T17, T57, T5, T58]) (f := fOf mg) TX F67 D_WAY_WORDS
  have G68 := ok_kind_by (P := P) (w := w) (K := K) (mg := mg) (base := base) (T := [T52, T53, T50, T51, T26, T25, T33, T36, T22, T14, T17, T57, T5, T58]) (f := fOf mg) TX F68 G67 k67 B67
  have R70 := okR_ways_of (P := P) (w := w) (K := K) (mg := mg) (base := base) (T := [T52, T53, T50, T51, T26, T25, T33, T36, T22, T14, T17, T57, T5, T58]) (f := fOf mg) TX F70 k70 B70 G67 k67 B67 G68 k68 B68
  have G70 := fun m => (R70 m)
  have G16 := ok_below_rows (P := P) (w := w) (K := K) (mg := mg) (base := base) (T := [T52, T53, T50, T51, T26, T25, T33, T36, T22, T14, T17, T57, T5, T58]) (f := fOf mg) TX F16
  have G52 := ok_are_points_in_line (P := P) (w := w) (K := K) (mg := mg) (base := base) (T := [T52, T53, T50, T51, T26, T25, T33, T36, T22, T14, T17, T57, T5, T58]) (f := fOf mg) TX F52 TB52 (by simp) G16 k16 B16
  have G53 := ok_is_table_in_line (P := P) (w := w) (K := K) (mg := mg) (base := base) (T := [T52, T53, T50, T51, T26, T25, T33, T36, T22, T14, T17, T57, T5, T58]) (f := fOf mg) TX F53 TB53 (by simp)
  have R50 := okR_single (P := P) (w := w) (K := K) (mg := mg) (base := base) (T := [T52, T53, T50, T51, T26, T25, T33, T36, T22, T14, T17, T57, T5, T58]) (f := fOf mg) TX F50 TB50 (by simp) k50 B50
  have G50 := fun m => (R50 m)
  have R51 := okR_in_line (P := P) (w := w) (K := K) (mg := mg) (base := base) (T := [T52, T53, T50, T51, T26, T25, T33, T36, T22, T14, T17, T57, T5, T58]) (f := fOf mg) TX F51 TB51 (by simp) k51 B51 G52 k52 B52 G53 k53 B53 G50 k50 B50
  have G51 := fun m => (R51 m)
  have G4 := ok_is_list (P := P) (w := w) (K := K) (mg := mg) (base := base) (T := [T52, T53, T50, T51, T26, T25, T33, T36, T22, T14, T17, T57, T5, T58]) (f := fOf mg) TX F4
  have G1 := ok_is_integer (P := P) (w := w) (K := K) (mg := mg) (base := base) (T := [T52, T53, T50, T51, T26, T25, T33, T36, T22, T14, T17, T57, T5, T58]) (f := fOf mg) TX F1
  have G2 := ok_is_count (P := P) (w := w) (K := K) (mg := mg) (base := base) (T := [T52, T53, T50, T51, T26, T25, T33, T36, T22, T14, T17, T57, T5, T58]) (f := fOf mg) TX F2 G1 k1 B1
  have G3 := ok_is_count_below (P := P) (w := w) (K := K) (mg := mg) (base := base) (T := [T52, T53, T50, T51, T26, T25, T33, T36, T22, T14, T17, T57, T5, T58]) (f := fOf mg) TX F3 G2 k2 B2
  have G26 := ok_is_row (P := P) (w := w) (K := K) (mg := mg) (base := base) (T := [T52, T53, T50, T51, T26, T25, T33, T36, T22, T14, T17, T57, T5, T58]) (f := fOf mg) TX F26 TB26 (by simp) G4 k4 B4 G3 k3 B3
  have G25 := ok_has_table_form (P := P) (w := w) (K := K) (mg := mg) (base := base) (T := [T52, T53, T50, T51, T26, T25, T33, T36, T22, T14, T17, T57, T5, T58]) (f := fOf mg) TX F25 TB25 (by simp) c_MOST_STATES G4 k4 B4 G26 k26 B26
  have G27 := ok_keeps_join_rules (P := P) (w := w) (K := K) (mg := mg) (base := base) (T := [T52, T53, T50, T51, T26, T25, T33, T36, T22, T14, T17, T57, T5, T58]) (f := fOf mg) TX F27
  have G21 := ok_is_table (P := P) (w := w) (K := K) (mg := mg) (base := base) (T := [T52, T53, T50, T51, T26, T25, T33, T36, T22, T14, T17, T57, T5, T58]) (f := fOf mg) TX F21 G25 k25 B25 G27 k27 B27
  have G24 := ok_check_table (P := P) (w := w) (K := K) (mg := mg) (base := base) (T := [T52, T53, T50, T51, T26, T25, T33, T36, T22, T14, T17, T57, T5, T58]) (f := fOf mg) TX F24 G21 k21 B21
  have G30 := ok_without (P := P) (w := w) (K := K) (mg := mg) (base := base) (T := [T52, T53, T50, T51, T26, T25, T33, T36, T22, T14, T17, T57, T5, T58]) (f := fOf mg) TX F30
  have G28 := ok_lies_within (P := P) (w := w) (K := K) (mg := mg) (base := base) (T := [T52, T53, T50, T51, T26, T25, T33, T36, T22, T14, T17, T57, T5, T58]) (f := fOf mg) TX F28
  have G29 := ok_states_within (P := P) (w := w) (K := K) (mg := mg) (base := base) (T := [T52, T53, T50, T51, T26, T25, T33, T36, T22, T14, T17, T57, T5, T58]) (f := fOf mg) TX F29 G28 k28 B28
  have G33 := ok_is_part_in (P := P) (w := w) (K := K) (mg := mg) (base := base) (T := [T52, T53, T50, T51, T26, T25, T33, T36, T22, T14, T17, T57, T5, T58]) (f := fOf mg) TX F33 TB33 (by simp) G30 k30 B30 G29 k29 B29
  have G34 := ok_parts_in (P := P) (w := w) (K := K) (mg := mg) (base := base) (T := [T52, T53, T50, T51, T26, T25, T33, T36, T22, T14, T17, T57, T5, T58]) (f := fOf mg) TX F34 G33 k33 B33
  have G35 := ok_parts_below (P := P) (w := w) (K := K) (mg := mg) (base := base) (T := [T52, T53, T50, T51, T26, T25, T33, T36, T22, T14, T17, T57, T5, T58]) (f := fOf mg) TX F35 G34 k34 B34 G28 k28 B28
  have G31 := ok_joined_numbers (P := P) (w := w) (K := K) (mg := mg) (base := base) (T := [T52, T53, T50, T51, T26, T25, T33, T36, T22, T14, T17, T57, T5, T58]) (f := fOf mg) TX F31
  have G32 := ok_joins_to (P := P) (w := w) (K := K) (mg := mg) (base := base) (T := [T52, T53, T50, T51, T26, T25, T33, T36, T22, T14, T17, T57, T5, T58]) (f := fOf mg) TX F32 G31 k31 B31
  have G36 := ok_is_list_of (P := P) (w := w) (K := K) (mg := mg) (base := base) (T := [T52, T53, T50, T51, T26, T25, T33, T36, T22, T14, T17, T57, T5, T58]) (f := fOf mg) TX F36 TB36 (by simp) G32 k32 B32 G30 k30 B30
  have G37 := ok_lists_of (P := P) (w := w) (K := K) (mg := mg) (base := base) (T := [T52, T53, T50, T51, T26, T25, T33, T36, T22, T14, T17, T57, T5, T58]) (f := fOf mg) TX F37 G35 k35 B35 G36 k36 B36
  have G22 := ok_has_single_lists (P := P) (w := w) (K := K) (mg := mg) (base := base) (T := [T52, T53, T50, T51, T26, T25, T33, T36, T22, T14, T17, T57, T5, T58]) (f := fOf mg) TX F22 TB22 (by simp) G24 k24 B24 G37 k37 B37
  have G38 := ok_meet_of (P := P) (w := w) (K := K) (mg := mg) (base := base) (T := [T52, T53, T50, T51, T26, T25, T33, T36, T22, T14, T17, T57, T5, T58]) (f := fOf mg) TX F38 G29 k29 B29 G28 k28 B28 G31 k31 B31
  have G39 := ok_meet_rows (P := P) (w := w) (K := K) (mg := mg) (base := base) (T := [T52, T53, T50, T51, T26, T25, T33, T36, T22, T14, T17, T57, T5, T58]) (f := fOf mg) TX F39 G38 k38 B38
  have G23 := ok_is_distributive (P := P) (w := w) (K := K) (mg := mg) (base := base) (T := [T52, T53, T50, T51, T26, T25, T33, T36, T22, T14, T17, T57, T5, T58]) (f := fOf mg) TX F23 G24 k24 B24 G39 k39 B39
  have G71 := ok_is_good (P := P) (w := w) (K := K) (mg := mg) (base := base) (T := [T52, T53, T50, T51, T26, T25, T33, T36, T22, T14, T17, T57, T5, T58]) (f := fOf mg) TX F71 G22 k22 B22 G23 k23 B23 G51 k51 B51 G50 k50 B50
  have G69 := ok_kind_along (P := P) (w := w) (K := K) (mg := mg) (base := base) (T := [T52, T53, T50, T51, T26, T25, T33, T36, T22, T14, T17, T57, T5, T58]) (f := fOf mg) TX F69 G68 k68 B68
  have G72 := ok_bad_ways (P := P) (w := w) (K := K) (mg := mg) (base := base) (T := [T52, T53, T50, T51, T26, T25, T33, T36, T22, T14, T17, T57, T5, T58]) (f := fOf mg) TX F72 G70 k70 B70 G71 k71 B71 G69 k69 B69
  have G73 := ok_grade_of (P := P) (w := w) (K := K) (mg := mg) (base := base) (T := [T52, T53, T50, T51, T26, T25, T33, T36, T22, T14, T17, T57, T5, T58]) (f := fOf mg) TX F73 G72 k72 B72
  have R49 := okR_kind_as_told (P := P) (w := w) (K := K) (mg := mg) (base := base) (T := [T52, T53, T50, T51, T26, T25, T33, T36, T22, T14, T17, T57, T5, T58]) (f := fOf mg) TX D_INNER_KINDS F49 k49 B49
  have G49 := fun m => (R49 m)
  have G15 := ok_is_tie (P := P) (w := w) (K := K) (mg := mg) (base := base) (T := [T52, T53, T50, T51, T26, T25, T33, T36, T22, T14, T17, T57, T5, T58]) (f := fOf mg) TX F15 G3 k3 B3
  have G14 := ok_is_order (P := P) (w := w) (K := K) (mg := mg) (base := base) (T := [T52, T53, T50, T51, T26, T25, T33, T36, T22, T14, T17, T57, T5, T58]) (f := fOf mg) TX F14 TB14 (by simp) c_MOST_POINTS c_MOST_TIES G1 k1 B1 G4 k4 B4 G15 k15 B15 G16 k16 B16
  have G48 := ok_is_plain_kind (P := P) (w := w) (K := K) (mg := mg) (base := base) (T := [T52, T53, T50, T51, T26, T25, T33, T36, T22, T14, T17, T57, T5, T58]) (f := fOf mg) TX F48 c_LONGEST_ROW G1 k1 B1 G14 k14 B14 G21 k21 B21
  have R47 := okR_kinds_within (P := P) (w := w) (K := K) (mg := mg) (base := base) (T := [T52, T53, T50, T51, T26, T25, T33, T36, T22, T14, T17, T57, T5, T58]) (f := fOf mg) TX D_INNER_KINDS F47 k47 B47 G48 k48 B48
  have G47 := fun m => (R47 m)
  have G45 := ok_is_kind (P := P) (w := w) (K := K) (mg := mg) (base := base) (T := [T52, T53, T50, T51, T26, T25, T33, T36, T22, T14, T17, T57, T5, T58]) (f := fOf mg) TX F45 c_MOST_DEEP c_MOST_KINDS G47 k47 B47
  have G46 := ok_told_kind (P := P) (w := w) (K := K) (mg := mg) (base := base) (T := [T52, T53, T50, T51, T26, T25, T33, T36, T22, T14, T17, T57, T5, T58]) (f := fOf mg) TX F46 G45 k45 B45 G49 k49 B49
  have G66 := ok_grade (P := P) (w := w) (K := K) (mg := mg) (base := base) (T := [T52, T53, T50, T51, T26, T25, T33, T36, T22, T14, T17, T57, T5, T58]) (f := fOf mg) TX F66 G73 k73 B73 G46 k46 B46
  have G89 := ok__law_joined (P := P) (w := w) (K := K) (mg := mg) (base := base) (T := [T52, T53, T50, T51, T26, T25, T33, T36, T22, T14, T17, T57, T5, T58]) (f := fOf mg) TX F89
  have G91 := ok__law_all_single (P := P) (w := w) (K := K) (mg := mg) (base := base) (T := [T52, T53, T50, T51, T26, T25, T33, T36, T22, T14, T17, T57, T5, T58]) (f := fOf mg) TX F91 G89 k89 B89
  have R63 := okR_least_of (P := P) (w := w) (K := K) (mg := mg) (base := base) (T := [T52, T53, T50, T51, T26, T25, T33, T36, T22, T14, T17, T57, T5, T58]) (f := fOf mg) TX F63 k63 B63
  have G63 := fun m => (R63 m)
  have G62 := ok_side_of (P := P) (w := w) (K := K) (mg := mg) (base := base) (T := [T52, T53, T50, T51, T26, T25, T33, T36, T22, T14, T17, T57, T5, T58]) (f := fOf mg) TX F62
  have R76 := okR_part (P := P) (w := w) (K := K) (mg := mg) (base := base) (T := [T52, T53, T50, T51, T26, T25, T33, T36, T22, T14, T17, T57, T5, T58]) (f := fOf mg) TX F76 k76 B76 F77 k77 B77 F78 k78 B78 G33 k33 B33 G63 k63 B63 G62 k62 B62
  have G76 := fun m => (R76 m).1
  have G77 := fun m => (R76 m).2.1
  have G78 := fun m => (R76 m).2.2
  have R61 := okR_state_as_told (P := P) (w := w) (K := K) (mg := mg) (base := base) (T := [T52, T53, T50, T51, T26, T25, T33, T36, T22, T14, T17, T57, T5, T58]) (f := fOf mg) TX F61 k61 B61 G62 k62 B62
  have G61 := fun m => (R61 m)
  have G17 := ok_tops_among (P := P) (w := w) (K := K) (mg := mg) (base := base) (T := [T52, T53, T50, T51, T26, T25, T33, T36, T22, T14, T17, T57, T5, T58]) (f := fOf mg) TX F17 TB17 (by simp)
  have G18 := ok_is_loose (P := P) (w := w) (K := K) (mg := mg) (base := base) (T := [T52, T53, T50, T51, T26, T25, T33, T36, T22, T14, T17, T57, T5, T58]) (f := fOf mg) TX F18 G17 k17 B17
  have G57 := ok_is_tops_state (P := P) (w := w) (K := K) (mg := mg) (base := base) (T := [T52, T53, T50, T51, T26, T25, T33, T36, T22, T14, T17, T57, T5, T58]) (f := fOf mg) TX F57 TB57 (by simp) G4 k4 B4 G3 k3 B3 G18 k18 B18 G16 k16 B16
  have G5 := ok_is_map_name (P := P) (w := w) (K := K) (mg := mg) (base := base) (T := [T52, T53, T50, T51, T26, T25, T33, T36, T22, T14, T17, T57, T5, T58]) (f := fOf mg) TX F5 TB5 (by simp)
  have R56 := okR_fits (P := P) (w := w) (K := K) (mg := mg) (base := base) (T := [T52, T53, T50, T51, T26, T25, T33, T36, T22, T14, T17, T57, T5, T58]) (f := fOf mg) TX F56 k56 B56 F58 TB58 (by simp) k58 B58 F59 k59 B59 F60 k60 B60 G2 k2 B2 G3 k3 B3 G57 k57 B57 G4 k4 B4 G5 k5 B5 G61 k61 B61 G63 k63 B63
  have G56 := fun m => (R56 m).1
  have G58 := fun m => (R56 m).2.1
  have G59 := fun m => (R56 m).2.2.1
  have G60 := fun m => (R56 m).2.2.2
  have G55 := ok_checked_state (P := P) (w := w) (K := K) (mg := mg) (base := base) (T := [T52, T53, T50, T51, T26, T25, T33, T36, T22, T14, T17, T57, T5, T58]) (f := fOf mg) TX F55 G56 k56 B56 G61 k61 B61
  have G75 := ok_is_part (P := P) (w := w) (K := K) (mg := mg) (base := base) (T := [T52, T53, T50, T51, T26, T25, T33, T36, T22, T14, T17, T57, T5, T58]) (f := fOf mg) TX F75 G46 k46 B46 G76 k76 B76 G55 k55 B55
  have G94 := ok__law_right (P := P) (w := w) (K := K) (mg := mg) (base := base) (T := [T52, T53, T50, T51, T26, T25, T33, T36, T22, T14, T17, T57, T5, T58]) (f := fOf mg) TX F94 G88 k88 B88 G87 k87 B87 G84 k84 B84 G86 k86 B86 G90 k90 B90 G75 k75 B75 G93 k93 B93 G66 k66 B66 G91 k91 B91 (fun s ws hl => match ws, hl with | [_], _ => .of_eq rfl)
  have G80 := ok__law_pot (P := P) (w := w) (K := K) (mg := mg) (base := base) (T := [T52, T53, T50, T51, T26, T25, T33, T36, T22, T14, T17, T57, T5, T58]) (f := fOf mg) TX F80
  have GL80 := okL__law_pot (P := P) (w := w) (K := K) (mg := mg) (base := base) (T := [T52, T53, T50, T51, T26, T25, T33, T36, T22, T14, T17, T57, T5, T58]) (f := fOf mg) TX F80
  have G95 := ok_law (P := P) (w := w) (K := K) (mg := mg) (base := base) (T := [T52, T53, T50, T51, T26, T25, T33, T36, T22, T14, T17, T57, T5, T58]) (f := fOf mg) TX F95 G94 k94 B94 GL80 k80 B80
  exact G95
end Ev
namespace Ev
open PySem PySem.Spec PyProof.Rows L2 Tb
def mgS {α : Type} (le : α → α → Bool) : Nat → List α → List α → List α
  | 0, xs, ys => xs ++ ys
  | _ + 1, [], ys => ys
  | _ + 1, x :: xs, [] => x :: xs
  | n + 1, x :: xs, y :: ys => match le x y with
    | true => x :: mgS le n xs (y :: ys)
    | false => y :: mgS le n (x :: xs) ys
theorem mgS_eq {α : Type} {le : α → α → Bool} : ∀ (n : Nat) (xs ys : List α), xs.length + ys.length ≤ n → List.merge xs ys le = mgS le n xs ys
  | 0, [], [], _ => by simp [mgS]
  | 0, _ :: _, _, h => by simp at h
  | 0, [], _ :: _, h => by simp at h
  | n + 1, [], ys, _ => by simp [mgS]
  | n + 1, x :: xs, [], _ => by simp [mgS]
  | n + 1, x :: xs, y :: ys, h => by
    simp only [List.length_cons] at h
    rw [List.cons_merge_cons, mgS]
    cases e : le x y with
    | true => simp only [if_true]; rw [mgS_eq n xs (y :: ys) (by simp only [List.length_cons]; omega)]
    | false => simp only [Bool.false_eq_true, if_false]; rw [mgS_eq n (x :: xs) ys (by simp only [List.length_cons]; omega)]
def mS {α : Type} (le : α → α → Bool) : Nat → List α → List α
  | 0, l => l
  | _ + 1, [] => []
  | _ + 1, [a] => [a]
  | n + 1, a :: b :: xs => mgS le (xs.length + 2) (mS le n ((a :: b :: xs).take ((xs.length + 3) / 2))) (mS le n ((a :: b :: xs).drop ((xs.length + 3) / 2)))
theorem mS_len {α : Type} {le : α → α → Bool} {n : Nat} {l : List α} (h : l.mergeSort le = mS le n l) : (mS le n l).length = l.length := by rw [← h, List.length_mergeSort]
theorem mS_eq {α : Type} {le : α → α → Bool} : ∀ (n : Nat) (l : List α), l.length ≤ n → l.mergeSort le = mS le n l
  | 0, [], _ => by simp [mS]
  | 0, _ :: _, h => by simp at h
  | n + 1, [], _ => by simp [mS]
  | n + 1, [a], _ => by simp [mS]
  | n + 1, a :: b :: xs, h => by
    simp only [List.length_cons] at h
    have h1 := mS_eq (le := le) n ((a :: b :: xs).take ((xs.length + 3) / 2)) (by simp only [List.length_take, List.length_cons]; omega)
    have h2 := mS_eq (le := le) n ((a :: b :: xs).drop ((xs.length + 3) / 2)) (by simp only [List.length_drop, List.length_cons]; omega)
    rw [List.mergeSort, mS]
    simp only [List.MergeSort.Internal.splitInTwo_fst, List.MergeSort.Internal.splitInTwo_snd, List.length_cons, show (xs.length + 1 + 1 + 1) / 2 = (xs.length + 3) / 2 from rfl]
    rw [h1, h2]
    exact mgS_eq _ _ _ (by rw [mS_len h1, mS_len h2]; simp only [List.length_take, List.length_drop, List.length_cons]; omega)
noncomputable def sortFK : List PyData → Option PyData
  | [x] => (kidsD x).bind fun xs => if sortOk xs = true then some (.list (mS (PySem.W.dataLe false id) xs.length xs)) else none
  | _ => none
theorem sortF_K : sortF = sortFK := by
  funext l
  match l with
  | [] => rfl
  | [x] =>
    show (kidsD x).bind _ = (kidsD x).bind _
    congr 1
    funext xs
    unfold srtD
    rw [mS_eq _ _ (Nat.le_refl _)]
  | _ :: _ :: _ => rfl
def sortSetFK (x : PyData) : Option PyData := (kidsD x).bind fun ds => match intsD ds with
  | some ns => if ns.length < 64 then some (.list (ID (mS (fun a b => decide (a ≤ b)) (dd ns).length (dd ns)))) else none
  | none => match strsD ds with
    | some zs => if zs.length + 1 < scanBound then some (.list (XD (mS (fun a b => dLe (.str a) (.str b)) (dd zs).length (dd zs)))) else none
    | none => (pairsD ds).bind fun ps => if ps.length < 64 ∧ ps.all inB = true then some (.list (TD (mS tieLe (dd ps).length (dd ps)))) else none
theorem iSort_K (ns : List Int) : iSort ns = mS (fun a b => decide (a ≤ b)) ns.length ns := mS_eq _ _ (Nat.le_refl _)
theorem sSort_K (zs : List Str) : sSort zs = mS (fun a b => dLe (.str a) (.str b)) zs.length zs := mS_eq _ _ (Nat.le_refl _)
theorem tSort_K (ts : List (Int × Int)) : tSort ts = mS tieLe ts.length ts := mS_eq _ _ (Nat.le_refl _)
theorem sortSetF_K : sortSetF = sortSetFK := by
  funext x
  unfold sortSetF sortSetFK
  simp only [iSort_K, sSort_K, tSort_K] <;> rfl
end Ev
namespace Ev
open PySem PySem.Spec PyProof.Rows L2 Tb
noncomputable def g__law_join' (R__law_join : List PyData → Option PyData) : GS := (seqS (ifS (bF (op2 inF (op2 ixF (vF 0) (cF (.int 0))) (tupF (consA (cF (.str "count")) (consA (cF (.str "row")) nilA))))) (retS (callF max2F (consA (vF 1) (consA (vF 2) nilA)))) nilS)
  (seqS (ifS (bF (op2 eqF (op2 ixF (vF 0) (cF (.int 0))) (cF (.str "table")))) (retS (op2 ixF (op2 ixF (op2 ixF (vF 0) (cF (.int 1))) (vF 1)) (vF 2))) nilS)
  (seqS (ifS (bF (op2 eqF (op2 ixF (vF 0) (cF (.int 0))) (cF (.str "tops")))) (seqS (asgS (un1 sortSetFK (op2 addF (callF listF (consA (vF 1) nilA)) (callF listF (consA (vF 2) nilA)))) (nmG 3))
  (retS (lcF (seqI (vF 3)) [4] (nmG 4) (notT (bF (callF anyL (consA (lcF (seqI (vF 3)) [5] (nmG 5) yesT (callF r__law_is_under (consA (op2 ixF (vF 0) (cF (.int 2))) (consA (vF 4) (consA (vF 5) nilA))))) nilA)))) (vF 4)))) nilS)
  (seqS (ifS (bF (op2 eqF (op2 ixF (vF 0) (cF (.int 0))) (cF (.str "map")))) (seqS neverS
  (seqS (asgS (callF (r__law_least 12) (consA (op2 ixF (vF 0) (cF (.int 1))) nilA)) (nmG 8))
  neverS)) nilS)
  (seqS (ifS (bF (op2 eqF (op2 ixF (vF 0) (cF (.int 0))) (cF (.str "above")))) (seqS (ifS (bF (op2 neF (op2 ixF (vF 1) (cF (.int 0))) (op2 ixF (vF 2) (cF (.int 0))))) (retS (ifE (bF (op2 eqF (op2 ixF (vF 1) (cF (.int 0))) (cF (.str "high")))) (vF 1) (vF 2))) nilS)
  (retS (tupF (consA (op2 ixF (vF 1) (cF (.int 0))) (consA (callF R__law_join (consA (ifE (bF (op2 eqF (op2 ixF (vF 1) (cF (.int 0))) (cF (.str "low")))) (op2 ixF (vF 0) (cF (.int 1))) (op2 ixF (vF 0) (cF (.int 2)))) (consA (op2 ixF (vF 1) (cF (.int 1))) (consA (op2 ixF (vF 2) (cF (.int 1))) nilA)))) nilA))))) nilS)
  (seqS (asgS (callF R__law_join (consA (op2 ixF (vF 0) (cF (.int 1))) (consA (op2 ixF (vF 1) (cF (.int 0))) (consA (op2 ixF (vF 2) (cF (.int 0))) nilA)))) (nmG 10))
  (seqS (ifS (orT (bF (op2 eqF (op2 ixF (vF 0) (cF (.int 0))) (cF (.str "pair")))) (bF (op2 eqF (op2 ixF (vF 1) (cF (.int 0))) (op2 ixF (vF 2) (cF (.int 0)))))) (retS (tupF (consA (vF 10) (consA (callF R__law_join (consA (op2 ixF (vF 0) (cF (.int 2))) (consA (op2 ixF (vF 1) (cF (.int 1))) (consA (op2 ixF (vF 2) (cF (.int 1))) nilA)))) nilA)))) nilS)
  (retS (ifE (bF (op2 eqF (vF 10) (op2 ixF (vF 1) (cF (.int 0))))) (vF 1) (ifE (bF (op2 eqF (vF 10) (op2 ixF (vF 2) (cF (.int 0))))) (vF 2) (tupF (consA (vF 10) (consA (callF (r__law_least 12) (consA (op2 ixF (vF 0) (cF (.int 2))) nilA)) nilA)))))))))))))
theorem pg_g__law_join (R__law_join : List PyData → Option PyData) : g__law_join R__law_join = g__law_join' R__law_join := by
  unfold g__law_join g__law_join'
  simp only [sortSetF_K]
noncomputable def r__law_join' : Nat → List PyData → Option PyData
  | 0 => fun _ => none
  | m + 1 => runD 3 11 (g__law_join' (r__law_join' m))
theorem pr_r__law_join : ∀ m, r__law_join m = r__law_join' m
  | 0 => rfl
  | m + 1 => by
    show runD 3 11 (g__law_join (r__law_join m)) = runD 3 11 (g__law_join' (r__law_join' m))
    rw [pr_r__law_join m, pg_g__law_join]
noncomputable def g__law_states' (R__law_states : List PyData → Option PyData) : GS := (seqS (ifS (bF (op2 inF (op2 ixF (vF 0) (cF (.int 0))) (tupF (consA (cF (.str "row")) (consA (cF (.str "table")) nilA))))) (retS (listRgF (ifE (bF (op2 eqF (op2 ixF (vF 0) (cF (.int 0))) (cF (.str "row")))) (op2 ixF (vF 0) (cF (.int 1))) (callF lenF (consA (op2 ixF (vF 0) (cF (.int 1))) nilA))))) nilS)
  (seqS (ifS (bF (op2 eqF (op2 ixF (vF 0) (cF (.int 0))) (cF (.str "tops")))) (seqS (asgL (lstL (consA (lstF nilA) nilA)) 1)
  (seqS (forS (rg1I (consA (op2 ixF (vF 0) (cF (.int 1))) nilA)) (nmG 2) (asgL (catLL (frzF 1) (lcF (seqI (frzF 1)) [3] (nmG 3) yesT (op2 addF (vF 3) (lstF (consA (vF 2) nilA))))) 1))
  (retS (lcF (seqI (frzF 1)) [3] (nmG 3) (bF (op2 eqF (callF (r__law_join' 12) (consA (vF 0) (consA (vF 3) (consA (lstF nilA) nilA)))) (vF 3))) (vF 3))))) nilS)
  (seqS (par2 (callF R__law_states (consA (op2 ixF (vF 0) (cF (.int 1))) nilA)) (callF R__law_states (consA (op2 ixF (vF 0) (cF (.int 2))) nilA)) 4 5)
  (seqS (ifS (bF (op2 eqF (op2 ixF (vF 0) (cF (.int 0))) (cF (.str "above")))) (retS (op2 addF (lcF (seqI (vF 4)) [6] (nmG 6) yesT (tupF (consA (cF (.str "low")) (consA (vF 6) nilA)))) (lcF (seqI (vF 5)) [6] (nmG 6) yesT (tupF (consA (cF (.str "high")) (consA (vF 6) nilA)))))) nilS)
  (seqS (asgL (lstL nilA) 1)
  (seqS (forS (seqI (vF 4)) (nmG 6) (dropS (extF 1 (lcF (seqI (vF 5)) [7] (nmG 7) yesT (tupF (consA (vF 6) (consA (vF 7) nilA)))))))
  (retS (frzF 1))))))))
theorem pg_g__law_states (R__law_states : List PyData → Option PyData) : g__law_states R__law_states = g__law_states' R__law_states := by
  unfold g__law_states g__law_states'
  simp only [pr_r__law_join]
noncomputable def r__law_states' : Nat → List PyData → Option PyData
  | 0 => fun _ => none
  | m + 1 => runD 1 8 (g__law_states' (r__law_states' m))
theorem pr_r__law_states : ∀ m, r__law_states m = r__law_states' m
  | 0 => rfl
  | m + 1 => by
    show runD 1 8 (g__law_states (r__law_states m)) = runD 1 8 (g__law_states' (r__law_states' m))
    rw [pr_r__law_states m, pg_g__law_states]
noncomputable def g_lists_of' : GS := (seqS (asgS (lstF (consA (lstF nilA) nilA)) (nmG 2))
  (seqS (forS (seqI (callF r_parts_below (consA (vF 0) (consA (vF 1) nilA)))) (nmG 3) (asgS (op2 addF (vF 2) (lcF (seqI (vF 2)) [4] (nmG 4) yesT (op2 addF (vF 4) (lstF (consA (vF 3) nilA))))) (nmG 2)))
  (retS (callF sortFK (consA (lcF (seqI (vF 2)) [4] (nmG 4) (bF (callF r_is_list_of (consA (vF 0) (consA (vF 4) (consA (vF 1) nilA))))) (vF 4)) nilA)))))
theorem pg_g_lists_of : g_lists_of = g_lists_of' := by
  unfold g_lists_of g_lists_of'
  simp only [sortF_K]
noncomputable def r_lists_of' : List PyData → Option PyData := runD 2 5 g_lists_of'
theorem pr_r_lists_of : r_lists_of = r_lists_of' := by
  unfold r_lists_of r_lists_of'
  rw [pg_g_lists_of]
noncomputable def g_has_single_lists' : GS := (seqS (dropS (callF r_check_table (consA (vF 0) nilA)))
  (retS (allF (rg1I (consA (callF lenF (consA (vF 0) nilA)) nilA)) 1 (op2 eqF (callF lenF (consA (callF r_lists_of' (consA (vF 0) (consA (vF 1) nilA))) nilA)) (cF (.int 1))) true)))
theorem pg_g_has_single_lists : g_has_single_lists = g_has_single_lists' := by
  unfold g_has_single_lists g_has_single_lists'
  simp only [pr_r_lists_of]
noncomputable def r_has_single_lists' : List PyData → Option PyData := runD 1 2 g_has_single_lists'
theorem pr_r_has_single_lists : r_has_single_lists = r_has_single_lists' := by
  unfold r_has_single_lists r_has_single_lists'
  rw [pg_g_has_single_lists]
noncomputable def g_is_good' : GS := (seqS (ifS (bF (op2 eqF (op2 ixF (vF 0) (cF (.int 0))) (cF (.str "table")))) (retS (ifE (bF (op2 eqF (vF 1) (cF (.str "lists")))) (callF r_has_single_lists' (consA (op2 ixF (vF 0) (cF (.int 1))) nilA)) (callF r_is_distributive (consA (op2 ixF (vF 0) (cF (.int 1))) nilA)))) nilS)
  (retS (orE (op2 neF (op2 ixF (vF 0) (cF (.int 0))) (cF (.str "later"))) (orE (callF (r_in_line 12) (consA (op2 ixF (vF 0) (cF (.int 1))) nilA)) (callF (r_single 12) (consA (op2 ixF (vF 0) (cF (.int 2))) nilA))))))
theorem pg_g_is_good : g_is_good = g_is_good' := by
  unfold g_is_good g_is_good'
  simp only [pr_r_has_single_lists]
noncomputable def r_is_good' : List PyData → Option PyData := runD 2 2 g_is_good'
theorem pr_r_is_good : r_is_good = r_is_good' := by
  unfold r_is_good r_is_good'
  rw [pg_g_is_good]
noncomputable def g_bad_ways' : GS := (retS (lcF (seqI (callF (r_ways_of 12) (consA (vF 0) nilA))) [2] (nmG 2) (notT (bF (callF r_is_good' (consA (callF r_kind_along (consA (vF 0) (consA (vF 2) nilA))) (consA (vF 1) nilA))))) (vF 2)))
theorem pg_g_bad_ways : g_bad_ways = g_bad_ways' := by
  unfold g_bad_ways g_bad_ways'
  simp only [pr_r_is_good]
noncomputable def r_bad_ways' : List PyData → Option PyData := runD 2 3 g_bad_ways'
theorem pr_r_bad_ways : r_bad_ways = r_bad_ways' := by
  unfold r_bad_ways r_bad_ways'
  rw [pg_g_bad_ways]
noncomputable def g_grade_of' : GS := (seqS (ifS (bF (op2 eqF (callF lenF (consA (callF r_bad_ways' (consA (vF 0) (consA (cF (.str "differences")) nilA))) nilA)) (cF (.int 0)))) (retS (cF (.str "differences"))) nilS)
  (retS (ifE (bF (op2 eqF (callF lenF (consA (callF r_bad_ways' (consA (vF 0) (consA (cF (.str "lists")) nilA))) nilA)) (cF (.int 0)))) (cF (.str "lists")) (cF (.str "neither")))))
theorem pg_g_grade_of : g_grade_of = g_grade_of' := by
  unfold g_grade_of g_grade_of'
  simp only [pr_r_bad_ways]
noncomputable def r_grade_of' : List PyData → Option PyData := runD 1 1 g_grade_of'
theorem pr_r_grade_of : r_grade_of = r_grade_of' := by
  unfold r_grade_of r_grade_of'
  rw [pg_g_grade_of]
noncomputable def g_kind_as_told' (R_kind_as_told : List PyData → Option PyData) : GS := (seqS (asgS (op2 ixF (vF 0) (cF (.int 0))) (nmG 1))
  (seqS (ifS (bF (un1 (kinF false tab_INNER_KINDS) (vF 1))) (retS (callF tupleF (consA (op2 addF (lstF (consA (vF 1) nilA)) (lcF (seqI (slF (vF 0) (soO (cF (.int 1))) noO)) [2] (nmG 2) yesT (callF R_kind_as_told (consA (vF 2) nilA)))) nilA))) nilS)
  (seqS (ifS (bF (op2 eqF (vF 1) (cF (.str "tops")))) (retS (tupF (consA (vF 1) (consA (op2 ixF (vF 0) (cF (.int 1))) (consA (un1 sortSetFK (op2 ixF (vF 0) (cF (.int 2)))) nilA))))) nilS)
  (seqS (ifS (bF (op2 eqF (vF 1) (cF (.str "table")))) (retS (tupF (consA (vF 1) (consA (lcF (seqI (op2 ixF (vF 0) (cF (.int 1)))) [3] (nmG 3) yesT (callF listF (consA (vF 3) nilA))) nilA)))) nilS)
  (retS (vF 0))))))
theorem pg_g_kind_as_told (R_kind_as_told : List PyData → Option PyData) : g_kind_as_told R_kind_as_told = g_kind_as_told' R_kind_as_told := by
  unfold g_kind_as_told g_kind_as_told'
  simp only [sortSetF_K]
noncomputable def r_kind_as_told' : Nat → List PyData → Option PyData
  | 0 => fun _ => none
  | m + 1 => runD 1 4 (g_kind_as_told' (r_kind_as_told' m))
theorem pr_r_kind_as_told : ∀ m, r_kind_as_told m = r_kind_as_told' m
  | 0 => rfl
  | m + 1 => by
    show runD 1 4 (g_kind_as_told (r_kind_as_told m)) = runD 1 4 (g_kind_as_told' (r_kind_as_told' m))
    rw [pr_r_kind_as_told m, pg_g_kind_as_told]
noncomputable def g_told_kind' : GS := (seqS (ifS (notT (bF (callF r_is_kind (consA (vF 0) nilA)))) neverS nilS)
  (retS (callF (r_kind_as_told' 12) (consA (vF 0) nilA))))
theorem pg_g_told_kind : g_told_kind = g_told_kind' := by
  unfold g_told_kind g_told_kind'
  simp only [pr_r_kind_as_told]
noncomputable def r_told_kind' : List PyData → Option PyData := runD 1 1 g_told_kind'
theorem pr_r_told_kind : r_told_kind = r_told_kind' := by
  unfold r_told_kind r_told_kind'
  rw [pg_g_told_kind]
noncomputable def g_grade' : GS := (retS (callF r_grade_of' (consA (callF r_told_kind' (consA (vF 0) nilA)) nilA)))
theorem pg_g_grade : g_grade = g_grade' := by
  unfold g_grade g_grade'
  simp only [pr_r_grade_of, pr_r_told_kind]
noncomputable def r_grade' : List PyData → Option PyData := runD 1 1 g_grade'
theorem pr_r_grade : r_grade = r_grade' := by
  unfold r_grade r_grade'
  rw [pg_g_grade]
noncomputable def g_is_tops_state' : GS := (seqS (ifS (orT (notT (bF (callF r_is_list (consA (vF 1) nilA)))) (notT (bF (allF (seqI (vF 1)) 2 (callF r_is_count_below (consA (vF 2) (consA (op2 ixF (vF 0) (cF (.int 1))) nilA))) true)))) (retS (cF (.bool false))) nilS)
  (seqS (ifS (bF (op2 neF (callF listF (consA (vF 1) nilA)) (un1 sortSetFK (vF 1)))) (retS (cF (.bool false))) nilS)
  (retS (callF r_is_loose (consA (callF r_below_rows (consA (op2 ixF (vF 0) (cF (.int 1))) (consA (op2 ixF (vF 0) (cF (.int 2))) nilA))) (consA (vF 1) nilA))))))
theorem pg_g_is_tops_state : g_is_tops_state = g_is_tops_state' := by
  unfold g_is_tops_state g_is_tops_state'
  simp only [sortSetF_K]
noncomputable def r_is_tops_state' : List PyData → Option PyData := runD 2 3 g_is_tops_state'
theorem pr_r_is_tops_state : r_is_tops_state = r_is_tops_state' := by
  unfold r_is_tops_state r_is_tops_state'
  rw [pg_g_is_tops_state]
noncomputable def g_fits' (R_fits : List PyData → Option PyData) (R_is_map_state : List PyData → Option PyData) (R_is_entry : List PyData → Option PyData) (R_is_above_state : List PyData → Option PyData) : GS := (seqS (asgS (op2 ixF (vF 0) (cF (.int 0))) (nmG 2))
  (seqS (ifS (bF (op2 eqF (vF 2) (cF (.str "count")))) (retS (callF r_is_count (consA (vF 1) nilA))) nilS)
  (seqS (ifS (bF (op2 eqF (vF 2) (cF (.str "row")))) (retS (callF r_is_count_below (consA (vF 1) (consA (op2 ixF (vF 0) (cF (.int 1))) nilA)))) nilS)
  (seqS (ifS (bF (op2 eqF (vF 2) (cF (.str "table")))) (retS (callF r_is_count_below (consA (vF 1) (consA (callF lenF (consA (op2 ixF (vF 0) (cF (.int 1))) nilA)) nilA)))) nilS)
  (seqS (ifS (bF (op2 eqF (vF 2) (cF (.str "tops")))) (retS (callF r_is_tops_state' (consA (vF 0) (consA (vF 1) nilA)))) nilS)
  (seqS (ifS (bF (op2 eqF (vF 2) (cF (.str "map")))) (retS (callF R_is_map_state (consA (vF 0) (consA (vF 1) nilA)))) nilS)
  (seqS (ifS (orT (notT (bF (un1 (isF isTp) (vF 1)))) (bF (op2 neF (callF lenF (consA (vF 1) nilA)) (cF (.int 2))))) (retS (cF (.bool false))) nilS)
  (seqS (ifS (bF (op2 eqF (vF 2) (cF (.str "above")))) (retS (callF R_is_above_state (consA (vF 0) (consA (vF 1) nilA)))) nilS)
  (retS (andE (callF R_fits (consA (op2 ixF (vF 0) (cF (.int 1))) (consA (op2 ixF (vF 1) (cF (.int 0))) nilA))) (callF R_fits (consA (op2 ixF (vF 0) (cF (.int 2))) (consA (op2 ixF (vF 1) (cF (.int 1))) nilA)))))))))))))
theorem pg_g_fits (R_fits : List PyData → Option PyData) (R_is_map_state : List PyData → Option PyData) (R_is_entry : List PyData → Option PyData) (R_is_above_state : List PyData → Option PyData) : g_fits R_fits R_is_map_state R_is_entry R_is_above_state = g_fits' R_fits R_is_map_state R_is_entry R_is_above_state := by
  unfold g_fits g_fits'
  simp only [pr_r_is_tops_state]
noncomputable def g_is_map_state' (R_fits : List PyData → Option PyData) (R_is_map_state : List PyData → Option PyData) (R_is_entry : List PyData → Option PyData) (R_is_above_state : List PyData → Option PyData) : GS := (seqS (ifS (orT (notT (bF (callF r_is_list (consA (vF 1) nilA)))) (notT (bF (allF (seqI (vF 1)) 2 (callF R_is_entry (consA (op2 ixF (vF 0) (cF (.int 1))) (consA (vF 2) nilA))) true)))) (retS (cF (.bool false))) nilS)
  (seqS (setLcS (lcF (seqI (vF 1)) [2] (nmG 2) yesT (op2 ixF (vF 2) (cF (.int 0)))) 3)
  (retS (op2 eqF (vF 3) (un1 sortSetFK (vF 3))))))
theorem pg_g_is_map_state (R_fits : List PyData → Option PyData) (R_is_map_state : List PyData → Option PyData) (R_is_entry : List PyData → Option PyData) (R_is_above_state : List PyData → Option PyData) : g_is_map_state R_fits R_is_map_state R_is_entry R_is_above_state = g_is_map_state' R_fits R_is_map_state R_is_entry R_is_above_state := by
  unfold g_is_map_state g_is_map_state'
  simp only [sortSetF_K]
mutual
noncomputable def r_fits' : Nat → List PyData → Option PyData
  | 0 => fun _ => none
  | m + 1 => runD 2 3 (g_fits' (r_fits' m) (r_is_map_state' m) (r_is_entry' m) (r_is_above_state' m))
noncomputable def r_is_map_state' : Nat → List PyData → Option PyData
  | 0 => fun _ => none
  | m + 1 => runD 2 4 (g_is_map_state' (r_fits' m) (r_is_map_state' m) (r_is_entry' m) (r_is_above_state' m))
noncomputable def r_is_entry' : Nat → List PyData → Option PyData
  | 0 => fun _ => none
  | m + 1 => runD 2 2 (g_is_entry (r_fits' m) (r_is_map_state' m) (r_is_entry' m) (r_is_above_state' m))
noncomputable def r_is_above_state' : Nat → List PyData → Option PyData
  | 0 => fun _ => none
  | m + 1 => runD 2 2 (g_is_above_state (r_fits' m) (r_is_map_state' m) (r_is_entry' m) (r_is_above_state' m))
end
theorem prs_r_fits : ∀ m, r_fits m = r_fits' m ∧ r_is_map_state m = r_is_map_state' m ∧ r_is_entry m = r_is_entry' m ∧ r_is_above_state m = r_is_above_state' m
  | 0 => ⟨rfl, rfl, rfl, rfl⟩
  | m + 1 => by
    have ih := prs_r_fits m
    refine ⟨?_, ?_, ?_, ?_⟩
    · show runD 2 3 (g_fits (r_fits m) (r_is_map_state m) (r_is_entry m) (r_is_above_state m)) = runD 2 3 (g_fits' (r_fits' m) (r_is_map_state' m) (r_is_entry' m) (r_is_above_state' m))
      simp only [pg_g_fits, pg_g_is_map_state, ih]
    · show runD 2 4 (g_is_map_state (r_fits m) (r_is_map_state m) (r_is_entry m) (r_is_above_state m)) = runD 2 4 (g_is_map_state' (r_fits' m) (r_is_map_state' m) (r_is_entry' m) (r_is_above_state' m))
      simp only [pg_g_fits, pg_g_is_map_state, ih]
    · show runD 2 2 (g_is_entry (r_fits m) (r_is_map_state m) (r_is_entry m) (r_is_above_state m)) = runD 2 2 (g_is_entry (r_fits' m) (r_is_map_state' m) (r_is_entry' m) (r_is_above_state' m))
      simp only [pg_g_fits, pg_g_is_map_state, ih]
    · show runD 2 2 (g_is_above_state (r_fits m) (r_is_map_state m) (r_is_entry m) (r_is_above_state m)) = runD 2 2 (g_is_above_state (r_fits' m) (r_is_map_state' m) (r_is_entry' m) (r_is_above_state' m))
      simp only [pg_g_fits, pg_g_is_map_state, ih]
theorem pr_r_fits (m : Nat) : r_fits m = r_fits' m := (prs_r_fits m).1
noncomputable def g_checked_state' : GS := (seqS (ifS (notT (bF (callF (r_fits' 12) (consA (vF 0) (consA (vF 1) nilA))))) neverS nilS)
  (retS (callF (r_state_as_told 12) (consA (vF 0) (consA (vF 1) nilA)))))
theorem pg_g_checked_state : g_checked_state = g_checked_state' := by
  unfold g_checked_state g_checked_state'
  simp only [pr_r_fits]
noncomputable def r_checked_state' : List PyData → Option PyData := runD 2 2 g_checked_state'
theorem pr_r_checked_state : r_checked_state = r_checked_state' := by
  unfold r_checked_state r_checked_state'
  rw [pg_g_checked_state]
noncomputable def g_is_part' : GS := (seqS (asgS (callF r_told_kind' (consA (vF 0) nilA)) (nmG 2))
  (retS (callF (r_part 12) (consA (vF 2) (consA (callF r_checked_state' (consA (vF 2) (consA (vF 1) nilA))) nilA)))))
theorem pg_g_is_part : g_is_part = g_is_part' := by
  unfold g_is_part g_is_part'
  simp only [pr_r_told_kind, pr_r_checked_state]
noncomputable def r_is_part' : List PyData → Option PyData := runD 2 3 g_is_part'
theorem pr_r_is_part : r_is_part = r_is_part' := by
  unfold r_is_part r_is_part'
  rw [pg_g_is_part]
noncomputable def g__law_right' : GS := (seqS (asgS (callBF r__law_small 0 nilA) (nmG 1))
  (seqS (asgS (callF (r__law_states' 12) (consA (vF 1) nilA)) (nmG 2))
  (seqS (ifS (bF (op2 neF (op2 ixF (vF 2) (cF (.int 0))) (callF (r__law_least 12) (consA (vF 1) nilA)))) (retS (cF (.bool false))) nilS)
  (seqS (asgL (lstL nilA) 3)
  (seqS (forS (seqI (vF 2)) (nmG 4) (dropS (appS 3 (lcF (seqI (vF 2)) [5] (nmG 5) yesT (op2 idxF (vF 2) (callF (r__law_join' 12) (consA (vF 1) (consA (vF 4) (consA (vF 5) nilA)))))))))
  (seqS (asgS (callF r__law_parts (consA (frzF 3) nilA)) (nmG 6))
  (seqS (forS (enumI (vF 2)) (tpG 2 (consGs (nmG 7) (consGs (nmG 8) nilGs))) (ifS (bF (op2 neF (callF reprF (consA (callF r_is_part' (consA (vF 1) (consA (vF 8) nilA))) nilA)) (callF reprF (consA (op2 inF (vF 7) (vF 6)) nilA)))) (retS (cF (.bool false))) nilS))
  (seqS (ifS (bF (callF r__law_all_differ (consA (frzF 3) nilA))) (retS (op2 eqF (callF r_grade' (consA (vF 1) nilA)) (cF (.str "differences")))) nilS)
  (retS (op2 eqF (callKF r_grade' 1 [0] (consA (vF 1) nilA)) (ifE (bF (callF r__law_all_single (consA (frzF 3) (consA (vF 6) nilA)))) (cF (.str "lists")) (cF (.str "neither")))))))))))))
theorem pg_g__law_right : g__law_right = g__law_right' := by
  unfold g__law_right g__law_right'
  simp only [pr_r__law_states, pr_r__law_join, pr_r_is_part, pr_r_grade]
end Ev
namespace Ev
open PySem PySem.Spec PyProof.Rows L2 Tb
/-- the law behind its draw -/
noncomputable def rest46 : GS := (seqS (asgS (callF (r__law_states' 12) (consA (vF 1) nilA)) (nmG 2))
  (seqS (ifS (bF (op2 neF (op2 ixF (vF 2) (cF (.int 0))) (callF (r__law_least 12) (consA (vF 1) nilA)))) (retS (cF (.bool false))) nilS)
  (seqS (asgL (lstL nilA) 3)
  (seqS (forS (seqI (vF 2)) (nmG 4) (dropS (appS 3 (lcF (seqI (vF 2)) [5] (nmG 5) yesT (op2 idxF (vF 2) (callF (r__law_join' 12) (consA (vF 1) (consA (vF 4) (consA (vF 5) nilA)))))))))
  (seqS (asgS (callF r__law_parts (consA (frzF 3) nilA)) (nmG 6))
  (seqS (forS (enumI (vF 2)) (tpG 2 (consGs (nmG 7) (consGs (nmG 8) nilGs))) (ifS (bF (op2 neF (callF reprF (consA (callF r_is_part' (consA (vF 1) (consA (vF 8) nilA))) nilA)) (callF reprF (consA (op2 inF (vF 7) (vF 6)) nilA)))) (retS (cF (.bool false))) nilS))
  (seqS (ifS (bF (callF r__law_all_differ (consA (frzF 3) nilA))) (retS (op2 eqF (callF r_grade' (consA (vF 1) nilA)) (cF (.str "differences")))) nilS)
  (retS (op2 eqF (callKF r_grade' 1 [0] (consA (vF 1) nilA)) (ifE (bF (callF r__law_all_single (consA (frzF 3) (consA (vF 6) nilA)))) (cF (.str "lists")) (cF (.str "neither"))))))))))))
theorem rest46_eq : g__law_right = seqS (asgS (callBF r__law_small 0 nilA) (nmG 1)) rest46 := pg_g__law_right
/-- what a body leaves -/
noncomputable def out46 (p : Option (Out × Lo)) : Option (PyData × List PyData) := p.bind fun (p : Out × Lo) => match (p.2[0]? : Option (Option L)) with
  | some (some (.own (.lst zs))) => match p.1 with
    | .nx => some (.none, zs)
    | .rt x => some (x, zs)
    | _ => none
  | _ => none
noncomputable def ok46 (k : PyData) : Prop := ∀ ys : List PyData, out46 (rest46 [some (.lst ys), some (.dat k), none, none, none, none, none, none, none]) = some (.bool true, ys)
def k46_0 : PyData := .tuple [.str "table", .list [.list [.int 0, .int 1, .int 2, .int 3, .int 4, .int 5, .int 6], .list [.int 1, .int 1, .int 4, .int 6, .int 4, .int 6, .int 6], .list [.int 2, .int 4, .int 2, .int 5, .int 4, .int 5, .int 6], .list [.int 3, .int 6, .int 5, .int 3, .int 6, .int 5, .int 6], .list [.int 4, .int 4, .int 4, .int 6, .int 4, .int 6, .int 6], .list [.int 5, .int 6, .int 5, .int 5, .int 6, .int 5, .int 6], .list [.int 6, .int 6, .int 6, .int 6, .int 6, .int 6, .int 6]]]
def k46_1 : PyData := .tuple [.str "later", .tuple [.str "row", .int 2], .tuple [.str "table", .list [.list [.int 0, .int 1, .int 2, .int 3], .list [.int 1, .int 1, .int 3, .int 3], .list [.int 2, .int 3, .int 2, .int 3], .list [.int 3, .int 3, .int 3, .int 3]]]]
def k46_2 : PyData := .tuple [.str "later", .tuple [.str "row", .int 2], .tuple [.str "table", .list [.list [.int 0, .int 1, .int 2, .int 3, .int 4], .list [.int 1, .int 1, .int 4, .int 4, .int 4], .list [.int 2, .int 4, .int 2, .int 4, .int 4], .list [.int 3, .int 4, .int 4, .int 3, .int 4], .list [.int 4, .int 4, .int 4, .int 4, .int 4]]]]
def k46_3 : PyData := .tuple [.str "later", .tuple [.str "row", .int 2], .tuple [.str "table", .list [.list [.int 0, .int 1, .int 2, .int 3, .int 4], .list [.int 1, .int 1, .int 4, .int 3, .int 4], .list [.int 2, .int 4, .int 2, .int 4, .int 4], .list [.int 3, .int 3, .int 4, .int 3, .int 4], .list [.int 4, .int 4, .int 4, .int 4, .int 4]]]]
def k46_4 : PyData := .tuple [.str "later", .tuple [.str "row", .int 2], .tuple [.str "tops", .int 2, .list []]]
def k46_5 : PyData := .tuple [.str "later", .tuple [.str "row", .int 2], .tuple [.str "row", .int 3]]
def k46_6 : PyData := .tuple [.str "later", .tuple [.str "row", .int 2], .tuple [.str "tops", .int 3, .list [.tuple [.int 0, .int 1]]]]
def k46_7 : PyData := .tuple [.str "later", .tuple [.str "row", .int 2], .tuple [.str "pair", .tuple [.str "row", .int 2], .tuple [.str "row", .int 2]]]
def k46_8 : PyData := .tuple [.str "later", .tuple [.str "table", .list [.list [.int 0, .int 1, .int 2, .int 3], .list [.int 1, .int 1, .int 3, .int 3], .list [.int 2, .int 3, .int 2, .int 3], .list [.int 3, .int 3, .int 3, .int 3]]], .tuple [.str "row", .int 2]]
def k46_9 : PyData := .tuple [.str "later", .tuple [.str "table", .list [.list [.int 0, .int 1, .int 2, .int 3, .int 4], .list [.int 1, .int 1, .int 4, .int 4, .int 4], .list [.int 2, .int 4, .int 2, .int 4, .int 4], .list [.int 3, .int 4, .int 4, .int 3, .int 4], .list [.int 4, .int 4, .int 4, .int 4, .int 4]]], .tuple [.str "row", .int 2]]
def k46_10 : PyData := .tuple [.str "later", .tuple [.str "table", .list [.list [.int 0, .int 1, .int 2, .int 3, .int 4], .list [.int 1, .int 1, .int 4, .int 3, .int 4], .list [.int 2, .int 4, .int 2, .int 4, .int 4], .list [.int 3, .int 3, .int 4, .int 3, .int 4], .list [.int 4, .int 4, .int 4, .int 4, .int 4]]], .tuple [.str "row", .int 2]]
def k46_11 : PyData := .tuple [.str "later", .tuple [.str "tops", .int 2, .list []], .tuple [.str "row", .int 2]]
def k46_12 : PyData := .tuple [.str "later", .tuple [.str "row", .int 3], .tuple [.str "row", .int 2]]
def k46_13 : PyData := .tuple [.str "later", .tuple [.str "tops", .int 3, .list [.tuple [.int 0, .int 1]]], .tuple [.str "row", .int 2]]
def k46_14 : PyData := .tuple [.str "later", .tuple [.str "pair", .tuple [.str "row", .int 2], .tuple [.str "row", .int 2]], .tuple [.str "row", .int 2]]
def k46_15 : PyData := .tuple [.str "later", .tuple [.str "table", .list [.list [.int 0, .int 1, .int 2, .int 3], .list [.int 1, .int 1, .int 3, .int 3], .list [.int 2, .int 3, .int 2, .int 3], .list [.int 3, .int 3, .int 3, .int 3]]], .tuple [.str "row", .int 1]]
def k46_16 : PyData := .tuple [.str "later", .tuple [.str "table", .list [.list [.int 0, .int 1, .int 2, .int 3, .int 4], .list [.int 1, .int 1, .int 4, .int 4, .int 4], .list [.int 2, .int 4, .int 2, .int 4, .int 4], .list [.int 3, .int 4, .int 4, .int 3, .int 4], .list [.int 4, .int 4, .int 4, .int 4, .int 4]]], .tuple [.str "row", .int 1]]
def k46_17 : PyData := .tuple [.str "later", .tuple [.str "table", .list [.list [.int 0, .int 1, .int 2, .int 3, .int 4], .list [.int 1, .int 1, .int 4, .int 3, .int 4], .list [.int 2, .int 4, .int 2, .int 4, .int 4], .list [.int 3, .int 3, .int 4, .int 3, .int 4], .list [.int 4, .int 4, .int 4, .int 4, .int 4]]], .tuple [.str "row", .int 1]]
def k46_18 : PyData := .tuple [.str "later", .tuple [.str "tops", .int 2, .list []], .tuple [.str "row", .int 1]]
def k46_19 : PyData := .tuple [.str "later", .tuple [.str "row", .int 3], .tuple [.str "row", .int 1]]
def k46_20 : PyData := .tuple [.str "later", .tuple [.str "tops", .int 3, .list [.tuple [.int 0, .int 1]]], .tuple [.str "row", .int 1]]
def k46_21 : PyData := .tuple [.str "later", .tuple [.str "pair", .tuple [.str "row", .int 2], .tuple [.str "row", .int 2]], .tuple [.str "row", .int 1]]
def k46_22 : PyData := .tuple [.str "above", .tuple [.str "table", .list [.list [.int 0, .int 1, .int 2, .int 3], .list [.int 1, .int 1, .int 3, .int 3], .list [.int 2, .int 3, .int 2, .int 3], .list [.int 3, .int 3, .int 3, .int 3]]], .tuple [.str "tops", .int 2, .list []]]
def k46_23 : PyData := .tuple [.str "above", .tuple [.str "table", .list [.list [.int 0, .int 1, .int 2, .int 3, .int 4], .list [.int 1, .int 1, .int 4, .int 4, .int 4], .list [.int 2, .int 4, .int 2, .int 4, .int 4], .list [.int 3, .int 4, .int 4, .int 3, .int 4], .list [.int 4, .int 4, .int 4, .int 4, .int 4]]], .tuple [.str "tops", .int 2, .list []]]
def k46_24 : PyData := .tuple [.str "above", .tuple [.str "table", .list [.list [.int 0, .int 1, .int 2, .int 3, .int 4], .list [.int 1, .int 1, .int 4, .int 3, .int 4], .list [.int 2, .int 4, .int 2, .int 4, .int 4], .list [.int 3, .int 3, .int 4, .int 3, .int 4], .list [.int 4, .int 4, .int 4, .int 4, .int 4]]], .tuple [.str "tops", .int 2, .list []]]
def k46_25 : PyData := .tuple [.str "above", .tuple [.str "tops", .int 2, .list []], .tuple [.str "tops", .int 2, .list []]]
def k46_26 : PyData := .tuple [.str "above", .tuple [.str "row", .int 3], .tuple [.str "tops", .int 2, .list []]]
def k46_27 : PyData := .tuple [.str "above", .tuple [.str "tops", .int 3, .list [.tuple [.int 0, .int 1]]], .tuple [.str "tops", .int 2, .list []]]
def k46_28 : PyData := .tuple [.str "above", .tuple [.str "pair", .tuple [.str "row", .int 2], .tuple [.str "row", .int 2]], .tuple [.str "tops", .int 2, .list []]]
def k46_29 : PyData := .tuple [.str "pair", .tuple [.str "row", .int 2], .tuple [.str "table", .list [.list [.int 0, .int 1, .int 2, .int 3], .list [.int 1, .int 1, .int 3, .int 3], .list [.int 2, .int 3, .int 2, .int 3], .list [.int 3, .int 3, .int 3, .int 3]]]]
def k46_30 : PyData := .tuple [.str "pair", .tuple [.str "row", .int 2], .tuple [.str "table", .list [.list [.int 0, .int 1, .int 2, .int 3, .int 4], .list [.int 1, .int 1, .int 4, .int 4, .int 4], .list [.int 2, .int 4, .int 2, .int 4, .int 4], .list [.int 3, .int 4, .int 4, .int 3, .int 4], .list [.int 4, .int 4, .int 4, .int 4, .int 4]]]]
def k46_31 : PyData := .tuple [.str "pair", .tuple [.str "row", .int 2], .tuple [.str "table", .list [.list [.int 0, .int 1, .int 2, .int 3, .int 4], .list [.int 1, .int 1, .int 4, .int 3, .int 4], .list [.int 2, .int 4, .int 2, .int 4, .int 4], .list [.int 3, .int 3, .int 4, .int 3, .int 4], .list [.int 4, .int 4, .int 4, .int 4, .int 4]]]]
def k46_32 : PyData := .tuple [.str "pair", .tuple [.str "row", .int 2], .tuple [.str "tops", .int 2, .list []]]
def k46_33 : PyData := .tuple [.str "pair", .tuple [.str "row", .int 2], .tuple [.str "row", .int 3]]
def k46_34 : PyData := .tuple [.str "pair", .tuple [.str "row", .int 2], .tuple [.str "tops", .int 3, .list [.tuple [.int 0, .int 1]]]]
def k46_35 : PyData := .tuple [.str "pair", .tuple [.str "row", .int 2], .tuple [.str "pair", .tuple [.str "row", .int 2], .tuple [.str "row", .int 2]]]
theorem t46_0 : ok46 k46_0 := by
  intro ys
  kernel_rfl
theorem t46_1 : ok46 k46_1 := by
  intro ys
  kernel_rfl
theorem t46_2 : ok46 k46_2 := by
  intro ys
  kernel_rfl
theorem t46_3 : ok46 k46_3 := by
  intro ys
  kernel_rfl
theorem t46_4 : ok46 k46_4 := by
  intro ys
  kernel_rfl
theorem t46_5 : ok46 k46_5 := by
  intro ys
  kernel_rfl
theorem t46_6 : ok46 k46_6 := by
  intro ys
  kernel_rfl
theorem t46_7 : ok46 k46_7 := by
  intro ys
  kernel_rfl
theorem t46_8 : ok46 k46_8 := by
  intro ys
  kernel_rfl
theorem t46_9 : ok46 k46_9 := by
  intro ys
  kernel_rfl
theorem t46_10 : ok46 k46_10 := by
  intro ys
  kernel_rfl
theorem t46_11 : ok46 k46_11 := by
  intro ys
  kernel_rfl
theorem t46_12 : ok46 k46_12 := by
  intro ys
  kernel_rfl
theorem t46_13 : ok46 k46_13 := by
  intro ys
  kernel_rfl
theorem t46_14 : ok46 k46_14 := by
  intro ys
  kernel_rfl
theorem t46_15 : ok46 k46_15 := by
  intro ys
  kernel_rfl
theorem t46_16 : ok46 k46_16 := by
  intro ys
  kernel_rfl
theorem t46_17 : ok46 k46_17 := by
  intro ys
  kernel_rfl
theorem t46_18 : ok46 k46_18 := by
  intro ys
  kernel_rfl
theorem t46_19 : ok46 k46_19 := by
  intro ys
  kernel_rfl
theorem t46_20 : ok46 k46_20 := by
  intro ys
  kernel_rfl
theorem t46_21 : ok46 k46_21 := by
  intro ys
  kernel_rfl
theorem t46_22 : ok46 k46_22 := by
  intro ys
  kernel_rfl
theorem t46_23 : ok46 k46_23 := by
  intro ys
  kernel_rfl
theorem t46_24 : ok46 k46_24 := by
  intro ys
  kernel_rfl
theorem t46_25 : ok46 k46_25 := by
  intro ys
  kernel_rfl
theorem t46_26 : ok46 k46_26 := by
  intro ys
  kernel_rfl
theorem t46_27 : ok46 k46_27 := by
  intro ys
  kernel_rfl
theorem t46_28 : ok46 k46_28 := by
  intro ys
  kernel_rfl
theorem t46_29 : ok46 k46_29 := by
  intro ys
  kernel_rfl
theorem t46_30 : ok46 k46_30 := by
  intro ys
  kernel_rfl
theorem t46_31 : ok46 k46_31 := by
  intro ys
  kernel_rfl
theorem t46_32 : ok46 k46_32 := by
  intro ys
  kernel_rfl
theorem t46_33 : ok46 k46_33 := by
  intro ys
  kernel_rfl
theorem t46_34 : ok46 k46_34 := by
  intro ys
  kernel_rfl
theorem t46_35 : ok46 k46_35 := by
  intro ys
  kernel_rfl
end Ev
namespace Ev
open PySem PySem.Spec PyProof.Rows L2 Tb
theorem wipeL_set {v : Nat} {o : Option L} : ∀ {vs : List Nat} {lo : Lo}, v ∈ vs → wipeL (lo.set v o) vs = wipeL lo vs
  | [], _, h => by simp at h
  | w :: vs, lo, h => by
    unfold wipeL
    by_cases hm : v ∈ vs
    · rw [wipeL_set hm]
    · have e : v = w := by
        rcases List.mem_cons.mp h with z | z
        · exact z
        · exact absurd z hm
      subst e
      have : ∀ ws : List Nat, v ∉ ws → wipeL (lo.set v o) ws = (wipeL lo ws).set v o := by
        intro ws
        induction ws with
        | nil => intro _; rfl
        | cons u r ih =>
          intro hw
          have h1 : u ≠ v := fun e => hw (by rw [e]; exact List.mem_cons_self)
          have h2 : v ∉ r := fun m => hw (List.mem_cons_of_mem _ m)
          unfold wipeL
          rw [ih h2, List.set_comm _ _ (Ne.symm h1)]
      rw [this vs hm, List.set_set]
theorem wipeL_idem (vs : List Nat) (lo : Lo) : ∀ ws : List Nat, (∀ v ∈ ws, v ∈ vs) → wipeL (wipeL lo ws) vs = wipeL lo vs
  | [], _ => rfl
  | w :: ws, h => by
    rw [wipeL, wipeL_set (h w List.mem_cons_self)]
    exact wipeL_idem vs lo ws fun v hv => h v (List.mem_cons_of_mem _ hv)
theorem set_getD {lo : Lo} {v : Nat} {o : Option L} : (lo.set v o).set v (lo.getD v none) = lo := by
  rw [List.set_set]
  apply List.ext_getElem?
  intro i
  by_cases h : v = i
  · subst h
    rw [List.getElem?_set_self']
    cases q : lo[v]? with
    | none => rfl
    | some u => simp [List.getD_eq_getElem?_getD, q]
  · rw [List.getElem?_set_ne h]
theorem rst_any {lo : Lo} : ∀ {vs : List Nat} {l2 : Lo}, (∀ i, i ∉ vs → l2[i]? = lo[i]?) → l2.length = lo.length → rstL lo l2 vs = lo
  | [], l2, h, _ => List.ext_getElem? fun i => h i (by simp)
  | v :: vs, l2, h, hl => by
    have aux : ∀ {ws : List Nat} {l3 : Lo} {i : Nat}, i ∉ ws → (rstL lo l3 ws)[i]? = l3[i]? := by
      intro ws
      induction ws with
      | nil => intro l3 i _; rfl
      | cons w r ih =>
        intro l3 i hi
        unfold rstL
        rw [List.getElem?_set_ne fun e => hi (by rw [e]; exact List.mem_cons_self)]
        exact ih fun m => hi (List.mem_cons_of_mem _ m)
    have inn : ∀ {ws : List Nat} {l3 : Lo} {i : Nat}, i ∈ ws → l3.length = lo.length → (rstL lo l3 ws)[i]? = lo[i]? := by
      intro ws
      induction ws with
      | nil => intro l3 i hi; simp at hi
      | cons w r ih =>
        intro l3 i hi hl
        unfold rstL
        by_cases e : w = i
        · subst e
          rw [List.getElem?_set_self']
          have hlen : (rstL lo l3 r).length = lo.length := by rw [rstL_len, hl]
          by_cases hw : w < lo.length
          · rw [List.getElem?_eq_getElem (by rw [hlen]; exact hw), List.getElem?_eq_getElem hw, List.getD_eq_getElem?_getD, List.getElem?_eq_getElem hw]; rfl
          · rw [List.getElem?_eq_none (by rw [hlen]; omega), List.getElem?_eq_none (by omega)]; rfl
        · rw [List.getElem?_set_ne e]
          exact ih ((List.mem_cons.mp hi).resolve_left fun z => e z.symm) hl
    refine List.ext_getElem? fun i => ?_
    by_cases hi : i ∈ v :: vs
    · exact inn hi hl
    · rw [aux hi]; exact h i hi
theorem wipeL_len' (lo : Lo) : ∀ vs : List Nat, (wipeL lo vs).length = lo.length
  | [] => rfl
  | v :: vs => by rw [wipeL, List.length_set, wipeL_len' lo vs]
theorem wipeL_out {lo : Lo} {i : Nat} : ∀ {vs : List Nat}, i ∉ vs → (wipeL lo vs)[i]? = lo[i]?
  | [], _ => rfl
  | v :: vs, h => by
    rw [wipeL, List.getElem?_set_ne fun e => h (by rw [e]; exact List.mem_cons_self)]
    exact wipeL_out fun m => h (List.mem_cons_of_mem _ m)
theorem rst_wipe (lo : Lo) (vs : List Nat) : rstL lo (wipeL lo vs) vs = lo := rst_any (fun i h => wipeL_out h) (wipeL_len' lo vs)
end Ev
namespace Ev
open PySem PySem.Spec PyProof.Rows L2 Tb
class PuE (g : GE) : Prop where
  pu : ∀ {lo p}, g lo = some p → p.2 = lo
class PuT (g : GT) : Prop where
  pu : ∀ {lo p}, g lo = some p → p.2 = lo
class PuA (g : GA) : Prop where
  pu : ∀ {lo p}, g lo = some p → p.2 = lo
class PuO (g : GO) : Prop where
  pu : ∀ {lo p}, g lo = some p → p.2 = lo
theorem bind_pu {α β : Type} {o : Option α} {f : α → Option β} {y : β} (h : o.bind f = some y) : ∃ x, o = some x ∧ f x = some y := Option.bind_eq_some_iff.mp h
section
variable {ga gb gc g k : GE} {t u : GT} {ka kb : GA} {ol oh : GO}
instance (i : Nat) : PuE (vF i) := ⟨fun {lo p} h => by
  unfold vF at h
  split at h
  · cases h; rfl
  · cases h⟩
instance (x : PyData) : PuE (cF x) := ⟨fun h => by cases h; rfl⟩
instance {f : PyData → PyData → Option PyData} [PuE ga] [PuE gb] : PuE (op2 f ga gb) := ⟨fun h => by
  obtain ⟨p, e1, h⟩ := bind_pu h
  obtain ⟨q, e2, h⟩ := bind_pu h
  obtain ⟨z, e3, h⟩ := bind_pu h
  cases h
  exact (PuE.pu e2).trans (PuE.pu e1)⟩
instance {f : PyData → PyData → Option PyData} {i : Nat} [PuE gb] : PuE (op2L f i gb) := ⟨fun h => by
  obtain ⟨p, e1, h⟩ := bind_pu h
  obtain ⟨q, e2, h⟩ := bind_pu h
  obtain ⟨z, e3, h⟩ := bind_pu h
  obtain ⟨z, e4, h⟩ := bind_pu h
  cases h
  (have w := PuE.pu e2; exact w)⟩
instance {f : PyData → PyData → Option PyData} {i : Nat} [PuE ga] : PuE (op2R f ga i) := ⟨fun h => by
  obtain ⟨p, e1, h⟩ := bind_pu h
  obtain ⟨q, e2, h⟩ := bind_pu h
  obtain ⟨z, e3, h⟩ := bind_pu h
  cases h
  (have w := PuE.pu e1; exact w)⟩
instance {f : PyData → Option PyData} [PuE ga] : PuE (un1 f ga) := ⟨fun h => by
  obtain ⟨p, e1, h⟩ := bind_pu h
  obtain ⟨q, e2, h⟩ := bind_pu h
  cases h
  (have w := PuE.pu e1; exact w)⟩
instance [PuE g] : PuT (bF g) := ⟨fun h => by
  obtain ⟨p, e1, h⟩ := bind_pu h
  split at h
  · cases h; (have w := PuE.pu e1; exact w)
  · cases h⟩
instance [PuE g] : PuT (truT g) := ⟨fun h => by
  obtain ⟨p, e1, h⟩ := bind_pu h
  obtain ⟨b, e2, h⟩ := bind_pu h
  cases h; (have w := PuE.pu e1; exact w)⟩
instance [PuT t] : PuT (notT t) := ⟨fun h => by
  obtain ⟨p, e1, h⟩ := bind_pu h
  cases h; (have w := PuT.pu e1; exact w)⟩
instance [PuT t] [PuT u] : PuT (andT t u) := ⟨fun h => by
  obtain ⟨p, e1, h⟩ := bind_pu h
  split at h
  · exact (PuT.pu h).trans (PuT.pu e1)
  · cases h; (have w := PuT.pu e1; exact w)⟩
instance [PuT t] [PuT u] : PuT (orT t u) := ⟨fun h => by
  obtain ⟨p, e1, h⟩ := bind_pu h
  split at h
  · cases h; (have w := PuT.pu e1; exact w)
  · exact (PuT.pu h).trans (PuT.pu e1)⟩
instance : PuT yesT := ⟨fun h => by cases h; rfl⟩
instance [PuT t] : PuE (tstE t) := ⟨fun h => by
  obtain ⟨p, e1, h⟩ := bind_pu h
  cases h; (have w := PuT.pu e1; exact w)⟩
instance [PuE g] : PuE (notE g) := inferInstanceAs (PuE (tstE (notT (bF g))))
instance [PuE g] [PuE k] : PuE (andE g k) := ⟨fun h => by
  obtain ⟨p, e1, h⟩ := bind_pu h
  split at h
  · exact (PuE.pu h).trans (PuT.pu e1)
  · cases h; (have w := PuT.pu e1; exact w)⟩
instance [PuE g] [PuE k] : PuE (orE g k) := ⟨fun h => by
  obtain ⟨p, e1, h⟩ := bind_pu h
  split at h
  · cases h; (have w := PuT.pu e1; exact w)
  · exact (PuE.pu h).trans (PuT.pu e1)⟩
instance [PuT t] [PuE g] [PuE k] : PuE (ifE t g k) := ⟨fun h => by
  obtain ⟨p, e1, h⟩ := bind_pu h
  split at h
  · exact (PuE.pu h).trans (PuT.pu e1)
  · exact (PuE.pu h).trans (PuT.pu e1)⟩
instance : PuA nilA := ⟨fun h => by cases h; rfl⟩
instance [PuE g] [PuA ka] : PuA (consA g ka) := ⟨fun h => by
  obtain ⟨p, e1, h⟩ := bind_pu h
  obtain ⟨q, e2, h⟩ := bind_pu h
  cases h; exact (PuA.pu e2).trans (PuE.pu e1)⟩
instance [PuA ka] : PuE (tupF ka) := ⟨fun h => by
  obtain ⟨p, e1, h⟩ := bind_pu h
  split at h
  · cases h; (have w := PuA.pu e1; exact w)
  · cases h⟩
instance [PuA ka] : PuE (lstF ka) := ⟨fun h => by
  obtain ⟨p, e1, h⟩ := bind_pu h
  split at h
  · cases h; (have w := PuA.pu e1; exact w)
  · cases h⟩
instance {f : List PyData → Option PyData} [PuA ka] : PuE (callF f ka) := ⟨fun h => by
  obtain ⟨p, e1, h⟩ := bind_pu h
  obtain ⟨z, e2, h⟩ := bind_pu h
  cases h; (have w := PuA.pu e1; exact w)⟩
instance {f : List PyData → Option PyData} {n : Nat} {ix : List Nat} [PuA ka] : PuE (callKF f n ix ka) := ⟨fun h => by
  obtain ⟨p, e1, h⟩ := bind_pu h
  split at h
  · obtain ⟨z, e2, h⟩ := bind_pu h
    cases h; (have w := PuA.pu e1; exact w)
  · cases h⟩
instance {f : List PyData → Option PyData} {i : Nat} : PuE (callN f i) := ⟨fun h => by
  obtain ⟨p, e1, h⟩ := bind_pu h
  obtain ⟨z, e2, h⟩ := bind_pu h
  cases h; rfl⟩
instance {f f' : PyData → PyData → Option PyData} [PuE ga] [PuE gb] [PuE gc] : PuE (chF f f' ga gb gc) := ⟨fun h => by
  obtain ⟨p, e1, h⟩ := bind_pu h
  obtain ⟨q, e2, h⟩ := bind_pu h
  obtain ⟨z, e3, h⟩ := bind_pu h
  split at h
  · obtain ⟨u, e4, h⟩ := bind_pu h
    obtain ⟨y, e5, h⟩ := bind_pu h
    cases h
    exact (PuE.pu e4).trans ((PuE.pu e2).trans (PuE.pu e1))
  · cases h
    exact (PuE.pu e2).trans (PuE.pu e1)
  · cases h⟩
instance : PuO noO := ⟨fun h => by cases h; rfl⟩
instance [PuE g] : PuO (soO g) := ⟨fun h => by
  obtain ⟨p, e1, h⟩ := bind_pu h
  split at h
  · cases h; (have w := PuE.pu e1; exact w)
  · cases h⟩
instance [PuE g] [PuO ol] [PuO oh] : PuE (slF g ol oh) := ⟨fun h => by
  obtain ⟨p, e1, h⟩ := bind_pu h
  obtain ⟨l, e2, h⟩ := bind_pu h
  obtain ⟨u, e3, h⟩ := bind_pu h
  obtain ⟨z, e4, h⟩ := bind_pu h
  cases h
  exact (PuO.pu e3).trans ((PuO.pu e2).trans (PuE.pu e1))⟩
instance {i : Nat} [PuO ol] [PuO oh] : PuE (slNF i ol oh) := ⟨fun h => by
  obtain ⟨p, e1, h⟩ := bind_pu h
  obtain ⟨l, e2, h⟩ := bind_pu h
  obtain ⟨u, e3, h⟩ := bind_pu h
  obtain ⟨z, e4, h⟩ := bind_pu h
  cases h
  exact (PuO.pu e3).trans (PuO.pu e2)⟩
instance [PuE g] : PuA (seqI g) := ⟨fun h => by
  obtain ⟨p, e1, h⟩ := bind_pu h
  split at h
  · cases h; (have w := PuE.pu e1; exact w)
  · cases h; (have w := PuE.pu e1; exact w)
  · cases h; (have w := PuE.pu e1; exact w)
  · cases h⟩
instance [PuA ka] : PuA (rg1I ka) := ⟨fun h => by
  obtain ⟨p, e1, h⟩ := bind_pu h
  split at h
  · split at h
    · cases h; (have w := PuA.pu e1; exact w)
    · cases h
  · cases h⟩
instance [PuA ka] : PuA (rg2I ka) := ⟨fun h => by
  obtain ⟨p, e1, h⟩ := bind_pu h
  split at h
  · split at h
    · cases h; (have w := PuA.pu e1; exact w)
    · cases h
  · cases h⟩
instance [PuE g] : PuA (enumI g) := ⟨fun h => by
  obtain ⟨p, e1, h⟩ := bind_pu h
  split at h
  · cases h; (have w := PuE.pu e1; exact w)
  · cases h⟩
instance [PuA ka] : PuA (zipI ka) := ⟨fun h => by
  obtain ⟨p, e1, h⟩ := bind_pu h
  split at h
  · cases h; (have w := PuA.pu e1; exact w)
  · cases h; (have w := PuA.pu e1; exact w)
  · cases h⟩
instance {i : Nat} : PuA (rngI i) := ⟨fun {lo p} h => by
  unfold rngI at h
  split at h
  · split at h
    · cases h; rfl
    · cases h
  · cases h⟩
instance {i : Nat} [PuE g] : PuE (dixF i g) := ⟨fun h => by
  obtain ⟨p, e1, h⟩ := bind_pu h
  obtain ⟨l, e2, h⟩ := bind_pu h
  obtain ⟨u, e3, h⟩ := bind_pu h
  obtain ⟨z, e4, h⟩ := bind_pu h
  obtain ⟨z', e5, h⟩ := bind_pu h
  cases h
  (have w := PuE.pu e2; exact w)⟩
instance {b : Bool} {i : Nat} [PuE g] : PuE (dinF b i g) := ⟨fun h => by
  obtain ⟨p, e1, h⟩ := bind_pu h
  obtain ⟨l, e2, h⟩ := bind_pu h
  obtain ⟨u, e3, h⟩ := bind_pu h
  cases h
  (have w := PuE.pu e1; exact w)⟩
instance {i : Nat} [PuE g] : PuE (dget1F i g) := ⟨fun h => by
  obtain ⟨p, e1, h⟩ := bind_pu h
  obtain ⟨l, e2, h⟩ := bind_pu h
  obtain ⟨u, e3, h⟩ := bind_pu h
  obtain ⟨z, e4, h⟩ := bind_pu h
  cases h
  (have w := PuE.pu e2; exact w)⟩
instance {i : Nat} [PuE g] [PuE k] : PuE (dget2F i g k) := ⟨fun h => by
  obtain ⟨p, e1, h⟩ := bind_pu h
  obtain ⟨l, e2, h⟩ := bind_pu h
  obtain ⟨u, e3, h⟩ := bind_pu h
  obtain ⟨z, e4, h⟩ := bind_pu h
  obtain ⟨z', e5, h⟩ := bind_pu h
  cases h
  exact (PuE.pu e3).trans (PuE.pu e2)⟩
instance [PuE g] : PuE (minLenF g) := ⟨fun h => by
  obtain ⟨p, e1, h⟩ := bind_pu h
  split at h
  · obtain ⟨l, e2, h⟩ := bind_pu h
    obtain ⟨u, e3, h⟩ := bind_pu h
    cases h
    (have w := PuE.pu e1; exact w)
  · cases h⟩
instance [PuE g] : PuE (listRgF g) := ⟨fun h => by
  obtain ⟨p, e1, h⟩ := bind_pu h
  split at h
  · split at h
    · cases h; (have w := PuE.pu e1; exact w)
    · cases h
  · cases h⟩
end
/-- what a target changes: its own names -/
class PuG (vs : List Nat) (gg : GG) : Prop where
  pu : ∀ {x lo l}, gg x lo = some l → wipeL l vs = wipeL lo vs
instance {i : Nat} : PuG [i] (nmG i) := ⟨fun h => by cases h; exact wipeL_set List.mem_cons_self⟩
class PuGs (vs : List Nat) (gg : List PyData → Lo → Option Lo) : Prop where
  pu : ∀ {x lo l}, gg x lo = some l → wipeL l vs = wipeL lo vs
instance {vs : List Nat} : PuGs vs nilGs := ⟨fun {x lo l} h => by
  unfold nilGs at h
  split at h
  · cases h; rfl
  · cases h⟩
/-- a name among those of the block -/
class InL (i : Nat) (vs : List Nat) : Prop where
  mem : i ∈ vs
instance {i : Nat} {vs : List Nat} : InL i (i :: vs) := ⟨List.mem_cons_self⟩
instance {i j : Nat} {vs : List Nat} [h : InL i vs] : InL i (j :: vs) := ⟨List.mem_cons_of_mem _ h.mem⟩
instance {i : Nat} {vs : List Nat} {k : List PyData → Lo → Option Lo} [m : InL i vs] [PuGs vs k] : PuGs vs (consGs (nmG i) k) := ⟨fun {x lo l} h => by
  unfold consGs at h
  split at h
  · obtain ⟨l1, e1, h⟩ := bind_pu h
    cases e1
    exact (PuGs.pu h).trans (wipeL_set m.mem)
  · cases h⟩
theorem tpG_pu {n : Nat} {vs : List Nat} {k : List PyData → Lo → Option Lo} [PuGs vs k] {x : PyData} {lo l : Lo} (e1 : tpG n k x lo = some l) : wipeL l vs = wipeL lo vs := by
  unfold tpG at e1
  split at e1
  all_goals first
    | (split at e1
       · first
           | cases e1; done
           | exact PuGs.pu e1
       · first
           | cases e1; done
           | exact PuGs.pu e1)
    | (cases e1; done)
    | exact PuGs.pu e1
instance {n : Nat} {vs : List Nat} {k r : List PyData → Lo → Option Lo} [PuGs vs k] [PuGs vs r] : PuGs vs (consGs (tpG n k) r) := ⟨fun {x lo l} h => by
  unfold consGs at h
  split at h
  · obtain ⟨l1, e1, h⟩ := bind_pu h
    exact (PuGs.pu h).trans (tpG_pu e1)
  · cases h⟩
instance {n : Nat} {vs : List Nat} {k : List PyData → Lo → Option Lo} [PuGs vs k] : PuG vs (tpG n k) := ⟨fun e1 => tpG_pu e1⟩
def lcP (c : PyData → Option Bool) (v : PyData → Option PyData) : List PyData → Option (List PyData)
  | [] => some []
  | x :: r => (c x).bind fun b => if b = true then (v x).bind fun y => (lcP c v r).bind fun l => some (y :: l) else lcP c v r
def szL (o : Option (List PyData)) : Option (List PyData) := o.bind fun l => if l.length ≤ sizeLine then some l else none
theorem lcGo_p {vs : List Nat} {gg : GG} {t : GT} {g : GE} {lo : Lo} [PuG vs gg] [PuT t] [PuE g] (hw : wipeL lo vs = lo) : ∀ (xs acc : List PyData), acc.length ≤ sizeLine → (lcGo vs gg t g xs lo acc) =
    ((lcP (fun x => (gg x lo).bind fun l => (t l).bind fun p => some p.1) (fun x => (gg x lo).bind fun l => (g l).bind fun p => some p.1) xs).bind fun l => if acc.length + l.length ≤ sizeLine then some (acc ++ l, lo) else none)
  | [], acc, ha => by simp [lcGo, lcP, ha]
  | x :: r, acc, ha => by
    unfold lcGo lcP
    cases e1 : gg x lo with
    | none => rfl
    | some l1 =>
      rw [Option.bind_some, Option.bind_some]
      have w1 : wipeL l1 vs = lo := (PuG.pu e1).trans hw
      cases e2 : t l1 with
      | none => rfl
      | some p =>
        obtain ⟨b, l2⟩ := p
        have : l2 = l1 := PuT.pu e2
        subst this
        rw [Option.bind_some, Option.bind_some, Option.bind_some]
        cases b with
        | false =>
          rw [if_neg (by simp), if_neg (by simp), w1]
          exact lcGo_p hw r acc ha
        | true =>
          rw [if_pos rfl, if_pos rfl, Option.bind_some]
          cases e3 : g l2 with
          | none => rfl
          | some q =>
            obtain ⟨y, l3⟩ := q
            have : l3 = l2 := PuE.pu e3
            subst this
            rw [Option.bind_some, Option.bind_some, Option.bind_some, Option.bind_assoc]
            dsimp only
            rw [w1]
            by_cases hl : acc.length < sizeLine
            · rw [if_pos hl, lcGo_p hw r (acc ++ [y]) (by rw [List.length_append]; simp; omega)]
              congr 1
              funext l
              rw [Option.bind_some, List.length_append, List.length_cons, List.length_nil, List.length_cons, List.append_assoc, show acc.length + (0 + 1) + l.length = acc.length + (l.length + 1) by omega]
              rfl
            · rw [if_neg hl]
              cases lcP (fun x => (gg x lo).bind fun l => (t l).bind fun p => some p.1) (fun x => (gg x lo).bind fun l => (g l).bind fun p => some p.1) r with
              | none => rfl
              | some l =>
                rw [Option.bind_some, Option.bind_some, if_neg (by rw [List.length_cons]; omega)]
theorem wipeL_wipeL (lo : Lo) (vs : List Nat) : wipeL (wipeL lo vs) vs = wipeL lo vs := wipeL_idem vs lo vs fun _ h => h
theorem lcF_p {gi : GA} {vs : List Nat} {gg : GG} {t : GT} {g : GE} {lo : Lo} [PuG vs gg] [PuT t] [PuE g] : lcF gi vs gg t g lo = (gi lo).bind fun p => if noOwn p.2 vs = true then
    (szL (lcP (fun x => (gg x (wipeL p.2 vs)).bind fun l => (t l).bind fun p => some p.1) (fun x => (gg x (wipeL p.2 vs)).bind fun l => (g l).bind fun p => some p.1) p.1)).bind fun l => some (.list l, p.2) else none := by
  unfold lcF
  congr 1
  funext p
  split
  · rw [lcGo_p (wipeL_wipeL _ _) _ _ (Nat.zero_le _)]
    unfold szL
    rw [Option.bind_assoc, Option.bind_assoc]
    congr 1
    funext l
    rw [List.length_nil, Nat.zero_add, List.nil_append]
    split
    · rw [Option.bind_some, Option.bind_some, rst_wipe]
    · rfl
  · rfl
instance {ka : GA} {vs : List Nat} {gg : GG} {t : GT} {g : GE} [PuA ka] [PuG vs gg] [PuT t] [PuE g] : PuE (lcF ka vs gg t g) := ⟨fun h => by
  rw [lcF_p] at h
  obtain ⟨p, e1, h⟩ := bind_pu h
  split at h
  · obtain ⟨l, e2, h⟩ := bind_pu h
    cases h; (have w := PuA.pu e1; exact w)
  · cases h⟩
def allP (go : Bool) (f : PyData → Option Bool) : List PyData → Option Bool
  | [] => some go
  | x :: r => (f x).bind fun b => if b = go then allP go f r else some (!go)
theorem allGo_p {ix : Nat} {g : GE} {go : Bool} {lo : Lo} [PuE g] : ∀ (xs : List PyData) (l : Lo), (∃ o, l = lo.set ix o) → ∃ h : List PyData → Lo, (allGo [ix] (nmG ix) g go xs l = (allP go (fun x => (bF g (lo.set ix (some (.dat x)))).bind fun p => some p.1) xs).bind fun b => some (b, h xs)) ∧ ∃ o, h xs = lo.set ix o
  | [], l, ⟨o, e⟩ => ⟨fun _ => l, rfl, o, e⟩
  | x :: r, l, ⟨o, e⟩ => by
    subst e
    unfold allGo allP
    rw [show nmG ix x (lo.set ix o) = some (lo.set ix (some (.dat x))) from by unfold nmG; rw [List.set_set], Option.bind_some]
    cases e1 : bF g (lo.set ix (some (.dat x))) with
    | none => exact ⟨fun _ => lo.set ix o, rfl, o, rfl⟩
    | some p =>
      obtain ⟨b, l2⟩ := p
      have : l2 = lo.set ix (some (.dat x)) := PuT.pu e1
      subst this
      rw [Option.bind_some, Option.bind_some, Option.bind_some]
      dsimp only
      by_cases hb : b = go
      · rw [if_pos hb, if_pos hb]
        obtain ⟨h, e2, o2, e3⟩ := allGo_p (g := g) (go := go) r (lo.set ix (some (.dat x))) ⟨_, rfl⟩
        exact ⟨fun _ => h r, e2, o2, e3⟩
      · rw [if_neg hb, if_neg hb]
        exact ⟨fun _ => lo.set ix (some (.dat x)), rfl, _, rfl⟩
theorem rst_set (lo : Lo) (ix : Nat) (o : Option L) : rstL lo (lo.set ix o) [ix] = lo := by
  unfold rstL rstL
  exact set_getD
theorem allF_p {gi : GA} {ix : Nat} {g : GE} {go : Bool} {lo : Lo} [PuE g] : allF gi ix g go lo = (gi lo).bind fun p => if noOwn p.2 [ix] = true then
    (allP go (fun x => (bF g (p.2.set ix (some (.dat x)))).bind fun q => some q.1) p.1).bind fun b => some (.bool b, p.2) else none := by
  unfold allF
  congr 1
  funext p
  split
  · obtain ⟨h, e, o, e2⟩ := allGo_p (g := g) (go := go) (ix := ix) (lo := p.2) p.1 (wipeL p.2 [ix]) ⟨none, rfl⟩
    rw [e, Option.bind_assoc]
    congr 1
    funext b
    rw [Option.bind_some, e2, rst_set]
  · rfl
instance {ka : GA} {ix : Nat} {g : GE} {go : Bool} [PuA ka] [PuE g] : PuE (allF ka ix g go) := ⟨fun h => by
  rw [allF_p] at h
  obtain ⟨p, e1, h⟩ := bind_pu h
  split at h
  · obtain ⟨l, e2, h⟩ := bind_pu h
    cases h; (have w := PuA.pu e1; exact w)
  · cases h⟩
end Ev
namespace Ev
open PySem PySem.Spec PyProof.Rows L2 Tb
open Classical
/-- a join with a least state -/
structure Lat (F : PyData → Prop) (le : PyData → PyData → Prop) (jn : PyData → PyData → PyData) (bt : PyData) : Prop where
  refl : ∀ {x}, F x → le x x
  trans : ∀ {x y z}, F x → F y → F z → le x y → le y z → le x z
  anti : ∀ {x y}, F x → F y → le x y → le y x → x = y
  fbt : F bt
  bot : ∀ {x}, F x → le bt x
  fjn : ∀ {x y}, F x → F y → F (jn x y)
  ub1 : ∀ {x y}, F x → F y → le x (jn x y)
  ub2 : ∀ {x y}, F x → F y → le y (jn x y)
  lub : ∀ {x y z}, F x → F y → F z → le x z → le y z → le (jn x y) z
namespace Lat
variable {F : PyData → Prop} {le : PyData → PyData → Prop} {jn : PyData → PyData → PyData} {bt : PyData} (h : Lat F le jn bt)
include h
theorem mono {x y u v : PyData} (a : F x) (b : F y) (c : F u) (d : F v) (l : le x u) (m : le y v) : le (jn x y) (jn u v) :=
  h.lub a b (h.fjn c d) (h.trans a c (h.fjn c d) l (h.ub1 c d)) (h.trans b d (h.fjn c d) m (h.ub2 c d))
end Lat
def mxI (a b : Int) : Int := if b > a then b else a
def numJ : PyData → PyData → PyData
  | .int i, .int j => .int (mxI i j)
  | _, _ => .none
def cell (t : List (List Int)) (i j : Int) : Int := (t.getD i.toNat []).getD j.toNat 0
def tblJ (t : List (List Int)) : PyData → PyData → PyData
  | .int i, .int j => .int (cell t i j)
  | _, _ => .none
/-- from i to j along R, by points below m on the way -/
inductive Way (R : Nat → Nat → Prop) (m : Nat) : Nat → Nat → Prop
  | one {i j : Nat} : R i j → Way R m i j
  | step {i k j : Nat} : R i k → k < m → Way R m k j → Way R m i j
theorem Way.succ {R : Nat → Nat → Prop} {m i j : Nat} (h : Way R (m + 1) i j) : Way R m i j ∨ (Way R m i m ∧ Way R m m j) := by
  induction h with
  | one r => exact .inl (.one r)
  | @step i k j r hk _ ih =>
    by_cases e : k = m
    · subst e
      rcases ih with h | ⟨_, h⟩
      · exact .inr ⟨.one r, h⟩
      · exact .inr ⟨.one r, h⟩
    · have hk' : k < m := by omega
      rcases ih with h | ⟨h1, h2⟩
      · exact .inl (.step r hk' h)
      · exact .inr ⟨.step r hk' h1, h2⟩
theorem Way.trans {R : Nat → Nat → Prop} {m i k j : Nat} (h : Way R m i k) (hk : k < m) (g : Way R m k j) : Way R m i j := by
  induction h with
  | one r => exact .step r hk g
  | step r h1 _ ih => exact .step r h1 (ih hk g)
theorem Way.mono {R : Nat → Nat → Prop} {m m' i j : Nat} (h : Way R m i j) (l : m ≤ m') : Way R m' i j := by
  induction h with
  | one r => exact .one r
  | step r h1 _ ih => exact .step r (by omega) ih
/-- p lies below q -/
def bl (n : Int) (ts : List (Int × Int)) (p q : Int) : Bool := belM (TD ts) n.toNat p.toNat q.toNat
def tps (n : Int) (ts : List (Int × Int)) (ps : List Int) : List Int := ps.filter fun p => !ps.any fun q => bl n ts p q
/-- the told numbers, rising, none twice -/
def rise (ps : List Int) : List Int := iSort (dd ps)
def ptsJ (n : Int) (ts : List (Int × Int)) (xs ys : List Int) : List Int := tps n ts (rise (xs ++ ys))
def intsOf : PyData → List Int
  | .list xs => (intsD xs).getD []
  | _ => []
def topsJ (n : Int) (ts : List (Int × Int)) (x y : PyData) : PyData := .list (ID (ptsJ n ts (intsOf x) (intsOf y)))
end Ev
namespace Ev
open PySem PySem.Spec PyProof.Rows L2 Tb
open Classical
section
variable {F G : PyData → Prop} {le lg : PyData → PyData → Prop} {jn jg : PyData → PyData → PyData} {bt bg : PyData}
def pairJ (jn jg : PyData → PyData → PyData) : PyData → PyData → PyData
  | .tuple [a, b], .tuple [c, d] => .tuple [jn a c, jg b d]
  | _, _ => .none
noncomputable def laterJ (jn jg : PyData → PyData → PyData) (bg : PyData) : PyData → PyData → PyData
  | .tuple [a, b], .tuple [c, d] => if a = c then .tuple [a, jg b d] else if jn a c = a then .tuple [a, b] else if jn a c = c then .tuple [c, d] else .tuple [jn a c, bg]
  | _, _ => .none
abbrev loD (x : PyData) : PyData := .tuple [.str "low", x]
abbrev hiD (x : PyData) : PyData := .tuple [.str "high", x]
noncomputable def abvJ (jn jg : PyData → PyData → PyData) : PyData → PyData → PyData
  | .tuple [u, a], .tuple [v, c] => if u = v then (if u = .str "low" then loD (jn a c) else hiD (jg a c)) else if u = .str "high" then .tuple [u, a] else .tuple [v, c]
  | _, _ => .none
abbrev Ent := Str × PyData
def entD (e : Ent) : PyData := .tuple [.str e.1, e.2]
abbrev ML (es : List Ent) : PyData := .list (es.map entD)
def getE (es : List Ent) (n : Str) : Option PyData := (es.find? fun e => decide (e.1 = n)).map (·.2)
def nmsJ (es fs : List Ent) : List Str := sSort (dd (es.map (·.1) ++ fs.map (·.1)))
def jO (jn : PyData → PyData → PyData) : Option PyData → Option PyData → PyData
  | some x, some y => jn x y
  | some x, none => x
  | none, some y => y
  | none, none => .none
def entJ (jn : PyData → PyData → PyData) (es fs : List Ent) : List Ent := (nmsJ es fs).map fun n => (n, jO jn (getE es n) (getE fs n))
/-- the names that are drawn -/
def NMS : List Str := (["a", "b", "c", "d", "e", "f", "g", "h", "i", "j", "k", "l", "m", "n", "o", "p", "q", "r", "s", "t", "u", "v", "w", "x", "y", "z", "aa", "ab", "bb", "cc", "dd", "ee", "zz", "abc", "abcdefgh", "zzzzzzzz", "jjjjjjjj"] : List String).map Str.ofString
def entsOf : PyData → List Ent
  | .list xs => xs.filterMap fun x => match x with
    | .tuple [.str n, v] => some (n, v)
    | _ => none
  | _ => []
def mapJ (jn : PyData → PyData → PyData) (x y : PyData) : PyData := ML (entJ jn (entsOf x) (entsOf y))
end
inductive Kd where
  | count
  | row (n : Int)
  | tops (n : Int) (ts : List (Int × Int))
  | tbl (t : List (List Int))
  | map (k : Kd)
  | pair (a b : Kd)
  | later (a b : Kd)
  | above (a b : Kd)
def lst : Kd → PyData
  | .count | .row _ | .tbl _ => .int 0
  | .tops _ _ | .map _ => .list []
  | .pair a b | .later a b => .tuple [lst a, lst b]
  | .above a _ => loD (lst a)
noncomputable def jn : Kd → PyData → PyData → PyData
  | .count | .row _ => numJ
  | .tops n ts => topsJ n ts
  | .tbl t => tblJ t
  | .map k => mapJ (jn k)
  | .pair a b => pairJ (jn a) (jn b)
  | .later a b => laterJ (jn a) (jn b) (lst b)
  | .above a b => abvJ (jn a) (jn b)
end Ev
namespace Ev
open PySem PySem.Spec PyProof.Rows L2 Tb
section
variable {α β γ : Type}
theorem s_bs (a : α) (f : α → Option β) : (some a).bind f = f a := (rfl)
theorem s_ba (x : Option α) (f : α → Option β) (g : β → Option γ) : (x.bind f).bind g = x.bind fun y => (f y).bind g := Option.bind_assoc ..
theorem s_bif {c : Prop} [Decidable c] (x y : Option α) (f : α → Option β) : (if c then x else y).bind f = if c then x.bind f else y.bind f := by split <;> rfl
theorem s_be (x : Option α) : (x.bind fun y => some y) = x := by cases x <;> rfl
theorem s_g0 (x : α) (r : List α) : (x :: r)[0]? = some x := (rfl)
theorem s_gs (x : α) (r : List α) (n : Nat) : (x :: r)[n + 1]? = r[n]? := (rfl)
theorem s_t0 (x y : α) (r : List α) : (x :: r).set 0 y = y :: r := (rfl)
theorem s_ts (x y : α) (r : List α) (n : Nat) : (x :: r).set (n + 1) y = x :: r.set n y := (rfl)
theorem s_l0 : ([] : List α).length = 0 := (rfl)
theorem s_ls (x : α) (r : List α) : (x :: r).length = r.length + 1 := (rfl)
theorem s_an (r : List α) : ([] : List α) ++ r = r := (rfl)
theorem s_ac (x : α) (r t : List α) : (x :: r) ++ t = x :: (r ++ t) := (rfl)
theorem s_mn (f : α → β) : ([] : List α).map f = [] := (rfl)
theorem s_mc (f : α → β) (x : α) (r : List α) : (x :: r).map f = f x :: r.map f := (rfl)
theorem s_rz (x : α) : List.replicate 0 x = [] := (rfl)
theorem s_rs (x : α) (n : Nat) : List.replicate (n + 1) x = x :: List.replicate n x := (rfl)
end
theorem s_ft : (false = true) = False := eq_false Bool.false_ne_true
theorem s_dt [Decidable True] : decide True = true := decide_eq_true trivial
theorem s_df [Decidable False] : decide False = false := decide_eq_false id
theorem s_lo0 (xs : List PyData) (n : Nat) : lo0 xs n = xs.map (fun x => some (L.dat x)) ++ List.replicate n none := (rfl)
/-- the numbers below n -/
def upto (n : Int) : List Int := (List.range n.toNat).map fun i : Nat => (i : Int)
def bQ : PyData → Option Bool
  | .bool b => some b
  | _ => none
theorem s_bQ (b : Bool) : bQ (.bool b) = some b := (rfl)
section
variable (lo : Lo) (i j : Nat)
theorem s_vF : vF i lo = match lo[i]? with
  | some (some (.dat x)) => some (x, lo)
  | _ => none := (rfl)
theorem s_ownD : ownD i lo = match lo[i]? with
  | some (some (.dat x)) => some x
  | some (some (.own (.lst xs))) => some (.list xs)
  | _ => none := (rfl)
theorem s_ownL : ownL i lo = match lo[i]? with
  | some (some (.own (.lst xs))) => some xs
  | _ => none := (rfl)
theorem s_cF (x : PyData) : cF x lo = some (x, lo) := (rfl)
theorem s_op2 (f : PyData → PyData → Option PyData) (ga gb : GE) : op2 f ga gb lo = (ga lo).bind fun p => (gb p.2).bind fun q => (f p.1 q.1).bind fun z => some (z, q.2) := (rfl)
theorem s_op2L (f : PyData → PyData → Option PyData) (gb : GE) : op2L f i gb lo = (ownD i lo).bind fun _ => (gb lo).bind fun q => (ownD i q.2).bind fun x => (f x q.1).bind fun z => some (z, q.2) := (rfl)
theorem s_bF (g : GE) : bF g lo = (g lo).bind fun p => (bQ p.1).bind fun b => some (b, p.2) := by
  unfold bF
  congr 1
  funext p
  obtain ⟨x, l⟩ := p
  cases x <;> rfl
theorem s_ifE (t : GT) (g k : GE) : ifE t g k lo = (t lo).bind fun p => if p.1 = true then g p.2 else k p.2 := (rfl)
theorem s_nilA : nilA lo = some ([], lo) := (rfl)
theorem s_consA (g : GE) (k : GA) : consA g k lo = (g lo).bind fun p => (k p.2).bind fun q => some (p.1 :: q.1, q.2) := (rfl)
theorem s_tupF (g : GA) : tupF g lo = (g lo).bind fun p => if p.1.length ≤ sizeLine then some (.tuple p.1, p.2) else none := (rfl)
theorem s_lstF (g : GA) : lstF g lo = (g lo).bind fun p => if p.1.length ≤ sizeLine then some (.list p.1, p.2) else none := (rfl)
theorem s_callF (f : List PyData → Option PyData) (g : GA) : callF f g lo = (g lo).bind fun p => (f p.1).bind fun z => some (z, p.2) := (rfl)
theorem s_nmG (x : PyData) : nmG i x lo = some (lo.set i (some (.dat x))) := (rfl)
theorem s_nilGs : nilGs [] lo = some lo := (rfl)
theorem s_consGs (g : GG) (k : List PyData → Lo → Option Lo) (x : PyData) (xs : List PyData) : consGs g k (x :: xs) lo = (g x lo).bind fun l => k xs l := (rfl)
theorem s_tpG (n : Nat) (k : List PyData → Lo → Option Lo) (xs : List PyData) : tpG n k (.tuple xs) lo = if xs.length = n then k xs lo else none := (rfl)
theorem s_callBF (fn : List PyData → List PyData → Option (PyData × List PyData)) (g : GA) : callBF fn i g lo = match lo[i]? with
  | some (some (.own (.lst _))) => (g lo).bind fun p => match p.2[i]? with
    | some (some (.own (.lst ys))) => (fn ys p.1).bind fun r => some (r.1, p.2.set i (some (.lst r.2)))
    | _ => none
  | _ => none := (rfl)
theorem s_sub (k : Int) (x : PyData) : subG i k x lo = match lo[i]? with
  | some (some (.own (.lst xs))) => (ixN xs.length k).bind fun j => some (lo.set i (some (.lst (xs.set j x))))
  | _ => none := (rfl)
theorem s_lstL (g : GA) : lstL g lo = (g lo).bind fun p => if p.1.length ≤ sizeLine then some (p.1, p.2) else none := (rfl)
def outD : Out → Option PyData
  | .nx => some .none
  | .rt x => some x
  | _ => none
theorem s_or (x : PyData) : outD (.rt x) = some x := (rfl)
theorem s_runD (n m : Nat) (g : GS) (xs : List PyData) : runD n m g xs = if xs.length = n then (g (lo0 xs (m - n))).bind fun p => outD p.1 else none := by
  unfold runD
  split
  · congr 1
  · rfl
theorem s_runB (n m : Nat) (g : GS) (ys xs : List PyData) : runB n m g ys xs = if xs.length + 1 = n then (g (some (.lst ys) :: lo0 xs (m - n))).bind fun (p : Out × Lo) => match (p.2[0]? : Option (Option L)) with
  | some (some (.own (.lst zs))) => (outD p.1).bind fun x => some (x, zs)
  | _ => none else none := by
  unfold runB
  split
  · congr 1
    funext p
    obtain ⟨o, l⟩ := p
    generalize (l[0]? : Option (Option L)) = q
    cases o <;> (dsimp only; rcases q with _ | _ | _ | _ | _ | _ <;> rfl)
  · rfl
theorem s_seqS (g k : GS) : seqS g k lo = (g lo).bind fun p => match p.1 with
  | .nx => k p.2
  | o => some (o, p.2) := by
  unfold seqS
  congr 1
  funext p
  obtain ⟨o, l⟩ := p
  cases o <;> rfl
theorem s_retS (g : GE) : retS g lo = (g lo).bind fun p => some (.rt p.1, p.2) := (rfl)
theorem s_nilS : nilS lo = some (.nx, lo) := (rfl)
theorem s_ifS (t : GT) (g k : GS) : ifS t g k lo = (t lo).bind fun p => if p.1 = true then g p.2 else k p.2 := (rfl)
theorem s_asgS (g : GE) (gg : GG) : asgS g gg lo = (g lo).bind fun p => (gg p.1 p.2).bind fun l => some (.nx, l) := (rfl)
theorem s_par2 (g k : GE) : par2 g k i j lo = (g lo).bind fun p => (k p.2).bind fun q => some (.nx, (q.2.set i (some (.dat p.1))).set j (some (.dat q.1))) := (rfl)
theorem s_stoS (g gk : GE) : stoS i g gk lo = (g lo).bind fun p => (ownL i p.2).bind fun _ => (gk p.2).bind fun k => match k.1, k.2[i]? with
  | .int z, some (some (.own (.lst xs))) => (ixN xs.length z).bind fun j => some (.nx, k.2.set i (some (.lst (xs.set j p.1))))
  | _, _ => none := (rfl)
end
theorem ixT_nat (xs : List PyData) (k : Nat) : ixF (.tuple xs) (.int (k : Int)) = xs[k]? := by
  show L2.atI xs (k : Int) = _
  unfold L2.atI ixN
  rw [if_pos (by omega)]
  by_cases h : (k : Int) < xs.length
  · rw [if_pos h]; rfl
  · rw [if_neg h]
    exact (List.getElem?_eq_none (by omega)).symm
theorem ixL_nat (xs : List PyData) (k : Nat) : ixF (.list xs) (.int (k : Int)) = xs[k]? := ixT_nat xs k
theorem s_ixL0 (xs : List PyData) : ixF (.list xs) (.int 0) = xs[0]? := ixT_nat xs 0
theorem s_ixL1 (xs : List PyData) : ixF (.list xs) (.int 1) = xs[1]? := ixT_nat xs 1
theorem s_ixL2 (xs : List PyData) : ixF (.list xs) (.int 2) = xs[2]? := ixT_nat xs 2
theorem s_lenL (xs : List PyData) : lenF [.list xs] = some (.int xs.length) := (rfl)
theorem s_eqI (a b : Int) : eqF (.int a) (.int b) = some (.bool (decide (a = b))) := eq_int a b
theorem s_ltI (a b : Int) : ltF (.int a) (.int b) = some (.bool (decide (a < b))) := (rfl)
theorem s_gtI (a b : Int) : gtF (.int a) (.int b) = some (.bool (decide (a > b))) := (rfl)
theorem s_addI (a b : Int) : addF (.int a) (.int b) = some (.int (a + b)) := (rfl)
theorem s_subI (a b : Int) : subF (.int a) (.int b) = some (.int (a - b)) := (rfl)
theorem s_max2 (a b : Int) : max2F [.int a, .int b] = some (.int (if b > a then b else a)) := (rfl)
theorem s_sz0 : (0 ≤ sizeLine) = True := eq_true (Nat.zero_le _)
theorem s_sz1 : (0 + 1 ≤ sizeLine) = True := eq_true (by rw [sizeLine_eq]; omega)
theorem s_sz2 : (0 + 1 + 1 ≤ sizeLine) = True := eq_true (by rw [sizeLine_eq]; omega)
theorem s_sz3 : (0 + 1 + 1 + 1 ≤ sizeLine) = True := eq_true (by rw [sizeLine_eq]; omega)
end Ev
namespace Ev
open PySem PySem.Spec PyProof.Rows L2 Tb
def nums (t : List (List Int)) : List Int := upto t.length
def tpart (t : List (List Int)) (i : Int) : Bool := !decide (i = 0) && !((nums t).filter fun s => decide (cell t s i = i) && !decide (s = i)).any fun u => ((nums t).filter fun s => decide (cell t s i = i) && !decide (s = i)).any fun v => decide (cell t u v = i)
def jnT (t : List (List Int)) (ns : List Int) : Int := ns.foldl (cell t) 0
def wout (ns : List Int) (n : Int) : List Int := ns.filter fun m => !decide (m = n)
def pbelow (t : List (List Int)) (i : Int) : List Int := ((nums t).filter (tpart t)).filter fun p => decide (cell t p i = i)
def isLt (t : List (List Int)) (i : Int) (ps : List Int) : Bool := decide (jnT t ps = i) && !ps.any fun p => decide (jnT t (wout ps p) = i)
/-- all lots, as the program makes them -/
def sbl (ps : List Int) : List (List Int) := ps.foldl (fun lots p => lots ++ lots.map fun l => l ++ [p]) [[]]
def lLe (a b : List Int) : Bool := dLe (.list (ID a)) (.list (ID b))
def lSort (ls : List (List Int)) : List (List Int) := ls.mergeSort lLe
def lists (t : List (List Int)) (i : Int) : List (List Int) := lSort ((sbl (pbelow t i)).filter (isLt t i))
end Ev
namespace Ev
open PySem PySem.Spec PyProof.Rows L2 Tb
class SubL (ws vs : List Nat) : Prop where
  sub : ∀ v ∈ ws, v ∈ vs
instance {vs : List Nat} : SubL [] vs := ⟨fun _ h => by simp at h⟩
instance {i : Nat} {ws vs : List Nat} [a : InL i vs] [b : SubL ws vs] : SubL (i :: ws) vs := ⟨fun v h => by
  rcases List.mem_cons.mp h with rfl | h
  · exact a.mem
  · exact b.sub v h⟩
end Ev
namespace Ev
open PySem PySem.Spec PyProof.Rows L2 Tb
theorem ok_app {x y : Str} (a : PyData.strOk x = true) (b : PyData.strOk y = true) : PyData.strOk (x ++ y) = true := by
  unfold PyData.strOk at *
  show (x.cps ++ y.cps).all _ = true
  rw [Array.all_append, a, b]; rfl
theorem len_app (x y : Str) : (x ++ y).length = x.length + y.length := strLen_append x y
/-- a text of signs, of at most so many -/
def TxB (B : Nat) (x : Str) : Prop := PyData.strOk x = true ∧ x.length ≤ B
theorem TxB.app {A B : Nat} {x y : Str} (a : TxB A x) (b : TxB B y) : TxB (A + B) (x ++ y) := ⟨ok_app a.1 b.1, by rw [len_app]; exact Nat.add_le_add a.2 b.2⟩
theorem TxB.mono {A B : Nat} {x : Str} (a : TxB A x) (h : A ≤ B) : TxB B x := ⟨a.1, Nat.le_trans a.2 h⟩
theorem sep_ok (k : Nat) : TxB 2 (Str.ofString (if k > 0 then ", " else "" : String)) := by
  split
  · exact ⟨by decide +kernel, by decide⟩
  · exact ⟨by decide +kernel, by decide⟩
theorem from_ok {B : Nat} : ∀ (ts : List Str) (k : Nat) (acc : Str) (A : Nat), TxB A acc → (∀ t ∈ ts, TxB B t) → TxB (A + ts.length * (B + 2)) (textFrom k acc ts)
  | [], _, acc, A, h, _ => h.mono (by simp)
  | t :: r, k, acc, A, h, ht => by
    have e := (h.app (sep_ok k)).app (ht t List.mem_cons_self)
    have := from_ok r (k + 1) _ _ e fun x hx => ht x (List.mem_cons_of_mem _ hx)
    refine this.mono ?_
    rw [List.length_cons, Nat.add_mul]
    omega
theorem listText_ok {B : Nat} {ts : List Str} (h : ∀ t ∈ ts, TxB B t) : TxB (ts.length * (B + 2) + 4) (listText ts) := by
  have e1 : TxB 1 "[" := ⟨by decide +kernel, by decide⟩
  have e2 : TxB 1 "]" := ⟨by decide +kernel, by decide⟩
  have := (from_ok ts 0 _ _ e1 h).app e2
  exact this.mono (by omega)
theorem join_ok {B : Nat} : ∀ {ts : List Str}, (∀ t ∈ ts, TxB B t) → TxB (ts.length * (B + 2)) (Str.join ", " ts)
  | [], _ => ⟨by decide +kernel, by rw [show (Str.join ", " []).length = 0 by decide]; exact Nat.zero_le _⟩
  | [x], h => (h x List.mem_cons_self).mono (by simp)
  | x :: y :: r, h => by
    have ih := join_ok (ts := y :: r) fun z hz => h z (List.mem_cons_of_mem _ hz)
    have e : TxB 2 ", " := ⟨by decide +kernel, by decide⟩
    have := ((h x List.mem_cons_self).app e).app ih
    refine TxB.mono (A := B + 2 + (y :: r).length * (B + 2)) this ?_
    rw [List.length_cons (a := x), Nat.add_mul]
    omega
theorem tupleText_ok {B : Nat} {ts : List Str} (h : ∀ t ∈ ts, TxB B t) : TxB (ts.length * (B + 2) + 4) (tupleText ts) := by
  have e1 : TxB 1 "(" := ⟨by decide +kernel, by decide⟩
  have e3 : TxB 2 (Str.ofString (if ts.length == 1 then ",)" else ")" : String)) := by
    split
    · exact ⟨by decide +kernel, by decide⟩
    · exact ⟨by decide +kernel, by decide⟩
  have := (e1.app (join_ok h)).app e3
  exact this.mono (by omega)
def litS : List Str := ([ "low", "high" ] : List String).map Str.ofString
/-- small numbers, names, at most four of them in each list or tuple -/
inductive Nrw : Nat → PyData → Prop
  | bool (m : Nat) (b : Bool) : Nrw (m + 1) (.bool b)
  | int (m : Nat) {i : Int} : 0 ≤ i → i < 40 → Nrw (m + 1) (.int i)
  | str (m : Nat) {x : Str} : x ∈ NMS ++ litS → Nrw (m + 1) (.str x)
  | lst {m : Nat} {xs : List PyData} : xs.length ≤ 4 → (∀ x ∈ xs, Nrw m x) → Nrw (m + 1) (.list xs)
  | tup {m : Nat} {xs : List PyData} : xs.length ≤ 4 → (∀ x ∈ xs, Nrw m x) → Nrw (m + 1) (.tuple xs)
def nB : Nat → Nat
  | 0 => 14
  | m + 1 => 4 * (nB m + 2) + 4
theorem nB_s (m : Nat) : nB (m + 1) = 4 * (nB m + 2) + 4 := rfl
theorem nB_ge : ∀ m, 14 ≤ nB m
  | 0 => Nat.le_refl _
  | m + 1 => by unfold nB; have := nB_ge m; omega
theorem int_sh : ((List.range 40).all fun k : Nat => PyData.strOk (PyData.shown (.int (k : Int))) && decide ((PyData.shown (.int (k : Int))).length ≤ 14)) = true := by decide +kernel
theorem str_sh : ((NMS ++ litS).all fun x => PyData.strOk (PyData.shown (.str x)) && decide ((PyData.shown (.str x)).length ≤ 14) && PyData.strOk x) = true := by decide +kernel
theorem shownAll_eq : ∀ ds : List PyData, PyData.shownAll ds = ds.map PyData.shown
  | [] => rfl
  | d :: r => by
    show PyData.shown d :: PyData.shownAll r = _
    rw [shownAll_eq r]; rfl
theorem showableAll_of : ∀ ds : List PyData, (∀ d ∈ ds, d.showable = true) → PyData.showableAll ds = true
  | [], _ => rfl
  | d :: r, h => by
    show (d.showable && PyData.showableAll r) = true
    rw [h d List.mem_cons_self, showableAll_of r fun x hx => h x (List.mem_cons_of_mem _ hx)]; rfl
theorem Nrw.shown : ∀ {m : Nat} {x : PyData}, Nrw m x → TxB (nB m) x.shown ∧ x.showable = true ∧ Sh m x
  | _, _, .bool m b => ⟨by
      cases b
      · exact TxB.mono (A := 14) ⟨by decide +kernel, by decide⟩ (nB_ge _)
      · exact TxB.mono (A := 14) ⟨by decide +kernel, by decide⟩ (nB_ge _), rfl, sh_bl _ b⟩
  | _, _, .int m (i := i) h0 h1 => by
      obtain ⟨k, rfl⟩ := Int.eq_ofNat_of_zero_le h0
      have := List.all_eq_true.mp int_sh k (List.mem_range.mpr (by omega))
      rw [Bool.and_eq_true, decide_eq_true_eq] at this
      refine ⟨TxB.mono ⟨this.1, this.2⟩ (nB_ge _), ?_, sh_int _ _⟩
      show decide (((k : Int)).natAbs.log2 < 1920) = true
      refine decide_eq_true ?_
      have : ((k : Int)).natAbs.log2 ≤ ((k : Int)).natAbs := Nat.log2_le_self _
      omega
  | _, _, .str m (x := x) h => by
      have := List.all_eq_true.mp str_sh x h
      rw [Bool.and_eq_true, Bool.and_eq_true, decide_eq_true_eq] at this
      exact ⟨TxB.mono ⟨this.1.1, this.1.2⟩ (nB_ge _), rfl, ⟨by simp [PyData.canLay0, this.2], by simp [PyData.depth]⟩⟩
  | _, _, .lst (m := m) (xs := xs) l h => by
      have ih := fun x hx => Nrw.shown (h x hx)
      refine ⟨?_, ?_, sh_list fun x hx => (ih x hx).2.2⟩
      · have e : PyData.shown (.list xs) = listText (PyData.shownAll xs) := by simp [PyData.shown]
        rw [e]
        have := listText_ok (B := nB m) (ts := PyData.shownAll xs) fun t ht => by
          rw [shownAll_eq] at ht
          obtain ⟨x, hx, rfl⟩ := List.mem_map.mp ht
          exact (ih x hx).1
        refine this.mono ?_
        rw [shownAll_eq, List.length_map, nB_s]
        have := Nat.mul_le_mul_right (nB m + 2) l
        omega
      · have := showableAll_of xs fun x hx => (ih x hx).2.1
        simpa [PyData.showable] using this
  | _, _, .tup (m := m) (xs := xs) l h => by
      have ih := fun x hx => Nrw.shown (h x hx)
      refine ⟨?_, ?_, sh_tup fun x hx => (ih x hx).2.2⟩
      · have e : PyData.shown (.tuple xs) = tupleText (PyData.shownAll xs) := by simp [PyData.shown]
        rw [e]
        have := tupleText_ok (B := nB m) (ts := PyData.shownAll xs) fun t ht => by
          rw [shownAll_eq] at ht
          obtain ⟨x, hx, rfl⟩ := List.mem_map.mp ht
          exact (ih x hx).1
        refine this.mono ?_
        rw [shownAll_eq, List.length_map, nB_s]
        have := Nat.mul_le_mul_right (nB m + 2) l
        omega
      · have := showableAll_of xs fun x hx => (ih x hx).2.1
        simpa [PyData.showable] using this
theorem Nrw.mono : ∀ {m : Nat} {x : PyData}, Nrw m x → ∀ {k : Nat}, m ≤ k → Nrw k x
  | _, _, .bool m b, k, h => by obtain ⟨k, rfl⟩ : ∃ k', k = k' + 1 := ⟨k - 1, by omega⟩; exact .bool _ b
  | _, _, .int m a b, k, h => by obtain ⟨k, rfl⟩ : ∃ k', k = k' + 1 := ⟨k - 1, by omega⟩; exact .int _ a b
  | _, _, .str m a, k, h => by obtain ⟨k, rfl⟩ : ∃ k', k = k' + 1 := ⟨k - 1, by omega⟩; exact .str _ a
  | _, _, .lst l hx, k, h => by obtain ⟨k, rfl⟩ : ∃ k', k = k' + 1 := ⟨k - 1, by omega⟩; exact .lst l fun x hm => (hx x hm).mono (by omega)
  | _, _, .tup l hx, k, h => by obtain ⟨k, rfl⟩ : ∃ k', k = k' + 1 := ⟨k - 1, by omega⟩; exact .tup l fun x hm => (hx x hm).mono (by omega)
end Ev
namespace Ev
open PySem PySem.Spec PyProof.Rows L2 Tb
/-- the ties as they are told -/
def tkT (ts : List (Int × Int)) : List (Int × Int) := tSort (dd ts)
/-- the kind as told -/
def tk : Kd → Kd
  | .count => .count
  | .row n => .row n
  | .tops n ts => .tops n (tkT ts)
  | .tbl t => .tbl t
  | .map k => .map (tk k)
  | .pair a b => .pair (tk a) (tk b)
  | .later a b => .later (tk a) (tk b)
  | .above a b => .above (tk a) (tk b)
end Ev
namespace Ev
open PySem PySem.Spec PyProof.Rows L2 Tb
theorem s_ixN20 : ixN 2 0 = some 0 := by decide
theorem s_ixN21 : ixN 2 1 = some 1 := by decide
theorem s_int1 (i : Int) : intF1 [.int i] = some (.int i) := (rfl)
theorem mul_ok (i : Int) {j : Int} (h : -(2 ^ 64) < j ∧ j < 2 ^ 64) : mulQ (.int i) (.int j) = some (.int (i * j)) := by
  show (if _ then some (PyData.int (i * j)) else none) = _
  rw [if_pos]
  rw [Bool.or_eq_true, Bool.and_eq_true, Bool.and_eq_true, decide_eq_true_eq, decide_eq_true_eq, decide_eq_true_eq, decide_eq_true_eq]
  exact .inr h
theorem mod_ok (i : Int) {j : Int} (h : 0 < j) : modF (.int i) (.int j) = some (.int (i % j)) := by
  show (if _ then some (PyData.int (i % j)) else none) = _
  rw [if_pos (decide_eq_true h)]
theorem fdiv_ok (i : Int) {j : Int} (h : 0 < j ∧ j < 1073741824) : fdivF (.int i) (.int j) = some (.int (i / j)) := by
  show (if _ then some (PyData.int (i / j)) else none) = _
  rw [if_pos]
  rw [Bool.and_eq_true, decide_eq_true_eq, decide_eq_true_eq]
  exact h
theorem divmod_ok (i : Int) {j : Int} (h : 0 < j ∧ j < 1073741824) : divmodF [.int i, .int j] = some (.tuple [.int (i / j), .int (i % j)]) := if_pos h
theorem pow_18 : powF (.int 10) (.int 18) = some (.int 1000000000000000000) := by
  unfold powF intF
  dsimp only
  rw [if_pos (by decide)]
  rfl
theorem runL_e (n m : Nat) (g : GL) (xs : List PyData) (h : xs.length = n) : runL n m g xs = (g (lo0 xs (m - n))).bind fun p => some p.1 := if_pos h
theorem s_seqL (lo : Lo) (g : GS) (k : GL) : seqL g k lo = (g lo).bind fun p => match p.1 with
  | .nx => k p.2
  | _ => none := (rfl)
theorem s_abs (i : Int) : absF [.int i] = some (.int (if i < 0 then -i else i)) := (rfl)
inductive All2 {α : Type} (Q : α → PyData → Prop) : List α → List PyData → Prop
  | nil : All2 Q [] []
  | cons {a : α} {y : PyData} {as : List α} {ys : List PyData} : Q a y → All2 Q as ys → All2 Q (a :: as) (y :: ys)
theorem All2.length {α : Type} {Q : α → PyData → Prop} : ∀ {as : List α} {ys : List PyData}, All2 Q as ys → ys.length = as.length
  | _, _, .nil => rfl
  | _, _, .cons _ t => congrArg Nat.succ t.length
end Ev
namespace Ev
open PySem PySem.Spec PyProof.Rows L2 Tb
/-- the pot that a law draws from -/
def PotD (ys : List PyData) : Prop := ∃ a y : Int, ys = [.int a, .int y] ∧ 0 ≤ a ∧ 0 ≤ y ∧ y < 2 ^ 32
theorem d_draw {ys : List PyData} (hp : PotD ys) {m : Int} (hm : 1 ≤ m ∧ m < 1000000) : ∃ d ys', r__law_draw ys [.int m] = some (.int d, ys') ∧ (0 ≤ d ∧ d < m) ∧ PotD ys' := by
  obtain ⟨a, y, rfl, h1, h2, h3⟩ := hp
  by_cases c : a > 0
  · refine ⟨a % m, [.int (a / m), .int y], ?_, ⟨Int.emod_nonneg _ (by omega), Int.emod_lt_of_pos _ (by omega)⟩, _, _, rfl, Int.ediv_nonneg h1 (by omega), h2, h3⟩
    unfold r__law_draw g__law_draw
    simp only [seval, s_ac, s_an, s_asgS, s_bF, s_bQ, s_ba, s_be, s_bs, s_cF, s_callF, s_consA, s_consGs, s_dt, s_g0, s_gs, s_gtI, s_ifS, s_ixL0, s_ixN20, s_l0, s_lo0, s_ls, s_mc, s_mn, s_nilA, s_nilGs, s_nilS, s_nmG, s_op2, s_op2L, s_or, s_ownD, s_ownL, s_retS, s_rs, s_runB, s_rz, s_seqS, s_stoS, s_sub, s_t0, s_tpG, s_ts, s_vF, c, divmod_ok a (show 0 < m ∧ m < 1073741824 by omega)]
  · have q : 0 ≤ (y * 39541 + 7321) % 2147483549 ∧ (y * 39541 + 7321) % 2147483549 < 2147483549 := ⟨Int.emod_nonneg _ (by omega), Int.emod_lt_of_pos _ (by omega)⟩
    generalize hz : (y * 39541 + 7321) % 2147483549 = z at q
    refine ⟨z * z % 2147483543 / 23 % m, [.int a, .int z], ?_, ⟨Int.emod_nonneg _ (by omega), Int.emod_lt_of_pos _ (by omega)⟩, _, _, rfl, h1, by omega, by omega⟩
    unfold r__law_draw g__law_draw
    simp only [seval, s_ac, s_addI, s_an, s_asgS, s_bF, s_bQ, s_ba, s_bs, s_cF, s_callF, s_consA, s_df, s_ft, s_g0, s_gs, s_gtI, s_ifS, s_int1, s_ixL0, s_ixL1, s_ixN21, s_l0, s_lo0, s_ls, s_mc, s_mn, s_nilA, s_nilS, s_op2, s_op2L, s_or, s_ownD, s_ownL, s_retS, s_rs, s_runB, s_rz, s_seqS, s_stoS, s_t0, s_ts, s_vF, c, mul_ok y (show -(2 ^ 64) < (39541 : Int) ∧ (39541 : Int) < 2 ^ 64 by omega), mod_ok _ (show (0 : Int) < 2147483549 by omega), hz]
    simp only [seval, s_bs, s_int1, mul_ok z (show -(2 ^ 64) < z ∧ z < 2 ^ 64 by omega), mod_ok _ (show (0 : Int) < 2147483543 by omega), fdiv_ok _ (show (0 : Int) < 23 ∧ (23 : Int) < 1073741824 by omega), mod_ok _ (show (0 : Int) < m by omega)]
theorem d_pick {ys : List PyData} (hp : PotD ys) {xs : List PyData} (h1 : 1 ≤ xs.length) (h2 : xs.length < 1000000) : ∃ x ys', r__law_pick ys [.list xs] = some (x, ys') ∧ x ∈ xs ∧ PotD ys' := by
  obtain ⟨d, ys', e, h, hp'⟩ := d_draw hp (m := xs.length) (by omega)
  obtain ⟨k, rfl⟩ := Int.eq_ofNat_of_zero_le h.1
  have hk : k < xs.length := by omega
  refine ⟨xs[k], ys', ?_, List.getElem_mem hk, hp'⟩
  unfold r__law_pick g__law_pick
  simp only [seval, s_ac, s_an, s_ba, s_bs, s_callBF, s_callF, s_consA, s_g0, s_gs, s_l0, s_lenL, s_lo0, s_ls, s_mc, s_mn, s_nilA, s_op2, s_or, s_retS, s_runB, s_rz, s_t0, s_vF, e, ixL_nat, List.getElem?_eq_getElem hk]
theorem d_pot (ns : List Int) : ∃ ys, rL__law_pot [.list (ID ns), .int 0] = some ys ∧ PotD ys := by
  unfold rL__law_pot gL__law_pot
  rw [runL_e _ _ _ _ (by rfl)]
  cases ns with
  | nil =>
    simp only [seval, s_ac, s_addI, s_an, s_asgS, s_bF, s_bQ, s_ba, s_bs, s_cF, s_callF, s_consA, s_df, s_ft, s_g0, s_gs, s_ifE, s_int1, s_l0, s_lenL, s_lo0, s_ls, s_lstL, s_ltI, s_max2, s_mc, s_mn, s_nilA, s_nmG, s_op2, s_rs, s_rz, s_seqL, s_subI, s_sz2, s_t0, s_ts, s_vF, pow_18, mod_ok _ (show (0 : Int) < 2147483543 by omega), mod_ok _ (show (0 : Int) < 2147483549 by omega), mul_ok _ (show -(2 ^ 64) < (18 : Int) ∧ (18 : Int) < 2 ^ 64 by omega), mul_ok _ (show -(2 ^ 64) < (40471 : Int) ∧ (40471 : Int) < 2 ^ 64 by omega), mul_ok 947 (show -(2 ^ 64) < (0 : Int) ∧ (0 : Int) < 2 ^ 64 by omega), mul_ok 7321 (show -(2 ^ 64) < (0 : Int) ∧ (0 : Int) < 2 ^ 64 by omega)]
    refine ⟨_, rfl, _, _, rfl, ?_, ?_, ?_⟩
    · first | omega | (split <;> omega)
    · omega
    · omega
  | cons n r =>
    have lt : (0 : Int) < ((r.length + 1 : Nat) : Int) := by omega
    simp only [seval, s_abs, s_ac, s_addI, s_an, s_asgS, s_bF, s_bQ, s_ba, s_bs, s_cF, s_callF, s_consA, s_dt, s_g0, s_gs, s_ifE, s_int1, s_ixL0, s_l0, s_lenL, s_lo0, s_ls, s_lstL, s_ltI, s_max2, s_mc, s_mn, s_nilA, s_nmG, s_op2, s_rs, s_rz, s_seqL, s_subI, s_sz2, s_t0, s_ts, s_vF, List.length_map, lt, pow_18, mod_ok _ (show (0 : Int) < 2147483543 by omega), mod_ok _ (show (0 : Int) < 2147483549 by omega), mul_ok _ (show -(2 ^ 64) < (18 : Int) ∧ (18 : Int) < 2 ^ 64 by omega), mul_ok _ (show -(2 ^ 64) < (40471 : Int) ∧ (40471 : Int) < 2 ^ 64 by omega), mul_ok 947 (show -(2 ^ 64) < (0 : Int) ∧ (0 : Int) < 2 ^ 64 by omega), mul_ok 7321 (show -(2 ^ 64) < (0 : Int) ∧ (0 : Int) < 2 ^ 64 by omega)]
    generalize hc : (if n < 0 then -n else n) = c
    have c0 : 0 ≤ c := by rw [← hc]; split <;> omega
    refine ⟨_, rfl, _, _, rfl, ?_, ?_, ?_⟩
    · first | omega | (split <;> omega)
    · omega
    · omega
end Ev
namespace Ev
open PySem PySem.Spec PyProof.Rows L2 Tb
def in46 : List PyData := [.tuple [.str "table", .list [.list [.int 0, .int 1, .int 2, .int 3], .list [.int 1, .int 1, .int 3, .int 3], .list [.int 2, .int 3, .int 2, .int 3], .list [.int 3, .int 3, .int 3, .int 3]]], .tuple [.str "table", .list [.list [.int 0, .int 1, .int 2, .int 3, .int 4], .list [.int 1, .int 1, .int 4, .int 4, .int 4], .list [.int 2, .int 4, .int 2, .int 4, .int 4], .list [.int 3, .int 4, .int 4, .int 3, .int 4], .list [.int 4, .int 4, .int 4, .int 4, .int 4]]], .tuple [.str "table", .list [.list [.int 0, .int 1, .int 2, .int 3, .int 4], .list [.int 1, .int 1, .int 4, .int 3, .int 4], .list [.int 2, .int 4, .int 2, .int 4, .int 4], .list [.int 3, .int 3, .int 4, .int 3, .int 4], .list [.int 4, .int 4, .int 4, .int 4, .int 4]]], .tuple [.str "tops", .int 2, .list []], .tuple [.str "row", .int 3], .tuple [.str "tops", .int 3, .list [.tuple [.int 0, .int 1]]], .tuple [.str "pair", .tuple [.str "row", .int 2], .tuple [.str "row", .int 2]]]
def tb46 : PyData := .list [.list [.list [.int 0, .int 1, .int 2, .int 3], .list [.int 1, .int 1, .int 3, .int 3], .list [.int 2, .int 3, .int 2, .int 3], .list [.int 3, .int 3, .int 3, .int 3]], .list [.list [.int 0, .int 1, .int 2, .int 3, .int 4], .list [.int 1, .int 1, .int 4, .int 4, .int 4], .list [.int 2, .int 4, .int 2, .int 4, .int 4], .list [.int 3, .int 4, .int 4, .int 3, .int 4], .list [.int 4, .int 4, .int 4, .int 4, .int 4]], .list [.list [.int 0, .int 1, .int 2, .int 3, .int 4, .int 5, .int 6], .list [.int 1, .int 1, .int 4, .int 6, .int 4, .int 6, .int 6], .list [.int 2, .int 4, .int 2, .int 5, .int 4, .int 5, .int 6], .list [.int 3, .int 6, .int 5, .int 3, .int 6, .int 5, .int 6], .list [.int 4, .int 4, .int 4, .int 6, .int 4, .int 6, .int 6], .list [.int 5, .int 6, .int 5, .int 5, .int 6, .int 5, .int 6], .list [.int 6, .int 6, .int 6, .int 6, .int 6, .int 6, .int 6]], .list [.list [.int 0, .int 1, .int 2], .list [.int 1, .int 1, .int 2], .list [.int 2, .int 2, .int 2]], .list [.list [.int 0, .int 1, .int 2, .int 3, .int 4], .list [.int 1, .int 1, .int 4, .int 3, .int 4], .list [.int 2, .int 4, .int 2, .int 4, .int 4], .list [.int 3, .int 3, .int 4, .int 3, .int 4], .list [.int 4, .int 4, .int 4, .int 4, .int 4]], .list [.list [.int 0]], .list [.list [.int 0, .int 1, .int 2, .int 3], .list [.int 1, .int 1, .int 3, .int 3], .list [.int 2, .int 3, .int 2, .int 3], .list [.int 3, .int 3, .int 3, .int 3]]]
theorem tb46_eq : r__law_tables [] = some tb46 := by kernel_rfl
theorem d_small {ys : List PyData} (hp : PotD ys) : ∃ k ys', r__law_small ys [] = some (k, ys') ∧ ok46 k := by
  obtain ⟨x, y1, e1, hx, p1⟩ := d_pick hp (xs := in46) (by decide) (by decide)
  obtain ⟨v, y2, e2, hv, p2⟩ := d_draw p1 (m := 6) (by decide)
  have e0 := tb46_eq
  have i4 : ixF tb46 (.int 4) = some (.list [.list [.int 0, .int 1, .int 2, .int 3, .int 4], .list [.int 1, .int 1, .int 4, .int 3, .int 4], .list [.int 2, .int 4, .int 2, .int 4, .int 4], .list [.int 3, .int 3, .int 4, .int 3, .int 4], .list [.int 4, .int 4, .int 4, .int 4, .int 4]]) := by kernel_rfl
  have z5 : 5 ≤ sizeLine := by decide
  have hA : addF (.list [.tuple [.str "table", .list [.list [.int 0, .int 1, .int 2, .int 3], .list [.int 1, .int 1, .int 3, .int 3], .list [.int 2, .int 3, .int 2, .int 3], .list [.int 3, .int 3, .int 3, .int 3]]], .tuple [.str "table", .list [.list [.int 0, .int 1, .int 2, .int 3, .int 4], .list [.int 1, .int 1, .int 4, .int 4, .int 4], .list [.int 2, .int 4, .int 2, .int 4, .int 4], .list [.int 3, .int 4, .int 4, .int 3, .int 4], .list [.int 4, .int 4, .int 4, .int 4, .int 4]]], .tuple [.str "table", .list [.list [.int 0, .int 1, .int 2, .int 3, .int 4], .list [.int 1, .int 1, .int 4, .int 3, .int 4], .list [.int 2, .int 4, .int 2, .int 4, .int 4], .list [.int 3, .int 3, .int 4, .int 3, .int 4], .list [.int 4, .int 4, .int 4, .int 4, .int 4]]], .tuple [.str "tops", .int 2, .list []], .tuple [.str "row", .int 3]]) (.list [.tuple [.str "tops", .int 3, .list [.tuple [.int 0, .int 1]]], .tuple [.str "pair", .tuple [.str "row", .int 2], .tuple [.str "row", .int 2]]]) = some (.list [.tuple [.str "table", .list [.list [.int 0, .int 1, .int 2, .int 3], .list [.int 1, .int 1, .int 3, .int 3], .list [.int 2, .int 3, .int 2, .int 3], .list [.int 3, .int 3, .int 3, .int 3]]], .tuple [.str "table", .list [.list [.int 0, .int 1, .int 2, .int 3, .int 4], .list [.int 1, .int 1, .int 4, .int 4, .int 4], .list [.int 2, .int 4, .int 2, .int 4, .int 4], .list [.int 3, .int 4, .int 4, .int 3, .int 4], .list [.int 4, .int 4, .int 4, .int 4, .int 4]]], .tuple [.str "table", .list [.list [.int 0, .int 1, .int 2, .int 3, .int 4], .list [.int 1, .int 1, .int 4, .int 3, .int 4], .list [.int 2, .int 4, .int 2, .int 4, .int 4], .list [.int 3, .int 3, .int 4, .int 3, .int 4], .list [.int 4, .int 4, .int 4, .int 4, .int 4]]], .tuple [.str "tops", .int 2, .list []], .tuple [.str "row", .int 3], .tuple [.str "tops", .int 3, .list [.tuple [.int 0, .int 1]]], .tuple [.str "pair", .tuple [.str "row", .int 2], .tuple [.str "row", .int 2]]]) := by kernel_rfl
  unfold tb46 at e0 i4
  unfold in46 at e1 hx
  have hw : v = 0 ∨ v = 1 ∨ v = 2 ∨ v = 3 ∨ v = 4 ∨ v = 5 := by omega
  unfold r__law_small g__law_small
  simp only [List.mem_cons, List.not_mem_nil, or_false] at hx
  rcases hx with rfl | rfl | rfl | rfl | rfl | rfl | rfl
  · rcases hw with rfl | rfl | rfl | rfl | rfl | rfl
    · exact ⟨_, y2, by simp only [seval, s_an, s_asgS, s_bF, s_bQ, s_ba, s_bif, s_bs, s_cF, s_callBF, s_callF, s_consA, s_df, s_dt, s_eqI, s_ft, s_g0, s_gs, s_ifE, s_ifS, s_ixL0, s_ixL1, s_ixL2, s_l0, s_lo0, s_ls, s_lstF, s_mn, s_nilA, s_nilS, s_nmG, s_op2, s_or, s_par2, s_retS, s_rs, s_runB, s_rz, s_seqS, s_sz0, s_sz1, s_sz2, s_sz3, s_t0, s_ts, s_tupF, s_vF, e0, i4, z5, hA, e1, e2] <;> rfl, t46_0⟩
    · exact ⟨_, y2, by simp only [seval, s_an, s_asgS, s_bF, s_bQ, s_ba, s_bif, s_bs, s_cF, s_callBF, s_callF, s_consA, s_df, s_dt, s_eqI, s_ft, s_g0, s_gs, s_ifE, s_ifS, s_ixL0, s_ixL1, s_ixL2, s_l0, s_lo0, s_ls, s_lstF, s_mn, s_nilA, s_nilS, s_nmG, s_op2, s_or, s_par2, s_retS, s_rs, s_runB, s_rz, s_seqS, s_sz0, s_sz1, s_sz2, s_sz3, s_t0, s_ts, s_tupF, s_vF, e0, i4, z5, hA, e1, e2] <;> rfl, t46_1⟩
    · exact ⟨_, y2, by simp only [seval, s_an, s_asgS, s_bF, s_bQ, s_ba, s_bif, s_bs, s_cF, s_callBF, s_callF, s_consA, s_df, s_dt, s_eqI, s_ft, s_g0, s_gs, s_ifE, s_ifS, s_ixL0, s_ixL1, s_ixL2, s_l0, s_lo0, s_ls, s_lstF, s_mn, s_nilA, s_nilS, s_nmG, s_op2, s_or, s_par2, s_retS, s_rs, s_runB, s_rz, s_seqS, s_sz0, s_sz1, s_sz2, s_sz3, s_t0, s_ts, s_tupF, s_vF, e0, i4, z5, hA, e1, e2] <;> rfl, t46_8⟩
    · exact ⟨_, y2, by simp only [seval, s_an, s_asgS, s_bF, s_bQ, s_ba, s_bif, s_bs, s_cF, s_callBF, s_callF, s_consA, s_df, s_dt, s_eqI, s_ft, s_g0, s_gs, s_ifE, s_ifS, s_ixL0, s_ixL1, s_ixL2, s_l0, s_lo0, s_ls, s_lstF, s_mn, s_nilA, s_nilS, s_nmG, s_op2, s_or, s_par2, s_retS, s_rs, s_runB, s_rz, s_seqS, s_sz0, s_sz1, s_sz2, s_sz3, s_t0, s_ts, s_tupF, s_vF, e0, i4, z5, hA, e1, e2] <;> rfl, t46_15⟩
    · exact ⟨_, y2, by simp only [seval, s_an, s_asgS, s_bF, s_bQ, s_ba, s_bif, s_bs, s_cF, s_callBF, s_callF, s_consA, s_df, s_dt, s_eqI, s_ft, s_g0, s_gs, s_ifE, s_ifS, s_ixL0, s_ixL1, s_ixL2, s_l0, s_lo0, s_ls, s_lstF, s_mn, s_nilA, s_nilS, s_nmG, s_op2, s_or, s_par2, s_retS, s_rs, s_runB, s_rz, s_seqS, s_sz0, s_sz1, s_sz2, s_sz3, s_t0, s_ts, s_tupF, s_vF, e0, i4, z5, hA, e1, e2] <;> rfl, t46_22⟩
    · exact ⟨_, y2, by simp only [seval, s_an, s_asgS, s_bF, s_bQ, s_ba, s_bif, s_bs, s_cF, s_callBF, s_callF, s_consA, s_df, s_eqI, s_ft, s_g0, s_gs, s_ifE, s_ifS, s_ixL0, s_ixL1, s_ixL2, s_l0, s_lo0, s_ls, s_lstF, s_mn, s_nilA, s_nilS, s_nmG, s_op2, s_or, s_par2, s_retS, s_rs, s_runB, s_rz, s_seqS, s_sz0, s_sz1, s_sz2, s_sz3, s_t0, s_ts, s_tupF, s_vF, e0, i4, z5, hA, e1, e2] <;> rfl, t46_29⟩
  · rcases hw with rfl | rfl | rfl | rfl | rfl | rfl
    · exact ⟨_, y2, by simp only [seval, s_an, s_asgS, s_bF, s_bQ, s_ba, s_bif, s_bs, s_cF, s_callBF, s_callF, s_consA, s_df, s_dt, s_eqI, s_ft, s_g0, s_gs, s_ifE, s_ifS, s_ixL0, s_ixL1, s_ixL2, s_l0, s_lo0, s_ls, s_lstF, s_mn, s_nilA, s_nilS, s_nmG, s_op2, s_or, s_par2, s_retS, s_rs, s_runB, s_rz, s_seqS, s_sz0, s_sz1, s_sz2, s_sz3, s_t0, s_ts, s_tupF, s_vF, e0, i4, z5, hA, e1, e2] <;> rfl, t46_0⟩
    · exact ⟨_, y2, by simp only [seval, s_an, s_asgS, s_bF, s_bQ, s_ba, s_bif, s_bs, s_cF, s_callBF, s_callF, s_consA, s_df, s_dt, s_eqI, s_ft, s_g0, s_gs, s_ifE, s_ifS, s_ixL0, s_ixL1, s_ixL2, s_l0, s_lo0, s_ls, s_lstF, s_mn, s_nilA, s_nilS, s_nmG, s_op2, s_or, s_par2, s_retS, s_rs, s_runB, s_rz, s_seqS, s_sz0, s_sz1, s_sz2, s_sz3, s_t0, s_ts, s_tupF, s_vF, e0, i4, z5, hA, e1, e2] <;> rfl, t46_2⟩
    · exact ⟨_, y2, by simp only [seval, s_an, s_asgS, s_bF, s_bQ, s_ba, s_bif, s_bs, s_cF, s_callBF, s_callF, s_consA, s_df, s_dt, s_eqI, s_ft, s_g0, s_gs, s_ifE, s_ifS, s_ixL0, s_ixL1, s_ixL2, s_l0, s_lo0, s_ls, s_lstF, s_mn, s_nilA, s_nilS, s_nmG, s_op2, s_or, s_par2, s_retS, s_rs, s_runB, s_rz, s_seqS, s_sz0, s_sz1, s_sz2, s_sz3, s_t0, s_ts, s_tupF, s_vF, e0, i4, z5, hA, e1, e2] <;> rfl, t46_9⟩
    · exact ⟨_, y2, by simp only [seval, s_an, s_asgS, s_bF, s_bQ, s_ba, s_bif, s_bs, s_cF, s_callBF, s_callF, s_consA, s_df, s_dt, s_eqI, s_ft, s_g0, s_gs, s_ifE, s_ifS, s_ixL0, s_ixL1, s_ixL2, s_l0, s_lo0, s_ls, s_lstF, s_mn, s_nilA, s_nilS, s_nmG, s_op2, s_or, s_par2, s_retS, s_rs, s_runB, s_rz, s_seqS, s_sz0, s_sz1, s_sz2, s_sz3, s_t0, s_ts, s_tupF, s_vF, e0, i4, z5, hA, e1, e2] <;> rfl, t46_16⟩
    · exact ⟨_, y2, by simp only [seval, s_an, s_asgS, s_bF, s_bQ, s_ba, s_bif, s_bs, s_cF, s_callBF, s_callF, s_consA, s_df, s_dt, s_eqI, s_ft, s_g0, s_gs, s_ifE, s_ifS, s_ixL0, s_ixL1, s_ixL2, s_l0, s_lo0, s_ls, s_lstF, s_mn, s_nilA, s_nilS, s_nmG, s_op2, s_or, s_par2, s_retS, s_rs, s_runB, s_rz, s_seqS, s_sz0, s_sz1, s_sz2, s_sz3, s_t0, s_ts, s_tupF, s_vF, e0, i4, z5, hA, e1, e2] <;> rfl, t46_23⟩
    · exact ⟨_, y2, by simp only [seval, s_an, s_asgS, s_bF, s_bQ, s_ba, s_bif, s_bs, s_cF, s_callBF, s_callF, s_consA, s_df, s_eqI, s_ft, s_g0, s_gs, s_ifE, s_ifS, s_ixL0, s_ixL1, s_ixL2, s_l0, s_lo0, s_ls, s_lstF, s_mn, s_nilA, s_nilS, s_nmG, s_op2, s_or, s_par2, s_retS, s_rs, s_runB, s_rz, s_seqS, s_sz0, s_sz1, s_sz2, s_sz3, s_t0, s_ts, s_tupF, s_vF, e0, i4, z5, hA, e1, e2] <;> rfl, t46_30⟩
  · rcases hw with rfl | rfl | rfl | rfl | rfl | rfl
    · exact ⟨_, y2, by simp only [seval, s_an, s_asgS, s_bF, s_bQ, s_ba, s_bif, s_bs, s_cF, s_callBF, s_callF, s_consA, s_df, s_dt, s_eqI, s_ft, s_g0, s_gs, s_ifE, s_ifS, s_ixL0, s_ixL1, s_ixL2, s_l0, s_lo0, s_ls, s_lstF, s_mn, s_nilA, s_nilS, s_nmG, s_op2, s_or, s_par2, s_retS, s_rs, s_runB, s_rz, s_seqS, s_sz0, s_sz1, s_sz2, s_sz3, s_t0, s_ts, s_tupF, s_vF, e0, i4, z5, hA, e1, e2] <;> rfl, t46_0⟩
    · exact ⟨_, y2, by simp only [seval, s_an, s_asgS, s_bF, s_bQ, s_ba, s_bif, s_bs, s_cF, s_callBF, s_callF, s_consA, s_df, s_dt, s_eqI, s_ft, s_g0, s_gs, s_ifE, s_ifS, s_ixL0, s_ixL1, s_ixL2, s_l0, s_lo0, s_ls, s_lstF, s_mn, s_nilA, s_nilS, s_nmG, s_op2, s_or, s_par2, s_retS, s_rs, s_runB, s_rz, s_seqS, s_sz0, s_sz1, s_sz2, s_sz3, s_t0, s_ts, s_tupF, s_vF, e0, i4, z5, hA, e1, e2] <;> rfl, t46_3⟩
    · exact ⟨_, y2, by simp only [seval, s_an, s_asgS, s_bF, s_bQ, s_ba, s_bif, s_bs, s_cF, s_callBF, s_callF, s_consA, s_df, s_dt, s_eqI, s_ft, s_g0, s_gs, s_ifE, s_ifS, s_ixL0, s_ixL1, s_ixL2, s_l0, s_lo0, s_ls, s_lstF, s_mn, s_nilA, s_nilS, s_nmG, s_op2, s_or, s_par2, s_retS, s_rs, s_runB, s_rz, s_seqS, s_sz0, s_sz1, s_sz2, s_sz3, s_t0, s_ts, s_tupF, s_vF, e0, i4, z5, hA, e1, e2] <;> rfl, t46_10⟩
    · exact ⟨_, y2, by simp only [seval, s_an, s_asgS, s_bF, s_bQ, s_ba, s_bif, s_bs, s_cF, s_callBF, s_callF, s_consA, s_df, s_dt, s_eqI, s_ft, s_g0, s_gs, s_ifE, s_ifS, s_ixL0, s_ixL1, s_ixL2, s_l0, s_lo0, s_ls, s_lstF, s_mn, s_nilA, s_nilS, s_nmG, s_op2, s_or, s_par2, s_retS, s_rs, s_runB, s_rz, s_seqS, s_sz0, s_sz1, s_sz2, s_sz3, s_t0, s_ts, s_tupF, s_vF, e0, i4, z5, hA, e1, e2] <;> rfl, t46_17⟩
    · exact ⟨_, y2, by simp only [seval, s_an, s_asgS, s_bF, s_bQ, s_ba, s_bif, s_bs, s_cF, s_callBF, s_callF, s_consA, s_df, s_dt, s_eqI, s_ft, s_g0, s_gs, s_ifE, s_ifS, s_ixL0, s_ixL1, s_ixL2, s_l0, s_lo0, s_ls, s_lstF, s_mn, s_nilA, s_nilS, s_nmG, s_op2, s_or, s_par2, s_retS, s_rs, s_runB, s_rz, s_seqS, s_sz0, s_sz1, s_sz2, s_sz3, s_t0, s_ts, s_tupF, s_vF, e0, i4, z5, hA, e1, e2] <;> rfl, t46_24⟩
    · exact ⟨_, y2, by simp only [seval, s_an, s_asgS, s_bF, s_bQ, s_ba, s_bif, s_bs, s_cF, s_callBF, s_callF, s_consA, s_df, s_eqI, s_ft, s_g0, s_gs, s_ifE, s_ifS, s_ixL0, s_ixL1, s_ixL2, s_l0, s_lo0, s_ls, s_lstF, s_mn, s_nilA, s_nilS, s_nmG, s_op2, s_or, s_par2, s_retS, s_rs, s_runB, s_rz, s_seqS, s_sz0, s_sz1, s_sz2, s_sz3, s_t0, s_ts, s_tupF, s_vF, e0, i4, z5, hA, e1, e2] <;> rfl, t46_31⟩
  · rcases hw with rfl | rfl | rfl | rfl | rfl | rfl
    · exact ⟨_, y2, by simp only [seval, s_an, s_asgS, s_bF, s_bQ, s_ba, s_bif, s_bs, s_cF, s_callBF, s_callF, s_consA, s_df, s_dt, s_eqI, s_ft, s_g0, s_gs, s_ifE, s_ifS, s_ixL0, s_ixL1, s_ixL2, s_l0, s_lo0, s_ls, s_lstF, s_mn, s_nilA, s_nilS, s_nmG, s_op2, s_or, s_par2, s_retS, s_rs, s_runB, s_rz, s_seqS, s_sz0, s_sz1, s_sz2, s_sz3, s_t0, s_ts, s_tupF, s_vF, e0, i4, z5, hA, e1, e2] <;> rfl, t46_0⟩
    · exact ⟨_, y2, by simp only [seval, s_an, s_asgS, s_bF, s_bQ, s_ba, s_bif, s_bs, s_cF, s_callBF, s_callF, s_consA, s_df, s_dt, s_eqI, s_ft, s_g0, s_gs, s_ifE, s_ifS, s_ixL0, s_ixL1, s_ixL2, s_l0, s_lo0, s_ls, s_lstF, s_mn, s_nilA, s_nilS, s_nmG, s_op2, s_or, s_par2, s_retS, s_rs, s_runB, s_rz, s_seqS, s_sz0, s_sz1, s_sz2, s_sz3, s_t0, s_ts, s_tupF, s_vF, e0, i4, z5, hA, e1, e2] <;> rfl, t46_4⟩
    · exact ⟨_, y2, by simp only [seval, s_an, s_asgS, s_bF, s_bQ, s_ba, s_bif, s_bs, s_cF, s_callBF, s_callF, s_consA, s_df, s_dt, s_eqI, s_ft, s_g0, s_gs, s_ifE, s_ifS, s_ixL0, s_ixL1, s_ixL2, s_l0, s_lo0, s_ls, s_lstF, s_mn, s_nilA, s_nilS, s_nmG, s_op2, s_or, s_par2, s_retS, s_rs, s_runB, s_rz, s_seqS, s_sz0, s_sz1, s_sz2, s_sz3, s_t0, s_ts, s_tupF, s_vF, e0, i4, z5, hA, e1, e2] <;> rfl, t46_11⟩
    · exact ⟨_, y2, by simp only [seval, s_an, s_asgS, s_bF, s_bQ, s_ba, s_bif, s_bs, s_cF, s_callBF, s_callF, s_consA, s_df, s_dt, s_eqI, s_ft, s_g0, s_gs, s_ifE, s_ifS, s_ixL0, s_ixL1, s_ixL2, s_l0, s_lo0, s_ls, s_lstF, s_mn, s_nilA, s_nilS, s_nmG, s_op2, s_or, s_par2, s_retS, s_rs, s_runB, s_rz, s_seqS, s_sz0, s_sz1, s_sz2, s_sz3, s_t0, s_ts, s_tupF, s_vF, e0, i4, z5, hA, e1, e2] <;> rfl, t46_18⟩
    · exact ⟨_, y2, by simp only [seval, s_an, s_asgS, s_bF, s_bQ, s_ba, s_bif, s_bs, s_cF, s_callBF, s_callF, s_consA, s_df, s_dt, s_eqI, s_ft, s_g0, s_gs, s_ifE, s_ifS, s_ixL0, s_ixL1, s_ixL2, s_l0, s_lo0, s_ls, s_lstF, s_mn, s_nilA, s_nilS, s_nmG, s_op2, s_or, s_par2, s_retS, s_rs, s_runB, s_rz, s_seqS, s_sz0, s_sz1, s_sz2, s_sz3, s_t0, s_ts, s_tupF, s_vF, e0, i4, z5, hA, e1, e2] <;> rfl, t46_25⟩
    · exact ⟨_, y2, by simp only [seval, s_an, s_asgS, s_bF, s_bQ, s_ba, s_bif, s_bs, s_cF, s_callBF, s_callF, s_consA, s_df, s_eqI, s_ft, s_g0, s_gs, s_ifE, s_ifS, s_ixL0, s_ixL1, s_ixL2, s_l0, s_lo0, s_ls, s_lstF, s_mn, s_nilA, s_nilS, s_nmG, s_op2, s_or, s_par2, s_retS, s_rs, s_runB, s_rz, s_seqS, s_sz0, s_sz1, s_sz2, s_sz3, s_t0, s_ts, s_tupF, s_vF, e0, i4, z5, hA, e1, e2] <;> rfl, t46_32⟩
  · rcases hw with rfl | rfl | rfl | rfl | rfl | rfl
    · exact ⟨_, y2, by simp only [seval, s_an, s_asgS, s_bF, s_bQ, s_ba, s_bif, s_bs, s_cF, s_callBF, s_callF, s_consA, s_df, s_dt, s_eqI, s_ft, s_g0, s_gs, s_ifE, s_ifS, s_ixL0, s_ixL1, s_ixL2, s_l0, s_lo0, s_ls, s_lstF, s_mn, s_nilA, s_nilS, s_nmG, s_op2, s_or, s_par2, s_retS, s_rs, s_runB, s_rz, s_seqS, s_sz0, s_sz1, s_sz2, s_sz3, s_t0, s_ts, s_tupF, s_vF, e0, i4, z5, hA, e1, e2] <;> rfl, t46_0⟩
    · exact ⟨_, y2, by simp only [seval, s_an, s_asgS, s_bF, s_bQ, s_ba, s_bif, s_bs, s_cF, s_callBF, s_callF, s_consA, s_df, s_dt, s_eqI, s_ft, s_g0, s_gs, s_ifE, s_ifS, s_ixL0, s_ixL1, s_ixL2, s_l0, s_lo0, s_ls, s_lstF, s_mn, s_nilA, s_nilS, s_nmG, s_op2, s_or, s_par2, s_retS, s_rs, s_runB, s_rz, s_seqS, s_sz0, s_sz1, s_sz2, s_sz3, s_t0, s_ts, s_tupF, s_vF, e0, i4, z5, hA, e1, e2] <;> rfl, t46_5⟩
    · exact ⟨_, y2, by simp only [seval, s_an, s_asgS, s_bF, s_bQ, s_ba, s_bif, s_bs, s_cF, s_callBF, s_callF, s_consA, s_df, s_dt, s_eqI, s_ft, s_g0, s_gs, s_ifE, s_ifS, s_ixL0, s_ixL1, s_ixL2, s_l0, s_lo0, s_ls, s_lstF, s_mn, s_nilA, s_nilS, s_nmG, s_op2, s_or, s_par2, s_retS, s_rs, s_runB, s_rz, s_seqS, s_sz0, s_sz1, s_sz2, s_sz3, s_t0, s_ts, s_tupF, s_vF, e0, i4, z5, hA, e1, e2] <;> rfl, t46_12⟩
    · exact ⟨_, y2, by simp only [seval, s_an, s_asgS, s_bF, s_bQ, s_ba, s_bif, s_bs, s_cF, s_callBF, s_callF, s_consA, s_df, s_dt, s_eqI, s_ft, s_g0, s_gs, s_ifE, s_ifS, s_ixL0, s_ixL1, s_ixL2, s_l0, s_lo0, s_ls, s_lstF, s_mn, s_nilA, s_nilS, s_nmG, s_op2, s_or, s_par2, s_retS, s_rs, s_runB, s_rz, s_seqS, s_sz0, s_sz1, s_sz2, s_sz3, s_t0, s_ts, s_tupF, s_vF, e0, i4, z5, hA, e1, e2] <;> rfl, t46_19⟩
    · exact ⟨_, y2, by simp only [seval, s_an, s_asgS, s_bF, s_bQ, s_ba, s_bif, s_bs, s_cF, s_callBF, s_callF, s_consA, s_df, s_dt, s_eqI, s_ft, s_g0, s_gs, s_ifE, s_ifS, s_ixL0, s_ixL1, s_ixL2, s_l0, s_lo0, s_ls, s_lstF, s_mn, s_nilA, s_nilS, s_nmG, s_op2, s_or, s_par2, s_retS, s_rs, s_runB, s_rz, s_seqS, s_sz0, s_sz1, s_sz2, s_sz3, s_t0, s_ts, s_tupF, s_vF, e0, i4, z5, hA, e1, e2] <;> rfl, t46_26⟩
    · exact ⟨_, y2, by simp only [seval, s_an, s_asgS, s_bF, s_bQ, s_ba, s_bif, s_bs, s_cF, s_callBF, s_callF, s_consA, s_df, s_eqI, s_ft, s_g0, s_gs, s_ifE, s_ifS, s_ixL0, s_ixL1, s_ixL2, s_l0, s_lo0, s_ls, s_lstF, s_mn, s_nilA, s_nilS, s_nmG, s_op2, s_or, s_par2, s_retS, s_rs, s_runB, s_rz, s_seqS, s_sz0, s_sz1, s_sz2, s_sz3, s_t0, s_ts, s_tupF, s_vF, e0, i4, z5, hA, e1, e2] <;> rfl, t46_33⟩
  · rcases hw with rfl | rfl | rfl | rfl | rfl | rfl
    · exact ⟨_, y2, by simp only [seval, s_an, s_asgS, s_bF, s_bQ, s_ba, s_bif, s_bs, s_cF, s_callBF, s_callF, s_consA, s_df, s_dt, s_eqI, s_ft, s_g0, s_gs, s_ifE, s_ifS, s_ixL0, s_ixL1, s_ixL2, s_l0, s_lo0, s_ls, s_lstF, s_mn, s_nilA, s_nilS, s_nmG, s_op2, s_or, s_par2, s_retS, s_rs, s_runB, s_rz, s_seqS, s_sz0, s_sz1, s_sz2, s_sz3, s_t0, s_ts, s_tupF, s_vF, e0, i4, z5, hA, e1, e2] <;> rfl, t46_0⟩
    · exact ⟨_, y2, by simp only [seval, s_an, s_asgS, s_bF, s_bQ, s_ba, s_bif, s_bs, s_cF, s_callBF, s_callF, s_consA, s_df, s_dt, s_eqI, s_ft, s_g0, s_gs, s_ifE, s_ifS, s_ixL0, s_ixL1, s_ixL2, s_l0, s_lo0, s_ls, s_lstF, s_mn, s_nilA, s_nilS, s_nmG, s_op2, s_or, s_par2, s_retS, s_rs, s_runB, s_rz, s_seqS, s_sz0, s_sz1, s_sz2, s_sz3, s_t0, s_ts, s_tupF, s_vF, e0, i4, z5, hA, e1, e2] <;> rfl, t46_6⟩
    · exact ⟨_, y2, by simp only [seval, s_an, s_asgS, s_bF, s_bQ, s_ba, s_bif, s_bs, s_cF, s_callBF, s_callF, s_consA, s_df, s_dt, s_eqI, s_ft, s_g0, s_gs, s_ifE, s_ifS, s_ixL0, s_ixL1, s_ixL2, s_l0, s_lo0, s_ls, s_lstF, s_mn, s_nilA, s_nilS, s_nmG, s_op2, s_or, s_par2, s_retS, s_rs, s_runB, s_rz, s_seqS, s_sz0, s_sz1, s_sz2, s_sz3, s_t0, s_ts, s_tupF, s_vF, e0, i4, z5, hA, e1, e2] <;> rfl, t46_13⟩
    · exact ⟨_, y2, by simp only [seval, s_an, s_asgS, s_bF, s_bQ, s_ba, s_bif, s_bs, s_cF, s_callBF, s_callF, s_consA, s_df, s_dt, s_eqI, s_ft, s_g0, s_gs, s_ifE, s_ifS, s_ixL0, s_ixL1, s_ixL2, s_l0, s_lo0, s_ls, s_lstF, s_mn, s_nilA, s_nilS, s_nmG, s_op2, s_or, s_par2, s_retS, s_rs, s_runB, s_rz, s_seqS, s_sz0, s_sz1, s_sz2, s_sz3, s_t0, s_ts, s_tupF, s_vF, e0, i4, z5, hA, e1, e2] <;> rfl, t46_20⟩
    · exact ⟨_, y2, by simp only [seval, s_an, s_asgS, s_bF, s_bQ, s_ba, s_bif, s_bs, s_cF, s_callBF, s_callF, s_consA, s_df, s_dt, s_eqI, s_ft, s_g0, s_gs, s_ifE, s_ifS, s_ixL0, s_ixL1, s_ixL2, s_l0, s_lo0, s_ls, s_lstF, s_mn, s_nilA, s_nilS, s_nmG, s_op2, s_or, s_par2, s_retS, s_rs, s_runB, s_rz, s_seqS, s_sz0, s_sz1, s_sz2, s_sz3, s_t0, s_ts, s_tupF, s_vF, e0, i4, z5, hA, e1, e2] <;> rfl, t46_27⟩
    · exact ⟨_, y2, by simp only [seval, s_an, s_asgS, s_bF, s_bQ, s_ba, s_bif, s_bs, s_cF, s_callBF, s_callF, s_consA, s_df, s_eqI, s_ft, s_g0, s_gs, s_ifE, s_ifS, s_ixL0, s_ixL1, s_ixL2, s_l0, s_lo0, s_ls, s_lstF, s_mn, s_nilA, s_nilS, s_nmG, s_op2, s_or, s_par2, s_retS, s_rs, s_runB, s_rz, s_seqS, s_sz0, s_sz1, s_sz2, s_sz3, s_t0, s_ts, s_tupF, s_vF, e0, i4, z5, hA, e1, e2] <;> rfl, t46_34⟩
  · rcases hw with rfl | rfl | rfl | rfl | rfl | rfl
    · exact ⟨_, y2, by simp only [seval, s_an, s_asgS, s_bF, s_bQ, s_ba, s_bif, s_bs, s_cF, s_callBF, s_callF, s_consA, s_df, s_dt, s_eqI, s_ft, s_g0, s_gs, s_ifE, s_ifS, s_ixL0, s_ixL1, s_ixL2, s_l0, s_lo0, s_ls, s_lstF, s_mn, s_nilA, s_nilS, s_nmG, s_op2, s_or, s_par2, s_retS, s_rs, s_runB, s_rz, s_seqS, s_sz0, s_sz1, s_sz2, s_sz3, s_t0, s_ts, s_tupF, s_vF, e0, i4, z5, hA, e1, e2] <;> rfl, t46_0⟩
    · exact ⟨_, y2, by simp only [seval, s_an, s_asgS, s_bF, s_bQ, s_ba, s_bif, s_bs, s_cF, s_callBF, s_callF, s_consA, s_df, s_dt, s_eqI, s_ft, s_g0, s_gs, s_ifE, s_ifS, s_ixL0, s_ixL1, s_ixL2, s_l0, s_lo0, s_ls, s_lstF, s_mn, s_nilA, s_nilS, s_nmG, s_op2, s_or, s_par2, s_retS, s_rs, s_runB, s_rz, s_seqS, s_sz0, s_sz1, s_sz2, s_sz3, s_t0, s_ts, s_tupF, s_vF, e0, i4, z5, hA, e1, e2] <;> rfl, t46_7⟩
    · exact ⟨_, y2, by simp only [seval, s_an, s_asgS, s_bF, s_bQ, s_ba, s_bif, s_bs, s_cF, s_callBF, s_callF, s_consA, s_df, s_dt, s_eqI, s_ft, s_g0, s_gs, s_ifE, s_ifS, s_ixL0, s_ixL1, s_ixL2, s_l0, s_lo0, s_ls, s_lstF, s_mn, s_nilA, s_nilS, s_nmG, s_op2, s_or, s_par2, s_retS, s_rs, s_runB, s_rz, s_seqS, s_sz0, s_sz1, s_sz2, s_sz3, s_t0, s_ts, s_tupF, s_vF, e0, i4, z5, hA, e1, e2] <;> rfl, t46_14⟩
    · exact ⟨_, y2, by simp only [seval, s_an, s_asgS, s_bF, s_bQ, s_ba, s_bif, s_bs, s_cF, s_callBF, s_callF, s_consA, s_df, s_dt, s_eqI, s_ft, s_g0, s_gs, s_ifE, s_ifS, s_ixL0, s_ixL1, s_ixL2, s_l0, s_lo0, s_ls, s_lstF, s_mn, s_nilA, s_nilS, s_nmG, s_op2, s_or, s_par2, s_retS, s_rs, s_runB, s_rz, s_seqS, s_sz0, s_sz1, s_sz2, s_sz3, s_t0, s_ts, s_tupF, s_vF, e0, i4, z5, hA, e1, e2] <;> rfl, t46_21⟩
    · exact ⟨_, y2, by simp only [seval, s_an, s_asgS, s_bF, s_bQ, s_ba, s_bif, s_bs, s_cF, s_callBF, s_callF, s_consA, s_df, s_dt, s_eqI, s_ft, s_g0, s_gs, s_ifE, s_ifS, s_ixL0, s_ixL1, s_ixL2, s_l0, s_lo0, s_ls, s_lstF, s_mn, s_nilA, s_nilS, s_nmG, s_op2, s_or, s_par2, s_retS, s_rs, s_runB, s_rz, s_seqS, s_sz0, s_sz1, s_sz2, s_sz3, s_t0, s_ts, s_tupF, s_vF, e0, i4, z5, hA, e1, e2] <;> rfl, t46_28⟩
    · exact ⟨_, y2, by simp only [seval, s_an, s_asgS, s_bF, s_bQ, s_ba, s_bif, s_bs, s_cF, s_callBF, s_callF, s_consA, s_df, s_eqI, s_ft, s_g0, s_gs, s_ifE, s_ifS, s_ixL0, s_ixL1, s_ixL2, s_l0, s_lo0, s_ls, s_lstF, s_mn, s_nilA, s_nilS, s_nmG, s_op2, s_or, s_par2, s_retS, s_rs, s_runB, s_rz, s_seqS, s_sz0, s_sz1, s_sz2, s_sz3, s_t0, s_ts, s_tupF, s_vF, e0, i4, z5, hA, e1, e2] <;> rfl, t46_35⟩
theorem d_right {ys : List PyData} (hp : PotD ys) : ∃ ys', r__law_right ys [] = some (.bool true, ys') := by
  obtain ⟨k, y1, e, h⟩ := d_small hp
  refine ⟨y1, ?_⟩
  have h := h y1
  unfold out46 at h
  obtain ⟨⟨o, l⟩, h1, h2⟩ := Option.bind_eq_some_iff.mp h
  unfold r__law_right
  rw [rest46_eq]
  simp only [seval, s_an, s_asgS, s_bs, s_callBF, s_g0, s_l0, s_lo0, s_mn, s_nilA, s_nmG, s_rs, s_runB, s_rz, s_seqS, s_t0, s_ts, e, h1]
  cases o <;> exact h2
theorem rlaw46 (ns : List Int) (_h : ns.length ≤ 63) : r_law [.list (ns.map PyData.int)] = some (.bool true) := by
  obtain ⟨ys, e1, hp⟩ := d_pot ns
  obtain ⟨ys', e2⟩ := d_right hp
  have e1 : rL__law_pot [.list (ns.map PyData.int), .int 0] = some ys := e1
  have a : (callLF rL__law_pot (consA (vF 0) (consA (cF (.int 0)) nilA))) [some (L.dat (.list (ns.map PyData.int)))] = some (ys, [some (L.dat (.list (ns.map PyData.int)))]) := by
    unfold callLF
    simp only [seval, s_bs, s_cF, s_consA, s_g0, s_nilA, s_vF, e1]
  have b : (callBN r__law_right (callLF rL__law_pot (consA (vF 0) (consA (cF (.int 0)) nilA))) nilA) [some (L.dat (.list (ns.map PyData.int)))] = some (.bool true, [some (L.dat (.list (ns.map PyData.int)))]) := by
    unfold callBN
    simp only [a, seval, s_bs, s_nilA, e2]
  unfold r_law g_law
  simp only [seval, s_ac, s_an, s_bs, s_l0, s_lo0, s_ls, s_mc, s_mn, s_or, s_retS, s_runD, s_rz, b]
end Ev
set_option maxHeartbeats 0
open PySem PySem.W PySem.Calls PyProof.Rows
theorem PySem.Challenge.cw_partsmet_k46_whole_grades_by_all_states_holds : PySem.Challenge.rw_partsmet_k46_whole_grades_by_all_states.Holds := by
  refine Wl46 fun said => ?_
  refine HandSHeadRun.head_any (r := OpenLaw.row PySem.Challenge.rw_partsmet_k46_whole_grades_by_all_states) (q := Ev.q8) (H := Ev.hook8 Ev.S8 Ev.top) (ob := Ev.ob8) (M := 9000) (loose := Ev.loose8) (d := HandSHeadRun.topDef (OpenLaw.row PySem.Challenge.rw_partsmet_k46_whole_grades_by_all_states).prog 95) (kwd := []) Ev.ob8_eq
    (by kernel_rfl) (fun s => by kernel_rfl) Ev.run8 (by kernel_rfl) (by kernel_rfl) (by kernel_rfl) (by rfl) (by first | assumption | decide +kernel) (by decide +kernel) ⟨rfl, rfl, rfl, rfl, rfl, by decide +kernel⟩ ?hw ?hc
  case hw => w_witness2
  case hc =>
    refine Att.attach_callB (l := PySem.Challenge.rw_partsmet_k46_whole_grades_by_all_states) (n := 63) rfl (by kernel_rfl) fun w s0 s1 mg mb fa o pm cd doc a us ns G Y ho hd hcd hmg0 hobj hints hlen hbits hg => ?_
    obtain ⟨K, KX, hx⟩ := Y
    have hmg : mg ("law" : PySem.Str) = some (.ref fa) := by
      have e : (HandSHeadRun.topDef (OpenLaw.row PySem.Challenge.rw_partsmet_k46_whole_grades_by_all_states).prog 95).name = ("law" : PySem.Str) := by kernel_rfl
      rw [← e]
      exact hmg0
    exact Ev.said Ev.rlaw46 G KX hmg (by decide +kernel) hg hobj hints hlen hx (by decide +kernel)
