import PyProof.Rows.All
import Wide.All
import OpenK.AllK
import Wide.FinOn
import PyProof.EqAt
import PyProof.EqKinds
import PyProof.TupleCall
import KE.KNest
import HandS.Base
import HandS.Call
import HandS.List
import HandS.Comp
import HandS.AnyAll
import HandS.GenOver
import HandS.GenList
import HandS.ForMost
import HandS.Exc
import HandS.WordsExc
import HandS.EndTab
import HandS.IsInst
import HandS.SetBool
import HandS.SetKeys
import HandS.RaiseMore
import HandS.ExcOwn
import HandS.ExcInit
import HandS.ExcField
import KE.KExcIs
import HandS.SortKw
import HandS.RevRange
import KE.KMinKey
import HandS.More
import HandS.Small
import HandS.ExcIs
import HandS.Text
import PyProof.StrBlock2
import HandS.Style
import HandS.ReplaceLit
import HandS.ReplaceList
import HandS.ReplaceDef
import HandS.Iter
import PyProof.P3In
import HandS.Walk
import PySem.Challenge.RW_remoteviews_k03_no_expressions
set_option Elab.async false
set_option linter.all false
set_option maxRecDepth 100000
set_option maxHeartbeats 4000000
/-! all(e for x in it): the element any expression, its names the target's and captured ones. -/
namespace Gx
open PySem PySem.Spec PyProof.Rows L2 GxR
open Sem (wp)

/-- the around of a generator expression's code over a consumer's call -/
theorem over_gen {A : Around} {elt tg iter : Expr} {ifs : List Expr} {scope : Scope} {pos : Pos} {it acc : Value} {env : Env} :
    A.over (.compLoop (.GeneratorExp elt [⟨tg, iter, ifs, 0⟩] scope pos) 0 it acc env) [] = A.deeper env := by
  first
    | rfl
    | (obtain ⟨hd, d, fr, gs, u⟩ := A; simp [Around.over, Around.deeper, marksOver, frameCount, unitsOf, envsOf, guardsOf, pushEnvs, pushGuards, Code.envs, Code.env?, Code.isFrame, Code.guards, Code.isGuard, Code.weight, Code.frames, Code.isCreation, Code.isCaller, Code.cUnits])
theorem over_genS {A : Around} {elt tg iter : Expr} {ifs : List Expr} {scope : Scope} {pos : Pos} {it acc : Value} {env : Env} :
    A.over (.compStart (.GeneratorExp elt [⟨tg, iter, ifs, 0⟩] scope pos) 0 it acc env) [] = A.deeper env := by
  first
    | rfl
    | (obtain ⟨hd, d, fr, gs, u⟩ := A; simp [Around.over, Around.deeper, marksOver, frameCount, unitsOf, envsOf, guardsOf, pushEnvs, pushGuards, Code.envs, Code.env?, Code.isFrame, Code.guards, Code.isGuard, Code.weight, Code.frames, Code.isCreation, Code.isCaller, Code.cUnits])

/-- the context of a generator expression's block: begun at s; pn: its own object -/
abbrev gx (X : Cx) (N : List Str) (s : Shared) (H : Hp) (cenv : Env) (fp : List Addr) (pn : List (Addr × Obj)) : Cx :=
  { X with A := X.A.in1.in1.deeper cenv, N := N, s_0 := s, H_0 := H, env := cenv, outer := X.stack, stack := cenv :: X.stack, ex := fp, fn := fun _ => false, pn := pn, xe := fun _ _ => False }

/-- captured names: their places in the def's names -/
structure Caps (X : Cx) (scope : Scope) (caps : List (Str × Nat)) : Prop where
  ix : ∀ p ∈ caps, X.N[p.2]? = some p.1
  free : ∀ p ∈ caps, scope.names.lookup p.1 = some .free
  vis : ∀ p ∈ caps, X.env.scope.names.lookup p.1 = some .cell ∨ X.env.scope.names.lookup p.1 = some .free
theorem Caps.nil {X : Cx} {scope : Scope} : Caps X scope [] := ⟨fun _ h => (by cases h), fun _ h => (by cases h), fun _ h => (by cases h)⟩
def capV (σ : L2.St) (caps : List (Str × Nat)) : L2.St := caps.map fun p => (σ[p.2]?).join
def capN (caps : List (Str × Nat)) : List Str := caps.map (·.1)

section
variable {X : Cx} {pins : List (Addr × Obj)} {σ : L2.St} {H : Hp} {s : Shared}

theorem gen_start {scope : Scope} {x : Str} {code : Value} {caps : List (Str × Nat)} {fp : List Addr} {s5 : Shared} {go : Obj} {m : Str → Option Value} (I : Inv X pins σ H s) (S : GenS X.env scope x) (C : Caps X scope caps) (hd : X.A.handled = none)
    (hfp : ∀ b ∈ fp, FpOk X pins H b ∧ b < s.heap.objs.size)
    (hos : s5.os = s.os) (hba : AllBare s5.gens) (hk : ∀ b o, s.heap.get? b = some o → s5.heap.get? b = some o)
    (hn : s5.heap.Ns s.heap.objs.size m) (hgo : s5.heap.get? (s.heap.objs.size + 1) = some go) (hgc : ∀ v, go.data ≠ .cell v) :
    Inv (gx X (x :: capN caps) s H (genEnv scope (cloFrom X.env.cells scope.names []) s.heap.objs.size code builtinsNs X.env) fp [(s.heap.objs.size + 1, go)]) [] (none :: capV σ caps) H s5 := by
  have cm : ∀ {y c}, (y, c) ∈ cloFrom X.env.cells scope.names [] → X.env.cells.lookup y = some c ∧ c < s.heap.objs.size := fun {y c} hm => by
    rcases cloFrom_mem hm with hm | ⟨h1, rfl⟩
    · cases hm
    · obtain ⟨c, hc⟩ := S.free _ h1 rfl
      rw [hc]
      obtain ⟨w, z⟩ := I.cell _ _ hc
      exact ⟨rfl, z.lt⟩
  have lk : ∀ {y c}, (cloFrom X.env.cells scope.names []).lookup y = some c → X.env.cells.lookup y = some c ∧ c < s.heap.objs.size := fun {y c} e => cm (PySem.mem_of_lookup e)
  have look : ∀ {y}, scope.names.lookup y = some .free → ∃ c, (cloFrom X.env.cells scope.names []).lookup y = some c ∧ X.env.cells.lookup y = some c := fun {y} hl => by
    have hy : (y, NameKind.free) ∈ scope.names := PySem.mem_of_lookup hl
    obtain ⟨c', e'⟩ := mem_lookup (cloFrom_has (cells := X.env.cells) (acc := []) hy)
    exact ⟨c', e', (lk e').1⟩
  refine ⟨⟨I.ok.mod, S.kind, I.ok.glob, rfl, Nat.le_refl _, fun y z c e1 e2 => I.ok.inj y z c (lk e1).1 (lk e2).1, fun y hy => ?_, fun y c z => absurd z (by simp), fun _ => hd, ?_, .inr ⟨rfl, rfl⟩, fun b hb => ⟨?_, fun y c e z => ?_⟩, I.bs, Nat.le_trans I.ok.bsz I.sz, fun b o e hb => ?_, fun b hb z => ?_, I.stack, I.stkFree⟩,
    hos, hba, Un.kept hk, ⟨m, hn, fun i y v e1 e2 e3 => ?_⟩, fun y c e => ?_, ?_, fun y c e => ?_, fun p hp => ?_, I.hok.kept hk, ?_⟩
  · have hy : scope.names.lookup y = some .cell ∨ scope.names.lookup y = some .free := hy
    rcases hy with hy | hy
    · exact absurd rfl (S.cell _ (PySem.mem_of_lookup hy))
    · obtain ⟨c, e, _⟩ := look hy
      exact ⟨c, e⟩
  · exact Around.frames_deeper (A := X.A.in1.in1) (show X.A.in1.in1.frames = some X.stack from I.ok.frames)
  · show b ≠ s.heap.objs.size
    exact Nat.ne_of_lt (hfp b hb).2
  · exact (hfp b hb).1.2.2.2.2.1 y c (lk e).1 z
  · rcases (hfp b hb).1.2.2.2.1 with z | z
    · exact I.ok.noex b o e z
    · exact absurd (Nat.lt_of_lt_of_le (Heap.lt_size e) (Nat.le_trans I.ok.bsz z)) (Nat.lt_irrefl _)
  · rcases List.mem_cons.mp (I.stkSub b z) with z | z
    · exact (hfp b hb).1.2.1 z
    · exact (hfp b hb).1.2.2.1 z
  · cases i with
    | zero => cases e2
    | succ i =>
      have e1 : (capN caps)[i]? = some y := e1
      have e2 : (capV σ caps)[i]? = some (some v) := e2
      unfold capN at e1
      unfold capV at e2
      rw [List.getElem?_map] at e1 e2
      cases hp : caps[i]? with
      | none => rw [hp] at e1; cases e1
      | some p =>
        rw [hp] at e1 e2
        have ey : p.1 = y := Option.some.inj e1
        have ev : (σ[p.2]?).join = some v := Option.some.inj e2
        have hpm : p ∈ caps := List.mem_of_getElem? hp
        have ev2 : σ[p.2]? = some (some v) := by
          cases q : σ[p.2]? with
          | none => rw [q] at ev; cases ev
          | some w => rw [q] at ev; rw [show w = some v from ev]
        obtain ⟨m0, hn0, hl0⟩ := I.loc
        have hv := C.vis p hpm
        obtain ⟨u, r, l⟩ := hl0 p.2 p.1 v (C.ix p hpm) ev2 (.inr hv)
        subst ey
        refine ⟨u, r, .inr ⟨.inr (C.free p hpm), ?_⟩⟩
        obtain ⟨c, h1, h2⟩ := look (C.free p hpm)
        rcases l with ⟨k, _⟩ | ⟨_, c', e', z⟩
        · have k : X.env.scope.names.lookup p.1 = some .local := k
          rcases hv with k' | k' <;> rw [k'] at k <;> cases k
        · rw [h2] at e'; cases e'
          exact ⟨c, h1, z.keeps hk⟩
  · obtain ⟨w, z⟩ := I.cell y c (lk e).1
    exact ⟨w, z.keeps hk⟩
  · exact I.hok.fresh (Nat.le_refl _)
  · exact I.freeC y c (lk e).1
  · have hp : p ∈ [(s.heap.objs.size + 1, go)] ++ [] := hp
    rw [List.append_nil] at hp
    rw [List.mem_singleton.mp hp]
    exact ⟨hgo, I.hok.fresh (Nat.le_succ _), (Nat.succ_ne_self _), fun hb => by
      rcases List.mem_cons.mp (I.stkSub _ hb) with z | z
      · have h1 := I.lt
        have z' : s.heap.objs.size + 1 = X.env.locals := z
        rw [← z'] at h1
        exact absurd (Nat.lt_of_succ_lt h1) (Nat.lt_irrefl _)
      · exact I.nofs (Nat.le_succ _) z, hgc⟩
  · show (none :: capV σ caps).length = (x :: capN caps).length
    unfold capV capN
    simp
end

/-- woken again: only the generators' table turned -/
structure Woke (s s' : Shared) : Prop where
  heap : s'.heap = s.heap
  os : s'.os = s.os
  bare : AllBare s'.gens
theorem inv_woke {X : Cx} {pins : List (Addr × Obj)} {σ : L2.St} {H : Hp} {s s' : Shared} (I : Inv X pins σ H s) (z : Woke s s') : Inv X pins σ H s' :=
  I.call' (ch := []) z.os (by rw [z.heap]; exact Un.refl) (by rw [z.heap]; exact I.hok) z.bare fun b hb => by simp at hb

section
variable {X : Cx} {N : List Str} {s4 : Shared} {H4 : Hp} {cenv : Env} {fp : List Addr} {pn : List (Addr × Obj)} {J : It} {tn : Nat → Heap → Prop} {σ0 : L2.St} {W : Nat → Nat → Hp → Prop} {Ft Ff : Hp → Prop}

/-- asleep at turn i -/
def At (GX : Cx) (fp : List Addr) (tn : Nat → Heap → Prop) (σ0 : L2.St) (W : Nat → Nat → Hp → Prop) (n : Nat) (s : Shared) : Prop :=
  ∃ i m H, Inv GX [] σ0 H s ∧ tn i s.heap ∧ (∀ b ∈ fp, H b = none) ∧ W i m H ∧ m < n
/-- it has handed out v -/
def Yp (GX : Cx) (fp : List Addr) (tn : Nat → Heap → Prop) (σ0 : L2.St) (W : Nat → Nat → Hp → Prop) (Ff : Hp → Prop) : Protocol := fun n s₀ v s kap =>
  ∃ c, v = .bool c ∧ ((c = true ∧ At GX fp tn σ0 W n s ∧ ∀ s', Woke s s' → kap (.send .none) s') ∨ (c = false ∧ ∃ σ H, Inv GX [] σ H s ∧ Ff H))
def Ep (GX : Cx) (Ft : Hp → Prop) : GenEnd := fun n s₀ r s => r = .ok .next ∧ ∃ σ H, Inv GX [] σ H s ∧ Ft H

theorem stat_of {GX : Cx} {σ' : L2.St} {H' : Hp} {s' : Shared} (hex : GX.ex = fp) (hpn : ∀ p ∈ GX.pn, ∀ b ∈ fp, p.1 ≠ b) (I' : Inv GX [] σ' H' s') (hn : ∀ b ∈ fp, H' b = none) : ∀ b ∈ fp, FpOk GX [] H' b := fun b hb => by
  have hb' : b ∈ GX.ex := by rw [hex]; exact hb
  exact ⟨hn b hb, (I'.ok.exf b hb').1, I'.ok.exfs b hb', .inl hb', fun x c e => (I'.ok.exf b hb').2 x c e, fun p hp => hpn p (by rw [List.append_nil] at hp; exact hp) b hb⟩

theorem seg_loop {A : Around} {P : Program} {w : World} {K : PySem.W.Frag} {elt tg iter : Expr} {scope : Scope} {pos : Pos} {it : Addr} {GX : Cx} {g : TG} {te : TE}
    (hP : GX.prog = P) (hw : GX.w = w) (hK : GX.K = K) (hA : GX.A = A.deeper GX.env) (hcalm : GX.calm = true) (hxe : GX.xe = fun _ _ => False) (hex : GX.ex = fp) (hpn : ∀ p ∈ GX.pn, ∀ b ∈ fp, p.1 ≠ b) (hco : GX.env.scope.isCoroutine = false)
    (T : Turn P w K tg J fp it tn) (pg : PG GX tg g) (pe : PE GX elt te)
    (turn : ∀ i m H, W i m H → (J.stop i H ∧ Ft H) ∨ (J.go i H ∧ ∃ Nx : Hp → Prop, (∀ H', Nx H' → ∃ m', m' < m ∧ W (i + 1) m' H') ∧ ∀ x H', J.yld i H x H' → g x σ0 H' fun σ2 H3 => (∀ (j : Nat) v, σ0[j]? = some (some v) → σ2[j]? = some (some v)) ∧ te σ2 H3 fun y H5 => ∃ c, y = .bl c ∧ if c = true then Nx H5 else Ff H5)) :
    ∀ (n : Nat) (s₀ s : Shared), At GX fp tn σ0 W n s →
      Seg (model P w) A (Ep GX Ft) (Yp GX fp tn σ0 W Ff) n s₀ (.compLoop (.GeneratorExp elt [⟨tg, iter, [], 0⟩] scope pos) 0 (.ref it) .none GX.env)
        ((model P w).den (.compLoop (.GeneratorExp elt [⟨tg, iter, [], 0⟩] scope pos) 0 (.ref it) .none GX.env)) [] s := by
  subst hP hw hK
  have hAo : A.over (.compLoop (.GeneratorExp elt [⟨tg, iter, [], 0⟩] scope pos) 0 (.ref it) .none GX.env) [] = GX.A := over_gen.trans hA.symm
  have noE : ∀ {x : Value} {s' : Shared}, GX.xe x s' → False := fun {x s'} h => by rw [hxe] at h; exact h
  intro n
  induction n with
  | zero =>
    intro s₀ s h
    obtain ⟨i, m, H, _, _, _, _, hm⟩ := h
    exact absurd hm (Nat.not_lt_zero _)
  | succ n ih =>
    intro s₀ s h
    obtain ⟨i, m, H, I, st, nf, wi, hm⟩ := h
    show Seg _ A _ _ _ s₀ _ ((compTurn (.GeneratorExp elt [⟨tg, iter, [], 0⟩] scope pos) 0 (.ref it) .none GX.env).onRaise (leaving GX.env)) [] s
    rw [compTurn_gen, Sem.onRaise_eq_wrap]
    refine seg_bind_wrap (wpAny_standAt ?_)
    rcases turn i m H wi with ⟨stop, ft⟩ | ⟨go, Nx, hNx, step⟩
    · refine seg_bind_wrap ?_
      rw [hAo]
      refine thnF (T.done GX rfl rfl rfl hcalm i [] s _ H (fun _ _ => False) I (stat_of hex hpn I nf) st stop) fun r s1 ⟨hr, I1⟩ => ?_
      subst hr
      exact seg_end (.ok .next) ⟨rfl, _, H, I1, ft⟩
    · refine seg_bind_wrap ?_
      rw [hAo]
      refine thnF (T.item GX rfl rfl rfl hcalm i [] s _ H (fun _ _ => False) I (stat_of hex hpn I nf) st go) fun r s1 ⟨u, hr, h1⟩ => ?_
      subst hr
      refine seg_bind_wrap ?_
      rw [hAo]
      refine thnF h1 fun _ s2 ⟨x, H2, I2, r2, y2, st2, n2⟩ => ?_
      have I2' := I2.pinned (stat_of hex hpn I2 n2) (T.obj _ _ st2)
      refine seg_bind_wrap ?_
      rw [hAo]
      refine wpAny_mono (pg.run _ s2 _ H2 x u _ I2' r2 (step x H2 y2)) (fun _ s3 ⟨σ3, H3, I3, hl3, q3⟩ => ?_) fun _ _ hx => (noE hx).elim
      refine seg_bind_wrap (wpAny_tests_nil ?_)
      simp only [if_true]
      have hy : ∀ v, yieldOut GX.env v = yieldValue v := fun v => by simp only [yieldOut, hco, Bool.false_eq_true, if_false]
      simp only [hy]
      rw [Sem.bind_eq_wrap', Sem.bind_eq_wrap', Sem.wrap_wrap, Sem.wrap_wrap]
      refine seg_wrap ?_
      rw [hAo]
      refine wpAny_mono (pe.run _ s3 σ3 H3 _ I3 q3) (fun y s5 ⟨yv, H5, I5, r5, c, ey, q5⟩ => ?_) fun _ _ hx => (noE hx).elim
      subst ey
      have ev : y = Value.bool c := r5
      subst ev
      have pin' : ∀ b ∈ fp, ∀ o, s2.heap.get? b = some o → s5.heap.get? b = some o ∧ H5 b = none := fun b hb o e =>
        let z := I5.pin (b, o) (List.mem_append_right _ (List.mem_append_right _ (mem_pinsAt hb e)))
        ⟨z.1, z.2.1⟩
      have I6 : Inv GX [] σ0 H5 s5 := (I5.unpinned (pins := [])).weak (by rw [I.len, I5.len]) hl3
      have st6 : tn (i + 1) s5.heap := T.keep _ _ _ st2 fun b hb o e => (pin' b hb o e).1
      have n6 : ∀ b ∈ fp, H5 b = none := fun b hb => by
        obtain ⟨o, e, _⟩ := T.obj _ _ st2 b hb
        exact (pin' b hb o e).2
      refine seg_at (seg_yield rfl rfl rfl ⟨c, rfl, ?_⟩)
      cases c with
      | true =>
        obtain ⟨m', hm', w'⟩ := hNx H5 q5
        refine .inl ⟨rfl, ⟨i + 1, m', H5, I6, st6, n6, w', by omega⟩, fun s' z => ?_⟩
        exact seg_again rfl (ih s' s' ⟨i + 1, m', H5, inv_woke I6 z, by rw [z.heap]; exact st6, n6, w', by omega⟩)
      | false => exact .inr ⟨rfl, _, H5, I6, q5⟩
theorem seg_begin {A : Around} {P : Program} {w : World} {K : PySem.W.Frag} {elt tg iter : Expr} {scope : Scope} {pos : Pos} {it : Addr} {GX : Cx} {n : Nat} {s₀ s : Shared} {R : GenEnd} {Y : Protocol} {i : Nat}
    (T : Turn P w K tg J fp it tn) (st : tn i s.heap)
    (loop : Seg (model P w) A R Y n s₀ (.compLoop (.GeneratorExp elt [⟨tg, iter, [], 0⟩] scope pos) 0 (.ref it) .none GX.env) ((model P w).den (.compLoop (.GeneratorExp elt [⟨tg, iter, [], 0⟩] scope pos) 0 (.ref it) .none GX.env)) [] s) :
      Seg (model P w) A R Y n s₀ (.compStart (.GeneratorExp elt [⟨tg, iter, [], 0⟩] scope pos) 0 (.ref it) .none GX.env)
        ((model P w).den (.compStart (.GeneratorExp elt [⟨tg, iter, [], 0⟩] scope pos) 0 (.ref it) .none GX.env)) [] s := by
  show Seg _ A _ _ _ s₀ _ ((compStart (.GeneratorExp elt [⟨tg, iter, [], 0⟩] scope pos) 0 (.ref it) .none GX.env).onRaise (leaving GX.env)) [] s
  unfold compStart
  rw [Sem.onRaise_eq_wrap]
  show Seg _ A _ _ _ s₀ _ ((ask >>= _).wrap _ _ _ _) [] s
  refine seg_bind_wrap (wpAny_askSetting ?_)
  split
  · exact seg_again rfl loop
  · first
      | exact seg_bind_wrap (wpAny_rule (seg_bind_wrap (wpAny_standAt (seg_bind_wrap (T.self _ i s _ _ st (seg_again rfl loop))))))
      | (refine seg_bind_wrap (wpAny_rule ?_); show Seg _ A _ _ _ s₀ _ ((standAt iter.pos >>= _).wrap _ _ _ _) [] s; exact seg_bind_wrap (wpAny_standAt (seg_bind_wrap (T.self _ i s _ _ st (seg_again rfl loop)))))

theorem all_loop {A : Around} {P : Program} {w : World} {GX : Cx} {a : Addr} {g : Nat} {go : Obj} {R : Result → Shared → Prop}
    (hh : A.handled = none) (hd : A.depth < recursionLimit) (hgo : ∀ h : Heap, h.get? a = some go → h.IsGen a g) (hpn : (a, go) ∈ GX.pn)
    (hT : ∀ σ H s', Inv GX [] σ H s' → Ft H → R (.ok (.ret (.bool true))) s') (hF : ∀ σ H s', Inv GX [] σ H s' → Ff H → R (.ok (.ret (.bool false))) s') :
    ∀ (n : Nat) (s : Shared), s.heap.IsGen a g → s.heap.NoLimit →
      (∃ gs, s.gens[g]? = some gs ∧ gs.Goes (model P w) A.in1.in1 (Ep GX Ft) (Yp GX fp tn σ0 W Ff) n (.send .none) (s.setGen g .running)) →
      codeAny (model P w) A (.builtin "all.loop" ⟨[.ref a], []⟩) R s := by
  have goes : ∀ {gs : GenState} {B : Around} {n : Nat} {r : Resume} {s : Shared}, gs.Goes (model P w) B (Ep GX Ft) (Yp GX fp tn σ0 W Ff) n r s →
      gs.Goes (model P w) B (fun n s₀ r s₁ => r = .ok .next ∧ (fun (_ : Nat) (_ : Shared) s₁ => ∃ σ H, Inv GX [] σ H s₁ ∧ Ft H) n s₀ s₁) (Yp GX fp tn σ0 W Ff) n r s := fun h => h
  have pinned : ∀ {σ H s'}, Inv GX [] σ H s' → s'.heap.IsGen a g := fun {σ H s'} J => hgo _ (J.pin (a, go) (List.mem_append_left _ hpn)).1
  intro n
  induction n with
  | zero =>
    intro s hg hl ⟨gs, hgs, hgo'⟩
    refine codeAny_builtin F.entry_all_loop ?_
    rw [Around.under_plainId F.plain_all_loop _]
    show wpAny _ A.in1 (pyNext (.ref a) >>= _) _ _ s
    refine wpAny_bind (wpAny_pyNext_genexpQ (A := A.in1) hh hl hd hg hgs (goes hgo') (fun v s₁ gs' hbare hv => ?_) (fun s₁ hp h' hk => ?_))
    · obtain ⟨c, rfl, h⟩ := hv
      refine wpAny_bind (wpAny_holding (wpAny_truthy_bool ?_))
      refine wpAny_bind (wpAny_letGo ?_)
      rcases h with ⟨rfl, _, hk⟩ | ⟨rfl, σ, H, I, ff⟩
      · exact False.elim (hk s₁ ⟨rfl, rfl, (by
          obtain ⟨_, _, _, I1, _⟩ := ‹At _ _ _ _ _ _ _›
          exact I1.bare)⟩)
      · simp only [Bool.false_eq_true, if_false]
        refine wpAny_bind (wpAny_rule (wpAny_pure ?_))
        exact hF σ H _ (inv_woke I ⟨rfl, rfl, allBare_setGen I.bare hbare⟩) ff
    · obtain ⟨σ, H, I, ft⟩ := hp
      refine wpAny_bind (wpAny_rule (wpAny_pure ?_))
      have I2 : Inv GX [] σ H (s₁.setGen g .finished) := inv_woke I ⟨rfl, rfl, allBare_setGen I.bare rfl⟩
      exact hT σ H _ (I2.call' (ch := []) rfl (Un.kept hk) (I2.hok.kept hk) I2.bare fun b hb => by simp at hb) ft
  | succ n ih =>
    intro s hg hl ⟨gs, hgs, hgo'⟩
    have hgl : g < s.gens.size := (Array.getElem?_eq_some_iff.mp hgs).1
    refine codeAny_builtin F.entry_all_loop ?_
    rw [Around.under_plainId F.plain_all_loop _]
    show wpAny _ A.in1 (pyNext (.ref a) >>= _) _ _ s
    refine wpAny_bind (GenW.wpAny_gsz (n := g + 1) hgl (wpAny_pyNext_genexpQ (A := A.in1) hh hl hd hg hgs (goes hgo') (fun v s₁ gs' hbare hv => ?_) (fun s₁ hp h' hk => ?_)))
    · intro hsz
      obtain ⟨c, rfl, h⟩ := hv
      refine wpAny_bind (wpAny_holding (wpAny_truthy_bool ?_))
      refine wpAny_bind (wpAny_letGo ?_)
      rcases h with ⟨rfl, hat, hk⟩ | ⟨rfl, σ, H, I, ff⟩
      · simp only [if_true]
        obtain ⟨_, _, _, I1, _⟩ := id hat
        have hsz1 : g < s₁.gens.size := by
          have q : (s₁.setGen g gs').gens.size = s₁.gens.size := GenW.setGen_size _ _ _
          have hsz' : g + 1 ≤ (s₁.setGen g gs').gens.size := hsz
          omega
        refine wpAny_pure ⟨plainId_quiet F.plain_all_loop _, ih (s₁.setGen g gs') (show s₁.heap.IsGen a g from pinned I1) (show s₁.heap.NoLimit from I1.nolimit) ⟨gs', setGen_at hsz1, ?_⟩⟩
        exact hk _ ⟨rfl, rfl, allBare_setGen (allBare_setGen I1.bare hbare) rfl⟩
      · simp only [Bool.false_eq_true, if_false]
        refine wpAny_bind (wpAny_rule (wpAny_pure ?_))
        exact hF σ H _ (inv_woke I ⟨rfl, rfl, allBare_setGen I.bare hbare⟩) ff
    · intro _
      obtain ⟨σ, H, I, ft⟩ := hp
      refine wpAny_bind (wpAny_rule (wpAny_pure ?_))
      have I2 : Inv GX [] σ H (s₁.setGen g .finished) := inv_woke I ⟨rfl, rfl, allBare_setGen I.bare rfl⟩
      exact hT σ H _ (I2.call' (ch := []) rfl (Un.kept hk) (I2.hok.kept hk) I2.bare fun b hb => by simp at hb) ft
end

/-- all(elt for tg in iter), its element True or False; behind it the def's table may have grown.
W by the turn and a measure; a turn that gives False ends it -/
def tAllG (P : Addr) (wi : TI) (g : TG) (te : TE) (caps : List (Str × Nat)) : TE := fun σ H Q => wi σ H fun J H1 => TabG H1 P ∧ ∀ H2, Tabbed P H1 H2 →
  ∃ W : Nat → Nat → Hp → Prop, (∃ m, W 0 m H2) ∧ ∀ i m H, W i m H → (J.stop i H ∧ Q (.bl true) H) ∨
    (J.go i H ∧ ∃ Nx : Hp → Prop, (∀ H', Nx H' → ∃ m', m' < m ∧ W (i + 1) m' H') ∧ ∀ x H', J.yld i H x H' → g x (none :: capV σ caps) H' fun σ2 H3 =>
      (∀ (j : Nat) v, (none :: capV σ caps : L2.St)[j]? = some (some v) → σ2[j]? = some (some v)) ∧ te σ2 H3 fun y H5 => ∃ c, y = .bl c ∧ if c = true then Nx H5 else Q (.bl false) H5)

theorem pe_allG {X : Cx} {c P : Addr} {elt tg iter : Expr} {x : Str} {p pos gpos : Pos} {scope : Scope} {wi : TI} {g : TG} {te : TE} {k : Nat} {caps : List (Str × Nat)}
    (hr : Room (k + 1) X.A) (hg : Gl X "all") (hm : X.mg "all" = none) (TB : TabB X.base X.mg c P) (hcode : X.env.code = .ref c) (S : GenS X.env scope x) (C : Caps X scope caps) (hi : PI X tg iter wi) (hcalm : X.calm = true)
    (pg : ∀ (s : Shared) (H : Hp) (a : Addr) (code : Value) (fp : List Addr) (pn : List (Addr × Obj)), PG (gx X (x :: capN caps) s H (genEnv scope (cloFrom X.env.cells scope.names []) a code builtinsNs X.env) fp pn) tg g)
    (pe : ∀ (s : Shared) (H : Hp) (a : Addr) (code : Value) (fp : List Addr) (pn : List (Addr × Obj)), Room k (gx X (x :: capN caps) s H (genEnv scope (cloFrom X.env.cells scope.names []) a code builtinsNs X.env) fp pn).A → PE (gx X (x :: capN caps) s H (genEnv scope (cloFrom X.env.cells scope.names []) a code builtinsNs X.env) fp pn) elt te)
    (hb : bootBuiltins "all" = some (.builtin "all") := by decide +kernel)
    (hs : ∀ v, genFold iter X.env v = pure v := by intro _; rfl)
    (he : starEach [.GeneratorExp elt [⟨tg, iter, [], 0⟩] scope gpos] X.env = (false, eval (.GeneratorExp elt [⟨tg, iter, [], 0⟩] scope gpos) X.env) :: starEach [] X.env := by rfl) :
    PE X (.Call (.Name "all" p) [.GeneratorExp elt [⟨tg, iter, [], 0⟩] scope gpos] [] pos) (tAllG P wi g te caps) := by
  refine ⟨fun pins s σ H Q I h => ?_⟩
  refine wpAny_Call_Name_kw (ld_blt I hg hm hb ?_)
  refine PyProof.Rows.callWith_builtin1 ?_ he (by rfl)
  rw [he]
  show wpAny _ _ (spliced ((false, eval (.GeneratorExp elt [⟨tg, iter, [], 0⟩] scope gpos) X.env) :: backTo pos (starEach [] X.env))) _ _ s
  refine Calls.spliced_cons ?_
  refine wpAny_mono (Q := fun v s5 => wpAny (model X.prog X.w) X.A (call (.builtin "all") [v]) (EP X pins σ Q) X.xe s5) ?_ (fun v s5 hq => Calls.spliced_nil hq) fun _ _ h => h
  refine wpAny_GeneratorExp_make S.co (closure_ok S.free) S.cell S.dot S.kind (by have := hr.dp; omega) ?_ hs
  refine thn (hi.run pins s σ H _ I h) fun xv s1 h1 => thn h1 fun itv s2 h2 => ?_
  obtain ⟨it, fp, tn, J, H2, ei, I2, T, st2, f2, ⟨ps, hP, ht⟩, q⟩ := h2
  subst ei
  refine ⟨I2.nolimit, ?_⟩
  have hPs : s2.heap.get? P = some { cls := .none, data := .fields ps } := I2.hok P _ hP
  have hPlt : P < s2.heap.objs.size := Heap.lt_size hPs
  have cd : PySem.W.CodeHd s2.heap c P := TB.code.keeps fun b u e => I2.bk b u e
  have lim2 : s2.heap.NoLimit := I2.nolimit
  have fpP : ∀ b ∈ fp, b ≠ P := fun b hb z => by
    have q := (f2 b hb).1
    rw [z, hP] at q
    cases q
  have cont : ∀ (code : Value) (h3 : Heap) (tk : Nat) (ps' : Array Value), Heap.ExtBut P s2.heap h3 → s2.heap.objs.size ≤ h3.objs.size → h3.get? P = some { cls := .none, data := .fields ps' } → (∃ more, ps' = ps ++ more) → TriplesOk ps'.toList →
      wpAny (model X.prog X.w) X.A (builtinsFor X.env.globals X.env.builtins) (fun bi s₄ =>
        ∀ h', h'.Ns s₄.heap.objs.size (fun y => if y = ".0" then some (.ref it) else none) → Heap.SameBut s₄.heap.objs.size (s₄.heap.push { cls := .type "frame", data := .dict #[] }) h' →
          wpAny (model X.prog X.w) X.A (call (.builtin "all") [.ref h'.objs.size]) (EP X pins σ Q) X.xe { s₄ with
            gens := s₄.gens.push (.fresh (.compStart (.GeneratorExp elt [⟨tg, iter, [], 0⟩] scope gpos) 0 (.ref it) .none (genEnv scope (cloFrom X.env.cells scope.names []) s₄.heap.objs.size code bi X.env))),
            toks := s₄.toks + 1 + 1 + 1,
            heap := h'.push { cls := .type "generator", data := .fields #[.int s₄.gens.size 0, .str "<genexpr>" (s₄.toks + 1), .str (X.env.qual ++ "<genexpr>") (s₄.toks + 1 + 1)] } }) X.xe { s2 with heap := h3, toks := tk } := by
    intro code h3 tk ps' hx hsz hP3 hmore ht3
    obtain ⟨bm, ob, e1, e2, e3, e4, e5, e6, e7, e8⟩ := TB.bm
    obtain ⟨more, em⟩ := hmore
    have keep3 : ∀ b u, b ≠ P → s2.heap.get? b = some u → h3.get? b = some u := fun b u hb e => hx b u hb e
    refine wpAny_builtinsFor (m := X.mg) (by rw [I2.ok.glob]; exact (I2.mod.glob.keeps I2.bk).extBut hx TB.gP) e1 e2 (keep3 _ _ e4 (I2.bk _ _ e5)) e6 e7 e8 ?_
    have I4 : Inv X pins σ (upd H2 P (.tbl (ps ++ more))) { s2 with heap := h3, toks := tk } := inv_tab (g' := s2.gens) (d' := s2.drawn) I2 hP keep3 (by rw [← em]; exact hP3) I2.bare
    obtain ⟨W, ⟨m0, w0⟩, turn⟩ := q (upd H2 P (.tbl (ps ++ more))) ⟨⟨ps ++ more, upd_same, by rw [← em]; exact ht3⟩, fun b hb => upd_ne hb⟩
    generalize hs4 : ({ s2 with heap := h3, toks := tk } : Shared) = s4 at I4 ⊢
    have g4 : s4.gens = s2.gens := by rw [← hs4]
    have hh4 : s4.heap = h3 := by rw [← hs4]
    intro h' hn' hs'
    have hz' : h'.objs.size = s4.heap.objs.size + 1 := by rw [hs'.1, Heap.size_push]
    generalize hgo : ({ cls := .type "generator", data := .fields #[.int s4.gens.size 0, .str "<genexpr>" (s4.toks + 1), .str (X.env.qual ++ "<genexpr>") (s4.toks + 1 + 1)] } : Obj) = go
    have isG : ∀ h : Heap, h.get? h'.objs.size = some go → h.IsGen h'.objs.size s4.gens.size := fun h e => ⟨go, _, _, e, by rw [← hgo], by rw [← hgo], by rw [← hgo]⟩
    have keep' : ∀ b o, s4.heap.get? b = some o → h'.get? b = some o := fun b o e => hs'.extBut b o (Nat.ne_of_lt (Heap.lt_size e)) (Heap.get?_push_of_some _ e)
    have keep5 : ∀ b o, s4.heap.get? b = some o → (h'.push go).get? b = some o := fun b o e => Heap.get?_push_of_some _ (keep' b o e)
    have hpush : (h'.push go).get? h'.objs.size = some go := by
      rw [← hgo]
      exact Heap.get?_push_size _ rfl
    generalize hs5 : ({ s4 with gens := s4.gens.push (.fresh (.compStart (.GeneratorExp elt [⟨tg, iter, [], 0⟩] scope gpos) 0 (.ref it) .none (genEnv scope (cloFrom X.env.cells scope.names []) s4.heap.objs.size code builtinsNs X.env))), toks := s4.toks + 1 + 1 + 1, heap := h'.push go } : Shared) = s5
    have h5h : s5.heap = h'.push go := by rw [← hs5]
    have h5g : s5.gens = s4.gens.push (.fresh (.compStart (.GeneratorExp elt [⟨tg, iter, [], 0⟩] scope gpos) 0 (.ref it) .none (genEnv scope (cloFrom X.env.cells scope.names []) s4.heap.objs.size code builtinsNs X.env))) := by rw [← hs5]
    have b5 : AllBare s5.gens := by rw [h5g]; exact AllBare.push I4.bare rfl
    have f4 : ∀ b ∈ fp, FpOk X pins (upd H2 P (.tbl (ps ++ more))) b ∧ b < s4.heap.objs.size := fun b hb => by
      refine ⟨⟨?_, (f2 b hb).2⟩, ?_⟩
      · rw [upd_ne (fpP b hb)]
        exact (f2 b hb).1
      · obtain ⟨o, e, _⟩ := T.obj _ _ st2 b hb
        rw [hh4]
        exact Nat.lt_of_lt_of_le (Heap.lt_size e) hsz
    have I5 := gen_start (s5 := s5) (go := go) (code := code) (fp := fp) I4 S C hr.hd f4 (by rw [← hs5]) b5 (by rw [h5h]; exact keep5) (by rw [h5h]; exact hn'.push _) (by rw [h5h, ← hz']; exact hpush) (fun v z => by rw [← hgo] at z; cases z)
    have st5 : tn 0 s5.heap := T.keep _ _ _ st2 fun b hb o e => by
      rw [h5h]
      exact keep5 b o (by rw [hh4]; exact keep3 b o (fpP b hb) e)
    have n5 : ∀ b ∈ fp, upd H2 P (.tbl (ps ++ more)) b = none := fun b hb => (f4 b hb).1.1
    have hpn : ∀ p ∈ [(s4.heap.objs.size + 1, go)], ∀ b ∈ fp, p.1 ≠ b := fun p hp b hb z => by
      rw [List.mem_singleton.mp hp] at z
      have := (f4 b hb).2
      have z' : s4.heap.objs.size + 1 = b := z
      rw [← z'] at this
      exact absurd (Nat.lt_of_succ_lt this) (Nat.lt_irrefl _)
    rw [hz'] at isG hpush ⊢
    have back : ∀ {σ' : L2.St} {H' : Hp} {s' : Shared}, Inv (gx X (x :: capN caps) s4 (upd H2 P (.tbl (ps ++ more))) (genEnv scope (cloFrom X.env.cells scope.names []) s4.heap.objs.size code builtinsNs X.env) fp [(s4.heap.objs.size + 1, go)]) [] σ' H' s' → Inv X pins σ H' s' := fun {σ' H' s'} J =>
      I4.call' (ch := fp) J.os J.base J.hok J.bare fun b hb => ⟨(f4 b hb).1.2.2.2.1, (f4 b hb).1.2.1, (f4 b hb).1.2.2.2.2.1, (f4 b hb).1.2.2.2.2.2⟩
    have rmk : Room k (X.A.in1.in1.deeper (genEnv scope (cloFrom X.env.cells scope.names []) s4.heap.objs.size code builtinsNs X.env)) := ⟨hr.hd, by have := hr.dp; show X.A.depth + 1 + 3 * k + 5 < _; omega, by have := hr.un; show X.A.units + 1 + 1 + 3 + 16 * k + 200 < _; omega⟩
    have hg5 : s5.heap.IsGen (s4.heap.objs.size + 1) s4.gens.size := isG _ (by rw [h5h]; exact hpush)
    refine call_function_tree F.kind_all F.plain_all F.entry_all (F.args_all1 _) ?_
    unfold Builtin.«all»
    refine wpAny_bind (m := oneArg "all" _) (wpAny_pure ?_)
    refine wpAny_bind (wpAny_pyIter_gen hg5 ?_)
    refine wpAny_pure ⟨plainId_quiet F.plain_all_loop _, ?_⟩
    refine all_loop (GX := gx X (x :: capN caps) s4 (upd H2 P (.tbl (ps ++ more))) (genEnv scope (cloFrom X.env.cells scope.names []) s4.heap.objs.size code builtinsNs X.env) fp [(s4.heap.objs.size + 1, go)]) (fp := fp) (tn := tn) (σ0 := none :: capV σ caps) (W := W) (Ft := fun H' => Q (.bl true) H') (Ff := fun H' => Q (.bl false) H')
      (go := go) hr.hd (by have := hr.dp; omega) isG (List.mem_singleton.mpr rfl) (fun σ' H' s' J ft => ?_) (fun σ' H' s' J ff => ?_) (m0 + 1) s5 hg5 I5.nolimit ⟨.fresh (.compStart (.GeneratorExp elt [⟨tg, iter, [], 0⟩] scope gpos) 0 (.ref it) .none (genEnv scope (cloFrom X.env.cells scope.names []) s4.heap.objs.size code builtinsNs X.env)), by rw [h5g]; exact Array.getElem?_push_size .., ⟨rfl, ?_⟩⟩
    · exact ⟨.bl true, H', back J, rfl, ft⟩
    · exact ⟨.bl false, H', back J, rfl, ff⟩
    · have I5' : Inv (gx X (x :: capN caps) s4 (upd H2 P (.tbl (ps ++ more))) (genEnv scope (cloFrom X.env.cells scope.names []) s4.heap.objs.size code builtinsNs X.env) fp [(s4.heap.objs.size + 1, go)]) [] (none :: capV σ caps) (upd H2 P (.tbl (ps ++ more))) (s5.setGen s4.gens.size .running) := inv_woke I5 ⟨rfl, rfl, allBare_setGen b5 rfl⟩
      refine seg_begin (GX := gx X (x :: capN caps) s4 (upd H2 P (.tbl (ps ++ more))) (genEnv scope (cloFrom X.env.cells scope.names []) s4.heap.objs.size code builtinsNs X.env) fp [(s4.heap.objs.size + 1, go)]) T (i := 0) st5 ?_
      refine seg_loop (A := X.A.in1.in1) (GX := gx X (x :: capN caps) s4 (upd H2 P (.tbl (ps ++ more))) (genEnv scope (cloFrom X.env.cells scope.names []) s4.heap.objs.size code builtinsNs X.env) fp [(s4.heap.objs.size + 1, go)]) rfl rfl rfl rfl hcalm rfl rfl hpn S.co T (pg s4 _ _ code fp _) (pe s4 _ _ code fp _ rmk) turn (m0 + 1) _ _ ⟨0, m0, _, I5', st5, n5, w0, Nat.lt_succ_self _⟩
  cases hf : codeAmong gpos ps.toList with
  | none =>
    refine wpAny_genexprCodeX hcode (cd.code hPs ht) (cd.tab hPs) hf fun c' h' tk hx hge hlt hco' _ htab' _ => ?_
    obtain ⟨o1, vs, f1, tf, fl, tg', inF, tx, tt, op, _, _, _, _, _, _, _, _, _, htr, _⟩ := hco'
    exact cont _ h' tk _ hx (Nat.le_trans hge (Nat.le_of_lt hlt)) htab'.2 ⟨_, rfl⟩ htr
  | some cv =>
    refine wpAny_genexprCode_hit hcode (cd.code hPs ht) hf ?_
    exact cont cv s2.heap s2.toks ps (Heap.ExtBut.refl _ _) (Nat.le_refl _) hPs ⟨#[], by simp⟩ ht
end Gx

/-! Promises of defs that are called where no repr is under way: room and no guards. -/
namespace Gd
open PySem PySem.Spec PyProof.Rows L2 GxR Gx

structure RoomG (k : Nat) (A : Around) : Prop where
  r : Room k A
  g : A.guards = some []
theorem RoomG.mono {j k : Nat} {A : Around} (r : RoomG k A) (h : j ≤ k) : RoomG j A := ⟨r.r.mono h, r.g⟩
theorem RoomG.deeper {k : Nat} {A : Around} (r : RoomG (k + 1) A) (env : Env) : RoomG k (A.deeper env) := ⟨r.r.deeper env, r.g⟩

/-- a def's promise, kept wherever no guard is up -/
structure FnG (P : Program) (w : World) (K : PySem.W.Frag) (mg : Str → Option Value) (base : Heap) (CX : CXT) (k : Nat) (f : Addr) (fd : FuncData) (ps : List Str) (sp : Sp) : Prop where
  len : ∀ vs H Q E, sp vs H Q E → vs.length = ps.length
  run : ∀ (A : Around) (outer : List Env) (s : Shared) (H : Hp) (args : Args) (us : List Value) (vs : List V) (Q : VK) (E : XK), RoomG k A → Env0 P w K mg base A outer s H → BindsTo s fd args (ps.zip us) → Vals vs us → sp vs H Q E →
    codeAny (model P w) A (.call (.ref f) args) (CR CX outer P w H s Q E) s

section
variable {P : Program} {w : World} {K : PySem.W.Frag} {mg : Str → Option Value} {base : Heap} {CX : CXT} {k : Nat} {f : Addr} {fd : FuncData} {ps : List Str} {sp : Sp}

theorem FnG.mono {j : Nat} (F : FnG P w K mg base CX j f fd ps sp) (h : j ≤ k) : FnG P w K mg base CX k f fd ps sp := ⟨F.len, fun A outer s H args us vs Q E hr => F.run A outer s H args us vs Q E (hr.mono h)⟩
theorem FnG.imp {sp' : Sp} (F : FnG P w K mg base CX k f fd ps sp) (h : ∀ vs H Q E, sp' vs H Q E → sp vs H Q E) : FnG P w K mg base CX k f fd ps sp' :=
  ⟨fun vs H Q E q => F.len vs H Q E (h _ _ _ _ q), fun A outer s H args us vs Q E hr he hb hv hs => F.run A outer s H args us vs Q E hr he hb hv (h _ _ _ _ hs)⟩
/-- a promise kept everywhere -/
theorem FnG.of (F : FnOk P w K mg base CX k f fd ps sp) : FnG P w K mg base CX k f fd ps sp := ⟨F.len, fun A outer s H args us vs Q E hr => F.run A outer s H args us vs Q E hr.r⟩
/-- nothing is raised: any word for what is raised will do -/
theorem FnG.calm0 {CX' : CXT} (F : FnG P w K mg base CX0 k f fd ps sp) : FnG P w K mg base CX' k f fd ps sp := ⟨F.len, fun A outer s H args us vs Q E hr he hb hv hs => codeAny_mono (F.run A outer s H args us vs Q E hr he hb hv hs) fun r s' q => by
  cases r with
  | error e => exact False.elim q
  | ok fl => cases fl <;> exact q⟩

theorem fnG_of {name qual : Str} {params : Arguments} {body : List Stmt} {scope : Scope} {dV kV doc pm cdv ct oc : Value} {an od : Option Addr} {osl : Array (Option Value)} {N : List Str}
    (lk : K.lookup f = some ⟨oc, od, .func (PySem.W.fnOf name qual params body scope dV kV doc pm an cdv ct), osl⟩) (hcd : PySem.W.codeIn K cdv qual = true) (S : FnScope N ps scope) (len : ∀ vs H Q E, sp vs H Q E → vs.length = ps.length)
    (hbody : ∀ (A : Around) (outer : List Env) (s : Shared) (H : Hp) (vs : List V) (Q : VK) (E : XK), RoomG k (A.deeper (envOfC qual scope s.heap.objs.size f cdv)) → sp vs H Q E →
      ∃ t, PSs (cxOf CX P w K mg base N qual scope f cdv A outer s H E) body t ∧ t { nx := fun _ H' => Q .non H', rt := Q } (start N vs) H) :
    FnG P w K mg base CX (k + 1) f (PySem.W.fnOf name qual params body scope dV kV doc pm an cdv ct) ps sp := by
  refine ⟨len, fun A outer s H args us vs Q E hr e0 hb r hsp => ?_⟩
  have kin : K.In s.heap := e0.mod.kin.keeps fun b o e => (e0.bs b o e).1
  have lim : s.heap.NoLimit := e0.mod.nolimit.keeps fun b o e => (e0.bs b o e).1
  have par : ∀ y ∈ ps.zip us, scope.names.lookup y.1 = some .local ∨ (scope.names.lookup y.1 = some .cell ∧ ((cellsFrom (s.heap.objs.size + 1) scope.names []).lookup y.1).isSome = true) := fun ⟨n, v⟩ hy => by
    have hn := (List.of_mem_zip hy).1
    rcases S.par n hn with q | q
    · exact .inl q
    · exact .inr ⟨q, PySem.W.cellsFrom_some _ _ _ (.inl q)⟩
  refine codeAny_call_function hr.r.depth (kin _ _ lk) rfl S.co S.gen rfl (PySem.W.codeRec_of kin hcd) (hb _ _ _ _ ?_)
  refine wpAny_newFunctionEnv_cells S.kind par fun env he s1 x => ?_
  subst he
  refine ⟨lim.keeps x.toInCall.keep, codeAny_func ?_⟩
  obtain ⟨t, ht, hq⟩ := hbody A outer s H vs Q E (hr.deeper _) hsp
  refine wpAny_mono (ht.run [] s1 (start N vs) H _ (inv_start S hr.r.hd e0 (len _ _ _ _ hsp) r x) hq) (fun fl s' hs => ?_) fun e s' hs => hs
  cases fl with
  | ret u =>
    obtain ⟨v, σ', H', J, rv, q⟩ := hs
    exact ⟨v, H', J.os, J.bare, J.base, J.hok, rv, q⟩
  | next =>
    obtain ⟨σ', H', J, q⟩ := hs
    exact ⟨.non, H', J.os, J.bare, J.base, J.hok, rfl, q⟩
  | brk =>
    obtain ⟨_, _, _, q⟩ := hs
    exact q.elim
  | cont =>
    obtain ⟨_, _, _, q⟩ := hs
    exact q.elim
end

section
variable {P : Program} {w : World} {K : PySem.W.Frag} {mg : Str → Option Value} {base : Heap}
/-- a def that lets nothing out, by its body -/
theorem okG {x qual : Str} {st : Stmt} {f : Addr} {fd : FuncData} {N ps : List Str} {k : Nat} {sp : Sp} (F : Fun K x qual st f fd) (S : FnScope N ps (defScope st)) (len : ∀ vs H Q E, sp vs H Q E → vs.length = ps.length)
    (hbody : ∀ (cdv : Value) (A : Around) (outer : List Env) (s : Shared) (H : Hp) (vs : List V) (Q : VK) (E : XK), RoomG k (A.deeper (envOfC qual (defScope st) s.heap.objs.size f cdv)) → sp vs H Q E →
      ∃ t, PSs (cxOf CX0 P w K mg base N qual (defScope st) f cdv A outer s H E).nox (defBody st) t ∧ t { nx := fun _ H' => Q .non H', rt := Q } (start N vs) H) : FnG P w K mg base CX0 (k + 1) f fd ps sp := by
  obtain ⟨oc, od, kV, doc, pm, an, cdv, ct, osl, rfl, lk, hcd⟩ := F.ex
  refine fnG_of lk hcd S len fun A outer s H vs Q E hr hsp => ?_
  obtain ⟨t, h, q⟩ := hbody cdv A outer s H vs Q E hr hsp
  exact ⟨t, h.nox, q⟩
/-- a def whose code is at c, its table at T -/
theorem okGc {x qual : Str} {st : Stmt} {f c : Addr} {fd : FuncData} {N ps : List Str} {k : Nat} {sp : Sp} (F : Fun K x qual st f fd) (hc : fd.code = .ref c) (S : FnScope N ps (defScope st)) (len : ∀ vs H Q E, sp vs H Q E → vs.length = ps.length)
    (hbody : ∀ (A : Around) (outer : List Env) (s : Shared) (H : Hp) (vs : List V) (Q : VK) (E : XK), RoomG k (A.deeper (envOfC qual (defScope st) s.heap.objs.size f (.ref c))) → sp vs H Q E →
      ∃ t, PSs (cxOf CX0 P w K mg base N qual (defScope st) f (.ref c) A outer s H E).nox (defBody st) t ∧ t { nx := fun _ H' => Q .non H', rt := Q } (start N vs) H) : FnG P w K mg base CX0 (k + 1) f fd ps sp := by
  obtain ⟨oc, od, kV, doc, pm, an, cdv, ct, osl, rfl, lk, hcd⟩ := F.ex
  obtain rfl : cdv = .ref c := hc
  refine fnG_of lk hcd S len fun A outer s H vs Q E hr hsp => ?_
  obtain ⟨t, h, q⟩ := hbody A outer s H vs Q E hr hsp
  exact ⟨t, h.nox, q⟩
/-- a def that may raise -/
theorem okGX {x qual : Str} {st : Stmt} {f : Addr} {fd : FuncData} {N ps : List Str} {k : Nat} {sp : Sp} (F : Fun K x qual st f fd) (S : FnScope N ps (defScope st)) (len : ∀ vs H Q E, sp vs H Q E → vs.length = ps.length)
    (hbody : ∀ (cdv : Value) (A : Around) (outer : List Env) (s : Shared) (H : Hp) (vs : List V) (Q : VK) (E : XK), RoomG k (A.deeper (envOfC qual (defScope st) s.heap.objs.size f cdv)) → sp vs H Q E →
      ∃ t, PSs (cxOf (L2.CX P w) P w K mg base N qual (defScope st) f cdv A outer s H E) (defBody st) t ∧ t { nx := fun _ H' => Q .non H', rt := Q } (start N vs) H) : FnG P w K mg base (L2.CX P w) (k + 1) f fd ps sp := by
  obtain ⟨oc, od, kV, doc, pm, an, cdv, ct, osl, rfl, lk, hcd⟩ := F.ex
  exact fnG_of lk hcd S len fun A outer s H vs Q E hr hsp => hbody cdv A outer s H vs Q E hr hsp
end

section
variable {X : Cx} {CX : CXT} {k : Nat} {f : Addr} {fd : FuncData} {ps : List Str} {sp : Sp} {dvs : List V} {ds : List Value} {E : XK} {x : Str} {p pos : Pos} {e : Expr} {es : List Expr} {t : TA}
theorem run_fnG {pins : List (Addr × Obj)} {σ : L2.St} {H : Hp} {s : Shared} {Q : VK} {us : List Value} {vs : List V} (F : FnG X.prog X.w X.K X.mg X.base CX k f fd ps sp) (hr : RoomG k X.A) (hb : Binds X.K fd ps ds) (hd : Vals dvs ds) (hx : Passes CX X E)
    (I : Inv X pins σ H s) (r : Vals vs us) (h : sp (vs ++ dvs) H Q E) : wpAny (model X.prog X.w) X.A (call (.ref f) us) (EP X pins σ Q) X.xe s := by
  have r2 : Vals (vs ++ dvs) (us ++ ds) := r.append hd
  have hl : (us ++ ds).length = ps.length := r2.length ▸ F.len _ _ _ _ h
  refine wpAny_call (codeAny_mono (F.run X.A X.stack s H ⟨us, []⟩ (us ++ ds) (vs ++ dvs) Q E hr I.env0 (hb s us I.kIn hl) r2 h) fun r s' hq => ?_)
  cases r with
  | error e => exact hx pins σ H s e s' I hq
  | ok fl =>
    cases fl with
    | ret u => exact I.after hq
    | next => exact hq.elim
    | brk => exact hq.elim
    | cont => exact hq.elim
theorem pe_callG (F : FnG X.prog X.w X.K X.mg X.base CX k f fd ps sp) (hr : RoomG k X.A) (hg : Gl X x) (hm : X.mg x = some (.ref f)) (hk : PySem.W.keepIn X.K (.ref f) = true) (hb : Binds X.K fd ps ds) (hd : Vals dvs ds) (hx : Passes CX X E)
    (ha : PA X (e :: es) t) (hdb : (x == ("__debug__" : Str)) = false := by decide) (he : starEach (e :: es) X.env = (false, eval e X.env) :: starEach es X.env := by rfl) (hpl : (backTo pos (starEach es X.env)).any (·.1) = false := by rfl) :
    PE X (.Call (.Name x p) (e :: es) [] pos) (tCall sp dvs E t) := by
  refine ⟨fun pins s σ H Q I h => wpAny_Call_Name_kw (ld_glob I hg hm ?_ hdb)⟩
  refine PySem.W.callWith_K (h₀ := X.base) I.ok.mod.kin hk (thn (ha.run pos pins s σ H _ I h) fun us s1 ⟨vs, H1, I1, r, q⟩ => ⟨I1.kIn, run_fnG F hr hb hd hx I1 r q⟩) he hpl
theorem pe_call0G (F : FnG X.prog X.w X.K X.mg X.base CX k f fd ps sp) (hr : RoomG k X.A) (hg : Gl X x) (hm : X.mg x = some (.ref f)) (hk : PySem.W.keepIn X.K (.ref f) = true) (hb : Binds X.K fd ps ds) (hd : Vals dvs ds) (hx : Passes CX X E)
    (hdb : (x == ("__debug__" : Str)) = false := by decide) : PE X (.Call (.Name x p) [] [] pos) (tCall sp dvs E tNil) :=
  ⟨fun pins s σ H Q I h => wpAny_Call_Name_kw (ld_glob I hg hm (PySem.W.callWith_K0 I.kIn hk (run_fnG (us := []) F hr hb hd hx I .nil h)) hdb)⟩
end

/-! ### repr of data of any depth -/
section
variable {X : Cx}
/-- repr(x), x data: its text -/
def rRepr (K : PySem.W.Frag) : List V → Hp → VK → Prop := fun xs H Q => ∃ v d, xs = [v] ∧ Dp K H v d ∧ d.showable = true ∧ d.hasDict = false ∧ d.depth ≤ 64 ∧ d.shown.length ≤ sizeLine ∧ Q (.str d.shown) H
theorem call_repr (hu : X.A.units + 66 < cLine) (hg : X.A.guards = some []) : CallR X (.builtin "repr") (rRepr X.K) := by
  intro pins s σ H xs us Q I r h
  obtain ⟨v, d, rfl, hd, hs, hnd, hdp, hsz, q⟩ := h
  obtain ⟨u, rfl, ru⟩ := vals1 r
  obtain ⟨as, rd⟩ := Dp.reads I d v u hd ru
  cases hd with
  | non => cases ru; exact PySem.P.repr_of_none ⟨.str _, H, I.tok _, ⟨_, rfl⟩, q⟩
  | bl b => cases ru; exact PySem.P.repr_of_bool ⟨.str _, H, I.tok _, ⟨_, rfl⟩, q⟩
  | int i =>
    obtain ⟨t, rfl⟩ := ru
    exact PySem.P.repr_of_int (by simpa [PyData.showable] using hs) ⟨.str _, H, I.tok _, ⟨_, rfl⟩, q⟩
  | str x =>
    obtain ⟨t, rfl⟩ := ru
    exact PySem.P.repr_of_str ⟨.str _, H, I.tok _, ⟨_, rfl⟩, q⟩ hsz
  | lst h1 h2 =>
    cases ru
    refine repr_of_reads' rd hs (fun z => absurd (hnd.symm.trans z) (by decide)) hg (by omega) (fun _ _ e => e) (fun h' t tk k => ?_) hsz
    exact ⟨.str _, H, I.kept k, ⟨_, rfl⟩, q⟩
  | tup h1 h2 =>
    cases ru
    refine repr_of_reads' rd hs (fun z => absurd (hnd.symm.trans z) (by decide)) hg (by omega) (fun _ _ e => e) (fun h' t tk k => ?_) hsz
    exact ⟨.str _, H, I.kept k, ⟨_, rfl⟩, q⟩
end
end Gd

/-! The end of a law: the law's def keeps its promise FnG at the caller's around. -/
namespace Gd
open PySem PySem.Spec PyProof.Rows L2 GxR Gx

/-- what the law is entered with: the script, locked, and the defs' tables -/
def entryH (K : PySem.W.Frag) (a : Addr) (T : List Addr) (scr : HO) : Hp := fun b => if b ∈ T then some (.tbl #[]) else if b = a then (if (K.lookup a).isSome = true then none else some scr) else none
theorem entryH_inv {K : PySem.W.Frag} {a b : Addr} {T : List Addr} {scr u : HO} (h : entryH K a T scr b = some u) : (b ∈ T ∧ u = .tbl #[]) ∨ (b ∉ T ∧ b = a ∧ K.lookup a = none ∧ u = scr) := by
  unfold entryH at h
  by_cases h1 : b ∈ T
  · rw [if_pos h1] at h
    cases h
    exact .inl ⟨h1, rfl⟩
  · rw [if_neg h1] at h
    by_cases h2 : b = a
    · rw [if_pos h2] at h
      by_cases h3 : (K.lookup a).isSome = true
      · rw [if_pos h3] at h
        cases h
      · rw [if_neg h3] at h
        cases h
        refine .inr ⟨h1, h2, ?_, rfl⟩
        cases q : K.lookup a with
        | none => rfl
        | some o => rw [q] at h3; exact absurd rfl h3
    · rw [if_neg h2] at h
      cases h
theorem entryH_tab {K : PySem.W.Frag} {a b : Addr} {T : List Addr} {scr : HO} (h : b ∈ T) : entryH K a T scr b = some (.tbl #[]) := if_pos h
theorem entryH_scr {K : PySem.W.Frag} {a : Addr} {T : List Addr} {scr : HO} (h : a ∉ T) (hk : K.lookup a = none) : entryH K a T scr a = some scr := by
  unfold entryH
  rw [if_neg h, if_pos rfl, hk]
  rfl

section
variable {P : Program} {w : World} {K : PySem.W.Frag} {mg mb : Str → Option Value} {k : Nat} {fa a : Addr} {cs : List (Addr × Addr)} {fd : FuncData} {x : Str} {sp : Sp} {s1 : Shared} {vs : List Value} {ns : List Int} {CX : CXT}
theorem law_endG (kin : K.In s1.heap) (hns : s1.heap.Ns mainGlobals mg) (hb : s1.heap.Ns builtinsNs mb) (hbb : ∀ x : Str, x ≠ "__name__" → mb x = bootBuiltins x) (hlim : s1.heap.NoLimit) (hg : s1.gens = #[])
    (hT : ∀ p ∈ cs, s1.heap.get? p.2 = some { cls := .none, data := .fields #[] }) (nT : ∀ p ∈ cs, K.lookup p.2 = none) (C : ∀ p ∈ cs, PySem.W.CodeHd s1.heap p.1 p.2)
    (hbm : ∃ (bm : Addr) (ob : Obj), mg "__builtins__" = some (.ref bm) ∧ bm ≠ builtinsNs ∧ s1.heap.get? bm = some ob ∧ ob.cls = .type "module" ∧ ob.dict = some builtinsNs ∧ ob.data = .plain)
    (ha : s1.heap.get? a = some { cls := .type "list", data := .seq vs.toArray }) (hi : IntsAre vs ns) (hl : ns.length ≤ sizeLine) (hr : RoomG k callerA)
    (F : ∀ base : Heap, K.In base → base.Ns mainGlobals mg → (∀ p ∈ cs, TabB base mg p.1 p.2) → FnG P w K mg base CX k fa fd [x] sp) (hbind : ∀ (s : Shared) (u : Value), BindsTo s fd ⟨[u], []⟩ [(x, u)])
    (hsp : ∀ H : Hp, (∀ p ∈ cs, H p.2 = some (.tbl #[])) → SqL K H a (ns.map V.int) → sp [.ref a] H (fun v _ => v = .bl true) fun _ _ _ => False)
    (hCX : ∀ H e s', CX [] H s1 (fun _ _ _ => False) e s' → False) :
    codeAny (model P w) callerA (.call (.ref fa) ⟨[.ref a], []⟩) (fun r s' => r = .ok (.ret (.bool true)) ∧ OldK s1.heap s'.heap ∧ s'.os = s1.os ∧ AllBare s'.gens) s1 := by
  have tabAt : ∀ b ∈ cs.map (·.2), s1.heap.get? b = some { cls := .none, data := .fields #[] } := fun b hb => by
    obtain ⟨p, hp, rfl⟩ := List.mem_map.mp hb
    exact hT p hp
  have inT : ∀ p ∈ cs, p.2 ∈ cs.map (·.2) := fun p hp => List.mem_map.mpr ⟨p, hp, rfl⟩
  have aT : a ∉ cs.map (·.2) := fun z => by
    have q := (tabAt a z).symm.trans ha
    cases congrArg Obj.data (Option.some.inj q)
  let H : Hp := entryH K a (cs.map (·.2)) (.frz { cls := .type "list", data := .seq vs.toArray } (.lst (ns.map V.int)))
  have hv : ∀ {b u}, H b = some u → (b ∈ cs.map (·.2) ∧ u = .tbl #[]) ∨ (b ∉ cs.map (·.2) ∧ b = a ∧ K.lookup a = none ∧ u = .frz { cls := .type "list", data := .seq vs.toArray } (.lst (ns.map V.int))) := fun h => entryH_inv h
  have hok : HOk P w H s1.heap := fun b u h => by
    rcases hv h with ⟨h1, rfl⟩ | ⟨_, rfl, _, rfl⟩
    · exact tabAt b h1
    · exact ⟨ha, by rw [List.length_map]; exact hl, vs, _, vals_ints hi, ha⟩
  have plain : ∀ {b : Addr} {o : Obj}, s1.heap.get? b = some o → (∀ xs n, o.data ≠ .seq xs n) → o.data ≠ .fields #[] → H b = none := fun {b o} e h1 h2 => by
    cases q : H b with
    | none => rfl
    | some u =>
      rcases hv q with ⟨h3, _⟩ | ⟨_, rfl, _, _⟩
      · rw [tabAt b h3] at e
        cases e
        exact (h2 rfl).elim
      · rw [ha] at e
        cases e
        exact (h1 _ _ rfl).elim
  have nsK : ∀ {b : Addr} {m : Str → Option Value}, s1.heap.Ns b m → (hidT s1.heap H).Ns b m := fun {b m} ⟨o, es, ep, e, d, r⟩ =>
    ⟨o, es, ep, hidT_get e (plain e (fun xs n z => by rw [d] at z; cases z) fun z => by rw [d] at z; cases z), d, r⟩
  have kinB : K.In (hidT s1.heap H) := fun b o e => hidT_get (kin b o e) (by
    cases q : H b with
    | none => rfl
    | some u =>
      rcases hv q with ⟨h3, _⟩ | ⟨_, rfl, h4, _⟩
      · obtain ⟨p, hp, rfl⟩ := List.mem_map.mp h3
        rw [nT p hp] at e
        cases e
      · rw [h4] at e
        cases e)
  have md : L2.Mod K mg (hidT s1.heap H) := ⟨kinB, nsK hns, ⟨mb, nsK hb, hbb⟩, let ⟨mc, h1, h2⟩ := hlim; ⟨mc, nsK h1, h2⟩⟩
  have noG : ∀ p ∈ cs, mainGlobals ≠ p.2 := fun p hp z => by
    obtain ⟨o, es, ep, e, hd, _⟩ := hns
    rw [z, hT p hp] at e
    cases e
    cases hd
  have tabs : ∀ p ∈ cs, TabB (hidT s1.heap H) mg p.1 p.2 := fun p hp => by
    refine ⟨?_, ?_, noG p hp⟩
    · obtain ⟨o, us, file, tf, flags, tg, inF, text, tt, e1, r1, r2, r3, r4, r5, r6, r7, r8, hne⟩ := C p hp
      exact ⟨o, us, file, tf, flags, tg, inF, text, tt, hidT_get e1 (plain e1 (fun xs n z => by rw [r2] at z; cases z) fun z => by rw [r2] at z; cases z; simp at r3), r1, r2, r3, r4, r5, r6, r7, r8, hne⟩
    · obtain ⟨bm, ob, b1, b2, b3, b4, b5, b6⟩ := hbm
      refine ⟨bm, ob, b1, b2, fun q => ?_, fun q => ?_, hidT_get b3 (plain b3 (fun xs n z => by rw [b6] at z; cases z) fun z => by rw [b6] at z; cases z), b4, b5, b6⟩
      · obtain ⟨o, es, ep, e, hd, _⟩ := hns
        rw [q, e] at b3
        cases b3
        rw [hd] at b6
        cases b6
      · rw [q, hT p hp] at b3
        cases b3
        cases b6
  have seqA : SqL K H a (ns.map V.int) := by
    cases q : K.lookup a with
    | none => exact .inl (.inr ⟨_, entryH_scr aT q⟩)
    | some o =>
      have e := kin a o q
      rw [ha] at e
      cases e
      exact .inr ⟨_, vs.toArray, _, q, rfl, rfl, rfl, by rw [List.size_toArray, hi.length]; exact hl, by simpa using vals_ints hi⟩
  have e0 : Env0 P w K mg (hidT s1.heap H) callerA [] s1 H := ⟨rfl, md, fun b o e => of_hidT e, Nat.le_of_eq (hidT_size _ _), trivial, fun b z => absurd (show b ∈ ([] : List Addr) from z) (by simp), hok, .of_eq hg⟩
  refine codeAny_mono ((F _ kinB (nsK hns) tabs).run callerA [] s1 H ⟨[.ref a], []⟩ [.ref a] [.ref a] _ _ hr e0 (hbind s1 (.ref a)) (.cons rfl .nil) (hsp H (fun p hp => entryH_tab (inT p hp)) seqA)) fun r s' h => ?_
  cases r with
  | error e => exact (hCX H e s' h).elim
  | ok fl =>
    cases fl with
    | next => exact h.elim
    | brk => exact h.elim
    | cont => exact h.elim
    | ret u =>
      obtain ⟨v, H', os, bare, un, hok', r', q⟩ := h
      obtain rfl : v = .bl true := q
      obtain rfl : u = Value.bool true := r'
      have stays : ∀ b o, b ∉ cs.map (·.2) → s1.heap.get? b = some o → s'.heap.get? b = some o := fun b o nb e => by
        cases q : H b with
        | none => exact un.keep b o e q (fun z => absurd (show b ∈ ([] : List Addr) from z) (by simp)) (by simp)
        | some u =>
          rcases hv q with ⟨z, _⟩ | ⟨_, rfl, _, rfl⟩
          · exact absurd z nb
          · rw [ha] at e
            cases e
            exact (hok' b _ (un.frzs b _ _ q)).1
      refine ⟨rfl, ⟨fun b o e => ?_, fun b o e => ?_⟩, os, bare⟩
      · by_cases hm : b ∈ cs.map (·.2)
        · obtain ⟨p, hp, rfl⟩ := List.mem_map.mp hm
          obtain ⟨more, z⟩ := un.tbls p.2 #[] (entryH_tab (inT p hp))
          rw [hT p hp] at e
          cases e
          exact .inr (.inl ⟨((C p hp).tab (hT p hp)).isCodeTable, rfl, #[], more, rfl, by rw [Array.empty_append]; rw [Array.empty_append] at z; exact hok' p.2 _ z⟩)
        · exact .inl (stays b o hm e)
      · by_cases hm : b ∈ cs.map (·.2)
        · obtain ⟨p, hp, rfl⟩ := List.mem_map.mp hm
          obtain ⟨more, z⟩ := un.tbls p.2 #[] (entryH_tab (inT p hp))
          exact ⟨_, hok' p.2 _ z⟩
        · exact ⟨o, stays b o hm e⟩
end

/-- what is known of the law's promise at the head's heap h -/
def LawG (l : PySem.W.OpenLaw) (w : World) (K : PySem.W.Frag) (CX : CXT) (k n : Nat) (x : Str) (mg : Str → Option Value) (fa : Addr) (h : Heap) : Prop :=
  ∃ (fd : FuncData) (cs : List (Addr × Addr)) (sp : Sp), (∀ p ∈ cs, h.get? p.2 = some { cls := .none, data := .fields #[] }) ∧ (∀ p ∈ cs, K.lookup p.2 = none) ∧ (∀ p ∈ cs, PySem.W.CodeHd h p.1 p.2) ∧ (∀ (s : Shared) (u : Value), BindsTo s fd ⟨[u], []⟩ [(x, u)]) ∧
    (∀ (H : Hp) (a : Addr) (ns : List Int), ns.length ≤ n → (∀ z ∈ ns, Builtin.Int.intBits z ≤ 1048576) → (∀ p ∈ cs, H p.2 = some (.tbl #[])) → SqL K H a (ns.map V.int) → sp [.ref a] H (fun v _ => v = .bl true) fun _ _ _ => False) ∧
    ∀ base : Heap, K.In base → base.Ns mainGlobals mg → (∀ p ∈ cs, TabB base mg p.1 p.2) → FnG l.prog w K mg base CX k fa fd [x] sp
theorem walk_G {l : PySem.W.OpenLaw} {n k : Nat} {q : Program} {loose : List Str} {XP : (Str → Option Value) → Heap → Prop} {YP : World → Heap → Prop} {d : DefRec} {K : Params → PySem.W.Frag} {CX : World → CXT} {x : Str}
    (hn : l.most = some n) (hn2 : n ≤ sizeLine) (hdf : d.params.defaults = []) (hr : RoomG k callerA) (hY : ∀ (w : World) (h : Heap), YP w h → (K w.params).In h)
    (F : ∀ (w : World) (mg : Str → Option Value) (fa : Addr) (h : Heap), YP w h → (K w.params).In h → h.Ns mainGlobals mg → mg d.name = some (.ref fa) → LawG l w (K w.params) (CX w) k n x mg fa h)
    (hCX : ∀ (w : World) (H : Hp) (s : Shared) (e : Value) (s' : Shared), CX w [] H s (fun _ _ _ => False) e s' → False) :
    PySem.W.WalkO q loose XP YP l.row.toRowW d [] (fun f vs => PySem.call f vs) := by
  refine Att.attach_callB hn hdf fun w s0 s1 mg mb fa o pm cd doc a vs ns G Y ho hd hcd hmg hobj hints hlen hbits hg => ?_
  obtain ⟨fd, cs, sp, hT, nT, C, hb, hsp, hF⟩ := F w mg fa _ Y (hY w _ Y) G.T.g hmg
  exact law_endG (hY w _ Y) G.T.g G.T.b G.T.builtins G.T.nolimit hg hT nT C G.T.bmain hobj hints (Nat.le_trans hlen hn2) hr hF hb (fun H hH hS => hsp H a ns hlen hbits hH hS) fun H e s' => hCX w H s1 e s'
end Gd

/-! What stays through a call: all but the defs' tables and some lists; defs as they stand; data. -/
namespace Gd
open PySem PySem.Spec PyProof.Rows L2 GxR Gx

/-- no table -/
def NoTab (o : HO) : Prop := ∀ ps, o ≠ .tbl ps
/-- all stays but tables, which may grow, and the objects at S -/
structure Kb (S : List Addr) (H H' : Hp) : Prop where
  keep : ∀ b o, H b = some o → b ∉ S → NoTab o → H' b = some o
  tab : ∀ T, TabG H T → TabG H' T
  free : ∀ p, H' p = none → H p = none
abbrev Kp (H H' : Hp) : Prop := Kb [] H H'
section
variable {S : List Addr} {H H' H1 H2 : Hp} {p : Addr} {o u : HO}
theorem Kb.refl (H : Hp) : Kb S H H := ⟨fun _ _ h _ _ => h, fun _ h => h, fun _ h => h⟩
theorem Kb.trans (a : Kb S H H1) (b : Kb S H1 H2) : Kb S H H2 := ⟨fun c o h n t => b.keep c o (a.keep c o h n t) n t, fun T h => b.tab T (a.tab T h), fun q h => a.free q (b.free q h)⟩
theorem Kb.mono {S' : List Addr} (a : Kb S H H') (h : ∀ b ∈ S, b ∈ S') : Kb S' H H' := ⟨fun c o e n t => a.keep c o e (fun z => n (h c z)) t, a.tab, a.free⟩
theorem Kb.of (a : Kp H H') : Kb S H H' := a.mono fun _ h => (by cases h)
theorem tab_notab {T : Addr} (h : TabG H T) (e : H T = some o) (n : NoTab o) : False := by
  obtain ⟨ps, h1, _⟩ := h
  rw [e] at h1
  cases h1
  exact n ps rfl
theorem upd_some_of {q : Addr} (h : upd H p o q = none) : H q = none := by
  by_cases z : q = p
  · rw [z, upd_same] at h
    cases h
  · rw [upd_ne z] at h
    exact h
theorem Kb.new (h : H p = none) : Kb S H (upd H p o) :=
  ⟨fun b u e _ _ => by rw [upd_ne (ne_of_none e h)]; exact e, fun T ⟨ps, e, t⟩ => ⟨ps, by rw [upd_ne (ne_of_none e h)]; exact e, t⟩, fun q e => upd_some_of e⟩
theorem Kb.tabbed {P : Addr} (h : Tabbed P H H') (hP : TabG H P) : Kb S H H' := by
  refine ⟨fun b o e _ n => ?_, fun T hT => ?_, fun q e => ?_⟩
  · rw [h.2 b fun z => tab_notab (by rw [z]; exact hP) e n]
    exact e
  · by_cases z : T = P
    · exact z ▸ h.1
    · obtain ⟨ps, e, t⟩ := hT
      exact ⟨ps, by rw [h.2 T z]; exact e, t⟩
  · by_cases z : q = P
    · obtain ⟨ps, e', _⟩ := h.1
      rw [z, e'] at e
      cases e
    · rw [h.2 q z] at e
      exact e
/-- a known list is stored -/
theorem Kb.put (hp : p ∈ S) (e : H p = some u) (n : NoTab u) : Kb S H (upd H p o) :=
  ⟨fun b v hb nb _ => by rw [upd_ne (fun z : b = p => nb (by rw [z]; exact hp))]; exact hb, fun T hT => by
    have z : T ≠ p := fun z => tab_notab (o := u) (by rw [← z]; exact hT) e n
    obtain ⟨ps, e', t⟩ := hT
    exact ⟨ps, by rw [upd_ne z]; exact e', t⟩, fun q e => upd_some_of e⟩
/-- an object that was not there at H may change -/
theorem Kb.mut (k : Kb S H H') (hp : H p = none) (n : ¬ TabG H' p) : Kb S H (upd H' p o) :=
  ⟨fun b v hb nb t => by rw [upd_ne (ne_of_none hb hp)]; exact k.keep b v hb nb t, fun T hT => by
    have z : T ≠ p := fun z => n (z ▸ k.tab T hT)
    obtain ⟨ps, e', t⟩ := k.tab T hT
    exact ⟨ps, by rw [upd_ne z]; exact e', t⟩, fun q e => k.free q (upd_some_of e)⟩
theorem no_tab (e : H p = some o) (n : NoTab o) : ¬ TabG H p := fun h => tab_notab h e n
theorem nt_lst {xs : List V} : NoTab (.lst xs) := fun _ h => by cases h
theorem nt_tup {xs : List V} : NoTab (.tup xs) := fun _ h => by cases h
theorem nt_frz {ob : Obj} : NoTab (.frz ob u) := fun _ h => by cases h
theorem nt_ext {φ : Heap → Prop} : NoTab (.ext φ) := fun _ h => by cases h

end

/-! ### data: scalars and tuples; whatever is made of them stands for good -/
mutual
inductive Dt (K : PySem.W.Frag) (H : Hp) : V → PyData → Prop where
  | non : Dt K H .non .none
  | bl (b : Bool) : Dt K H (.bl b) (.bool b)
  | int (i : Int) : Dt K H (.int i) (.int i)
  | str (x : Str) : Dt K H (.str x) (.str x)
  | tup {a : Addr} {xs : List V} {ds : List PyData} (h : SqT K H a xs) (hs : DtAll K H xs ds) : Dt K H (.ref a) (.tuple ds)
inductive DtAll (K : PySem.W.Frag) (H : Hp) : List V → List PyData → Prop where
  | nil : DtAll K H [] []
  | cons {v : V} {vs : List V} {d : PyData} {ds : List PyData} (h : Dt K H v d) (hs : DtAll K H vs ds) : DtAll K H (v :: vs) (d :: ds)
end
/-- the lists at S are lists -/
def Lsts (S : List Addr) (H : Hp) : Prop := ∀ b ∈ S, ∃ xs, H b = some (.lst xs)
theorem Lsts.nil {H : Hp} : Lsts [] H := fun _ h => by cases h
section
variable {K : PySem.W.Frag} {S : List Addr} {H H' : Hp}
theorem Kb.sqT (k : Kb S H H') (hS : Lsts S H) {a : Addr} {xs : List V} (h : SqT K H a xs) : SqT K H' a xs := by
  rcases h with (h | ⟨o, h⟩) | h
  · exact .inl (.inl (k.keep a _ h (fun z => by obtain ⟨ys, e⟩ := hS a z; rw [h] at e; cases e) nt_tup))
  · exact .inl (.inr ⟨o, k.keep a _ h (fun z => by obtain ⟨ys, e⟩ := hS a z; rw [h] at e; cases e) nt_frz⟩)
  · exact .inr h
mutual
theorem Dt.kb (k : Kb S H H') (hS : Lsts S H) : ∀ {v : V} {d : PyData}, Dt K H v d → Dt K H' v d
  | _, _, .non => .non
  | _, _, .bl b => .bl b
  | _, _, .int i => .int i
  | _, _, .str x => .str x
  | _, _, .tup h hs => .tup (k.sqT hS h) (DtAll.kb k hS hs)
theorem DtAll.kb (k : Kb S H H') (hS : Lsts S H) : ∀ {vs : List V} {ds : List PyData}, DtAll K H vs ds → DtAll K H' vs ds
  | _, _, .nil => .nil
  | _, _, .cons h hs => .cons (h.kb k hS) (DtAll.kb k hS hs)
end
mutual
theorem Dt.dp : ∀ {v : V} {d : PyData}, Dt K H v d → Dp K H v d
  | _, _, .non => .non
  | _, _, .bl b => .bl b
  | _, _, .int i => .int i
  | _, _, .str x => .str x
  | _, _, .tup h hs => .tup h hs.dp
theorem DtAll.dp : ∀ {vs : List V} {ds : List PyData}, DtAll K H vs ds → DpAll K H vs ds
  | _, _, .nil => .nil
  | _, _, .cons h hs => .cons h.dp hs.dp
end
theorem DtAll.length : ∀ {vs : List V} {ds : List PyData}, DtAll K H vs ds → vs.length = ds.length
  | _, _, .nil => rfl
  | _, _, .cons _ hs => congrArg (· + 1) hs.length
theorem DtAll.get : ∀ {vs : List V} {ds : List PyData} {i : Nat} {v : V}, DtAll K H vs ds → vs[i]? = some v → ∃ d, ds[i]? = some d ∧ Dt K H v d
  | _, _, _, _, .nil, e => by simp at e
  | _, _, 0, _, .cons h _, e => by
    have e := Option.some.inj e
    subst e
    exact ⟨_, rfl, h⟩
  | _, _, i + 1, _, .cons _ hs, e => DtAll.get (i := i) hs e
theorem DtAll.at : ∀ {vs : List V} {ds : List PyData} {i : Nat} {d : PyData}, DtAll K H vs ds → ds[i]? = some d → ∃ v, vs[i]? = some v ∧ Dt K H v d
  | _, _, _, _, .nil, e => by simp at e
  | _, _, 0, _, .cons h _, e => by
    have e := Option.some.inj e
    subst e
    exact ⟨_, rfl, h⟩
  | _, _, i + 1, _, .cons _ hs, e => DtAll.at (i := i) hs e
end

/-! ### defs -/
section
variable {P : Program} {w : World} {K : PySem.W.Frag} {mg : Str → Option Value} {base : Heap}
/-- the def x stands as st -/
def DefAt (K : PySem.W.Frag) (mg : Str → Option Value) (x : Str) (st : Stmt) (ps : List Str) : Prop := ∃ f fd, Fun K x x st f fd ∧ mg x = some (.ref f) ∧ Binds K fd ps []
/-- .. and its code's table is at T -/
def DefTab (K : PySem.W.Frag) (mg : Str → Option Value) (base : Heap) (x : Str) (st : Stmt) (ps : List Str) (T : Addr) : Prop :=
  ∃ f fd c, Fun K x x st f fd ∧ mg x = some (.ref f) ∧ Binds K fd ps [] ∧ fd.code = .ref c ∧ TabB base mg c T
/-- what a caller needs -/
def Cal (P : Program) (w : World) (K : PySem.W.Frag) (mg : Str → Option Value) (base : Heap) (CX : CXT) (k : Nat) (x : Str) (ps : List Str) (sp : Sp) : Prop :=
  ∃ f fd, FnG P w K mg base CX k f fd ps sp ∧ mg x = some (.ref f) ∧ PySem.W.keepIn K (.ref f) = true ∧ Binds K fd ps []
theorem Cal.mono {CX : CXT} {j k : Nat} {x : Str} {ps : List Str} {sp : Sp} (c : Cal P w K mg base CX j x ps sp) (h : j ≤ k) : Cal P w K mg base CX k x ps sp :=
  let ⟨f, fd, F, r⟩ := c; ⟨f, fd, F.mono h, r⟩
theorem Cal.imp {CX : CXT} {k : Nat} {x : Str} {ps : List Str} {sp sp' : Sp} (c : Cal P w K mg base CX k x ps sp) (h : ∀ vs H Q E, sp' vs H Q E → sp vs H Q E) : Cal P w K mg base CX k x ps sp' :=
  let ⟨f, fd, F, r⟩ := c; ⟨f, fd, F.imp h, r⟩
theorem DefAt.cal {x : Str} {st : Stmt} {N ps : List Str} {k : Nat} {sp : Sp} (D : DefAt K mg x st ps) (S : FnScope N ps (defScope st)) (len : ∀ vs H Q E, sp vs H Q E → vs.length = ps.length)
    (hbody : ∀ (f : Addr) (cdv : Value) (A : Around) (outer : List Env) (s : Shared) (H : Hp) (vs : List V) (Q : VK) (E : XK), RoomG k (A.deeper (envOfC x (defScope st) s.heap.objs.size f cdv)) → sp vs H Q E →
      ∃ t, PSs (cxOf CX0 P w K mg base N x (defScope st) f cdv A outer s H E).nox (defBody st) t ∧ t { nx := fun _ H' => Q .non H', rt := Q } (start N vs) H) : Cal P w K mg base CX0 (k + 1) x ps sp := by
  obtain ⟨f, fd, F, g, b⟩ := D
  exact ⟨f, fd, okG F S len (hbody f), g, F.kp, b⟩
theorem DefTab.cal {x : Str} {st : Stmt} {N ps : List Str} {k : Nat} {sp : Sp} {T : Addr} (D : DefTab K mg base x st ps T) (S : FnScope N ps (defScope st)) (len : ∀ vs H Q E, sp vs H Q E → vs.length = ps.length)
    (hbody : ∀ (f c : Addr) (A : Around) (outer : List Env) (s : Shared) (H : Hp) (vs : List V) (Q : VK) (E : XK), TabB base mg c T → RoomG k (A.deeper (envOfC x (defScope st) s.heap.objs.size f (.ref c))) → sp vs H Q E →
      ∃ t, PSs (cxOf CX0 P w K mg base N x (defScope st) f (.ref c) A outer s H E).nox (defBody st) t ∧ t { nx := fun _ H' => Q .non H', rt := Q } (start N vs) H) : Cal P w K mg base CX0 (k + 1) x ps sp := by
  obtain ⟨f, fd, c, F, g, b, e, TB⟩ := D
  exact ⟨f, fd, okGc F e S len (fun A outer s H vs Q E => hbody f c A outer s H vs Q E TB), g, F.kp, b⟩
end
section
variable {X : Cx} {k : Nat} {ps : List Str} {sp : Sp} {x : Str} {p pos : Pos} {e : Expr} {es : List Expr} {t : TA}
theorem pe_cal (C : Cal X.prog X.w X.K X.mg X.base CX0 k x ps sp) (hr : RoomG k X.A) (hg : Gl X x) (ha : PA X (e :: es) t) (hdb : (x == ("__debug__" : Str)) = false := by decide) (he : starEach (e :: es) X.env = (false, eval e X.env) :: starEach es X.env := by rfl) (hpl : (backTo pos (starEach es X.env)).any (·.1) = false := by rfl) :
    PE X (.Call (.Name x p) (e :: es) [] pos) (tCall sp [] E0 t) := by
  obtain ⟨f, fd, F, g, kp, b⟩ := C
  exact pe_callG F hr hg g kp b .nil pass0 ha hdb he hpl
theorem pe_cal0 (C : Cal X.prog X.w X.K X.mg X.base CX0 k x ps sp) (hr : RoomG k X.A) (hg : Gl X x) (hdb : (x == ("__debug__" : Str)) = false := by decide) : PE X (.Call (.Name x p) [] [] pos) (tCall sp [] E0 tNil) := by
  obtain ⟨f, fd, F, g, kp, b⟩ := C
  exact pe_call0G F hr hg g kp b .nil pass0 hdb
end
end Gd

/-! Readings of some expressions over data. -/
namespace Gd
open PySem PySem.Spec PyProof.Rows L2 GxR Gx

/-! ### isinstance -/
def tyName : PyData → String
  | .none => "NoneType"
  | .bool _ => "bool"
  | .int _ => "int"
  | .str _ => "str"
  | .list _ => "list"
  | .tuple _ => "tuple"
  | .dict _ => "dict"
def isStrD : PyData → Bool | .str _ => true | _ => false
def isTupD : PyData → Bool | .tuple _ => true | _ => false
def isIntD : PyData → Bool | .int _ => true | .bool _ => true | _ => false
def isBoolD : PyData → Bool | .bool _ => true | _ => false
theorem kit_str (d : PyData) : kitB (tyName d) "str" = some (isStrD d) := by
  cases d with
  | none => exact (by decide +kernel : kitB "NoneType" "str" = some false)
  | bool _ => exact (by decide +kernel : kitB "bool" "str" = some false)
  | int _ => exact (by decide +kernel : kitB "int" "str" = some false)
  | str _ => exact (by decide +kernel : kitB "str" "str" = some true)
  | list _ => exact (by decide +kernel : kitB "list" "str" = some false)
  | tuple _ => exact (by decide +kernel : kitB "tuple" "str" = some false)
  | dict _ => exact (by decide +kernel : kitB "dict" "str" = some false)
theorem kit_tup (d : PyData) : kitB (tyName d) "tuple" = some (isTupD d) := by
  cases d with
  | none => exact (by decide +kernel : kitB "NoneType" "tuple" = some false)
  | bool _ => exact (by decide +kernel : kitB "bool" "tuple" = some false)
  | int _ => exact (by decide +kernel : kitB "int" "tuple" = some false)
  | str _ => exact (by decide +kernel : kitB "str" "tuple" = some false)
  | list _ => exact (by decide +kernel : kitB "list" "tuple" = some false)
  | tuple _ => exact (by decide +kernel : kitB "tuple" "tuple" = some true)
  | dict _ => exact (by decide +kernel : kitB "dict" "tuple" = some false)
theorem kit_int (d : PyData) : kitB (tyName d) "int" = some (isIntD d) := by
  cases d with
  | none => exact (by decide +kernel : kitB "NoneType" "int" = some false)
  | bool _ => exact (by decide +kernel : kitB "bool" "int" = some true)
  | int _ => exact (by decide +kernel : kitB "int" "int" = some true)
  | str _ => exact (by decide +kernel : kitB "str" "int" = some false)
  | list _ => exact (by decide +kernel : kitB "list" "int" = some false)
  | tuple _ => exact (by decide +kernel : kitB "tuple" "int" = some false)
  | dict _ => exact (by decide +kernel : kitB "dict" "int" = some false)
theorem kit_bool (d : PyData) : kitB (tyName d) "bool" = some (isBoolD d) := by
  cases d with
  | none => exact (by decide +kernel : kitB "NoneType" "bool" = some false)
  | bool _ => exact (by decide +kernel : kitB "bool" "bool" = some true)
  | int _ => exact (by decide +kernel : kitB "int" "bool" = some false)
  | str _ => exact (by decide +kernel : kitB "str" "bool" = some false)
  | list _ => exact (by decide +kernel : kitB "list" "bool" = some false)
  | tuple _ => exact (by decide +kernel : kitB "tuple" "bool" = some false)
  | dict _ => exact (by decide +kernel : kitB "dict" "bool" = some false)
section
variable {K : PySem.W.Frag} {H : Hp} {v : V} {d : PyData} {Q : VK}
theorem Dt.ty (h : Dt K H v d) : TyX K H v (.type (tyName d)) := by
  cases h with
  | non => exact .base .non
  | bl b => exact .base (.bl b)
  | int i => exact .base (.int i)
  | str x => exact .base (.str x)
  | tup h hs =>
    rcases h with (h | ⟨o, h⟩) | ⟨o, its, n, h1, h2, _⟩
    · exact .base (.tup h)
    · exact .fTuple h
    · exact .kTuple h1 h2
theorem isi_q {T : String} {b : Bool} (h : Dt K H v d) (hb : kitB (tyName d) T = some b) (q : Q (.bl b) H) : rIsi K [v, .ty T] H Q := ⟨v, .ty T, _, _, b, rfl, .ty T, h.ty, kit_ty hb, q⟩
end

/-! ### all(test for c in text), the test changes nothing -/
theorem nil_slots {σ2 : L2.St} : ∀ (j : Nat) (v : V), (none :: capV ([] : L2.St) [] : L2.St)[j]? = some (some v) → σ2[j]? = some (some v) := fun j v h => by
  cases j with
  | zero => cases h
  | succ j => simp [capV] at h
theorem all_take {p : Nat → Bool} {l : List Nat} {i c : Nat} (hc : l[i]? = some c) (h : (l.take i).all p = true) : (l.take (i + 1)).all p = p c := by
  rw [List.take_add_one, hc, List.all_append, h, Bool.true_and]
  simp
theorem all_mid {p : Nat → Bool} {l : List Nat} {i c : Nat} (hc : l[i]? = some c) (h : p c = false) : l.all p = false := by
  rw [List.all_eq_false]
  exact ⟨c, List.mem_of_getElem? hc, by rw [h]; exact Bool.false_ne_true⟩
theorem all_str {T : Addr} {x : Str} {te : TE} {p : Nat → Bool} {H1 : Hp} {Q : VK} {σ : L2.St} (hT : TabG H1 T)
    (ht : ∀ c ∈ x.cps.toList, ∀ (H : Hp) (Q' : VK), Q' (.bl (p c)) H → te [some (.str ⟨#[c]⟩)] H Q') (q : ∀ H2, Tabbed T H1 H2 → Q (.bl (x.cps.toList.all p)) H2) :
    TabG H1 T ∧ ∀ H2, Tabbed T H1 H2 → ∃ W : Nat → Nat → Hp → Prop, (∃ m, W 0 m H2) ∧ ∀ i m H, W i m H → ((Its x).stop i H ∧ Q (.bl true) H) ∨
      ((Its x).go i H ∧ ∃ Nx : Hp → Prop, (∀ H', Nx H' → ∃ m', m' < m ∧ W (i + 1) m' H') ∧ ∀ y H', (Its x).yld i H y H' → gName 0 y (none :: capV σ []) H' fun σ2 H3 =>
        (∀ (j : Nat) v, (none :: capV σ [] : L2.St)[j]? = some (some v) → σ2[j]? = some (some v)) ∧ te σ2 H3 fun y H5 => ∃ c, y = .bl c ∧ if c = true then Nx H5 else Q (.bl false) H5) := by
  refine ⟨hT, fun H2 h2 => ⟨fun i m H => H = H2 ∧ m = x.cps.size - i ∧ i ≤ x.cps.size ∧ (x.cps.toList.take i).all p = true, ⟨_, rfl, rfl, Nat.zero_le _, by simp⟩, ?_⟩⟩
  rintro i m H ⟨rfl, rfl, hi, ha⟩
  by_cases hl : i < x.cps.size
  · refine .inr ⟨hl, fun H' => H' = H ∧ (x.cps.toList.take (i + 1)).all p = true, fun H' ⟨e, a⟩ => ⟨x.cps.size - (i + 1), by omega, e, rfl, hl, a⟩, fun y H' hy => ?_⟩
    obtain ⟨rfl, c, hc, rfl⟩ := hy
    have hc' : x.cps.toList[i]? = some c := by rw [Array.getElem?_toList]; exact hc
    refine ⟨nil_slots, ht c (List.mem_of_getElem? hc') _ _ ⟨p c, rfl, ?_⟩⟩
    cases e : p c with
    | true =>
      rw [if_pos rfl]
      exact ⟨rfl, by rw [all_take hc' ha, e]⟩
    | false =>
      rw [if_neg Bool.false_ne_true, ← all_mid (p := p) hc' e]
      exact q _ h2
  · have e : i = x.cps.size := by omega
    subst e
    refine .inl ⟨Nat.le_refl _, ?_⟩
    have e2 : x.cps.toList.take x.cps.size = x.cps.toList := by
      rw [← Array.length_toList]
      exact List.take_length
    rw [e2] at ha
    rw [← ha]
    exact q _ h2
end Gd
namespace Gd
open PySem PySem.Spec PyProof.Rows L2 GxR Gx
/-- data of small texts, no deeper than n -/
def okN : Nat → PyData → Bool
  | _, .none => true
  | _, .bool _ => true
  | _, .int i => decide (i.natAbs.log2 < 1920)
  | _, .str x => decide (x.length ≤ 1000) && PyData.strOk x
  | n + 1, .tuple ds => decide (ds.length ≤ 1000) && ds.all (okN n)
  | _, _ => false
def OkD (d : PyData) : Prop := ∃ n, n ≤ 60 ∧ okN n d = true
theorem okN_int {n : Nat} {i : Int} (h : okN n (.int i) = true) : i.natAbs.log2 < 1920 := by
  cases n <;> exact of_decide_eq_true h
theorem okN_str {n : Nat} {x : Str} (h : okN n (.str x) = true) : x.length ≤ 1000 ∧ PyData.strOk x = true := by
  have h2 : (decide (x.length ≤ 1000) && PyData.strOk x) = true := by cases n <;> exact h
  rw [Bool.and_eq_true] at h2
  exact ⟨of_decide_eq_true h2.1, h2.2⟩
theorem okN_tup {n : Nat} {ds : List PyData} (h : okN n (.tuple ds) = true) : ∃ m, n = m + 1 ∧ ds.length ≤ 1000 ∧ ∀ d ∈ ds, okN m d = true := by
  cases n with
  | zero => cases h
  | succ m =>
    have h2 : (decide (ds.length ≤ 1000) && ds.all (okN m)) = true := h
    rw [Bool.and_eq_true, List.all_eq_true] at h2
    exact ⟨m, rfl, of_decide_eq_true h2.1, h2.2⟩
theorem OkD.str {x : Str} (h : OkD (.str x)) : x.length ≤ 1000 := let ⟨_, _, h⟩ := h; (okN_str h).1
theorem OkD.len {ds : List PyData} (h : OkD (.tuple ds)) : ds.length ≤ 1000 := by
  obtain ⟨_, _, h⟩ := h
  obtain ⟨m, _, h2, _⟩ := okN_tup h
  exact h2
theorem OkD.child {ds : List PyData} (h : OkD (.tuple ds)) {d : PyData} (hd : d ∈ ds) : OkD d := by
  obtain ⟨n, hn, h⟩ := h
  obtain ⟨m, rfl, _, h3⟩ := okN_tup h
  exact ⟨m, by omega, h3 d hd⟩
mutual
theorem okN_lay : ∀ (d : PyData) {n : Nat}, okN n d = true → d.canLay0 = true ∧ d.depth ≤ n
  | .none, n, _ => ⟨by simp only [PyData.canLay0], by simp only [PyData.depth]; omega⟩
  | .bool _, n, _ => ⟨by simp only [PyData.canLay0], by simp only [PyData.depth]; omega⟩
  | .int _, n, _ => ⟨by simp only [PyData.canLay0], by simp only [PyData.depth]; omega⟩
  | .str x, n, h => ⟨by simp only [PyData.canLay0]; exact (okN_str h).2, by simp only [PyData.depth]; omega⟩
  | .list xs, n, h => by cases n <;> cases h
  | .dict xs, n, h => by cases n <;> cases h
  | .tuple ds, n, h => by
    obtain ⟨m, e, _, h3⟩ := okN_tup h
    have q := okN_layAll ds h3
    simp only [PyData.canLay0, PyData.depth]
    exact ⟨q.1, by have := q.2; omega⟩
theorem okN_layAll : ∀ (ds : List PyData) {n : Nat}, (∀ d ∈ ds, okN n d = true) → PyData.canLayAll0 ds = true ∧ PyData.depthAll ds ≤ n
  | [], n, _ => ⟨by simp only [PyData.canLayAll0], by simp only [PyData.depthAll]; omega⟩
  | d :: ds, n, h => by
    have q := okN_lay d (h d List.mem_cons_self)
    have r := okN_layAll ds fun e he => h e (List.mem_cons_of_mem _ he)
    simp only [PyData.canLayAll0, PyData.depthAll, q.1, r.1, Bool.and_true]
    exact ⟨trivial, Nat.max_le.mpr ⟨q.2, r.2⟩⟩
end
theorem OkD.shaped {d : PyData} (h : OkD d) : SeqAt.shaped d = true := by
  obtain ⟨n, hn, h⟩ := h
  have q := okN_lay d h
  unfold SeqAt.shaped
  rw [q.1, Bool.true_and, decide_eq_true_eq]
  omega
theorem OkD.of {d : PyData} (h : okN 8 d = true) : OkD d := ⟨8, by decide, h⟩
theorem line1000 {n : Nat} (h : n ≤ 1000) : n ≤ sizeLine := Nat.le_of_lt (small1000 h)
/-- a test of one datum -/
def spData (K : PySem.W.Frag) (ts : List Addr) (p : PyData → Bool) : Sp := fun vs H Q _ => ∃ v d, vs = [v] ∧ Dt K H v d ∧ OkD d ∧ (∀ T ∈ ts, TabG H T) ∧ ∀ H', Kp H H' → Q (.bl (p d)) H'
end Gd
namespace Gd
open PySem PySem.Spec PyProof.Rows L2 GxR Gx
/-- a generator expression's scope without captured names -/
def genC (scope : Scope) (x : Str) : Bool := decide (scope.kind = .function) && !scope.isCoroutine && (scope.names.all fun y => !decide (y.2 = NameKind.cell) && !decide (y.2 = NameKind.free)) && decide (scope.names.lookup (".0" : Str) = some NameKind.local) && decide (scope.names.lookup x = some NameKind.local)
theorem genS_by {env : Env} {scope : Scope} {x : Str} (h : genC scope x = true) : GenS env scope x := by
  unfold genC at h
  simp only [Bool.and_eq_true, decide_eq_true_eq, Bool.not_eq_true', List.all_eq_true, decide_eq_false_iff_not] at h
  obtain ⟨⟨⟨⟨h1, h2⟩, h3⟩, h4⟩, h5⟩ := h
  exact ⟨h1, h2, fun y hy => (h3 y hy).1, h4, h5, fun y hy e => absurd e (h3 y hy).2⟩
theorem nd1 (x : Str) : (x :: capN []).Nodup := by simp [capN]
end Gd

/-! {elt for tg in iter}, its members ints or texts; len of it. -/
namespace Gd
open PySem PySem.Spec PyProof.Rows L2 GxR Gx

abbrev noKeys : Key → Bool := fun _ => false
abbrev addKey (S : Key → Bool) (k : Key) : Key → Bool := fun j => S j || decide (j = k)
theorem setK_fresh {P : Program} {w : World} {h : Heap} : (h.push { cls := .type "set", dict := none, data := .set #[] 0 (.fresh 0 0 (!w.params.followText "set-order")) }).SetOf (mixKind P w) h.objs.size noKeys 0 :=
  ⟨_, #[], 0, _, Heap.get?_push_size _ rfl, ⟨rfl, rfl, rfl⟩, rfl, (fun e he => by simp at he), (fun k => by simp), (by decide), (by rfl), rfl⟩
section
variable {X : Cx}
theorem addK_ok {pins : List (Addr × Obj)} {σ : L2.St} {H : Hp} {s : Shared} {E : Value → Shared → Prop} {D : Addr} {S : Key → Bool} {n : Nat} {k : Key} {u : Value} {Q : Value → Shared → Prop} (I : Inv X pins σ H s) (hD : H D = some (SetK X.prog X.w D S n)) (room : n + 1 < scanBound) (r : RelV (kV k) u)
    (h : ∀ s', Inv X pins σ (upd H D (SetK X.prog X.w D (addKey S k) (if S k = true then n else n + 1))) s' → Q .none s') : wpAny (model X.prog X.w) X.A (call (.builtin "set.add") [.ref D, u]) Q E s := by
  refine call_set_add (kV_is r) (key_scan r) (setK_get I hD) room fun h' sb new => ?_
  obtain ⟨ob, _, _, _, ho, _⟩ := id new
  exact h _ (I.write (e := D) (t' := s.toks + 1) (by rw [hD]; trivial) (.inl rfl) (fun b o hb q => (sb.2 b hb).trans q) ⟨ob, ho⟩ (setK_new new))

/-- the reading: D the new set; W by the turn and a measure -/
def tScK (P : Program) (w : World) (wi : TI) (g : TG) (te : TE) (vs : List Nat) : TE := fun σ H Q => wi σ H fun J H1 => ∀ D, H1 D = none → ∃ W : Nat → Nat → Hp → Prop, (∃ m, W 0 m (upd H1 D (SetK P w D noKeys 0))) ∧ ∀ i m H, W i m H →
  (J.stop i H ∧ Q (.ref D) H) ∨ (J.go i H ∧ ∃ Nx : Hp → Prop, (∀ H', Nx H' → ∃ m', m' < m ∧ W (i + 1) m' H') ∧ ∀ x H', J.yld i H x H' → g x (wipe σ vs) H' fun σ2 H2 => wipe σ2 vs = wipe σ vs ∧ te σ2 H2 fun y H4 =>
    ∃ (k : Key) (S : Key → Bool) (n : Nat), y = kV k ∧ H4 D = some (SetK P w D S n) ∧ n + 1 < scanBound ∧ Nx (upd H4 D (SetK P w D (addKey S k) (if S k = true then n else n + 1))))

theorem pe_scK {elt tg iter : Expr} {scope : Scope} {own : List (PySem.Str × Nat)} {pos : Pos} {wi : TI} {g : TG} {te : TE} (hc : X.calm = true) (hN : X.N.Nodup) (hi : PI X tg iter wi) (ok : BlkOk X.N X.env.scope scope own)
    (hg : ∀ (s : Shared) (H : Hp) (C : Addr) (cl : List (PySem.Str × Addr)) (fp : List Addr), PG (X.blk s H scope (compEnvC scope cl C X.env) fp) tg g) (_ : ∀ (s : Shared) (H : Hp) (C : Addr) (cl : List (PySem.Str × Addr)) (fp : List Addr), PTs (X.blk s H scope (compEnvC scope cl C X.env) fp) [] tYes)
    (he : ∀ (s : Shared) (H : Hp) (C : Addr) (cl : List (PySem.Str × Addr)) (fp : List Addr), PE (X.blk s H scope (compEnvC scope cl C X.env) fp) elt te) (hs : ∀ x, foldedSetIterable iter X.env x = pure x := by intro _; rfl) :
    PE X (.SetComp elt [⟨tg, iter, [], 0⟩] scope pos) (tScK X.prog X.w wi g te (own.map (·.2))) := by
  refine ⟨fun pins s σ H Q I h => ?_⟩
  rw [PpSet.eval_SetComp]
  have free : ∀ y ∈ scope.names, y.2 = .free → ∃ c, X.env.cells.lookup y.1 = some c := fun y hy e => (ok.free y hy e).elim (fun k => I.ok.has _ (.inl k)) fun k => I.ok.has _ (.inr k)
  refine wpAny_comprehension_free (use := none) rfl hs (closure_ok free) ok.kind (fun y hy e => by rw [ok.uniq y hy, e]) (thn (hi.run pins s σ H _ I h) fun xv s1 hx => thn hx fun itv s2 h2 => ?_)
  obtain ⟨it, fp, tn, J, H2, rfl, I2, T, st2, f2, q⟩ := h2
  refine PpSet.newSet_ok (newEnv_comp ?_)
  obtain ⟨W, ⟨m0, w0⟩, turn⟩ := q s2.heap.objs.size (I2.hok.fresh (Nat.le_refl _))
  -- the set
  let so : Obj := { cls := .type "set", dict := none, data := .set #[] 0 (.fresh 0 0 (!X.w.params.followText "set-order")) }
  let H3 : Hp := upd H2 s2.heap.objs.size (SetK X.prog X.w s2.heap.objs.size noKeys 0)
  let s3 : Shared := { s2 with heap := s2.heap.push so }
  have I3 : Inv X pins σ H3 s3 := I2.laid (t' := s2.toks) (fun b o e => Heap.get?_push_of_some _ e) (Nat.le_refl _) (setK_new setK_fresh)
  have f3 : ∀ b ∈ fp, FpOk X pins H3 b ∧ b < s3.heap.objs.size := fun b hb => by
    obtain ⟨o, e, _⟩ := T.obj _ _ st2 b hb
    have lt := Heap.lt_size e
    exact ⟨⟨by show upd _ _ _ b = none; rw [upd_ne (Nat.ne_of_lt lt)]; exact (f2 b hb).1, (f2 b hb).2⟩, by show b < (s2.heap.push so).objs.size; rw [Heap.size_push]; exact Nat.lt_succ_of_lt lt⟩
  have st3 : tn 0 s3.heap := T.keep _ _ _ st2 fun b _ o e => Heap.get?_push_of_some _ e
  -- the block
  have I4 := block_start I3 ok hN f3
  have pg := hg s3 H3 s3.heap.objs.size (cellsFrom (s3.heap.objs.size + 1) scope.names (cloFrom X.env.cells scope.names [])) fp
  have pe := he s3 H3 s3.heap.objs.size (cellsFrom (s3.heap.objs.size + 1) scope.names (cloFrom X.env.cells scope.names [])) fp
  let ce : Env := compEnvC scope (cellsFrom (s3.heap.objs.size + 1) scope.names (cloFrom X.env.cells scope.names [])) s3.heap.objs.size X.env
  let s4 : Shared := { s3 with heap := pushCells (s3.heap.push { cls := .type "dict", data := .dict #[] }) scope.names }
  have I4 : Inv (X.blk s3 H3 scope ce fp) [] (wipe σ (own.map (·.2))) H3 s4 := I4
  have st4 : tn 0 s4.heap := T.keep _ _ _ st3 fun b _ o e => pushCells_keeps _ _ _ _ (Heap.get?_push_of_some _ e)
  have stat : ∀ {σ' : L2.St} {H' : Hp} {s' : Shared}, Inv (X.blk s3 H3 scope ce fp) [] σ' H' s' → (∀ b ∈ fp, H' b = none) → ∀ b ∈ fp, FpOk (X.blk s3 H3 scope ce fp) [] H' b := fun {σ' H' s'} J' hn b hb =>
    ⟨hn b hb, (J'.ok.exf b hb).1, J'.ok.exfs b hb, .inl hb, fun x c e => (J'.ok.exf b hb).2 x c e, fun p hp => absurd (show p ∈ ([] : List (Addr × Obj)) ++ [] from hp) (by simp)⟩
  show codeAny _ _ (.compStart (.SetComp elt [⟨tg, iter, [], 0⟩] scope pos) 0 (.ref it) (.ref s2.heap.objs.size) ce) (compPost (model X.prog X.w) X.A X.xe none (EP X pins σ Q) (.ref s2.heap.objs.size) s3.heap.objs.size) s4
  refine PpSet.codeAny_compStart_set ?loop (T.self X.A 0 _ _ _ st4 ?loop)
  refine PpSet.compLoopS_any (fun n s' => ∃ i H', Inv (X.blk s3 H3 scope ce fp) [] (wipe σ (own.map (·.2))) H' s' ∧ tn i s'.heap ∧ (∀ b ∈ fp, H' b = none) ∧ W i n H') ?_ m0 ⟨0, H3, I4, st4, fun b hb => (f3 b hb).1.1, w0⟩
  rintro n s5 ⟨i, H5, I5, st5, n5, w5⟩
  rcases turn i n H5 w5 with ⟨stop, qq⟩ | ⟨go, Nx, hNx, step⟩
  · refine thnF (T.done (X.blk s3 H3 scope ce fp) rfl rfl rfl hc i [] s5 _ H5 (fun _ _ => False) I5 (stat I5 n5) st5 stop) fun r s6 ⟨hr, I6⟩ => ?_
    subst hr
    have I7 : Inv X pins σ H5 s6 := I3.call' (ch := fp) I6.os I6.base I6.hok I6.bare fun b hb => ⟨(f3 b hb).1.2.2.2.1, (f3 b hb).1.2.1, (f3 b hb).1.2.2.2.2.1, (f3 b hb).1.2.2.2.2.2⟩
    have fC := I3.fpOk (H' := H5) (Nat.le_refl _) (show H5 s3.heap.objs.size = none from I6.free)
    obtain ⟨m, hn, _⟩ := I6.loc
    refine ⟨m, hn, fun h'' sb => ?_⟩
    obtain ⟨f0, f1, _, f3', f4', f5'⟩ := fC
    exact ⟨.ref _, H5, I7.turned (t' := s6.toks) (fun b o hb e => (sb.2 b hb).trans e) f0 f1 f3' f4' f5', rfl, qq⟩
  · refine thnF (T.item (X.blk s3 H3 scope ce fp) rfl rfl rfl hc i [] s5 _ H5 (fun _ _ => False) I5 (stat I5 n5) st5 go) fun r s6 ⟨u, hr, h6⟩ => ?_
    subst hr
    refine thnF h6 fun _ s7 ⟨x, H7, I7, r7, y7, st7, n7⟩ => ?_
    refine thnF (pg.run _ s7 _ H7 x u _ (I7.pinned (stat I7 n7) (T.obj _ _ st7)) r7 (step x H7 y7)) fun _ s8 ⟨σ8, H8, I8, hw8, q8⟩ => ?_
    refine wpAny_tests_nil ?_
    simp only [if_true]
    refine thnF (pe.run _ s8 σ8 H8 _ I8 q8) fun z s9 ⟨yv, H9, I9, r9, k, S0, n0, ey, hD9, room, nx⟩ => ?_
    subst ey
    refine addK_ok (X := X.blk s3 H3 scope ce fp) I9 hD9 room r9 fun s10 I10 => ?_
    obtain ⟨m', hm, w'⟩ := hNx _ nx
    have still : ∀ b ∈ fp, ∀ o, s7.heap.get? b = some o → s10.heap.get? b = some o ∧ _ = none := fun b hb o e =>
      let z := I10.pin (b, o) (List.mem_append_right _ (List.mem_append_right _ (mem_pinsAt hb e)))
      ⟨z.1, z.2.1⟩
    refine ⟨m', hm, i + 1, _, (I10.unpinned (pins := [])).weak (show (wipe σ (own.map (·.2))).length = σ8.length by rw [← hw8, wipe_length]) (fun j v e => ?_), T.keep _ _ _ st7 fun b hb o e => (still b hb o e).1, fun b hb => ?_, w'⟩
    · rw [← hw8] at e
      exact (wipe_some e).1
    · obtain ⟨o, e, _⟩ := T.obj _ _ st7 b hb
      exact (still b hb o e).2

/-- len of a set of keys -/
def rLenK (P : Program) (w : World) : List V → Hp → VK → Prop := fun xs H Q => ∃ (a : Addr) (S : Key → Bool) (n : Nat), xs = [.ref a] ∧ H a = some (SetK P w a S n) ∧ Q (.int n) H
theorem call_lenK : CallR X (.builtin "len") (rLenK X.prog X.w) := by
  intro pins s σ H xs us Q I r h
  obtain ⟨a, S, n, rfl, ha, q⟩ := h
  obtain ⟨u, rfl, ru⟩ := vals1 r
  cases ru
  obtain ⟨o, es, ep, t, ho, hx, hd, he, hm, hb, hf, hn⟩ := setK_get I ha
  have h4 : scanBound = 4096 := rfl
  exact call_len_set ho hx hd hf (by omega) ⟨.int n, H, I.tok _, ⟨_, by rw [hn]⟩, q⟩

/-! ### the members of a row: as many as there are different ones -/
theorem snoc_ind {α : Type} {p : List α → Prop} (h0 : p []) (h1 : ∀ l a, p l → p (l ++ [a])) (l : List α) : p l := by
  have h : ∀ r : List α, p r.reverse := fun r => by
    induction r with
    | nil => exact h0
    | cons a r ih =>
      rw [List.reverse_cons]
      exact h1 _ _ ih
  have q := h l.reverse
  rw [List.reverse_reverse] at q
  exact q
/-- what a walk over keys leaves -/
def keysOf (ks : List Key) : (Key → Bool) × Nat := ks.foldl (fun p k => (addKey p.1 k, if p.1 k = true then p.2 else p.2 + 1)) (noKeys, 0)
theorem keysOf_snoc (ks : List Key) (k : Key) : keysOf (ks ++ [k]) = (addKey (keysOf ks).1 k, if (keysOf ks).1 k = true then (keysOf ks).2 else (keysOf ks).2 + 1) := by
  unfold keysOf
  rw [List.foldl_append]
  rfl
theorem keysOf_mem (ks : List Key) (j : Key) : (keysOf ks).1 j = true ↔ j ∈ ks := by
  refine snoc_ind (p := fun ks => (keysOf ks).1 j = true ↔ j ∈ ks) (by simp [keysOf]) (fun ks k ih => ?_) ks
  · rw [keysOf_snoc]
    show (_ || _) = true ↔ _
    rw [Bool.or_eq_true, decide_eq_true_eq, ih]
    simp
theorem keysOf_le (ks : List Key) : (keysOf ks).2 ≤ ks.length := by
  refine snoc_ind (p := fun ks => (keysOf ks).2 ≤ ks.length) (by simp [keysOf]) (fun ks k ih => ?_) ks
  · rw [keysOf_snoc, List.length_append, List.length_singleton]
    show (if (keysOf ks).1 k = true then (keysOf ks).2 else (keysOf ks).2 + 1) ≤ ks.length + 1
    have ih : (keysOf ks).2 ≤ ks.length := ih
    split <;> omega
theorem keysOf_all (ks : List Key) : (keysOf ks).2 = ks.length ↔ ks.Nodup := by
  refine snoc_ind (p := fun ks => (keysOf ks).2 = ks.length ↔ ks.Nodup) (by simp [keysOf]) (fun ks k ih => ?_) ks
  · have hle := keysOf_le ks
    rw [keysOf_snoc, List.length_append, List.length_singleton, List.nodup_append]
    show (if (keysOf ks).1 k = true then (keysOf ks).2 else (keysOf ks).2 + 1) = ks.length + 1 ↔ _
    have ih : (keysOf ks).2 = ks.length ↔ ks.Nodup := ih
    by_cases h : (keysOf ks).1 k = true
    · rw [if_pos h]
      have hm := (keysOf_mem ks k).mp h
      constructor
      · intro e
        omega
      · intro n
        exact absurd rfl (n.2.2 k hm k (List.mem_singleton.mpr rfl))
    · rw [if_neg h]
      have hm : k ∉ ks := fun z => h ((keysOf_mem ks k).mpr z)
      constructor
      · intro e
        refine ⟨ih.mp (by omega), by simp, fun a ha b hb => ?_⟩
        rw [List.mem_singleton.mp hb]
        exact fun z => hm (z ▸ ha)
      · intro n
        have := ih.mpr n.1
        omega
end
end Gd

/-! Walks over tuples of data. -/
namespace Gd
open PySem PySem.Spec PyProof.Rows L2 GxR Gx
section
variable {K : PySem.W.Frag}
theorem all_takeD {p : PyData → Bool} {l : List PyData} {i : Nat} {d : PyData} (hd : l[i]? = some d) (h : (l.take i).all p = true) : (l.take (i + 1)).all p = p d := by
  rw [List.take_add_one, hd, List.all_append, h, Bool.true_and]
  simp
theorem all_midD {p : PyData → Bool} {l : List PyData} {i : Nat} {d : PyData} (hd : l[i]? = some d) (h : p d = false) : l.all p = false := by
  rw [List.all_eq_false]
  exact ⟨d, List.mem_of_getElem? hd, by rw [h]; exact Bool.false_ne_true⟩
/-- all(test for x in tuple) -/
theorem all_tup {T a : Addr} {xs : List V} {ds : List PyData} {te : TE} {p : PyData → Bool} {H1 : Hp} {Q : VK} {σ : L2.St} (hT : TabG H1 T) (h : SqT K H1 a xs) (hs : DtAll K H1 xs ds)
    (ht : ∀ (v : V) (d : PyData) (H : Hp) (Q' : VK), d ∈ ds → Dt K H v d → Kp H1 H → (∀ H', Kp H H' → Q' (.bl (p d)) H') → te [some v] H Q') (q : ∀ H', Kp H1 H' → Q (.bl (ds.all p)) H') :
    TabG H1 T ∧ ∀ H2, Tabbed T H1 H2 → ∃ W : Nat → Nat → Hp → Prop, (∃ m, W 0 m H2) ∧ ∀ i m H, W i m H → ((Itt K a).stop i H ∧ Q (.bl true) H) ∨
      ((Itt K a).go i H ∧ ∃ Nx : Hp → Prop, (∀ H', Nx H' → ∃ m', m' < m ∧ W (i + 1) m' H') ∧ ∀ y H', (Itt K a).yld i H y H' → gName 0 y (none :: capV σ []) H' fun σ2 H3 =>
        (∀ (j : Nat) v, (none :: capV σ [] : L2.St)[j]? = some (some v) → σ2[j]? = some (some v)) ∧ te σ2 H3 fun y H5 => ∃ c, y = .bl c ∧ if c = true then Nx H5 else Q (.bl false) H5) := by
  refine ⟨hT, fun H2 h2 => ⟨fun i m H => Kp H1 H ∧ m = xs.length - i ∧ i ≤ xs.length ∧ (ds.take i).all p = true, ⟨_, Kb.tabbed h2 hT, rfl, Nat.zero_le _, by simp⟩, ?_⟩⟩
  rintro i m H ⟨k, rfl, hi, ha⟩
  have hq := k.sqT Lsts.nil h
  have hds := DtAll.kb k Lsts.nil hs
  by_cases hl : i < xs.length
  · obtain ⟨v, hv⟩ : ∃ v, xs[i]? = some v := ⟨xs[i], List.getElem?_eq_getElem hl⟩
    obtain ⟨d, hd, hvd⟩ := hds.get hv
    refine .inr ⟨⟨xs, v, hq, hv⟩, fun H' => Kp H1 H' ∧ (ds.take (i + 1)).all p = true, fun H' ⟨e, a⟩ => ⟨xs.length - (i + 1), by omega, e, rfl, hl, a⟩, fun y H' hy => ?_⟩
    obtain ⟨rfl, hy⟩ := hy
    have ey : v = y := Option.some.inj (hv.symm.trans (hy xs hq))
    subst ey
    refine ⟨nil_slots, ht v d _ _ (List.mem_of_getElem? hd) hvd k fun H5 k5 => ⟨p d, rfl, ?_⟩⟩
    cases e : p d with
    | true =>
      rw [if_pos rfl]
      exact ⟨k.trans k5, by rw [all_takeD hd ha, e]⟩
    | false =>
      rw [if_neg Bool.false_ne_true, ← all_midD (p := p) hd e]
      exact q _ (k.trans k5)
  · have e : i = xs.length := by omega
    subst e
    refine .inl ⟨⟨xs, hq, Nat.le_refl _⟩, ?_⟩
    have e2 : ds.take xs.length = ds := by
      rw [hs.length]
      exact List.take_length
    rw [e2] at ha
    rw [← ha]
    exact q _ k
/-- {e for x in tuple}, each member known -/
theorem scK_tup {P : Program} {w : World} {a : Addr} {xs : List V} {ks : List Key} {te : TE} {H1 : Hp} {Q : VK} {σ : L2.St} {j : Nat} (h : SqT K H1 a xs) (hl : ks.length = xs.length) (hn : xs.length ≤ 1000) (hj : j < σ.length)
    (ht : ∀ (i : Nat) (v : V) (k : Key) (H : Hp) (Q' : VK), xs[i]? = some v → ks[i]? = some k → Kp H1 H → Q' (kV k) H → te ((wipe σ [j]).set j (some v)) H Q')
    (q : ∀ D H', H1 D = none → Kp H1 H' → H' D = some (SetK P w D (keysOf ks).1 (keysOf ks).2) → Q (.ref D) H') :
    ∀ D, H1 D = none → ∃ W : Nat → Nat → Hp → Prop, (∃ m, W 0 m (upd H1 D (SetK P w D noKeys 0))) ∧ ∀ i m H, W i m H →
      ((Itt K a).stop i H ∧ Q (.ref D) H) ∨ ((Itt K a).go i H ∧ ∃ Nx : Hp → Prop, (∀ H', Nx H' → ∃ m', m' < m ∧ W (i + 1) m' H') ∧ ∀ x H', (Itt K a).yld i H x H' → gName j x (wipe σ [j]) H' fun σ2 H2 => wipe σ2 [j] = wipe σ [j] ∧ te σ2 H2 fun y H4 =>
        ∃ (k : Key) (S : Key → Bool) (n : Nat), y = kV k ∧ H4 D = some (SetK P w D S n) ∧ n + 1 < scanBound ∧ Nx (upd H4 D (SetK P w D (addKey S k) (if S k = true then n else n + 1)))) := by
  intro D hD
  refine ⟨fun i m H => m = xs.length - i ∧ i ≤ xs.length ∧ Kp H1 H ∧ H D = some (SetK P w D (keysOf (ks.take i)).1 (keysOf (ks.take i)).2), ⟨_, rfl, Nat.zero_le _, Kb.new hD, upd_same⟩, ?_⟩
  rintro i m H ⟨rfl, hi, k, hs⟩
  have hq := k.sqT Lsts.nil h
  by_cases hl2 : i < xs.length
  · obtain ⟨v, hv⟩ : ∃ v, xs[i]? = some v := ⟨xs[i], List.getElem?_eq_getElem hl2⟩
    obtain ⟨ky, hk⟩ : ∃ y, ks[i]? = some y := ⟨ks[i], List.getElem?_eq_getElem (by omega)⟩
    refine .inr ⟨⟨xs, v, hq, hv⟩, fun H' => Kp H1 H' ∧ H' D = some (SetK P w D (keysOf (ks.take (i + 1))).1 (keysOf (ks.take (i + 1))).2), fun H' ⟨a, b⟩ => ⟨xs.length - (i + 1), by omega, rfl, hl2, a, b⟩, fun x H' hy => ?_⟩
    obtain ⟨rfl, hy⟩ := hy
    have ey : v = x := Option.some.inj (hv.symm.trans (hy xs hq))
    subst ey
    refine ⟨?_, ht i v ky _ _ hv hk k ⟨ky, _, _, rfl, hs, ?_, ?_, ?_⟩⟩
    · show ((wipe σ [j]).set j (some v)).set j none = wipe σ [j]
      unfold wipe wipe
      rw [List.set_set, List.set_set]
    · have h1 := keysOf_le (ks.take i)
      rw [List.length_take] at h1
      show _ + 1 < 4096
      omega
    · exact k.mut hD (no_tab hs nt_ext)
    · rw [upd_same, List.take_add_one, hk]
      show some (SetK P w D _ _) = some (SetK P w D (keysOf (ks.take i ++ [ky])).1 (keysOf (ks.take i ++ [ky])).2)
      rw [keysOf_snoc]
  · have e : i = xs.length := by omega
    subst e
    refine .inl ⟨⟨xs, hq, Nat.le_refl _⟩, q D H hD k ?_⟩
    rw [← hl, List.take_length] at hs
    exact hs
end
end Gd
namespace Gd
open PySem PySem.Spec PyProof.Rows L2 GxR Gx
/-! ### rules whose reading names the written part by a letter, for the blocks of comprehensions -/
section
variable {X : Cx} {K : PySem.W.Frag}
theorem ix_tupK (h : X.K = K) : IxR X (rIxT K) := h ▸ ix_tup
theorem ix_listK (h : X.K = K) : IxR X (rIxL K) := h ▸ ix_list
theorem call_isiL (h : X.K = K) : CallR X (.builtin "isinstance") (rIsi K) := h ▸ call_isi
theorem call_len_seqK (h : X.K = K) : CallR X (.builtin "len") (fun xs H Q => ∃ p ys, xs = [.ref p] ∧ (SqL K H p ys ∨ SqT K H p ys) ∧ Q (.int ys.length) H) := h ▸ call_len_seq
theorem op_eqDK (h : X.K = K) (hu : X.A.units + 64 < cLine) : OpR X (compareOp .Eq) (rEqD K) := h ▸ op_eqD hu
theorem op_neDK (h : X.K = K) (hu : X.A.units + 64 < cLine) : OpR X (compareOp .NotEq) (rNeD K) := h ▸ op_neD hu
end
end Gd
namespace Gd
open PySem PySem.Spec PyProof.Rows L2 GxR Gx
section
variable {K : PySem.W.Frag} {T : Addr} {te : TE} {H : Hp} {Q : VK} {σ : L2.St} {i : Nat}
theorem rd_all_str {x : Str} {p : Nat → Bool} (hx : σ[i]? = some (some (.str x))) (hT : TabG H T)
    (ht : ∀ c ∈ x.cps.toList, ∀ (H : Hp) (Q' : VK), Q' (.bl (p c)) H → te [some (.str ⟨#[c]⟩)] H Q') (q : ∀ H2, Kp H H2 → Q (.bl (x.cps.toList.all p)) H2) : tAllG T (iStr (tVar i)) (gName 0) te [] σ H Q :=
  ⟨.str x, hx, x, rfl, all_str (p := p) hT ht fun H2 h2 => q H2 (Kb.tabbed h2 hT)⟩
theorem rd_all_tup {a : Addr} {xs : List V} {ds : List PyData} {p : PyData → Bool} (hx : σ[i]? = some (some (.ref a))) (hT : TabG H T) (h : SqT K H a xs) (hs : DtAll K H xs ds)
    (ht : ∀ (v : V) (d : PyData) (H' : Hp) (Q' : VK), d ∈ ds → Dt K H' v d → Kp H H' → (∀ H2, Kp H' H2 → Q' (.bl (p d)) H2) → te [some v] H' Q') (q : ∀ H', Kp H H' → Q (.bl (ds.all p)) H') : tAllG T (iTup K (tVar i)) (gName 0) te [] σ H Q :=
  ⟨.ref a, hx, a, rfl, ⟨xs, h⟩, all_tup (p := p) hT h hs ht q⟩
theorem rd_scK_tup {P : Program} {w : World} {a : Addr} {xs : List V} {ks : List Key} {j : Nat} (hx : σ[i]? = some (some (.ref a))) (h : SqT K H a xs) (hl : ks.length = xs.length) (hn : xs.length ≤ 1000) (hj : j < σ.length)
    (ht : ∀ (i : Nat) (v : V) (k : Key) (H' : Hp) (Q' : VK), xs[i]? = some v → ks[i]? = some k → Kp H H' → Q' (kV k) H' → te ((wipe σ [j]).set j (some v)) H' Q')
    (q : ∀ D H', H D = none → Kp H H' → H' D = some (SetK P w D (keysOf ks).1 (keysOf ks).2) → Q (.ref D) H') : tScK P w (iTup K (tVar i)) (gName j) te [j] σ H Q :=
  ⟨.ref a, hx, a, rfl, ⟨xs, h⟩, scK_tup h hl hn hj ht q⟩
end
end Gd

/-! Defs that may raise an own error with one field; the error caught. -/
namespace Gd
open PySem PySem.Spec PyProof.Rows L2 GxR Gx
/-- what a caller of a def that may raise needs -/
def CalX (P : Program) (w : World) (K : PySem.W.Frag) (mg : Str → Option Value) (base : Heap) (k : Nat) (x : Str) (ps : List Str) (sp : Sp) : Prop :=
  ∃ f fd, FnG P w K mg base (L2.CX P w) k f fd ps sp ∧ mg x = some (.ref f) ∧ PySem.W.keepIn K (.ref f) = true ∧ Binds K fd ps []
section
variable {P : Program} {w : World} {K : PySem.W.Frag} {mg : Str → Option Value} {base : Heap}
theorem DefAt.calX {x : Str} {st : Stmt} {N ps : List Str} {k : Nat} {sp : Sp} (D : DefAt K mg x st ps) (S : FnScope N ps (defScope st)) (len : ∀ vs H Q E, sp vs H Q E → vs.length = ps.length)
    (hb : ∀ (f : Addr) (cdv : Value) (A : Around) (outer : List Env) (s : Shared) (H : Hp) (vs : List V) (Q : VK) (E : XK), RoomG k (A.deeper (envOfC x (defScope st) s.heap.objs.size f cdv)) → sp vs H Q E →
      ∃ t, PSs (cxOf (L2.CX P w) P w K mg base N x (defScope st) f cdv A outer s H E) (defBody st) t ∧ t { nx := fun _ H' => Q .non H', rt := Q } (start N vs) H) : CalX P w K mg base (k + 1) x ps sp := by
  obtain ⟨f, fd, F, g, b⟩ := D
  exact ⟨f, fd, okGX F S len (hb f), g, F.kp, b⟩
end
section
variable {X : Cx} {k : Nat} {ps : List Str} {sp : Sp} {x : Str} {p pos : Pos} {e : Expr} {es : List Expr} {t : TA} {E : L2.St → XK}
theorem pe_calX (C : CalX X.prog X.w X.K X.mg X.base k x ps sp) (hr : RoomG k X.A) (hg : Gl X x) (hx : ∀ σ, PassesAt (L2.CX X.prog X.w) X σ (E σ)) (ha : PA X (e :: es) t) (hdb : (x == ("__debug__" : Str)) = false := by decide)
    (he : starEach (e :: es) X.env = (false, eval e X.env) :: starEach es X.env := by rfl) (hpl : (backTo pos (starEach es X.env)).any (·.1) = false := by rfl) : PE X (.Call (.Name x p) (e :: es) [] pos) (tCallS sp E t) := by
  obtain ⟨f, fd, F, g, kp, b⟩ := C
  refine ⟨fun pins s σ H Q I h => wpAny_Call_Name_kw (ld_glob I hg g ?_ hdb)⟩
  refine PySem.W.callWith_K (h₀ := X.base) I.ok.mod.kin kp (thn (ha.run pos pins s σ H _ I h) fun us s1 ⟨vs, H1, I1, rv, q1⟩ => ⟨I1.kIn, ?_⟩) he hpl
  have hl : us.length = ps.length := by
    rw [← rv.length]
    exact F.len _ _ _ _ q1
  have bb := b s1 us I1.kIn (by rw [List.append_nil]; exact hl)
  rw [List.append_nil] at bb
  refine wpAny_call (codeAny_mono (F.run X.A X.stack s1 H1 ⟨us, []⟩ us vs Q (E σ) hr I1.env0 bb rv q1) fun r s' hq => ?_)
  cases r with
  | error er => exact hx σ pins H1 s1 er s' I1 hq
  | ok fl =>
    cases fl with
    | ret u => exact I1.after hq
    | _ => exact hq.elim
end
/-- __init__ that stores its one argument -/
def spInit (K : PySem.W.Frag) (fld : Str) : Sp := fun vs H Q _ => ∃ (a C : Addr) (y : V), vs = [.ref a, y] ∧ OexC K C ∧ PySem.W.findIn K (.ref C) fld = some none ∧ H a = some (exo a C none) ∧
  ∀ dx, H dx = none → dx ≠ a → Q .non (upd (upd H dx (exd dx [(fld, y)])) a (exo a C (some dx)))
theorem rd_raise {K : PySem.W.Frag} {C : Addr} {fld : Str} {σ : L2.St} {H : Hp} {Q : XK} {i : Nat} {v : V} (T : OexC K C) (hno : PySem.W.findIn K (.ref C) fld = some none) (hv : σ[i]? = some (some v)) (q : ∀ d H', Kp H H' → H' d = some (.xd [(fld, v)]) → Q (.ref C) (some d) H') :
    tMkO C (spInit K fld) [] (tCons (tVar i) tNil) σ H Q := by
  refine ⟨v, hv, by show 1 ≤ 1000; decide, fun a ha => ⟨a, C, v, rfl, T, hno, upd_same, fun dx hdx hne => ?_⟩⟩
  have hd : H dx = none := by rw [upd_ne hne] at hdx; exact hdx
  refine ⟨rfl, dx, [(fld, v)], upd_same, by rw [upd_ne hne]; exact upd_same, hd, q dx _ ⟨fun b o e _ _ => ?_, fun T' hT => ?_, fun b e => ?_⟩ upd_same⟩
  · have h1 : b ≠ a := ne_of_none e ha
    have h2 : b ≠ dx := ne_of_none e hd
    rw [upd_ne h2, del_ne h1, upd_ne h1, upd_ne h2, upd_ne h1]
    exact e
  · obtain ⟨ps, e, t⟩ := hT
    have h1 : T' ≠ a := ne_of_none e ha
    have h2 : T' ≠ dx := ne_of_none e hd
    exact ⟨ps, by rw [upd_ne h2, del_ne h1, upd_ne h1, upd_ne h2, upd_ne h1]; exact e, t⟩
  · by_cases h2 : b = dx
    · rw [h2]
      exact hd
    · by_cases h1 : b = a
      · rw [h1]
        exact ha
      · rw [upd_ne h2, del_ne h1, upd_ne h1, upd_ne h2, upd_ne h1] at e
        exact e
/-- isinstance of the error that the suite holds -/
structure ExcK (K : PySem.W.Frag) (C : Addr) : Prop where
  cl : (PySem.W.clsIn K C).isSome = true
  ga : PySem.W.findIn K (.ref C) "__getattribute__" = some (some (.builtin "BaseException.__getattribute__"))
  gg : PySem.W.findIn K (.ref C) "__getattr__" = some none
  sub : PySem.W.subIn K (.ref C) (.type "BaseException") = some true
  ca : PySem.W.findIn K (.ref C) "__class__" = some (some (.builtin "object.__class__"))
  sg : PySem.W.specialIn K (.builtin "object.__class__") "__get__" = some (some (.builtin "getset_descriptor.__get__"))
  tk : PySem.W.takesIn K (.builtin "object.__class__") = some true
  mo : PySem.W.mroIn K C (.type "object") = some true
def rIsX (K : PySem.W.Frag) (C a : Addr) (cls : Value) (d : Option Addr) : List V → Hp → VK → Prop := fun xs H Q => ∃ (c : V) (cv : Value) (b : Bool) (dd : Addr) (fs : List (Str × V)), xs = [.ref a, c] ∧ cls = .ref C ∧ d = some dd ∧ H dd = some (.xd fs) ∧ (∀ u, RelV c u → u = cv) ∧ PySem.W.kitOne K (.ref C) cv = some b ∧ Q (.bl b) H
theorem call_isX {X : Cx} {a C : Addr} {oe : Obj} {cls : Value} {d : Option Addr} {pn : List (Addr × Obj)} (T : ExcK X.K C) (hz : Zc cls d oe) (hf : ∃ vs, oe.data = .fields vs) : CallR (X.suite a ((a, oe) :: pn)) (.builtin "isinstance") (rIsX X.K C a cls d) := by
  intro pins s σ H xs us Q I r h
  obtain ⟨c, cv, b, dd, fs, rfl, rfl, rfl, ed, hcv, e, q⟩ := h
  obtain ⟨vs, hv⟩ := hf
  have at_ := (I.pin (a, oe) (List.mem_append.mpr (.inl List.mem_cons_self))).1
  obtain ⟨mA, ⟨od, es, ep, ho, _⟩, _⟩ := (show ObjOk X.prog X.w H s.heap dd (.xd fs) from I.hok dd _ ed)
  have J : PySem.W.InstAt s.heap a oe C (some od) := by
    obtain ⟨oc, odc, oda, osl⟩ := oe
    obtain ⟨z1, z2⟩ := hz
    dsimp only at z1 z2 hv
    subst z1 z2 hv
    exact ⟨at_, rfl, rfl, ho⟩
  cases r with
  | cons rx rr =>
    cases rr with
    | cons rt rr =>
      cases rr
      cases rx
      cases hcv _ rt
      exact PySem.W.kia_one (PySem.W.kitx_exc T.cl T.ga T.gg T.sub T.ca T.sg T.tk T.mo) I.kIn J e (fun z => nomatch z) fun tk => ⟨.bl b, H, I.kept (t' := tk) fun _ _ z => z, rfl, q⟩
end Gd

/-! The end: the facts of the top, with the tables of code objects that the head leaves. -/
namespace Gd
open PySem PySem.Spec PyProof.Rows L2 GxR Gx
theorem walk_G2 {l : PySem.W.OpenLaw} {n k : Nat} {q : Program} {loose : List Str} {XP : (Str → Option Value) → Heap → Prop} {YP : World → Heap → Prop} {d : DefRec} {K : Params → PySem.W.Frag} {CX : World → CXT} {x : Str}
    (hn : l.most = some n) (hn2 : n ≤ sizeLine) (hdf : d.params.defaults = []) (hr : RoomG k callerA) (hY : ∀ (w : World) (h : Heap), YP w h → (K w.params).In h)
    (F : ∀ (w : World) (mg : Str → Option Value) (fa : Addr) (h : Heap), YP w h → (K w.params).In h → h.Ns mainGlobals mg → mg d.name = some (.ref fa) →
      (∀ (y : Str) (d' : DefRec) (c P : Addr), (recsOf q).find? (fun e => e.name == y) = some d' → PySem.W.tabIn (K w.params) y = some (c, P) → PySem.W.CodeHd h c P ∧ h.get? P = some { cls := .none, data := .fields #[] }) → LawG l w (K w.params) (CX w) k n x mg fa h)
    (hCX : ∀ (w : World) (H : Hp) (s : Shared) (e : Value) (s' : Shared), CX w [] H s (fun _ _ _ => False) e s' → False) :
    PySem.W.WalkO q loose XP YP l.row.toRowW d [] (fun f vs => PySem.call f vs) := by
  refine Att.attach_callB hn hdf fun w s0 s1 mg mb fa o pm cd doc a vs ns G Y ho hd hcd hmg hobj hints hlen hbits hg => ?_
  obtain ⟨fd, cs, sp, hT, nT, C, hb, hsp, hF⟩ := F w mg fa _ Y (hY w _ Y) G.T.g hmg fun y d' c P hr ht => PySem.W.tab_of G.T (hY w _ Y) hr ht
  exact law_endG (hY w _ Y) G.T.g G.T.b G.T.builtins G.T.nolimit hg hT nT C G.T.bmain hobj hints (Nat.le_trans hlen hn2) hr hF hb (fun H hH hS => hsp H a ns hlen hbits hH hS) fun H e s' => hCX w H s1 e s'
/-- the def x, its code object at c -/
def DefC (K : PySem.W.Frag) (mg : Str → Option Value) (x : Str) (st : Stmt) (ps : List Str) (c : Addr) : Prop := ∃ f fd, Fun K x x st f fd ∧ mg x = some (.ref f) ∧ Binds K fd ps [] ∧ fd.code = .ref c
theorem DefC.tab {K : PySem.W.Frag} {mg : Str → Option Value} {base : Heap} {x : Str} {st : Stmt} {ps : List Str} {c T : Addr} (D : DefC K mg x st ps c) (B : TabB base mg c T) : DefTab K mg base x st ps T :=
  let ⟨f, fd, F, g, b, e⟩ := D; ⟨f, fd, c, F, g, b, e, B⟩
section
variable {K : PySem.W.Frag} {h : Heap} {mg : Str → Option Value} {x : Str} {st : Stmt} {ps : List Str} {f c T : Addr} {od an od1 : Option Addr} {sl sl1 : Array (Option Value)} {oc kV dc pm cd ct oc1 : Value} {vs : Array Value}
theorem def_k (X : K.In h) (G : h.Ns mainGlobals mg) (a : PySem.W.nsIn K mainGlobals x = some (some (.ref f))) (l : K.lookup f = some ⟨oc, od, .func (PySem.W.fnOf x x (defArgs st) (defBody st) (defScope st) .none kV dc pm an cd ct), sl⟩) (c : PySem.W.codeIn K cd x = true) (k : PySem.W.keepIn K (.ref f) = true)
    (b : ∀ (kV doc pm : Value) (an : Option Addr) (cdv ct : Value) (us : List Value), us.length = ps.length → bindArgs (PySem.W.fnOf x x (defArgs st) (defBody st) (defScope st) .none kV doc pm an cdv ct) ⟨us, []⟩ = pure (ps.zip us)) : DefAt K mg x st ps :=
  ⟨f, _, fun_mk l c k, PySem.W.mg_of X G a, (fun_mk l c k).binds b⟩
theorem def_c (X : K.In h) (G : h.Ns mainGlobals mg) (a : PySem.W.nsIn K mainGlobals x = some (some (.ref f))) (l : K.lookup f = some ⟨oc, od, .func (PySem.W.fnOf x x (defArgs st) (defBody st) (defScope st) .none kV dc pm an (.ref c) ct), sl⟩) (cc : PySem.W.codeIn K (.ref c) x = true) (k : PySem.W.keepIn K (.ref f) = true)
    (l1 : K.lookup c = some ⟨oc1, od1, .fields vs, sl1⟩) (hv : vs[11]? = some (.ref T))
    (b : ∀ (kV doc pm : Value) (an : Option Addr) (cdv ct : Value) (us : List Value), us.length = ps.length → bindArgs (PySem.W.fnOf x x (defArgs st) (defBody st) (defScope st) .none kV doc pm an cdv ct) ⟨us, []⟩ = pure (ps.zip us)) : DefC K mg x st ps c ∧ PySem.W.tabIn K x = some (c, T) := by
  refine ⟨⟨f, _, fun_mk l cc k, PySem.W.mg_of X G a, (fun_mk l cc k).binds b, rfl⟩, ?_⟩
  unfold PySem.W.tabIn
  rw [a]
  show (match K.lookup f with
    | some ⟨_, _, .func fd, _⟩ => _
    | _ => none) = _
  rw [l]
  show (match K.lookup c with
    | some ⟨_, _, .fields vs, _⟩ => _
    | _ => none) = _
  rw [l1]
  show (match (vs[11]? : Option Value) with
    | some (.ref P) => some (c, P)
    | _ => none) = _
  rw [hv]
theorem law_k {fa : Addr} {p1 : Str} (X : K.In h) (G : h.Ns mainGlobals mg) (hfa : mg x = some (.ref fa)) (a : PySem.W.nsIn K mainGlobals x = some (some (.ref f))) (l : K.lookup f = some ⟨oc, od, .func (PySem.W.fnOf x x (defArgs st) (defBody st) (defScope st) .none kV dc pm an cd ct), sl⟩) (c : PySem.W.codeIn K cd x = true) (k : PySem.W.keepIn K (.ref f) = true)
    (b : ∀ (kV doc pm : Value) (an : Option Addr) (cdv ct : Value) (s : Shared) (u : Value), BindsTo s (PySem.W.fnOf x x (defArgs st) (defBody st) (defScope st) .none kV doc pm an cdv ct) ⟨[u], []⟩ [(p1, u)]) : ∃ fd, Fun K x x st fa fd ∧ ∀ (s : Shared) (u : Value), BindsTo s fd ⟨[u], []⟩ [(p1, u)] := by
  have e := hfa.symm.trans (PySem.W.mg_of X G a)
  cases e
  exact ⟨_, fun_mk l c k, b _ _ _ _ _ _⟩
theorem glob_k {t : Tok} {i : Int} (X : K.In h) (G : h.Ns mainGlobals mg) (a : PySem.W.nsIn K mainGlobals x = some (some (.int i t))) : ∃ t, mg x = some (.int i t) := ⟨t, PySem.W.mg_of X G a⟩
theorem no_tabs (X : K.In h) (hK : PySem.W.noTabs K = true) (hT : h.get? T = some { cls := .none, data := .fields #[] }) : K.lookup T = none := by
  cases e : K.lookup T with
  | none => rfl
  | some o =>
    have h1 := X T o e
    rw [hT] at h1
    cases h1
    have h2 := List.all_eq_true.mp hK _ (PySem.W.mem_of_lookupK e)
    exact absurd (show false = true from h2) Bool.false_ne_true
end
end Gd

/-! max(xs, default=d) of a list of ints -/
namespace MxD
open PySem PyProof.Rows
theorem argsD (a d : Value) : argsOk "max" ⟨[a], [(Str.ofString "default", d)]⟩ := by unfold argsOk; kernel_rfl
theorem nm : (toString "max" ++ toString ".loop" : String) = "max.loop" := by decide
section
variable {prog : Program} {w : World} {A : Around} {R : Result → Shared → Prop} {I S : Addr} {fp wr : List Addr} {n : Nat} {P : Nat → Value → Prop} {St : Nat → Heap → Prop} {d : Value}
abbrev Lp (I S : Addr) (d : Value) : Code := .builtin "max.loop" ⟨[.ref I, .none, .ref S], [(Str.ofString "default", d)]⟩
/-- the list that holds the best so far -/
abbrev bestO (xs : Array Value) (c : Nat) : Obj := { cls := .type "list", dict := none, data := .seq xs c, slots := #[] }
theorem turn (W : Walks prog w A.in1 I fp wr n P St) (bt : Nat → Nat → Bool) (hc : CmpOf prog w A.in1 .Gt P bt) (no : S ∉ fp) : ∀ (m j : Nat) (s : Shared) (u : Value) (c : Nat),
    j + 1 + m = n → St (j + 1) s.heap → P (argBest bt j) u → s.heap.get? S = some (bestO #[u, u] c) →
    (∀ v h t, P (argBest bt (n - 1)) v → (∀ b o, b ∉ wr → b ≠ S → s.heap.get? b = some o → h.get? b = some o) → R (.ok (.ret v)) { s with heap := h, toks := t }) →
    codeAny (model prog w) A (Lp I S d) R s := by
  have nw : S ∉ wr := fun z => no (W.sub _ z)
  intro m
  induction m with
  | zero =>
    intro j s u c e x p g q
    refine codeAny_builtin F.entry_max_loop ?_
    rw [Around.under_plainId F.plain_max_loop _]
    show wpAny _ _ (seqItems? (.ref S) >>= _) _ _ _
    refine wpAny_bind (wpAny_seqItems g rfl ?_)
    show wpAny _ _ (tryCatch (pyNext (.ref I)) _ >>= _) _ _ _
    refine wpAny_bind (wpAny_tryCatch (W.done s _ _ (e ▸ x) fun h t k => ?_))
    have g' := k S _ nw g
    show wpAny _ _ (updateSeq S _ >>= _) _ _ _
    refine wpAny_bind ?_
    refine wpAny_updateSeq g' rfl (wpAny_bind (wpAny_letGo (wpAny_pure ?_)))
    exact q u _ t (by rw [← e]; exact p) fun b o z1 z2 y => (Heap.get?_update_other _ _ (Ne.symm z2)).trans (k b o z1 y)
  | succ m ih =>
    intro j s u c e x p g q
    refine codeAny_builtin F.entry_max_loop ?_
    rw [Around.under_plainId F.plain_max_loop _]
    show wpAny _ _ (seqItems? (.ref S) >>= _) _ _ _
    refine wpAny_bind (wpAny_seqItems g rfl ?_)
    show wpAny _ _ (tryCatch (pyNext (.ref I)) _ >>= _) _ _ _
    refine wpAny_bind (wpAny_tryCatch (W.item (j + 1) s _ _ (by omega) x fun v h t pv x' k => ?_))
    have g' := k S _ nw g
    show wpAny _ _ (tryCatch (holding [v, v] (richCompare .Gt v u >>= _)) _ >>= _) _ _ _
    refine wpAny_bind (wpAny_tryCatch (wpAny_holding (wpAny_bind (hc (j + 1) (argBest bt j) v u _ _ _ pv p ?_))))
    refine wpAny_bind (wpAny_holding (wpAny_truthy_bool ?_))
    refine wpAny_bind (wpAny_letGo (wpAny_pure ?_))
    by_cases hb : bt (j + 1) (argBest bt j) = true
    · rw [hb]
      simp only [if_true]
      refine wpAny_bind ?_
      refine wpAny_updateSeq g' rfl (wpAny_bind (wpAny_letGo ?_))
      rw [nm]
      have pb : P (argBest bt (j + 1)) v := by
        show P (if _ then _ else _) v
        rw [if_pos hb]
        exact pv
      refine wpAny_pure ⟨plainId_quiet F.plain_max_loop _, ih (j + 1) _ v _ (by omega) (W.frame _ _ _ x' fun b z o y => ?_) pb (Heap.get?_update_self _ g' rfl) fun v2 h2 t2 p2 k2 => ?_⟩
      · exact (Heap.get?_update_other _ _ (fun z' : S = b => no (by rw [z']; exact z))).trans y
      · exact q v2 h2 t2 p2 fun b o z1 z2 y => k2 b o z1 z2 ((Heap.get?_update_other _ _ (Ne.symm z2)).trans (k b o z1 y))
    · have hb : bt (j + 1) (argBest bt j) = false := by simpa using hb
      rw [hb]
      simp only [Bool.false_eq_true, if_false]
      refine wpAny_bind (wpAny_letGo ?_)
      rw [nm]
      have pb : P (argBest bt (j + 1)) u := by
        show P (if _ then _ else _) u
        rw [hb]
        exact p
      refine wpAny_pure ⟨plainId_quiet F.plain_max_loop _, ih (j + 1) _ u c (by omega) x' pb g' fun v2 h2 t2 p2 k2 => ?_⟩
      exact q v2 h2 t2 p2 fun b o z1 z2 y => k2 b o z1 z2 (k b o z1 y)
theorem first (W : Walks prog w A.in1 I fp wr n P St) (bt : Nat → Nat → Bool) (hc : CmpOf prog w A.in1 .Gt P bt) (no : S ∉ fp) {s : Shared} {c : Nat} (x : St 0 s.heap) (g : s.heap.get? S = some (bestO #[] c))
    (q : 0 < n → ∀ v h t, P (argBest bt (n - 1)) v → (∀ b o, b ∉ wr → b ≠ S → s.heap.get? b = some o → h.get? b = some o) → R (.ok (.ret v)) { s with heap := h, toks := t })
    (q0 : n = 0 → ∀ h t, (∀ b o, b ∉ wr → b ≠ S → s.heap.get? b = some o → h.get? b = some o) → R (.ok (.ret d)) { s with heap := h, toks := t }) :
    codeAny (model prog w) A (Lp I S d) R s := by
  have nw : S ∉ wr := fun z => no (W.sub _ z)
  refine codeAny_builtin F.entry_max_loop ?_
  rw [Around.under_plainId F.plain_max_loop _]
  show wpAny _ _ (seqItems? (.ref S) >>= _) _ _ _
  refine wpAny_bind (wpAny_seqItems g rfl ?_)
  show wpAny _ _ (tryCatch (pyNext (.ref I)) _ >>= _) _ _ _
  by_cases hn : 0 < n
  · refine wpAny_bind (wpAny_tryCatch (W.item 0 s _ _ hn x fun v h t pv x' k => ?_))
    have g' := k S _ nw g
    show wpAny _ _ (updateSeq S _ >>= _) _ _ _
    refine wpAny_bind ?_
    refine wpAny_updateSeq g' rfl ?_
    rw [nm]
    refine wpAny_pure ⟨plainId_quiet F.plain_max_loop _, turn W bt hc no (n - 1) 0 _ v _ (by omega) (W.frame _ _ _ x' fun b z o y => ?_) pv (Heap.get?_update_self _ g' rfl) fun v2 h2 t2 p2 k2 => ?_⟩
    · exact (Heap.get?_update_other _ _ (fun z' : S = b => no (by rw [z']; exact z))).trans y
    · exact q hn v2 h2 t2 p2 fun b o z1 z2 y => k2 b o z1 z2 ((Heap.get?_update_other _ _ (Ne.symm z2)).trans (k b o z1 y))
  · have hn : n = 0 := by omega
    refine wpAny_bind (wpAny_tryCatch (W.done s _ _ (hn ▸ x) fun h t k => ?_))
    show wpAny _ _ (rule _ >>= _) _ _ _
    refine wpAny_bind (wpAny_rule (wpAny_pure ?_))
    exact q0 hn h t fun b o z1 z2 y => k b o z1 y
end
section
variable {prog : Program} {w : World} {A : Around} {E : Value → Shared → Prop} {s : Shared} {l : Addr} {its : List Value} {ns : List Int} {d : Value} {Q : Value → Shared → Prop}
theorem run (hh : A.handled = none) (hl : s.heap.IsList l its.toArray) (hi : IntsAre its ns)
    (h : ∀ h' t M t', (∀ b o, s.heap.get? b = some o → h'.get? b = some o) → M ∈ ns → (∀ a, a ∈ ns → a ≤ M) → Q (.int M t') { s with heap := h', toks := t })
    (h0 : ns = [] → ∀ h' t, (∀ b o, s.heap.get? b = some o → h'.get? b = some o) → Q d { s with heap := h', toks := t }) :
    wpAny (model prog w) A (call (.builtin "max") [.ref l] [(Str.ofString "default", d)]) Q E s := by
  obtain ⟨xs, e⟩ := hi.allInts.items
  have hn : numsOf (intItems xs).toList = ns := by rw [← e]; exact hi.numsOf
  rw [nums_intItems] at hn
  subst hn
  rw [e] at hl
  refine kmk_tree F.kind_max F.plain_max F.entry_max (argsD _ _) ?_
  show wpAny _ _ (Builtin.Builtins.bindParams "max" ["key", "default"] 0 ⟨[], [(Str.ofString "default", d)]⟩ >>= _) _ _ _
  refine wpAny_bind (wpAny_of_eq (show Builtin.Builtins.bindParams "max" ["key", "default"] 0 ⟨[], [(Str.ofString "default", d)]⟩ = pure [none, some d] from rfl) ?_)
  refine wpAny_bind (wpAny_pure ?_)
  refine wpAny_bind (iter_intList hl fun s2 e2 st fp li => ?_)
  subst e2
  refine wpAny_bind (wpAny_newObj_type ?_)
  rw [nm]
  have hz := Heap.size_push s.heap { cls := .type "list_iterator", data := .fields #[.ref l, .int 0 0] }
  have W := Walks.list (prog := prog) (w := w) (A := A.in1) hh s.heap.objs.size l li (intItems xs)
  refine wpAny_pure ⟨plainId_quiet F.plain_max_loop _, first W _ (CmpOf.ints_gt (numAt xs) fun _ _ => intItems_at) (fun z => Nat.lt_irrefl _ (fp _ z)) (W.frame _ _ _ st fun b _ o y => Heap.get?_push_of_some _ y) (Heap.get?_push_size _ rfl) (fun hn v h' t pv k => ?_) fun hn h' t k => ?_⟩
  · have hp : (intItems xs)[argBest (fun i j => decide (numAt xs i > numAt xs j)) (xs.size - 1)]? = some v := by simpa [intItems] using pv
    obtain ⟨tv, rfl⟩ := intItems_at hp
    obtain ⟨h1, h2⟩ := argBest_gt (numAt xs) (xs.size - 1)
    have hx : 0 < xs.size := by simpa [intItems] using hn
    refine h h' t _ tv (old_kept fun b o hb y => k b o hb (Nat.ne_of_lt (Heap.lt_size y)) (Heap.get?_push_of_some _ y)) ?_ fun a ha => ?_
    · rw [numAt_eq]
      exact PySem.getD_mem (by rw [List.length_map, Array.length_toList]; omega)
    · obtain ⟨j, hj, rfl⟩ := mem_getD ha
      rw [List.length_map, Array.length_toList] at hj
      rw [← numAt_eq]
      exact h2 j (by omega)
  · refine h0 ?_ h' t (old_kept fun b o hb y => k b o hb (Nat.ne_of_lt (Heap.lt_size y)) (Heap.get?_push_of_some _ y))
    have hx : xs.size = 0 := by simpa [intItems] using hn
    rw [Array.eq_empty_of_size_eq_zero hx]
    rfl
end
end MxD
namespace L2
open PySem PySem.Spec PyProof.Rows
def rMaxD0 (K : PySem.W.Frag) : List V → List V → Hp → VK → Prop := fun vs zs H Q => ∃ (a : Addr) (ns : List Int) (d : V), vs = [V.ref a] ∧ zs = [d] ∧ SqL K H a (ns.map V.int) ∧
  (∀ m, m ∈ ns → (∀ y, y ∈ ns → y ≤ m) → Q (.int m) H) ∧ (ns = [] → Q d H)
theorem cr_maxDef {X : Cx} (hc : X.calm = true) : CallRK X (.builtin "max") [Str.ofString "default"] (rMaxD0 X.K) := by
  intro pins s σ H vs zs us ws Q I r rz h
  obtain ⟨a, ns, d, rfl, rfl, hs, q, q0⟩ := h
  obtain ⟨its, rv, hl, _⟩ := I.list hs
  rw [Vals.ref1 r]
  obtain ⟨w1, rfl, e1⟩ := vals1 rz
  exact MxD.run (I.ok.hd hc) hl.isList rv.ints (fun h' t m t' hk h1 h2 => ⟨.int _, H, I.kept hk, ⟨_, rfl⟩, q m h1 h2⟩) fun hn h' t hk => ⟨d, H, I.kept hk, e1, q0 hn⟩
end L2

/-! An own error without a field: raised, caught. -/
namespace Gd
open PySem PySem.Spec PyProof.Rows L2 GxR Gx
/-- the class of the error x at C -/
structure BadN (K : PySem.W.Frag) (mg : Str → Option Value) (x : Str) (C : Addr) : Prop where
  q : PySem.W.excIn K C [.type "ValueError", .type "Exception", .type "BaseException", .type "object"] "ValueError.__new__" = true
  g : mg x = some (.ref C)
  kp : PySem.W.keepIn K (.ref C) = true
  b : PySem.W.subIn K (.ref C) (.type "BaseException") = some true
  t : PySem.W.typeIn K (.ref C) = some (.type "type")
section
variable {X : Cx} {C : Addr} {x : Str} {p pos pos2 : Pos} {W : WX}
theorem pmk_own0 (B : BadN X.K X.mg x C) (hg : Gl X x) (hdb : (x == ("__debug__" : Str)) = false := by decide) : PMk X (.Call (.Name x p) [] [] pos) (fun _ H Q => Q (.ref C) none H) := by
  intro pins s σ H Q I h
  refine wpAny_Call_Name_kw (ld_glob I hg B.g (PySem.W.callWith_K0 I.kIn B.kp ?_) hdb)
  show wpAny _ _ (call (.ref C) []) _ _ _
  obtain ⟨bm, N, nm, qn, bs, hdct, sn, sub, ab, col, dd, k0, k1, k2, k3, k5, mN, hC, hN, hni, T⟩ := exc_obj I.kIn B.q
  refine wpAny_call_exc_subT PySem.F.excBase_ValueError T hC hN hni (fun h' e hm => ?_) (Nat.zero_le _)
  exact mk_of I hm (raises_own B.b B.t) h (I.hok.gone hm.new)
theorem ps_bad0 (B : BadN X.K X.mg x C) (hc : X.calm = true) (tk : Takes X W) (hg : Gl X x) (hdb : (x == ("__debug__" : Str)) = false := by decide) : PS X (.Raise (some (.Call (.Name x p) [] [] pos)) none pos2) (fun _ σ H => W (.ref C) none σ H) :=
  ps_raise hc tk (pmk_own0 B hg hdb)
end
/-- isinstance(e, c), e an own error without a field that the suite holds -/
def rIsN (K : PySem.W.Frag) (C a : Addr) (cls : Value) (d : Option Addr) : List V → Hp → VK → Prop := fun xs H Q => ∃ (c : V) (cv : Value) (b : Bool), xs = [.ref a, c] ∧ cls = .ref C ∧ d = none ∧ (∀ u, RelV c u → u = cv) ∧ PySem.W.kitOne K (.ref C) cv = some b ∧ Q (.bl b) H
theorem call_isN {X : Cx} {a C : Addr} {oe : Obj} {cls : Value} {d : Option Addr} {pn : List (Addr × Obj)} (T : ExcC X.K C) (hz : Zc cls d oe) (hf : ∃ vs, oe.data = .fields vs) : CallR (X.suite a ((a, oe) :: pn)) (.builtin "isinstance") (rIsN X.K C a cls d) := by
  intro pins s σ H xs us Q I r h
  obtain ⟨c, cv, b, rfl, rfl, rfl, hcv, e, q⟩ := h
  exact call_isE T hz hf pins s σ H _ us Q I r ⟨c, cv, b, rfl, hcv, e, q⟩
/-- the error x at C is caught by xV at CV -/
structure CatN (K : PySem.W.Frag) (mg : Str → Option Value) (x xV : Str) (C CV : Addr) : Prop where
  g : mg x = some (.ref C)
  gV : mg xV = some (.ref CV)
  ex : PySem.W.exmOne K (.ref C) (.ref CV) = some true
  is : ExcC K C
  k1 : PySem.W.kitOne K (.ref C) (.ref C) = some true
  k2 : PySem.W.kitOne K (.ref C) (.type "ValueError") = some true
end Gd

/-! text * int -/
namespace Gd
open PySem PySem.Spec PyProof.Rows L2 GxR Gx
def rMulS : R2 := fun x y H Q => ∃ a n, x = .str a ∧ y = .int n ∧ MulOk a n ∧ Q (.str (Txt.mul a n)) H
theorem op_mul_str {X : Cx} : OpR X (binaryOp .Mult) rMulS := by
  intro pins s σ H x y v u Q I rx ry h
  obtain ⟨a, n, rfl, rfl, hok, q⟩ := h
  obtain ⟨t, rfl⟩ := rx
  obtain ⟨t', rfl⟩ := ry
  exact SB.mul hok fun t2 k => ⟨.str _, H, I.tok _, ⟨_, rfl⟩, q⟩
def mulB (x : Str) (n : Int) : Bool := !(decide (n < -(2 ^ 63 : Int)) || decide (n ≥ 2 ^ 63)) && (!decide ((x.length : Int) > (2 ^ 63 - 1) / n) && !Builtin.Str.tooLong (x.length * n.toNat))
theorem mulB_ok {x : Str} {n : Int} (h : mulB x n = true) : MulOk x n := by
  unfold mulB at h
  rw [Bool.and_eq_true, Bool.and_eq_true, Bool.not_eq_true', Bool.not_eq_true', Bool.not_eq_true', decide_eq_false_iff_not] at h
  exact ⟨h.1, fun _ _ => h.2.1, fun _ _ => h.2.2⟩
end Gd

/-! Facts of the written part for the ends of laws: texts, tuples of texts, dicts. -/
namespace Gd
open PySem PySem.Spec PyProof.Rows L2 GxR Gx
section
variable {K : PySem.W.Frag} {h : Heap} {mg : Str → Option Value} {x : Str} {a C CV : Addr}
theorem glob_z {t : Tok} {y : Str} (z : Str) (X : K.In h) (G : h.Ns mainGlobals mg) (e : PySem.W.nsIn K mainGlobals x = some (some (.str y t))) (hy : y = z) : ∃ t, mg x = some (.str z t) := ⟨t, by rw [← hy]; exact PySem.W.mg_of X G e⟩
/-- the texts of values -/
def strsB : List Value → List Str → Bool
  | [], [] => true
  | .str y _ :: r, z :: s => decide (y = z) && strsB r s
  | _, _ => false
theorem strsB_vals : ∀ {vs : List Value} {zs : List Str}, strsB vs zs = true → Vals (zs.map V.str) vs
  | [], [], _ => .nil
  | [], _ :: _, h => by cases h
  | v :: r, [], h => by cases v <;> cases h
  | v :: r, z :: s, h => by
    cases v with
    | str y t =>
      have h : (decide (y = z) && strsB r s) = true := h
      rw [Bool.and_eq_true, decide_eq_true_eq] at h
      rw [← h.1]
      exact .cons ⟨t, rfl⟩ (strsB_vals h.2)
    | _ => cases h
theorem strsB_len : ∀ {vs : List Value} {zs : List Str}, strsB vs zs = true → vs.length = zs.length := fun h => by
  have := (strsB_vals h).length
  rw [List.length_map] at this
  exact this.symm
theorem strs_k {dd : Option Addr} {n : Nat} {sl : Array (Option Value)} {vs : Array Value} (zs : List Str) (l : K.lookup a = some ⟨.type "tuple", dd, .seq vs n, sl⟩) (hv : strsB vs.toList zs = true) (hl : zs.length ≤ 1000) : ∀ H, SqT K H a (zs.map V.str) := fun H =>
  .inr ⟨_, _, n, l, rfl, rfl, by rw [← Array.length_toList, strsB_len hv]; exact Nat.le_trans hl (by decide), strsB_vals hv⟩
theorem pairs_k {dd : Option Addr} {n : Nat} {sl : Array (Option Value)} {vs : Array Value} (z1 z2 : Str) (l : K.lookup a = some ⟨.type "tuple", dd, .seq vs n, sl⟩) (hv : strsB vs.toList [z1, z2] = true) : ∀ H, Dt K H (.ref a) (.tuple [.str z1, .str z2]) := fun H =>
  .tup (strs_k [z1, z2] l hv (by show 2 ≤ 1000; decide) H) (.cons (.str _) (.cons (.str _) .nil))
/-- an int at a text key -/
def intAtB (es : List DictEntry) (x : Str) (i : Int) : Bool := match es.find? (·.key.isStr x) with
  | some e => (match e.val with | .int j _ => decide (j = i) | _ => false)
  | none => false
theorem int_kd {w : World} {n : Nat} {es : Array DictEntry} {x : Str} {i : Int} (l : K.lookup a = some ⟨.type "dict", none, .dict es n, #[]⟩) (hk : PySem.W.KeysLit w.params es.toList) (hb : intAtB es.toList x i = true) : KDct K w a x (.int i) := by
  unfold intAtB at hb
  cases e : es.toList.find? (·.key.isStr x) with
  | none => rw [e] at hb; cases hb
  | some en =>
    rw [e] at hb
    dsimp only at hb
    cases ev : en.val with
    | int j t =>
      rw [ev] at hb
      obtain rfl : j = i := of_decide_eq_true hb
      refine ⟨es, n, .int j t, l, hk, ?_, ⟨t, rfl⟩⟩
      unfold PySem.W.nsIn
      rw [l]
      dsimp only
      rw [e]
      dsimp only
      rw [ev]
    | _ => rw [ev] at hb; cases hb
/-- the class of an error without a field -/
theorem badN_k (X : K.In h) (G : h.Ns mainGlobals mg) (g : PySem.W.nsIn K mainGlobals x = some (some (.ref C))) (q : PySem.W.excIn K C [.type "ValueError", .type "Exception", .type "BaseException", .type "object"] "ValueError.__new__" = true) (kp : PySem.W.keepIn K (.ref C) = true)
    (b : PySem.W.subIn K (.ref C) (.type "BaseException") = some true) (t : PySem.W.typeIn K (.ref C) = some (.type "type")) : BadN K mg x C := ⟨q, PySem.W.mg_of X G g, kp, b, t⟩
theorem catN_k {xV : Str} (X : K.In h) (G : h.Ns mainGlobals mg) (g : PySem.W.nsIn K mainGlobals x = some (some (.ref C))) (gV : PySem.W.nsIn K mainGlobals xV = some (some (.ref CV)))
    (sV : PySem.W.subIn K (.ref CV) (.type "BaseException") = some true) (hV : PySem.W.hasDictIn K CV = true) (tV : PySem.W.typeIn K (.ref CV) = some (.type "type")) (cV : PySem.W.subIn K (.ref C) (.ref CV) = some true)
    (ga : PySem.W.findIn K (.ref C) "__getattribute__" = some (some (.builtin "BaseException.__getattribute__"))) (gg : PySem.W.findIn K (.ref C) "__getattr__" = some none) (sub : PySem.W.subIn K (.ref C) (.type "BaseException") = some true) (hd : PySem.W.hasDictIn K C = true)
    (ca : PySem.W.findIn K (.ref C) "__class__" = some (some (.builtin "object.__class__"))) (sg : PySem.W.specialIn K (.builtin "object.__class__") "__get__" = some (some (.builtin "getset_descriptor.__get__"))) (tk : PySem.W.takesIn K (.builtin "object.__class__") = some true)
    (mo : PySem.W.mroIn K C (.type "object") = some true) (vE : PySem.W.subIn K (.ref C) (.type "ValueError") = some true) : CatN K mg x xV C CV := by
  refine ⟨PySem.W.mg_of X G g, PySem.W.mg_of X G gV, PySem.W.exm_ref sV hV tV cV, ⟨ga, gg, sub, hd, ca, sg, tk, mo⟩, ?_, ?_⟩
  · unfold PySem.W.kitOne
    rw [if_pos (beq_self_eq_true _)]
  · unfold PySem.W.kitOne
    rw [if_neg (show ¬ ((Value.ref C == Value.type "ValueError") = true) by rw [show (Value.ref C == Value.type "ValueError") = false from rfl]; exact Bool.false_ne_true)]
    show (if PySem.W.kitMeta "ValueError" = true then PySem.W.subIn K (.ref C) (.type "ValueError") else none) = _
    rw [if_pos (by decide +kernel), vE]
theorem ints_kd {w : World} {n : Nat} {es : Array DictEntry} {ls : List (List Nat)} {sx' : List Nat → Str} {f : List Nat → Nat} (l : K.lookup a = some ⟨.type "dict", none, .dict es n, #[]⟩) (hk : PySem.W.KeysLit w.params es.toList) (hb : ls.all (fun x => intAtB es.toList (sx' x) (f x : Nat)) = true) :
    ∀ x ∈ ls, KDct K w a (sx' x) (.int (f x : Nat)) := fun x hx => int_kd l hk (List.all_eq_true.mp hb x hx)
theorem dict3_k {w : World} {n : Nat} {h1 h2 h3 : Int} {t1 t2 t3 u1 u2 u3 : Tok} {k1 k2 k3 v1 v2 v3 k1' k2' k3' v1' v2' v3' : Str} (l : K.lookup a = some ⟨.type "dict", none, .dict #[⟨h1, .str k1 t1, .str v1 u1⟩, ⟨h2, .str k2 t2, .str v2 u2⟩, ⟨h3, .str k3 t3, .str v3 u3⟩] n, #[]⟩)
    (e1 : h1 = PyData.keyHash w.params k1) (e2 : h2 = PyData.keyHash w.params k2) (e3 : h3 = PyData.keyHash w.params k3) (low : (a == sysModules) = false) (q1 : k1 = k1') (q2 : k2 = k2') (q3 : k3 = k3') (p1 : v1 = v1') (p2 : v2 = v2') (p3 : v3 = v3') :
    KDict K w a #[⟨h1, .str k1' t1, .str v1' u1⟩, ⟨h2, .str k2' t2, .str v2' u2⟩, ⟨h3, .str k3' t3, .str v3' u3⟩] n := by
  subst q1 q2 q3 p1 p2 p3
  exact ⟨l, ⟨⟨_, _, rfl, e1⟩, ⟨_, _, rfl, e2⟩, ⟨_, _, rfl, e3⟩, trivial⟩, low⟩
end
end Gd

namespace Rv
open PySem PySem.Spec PyProof.Rows L2 GxR Gx Gd
def topS (i : Nat) : Stmt := PySem.Challenge.pw_remoteviews_k03_no_expressions.main.body.getD i (.Pass ⟨0, 0, 0, 0⟩)
abbrev s_is_character : Stmt := topS 11
abbrev s_is_digit : Stmt := topS 12
abbrev s_is_small : Stmt := topS 17
/-! ### signs -/
def inRg (a b c : Nat) : Bool := decide (a ≤ c) && decide (c ≤ b)
def isSmall : Nat → Bool := inRg 97 122
def isDigit : Nat → Bool := inRg 48 57
def isChar (c : Nat) : Bool := inRg 32 126 c && !decide (c = 37)
theorem lt1 {a b : Nat} : decide (([a] : List Nat) < [b]) = decide (a < b) := by
  rw [Bool.eq_iff_iff, decide_eq_true_eq, decide_eq_true_eq]
  constructor
  · intro h
    cases h with
    | rel h => exact h
    | cons h => cases h
  · intro h
    exact .rel h
theorem le1 {a b : Nat} : (!decide (([b] : List Nat) < [a])) = decide (a ≤ b) := by
  rw [lt1, Bool.eq_iff_iff, Bool.not_eq_true', decide_eq_false_iff_not, decide_eq_true_eq]
  omega
def spSign (p : Nat → Bool) : Sp := fun vs H Q _ => ∃ c, vs = [.str ⟨#[c]⟩] ∧ Q (.bl (p c)) H
abbrev rLeS : R2 := fun x y H Q => ∃ i j, x = .str i ∧ y = .str j ∧ Q (.bl (!decide (j.cps.toList < i.cps.toList))) H
theorem chain_rd {a b c : Nat} {xa xb : Str} {σ : L2.St} {H : Hp} {Q : VK} {i : Nat} (ha : xa = ⟨#[a]⟩) (hb : xb = ⟨#[b]⟩) (hs : σ[i]? = some (some (.str ⟨#[c]⟩))) (q : Q (.bl (inRg a b c)) H) :
    tChain rLeS rLeS (tC (.str xa)) (tVar i) (tC (.str xb)) σ H Q := by
  subst ha hb
  refine ⟨_, hs, ⟨#[a]⟩, ⟨#[c]⟩, rfl, rfl, _, rfl, ?_⟩
  show if (!decide (([c] : List Nat) < [a])) = true then ∃ i j, V.str ⟨#[c]⟩ = .str i ∧ V.str ⟨#[b]⟩ = .str j ∧ Q (.bl (!decide (j.cps.toList < i.cps.toList))) H else Q (.bl false) H
  rw [le1]
  unfold inRg at q
  by_cases h : a ≤ c
  · rw [decide_eq_true h] at q ⊢
    rw [if_pos rfl]
    refine ⟨_, _, rfl, rfl, ?_⟩
    show Q (.bl (!decide (([b] : List Nat) < [c]))) H
    rw [le1]
    exact q
  · rw [decide_eq_false h] at q ⊢
    exact iteF q
theorem chain_and {a b c : Nat} {xa xb : Str} {σ : L2.St} {H : Hp} {Q : VK} {i : Nat} {tb : TE} (ha : xa = ⟨#[a]⟩) (hb : xb = ⟨#[b]⟩) (hs : σ[i]? = some (some (.str ⟨#[c]⟩))) (q : if inRg a b c = true then tb σ H Q else Q (.bl false) H) :
    tAndV (tChain rLeS rLeS (tC (.str xa)) (tVar i) (tC (.str xb))) tb σ H Q := chain_rd ha hb hs ⟨_, rfl, q⟩
section
variable {P : Program} {w : World} {K : PySem.W.Frag} {mg : Str → Option Value} {base : Heap}
theorem sc_is_small : FnScope ["char"] ["char"] (defScope s_is_small) := ⟨rfl, rfl, rfl, by decide +kernel, rfl, by decide +kernel, by decide +kernel⟩
theorem c_is_small (D : DefAt K mg "_is_small" s_is_small ["char"]) : Cal P w K mg base CX0 1 "_is_small" ["char"] (spSign isSmall) := by
  refine D.cal (k := 0) sc_is_small (fun vs H Q E h => ?_) fun f cdv A outer s H vs Q E hr h => ?_
  · obtain ⟨c, rfl, _⟩ := h
    rfl
  · obtain ⟨c, rfl, q⟩ := h
    refine ⟨_, pss_one (ps_ret (pe_chain op_le_str op_le_str pe_str (pv 0) pe_str)), ?_⟩
    exact chain_rd rfl rfl rfl q
theorem sc_is_digit : FnScope ["char"] ["char"] (defScope s_is_digit) := ⟨rfl, rfl, rfl, by decide +kernel, rfl, by decide +kernel, by decide +kernel⟩
theorem c_is_digit (D : DefAt K mg "is_digit" s_is_digit ["char"]) : Cal P w K mg base CX0 1 "is_digit" ["char"] (spSign isDigit) := by
  refine D.cal (k := 0) sc_is_digit (fun vs H Q E h => ?_) fun f cdv A outer s H vs Q E hr h => ?_
  · obtain ⟨c, rfl, _⟩ := h
    rfl
  · obtain ⟨c, rfl, q⟩ := h
    refine ⟨_, pss_one (ps_ret (pe_chain op_le_str op_le_str pe_str (pv 0) pe_str)), ?_⟩
    exact chain_rd rfl rfl rfl q
theorem sc_is_character : FnScope ["char"] ["char"] (defScope s_is_character) := ⟨rfl, rfl, rfl, by decide +kernel, rfl, by decide +kernel, by decide +kernel⟩
theorem c_is_character (D : DefAt K mg "is_character" s_is_character ["char"]) (gP : ∃ t, mg "PERCENT" = some (.int 37 t)) (mo : mg "ord" = none) : Cal P w K mg base CX0 1 "is_character" ["char"] (spSign isChar) := by
  refine D.cal (k := 0) sc_is_character (fun vs H Q E h => ?_) fun f cdv A outer s H vs Q E hr h => ?_
  · obtain ⟨c, rfl, _⟩ := h
    rfl
  · obtain ⟨c, rfl, q⟩ := h
    obtain ⟨t, gP⟩ := gP
    refine ⟨_, pss_one (ps_ret (pe_and (pe_chain op_le_str op_le_str pe_str (pv 0) pe_str) (pe_one (pe_cmpR op_ne (pe_callB call_ord (by rfl) mo (by decide +kernel) (pa_cons (pv 0) pa_nil)) (pe_glob (v := .int 37) rfl gP ⟨t, rfl⟩) (nomark _))))), ?_⟩
    refine chain_and (a := 32) (b := 126) (c := c) rfl rfl rfl ?_
    cases e : inRg 32 126 c with
    | false =>
      refine iteF ?_
      unfold isChar at q
      rw [e] at q
      exact q
    | true =>
      refine iteT ⟨_, rfl, _, rfl, rfl, rfl, ?_⟩
      unfold isChar at q
      rw [e] at q
      have e2 : decide (V.int (((#[c] : Array Nat).getD 0 0 : Nat) : Int) = V.int 37) = decide (c = 37) := by
        rw [Bool.eq_iff_iff, decide_eq_true_eq, decide_eq_true_eq]
        constructor
        · intro h
          have h := V.int.inj h
          have h2 : ((c : Nat) : Int) = 37 := h
          omega
        · intro h
          subst h
          rfl
      rw [e2]
      exact q
end
end Rv
namespace Rv
open PySem PySem.Spec PyProof.Rows L2 GxR Gx Gd
def isNameL (l : List Nat) : Bool := decide (1 ≤ l.length) && decide (l.length ≤ 12) && ((match l with | c :: _ => isSmall c | [] => false) && l.all (fun c => isSmall c || isDigit c))
def isName : PyData → Bool
  | .str x => isNameL x.cps.toList
  | _ => false
abbrev s_is_name : Stmt := topS 13
section
variable {P : Program} {w : World} {K : PySem.W.Frag} {mg : Str → Option Value} {base : Heap}
theorem sc_is_name : FnScope ["thing"] ["thing"] (defScope s_is_name) := ⟨rfl, rfl, rfl, by decide +kernel, rfl, by decide +kernel, by decide +kernel⟩
theorem c_is_name {T : Addr} (D : DefTab K mg base "is_name" s_is_name ["thing"] T) (gN : ∃ t, mg "NAME_LENGTH" = some (.int 12 t)) (mi : mg "isinstance" = none) (ms : mg "str" = none) (ml : mg "len" = none) (ma : mg "all" = none)
    (c1 : Cal P w K mg base CX0 1 "_is_small" ["char"] (spSign isSmall)) (c2 : Cal P w K mg base CX0 1 "is_digit" ["char"] (spSign isDigit)) : Cal P w K mg base CX0 3 "is_name" ["thing"] (spData K [T] isName) := by
  refine D.cal (k := 2) sc_is_name (fun vs H Q E h => ?_) fun f c A outer s H vs Q E TB hr h => ?_
  · obtain ⟨v, d, rfl, _⟩ := h
    rfl
  · obtain ⟨v, d, rfl, hd, hz, hT, q⟩ := h
    obtain ⟨t, gN⟩ := gN
    refine ⟨_, pss_cons (ps_if (PW.pt (pw_or (pt_not (pt_val (pe_callB call_isi (by rfl) mi (by decide +kernel) (pa_cons (pv 0) (pa_cons (pe_bltn (v := .ty "str") (by rfl) ms (by decide +kernel) rfl) pa_nil)))))
          (pw_or1 (pt_not (pt_chain op_le op_le pe_int (pe_callB call_len_str (by rfl) ml PySem.boot_len (pa_cons (pv 0) pa_nil)) (pe_glob (v := .int 12) rfl gN ⟨t, rfl⟩))))))
        (pss_one (ps_ret pe_bl)) pss_nil)
      (pss_one (ps_ret (pe_and (pe_cal (c1.mono (by decide : 1 ≤ 2)) hr (by rfl) (pa_cons (pe_ix ix_str (pv 0) pe_int (fun _ _ => rfl)) pa_nil))
        (pe_one (pe_allG hr.r (by rfl) ma TB rfl (genS_by (by decide +kernel)) Caps.nil (pi_str (pv 0)) rfl
          (fun _ _ _ _ _ _ => pg_name (i := 0) (nd1 _) rfl (Or.inl rfl))
          (fun _ _ _ _ _ _ rk => pe_or (pe_cal c1 ⟨rk, hr.g⟩ (by rfl) (pa_cons (pv 0) pa_nil)) (pe_one (pe_cal c2 ⟨rk, hr.g⟩ (by rfl) (pa_cons (pv 0) pa_nil))))))))), ?_⟩
    refine ⟨v, rfl, v, .ty "str", _, _, isStrD d, rfl, ClsV.ty "str", hd.ty, kit_ty (kit_str d), _, rfl, ?_⟩
    have qF : isName d = false → Q (.bl false) H := fun e => by
      have z := q H (Kb.refl H)
      rw [e] at z
      exact z
    by_cases hs : isStrD d = true
    · cases hd <;> first | (cases hs; done) | skip
      rename_i x
      refine iteF ?_
      have hx : x.length = x.cps.toList.length := by simp [Str.length]
      have hlen := hz.str
      refine ⟨_, rfl, x, rfl, line1000 hlen, 1, (x.length : Int), rfl, rfl, _, rfl, ?_⟩
      by_cases h1 : (1 : Int) ≤ (x.length : Int)
      · rw [decide_eq_true h1]
        refine iteT ⟨_, _, rfl, rfl, _, rfl, ?_⟩
        by_cases h2 : (x.length : Int) ≤ 12
        · rw [decide_eq_true h2]
          refine iteF ?_
          obtain ⟨l, hl⟩ : ∃ l, x.cps.toList = l := ⟨_, rfl⟩
          cases l with
          | nil =>
            rw [hx, hl] at h1
            exact absurd h1 (by decide)
          | cons c0 r =>
            have en : isName (.str x) = (isSmall c0 && x.cps.toList.all fun c => isSmall c || isDigit c) := by
              have h1' : 1 ≤ x.cps.toList.length := by omega
              have h2' : x.cps.toList.length ≤ 12 := by omega
              show isNameL x.cps.toList = _
              unfold isNameL
              rw [decide_eq_true h1', decide_eq_true h2', hl]
              rfl
            refine ⟨.str x, rfl, x, 0, c0, rfl, rfl, line1000 hlen, by rw [hl]; exact atI_nat (j := 0) rfl, c0, rfl, isSmall c0, rfl, ?_⟩
            cases e0 : isSmall c0 with
            | false =>
              refine iteF (qF ?_)
              rw [en, e0]
              rfl
            | true =>
              refine iteT ⟨.str x, rfl, x, rfl, ?_⟩
              refine all_str (p := fun c => isSmall c || isDigit c) (hT T (List.mem_singleton.mpr rfl)) (fun c _ H Q' q' => ⟨.str ⟨#[c]⟩, rfl, c, rfl, isSmall c, rfl, ?_⟩) fun H2 h2 => ?_
              · cases e1 : isSmall c with
                | true =>
                  rw [e1] at q'
                  exact iteT q'
                | false =>
                  rw [e1] at q'
                  exact iteF ⟨.str ⟨#[c]⟩, rfl, c, rfl, q'⟩
              · have z := q H2 (Kb.tabbed h2 (hT T (List.mem_singleton.mpr rfl)))
                rw [en, e0] at z
                exact z
        · rw [decide_eq_false h2]
          refine iteT ?_
          have h2' : ¬ x.cps.toList.length ≤ 12 := by omega
          refine qF ?_
          show isNameL x.cps.toList = _
          unfold isNameL
          rw [decide_eq_false h2', Bool.and_false]
          rfl
      · rw [decide_eq_false h1]
        refine iteF ⟨_, rfl, ?_⟩
        have h1' : ¬ 1 ≤ x.cps.toList.length := by omega
        refine qF ?_
        show isNameL x.cps.toList = _
        unfold isNameL
        rw [decide_eq_false h1']
        rfl
    · rw [Bool.eq_false_iff.mpr hs]
      refine iteT ?_
      refine qF ?_
      cases d <;> first | rfl | exact absurd rfl hs
end
end Rv

namespace Rv
open PySem PySem.Spec PyProof.Rows L2 GxR Gx Gd
/-! ### pairs, texts, keys, integers -/
def isPairD : PyData → Bool
  | .tuple ds => decide (ds.length = 2)
  | _ => false
def isTextD (a b : Int) : PyData → Bool
  | .str x => decide (a ≤ (x.length : Int)) && decide ((x.length : Int) ≤ b) && x.cps.toList.all isChar
  | _ => false
abbrev isKeyD : PyData → Bool := isTextD 1 12
def isIntegerD : PyData → Bool
  | .int i => decide (0 ≤ i) && decide (i ≤ 999999)
  | _ => false
abbrev s_is_pair : Stmt := topS 18
abbrev s_is_text : Stmt := topS 19
abbrev s_is_key : Stmt := topS 14
abbrev s_is_integer : Stmt := topS 20
def spText (K : PySem.W.Frag) (ts : List Addr) : Sp := fun vs H Q _ => ∃ v d a b, vs = [v, .int a, .int b] ∧ Dt K H v d ∧ OkD d ∧ (∀ T ∈ ts, TabG H T) ∧ ∀ H', Kp H H' → Q (.bl (isTextD a b d)) H'
section
variable {P : Program} {w : World} {K : PySem.W.Frag} {mg : Str → Option Value} {base : Heap}
theorem sc_is_pair : FnScope ["thing"] ["thing"] (defScope s_is_pair) := ⟨rfl, rfl, rfl, by decide +kernel, rfl, by decide +kernel, by decide +kernel⟩
theorem c_is_pair (D : DefAt K mg "_is_pair" s_is_pair ["thing"]) (mi : mg "isinstance" = none) (mt : mg "tuple" = none) (ml : mg "len" = none) : Cal P w K mg base CX0 1 "_is_pair" ["thing"] (spData K [] isPairD) := by
  refine D.cal (k := 0) sc_is_pair (fun vs H Q E h => ?_) fun f cdv A outer s H vs Q E hr h => ?_
  · obtain ⟨v, d, rfl, _⟩ := h
    rfl
  · obtain ⟨v, d, rfl, hd, hz, hT, q⟩ := h
    refine ⟨_, pss_one (ps_ret (pe_and (pe_callB call_isi (by rfl) mi (by decide +kernel) (pa_cons (pv 0) (pa_cons (pe_bltn (v := .ty "tuple") (by rfl) mt (by decide +kernel) rfl) pa_nil)))
      (pe_one (pe_cmpR op_eq (pe_callB call_len_seq (by rfl) ml PySem.boot_len (pa_cons (pv 0) pa_nil)) pe_int (nomark _))))), ?_⟩
    have z := q H (Kb.refl H)
    refine ⟨v, rfl, v, .ty "tuple", _, _, isTupD d, rfl, ClsV.ty "tuple", hd.ty, kit_ty (kit_tup d), isTupD d, rfl, ?_⟩
    cases hd with
    | @tup a xs ds h hs =>
      refine iteT ⟨_, rfl, _, _, rfl, .inr h, rfl, ?_⟩
      have e : decide (V.int (xs.length : Int) = V.int 2) = isPairD (.tuple ds) := by
        show _ = decide _
        rw [← hs.length, Bool.eq_iff_iff, decide_eq_true_eq, decide_eq_true_eq]
        constructor
        · intro q
          have q := V.int.inj q
          omega
        · intro q
          rw [q]
          rfl
      rw [e]
      exact z
    | _ => exact iteF z
theorem sc_is_text : FnScope ["thing", "shortest", "longest"] ["thing", "shortest", "longest"] (defScope s_is_text) := ⟨rfl, rfl, rfl, by decide +kernel, rfl, by decide +kernel, by decide +kernel⟩
theorem c_is_text {T : Addr} (D : DefTab K mg base "_is_text" s_is_text ["thing", "shortest", "longest"] T) (mi : mg "isinstance" = none) (ms : mg "str" = none) (ml : mg "len" = none) (ma : mg "all" = none)
    (c1 : Cal P w K mg base CX0 1 "is_character" ["char"] (spSign isChar)) : Cal P w K mg base CX0 3 "_is_text" ["thing", "shortest", "longest"] (spText K [T]) := by
  refine D.cal (k := 2) sc_is_text (fun vs H Q E h => ?_) fun f c A outer s H vs Q E TB hr h => ?_
  · obtain ⟨v, d, a, b, rfl, _⟩ := h
    rfl
  · obtain ⟨v, d, a, b, rfl, hd, hz, hT, q⟩ := h
    refine ⟨_, pss_cons (ps_if (PW.pt (pw_or (pt_not (pt_val (pe_callB call_isi (by rfl) mi (by decide +kernel) (pa_cons (pv 0) (pa_cons (pe_bltn (v := .ty "str") (by rfl) ms (by decide +kernel) rfl) pa_nil)))))
          (pw_or1 (pt_not (pt_chain op_le op_le (pv 1) (pe_callB call_len_str (by rfl) ml PySem.boot_len (pa_cons (pv 0) pa_nil)) (pv 2))))))
        (pss_one (ps_ret pe_bl)) pss_nil)
      (pss_one (ps_ret (pe_allG hr.r (by rfl) ma TB rfl (genS_by (by decide +kernel)) Caps.nil (pi_str (pv 0)) rfl
          (fun _ _ _ _ _ _ => pg_name (i := 0) (nd1 _) rfl (Or.inl rfl)) (fun _ _ _ _ _ _ rk => pe_cal c1 ⟨rk, hr.g⟩ (by rfl) (pa_cons (pv 0) pa_nil))))), ?_⟩
    have qF : isTextD a b d = false → Q (.bl false) H := fun e => by
      have z := q H (Kb.refl H)
      rw [e] at z
      exact z
    refine ⟨v, rfl, v, .ty "str", _, _, isStrD d, rfl, ClsV.ty "str", hd.ty, kit_ty (kit_str d), _, rfl, ?_⟩
    cases hd with
    | str x =>
      refine iteF ⟨_, rfl, .str x, rfl, x, rfl, line1000 hz.str, a, (x.length : Int), rfl, rfl, _, rfl, ?_⟩
      by_cases h1 : a ≤ (x.length : Int)
      · rw [decide_eq_true h1]
        refine iteT ⟨_, rfl, _, _, rfl, rfl, _, rfl, ?_⟩
        by_cases h2 : (x.length : Int) ≤ b
        · rw [decide_eq_true h2]
          refine iteF ⟨.str x, rfl, x, rfl, ?_⟩
          refine all_str (p := isChar) (hT T (List.mem_singleton.mpr rfl)) (fun c _ H Q' q' => ⟨.str ⟨#[c]⟩, rfl, c, rfl, q'⟩) fun H2 h2' => ?_
          have z := q H2 (Kb.tabbed h2' (hT T (List.mem_singleton.mpr rfl)))
          have e : isTextD a b (.str x) = x.cps.toList.all isChar := by
            show (decide _ && decide _ && _) = _
            rw [decide_eq_true h1, decide_eq_true h2]
            rfl
          rw [e] at z
          exact z
        · rw [decide_eq_false h2]
          refine iteT (qF ?_)
          show (decide _ && decide _ && _) = _
          rw [decide_eq_false h2, Bool.and_false]
          rfl
      · rw [decide_eq_false h1]
        refine iteF ⟨_, rfl, ?_⟩
        refine iteT (qF ?_)
        show (decide _ && decide _ && _) = _
        rw [decide_eq_false h1]
        rfl
    | _ => exact iteT (qF rfl)
theorem sc_is_key : FnScope ["thing"] ["thing"] (defScope s_is_key) := ⟨rfl, rfl, rfl, by decide +kernel, rfl, by decide +kernel, by decide +kernel⟩
theorem c_is_key {ts : List Addr} (D : DefAt K mg "is_key" s_is_key ["thing"]) (gK : ∃ t, mg "KEY_LENGTH" = some (.int 12 t)) (c1 : Cal P w K mg base CX0 3 "_is_text" ["thing", "shortest", "longest"] (spText K ts)) :
    Cal P w K mg base CX0 4 "is_key" ["thing"] (spData K ts isKeyD) := by
  refine D.cal (k := 3) sc_is_key (fun vs H Q E h => ?_) fun f cdv A outer s H vs Q E hr h => ?_
  · obtain ⟨v, d, rfl, _⟩ := h
    rfl
  · obtain ⟨v, d, rfl, hd, hz, hT, q⟩ := h
    obtain ⟨t, gK⟩ := gK
    refine ⟨_, pss_one (ps_ret (pe_cal c1 hr (by rfl) (pa_cons (pv 0) (pa_cons pe_int (pa_cons (pe_glob (v := .int 12) rfl gK ⟨t, rfl⟩) pa_nil))))), ?_⟩
    exact ⟨v, rfl, v, d, 1, 12, rfl, hd, hz, hT, q⟩
theorem sc_is_integer : FnScope ["thing"] ["thing"] (defScope s_is_integer) := ⟨rfl, rfl, rfl, by decide +kernel, rfl, by decide +kernel, by decide +kernel⟩
theorem c_is_integer (D : DefAt K mg "_is_integer" s_is_integer ["thing"]) (mi : mg "isinstance" = none) (mb : mg "bool" = none) (mn : mg "int" = none) (gG : ∃ t, mg "GREATEST_INTEGER" = some (.int 999999 t)) : Cal P w K mg base CX0 1 "_is_integer" ["thing"] (spData K [] isIntegerD) := by
  refine D.cal (k := 0) sc_is_integer (fun vs H Q E h => ?_) fun f cdv A outer s H vs Q E hr h => ?_
  · obtain ⟨v, d, rfl, _⟩ := h
    rfl
  · obtain ⟨v, d, rfl, hd, hz, hT, q⟩ := h
    obtain ⟨t, gG⟩ := gG
    refine ⟨_, pss_cons (ps_if (PW.pt (pw_or (pt_val (pe_callB call_isi (by rfl) mi (by decide +kernel) (pa_cons (pv 0) (pa_cons (pe_bltn (v := .ty "bool") (by rfl) mb (by decide +kernel) rfl) pa_nil))))
          (pw_or1 (pt_not (pt_val (pe_callB call_isi (by rfl) mi (by decide +kernel) (pa_cons (pv 0) (pa_cons (pe_bltn (v := .ty "int") (by rfl) mn (by decide +kernel) rfl) pa_nil))))))))
        (pss_one (ps_ret pe_bl)) pss_nil)
      (pss_one (ps_ret (pe_chain op_le op_le pe_int (pv 0) (pe_glob (v := .int 999999) rfl gG ⟨t, rfl⟩)))), ?_⟩
    have z := q H (Kb.refl H)
    refine ⟨v, rfl, v, .ty "bool", _, _, isBoolD d, rfl, ClsV.ty "bool", hd.ty, kit_ty (kit_bool d), _, rfl, ?_⟩
    cases hd with
    | bl b => exact iteT z
    | int i =>
      refine iteF ⟨_, rfl, .int i, .ty "int", _, _, true, rfl, ClsV.ty "int", (Dt.int (K := K) (H := H) i).ty, kit_ty (kit_int (.int i)), _, rfl, ?_⟩
      refine iteF ⟨_, rfl, 0, i, rfl, rfl, _, rfl, ?_⟩
      have z : Q (.bl (decide (0 ≤ i) && decide (i ≤ 999999))) H := z
      by_cases h : 0 ≤ i
      · rw [decide_eq_true h] at z ⊢
        exact iteT ⟨i, 999999, rfl, rfl, z⟩
      · rw [decide_eq_false h] at z ⊢
        exact iteF z
    | non => exact iteF ⟨_, rfl, .non, .ty "int", _, _, false, rfl, ClsV.ty "int", (Dt.non (K := K) (H := H)).ty, kit_ty (kit_int .none), _, rfl, iteT z⟩
    | str x => exact iteF ⟨_, rfl, .str x, .ty "int", _, _, false, rfl, ClsV.ty "int", (Dt.str (K := K) (H := H) x).ty, kit_ty (kit_int (.str x)), _, rfl, iteT z⟩
    | tup h hs => exact iteF ⟨_, rfl, .ref _, .ty "int", _, _, false, rfl, ClsV.ty "int", (Dt.tup h hs).ty, kit_ty (kit_int (.tuple _)), _, rfl, iteT z⟩
end
end Rv

namespace Rv
open PySem PySem.Spec PyProof.Rows L2 GxR Gx Gd
/-! ### scalars -/
def scalOf (k c : PyData) : Bool := if PyData.eqv k (.str "bool") = true then isBoolD c else if PyData.eqv k (.str "int") = true then isIntegerD c else PyData.eqv k (.str "text") && isTextD 0 40 c
def pairScal : PyData → Bool
  | .tuple [k, c] => scalOf k c
  | _ => false
def isScalarD (d : PyData) : Bool := PyData.eqv d (.tuple [.str "none"]) || pairScal d
abbrev s_is_scalar : Stmt := topS 15
theorem sc_is_scalar : FnScope ["thing", "kind", "content"] ["thing"] (defScope s_is_scalar) := ⟨rfl, rfl, rfl, by decide +kernel, rfl, by decide +kernel, by decide +kernel⟩
section
variable {P : Program} {w : World} {K : PySem.W.Frag} {mg : Str → Option Value} {base : Heap}
theorem c_is_scalar {ts : List Addr} (D : DefAt K mg "is_scalar" s_is_scalar ["thing"]) (m_isinstance : mg "isinstance" = none) (m_bool : mg "bool" = none) (gT : ∃ t, mg "TEXT_LENGTH" = some (.int 40 t))
    (c__is_pair : Cal P w K mg base CX0 1 "_is_pair" ["thing"] (spData K [] isPairD)) (c__is_integer : Cal P w K mg base CX0 1 "_is_integer" ["thing"] (spData K [] isIntegerD)) (c__is_text : Cal P w K mg base CX0 3 "_is_text" ["thing", "shortest", "longest"] (spText K ts)) :
    Cal P w K mg base CX0 4 "is_scalar" ["thing"] (spData K ts isScalarD) := by
  refine D.cal (k := 3) sc_is_scalar (fun vs H Q E h => ?_) fun f cdv A outer s H vs Q E hr h => ?_
  · obtain ⟨v, d, rfl, _⟩ := h
    rfl
  · obtain ⟨v, d, rfl, hd, hz, hT, q⟩ := h
    obtain ⟨t, g_TEXT_LENGTH⟩ := gT
    refine ⟨_, (pss_cons (ps_if (pt_cmpR (op_eqD hr.r.units) (pv 0) (pe_tup (pa_cons pe_str pa_nil)) (nomark _)) (pss_one (ps_ret pe_bl)) pss_nil)
  (pss_cons (ps_if (pt_not (pt_val (pe_cal (c__is_pair.mono (by omega)) hr (by rfl) (pa_cons (pv 0) pa_nil)))) (pss_one (ps_ret pe_bl)) pss_nil)
  (pss_cons (ps_asg (pv 0) (pg_tup rfl (pgs_cons (pg_name (i := 1) sc_is_scalar.nd rfl (Or.inl rfl)) (pgs_cons (pg_name (i := 2) sc_is_scalar.nd rfl (Or.inl rfl)) pgs_nil))))
  (pss_cons (ps_if (pt_cmpR (op_eqD hr.r.units) (pv 1) pe_str (nomark _)) (pss_one (ps_ret (pe_callB call_isi (by rfl) m_isinstance (by decide +kernel) (pa_cons (pv 2) (pa_cons (pe_bltn (v := .ty "bool") (by rfl) m_bool (by decide +kernel) rfl) pa_nil))))) pss_nil)
  (pss_cons (ps_if (pt_cmpR (op_eqD hr.r.units) (pv 1) pe_str (nomark _)) (pss_one (ps_ret (pe_cal (c__is_integer.mono (by omega)) hr (by rfl) (pa_cons (pv 2) pa_nil)))) pss_nil)
  (pss_one (ps_ret (pe_and (pe_cmpR (op_eqD hr.r.units) (pv 1) pe_str (nomark _)) (pe_one (pe_cal (c__is_text.mono (by omega)) hr (by rfl) (pa_cons (pv 2) (pa_cons pe_int (pa_cons (pe_glob (v := .int 40) rfl g_TEXT_LENGTH ⟨_, rfl⟩) pa_nil))))))))))))), ?_⟩
    refine ⟨v, rfl, by show 1 ≤ sizeLine; decide, fun p hp => ?_⟩
    have k1 : Kp H (upd H p (.tup [.str "none"])) := Kb.new hp
    generalize hH1 : upd H p (.tup [.str "none"]) = H1 at k1 ⊢
    have e1 : SqT K H1 p [.str "none"] := by rw [← hH1]; exact SqT.of upd_same
    have hd1 := hd.kb k1 Lsts.nil
    refine ⟨d, .tuple [.str "none"], hd1.dp, .tup e1 (.cons (.str _) .nil), hz.shaped, by decide +kernel, _, rfl, ?_⟩
    cases e0 : PyData.eqv d (.tuple [.str "none"]) with
    | true =>
      have z := q H1 k1
      unfold isScalarD at z
      rw [e0] at z
      exact iteT z
    | false =>
      have q2 : ∀ (b : Bool) (H' : Hp), pairScal d = b → Kp H H' → Q (.bl b) H' := fun b H' e k => by
        have z := q H' k
        unfold isScalarD at z
        rw [e0, Bool.false_or, e] at z
        exact z
      refine iteF ⟨v, rfl, v, d, rfl, hd1, hz, (fun _ h => by cases h), fun H2 k2 => ⟨isPairD d, rfl, ?_⟩⟩
      have k12 := k1.trans k2
      have hd2 := hd1.kb k2 Lsts.nil
      cases hd2 with
      | @tup a xs ds h hs =>
        by_cases hl : ds.length = 2
        · obtain ⟨dk, dc, rfl⟩ : ∃ x y, ds = [x, y] := by
            match ds, hl with
            | [x, y], _ => exact ⟨x, y, rfl⟩
          cases hs with
          | @cons vk _ _ _ hk hs =>
            cases hs with
            | @cons vc _ _ _ hc hs =>
              cases hs
              have okk : OkD dk := hz.child (by simp)
              have okc : OkD dc := hz.child (by simp)
              refine iteF ⟨.ref a, rfl, a, [vk, vc], rfl, h, rfl, vk, [vc], rfl, vc, [], rfl, rfl, ?_⟩
              refine ⟨vk, rfl, dk, .str "bool", hk.dp, .str _, okk.shaped, by decide +kernel, _, rfl, ?_⟩
              have z : ∀ H', Kp H H' → Q (.bl (scalOf dk dc)) H' := fun H' k => q2 _ H' rfl k
              unfold scalOf at z
              cases eb : PyData.eqv dk (.str "bool") with
              | true =>
                rw [eb] at z
                exact iteT ⟨vc, rfl, vc, .ty "bool", _, _, isBoolD dc, rfl, ClsV.ty "bool", hc.ty, kit_ty (kit_bool dc), z H2 k12⟩
              | false =>
                rw [eb] at z
                refine iteF ⟨vk, rfl, dk, .str "int", hk.dp, .str _, okk.shaped, by decide +kernel, _, rfl, ?_⟩
                cases ei : PyData.eqv dk (.str "int") with
                | true =>
                  rw [ei] at z
                  exact iteT ⟨vc, rfl, vc, dc, rfl, hc, okc, (fun _ h => by cases h), fun H3 k3 => z H3 (k12.trans k3)⟩
                | false =>
                  rw [ei] at z
                  refine iteF ⟨vk, rfl, dk, .str "text", hk.dp, .str _, okk.shaped, by decide +kernel, _, rfl, ?_⟩
                  cases et : PyData.eqv dk (.str "text") with
                  | true =>
                    rw [et] at z
                    exact iteT ⟨vc, rfl, vc, dc, 0, 40, rfl, hc, okc, fun T hm => k12.tab T (hT T hm), fun H3 k3 => z H3 (k12.trans k3)⟩
                  | false =>
                    rw [et] at z
                    exact iteF (z H2 k12)
        · have e : isPairD (.tuple ds) = false := decide_eq_false hl
          rw [e]
          refine iteT (q2 false H2 ?_ k12)
          match ds, hl with
          | [], _ => rfl
          | [_], _ => rfl
          | [_, _], hl => exact absurd rfl hl
          | _ :: _ :: _ :: _, _ => rfl
      | _ => exact iteT (q2 false H2 rfl k12)
end
end Rv

namespace Rv
open PySem PySem.Spec PyProof.Rows L2 GxR Gx Gd
/-! ### right scalars, their plain texts -/
inductive Sc where
  | none | bool (b : Bool) | int (i : Int) | text (x : Str)
def Sc.d : Sc → PyData
  | .none => .tuple [.str "none"]
  | .bool b => .tuple [.str "bool", .bool b]
  | .int i => .tuple [.str "int", .int i]
  | .text x => .tuple [.str "text", .str x]
def Sc.plain : Sc → Str
  | .none => ""
  | .bool b => if b = true then "true" else "false"
  | .int i => toString i
  | .text x => x
def Sc.ok : Sc → Prop
  | .int i => 0 ≤ i ∧ i ≤ 999999
  | _ => True
theorem log_of {i : Int} (h : 0 ≤ i ∧ i ≤ 999999) : i.natAbs.log2 < 1920 := by
  have h1 : i.natAbs < 2 ^ 20 := by omega
  by_cases h0 : i.natAbs = 0
  · rw [h0]
    decide
  · have := (Nat.log2_lt h0).mpr h1
    omega
def spPlain (K : PySem.W.Frag) : Sp := fun vs H Q _ => ∃ v s, vs = [v] ∧ Dt K H v (Sc.d s) ∧ s.ok ∧ Q (.str s.plain) H
abbrev s_is_entry : Stmt := topS 22
theorem sc_is_entry : FnScope ["thing"] ["thing"] (defScope s_is_entry) := ⟨rfl, rfl, rfl, by decide +kernel, rfl, by decide +kernel, by decide +kernel⟩
abbrev s_are_entries : Stmt := topS 21
theorem sc_are_entries : FnScope ["thing", "entry"] ["thing"] (defScope s_are_entries) := ⟨rfl, rfl, rfl, by decide +kernel, rfl, by decide +kernel, by decide +kernel⟩
abbrev s_is_value : Stmt := topS 16
theorem sc_is_value : FnScope ["thing"] ["thing"] (defScope s_is_value) := ⟨rfl, rfl, rfl, by decide +kernel, rfl, by decide +kernel, by decide +kernel⟩
def isEntryD : PyData → Bool
  | .tuple [k, s] => isKeyD k && isScalarD s
  | _ => false
def keyOfD : PyData → Key
  | .tuple (.str x :: _) => .inr x
  | _ => .inl 0
def areEntriesD : PyData → Bool
  | .tuple ds => decide (ds.length ≤ 8) && (ds.all isEntryD && decide ((ds.map keyOfD).Nodup))
  | _ => false
def pairMap : PyData → Bool
  | .tuple [k, m] => PyData.eqv k (.str "map") && areEntriesD m
  | _ => false
def isValueD (d : PyData) : Bool := isScalarD d || pairMap d
section
variable {P : Program} {w : World} {K : PySem.W.Frag} {mg : Str → Option Value} {base : Heap}
theorem c_is_entry {ts : List Addr} (D : DefAt K mg "_is_entry" s_is_entry ["thing"]) (c__is_pair : Cal P w K mg base CX0 1 "_is_pair" ["thing"] (spData K [] isPairD)) (c_is_key : Cal P w K mg base CX0 4 "is_key" ["thing"] (spData K ts isKeyD))
    (c_is_scalar : Cal P w K mg base CX0 4 "is_scalar" ["thing"] (spData K ts isScalarD)) : Cal P w K mg base CX0 5 "_is_entry" ["thing"] (spData K ts isEntryD) := by
  refine D.cal (k := 4) sc_is_entry (fun vs H Q E h => ?_) fun f cdv A outer s H vs Q E hr h => ?_
  · obtain ⟨v, s, rfl, _⟩ := h
    rfl
  · obtain ⟨v, d, rfl, hd, hz, hT, q⟩ := h
    refine ⟨_, (pss_one (ps_ret (pe_and (pe_cal (c__is_pair.mono (by omega)) hr (by rfl) (pa_cons (pv 0) pa_nil)) (pe_and (pe_cal (c_is_key.mono (by omega)) hr (by rfl) (pa_cons (pe_ix ix_tup (pv 0) pe_int (fun _ _ => rfl)) pa_nil)) (pe_one (pe_cal (c_is_scalar.mono (by omega)) hr (by rfl) (pa_cons (pe_ix ix_tup (pv 0) pe_int (fun _ _ => rfl)) pa_nil))))))), ?_⟩
    refine ⟨v, rfl, v, d, rfl, hd, hz, (fun _ h => by cases h), fun H1 k1 => ⟨isPairD d, rfl, ?_⟩⟩
    have hd1 := hd.kb k1 Lsts.nil
    cases hd1 with
    | @tup a xs ds h hs =>
      by_cases hl : ds.length = 2
      · obtain ⟨dk, dc, rfl⟩ : ∃ x y, ds = [x, y] := by
          match ds, hl with
          | [x, y], _ => exact ⟨x, y, rfl⟩
        cases hs with
        | @cons vk _ _ _ hk hs =>
          cases hs with
          | @cons vc _ _ _ hc hs =>
            cases hs
            have okk : OkD dk := hz.child (by simp)
            have okc : OkD dc := hz.child (by simp)
            have z : ∀ H', Kp H H' → Q (.bl (isKeyD dk && isScalarD dc)) H' := q
            refine iteT ⟨.ref a, rfl, a, _, 0, _, rfl, rfl, h, atI_nat (j := 0) rfl, vk, dk, rfl, hk, okk, fun T hm => k1.tab T (hT T hm), fun H2 k2 => ⟨isKeyD dk, rfl, ?_⟩⟩
            cases e : isKeyD dk with
            | false =>
              rw [e] at z
              exact iteF (z H2 (k1.trans k2))
            | true =>
              rw [e] at z
              exact iteT ⟨.ref a, rfl, a, _, 1, _, rfl, rfl, k2.sqT Lsts.nil h, atI_nat (j := 1) rfl, vc, dc, rfl, hc.kb k2 Lsts.nil, okc, fun T hm => k2.tab T (k1.tab T (hT T hm)), fun H3 k3 => z H3 ((k1.trans k2).trans k3)⟩
      · have e : isPairD (.tuple ds) = false := decide_eq_false hl
        have e2 : isEntryD (.tuple ds) = false := by
          match ds, hl with
          | [], _ => rfl
          | [_], _ => rfl
          | [_, _], hl => exact absurd rfl hl
          | _ :: _ :: _ :: _, _ => rfl
        have z := q H1 k1
        rw [e2] at z
        rw [e]
        exact iteF z
    | _ => exact iteF (q H1 k1)
theorem c_is_value {ts : List Addr} (D : DefAt K mg "is_value" s_is_value ["thing"]) (c__is_pair : Cal P w K mg base CX0 1 "_is_pair" ["thing"] (spData K [] isPairD))
    (c_is_scalar : Cal P w K mg base CX0 4 "is_scalar" ["thing"] (spData K ts isScalarD)) (c__are_entries : Cal P w K mg base CX0 7 "_are_entries" ["thing"] (spData K ts areEntriesD)) : Cal P w K mg base CX0 8 "is_value" ["thing"] (spData K ts isValueD) := by
  refine D.cal (k := 7) sc_is_value (fun vs H Q E h => ?_) fun f cdv A outer s H vs Q E hr h => ?_
  · obtain ⟨v, s, rfl, _⟩ := h
    rfl
  · obtain ⟨v, d, rfl, hd, hz, hT, q⟩ := h
    refine ⟨_, (pss_cons (ps_if (pt_val (pe_cal (c_is_scalar.mono (by omega)) hr (by rfl) (pa_cons (pv 0) pa_nil))) (pss_one (ps_ret pe_bl)) pss_nil)
  (pss_one (ps_ret (pe_and (pe_cal (c__is_pair.mono (by omega)) hr (by rfl) (pa_cons (pv 0) pa_nil)) (pe_and (pe_cmpR (op_eqD hr.r.units) (pe_ix ix_tup (pv 0) pe_int (fun _ _ => rfl)) pe_str (nomark _)) (pe_one (pe_cal (c__are_entries.mono (by omega)) hr (by rfl) (pa_cons (pe_ix ix_tup (pv 0) pe_int (fun _ _ => rfl)) pa_nil)))))))), ?_⟩
    refine ⟨v, rfl, v, d, rfl, hd, hz, hT, fun H1 k1 => ⟨isScalarD d, rfl, ?_⟩⟩
    have z : ∀ H', Kp H H' → Q (.bl (isScalarD d || pairMap d)) H' := q
    cases es : isScalarD d with
    | true =>
      rw [es] at z
      exact iteT (z H1 k1)
    | false =>
      rw [es] at z
      have hd1 := hd.kb k1 Lsts.nil
      refine iteF ⟨v, rfl, v, d, rfl, hd1, hz, (fun _ h => by cases h), fun H2 k2 => ⟨isPairD d, rfl, ?_⟩⟩
      have k12 := k1.trans k2
      have hd2 := hd1.kb k2 Lsts.nil
      cases hd2 with
      | @tup a xs ds h hs =>
        by_cases hl : ds.length = 2
        · obtain ⟨dk, dc, rfl⟩ : ∃ x y, ds = [x, y] := by
            match ds, hl with
            | [x, y], _ => exact ⟨x, y, rfl⟩
          cases hs with
          | @cons vk _ _ _ hk hs =>
            cases hs with
            | @cons vc _ _ _ hc hs =>
              cases hs
              have okk : OkD dk := hz.child (by simp)
              have okc : OkD dc := hz.child (by simp)
              have z : ∀ H', Kp H H' → Q (.bl (PyData.eqv dk (.str "map") && areEntriesD dc)) H' := z
              refine iteT ⟨.ref a, rfl, a, _, 0, _, rfl, rfl, h, atI_nat (j := 0) rfl, dk, .str "map", hk.dp, .str _, okk.shaped, by decide +kernel, _, rfl, ?_⟩
              cases e : PyData.eqv dk (.str "map") with
              | false =>
                rw [e] at z
                exact iteF (z H2 k12)
              | true =>
                rw [e] at z
                exact iteT ⟨.ref a, rfl, a, _, 1, _, rfl, rfl, h, atI_nat (j := 1) rfl, vc, dc, rfl, hc, okc, fun T hm => k12.tab T (hT T hm), fun H3 k3 => z H3 (k12.trans k3)⟩
        · have e : isPairD (.tuple ds) = false := decide_eq_false hl
          have e2 : pairMap (.tuple ds) = false := by
            match ds, hl with
            | [], _ => rfl
            | [_], _ => rfl
            | [_, _], hl => exact absurd rfl hl
            | _ :: _ :: _ :: _, _ => rfl
          have z := z H2 k12
          rw [e2] at z
          rw [e]
          exact iteF z
      | _ => exact iteF (z H2 k12)
end
end Rv

namespace Rv
open PySem PySem.Spec PyProof.Rows L2 GxR Gx Gd
theorem sp_more {K : PySem.W.Frag} {ts ts' : List Addr} {p : PyData → Bool} (h : ∀ T ∈ ts, T ∈ ts') : ∀ (vs : List V) (H : Hp) (Q : VK) (E : XK), spData K ts' p vs H Q E → spData K ts p vs H Q E :=
  fun _ _ _ _ ⟨v, d, e, hd, hz, hT, q⟩ => ⟨v, d, e, hd, hz, fun T hm => hT T (h T hm), q⟩
theorem entry_shape {d : PyData} (h : isEntryD d = true) : ∃ x s, d = .tuple [.str x, s] := by
  unfold isEntryD at h
  split at h
  · rename_i k s
    rw [Bool.and_eq_true] at h
    have h1 := h.1
    cases k with
    | str x => exact ⟨x, s, rfl⟩
    | _ => cases h1
  · cases h
section
variable {P : Program} {w : World} {K : PySem.W.Frag} {mg : Str → Option Value} {base : Heap}
theorem c_are_entries {T : Addr} {ts : List Addr} (D : DefTab K mg base "_are_entries" s_are_entries ["thing"] T) (gM : ∃ t, mg "MAP_SIZE" = some (.int 8 t)) (m_isinstance : mg "isinstance" = none) (m_tuple : mg "tuple" = none) (m_len : mg "len" = none) (m_all : mg "all" = none)
    (c__is_entry : Cal P w K mg base CX0 5 "_is_entry" ["thing"] (spData K ts isEntryD)) (hTs : T ∈ ts) : Cal P w K mg base CX0 7 "_are_entries" ["thing"] (spData K ts areEntriesD) := by
  refine D.cal (k := 6) sc_are_entries (fun vs H Q E h => ?_) fun f c A outer s H vs Q E TB hr h => ?_
  · obtain ⟨v, s, rfl, _⟩ := h
    rfl
  · obtain ⟨v, d, rfl, hd, hz, hT, q⟩ := h
    obtain ⟨t, g_MAP_SIZE⟩ := gM
    refine ⟨_, (pss_cons (ps_if (PW.pt (pw_or (pt_not (pt_val (pe_callB call_isi (by rfl) m_isinstance (by decide +kernel) (pa_cons (pv 0) (pa_cons (pe_bltn (v := .ty "tuple") (by rfl) m_tuple (by decide +kernel) rfl) pa_nil))))) (pw_or1 (pt_cmpR op_gt (pe_callB call_len_seq (by rfl) m_len (by decide +kernel) (pa_cons (pv 0) pa_nil)) (pe_glob (v := .int 8) rfl g_MAP_SIZE ⟨_, rfl⟩) (nomark _))))) (pss_one (ps_ret pe_bl)) pss_nil)
  (pss_cons (ps_if (pt_not (pt_val (pe_allG hr.r (by rfl) m_all TB rfl (genS_by (by decide +kernel)) Caps.nil (pi_tup (pv 0)) rfl (fun _ _ _ _ _ _ => pg_name (i := 0) (nd1 _) rfl (Or.inl rfl)) (fun _ _ _ _ _ _ rk => (pe_cal (c__is_entry.mono (by omega)) (RoomG.mk rk hr.g) (by rfl) (pa_cons (pv 0) pa_nil)))))) (pss_one (ps_ret pe_bl)) pss_nil)
  (pss_one (ps_ret (pe_cmpR op_eq (pe_callB call_lenK (by rfl) m_len (by decide +kernel) (pa_cons (pe_scK rfl sc_are_entries.nd (pi_tup (pv 0)) (blkOk_by (own := [("entry", 1)]) (N := ["thing", "entry"]) (sc := defScope s_are_entries) (by decide +kernel)) (fun _ _ _ _ _ => (pg_name (i := 1) sc_are_entries.nd rfl (Or.inl rfl))) (fun _ _ _ _ _ => pts_nil) (fun _ _ _ _ _ => (pe_ix (ix_tupK (K := K) rfl) (pv 1) pe_int (fun _ _ => rfl)))) pa_nil)) (pe_callB call_len_seq (by rfl) m_len (by decide +kernel) (pa_cons (pv 0) pa_nil)) (nomark _)))))), ?_⟩
    refine ⟨v, rfl, v, .ty "tuple", _, _, isTupD d, rfl, ClsV.ty "tuple", hd.ty, kit_ty (kit_tup d), _, rfl, ?_⟩
    cases hd with
    | @tup a xs ds h hs =>
      have hlen := hs.length
      refine iteF ⟨.ref a, rfl, a, xs, rfl, .inr h, (xs.length : Int), 8, rfl, rfl, _, rfl, ?_⟩
      by_cases h8 : ds.length ≤ 8
      · have e8 : decide ((8 : Int) < (xs.length : Int)) = false := decide_eq_false (by omega)
        rw [e8]
        refine iteF ?_
        have z : ∀ (b : Bool) H', (ds.all isEntryD && decide ((ds.map keyOfD).Nodup)) = b → Kp H H' → Q (.bl b) H' := fun b H' e k => by
          have z := q H' k
          have e1 : areEntriesD (.tuple ds) = (decide (ds.length ≤ 8) && (ds.all isEntryD && decide ((ds.map keyOfD).Nodup))) := rfl
          rw [e1, decide_eq_true h8, Bool.true_and, e] at z
          exact z
        dsimp only [tNext, tSeq, tIfS, tNot, tB]
        refine rd_all_tup (i := 0) (p := isEntryD) rfl (hT T hTs) h hs (fun v' d' H' Q' hm hv k q' => ?_) fun H1 k1 => ⟨ds.all isEntryD, rfl, ?_⟩
        · exact ⟨v', rfl, v', d', rfl, hv, hz.child hm, fun T' hm' => k.tab T' (hT T' hm'), q'⟩
        · cases ea : ds.all isEntryD with
          | false => exact iteT (z false H1 (by rw [ea]; rfl) k1)
          | true =>
            have h1 := k1.sqT Lsts.nil h
            have hs1 := DtAll.kb k1 Lsts.nil hs
            have shape : ∀ d' ∈ ds, ∃ x s, d' = .tuple [.str x, s] := fun d' hm => entry_shape (List.all_eq_true.mp ea d' hm)
            refine iteF ?_
            dsimp only [tNext, tSeq, tIfS, tNot, tB, tRet, tOp, tCB, tCons, tNil]
            refine rd_scK_tup (i := 0) (j := 1) rfl (ks := ds.map keyOfD) h1 (by rw [List.length_map, hlen]) (by rw [hlen]; exact hz.len) (by show 1 < 2; decide) (fun i v' ky H' Q' hv hk k q' => ?_) fun D H2 hD k2 hset => ?_
            · obtain ⟨d', hd', hvd⟩ := hs1.get hv
              obtain ⟨x, s', rfl⟩ := shape d' (List.mem_of_getElem? hd')
              rw [List.getElem?_map, hd'] at hk
              have ek : Sum.inr x = ky := Option.some.inj hk
              subst ek
              have hvd := hvd.kb k Lsts.nil
              cases hvd with
              | @tup b ys _ hb hys =>
                cases hys with
                | cons hx hys =>
                  cases hx
                  exact ⟨.ref b, rfl, b, _, 0, _, rfl, rfl, hb, atI_nat (j := 0) rfl, q'⟩
            · have k12 := k1.trans k2
              refine ⟨D, _, _, rfl, hset, .ref a, rfl, a, xs, rfl, .inr (k2.sqT Lsts.nil h1), rfl, ?_⟩
              refine z _ H2 ?_ k12
              rw [ea, Bool.true_and, Bool.eq_iff_iff, decide_eq_true_eq, decide_eq_true_eq]
              have hall := keysOf_all (ds.map keyOfD)
              rw [List.length_map] at hall
              constructor
              · intro n
                rw [hall.mpr n, hlen]
              · intro e
                have e := V.int.inj e
                exact hall.mp (by omega)
      · have e8 : decide ((8 : Int) < (xs.length : Int)) = true := decide_eq_true (by omega)
        rw [e8]
        refine iteT ?_
        have z := q H (Kb.refl H)
        have e1 : areEntriesD (.tuple ds) = (decide (ds.length ≤ 8) && (ds.all isEntryD && decide ((ds.map keyOfD).Nodup))) := rfl
        rw [e1, decide_eq_false h8] at z
        exact z
    | _ => exact iteT (q H (Kb.refl H))
end
end Rv

namespace Rs
open PySem PySem.Spec PyProof.Rows L2 GxR Gx Gd
def topS (i : Nat) : Stmt := PySem.Challenge.pw_remoteviews_k03_no_expressions.main.body.getD i (.Pass ⟨0, 0, 0, 0⟩)
abbrev s_is_character : Stmt := topS 11
abbrev s_is_digit : Stmt := topS 12
abbrev s_is_small : Stmt := topS 17
/-! ### signs -/
def inRg (a b c : Nat) : Bool := decide (a ≤ c) && decide (c ≤ b)
def isSmall : Nat → Bool := inRg 97 122
def isDigit : Nat → Bool := inRg 48 57
def isChar (c : Nat) : Bool := inRg 32 126 c && !decide (c = 37)
theorem lt1 {a b : Nat} : decide (([a] : List Nat) < [b]) = decide (a < b) := by
  rw [Bool.eq_iff_iff, decide_eq_true_eq, decide_eq_true_eq]
  constructor
  · intro h
    cases h with
    | rel h => exact h
    | cons h => cases h
  · intro h
    exact .rel h
theorem le1 {a b : Nat} : (!decide (([b] : List Nat) < [a])) = decide (a ≤ b) := by
  rw [lt1, Bool.eq_iff_iff, Bool.not_eq_true', decide_eq_false_iff_not, decide_eq_true_eq]
  omega
def spSign (p : Nat → Bool) : Sp := fun vs H Q _ => ∃ c, vs = [.str ⟨#[c]⟩] ∧ Q (.bl (p c)) H
abbrev rLeS : R2 := fun x y H Q => ∃ i j, x = .str i ∧ y = .str j ∧ Q (.bl (!decide (j.cps.toList < i.cps.toList))) H
theorem chain_rd {a b c : Nat} {xa xb : Str} {σ : L2.St} {H : Hp} {Q : VK} {i : Nat} (ha : xa = ⟨#[a]⟩) (hb : xb = ⟨#[b]⟩) (hs : σ[i]? = some (some (.str ⟨#[c]⟩))) (q : Q (.bl (inRg a b c)) H) :
    tChain rLeS rLeS (tC (.str xa)) (tVar i) (tC (.str xb)) σ H Q := by
  subst ha hb
  refine ⟨_, hs, ⟨#[a]⟩, ⟨#[c]⟩, rfl, rfl, _, rfl, ?_⟩
  show if (!decide (([c] : List Nat) < [a])) = true then ∃ i j, V.str ⟨#[c]⟩ = .str i ∧ V.str ⟨#[b]⟩ = .str j ∧ Q (.bl (!decide (j.cps.toList < i.cps.toList))) H else Q (.bl false) H
  rw [le1]
  unfold inRg at q
  by_cases h : a ≤ c
  · rw [decide_eq_true h] at q ⊢
    rw [if_pos rfl]
    refine ⟨_, _, rfl, rfl, ?_⟩
    show Q (.bl (!decide (([b] : List Nat) < [c]))) H
    rw [le1]
    exact q
  · rw [decide_eq_false h] at q ⊢
    exact iteF q
theorem chain_and {a b c : Nat} {xa xb : Str} {σ : L2.St} {H : Hp} {Q : VK} {i : Nat} {tb : TE} (ha : xa = ⟨#[a]⟩) (hb : xb = ⟨#[b]⟩) (hs : σ[i]? = some (some (.str ⟨#[c]⟩))) (q : if inRg a b c = true then tb σ H Q else Q (.bl false) H) :
    tAndV (tChain rLeS rLeS (tC (.str xa)) (tVar i) (tC (.str xb))) tb σ H Q := chain_rd ha hb hs ⟨_, rfl, q⟩
section
variable {P : Program} {w : World} {K : PySem.W.Frag} {mg : Str → Option Value} {base : Heap}
theorem sc_is_small : FnScope ["char"] ["char"] (defScope s_is_small) := ⟨rfl, rfl, rfl, by decide +kernel, rfl, by decide +kernel, by decide +kernel⟩
theorem c_is_small (D : DefAt K mg "_is_small" s_is_small ["char"]) : Cal P w K mg base CX0 1 "_is_small" ["char"] (spSign isSmall) := by
  refine D.cal (k := 0) sc_is_small (fun vs H Q E h => ?_) fun f cdv A outer s H vs Q E hr h => ?_
  · obtain ⟨c, rfl, _⟩ := h
    rfl
  · obtain ⟨c, rfl, q⟩ := h
    refine ⟨_, pss_one (ps_ret (pe_chain op_le_str op_le_str pe_str (pv 0) pe_str)), ?_⟩
    exact chain_rd rfl rfl rfl q
theorem sc_is_digit : FnScope ["char"] ["char"] (defScope s_is_digit) := ⟨rfl, rfl, rfl, by decide +kernel, rfl, by decide +kernel, by decide +kernel⟩
theorem c_is_digit (D : DefAt K mg "is_digit" s_is_digit ["char"]) : Cal P w K mg base CX0 1 "is_digit" ["char"] (spSign isDigit) := by
  refine D.cal (k := 0) sc_is_digit (fun vs H Q E h => ?_) fun f cdv A outer s H vs Q E hr h => ?_
  · obtain ⟨c, rfl, _⟩ := h
    rfl
  · obtain ⟨c, rfl, q⟩ := h
    refine ⟨_, pss_one (ps_ret (pe_chain op_le_str op_le_str pe_str (pv 0) pe_str)), ?_⟩
    exact chain_rd rfl rfl rfl q
theorem sc_is_character : FnScope ["char"] ["char"] (defScope s_is_character) := ⟨rfl, rfl, rfl, by decide +kernel, rfl, by decide +kernel, by decide +kernel⟩
theorem c_is_character (D : DefAt K mg "is_character" s_is_character ["char"]) (gP : ∃ t, mg "PERCENT" = some (.int 37 t)) (mo : mg "ord" = none) : Cal P w K mg base CX0 1 "is_character" ["char"] (spSign isChar) := by
  refine D.cal (k := 0) sc_is_character (fun vs H Q E h => ?_) fun f cdv A outer s H vs Q E hr h => ?_
  · obtain ⟨c, rfl, _⟩ := h
    rfl
  · obtain ⟨c, rfl, q⟩ := h
    obtain ⟨t, gP⟩ := gP
    refine ⟨_, pss_one (ps_ret (pe_and (pe_chain op_le_str op_le_str pe_str (pv 0) pe_str) (pe_one (pe_cmpR op_ne (pe_callB call_ord (by rfl) mo (by decide +kernel) (pa_cons (pv 0) pa_nil)) (pe_glob (v := .int 37) rfl gP ⟨t, rfl⟩) (nomark _))))), ?_⟩
    refine chain_and (a := 32) (b := 126) (c := c) rfl rfl rfl ?_
    cases e : inRg 32 126 c with
    | false =>
      refine iteF ?_
      unfold isChar at q
      rw [e] at q
      exact q
    | true =>
      refine iteT ⟨_, rfl, _, rfl, rfl, rfl, ?_⟩
      unfold isChar at q
      rw [e] at q
      have e2 : decide (V.int (((#[c] : Array Nat).getD 0 0 : Nat) : Int) = V.int 37) = decide (c = 37) := by
        rw [Bool.eq_iff_iff, decide_eq_true_eq, decide_eq_true_eq]
        constructor
        · intro h
          have h := V.int.inj h
          have h2 : ((c : Nat) : Int) = 37 := h
          omega
        · intro h
          subst h
          rfl
      rw [e2]
      exact q
end
end Rs
namespace Rs
open PySem PySem.Spec PyProof.Rows L2 GxR Gx Gd
def isNameL (l : List Nat) : Bool := decide (1 ≤ l.length) && decide (l.length ≤ 12) && ((match l with | c :: _ => isSmall c | [] => false) && l.all (fun c => isSmall c || isDigit c))
def isName : PyData → Bool
  | .str x => isNameL x.cps.toList
  | _ => false
abbrev s_is_name : Stmt := topS 13
section
variable {P : Program} {w : World} {K : PySem.W.Frag} {mg : Str → Option Value} {base : Heap}
theorem sc_is_name : FnScope ["thing"] ["thing"] (defScope s_is_name) := ⟨rfl, rfl, rfl, by decide +kernel, rfl, by decide +kernel, by decide +kernel⟩
theorem c_is_name {T : Addr} (D : DefTab K mg base "is_name" s_is_name ["thing"] T) (gN : ∃ t, mg "NAME_LENGTH" = some (.int 12 t)) (mi : mg "isinstance" = none) (ms : mg "str" = none) (ml : mg "len" = none) (ma : mg "all" = none)
    (c1 : Cal P w K mg base CX0 1 "_is_small" ["char"] (spSign isSmall)) (c2 : Cal P w K mg base CX0 1 "is_digit" ["char"] (spSign isDigit)) : Cal P w K mg base CX0 3 "is_name" ["thing"] (spData K [T] isName) := by
  refine D.cal (k := 2) sc_is_name (fun vs H Q E h => ?_) fun f c A outer s H vs Q E TB hr h => ?_
  · obtain ⟨v, d, rfl, _⟩ := h
    rfl
  · obtain ⟨v, d, rfl, hd, hz, hT, q⟩ := h
    obtain ⟨t, gN⟩ := gN
    refine ⟨_, pss_cons (ps_if (PW.pt (pw_or (pt_not (pt_val (pe_callB call_isi (by rfl) mi (by decide +kernel) (pa_cons (pv 0) (pa_cons (pe_bltn (v := .ty "str") (by rfl) ms (by decide +kernel) rfl) pa_nil)))))
          (pw_or1 (pt_not (pt_chain op_le op_le pe_int (pe_callB call_len_str (by rfl) ml PySem.boot_len (pa_cons (pv 0) pa_nil)) (pe_glob (v := .int 12) rfl gN ⟨t, rfl⟩))))))
        (pss_one (ps_ret pe_bl)) pss_nil)
      (pss_one (ps_ret (pe_and (pe_cal (c1.mono (by decide : 1 ≤ 2)) hr (by rfl) (pa_cons (pe_ix ix_str (pv 0) pe_int (fun _ _ => rfl)) pa_nil))
        (pe_one (pe_allG hr.r (by rfl) ma TB rfl (genS_by (by decide +kernel)) Caps.nil (pi_str (pv 0)) rfl
          (fun _ _ _ _ _ _ => pg_name (i := 0) (nd1 _) rfl (Or.inl rfl))
          (fun _ _ _ _ _ _ rk => pe_or (pe_cal c1 ⟨rk, hr.g⟩ (by rfl) (pa_cons (pv 0) pa_nil)) (pe_one (pe_cal c2 ⟨rk, hr.g⟩ (by rfl) (pa_cons (pv 0) pa_nil))))))))), ?_⟩
    refine ⟨v, rfl, v, .ty "str", _, _, isStrD d, rfl, ClsV.ty "str", hd.ty, kit_ty (kit_str d), _, rfl, ?_⟩
    have qF : isName d = false → Q (.bl false) H := fun e => by
      have z := q H (Kb.refl H)
      rw [e] at z
      exact z
    by_cases hs : isStrD d = true
    · cases hd <;> first | (cases hs; done) | skip
      rename_i x
      refine iteF ?_
      have hx : x.length = x.cps.toList.length := by simp [Str.length]
      have hlen := hz.str
      refine ⟨_, rfl, x, rfl, line1000 hlen, 1, (x.length : Int), rfl, rfl, _, rfl, ?_⟩
      by_cases h1 : (1 : Int) ≤ (x.length : Int)
      · rw [decide_eq_true h1]
        refine iteT ⟨_, _, rfl, rfl, _, rfl, ?_⟩
        by_cases h2 : (x.length : Int) ≤ 12
        · rw [decide_eq_true h2]
          refine iteF ?_
          obtain ⟨l, hl⟩ : ∃ l, x.cps.toList = l := ⟨_, rfl⟩
          cases l with
          | nil =>
            rw [hx, hl] at h1
            exact absurd h1 (by decide)
          | cons c0 r =>
            have en : isName (.str x) = (isSmall c0 && x.cps.toList.all fun c => isSmall c || isDigit c) := by
              have h1' : 1 ≤ x.cps.toList.length := by omega
              have h2' : x.cps.toList.length ≤ 12 := by omega
              show isNameL x.cps.toList = _
              unfold isNameL
              rw [decide_eq_true h1', decide_eq_true h2', hl]
              rfl
            refine ⟨.str x, rfl, x, 0, c0, rfl, rfl, line1000 hlen, by rw [hl]; exact atI_nat (j := 0) rfl, c0, rfl, isSmall c0, rfl, ?_⟩
            cases e0 : isSmall c0 with
            | false =>
              refine iteF (qF ?_)
              rw [en, e0]
              rfl
            | true =>
              refine iteT ⟨.str x, rfl, x, rfl, ?_⟩
              refine all_str (p := fun c => isSmall c || isDigit c) (hT T (List.mem_singleton.mpr rfl)) (fun c _ H Q' q' => ⟨.str ⟨#[c]⟩, rfl, c, rfl, isSmall c, rfl, ?_⟩) fun H2 h2 => ?_
              · cases e1 : isSmall c with
                | true =>
                  rw [e1] at q'
                  exact iteT q'
                | false =>
                  rw [e1] at q'
                  exact iteF ⟨.str ⟨#[c]⟩, rfl, c, rfl, q'⟩
              · have z := q H2 (Kb.tabbed h2 (hT T (List.mem_singleton.mpr rfl)))
                rw [en, e0] at z
                exact z
        · rw [decide_eq_false h2]
          refine iteT ?_
          have h2' : ¬ x.cps.toList.length ≤ 12 := by omega
          refine qF ?_
          show isNameL x.cps.toList = _
          unfold isNameL
          rw [decide_eq_false h2', Bool.and_false]
          rfl
      · rw [decide_eq_false h1]
        refine iteF ⟨_, rfl, ?_⟩
        have h1' : ¬ 1 ≤ x.cps.toList.length := by omega
        refine qF ?_
        show isNameL x.cps.toList = _
        unfold isNameL
        rw [decide_eq_false h1']
        rfl
    · rw [Bool.eq_false_iff.mpr hs]
      refine iteT ?_
      refine qF ?_
      cases d <;> first | rfl | exact absurd rfl hs
end
end Rs

namespace Rs
open PySem PySem.Spec PyProof.Rows L2 GxR Gx Gd
/-! ### signs, as they are read -/
def sx (l : List Nat) : Str := ⟨l.toArray⟩
theorem sx_tl (l : List Nat) : (sx l).cps.toList = l := by simp [sx]
theorem sx_len (l : List Nat) : (sx l).length = l.length := by simp [sx, Str.length]
theorem sx_of (x : Str) : sx x.cps.toList = x := by simp [sx]
theorem sx_inj {a b : List Nat} (h : sx a = sx b) : a = b := by rw [← sx_tl a, h, sx_tl]
inductive Sg where
  | name (l : List Nat) | num (n : Nat) | quo (l : List Nat) | mark (c : Nat)
def Sg.d : Sg → PyData
  | .name l => .tuple [.str "name", .str (sx l)]
  | .num n => .tuple [.str "number", .int (n : Int)]
  | .quo l => .tuple [.str "quoted", .str (sx l)]
  | .mark c => .tuple [.str "mark", .str (sx [c])]
def isRun (c : Nat) : Bool := isSmall c || (inRg 65 90 c || isDigit c)
def isNumL (l : List Nat) : Bool := decide (l.length ≤ 9) && (l.all isDigit && (decide (l = [48]) || !decide (l.head? = some 48)))
def isMark (c : Nat) : Bool := decide (c = 40) || (decide (c = 41) || (decide (c = 44) || decide (c = 61)))
def escOf (c : Nat) : Option Nat := if c = 34 then some 34 else if c = 92 then some 92 else if c = 110 then some 10 else none
/-- what stands behind the opening quotation mark: the content and how far it goes -/
def readQ : List Nat → Option (List Nat × Nat)
  | [] => none
  | [c] => if c = 34 then some ([], 1) else none
  | c :: e :: r => if c = 34 then some ([], 1) else if c = 92 then (match escOf e with | some m => (readQ r).map fun p => (m :: p.1, p.2 + 2) | none => none) else if isChar c = true then (readQ (e :: r)).map fun p => (c :: p.1, p.2 + 1) else none
def runOf (l : List Nat) : List Nat := l.takeWhile isRun
/-- the sign that begins a row, and its length -/
def readS : List Nat → Option (Sg × Nat)
  | [] => none
  | c :: r => if isMark c = true then some (.mark c, 1) else if c = 34 then (readQ r).map fun p => (.quo p.1, p.2 + 1) else if isRun c = true then
      (if isNameL (runOf (c :: r)) = true then some (.name (runOf (c :: r)), (runOf (c :: r)).length) else if isNumL (runOf (c :: r)) = true then some (.num (NumText.digitsVal (runOf (c :: r))), (runOf (c :: r)).length) else none)
    else none
theorem readS_cons (c : Nat) (r : List Nat) : readS (c :: r) = if isMark c = true then some (.mark c, 1) else if c = 34 then (readQ r).map fun p => (.quo p.1, p.2 + 1) else if isRun c = true then
      (if isNameL (runOf (c :: r)) = true then some (.name (runOf (c :: r)), (runOf (c :: r)).length) else if isNumL (runOf (c :: r)) = true then some (.num (NumText.digitsVal (runOf (c :: r))), (runOf (c :: r)).length) else none)
    else none := rfl
/-- the signs of a row, or where none begins -/
inductive Out where | ok (ss : List Sg) | bad (o : Nat)
def Out.shift (w : Nat) (ss : List Sg) : Out → Out
  | .ok ts => .ok (ss ++ ts)
  | .bad o => .bad (w + o)
def splitF : Nat → List Nat → Out
  | _, [] => .ok []
  | 0, _ => .ok []
  | f + 1, c :: r => if c = 32 then (splitF f r).shift 1 [] else match readS (c :: r) with | none => .bad 0 | some (s, w) => (splitF f ((c :: r).drop w)).shift w [s]
theorem splitF_cons (f c : Nat) (r : List Nat) : splitF (f + 1) (c :: r) = if c = 32 then (splitF f r).shift 1 [] else match readS (c :: r) with | none => .bad 0 | some (s, w) => (splitF f ((c :: r).drop w)).shift w [s] := rfl
def splitR (l : List Nat) : Out := splitF l.length l
theorem readQ_pos : ∀ (l : List Nat) {p : List Nat × Nat}, readQ l = some p → 1 ≤ p.2 ∧ p.2 ≤ l.length
  | [], p, h => by cases h
  | [c], p, h => by
    unfold readQ at h
    split at h
    · cases h
      exact ⟨Nat.le_refl _, Nat.le_refl _⟩
    · cases h
  | c :: e :: r, p, h => by
    unfold readQ at h
    split at h
    · cases h
      exact ⟨Nat.le_refl _, by simp⟩
    · split at h
      · split at h
        · cases hq : readQ r with
          | none => rw [hq] at h; cases h
          | some p' =>
            rw [hq] at h
            cases h
            have := readQ_pos r hq
            exact ⟨by simp, by simp; omega⟩
        · cases h
      · split at h
        · cases hq : readQ (e :: r) with
          | none => rw [hq] at h; cases h
          | some p' =>
            rw [hq] at h
            cases h
            have := readQ_pos (e :: r) hq
            exact ⟨by simp, by simp at this ⊢; omega⟩
        · cases h
theorem runOf_cons {c : Nat} {r : List Nat} (h : isRun c = true) : runOf (c :: r) = c :: runOf r := by
  unfold runOf
  rw [List.takeWhile_cons, if_pos h]
theorem runOf_le (l : List Nat) : (runOf l).length ≤ l.length := (List.takeWhile_sublist _).length_le
theorem readS_pos {l : List Nat} {s : Sg} {w : Nat} (h : readS l = some (s, w)) : 1 ≤ w ∧ w ≤ l.length := by
  cases l with
  | nil => cases h
  | cons c r =>
    rw [readS_cons] at h
    split at h
    · cases h
      exact ⟨Nat.le_refl _, by simp⟩
    · split at h
      · cases hq : readQ r with
        | none => rw [hq] at h; cases h
        | some p =>
          rw [hq] at h
          cases h
          have := readQ_pos r hq
          exact ⟨by simp, by simp; omega⟩
      · split at h
        · rename_i hc
          have hl := runOf_le (c :: r)
          have hp : 1 ≤ (runOf (c :: r)).length := by rw [runOf_cons hc]; simp
          split at h
          · cases h
            exact ⟨hp, hl⟩
          · split at h
            · cases h
              exact ⟨hp, hl⟩
            · cases h
        · cases h
/-- enough steps -/
theorem splitF_more : ∀ (f g : Nat) (l : List Nat), l.length ≤ f → l.length ≤ g → splitF f l = splitF g l
  | f, g, [], _, _ => by cases f <;> cases g <;> rfl
  | 0, _, c :: r, h, _ => by simp at h
  | _, 0, c :: r, _, h => by simp at h
  | f + 1, g + 1, c :: r, h1, h2 => by
    unfold splitF
    split
    · rw [splitF_more f g r (by simp at h1; omega) (by simp at h2; omega)]
    · cases hq : readS (c :: r) with
      | none => rfl
      | some p =>
        obtain ⟨s, w⟩ := p
        have hp := readS_pos hq
        have hl : ((c :: r).drop w).length ≤ r.length := by rw [List.length_drop]; simp at hp ⊢; omega
        show (splitF f _).shift w [s] = (splitF g _).shift w [s]
        rw [splitF_more f g _ (by simp at h1; omega) (by simp at h2; omega)]
theorem splitR_nil : splitR [] = .ok [] := rfl
theorem splitR_sp (r : List Nat) : splitR (32 :: r) = (splitR r).shift 1 [] := rfl
theorem splitR_bad {c : Nat} {r : List Nat} (hc : c ≠ 32) (h : readS (c :: r) = none) : splitR (c :: r) = .bad 0 := by
  unfold splitR
  show splitF (r.length + 1) _ = _
  rw [splitF_cons, if_neg hc, h]
theorem splitR_sign {l : List Nat} {s : Sg} {w : Nat} (hc : l.head? ≠ some 32) (h : readS l = some (s, w)) : splitR l = (splitR (l.drop w)).shift w [s] := by
  cases l with
  | nil => cases h
  | cons c r =>
    have hp := readS_pos h
    unfold splitR
    show splitF (r.length + 1) _ = _
    rw [splitF_cons, if_neg (fun z => hc (by rw [z]; rfl)), h]
    show (splitF r.length _).shift w [s] = _
    rw [splitF_more r.length ((c :: r).drop w).length _ (by rw [List.length_drop]; simp at hp ⊢; omega) (Nat.le_refl _)]
theorem Out.shift_shift (o : Out) (a b : Nat) (ss ts : List Sg) : (o.shift a ss).shift b ts = o.shift (b + a) (ts ++ ss) := by
  cases o with
  | ok x => simp [Out.shift]
  | bad x => simp [Out.shift]; omega
/-! ### texts of signs -/
def escC (c : Nat) : List Nat := if c = 92 then [92, 92] else if c = 34 then [92, 34] else if c = 10 then [92, 110] else [c]
def escL (l : List Nat) : List Nat := l.flatMap escC
def quoL (l : List Nat) : List Nat := 34 :: (escL l ++ [34])
def Sg.text : Sg → List Nat
  | .name l => l
  | .num n => (Str.ofString (toString (n : Int))).cps.toList
  | .quo l => quoL l
  | .mark c => [c]
def Sg.run : Sg → Bool
  | .name _ => true
  | .num _ => true
  | _ => false
def Sg.good : Sg → Prop
  | .name l => isNameL l = true
  | .num n => n ≤ 999999999
  | .quo l => l.all (fun c => isChar c || decide (c = 10)) = true ∧ l.length ≤ 40
  | .mark c => isMark c = true
theorem readQ_esc : ∀ (l t : List Nat), l.all (fun c => isChar c || decide (c = 10)) = true → readQ (escL l ++ 34 :: t) = some (l, (escL l).length + 1)
  | [], t, _ => by
    show readQ (34 :: t) = _
    cases t <;> rfl
  | c :: l, t, h => by
    rw [List.all_cons, Bool.and_eq_true] at h
    have ih := readQ_esc l t h.2
    have e : escL (c :: l) = escC c ++ escL l := rfl
    rw [e]
    have h1 := h.1
    have two : ∀ {m e : Nat}, escOf e = some m → readQ ([92, e] ++ escL l ++ 34 :: t) = some (m :: l, ([92, e] ++ escL l).length + 1) := fun {m e} he => by
      show readQ (92 :: e :: (escL l ++ 34 :: t)) = _
      unfold readQ
      rw [if_neg (by decide), if_pos rfl, he]
      show (readQ (escL l ++ 34 :: t)).map _ = _
      rw [ih]
      simp
    unfold escC
    by_cases c1 : c = 92
    · subst c1
      rw [if_pos rfl]
      exact two rfl
    · rw [if_neg c1]
      by_cases c2 : c = 34
      · subst c2
        rw [if_pos rfl]
        exact two rfl
      · rw [if_neg c2]
        by_cases c3 : c = 10
        · subst c3
          rw [if_pos rfl]
          exact two rfl
        · rw [if_neg c3]
          have hch : isChar c = true := by
            rw [Bool.or_eq_true, decide_eq_true_eq] at h1
            rcases h1 with h1 | h1
            · exact h1
            · exact absurd h1 c3
          show readQ (c :: (escL l ++ 34 :: t)) = _
          obtain ⟨a, b, hab⟩ : ∃ a b, escL l ++ 34 :: t = a :: b := by
            cases escL l with
            | nil => exact ⟨_, _, rfl⟩
            | cons a b => exact ⟨_, _, rfl⟩
          rw [hab] at ih ⊢
          unfold readQ
          rw [if_neg c2, if_neg c1, if_pos hch]
          show (readQ (a :: b)).map _ = _
          rw [ih]
          simp
end Rs

namespace Rs
open PySem PySem.Spec PyProof.Rows L2 GxR Gx Gd
/-! ### the text of a sign is read as the sign -/
def Hd (t : List Nat) : Prop := t = [] ∨ ∃ c r, t = c :: r ∧ isRun c = false
theorem run_app {l t : List Nat} (h : l.all isRun = true) (ht : Hd t) : runOf (l ++ t) = l := by
  induction l with
  | nil =>
    rcases ht with rfl | ⟨c, r, rfl, hc⟩
    · rfl
    · show runOf (c :: r) = []
      unfold runOf
      rw [List.takeWhile_cons, if_neg (by rw [hc]; exact Bool.false_ne_true)]
  | cons c l ih =>
    rw [List.all_cons, Bool.and_eq_true] at h
    show runOf (c :: (l ++ t)) = _
    rw [runOf_cons h.1, ih h.2]
theorem rg {a b c : Nat} : inRg a b c = true ↔ a ≤ c ∧ c ≤ b := by
  unfold inRg
  rw [Bool.and_eq_true, decide_eq_true_eq, decide_eq_true_eq]
theorem run_plain {c : Nat} (h : isRun c = true) : isMark c = false ∧ c ≠ 34 ∧ c ≠ 32 := by
  unfold isRun isSmall isDigit at h
  rw [Bool.or_eq_true, Bool.or_eq_true, rg, rg, rg] at h
  refine ⟨?_, by omega, by omega⟩
  unfold isMark
  rw [decide_eq_false (by omega), decide_eq_false (by omega), decide_eq_false (by omega), decide_eq_false (by omega)]
  rfl
theorem digit_run {c : Nat} (h : isDigit c = true) : isRun c = true := by unfold isRun; rw [h]; simp
theorem small_run {c : Nat} (h : isSmall c = true) : isRun c = true := by unfold isRun; rw [h]; simp
theorem readS_run {l t : List Nat} (hl : l.all isRun = true) (hne : l ≠ []) (ht : Hd t) : readS (l ++ t) = if isNameL l = true then some (.name l, l.length) else if isNumL l = true then some (.num (NumText.digitsVal l), l.length) else none := by
  cases l with
  | nil => exact absurd rfl hne
  | cons c r =>
    have hc : isRun c = true := by rw [List.all_cons, Bool.and_eq_true] at hl; exact hl.1
    obtain ⟨h1, h2, _⟩ := run_plain hc
    have hr := run_app hl ht
    show readS (c :: (r ++ t)) = _
    rw [readS_cons, if_neg (by rw [h1]; exact Bool.false_ne_true), if_neg h2, if_pos hc]
    have hr' : runOf (c :: (r ++ t)) = c :: r := hr
    rw [hr']
theorem name_parts {l : List Nat} (h : isNameL l = true) : 1 ≤ l.length ∧ l.length ≤ 12 ∧ (∃ c r, l = c :: r ∧ isSmall c = true) ∧ l.all (fun c => isSmall c || isDigit c) = true := by
  unfold isNameL at h
  rw [Bool.and_eq_true, Bool.and_eq_true, decide_eq_true_eq, decide_eq_true_eq, Bool.and_eq_true] at h
  obtain ⟨⟨h1, h2⟩, h3, h4⟩ := h
  cases l with
  | nil => simp at h1
  | cons c r => exact ⟨h1, h2, ⟨c, r, rfl, h3⟩, h4⟩
theorem name_run {l : List Nat} (h : isNameL l = true) : l.all isRun = true := by
  obtain ⟨_, _, _, h⟩ := name_parts h
  rw [List.all_eq_true] at h ⊢
  intro c hc
  have h := h c hc
  rw [Bool.or_eq_true] at h
  rcases h with h | h
  · exact small_run h
  · exact digit_run h
theorem numL_head : ∀ (n : Nat), 0 < n → ∃ c r, TL.numL n = c :: r ∧ c ≠ 48 := by
  intro n
  induction n using Nat.strongRecOn with
  | _ n ih =>
    intro hn
    by_cases h : n < 10
    · rw [TL.numL_lt h]
      exact ⟨_, _, rfl, by omega⟩
    · rw [TL.numL_step (by omega)]
      obtain ⟨c, r, e, hc⟩ := ih (n / 10) (by omega) (by omega)
      rw [e]
      exact ⟨c, _, rfl, hc⟩
theorem numL_all (n : Nat) : (TL.numL n).all isDigit = true := by
  rw [List.all_eq_true]
  intro c hc
  exact rg.mpr (TL.numL_digits n c hc)
theorem num_isNum {n : Nat} (h : n ≤ 999999999) : isNumL (TL.numL n) = true := by
  unfold isNumL
  rw [decide_eq_true (TL.numL_len (n := n) (k := 9) (by decide) (by omega)), numL_all]
  by_cases h0 : n = 0
  · subst h0
    rfl
  · obtain ⟨c, r, e, hc⟩ := numL_head n (by omega)
    rw [e]
    have : decide ((c :: r).head? = some 48) = false := decide_eq_false (by simpa using hc)
    rw [this]
    simp
theorem num_noName (n : Nat) : isNameL (TL.numL n) = false := by
  cases e : isNameL (TL.numL n) with
  | false => rfl
  | true =>
    obtain ⟨_, _, ⟨c, r, e1, h1⟩, _⟩ := name_parts e
    have h2 := TL.numL_digits n c (by rw [e1]; exact List.mem_cons_self)
    have h3 := rg.mp h1
    omega
theorem text_num (n : Nat) : (Sg.num n).text = TL.numL n := TL.tl_num n
theorem mark_of {c : Nat} (h : isMark c = true) : c = 40 ∨ c = 41 ∨ c = 44 ∨ c = 61 := by
  unfold isMark at h
  rw [Bool.or_eq_true, Bool.or_eq_true, Bool.or_eq_true, decide_eq_true_eq, decide_eq_true_eq, decide_eq_true_eq, decide_eq_true_eq] at h
  exact h
theorem readS_text {s : Sg} (g : s.good) {t : List Nat} (ht : s.run = true → Hd t) : readS (s.text ++ t) = some (s, s.text.length) := by
  cases s with
  | name l =>
    have hne : l ≠ [] := by obtain ⟨_, _, ⟨c, r, rfl, _⟩, _⟩ := name_parts g; simp
    show readS (l ++ t) = _
    rw [readS_run (name_run g) hne (ht rfl), if_pos (show isNameL l = true from g)]
    rfl
  | num n =>
    rw [text_num]
    have hr : (TL.numL n).all isRun = true := by
      have := numL_all n
      rw [List.all_eq_true] at this ⊢
      exact fun c hc => digit_run (this c hc)
    rw [readS_run hr (TL.numL_ne n) (ht rfl), if_neg (by rw [num_noName]; exact Bool.false_ne_true), if_pos (num_isNum g), TL.numL_val]
  | quo l =>
    show readS (34 :: ((escL l ++ [34]) ++ t)) = _
    rw [readS_cons, if_neg (by decide), if_pos rfl, List.append_assoc]
    show (readQ (escL l ++ 34 :: t)).map _ = _
    rw [readQ_esc l t g.1]
    show some (Sg.quo l, _) = some (Sg.quo l, (quoL l).length)
    unfold quoL
    simp
  | mark c =>
    show readS (c :: t) = _
    rw [readS_cons, if_pos (show isMark c = true from g)]
    rfl
theorem text_head {s : Sg} (g : s.good) : ∃ c r, s.text = c :: r ∧ c ≠ 32 ∧ (s.run = false → isRun c = false) := by
  cases s with
  | name l =>
    obtain ⟨_, _, ⟨c, r, rfl, h⟩, _⟩ := name_parts g
    exact ⟨c, r, rfl, (run_plain (small_run h)).2.2, fun z => by cases z⟩
  | num n =>
    rw [text_num]
    cases e : TL.numL n with
    | nil => exact absurd e (TL.numL_ne n)
    | cons c r =>
      have h := TL.numL_digits n c (by rw [e]; exact List.mem_cons_self)
      exact ⟨c, r, rfl, by omega, fun z => by cases z⟩
  | quo l => exact ⟨34, _, rfl, by decide, fun _ => by decide⟩
  | mark c =>
    refine ⟨c, [], rfl, ?_, fun _ => ?_⟩
    · rcases mark_of g with h | h | h | h <;> omega
    · rcases mark_of g with h | h | h | h <;> subst h <;> decide
theorem escL_len : ∀ l : List Nat, (escL l).length ≤ 2 * l.length
  | [] => Nat.le_refl _
  | c :: l => by
    have e : escL (c :: l) = escC c ++ escL l := rfl
    have h : (escC c).length ≤ 2 := by
      unfold escC
      split
      · decide
      · split
        · decide
        · split
          · decide
          · simp
    have := escL_len l
    rw [e, List.length_append, List.length_cons]
    omega
theorem text_len {s : Sg} (g : s.good) : s.text.length ≤ 82 := by
  cases s with
  | name l =>
    have := (name_parts g).2.1
    show l.length ≤ 82
    omega
  | num n =>
    rw [text_num]
    have := TL.numL_len (n := n) (k := 9) (by decide) (by have : n ≤ 999999999 := g; omega)
    omega
  | quo l =>
    have h := g.2
    have := escL_len l
    show (34 :: (escL l ++ [34])).length ≤ 82
    simp
    omega
  | mark c => show 1 ≤ 82; decide
/-! ### rows of signs with gaps -/
def looseL : List (Nat × Sg) → List Nat
  | [] => []
  | (g, s) :: r => List.replicate g 32 ++ (s.text ++ looseL r)
def Apart : Bool → List (Nat × Sg) → Prop
  | _, [] => True
  | b, (g, s) :: r => (b = true → s.run = true → 1 ≤ g) ∧ Apart s.run r
theorem split_sps : ∀ (g : Nat) (r : List Nat), splitR (List.replicate g 32 ++ r) = (splitR r).shift g []
  | 0, r => by
    show splitR r = _
    cases splitR r <;> simp [Out.shift]
  | g + 1, r => by
    show splitR (32 :: (List.replicate g 32 ++ r)) = _
    rw [splitR_sp, split_sps g r, Out.shift_shift]
    simp [Nat.add_comm]
theorem hd_32 (t : List Nat) : Hd (32 :: t) := .inr ⟨32, t, rfl, by decide⟩
theorem split_loose : ∀ (rows : List (Nat × Sg)) (b : Bool) (t : List Nat), (∀ p ∈ rows, p.2.good) → Apart b rows → Hd t → splitR (looseL rows ++ t) = (splitR t).shift (looseL rows).length (rows.map (·.2))
  | [], b, t, _, _, _ => by
    show splitR t = _
    cases splitR t <;> simp [Out.shift, looseL]
  | (g, s) :: r, b, t, hg, ha, ht => by
    have gs : s.good := hg (g, s) List.mem_cons_self
    have ih := split_loose r s.run t (fun p hp => hg p (List.mem_cons_of_mem _ hp)) ha.2 ht
    have hd : s.run = true → Hd (looseL r ++ t) := fun hs => by
      cases r with
      | nil => exact ht
      | cons p r =>
        obtain ⟨g', s'⟩ := p
        show Hd ((List.replicate g' 32 ++ (s'.text ++ looseL r)) ++ t)
        cases g' with
        | zero =>
          have hr : s'.run = false := by
            cases e : s'.run with
            | false => rfl
            | true => exact absurd (ha.2.1 hs e) (by decide)
          obtain ⟨c, x, e1, _, h2⟩ := text_head (hg (0, s') (List.mem_cons_of_mem _ List.mem_cons_self))
          refine .inr ⟨c, (x ++ looseL r) ++ t, ?_, h2 hr⟩
          show (s'.text ++ looseL r) ++ t = _
          rw [e1]
          rfl
        | succ g' => exact hd_32 _
    have e : looseL ((g, s) :: r) ++ t = List.replicate g 32 ++ (s.text ++ (looseL r ++ t)) := by
      show (List.replicate g 32 ++ (s.text ++ looseL r)) ++ t = _
      rw [List.append_assoc, List.append_assoc]
    obtain ⟨c, x, e1, h1, _⟩ := text_head gs
    rw [e, split_sps, splitR_sign (by rw [e1]; simpa using h1) (readS_text gs hd), List.drop_left, ih, Out.shift_shift, Out.shift_shift]
    have el : (looseL ((g, s) :: r)).length = g + (s.text.length + (looseL r).length) := by
      show (List.replicate g 32 ++ (s.text ++ looseL r)).length = _
      simp
    rw [el, Nat.add_assoc]
    rfl
theorem loose_len : ∀ (rows : List (Nat × Sg)), (∀ p ∈ rows, p.2.good ∧ p.1 ≤ 2) → (looseL rows).length ≤ 84 * rows.length
  | [], _ => Nat.le_refl _
  | (g, s) :: r, h => by
    have h1 := h (g, s) List.mem_cons_self
    have h2 : s.text.length ≤ 82 := text_len h1.1
    have h3 : g ≤ 2 := h1.2
    have ih := loose_len r fun p hp => h p (List.mem_cons_of_mem _ hp)
    show (List.replicate g 32 ++ (s.text ++ looseL r)).length ≤ _
    simp
    omega
theorem loose_snoc : ∀ (rows : List (Nat × Sg)) (g : Nat) (s : Sg), looseL (rows ++ [(g, s)]) = looseL rows ++ (List.replicate g 32 ++ s.text)
  | [], g, s => by simp [looseL]
  | (g', s') :: r, g, s => by
    show List.replicate g' 32 ++ (s'.text ++ looseL (r ++ [(g, s)])) = _
    rw [loose_snoc r g s]
    show _ = (List.replicate g' 32 ++ (s'.text ++ looseL r)) ++ _
    simp
def lastRun : Bool → List (Nat × Sg) → Bool
  | b, [] => b
  | _, (_, s) :: r => lastRun s.run r
theorem apart_snoc : ∀ (rows : List (Nat × Sg)) (b : Bool) (g : Nat) (s : Sg), Apart b rows → (lastRun b rows = true → s.run = true → 1 ≤ g) → Apart b (rows ++ [(g, s)])
  | [], b, g, s, _, h => ⟨h, trivial⟩
  | (g', s') :: r, b, g, s, ha, h => ⟨ha.1, apart_snoc r s'.run g s ha.2 h⟩
theorem lastRun_snoc : ∀ (rows : List (Nat × Sg)) (b : Bool) (g : Nat) (s : Sg), lastRun b (rows ++ [(g, s)]) = s.run
  | [], b, g, s => rfl
  | (g', s') :: r, b, g, s => lastRun_snoc r s'.run g s
/-! ### the one written form -/
def isLeft : Sg → Bool
  | .mark c => decide (c = 40)
  | _ => false
def tight : Sg → Bool
  | .mark c => decide (c = 40) || (decide (c = 41) || decide (c = 44))
  | _ => false
def wr : Bool → List Sg → List (Nat × Sg)
  | _, [] => []
  | f, s :: r => ((if (f || tight s) = true then 0 else 1), s) :: wr (isLeft s) r
theorem wr_signs : ∀ (f : Bool) (ss : List Sg), (wr f ss).map (·.2) = ss
  | _, [] => rfl
  | f, s :: r => by
    show s :: (wr (isLeft s) r).map (·.2) = _
    rw [wr_signs]
theorem wr_apart : ∀ (f b : Bool) (ss : List Sg), (b = true → f = false) → Apart b (wr f ss)
  | _, _, [], _ => trivial
  | f, b, s :: r, h => by
    refine ⟨fun hb hs => ?_, wr_apart (isLeft s) s.run r fun hs => ?_⟩
    · rw [h hb]
      cases s with
      | name l => exact Nat.le_refl _
      | num n => exact Nat.le_refl _
      | quo l => cases hs
      | mark c => cases hs
    · cases s with
      | name l => rfl
      | num n => rfl
      | quo l => cases hs
      | mark c => cases hs
theorem wr_mem {f : Bool} {ss : List Sg} (h : ∀ s ∈ ss, s.good) : ∀ p ∈ wr f ss, p.2.good ∧ p.1 ≤ 2 := by
  induction ss generalizing f with
  | nil => exact fun p hp => by cases hp
  | cons s r ih =>
    intro p hp
    rcases List.mem_cons.mp hp with rfl | hp
    · refine ⟨h s List.mem_cons_self, ?_⟩
      show (if _ then 0 else 1) ≤ 2
      split <;> omega
    · exact ih (fun s hs => h s (List.mem_cons_of_mem _ hs)) p hp
end Rs

namespace Gd
open PySem PySem.Spec PyProof.Rows L2 GxR Gx
/-- the class of the error at C -/
structure Bad (P : Program) (w : World) (K : PySem.W.Frag) (mg : Str → Option Value) (base : Heap) (C : Addr) : Prop where
  T : OexC K C
  no : PySem.W.findIn K (.ref C) "offset" = some none
  ex : ∃ (fI : Addr) (fd : FuncData), PySem.W.findIn K (.ref C) "__init__" = some (some (.ref fI)) ∧ PySem.W.typeIn K (.ref fI) = some (.type "function") ∧ FnOk P w K mg base CX0 1 fI fd ["self", "offset"] (spInit K "offset") ∧ Binds K fd ["self", "offset"] []
  g : mg "BadSigns" = some (.ref C)
theorem ps_bad {X : Cx} {C : Addr} {k : Nat} {e : Expr} {es : List Expr} {ta : TA} {W : WX} {p pos pos2 : Pos} (B : Bad X.prog X.w X.K X.mg X.base C) (hc : X.calm = true) (tk : Takes X W) (hr : RoomG (k + 2) X.A) (hg : Gl X "BadSigns") (ha : PA X (e :: es) ta)
    (he : starEach (e :: es) X.env = (false, eval e X.env) :: starEach es X.env := by rfl) (hpl : (backTo pos (starEach es X.env)).any (·.1) = false := by rfl) :
    PS X (.Raise (some (.Call (.Name "BadSigns" p) (e :: es) [] pos)) none pos2) (fun _ σ H => tMkO C (spInit X.K "offset") [] ta σ H fun cls d H' => W cls d σ H') := by
  obtain ⟨fI, fd, iC, tI, F1, b⟩ := B.ex
  exact ps_raise hc tk (pmk_oex B.T iC tI F1 (hr.r.mono (by omega : 1 + 1 ≤ k + 2)) b .nil pass0 hg B.g ha (by decide) he hpl)
theorem CalX.mono {P : Program} {w : World} {K : PySem.W.Frag} {mg : Str → Option Value} {base : Heap} {j k : Nat} {x : Str} {ps : List Str} {sp : Sp} (c : CalX P w K mg base j x ps sp) (h : j ≤ k) : CalX P w K mg base k x ps sp :=
  let ⟨f, fd, F, r⟩ := c; ⟨f, fd, F.mono h, r⟩
end Gd
namespace Rs
open PySem PySem.Spec PyProof.Rows L2 GxR Gx Gd
abbrev s_is_of_run : Stmt := topS 36
theorem sc_is_of_run : FnScope ["char"] ["char"] (defScope s_is_of_run) := ⟨rfl, rfl, rfl, by decide +kernel, rfl, by decide +kernel, by decide +kernel⟩
abbrev s_is_number : Stmt := topS 38
theorem sc_is_number : FnScope ["run"] ["run"] (defScope s_is_number) := ⟨rfl, rfl, rfl, by decide +kernel, rfl, by decide +kernel, by decide +kernel⟩
abbrev s_meant : Stmt := topS 40
theorem sc_meant : FnScope ["piece", "start"] ["piece", "start"] (defScope s_meant) := ⟨rfl, rfl, rfl, by decide +kernel, rfl, by decide +kernel, by decide +kernel⟩
theorem chain_or {a b c : Nat} {xa xb : Str} {σ : L2.St} {H : Hp} {Q : VK} {i : Nat} {tb : TE} (ha : xa = ⟨#[a]⟩) (hb : xb = ⟨#[b]⟩) (hs : σ[i]? = some (some (.str ⟨#[c]⟩))) (q : if inRg a b c = true then Q (.bl true) H else tb σ H Q) :
    tOrV (tChain rLeS rLeS (tC (.str xa)) (tVar i) (tC (.str xb))) tb σ H Q := chain_rd ha hb hs ⟨_, rfl, q⟩
theorem one_is (c : Nat) : sx [c] = ⟨#[c]⟩ := rfl
def ErrAt (C : Addr) (n : Nat) (H : Hp) (E : XK) : Prop := ∀ d H', Kp H H' → H' d = some (.xd [("offset", .int (n : Int))]) → E (.ref C) (some d) H'
def spNum (ts : List Addr) : Sp := fun vs H Q _ => ∃ l : List Nat, vs = [.str (sx l)] ∧ l ≠ [] ∧ l.length ≤ 1000 ∧ (∀ T ∈ ts, TabG H T) ∧ ∀ H', Kp H H' → Q (.bl (isNumL l)) H'
/-- a piece of a quoted text -/
def meantL : List Nat → Option Nat
  | [c] => if c = 92 then none else if isChar c = true then some c else none
  | [92, e] => escOf e
  | _ => none
def spMeant (C : Addr) : Sp := fun vs H Q E => ∃ (p : List Nat) (n : Nat), vs = [.str (sx p), .int (n : Int)] ∧ ((∃ c, p = [c]) ∨ ∃ e, p = [92, e]) ∧ (match meantL p with
  | some m => Q (.str (sx [m])) H
  | none => ErrAt C n H E)
/-- the dict of the escapes -/
structure EscK (K : PySem.W.Frag) (w : World) (d : Addr) : Prop where
  ex : ∃ (n : Nat) (h1 h2 h3 : Int) (t1 t2 t3 u1 u2 u3 : Tok), KDict K w d #[⟨h1, .str (sx [92, 34]) t1, .str (sx [34]) u1⟩, ⟨h2, .str (sx [92, 92]) t2, .str (sx [92]) u2⟩, ⟨h3, .str (sx [92, 110]) t3, .str (sx [10]) u3⟩] n
theorem sx_beq (a b : List Nat) : (sx a == sx b) = decide (a = b) := by
  rw [Bool.eq_iff_iff, beq_iff_eq, decide_eq_true_eq]
  exact ⟨sx_inj, fun h => by rw [h]⟩
theorem EscK.look {K : PySem.W.Frag} {w : World} {d : Addr} (D : EscK K w d) (p : List Nat) : ∃ (n : Nat) (es : Array DictEntry) (r : Option Value), KDict K w d es n ∧ PySem.W.nsIn K d (sx p) = some r ∧
    (match (if p = [92, 34] then some 34 else if p = [92, 92] then some 92 else if p = [92, 110] then some 10 else none : Option Nat) with | some m => ∃ u, r = some (.str (sx [m]) u) | none => r = none) := by
  obtain ⟨n, h1, h2, h3, t1, t2, t3, u1, u2, u3, KD⟩ := D.ex
  refine ⟨n, _, (if p = [92, 34] then some (.str (sx [34]) u1) else if p = [92, 92] then some (.str (sx [92]) u2) else if p = [92, 110] then some (.str (sx [10]) u3) else none), KD, ?_, ?_⟩
  · have e : ∀ (q : List Nat) (t : Tok), (Value.str (sx q) t).isStr (sx p) = decide (q = p) := fun q t => sx_beq q p
    unfold PySem.W.nsIn
    rw [KD.at_]
    dsimp only
    by_cases c1 : p = [92, 34]
    · subst c1
      simp [List.find?_cons, e]
    · by_cases c2 : p = [92, 92]
      · subst c2
        simp [List.find?_cons, e]
      · by_cases c3 : p = [92, 110]
        · subst c3
          simp [List.find?_cons, e]
        · rw [if_neg c1, if_neg c2, if_neg c3]
          have e1 : ([92, 34] = p) = False := eq_false fun z => c1 z.symm
          have e2 : ([92, 92] = p) = False := eq_false fun z => c2 z.symm
          have e3 : ([92, 110] = p) = False := eq_false fun z => c3 z.symm
          simp only [List.find?_cons, e, e1, e2, e3, decide_false, List.find?_nil]
          rfl
  · by_cases c1 : p = [92, 34]
    · rw [if_pos c1, if_pos c1]
      exact ⟨u1, rfl⟩
    · rw [if_neg c1, if_neg c1]
      by_cases c2 : p = [92, 92]
      · rw [if_pos c2, if_pos c2]
        exact ⟨u2, rfl⟩
      · rw [if_neg c2, if_neg c2]
        by_cases c3 : p = [92, 110]
        · rw [if_pos c3, if_pos c3]
          exact ⟨u3, rfl⟩
        · rw [if_neg c3, if_neg c3]
section
variable {P : Program} {w : World} {K : PySem.W.Frag} {mg : Str → Option Value} {base : Heap}
theorem c_is_of_run (D : DefAt K mg "_is_of_run" s_is_of_run ["char"]) (c_is_digit : Cal P w K mg base CX0 1 "is_digit" ["char"] (spSign isDigit)) : Cal P w K mg base CX0 2 "_is_of_run" ["char"] (spSign isRun) := by
  refine D.cal (k := 1) sc_is_of_run (fun vs H Q E h => ?_) fun f cdv A outer s H vs Q E hr h => ?_
  · obtain ⟨c, rfl, _⟩ := h
    rfl
  · obtain ⟨c, rfl, q⟩ := h
    refine ⟨_, (pss_one (ps_ret (pe_or (pe_chain op_le_str op_le_str pe_str (pv 0) pe_str) (pe_or (pe_chain op_le_str op_le_str pe_str (pv 0) pe_str) (pe_one (pe_cal (c_is_digit.mono (by omega)) hr (by rfl) (pa_cons (pv 0) pa_nil))))))), ?_⟩
    refine chain_or (a := 97) (b := 122) (c := c) rfl rfl rfl ?_
    have q : Q (.bl (inRg 97 122 c || (inRg 65 90 c || isDigit c))) H := q
    cases e1 : inRg 97 122 c with
    | true =>
      rw [e1] at q
      exact iteT q
    | false =>
      rw [e1] at q
      refine iteF (chain_or (a := 65) (b := 90) (c := c) rfl rfl rfl ?_)
      cases e2 : inRg 65 90 c with
      | true =>
        rw [e2] at q
        exact iteT q
      | false =>
        rw [e2] at q
        exact iteF ⟨_, rfl, c, rfl, q⟩
theorem c_is_number {T : Addr} {ts : List Addr} (D : DefTab K mg base "_is_number" s_is_number ["run"] T) (gN : ∃ t, mg "NUMBER_LENGTH" = some (.int 9 t)) (m_len : mg "len" = none) (m_all : mg "all" = none) (hTs : T ∈ ts)
    (c_is_digit : Cal P w K mg base CX0 1 "is_digit" ["char"] (spSign isDigit)) : Cal P w K mg base CX0 3 "_is_number" ["run"] (spNum ts) := by
  refine D.cal (k := 2) sc_is_number (fun vs H Q E h => ?_) fun f c A outer s H vs Q E TB hr h => ?_
  · obtain ⟨c, rfl, _⟩ := h
    rfl
  · obtain ⟨l, rfl, hne, hz, hT, q⟩ := h
    obtain ⟨t, g_NUMBER_LENGTH⟩ := gN
    refine ⟨_, (pss_cons (ps_if (PW.pt (pw_or (pt_cmpR op_gt (pe_callB call_len_str (by rfl) m_len (by decide +kernel) (pa_cons (pv 0) pa_nil)) (pe_glob (v := .int 9) rfl g_NUMBER_LENGTH ⟨_, rfl⟩) (nomark _)) (pw_or1 (pt_not (pt_val (pe_allG hr.r (by rfl) m_all TB rfl (genS_by (by decide +kernel)) Caps.nil (pi_str (pv 0)) rfl (fun _ _ _ _ _ _ => pg_name (i := 0) (nd1 _) rfl (Or.inl rfl)) (fun _ _ _ _ _ _ rk => (pe_cal (c_is_digit.mono (by omega)) (RoomG.mk rk hr.g) (by rfl) (pa_cons (pv 0) pa_nil))))))))) (pss_one (ps_ret pe_bl)) pss_nil)
  (pss_one (ps_ret (pe_or (pe_cmpR op_eq (pv 0) pe_str (nomark _)) (pe_one (pe_cmpR op_ne (pe_ix ix_str (pv 0) pe_int (fun _ _ => rfl)) pe_str (nomark _))))))), ?_⟩
    refine ⟨_, rfl, sx l, rfl, by rw [sx_len]; exact line1000 hz, _, 9, rfl, rfl, _, rfl, ?_⟩
    rw [sx_len]
    have e0 : isNumL l = (decide (l.length ≤ 9) && (l.all isDigit && (decide (l = [48]) || !decide (l.head? = some 48)))) := rfl
    by_cases h9 : l.length ≤ 9
    · rw [decide_eq_false (by omega : ¬ (9 : Int) < (l.length : Int))]
      refine iteF ?_
      rw [decide_eq_true h9, Bool.true_and] at e0
      dsimp only [tNot, tB]
      refine rd_all_str (i := 0) (p := isDigit) rfl (hT T hTs) (fun d _ H' Q' q' => ⟨_, rfl, d, rfl, q'⟩) fun H2 k2 => ⟨_, rfl, ?_⟩
      rw [sx_tl]
      cases ea : l.all isDigit with
      | false =>
        rw [ea] at e0
        refine iteT ?_
        have z := q H2 k2
        rw [e0] at z
        exact z
      | true =>
        rw [ea, Bool.true_and] at e0
        refine iteF ⟨_, rfl, rfl, _, rfl, ?_⟩
        have e1 : decide (V.str (sx l) = V.str (Str.ofString "0")) = decide (l = [48]) := by
          rw [Bool.eq_iff_iff, decide_eq_true_eq, decide_eq_true_eq]
          constructor
          · intro z
            exact sx_inj ((V.str.inj z).trans (by decide +kernel : Str.ofString "0" = sx [48]))
          · intro z
            rw [z]
            exact congrArg V.str (by decide +kernel : sx [48] = Str.ofString "0")
        rw [e1]
        have z := q H2 k2
        rw [e0] at z
        cases ez : decide (l = [48]) with
        | true =>
          rw [ez] at z
          exact iteT z
        | false =>
          rw [ez] at z
          obtain ⟨d, r, rfl⟩ : ∃ d r, l = d :: r := by
            cases l with
            | nil => exact absurd rfl hne
            | cons d r => exact ⟨d, r, rfl⟩
          refine iteF ⟨_, rfl, sx (d :: r), 0, d, rfl, rfl, by rw [sx_len]; exact line1000 hz, by rw [sx_tl]; exact atI_nat (j := 0) rfl, rfl, ?_⟩
          have e2 : (!decide (V.str ⟨#[d]⟩ = V.str (Str.ofString "0"))) = !decide ((d :: r).head? = some 48) := by
            congr 1
            rw [Bool.eq_iff_iff, decide_eq_true_eq, decide_eq_true_eq]
            constructor
            · intro z
              have := sx_inj (a := [d]) (b := [48]) ((V.str.inj z).trans (by decide +kernel : Str.ofString "0" = sx [48]))
              simpa using this
            · intro z
              have z : d = 48 := by simpa using z
              rw [z]
              exact congrArg V.str (by decide +kernel : (⟨#[48]⟩ : Str) = Str.ofString "0")
          rw [e2]
          exact z
    · rw [decide_eq_true (by omega : (9 : Int) < (l.length : Int))]
      refine iteT ?_
      have z := q H (Kb.refl H)
      rw [e0, decide_eq_false h9] at z
      exact z
theorem eq_sign (c d : Nat) {x : Str} (hx : x = sx [d]) : decide (V.str ⟨#[c]⟩ = V.str x) = decide (c = d) := by
  subst hx
  rw [Bool.eq_iff_iff, decide_eq_true_eq, decide_eq_true_eq]
  constructor
  · intro z
    have := sx_inj (a := [c]) (b := [d]) (V.str.inj z)
    simpa using this
  · intro z
    rw [z]
    rfl
theorem c_meant {C aE : Addr} (D : DefAt K mg "_meant" s_meant ["piece", "start"]) (BD : Bad P w K mg base C) (EK : EscK K w aE) (g_ESCAPES : mg "ESCAPES" = some (.ref aE)) (gB : ∃ t, mg "BACKSLASH" = some (.str (Str.ofString "\\") t))
    (c_is_character : Cal P w K mg base CX0 1 "is_character" ["char"] (spSign isChar)) : CalX P w K mg base 3 "_meant" ["piece", "start"] (spMeant C) := by
  refine D.calX (k := 2) sc_meant (fun vs H Q E h => ?_) fun f cdv A outer s H vs Q E hr h => ?_
  · obtain ⟨c, n, rfl, _⟩ := h
    rfl
  · obtain ⟨p, n, rfl, hp, h⟩ := h
    obtain ⟨t, g_BACKSLASH⟩ := gB
    obtain ⟨_, _, _, KD, e0, hm⟩ := EK.look p
    refine ⟨_, (pss_cons (ps_if (pt_cmpR (op_in_kd KD) (pv 0) (pe_glob (v := .ref aE) rfl g_ESCAPES rfl) (by rfl)) (pss_one (ps_ret (pe_ix ix_kdict (pe_glob (v := .ref aE) rfl g_ESCAPES rfl) (pv 0) (fun _ _ => rfl)))) pss_nil)
  (pss_cons (ps_if (PW.pt (pw_or (pt_cmpR op_eq (pe_ix ix_str (pv 0) pe_int (fun _ _ => rfl)) (pe_glob (v := .str (Str.ofString "\\")) rfl g_BACKSLASH ⟨_, rfl⟩) (nomark _)) (pw_or1 (pt_not (pt_val (pe_cal (c_is_character.mono (by omega)) hr (by rfl) (pa_cons (pv 0) pa_nil))))))) (pss_one (ps_bad BD rfl (takes_of rfl rfl rfl rfl) hr (by rfl) (pa_cons (pv 1) pa_nil))) pss_nil)
  (pss_one (ps_ret (pv 0))))), ?_⟩
    refine ⟨_, rfl, sx p, _, rfl, rfl, e0, _, rfl, ?_⟩
    have raise : ∀ H' : Hp, H' = H → ErrAt C n H E → tMkO C (spInit K "offset") [] (tCons (tVar 1) tNil) (start ["piece", "start"] [.str (sx p), .int (n : Int)]) H' fun cls d H'' => E cls d H'' := fun H' e h => by
      subst e
      exact rd_raise BD.T BD.no (i := 1) rfl h
    have hB : Str.ofString "\\" = sx [92] := by decide +kernel
    rcases hp with ⟨c, rfl⟩ | ⟨e, rfl⟩
    · rw [if_neg (by simp), if_neg (by simp), if_neg (by simp)] at hm
      subst hm
      refine iteF ⟨_, rfl, sx [c], 0, c, rfl, rfl, by rw [sx_len]; show 1 ≤ sizeLine; decide, by rw [sx_tl]; exact atI_nat (j := 0) rfl, rfl, _, rfl, ?_⟩
      rw [eq_sign c 92 hB]
      by_cases h92 : c = 92
      · subst h92
        exact iteT (iteT (raise _ rfl h))
      · rw [decide_eq_false h92]
        have em : meantL [c] = if isChar c = true then some c else none := if_neg h92
        rw [em] at h
        refine iteF ⟨_, rfl, c, rfl, isChar c, rfl, ?_⟩
        cases ec : isChar c with
        | true =>
          rw [ec] at h
          exact iteF ⟨_, rfl, h⟩
        | false =>
          rw [ec] at h
          exact iteT (raise _ rfl h)
    · have em : (if [92, e] = [92, 34] then some 34 else if [92, e] = [92, 92] then some 92 else if [92, e] = [92, 110] then some 10 else none : Option Nat) = escOf e := by
        unfold escOf
        simp
      rw [em] at hm
      have em2 : meantL [92, e] = escOf e := rfl
      rw [em2] at h
      cases ee : escOf e with
      | none =>
        rw [ee] at hm h
        have hm : _ = none := hm
        subst hm
        refine iteF ⟨_, rfl, sx [92, e], 0, 92, rfl, rfl, by rw [sx_len]; show 2 ≤ sizeLine; decide, by rw [sx_tl]; exact atI_nat (j := 0) rfl, rfl, _, rfl, ?_⟩
        rw [eq_sign 92 92 hB]
        exact iteT (iteT (raise _ rfl h))
      | some m =>
        rw [ee] at hm h
        obtain ⟨u, hm⟩ := hm
        subst hm
        exact iteT ⟨_, rfl, aE, sx [92, e], .str (sx [m]), rfl, rfl, ⟨_, _, _, KD.at_, KD.lit, e0, ⟨u, rfl⟩⟩, h⟩
end
end Rs

namespace Rs
open PySem PySem.Spec PyProof.Rows L2 GxR Gx Gd
abbrev s_read_quoted : Stmt := topS 39
theorem sc_read_quoted : FnScope ["line", "start", "parts", "at", "width"] ["line", "start"] (defScope s_read_quoted) := ⟨rfl, rfl, rfl, by decide +kernel, rfl, by decide +kernel, by decide +kernel⟩
abbrev s_read_run : Stmt := topS 37
theorem sc_read_run : FnScope ["line", "start", "end", "run"] ["line", "start"] (defScope s_read_run) := ⟨rfl, rfl, rfl, by decide +kernel, rfl, by decide +kernel, by decide +kernel⟩
abbrev s_read_sign : Stmt := topS 35
theorem sc_read_sign : FnScope ["line", "start", "char"] ["line", "start"] (defScope s_read_sign) := ⟨rfl, rfl, rfl, by decide +kernel, rfl, by decide +kernel, by decide +kernel⟩
abbrev s_split_line : Stmt := topS 32
theorem sc_split_line : FnScope ["line", "signs", "at", "sign"] ["line"] (defScope s_split_line) := ⟨rfl, rfl, rfl, by decide +kernel, rfl, by decide +kernel, by decide +kernel⟩
/-- a sign and where it ends, or the error -/
def RdS (K : PySem.W.Frag) (C : Addr) (n : Nat) (H : Hp) (Q : VK) (E : XK) : Option (Sg × Nat) → Prop
  | none => ErrAt C n H E
  | some (g, w) => ∀ H' v, Kp H H' → Dt K H' v (.tuple [g.d, .int ((n + w : Nat) : Int)]) → Q v H'
theorem ErrAt.kp {C : Addr} {n : Nat} {H H' : Hp} {E : XK} (h : ErrAt C n H E) (k : Kp H H') : ErrAt C n H' E := fun d H2 k2 e => h d H2 (k.trans k2) e
theorem RdS.kp {K : PySem.W.Frag} {C : Addr} {n : Nat} {H H' : Hp} {Q : VK} {E : XK} : ∀ {o : Option (Sg × Nat)}, RdS K C n H Q E o → Kp H H' → RdS K C n H' Q E o
  | none, h, k => ErrAt.kp h k
  | some (g, w), h, k => fun H2 v k2 hv => h H2 v (k.trans k2) hv
def readQ' : List Nat → Option (Sg × Nat)
  | [] => none
  | _ :: r => (readQ r).map fun p => (.quo p.1, p.2 + 1)
def readR (l : List Nat) : Option (Sg × Nat) := if isNameL (runOf l) = true then some (.name (runOf l), (runOf l).length) else if isNumL (runOf l) = true then some (.num (NumText.digitsVal (runOf l)), (runOf l).length) else none
def spRead (K : PySem.W.Frag) (C : Addr) (ts : List Addr) (pre : List Nat → Prop) (f : List Nat → Option (Sg × Nat)) : Sp := fun vs H Q E => ∃ (l : List Nat) (n : Nat), vs = [.str (sx l), .int (n : Int)] ∧ n < l.length ∧ l.length ≤ 1000 ∧ (∀ T ∈ ts, TabG H T) ∧ pre (l.drop n) ∧ RdS K C n H Q E (f (l.drop n))
theorem drop_cons {l : List Nat} {n : Nat} (h : n < l.length) : ∃ c, l[n]? = some c ∧ l.drop n = c :: l.drop (n + 1) := ⟨l[n], List.getElem?_eq_getElem h, List.drop_eq_getElem_cons h⟩
theorem at_sx {l : List Nat} {n : Nat} {c : Nat} (h : l[n]? = some c) : atI (sx l).cps.toList (n : Int) = some c := by
  rw [sx_tl]
  exact atI_nat h
theorem cut_sx {l : List Nat} {a b : Nat} (h1 : a ≤ b) (h2 : b ≤ l.length) : cutS (sx l) (some (a : Int)) (some (b : Int)) = sx ((l.drop a).take (b - a)) := by
  unfold cutS
  rw [sx_len, HT.sIx_nat, HT.sIx_nat, sx_tl, Nat.min_eq_left (Nat.le_trans h1 h2), Nat.min_eq_left h2]
  rfl
theorem cut_k {l : List Nat} {a k : Nat} (h : a ≤ l.length) : cutS (sx l) (some (a : Int)) (some ((a : Int) + (k : Int))) = sx ((l.drop a).take k) := by
  unfold cutS
  have e : ((a : Int) + (k : Int)) = ((a + k : Nat) : Int) := rfl
  rw [sx_len, e, HT.sIx_nat, HT.sIx_nat, sx_tl, Nat.min_eq_left h]
  unfold sx
  congr 1
  congr 1
  rw [List.take_eq_take_iff, List.length_drop]
  omega
theorem join_sx (cs : List Nat) : Txt.join (Str.ofString "") (cs.map fun c => sx [c]) = sx cs := by
  refine TL.ext_tl ?_
  have e : TL.tl (Str.ofString "") = [] := by decide +kernel
  rw [TL.join_eq, TL.tl_join, e]
  have j : ∀ l : List (List Nat), TL.joinL [] l = l.flatten := by
    intro l
    induction l with
    | nil => rfl
    | cons p l ih =>
      cases l with
      | nil => simp [TL.joinL]
      | cons q r =>
        show p ++ ([] ++ TL.joinL [] (q :: r)) = _
        rw [ih]
        rfl
  rw [j]
  show _ = (sx cs).cps.toList
  rw [sx_tl, List.map_map]
  induction cs with
  | nil => rfl
  | cons c cs ih =>
    rw [List.map_cons, List.flatten_cons, ih]
    rfl
theorem sum_sx (cs : List Nat) : ((cs.map fun c => sx [c]).map (·.length)).sum = cs.length := by
  induction cs with
  | nil => rfl
  | cons c cs ih =>
    rw [List.map_cons, List.map_cons, List.sum_cons, ih, List.length_cons]
    show 1 + _ = _
    omega
theorem sl_ok {n : Nat} (h : n ≤ 1000) : n ≤ sizeLine := line1000 h
/-- the quoted text so far: parts at D, the rest at n -/
def Qs (K : PySem.W.Frag) (H0 : Hp) (D : Addr) (l : List Nat) (s n : Nat) (H : Hp) : Prop := ∃ ps : List Nat, n ≤ l.length ∧ s + 1 ≤ n ∧ ps.length ≤ n ∧ Kp H0 H ∧ H D = some (.lst ((ps.map fun c => sx [c]).map V.str)) ∧ readQ (l.drop (s + 1)) = (readQ (l.drop n)).map fun p => (ps ++ p.1, (n - (s + 1)) + p.2)
theorem Qs.push {K : PySem.W.Frag} {H0 H : Hp} {D : Addr} {l ps : List Nat} {s n w m : Nat} (hD : H0 D = none) (h1 : n + w ≤ l.length) (h2 : s + 1 ≤ n) (h3 : ps.length ≤ n) (hw : 1 ≤ w) (k : Kp H0 H) (e : H D = some (.lst ((ps.map fun c => sx [c]).map V.str)))
    (q : readQ (l.drop (s + 1)) = (readQ (l.drop n)).map fun p => (ps ++ p.1, (n - (s + 1)) + p.2)) (r : readQ (l.drop n) = (readQ (l.drop (n + w))).map fun p => (m :: p.1, p.2 + w)) :
    Qs K H0 D l s (n + w) (upd H D (.lst (((ps.map fun c => sx [c]).map V.str) ++ [.str (sx [m])]))) := by
  refine ⟨ps ++ [m], h1, by omega, by simp; omega, k.mut hD (no_tab e nt_lst), ?_, ?_⟩
  · rw [upd_same, List.map_append, List.map_append]
    rfl
  · rw [q, r]
    cases readQ (l.drop (n + w)) with
    | none => rfl
    | some p =>
      show some (ps ++ (m :: p.1), (n - (s + 1)) + (p.2 + w)) = some ((ps ++ [m]) ++ p.1, (n + w - (s + 1)) + p.2)
      rw [List.append_assoc, show (n - (s + 1)) + (p.2 + w) = (n + w - (s + 1)) + p.2 by omega]
      rfl
theorem readQ_nil : readQ [] = none := rfl
theorem readQ_end (r : List Nat) : readQ (34 :: r) = some ([], 1) := by cases r <;> rfl
theorem readQ_bs (r : List Nat) : readQ (92 :: r) = match r with | [] => none | e :: r' => (match escOf e with | some m => (readQ r').map fun p => (m :: p.1, p.2 + 2) | none => none) := by
  cases r with
  | nil => rfl
  | cons e r' => rfl
theorem readQ_ch {c : Nat} (h1 : c ≠ 34) (h2 : c ≠ 92) (r : List Nat) : readQ (c :: r) = if isChar c = true then (readQ r).map fun p => (c :: p.1, p.2 + 1) else none := by
  cases r with
  | nil =>
    unfold readQ
    rw [if_neg h1]
    split <;> rfl
  | cons e r' =>
    show (if c = 34 then _ else if c = 92 then _ else if isChar c = true then _ else _) = _
    rw [if_neg h1, if_neg h2]
section
variable {P : Program} {w : World} {K : PySem.W.Frag} {mg : Str → Option Value} {base : Heap}
theorem c_read_quoted {C : Addr} (D : DefAt K mg "_read_quoted" s_read_quoted ["line", "start"]) (BD : Bad P w K mg base C) (gQ : ∃ t, mg "QUOTE" = some (.str (Str.ofString "\"") t)) (gB : ∃ t, mg "BACKSLASH" = some (.str (Str.ofString "\\") t)) (m_len : mg "len" = none)
    (c__meant : CalX P w K mg base 3 "_meant" ["piece", "start"] (spMeant C)) : CalX P w K mg base 4 "_read_quoted" ["line", "start"] (spRead K C [] (fun _ => True) readQ') := by
  refine D.calX (k := 3) sc_read_quoted (fun vs H Q E h => ?_) fun f cdv A outer s H vs Q E hr h => ?_
  · obtain ⟨c, n, rfl, _⟩ := h
    rfl
  · obtain ⟨l, n, rfl, hn, hz, _, _, h⟩ := h
    obtain ⟨tq, g_QUOTE⟩ := gQ
    obtain ⟨tb, g_BACKSLASH⟩ := gB
    have hB : Str.ofString "\\" = sx [92] := by decide +kernel
    have hQ : Str.ofString "\"" = sx [34] := by decide +kernel
    have lz : (sx l).length ≤ sizeLine := by rw [sx_len]; exact sl_ok hz
    refine ⟨_, (pss_cons (ps_set (i := 2) sc_read_quoted.nd rfl (Or.inl rfl) (pe_lst pa_nil))
  (pss_cons (ps_set (i := 3) sc_read_quoted.nd rfl (Or.inl rfl) (pe_op op_add (pv 1) pe_int))
  (pss_cons (ps_while (passes_of rfl) (PW.pt (pw_and (pt_cmpR op_lt (pv 3) (pe_callB call_len_str (by rfl) m_len (by decide +kernel) (pa_cons (pv 0) pa_nil)) (nomark _)) (pw_and1 (pt_cmpR op_ne (pe_ix ix_str (pv 0) (pv 3) (fun _ _ => rfl)) (pe_glob (v := .str (Str.ofString "\"")) rfl g_QUOTE ⟨_, rfl⟩) (nomark _))))) (pss_cons (ps_set (i := 4) sc_read_quoted.nd rfl (Or.inl rfl) (pe_ifExp (pt_cmpR op_eq (pe_ix ix_str (pv 0) (pv 3) (fun _ _ => rfl)) (pe_glob (v := .str (Str.ofString "\\")) rfl g_BACKSLASH ⟨_, rfl⟩) (nomark _)) pe_int pe_int))
  (pss_cons (ps_expr (pe_bm PySem.F.plainAttrs_list PySem.F.slot_list_append PySem.F.type_list_append mt_append (pv 2) (pa_cons (pe_calX (c__meant.mono (by omega)) hr (by rfl) (fun σ => passAt (takes_of rfl rfl rfl rfl) σ) (pa_cons (pe_slice sl_str (pv 0) (po_some (pv 3)) (po_some (pe_op op_add (pv 3) (pv 4)))) (pa_cons (pv 1) pa_nil))) pa_nil)))
  (pss_one (ps_aug (i := 3) sc_read_quoted.nd rfl (Or.inl rfl) (pv 4) ip_add)))))
  (pss_cons (ps_if (pt_cmpR op_eq (pv 3) (pe_callB call_len_str (by rfl) m_len (by decide +kernel) (pa_cons (pv 0) pa_nil)) (nomark _)) (pss_one (ps_bad BD rfl (takes_of rfl rfl rfl rfl) hr (by rfl) (pa_cons (pv 1) pa_nil))) pss_nil)
  (pss_one (ps_ret (pe_tup (pa_cons (pe_tup (pa_cons pe_str (pa_cons (pe_join pe_str (pv 2)) pa_nil))) (pa_cons (pe_op op_add (pv 3) pe_int) pa_nil))))))))), ?_⟩
    refine ⟨Nat.zero_le _, fun D hD => ⟨_, rfl, _, _, rfl, rfl, ?_⟩⟩
    obtain ⟨c0, e0, e1⟩ := drop_cons hn
    have eR : readQ' (l.drop n) = (readQ (l.drop (n + 1))).map fun p => (.quo p.1, p.2 + 1) := by rw [e1]; rfl
    rw [eR] at h
    refine ⟨fun m σ H' => ∃ a : Nat, m = l.length - a ∧ (∃ o4, σ = [some (.str (sx l)), some (.int (n : Int)), some (.ref D), some (.int (a : Int)), o4]) ∧ Qs K H D l n a H', ⟨_, n + 1, rfl, ⟨none, rfl⟩, [], by omega, by omega, by simp, Kb.new hD, upd_same, ?_⟩, ?_⟩
    · cases readQ (l.drop (n + 1)) with
      | none => rfl
      | some p => simp
    rintro m σ H1 ⟨a, rfl, ⟨o4, rfl⟩, hq⟩
    obtain ⟨ps, q1, q2, q3, k, eD, qr⟩ := id hq
    have lps : ((ps.map fun c => sx [c]).map V.str).length < sizeLine := by
      rw [List.length_map, List.length_map]
      have : sizeLine = 16777216 := rfl
      omega
    refine ⟨_, rfl, _, rfl, sx l, rfl, lz, _, _, rfl, rfl, _, rfl, ?_⟩
    rw [sx_len]
    by_cases ha : a < l.length
    · rw [decide_eq_true (by omega : (a : Int) < (l.length : Int))]
      obtain ⟨c, hc, ed⟩ := drop_cons ha
      refine iteT ⟨_, rfl, _, rfl, sx l, _, c, rfl, rfl, lz, at_sx hc, rfl, _, rfl, ?_⟩
      rw [eq_sign c 34 hQ]
      by_cases c34 : c = 34
      · subst c34
        refine iteF ⟨_, rfl, _, rfl, sx l, rfl, lz, rfl, _, rfl, ?_⟩
        rw [sx_len, decide_eq_false (fun z => by have := V.int.inj z; omega)]
        refine iteF ?_
        rw [ed, readQ_end] at qr
        rw [qr] at h
        refine ⟨⟨_, rfl⟩, _, rfl, _, D, ps.map fun c => sx [c], rfl, rfl, .inl (.inl (.inl eD)), ?_, ?_⟩
        · rw [sum_sx]
          show ps.length + _ * 0 ≤ _
          omega
        rw [join_sx]
        refine ⟨by show 2 ≤ sizeLine; decide, fun p hp => ⟨_, rfl, _, _, rfl, rfl, by show 2 ≤ sizeLine; decide, fun p2 hp2 => ?_⟩⟩
        have k1 : Kp H1 (upd H1 p (.tup [.str (Str.ofString "quoted"), .str (sx ps)])) := Kb.new hp
        have d1 : Dt K (upd H1 p (.tup [.str (Str.ofString "quoted"), .str (sx ps)])) (.ref p) (Sg.quo ps).d := .tup (SqT.of upd_same) (.cons (.str _) (.cons (.str _) .nil))
        generalize upd H1 p (.tup [.str (Str.ofString "quoted"), .str (sx ps)]) = H2 at k1 d1 hp2 ⊢
        have k2 : Kp H2 (upd H2 p2 (.tup [.ref p, .int ((a : Int) + 1)])) := Kb.new hp2
        refine h _ _ ((k.trans k1).trans k2) ?_
        have e1 : (n + ((a - (n + 1)) + 1 + 1) : Nat) = a + 1 := by omega
        have e2 : ps ++ [] = ps := List.append_nil ps
        show Dt K _ _ (.tuple [(Sg.quo (ps ++ [])).d, .int (((n + ((a - (n + 1)) + 1 + 1) : Nat)) : Int)])
        rw [e1, e2]
        exact .tup (SqT.of upd_same) (.cons (d1.kb k2 Lsts.nil) (.cons (.int _) .nil))
      · rw [decide_eq_false c34]
        refine iteT ⟨fun σ' H' => ∃ a' : Nat, a < a' ∧ (∃ o4, σ' = [some (.str (sx l)), some (.int (n : Int)), some (.ref D), some (.int (a' : Int)), o4]) ∧ Qs K H D l n a' H', fun σ' H' ⟨a', h1, h2, h3⟩ => ⟨_, by omega, a', rfl, h2, h3⟩, ?_⟩
        have err : readQ (l.drop a) = none → ErrAt C n H1 E := fun z => by
          rw [qr, z] at h
          exact ErrAt.kp h k
        refine ⟨_, rfl, _, rfl, sx l, _, c, rfl, rfl, lz, at_sx hc, rfl, _, rfl, ?_⟩
        rw [eq_sign c 92 hB]
        by_cases c92 : c = 92
        · subst c92
          refine iteT ⟨.ref D, rfl, .inl ⟨rfl, _, .inl (.inl eD)⟩, _, rfl, _, rfl, _, rfl, _, rfl, _, rfl, _, _, rfl, rfl, _, rfl, sx l, rfl, lz, _, rfl, (l.drop a).take 2, n, ?_, ?_, ?_⟩
          · show [V.str (cutS (sx l) (some (a : Int)) (some ((a : Int) + ((2 : Nat) : Int)))), _] = _
            rw [cut_k q1]
          · rw [ed]
            cases l.drop (a + 1) with
            | nil => exact .inl ⟨92, rfl⟩
            | cons e r => exact .inr ⟨e, rfl⟩
          · have eQ : readQ (l.drop a) = _ := (congrArg readQ ed).trans (readQ_bs _)
            rw [ed]
            cases er : l.drop (a + 1) with
            | nil =>
              rw [er] at eQ
              exact err eQ
            | cons e r =>
              rw [er] at eQ
              have eQ : readQ (l.drop a) = match escOf e with | some m => (readQ r).map fun p => (m :: p.1, p.2 + 2) | none => none := eQ
              show (match escOf e with | some m => _ | none => _)
              cases ee : escOf e with
              | none =>
                rw [ee] at eQ
                exact err eQ
              | some m =>
                rw [ee] at eQ
                have e2 : l.drop (a + 2) = r := by
                  have := congrArg (List.drop 1) er
                  rw [List.drop_drop] at this
                  exact this
                have hl2 : a + 2 ≤ l.length := by
                  have := congrArg List.length er
                  rw [List.length_drop, List.length_cons] at this
                  omega
                refine ⟨D, _, .str (sx [m]), rfl, rfl, eD, lps, _, rfl, _, rfl, _, _, rfl, rfl, a + 2, by omega, ⟨_, rfl⟩, ?_⟩
                exact Qs.push hD hl2 q2 q3 (by decide) k eD qr (by rw [e2]; exact eQ)
        · rw [decide_eq_false c92]
          refine iteF ⟨.ref D, rfl, .inl ⟨rfl, _, .inl (.inl eD)⟩, _, rfl, _, rfl, _, rfl, _, rfl, _, rfl, _, _, rfl, rfl, _, rfl, sx l, rfl, lz, _, rfl, [c], n, ?_, .inl ⟨c, rfl⟩, ?_⟩
          · show [V.str (cutS (sx l) (some (a : Int)) (some ((a : Int) + ((1 : Nat) : Int)))), _] = _
            rw [cut_k q1, ed]
            rfl
          · have eQ : readQ (l.drop a) = _ := (congrArg readQ ed).trans (readQ_ch c34 c92 _)
            have em : meantL [c] = if isChar c = true then some c else none := if_neg c92
            rw [em]
            cases ec : isChar c with
            | false =>
              rw [ec] at eQ
              exact err eQ
            | true =>
              rw [ec] at eQ
              refine ⟨D, _, .str (sx [c]), rfl, rfl, eD, lps, _, rfl, _, rfl, _, _, rfl, rfl, a + 1, by omega, ⟨_, rfl⟩, ?_⟩
              exact Qs.push hD (by omega) q2 q3 (by decide) k eD qr eQ
    · have ea : a = l.length := by omega
      rw [decide_eq_false (by omega : ¬ (a : Int) < (l.length : Int))]
      refine iteF ⟨_, rfl, _, rfl, sx l, rfl, lz, rfl, _, rfl, ?_⟩
      rw [sx_len, ea, decide_eq_true rfl]
      rw [ea, List.drop_length, readQ_nil] at qr
      rw [qr] at h
      exact iteT (rd_raise BD.T BD.no (i := 1) rfl (ErrAt.kp h k))
end
end Rs

namespace Rs
open PySem PySem.Spec PyProof.Rows L2 GxR Gx Gd
theorem run_cut {L : List Nat} {k : Nat} (h : (L.take k).all isRun = true) (ht : Hd (L.drop k)) : runOf L = L.take k := by
  have := run_app h ht
  rw [List.take_append_drop] at this
  exact this
theorem run_ok {l : List Nat} (h : l.all isRun = true) (hz : l.length ≤ 1000) : OkD (.str (sx l)) := by
  refine ⟨1, by decide, ?_⟩
  have e : (decide ((sx l).length ≤ 1000) && PyData.strOk (sx l)) = true := by
    rw [sx_len, decide_eq_true hz, Bool.true_and]
    show (sx l).cps.all _ = true
    rw [← Array.all_toList, sx_tl, List.all_eq_true]
    intro c hc
    have h1 := List.all_eq_true.mp h c hc
    unfold isRun isSmall isDigit at h1
    rw [Bool.or_eq_true, Bool.or_eq_true, rg, rg, rg] at h1
    rw [decide_eq_true_eq]
    omega
  exact e
theorem num_val {l : List Nat} (h : isNumL l = true) (hne : l ≠ []) : intText? (sx l) = some ((NumText.digitsVal l : Nat) : Int) ∧ (sx l).length ≤ 640 := by
  unfold isNumL at h
  rw [Bool.and_eq_true, decide_eq_true_eq, Bool.and_eq_true] at h
  have hd : NumText.AllDigits l := fun c hc => rg.mp (List.all_eq_true.mp h.2.1 c hc)
  refine ⟨?_, by rw [sx_len]; omega⟩
  have := PySem.intText_digits (x := sx l) (by rw [sx_tl]; exact hd) (by rw [sx_tl]; exact hne) (by rw [sx_len]; omega)
  rw [sx_tl] at this
  exact this
def marksV : List V := [.str (Str.ofString "("), .str (Str.ofString ")"), .str (Str.ofString ","), .str (Str.ofString "=")]
theorem in_marks (c : Nat) : inV (.str ⟨#[c]⟩) marksV = isMark c := by
  have e : ∀ (d : Nat) (x : Str), x = sx [d] → eqV (.str x) (.str ⟨#[c]⟩) = decide (c = d) := fun d x hx => by
    subst hx
    show (sx [d] == sx [c]) = _
    rw [sx_beq, Bool.eq_iff_iff, decide_eq_true_eq, decide_eq_true_eq]
    simp [eq_comm]
  show (eqV _ _ || (eqV _ _ || (eqV _ _ || (eqV _ _ || false)))) = _
  rw [e 40 _ (by decide +kernel), e 41 _ (by decide +kernel), e 44 _ (by decide +kernel), e 61 _ (by decide +kernel), Bool.or_false]
  rfl
/-- a pair that is made -/
theorem mk_pair {K : PySem.W.Frag} {H : Hp} {Q : VK} {v : V} {x : Str} {z : Int} {d : PyData} (hd : Dt K H v d) (q : ∀ H' u, Kp H H' → Dt K H' u (.tuple [.tuple [.str x, d], .int z]) → Q u H') :
    2 ≤ sizeLine ∧ ∀ p, H p = none → ∀ p2, upd H p (.tup [.str x, v]) p2 = none → Q (.ref p2) (upd (upd H p (.tup [.str x, v])) p2 (.tup [.ref p, .int z])) := by
  refine ⟨by decide, fun p hp p2 hp2 => ?_⟩
  have k1 : Kp H (upd H p (.tup [.str x, v])) := Kb.new hp
  have d1 : Dt K (upd H p (.tup [.str x, v])) (.ref p) (.tuple [.str x, d]) := .tup (SqT.of upd_same) (.cons (.str _) (.cons (hd.kb k1 Lsts.nil) .nil))
  generalize upd H p (.tup [.str x, v]) = H2 at k1 d1 hp2 ⊢
  have k2 : Kp H2 (upd H2 p2 (.tup [.ref p, .int z])) := Kb.new hp2
  exact q _ _ (k1.trans k2) (.tup (SqT.of upd_same) (.cons (d1.kb k2 Lsts.nil) (.cons (.int _) .nil)))
theorem mk_made {K : PySem.W.Frag} {H : Hp} {Q : VK} {v : V} {x : Str} {d : PyData} {σ : L2.St} {t : TA} {z : Int} (hd : Dt K H v d) (q : ∀ H' u, Kp H H' → Dt K H' u (.tuple [.tuple [.str x, d], .int z]) → Q u H') (ht : ∀ (H' : Hp) (R : List V → Hp → Prop) (_ : R [.int z] H'), t σ H' R := by intro _ _ h; exact ⟨_, rfl, _, _, rfl, rfl, h⟩)
    {te : TE} (he : ∀ (H' : Hp) (R : VK), R v H' → te σ H' R := by intro _ _ h; exact ⟨_, rfl, h⟩) : tTup (tCons (tTup (tCons (tC (.str x)) (tCons te tNil))) t) σ H Q := by
  obtain ⟨z1, z2⟩ := mk_pair hd q
  exact he H _ ⟨z1, fun p hp => ht _ _ ⟨z1, z2 p hp⟩⟩
def tRunEnd (K : PySem.W.Frag) (C : Addr) (ts : List Addr) (E : XK) : TS :=
  tSeq (tAsg (tSl rSlS (tVar 0) (tPart (tVar 1)) (tPart (tVar 2))) (gName 3))
    (tSeq (tIfS (tB (tCall (spData K ts isName) [] E0 (tCons (tVar 3) tNil))) (tRet (tTup (tCons (tTup (tCons (tC (.str (Str.ofString "name"))) (tCons (tVar 3) tNil))) (tCons (tVar 2) tNil)))) tNext)
      (tSeq (tIfS (tB (tCall (spNum ts) [] E0 (tCons (tVar 3) tNil))) (tRet (tTup (tCons (tTup (tCons (tC (.str (Str.ofString "number"))) (tCons (tCB (fun xs H Q => ∃ a n, xs = [.str a] ∧ intText? a = some n ∧ a.length ≤ 640 ∧ Q (.int n) H) (tCons (tVar 3) tNil)) tNil))) (tCons (tVar 2) tNil)))) tNext)
        fun _ σ H => tMkO C (spInit K (Str.ofString "offset")) [] (tCons (tVar 1) tNil) σ H fun cls d H' => E cls d H'))
theorem run_end {K : PySem.W.Frag} {C : Addr} {ts : List Addr} {E : XK} {D : Ends} {H : Hp} {l : List Nat} {n a : Nat} {o3 : Option V} (T : OexC K C) (no : PySem.W.findIn K (.ref C) "offset" = some none) (hz : l.length ≤ 1000) (hT : ∀ T ∈ ts, TabG H T) (h1 : n ≤ a) (h2 : a ≤ l.length)
    (rne : runOf (l.drop n) ≠ []) (e : (l.drop n).take (a - n) = runOf (l.drop n)) (el : (runOf (l.drop n)).length = a - n) (hr : (runOf (l.drop n)).all isRun = true) (h : RdS K C n H D.rt E (readR (l.drop n))) :
    tRunEnd K C ts E D [some (.str (sx l)), some (.int (n : Int)), some (.int (a : Int)), o3] H := by
  have lz : (sx l).length ≤ sizeLine := by rw [sx_len]; exact sl_ok hz
  refine ⟨_, rfl, _, rfl, _, rfl, _, rfl, _, rfl, sx l, rfl, lz, ?_⟩
  rw [cut_sx h1 h2, e]
  unfold readR at h
  have rz : (runOf (l.drop n)).length ≤ 1000 := by omega
  have ew : n + (runOf (l.drop n)).length = a := by omega
  rw [ew.symm] at *
  generalize runOf (l.drop n) = R at h hr rne rz
  refine ⟨_, rfl, .str (sx R), .str (sx R), rfl, .str _, run_ok hr rz, hT, fun H2 k2 => ⟨isNameL R, ?_, ?_⟩⟩
  · show V.bl (isNameL (sx R).cps.toList) = _
    rw [sx_tl]
  cases en : isNameL R with
  | true =>
    rw [en] at h
    obtain ⟨z1, z2⟩ := mk_pair (Q := D.rt) (x := Str.ofString "name") (z := ((n + R.length : Nat) : Int)) (.str (sx R)) fun H' u k hu => h H' u (k2.trans k) hu
    exact iteT ⟨_, rfl, z1, fun p hp => ⟨_, rfl, z1, z2 p hp⟩⟩
  | false =>
    rw [en] at h
    refine iteF ⟨_, rfl, R, rfl, rne, rz, fun T hm => k2.tab T (hT T hm), fun H3 k3 => ⟨isNumL R, rfl, ?_⟩⟩
    cases eu : isNumL R with
    | true =>
      rw [eu] at h
      obtain ⟨v1, v2⟩ := num_val eu rne
      obtain ⟨z1, z2⟩ := mk_pair (Q := D.rt) (x := Str.ofString "number") (z := ((n + R.length : Nat) : Int)) (.int ((NumText.digitsVal R : Nat) : Int)) fun H' u k hu => h H' u ((k2.trans k3).trans k) hu
      exact iteT ⟨_, rfl, _, _, rfl, v1, v2, z1, fun p hp => ⟨_, rfl, z1, z2 p hp⟩⟩
    | false =>
      rw [eu] at h
      exact iteF (rd_raise T no (i := 1) rfl (ErrAt.kp h (k2.trans k3)))
section
variable {P : Program} {w : World} {K : PySem.W.Frag} {mg : Str → Option Value} {base : Heap}
theorem c_read_run {C : Addr} {ts : List Addr} (D : DefAt K mg "_read_run" s_read_run ["line", "start"]) (BD : Bad P w K mg base C) (m_len : mg "len" = none) (m_int : mg "int" = none)
    (c__is_of_run : Cal P w K mg base CX0 2 "_is_of_run" ["char"] (spSign isRun)) (c_is_name : Cal P w K mg base CX0 3 "is_name" ["thing"] (spData K ts isName)) (c__is_number : Cal P w K mg base CX0 3 "_is_number" ["run"] (spNum ts)) :
    CalX P w K mg base 4 "_read_run" ["line", "start"] (spRead K C ts (fun l => ∃ c r, l = c :: r ∧ isRun c = true) readR) := by
  refine D.calX (k := 3) sc_read_run (fun vs H Q E h => ?_) fun f cdv A outer s H vs Q E hr h => ?_
  · obtain ⟨c, n, rfl, _⟩ := h
    rfl
  · obtain ⟨l, n, rfl, hn, hz, hT, ⟨c0, r0, e0, hc0⟩, h⟩ := h
    have lz : (sx l).length ≤ sizeLine := by rw [sx_len]; exact sl_ok hz
    refine ⟨_, (pss_cons (ps_set (i := 2) sc_read_run.nd rfl (Or.inl rfl) (pv 1))
  (pss_cons (ps_while (passes_of rfl) (PW.pt (pw_and (pt_cmpR op_lt (pv 2) (pe_callB call_len_str (by rfl) m_len (by decide +kernel) (pa_cons (pv 0) pa_nil)) (nomark _)) (pw_and1 (pt_val (pe_cal (c__is_of_run.mono (by omega)) hr (by rfl) (pa_cons (pe_ix ix_str (pv 0) (pv 2) (fun _ _ => rfl)) pa_nil)))))) (pss_one (ps_aug (i := 2) sc_read_run.nd rfl (Or.inl rfl) pe_int ip_add)))
  (pss_cons (ps_set (i := 3) sc_read_run.nd rfl (Or.inl rfl) (pe_slice sl_str (pv 0) (po_some (pv 1)) (po_some (pv 2))))
  (pss_cons (ps_if (pt_val (pe_cal (c_is_name.mono (by omega)) hr (by rfl) (pa_cons (pv 3) pa_nil))) (pss_one (ps_ret (pe_tup (pa_cons (pe_tup (pa_cons pe_str (pa_cons (pv 3) pa_nil))) (pa_cons (pv 2) pa_nil))))) pss_nil)
  (pss_cons (ps_if (pt_val (pe_cal (c__is_number.mono (by omega)) hr (by rfl) (pa_cons (pv 3) pa_nil))) (pss_one (ps_ret (pe_tup (pa_cons (pe_tup (pa_cons pe_str (pa_cons (pe_callTy call_int_str (by rfl) m_int (by decide +kernel) (pa_cons (pv 3) pa_nil)) pa_nil))) (pa_cons (pv 2) pa_nil))))) pss_nil)
  (pss_one (ps_bad BD rfl (takes_of rfl rfl rfl rfl) hr (by rfl) (pa_cons (pv 1) pa_nil)))))))), ?_⟩
    refine ⟨_, rfl, fun m σ H' => ∃ a : Nat, m = l.length - a ∧ (∃ o3, σ = [some (.str (sx l)), some (.int (n : Int)), some (.int (a : Int)), o3]) ∧ n ≤ a ∧ a ≤ l.length ∧ ((l.drop n).take (a - n)).all isRun = true ∧ H' = H, ⟨_, n, rfl, ⟨none, rfl⟩, Nat.le_refl _, by omega, by simp, rfl⟩, ?_⟩
    rintro m σ H1 ⟨a, rfl, ⟨o3, rfl⟩, h1, h2, h3, rfl⟩
    refine ⟨_, rfl, _, rfl, sx l, rfl, lz, _, _, rfl, rfl, _, rfl, ?_⟩
    rw [sx_len]
    -- behind the loop
    have fin : Hd (l.drop a) → (l.drop n).take (a - n) = runOf (l.drop n) ∧ (runOf (l.drop n)).length = a - n := fun hh => by
      have e : (l.drop n).drop (a - n) = l.drop a := by rw [List.drop_drop]; congr 1; omega
      have := run_cut h3 (by rw [e]; exact hh)
      refine ⟨this.symm, ?_⟩
      rw [this, List.length_take, List.length_drop]
      omega
    have rne : runOf (l.drop n) ≠ [] := by
      rw [e0, runOf_cons hc0]
      simp
    have rall : Hd (l.drop a) → (runOf (l.drop n)).all isRun = true := fun hh => by
      rw [← (fin hh).1]
      exact h3
    by_cases ha : a < l.length
    · rw [decide_eq_true (by omega : (a : Int) < (l.length : Int))]
      obtain ⟨c, hc, ed⟩ := drop_cons ha
      refine iteT ⟨_, rfl, _, rfl, sx l, _, c, rfl, rfl, lz, at_sx hc, c, rfl, isRun c, rfl, ?_⟩
      cases ec : isRun c with
      | true =>
        refine iteT ⟨fun σ' H' => (∃ o3, σ' = [some (.str (sx l)), some (.int (n : Int)), some (.int ((a + 1 : Nat) : Int)), o3]) ∧ H' = H1, fun σ' H' ⟨e1, e2⟩ => ⟨_, by omega, a + 1, rfl, e1, by omega, by omega, ?_, e2⟩, _, rfl, _, _, rfl, rfl, ⟨_, rfl⟩, rfl⟩
        have e : a + 1 - n = (a - n) + 1 := by omega
        have e2 : (l.drop n)[a - n]? = some c := by
          rw [List.getElem?_drop, show n + (a - n) = a by omega]
          exact hc
        rw [e, List.take_add_one, e2, List.all_append, h3]
        show (_ && (isRun c && true)) = true
        rw [ec]
        rfl
      | false =>
        have hh : Hd (l.drop a) := .inr ⟨c, _, ed, ec⟩
        exact iteF (run_end BD.T BD.no hz hT h1 h2 rne (fin hh).1 (fin hh).2 (rall hh) h)
    · have ea : a = l.length := by omega
      rw [decide_eq_false (by omega : ¬ (a : Int) < (l.length : Int))]
      have hh : Hd (l.drop a) := .inl (by rw [ea, List.drop_length])
      exact iteF (run_end BD.T BD.no hz hT h1 h2 rne (fin hh).1 (fin hh).2 (rall hh) h)
theorem c_read_sign {C aM : Addr} {ts : List Addr} (D : DefAt K mg "_read_sign" s_read_sign ["line", "start"]) (BD : Bad P w K mg base C) (gQ : ∃ t, mg "QUOTE" = some (.str (Str.ofString "\"") t)) (g_MARKS : mg "MARKS" = some (.ref aM)) (hM : ∀ H, SqT K H aM marksV)
    (c__is_of_run : Cal P w K mg base CX0 2 "_is_of_run" ["char"] (spSign isRun)) (c__read_quoted : CalX P w K mg base 4 "_read_quoted" ["line", "start"] (spRead K C [] (fun _ => True) readQ'))
    (c__read_run : CalX P w K mg base 4 "_read_run" ["line", "start"] (spRead K C ts (fun l => ∃ c r, l = c :: r ∧ isRun c = true) readR)) : CalX P w K mg base 5 "_read_sign" ["line", "start"] (spRead K C ts (fun _ => True) readS) := by
  refine D.calX (k := 4) sc_read_sign (fun vs H Q E h => ?_) fun f cdv A outer s H vs Q E hr h => ?_
  · obtain ⟨c, n, rfl, _⟩ := h
    rfl
  · obtain ⟨l, n, rfl, hn, hz, hT, _, h⟩ := h
    obtain ⟨tq, g_QUOTE⟩ := gQ
    have lz : (sx l).length ≤ sizeLine := by rw [sx_len]; exact sl_ok hz
    obtain ⟨c, hc, ed⟩ := drop_cons hn
    have hQ : Str.ofString "\"" = sx [34] := by decide +kernel
    rw [ed, readS_cons] at h
    refine ⟨_, (pss_cons (ps_set (i := 2) sc_read_sign.nd rfl (Or.inl rfl) (pe_ix ix_str (pv 0) (pv 1) (fun _ _ => rfl)))
  (pss_cons (ps_if (pt_cmpR op_in_seq (pv 2) (pe_glob (v := .ref aM) rfl g_MARKS rfl) (by rfl)) (pss_one (ps_ret (pe_tup (pa_cons (pe_tup (pa_cons pe_str (pa_cons (pv 2) pa_nil))) (pa_cons (pe_op op_add (pv 1) pe_int) pa_nil))))) pss_nil)
  (pss_cons (ps_if (pt_cmpR op_eq (pv 2) (pe_glob (v := .str (Str.ofString "\"")) rfl g_QUOTE ⟨_, rfl⟩) (nomark _)) (pss_one (ps_ret (pe_calX (c__read_quoted.mono (by omega)) hr (by rfl) (fun σ => passAt (takes_of rfl rfl rfl rfl) σ) (pa_cons (pv 0) (pa_cons (pv 1) pa_nil))))) pss_nil)
  (pss_cons (ps_if (pt_val (pe_cal (c__is_of_run.mono (by omega)) hr (by rfl) (pa_cons (pv 2) pa_nil))) (pss_one (ps_ret (pe_calX (c__read_run.mono (by omega)) hr (by rfl) (fun σ => passAt (takes_of rfl rfl rfl rfl) σ) (pa_cons (pv 0) (pa_cons (pv 1) pa_nil))))) pss_nil)
  (pss_one (ps_bad BD rfl (takes_of rfl rfl rfl rfl) hr (by rfl) (pa_cons (pv 1) pa_nil))))))), ?_⟩
    refine ⟨_, rfl, _, rfl, sx l, _, c, rfl, rfl, lz, at_sx hc, ?_⟩
    refine ⟨_, rfl, aM, marksV, rfl, .inr (hM H), rfl, rfl, isMark c, congrArg V.bl (in_marks c), ?_⟩
    cases em : isMark c with
    | true =>
      rw [em] at h
      exact iteT (mk_made (x := Str.ofString "mark") (.str (sx [c])) fun H' u k hu => h H' u k hu)
    | false =>
      rw [em] at h
      refine iteF ⟨_, rfl, rfl, _, rfl, ?_⟩
      rw [eq_sign c 34 hQ]
      by_cases c34 : c = 34
      · have h : RdS K C n H Q E ((readQ (l.drop (n + 1))).map fun p => (.quo p.1, p.2 + 1)) := by
          have h := h
          rw [if_neg Bool.false_ne_true, if_pos c34] at h
          exact h
        rw [decide_eq_true c34]
        refine iteT ⟨_, rfl, _, rfl, l, n, rfl, hn, hz, (fun _ h => by cases h), trivial, ?_⟩
        rw [ed]
        exact h
      · have h : RdS K C n H Q E (if isRun c = true then readR (c :: l.drop (n + 1)) else none) := by
          have h := h
          rw [if_neg Bool.false_ne_true, if_neg c34] at h
          exact h
        rw [decide_eq_false c34]
        refine iteF ⟨_, rfl, c, rfl, isRun c, rfl, ?_⟩
        cases ec : isRun c with
        | true =>
          rw [ec] at h
          refine iteT ⟨_, rfl, _, rfl, l, n, rfl, hn, hz, hT, ⟨c, _, ed, ec⟩, ?_⟩
          rw [ed]
          exact h
        | false =>
          rw [ec] at h
          exact iteF (rd_raise BD.T BD.no (i := 1) rfl h)
end
end Rs

namespace Rs
open PySem PySem.Spec PyProof.Rows L2 GxR Gx Gd
theorem DtAll.snoc {K : PySem.W.Frag} {H : Hp} {v : V} {d : PyData} : ∀ {vs : List V} {ds : List PyData}, DtAll K H vs ds → Dt K H v d → DtAll K H (vs ++ [v]) (ds ++ [d])
  | _, _, .nil, h => .cons h .nil
  | _, _, .cons h hs, h2 => .cons h (DtAll.snoc hs h2)
theorem Out.shift0 (o : Out) : o = o.shift 0 [] := by cases o <;> simp [Out.shift]
/-- the list of the signs at D, or the error -/
def RdL (K : PySem.W.Frag) (C : Addr) (H : Hp) (Q : VK) (E : XK) : Out → Prop
  | .bad n => ErrAt C n H E
  | .ok ss => ∀ H' D vs, H D = none → Kp H H' → H' D = some (.lst vs) → DtAll K H' vs (ss.map Sg.d) → Q (.ref D) H'
def spSplit (K : PySem.W.Frag) (C : Addr) (ts : List Addr) : Sp := fun vs H Q E => ∃ l : List Nat, vs = [.str (sx l)] ∧ l.length ≤ 1000 ∧ (∀ T ∈ ts, TabG H T) ∧ RdL K C H Q E (splitR l)
section
variable {P : Program} {w : World} {K : PySem.W.Frag} {mg : Str → Option Value} {base : Heap}
theorem c_split_line {C : Addr} {ts : List Addr} (D : DefAt K mg "split_line" s_split_line ["line"]) (m_len : mg "len" = none)
    (c__read_sign : CalX P w K mg base 5 "_read_sign" ["line", "start"] (spRead K C ts (fun _ => True) readS)) : CalX P w K mg base 6 "split_line" ["line"] (spSplit K C ts) := by
  refine D.calX (k := 5) sc_split_line (fun vs H Q E h => ?_) fun f cdv A outer s H vs Q E hr h => ?_
  · obtain ⟨l, rfl, _⟩ := h
    rfl
  · obtain ⟨l, rfl, hz, hT, h⟩ := h
    have lz : (sx l).length ≤ sizeLine := by rw [sx_len]; exact sl_ok hz
    have h32 : Str.ofString " " = sx [32] := by decide +kernel
    refine ⟨_, (pss_cons (ps_set (i := 1) sc_split_line.nd rfl (Or.inl rfl) (pe_lst pa_nil))
  (pss_cons (ps_set (i := 2) sc_split_line.nd rfl (Or.inl rfl) pe_int)
  (pss_cons (ps_while (passes_of rfl) (pt_cmpR op_lt (pv 2) (pe_callB call_len_str (by rfl) m_len (by decide +kernel) (pa_cons (pv 0) pa_nil)) (nomark _)) (pss_one (ps_if (pt_cmpR op_eq (pe_ix ix_str (pv 0) (pv 2) (fun _ _ => rfl)) pe_str (nomark _)) (pss_one (ps_aug (i := 2) sc_split_line.nd rfl (Or.inl rfl) pe_int ip_add)) (pss_cons (ps_asg (pe_calX (c__read_sign.mono (by omega)) hr (by rfl) (fun σ => passAt (takes_of rfl rfl rfl rfl) σ) (pa_cons (pv 0) (pa_cons (pv 2) pa_nil))) (pg_tup rfl (pgs_cons (pg_name (i := 3) sc_split_line.nd rfl (Or.inl rfl)) (pgs_cons (pg_name (i := 2) sc_split_line.nd rfl (Or.inl rfl)) pgs_nil))))
  (pss_one (ps_expr (pe_bm PySem.F.plainAttrs_list PySem.F.slot_list_append PySem.F.type_list_append mt_append (pv 1) (pa_cons (pv 3) pa_nil))))))))
  (pss_one (ps_ret (pv 1)))))), ?_⟩
    refine ⟨Nat.zero_le _, fun D hD => ?_⟩
    refine ⟨fun m σ H' => ∃ a : Nat, m = l.length - a ∧ (∃ o3, σ = [some (.str (sx l)), some (.ref D), some (.int (a : Int)), o3]) ∧ a ≤ l.length ∧ ∃ (ss : List Sg) (vs : List V), ss.length ≤ a ∧ H' D = some (.lst vs) ∧ DtAll K H' vs (ss.map Sg.d) ∧ Kp H H' ∧ splitR l = (splitR (l.drop a)).shift a ss,
      ⟨_, 0, rfl, ⟨none, rfl⟩, Nat.zero_le _, [], [], Nat.le_refl _, upd_same, .nil, Kb.new hD, Out.shift0 _⟩, ?_⟩
    rintro m σ H1 ⟨a, rfl, ⟨o3, rfl⟩, h1, ss, vs, hs, eD, ds, k, e⟩
    refine ⟨_, rfl, _, rfl, sx l, rfl, lz, _, _, rfl, rfl, _, rfl, ?_⟩
    rw [sx_len]
    by_cases ha : a < l.length
    · rw [decide_eq_true (by omega : (a : Int) < (l.length : Int))]
      obtain ⟨c, hc, ed⟩ := drop_cons ha
      refine iteT ⟨fun σ' H' => ∃ a' : Nat, a < a' ∧ (∃ o3, σ' = [some (.str (sx l)), some (.ref D), some (.int (a' : Int)), o3]) ∧ a' ≤ l.length ∧ ∃ (ss : List Sg) (vs : List V), ss.length ≤ a' ∧ H' D = some (.lst vs) ∧ DtAll K H' vs (ss.map Sg.d) ∧ Kp H H' ∧ splitR l = (splitR (l.drop a')).shift a' ss,
        fun σ' H' ⟨a', z1, z2, z3⟩ => ⟨_, by omega, a', rfl, z2, z3⟩, ?_⟩
      refine ⟨_, rfl, _, rfl, sx l, _, c, rfl, rfl, lz, at_sx hc, rfl, _, rfl, ?_⟩
      rw [eq_sign c 32 h32]
      by_cases c32 : c = 32
      · subst c32
        refine iteT ⟨_, rfl, _, _, rfl, rfl, a + 1, by omega, ⟨_, rfl⟩, by omega, ss, vs, by omega, eD, ds, k, ?_⟩
        rw [e, ed, splitR_sp, Out.shift_shift, List.append_nil]
      · rw [decide_eq_false c32]
        refine iteF ⟨_, rfl, _, rfl, l, a, rfl, ha, hz, fun T hm => k.tab T (hT T hm), trivial, ?_⟩
        have hd : (l.drop a).head? ≠ some 32 := by
          rw [ed]
          simpa using c32
        cases er : readS (l.drop a) with
        | none =>
          rw [ed] at er
          have e2 : splitR (l.drop a) = .bad 0 := by rw [ed]; exact splitR_bad c32 er
          rw [e, e2] at h
          exact ErrAt.kp h k
        | some p =>
          obtain ⟨g, wd⟩ := p
          obtain ⟨p1, p2⟩ := readS_pos er
          rw [List.length_drop] at p2
          rw [splitR_sign hd er, List.drop_drop, Out.shift_shift] at e
          intro H2 v k2 hv
          have eD2 := k2.keep D _ eD (by simp) nt_lst
          have ds2 := DtAll.kb k2 Lsts.nil ds
          cases hv with
          | @tup b ys _ hb hys =>
            cases hys with
            | @cons vg _ _ _ hg hys =>
              cases hys with
              | cons hi hys =>
                cases hys
                cases hi
                have lz2 : vs.length < sizeLine := by
                  have := ds.length
                  rw [List.length_map] at this
                  have : sizeLine = 16777216 := rfl
                  omega
                refine ⟨b, _, rfl, hb, rfl, vg, _, rfl, .int ((a + wd : Nat) : Int), _, rfl, rfl, ?_⟩
                refine ⟨_, rfl, .inl ⟨rfl, _, .inl (.inl eD2)⟩, _, rfl, D, vs, vg, rfl, rfl, eD2, lz2, ?_⟩
                refine ⟨a + wd, by omega, ⟨_, rfl⟩, by omega, ss ++ [g], vs ++ [vg], by simp; omega, upd_same, ?_, (k.trans k2).mut hD (no_tab eD2 nt_lst), e⟩
                rw [List.map_append]
                exact DtAll.kb (Kb.put (S := [D]) (by simp) eD2 nt_lst) (fun b hb => by rw [List.mem_singleton.mp hb]; exact ⟨_, eD2⟩) (DtAll.snoc ds2 hg)
    · have ea : a = l.length := by omega
      rw [decide_eq_false (by omega : ¬ (a : Int) < (l.length : Int))]
      rw [ea, List.drop_length, splitR_nil] at e
      rw [e] at h
      have h : RdL K C H Q E (.ok (ss ++ [])) := h
      rw [List.append_nil] at h
      exact iteF ⟨_, rfl, h H1 D vs hD k eD ds⟩
end
end Rs

namespace Gd
open PySem PySem.Spec PyProof.Rows L2 GxR Gx
def rNotInT (K : PySem.W.Frag) : R2 := fun x y H Q => ∃ d ds, Dp K H x d ∧ Dp K H y (.tuple ds) ∧ SeqAt.shaped d = true ∧ SeqAt.shaped (.tuple ds) = true ∧ Q (.bl (!ds.any fun z => PyData.eqv z d)) H
theorem op_notInT {X : Cx} (hu : X.A.units + 65 < cLine) : OpR X (compareOp .NotIn) (rNotInT X.K) := by
  intro pins s σ H x y v u Q I rx ry h
  obtain ⟨d, ds, h1, h2, s1, s2, q⟩ := h
  obtain ⟨as, r1⟩ := Dp.reads I d x v h1 rx
  obtain ⟨bs, r2⟩ := Dp.reads I (.tuple ds) y u h2 ry
  exact SeqAt.notIn_tuple_reads r2 r1 (SeqAt.canLay_of_shaped s2) (SeqAt.canLay_of_shaped s1) (room_in_shaped s1 hu) ⟨.bl _, H, I, rfl, q⟩
theorem hu_units {k : Nat} {A : Around} (hr : RoomG k A) : A.units + 65 < cLine := by have := hr.r.un; omega
/-- a def whose body wants a token -/
theorem DefAt.calT {P : Program} {w : World} {K : PySem.W.Frag} {mg : Str → Option Value} {base : Heap} {x : Str} {st : Stmt} {N ps : List Str} {sp : Sp} (D : DefAt K mg x st ps) (S : FnScope N ps (defScope st)) (hnc : ∀ y ∈ (defScope st).names, y.2 ≠ .cell) (hps : 1 ≤ ps.length)
    (len : ∀ vs H Q E, sp vs H Q E → vs.length = ps.length)
    (hb : ∀ (f : Addr) (cdv : Value) (A : Around) (outer : List Env) (s : Shared) (H : Hp) (vs : List V) (Q : VK) (E : XK), sp vs H Q E →
      ∃ t, PSsT (cxOf CX0 P w K mg base N x (defScope st) f cdv A outer s H E) (defBody st) t ∧ t { nx := fun _ H' => Q .non H', rt := Q } (start N vs) H) : Cal P w K mg base CX0 1 x ps sp := by
  obtain ⟨f, fd, F, g, b⟩ := D
  have kp := F.kp
  obtain ⟨oc, od, kV, doc, pm, an, cdv, ct, osl, rfl, lk, hcd⟩ := F.ex
  exact ⟨f, _, .of (fn_ofT (k := 0) lk hcd S hnc hps len fun A outer s H vs Q E _ hsp => hb f cdv A outer s H vs Q E hsp), g, kp, b⟩
end Gd
namespace Rs
open PySem PySem.Spec PyProof.Rows L2 GxR Gx Gd
/-! ### escapes -/
theorem repl1 (a : Nat) (z : List Nat) : ∀ l : List Nat, StrLaws.replL [a] z l = l.flatMap fun c => if c = a then z else [c]
  | [] => StrLaws.replL_nil
  | c :: r => by
    have ih := repl1 a z r
    rw [List.flatMap_cons, ← ih]
    unfold StrLaws.replL
    rw [StrLaws.replS]
    by_cases h : c = a
    · subst h
      rw [if_pos (by simp), if_pos rfl]
      rfl
    · rw [if_neg (by simpa using h), if_neg h]
      rfl
theorem replace1 {x y z : Str} {a : Nat} (hy : y = sx [a]) : (Txt.replace x y z).cps.toList = x.cps.toList.flatMap fun c => if c = a then z.cps.toList else [c] := by
  subst hy
  rw [StrLaws.replace_list (by rw [sx_len]; exact Nat.le_refl _), sx_tl, repl1]
theorem escaped_is (l : List Nat) : Txt.replace (Txt.replace (Txt.replace (sx l) (Str.ofString "\\") (Str.ofString "\\\\")) (Str.ofString "\"") (Str.ofString "\\\"")) (Str.ofString "\n") (Str.ofString "\\n") = sx (escL l) := by
  refine TL.ext_tl ?_
  show Array.toList _ = Array.toList _
  rw [replace1 (a := 10) (by decide +kernel), replace1 (a := 34) (by decide +kernel), replace1 (a := 92) (by decide +kernel), sx_tl, sx_tl, List.flatMap_assoc, List.flatMap_assoc]
  unfold escL
  congr 1
  funext c
  have e1 : (Str.ofString "\\\\").cps.toList = [92, 92] := by decide +kernel
  have e2 : (Str.ofString "\\\"").cps.toList = [92, 34] := by decide +kernel
  have e3 : (Str.ofString "\\n").cps.toList = [92, 110] := by decide +kernel
  rw [e1, e2, e3]
  unfold escC
  by_cases h1 : c = 92
  · subst h1
    rfl
  · rw [if_neg h1, if_neg h1]
    by_cases h2 : c = 34
    · subst h2
      rfl
    · by_cases h3 : c = 10
      · subst h3
        rfl
      · rw [if_neg h2, if_neg h3]
        simp [h2, h3]
theorem esc_len1 (l : List Nat) : (Txt.replace (sx l) (Str.ofString "\\") (Str.ofString "\\\\")).length ≤ 2 * l.length := by
  have e : ∀ m : List Nat, (m.flatMap fun c => if c = 92 then (Str.ofString "\\\\").cps.toList else [c]).length ≤ 2 * m.length := by
    intro m
    have e1 : (Str.ofString "\\\\").cps.toList = [92, 92] := by decide +kernel
    rw [e1]
    induction m with
    | nil => exact Nat.le_refl _
    | cons c m ih =>
      rw [List.flatMap_cons, List.length_append, List.length_cons]
      have : (if c = 92 then [92, 92] else [c]).length ≤ 2 := by split <;> simp
      omega
  have := e l
  rw [← sx_tl l, ← replace1 (y := Str.ofString "\\") (a := 92) (by decide +kernel), Array.length_toList, sx_tl] at this
  exact this
theorem esc_len2 (l : List Nat) : (Txt.replace (Txt.replace (sx l) (Str.ofString "\\") (Str.ofString "\\\\")) (Str.ofString "\"") (Str.ofString "\\\"")).length ≤ 4 * l.length := by
  have e : ∀ m : List Nat, (m.flatMap fun c => if c = 34 then (Str.ofString "\\\"").cps.toList else [c]).length ≤ 2 * m.length := by
    intro m
    have e1 : (Str.ofString "\\\"").cps.toList = [92, 34] := by decide +kernel
    rw [e1]
    induction m with
    | nil => exact Nat.le_refl _
    | cons c m ih =>
      rw [List.flatMap_cons, List.length_append, List.length_cons]
      have : (if c = 34 then [92, 34] else [c]).length ≤ 2 := by split <;> simp
      omega
  have h1 := esc_len1 l
  have h2 := e (Txt.replace (sx l) (Str.ofString "\\") (Str.ofString "\\\\")).cps.toList
  rw [← replace1 (y := Str.ofString "\"") (a := 34) (by decide +kernel), Array.length_toList, Array.length_toList] at h2
  have h3 : (Txt.replace (sx l) (Str.ofString "\\") (Str.ofString "\\\\")).cps.size ≤ 2 * l.length := h1
  show Array.size _ ≤ _
  omega
def spEsc : Sp := fun vs H Q _ => ∃ l : List Nat, vs = [.str (sx l)] ∧ l.length ≤ 1000 ∧ Q (.str (sx (escL l))) H
theorem rd_esc {te : TE} {σ : L2.St} {H : Hp} {Q : VK} {l : List Nat} (hz : l.length ≤ 1000) (ht : ∀ R : VK, R (.str (sx l)) H → te σ H R) (q : Q (.str (sx (escL l))) H) :
    CwR.tReplC (CwR.tReplC (CwR.tReplC te (Str.ofString "\\") (Str.ofString "\\\\")) (Str.ofString "\"") (Str.ofString "\\\"")) (Str.ofString "\n") (Str.ofString "\\n") σ H Q := by
  have h1 := esc_len1 l
  have h2 := esc_len2 l
  have z1 : (Str.ofString "\\\\").length = 2 := by decide +kernel
  have z2 : (Str.ofString "\\\"").length = 2 := by decide +kernel
  have z3 : (Str.ofString "\\n").length = 2 := by decide +kernel
  refine ht _ ⟨_, rfl, by rw [z1, sx_len]; omega, _, rfl, by rw [z2]; omega, _, rfl, by rw [z3]; omega, ?_⟩
  rw [escaped_is]
  exact q
/-! ### comparing signs -/
theorem eqv_mark (s : Sg) (c : Nat) : PyData.eqv s.d (Sg.mark c).d = (match s with | .mark c' => decide (c' = c) | _ => false) := by
  have e : ∀ (a : Str) (x y : PyData), PyData.eqv (.tuple [.str a, x]) (.tuple [.str (Str.ofString "mark"), y]) = (a == Str.ofString "mark" && PyData.eqv x y) := fun a x y => by
    simp only [PyData.eqv, PyData.eqvAll, Bool.and_true]
  cases s with
  | name l => exact (e _ _ _).trans (by rw [show ((Str.ofString "name") == (Str.ofString "mark")) = false by decide +kernel]; rfl)
  | num n => exact (e _ _ _).trans (by rw [show ((Str.ofString "number") == (Str.ofString "mark")) = false by decide +kernel]; rfl)
  | quo l => exact (e _ _ _).trans (by rw [show ((Str.ofString "quoted") == (Str.ofString "mark")) = false by decide +kernel]; rfl)
  | mark c' =>
    refine (e _ _ _).trans ?_
    rw [show ((Str.ofString "mark") == (Str.ofString "mark")) = true by decide +kernel, Bool.true_and]
    simp only [PyData.eqv]
    rw [sx_beq]
    simp
theorem eqv_mark' (s : Sg) (c : Nat) : PyData.eqv (Sg.mark c).d s.d = (match s with | .mark c' => decide (c' = c) | _ => false) := by
  have e : ∀ (a : Str) (x y : PyData), PyData.eqv (.tuple [.str (Str.ofString "mark"), y]) (.tuple [.str a, x]) = (Str.ofString "mark" == a && PyData.eqv y x) := fun a x y => by
    simp only [PyData.eqv, PyData.eqvAll, Bool.and_true]
  cases s with
  | name l => exact (e _ _ _).trans (by rw [show ((Str.ofString "mark") == (Str.ofString "name")) = false by decide +kernel]; rfl)
  | num n => exact (e _ _ _).trans (by rw [show ((Str.ofString "mark") == (Str.ofString "number")) = false by decide +kernel]; rfl)
  | quo l => exact (e _ _ _).trans (by rw [show ((Str.ofString "mark") == (Str.ofString "quoted")) = false by decide +kernel]; rfl)
  | mark c' =>
    refine (e _ _ _).trans ?_
    rw [show ((Str.ofString "mark") == (Str.ofString "mark")) = true by decide +kernel, Bool.true_and]
    simp only [PyData.eqv]
    rw [sx_beq]
    simp [eq_comm]
theorem good_ok {s : Sg} (g : s.good) : OkD s.d := by
  have one : ∀ (l : List Nat), l.length ≤ 1000 → (∀ c ∈ l, c < 1114112) → okN 1 (.str (sx l)) = true := fun l h1 h2 => by
    have e : (decide ((sx l).length ≤ 1000) && PyData.strOk (sx l)) = true := by
      rw [sx_len, decide_eq_true h1, Bool.true_and]
      show (sx l).cps.all _ = true
      rw [← Array.all_toList, sx_tl, List.all_eq_true]
      exact fun c hc => decide_eq_true (h2 c hc)
    exact e
  have two : ∀ (x : Str) (d : PyData), okN 1 (.str x) = true → okN 1 d = true → OkD (.tuple [.str x, d]) := fun x d h1 h2 => ⟨2, by decide, by
    show (decide ([PyData.str x, d].length ≤ 1000) && [PyData.str x, d].all (okN 1)) = true
    rw [List.all_cons, List.all_cons, h1, h2]
    rfl⟩
  cases s with
  | name l =>
    refine two _ _ (by decide +kernel) (one l (by have := (name_parts g).2.1; omega) fun c hc => ?_)
    have h := List.all_eq_true.mp (name_run g) c hc
    unfold isRun isSmall isDigit at h
    rw [Bool.or_eq_true, Bool.or_eq_true, rg, rg, rg] at h
    omega
  | num n =>
    refine two _ _ (by decide +kernel) ?_
    have hn : n ≤ 999999999 := g
    refine decide_eq_true ?_
    have : (n : Int).natAbs = n := by omega
    rw [this]
    by_cases h0 : n = 0
    · rw [h0]
      decide
    · have := (Nat.log2_lt h0).mpr (show n < 2 ^ 30 by omega)
      omega
  | quo l =>
    refine two _ _ (by decide +kernel) (one l (by have := g.2; omega) fun c hc => ?_)
    have h := List.all_eq_true.mp g.1 c hc
    rw [Bool.or_eq_true, decide_eq_true_eq] at h
    rcases h with h | h
    · unfold isChar at h
      rw [Bool.and_eq_true, rg] at h
      omega
    · omega
  | mark c =>
    refine two _ _ (by decide +kernel) (one [c] (by simp) fun d hd => ?_)
    rw [List.mem_singleton.mp hd]
    rcases mark_of g with h | h | h | h <;> omega
end Rs

/-! Expressions, as they are read: pure. -/
namespace Rx
open PySem PySem.Spec PyProof.Rows L2 GxR Gx Gd Rs
def cs (s : String) : List Nat := (Str.ofString s).cps.toList
def noneS : PyData := .tuple [.str "none"]
/-- the scalar of a sign -/
def scalarOf : Sg → Option PyData
  | .quo l => if Rv.isScalarD (.tuple [.str "text", .str (sx l)]) = true then some (.tuple [.str "text", .str (sx l)]) else none
  | .num n => if Rv.isScalarD (.tuple [.str "int", .int (n : Int)]) = true then some (.tuple [.str "int", .int (n : Int)]) else none
  | .name l => if l = cs "none" then some noneS else if l = cs "true" then some (.tuple [.str "bool", .bool true]) else if l = cs "false" then some (.tuple [.str "bool", .bool false]) else none
  | .mark _ => none
theorem scalar_name (l : List Nat) : scalarOf (.name l) = if l = cs "none" then some noneS else if l = cs "true" then some (.tuple [.str "bool", .bool true]) else if l = cs "false" then some (.tuple [.str "bool", .bool false]) else none := rfl
theorem scalar_num (n : Nat) : scalarOf (.num n) = if Rv.isScalarD (.tuple [.str "int", .int (n : Int)]) = true then some (.tuple [.str "int", .int (n : Int)]) else none := rfl
theorem scalar_quo (l : List Nat) : scalarOf (.quo l) = if Rv.isScalarD (.tuple [.str "text", .str (sx l)]) = true then some (.tuple [.str "text", .str (sx l)]) else none := rfl
inductive Ex where
  | lit (v : PyData) | var (l : List Nat) | call (f : List Nat) (es : List Ex) | inj (l : List Nat) (e : Ex)
mutual
def Ex.d : Ex → PyData
  | .lit v => .tuple [.str "literal", v]
  | .var l => .tuple [.str "variable", .str (sx l)]
  | .call f es => .tuple [.str "call", .str (sx f), .tuple (Ex.ds es)]
  | .inj l e => .tuple [.str "inject", .str (sx l), e.d]
def Ex.ds : List Ex → List PyData
  | [] => []
  | e :: es => e.d :: Ex.ds es
end
mutual
def Ex.calls : Ex → Nat
  | .lit _ => 0
  | .var _ => 0
  | .call _ es => 1 + Ex.callsAll es
  | .inj _ e => 1 + e.calls
def Ex.callsAll : List Ex → Nat
  | [] => 0
  | e :: es => e.calls + Ex.callsAll es
end
-- how deep the calls stand in one another; a call with more than three arguments counts as deeper
mutual
def Ex.deep : Ex → Nat
  | .lit _ => 0
  | .var _ => 0
  | .call _ es => 1 + Ex.deepAll es + (es.length - 3)
  | .inj _ e => 1 + e.deep
def Ex.deepAll : List Ex → Nat
  | [] => 0
  | e :: es => max e.deep (Ex.deepAll es)
end
def arity : List Nat → Nat := fun l => if l ∈ [cs "not", cs "size", cs "reverse", cs "resource"] then 1 else if l ∈ [cs "put", cs "cond"] then 3 else 2
def reserved : List (List Nat) := ["none", "true", "false", "map", "inject", "not", "size", "reverse", "add", "sub", "lt", "eq", "and", "concat", "has", "get", "remove", "take", "put", "cond", "resource"].map cs
/-- a mark stands first -/
def atMark (c : Nat) : List Sg → Bool
  | .mark c' :: _ => decide (c' = c)
  | _ => false
/-- what stands behind a mark -/
def expect (c : Nat) (r : List Sg) : Option (List Sg) := if atMark c r = true then some r.tail else none
def rdArgs (f : List Sg → Option (Ex × List Sg)) : Nat → Nat → List Sg → Option (List Ex × List Sg)
  | 0, _, r => some ([], r)
  | k + 1, c, r => match expect c r with
    | none => none
    | some r1 => match f r1 with
      | none => none
      | some (e, r2) => match rdArgs f k 44 r2 with
        | none => none
        | some (es, r3) => some (e :: es, r3)
def kindOf : Sg → Str
  | .name _ => Str.ofString "name"
  | .num _ => Str.ofString "number"
  | .quo _ => Str.ofString "quoted"
  | .mark _ => Str.ofString "mark"
def contOf : Sg → PyData
  | .name l => .str (sx l)
  | .num n => .int (n : Int)
  | .quo l => .str (sx l)
  | .mark c => .str (sx [c])
theorem d_eq (s : Sg) : s.d = .tuple [.str (kindOf s), contOf s] := by cases s <;> rfl
def isQuo : Sg → Bool
  | .quo _ => true
  | _ => false
/-- an entry of a map -/
def rdEnt : List Sg → Option (PyData × List Sg)
  | [] => none
  | s :: r => if atMark 44 r = true then (match r.tail with
    | [] => none
    | s2 :: r2 => match scalarOf s2 with
      | none => none
      | some v => if isQuo s = true then some (.tuple [contOf s, v], r2) else none) else none
theorem rdEnt_cons (s : Sg) (r : List Sg) : rdEnt (s :: r) = if atMark 44 r = true then (match r.tail with
    | [] => none
    | s2 :: r2 => match scalarOf s2 with
      | none => none
      | some v => if isQuo s = true then some (.tuple [contOf s, v], r2) else none) else none := rfl
def rdEnts : Nat → Bool → List Sg → Option (List PyData × List Sg)
  | 0, _, _ => none
  | n + 1, first, r => if atMark 41 r = true then some ([], r.tail) else
    match (if first = true then some r else expect 44 r) with
    | none => none
    | some r1 => match rdEnt r1 with
      | none => none
      | some (e, r2) => match rdEnts n false r2 with
        | none => none
        | some (es, r3) => some (e :: es, r3)
def rdMap (r : List Sg) : Option (Ex × List Sg) := match expect 40 r with
  | none => none
  | some r1 => match rdEnts (r1.length + 1) true r1 with
    | none => none
    | some (es, r2) => if Rv.isValueD (.tuple [.str "map", .tuple es]) = true then some (.lit (.tuple [.str "map", .tuple es]), r2) else none
def rdInj (f : List Sg → Option (Ex × List Sg)) (r : List Sg) : Option (Ex × List Sg) := match expect 40 r with
  | none => none
  | some [] => none
  | some (s :: r1) => match s with
    | .name l => if l ∈ reserved then none else match expect 44 r1 with
      | none => none
      | some r2 => match f r2 with
        | none => none
        | some (e, r3) => match expect 41 r3 with
          | none => none
          | some r4 => some (.inj l e, r4)
    | _ => none
def rdCall (f : List Sg → Option (Ex × List Sg)) (l : List Nat) (r : List Sg) : Option (Ex × List Sg) := match rdArgs f (arity l) 40 r with
  | none => none
  | some (es, r1) => match expect 41 r1 with
    | none => none
    | some r2 => some (.call l es, r2)
def rdBody (f : Option (List Sg → Option (Ex × List Sg))) : List Sg → Option (Ex × List Sg)
  | [] => none
  | s :: r => match scalarOf s with
    | some v => some (.lit v, r)
    | none => match s with
      | .name l => if l = cs "map" then rdMap r else if l ∉ reserved then some (.var l, r) else match f with
        | none => none
        | some f => if l = cs "inject" then rdInj f r else rdCall f l r
      | _ => none
/-- an expression with at most n calls in one another -/
def rd : Nat → List Sg → Option (Ex × List Sg)
  | 0 => rdBody none
  | n + 1 => rdBody (some (rd n))
def readE (L : List Sg) : Option (Ex × List Sg) := match rd 5 L with
  | none => none
  | some (e, r) => if 10 < e.calls then none else some (e, r)
/-! ### the law's rows -/
def ofS (s : Str) : List Nat := s.cps.toList
def wrongs : List (List Nat) :=
  (["", "(a)", ")", ",", "=", "add(a)", "add(a, b,)", "add(a, b, c)", "add(, b)", "add a", "add", "not", "not()", "not(a", "size()",
    "1000000", "999999999", "map", "map(", "map(a, 1)", "map(\"a\")", "map(\"a\", 1", "map(\"a\", 1,)", "map(\"a\" 1)", "map(\"\", 1)",
    "map(\"a\", 1, \"a\", 2)", "map(\"a\", n)", "map(\"a\", map())", "map(\"abcdefghijklm\", 1)", "map(\"a\\n\", 1)"].map cs) ++ [34 :: List.replicate 41 97 ++ [34]] ++ (["\"a\\n\"",
    "inject", "inject(a)", "inject(none, 1)", "inject(add, 1)", "inject(a, )", "inject(\"a\", 1)", "inject(a 1)", "cond(a, b)", "resource()",
    "inject(inject, 1)", "put(m, k)", "map(\"a\", 1000000)", "map(\"k0\", 1, \"k1\", 1, \"k2\", 1, \"k3\", 1, \"k4\", 1, \"k5\", 1, \"k6\", 1, \"k7\", 1, \"k8\", 1)"].map cs) ++
  ((List.replicate 6 (cs "not(")).flatten ++ cs "a" ++ List.replicate 6 41) :: ((List.replicate 6 (cs "inject(a, ")).flatten ++ cs "a" ++ List.replicate 6 41) :: ["and(a)", "eq(a, add)"].map cs
def nears : List (List Nat) :=
  (["a", "n1", "none", "true", "false", "0", "999999", "\"\""].map cs) ++ [34 :: List.replicate 40 97 ++ [34]] ++ (["map()", "map(\"a\", 1)", "map(\"a\", 1, \"b\", none)", "true",
    "add(a, b)", "not(a)", "inject(a, 1)", "cond(a, b, c)", "resource(a)", "take(m, 2)", "mapx", "adds", "nones", "injects"].map cs) ++
  [(List.replicate 5 (cs "not(")).flatten ++ cs "a" ++ List.replicate 5 41, cs "map(\"k0\", 1, \"k1\", 1, \"k2\", 1, \"k3\", 1, \"k4\", 1, \"k5\", 1, \"k6\", 1, \"k7\", 1)"]
def inner : List Nat := cs "cond(a, add(1, 2), put(m, k, 1))"
def calls10 : List Nat := cs "and(eq(" ++ inner ++ cs ", " ++ inner ++ cs "), and(not(a), b))"
def calls11 : List Nat := cs "and(eq(" ++ inner ++ cs ", " ++ inner ++ cs "), and(not(a), not(b)))"
end Rx

namespace Gd
open PySem PySem.Spec PyProof.Rows L2 GxR Gx
def rInT (K : PySem.W.Frag) : R2 := fun x y H Q => ∃ d ds, Dp K H x d ∧ Dp K H y (.tuple ds) ∧ SeqAt.shaped d = true ∧ SeqAt.shaped (.tuple ds) = true ∧ Q (.bl (ds.any fun z => PyData.eqv z d)) H
theorem op_inT {X : Cx} (hu : X.A.units + 65 < cLine) : OpR X (compareOp .In) (rInT X.K) := by
  intro pins s σ H x y v u Q I rx ry h
  obtain ⟨d, ds, h1, h2, s1, s2, q⟩ := h
  obtain ⟨as, r1⟩ := Dp.reads I d x v h1 rx
  obtain ⟨bs, r2⟩ := Dp.reads I (.tuple ds) y u h2 ry
  exact SeqAt.in_tuple_reads r2 r1 (SeqAt.canLay_of_shaped s2) (SeqAt.canLay_of_shaped s1) (room_in_shaped s1 hu) ⟨.bl _, H, I, rfl, q⟩
theorem iteP {p : Prop} [Decidable p] {A B : Prop} (h : p) (q : A) : if decide p = true then A else B := by rw [if_pos (decide_eq_true h)]; exact q
theorem iteN {p : Prop} [Decidable p] {A B : Prop} (h : ¬ p) (q : B) : if decide p = true then A else B := by rw [if_neg (by simpa using h)]; exact q
theorem iteN' {p : Prop} [Decidable p] {A B : Prop} (h : ¬ p) (q : B) : if decide p = true then A else B := iteN h q
end Gd
namespace Rx
open PySem PySem.Spec PyProof.Rows L2 GxR Gx Gd Rs
abbrev topS := Rs.topS
abbrev s_is_at : Stmt := topS 34
theorem sc_is_at : FnScope ["signs", "at", "sign"] ["signs", "at", "sign"] (defScope s_is_at) := ⟨rfl, rfl, rfl, by decide +kernel, rfl, by decide +kernel, by decide +kernel⟩
abbrev s_if_scalar : Stmt := topS 41
theorem sc_if_scalar : FnScope ["thing"] ["thing"] (defScope s_if_scalar) := ⟨rfl, rfl, rfl, by decide +kernel, rfl, by decide +kernel, by decide +kernel⟩
abbrev s_scalar_of : Stmt := topS 33
theorem sc_scalar_of : FnScope ["sign", "kind", "content"] ["sign"] (defScope s_scalar_of) := ⟨rfl, rfl, rfl, by decide +kernel, rfl, by decide +kernel, by decide +kernel⟩
abbrev s_sign_at : Stmt := topS 55
theorem sc_sign_at : FnScope ["signs", "at"] ["signs", "at"] (defScope s_sign_at) := ⟨rfl, rfl, rfl, by decide +kernel, rfl, by decide +kernel, by decide +kernel⟩
abbrev s_behind : Stmt := topS 56
theorem sc_behind : FnScope ["signs", "at", "sign"] ["signs", "at", "sign"] (defScope s_behind) := ⟨rfl, rfl, rfl, by decide +kernel, rfl, by decide +kernel, by decide +kernel⟩
/-- a sign of right size -/
def fit : Sg → Bool
  | .name l => decide (l.length ≤ 1000) && l.all fun c => decide (c < 1114112)
  | .num n => decide (n ≤ 999999999)
  | .quo l => decide (l.length ≤ 1000) && l.all fun c => decide (c < 1114112)
  | .mark c => decide (c < 1114112)
theorem okS {l : List Nat} (h : (decide (l.length ≤ 1000) && l.all fun c => decide (c < 1114112)) = true) (n : Nat) : okN n (.str (sx l)) = true := by
  rw [Bool.and_eq_true, List.all_eq_true] at h
  have e : (decide ((sx l).length ≤ 1000) && PyData.strOk (sx l)) = true := by
    rw [sx_len, h.1, Bool.true_and]
    show (sx l).cps.all _ = true
    rw [← Array.all_toList, sx_tl, List.all_eq_true]
    exact h.2
  cases n <;> exact e
theorem okI {m : Nat} (h : m ≤ 999999999) (n : Nat) : okN n (.int (m : Int)) = true := by
  have : decide ((m : Int).natAbs.log2 < 1920) = true := by
    have : (m : Int).natAbs = m := by omega
    rw [this, decide_eq_true]
    by_cases h0 : m = 0
    · rw [h0]; decide
    · have := (Nat.log2_lt h0).mpr (show m < 2 ^ 30 by omega)
      omega
  cases n <;> exact this
theorem okPair {a b : PyData} (ha : okN 1 a = true) (hb : okN 1 b = true) : OkD (.tuple [a, b]) := ⟨2, by decide, by
  show (decide ((2 : Nat) ≤ 1000) && (okN 1 a && (okN 1 b && true))) = true
  rw [ha, hb]; rfl⟩
theorem fit_ok {s : Sg} (h : fit s = true) : OkD s.d := by
  cases s with
  | name l => exact okPair (by decide +kernel) (okS h 1)
  | num n => exact okPair (by decide +kernel) (okI (of_decide_eq_true h) 1)
  | quo l => exact okPair (by decide +kernel) (okS h 1)
  | mark c => exact okPair (by decide +kernel) (okS (by
      have h : decide (c < 1114112) = true := h
      show (decide ((1 : Nat) ≤ 1000) && (decide (c < 1114112) && true)) = true
      rw [h]; rfl) 1)
/-- the signs L stand at S -/
def Sgs (K : PySem.W.Frag) (H : Hp) (S : Addr) (L : List Sg) : Prop := ∃ vs, H S = some (.lst vs) ∧ DtAll K H vs (L.map Sg.d)
theorem Sgs.kp {K : PySem.W.Frag} {H H' : Hp} {S : Addr} {L : List Sg} (h : Sgs K H S L) (k : Kp H H') : Sgs K H' S L := let ⟨vs, a, b⟩ := h; ⟨vs, k.keep S _ a (by simp) nt_lst, DtAll.kb k Lsts.nil b⟩
theorem Sgs.len {K : PySem.W.Frag} {H : Hp} {S : Addr} {L : List Sg} (h : Sgs K H S L) : ∃ vs, H S = some (.lst vs) ∧ vs.length = L.length ∧ DtAll K H vs (L.map Sg.d) := by
  obtain ⟨vs, a, b⟩ := h
  have := b.length
  rw [List.length_map] at this
  exact ⟨vs, a, this, b⟩
theorem dropC {α : Type} {L : List α} {i : Nat} (h : i < L.length) : ∃ s, L[i]? = some s ∧ L.drop i = s :: L.drop (i + 1) := ⟨L[i], List.getElem?_eq_getElem h, List.drop_eq_getElem_cons h⟩
def spIsAt (K : PySem.W.Frag) : Sp := fun vs H Q _ => ∃ (S : Addr) (at' : Nat) (v : V) (L : List Sg) (c : Nat), vs = [.ref S, .int (at' : Int), v] ∧ Sgs K H S L ∧ (∀ s ∈ L, fit s = true) ∧ Dt K H v (Sg.mark c).d ∧ c < 1114112 ∧ Q (.bl (atMark c (L.drop at'))) H
def spIf (K : PySem.W.Frag) (ts : List Addr) : Sp := fun vs H Q _ => ∃ v d, vs = [v] ∧ Dt K H v d ∧ OkD d ∧ (∀ T ∈ ts, TabG H T) ∧ ∀ H', Kp H H' → Q (if Rv.isScalarD d = true then v else .non) H'
def spScalar (K : PySem.W.Frag) (ts : List Addr) : Sp := fun vs H Q _ => ∃ v s, vs = [v] ∧ Dt K H v (Sg.d s) ∧ fit s = true ∧ (∀ T ∈ ts, TabG H T) ∧ ∀ H' u, Kp H H' → (match scalarOf s with | none => u = .non | some d => u ≠ .non ∧ Dt K H' u d) → Q u H'
def spSignAt (K : PySem.W.Frag) (C : Addr) : Sp := fun vs H Q E => ∃ (S : Addr) (at' : Nat) (L : List Sg), vs = [.ref S, .int (at' : Int)] ∧ Sgs K H S L ∧ (match L.drop at' with | [] => E (.ref C) none H | s :: _ => ∀ v, Dt K H v s.d → Q v H)
def spBehind (K : PySem.W.Frag) (C : Addr) : Sp := fun vs H Q E => ∃ (S : Addr) (at' : Nat) (v : V) (L : List Sg) (c : Nat), vs = [.ref S, .int (at' : Int), v] ∧ Sgs K H S L ∧ (∀ s ∈ L, fit s = true) ∧ Dt K H v (Sg.mark c).d ∧ c < 1114112 ∧ (if atMark c (L.drop at') = true then Q (.int ((at' : Int) + 1)) H else E (.ref C) none H)
section
variable {P : Program} {w : World} {K : PySem.W.Frag} {mg : Str → Option Value} {base : Heap}
theorem c_is_at (D : DefAt K mg "is_at" s_is_at ["signs", "at", "sign"]) (m_len : mg "len" = none) : Cal P w K mg base CX0 1 "is_at" ["signs", "at", "sign"] (spIsAt K) := by
  refine D.cal (k := 0) sc_is_at (fun vs H Q E h => ?_) fun f cdv A outer s H vs Q E hr h => ?_
  · obtain ⟨S, a, v, L, c, rfl, _⟩ := h
    rfl
  · obtain ⟨S, a, v, L, c, rfl, hS, hf, hv, hc, q⟩ := h
    refine ⟨_, (pss_one (ps_ret (pe_and (pe_cmpR op_lt (pv 1) (pe_callB call_len_seq (by rfl) m_len (by decide +kernel) (pa_cons (pv 0) pa_nil)) (nomark _)) (pe_one (pe_cmpR (op_eqD hr.r.units) (pe_ix ix_list (pv 0) (pv 1) (fun _ _ => rfl)) (pv 2) (nomark _)))))), ?_⟩
    obtain ⟨vs, e, hl, ds⟩ := hS.len
    refine ⟨_, rfl, _, rfl, S, vs, rfl, .inl (.inl (.inl e)), _, _, rfl, rfl, _, rfl, ?_⟩
    by_cases ha : a < L.length
    · refine iteP (show (a : Int) < (vs.length : Int) by omega) ?_
      obtain ⟨s, hs, hd⟩ := dropC ha
      obtain ⟨u, hu, du⟩ := ds.at (i := a) (d := s.d) (by rw [List.getElem?_map, hs]; rfl)
      have fs := hf s (List.mem_of_getElem? hs)
      refine ⟨_, rfl, _, rfl, S, vs, _, u, rfl, rfl, .inl (.inl e), atI_nat hu, _, rfl, s.d, (Sg.mark c).d, du.dp, hv.dp, (fit_ok fs).shaped, (fit_ok (s := .mark c) (decide_eq_true hc)).shaped, ?_⟩
      rw [hd] at q
      rw [eqv_mark]
      cases s with
      | mark c' => exact q
      | _ => exact q
    · refine iteN (show ¬ (a : Int) < (vs.length : Int) by omega) ?_
      rw [List.drop_eq_nil_of_le (by omega)] at q
      exact q
theorem c_if_scalar {ts : List Addr} (D : DefAt K mg "_if_scalar" s_if_scalar ["thing"]) (c_is_scalar : Cal P w K mg base CX0 4 "is_scalar" ["thing"] (spData K ts Rv.isScalarD)) : Cal P w K mg base CX0 5 "_if_scalar" ["thing"] (spIf K ts) := by
  refine D.cal (k := 4) sc_if_scalar (fun vs H Q E h => ?_) fun f cdv A outer s H vs Q E hr h => ?_
  · obtain ⟨v, d, rfl, _⟩ := h
    rfl
  · obtain ⟨v, d, rfl, hv, ok, hT, q⟩ := h
    refine ⟨_, (pss_one (ps_ret (pe_ifExp (pt_val (pe_cal (c_is_scalar.mono (by omega)) hr (by rfl) (pa_cons (pv 0) pa_nil))) (pv 0) pe_non))), ?_⟩
    refine ⟨_, rfl, v, d, rfl, hv, ok, hT, fun H' k => ⟨_, rfl, ?_⟩⟩
    have q := q H' k
    cases e : Rv.isScalarD d with
    | true =>
      rw [e] at q
      exact iteT ⟨_, rfl, q⟩
    | false =>
      rw [e] at q
      exact iteF q
theorem c_sign_at {C : Addr} (D : DefAt K mg "_sign_at" s_sign_at ["signs", "at"]) (BN_BadExpression : BadN K mg "BadExpression" C) (m_len : mg "len" = none) : CalX P w K mg base 1 "_sign_at" ["signs", "at"] (spSignAt K C) := by
  refine D.calX (k := 0) sc_sign_at (fun vs H Q E h => ?_) fun f cdv A outer s H vs Q E hr h => ?_
  · obtain ⟨S, a, L, rfl, _⟩ := h
    rfl
  · obtain ⟨S, a, L, rfl, hS, h⟩ := h
    refine ⟨_, (pss_cons (ps_if (pt_cmpR op_ge (pv 1) (pe_callB call_len_seq (by rfl) m_len (by decide +kernel) (pa_cons (pv 0) pa_nil)) (nomark _)) (pss_one (ps_bad0 BN_BadExpression rfl (takes_of rfl rfl rfl rfl) (by rfl))) pss_nil)
  (pss_one (ps_ret (pe_ix ix_list (pv 0) (pv 1) (fun _ _ => rfl))))), ?_⟩
    obtain ⟨vs, e, hl, ds⟩ := hS.len
    refine ⟨_, rfl, _, rfl, S, vs, rfl, .inl (.inl (.inl e)), _, _, rfl, rfl, _, rfl, ?_⟩
    by_cases ha : a < L.length
    · obtain ⟨s, hs, hd⟩ := dropC ha
      rw [hd] at h
      obtain ⟨u, hu, du⟩ := ds.at (i := a) (d := s.d) (by rw [List.getElem?_map, hs]; rfl)
      refine iteN (show ¬ (vs.length : Int) ≤ (a : Int) by omega) ?_
      exact ⟨_, rfl, _, rfl, S, vs, _, u, rfl, rfl, .inl (.inl e), atI_nat hu, h u du⟩
    · rw [List.drop_eq_nil_of_le (by omega)] at h
      exact iteP (show (vs.length : Int) ≤ (a : Int) by omega) h
theorem c_behind {C : Addr} (D : DefAt K mg "_behind" s_behind ["signs", "at", "sign"]) (BN_BadExpression : BadN K mg "BadExpression" C) (c_is_at : Cal P w K mg base CX0 1 "is_at" ["signs", "at", "sign"] (spIsAt K)) : CalX P w K mg base 2 "_behind" ["signs", "at", "sign"] (spBehind K C) := by
  refine D.calX (k := 1) sc_behind (fun vs H Q E h => ?_) fun f cdv A outer s H vs Q E hr h => ?_
  · obtain ⟨S, a, v, L, c, rfl, _⟩ := h
    rfl
  · obtain ⟨S, a, v, L, c, rfl, hS, hf, hv, hc, h⟩ := h
    refine ⟨_, (pss_cons (ps_if (pt_not (pt_val (pe_cal (c_is_at.mono (by omega)) hr (by rfl) (pa_cons (pv 0) (pa_cons (pv 1) (pa_cons (pv 2) pa_nil)))))) (pss_one (ps_bad0 BN_BadExpression rfl (takes_of rfl rfl rfl rfl) (by rfl))) pss_nil)
  (pss_one (ps_ret (pe_op op_add (pv 1) pe_int)))), ?_⟩
    refine ⟨_, rfl, _, rfl, _, rfl, S, a, v, L, c, rfl, hS, hf, hv, hc, _, rfl, ?_⟩
    cases e : atMark c (L.drop a) with
    | true =>
      rw [e] at h
      exact iteF ⟨_, rfl, _, _, rfl, rfl, h⟩
    | false =>
      rw [e] at h
      exact iteT h
end
end Rx

namespace Rx
open PySem PySem.Spec PyProof.Rows L2 GxR Gx Gd Rs
theorem eqv_pair (a b : Str) (x y : PyData) : PyData.eqv (.tuple [.str a, x]) (.tuple [.str b, y]) = (a == b && PyData.eqv x y) := by
  simp only [PyData.eqv, PyData.eqvAll, Bool.and_true]
theorem eqv_str (a b : Str) : PyData.eqv (.str a) (.str b) = (a == b) := by simp only [PyData.eqv]
theorem sx_is (l : List Nat) (s : String) : (sx l == Str.ofString s) = decide (l = cs s) := by
  have e : Str.ofString s = sx (cs s) := (sx_of _).symm
  rw [e, sx_beq]
theorem dec_sx (l : List Nat) (s : String) : decide (V.str (sx l) = V.str (Str.ofString s)) = decide (l = cs s) := by
  have e : Str.ofString s = sx (cs s) := (sx_of _).symm
  rw [e, Bool.eq_iff_iff, decide_eq_true_eq, decide_eq_true_eq]
  exact ⟨fun h => sx_inj (V.str.inj h), fun h => by rw [h]⟩
/-- a pair of a word and something -/
theorem dt_pair {K : PySem.W.Frag} {H : Hp} {v : V} {a b : PyData} (h : Dt K H v (.tuple [a, b])) : ∃ p x y, v = .ref p ∧ SqT K H p [x, y] ∧ Dt K H x a ∧ Dt K H y b := by
  cases h with
  | tup h hs =>
    cases hs with
    | cons h1 hs =>
      cases hs with
      | cons h2 hs =>
        cases hs
        exact ⟨_, _, _, rfl, h, h1, h2⟩
theorem new_pair {K : PySem.W.Frag} {H : Hp} {p : Addr} {x y : V} {a b : PyData} (hp : H p = none) (hx : Dt K H x a) (hy : Dt K H y b) : Kp H (upd H p (.tup [x, y])) ∧ Dt K (upd H p (.tup [x, y])) (.ref p) (.tuple [a, b]) :=
  ⟨Kb.new hp, .tup (SqT.of upd_same) (.cons (hx.kb (Kb.new hp) Lsts.nil) (.cons (hy.kb (Kb.new hp) Lsts.nil) .nil))⟩
theorem rd_tail {K : PySem.W.Frag} {H : Hp} {Q : VK} {p : Addr} {wd : String} {l : List Nat} {nm : Bool} {d : PyData} (hp : SqT K H p [.str (Str.ofString wd), .str (sx l)]) (hv : Dt K H (.ref p) d) (hd : d = .tuple [.str (Str.ofString wd), .str (sx l)]) (e : (Str.ofString wd == Str.ofString "name") = nm) (ok : OkD d)
    (qn : nm = true → l = cs "none" → ∀ H' u, Kp H H' → Dt K H' u noneS → Q u H') (qt : nm = true → l = cs "true" → ∀ H' u, Kp H H' → Dt K H' u (.tuple [.str "bool", .bool true]) → Q u H')
    (qf : nm = true → l = cs "false" → ∀ H' u, Kp H H' → Dt K H' u (.tuple [.str "bool", .bool false]) → Q u H') (qo : ¬ (nm = true ∧ (l = cs "none" ∨ l = cs "true" ∨ l = cs "false")) → ∀ H', Kp H H' → Q .non H') :
    (tSeq (tIfS (tTest (tOp (rEqD K) (tVar 0) (tTup (tCons (tC (.str (Str.ofString "name"))) (tCons (tC (.str (Str.ofString "none"))) tNil))))) (tRet (tTup (tCons (tC (.str (Str.ofString "none"))) tNil))) tNext)
      (tSeq (tIfS (tTest (tOp (rInT K) (tVar 0) (tTup (tCons (tTup (tCons (tC (.str (Str.ofString "name"))) (tCons (tC (.str (Str.ofString "true"))) tNil))) (tCons (tTup (tCons (tC (.str (Str.ofString "name"))) (tCons (tC (.str (Str.ofString "false"))) tNil))) tNil))))) (tRet (tTup (tCons (tC (.str (Str.ofString "bool"))) (tCons (tOp rEq (tVar 2) (tC (.str (Str.ofString "true")))) tNil)))) tNext)
        (tRet (tC .non)))) { nx := fun _ H' => Q .non H', rt := Q } [some (.ref p), some (.str (Str.ofString wd)), some (.str (sx l))] H := by
  have e' : (Str.ofString "name" == Str.ofString wd) = nm := by rw [← e, Bool.eq_iff_iff, beq_iff_eq, beq_iff_eq, eq_comm]
  have sx_is' : ∀ s : String, (Str.ofString s == sx l) = decide (l = cs s) := fun s => by rw [← sx_is, Bool.eq_iff_iff, beq_iff_eq, beq_iff_eq, eq_comm]
  refine ⟨_, rfl, by show 2 ≤ sizeLine; decide, fun t ht => ?_⟩
  obtain ⟨k1, d1⟩ := new_pair (K := K) ht (.str (Str.ofString "name")) (.str (Str.ofString "none"))
  generalize upd H t (.tup [.str (Str.ofString "name"), .str (Str.ofString "none")]) = H1 at k1 d1 ⊢
  have v1 := hv.kb k1 Lsts.nil
  refine ⟨d, _, v1.dp, d1.dp, ok.shaped, by decide +kernel, _, rfl, ?_⟩
  rw [hd, eqv_pair, eqv_str, e, sx_is]
  by_cases hn : nm = true ∧ l = cs "none"
  · rw [hn.1, decide_eq_true hn.2]
    refine iteT ⟨by show 1 ≤ sizeLine; decide, fun t2 ht2 => qn hn.1 hn.2 _ _ (k1.trans (Kb.new ht2)) (.tup (SqT.of upd_same) (.cons (.str _) .nil))⟩
  · have e0 : (nm && decide (l = cs "none")) = false := by
      cases nm with
      | false => rfl
      | true => exact decide_eq_false fun z => hn ⟨rfl, z⟩
    rw [e0]
    refine iteF ?_
    refine ⟨_, rfl, by show 2 ≤ sizeLine; decide, fun t2 ht2 => ⟨by show 2 ≤ sizeLine; decide, fun t3 ht3 => ⟨by show 2 ≤ sizeLine; decide, fun t4 ht4 => ?_⟩⟩⟩
    obtain ⟨k2, d2⟩ := new_pair (K := K) ht2 (.str (Str.ofString "name")) (.str (Str.ofString "true"))
    generalize upd H1 t2 (.tup [.str (Str.ofString "name"), .str (Str.ofString "true")]) = H2 at k2 d2 ht3 ht4 ⊢
    obtain ⟨k3, d3⟩ := new_pair (K := K) ht3 (.str (Str.ofString "name")) (.str (Str.ofString "false"))
    generalize upd H2 t3 (.tup [.str (Str.ofString "name"), .str (Str.ofString "false")]) = H3 at k3 d3 ht4 ⊢
    have d2' := d2.kb k3 Lsts.nil
    have k4 : Kp H3 (upd H3 t4 (.tup [.ref t2, .ref t3])) := Kb.new ht4
    have d4 : Dt K (upd H3 t4 (.tup [.ref t2, .ref t3])) (.ref t4) (.tuple [.tuple [.str (Str.ofString "name"), .str (Str.ofString "true")], .tuple [.str (Str.ofString "name"), .str (Str.ofString "false")]]) :=
      .tup (SqT.of upd_same) (.cons (d2'.kb k4 Lsts.nil) (.cons (d3.kb k4 Lsts.nil) .nil))
    generalize upd H3 t4 (.tup [.ref t2, .ref t3]) = H4 at k4 d4 ⊢
    have k14 := ((k1.trans k2).trans k3).trans k4
    have v4 := hv.kb k14 Lsts.nil
    refine ⟨d, _, v4.dp, d4.dp, ok.shaped, by decide +kernel, _, rfl, ?_⟩
    have ea : ([PyData.tuple [.str (Str.ofString "name"), .str (Str.ofString "true")], .tuple [.str (Str.ofString "name"), .str (Str.ofString "false")]].any fun z => PyData.eqv z d) = (nm && (decide (l = cs "true") || decide (l = cs "false"))) := by
      show (PyData.eqv _ d || (PyData.eqv _ d || false)) = _
      rw [hd, eqv_pair, eqv_pair, eqv_str, eqv_str, e', sx_is', sx_is', Bool.or_false]
      cases nm <;> rfl
    rw [ea]
    by_cases ht : nm = true ∧ (l = cs "true" ∨ l = cs "false")
    · rw [ht.1, show (decide (l = cs "true") || decide (l = cs "false")) = true by rcases ht.2 with z | z <;> simp [z]]
      refine iteT ⟨_, rfl, rfl, by show 2 ≤ sizeLine; decide, fun t5 ht5 => ?_⟩
      rw [dec_sx]
      obtain ⟨k5, d5⟩ := new_pair (K := K) ht5 (.str (Str.ofString "bool")) (.bl (decide (l = cs "true")))
      rcases ht.2 with z | z
      · rw [decide_eq_true z] at k5 d5 ⊢
        exact qt ht.1 z _ _ (k14.trans k5) d5
      · have nz : ¬ l = cs "true" := by rw [z]; decide +kernel
        rw [decide_eq_false nz] at k5 d5 ⊢
        exact qf ht.1 z _ _ (k14.trans k5) d5
    · have e0 : (nm && (decide (l = cs "true") || decide (l = cs "false"))) = false := by
        cases nm with
        | false => rfl
        | true =>
          have a1 : ¬ l = cs "true" := fun z => ht ⟨rfl, .inl z⟩
          have a2 : ¬ l = cs "false" := fun z => ht ⟨rfl, .inr z⟩
          rw [decide_eq_false a1, decide_eq_false a2]
          rfl
      rw [e0]
      refine iteF (qo (fun z => ?_) H4 k14)
      rcases z.2 with y | y | y
      · exact hn ⟨z.1, y⟩
      · exact ht ⟨z.1, .inl y⟩
      · exact ht ⟨z.1, .inr y⟩
section
variable {P : Program} {w : World} {K : PySem.W.Frag} {mg : Str → Option Value} {base : Heap}
theorem c_scalar_of {ts : List Addr} (D : DefAt K mg "scalar_of" s_scalar_of ["sign"]) (c__if_scalar : Cal P w K mg base CX0 5 "_if_scalar" ["thing"] (spIf K ts)) : Cal P w K mg base CX0 6 "scalar_of" ["sign"] (spScalar K ts) := by
  refine D.cal (k := 5) sc_scalar_of (fun vs H Q E h => ?_) fun f cdv A outer s H vs Q E hr h => ?_
  · obtain ⟨v, s, rfl, _⟩ := h
    rfl
  · obtain ⟨v, sg, rfl, hv, hf, hT, q⟩ := h
    refine ⟨_, (pss_cons (ps_asg (pv 0) (pg_tup rfl (pgs_cons (pg_name (i := 1) sc_scalar_of.nd rfl (Or.inl rfl)) (pgs_cons (pg_name (i := 2) sc_scalar_of.nd rfl (Or.inl rfl)) pgs_nil))))
  (pss_cons (ps_if (pt_cmpR op_eq (pv 1) pe_str (nomark _)) (pss_one (ps_ret (pe_cal (c__if_scalar.mono (by omega)) hr (by rfl) (pa_cons (pe_tup (pa_cons pe_str (pa_cons (pv 2) pa_nil))) pa_nil)))) pss_nil)
  (pss_cons (ps_if (pt_cmpR op_eq (pv 1) pe_str (nomark _)) (pss_one (ps_ret (pe_cal (c__if_scalar.mono (by omega)) hr (by rfl) (pa_cons (pe_tup (pa_cons pe_str (pa_cons (pv 2) pa_nil))) pa_nil)))) pss_nil)
  (pss_cons (ps_if (pt_cmpR (op_eqD hr.r.units) (pv 0) (pe_tup (pa_cons pe_str (pa_cons pe_str pa_nil))) (nomark _)) (pss_one (ps_ret (pe_tup (pa_cons pe_str pa_nil)))) pss_nil)
  (pss_cons (ps_if (pt_cmpR (op_inT (hu_units hr)) (pv 0) (pe_tup (pa_cons (pe_tup (pa_cons pe_str (pa_cons pe_str pa_nil))) (pa_cons (pe_tup (pa_cons pe_str (pa_cons pe_str pa_nil))) pa_nil))) (by rfl)) (pss_one (ps_ret (pe_tup (pa_cons pe_str (pa_cons (pe_cmpR op_eq (pv 2) pe_str (nomark _)) pa_nil))))) pss_nil)
  (pss_one (ps_ret pe_non))))))), ?_⟩
    -- what a text or a number gives
    have made : ∀ (wd : String) (y : V) (dy : PyData), Dt K H y dy → okN 1 dy = true → scalarOf sg = (if Rv.isScalarD (.tuple [.str (Str.ofString wd), dy]) = true then some (.tuple [.str (Str.ofString wd), dy]) else none) → okN 1 (.str (Str.ofString wd)) = true →
        ∀ p, H p = none → spIf K ts [.ref p] (upd H p (.tup [.str (Str.ofString wd), y])) Q E := fun wd y dy hy oky e okw p hp => by
      obtain ⟨k1, d1⟩ := new_pair hp (.str (Str.ofString wd)) hy
      refine ⟨_, _, rfl, d1, okPair okw oky, fun T hm => k1.tab T (hT T hm), fun H' k => ?_⟩
      have q := q H'
      rw [e] at q
      cases es : Rv.isScalarD (.tuple [.str (Str.ofString wd), dy]) with
      | true =>
        rw [es] at q
        exact q _ (k1.trans k) ⟨(fun z => by cases z), d1.kb k Lsts.nil⟩
      | false =>
        rw [es] at q
        exact q _ (k1.trans k) rfl
    -- a mark gives nothing, a name what it says
    cases sg with
    | name l =>
      obtain ⟨p, x, y, rfl, hp, hx, hy⟩ := dt_pair hv
      cases hx
      cases hy
      refine ⟨_, rfl, p, _, rfl, hp, rfl, _, _, rfl, _, _, rfl, rfl, ?_⟩
      refine ⟨_, rfl, rfl, _, rfl, iteN (show ¬ V.str (Str.ofString "name") = V.str (Str.ofString "quoted") by decide +kernel) ⟨_, rfl, rfl, _, rfl, iteN (show ¬ V.str (Str.ofString "name") = V.str (Str.ofString "number") by decide +kernel) ?_⟩⟩
      refine rd_tail (nm := true) hp hv rfl (by decide +kernel) (okPair (by decide +kernel) (okS hf 1)) (fun _ h H' u k d => ?_) (fun _ h H' u k d => ?_) (fun _ h H' u k d => ?_) (fun h H' k => ?_)
      · have q := q H' u k
        rw [scalar_name, if_pos h] at q
        exact q ⟨(fun z => by rw [z] at d; cases d), d⟩
      · have q := q H' u k
        rw [scalar_name, if_neg (by rw [h]; decide +kernel), if_pos h] at q
        exact q ⟨(fun z => by rw [z] at d; cases d), d⟩
      · have q := q H' u k
        rw [scalar_name, if_neg (by rw [h]; decide +kernel), if_neg (by rw [h]; decide +kernel), if_pos h] at q
        exact q ⟨(fun z => by rw [z] at d; cases d), d⟩
      · have q := q H' .non k
        rw [scalar_name, if_neg (fun z => h ⟨rfl, .inl z⟩), if_neg (fun z => h ⟨rfl, .inr (.inl z)⟩), if_neg (fun z => h ⟨rfl, .inr (.inr z)⟩)] at q
        exact q rfl
    | num n =>
      obtain ⟨p, x, y, rfl, hp, hx, hy⟩ := dt_pair hv
      cases hx
      cases hy
      refine ⟨_, rfl, p, _, rfl, hp, rfl, _, _, rfl, _, _, rfl, rfl, ?_⟩
      refine ⟨_, rfl, rfl, _, rfl, iteN (show ¬ V.str (Str.ofString "number") = V.str (Str.ofString "quoted") by decide +kernel) ⟨_, rfl, rfl, _, rfl, iteP (show V.str (Str.ofString "number") = V.str (Str.ofString "number") from rfl) ?_⟩⟩
      exact ⟨_, rfl, by show 2 ≤ sizeLine; decide, fun p2 hp2 => made "int" _ _ (.int _) (okI (of_decide_eq_true hf) 1) rfl (by decide +kernel) p2 hp2⟩
    | quo l =>
      obtain ⟨p, x, y, rfl, hp, hx, hy⟩ := dt_pair hv
      cases hx
      cases hy
      refine ⟨_, rfl, p, _, rfl, hp, rfl, _, _, rfl, _, _, rfl, rfl, ?_⟩
      refine ⟨_, rfl, rfl, _, rfl, iteP (show V.str (Str.ofString "quoted") = V.str (Str.ofString "quoted") from rfl) ?_⟩
      exact ⟨_, rfl, by show 2 ≤ sizeLine; decide, fun p2 hp2 => made "text" _ _ (.str _) (okS hf 1) rfl (by decide +kernel) p2 hp2⟩
    | mark c =>
      obtain ⟨p, x, y, rfl, hp, hx, hy⟩ := dt_pair hv
      cases hx
      cases hy
      refine ⟨_, rfl, p, _, rfl, hp, rfl, _, _, rfl, _, _, rfl, rfl, ?_⟩
      refine ⟨_, rfl, rfl, _, rfl, iteN (show ¬ V.str (Str.ofString "mark") = V.str (Str.ofString "quoted") by decide +kernel) ⟨_, rfl, rfl, _, rfl, iteN (show ¬ V.str (Str.ofString "mark") = V.str (Str.ofString "number") by decide +kernel) ?_⟩⟩
      exact rd_tail (nm := false) hp hv rfl (by decide +kernel) (fit_ok hf) (fun h => by cases h) (fun h => by cases h) (fun h => by cases h) (fun h H' k => q H' .non k rfl)
end
end Rx

namespace Rx
open PySem PySem.Spec PyProof.Rows L2 GxR Gx Gd Rs
abbrev s_read_entry : Stmt := topS 54
theorem sc_read_entry : FnScope ["signs", "at", "kind", "key", "scalar"] ["signs", "at"] (defScope s_read_entry) := ⟨rfl, rfl, rfl, by decide +kernel, rfl, by decide +kernel, by decide +kernel⟩
theorem kind_quo (s : Sg) : decide (V.str (kindOf s) = V.str (Str.ofString "quoted")) = isQuo s := by
  cases s
  · exact decide_eq_false (show ¬ V.str (Str.ofString "name") = V.str (Str.ofString "quoted") by decide +kernel)
  · exact decide_eq_false (show ¬ V.str (Str.ofString "number") = V.str (Str.ofString "quoted") by decide +kernel)
  · exact decide_eq_true rfl
  · exact decide_eq_false (show ¬ V.str (Str.ofString "mark") = V.str (Str.ofString "quoted") by decide +kernel)
theorem ok_scalar {s : Sg} {d : PyData} (hf : fit s = true) (h : scalarOf s = some d) : okN 2 d = true := by
  cases s with
  | name l =>
    rw [scalar_name] at h
    split at h
    · cases h; decide +kernel
    · split at h
      · cases h; decide +kernel
      · split at h
        · cases h; decide +kernel
        · cases h
  | num n =>
    rw [scalar_num] at h
    split at h
    · cases h
      show (decide ((2 : Nat) ≤ 1000) && (okN 1 _ && (okN 1 _ && true))) = true
      rw [okI (of_decide_eq_true hf) 1, show okN 1 (PyData.str (Str.ofString "int")) = true by decide +kernel]; rfl
    · cases h
  | quo l =>
    rw [scalar_quo] at h
    split at h
    · cases h
      show (decide ((2 : Nat) ≤ 1000) && (okN 1 _ && (okN 1 _ && true))) = true
      rw [okS hf 1, show okN 1 (PyData.str (Str.ofString "text")) = true by decide +kernel]; rfl
    · cases h
  | mark c => cases h
def ErrN (C : Addr) (H : Hp) (E : XK) : Prop := ∀ H', Kp H H' → E (.ref C) none H'
/-- a pair of what is read and the index behind it, or the error -/
def Res (K : PySem.W.Frag) (C : Addr) (L : List Sg) (H : Hp) (Q : VK) (E : XK) : Option (PyData × List Sg) → Prop
  | none => ErrN C H E
  | some (d, r) => ∀ H' u (a : Nat), Kp H H' → L.drop a = r → a ≤ L.length → Dt K H' u (.tuple [d, .int (a : Int)]) → Q u H'
theorem Res.kp {K : PySem.W.Frag} {C : Addr} {L : List Sg} {H H1 : Hp} {Q : VK} {E : XK} {o : Option (PyData × List Sg)} (h : Res K C L H Q E o) (k : Kp H H1) : Res K C L H1 Q E o := by
  cases o with
  | none => exact fun H' k' => h H' (k.trans k')
  | some p => exact fun H' u a k' => h H' u a (k.trans k')
def spEnt (K : PySem.W.Frag) (C : Addr) (ts : List Addr) : Sp := fun vs H Q E => ∃ (S : Addr) (at' : Nat) (L : List Sg), vs = [.ref S, .int (at' : Int)] ∧ Sgs K H S L ∧ (∀ s ∈ L, fit s = true) ∧ (∀ T ∈ ts, TabG H T) ∧ Res K C L H Q E (rdEnt (L.drop at'))
theorem drop_tail {α : Type} (L : List α) (a : Nat) : (L.drop a).tail = L.drop (a + 1) := by rw [List.tail_drop]
theorem drop_some {α : Type} {L : List α} {a : Nat} {s : α} {r : List α} (h : L.drop a = s :: r) : a < L.length ∧ L.drop (a + 1) = r ∧ s ∈ L := by
  have h1 : a < L.length := by
    cases Nat.lt_or_ge a L.length with
    | inl h => exact h
    | inr z => rw [List.drop_eq_nil_of_le z] at h; cases h
  refine ⟨h1, ?_, ?_⟩
  · rw [← drop_tail, h]; rfl
  · exact List.mem_of_mem_drop (by rw [h]; exact List.mem_cons_self)
section
variable {P : Program} {w : World} {K : PySem.W.Frag} {mg : Str → Option Value} {base : Heap}
theorem c_read_entry {C aC : Addr} {ts : List Addr} (D : DefAt K mg "_read_entry" s_read_entry ["signs", "at"]) (BN_BadExpression : BadN K mg "BadExpression" C) (g_COMMA : mg "COMMA" = some (.ref aC)) (hC : ∀ H, Dt K H (.ref aC) (Sg.mark 44).d)
    (c__sign_at : CalX P w K mg base 1 "_sign_at" ["signs", "at"] (spSignAt K C)) (c__behind : CalX P w K mg base 2 "_behind" ["signs", "at", "sign"] (spBehind K C)) (c_scalar_of : Cal P w K mg base CX0 6 "scalar_of" ["sign"] (spScalar K ts)) : CalX P w K mg base 7 "_read_entry" ["signs", "at"] (spEnt K C ts) := by
  refine D.calX (k := 6) sc_read_entry (fun vs H Q E h => ?_) fun f cdv A outer s H vs Q E hr h => ?_
  · obtain ⟨S, a, L, rfl, _⟩ := h
    rfl
  · obtain ⟨S, a, L, rfl, hS, hf, hT, h⟩ := h
    refine ⟨_, (pss_cons (ps_asg (pe_calX (c__sign_at.mono (by omega)) hr (by rfl) (fun σ => passAt (takes_of rfl rfl rfl rfl) σ) (pa_cons (pv 0) (pa_cons (pv 1) pa_nil))) (pg_tup rfl (pgs_cons (pg_name (i := 2) sc_read_entry.nd rfl (Or.inl rfl)) (pgs_cons (pg_name (i := 3) sc_read_entry.nd rfl (Or.inl rfl)) pgs_nil))))
  (pss_cons (ps_set (i := 1) sc_read_entry.nd rfl (Or.inl rfl) (pe_calX (c__behind.mono (by omega)) hr (by rfl) (fun σ => passAt (takes_of rfl rfl rfl rfl) σ) (pa_cons (pv 0) (pa_cons (pe_op op_add (pv 1) pe_int) (pa_cons (pe_glob (v := .ref aC) rfl g_COMMA rfl) pa_nil)))))
  (pss_cons (ps_set (i := 4) sc_read_entry.nd rfl (Or.inl rfl) (pe_cal (c_scalar_of.mono (by omega)) hr (by rfl) (pa_cons (pe_calX (c__sign_at.mono (by omega)) hr (by rfl) (fun σ => passAt (takes_of rfl rfl rfl rfl) σ) (pa_cons (pv 0) (pa_cons (pv 1) pa_nil))) pa_nil)))
  (pss_cons (ps_if (PW.pt (pw_or (pt_cmpR op_ne (pv 2) pe_str (nomark _)) (pw_or1 (pt_cmpR op_isN (pv 4) pe_non (nomark _))))) (pss_one (ps_bad0 BN_BadExpression rfl (takes_of rfl rfl rfl rfl) (by rfl))) pss_nil)
  (pss_one (ps_ret (pe_tup (pa_cons (pe_tup (pa_cons (pv 3) (pa_cons (pv 4) pa_nil))) (pa_cons (pe_op op_add (pv 1) pe_int) pa_nil))))))))), ?_⟩
    refine ⟨_, rfl, _, rfl, S, a, L, rfl, hS, ?_⟩
    cases e1 : L.drop a with
    | nil =>
      rw [e1] at h
      exact h H (Kb.refl H)
    | cons s1 r1 =>
      obtain ⟨ha, er1, hm1⟩ := drop_some e1
      rw [e1, rdEnt_cons] at h
      intro v1 d1
      rw [d_eq] at d1
      obtain ⟨p, x, y, rfl, hp, hx, hy⟩ := dt_pair d1
      cases hx
      refine ⟨p, _, rfl, hp, rfl, _, _, rfl, _, _, rfl, rfl, ?_⟩
      refine ⟨_, rfl, _, rfl, _, 1, rfl, rfl, S, a + 1, .ref aC, L, 44, rfl, hS, hf, hC H, by decide, ?_⟩
      rw [er1]
      cases e2 : atMark 44 r1 with
      | false =>
        rw [e2] at h
        exact h H (Kb.refl H)
      | true =>
        rw [e2] at h
        have h : Res K C L H Q E (match r1.tail with
          | [] => none
          | s2 :: r2 => match scalarOf s2 with
            | none => none
            | some v => if isQuo s1 = true then some (.tuple [contOf s1, v], r2) else none) := h
        have et : L.drop (a + 2) = r1.tail := by rw [← er1, drop_tail]
        refine ⟨_, rfl, _, rfl, S, a + 2, L, rfl, hS, ?_⟩
        rw [et]
        cases e3 : r1.tail with
        | nil =>
          rw [e3] at h
          exact h H (Kb.refl H)
        | cons s2 r2 =>
          rw [e3] at h et
          obtain ⟨ha2, er2, hm2⟩ := drop_some et
          intro v2 d2
          refine ⟨v2, s2, rfl, d2, hf s2 hm2, hT, fun H2 u k2 hu => ?_⟩
          refine ⟨_, rfl, rfl, _, rfl, ?_⟩
          have h : Res K C L H Q E (match scalarOf s2 with
            | none => none
            | some v => if isQuo s1 = true then some (.tuple [contOf s1, v], r2) else none) := h
          rw [kind_quo]
          cases eq : isQuo s1 with
          | false =>
            rw [eq] at h
            have h : ErrN C H E := by
              cases es : scalarOf s2 with
              | none => rw [es] at h; exact h
              | some v => rw [es] at h; exact h
            exact iteT (iteT (h H2 k2))
          | true =>
            rw [eq] at h
            cases es : scalarOf s2 with
            | none =>
              rw [es] at h hu
              subst hu
              exact iteF ⟨_, rfl, rfl, _, rfl, iteP (show V.non = V.non from rfl) (h H2 k2)⟩
            | some dv =>
              rw [es] at h hu
              obtain ⟨hu1, hu2⟩ := hu
              have h : Res K C L H Q E (some (.tuple [contOf s1, dv], r2)) := h
              refine iteF ⟨_, rfl, rfl, _, rfl, iteN' hu1 ?_⟩
              refine ⟨_, rfl, _, rfl, by show 2 ≤ sizeLine; decide, fun q hq => ⟨_, rfl, _, 1, rfl, rfl, by show 2 ≤ sizeLine; decide, fun q2 hq2 => ?_⟩⟩
              obtain ⟨k3, d3⟩ := new_pair (K := K) hq (hy.kb k2 Lsts.nil) hu2
              generalize upd H2 q (.tup [y, u]) = H3 at k3 d3 hq2 ⊢
              obtain ⟨k4, d4⟩ := new_pair (K := K) hq2 d3 (.int (((a + 3 : Nat)) : Int))
              exact h _ _ (a + 3) ((k2.trans k3).trans k4) er2 (by omega) d4
end
end Rx

namespace Rx
open PySem PySem.Spec PyProof.Rows L2 GxR Gx Gd Rs
abbrev s_read_map : Stmt := topS 53
theorem sc_read_map : FnScope ["signs", "at", "entries", "entry", "value"] ["signs", "at"] (defScope s_read_map) := ⟨rfl, rfl, rfl, by decide +kernel, rfl, by decide +kernel, by decide +kernel⟩
def addE (es : List PyData) : Option (List PyData × List Sg) → Option (List PyData × List Sg)
  | none => none
  | some (xs, r) => some (es ++ xs, r)
theorem rdEnts_cons (n : Nat) (first : Bool) (r : List Sg) : rdEnts (n + 1) first r = if atMark 41 r = true then some ([], r.tail) else
    match (if first = true then some r else expect 44 r) with
    | none => none
    | some r1 => match rdEnt r1 with
      | none => none
      | some (e, r2) => match rdEnts n false r2 with
        | none => none
        | some (es, r3) => some (e :: es, r3) := rfl
theorem addE_addE (es : List PyData) (e : PyData) (o : Option (List PyData × List Sg)) : addE es (match o with | none => none | some (xs, r3) => some (e :: xs, r3)) = addE (es ++ [e]) o := by
  cases o with
  | none => rfl
  | some p => show some (es ++ (e :: p.1), p.2) = some ((es ++ [e]) ++ p.1, p.2); rw [List.append_assoc]; rfl
/-- what the entries give -/
def mapOf : Option (List PyData × List Sg) → Option (PyData × List Sg)
  | none => none
  | some (es, r) => if Rv.isValueD (.tuple [.str "map", .tuple es]) = true then some (.tuple [.str "literal", .tuple [.str "map", .tuple es]], r) else none
def toD (o : Option (Ex × List Sg)) : Option (PyData × List Sg) := match o with | none => none | some (e, r) => some (e.d, r)
theorem map_is (r : List Sg) : toD (rdMap r) = if atMark 40 r = true then mapOf (rdEnts (r.tail.length + 1) true r.tail) else none := by
  unfold rdMap expect
  cases atMark 40 r with
  | false => rfl
  | true =>
    show toD (match rdEnts (r.tail.length + 1) true r.tail with | none => none | some (es, r2) => _) = mapOf (rdEnts (r.tail.length + 1) true r.tail)
    cases rdEnts (r.tail.length + 1) true r.tail with
    | none => rfl
    | some p =>
      show toD (if Rv.isValueD (.tuple [.str "map", .tuple p.1]) = true then some (.lit (.tuple [.str "map", .tuple p.1]), p.2) else none) = if _ then _ else _
      split <;> rfl
theorem rdEnt_len {r r2 : List Sg} {e : PyData} (h : rdEnt r = some (e, r2)) : r2.length < r.length := by
  cases r with
  | nil => cases h
  | cons s r =>
    rw [rdEnt_cons] at h
    split at h
    · cases ht : r.tail with
      | nil => rw [ht] at h; cases h
      | cons s2 r3 =>
        rw [ht] at h
        have h : (match scalarOf s2 with | none => none | some v => if isQuo s = true then some (PyData.tuple [contOf s, v], r3) else none) = some (e, r2) := h
        cases hs : scalarOf s2 with
        | none => rw [hs] at h; cases h
        | some v =>
          rw [hs] at h
          have h : (if isQuo s = true then some (PyData.tuple [contOf s, v], r3) else none) = some (e, r2) := h
          split at h
          · cases h
            have := congrArg List.length ht
            rw [List.length_tail, List.length_cons] at this
            rw [List.length_cons]
            omega
          · cases h
    · cases h
theorem rdEnt_ok {r r2 : List Sg} {e : PyData} (hf : ∀ s ∈ r, fit s = true) (h : rdEnt r = some (e, r2)) : okN 3 e = true := by
  cases r with
  | nil => cases h
  | cons s r =>
    rw [rdEnt_cons] at h
    split at h
    · cases ht : r.tail with
      | nil => rw [ht] at h; cases h
      | cons s2 r3 =>
        rw [ht] at h
        have h : (match scalarOf s2 with | none => none | some v => if isQuo s = true then some (PyData.tuple [contOf s, v], r3) else none) = some (e, r2) := h
        cases hs : scalarOf s2 with
        | none => rw [hs] at h; cases h
        | some v =>
          rw [hs] at h
          have h : (if isQuo s = true then some (PyData.tuple [contOf s, v], r3) else none) = some (e, r2) := h
          have f2 : fit s2 = true := hf s2 (List.mem_cons_of_mem _ (List.mem_of_mem_tail (by rw [ht]; exact List.mem_cons_self)))
          have f1 := hf s List.mem_cons_self
          split at h
          · cases h
            have ok1 : okN 2 (contOf s) = true := by
              cases s with
              | quo l => exact okS f1 2
              | name l => exact okS f1 2
              | num n => exact okI (of_decide_eq_true f1) 2
              | mark c => exact okS (by
                  have h : decide (c < 1114112) = true := f1
                  show (decide ((1 : Nat) ≤ 1000) && (decide (c < 1114112) && true)) = true
                  rw [h]; rfl) 2
            show (decide ((2 : Nat) ≤ 1000) && (okN 2 (contOf s) && (okN 2 v && true))) = true
            rw [ok1, ok_scalar f2 hs]; rfl
          · cases h
    · cases h
theorem iteF' {b : Bool} {A B : Prop} (h : b = false) (q : B) : if b = true then A else B := by subst h; exact iteF q
theorem iteT' {b : Bool} {A B : Prop} (h : b = true) (q : A) : if b = true then A else B := by subst h; exact iteT q
theorem Res.imp {K : PySem.W.Frag} {C : Addr} {L : List Sg} {H : Hp} {Q Q' : VK} {E : XK} {o : Option (PyData × List Sg)} (q : ∀ u H', Q u H' → Q' u H') (h : Res K C L H Q E o) : Res K C L H Q' E o := by
  cases o with
  | none => exact h
  | some p => exact fun H' u a k e l d => q _ _ (h H' u a k e l d)
def spMap (K : PySem.W.Frag) (C : Addr) (ts : List Addr) : Sp := fun vs H Q E => ∃ (S : Addr) (at' : Nat) (L : List Sg), vs = [.ref S, .int (at' : Int)] ∧ Sgs K H S L ∧ (∀ s ∈ L, fit s = true) ∧ L.length ≤ 1000 ∧ (∀ T ∈ ts, TabG H T) ∧ Res K C L H Q E (toD (rdMap (L.drop at')))
section
variable {P : Program} {w : World} {K : PySem.W.Frag} {mg : Str → Option Value} {base : Heap}
theorem c_read_map {C aL aR aC : Addr} {ts : List Addr} (D : DefAt K mg "_read_map" s_read_map ["signs", "at"]) (BN_BadExpression : BadN K mg "BadExpression" C) (g_LEFT : mg "LEFT" = some (.ref aL)) (g_RIGHT : mg "RIGHT" = some (.ref aR)) (g_COMMA : mg "COMMA" = some (.ref aC))
    (hL : ∀ H, Dt K H (.ref aL) (Sg.mark 40).d) (hR : ∀ H, Dt K H (.ref aR) (Sg.mark 41).d) (hC : ∀ H, Dt K H (.ref aC) (Sg.mark 44).d) (m_tuple : mg "tuple" = none)
    (c_is_at : Cal P w K mg base CX0 1 "is_at" ["signs", "at", "sign"] (spIsAt K)) (c__behind : CalX P w K mg base 2 "_behind" ["signs", "at", "sign"] (spBehind K C)) (c__read_entry : CalX P w K mg base 7 "_read_entry" ["signs", "at"] (spEnt K C ts))
    (c_is_value : Cal P w K mg base CX0 8 "is_value" ["thing"] (spData K ts Rv.isValueD)) : CalX P w K mg base 9 "_read_map" ["signs", "at"] (spMap K C ts) := by
  refine D.calX (k := 8) sc_read_map (fun vs H Q E h => ?_) fun f cdv A outer s H vs Q E hr h => ?_
  · obtain ⟨S, a, L, rfl, _⟩ := h
    rfl
  · obtain ⟨S, a, L, rfl, hS, hf, hz, hT, h⟩ := h
    refine ⟨_, (pss_cons (ps_set (i := 1) sc_read_map.nd rfl (Or.inl rfl) (pe_calX (c__behind.mono (by omega)) hr (by rfl) (fun σ => passAt (takes_of rfl rfl rfl rfl) σ) (pa_cons (pv 0) (pa_cons (pv 1) (pa_cons (pe_glob (v := .ref aL) rfl g_LEFT rfl) pa_nil)))))
  (pss_cons (ps_set (i := 2) sc_read_map.nd rfl (Or.inl rfl) (pe_lst pa_nil))
  (pss_cons (ps_while (passes_of rfl) (pt_not (pt_val (pe_cal (c_is_at.mono (by omega)) hr (by rfl) (pa_cons (pv 0) (pa_cons (pv 1) (pa_cons (pe_glob (v := .ref aR) rfl g_RIGHT rfl) pa_nil)))))) (pss_cons (ps_if (pt_truth (pv 2) (by intro _; rfl)) (pss_one (ps_set (i := 1) sc_read_map.nd rfl (Or.inl rfl) (pe_calX (c__behind.mono (by omega)) hr (by rfl) (fun σ => passAt (takes_of rfl rfl rfl rfl) σ) (pa_cons (pv 0) (pa_cons (pv 1) (pa_cons (pe_glob (v := .ref aC) rfl g_COMMA rfl) pa_nil)))))) pss_nil)
  (pss_cons (ps_asg (pe_calX (c__read_entry.mono (by omega)) hr (by rfl) (fun σ => passAt (takes_of rfl rfl rfl rfl) σ) (pa_cons (pv 0) (pa_cons (pv 1) pa_nil))) (pg_tup rfl (pgs_cons (pg_name (i := 3) sc_read_map.nd rfl (Or.inl rfl)) (pgs_cons (pg_name (i := 1) sc_read_map.nd rfl (Or.inl rfl)) pgs_nil))))
  (pss_one (ps_expr (pe_bm PySem.F.plainAttrs_list PySem.F.slot_list_append PySem.F.type_list_append mt_append (pv 2) (pa_cons (pv 3) pa_nil)))))))
  (pss_cons (ps_set (i := 4) sc_read_map.nd rfl (Or.inl rfl) (pe_tup (pa_cons pe_str (pa_cons (pe_callTy call_tuple_of (by rfl) m_tuple (by decide +kernel) (pa_cons (pv 2) pa_nil)) pa_nil))))
  (pss_cons (ps_if (pt_not (pt_val (pe_cal (c_is_value.mono (by omega)) hr (by rfl) (pa_cons (pv 4) pa_nil)))) (pss_one (ps_bad0 BN_BadExpression rfl (takes_of rfl rfl rfl rfl) (by rfl))) pss_nil)
  (pss_one (ps_ret (pe_tup (pa_cons (pe_tup (pa_cons pe_str (pa_cons (pv 4) pa_nil))) (pa_cons (pe_op op_add (pv 1) pe_int) pa_nil)))))))))), ?_⟩
    refine ⟨_, rfl, _, rfl, S, a, .ref aL, L, 40, rfl, hS, hf, hL H, by decide, ?_⟩
    rw [map_is] at h
    cases e1 : atMark 40 (L.drop a) with
    | false =>
      rw [e1] at h
      exact h H (Kb.refl H)
    | true =>
      rw [e1, drop_tail] at h
      have h : Res K C L H Q E (mapOf (rdEnts ((L.drop (a + 1)).length + 1) true (L.drop (a + 1)))) := h
      generalize hR0 : rdEnts ((L.drop (a + 1)).length + 1) true (L.drop (a + 1)) = R0 at h
      have ha1 : a < L.length := by
        cases Nat.lt_or_ge a L.length with
        | inl z => exact z
        | inr z => rw [List.drop_eq_nil_of_le z] at e1; cases e1
      refine ⟨Nat.zero_le _, fun D hD => ?_⟩
      refine ⟨fun m σ H' => ∃ b n : Nat, m = L.length - b ∧ b ≤ L.length ∧ L.length - b < n ∧ (∃ o3 o4, σ = [some (.ref S), some (.int (b : Int)), some (.ref D), o3, o4]) ∧ ∃ (es : List PyData) (vs : List V), es.length ≤ b ∧ (∀ e ∈ es, okN 3 e = true) ∧ H' D = some (.lst vs) ∧ DtAll K H' vs es ∧ Kp H H' ∧ R0 = addE es (rdEnts n es.isEmpty (L.drop b)),
        ⟨_, a + 1, L.length - (a + 1) + 1, rfl, by omega, by omega, ⟨_, _, rfl⟩, [], [], Nat.zero_le _, (fun _ h => by cases h), upd_same, .nil, Kb.new hD, ?_⟩, ?_⟩
      · rw [← hR0, List.length_drop]
        have ae : ∀ o, o = addE [] o := fun o => by cases o <;> rfl
        exact ae _
      rintro m σ H1 ⟨b, n, rfl, hb, hn, ⟨o3, o4, rfl⟩, es, vs, hl, hok, eD, ds, k, e⟩
      obtain ⟨n, rfl⟩ : ∃ n', n = n' + 1 := ⟨n - 1, by omega⟩
      have hS1 := hS.kp k
      refine ⟨_, rfl, _, rfl, S, b, .ref aR, L, 41, rfl, hS1, hf, hR H1, by decide, _, rfl, ?_⟩
      rw [rdEnts_cons] at e
      cases e2 : atMark 41 (L.drop b) with
      | true =>
        rw [e2] at e
        have e : R0 = some (es ++ [], (L.drop b).tail) := e
        rw [List.append_nil, drop_tail] at e
        rw [e] at h
        have hb1 : b < L.length := by
          cases Nat.lt_or_ge b L.length with
          | inl z => exact z
          | inr z => rw [List.drop_eq_nil_of_le z] at e2; cases e2
        have lz : vs.length ≤ sizeLine := by
          have := ds.length
          have : sizeLine = 16777216 := rfl
          omega
        refine iteF ⟨_, rfl, D, vs, rfl, .inl ⟨.inl (.inl eD), fun t ht => ⟨by show 2 ≤ sizeLine; decide, fun t2 ht2 => ?_⟩⟩⟩
        have k2 : Kp H1 (upd H1 t (.tup vs)) := Kb.new ht
        have dt1 : Dt K (upd H1 t (.tup vs)) (.ref t) (.tuple es) := .tup (SqT.of upd_same) (DtAll.kb k2 Lsts.nil ds)
        generalize upd H1 t (.tup vs) = H2 at k2 dt1 ht2 ⊢
        obtain ⟨k3, d3⟩ := new_pair (K := K) ht2 (.str (Str.ofString "map")) dt1
        generalize upd H2 t2 (.tup [.str (Str.ofString "map"), .ref t]) = H3 at k3 d3 ⊢
        have k13 := (k.trans k2).trans k3
        have okm : okN 5 (.tuple [.str (Str.ofString "map"), .tuple es]) = true := by
          have e4 : okN 4 (.tuple es) = true := by
            show (decide (es.length ≤ 1000) && es.all (okN 3)) = true
            rw [decide_eq_true (by omega : es.length ≤ 1000), List.all_eq_true.mpr hok]; rfl
          show (decide ((2 : Nat) ≤ 1000) && (okN 4 _ && (okN 4 (.tuple es) && true))) = true
          rw [e4, show okN 4 (PyData.str (Str.ofString "map")) = true by decide +kernel]; rfl
        refine ⟨_, rfl, _, _, rfl, d3, ⟨5, by decide, okm⟩, fun T hm => k13.tab T (hT T hm), fun H4 k4 => ⟨_, rfl, ?_⟩⟩
        have h : Res K C L H Q E (if Rv.isValueD (.tuple [.str (Str.ofString "map"), .tuple es]) = true then some (.tuple [.str (Str.ofString "literal"), .tuple [.str (Str.ofString "map"), .tuple es]], L.drop (b + 1)) else none) := h
        have k14 := k13.trans k4
        cases ev : Rv.isValueD (.tuple [.str (Str.ofString "map"), .tuple es]) with
        | false =>
          rw [ev] at h
          exact iteT (h H4 k14)
        | true =>
          rw [ev] at h
          have h : Res K C L H Q E (some (.tuple [.str (Str.ofString "literal"), .tuple [.str (Str.ofString "map"), .tuple es]], L.drop (b + 1))) := h
          refine iteF ⟨_, rfl, by show 2 ≤ sizeLine; decide, fun t3 ht3 => ⟨_, rfl, _, 1, rfl, rfl, by show 2 ≤ sizeLine; decide, fun t4 ht4 => ?_⟩⟩
          obtain ⟨k5, d5⟩ := new_pair (K := K) ht3 (.str (Str.ofString "literal")) (d3.kb k4 Lsts.nil)
          generalize upd H4 t3 (.tup [.str (Str.ofString "literal"), .ref t2]) = H5 at k5 d5 ht4 ⊢
          obtain ⟨k6, d6⟩ := new_pair (K := K) ht4 d5 (.int ((b + 1 : Nat) : Int))
          exact h _ _ (b + 1) ((k14.trans k5).trans k6) rfl (by omega) d6
      | false =>
        rw [e2] at e
        have e : R0 = addE es (match (if es.isEmpty = true then some (L.drop b) else expect 44 (L.drop b)) with
          | none => none
          | some r1 => match rdEnt r1 with
            | none => none
            | some (e, r2) => match rdEnts n false r2 with
              | none => none
              | some (es, r3) => some (e :: es, r3)) := e
        refine iteT ⟨fun σ' H' => ∃ b' : Nat, b < b' ∧ b' ≤ L.length ∧ (∃ o3 o4, σ' = [some (.ref S), some (.int (b' : Int)), some (.ref D), o3, o4]) ∧ ∃ (es : List PyData) (vs : List V), es.length ≤ b' ∧ (∀ e ∈ es, okN 3 e = true) ∧ H' D = some (.lst vs) ∧ DtAll K H' vs es ∧ Kp H H' ∧ R0 = addE es (rdEnts n es.isEmpty (L.drop b')),
          fun σ' H' ⟨b', z1, z2, z3, z4⟩ => ⟨_, by omega, b', n, rfl, z2, by omega, z3, z4⟩, ?_⟩
        -- the entry, from b1 on
        have ent : ∀ b1 : Nat, b ≤ b1 → b1 ≤ L.length → R0 = addE es (match rdEnt (L.drop b1) with
            | none => none
            | some (e, r2) => match rdEnts n false r2 with
              | none => none
              | some (es, r3) => some (e :: es, r3)) → Res K C L H1 (fun u H2 => ∃ (p : Addr) (x : V) (b' : Nat) (d : PyData), u = .ref p ∧ SqT K H2 p [x, .int (b' : Int)] ∧ Dt K H2 x d ∧ Kp H1 H2 ∧ b1 < b' ∧ b' ≤ L.length ∧ okN 3 d = true ∧ R0 = addE (es ++ [d]) (rdEnts n false (L.drop b'))) E (rdEnt (L.drop b1)) := fun b1 h1 h2 e => by
          cases er : rdEnt (L.drop b1) with
          | none =>
            rw [er] at e
            have e : R0 = none := e
            rw [e] at h
            exact fun H' k' => h H' (k.trans k')
          | some p =>
            obtain ⟨d, r2⟩ := p
            rw [er] at e
            have len := rdEnt_len er
            have okd := rdEnt_ok (fun s hs => hf s (List.mem_of_mem_drop hs)) er
            intro H2 u b' k2 hr2 hb' du
            obtain ⟨p, x, y, rfl, hp, hx, hy⟩ := dt_pair du
            cases hy
            have e : R0 = addE es (match rdEnts n false r2 with
              | none => none
              | some (es, r3) => some (d :: es, r3)) := e
            rw [addE_addE, ← hr2] at e
            rw [← hr2, List.length_drop, List.length_drop] at len
            exact ⟨p, x, b', d, rfl, hp, hx, k2, by omega, hb', okd, e⟩
        have fin : ∀ (H2 : Hp) (p : Addr) (x : V) (b1 b' : Nat) (d : PyData), SqT K H2 p [x, .int (b' : Int)] → Dt K H2 x d → Kp H1 H2 → b ≤ b1 → b1 < b' → b' ≤ L.length → okN 3 d = true → R0 = addE (es ++ [d]) (rdEnts n false (L.drop b')) → ∀ o4 : Option V,
            vs.length < sizeLine ∧ H2 D = some (.lst vs) ∧ ∃ (es : List PyData) (vs' : List V), es.length ≤ b' ∧ (∀ e ∈ es, okN 3 e = true) ∧ (upd H2 D (.lst (vs ++ [x]))) D = some (.lst vs') ∧ DtAll K (upd H2 D (.lst (vs ++ [x]))) vs' es ∧ Kp H (upd H2 D (.lst (vs ++ [x]))) ∧ R0 = addE es (rdEnts n es.isEmpty (L.drop b')) := fun H2 p x b1 b' d hp hx k2 g1 g2 g3 okd e o4 => by
          have eD2 := k2.keep D _ eD (by simp) nt_lst
          have hl2 := ds.length
          refine ⟨by have : sizeLine = 16777216 := rfl; omega, eD2, es ++ [d], vs ++ [x], by simp; omega, fun z hz => ?_, upd_same, ?_, (k.trans k2).mut hD (no_tab eD2 nt_lst), ?_⟩
          · rcases List.mem_append.mp hz with z1 | z1
            · exact hok z z1
            · rw [List.mem_singleton.mp z1]; exact okd
          · exact DtAll.kb (Kb.put (S := [D]) (by simp) eD2 nt_lst) (fun b hb => by rw [List.mem_singleton.mp hb]; exact ⟨_, eD2⟩) (DtAll.snoc (DtAll.kb k2 Lsts.nil ds) hx)
          · rw [e]
            congr 1
            have : (es ++ [d]).isEmpty = false := by cases es <;> rfl
            rw [this]
        have tT : ∀ T ∈ ts, TabG H1 T := fun T hm => k.tab T (hT T hm)
        refine ⟨_, rfl, _, .inl ⟨vs, .inl (.inl eD), rfl⟩, ?_⟩
        have hl0 := ds.length
        cases hes : es with
        | nil =>
          rw [hes] at e
          have hvs : vs = [] := List.eq_nil_of_length_eq_zero (by rw [hl0, hes]; rfl)
          refine iteF' (by rw [hvs]; rfl) ?_
          refine ⟨_, rfl, _, rfl, S, b, L, rfl, hS1, hf, tT, Res.imp ?_ (ent b (Nat.le_refl _) hb (by rw [hes]; exact e))⟩
          rintro u H2 ⟨p, x, b', d, rfl, hp, hx, k2, g, hb', okd, e'⟩
          obtain ⟨f1, f2, f3⟩ := fin H2 p x b b' d hp hx k2 (Nat.le_refl _) g hb' okd e' o4
          exact ⟨p, _, rfl, hp, rfl, _, _, rfl, _, _, rfl, rfl, _, rfl, .inl ⟨rfl, _, .inl (.inl f2)⟩, _, rfl, D, vs, x, rfl, rfl, f2, f1, b', by omega, hb', ⟨_, _, rfl⟩, f3⟩
        | cons e0 es0 =>
          have hne : vs ≠ [] := fun z => by rw [z, hes] at hl0; cases hl0
          have hie : es.isEmpty = false := by rw [hes]; rfl
          rw [hie] at e
          have e : R0 = addE es (match expect 44 (L.drop b) with
            | none => none
            | some r1 => match rdEnt r1 with
              | none => none
              | some (e, r2) => match rdEnts n false r2 with
                | none => none
                | some (es, r3) => some (e :: es, r3)) := e
          refine iteT' (by cases vs with | nil => exact absurd rfl hne | cons => rfl) ?_
          refine ⟨_, rfl, _, rfl, S, b, .ref aC, L, 44, rfl, hS1, hf, hC H1, by decide, ?_⟩
          unfold expect at e
          cases e4 : atMark 44 (L.drop b) with
          | false =>
            rw [e4] at e
            have e : R0 = none := e
            rw [e] at h
            exact h H1 k
          | true =>
            rw [e4, drop_tail] at e
            have hb1 : b < L.length := by
              cases Nat.lt_or_ge b L.length with
              | inl z => exact z
              | inr z => rw [List.drop_eq_nil_of_le z] at e4; cases e4
            refine ⟨_, rfl, _, rfl, S, b + 1, L, rfl, hS1, hf, tT, Res.imp ?_ (ent (b + 1) (by omega) (by omega) e)⟩
            rintro u H2 ⟨p, x, b', d, rfl, hp, hx, k2, g, hb', okd, e'⟩
            obtain ⟨f1, f2, f3⟩ := fin H2 p x (b + 1) b' d hp hx k2 (by omega) g hb' okd e' o4
            exact ⟨p, _, rfl, hp, rfl, _, _, rfl, _, _, rfl, rfl, _, rfl, .inl ⟨rfl, _, .inl (.inl f2)⟩, _, rfl, D, vs, x, rfl, rfl, f2, f1, b', by omega, hb', ⟨_, _, rfl⟩, f3⟩
end
end Rx

namespace Rx
open PySem PySem.Spec PyProof.Rows L2 GxR Gx Gd Rs
abbrev s_read : Stmt := topS 50
theorem sc_read : FnScope ["signs", "at", "depth", "kind", "content", "scalar"] ["signs", "at", "depth"] (defScope s_read) := ⟨rfl, rfl, rfl, by decide +kernel, rfl, by decide +kernel, by decide +kernel⟩
abbrev s_read_inject : Stmt := topS 52
theorem sc_read_inject : FnScope ["signs", "at", "depth", "kind", "name", "otherwise"] ["signs", "at", "depth"] (defScope s_read_inject) := ⟨rfl, rfl, rfl, by decide +kernel, rfl, by decide +kernel, by decide +kernel⟩
abbrev s_read_call : Stmt := topS 51
theorem sc_read_call : FnScope ["function", "signs", "at", "depth", "arguments", "place", "argument"] ["function", "signs", "at", "depth"] (defScope s_read_call) := ⟨rfl, rfl, rfl, by decide +kernel, rfl, by decide +kernel, by decide +kernel⟩
def funs : List (List Nat) := ["not", "size", "reverse", "add", "sub", "lt", "eq", "and", "concat", "has", "get", "remove", "take", "put", "cond", "resource"].map cs
def resV : List V := (["none", "true", "false", "map", "inject", "not", "size", "reverse", "add", "sub", "lt", "eq", "and", "concat", "has", "get", "remove", "take", "put", "cond", "resource"] : List String).map fun s => V.str (Str.ofString s)
theorem in_strs (l : List Nat) : ∀ ss : List String, inV (.str (sx l)) (ss.map fun s => V.str (Str.ofString s)) = decide (l ∈ ss.map cs)
  | [] => rfl
  | s :: ss => by
    have ih := in_strs l ss
    have e : eqV (.str (Str.ofString s)) (.str (sx l)) = decide (l = cs s) := by
      show (Str.ofString s == sx l) = _
      rw [← sx_is, Bool.eq_iff_iff, beq_iff_eq, beq_iff_eq, eq_comm]
    show (eqV (.str (Str.ofString s)) (.str (sx l)) || inV (.str (sx l)) (ss.map fun s => V.str (Str.ofString s))) = _
    rw [e, ih, Bool.eq_iff_iff, Bool.or_eq_true, decide_eq_true_eq, decide_eq_true_eq, decide_eq_true_eq, List.map_cons, List.mem_cons]
theorem in_res (l : List Nat) : inV (.str (sx l)) resV = decide (l ∈ reserved) := in_strs l _
theorem all_flatS : ∀ ss : List String, (ss.map fun s => V.str (Str.ofString s)).all flatV = true
  | [] => rfl
  | s :: ss => by show (true && _) = true; rw [all_flatS ss]; rfl
theorem fun_of {l : List Nat} (h : l ∈ reserved) (h1 : scalarOf (.name l) = none) (h2 : l ≠ cs "map") (h3 : l ≠ cs "inject") : l ∈ funs := by
  rw [scalar_name] at h1
  have n1 : l ≠ cs "none" := fun z => by rw [if_pos z] at h1; cases h1
  rw [if_neg n1] at h1
  have n2 : l ≠ cs "true" := fun z => by rw [if_pos z] at h1; cases h1
  rw [if_neg n2] at h1
  have n3 : l ≠ cs "false" := fun z => by rw [if_pos z] at h1; cases h1
  have e : reserved = cs "none" :: cs "true" :: cs "false" :: cs "map" :: cs "inject" :: funs := rfl
  rw [e] at h
  simp only [List.mem_cons, n1, n2, n3, h2, h3, false_or] at h
  exact h
theorem kind_name (s : Sg) : decide (V.str (kindOf s) = V.str (Str.ofString "name")) = (match s with | .name _ => true | _ => false) := by
  cases s
  · exact decide_eq_true rfl
  · exact decide_eq_false (show ¬ V.str (Str.ofString "number") = V.str (Str.ofString "name") by decide +kernel)
  · exact decide_eq_false (show ¬ V.str (Str.ofString "quoted") = V.str (Str.ofString "name") by decide +kernel)
  · exact decide_eq_false (show ¬ V.str (Str.ofString "mark") = V.str (Str.ofString "name") by decide +kernel)
def spRd (K : PySem.W.Frag) (C : Addr) (ts : List Addr) (n : Nat) : Sp := fun vs H Q E => ∃ (S : Addr) (at' : Nat) (L : List Sg) (dp : Int), vs = [.ref S, .int (at' : Int), .int dp] ∧ dp = 6 - (n : Int) ∧ Sgs K H S L ∧ (∀ s ∈ L, fit s = true) ∧ L.length ≤ 1000 ∧ (∀ T ∈ ts, TabG H T) ∧ Res K C L H Q E (toD (rd n (L.drop at')))
def spInj (K : PySem.W.Frag) (C : Addr) (ts : List Addr) (n : Nat) : Sp := fun vs H Q E => ∃ (S : Addr) (at' : Nat) (L : List Sg) (dp : Int), vs = [.ref S, .int (at' : Int), .int dp] ∧ dp = 5 - (n : Int) ∧ Sgs K H S L ∧ (∀ s ∈ L, fit s = true) ∧ L.length ≤ 1000 ∧ (∀ T ∈ ts, TabG H T) ∧ Res K C L H Q E (toD (rdInj (rd n) (L.drop at')))
def spCl (K : PySem.W.Frag) (C : Addr) (ts : List Addr) (n : Nat) : Sp := fun vs H Q E => ∃ (S : Addr) (at' : Nat) (L : List Sg) (dp : Int) (l : List Nat), vs = [.str (sx l), .ref S, .int (at' : Int), .int dp] ∧ l ∈ funs ∧ dp = 5 - (n : Int) ∧ Sgs K H S L ∧ (∀ s ∈ L, fit s = true) ∧ L.length ≤ 1000 ∧ (∀ T ∈ ts, TabG H T) ∧ Res K C L H Q E (toD (rdCall (rd n) l (L.drop at')))
def prevI (K : PySem.W.Frag) (C : Addr) (ts : List Addr) : Nat → Sp
  | 0 => fun _ _ _ _ => False
  | n + 1 => spInj K C ts n
def prevC (K : PySem.W.Frag) (C : Addr) (ts : List Addr) : Nat → Sp
  | 0 => fun _ _ _ _ => False
  | n + 1 => spCl K C ts n
def prevF : Nat → Option (List Sg → Option (Ex × List Sg))
  | 0 => none
  | n + 1 => some (rd n)
theorem rd_cons (n : Nat) (s : Sg) (r : List Sg) : rd n (s :: r) = (match scalarOf s with
    | some v => some (.lit v, r)
    | none => match s with
      | .name l => if l = cs "map" then rdMap r else if l ∉ reserved then some (.var l, r) else match prevF n with
        | none => none
        | some f => if l = cs "inject" then rdInj f r else rdCall f l r
      | _ => none) := by cases n <;> rfl
theorem rd_nil (n : Nat) : rd n [] = none := by cases n <;> rfl
section
variable {P : Program} {w : World} {K : PySem.W.Frag} {mg : Str → Option Value} {base : Heap}
theorem c_read {C aRes : Addr} {ts : List Addr} {n k : Nat} (hn : n ≤ 5) (hk : 9 ≤ k) (D : DefAt K mg "_read" s_read ["signs", "at", "depth"]) (BN_BadExpression : BadN K mg "BadExpression" C) (g_RESERVED : mg "RESERVED" = some (.ref aRes)) (hRes : ∀ H, SqT K H aRes resV) (g_DEEP : ∃ t, mg "DEEPEST_CALL" = some (.int 5 t))
    (c__sign_at : CalX P w K mg base 1 "_sign_at" ["signs", "at"] (spSignAt K C)) (c_scalar_of : Cal P w K mg base CX0 6 "scalar_of" ["sign"] (spScalar K ts)) (c__read_map : CalX P w K mg base 9 "_read_map" ["signs", "at"] (spMap K C ts))
    (c__read_inject : CalX P w K mg base k "_read_inject" ["signs", "at", "depth"] (prevI K C ts n)) (c__read_call : CalX P w K mg base k "_read_call" ["function", "signs", "at", "depth"] (prevC K C ts n)) :
    CalX P w K mg base (k + 1) "_read" ["signs", "at", "depth"] (spRd K C ts n) := by
  refine D.calX (k := k) sc_read (fun vs H Q E h => ?_) fun f cdv A outer s H vs Q E hr h => ?_
  · obtain ⟨S, a, L, dp, rfl, _⟩ := h
    rfl
  · obtain ⟨S, a, L, dp, rfl, hdp, hS, hf, hz, hT, h⟩ := h
    obtain ⟨tD, g_DEEPEST_CALL⟩ := g_DEEP
    refine ⟨_, (pss_cons (ps_asg (pe_calX (c__sign_at.mono (by omega)) hr (by rfl) (fun σ => passAt (takes_of rfl rfl rfl rfl) σ) (pa_cons (pv 0) (pa_cons (pv 1) pa_nil))) (pg_tup rfl (pgs_cons (pg_name (i := 3) sc_read.nd rfl (Or.inl rfl)) (pgs_cons (pg_name (i := 4) sc_read.nd rfl (Or.inl rfl)) pgs_nil))))
  (pss_cons (ps_set (i := 5) sc_read.nd rfl (Or.inl rfl) (pe_cal (c_scalar_of.mono (by omega)) hr (by rfl) (pa_cons (pe_tup (pa_cons (pv 3) (pa_cons (pv 4) pa_nil))) pa_nil)))
  (pss_cons (ps_if (pt_cmpR op_notN (pv 5) pe_non (nomark _)) (pss_one (ps_ret (pe_tup (pa_cons (pe_tup (pa_cons pe_str (pa_cons (pv 5) pa_nil))) (pa_cons (pe_op op_add (pv 1) pe_int) pa_nil))))) pss_nil)
  (pss_cons (ps_if (pt_cmpR op_ne (pv 3) pe_str (nomark _)) (pss_one (ps_bad0 BN_BadExpression rfl (takes_of rfl rfl rfl rfl) (by rfl))) pss_nil)
  (pss_cons (ps_if (pt_cmpR op_eq (pv 4) pe_str (nomark _)) (pss_one (ps_ret (pe_calX (c__read_map.mono (by omega)) hr (by rfl) (fun σ => passAt (takes_of rfl rfl rfl rfl) σ) (pa_cons (pv 0) (pa_cons (pe_op op_add (pv 1) pe_int) pa_nil))))) pss_nil)
  (pss_cons (ps_if (pt_cmpR op_notIn_seq (pv 4) (pe_glob (v := .ref aRes) rfl g_RESERVED rfl) (by rfl)) (pss_one (ps_ret (pe_tup (pa_cons (pe_tup (pa_cons pe_str (pa_cons (pv 4) pa_nil))) (pa_cons (pe_op op_add (pv 1) pe_int) pa_nil))))) pss_nil)
  (pss_cons (ps_if (pt_cmpR op_gt (pv 2) (pe_glob (v := .int 5) rfl g_DEEPEST_CALL ⟨_, rfl⟩) (nomark _)) (pss_one (ps_bad0 BN_BadExpression rfl (takes_of rfl rfl rfl rfl) (by rfl))) pss_nil)
  (pss_cons (ps_if (pt_cmpR op_eq (pv 4) pe_str (nomark _)) (pss_one (ps_ret (pe_calX (c__read_inject.mono (by omega)) hr (by rfl) (fun σ => passAt (takes_of rfl rfl rfl rfl) σ) (pa_cons (pv 0) (pa_cons (pe_op op_add (pv 1) pe_int) (pa_cons (pv 2) pa_nil)))))) pss_nil)
  (pss_one (ps_ret (pe_calX (c__read_call.mono (by omega)) hr (by rfl) (fun σ => passAt (takes_of rfl rfl rfl rfl) σ) (pa_cons (pv 4) (pa_cons (pv 0) (pa_cons (pe_op op_add (pv 1) pe_int) (pa_cons (pv 2) pa_nil))))))))))))))), ?_⟩
    refine ⟨_, rfl, _, rfl, S, a, L, rfl, hS, ?_⟩
    cases e1 : L.drop a with
    | nil =>
      rw [e1, rd_nil] at h
      exact h H (Kb.refl H)
    | cons s1 r1 =>
      obtain ⟨ha, er1, hm1⟩ := drop_some e1
      rw [e1, rd_cons] at h
      intro v1 d1
      rw [d_eq] at d1
      obtain ⟨p, x, y, rfl, hp, hx, hy⟩ := dt_pair d1
      cases hx
      refine ⟨p, _, rfl, hp, rfl, _, _, rfl, _, _, rfl, rfl, ?_⟩
      refine ⟨_, rfl, _, rfl, by show 2 ≤ sizeLine; decide, fun t ht => ?_⟩
      obtain ⟨k1, dt⟩ := new_pair (K := K) ht (.str (kindOf s1)) hy
      rw [← d_eq] at dt
      generalize upd H t (.tup [.str (kindOf s1), y]) = H1 at k1 dt ⊢
      refine ⟨_, s1, rfl, dt, hf s1 hm1, fun T hm => k1.tab T (hT T hm), fun H2 u k2 hu => ?_⟩
      have k12 := k1.trans k2
      refine ⟨_, rfl, rfl, _, rfl, ?_⟩
      -- a pair is given back
      have give : ∀ (wd : String) (H3 : Hp) (z : V) (d : PyData), Kp H H3 → Dt K H3 z d → Res K C L H Q E (some (.tuple [.str (Str.ofString wd), d], r1)) → ∀ p, H3 p = none → ∀ p2, (upd H3 p (.tup [.str (Str.ofString wd), z])) p2 = none → Q (.ref p2) (upd (upd H3 p (.tup [.str (Str.ofString wd), z])) p2 (.tup [.ref p, .int ((a : Int) + 1)])) := fun wd H3 z d k3 hd h p hp p2 hp2 => by
        obtain ⟨k4, d4⟩ := new_pair (K := K) hp (.str (Str.ofString wd)) hd
        generalize upd H3 p (.tup [.str (Str.ofString wd), z]) = H4 at k4 d4 hp2 ⊢
        obtain ⟨k5, d5⟩ := new_pair (K := K) hp2 d4 (.int ((a + 1 : Nat) : Int))
        exact h _ _ (a + 1) ((k3.trans k4).trans k5) er1 (by omega) d5
      cases es : scalarOf s1 with
      | some dv =>
        rw [es] at h hu
        obtain ⟨hu1, hu2⟩ := hu
        refine iteT' (by rw [decide_eq_false hu1]; rfl) ?_
        exact ⟨_, rfl, by show 2 ≤ sizeLine; decide, fun p3 hp3 => ⟨_, rfl, _, 1, rfl, rfl, by show 2 ≤ sizeLine; decide, fun p4 hp4 => give "literal" H2 u dv k12 hu2 h p3 hp3 p4 hp4⟩⟩
      | none =>
        rw [es] at h hu
        have hu : u = .non := hu
        subst hu
        refine iteF' (by rfl) ?_
        refine ⟨_, rfl, rfl, _, rfl, ?_⟩
        rw [kind_name]
        cases s1 with
        | num m => exact iteT (h H2 k12)
        | quo m => exact iteT (h H2 k12)
        | mark m => exact iteT (h H2 k12)
        | name l =>
          have h : Res K C L H Q E (toD (if l = cs "map" then rdMap r1 else if l ∉ reserved then some (.var l, r1) else match prevF n with
            | none => none
            | some f => if l = cs "inject" then rdInj f r1 else rdCall f l r1)) := h
          cases hy
          have hT2 : ∀ T ∈ ts, TabG H2 T := fun T hm => k12.tab T (hT T hm)
          have hS2 := hS.kp k12
          refine iteF ⟨_, rfl, rfl, _, rfl, ?_⟩
          rw [dec_sx]
          by_cases hm : l = cs "map"
          · rw [if_pos hm] at h
            refine iteP hm ⟨_, rfl, _, rfl, _, 1, rfl, rfl, S, a + 1, L, rfl, hS2, hf, hz, hT2, ?_⟩
            rw [er1]
            exact Res.kp h k12
          · rw [if_neg hm] at h
            refine iteN hm ⟨_, rfl, aRes, resV, rfl, .inr (hRes H2), rfl, all_flatS _, _, rfl, ?_⟩
            rw [in_res]
            by_cases hres : l ∈ reserved
            · rw [if_neg (fun z => z hres)] at h
              refine iteF' (by rw [decide_eq_true hres]; rfl) ?_
              refine ⟨_, rfl, _, _, rfl, rfl, _, rfl, ?_⟩
              cases n with
              | zero => exact iteP (show (5 : Int) < dp by omega) (h H2 k12)
              | succ m =>
                have h : Res K C L H Q E (toD (if l = cs "inject" then rdInj (rd m) r1 else rdCall (rd m) l r1)) := h
                refine iteN (show ¬ (5 : Int) < dp by omega) ⟨_, rfl, rfl, _, rfl, ?_⟩
                rw [dec_sx]
                by_cases hi : l = cs "inject"
                · rw [if_pos hi] at h
                  refine iteP hi ⟨_, rfl, _, rfl, _, 1, rfl, rfl, _, rfl, S, a + 1, L, dp, rfl, by omega, hS2, hf, hz, hT2, ?_⟩
                  rw [er1]
                  exact Res.kp h k12
                · rw [if_neg hi] at h
                  refine iteN hi ⟨_, rfl, _, rfl, _, rfl, _, 1, rfl, rfl, _, rfl, S, a + 1, L, dp, l, rfl, fun_of hres es hm hi, by omega, hS2, hf, hz, hT2, ?_⟩
                  rw [er1]
                  exact Res.kp h k12
            · rw [if_pos hres] at h
              refine iteT' (by rw [decide_eq_false hres]; rfl) ?_
              exact ⟨_, rfl, by show 2 ≤ sizeLine; decide, fun p3 hp3 => ⟨_, rfl, _, 1, rfl, rfl, by show 2 ≤ sizeLine; decide, fun p4 hp4 => give "variable" H2 _ _ k12 (.str (sx l)) h p3 hp3 p4 hp4⟩⟩
end
end Rx

namespace Rx
open PySem PySem.Spec PyProof.Rows L2 GxR Gx Gd Rs
theorem ds_snoc : ∀ (es : List Ex) (e : Ex), Ex.ds (es ++ [e]) = Ex.ds es ++ [e.d]
  | [], e => rfl
  | x :: es, e => by show x.d :: Ex.ds (es ++ [e]) = _; rw [ds_snoc es e]; rfl
theorem ds_len : ∀ es : List Ex, (Ex.ds es).length = es.length
  | [] => rfl
  | e :: es => by show (Ex.ds es).length + 1 = es.length + 1; rw [ds_len es]
def addA (es : List Ex) : Option (List Ex × List Sg) → Option (List Ex × List Sg)
  | none => none
  | some (xs, r) => some (es ++ xs, r)
theorem addA_add (es : List Ex) (e : Ex) (o : Option (List Ex × List Sg)) : addA es (match o with | none => none | some (xs, r3) => some (e :: xs, r3)) = addA (es ++ [e]) o := by
  cases o with
  | none => rfl
  | some p => show some (es ++ (e :: p.1), p.2) = some ((es ++ [e]) ++ p.1, p.2); rw [List.append_assoc]; rfl
/-- a triple -/
theorem new_three {K : PySem.W.Frag} {H : Hp} {p : Addr} {x y z : V} {a b c : PyData} (hp : H p = none) (hx : Dt K H x a) (hy : Dt K H y b) (hz : Dt K H z c) : Kp H (upd H p (.tup [x, y, z])) ∧ Dt K (upd H p (.tup [x, y, z])) (.ref p) (.tuple [a, b, c]) :=
  ⟨Kb.new hp, .tup (SqT.of upd_same) (.cons (hx.kb (Kb.new hp) Lsts.nil) (.cons (hy.kb (Kb.new hp) Lsts.nil) (.cons (hz.kb (Kb.new hp) Lsts.nil) .nil)))⟩
theorem inj_is (f : List Sg → Option (Ex × List Sg)) (r : List Sg) : rdInj f r = if atMark 40 r = true then (match r.tail with
    | [] => none
    | s :: r1 => match s with
      | .name l => if l ∈ reserved then none else if atMark 44 r1 = true then (match f r1.tail with
        | none => none
        | some (e, r3) => if atMark 41 r3 = true then some (.inj l e, r3.tail) else none) else none
      | _ => none) else none := by
  unfold rdInj expect
  cases atMark 40 r with
  | false => rfl
  | true =>
    show (match some r.tail with | none => none | some [] => none | some (s :: r1) => _) = (match r.tail with | [] => none | s :: r1 => _)
    cases r.tail with
    | nil => rfl
    | cons s r1 =>
      cases s with
      | name l =>
        show (if l ∈ reserved then none else _) = (if l ∈ reserved then none else _)
        by_cases hl : l ∈ reserved
        · rw [if_pos hl, if_pos hl]
        · rw [if_neg hl, if_neg hl]
          cases atMark 44 r1 with
          | false => rfl
          | true =>
            show (match f r1.tail with | none => none | some (e, r3) => _) = (match f r1.tail with | none => none | some (e, r3) => _)
            cases f r1.tail with
            | none => rfl
            | some p =>
              obtain ⟨e, r3⟩ := p
              show (match (if atMark 41 r3 = true then some r3.tail else none) with | none => none | some r4 => _) = if atMark 41 r3 = true then _ else _
              cases atMark 41 r3 <;> rfl
      | _ => rfl
theorem atMark_lt {c : Nat} {L : List Sg} {a : Nat} (h : atMark c (L.drop a) = true) : a < L.length := by
  cases Nat.lt_or_ge a L.length with
  | inl z => exact z
  | inr z => rw [List.drop_eq_nil_of_le z] at h; cases h
section
variable {P : Program} {w : World} {K : PySem.W.Frag} {mg : Str → Option Value} {base : Heap}
theorem c_read_inject {C aL aR aC aRes : Addr} {ts : List Addr} {n k : Nat} (hn : n ≤ 4) (hk : 9 ≤ k) (D : DefAt K mg "_read_inject" s_read_inject ["signs", "at", "depth"]) (BN_BadExpression : BadN K mg "BadExpression" C) (g_LEFT : mg "LEFT" = some (.ref aL)) (g_RIGHT : mg "RIGHT" = some (.ref aR)) (g_COMMA : mg "COMMA" = some (.ref aC))
    (hL : ∀ H, Dt K H (.ref aL) (Sg.mark 40).d) (hR : ∀ H, Dt K H (.ref aR) (Sg.mark 41).d) (hC : ∀ H, Dt K H (.ref aC) (Sg.mark 44).d) (g_RESERVED : mg "RESERVED" = some (.ref aRes)) (hRes : ∀ H, SqT K H aRes resV)
    (c__sign_at : CalX P w K mg base 1 "_sign_at" ["signs", "at"] (spSignAt K C)) (c__behind : CalX P w K mg base 2 "_behind" ["signs", "at", "sign"] (spBehind K C)) (c__read : CalX P w K mg base k "_read" ["signs", "at", "depth"] (spRd K C ts n)) :
    CalX P w K mg base (k + 1) "_read_inject" ["signs", "at", "depth"] (spInj K C ts n) := by
  refine D.calX (k := k) sc_read_inject (fun vs H Q E h => ?_) fun f cdv A outer s H vs Q E hr h => ?_
  · obtain ⟨S, a, L, dp, rfl, _⟩ := h
    rfl
  · obtain ⟨S, a, L, dp, rfl, hdp, hS, hf, hz, hT, h⟩ := h
    refine ⟨_, (pss_cons (ps_set (i := 1) sc_read_inject.nd rfl (Or.inl rfl) (pe_calX (c__behind.mono (by omega)) hr (by rfl) (fun σ => passAt (takes_of rfl rfl rfl rfl) σ) (pa_cons (pv 0) (pa_cons (pv 1) (pa_cons (pe_glob (v := .ref aL) rfl g_LEFT rfl) pa_nil)))))
  (pss_cons (ps_asg (pe_calX (c__sign_at.mono (by omega)) hr (by rfl) (fun σ => passAt (takes_of rfl rfl rfl rfl) σ) (pa_cons (pv 0) (pa_cons (pv 1) pa_nil))) (pg_tup rfl (pgs_cons (pg_name (i := 3) sc_read_inject.nd rfl (Or.inl rfl)) (pgs_cons (pg_name (i := 4) sc_read_inject.nd rfl (Or.inl rfl)) pgs_nil))))
  (pss_cons (ps_if (PW.pt (pw_or (pt_cmpR op_ne (pv 3) pe_str (nomark _)) (pw_or1 (pt_cmpR op_in_seq (pv 4) (pe_glob (v := .ref aRes) rfl g_RESERVED rfl) (by rfl))))) (pss_one (ps_bad0 BN_BadExpression rfl (takes_of rfl rfl rfl rfl) (by rfl))) pss_nil)
  (pss_cons (ps_set (i := 1) sc_read_inject.nd rfl (Or.inl rfl) (pe_calX (c__behind.mono (by omega)) hr (by rfl) (fun σ => passAt (takes_of rfl rfl rfl rfl) σ) (pa_cons (pv 0) (pa_cons (pe_op op_add (pv 1) pe_int) (pa_cons (pe_glob (v := .ref aC) rfl g_COMMA rfl) pa_nil)))))
  (pss_cons (ps_asg (pe_calX (c__read.mono (by omega)) hr (by rfl) (fun σ => passAt (takes_of rfl rfl rfl rfl) σ) (pa_cons (pv 0) (pa_cons (pv 1) (pa_cons (pe_op op_add (pv 2) pe_int) pa_nil)))) (pg_tup rfl (pgs_cons (pg_name (i := 5) sc_read_inject.nd rfl (Or.inl rfl)) (pgs_cons (pg_name (i := 1) sc_read_inject.nd rfl (Or.inl rfl)) pgs_nil))))
  (pss_one (ps_ret (pe_tup (pa_cons (pe_tup (pa_cons pe_str (pa_cons (pv 4) (pa_cons (pv 5) pa_nil)))) (pa_cons (pe_calX (c__behind.mono (by omega)) hr (by rfl) (fun σ => passAt (takes_of rfl rfl rfl rfl) σ) (pa_cons (pv 0) (pa_cons (pv 1) (pa_cons (pe_glob (v := .ref aR) rfl g_RIGHT rfl) pa_nil)))) pa_nil)))))))))), ?_⟩
    refine ⟨_, rfl, _, rfl, S, a, .ref aL, L, 40, rfl, hS, hf, hL H, by decide, ?_⟩
    rw [inj_is, drop_tail] at h
    cases e1 : atMark 40 (L.drop a) with
    | false =>
      rw [e1] at h
      exact h H (Kb.refl H)
    | true =>
      rw [e1] at h
      have ha := atMark_lt e1
      refine ⟨_, rfl, _, rfl, S, a + 1, L, rfl, hS, ?_⟩
      cases e2 : L.drop (a + 1) with
      | nil =>
        rw [e2] at h
        exact h H (Kb.refl H)
      | cons s1 r1 =>
        obtain ⟨ha1, er1, hm1⟩ := drop_some e2
        rw [e2] at h
        intro v1 d1
        rw [d_eq] at d1
        obtain ⟨p, x, y, rfl, hp, hx, hy⟩ := dt_pair d1
        cases hx
        refine ⟨p, _, rfl, hp, rfl, _, _, rfl, _, _, rfl, rfl, ?_⟩
        refine ⟨_, rfl, rfl, _, rfl, ?_⟩
        rw [kind_name]
        cases s1 with
        | num m => exact iteT (iteT (h H (Kb.refl H)))
        | quo m => exact iteT (iteT (h H (Kb.refl H)))
        | mark m => exact iteT (iteT (h H (Kb.refl H)))
        | name l =>
          cases hy
          have h : Res K C L H Q E (toD (if l ∈ reserved then none else if atMark 44 r1 = true then (match rd n r1.tail with
            | none => none
            | some (e, r3) => if atMark 41 r3 = true then some (.inj l e, r3.tail) else none) else none)) := h
          refine iteF ⟨_, rfl, aRes, resV, rfl, .inr (hRes H), rfl, all_flatS _, _, rfl, ?_⟩
          rw [in_res]
          by_cases hres : l ∈ reserved
          · rw [if_pos hres] at h
            exact iteP hres (h H (Kb.refl H))
          · rw [if_neg hres] at h
            refine iteN hres ?_
            refine ⟨_, rfl, _, rfl, _, 1, rfl, rfl, S, a + 2, .ref aC, L, 44, rfl, hS, hf, hC H, by decide, ?_⟩
            have er1 : L.drop (a + 2) = r1 := er1
            rw [er1]
            cases e3 : atMark 44 r1 with
            | false =>
              rw [e3] at h
              exact h H (Kb.refl H)
            | true =>
              rw [e3, ← er1, drop_tail] at h
              have h : Res K C L H Q E (toD (match rd n (L.drop (a + 3)) with
                | none => none
                | some (e, r3) => if atMark 41 r3 = true then some (.inj l e, r3.tail) else none)) := h
              have ha3 := atMark_lt (L := L) (a := a + 2) (by rw [er1]; exact e3)
              refine ⟨_, rfl, _, rfl, _, rfl, _, _, rfl, rfl, S, a + 3, L, dp + 1, rfl, by omega, hS, hf, hz, hT, ?_⟩
              cases e4 : rd n (L.drop (a + 3)) with
              | none =>
                rw [e4] at h
                exact h
              | some pr =>
                obtain ⟨e, r3⟩ := pr
                rw [e4] at h
                have h : Res K C L H Q E (toD (if atMark 41 r3 = true then some (.inj l e, r3.tail) else none)) := h
                intro H2 u b k2 hb hbl du
                obtain ⟨p2, x2, y2, rfl, hp2, hx2, hy2⟩ := dt_pair du
                cases hy2
                refine ⟨p2, _, rfl, hp2, rfl, _, _, rfl, _, _, rfl, rfl, ?_⟩
                refine ⟨_, rfl, _, rfl, by show 3 ≤ sizeLine; decide, fun p3 hp3 => ?_⟩
                obtain ⟨k3, d3⟩ := new_three (K := K) hp3 (.str (Str.ofString "inject")) (.str (sx l)) hx2
                generalize upd H2 p3 (.tup [.str (Str.ofString "inject"), .str (sx l), x2]) = H3 at k3 d3 ⊢
                have k13 := k2.trans k3
                refine ⟨_, rfl, _, rfl, S, b, .ref aR, L, 41, rfl, hS.kp k13, hf, hR H3, by decide, ?_⟩
                rw [← hb] at h
                cases e5 : atMark 41 (L.drop b) with
                | false =>
                  rw [e5] at h
                  exact h H3 k13
                | true =>
                  rw [e5, drop_tail] at h
                  have h : Res K C L H Q E (some (Ex.d (.inj l e), L.drop (b + 1))) := h
                  have hb1 := atMark_lt e5
                  refine ⟨by show 2 ≤ sizeLine; decide, fun p4 hp4 => ?_⟩
                  obtain ⟨k4, d4⟩ := new_pair (K := K) hp4 d3 (.int ((b + 1 : Nat) : Int))
                  exact h _ _ (b + 1) (k13.trans k4) rfl (by omega) d4
theorem c_read_call {C aL aR aC aAr : Addr} {ts : List Addr} {n k : Nat} (hn : n ≤ 4) (hk : 9 ≤ k) (D : DefAt K mg "_read_call" s_read_call ["function", "signs", "at", "depth"]) (g_LEFT : mg "LEFT" = some (.ref aL)) (g_RIGHT : mg "RIGHT" = some (.ref aR)) (g_COMMA : mg "COMMA" = some (.ref aC))
    (hL : ∀ H, Dt K H (.ref aL) (Sg.mark 40).d) (hR : ∀ H, Dt K H (.ref aR) (Sg.mark 41).d) (hC : ∀ H, Dt K H (.ref aC) (Sg.mark 44).d) (g_ARITIES : mg "ARITIES" = some (.ref aAr)) (hAr : ∀ l ∈ funs, KDct K w aAr (sx l) (.int (arity l : Nat))) (m_range : mg "range" = none) (m_tuple : mg "tuple" = none)
    (c__behind : CalX P w K mg base 2 "_behind" ["signs", "at", "sign"] (spBehind K C)) (c__read : CalX P w K mg base k "_read" ["signs", "at", "depth"] (spRd K C ts n)) :
    CalX P w K mg base (k + 1) "_read_call" ["function", "signs", "at", "depth"] (spCl K C ts n) := by
  refine D.calX (k := k) sc_read_call (fun vs H Q E h => ?_) fun f cdv A outer s H vs Q E hr h => ?_
  · obtain ⟨S, a, L, dp, l, rfl, _⟩ := h
    rfl
  · obtain ⟨S, a, L, dp, l, rfl, hl, hdp, hS, hf, hz, hT, h⟩ := h
    refine ⟨_, (pss_cons (ps_set (i := 4) sc_read_call.nd rfl (Or.inl rfl) (pe_lst pa_nil))
  (pss_cons (ps_for (passes_of rfl) rfl (pi_range1 (by rfl) m_range (pa_cons (pe_ix ix_kdict (pe_glob (v := .ref aAr) rfl g_ARITIES rfl) (pv 0) (fun _ _ => rfl)) pa_nil)) (pg_name (i := 5) sc_read_call.nd rfl (Or.inl rfl)) (pss_cons (ps_set (i := 2) sc_read_call.nd rfl (Or.inl rfl) (pe_calX (c__behind.mono (by omega)) hr (by rfl) (fun σ => passAt (takes_of rfl rfl rfl rfl) σ) (pa_cons (pv 1) (pa_cons (pv 2) (pa_cons (pe_ifExp (pt_cmpR op_eq (pv 5) pe_int (nomark _)) (pe_glob (v := .ref aL) rfl g_LEFT rfl) (pe_glob (v := .ref aC) rfl g_COMMA rfl)) pa_nil)))))
  (pss_cons (ps_asg (pe_calX (c__read.mono (by omega)) hr (by rfl) (fun σ => passAt (takes_of rfl rfl rfl rfl) σ) (pa_cons (pv 1) (pa_cons (pv 2) (pa_cons (pe_op op_add (pv 3) pe_int) pa_nil)))) (pg_tup rfl (pgs_cons (pg_name (i := 6) sc_read_call.nd rfl (Or.inl rfl)) (pgs_cons (pg_name (i := 2) sc_read_call.nd rfl (Or.inl rfl)) pgs_nil))))
  (pss_one (ps_expr (pe_bm PySem.F.plainAttrs_list PySem.F.slot_list_append PySem.F.type_list_append mt_append (pv 4) (pa_cons (pv 6) pa_nil)))))))
  (pss_one (ps_ret (pe_tup (pa_cons (pe_tup (pa_cons pe_str (pa_cons (pv 0) (pa_cons (pe_callTy call_tuple_of (by rfl) m_tuple (by decide +kernel) (pa_cons (pv 4) pa_nil)) pa_nil)))) (pa_cons (pe_calX (c__behind.mono (by omega)) hr (by rfl) (fun σ => passAt (takes_of rfl rfl rfl rfl) σ) (pa_cons (pv 1) (pa_cons (pv 2) (pa_cons (pe_glob (v := .ref aR) rfl g_RIGHT rfl) pa_nil)))) pa_nil))))))), ?_⟩
    refine ⟨Nat.zero_le _, fun D hD => ?_⟩
    have har : arity l ≤ 3 := by
      unfold arity
      repeat' split
      all_goals omega
    unfold rdCall at h
    generalize hR0 : rdArgs (rd n) (arity l) 40 (L.drop a) = R0 at h
    refine ⟨_, rfl, aAr, sx l, _, rfl, rfl, hAr l hl, _, rfl, by omega, by omega, ?_⟩
    rw [Int.toNat_natCast]
    refine for_it walk_range (fun i σ H' => i ≤ arity l ∧ ∃ (b : Nat) (es : List Ex) (vs : List V) (o5 o6 : Option V), σ = [some (.str (sx l)), some (.ref S), some (.int (b : Int)), some (.int dp), some (.ref D), o5, o6] ∧ es.length = i ∧ Kp H H' ∧ H' D = some (.lst vs) ∧ DtAll K H' vs (Ex.ds es) ∧
      R0 = addA es (rdArgs (rd n) (arity l - i) (if i = 0 then 40 else 44) (L.drop b))) ?_ (fun _ _ _ _ _ => trivial) ?_ ?_
    · refine ⟨Nat.zero_le _, a, [], [], _, _, rfl, rfl, Kb.new hD, upd_same, .nil, ?_⟩
      rw [← hR0]
      have ae : ∀ o, o = addA [] o := fun o => by cases o <;> rfl
      exact ae _
    · rintro i x σ _ H1 hi ⟨hi1, b, es, vs, o5, o6, rfl, hlen, k1, eD, ds, e⟩ ⟨rfl, hx⟩
      obtain rfl : x = .int (0 + (i : Int)) := hx
      obtain ⟨g, hg⟩ : ∃ g, arity l - i = g + 1 := ⟨arity l - i - 1, by omega⟩
      have hS1 := hS.kp k1
      rw [hg] at e
      refine ⟨_, rfl, _, rfl, _, rfl, rfl, _, rfl, ?_⟩
      by_cases h0 : i = 0
      · rw [if_pos h0] at e
        have e : R0 = addA es (match expect 40 (L.drop b) with
          | none => none
          | some r1 => match rd n r1 with
            | none => none
            | some (e, r2) => match rdArgs (rd n) g 44 r2 with
              | none => none
              | some (es, r3) => some (e :: es, r3)) := e
        refine iteP (show V.int (0 + (i : Int)) = V.int 0 by rw [h0]; rfl) ⟨S, b, .ref aL, L, 40, rfl, hS1, hf, hL H1, by decide, ?_⟩
        unfold expect at e
        cases e1 : atMark 40 (L.drop b) with
        | false =>
          rw [e1] at e
          have e : R0 = none := e
          rw [e] at h
          exact h H1 k1
        | true =>
          rw [e1, drop_tail] at e
          have e : R0 = addA es (match rd n (L.drop (b + 1)) with
            | none => none
            | some (e, r2) => match rdArgs (rd n) g 44 r2 with
              | none => none
              | some (es, r3) => some (e :: es, r3)) := e
          refine ⟨_, rfl, _, rfl, _, rfl, _, _, rfl, rfl, S, b + 1, L, dp + 1, rfl, by omega, hS1, hf, hz, fun T hm => k1.tab T (hT T hm), ?_⟩
          cases e2 : rd n (L.drop (b + 1)) with
          | none =>
            rw [e2] at e
            have e : R0 = none := e
            rw [e] at h
            exact fun H' k' => h H' (k1.trans k')
          | some pr =>
            obtain ⟨ex, r2⟩ := pr
            rw [e2] at e
            intro H2 u b2 k2 hb2 hbl du
            obtain ⟨p2, x2, y2, rfl, hp2, hx2, hy2⟩ := dt_pair du
            cases hy2
            have eD2 := k2.keep D _ eD (by simp) nt_lst
            have hlv := ds.length
            rw [ds_len] at hlv
            refine ⟨p2, _, rfl, hp2, rfl, _, _, rfl, _, _, rfl, rfl, ?_⟩
            refine ⟨_, rfl, .inl ⟨rfl, _, .inl (.inl eD2)⟩, _, rfl, D, vs, x2, rfl, rfl, eD2, by have : sizeLine = 16777216 := rfl; omega, by omega, b2, es ++ [ex], vs ++ [x2], _, _, rfl, by simp; omega, (k1.trans k2).mut hD (no_tab eD2 nt_lst), upd_same, ?_, ?_⟩
            · rw [ds_snoc]
              exact DtAll.kb (Kb.put (S := [D]) (by simp) eD2 nt_lst) (fun b hb => by rw [List.mem_singleton.mp hb]; exact ⟨_, eD2⟩) (DtAll.snoc (DtAll.kb k2 Lsts.nil ds) hx2)
            · have e : R0 = addA es (match rdArgs (rd n) g 44 r2 with
                | none => none
                | some (es, r3) => some (ex :: es, r3)) := e
              rw [addA_add, ← hb2] at e
              rw [e, if_neg (by omega : ¬ i + 1 = 0)]
              congr 2
              omega
      · rw [if_neg h0] at e
        have e : R0 = addA es (match expect 44 (L.drop b) with
          | none => none
          | some r1 => match rd n r1 with
            | none => none
            | some (e, r2) => match rdArgs (rd n) g 44 r2 with
              | none => none
              | some (es, r3) => some (e :: es, r3)) := e
        refine iteN (show ¬ V.int (0 + (i : Int)) = V.int 0 by intro z; injection z with z; omega) ⟨S, b, .ref aC, L, 44, rfl, hS1, hf, hC H1, by decide, ?_⟩
        unfold expect at e
        cases e1 : atMark 44 (L.drop b) with
        | false =>
          rw [e1] at e
          have e : R0 = none := e
          rw [e] at h
          exact h H1 k1
        | true =>
          rw [e1, drop_tail] at e
          have e : R0 = addA es (match rd n (L.drop (b + 1)) with
            | none => none
            | some (e, r2) => match rdArgs (rd n) g 44 r2 with
              | none => none
              | some (es, r3) => some (e :: es, r3)) := e
          refine ⟨_, rfl, _, rfl, _, rfl, _, _, rfl, rfl, S, b + 1, L, dp + 1, rfl, by omega, hS1, hf, hz, fun T hm => k1.tab T (hT T hm), ?_⟩
          cases e2 : rd n (L.drop (b + 1)) with
          | none =>
            rw [e2] at e
            have e : R0 = none := e
            rw [e] at h
            exact fun H' k' => h H' (k1.trans k')
          | some pr =>
            obtain ⟨ex, r2⟩ := pr
            rw [e2] at e
            intro H2 u b2 k2 hb2 hbl du
            obtain ⟨p2, x2, y2, rfl, hp2, hx2, hy2⟩ := dt_pair du
            cases hy2
            have eD2 := k2.keep D _ eD (by simp) nt_lst
            have hlv := ds.length
            rw [ds_len] at hlv
            refine ⟨p2, _, rfl, hp2, rfl, _, _, rfl, _, _, rfl, rfl, ?_⟩
            refine ⟨_, rfl, .inl ⟨rfl, _, .inl (.inl eD2)⟩, _, rfl, D, vs, x2, rfl, rfl, eD2, by have : sizeLine = 16777216 := rfl; omega, by omega, b2, es ++ [ex], vs ++ [x2], _, _, rfl, by simp; omega, (k1.trans k2).mut hD (no_tab eD2 nt_lst), upd_same, ?_, ?_⟩
            · rw [ds_snoc]
              exact DtAll.kb (Kb.put (S := [D]) (by simp) eD2 nt_lst) (fun b hb => by rw [List.mem_singleton.mp hb]; exact ⟨_, eD2⟩) (DtAll.snoc (DtAll.kb k2 Lsts.nil ds) hx2)
            · have e : R0 = addA es (match rdArgs (rd n) g 44 r2 with
                | none => none
                | some (es, r3) => some (ex :: es, r3)) := e
              rw [addA_add, ← hb2] at e
              rw [e, if_neg (by omega : ¬ i + 1 = 0)]
              congr 2
              omega
    · rintro σ H1 ⟨_, b, es, vs, o5, o6, rfl, hlen, k1, eD, ds, e⟩
      rw [Nat.sub_self] at e
      have e : R0 = some (es ++ [], L.drop b) := e
      rw [List.append_nil] at e
      rw [e] at h
      have h : Res K C L H Q E (toD (match expect 41 (L.drop b) with
        | none => none
        | some r2 => some (.call l es, r2))) := h
      refine ⟨_, rfl, _, rfl, D, vs, rfl, .inl ⟨.inl (.inl eD), fun t ht => ⟨by show 3 ≤ sizeLine; decide, fun t2 ht2 => ?_⟩⟩⟩
      have k2 : Kp H1 (upd H1 t (.tup vs)) := Kb.new ht
      have dt1 : Dt K (upd H1 t (.tup vs)) (.ref t) (.tuple (Ex.ds es)) := .tup (SqT.of upd_same) (DtAll.kb k2 Lsts.nil ds)
      generalize upd H1 t (.tup vs) = H2 at k2 dt1 ht2 ⊢
      obtain ⟨k3, d3⟩ := new_three (K := K) ht2 (.str (Str.ofString "call")) (.str (sx l)) dt1
      generalize upd H2 t2 (.tup [.str (Str.ofString "call"), .str (sx l), .ref t]) = H3 at k3 d3 ⊢
      have k13 := (k1.trans k2).trans k3
      refine ⟨_, rfl, _, rfl, S, b, .ref aR, L, 41, rfl, hS.kp k13, hf, hR H3, by decide, ?_⟩
      unfold expect at h
      cases e5 : atMark 41 (L.drop b) with
      | false =>
        rw [e5] at h
        exact h H3 k13
      | true =>
        rw [e5, drop_tail] at h
        have h : Res K C L H Q E (some (Ex.d (.call l es), L.drop (b + 1))) := h
        have hb1 := atMark_lt e5
        refine ⟨by show 2 ≤ sizeLine; decide, fun p4 hp4 => ?_⟩
        obtain ⟨k4, d4⟩ := new_pair (K := K) hp4 d3 (.int ((b + 1 : Nat) : Int))
        exact h _ _ (b + 1) (k13.trans k4) rfl (by omega) d4
end
end Rx

namespace Rx
open PySem PySem.Spec PyProof.Rows L2 GxR Gx Gd Rs
abbrev s_inner_ones : Stmt := topS 48
theorem sc_inner_ones : FnScope ["expression"] ["expression"] (defScope s_inner_ones) := ⟨rfl, rfl, rfl, by decide +kernel, rfl, by decide +kernel, by decide +kernel⟩
abbrev s_count_calls : Stmt := topS 49
theorem sc_count_calls : FnScope ["expression", "own", "inner"] ["expression"] (defScope s_count_calls) := ⟨rfl, rfl, rfl, by decide +kernel, rfl, by decide +kernel, by decide +kernel⟩
abbrev s_read_expression : Stmt := topS 47
theorem sc_read_expression : FnScope ["signs", "at", "expression", "end"] ["signs", "at"] (defScope s_read_expression) := ⟨rfl, rfl, rfl, by decide +kernel, rfl, by decide +kernel, by decide +kernel⟩
def innerOf : Ex → List Ex
  | .call _ es => es
  | .inj _ e => [e]
  | _ => []
theorem callsAll_sum : ∀ es : List Ex, Ex.callsAll es = (es.map Ex.calls).sum
  | [] => rfl
  | e :: es => by show e.calls + Ex.callsAll es = _; rw [callsAll_sum es]; rfl
theorem deepAll_le : ∀ (es : List Ex) (m : Nat), Ex.deepAll es ≤ m ↔ ∀ e ∈ es, e.deep ≤ m
  | [], m => ⟨fun _ e h => (by cases h), fun _ => Nat.zero_le _⟩
  | e :: es, m => by
    show max e.deep (Ex.deepAll es) ≤ m ↔ _
    rw [Nat.max_le, deepAll_le es m]
    exact ⟨fun h x hx => by rcases List.mem_cons.mp hx with rfl | hx; exact h.1; exact h.2 x hx, fun h => ⟨h e List.mem_cons_self, fun x hx => h x (List.mem_cons_of_mem _ hx)⟩⟩
def own : Ex → Nat
  | .call _ _ => 1
  | .inj _ _ => 1
  | _ => 0
theorem calls_eq (e : Ex) : e.calls = own e + ((innerOf e).map Ex.calls).sum := by
  cases e with
  | lit v => rfl
  | var l => rfl
  | call f es => show 1 + Ex.callsAll es = 1 + _; rw [callsAll_sum]; rfl
  | inj l e => show 1 + e.calls = 1 + (e.calls + 0); rw [Nat.add_zero]
theorem inner_deep {e x : Ex} {m : Nat} (h : e.deep ≤ m + 1) (hx : x ∈ innerOf e) : x.deep ≤ m := by
  cases e with
  | lit v => cases hx
  | var l => cases hx
  | call f es =>
    have h : 1 + Ex.deepAll es + (es.length - 3) ≤ m + 1 := h
    exact (deepAll_le es m).mp (by omega) x hx
  | inj l e =>
    have h : 1 + e.deep ≤ m + 1 := h
    rw [List.mem_singleton.mp hx]
    omega
theorem inner_zero {e : Ex} (h : e.deep ≤ 0) : innerOf e = [] := by
  cases e with
  | lit v => rfl
  | var l => rfl
  | call f es =>
    have h : 1 + Ex.deepAll es + (es.length - 3) ≤ 0 := h
    omega
  | inj l e =>
    have h : 1 + e.deep ≤ 0 := h
    omega
theorem args_deep {f : List Sg → Option (Ex × List Sg)} {m : Nat} (hf : ∀ L e r, f L = some (e, r) → e.deep ≤ m) : ∀ (k c : Nat) (L : List Sg) (es : List Ex) (r : List Sg), rdArgs f k c L = some (es, r) → Ex.deepAll es ≤ m
  | 0, c, L, es, r, h => by cases h; exact Nat.zero_le _
  | k + 1, c, L, es, r, h => by
    have h : (match expect c L with | none => none | some r1 => match f r1 with | none => none | some (e, r2) => match rdArgs f k 44 r2 with | none => none | some (es, r3) => some (e :: es, r3)) = some (es, r) := h
    cases h1 : expect c L with
    | none => rw [h1] at h; cases h
    | some r1 =>
      rw [h1] at h
      have h : (match f r1 with | none => none | some (e, r2) => match rdArgs f k 44 r2 with | none => none | some (es, r3) => some (e :: es, r3)) = some (es, r) := h
      cases h2 : f r1 with
      | none => rw [h2] at h; cases h
      | some p =>
        obtain ⟨e, r2⟩ := p
        rw [h2] at h
        have h : (match rdArgs f k 44 r2 with | none => none | some (es, r3) => some (e :: es, r3)) = some (es, r) := h
        cases h3 : rdArgs f k 44 r2 with
        | none => rw [h3] at h; cases h
        | some p3 =>
          obtain ⟨es3, r3⟩ := p3
          rw [h3] at h
          cases h
          exact Nat.max_le.mpr ⟨hf _ _ _ h2, args_deep hf k 44 r2 es3 _ h3⟩
theorem args_len : ∀ (f : List Sg → Option (Ex × List Sg)) (k c : Nat) (L : List Sg) (es : List Ex) (r : List Sg), rdArgs f k c L = some (es, r) → es.length = k
  | f, 0, c, L, es, r, h => by cases h; rfl
  | f, k + 1, c, L, es, r, h => by
    have h : (match expect c L with | none => none | some r1 => match f r1 with | none => none | some (e, r2) => match rdArgs f k 44 r2 with | none => none | some (es, r3) => some (e :: es, r3)) = some (es, r) := h
    cases h1 : expect c L with
    | none => rw [h1] at h; cases h
    | some r1 =>
      rw [h1] at h
      have h : (match f r1 with | none => none | some (e, r2) => match rdArgs f k 44 r2 with | none => none | some (es, r3) => some (e :: es, r3)) = some (es, r) := h
      cases h2 : f r1 with
      | none => rw [h2] at h; cases h
      | some p =>
        obtain ⟨e, r2⟩ := p
        rw [h2] at h
        have h : (match rdArgs f k 44 r2 with | none => none | some (es, r3) => some (e :: es, r3)) = some (es, r) := h
        cases h3 : rdArgs f k 44 r2 with
        | none => rw [h3] at h; cases h
        | some p3 =>
          obtain ⟨es3, r3⟩ := p3
          rw [h3] at h
          cases h
          show es3.length + 1 = k + 1
          rw [args_len f k 44 r2 es3 _ h3]
theorem inner_len {e : Ex} {m : Nat} (h : e.deep ≤ m) : (innerOf e).length ≤ m + 3 := by
  cases e with
  | lit v => exact Nat.zero_le _
  | var l => exact Nat.zero_le _
  | call f es =>
    have h : 1 + Ex.deepAll es + (es.length - 3) ≤ m := h
    show es.length ≤ m + 3
    omega
  | inj l e => show 1 ≤ m + 3; omega
theorem map_deep {L r : List Sg} {e : Ex} (h : rdMap L = some (e, r)) : e.deep = 0 := by
  unfold rdMap at h
  cases h1 : expect 40 L with
  | none => rw [h1] at h; cases h
  | some r1 =>
    rw [h1] at h
    have h : (match rdEnts (r1.length + 1) true r1 with | none => none | some (es, r2) => if Rv.isValueD (.tuple [.str "map", .tuple es]) = true then some (Ex.lit (.tuple [.str "map", .tuple es]), r2) else none) = some (e, r) := h
    cases h2 : rdEnts (r1.length + 1) true r1 with
    | none => rw [h2] at h; cases h
    | some p =>
      rw [h2] at h
      have h : (if Rv.isValueD (.tuple [.str "map", .tuple p.1]) = true then some (Ex.lit (.tuple [.str "map", .tuple p.1]), p.2) else none) = some (e, r) := h
      split at h
      · cases h; rfl
      · cases h
theorem rd_deep : ∀ (n : Nat) (L r : List Sg) (e : Ex), rd n L = some (e, r) → e.deep ≤ n
  | n, [], r, e, h => by rw [rd_nil] at h; cases h
  | n, s :: L, r, e, h => by
    rw [rd_cons] at h
    cases h1 : scalarOf s with
    | some v => rw [h1] at h; cases h; exact Nat.zero_le _
    | none =>
      rw [h1] at h
      cases s with
      | num m => cases h
      | quo m => cases h
      | mark m => cases h
      | name l =>
        have h : (if l = cs "map" then rdMap L else if l ∉ reserved then some (Ex.var l, L) else match prevF n with
          | none => none
          | some f => if l = cs "inject" then rdInj f L else rdCall f l L) = some (e, r) := h
        by_cases hm : l = cs "map"
        · rw [if_pos hm] at h
          rw [map_deep h]
          exact Nat.zero_le _
        · rw [if_neg hm] at h
          by_cases hr : l ∉ reserved
          · rw [if_pos hr] at h; cases h; exact Nat.zero_le _
          · rw [if_neg hr] at h
            cases n with
            | zero => cases h
            | succ m =>
              have h : (if l = cs "inject" then rdInj (rd m) L else rdCall (rd m) l L) = some (e, r) := h
              by_cases hi : l = cs "inject"
              · rw [if_pos hi, inj_is] at h
                split at h
                · cases ht : L.tail with
                  | nil => rw [ht] at h; cases h
                  | cons s2 r1 =>
                    rw [ht] at h
                    cases s2 with
                    | name l2 =>
                      have h : (if l2 ∈ reserved then none else if atMark 44 r1 = true then (match rd m r1.tail with
                        | none => none
                        | some (e, r3) => if atMark 41 r3 = true then some (Ex.inj l2 e, r3.tail) else none) else none) = some (e, r) := h
                      split at h
                      · cases h
                      · split at h
                        · cases h4 : rd m r1.tail with
                          | none => rw [h4] at h; cases h
                          | some p =>
                            obtain ⟨e4, r4⟩ := p
                            rw [h4] at h
                            have h : (if atMark 41 r4 = true then some (Ex.inj l2 e4, r4.tail) else none) = some (e, r) := h
                            split at h
                            · cases h
                              have := rd_deep m _ _ _ h4
                              show 1 + e4.deep ≤ m + 1
                              omega
                            · cases h
                        · cases h
                    | _ => cases h
                · cases h
              · rw [if_neg hi] at h
                unfold rdCall at h
                cases h4 : rdArgs (rd m) (arity l) 40 L with
                | none => rw [h4] at h; cases h
                | some p =>
                  obtain ⟨es, r4⟩ := p
                  rw [h4] at h
                  have h : (match expect 41 r4 with | none => none | some r2 => some (Ex.call l es, r2)) = some (e, r) := h
                  cases h5 : expect 41 r4 with
                  | none => rw [h5] at h; cases h
                  | some r5 =>
                    rw [h5] at h
                    cases h
                    have := args_deep (fun L e r h => rd_deep m L r e h) _ _ _ _ _ h4
                    have hl := args_len _ _ _ _ _ _ h4
                    have ha : arity l ≤ 3 := by
                      unfold arity
                      repeat' split
                      all_goals omega
                    show 1 + Ex.deepAll es + (es.length - 3) ≤ m + 1
                    omega
theorem ite_to {b : Bool} {A : Int → Prop} {x : Int} (e : (if b = true then (1 : Int) else 0) = x) (h : A x) : if b = true then A 1 else A 0 := by
  cases b with
  | true => rw [← e] at h; exact iteT h
  | false => rw [← e] at h; exact iteF h
theorem ds_map : ∀ es : List Ex, Ex.ds es = es.map Ex.d
  | [] => rfl
  | e :: es => by show e.d :: Ex.ds es = _; rw [ds_map es]; rfl
theorem sum_cast : ∀ es : List Ex, (es.map fun x => ((x.calls : Nat) : Int)).sum = (((es.map Ex.calls).sum : Nat) : Int)
  | [] => rfl
  | e :: es => by
    have ih := sum_cast es
    simp only [List.map_cons, List.sum_cons] at ih ⊢
    omega
def spInner (K : PySem.W.Frag) : Sp := fun vs H Q _ => ∃ v e, vs = [v] ∧ Dt K H v (Ex.d e) ∧ ∀ H' p xs, Kp H H' → SqT K H' p xs → DtAll K H' xs (Ex.ds (innerOf e)) → Q (.ref p) H'
def spCnt (K : PySem.W.Frag) (m : Nat) : Sp := fun vs H Q _ => ∃ v e, vs = [v] ∧ Dt K H v (Ex.d e) ∧ e.deep ≤ m ∧ ∀ H', Kp H H' → Q (.int (e.calls : Int)) H'
def spRE (K : PySem.W.Frag) (C : Addr) (ts : List Addr) : Sp := fun vs H Q E => ∃ (S : Addr) (at' : Nat) (L : List Sg), vs = [.ref S, .int (at' : Int)] ∧ Sgs K H S L ∧ (∀ s ∈ L, fit s = true) ∧ L.length ≤ 1000 ∧ (∀ T ∈ ts, TabG H T) ∧ Res K C L H Q E (toD (readE (L.drop at')))
section
variable {P : Program} {w : World} {K : PySem.W.Frag} {mg : Str → Option Value} {base : Heap}
theorem dt_head {H : Hp} {v : V} {e : Ex} (h : Dt K H v e.d) : ∃ p xs wd, v = .ref p ∧ SqT K H p xs ∧ xs[0]? = some (.str (Str.ofString wd)) ∧ (match e with
    | .lit _ => wd = "literal"
    | .var _ => wd = "variable"
    | .call _ es => wd = "call" ∧ ∃ q ys, xs[2]? = some (.ref q) ∧ SqT K H q ys ∧ DtAll K H ys (Ex.ds es)
    | .inj _ e => wd = "inject" ∧ ∃ z, xs[2]? = some z ∧ Dt K H z e.d) := by
  cases e with
  | lit x => obtain ⟨p, a, b, rfl, hp, ha, hb⟩ := dt_pair h; cases ha; exact ⟨p, _, "literal", rfl, hp, rfl, rfl⟩
  | var x => obtain ⟨p, a, b, rfl, hp, ha, hb⟩ := dt_pair h; cases ha; exact ⟨p, _, "variable", rfl, hp, rfl, rfl⟩
  | call f es =>
    cases h with
    | tup h hs =>
      cases hs with
      | cons h1 hs =>
        cases hs with
        | cons h2 hs =>
          cases hs with
          | cons h3 hs =>
            cases hs
            cases h1
            cases h3 with
            | tup h3 hs3 => exact ⟨_, _, "call", rfl, h, rfl, rfl, _, _, rfl, h3, hs3⟩
  | inj l x =>
    cases h with
    | tup h hs =>
      cases hs with
      | cons h1 hs =>
        cases hs with
        | cons h2 hs =>
          cases hs with
          | cons h3 hs =>
            cases hs
            cases h1
            exact ⟨_, _, "inject", rfl, h, rfl, rfl, _, rfl, h3⟩
theorem c_inner_ones (D : DefAt K mg "_inner_ones" s_inner_ones ["expression"]) : Cal P w K mg base CX0 1 "_inner_ones" ["expression"] (spInner K) := by
  refine D.cal (k := 0) sc_inner_ones (fun vs H Q E h => ?_) fun f cdv A outer s H vs Q E hr h => ?_
  · obtain ⟨v, e, rfl, _⟩ := h
    rfl
  · obtain ⟨v, e, rfl, hv, q⟩ := h
    refine ⟨_, (pss_cons (ps_if (pt_cmpR op_eq (pe_ix ix_tup (pv 0) pe_int (fun _ _ => rfl)) pe_str (nomark _)) (pss_one (ps_ret (pe_ix ix_tup (pv 0) pe_int (fun _ _ => rfl)))) pss_nil)
  (pss_cons (ps_if (pt_cmpR op_eq (pe_ix ix_tup (pv 0) pe_int (fun _ _ => rfl)) pe_str (nomark _)) (pss_one (ps_ret (pe_tup (pa_cons (pe_ix ix_tup (pv 0) pe_int (fun _ _ => rfl)) pa_nil)))) pss_nil)
  (pss_one (ps_ret (pe_tup pa_nil))))), ?_⟩
    obtain ⟨p, xs, wd, rfl, hp, h0, hm⟩ := dt_head hv
    refine ⟨_, rfl, p, xs, 0, _, rfl, rfl, hp, atI_nat (j := 0) h0, rfl, _, rfl, ?_⟩
    cases e with
    | lit x =>
      obtain rfl : wd = "literal" := hm
      refine iteN (show ¬ V.str (Str.ofString "literal") = V.str (Str.ofString "call") by decide +kernel) ⟨_, rfl, p, xs, 0, _, rfl, rfl, hp, atI_nat (j := 0) h0, rfl, _, rfl, iteN (show ¬ V.str (Str.ofString "literal") = V.str (Str.ofString "inject") by decide +kernel) ⟨Nat.zero_le _, fun t ht => q _ t [] (Kb.new ht) (SqT.of upd_same) .nil⟩⟩
    | var x =>
      obtain rfl : wd = "variable" := hm
      refine iteN (show ¬ V.str (Str.ofString "variable") = V.str (Str.ofString "call") by decide +kernel) ⟨_, rfl, p, xs, 0, _, rfl, rfl, hp, atI_nat (j := 0) h0, rfl, _, rfl, iteN (show ¬ V.str (Str.ofString "variable") = V.str (Str.ofString "inject") by decide +kernel) ⟨Nat.zero_le _, fun t ht => q _ t [] (Kb.new ht) (SqT.of upd_same) .nil⟩⟩
    | call g es =>
      obtain ⟨rfl, z, ys, h2, hz, hys⟩ := hm
      exact iteP (show V.str (Str.ofString "call") = V.str (Str.ofString "call") from rfl) ⟨_, rfl, p, xs, 2, _, rfl, rfl, hp, atI_nat (j := 2) h2, q H z ys (Kb.refl H) hz hys⟩
    | inj l x =>
      obtain ⟨rfl, z, h2, hz⟩ := hm
      refine iteN (show ¬ V.str (Str.ofString "inject") = V.str (Str.ofString "call") by decide +kernel) ⟨_, rfl, p, xs, 0, _, rfl, rfl, hp, atI_nat (j := 0) h0, rfl, _, rfl, iteP (show V.str (Str.ofString "inject") = V.str (Str.ofString "inject") from rfl) ⟨_, rfl, p, xs, 2, _, rfl, rfl, hp, atI_nat (j := 2) h2, by show 1 ≤ sizeLine; decide, fun t ht => q _ t [z] (Kb.new ht) (SqT.of upd_same) (.cons (hz.kb (Kb.new ht) Lsts.nil) .nil)⟩⟩
def prevN (K : PySem.W.Frag) : Nat → Sp
  | 0 => fun _ _ _ _ => False
  | n + 1 => spCnt K n
theorem c_count_calls {m k : Nat} (hk : 1 ≤ k) (hm100 : m ≤ 100) (D : DefAt K mg "_count_calls" s_count_calls ["expression"]) (m_sum : mg "sum" = none) (c__inner_ones : Cal P w K mg base CX0 1 "_inner_ones" ["expression"] (spInner K))
    (c__count_calls : Cal P w K mg base CX0 k "_count_calls" ["expression"] (prevN K m)) : Cal P w K mg base CX0 (k + 1) "_count_calls" ["expression"] (spCnt K m) := by
  refine D.cal (k := k) sc_count_calls (fun vs H Q E h => ?_) fun f cdv A outer s H vs Q E hr h => ?_
  · obtain ⟨v, e, rfl, _⟩ := h
    rfl
  · obtain ⟨v, e, rfl, hv, hd, q⟩ := h
    refine ⟨_, (pss_cons (ps_set (i := 1) sc_count_calls.nd rfl (Or.inl rfl) (pe_ifExp (pt_cmpR op_in_seq (pe_ix ix_tup (pv 0) pe_int (fun _ _ => rfl)) (pe_tup (pa_cons pe_str (pa_cons pe_str pa_nil))) (by rfl)) pe_int pe_int))
  (pss_one (ps_ret (pe_op op_add (pv 1) (pe_callB (cr_sum rfl) (by rfl) m_sum (by decide +kernel) (pa_cons (pe_lc rfl sc_count_calls.nd (pi_tup (pe_cal (c__inner_ones.mono (by omega)) hr (by rfl) (pa_cons (pv 0) pa_nil))) (blkOk_by (own := [("inner", 2)]) (N := ["expression", "own", "inner"]) (sc := defScope s_count_calls) (by decide +kernel)) (fun _ _ _ _ _ => (pg_name (i := 2) sc_count_calls.nd rfl (Or.inl rfl))) (fun _ _ _ _ _ => pts_nil) (fun _ _ _ _ _ => (pe_cal (c__count_calls.mono (by omega)) hr (by rfl) (pa_cons (pv 2) pa_nil)))) pa_nil)))))), ?_⟩
    obtain ⟨p, xs, wd, rfl, hp, h0, hm⟩ := dt_head hv
    refine ⟨_, rfl, p, xs, 0, _, rfl, rfl, hp, atI_nat (j := 0) h0, by show 2 ≤ sizeLine; decide, fun t ht => ⟨t, _, rfl, .inr (SqT.of upd_same), rfl, rfl, _, rfl, ?_⟩⟩
    have k1 : Kp H (upd H t (.tup [.str (Str.ofString "call"), .str (Str.ofString "inject")])) := Kb.new ht
    have hv1 := hv.kb k1 Lsts.nil
    generalize upd H t (.tup [.str (Str.ofString "call"), .str (Str.ofString "inject")]) = H1 at k1 hv1 ⊢
    have eo : (if inV (.str (Str.ofString wd)) [.str (Str.ofString "call"), .str (Str.ofString "inject")] = true then (1 : Int) else 0) = (own e : Int) := by
      cases e with
      | lit x => obtain rfl : wd = "literal" := hm; exact (show (if inV (.str (Str.ofString "literal")) [.str (Str.ofString "call"), .str (Str.ofString "inject")] = true then (1 : Int) else 0) = 0 by decide +kernel)
      | var x => obtain rfl : wd = "variable" := hm; exact (show (if inV (.str (Str.ofString "variable")) [.str (Str.ofString "call"), .str (Str.ofString "inject")] = true then (1 : Int) else 0) = 0 by decide +kernel)
      | call g es => obtain ⟨rfl, _⟩ := hm; exact (show (if inV (.str (Str.ofString "call")) [.str (Str.ofString "call"), .str (Str.ofString "inject")] = true then (1 : Int) else 0) = 1 by decide +kernel)
      | inj l x => obtain ⟨rfl, _⟩ := hm; exact (show (if inV (.str (Str.ofString "inject")) [.str (Str.ofString "call"), .str (Str.ofString "inject")] = true then (1 : Int) else 0) = 1 by decide +kernel)
    refine ite_to (A := fun n => tC (V.int n) _ _ _) eo ?_
    refine ⟨_, rfl, _, rfl, .ref p, e, rfl, hv1, fun H2 p2 xs2 k2 hp2 hx2 => ⟨p2, rfl, ⟨xs2, hp2⟩, fun D hD => ?_⟩⟩
    have hl := hx2.length
    rw [ds_len] at hl
    refine lc_it walk_tup (fun i H' => Kp H2 H' ∧ H' D = some (.lst ((((innerOf e).take i).map fun x => ((x.calls : Nat) : Int)).map V.int))) ⟨Kb.new hD, upd_same⟩ (fun i H' _ h => h.1.sqT Lsts.nil hp2) ?_ ?_
    · rintro i x _ H3 hi ⟨k3, e3⟩ ⟨rfl, hx⟩
      have hxe : (innerOf e)[i]? = some ((innerOf e)[i]'(by omega)) := List.getElem?_eq_getElem (by omega)
      generalize (innerOf e)[i]'(by omega) = ex at hxe
      obtain ⟨d, hd1, hd2⟩ := (DtAll.kb k3 Lsts.nil hx2).get hx
      have hmem := List.mem_of_getElem? hxe
      have hds : (Ex.ds (innerOf e))[i]? = some ex.d := by
        rw [ds_map, List.getElem?_map, hxe]; rfl
      rw [hds] at hd1
      cases hd1
      refine ⟨rfl, ?_⟩
      cases m with
      | zero => rw [inner_zero hd] at hmem; cases hmem
      | succ m' =>
        refine iteT (B := Kp H2 H3 ∧ H3 D = some (.lst ((((innerOf e).take (i + 1)).map fun x => ((x.calls : Nat) : Int)).map V.int))) ⟨_, rfl, x, ex, rfl, hd2, inner_deep hd hmem, fun H4 k4 => ?_⟩
        have e4 := k4.keep D _ e3 (by simp) nt_lst
        refine ⟨_, e4, ?_, (k3.trans k4).mut hD (no_tab e4 nt_lst), ?_⟩
        · have h3 := inner_len hd
          have : sizeLine = 16777216 := rfl
          rw [List.length_map, List.length_map, List.length_take]
          omega
        · rw [upd_same, List.take_succ, hxe]
          simp
    · rintro H3 ⟨k3, e3⟩
      rw [List.take_of_length_le (by omega)] at e3
      refine ⟨D, (innerOf e).map fun x => ((x.calls : Nat) : Int), rfl, .inl (.inl e3), _, _, rfl, rfl, ?_⟩
      have es : (own e : Int) + ((innerOf e).map fun x => ((x.calls : Nat) : Int)).sum = (e.calls : Int) := by
        rw [calls_eq e, sum_cast]
        omega
      have qq := q H3 ((k1.trans k2).trans k3)
      rw [← es] at qq
      exact qq
theorem c_read_expression {C : Addr} {ts : List Addr} {k : Nat} (D : DefAt K mg "read_expression" s_read_expression ["signs", "at"]) (BN_BadExpression : BadN K mg "BadExpression" C) (g_MOST : ∃ t, mg "MOST_CALLS" = some (.int 10 t))
    (c__read : CalX P w K mg base k "_read" ["signs", "at", "depth"] (spRd K C ts 5)) (c__count_calls : Cal P w K mg base CX0 k "_count_calls" ["expression"] (spCnt K 5)) : CalX P w K mg base (k + 1) "read_expression" ["signs", "at"] (spRE K C ts) := by
  refine D.calX (k := k) sc_read_expression (fun vs H Q E h => ?_) fun f cdv A outer s H vs Q E hr h => ?_
  · obtain ⟨S, a, L, rfl, _⟩ := h
    rfl
  · obtain ⟨S, a, L, rfl, hS, hf, hz, hT, h⟩ := h
    obtain ⟨tM, g_MOST_CALLS⟩ := g_MOST
    refine ⟨_, (pss_cons (ps_asg (pe_calX (c__read.mono (by omega)) hr (by rfl) (fun σ => passAt (takes_of rfl rfl rfl rfl) σ) (pa_cons (pv 0) (pa_cons (pv 1) (pa_cons pe_int pa_nil)))) (pg_tup rfl (pgs_cons (pg_name (i := 2) sc_read_expression.nd rfl (Or.inl rfl)) (pgs_cons (pg_name (i := 3) sc_read_expression.nd rfl (Or.inl rfl)) pgs_nil))))
  (pss_cons (ps_if (pt_cmpR op_gt (pe_cal (c__count_calls.mono (by omega)) hr (by rfl) (pa_cons (pv 2) pa_nil)) (pe_glob (v := .int 10) rfl g_MOST_CALLS ⟨_, rfl⟩) (nomark _)) (pss_one (ps_bad0 BN_BadExpression rfl (takes_of rfl rfl rfl rfl) (by rfl))) pss_nil)
  (pss_one (ps_ret (pe_tup (pa_cons (pv 2) (pa_cons (pv 3) pa_nil))))))), ?_⟩
    refine ⟨_, rfl, _, rfl, S, a, L, 1, rfl, by decide, hS, hf, hz, hT, ?_⟩
    unfold readE at h
    cases e1 : rd 5 (L.drop a) with
    | none =>
      rw [e1] at h
      exact h
    | some p =>
      obtain ⟨ex, r⟩ := p
      rw [e1] at h
      have h : Res K C L H Q E (toD (if 10 < ex.calls then none else some (ex, r))) := h
      intro H2 u b k2 hb hbl du
      obtain ⟨p2, x2, y2, rfl, hp2, hx2, hy2⟩ := dt_pair du
      cases hy2
      refine ⟨p2, _, rfl, hp2, rfl, _, _, rfl, _, _, rfl, rfl, ?_⟩
      refine ⟨_, rfl, x2, ex, rfl, hx2, rd_deep 5 _ _ _ e1, fun H3 k3 => ⟨_, _, rfl, rfl, _, rfl, ?_⟩⟩
      have k23 := k2.trans k3
      by_cases hc : 10 < ex.calls
      · rw [if_pos hc] at h
        exact iteP (show (10 : Int) < (ex.calls : Int) by omega) (h H3 k23)
      · rw [if_neg hc] at h
        have h : Res K C L H Q E (some (ex.d, r)) := h
        refine iteN (show ¬ (10 : Int) < (ex.calls : Int) by omega) ⟨_, rfl, _, rfl, by show 2 ≤ sizeLine; decide, fun p4 hp4 => ?_⟩
        obtain ⟨k4, d4⟩ := new_pair (K := K) hp4 (hx2.kb k3 Lsts.nil) (.int (b : Int))
        exact h _ _ b (k23.trans k4) hb hbl d4
end
end Rx

namespace Rx
open PySem PySem.Spec PyProof.Rows L2 GxR Gx Gd Rs
abbrev s_law_wrong : Stmt := topS 64
theorem sc_law_wrong : FnScope ["rows", "k"] [] (defScope s_law_wrong) := ⟨rfl, rfl, rfl, by decide +kernel, rfl, by decide +kernel, by decide +kernel⟩
abbrev s_law_near : Stmt := topS 65
theorem sc_law_near : FnScope ["rows", "k"] [] (defScope s_law_near) := ⟨rfl, rfl, rfl, by decide +kernel, rfl, by decide +kernel, by decide +kernel⟩
abbrev s_law_calls : Stmt := topS 66
theorem sc_law_calls : FnScope ["many", "text"] ["many"] (defScope s_law_calls) := ⟨rfl, rfl, rfl, by decide +kernel, rfl, by decide +kernel, by decide +kernel⟩
def keyStr (i : Nat) : Str := (Str.ofString "\"k" ++ Str.ofString (toString (0 + (i : Int)))) ++ Str.ofString "\", 1"
def keyStrs (n : Nat) : List Str := (List.range n).map keyStr
def spRows (ls : List (List Nat)) : Sp := fun vs H Q _ => vs = [] ∧ ∀ H' p, Kp H H' → H' p = some (.lst (ls.map fun l => V.str (sx l))) → Q (.ref p) H'
theorem keep_lst {H H' : Hp} {p : Addr} {xs : List V} (k : Kp H H') (e : H p = some (.lst xs)) : H' p = some (.lst xs) := k.keep p _ e (by simp) nt_lst
section
variable {P : Program} {w : World} {K : PySem.W.Frag} {mg : Str → Option Value} {base : Heap}
theorem c_law_wrong (D : DefAt K mg "_law_wrong" s_law_wrong []) (m_range : mg "range" = none) (m_str : mg "str" = none) : Cal P w K mg base CX0 1 "_law_wrong" [] (spRows wrongs) := by
  refine D.cal (k := 0) sc_law_wrong (fun vs H Q E h => ?_) fun f cdv A outer s H vs Q E hr h => ?_
  · obtain ⟨rfl, _⟩ := h
    rfl
  · obtain ⟨rfl, q⟩ := h
    refine ⟨_, (pss_cons (ps_set (i := 0) sc_law_wrong.nd rfl (Or.inl rfl) (pe_lst (pa_cons pe_str (pa_cons pe_str (pa_cons pe_str (pa_cons pe_str (pa_cons pe_str (pa_cons pe_str (pa_cons pe_str (pa_cons pe_str (pa_cons pe_str (pa_cons pe_str (pa_cons pe_str (pa_cons pe_str (pa_cons pe_str (pa_cons pe_str (pa_cons pe_str pa_nil)))))))))))))))))
  (pss_cons (ps_set (i := 0) sc_law_wrong.nd rfl (Or.inl rfl) (pe_op op_cat (pv 0) (pe_lst (pa_cons pe_str (pa_cons pe_str (pa_cons pe_str (pa_cons pe_str (pa_cons pe_str (pa_cons pe_str (pa_cons pe_str (pa_cons pe_str (pa_cons pe_str (pa_cons pe_str pa_nil)))))))))))))
  (pss_cons (ps_set (i := 0) sc_law_wrong.nd rfl (Or.inl rfl) (pe_op op_cat (pv 0) (pe_lst (pa_cons pe_str (pa_cons pe_str (pa_cons pe_str (pa_cons pe_str (pa_cons pe_str (pa_cons (pe_op op_add_str (pe_op op_add_str pe_str (pe_op op_mul_str pe_str pe_int)) pe_str) (pa_cons pe_str pa_nil))))))))))
  (pss_cons (ps_set (i := 0) sc_law_wrong.nd rfl (Or.inl rfl) (pe_op op_cat (pv 0) (pe_lst (pa_cons pe_str (pa_cons pe_str (pa_cons pe_str (pa_cons pe_str (pa_cons pe_str (pa_cons pe_str (pa_cons pe_str (pa_cons pe_str (pa_cons pe_str pa_nil))))))))))))
  (pss_cons (ps_set (i := 0) sc_law_wrong.nd rfl (Or.inl rfl) (pe_op op_cat (pv 0) (pe_lst (pa_cons pe_str (pa_cons pe_str (pa_cons pe_str (pa_cons (pe_op op_add_str (pe_op op_add_str pe_str (pe_join pe_str (pe_lc rfl sc_law_wrong.nd (pi_range1 (by rfl) m_range (pa_cons pe_int pa_nil)) (blkOk_by (own := [("k", 1)]) (N := ["rows", "k"]) (sc := defScope s_law_wrong) (by decide +kernel)) (fun _ _ _ _ _ => (pg_name (i := 1) sc_law_wrong.nd rfl (Or.inl rfl))) (fun _ _ _ _ _ => pts_nil) (fun _ _ _ _ _ => (pe_op op_add_str (pe_op op_add_str pe_str (pe_callTy call_str_int (by rfl) m_str (by decide +kernel) (pa_cons (pv 1) pa_nil))) pe_str))))) pe_str) pa_nil)))))))
  (pss_one (ps_ret (pe_op op_cat (pv 0) (pe_slice sl_list (pe_lst (pa_cons (pe_op op_add_str (pe_op op_add_str (pe_op op_mul_str pe_str pe_int) pe_str) (pe_op op_mul_str pe_str pe_int)) (pa_cons (pe_op op_add_str (pe_op op_add_str (pe_op op_mul_str pe_str pe_int) pe_str) (pe_op op_mul_str pe_str pe_int)) (pa_cons pe_str (pa_cons pe_str (pa_cons pe_str pa_nil)))))) po_none (po_some pe_int)))))))))), ?_⟩
    have sz : sizeLine = 16777216 := rfl
    refine ⟨by show 15 ≤ sizeLine; decide, fun p0 h0 => ?_⟩
    refine ⟨_, rfl, by show 10 ≤ sizeLine; decide, fun p1 h1 => ⟨p0, p1, _, _, rfl, rfl, keep_lst (Kb.new h1) upd_same, upd_same, by decide, fun p2 h2 => ?_⟩⟩
    refine ⟨_, rfl, _, _, rfl, rfl, mulB_ok (by decide +kernel), _, _, rfl, rfl, by decide +kernel, _, _, rfl, rfl, by decide +kernel, by show 7 ≤ sizeLine; decide, fun p3 h3 => ⟨p2, p3, _, _, rfl, rfl, keep_lst (Kb.new h3) upd_same, upd_same, by decide, fun p4 h4 => ?_⟩⟩
    refine ⟨_, rfl, by show 9 ≤ sizeLine; decide, fun p5 h5 => ⟨p4, p5, _, _, rfl, rfl, keep_lst (Kb.new h5) upd_same, upd_same, by decide, fun p6 h6 => ?_⟩⟩
    refine ⟨_, rfl, ⟨_, rfl⟩, 9, rfl, by decide, by decide, fun D hD => ?_⟩
    have HD : H D = none := upd_some_of (upd_some_of (upd_some_of (upd_some_of (upd_some_of (upd_some_of (upd_some_of hD))))))
    refine lc_it walk_range (fun i H' => Kp H H' ∧ H' p6 = some (.lst ((wrongs.take 41).map fun l => V.str (sx l))) ∧ p6 ≠ D ∧ i ≤ 9 ∧ H' D = some (.lst ((keyStrs i).map V.str))) ⟨(((((((Kb.new (S := []) h0).trans (Kb.new h1)).trans (Kb.new h2)).trans (Kb.new h3)).trans (Kb.new h4)).trans (Kb.new h5)).trans (Kb.new h6)).trans (Kb.new hD), (keep_lst (Kb.new hD) upd_same).trans (congrArg (fun l => some (HO.lst l)) (by decide +kernel)), ne_of_none upd_same hD, Nat.zero_le _, upd_same⟩ (fun _ _ _ _ => trivial) ?_ ?_
    · rintro i x _ H1 hi ⟨k1, e6, n6, hi9, e1⟩ ⟨rfl, hx⟩
      obtain rfl : x = .int (0 + (i : Int)) := hx
      have hi : i < 9 := hi
      refine ⟨rfl, iteT (B := Kp H H1 ∧ H1 p6 = some (.lst ((wrongs.take 41).map fun l => V.str (sx l))) ∧ p6 ≠ D ∧ i + 1 ≤ 9 ∧ H1 D = some (.lst ((keyStrs (i + 1)).map V.str))) ⟨_, rfl, _, rfl, ?_, _, _, rfl, rfl, ?_, _, _, rfl, rfl, ?_, _, e1, ?_, k1.mut HD (no_tab e1 nt_lst), by rw [upd_ne n6]; exact e6, n6, hi, ?_⟩⟩
      · have := List.all_eq_true.mp (show (List.range 9).all (fun i => decide ((0 + (i : Int)).natAbs.log2 < 1920)) = true by decide +kernel) i (List.mem_range.mpr hi)
        exact of_decide_eq_true this
      · have := List.all_eq_true.mp (show (List.range 9).all (fun i => decide ((Str.ofString "\"k").length + (Str.ofString (toString (0 + (i : Int)))).length ≤ sizeLine)) = true by decide +kernel) i (List.mem_range.mpr hi)
        exact of_decide_eq_true this
      · have := List.all_eq_true.mp (show (List.range 9).all (fun i => decide ((Str.ofString "\"k" ++ Str.ofString (toString (0 + (i : Int)))).length + (Str.ofString "\", 1").length ≤ sizeLine)) = true by decide +kernel) i (List.mem_range.mpr hi)
        exact of_decide_eq_true this
      · rw [List.length_map]
        unfold keyStrs
        rw [List.length_map, List.length_range]
        omega
      · rw [upd_same]
        unfold keyStrs
        rw [List.range_succ, List.map_append, List.map_append]
        rfl
    · rintro H1 ⟨k1, e6, n6, _, e1⟩
      have e1 : H1 D = some (.lst ((keyStrs 9).map V.str)) := e1
      refine ⟨_, D, keyStrs 9, rfl, rfl, .inl (.inl (.inl e1)), by decide +kernel, _, _, rfl, rfl, by decide +kernel, _, _, rfl, rfl, by decide +kernel, by show 4 ≤ sizeLine; decide, fun p7 h7 => ⟨p6, p7, _, _, rfl, rfl, keep_lst (Kb.new h7) e6, upd_same, by decide, fun p8 h8 => ?_⟩⟩
      refine ⟨_, rfl, _, _, rfl, rfl, mulB_ok (by decide +kernel), _, _, rfl, rfl, by decide +kernel, _, _, rfl, rfl, mulB_ok (by decide +kernel), _, _, rfl, rfl, by decide +kernel, ?_⟩
      refine ⟨_, _, rfl, rfl, mulB_ok (by decide +kernel), _, _, rfl, rfl, by decide +kernel, _, _, rfl, rfl, mulB_ok (by decide +kernel), _, _, rfl, rfl, by decide +kernel, ?_⟩
      refine ⟨by show 5 ≤ sizeLine; decide, fun p9 h9 => ⟨_, rfl, p9, _, rfl, .inl (.inl upd_same), fun p10 h10 => ⟨p8, p10, _, _, rfl, rfl, keep_lst (Kb.new h10) (keep_lst (Kb.new h9) upd_same), upd_same, by decide, fun p11 h11 => ?_⟩⟩⟩
      refine q _ p11 (((((k1.trans (Kb.new h7)).trans (Kb.new h8)).trans (Kb.new h9)).trans (Kb.new h10)).trans (Kb.new h11)) ?_
      rw [upd_same]
      exact congrArg (fun l => some (HO.lst l)) (by decide +kernel)
theorem c_law_near (D : DefAt K mg "_law_near" s_law_near []) (m_range : mg "range" = none) (m_str : mg "str" = none) : Cal P w K mg base CX0 1 "_law_near" [] (spRows nears) := by
  refine D.cal (k := 0) sc_law_near (fun vs H Q E h => ?_) fun f cdv A outer s H vs Q E hr h => ?_
  · obtain ⟨rfl, _⟩ := h
    rfl
  · obtain ⟨rfl, q⟩ := h
    refine ⟨_, (pss_cons (ps_set (i := 0) sc_law_near.nd rfl (Or.inl rfl) (pe_lst (pa_cons pe_str (pa_cons pe_str (pa_cons pe_str (pa_cons pe_str (pa_cons pe_str (pa_cons pe_str (pa_cons pe_str (pa_cons pe_str (pa_cons (pe_op op_add_str (pe_op op_add_str pe_str (pe_op op_mul_str pe_str pe_int)) pe_str) (pa_cons pe_str (pa_cons pe_str (pa_cons pe_str (pa_cons pe_str pa_nil)))))))))))))))
  (pss_cons (ps_set (i := 0) sc_law_near.nd rfl (Or.inl rfl) (pe_op op_cat (pv 0) (pe_lst (pa_cons pe_str (pa_cons pe_str (pa_cons pe_str (pa_cons pe_str (pa_cons pe_str (pa_cons pe_str (pa_cons pe_str (pa_cons pe_str (pa_cons pe_str (pa_cons pe_str pa_nil)))))))))))))
  (pss_cons (ps_set (i := 0) sc_law_near.nd rfl (Or.inl rfl) (pe_op op_cat (pv 0) (pe_lst (pa_cons (pe_op op_add_str (pe_op op_add_str (pe_op op_mul_str pe_str pe_int) pe_str) (pe_op op_mul_str pe_str pe_int)) (pa_cons (pe_op op_add_str (pe_op op_add_str pe_str (pe_join pe_str (pe_lc rfl sc_law_near.nd (pi_range1 (by rfl) m_range (pa_cons pe_int pa_nil)) (blkOk_by (own := [("k", 1)]) (N := ["rows", "k"]) (sc := defScope s_law_near) (by decide +kernel)) (fun _ _ _ _ _ => (pg_name (i := 1) sc_law_near.nd rfl (Or.inl rfl))) (fun _ _ _ _ _ => pts_nil) (fun _ _ _ _ _ => (pe_op op_add_str (pe_op op_add_str pe_str (pe_callTy call_str_int (by rfl) m_str (by decide +kernel) (pa_cons (pv 1) pa_nil))) pe_str))))) pe_str) pa_nil)))))
  (pss_one (ps_ret (pv 0)))))), ?_⟩
    have sz : sizeLine = 16777216 := rfl
    refine ⟨_, _, rfl, rfl, mulB_ok (by decide +kernel), _, _, rfl, rfl, by decide +kernel, _, _, rfl, rfl, by decide +kernel, by show 13 ≤ sizeLine; decide, fun p0 h0 => ?_⟩
    refine ⟨_, rfl, by show 10 ≤ sizeLine; decide, fun p1 h1 => ⟨p0, p1, _, _, rfl, rfl, keep_lst (Kb.new h1) upd_same, upd_same, by decide, fun p6 h6 => ?_⟩⟩
    refine ⟨_, rfl, _, _, rfl, rfl, mulB_ok (by decide +kernel), _, _, rfl, rfl, by decide +kernel, _, _, rfl, rfl, mulB_ok (by decide +kernel), _, _, rfl, rfl, by decide +kernel, ⟨_, rfl⟩, 8, rfl, by decide, by decide, fun D hD => ?_⟩
    have HD : H D = none := upd_some_of (upd_some_of (upd_some_of hD))
    refine lc_it walk_range (fun i H' => Kp H H' ∧ H' p6 = some (.lst ((nears.take 23).map fun l => V.str (sx l))) ∧ p6 ≠ D ∧ i ≤ 8 ∧ H' D = some (.lst ((keyStrs i).map V.str))) ⟨(((Kb.new (S := []) h0).trans (Kb.new h1)).trans (Kb.new h6)).trans (Kb.new hD), (keep_lst (Kb.new hD) upd_same).trans (congrArg (fun l => some (HO.lst l)) (by decide +kernel)), ne_of_none upd_same hD, Nat.zero_le _, upd_same⟩ (fun _ _ _ _ => trivial) ?_ ?_
    · rintro i x _ H1 hi ⟨k1, e6, n6, hi8, e1⟩ ⟨rfl, hx⟩
      obtain rfl : x = .int (0 + (i : Int)) := hx
      have hi : i < 8 := hi
      refine ⟨rfl, iteT (B := Kp H H1 ∧ H1 p6 = some (.lst ((nears.take 23).map fun l => V.str (sx l))) ∧ p6 ≠ D ∧ i + 1 ≤ 8 ∧ H1 D = some (.lst ((keyStrs (i + 1)).map V.str))) ⟨_, rfl, _, rfl, ?_, _, _, rfl, rfl, ?_, _, _, rfl, rfl, ?_, _, e1, ?_, k1.mut HD (no_tab e1 nt_lst), by rw [upd_ne n6]; exact e6, n6, hi, ?_⟩⟩
      · have := List.all_eq_true.mp (show (List.range 8).all (fun i => decide ((0 + (i : Int)).natAbs.log2 < 1920)) = true by decide +kernel) i (List.mem_range.mpr hi)
        exact of_decide_eq_true this
      · have := List.all_eq_true.mp (show (List.range 8).all (fun i => decide ((Str.ofString "\"k").length + (Str.ofString (toString (0 + (i : Int)))).length ≤ sizeLine)) = true by decide +kernel) i (List.mem_range.mpr hi)
        exact of_decide_eq_true this
      · have := List.all_eq_true.mp (show (List.range 8).all (fun i => decide ((Str.ofString "\"k" ++ Str.ofString (toString (0 + (i : Int)))).length + (Str.ofString "\", 1").length ≤ sizeLine)) = true by decide +kernel) i (List.mem_range.mpr hi)
        exact of_decide_eq_true this
      · rw [List.length_map]
        unfold keyStrs
        rw [List.length_map, List.length_range]
        omega
      · rw [upd_same]
        unfold keyStrs
        rw [List.range_succ, List.map_append, List.map_append]
        rfl
    · rintro H1 ⟨k1, e6, n6, _, e1⟩
      have e1 : H1 D = some (.lst ((keyStrs 8).map V.str)) := e1
      refine ⟨_, D, keyStrs 8, rfl, rfl, .inl (.inl (.inl e1)), by decide +kernel, _, _, rfl, rfl, by decide +kernel, _, _, rfl, rfl, by decide +kernel, by show 2 ≤ sizeLine; decide, fun p7 h7 => ⟨p6, p7, _, _, rfl, rfl, keep_lst (Kb.new h7) e6, upd_same, by decide, fun p8 h8 => ?_⟩⟩
      refine ⟨_, rfl, q _ p8 ((k1.trans (Kb.new h7)).trans (Kb.new h8)) ?_⟩
      rw [upd_same]
      exact congrArg (fun l => some (HO.lst l)) (by decide +kernel)
def spCalls : Sp := fun vs H Q _ => ∃ n : Int, vs = [.int n] ∧ Q (.str (sx (if n = 10 then calls10 else calls11))) H
theorem c_law_calls (D : DefAt K mg "_law_calls" s_law_calls ["many"]) : Cal P w K mg base CX0 1 "_law_calls" ["many"] spCalls := by
  refine D.cal (k := 0) sc_law_calls (fun vs H Q E h => ?_) fun f cdv A outer s H vs Q E hr h => ?_
  · obtain ⟨n, rfl, _⟩ := h
    rfl
  · obtain ⟨n, rfl, q⟩ := h
    refine ⟨_, (pss_cons (ps_set (i := 1) sc_law_calls.nd rfl (Or.inl rfl) pe_str)
  (pss_cons (ps_if (pt_cmpR op_eq (pv 0) pe_int (nomark _)) (pss_one (ps_ret (pe_op op_add_str (pe_op op_add_str (pe_op op_add_str (pe_op op_add_str pe_str (pv 1)) pe_str) (pv 1)) pe_str))) pss_nil)
  (pss_one (ps_ret (pe_op op_add_str (pe_op op_add_str (pe_op op_add_str (pe_op op_add_str pe_str (pv 1)) pe_str) (pv 1)) pe_str))))), ?_⟩
    refine ⟨_, rfl, rfl, _, rfl, ?_⟩
    by_cases h : n = 10
    · refine iteP (show V.int n = V.int 10 by rw [h]) ⟨_, rfl, _, _, rfl, rfl, by decide +kernel, _, _, rfl, rfl, by decide +kernel, _, rfl, _, _, rfl, rfl, by decide +kernel, _, _, rfl, rfl, by decide +kernel, ?_⟩
      rw [if_pos h] at q
      exact (congrArg (fun x => Q (.str x) H) (show _ = sx calls10 by decide +kernel)).mpr q
    · refine iteN (show ¬ V.int n = V.int 10 by intro z; injection z with z; exact h z) ⟨_, rfl, _, _, rfl, rfl, by decide +kernel, _, _, rfl, rfl, by decide +kernel, _, rfl, _, _, rfl, rfl, by decide +kernel, _, _, rfl, rfl, by decide +kernel, ?_⟩
      rw [if_neg h] at q
      exact (congrArg (fun x => Q (.str x) H) (show _ = sx calls11 by decide +kernel)).mpr q
end
end Rx

namespace Rx
open PySem PySem.Spec PyProof.Rows L2 GxR Gx Gd Rs
abbrev s_law_read : Stmt := topS 67
theorem sc_law_read : FnScope ["signs", "e"] ["signs"] (defScope s_law_read) := ⟨rfl, rfl, rfl, by decide +kernel, rfl, by decide +kernel, by decide +kernel⟩
def spLR (K : PySem.W.Frag) (ts : List Addr) : Sp := fun vs H Q _ => ∃ (S : Addr) (L : List Sg), vs = [.ref S] ∧ Sgs K H S L ∧ (∀ s ∈ L, fit s = true) ∧ L.length ≤ 1000 ∧ (∀ T ∈ ts, TabG H T) ∧ (match readE L with
  | none => ∀ H', Kp H H' → Q (.int (-1)) H'
  | some (_, r) => ∀ H' (a : Nat), Kp H H' → L.drop a = r → a ≤ L.length → Q (.int (a : Int)) H')
section
variable {P : Program} {w : World} {K : PySem.W.Frag} {mg : Str → Option Value} {base : Heap}
theorem c_law_read {C CV : Addr} {ts : List Addr} {k : Nat} (D : DefAt K mg "_law_read" s_law_read ["signs"]) (B : CatN K mg "BadExpression" "ViewError" C CV) (m_isinstance : mg "isinstance" = none) (m_ValueError : mg "ValueError" = none)
    (c_read_expression : CalX P w K mg base k "read_expression" ["signs", "at"] (spRE K C ts)) : Cal P w K mg base CX0 (k + 1) "_law_read" ["signs"] (spLR K ts) := by
  refine D.cal (k := k) sc_law_read (fun vs H Q E h => ?_) fun f cdv A outer s H vs Q E hr h => ?_
  · obtain ⟨S, L, rfl, _⟩ := h
    rfl
  · obtain ⟨S, L, rfl, hS, hf, hz, hT, q⟩ := h
    have g_BadExpression := B.g
    refine ⟨_, pss_one (ps_try_as (i := 1) (tb := fun W => tRet (tOp (rIxT K) (tCallS (spRE K C ts) (WE W) (tCons (tVar 0) (tCons (tC (.int 0)) tNil))) (tC (.int 1)))) (Wout := fun _ _ _ _ => False) rfl rfl sc_law_read.nd rfl rfl ⟨rfl, by decide, Or.inl B.gV⟩ takes0
        (fun W pn xe tk _ => pss_one (ps_ret (by exact (pe_ix ix_tup (pe_calX c_read_expression hr (by rfl) (fun σ => passAt tk σ) (by exact (pa_cons (pv 0) (pa_cons pe_int pa_nil)))) pe_int (fun _ _ => rfl)))))
        (fun a oe cls d pn hz hf => pss_cons (ps_if (PW.pt (pw_and (pt_val (pe_callB (call_isN B.is hz hf) (by rfl) m_isinstance (by decide +kernel) (pa_cons (pv 1) (pa_cons (pe_glob (v := .ref C) rfl g_BadExpression rfl) pa_nil))))
            (pw_and1 (pt_val (pe_callB (call_isN B.is hz hf) (by rfl) m_isinstance (by decide +kernel) (pa_cons (pv 1) (pa_cons (pe_bltn (v := .ty "ValueError") (by rfl) m_ValueError (by decide +kernel) rfl) pa_nil)))))))
          (pss_one (ps_ret (pe_un un_neg pe_int))) pss_nil) (pss_one (ps_ret (pe_un un_neg pe_int))))), ?_⟩
    refine ⟨_, rfl, S, 0, L, rfl, hS, hf, hz, hT, ?_⟩
    rw [List.drop_zero]
    cases e : readE L with
    | none =>
      rw [e] at q
      intro H' k
      refine ⟨true, B.ex, fun _ a ha => ?_, fun z => by cases z⟩
      exact ⟨_, rfl, .ref C, .ref C, true, rfl, rfl, rfl, (fun u hu => hu), B.k1, true, rfl, iteT ⟨_, rfl, .ty "ValueError", .type "ValueError", true, rfl, rfl, rfl, (fun u hu => hu), B.k2, true, rfl, iteT ⟨1, rfl, q H' k⟩⟩⟩
    | some p =>
      obtain ⟨ex, r⟩ := p
      rw [e] at q
      intro H' u a k e1 e2 du
      obtain ⟨p, x, y, rfl, hp, hx, hy⟩ := dt_pair du
      cases hy
      exact ⟨p, _, 1, _, rfl, rfl, hp, atI_nat (j := 1) rfl, q H' a k e1 e2⟩
end
end Rx

namespace Rd
open PySem PySem.Spec PyProof.Rows L2 GxR Gx Gd
def topS (i : Nat) : Stmt := PySem.Challenge.pw_remoteviews_k03_no_expressions.main.body.getD i (.Pass ⟨0, 0, 0, 0⟩)
end Rd

namespace Rd
open PySem PySem.Spec PyProof.Rows L2 GxR Gx Gd
/-! ### the law's draws -/
abbrev s_law_cell : Stmt := topS 59
theorem sc_law_cell : FnScope ["script", "k"] ["script", "k"] (defScope s_law_cell) := ⟨rfl, rfl, rfl, by decide +kernel, rfl, by decide +kernel, by decide +kernel⟩
abbrev s_law_draw : Stmt := topS 63
theorem sc_law_draw : FnScope ["box", "many", "at"] ["box", "many"] (defScope s_law_draw) := ⟨rfl, rfl, rfl, by decide +kernel, rfl, by decide +kernel, by decide +kernel⟩
def Box (bx d : Addr) (H : Hp) : Prop := ∃ (xs : List V) (at' : Int), H bx = some (.lst [.ref d, .int at']) ∧ 0 ≤ at' ∧ H d = some (.lst xs) ∧ ∀ v ∈ xs, ∃ i, v = .int i
theorem Box.ne {bx d : Addr} {H : Hp} (h : Box bx d H) : d ≠ bx := fun e => by
  obtain ⟨xs, a, h1, h2, h3, h4⟩ := h
  rw [e, h1] at h3
  cases h3
  obtain ⟨i, e⟩ := h4 _ List.mem_cons_self
  cases e
theorem Box.lsts {bx d : Addr} {H : Hp} (h : Box bx d H) : Lsts [bx] H := fun b hb => by
  obtain ⟨xs, a, h1, _⟩ := h
  cases hb with
  | head => exact ⟨_, h1⟩
  | tail _ h => cases h
theorem Box.kb {S : List Addr} {bx d : Addr} {H H' : Hp} (h : Box bx d H) (k : Kb S H H') (n1 : bx ∉ S) (n2 : d ∉ S) : Box bx d H' := by
  obtain ⟨xs, a, h1, h2, h3, h4⟩ := h
  exact ⟨xs, a, k.keep bx _ h1 n1 nt_lst, h2, k.keep d _ h3 n2 nt_lst, h4⟩
theorem Box.kp {bx d : Addr} {H H' : Hp} (h : Box bx d H) (k : Kp H H') : Box bx d H' := h.kb k (by simp) (by simp)
theorem Box.upd {bx d D : Addr} {H : Hp} {o : HO} (h : Box bx d H) (n1 : D ≠ bx) (n2 : D ≠ d) : Box bx d (upd H D o) := by
  obtain ⟨xs, a, h1, h2, h3, h4⟩ := h
  exact ⟨xs, a, by rw [upd_ne n1.symm]; exact h1, h2, by rw [upd_ne n2.symm]; exact h3, h4⟩
theorem Box.new {bx d D : Addr} {H : Hp} (h : Box bx d H) (n : H D = none) : D ≠ bx ∧ D ≠ d := by
  obtain ⟨xs, a, h1, h2, h3, h4⟩ := h
  exact ⟨(ne_of_none h1 n).symm, (ne_of_none h3 n).symm⟩
/-- after some draws -/
def Aft (bx d : Addr) (H H' : Hp) : Prop := Kb [bx] H H' ∧ Box bx d H'
theorem Aft.trans {bx d : Addr} {H H1 H2 : Hp} (a : Aft bx d H H1) (b : Aft bx d H1 H2) : Aft bx d H H2 := ⟨a.1.trans b.1, b.2⟩
theorem Aft.of {bx d : Addr} {H H' : Hp} (b : Box bx d H) (k : Kp H H') : Aft bx d H H' := ⟨Kb.of k, b.kp k⟩
theorem Aft.refl {bx d : Addr} {H : Hp} (b : Box bx d H) : Aft bx d H H := ⟨Kb.refl H, b⟩
theorem Aft.new {bx d D : Addr} {H : Hp} {o : HO} (b : Box bx d H) (n : H D = none) : Aft bx d H (upd H D o) := Aft.of b (Kb.new n)
theorem Aft.mut {bx d D : Addr} {H H' : Hp} {o u : HO} (k : Aft bx d H H') (n : H D = none) (b : Box bx d H) (e : H' D = some u) (t : NoTab u) : Aft bx d H (upd H' D o) :=
  ⟨k.1.mut n (no_tab e t), k.2.upd (b.new n).1 (b.new n).2⟩
theorem Aft.dt {K : PySem.W.Frag} {bx d : Addr} {H H' : Hp} {v : V} {x : PyData} (k : Aft bx d H H') (b : Box bx d H) (h : Dt K H v x) : Dt K H' v x := h.kb k.1 b.lsts
theorem Aft.lst {bx d D : Addr} {H H' : Hp} {xs : List V} (k : Aft bx d H H') (e : H D = some (.lst xs)) (n : D ≠ bx) : H' D = some (.lst xs) := k.1.keep D _ e (by simpa using n) nt_lst
def spDraw : Sp := fun vs H Q _ => ∃ bx d many, vs = [.ref bx, .int many] ∧ 0 < many ∧ Box bx d H ∧ ∀ H' r, Aft bx d H H' → 0 ≤ r → r < many → Q (.int r) H'
def spCell (K : PySem.W.Frag) : Sp := fun vs H Q _ => ∃ (a : Addr) (ns : List Int) (k : Int), vs = [.ref a, .int k] ∧ 0 ≤ k ∧ SqL K H a (ns.map V.int) ∧ ∀ i, Q (.int i) H
section
variable {P : Program} {w : World} {K : PySem.W.Frag} {mg : Str → Option Value} {base : Heap}
theorem c_law_cell (D : DefAt K mg "_law_cell" s_law_cell ["script", "k"]) (m_len : mg "len" = none) : Cal P w K mg base CX0 1 "_law_cell" ["script", "k"] (spCell K) := by
  refine D.cal (k := 0) sc_law_cell (fun vs H Q E h => ?_) fun f cdv A outer s H vs Q E hr h => ?_
  · obtain ⟨a, ns, k, rfl, _⟩ := h
    rfl
  · obtain ⟨a, ns, k, rfl, h0, h, q⟩ := h
    refine ⟨_, (pss_cons (ps_if (pt_cmpR op_lt (pv 1) (pe_callB call_len_seq (by rfl) m_len (by decide +kernel) (pa_cons (pv 0) pa_nil)) (nomark _)) (pss_one (ps_ret (pe_ix ix_list (pv 0) (pv 1) (fun _ _ => rfl)))) pss_nil)
  (pss_one (ps_ret pe_int))), ?_⟩
    refine ⟨_, rfl, _, rfl, a, _, rfl, .inl h, k, _, rfl, rfl, _, rfl, ?_⟩
    by_cases hk : k < ((ns.map V.int).length : Int)
    · rw [decide_eq_true hk]
      obtain ⟨n, rfl⟩ : ∃ n : Nat, k = n := ⟨k.toNat, by omega⟩
      have hn : n < (ns.map V.int).length := by omega
      have e : (ns.map V.int)[n]? = some (.int (ns[n]'(by simpa using hn))) := by simp
      exact iteT ⟨_, rfl, _, rfl, a, _, _, _, rfl, rfl, h, atI_nat e, q _⟩
    · rw [decide_eq_false hk]
      exact iteF (q 0)
theorem c_law_draw (D : DefAt K mg "_law_draw" s_law_draw ["box", "many"]) (m_len : mg "len" = none) (m_int : mg "int" = none) : Cal P w K mg base CX0 1 "_law_draw" ["box", "many"] spDraw := by
  refine D.cal (k := 0) sc_law_draw (fun vs H Q E h => ?_) fun f cdv A outer s H vs Q E hr h => ?_
  · obtain ⟨bx, d, many, rfl, _⟩ := h
    rfl
  · obtain ⟨bx, d, many, rfl, hm, hb, q⟩ := h
    have hne := hb.ne
    obtain ⟨xs, n, h1, h2, h3, h4⟩ := hb
    refine ⟨_, (pss_cons (ps_set (i := 2) sc_law_draw.nd rfl (Or.inl rfl) (pe_ix ix_list (pv 0) pe_int (fun _ _ => rfl)))
  (pss_cons (ps_asg (pe_op op_add (pv 2) pe_int) (pg_sub (pv 0) pe_int set_list))
  (pss_cons (ps_if (pt_cmpR op_lt (pv 2) (pe_callB call_len_seq (by rfl) m_len (by decide +kernel) (pa_cons (pe_ix ix_list (pv 0) pe_int (fun _ _ => rfl)) pa_nil)) (nomark _)) (pss_one (ps_ret (pe_op op_mod (pe_callTy call_int1 (by rfl) m_int (by decide +kernel) (pa_cons (pe_ix ix_list (pe_ix ix_list (pv 0) pe_int (fun _ _ => rfl)) (pv 2) (fun _ _ => rfl)) pa_nil)) (pv 1)))) pss_nil)
  (pss_one (ps_ret (pe_op op_mod (pe_callTy call_int1 (by rfl) m_int (by decide +kernel) (pa_cons (pe_op op_add (pe_op op_mul (pv 2) pe_int) pe_int) pa_nil)) (pv 1))))))), ?_⟩
    refine ⟨.ref bx, rfl, bx, _, 1, _, rfl, rfl, .inl (.inl h1), atI_nat (j := 1) rfl, ?_⟩
    refine ⟨.int n, rfl, n, 1, rfl, rfl, .ref bx, rfl, bx, _, 1, 1, rfl, rfl, h1, rfl, ?_⟩
    have k1 : Aft bx d H (upd H bx (.lst [.ref d, .int (n + 1)])) := ⟨Kb.put (by simp) h1 nt_lst, xs, n + 1, upd_same, by omega, by rw [upd_ne hne]; exact h3, h4⟩
    have e1 : (upd H bx (.lst [.ref d, .int (n + 1)])) bx = some (.lst [.ref d, .int (n + 1)]) := upd_same
    have e2 : (upd H bx (.lst [.ref d, .int (n + 1)])) d = some (.lst xs) := by rw [upd_ne hne]; exact h3
    refine ⟨.int n, rfl, .ref bx, rfl, bx, _, 0, .ref d, rfl, rfl, .inl (.inl e1), atI_nat (j := 0) rfl, d, xs, rfl, .inl (.inl (.inl e2)), n, _, rfl, rfl, _, rfl, ?_⟩
    by_cases hk : n < (xs.length : Int)
    · rw [decide_eq_true hk]
      obtain ⟨j, rfl⟩ : ∃ j : Nat, n = j := ⟨n.toNat, by omega⟩
      have hj : j < xs.length := by omega
      obtain ⟨i, hi⟩ := h4 xs[j] (List.getElem_mem hj)
      have e : xs[j]? = some (.int i) := by rw [List.getElem?_eq_getElem hj, hi]
      exact iteT ⟨.ref bx, rfl, bx, _, 0, .ref d, rfl, rfl, .inl (.inl e1), atI_nat (j := 0) rfl, _, rfl, d, xs, j, .int i, rfl, rfl, .inl (.inl e2), atI_nat e, .inl ⟨i, rfl, _, rfl, i, many, rfl, rfl, hm, q _ _ k1 (Int.emod_nonneg _ (by omega)) (Int.emod_lt_of_pos _ hm)⟩⟩
    · rw [decide_eq_false hk]
      exact iteF ⟨_, rfl, n, 7, rfl, rfl, .inr (by decide), _, _, rfl, rfl, .inl ⟨_, rfl, _, rfl, _, many, rfl, rfl, hm, q _ _ k1 (Int.emod_nonneg _ (by omega)) (Int.emod_lt_of_pos _ hm)⟩⟩
end
abbrev s_law_digits : Stmt := topS 62
theorem sc_law_digits : FnScope ["script", "first", "last", "digits", "k", "cell", "turn", "seed"] ["script", "first", "last"] (defScope s_law_digits) := ⟨rfl, rfl, rfl, by decide +kernel, rfl, by decide +kernel, by decide +kernel⟩
def spDigits (K : PySem.W.Frag) : Sp := fun vs H Q _ => ∃ (a : Addr) (ns : List Int) (last : Nat), vs = [.ref a, .int 0, .int (last : Int)] ∧ last ≤ 200 ∧ SqL K H a (ns.map V.int) ∧ ∀ (d : Addr) (H' : Hp) (xs : List V), H d = none → Kp H H' → H' d = some (.lst xs) → (∀ v ∈ xs, ∃ i, v = .int i) → Q (.ref d) H'
/-- the list at D holds at most n ints, all else stands -/
def Dg (H0 : Hp) (D : Addr) (n : Nat) (H : Hp) : Prop := ∃ xs : List V, xs.length ≤ n ∧ (∀ v ∈ xs, ∃ i, v = .int i) ∧ Kp H0 H ∧ H D = some (.lst xs)
theorem Dg.push {H0 H : Hp} {D : Addr} {n : Nat} {xs : List V} {i : Int} (h0 : H0 D = none) (hl : xs.length ≤ n) (hi : ∀ v ∈ xs, ∃ i, v = .int i) (k : Kp H0 H) (e : H D = some (.lst xs)) : Dg H0 D (n + 1) (upd H D (.lst (xs ++ [.int i]))) :=
  ⟨xs ++ [.int i], by simp; exact hl, fun v hv => by
    rcases List.mem_append.mp hv with h | h
    · exact hi v h
    · exact ⟨i, by simpa using h⟩, k.mut h0 (no_tab e nt_lst), upd_same⟩
theorem Dg.mono {H0 H : Hp} {D : Addr} {n m : Nat} (h : Dg H0 D n H) (l : n ≤ m) : Dg H0 D m H := let ⟨xs, a, r⟩ := h; ⟨xs, Nat.le_trans a l, r⟩
theorem iteC {b : Bool} {A B : Prop} (h1 : A) (h2 : B) : if b = true then A else B := by
  cases b with
  | true => exact iteT h1
  | false => exact iteF h2
theorem cell_pos {R r k l} {b : Bool} {σ : L2.St} {H : Hp} {c : Int} (hs : σ[5]? = some (some (.int c))) (hσ : σ.set 5 (some (.int c)) = σ) (h : ∀ c', R (σ.set 5 (some (.int c'))) H) :
    if b = true then tAsg (tOp (rI0 fun i j => V.int (i - j)) (tC (V.int 1)) (tOp (rI CMul fun i j => V.int (i * j)) (tC (V.int 2)) (tVar 5))) (gName 5) ⟨R, r, k, l⟩ σ H else tNext ⟨R, r, k, l⟩ σ H := by
  cases b with
  | true => exact iteT ⟨_, hs, 2, c, rfl, rfl, .inl (by decide), 1, _, rfl, rfl, h _⟩
  | false =>
    refine iteF ?_
    have z := h c
    rw [hσ] at z
    exact z
section
variable {P : Program} {w : World} {K : PySem.W.Frag} {mg : Str → Option Value} {base : Heap}
theorem c_law_digits (D : DefAt K mg "_law_digits" s_law_digits ["script", "first", "last"]) (m_range : mg "range" = none) (m_int : mg "int" = none)
    (c__law_cell : Cal P w K mg base CX0 1 "_law_cell" ["script", "k"] (spCell K)) : Cal P w K mg base CX0 2 "_law_digits" ["script", "first", "last"] (spDigits K) := by
  refine D.cal (k := 1) sc_law_digits (fun vs H Q E h => ?_) fun f cdv A outer s H vs Q E hr h => ?_
  · obtain ⟨bx, d, last, rfl, _⟩ := h
    rfl
  · obtain ⟨a, ns, last, rfl, h200, ha, q⟩ := h
    refine ⟨_, (pss_cons (ps_set (i := 3) sc_law_digits.nd rfl (Or.inl rfl) (pe_lst pa_nil))
  (pss_cons (ps_for PassesOwn.never rfl (pi_range2 (by rfl) m_range (pa_cons (pv 1) (pa_cons (pv 2) pa_nil))) (pg_name (i := 4) sc_law_digits.nd rfl (Or.inl rfl)) (pss_cons (ps_set (i := 5) sc_law_digits.nd rfl (Or.inl rfl) (pe_cal (c__law_cell.mono (by omega)) hr (by rfl) (pa_cons (pv 0) (pa_cons (pv 4) pa_nil))))
  (pss_cons (ps_if (pt_cmpR op_lt (pv 5) pe_int (nomark _)) (pss_one (ps_set (i := 5) sc_law_digits.nd rfl (Or.inl rfl) (pe_op op_sub pe_int (pe_op op_mul pe_int (pv 5))))) pss_nil)
  (pss_one (ps_if (pt_cmpR op_ge (pv 5) (pe_op op_pow pe_int pe_int) (nomark _)) (pss_one (ps_for PassesOwn.never rfl (pi_range1 (by rfl) m_range (pa_cons pe_int pa_nil)) (pg_name (i := 6) sc_law_digits.nd rfl (Or.inl rfl)) (pss_one (ps_if (pt_cmpR op_gt (pv 5) pe_int (nomark _)) (pss_cons (ps_expr (pe_bm PySem.F.plainAttrs_list PySem.F.slot_list_append PySem.F.type_list_append mt_append (pv 3) (pa_cons (pe_op op_mod (pe_callTy call_int1 (by rfl) m_int (by decide +kernel) (pa_cons (pv 5) pa_nil)) pe_int) pa_nil)))
  (pss_one (ps_set (i := 5) sc_law_digits.nd rfl (Or.inl rfl) (pe_op op_fdiv (pv 5) pe_int)))) pss_nil)))) (pss_cons (ps_set (i := 7) sc_law_digits.nd rfl (Or.inl rfl) (pe_op op_mod (pe_callTy call_int1 (by rfl) m_int (by decide +kernel) (pa_cons (pe_op op_add (pe_op op_add (pe_op op_mul (pv 5) pe_int) (pe_op op_mul (pv 4) pe_int)) pe_int) pa_nil)) pe_int))
  (pss_one (ps_for PassesOwn.never rfl (pi_range1 (by rfl) m_range (pa_cons pe_int pa_nil)) (pg_name (i := 6) sc_law_digits.nd rfl (Or.inl rfl)) (pss_cons (ps_set (i := 7) sc_law_digits.nd rfl (Or.inl rfl) (pe_op op_mod (pe_callTy call_int1 (by rfl) m_int (by decide +kernel) (pa_cons (pe_op op_add (pe_op op_add (pe_op op_mul (pv 7) pe_int) (pe_op op_mul pe_int (pv 6))) pe_int) pa_nil)) pe_int))
  (pss_one (ps_expr (pe_bm PySem.F.plainAttrs_list PySem.F.slot_list_append PySem.F.type_list_append mt_append (pv 3) (pa_cons (pe_op op_mod (pe_callTy call_int1 (by rfl) m_int (by decide +kernel) (pa_cons (pe_op op_fdiv (pv 7) pe_int) pa_nil)) pe_int) pa_nil)))))))))))))
  (pss_one (ps_ret (pv 3))))), ?_⟩
    refine ⟨Nat.zero_le _, fun D hD => ⟨.int 0, rfl, .int (last : Int), rfl, 0, (last : Int), rfl, by omega, ?_⟩⟩
    refine ⟨fun i m σ H' => m = last - i ∧ i ≤ last ∧ (∃ o1 o2 o3 o4, σ = [some (.ref a), some (.int 0), some (.int (last : Int)), some (.ref D), o1, o2, o3, o4]) ∧ Dg H D (60 * i) H', ⟨_, rfl, Nat.zero_le _, ⟨none, none, none, none, rfl⟩, [], Nat.le_refl _, (fun _ h => by cases h), Kb.new hD, upd_same⟩, ?_⟩
    rintro i m σ H1 ⟨rfl, hi, ⟨o1, o2, o3, o4, rfl⟩, g⟩
    by_cases hl : i < last
    · refine .inr ⟨hl, fun σ' H' => (∃ o1 o2 o3 o4, σ' = [some (.ref a), some (.int 0), some (.int (last : Int)), some (.ref D), o1, o2, o3, o4]) ∧ Dg H D (60 * (i + 1)) H', fun σ' H' ⟨e1, e2⟩ => ⟨_, by omega, rfl, hl, e1, e2⟩, ?_⟩
      rintro x H2 ⟨rfl, rfl⟩
      have hsq : SqL K H2 a (ns.map V.int) := by
        obtain ⟨xs, _, _, k, e⟩ := g
        rcases ha with (ha | ⟨o, ha⟩) | ha
        · exact .inl (.inl (k.keep a _ ha (by simp) nt_lst))
        · exact .inl (.inr ⟨o, k.keep a _ ha (by simp) nt_frz⟩)
        · exact .inr ha
      refine ⟨.ref a, rfl, .int (0 + i), rfl, a, ns, _, rfl, by omega, hsq, fun c => ?_⟩
      refine ⟨_, rfl, c, 0, rfl, rfl, ?_⟩
      refine ⟨_, rfl, cell_pos rfl rfl fun c => ?_⟩
      refine ⟨_, rfl, 10, 18, rfl, rfl, ⟨by decide, by decide, by decide⟩, c, 10 ^ 18, rfl, rfl, ?_⟩
      refine ⟨_, rfl, ?_⟩
      refine iteC ?_ ?_
      · refine ⟨60, rfl, by decide, by decide, ?_⟩
        refine ⟨fun j m σ H' => m = 60 - j ∧ j ≤ 60 ∧ (∃ o1 c o3 o4, σ = [some (.ref a), some (.int 0), some (.int (last : Int)), some (.ref D), o1, some (.int c), o3, o4]) ∧ Dg H D (60 * i + j) H', ⟨_, rfl, Nat.zero_le _, ⟨_, _, _, _, rfl⟩, g⟩, ?_⟩
        rintro j m σ H3 ⟨rfl, hj, ⟨o1, c, o3, o4, rfl⟩, g⟩
        by_cases hl : j < 60
        · refine .inr ⟨hl, fun σ' H' => (∃ o1 c o3 o4, σ' = [some (.ref a), some (.int 0), some (.int (last : Int)), some (.ref D), o1, some (.int c), o3, o4]) ∧ Dg H D (60 * i + (j + 1)) H', fun σ' H' ⟨e1, e2⟩ => ⟨_, by omega, rfl, hl, e1, e2⟩, ?_⟩
          rintro x H4 ⟨rfl, rfl⟩
          refine ⟨_, rfl, c, 0, rfl, rfl, _, rfl, ?_⟩
          refine iteC ?_ ?_
          · obtain ⟨xs, h1, h2, h3, h4⟩ := g
            refine ⟨.ref D, rfl, .inl ⟨rfl, _, .inl (.inl h4)⟩, _, rfl, .inl ⟨c, rfl, c, 1000, rfl, rfl, by show (0 : Int) < 1000; decide, D, xs, _, rfl, rfl, h4, ?_, ?_⟩⟩
            · have : sizeLine = 16777216 := rfl
              omega
            · exact ⟨_, rfl, c, 1000, rfl, rfl, ⟨by decide, by decide⟩, ⟨_, _, _, _, rfl⟩, Dg.push hD h1 h2 h3 h4⟩
          · exact ⟨⟨_, _, _, _, rfl⟩, g.mono (by omega)⟩
        · exact .inl ⟨by show 60 ≤ j; omega, ⟨_, _, _, _, rfl⟩, g.mono (by omega)⟩
      · refine ⟨_, rfl, c, 48271, rfl, rfl, .inr (by decide), _, rfl, _, 69621, rfl, rfl, .inr (by decide), _, _, rfl, rfl, _, _, rfl, rfl, .inl ⟨_, rfl, _, 2147483647, rfl, rfl, by show (0 : Int) < 2147483647; decide, ?_⟩⟩
        refine ⟨12, rfl, by decide, by decide, ?_⟩
        refine ⟨fun j m σ H' => m = 12 - j ∧ j ≤ 12 ∧ (∃ o1 o2 o3 c, σ = [some (.ref a), some (.int 0), some (.int (last : Int)), some (.ref D), o1, o2, o3, some (.int c)]) ∧ Dg H D (60 * i + j) H', ⟨_, rfl, Nat.zero_le _, ⟨_, _, _, _, rfl⟩, g⟩, ?_⟩
        rintro j m σ H3 ⟨rfl, hj, ⟨o1, o2, o3, c, rfl⟩, g⟩
        by_cases hl : j < 12
        · refine .inr ⟨hl, fun σ' H' => (∃ o1 o2 o3 c, σ' = [some (.ref a), some (.int 0), some (.int (last : Int)), some (.ref D), o1, o2, o3, some (.int c)]) ∧ Dg H D (60 * i + (j + 1)) H', fun σ' H' ⟨e1, e2⟩ => ⟨_, by omega, rfl, hl, e1, e2⟩, ?_⟩
          rintro x H4 ⟨rfl, rfl⟩
          refine ⟨_, rfl, c, 16807, rfl, rfl, .inr (by decide), _, rfl, 7, _, rfl, rfl, .inl (by decide), _, _, rfl, rfl, _, _, rfl, rfl, .inl ⟨_, rfl, _, 2147483647, rfl, rfl, by show (0 : Int) < 2147483647; decide, ?_⟩⟩
          obtain ⟨xs, h1, h2, h3, h4⟩ := g
          refine ⟨.ref D, rfl, .inl ⟨rfl, _, .inl (.inl h4)⟩, _, rfl, _, 997, rfl, rfl, ⟨by decide, by decide⟩, .inl ⟨_, rfl, _, 1000, rfl, rfl, by show (0 : Int) < 1000; decide, D, xs, _, rfl, rfl, h4, ?_, ?_⟩⟩
          · have : sizeLine = 16777216 := rfl
            omega
          · exact ⟨⟨_, _, _, _, rfl⟩, Dg.push hD h1 h2 h3 h4⟩
        · exact .inl ⟨by show 12 ≤ j; omega, ⟨_, _, _, _, rfl⟩, g.mono (by omega)⟩
    · obtain ⟨xs, h1, h2, h3, h4⟩ := g
      refine .inl ⟨by show ((last : Int) - 0).toNat ≤ _; omega, ?_⟩
      exact ⟨_, rfl, q D H1 xs hD h3 h4 h2⟩
end

end Rd

namespace Rx
open PySem PySem.Spec PyProof.Rows L2 GxR Gx Gd Rs
abbrev s_law : Stmt := topS 68
theorem sc_law : FnScope ["script", "box", "turn", "wrong", "near", "signs"] ["script"] (defScope s_law) := ⟨rfl, rfl, rfl, by decide +kernel, rfl, by decide +kernel, by decide +kernel⟩
/-- a row whose signs are no expression -/
def isBad (l : List Nat) : Bool := decide (l.length ≤ 1000) && match splitR l with | .ok ss => (ss.all fit && decide (ss.length ≤ 1000)) && (readE ss).isNone | .bad _ => false
/-- a row whose signs are one, to the end -/
def isRight (l : List Nat) : Bool := decide (l.length ≤ 1000) && match splitR l with | .ok ss => (ss.all fit && decide (ss.length ≤ 1000)) && (match readE ss with | some (_, []) => true | _ => false) | .bad _ => false
def eqOf (w : List Nat) : List Nat := cs "eq(a, " ++ w ++ cs ")"
theorem wrongs_bad : wrongs.all isBad = true := by decide +kernel
theorem wrongs_eq : wrongs.all (fun l => decide (l = []) || isBad (eqOf l)) = true := by decide +kernel
theorem wrongs_sx : wrongs.all (fun w => decide (Str.ofString "eq(a, " ++ sx w ++ Str.ofString ")" = sx (eqOf w)) && (decide ((Str.ofString "eq(a, ").length + (sx w).length ≤ sizeLine) && decide ((Str.ofString "eq(a, " ++ sx w).length + (Str.ofString ")").length ≤ sizeLine))) = true := by decide +kernel
theorem nears_right : nears.all isRight = true := by decide +kernel
theorem ten_right : isRight calls10 = true := by decide +kernel
theorem eleven_bad : isBad calls11 = true := by decide +kernel
theorem bad_of {l : List Nat} (h : isBad l = true) : l.length ≤ 1000 ∧ ∃ ss, splitR l = .ok ss ∧ (∀ s ∈ ss, fit s = true) ∧ ss.length ≤ 1000 ∧ readE ss = none := by
  unfold isBad at h
  rw [Bool.and_eq_true] at h
  refine ⟨of_decide_eq_true h.1, ?_⟩
  cases e : splitR l with
  | bad o => rw [e] at h; cases h.2
  | ok ss =>
    rw [e] at h
    have h2 : ((ss.all fit && decide (ss.length ≤ 1000)) && (readE ss).isNone) = true := h.2
    rw [Bool.and_eq_true, Bool.and_eq_true] at h2
    exact ⟨ss, rfl, List.all_eq_true.mp h2.1.1, of_decide_eq_true h2.1.2, Option.isNone_iff_eq_none.mp h2.2⟩
theorem right_of {l : List Nat} (h : isRight l = true) : l.length ≤ 1000 ∧ ∃ ss e, splitR l = .ok ss ∧ (∀ s ∈ ss, fit s = true) ∧ ss.length ≤ 1000 ∧ readE ss = some (e, []) := by
  unfold isRight at h
  rw [Bool.and_eq_true] at h
  refine ⟨of_decide_eq_true h.1, ?_⟩
  cases e : splitR l with
  | bad o => rw [e] at h; cases h.2
  | ok ss =>
    rw [e] at h
    have h2 : ((ss.all fit && decide (ss.length ≤ 1000)) && (match readE ss with | some (_, []) => true | _ => false)) = true := h.2
    rw [Bool.and_eq_true, Bool.and_eq_true] at h2
    cases er : readE ss with
    | none => rw [er] at h2; cases h2.2
    | some p =>
      obtain ⟨ex, r⟩ := p
      rw [er] at h2
      cases r with
      | nil => exact ⟨ss, ex, rfl, List.all_eq_true.mp h2.1.1, of_decide_eq_true h2.1.2, er⟩
      | cons s r => cases h2.2
def spLaw (K : PySem.W.Frag) (ts : List Addr) : Sp := fun vs H Q _ => ∃ (a : Addr) (ns : List Int), vs = [.ref a] ∧ SqL K H a (ns.map V.int) ∧ (∀ T ∈ ts, TabG H T) ∧ ∀ H', Q (.bl true) H'
section
variable {P : Program} {w : World} {K : PySem.W.Frag} {mg : Str → Option Value} {base : Heap}
/-- how many signs a row has -/
theorem sp_len {C : Addr} {ts : List Addr} {H : Hp} {Q : VK} {E : XK} {l : List Nat} {ss : List Sg} (hl : l.length ≤ 1000) (e : splitR l = .ok ss) (hT : ∀ T ∈ ts, TabG H T) (q : ∀ H' D vs, Kp H H' → H' D = some (.lst vs) → vs.length = ss.length → Sgs K H' D ss → Q (.ref D) H') : l.length ≤ 1000 ∧ (∀ T ∈ ts, TabG H T) ∧ RdL K C H Q E (splitR l) := by
  refine ⟨hl, hT, ?_⟩
  rw [e]
  intro H' D vs hD k eD ds
  have := ds.length
  rw [List.length_map] at this
  exact q H' D vs k eD this ⟨vs, eD, ds⟩
theorem strs_ne {H : Hp} {p bx d : Addr} {ls : List (List Nat)} (e : H p = some (.lst (ls.map fun l => V.str (sx l)))) (b : Rd.Box bx d H) : p ≠ bx := fun z => by
  obtain ⟨xs, a, h, _⟩ := b
  rw [z, h] at e
  cases ls with
  | nil => cases e
  | cons x r => cases e
theorem ok_law {C : Addr} {ts : List Addr} {k : Nat} {f : Addr} {fd : FuncData} (hk : 6 ≤ k) (F : Fun K "law" "law" s_law f fd) (m_range : mg "range" = none) (m_len : mg "len" = none) (m_int : mg "int" = none)
    (c__law_digits : Cal P w K mg base CX0 2 "_law_digits" ["script", "first", "last"] (Rd.spDigits K)) (c__law_draw : Cal P w K mg base CX0 1 "_law_draw" ["box", "many"] Rd.spDraw)
    (c__law_wrong : Cal P w K mg base CX0 1 "_law_wrong" [] (spRows wrongs)) (c__law_near : Cal P w K mg base CX0 1 "_law_near" [] (spRows nears)) (c__law_calls : Cal P w K mg base CX0 1 "_law_calls" ["many"] spCalls)
    (c__law_read : Cal P w K mg base CX0 k "_law_read" ["signs"] (spLR K ts)) (c_split_line : CalX P w K mg base 6 "split_line" ["line"] (spSplit K C ts)) : FnG P w K mg base CX0 (k + 1) f fd ["script"] (spLaw K ts) := by
  refine okG (k := k) F sc_law (fun vs H Q E h => ?_) fun cdv A outer s H vs Q E hr h => ?_
  · obtain ⟨a, ns, rfl, _⟩ := h
    rfl
  · obtain ⟨a, ns, rfl, hs, hT, q⟩ := h
    refine ⟨_, (pss_cons (ps_set (i := 1) sc_law.nd rfl (Or.inl rfl) (pe_lst (pa_cons (pe_cal (c__law_digits.mono (by omega)) hr (by rfl) (pa_cons (pv 0) (pa_cons pe_int (pa_cons pe_int pa_nil)))) (pa_cons pe_int pa_nil))))
  (pss_cons (ps_for PassesOwn.never rfl (pi_range1 (by rfl) m_range (pa_cons pe_int pa_nil)) (pg_name (i := 2) sc_law.nd rfl (Or.inl rfl)) (pss_cons (ps_set (i := 3) sc_law.nd rfl (Or.inl rfl) (pe_ix ix_list (pe_cal0 (c__law_wrong.mono (by omega)) hr (by rfl)) (pe_op op_mod (pe_callTy call_int1 (by rfl) m_int (by decide +kernel) (pa_cons (pe_cal (c__law_draw.mono (by omega)) hr (by rfl) (pa_cons (pv 1) (pa_cons pe_int pa_nil))) pa_nil)) (pe_callB call_len_seq (by rfl) m_len (by decide +kernel) (pa_cons (pe_cal0 (c__law_wrong.mono (by omega)) hr (by rfl)) pa_nil))) (fun _ _ => rfl)))
  (pss_cons (ps_if (pt_cmpR op_ne (pe_cal (c__law_read.mono (by omega)) hr (by rfl) (pa_cons (pe_calX (c_split_line.mono (by omega)) hr (by rfl) (fun σ => passAt takes0 σ) (pa_cons (pv 3) pa_nil)) pa_nil)) (pe_un un_neg pe_int) (nomark _)) (pss_one (ps_ret pe_bl)) pss_nil)
  (pss_cons (ps_if (PW.pt (pw_and (pt_cmpR op_ne (pv 3) pe_str (nomark _)) (pw_and (pt_cmpR op_ne (pe_cal (c__law_read.mono (by omega)) hr (by rfl) (pa_cons (pe_calX (c_split_line.mono (by omega)) hr (by rfl) (fun σ => passAt takes0 σ) (pa_cons (pe_op op_add_str (pe_op op_add_str pe_str (pv 3)) pe_str) pa_nil)) pa_nil)) (pe_un un_neg pe_int) (nomark _)) (pw_and1 (pt_cmpR op_notIn_seq (pv 3) (pe_tup (pa_cons pe_str pa_nil)) (by rfl)))))) (pss_one (ps_ret pe_bl)) pss_nil)
  (pss_cons (ps_set (i := 4) sc_law.nd rfl (Or.inl rfl) (pe_ix ix_list (pe_cal0 (c__law_near.mono (by omega)) hr (by rfl)) (pe_op op_mod (pe_callTy call_int1 (by rfl) m_int (by decide +kernel) (pa_cons (pe_cal (c__law_draw.mono (by omega)) hr (by rfl) (pa_cons (pv 1) (pa_cons pe_int pa_nil))) pa_nil)) (pe_callB call_len_seq (by rfl) m_len (by decide +kernel) (pa_cons (pe_cal0 (c__law_near.mono (by omega)) hr (by rfl)) pa_nil))) (fun _ _ => rfl)))
  (pss_one (ps_if (pt_cmpR op_ne (pe_cal (c__law_read.mono (by omega)) hr (by rfl) (pa_cons (pe_calX (c_split_line.mono (by omega)) hr (by rfl) (fun σ => passAt takes0 σ) (pa_cons (pv 4) pa_nil)) pa_nil)) (pe_callB call_len_seq (by rfl) m_len (by decide +kernel) (pa_cons (pe_calX (c_split_line.mono (by omega)) hr (by rfl) (fun σ => passAt takes0 σ) (pa_cons (pv 4) pa_nil)) pa_nil)) (nomark _)) (pss_one (ps_ret pe_bl)) pss_nil)))))))
  (pss_cons (ps_set (i := 5) sc_law.nd rfl (Or.inl rfl) (pe_calX (c_split_line.mono (by omega)) hr (by rfl) (fun σ => passAt takes0 σ) (pa_cons (pe_cal (c__law_calls.mono (by omega)) hr (by rfl) (pa_cons pe_int pa_nil)) pa_nil)))
  (pss_one (ps_ret (pe_and (pe_cmpR op_eq (pe_cal (c__law_read.mono (by omega)) hr (by rfl) (pa_cons (pv 5) pa_nil)) (pe_callB call_len_seq (by rfl) m_len (by decide +kernel) (pa_cons (pv 5) pa_nil)) (nomark _)) (pe_one (pe_cmpR op_eq (pe_cal (c__law_read.mono (by omega)) hr (by rfl) (pa_cons (pe_calX (c_split_line.mono (by omega)) hr (by rfl) (fun σ => passAt takes0 σ) (pa_cons (pe_cal (c__law_calls.mono (by omega)) hr (by rfl) (pa_cons pe_int pa_nil)) pa_nil)) pa_nil)) (pe_un un_neg pe_int) (nomark _))))))))), ?_⟩
    have sz : sizeLine = 16777216 := rfl
    refine ⟨.ref a, rfl, a, ns, 20, rfl, by decide, hs, fun d H1 xs hd k1 e1 hi => ⟨by show 2 ≤ sizeLine; decide, fun bx hbx => ?_⟩⟩
    have k2 : Kp H1 (upd H1 bx (.lst [.ref d, .int 0])) := Kb.new hbx
    have b0 : Rd.Box bx d (upd H1 bx (.lst [.ref d, .int 0])) := ⟨xs, 0, upd_same, Int.le_refl 0, by rw [upd_ne (ne_of_none e1 hbx)]; exact e1, hi⟩
    have t0 : ∀ T ∈ ts, TabG (upd H1 bx (.lst [.ref d, .int 0])) T := fun T hm => k2.tab T (k1.tab T (hT T hm))
    generalize upd H1 bx (.lst [.ref d, .int 0]) = H2 at k2 b0 t0 ⊢
    refine ⟨6, rfl, by decide, by decide, ?_⟩
    refine for_it walk_range (fun i σ H' => Rd.Box bx d H' ∧ (∀ T ∈ ts, TabG H' T) ∧ ∃ o2 o3 o4, σ = [some (.ref a), some (.ref bx), o2, o3, o4, none]) ⟨b0, t0, _, _, _, rfl⟩ (fun _ _ _ _ _ => trivial) ?_ ?_
    · rintro i x σ _ H3 hi ⟨b3, t3, o2, o3, o4, rfl⟩ ⟨rfl, hx⟩
      -- a row is drawn
      have drawn : ∀ (ls : List (List Nat)) (H3 : Hp), ls.length = ls.length → ls ≠ [] → ls.length ≤ 1000 → Rd.Box bx d H3 → (∀ T ∈ ts, TabG H3 T) → ∀ (H4 : Hp) (p1 : Addr), Kp H3 H4 → H4 p1 = some (.lst (ls.map fun l => V.str (sx l))) → ∀ (H5 : Hp) (r : Int), Rd.Aft bx d H4 H5 → 0 ≤ r → ∀ (H6 : Hp) (p2 : Addr), Kp H5 H6 → H6 p2 = some (.lst (ls.map fun l => V.str (sx l))) →
          (0 : Int) < ((ls.map fun l => V.str (sx l)).length : Nat) ∧ ∃ l ∈ ls, H6 p1 = some (.lst (ls.map fun l => V.str (sx l))) ∧ atI (ls.map fun l => V.str (sx l)) (r % ((ls.map fun l => V.str (sx l)).length : Nat)) = some (.str (sx l)) ∧ Rd.Box bx d H6 ∧ (∀ T ∈ ts, TabG H6 T) := fun ls H3 _ hne hl b3 t3 H4 p1 k4 e4 H5 r a5 g5 H6 p2 k6 e6 => by
        have hpos : 0 < ls.length := List.length_pos_iff.mpr hne
        have b4 := b3.kp k4
        have e5 := a5.lst e4 (strs_ne e4 b4)
        refine ⟨by rw [List.length_map]; omega, ?_⟩
        rw [List.length_map]
        have g1 := Int.emod_nonneg r (show (ls.length : Int) ≠ 0 by omega)
        have g2 := Int.emod_lt_of_pos r (show (0 : Int) < (ls.length : Int) by omega)
        generalize r % (ls.length : Int) = m at g1 g2
        obtain ⟨j, rfl⟩ : ∃ j : Nat, m = j := ⟨m.toNat, by omega⟩
        have hj : j < ls.length := by omega
        exact ⟨ls[j], List.getElem_mem hj, keep_lst k6 e5, atI_nat (by rw [List.getElem?_map, List.getElem?_eq_getElem hj]; rfl), a5.2.kp k6, fun T hm => k6.tab T (a5.1.tab T (k4.tab T (t3 T hm)))⟩
      refine ⟨rfl, fun H4 p1 k4 e4 => ⟨.ref bx, rfl, bx, d, 900, rfl, by decide, b3.kp k4, fun H5 r5 a5 g5 l5 => .inl ⟨_, rfl, rfl, fun H6 p2 k6 e6 => ⟨p2, _, rfl, .inl (.inl (.inl e6)), _, _, rfl, rfl, ?_⟩⟩⟩⟩
      obtain ⟨hpos, wr, hwr, e7, hat, b6, t6⟩ := drawn wrongs H3 rfl (by decide +kernel) (by decide +kernel) b3 t3 H4 p1 k4 e4 H5 r5 a5 g5 H6 p2 k6 e6
      refine ⟨hpos, p1, _, _, _, rfl, rfl, .inl (.inl e7), hat, ?_⟩
      have bad := List.all_eq_true.mp wrongs_bad wr hwr
      have bads := List.all_eq_true.mp wrongs_eq wr hwr
      have bsx := List.all_eq_true.mp wrongs_sx wr hwr
      obtain ⟨hlw, ss7, es7, hf7, hz7, er7⟩ := bad_of bad
      refine ⟨_, rfl, wr, rfl, hlw, t6, ?_⟩
      rw [es7]
      intro H7a D7 vs7 hD7 k7a eD7 ds7
      refine ⟨D7, _, rfl, ⟨vs7, eD7, ds7⟩, hf7, hz7, fun T hm => k7a.tab T (t6 T hm), ?_⟩
      rw [er7]
      intro H7 k7b
      have k7 := k7a.trans k7b
      refine ⟨1, rfl, rfl, _, rfl, iteF' (by rfl) ?_⟩
      have b7 := b6.kp k7
      have t7 : ∀ T ∈ ts, TabG H7 T := fun T hm => k7.tab T (t6 T hm)
      refine ⟨_, rfl, rfl, _, rfl, ?_⟩
      have ew : (!decide (V.str (sx wr) = V.str (Str.ofString ""))) = !decide (wr = []) := by
        rw [dec_sx, show cs "" = [] by decide +kernel]
      rw [ew]
      by_cases h0 : wr = []
      · refine iteF' (by rw [decide_eq_true h0]; rfl) (iteF ?_)
        refine ⟨rfl, fun G4 p1 k4 e4 => ⟨.ref bx, rfl, bx, d, 900, rfl, by decide, b7.kp k4, fun G5 r5 a5 g5 l5 => .inl ⟨_, rfl, rfl, fun G6 p2 k6 e6 => ⟨p2, _, rfl, .inl (.inl (.inl e6)), _, _, rfl, rfl, ?_⟩⟩⟩⟩
        obtain ⟨hpos, nr, hnr, e7, hat, b6, t6⟩ := drawn nears H7 rfl (by decide +kernel) (by decide +kernel) b7 t7 G4 p1 k4 e4 G5 r5 a5 g5 G6 p2 k6 e6
        refine ⟨hpos, p1, _, _, _, rfl, rfl, .inl (.inl e7), hat, ?_⟩
        obtain ⟨hlw, ss7, ex7, es7, hf7, hz7, er7⟩ := right_of (List.all_eq_true.mp nears_right nr hnr)
        refine ⟨_, rfl, nr, rfl, hlw, t6, ?_⟩
        rw [es7]
        intro G7a D7 vs7 hD7 k7a eD7 ds7
        have t7a : ∀ T ∈ ts, TabG G7a T := fun T hm => k7a.tab T (t6 T hm)
        refine ⟨D7, _, rfl, ⟨vs7, eD7, ds7⟩, hf7, hz7, t7a, ?_⟩
        rw [er7]
        intro G7 m k7b em1 em2
        have em : m = ss7.length := by
          have := congrArg List.length em1
          rw [List.length_drop, List.length_nil] at this
          omega
        subst em
        have t7 : ∀ T ∈ ts, TabG G7 T := fun T hm => k7b.tab T (t7a T hm)
        refine ⟨_, rfl, nr, rfl, hlw, t7, ?_⟩
        rw [es7]
        intro G9 D9 vs9 hD9 k9 eD9 ds9
        have hl9 := ds9.length
        rw [List.length_map] at hl9
        refine ⟨D9, vs9, rfl, .inl (.inl (.inl eD9)), rfl, _, rfl, iteF' ?_ ?_⟩
        · rw [hl9]
          simp
        · exact ⟨((b6.kp k7a).kp k7b).kp k9, fun T hm => k9.tab T (t7 T hm), _, _, _, rfl⟩
      · refine iteT' (by rw [decide_eq_false h0]; rfl) ?_
        rw [decide_eq_false h0, Bool.false_or] at bads
        rw [Bool.and_eq_true, Bool.and_eq_true, decide_eq_true_eq, decide_eq_true_eq, decide_eq_true_eq] at bsx
        obtain ⟨hlw8, ss8, es8, hf8, hz8, er8⟩ := bad_of bads
        refine ⟨_, rfl, _, _, rfl, rfl, bsx.2.1, _, _, rfl, rfl, bsx.2.2, eqOf wr, by rw [bsx.1], hlw8, t7, ?_⟩
        rw [es8]
        intro H8a D8 vs8 hD8 k8a eD8 ds8
        refine ⟨D8, _, rfl, ⟨vs8, eD8, ds8⟩, hf8, hz8, fun T hm => k8a.tab T (t7 T hm), ?_⟩
        rw [er8]
        intro H8 k8b
        have k8 := k8a.trans k8b
        refine ⟨1, rfl, rfl, _, rfl, iteF' (by rfl) (iteF ?_)⟩
        have b8 := b7.kp k8
        have t8 : ∀ T ∈ ts, TabG H8 T := fun T hm => k8.tab T (t7 T hm)
        refine ⟨rfl, fun G4 p1 k4 e4 => ⟨.ref bx, rfl, bx, d, 900, rfl, by decide, b8.kp k4, fun G5 r5 a5 g5 l5 => .inl ⟨_, rfl, rfl, fun G6 p2 k6 e6 => ⟨p2, _, rfl, .inl (.inl (.inl e6)), _, _, rfl, rfl, ?_⟩⟩⟩⟩
        obtain ⟨hpos, nr, hnr, e7, hat, b6, t6⟩ := drawn nears H8 rfl (by decide +kernel) (by decide +kernel) b8 t8 G4 p1 k4 e4 G5 r5 a5 g5 G6 p2 k6 e6
        refine ⟨hpos, p1, _, _, _, rfl, rfl, .inl (.inl e7), hat, ?_⟩
        obtain ⟨hlw, ss7, ex7, es7, hf7, hz7, er7⟩ := right_of (List.all_eq_true.mp nears_right nr hnr)
        refine ⟨_, rfl, nr, rfl, hlw, t6, ?_⟩
        rw [es7]
        intro G7a D7 vs7 hD7 k7a eD7 ds7
        have t7a : ∀ T ∈ ts, TabG G7a T := fun T hm => k7a.tab T (t6 T hm)
        refine ⟨D7, _, rfl, ⟨vs7, eD7, ds7⟩, hf7, hz7, t7a, ?_⟩
        rw [er7]
        intro G7 m k7b em1 em2
        have em : m = ss7.length := by
          have := congrArg List.length em1
          rw [List.length_drop, List.length_nil] at this
          omega
        subst em
        have t7 : ∀ T ∈ ts, TabG G7 T := fun T hm => k7b.tab T (t7a T hm)
        refine ⟨_, rfl, nr, rfl, hlw, t7, ?_⟩
        rw [es7]
        intro G9 D9 vs9 hD9 k9 eD9 ds9
        have hl9 := ds9.length
        rw [List.length_map] at hl9
        refine ⟨D9, vs9, rfl, .inl (.inl (.inl eD9)), rfl, _, rfl, iteF' ?_ ?_⟩
        · rw [hl9]
          simp
        · exact ⟨((b6.kp k7a).kp k7b).kp k9, fun T hm => k9.tab T (t7 T hm), _, _, _, rfl⟩
    · rintro σ H3 ⟨b3, t3, o2, o3, o4, rfl⟩
      obtain ⟨hlw, ss7, ex7, es7, hf7, hz7, er7⟩ := right_of ten_right
      refine ⟨10, rfl, calls10, rfl, hlw, t3, ?_⟩
      rw [es7]
      intro H4 D7 vs7 hD7 k7a eD7 ds7
      have t4 : ∀ T ∈ ts, TabG H4 T := fun T hm => k7a.tab T (t3 T hm)
      refine ⟨_, rfl, D7, _, rfl, ⟨vs7, eD7, ds7⟩, hf7, hz7, t4, ?_⟩
      rw [er7]
      intro H5 m k5 em1 em2
      have em : m = ss7.length := by
        have := congrArg List.length em1
        rw [List.length_drop, List.length_nil] at this
        omega
      subst em
      have t5 : ∀ T ∈ ts, TabG H5 T := fun T hm => k5.tab T (t4 T hm)
      have eD5 := keep_lst k5 eD7
      have hl7 := ds7.length
      rw [List.length_map] at hl7
      refine ⟨_, rfl, D7, vs7, rfl, .inl (.inl (.inl eD5)), rfl, _, rfl, iteT' (by rw [hl7]; simp) ?_⟩
      obtain ⟨hlw8, ss8, es8, hf8, hz8, er8⟩ := bad_of eleven_bad
      refine ⟨11, rfl, calls11, rfl, hlw8, t5, ?_⟩
      rw [es8]
      intro H6 D8 vs8 hD8 k8a eD8 ds8
      refine ⟨D8, _, rfl, ⟨vs8, eD8, ds8⟩, hf8, hz8, fun T hm => k8a.tab T (t5 T hm), ?_⟩
      rw [er8]
      intro H7 k8b
      exact ⟨1, rfl, rfl, q H7⟩
end
end Rx

namespace Rx
open PySem PySem.Spec PyProof.Rows L2 GxR Gx Gd Rs
def clsBody : Stmt → List Stmt
  | .ClassDef (body := b) .. => b
  | _ => []
abbrev s_init : Stmt := (clsBody (topS 2)).getD 0 (.Pass ⟨0, 0, 0, 0⟩)
theorem sc_init : FnScope ["self", "offset"] ["self", "offset"] (defScope s_init) := ⟨rfl, rfl, rfl, by decide +kernel, rfl, by decide +kernel, by decide +kernel⟩
/-- what the written part says of BadSigns -/
structure ClsB (K : PySem.W.Frag) (mg : Str → Option Value) (C fI : Addr) : Prop where
  gC : mg "BadSigns" = some (.ref C)
  T : OexC K C
  no : PySem.W.findIn K (.ref C) "offset" = some none
  iC : PySem.W.findIn K (.ref C) "__init__" = some (some (.ref fI))
  tI : PySem.W.typeIn K (.ref fI) = some (.type "function")
  fI : ∃ fd, Fun K "__init__" "BadSigns.__init__" s_init fI fd
section
variable {P : Program} {w : World} {K : PySem.W.Frag} {mg : Str → Option Value} {base : Heap} {h : Heap}
theorem init_ok {f : Addr} {fd : FuncData} (F : Fun K "__init__" "BadSigns.__init__" s_init f fd) : FnOk P w K mg base CX0 1 f fd ["self", "offset"] (spInit K "offset") := by
  refine F.ok (k := 0) sc_init (fun vs H Q E h => ?_) fun cdv A outer s H vs Q E hr h => ?_
  · obtain ⟨a, C, y, rfl, _⟩ := h
    rfl
  · obtain ⟨a, C, y, rfl, T, no, ha, q⟩ := h
    refine ⟨_, pss_one (ps_ost (pv 0) (pv 1)), ?_⟩
    exact ⟨_, rfl, _, rfl, a, C, rfl, T, no, .inl ⟨ha, fun dx h1 h2 => q dx h1 h2⟩⟩
theorem ClsB.bad {C fI : Addr} (F : ClsB K mg C fI) : Bad P w K mg base C := by
  obtain ⟨fd, G⟩ := F.fI
  exact ⟨F.T, F.no, ⟨fI, fd, F.iC, F.tI, init_ok G, G.binds fun _ _ _ _ _ _ us hl => match us, hl with | [_, _], _ => rfl⟩, F.gC⟩
theorem DefAt.noX {x : Str} {st : Stmt} {N ps : List Str} {k : Nat} (D : DefAt K mg x st ps) (S : FnScope N ps (defScope st)) : CalX P w K mg base (k + 1) x ps (fun _ _ _ _ => False) := D.calX S (fun _ _ _ _ h => h.elim) fun _ _ _ _ _ _ _ _ _ _ h => h.elim
theorem DefAt.no0 {x : Str} {st : Stmt} {N ps : List Str} {k : Nat} (D : DefAt K mg x st ps) (S : FnScope N ps (defScope st)) : Cal P w K mg base CX0 (k + 1) x ps (fun _ _ _ _ => False) := D.cal S (fun _ _ _ _ h => h.elim) fun _ _ _ _ _ _ _ _ _ _ h => h.elim
theorem cls_k {C fI N : Addr} {d1 od an : Option Addr} {s1 : Array (Option Value)} {nm q : Str} {bs bm sub : List Value} {sn : List Str} {ab : Bool} {col : Option Bool} {m0 m1' m2' m3' m5 : Option Value} {oc kV dc pm cd ct : Value}
    (X : K.In h) (G : h.Ns mainGlobals mg) (gC : PySem.W.nsIn K mainGlobals "BadSigns" = some (some (.ref C))) (cls : K.lookup C = some (excClassObj nm q C N bs bm true sn sub ab col d1 m0 m1' m2' m3' m5 "ValueError.__new__")) (rf : PySem.HandSPX.refsVE bm = true)
    (sa : PySem.W.findIn K (.ref C) "__setattr__" = some (some (.builtin "object.__setattr__"))) (exC : PySem.W.subIn K (.ref C) (.type "BaseException") = some true) (tyC : PySem.W.typeIn K (.ref C) = some (.type "type")) (kC : PySem.W.keepIn K (.ref C) = true) (no : PySem.W.findIn K (.ref C) "offset" = some none)
    (iC : PySem.W.findIn K (.ref C) "__init__" = some (some (.ref fI))) (tI : PySem.W.typeIn K (.ref fI) = some (.type "function")) (lI : K.lookup fI = some ⟨oc, od, .func (PySem.W.fnOf "__init__" "BadSigns.__init__" (defArgs s_init) (defBody s_init) (defScope s_init) .none kV dc pm an cd ct), s1⟩) (cI : PySem.W.codeIn K cd "BadSigns.__init__" = true) (kI : PySem.W.keepIn K (.ref fI) = true) : ClsB K mg C fI :=
  ⟨PySem.W.mg_of X G gC, ⟨⟨nm, q, N, bs, bm, sn, sub, ab, col, d1, m0, m1', m2', m3', m5, cls, rf⟩, sa, exC, tyC, kC⟩, no, iC, tI, ⟨_, fun_mk lI cI kI⟩⟩
/-- read_expression, once its parts keep their promises -/
theorem read_all {C aL aR aC aRes aAr : Addr} {ts : List Addr} (D__read : DefAt K mg "_read" s_read ["signs", "at", "depth"]) (D__read_inject : DefAt K mg "_read_inject" s_read_inject ["signs", "at", "depth"]) (D__read_call : DefAt K mg "_read_call" s_read_call ["function", "signs", "at", "depth"])
    (D__count_calls : DefAt K mg "_count_calls" s_count_calls ["expression"]) (D__inner_ones : DefAt K mg "_inner_ones" s_inner_ones ["expression"]) (D_read_expression : DefAt K mg "read_expression" s_read_expression ["signs", "at"])
    (BN : BadN K mg "BadExpression" C) (g_LEFT : mg "LEFT" = some (.ref aL)) (g_RIGHT : mg "RIGHT" = some (.ref aR)) (g_COMMA : mg "COMMA" = some (.ref aC)) (hL : ∀ H, Dt K H (.ref aL) (Sg.mark 40).d) (hR : ∀ H, Dt K H (.ref aR) (Sg.mark 41).d) (hC : ∀ H, Dt K H (.ref aC) (Sg.mark 44).d)
    (g_RESERVED : mg "RESERVED" = some (.ref aRes)) (hRes : ∀ H, SqT K H aRes resV) (g_ARITIES : mg "ARITIES" = some (.ref aAr)) (hAr : ∀ l ∈ funs, KDct K w aAr (sx l) (.int (arity l : Nat))) (g_DEEP : ∃ t, mg "DEEPEST_CALL" = some (.int 5 t)) (g_MOST : ∃ t, mg "MOST_CALLS" = some (.int 10 t))
    (m_range : mg "range" = none) (m_tuple : mg "tuple" = none) (m_sum : mg "sum" = none)
    (c1 : CalX P w K mg base 1 "_sign_at" ["signs", "at"] (spSignAt K C)) (c2 : CalX P w K mg base 2 "_behind" ["signs", "at", "sign"] (spBehind K C)) (c3 : Cal P w K mg base CX0 6 "scalar_of" ["sign"] (spScalar K ts)) (c4 : CalX P w K mg base 9 "_read_map" ["signs", "at"] (spMap K C ts)) :
    CalX P w K mg base 21 "read_expression" ["signs", "at"] (spRE K C ts) := by
  have rd : ∀ n, n ≤ 5 → CalX P w K mg base (10 + 2 * n) "_read" ["signs", "at", "depth"] (spRd K C ts n) := fun n => by
    induction n with
    | zero => exact fun hn => c_read (n := 0) (k := 9) hn (by decide) D__read BN g_RESERVED hRes g_DEEP c1 c3 c4 (DefAt.noX D__read_inject sc_read_inject) (DefAt.noX D__read_call sc_read_call)
    | succ n ih =>
      intro hn
      have r := ih (by omega)
      have i := c_read_inject (n := n) (k := 10 + 2 * n) (by omega) (by omega) D__read_inject BN g_LEFT g_RIGHT g_COMMA hL hR hC g_RESERVED hRes c1 c2 r
      have c := c_read_call (n := n) (k := 10 + 2 * n) (by omega) (by omega) D__read_call g_LEFT g_RIGHT g_COMMA hL hR hC g_ARITIES hAr m_range m_tuple c2 r
      exact c_read (n := n + 1) (k := 10 + 2 * n + 1) hn (by omega) D__read BN g_RESERVED hRes g_DEEP c1 c3 c4 i c
  have ci := c_inner_ones (P := P) (w := w) (base := base) D__inner_ones
  have ct : ∀ m, m ≤ 5 → Cal P w K mg base CX0 (2 + m) "_count_calls" ["expression"] (spCnt K m) := fun m => by
    induction m with
    | zero => exact fun _ => c_count_calls (m := 0) (k := 1) (by decide) (by decide) D__count_calls m_sum ci (DefAt.no0 D__count_calls sc_count_calls)
    | succ m ih =>
      intro hm
      have := c_count_calls (m := m + 1) (k := 2 + m) (by omega) (by omega) D__count_calls m_sum ci (ih (by omega))
      exact this
  exact c_read_expression (k := 20) D_read_expression BN g_MOST ((rd 5 (by decide)).mono (by decide)) ((ct 5 (by decide)).mono (by decide))
theorem law_fin {l : PySem.W.OpenLaw} {fa c1 T1 c2 T2 c3 T3 c4 T4 C fI CE CV aM aE aL aR aC aRes aAr : Addr} {fd : FuncData} (X : K.In h) (Fl : Fun K "law" "law" s_law fa fd) (bl : ∀ (s : Shared) (u : Value), BindsTo s fd ⟨[u], []⟩ [("script", u)]) (nt : PySem.W.noTabs K = true)
    (C1 : DefC K mg "is_name" Rs.s_is_name ["thing"] c1) (t1 : PySem.W.CodeHd h c1 T1 ∧ h.get? T1 = some { cls := .none, data := .fields #[] })
    (C2 : DefC K mg "_is_number" Rs.s_is_number ["run"] c2) (t2 : PySem.W.CodeHd h c2 T2 ∧ h.get? T2 = some { cls := .none, data := .fields #[] })
    (C3 : DefC K mg "_is_text" Rv.s_is_text ["thing", "shortest", "longest"] c3) (t3 : PySem.W.CodeHd h c3 T3 ∧ h.get? T3 = some { cls := .none, data := .fields #[] })
    (C4 : DefC K mg "_are_entries" Rv.s_are_entries ["thing"] c4) (t4 : PySem.W.CodeHd h c4 T4 ∧ h.get? T4 = some { cls := .none, data := .fields #[] })
    (B : ClsB K mg C fI) (BN : BadN K mg "BadExpression" CE) (BC : CatN K mg "BadExpression" "ViewError" CE CV) (EK : EscK K w aE) (g_MARKS : mg "MARKS" = some (.ref aM)) (hM : ∀ H, SqT K H aM marksV) (g_ESCAPES : mg "ESCAPES" = some (.ref aE))
    (g_LEFT : mg "LEFT" = some (.ref aL)) (g_RIGHT : mg "RIGHT" = some (.ref aR)) (g_COMMA : mg "COMMA" = some (.ref aC)) (hL : ∀ H, Dt K H (.ref aL) (Sg.mark 40).d) (hR : ∀ H, Dt K H (.ref aR) (Sg.mark 41).d) (hC : ∀ H, Dt K H (.ref aC) (Sg.mark 44).d)
    (g_RESERVED : mg "RESERVED" = some (.ref aRes)) (hRes : ∀ H, SqT K H aRes resV) (g_ARITIES : mg "ARITIES" = some (.ref aAr)) (hAr : ∀ l ∈ funs, KDct K w aAr (sx l) (.int (arity l : Nat)))
    (g_QUOTE : ∃ t, mg "QUOTE" = some (.str (Str.ofString "\"") t)) (g_BACKSLASH : ∃ t, mg "BACKSLASH" = some (.str (Str.ofString "\\") t))
    (D_is_character : DefAt K mg "is_character" Rv.s_is_character ["char"]) (D_is_digit : DefAt K mg "is_digit" Rs.s_is_digit ["char"]) (D_is_key : DefAt K mg "is_key" Rv.s_is_key ["thing"]) (D_is_scalar : DefAt K mg "is_scalar" Rv.s_is_scalar ["thing"]) (D_is_value : DefAt K mg "is_value" Rv.s_is_value ["thing"])
    (D__is_small : DefAt K mg "_is_small" Rs.s_is_small ["char"]) (D__is_pair : DefAt K mg "_is_pair" Rv.s_is_pair ["thing"]) (D__is_integer : DefAt K mg "_is_integer" Rv.s_is_integer ["thing"]) (D__is_entry : DefAt K mg "_is_entry" Rv.s_is_entry ["thing"])
    (D_split_line : DefAt K mg "split_line" Rs.s_split_line ["line"]) (D_scalar_of : DefAt K mg "scalar_of" s_scalar_of ["sign"]) (D_is_at : DefAt K mg "is_at" s_is_at ["signs", "at", "sign"])
    (D__read_sign : DefAt K mg "_read_sign" Rs.s_read_sign ["line", "start"]) (D__is_of_run : DefAt K mg "_is_of_run" Rs.s_is_of_run ["char"]) (D__read_run : DefAt K mg "_read_run" Rs.s_read_run ["line", "start"]) (D__read_quoted : DefAt K mg "_read_quoted" Rs.s_read_quoted ["line", "start"]) (D__meant : DefAt K mg "_meant" Rs.s_meant ["piece", "start"])
    (D__if_scalar : DefAt K mg "_if_scalar" s_if_scalar ["thing"]) (D_read_expression : DefAt K mg "read_expression" s_read_expression ["signs", "at"]) (D__inner_ones : DefAt K mg "_inner_ones" s_inner_ones ["expression"]) (D__count_calls : DefAt K mg "_count_calls" s_count_calls ["expression"])
    (D__read : DefAt K mg "_read" s_read ["signs", "at", "depth"]) (D__read_call : DefAt K mg "_read_call" s_read_call ["function", "signs", "at", "depth"]) (D__read_inject : DefAt K mg "_read_inject" s_read_inject ["signs", "at", "depth"]) (D__read_map : DefAt K mg "_read_map" s_read_map ["signs", "at"]) (D__read_entry : DefAt K mg "_read_entry" s_read_entry ["signs", "at"])
    (D__sign_at : DefAt K mg "_sign_at" s_sign_at ["signs", "at"]) (D__behind : DefAt K mg "_behind" s_behind ["signs", "at", "sign"])
    (D__law_cell : DefAt K mg "_law_cell" Rd.s_law_cell ["script", "k"]) (D__law_digits : DefAt K mg "_law_digits" Rd.s_law_digits ["script", "first", "last"]) (D__law_draw : DefAt K mg "_law_draw" Rd.s_law_draw ["box", "many"])
    (D__law_wrong : DefAt K mg "_law_wrong" s_law_wrong []) (D__law_near : DefAt K mg "_law_near" s_law_near []) (D__law_calls : DefAt K mg "_law_calls" s_law_calls ["many"]) (D__law_read : DefAt K mg "_law_read" s_law_read ["signs"])
    (m_isinstance : mg "isinstance" = none) (m_str : mg "str" = none) (m_tuple : mg "tuple" = none) (m_int : mg "int" = none) (m_bool : mg "bool" = none) (m_len : mg "len" = none) (m_all : mg "all" = none) (m_ord : mg "ord" = none) (m_range : mg "range" = none) (m_sum : mg "sum" = none) (m_ValueError : mg "ValueError" = none)
    (g_PERCENT : ∃ t, mg "PERCENT" = some (.int 37 t)) (g_NAME : ∃ t, mg "NAME_LENGTH" = some (.int 12 t)) (g_KEY : ∃ t, mg "KEY_LENGTH" = some (.int 12 t)) (g_TEXT : ∃ t, mg "TEXT_LENGTH" = some (.int 40 t)) (g_MAP : ∃ t, mg "MAP_SIZE" = some (.int 8 t)) (g_GREATEST : ∃ t, mg "GREATEST_INTEGER" = some (.int 999999 t))
    (g_NUMBER : ∃ t, mg "NUMBER_LENGTH" = some (.int 9 t)) (g_MOST : ∃ t, mg "MOST_CALLS" = some (.int 10 t)) (g_DEEP : ∃ t, mg "DEEPEST_CALL" = some (.int 5 t)) :
    LawG l w K CX0 23 63 "script" mg fa h := by
  have inn : ∀ {p : Addr × Addr}, p ∈ [(c1, T1), (c2, T2), (c3, T3), (c4, T4)] → PySem.W.CodeHd h p.1 p.2 ∧ h.get? p.2 = some { cls := .none, data := .fields #[] } := fun {p} hp => by
    simp only [List.mem_cons, List.not_mem_nil, or_false] at hp
    rcases hp with rfl | rfl | rfl | rfl
    · exact t1
    · exact t2
    · exact t3
    · exact t4
  refine ⟨fd, [(c1, T1), (c2, T2), (c3, T3), (c4, T4)], spLaw K [T1, T2, T3, T4], fun p hp => (inn hp).2, fun p hp => no_tabs X nt (inn hp).2, fun p hp => (inn hp).1, bl, fun H a ns hlen hbits hH hS => ⟨a, ns, rfl, hS, fun T hm => ?_, fun _ => rfl⟩, fun base kin hns hB => ?_⟩
  · have : H T = some (.tbl #[]) := by
      simp only [List.mem_cons, List.not_mem_nil, or_false] at hm
      rcases hm with rfl | rfl | rfl | rfl
      · exact hH (c1, T) (by simp)
      · exact hH (c2, T) (by simp)
      · exact hH (c3, T) (by simp)
      · exact hH (c4, T) (by simp)
    exact ⟨#[], this, trivial⟩
  · have B1 := C1.tab (hB (c1, T1) (by simp))
    have B2 := C2.tab (hB (c2, T2) (by simp))
    have B3 := C3.tab (hB (c3, T3) (by simp))
    have B4 := C4.tab (hB (c4, T4) (by simp))
    have BD : Bad l.prog w K mg base C := B.bad
    have c_is_small := Rs.c_is_small (P := l.prog) (w := w) (base := base) D__is_small
    have c_is_digit := Rs.c_is_digit (P := l.prog) (w := w) (base := base) D_is_digit
    have c_is_character := Rv.c_is_character (P := l.prog) (w := w) (base := base) D_is_character g_PERCENT m_ord
    have c_is_name := Rs.c_is_name (P := l.prog) (w := w) B1 g_NAME m_isinstance m_str m_len m_all c_is_small c_is_digit
    have c_is_name := c_is_name.imp (sp' := spData K [T1, T2, T3, T4] Rs.isName) fun vs H Q E ⟨v, d, e, hd, hz, hT, q⟩ => ⟨v, d, e, hd, hz, fun T hm => hT T (by rw [List.mem_singleton.mp hm]; simp), q⟩
    have c_is_of_run := Rs.c_is_of_run (P := l.prog) (w := w) (base := base) D__is_of_run c_is_digit
    have c_is_number := Rs.c_is_number (P := l.prog) (w := w) (ts := [T1, T2, T3, T4]) B2 g_NUMBER m_len m_all (by simp) c_is_digit
    have c_meant := Rs.c_meant (P := l.prog) (w := w) (base := base) D__meant BD EK g_ESCAPES g_BACKSLASH c_is_character
    have c_read_quoted := Rs.c_read_quoted (P := l.prog) (w := w) (base := base) D__read_quoted BD g_QUOTE g_BACKSLASH m_len c_meant
    have c_read_run := Rs.c_read_run (P := l.prog) (w := w) (base := base) D__read_run BD m_len m_int c_is_of_run c_is_name c_is_number
    have c_read_sign := Rs.c_read_sign (P := l.prog) (w := w) (base := base) D__read_sign BD g_QUOTE g_MARKS hM c_is_of_run c_read_quoted c_read_run
    have c_split_line := Rs.c_split_line (P := l.prog) (w := w) (base := base) D_split_line m_len c_read_sign
    have c_is_pair := Rv.c_is_pair (P := l.prog) (w := w) (base := base) D__is_pair m_isinstance m_tuple m_len
    have c_is_text := Rv.c_is_text (P := l.prog) (w := w) B3 m_isinstance m_str m_len m_all c_is_character
    have c_is_text := c_is_text.imp (sp' := Rv.spText K [T1, T2, T3, T4]) fun vs H Q E ⟨v, d, a, b, e, hd, hz, hT, q⟩ => ⟨v, d, a, b, e, hd, hz, fun T hm => hT T (by rw [List.mem_singleton.mp hm]; simp), q⟩
    have c_is_key := Rv.c_is_key (P := l.prog) (w := w) (base := base) D_is_key g_KEY c_is_text
    have c_is_integer := Rv.c_is_integer (P := l.prog) (w := w) (base := base) D__is_integer m_isinstance m_bool m_int g_GREATEST
    have c_is_scalar := Rv.c_is_scalar (P := l.prog) (w := w) (base := base) D_is_scalar m_isinstance m_bool g_TEXT c_is_pair c_is_integer c_is_text
    have c_is_entry := Rv.c_is_entry (P := l.prog) (w := w) (base := base) D__is_entry c_is_pair c_is_key c_is_scalar
    have c_are_entries := Rv.c_are_entries (P := l.prog) (w := w) (ts := [T1, T2, T3, T4]) B4 g_MAP m_isinstance m_tuple m_len m_all c_is_entry (by simp)
    have c_is_value := Rv.c_is_value (P := l.prog) (w := w) (base := base) D_is_value c_is_pair c_is_scalar c_are_entries
    have c_is_at := c_is_at (P := l.prog) (w := w) (base := base) D_is_at m_len
    have c_if_scalar := c_if_scalar (P := l.prog) (w := w) (base := base) D__if_scalar c_is_scalar
    have c_scalar_of := c_scalar_of (P := l.prog) (w := w) (base := base) D_scalar_of c_if_scalar
    have c_sign_at := c_sign_at (P := l.prog) (w := w) (base := base) D__sign_at BN m_len
    have c_behind := c_behind (P := l.prog) (w := w) (base := base) D__behind BN c_is_at
    have c_read_entry := c_read_entry (P := l.prog) (w := w) (base := base) D__read_entry BN g_COMMA hC c_sign_at c_behind c_scalar_of
    have c_read_map := c_read_map (P := l.prog) (w := w) (base := base) D__read_map BN g_LEFT g_RIGHT g_COMMA hL hR hC m_tuple c_is_at c_behind c_read_entry c_is_value
    have c_read_expression := read_all (P := l.prog) (w := w) (base := base) D__read D__read_inject D__read_call D__count_calls D__inner_ones D_read_expression BN g_LEFT g_RIGHT g_COMMA hL hR hC g_RESERVED hRes g_ARITIES hAr g_DEEP g_MOST m_range m_tuple m_sum c_sign_at c_behind c_scalar_of c_read_map
    have c_law_cell := Rd.c_law_cell (P := l.prog) (w := w) (base := base) D__law_cell m_len
    have c_law_digits := Rd.c_law_digits (P := l.prog) (w := w) (base := base) D__law_digits m_range m_int c_law_cell
    have c_law_draw := Rd.c_law_draw (P := l.prog) (w := w) (base := base) D__law_draw m_len m_int
    have c_law_wrong := c_law_wrong (P := l.prog) (w := w) (base := base) D__law_wrong m_range m_str
    have c_law_near := c_law_near (P := l.prog) (w := w) (base := base) D__law_near m_range m_str
    have c_law_calls := c_law_calls (P := l.prog) (w := w) (base := base) D__law_calls
    have c_law_read := c_law_read (P := l.prog) (w := w) (base := base) D__law_read BC m_isinstance m_ValueError c_read_expression
    exact ok_law (C := C) (k := 22) (by decide) Fl m_range m_len m_int c_law_digits c_law_draw c_law_wrong c_law_near c_law_calls c_law_read c_split_line
end
end Rx

open PySem PySem.W PyProof.Rows
set_option maxHeartbeats 0 in
theorem PySem.Challenge.cw_remoteviews_k03_no_expressions_holds : PySem.Challenge.rw_remoteviews_k03_no_expressions.Holds := by
  w_on; o_law; k_head; (case hw => w_witness2)
  k_fill
  refine Gd.walk_G2 (l := PySem.Challenge.rw_remoteviews_k03_no_expressions) (n := 63) (k := 23) (x := "script") (CX := fun _ => L2.CX0) rfl (by decide) rfl ⟨⟨rfl, by decide, by decide⟩, rfl⟩ (fun w h Y => PySem.W.kIn_of Y) ?F (fun _ _ _ _ _ h => h)
  case F =>
    intro w mg fa h Y KX G hmg tabs
    have C_is_name := by
      refine' Gd.def_c (x := "is_name") (st := Rs.s_is_name) (ps := ["thing"]) KX G ?a ?l ?c ?k ?l1 ?hv ?b
      (case a => k_is); (case l => k_is); (case c => k_is); (case k => k_is); (case l1 => k_is); (case hv => rfl); (case b => exact fun _ _ _ _ _ _ us hl => match us, hl with | [_], _ => rfl)
    obtain ⟨C1, x1⟩ := C_is_name
    have t1 := tabs "is_name" _ _ _ (by rfl) x1
    have C__is_number := by
      refine' Gd.def_c (x := "_is_number") (st := Rs.s_is_number) (ps := ["run"]) KX G ?a ?l ?c ?k ?l1 ?hv ?b
      (case a => k_is); (case l => k_is); (case c => k_is); (case k => k_is); (case l1 => k_is); (case hv => rfl); (case b => exact fun _ _ _ _ _ _ us hl => match us, hl with | [_], _ => rfl)
    obtain ⟨C2, x2⟩ := C__is_number
    have t2 := tabs "_is_number" _ _ _ (by rfl) x2
    have C__is_text := by
      refine' Gd.def_c (x := "_is_text") (st := Rv.s_is_text) (ps := ["thing", "shortest", "longest"]) KX G ?a ?l ?c ?k ?l1 ?hv ?b
      (case a => k_is); (case l => k_is); (case c => k_is); (case k => k_is); (case l1 => k_is); (case hv => rfl); (case b => exact fun _ _ _ _ _ _ us hl => match us, hl with | [_, _, _], _ => rfl)
    obtain ⟨C3, x3⟩ := C__is_text
    have t3 := tabs "_is_text" _ _ _ (by rfl) x3
    have C__are_entries := by
      refine' Gd.def_c (x := "_are_entries") (st := Rv.s_are_entries) (ps := ["thing"]) KX G ?a ?l ?c ?k ?l1 ?hv ?b
      (case a => k_is); (case l => k_is); (case c => k_is); (case k => k_is); (case l1 => k_is); (case hv => rfl); (case b => exact fun _ _ _ _ _ _ us hl => match us, hl with | [_], _ => rfl)
    obtain ⟨C4, x4⟩ := C__are_entries
    have t4 := tabs "_are_entries" _ _ _ (by rfl) x4
    have D_is_character := by
      refine' Gd.def_k (x := "is_character") (st := Rv.s_is_character) (ps := ["char"]) KX G ?a ?l ?c ?k ?b
      (case a => k_is); (case l => k_is); (case c => k_is); (case k => k_is); (case b => exact fun _ _ _ _ _ _ us hl => match us, hl with | [_], _ => rfl)
    have D_is_digit := by
      refine' Gd.def_k (x := "is_digit") (st := Rs.s_is_digit) (ps := ["char"]) KX G ?a ?l ?c ?k ?b
      (case a => k_is); (case l => k_is); (case c => k_is); (case k => k_is); (case b => exact fun _ _ _ _ _ _ us hl => match us, hl with | [_], _ => rfl)
    have D_is_key := by
      refine' Gd.def_k (x := "is_key") (st := Rv.s_is_key) (ps := ["thing"]) KX G ?a ?l ?c ?k ?b
      (case a => k_is); (case l => k_is); (case c => k_is); (case k => k_is); (case b => exact fun _ _ _ _ _ _ us hl => match us, hl with | [_], _ => rfl)
    have D_is_scalar := by
      refine' Gd.def_k (x := "is_scalar") (st := Rv.s_is_scalar) (ps := ["thing"]) KX G ?a ?l ?c ?k ?b
      (case a => k_is); (case l => k_is); (case c => k_is); (case k => k_is); (case b => exact fun _ _ _ _ _ _ us hl => match us, hl with | [_], _ => rfl)
    have D_is_value := by
      refine' Gd.def_k (x := "is_value") (st := Rv.s_is_value) (ps := ["thing"]) KX G ?a ?l ?c ?k ?b
      (case a => k_is); (case l => k_is); (case c => k_is); (case k => k_is); (case b => exact fun _ _ _ _ _ _ us hl => match us, hl with | [_], _ => rfl)
    have D__is_small := by
      refine' Gd.def_k (x := "_is_small") (st := Rs.s_is_small) (ps := ["char"]) KX G ?a ?l ?c ?k ?b
      (case a => k_is); (case l => k_is); (case c => k_is); (case k => k_is); (case b => exact fun _ _ _ _ _ _ us hl => match us, hl with | [_], _ => rfl)
    have D__is_pair := by
      refine' Gd.def_k (x := "_is_pair") (st := Rv.s_is_pair) (ps := ["thing"]) KX G ?a ?l ?c ?k ?b
      (case a => k_is); (case l => k_is); (case c => k_is); (case k => k_is); (case b => exact fun _ _ _ _ _ _ us hl => match us, hl with | [_], _ => rfl)
    have D__is_integer := by
      refine' Gd.def_k (x := "_is_integer") (st := Rv.s_is_integer) (ps := ["thing"]) KX G ?a ?l ?c ?k ?b
      (case a => k_is); (case l => k_is); (case c => k_is); (case k => k_is); (case b => exact fun _ _ _ _ _ _ us hl => match us, hl with | [_], _ => rfl)
    have D__is_entry := by
      refine' Gd.def_k (x := "_is_entry") (st := Rv.s_is_entry) (ps := ["thing"]) KX G ?a ?l ?c ?k ?b
      (case a => k_is); (case l => k_is); (case c => k_is); (case k => k_is); (case b => exact fun _ _ _ _ _ _ us hl => match us, hl with | [_], _ => rfl)
    have D_split_line := by
      refine' Gd.def_k (x := "split_line") (st := Rs.s_split_line) (ps := ["line"]) KX G ?a ?l ?c ?k ?b
      (case a => k_is); (case l => k_is); (case c => k_is); (case k => k_is); (case b => exact fun _ _ _ _ _ _ us hl => match us, hl with | [_], _ => rfl)
    have D_scalar_of := by
      refine' Gd.def_k (x := "scalar_of") (st := Rx.s_scalar_of) (ps := ["sign"]) KX G ?a ?l ?c ?k ?b
      (case a => k_is); (case l => k_is); (case c => k_is); (case k => k_is); (case b => exact fun _ _ _ _ _ _ us hl => match us, hl with | [_], _ => rfl)
    have D_is_at := by
      refine' Gd.def_k (x := "is_at") (st := Rx.s_is_at) (ps := ["signs", "at", "sign"]) KX G ?a ?l ?c ?k ?b
      (case a => k_is); (case l => k_is); (case c => k_is); (case k => k_is); (case b => exact fun _ _ _ _ _ _ us hl => match us, hl with | [_, _, _], _ => rfl)
    have D__read_sign := by
      refine' Gd.def_k (x := "_read_sign") (st := Rs.s_read_sign) (ps := ["line", "start"]) KX G ?a ?l ?c ?k ?b
      (case a => k_is); (case l => k_is); (case c => k_is); (case k => k_is); (case b => exact fun _ _ _ _ _ _ us hl => match us, hl with | [_, _], _ => rfl)
    have D__is_of_run := by
      refine' Gd.def_k (x := "_is_of_run") (st := Rs.s_is_of_run) (ps := ["char"]) KX G ?a ?l ?c ?k ?b
      (case a => k_is); (case l => k_is); (case c => k_is); (case k => k_is); (case b => exact fun _ _ _ _ _ _ us hl => match us, hl with | [_], _ => rfl)
    have D__read_run := by
      refine' Gd.def_k (x := "_read_run") (st := Rs.s_read_run) (ps := ["line", "start"]) KX G ?a ?l ?c ?k ?b
      (case a => k_is); (case l => k_is); (case c => k_is); (case k => k_is); (case b => exact fun _ _ _ _ _ _ us hl => match us, hl with | [_, _], _ => rfl)
    have D__read_quoted := by
      refine' Gd.def_k (x := "_read_quoted") (st := Rs.s_read_quoted) (ps := ["line", "start"]) KX G ?a ?l ?c ?k ?b
      (case a => k_is); (case l => k_is); (case c => k_is); (case k => k_is); (case b => exact fun _ _ _ _ _ _ us hl => match us, hl with | [_, _], _ => rfl)
    have D__meant := by
      refine' Gd.def_k (x := "_meant") (st := Rs.s_meant) (ps := ["piece", "start"]) KX G ?a ?l ?c ?k ?b
      (case a => k_is); (case l => k_is); (case c => k_is); (case k => k_is); (case b => exact fun _ _ _ _ _ _ us hl => match us, hl with | [_, _], _ => rfl)
    have D__if_scalar := by
      refine' Gd.def_k (x := "_if_scalar") (st := Rx.s_if_scalar) (ps := ["thing"]) KX G ?a ?l ?c ?k ?b
      (case a => k_is); (case l => k_is); (case c => k_is); (case k => k_is); (case b => exact fun _ _ _ _ _ _ us hl => match us, hl with | [_], _ => rfl)
    have D_read_expression := by
      refine' Gd.def_k (x := "read_expression") (st := Rx.s_read_expression) (ps := ["signs", "at"]) KX G ?a ?l ?c ?k ?b
      (case a => k_is); (case l => k_is); (case c => k_is); (case k => k_is); (case b => exact fun _ _ _ _ _ _ us hl => match us, hl with | [_, _], _ => rfl)
    have D__inner_ones := by
      refine' Gd.def_k (x := "_inner_ones") (st := Rx.s_inner_ones) (ps := ["expression"]) KX G ?a ?l ?c ?k ?b
      (case a => k_is); (case l => k_is); (case c => k_is); (case k => k_is); (case b => exact fun _ _ _ _ _ _ us hl => match us, hl with | [_], _ => rfl)
    have D__count_calls := by
      refine' Gd.def_k (x := "_count_calls") (st := Rx.s_count_calls) (ps := ["expression"]) KX G ?a ?l ?c ?k ?b
      (case a => k_is); (case l => k_is); (case c => k_is); (case k => k_is); (case b => exact fun _ _ _ _ _ _ us hl => match us, hl with | [_], _ => rfl)
    have D__read := by
      refine' Gd.def_k (x := "_read") (st := Rx.s_read) (ps := ["signs", "at", "depth"]) KX G ?a ?l ?c ?k ?b
      (case a => k_is); (case l => k_is); (case c => k_is); (case k => k_is); (case b => exact fun _ _ _ _ _ _ us hl => match us, hl with | [_, _, _], _ => rfl)
    have D__read_call := by
      refine' Gd.def_k (x := "_read_call") (st := Rx.s_read_call) (ps := ["function", "signs", "at", "depth"]) KX G ?a ?l ?c ?k ?b
      (case a => k_is); (case l => k_is); (case c => k_is); (case k => k_is); (case b => exact fun _ _ _ _ _ _ us hl => match us, hl with | [_, _, _, _], _ => rfl)
    have D__read_inject := by
      refine' Gd.def_k (x := "_read_inject") (st := Rx.s_read_inject) (ps := ["signs", "at", "depth"]) KX G ?a ?l ?c ?k ?b
      (case a => k_is); (case l => k_is); (case c => k_is); (case k => k_is); (case b => exact fun _ _ _ _ _ _ us hl => match us, hl with | [_, _, _], _ => rfl)
    have D__read_map := by
      refine' Gd.def_k (x := "_read_map") (st := Rx.s_read_map) (ps := ["signs", "at"]) KX G ?a ?l ?c ?k ?b
      (case a => k_is); (case l => k_is); (case c => k_is); (case k => k_is); (case b => exact fun _ _ _ _ _ _ us hl => match us, hl with | [_, _], _ => rfl)
    have D__read_entry := by
      refine' Gd.def_k (x := "_read_entry") (st := Rx.s_read_entry) (ps := ["signs", "at"]) KX G ?a ?l ?c ?k ?b
      (case a => k_is); (case l => k_is); (case c => k_is); (case k => k_is); (case b => exact fun _ _ _ _ _ _ us hl => match us, hl with | [_, _], _ => rfl)
    have D__sign_at := by
      refine' Gd.def_k (x := "_sign_at") (st := Rx.s_sign_at) (ps := ["signs", "at"]) KX G ?a ?l ?c ?k ?b
      (case a => k_is); (case l => k_is); (case c => k_is); (case k => k_is); (case b => exact fun _ _ _ _ _ _ us hl => match us, hl with | [_, _], _ => rfl)
    have D__behind := by
      refine' Gd.def_k (x := "_behind") (st := Rx.s_behind) (ps := ["signs", "at", "sign"]) KX G ?a ?l ?c ?k ?b
      (case a => k_is); (case l => k_is); (case c => k_is); (case k => k_is); (case b => exact fun _ _ _ _ _ _ us hl => match us, hl with | [_, _, _], _ => rfl)
    have D__law_cell := by
      refine' Gd.def_k (x := "_law_cell") (st := Rd.s_law_cell) (ps := ["script", "k"]) KX G ?a ?l ?c ?k ?b
      (case a => k_is); (case l => k_is); (case c => k_is); (case k => k_is); (case b => exact fun _ _ _ _ _ _ us hl => match us, hl with | [_, _], _ => rfl)
    have D__law_digits := by
      refine' Gd.def_k (x := "_law_digits") (st := Rd.s_law_digits) (ps := ["script", "first", "last"]) KX G ?a ?l ?c ?k ?b
      (case a => k_is); (case l => k_is); (case c => k_is); (case k => k_is); (case b => exact fun _ _ _ _ _ _ us hl => match us, hl with | [_, _, _], _ => rfl)
    have D__law_draw := by
      refine' Gd.def_k (x := "_law_draw") (st := Rd.s_law_draw) (ps := ["box", "many"]) KX G ?a ?l ?c ?k ?b
      (case a => k_is); (case l => k_is); (case c => k_is); (case k => k_is); (case b => exact fun _ _ _ _ _ _ us hl => match us, hl with | [_, _], _ => rfl)
    have D__law_wrong := by
      refine' Gd.def_k (x := "_law_wrong") (st := Rx.s_law_wrong) (ps := []) KX G ?a ?l ?c ?k ?b
      (case a => k_is); (case l => k_is); (case c => k_is); (case k => k_is); (case b => exact fun _ _ _ _ _ _ us hl => match us, hl with | [], _ => rfl)
    have D__law_near := by
      refine' Gd.def_k (x := "_law_near") (st := Rx.s_law_near) (ps := []) KX G ?a ?l ?c ?k ?b
      (case a => k_is); (case l => k_is); (case c => k_is); (case k => k_is); (case b => exact fun _ _ _ _ _ _ us hl => match us, hl with | [], _ => rfl)
    have D__law_calls := by
      refine' Gd.def_k (x := "_law_calls") (st := Rx.s_law_calls) (ps := ["many"]) KX G ?a ?l ?c ?k ?b
      (case a => k_is); (case l => k_is); (case c => k_is); (case k => k_is); (case b => exact fun _ _ _ _ _ _ us hl => match us, hl with | [_], _ => rfl)
    have D__law_read := by
      refine' Gd.def_k (x := "_law_read") (st := Rx.s_law_read) (ps := ["signs"]) KX G ?a ?l ?c ?k ?b
      (case a => k_is); (case l => k_is); (case c => k_is); (case k => k_is); (case b => exact fun _ _ _ _ _ _ us hl => match us, hl with | [_], _ => rfl)
    have m_isinstance := by
      refine' PySem.W.mg_none_of (n := "isinstance") KX G ?a
      (case a => k_is)
    have m_str := by
      refine' PySem.W.mg_none_of (n := "str") KX G ?a
      (case a => k_is)
    have m_tuple := by
      refine' PySem.W.mg_none_of (n := "tuple") KX G ?a
      (case a => k_is)
    have m_int := by
      refine' PySem.W.mg_none_of (n := "int") KX G ?a
      (case a => k_is)
    have m_bool := by
      refine' PySem.W.mg_none_of (n := "bool") KX G ?a
      (case a => k_is)
    have m_len := by
      refine' PySem.W.mg_none_of (n := "len") KX G ?a
      (case a => k_is)
    have m_all := by
      refine' PySem.W.mg_none_of (n := "all") KX G ?a
      (case a => k_is)
    have m_ord := by
      refine' PySem.W.mg_none_of (n := "ord") KX G ?a
      (case a => k_is)
    have m_range := by
      refine' PySem.W.mg_none_of (n := "range") KX G ?a
      (case a => k_is)
    have m_sum := by
      refine' PySem.W.mg_none_of (n := "sum") KX G ?a
      (case a => k_is)
    have m_ValueError := by
      refine' PySem.W.mg_none_of (n := "ValueError") KX G ?a
      (case a => k_is)
    have g_PERCENT := by
      refine' Gd.glob_k (x := "PERCENT") KX G ?a
      (case a => k_is)
    have g_NAME_LENGTH := by
      refine' Gd.glob_k (x := "NAME_LENGTH") KX G ?a
      (case a => k_is)
    have g_KEY_LENGTH := by
      refine' Gd.glob_k (x := "KEY_LENGTH") KX G ?a
      (case a => k_is)
    have g_TEXT_LENGTH := by
      refine' Gd.glob_k (x := "TEXT_LENGTH") KX G ?a
      (case a => k_is)
    have g_MAP_SIZE := by
      refine' Gd.glob_k (x := "MAP_SIZE") KX G ?a
      (case a => k_is)
    have g_GREATEST_INTEGER := by
      refine' Gd.glob_k (x := "GREATEST_INTEGER") KX G ?a
      (case a => k_is)
    have g_NUMBER_LENGTH := by
      refine' Gd.glob_k (x := "NUMBER_LENGTH") KX G ?a
      (case a => k_is)
    have g_MOST_CALLS := by
      refine' Gd.glob_k (x := "MOST_CALLS") KX G ?a
      (case a => k_is)
    have g_DEEPEST_CALL := by
      refine' Gd.glob_k (x := "DEEPEST_CALL") KX G ?a
      (case a => k_is)
    have g_QUOTE := by
      refine' Gd.glob_z (x := "QUOTE") (PySem.Str.ofString "\"") KX G ?a ?b
      (case a => k_is); (case b => decide +kernel)
    have g_BACKSLASH := by
      refine' Gd.glob_z (x := "BACKSLASH") (PySem.Str.ofString "\\") KX G ?a ?b
      (case a => k_is); (case b => decide +kernel)
    have g_MARKS := by
      refine' PySem.W.mg_of (n := "MARKS") KX G ?a
      (case a => k_is)
    have g_ESCAPES := by
      refine' PySem.W.mg_of (n := "ESCAPES") KX G ?a
      (case a => k_is)
    have g_LEFT := by
      refine' PySem.W.mg_of (n := "LEFT") KX G ?a
      (case a => k_is)
    have g_RIGHT := by
      refine' PySem.W.mg_of (n := "RIGHT") KX G ?a
      (case a => k_is)
    have g_COMMA := by
      refine' PySem.W.mg_of (n := "COMMA") KX G ?a
      (case a => k_is)
    have g_RESERVED := by
      refine' PySem.W.mg_of (n := "RESERVED") KX G ?a
      (case a => k_is)
    have g_ARITIES := by
      refine' PySem.W.mg_of (n := "ARITIES") KX G ?a
      (case a => k_is)
    have B := by
      refine' Rx.cls_k KX G ?gC ?cls ?rf ?sa ?exC ?tyC ?kC ?no ?iC ?tI ?lI ?cI ?kI
      (case gC => k_is); (case cls => k_is); (case rf => decide +kernel); (case sa => k_is); (case exC => k_is); (case tyC => k_is); (case kC => k_is); (case no => k_is); (case iC => k_is); (case tI => k_is); (case lI => k_is); (case cI => k_is); (case kI => k_is)
    have BN := by
      refine' Gd.badN_k (x := "BadExpression") KX G ?bn1 ?bn2 ?bn3 ?bn4 ?bn5
      (case bn1 => k_is); (case bn2 => k_exc); (case bn3 => k_is); (case bn4 => k_is); (case bn5 => k_is)
    have BC := by
      refine' Gd.catN_k (x := "BadExpression") (xV := "ViewError") KX G ?g ?gV ?sV ?hV ?tV ?cV ?ga ?gg ?sub ?hd ?ca ?sg ?tk ?mo ?vE
      (case g => k_is); (case gV => k_is); (case sV => k_is); (case hV => k_is); (case tV => k_is); (case cV => k_is); (case ga => k_is); (case gg => k_is); (case sub => k_is); (case hd => k_is); (case ca => k_is); (case sg => k_is); (case tk => k_is); (case mo => k_is); (case vE => k_is)
    have L := by
      refine' Gd.law_k (x := "law") (st := Rx.s_law) (p1 := "script") KX G hmg ?a ?l ?c ?k ?b
      (case a => k_is); (case l => k_is); (case c => k_is); (case k => k_is); (case b => exact fun _ _ _ _ _ _ s u => .of_eq rfl)
    obtain ⟨fd, Fl, bl⟩ := L
    refine' Rx.law_fin KX Fl bl ?nt C1 t1 C2 t2 C3 t3 C4 t4 B BN BC ?EK g_MARKS ?hM g_ESCAPES g_LEFT g_RIGHT g_COMMA ?hL ?hR ?hC g_RESERVED ?hRes g_ARITIES ?hAr g_QUOTE g_BACKSLASH D_is_character D_is_digit D_is_key D_is_scalar D_is_value D__is_small D__is_pair D__is_integer D__is_entry D_split_line D_scalar_of D_is_at D__read_sign D__is_of_run D__read_run D__read_quoted D__meant D__if_scalar D_read_expression D__inner_ones D__count_calls D__read D__read_call D__read_inject D__read_map D__read_entry D__sign_at D__behind D__law_cell D__law_digits D__law_draw D__law_wrong D__law_near D__law_calls D__law_read m_isinstance m_str m_tuple m_int m_bool m_len m_all m_ord m_range m_sum m_ValueError g_PERCENT g_NAME_LENGTH g_KEY_LENGTH g_TEXT_LENGTH g_MAP_SIZE g_GREATEST_INTEGER g_NUMBER_LENGTH g_MOST_CALLS g_DEEPEST_CALL
    case nt => kernel_rfl
    case EK =>
      refine' ⟨_, _, _, _, _, _, _, _, _, _, Gd.dict3_k ?dk0 ?dk1 ?dk2 ?dk3 ?dk4 ?dk5 ?dk6 ?dk7 ?dk8 ?dk9 ?dk10⟩
      (case dk0 => k_is); (case dk1 => rfl); (case dk2 => rfl); (case dk3 => rfl); (case dk4 => decide); all_goals decide +kernel
    case hM =>
      refine' Gd.strs_k ["(", ")", ",", "="] ?l ?v ?n
      (case l => k_is); (case v => decide +kernel); (case n => decide)
    case hL =>
      refine' Gd.pairs_k "mark" (Rs.sx [40]) ?lL ?vL
      (case lL => k_is); (case vL => decide +kernel)
    case hR =>
      refine' Gd.pairs_k "mark" (Rs.sx [41]) ?lR ?vR
      (case lR => k_is); (case vR => decide +kernel)
    case hC =>
      refine' Gd.pairs_k "mark" (Rs.sx [44]) ?lC ?vC
      (case lC => k_is); (case vC => decide +kernel)
    case hRes =>
      refine' Gd.strs_k (["none", "true", "false", "map", "inject", "not", "size", "reverse", "add", "sub", "lt", "eq", "and", "concat", "has", "get", "remove", "take", "put", "cond", "resource"] : List PySem.Str) ?lE ?vE ?nE
      (case lE => k_is); (case vE => decide +kernel); (case nE => decide)
    case hAr =>
      refine' Gd.ints_kd ?lA ?kA ?bA
      (case lA => k_is); (case kA => repeat' first | exact trivial | exact ⟨_, _, rfl, rfl⟩ | constructor); (case bA => kernel_rfl)
