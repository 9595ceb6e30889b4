import PyProof.Rows.All
import Wide.All
import OpenK.AllK
import Wide.FinOn
import PyProof.EqAt
import PyProof.EqKinds
import PyProof.TupleCall
import KE.KNest
import HandS.Base
import HandS.Call
import HandS.List
import HandS.Comp
import HandS.AnyAll
import HandS.GenOver
import HandS.GenList
import HandS.ForMost
import HandS.Exc
import HandS.WordsExc
import HandS.EndTab
import HandS.IsInst
import HandS.SetBool
import HandS.SetKeys
import HandS.RaiseMore
import HandS.ExcOwn
import HandS.ExcInit
import HandS.ExcField
import KE.KExcIs
import HandS.SortKw
import HandS.RevRange
import KE.KMinKey
import HandS.Style
import HandS.Text
import KE.SortData
import HandS.Walk
import PySem.Challenge.RW_remoteviews_k12_few_moves
set_option Elab.async false
set_option linter.all false
set_option maxRecDepth 100000
set_option maxHeartbeats 4000000
/-! all(e for x in it): the element any expression, its names the target's and captured ones. -/
namespace Gx
open PySem PySem.Spec PyProof.Rows L2 GxR
open Sem (wp)

/-- the around of a generator expression's code over a consumer's call -/
theorem over_gen {A : Around} {elt tg iter : Expr} {ifs : List Expr} {scope : Scope} {pos : Pos} {it acc : Value} {env : Env} :
    A.over (.compLoop (.GeneratorExp elt [⟨tg, iter, ifs, 0⟩] scope pos) 0 it acc env) [] = A.deeper env := by
  first
    | rfl
    | (obtain ⟨hd, d, fr, gs, u⟩ := A; simp [Around.over, Around.deeper, marksOver, frameCount, unitsOf, envsOf, guardsOf, pushEnvs, pushGuards, Code.envs, Code.env?, Code.isFrame, Code.guards, Code.isGuard, Code.weight, Code.frames, Code.isCreation, Code.isCaller, Code.cUnits])
theorem over_genS {A : Around} {elt tg iter : Expr} {ifs : List Expr} {scope : Scope} {pos : Pos} {it acc : Value} {env : Env} :
    A.over (.compStart (.GeneratorExp elt [⟨tg, iter, ifs, 0⟩] scope pos) 0 it acc env) [] = A.deeper env := by
  first
    | rfl
    | (obtain ⟨hd, d, fr, gs, u⟩ := A; simp [Around.over, Around.deeper, marksOver, frameCount, unitsOf, envsOf, guardsOf, pushEnvs, pushGuards, Code.envs, Code.env?, Code.isFrame, Code.guards, Code.isGuard, Code.weight, Code.frames, Code.isCreation, Code.isCaller, Code.cUnits])

/-- the context of a generator expression's block: begun at s; pn: its own object -/
abbrev gx (X : Cx) (N : List Str) (s : Shared) (H : Hp) (cenv : Env) (fp : List Addr) (pn : List (Addr × Obj)) : Cx :=
  { X with A := X.A.in1.in1.deeper cenv, N := N, s_0 := s, H_0 := H, env := cenv, outer := X.stack, stack := cenv :: X.stack, ex := fp, fn := fun _ => false, pn := pn, xe := fun _ _ => False }

/-- captured names: their places in the def's names -/
structure Caps (X : Cx) (scope : Scope) (caps : List (Str × Nat)) : Prop where
  ix : ∀ p ∈ caps, X.N[p.2]? = some p.1
  free : ∀ p ∈ caps, scope.names.lookup p.1 = some .free
  vis : ∀ p ∈ caps, X.env.scope.names.lookup p.1 = some .cell ∨ X.env.scope.names.lookup p.1 = some .free
theorem Caps.nil {X : Cx} {scope : Scope} : Caps X scope [] := ⟨fun _ h => (by cases h), fun _ h => (by cases h), fun _ h => (by cases h)⟩
def capV (σ : L2.St) (caps : List (Str × Nat)) : L2.St := caps.map fun p => (σ[p.2]?).join
def capN (caps : List (Str × Nat)) : List Str := caps.map (·.1)

section
variable {X : Cx} {pins : List (Addr × Obj)} {σ : L2.St} {H : Hp} {s : Shared}

theorem gen_start {scope : Scope} {x : Str} {code : Value} {caps : List (Str × Nat)} {fp : List Addr} {s5 : Shared} {go : Obj} {m : Str → Option Value} (I : Inv X pins σ H s) (S : GenS X.env scope x) (C : Caps X scope caps) (hd : X.A.handled = none)
    (hfp : ∀ b ∈ fp, FpOk X pins H b ∧ b < s.heap.objs.size)
    (hos : s5.os = s.os) (hba : AllBare s5.gens) (hk : ∀ b o, s.heap.get? b = some o → s5.heap.get? b = some o)
    (hn : s5.heap.Ns s.heap.objs.size m) (hgo : s5.heap.get? (s.heap.objs.size + 1) = some go) (hgc : ∀ v, go.data ≠ .cell v) :
    Inv (gx X (x :: capN caps) s H (genEnv scope (cloFrom X.env.cells scope.names []) s.heap.objs.size code builtinsNs X.env) fp [(s.heap.objs.size + 1, go)]) [] (none :: capV σ caps) H s5 := by
  have cm : ∀ {y c}, (y, c) ∈ cloFrom X.env.cells scope.names [] → X.env.cells.lookup y = some c ∧ c < s.heap.objs.size := fun {y c} hm => by
    rcases cloFrom_mem hm with hm | ⟨h1, rfl⟩
    · cases hm
    · obtain ⟨c, hc⟩ := S.free _ h1 rfl
      rw [hc]
      obtain ⟨w, z⟩ := I.cell _ _ hc
      exact ⟨rfl, z.lt⟩
  have lk : ∀ {y c}, (cloFrom X.env.cells scope.names []).lookup y = some c → X.env.cells.lookup y = some c ∧ c < s.heap.objs.size := fun {y c} e => cm (PySem.mem_of_lookup e)
  have look : ∀ {y}, scope.names.lookup y = some .free → ∃ c, (cloFrom X.env.cells scope.names []).lookup y = some c ∧ X.env.cells.lookup y = some c := fun {y} hl => by
    have hy : (y, NameKind.free) ∈ scope.names := PySem.mem_of_lookup hl
    obtain ⟨c', e'⟩ := mem_lookup (cloFrom_has (cells := X.env.cells) (acc := []) hy)
    exact ⟨c', e', (lk e').1⟩
  refine ⟨⟨I.ok.mod, S.kind, I.ok.glob, rfl, Nat.le_refl _, fun y z c e1 e2 => I.ok.inj y z c (lk e1).1 (lk e2).1, fun y hy => ?_, fun y c z => absurd z (by simp), fun _ => hd, ?_, .inr ⟨rfl, rfl⟩, fun b hb => ⟨?_, fun y c e z => ?_⟩, I.bs, Nat.le_trans I.ok.bsz I.sz, fun b o e hb => ?_, fun b hb z => ?_, I.stack, I.stkFree⟩,
    hos, hba, Un.kept hk, ⟨m, hn, fun i y v e1 e2 e3 => ?_⟩, fun y c e => ?_, ?_, fun y c e => ?_, fun p hp => ?_, I.hok.kept hk, ?_⟩
  · have hy : scope.names.lookup y = some .cell ∨ scope.names.lookup y = some .free := hy
    rcases hy with hy | hy
    · exact absurd rfl (S.cell _ (PySem.mem_of_lookup hy))
    · obtain ⟨c, e, _⟩ := look hy
      exact ⟨c, e⟩
  · exact Around.frames_deeper (A := X.A.in1.in1) (show X.A.in1.in1.frames = some X.stack from I.ok.frames)
  · show b ≠ s.heap.objs.size
    exact Nat.ne_of_lt (hfp b hb).2
  · exact (hfp b hb).1.2.2.2.2.1 y c (lk e).1 z
  · rcases (hfp b hb).1.2.2.2.1 with z | z
    · exact I.ok.noex b o e z
    · exact absurd (Nat.lt_of_lt_of_le (Heap.lt_size e) (Nat.le_trans I.ok.bsz z)) (Nat.lt_irrefl _)
  · rcases List.mem_cons.mp (I.stkSub b z) with z | z
    · exact (hfp b hb).1.2.1 z
    · exact (hfp b hb).1.2.2.1 z
  · cases i with
    | zero => cases e2
    | succ i =>
      have e1 : (capN caps)[i]? = some y := e1
      have e2 : (capV σ caps)[i]? = some (some v) := e2
      unfold capN at e1
      unfold capV at e2
      rw [List.getElem?_map] at e1 e2
      cases hp : caps[i]? with
      | none => rw [hp] at e1; cases e1
      | some p =>
        rw [hp] at e1 e2
        have ey : p.1 = y := Option.some.inj e1
        have ev : (σ[p.2]?).join = some v := Option.some.inj e2
        have hpm : p ∈ caps := List.mem_of_getElem? hp
        have ev2 : σ[p.2]? = some (some v) := by
          cases q : σ[p.2]? with
          | none => rw [q] at ev; cases ev
          | some w => rw [q] at ev; rw [show w = some v from ev]
        obtain ⟨m0, hn0, hl0⟩ := I.loc
        have hv := C.vis p hpm
        obtain ⟨u, r, l⟩ := hl0 p.2 p.1 v (C.ix p hpm) ev2 (.inr hv)
        subst ey
        refine ⟨u, r, .inr ⟨.inr (C.free p hpm), ?_⟩⟩
        obtain ⟨c, h1, h2⟩ := look (C.free p hpm)
        rcases l with ⟨k, _⟩ | ⟨_, c', e', z⟩
        · have k : X.env.scope.names.lookup p.1 = some .local := k
          rcases hv with k' | k' <;> rw [k'] at k <;> cases k
        · rw [h2] at e'; cases e'
          exact ⟨c, h1, z.keeps hk⟩
  · obtain ⟨w, z⟩ := I.cell y c (lk e).1
    exact ⟨w, z.keeps hk⟩
  · exact I.hok.fresh (Nat.le_refl _)
  · exact I.freeC y c (lk e).1
  · have hp : p ∈ [(s.heap.objs.size + 1, go)] ++ [] := hp
    rw [List.append_nil] at hp
    rw [List.mem_singleton.mp hp]
    exact ⟨hgo, I.hok.fresh (Nat.le_succ _), (Nat.succ_ne_self _), fun hb => by
      rcases List.mem_cons.mp (I.stkSub _ hb) with z | z
      · have h1 := I.lt
        have z' : s.heap.objs.size + 1 = X.env.locals := z
        rw [← z'] at h1
        exact absurd (Nat.lt_of_succ_lt h1) (Nat.lt_irrefl _)
      · exact I.nofs (Nat.le_succ _) z, hgc⟩
  · show (none :: capV σ caps).length = (x :: capN caps).length
    unfold capV capN
    simp
end

/-- woken again: only the generators' table turned -/
structure Woke (s s' : Shared) : Prop where
  heap : s'.heap = s.heap
  os : s'.os = s.os
  bare : AllBare s'.gens
theorem inv_woke {X : Cx} {pins : List (Addr × Obj)} {σ : L2.St} {H : Hp} {s s' : Shared} (I : Inv X pins σ H s) (z : Woke s s') : Inv X pins σ H s' :=
  I.call' (ch := []) z.os (by rw [z.heap]; exact Un.refl) (by rw [z.heap]; exact I.hok) z.bare fun b hb => by simp at hb

section
variable {X : Cx} {N : List Str} {s4 : Shared} {H4 : Hp} {cenv : Env} {fp : List Addr} {pn : List (Addr × Obj)} {J : It} {tn : Nat → Heap → Prop} {σ0 : L2.St} {W : Nat → Nat → Hp → Prop} {Ft Ff : Hp → Prop}

/-- asleep at turn i -/
def At (GX : Cx) (fp : List Addr) (tn : Nat → Heap → Prop) (σ0 : L2.St) (W : Nat → Nat → Hp → Prop) (n : Nat) (s : Shared) : Prop :=
  ∃ i m H, Inv GX [] σ0 H s ∧ tn i s.heap ∧ (∀ b ∈ fp, H b = none) ∧ W i m H ∧ m < n
/-- it has handed out v -/
def Yp (GX : Cx) (fp : List Addr) (tn : Nat → Heap → Prop) (σ0 : L2.St) (W : Nat → Nat → Hp → Prop) (Ff : Hp → Prop) : Protocol := fun n s₀ v s kap =>
  ∃ c, v = .bool c ∧ ((c = true ∧ At GX fp tn σ0 W n s ∧ ∀ s', Woke s s' → kap (.send .none) s') ∨ (c = false ∧ ∃ σ H, Inv GX [] σ H s ∧ Ff H))
def Ep (GX : Cx) (Ft : Hp → Prop) : GenEnd := fun n s₀ r s => r = .ok .next ∧ ∃ σ H, Inv GX [] σ H s ∧ Ft H

theorem stat_of {GX : Cx} {σ' : L2.St} {H' : Hp} {s' : Shared} (hex : GX.ex = fp) (hpn : ∀ p ∈ GX.pn, ∀ b ∈ fp, p.1 ≠ b) (I' : Inv GX [] σ' H' s') (hn : ∀ b ∈ fp, H' b = none) : ∀ b ∈ fp, FpOk GX [] H' b := fun b hb => by
  have hb' : b ∈ GX.ex := by rw [hex]; exact hb
  exact ⟨hn b hb, (I'.ok.exf b hb').1, I'.ok.exfs b hb', .inl hb', fun x c e => (I'.ok.exf b hb').2 x c e, fun p hp => hpn p (by rw [List.append_nil] at hp; exact hp) b hb⟩

theorem seg_loop {A : Around} {P : Program} {w : World} {K : PySem.W.Frag} {elt tg iter : Expr} {scope : Scope} {pos : Pos} {it : Addr} {GX : Cx} {g : TG} {te : TE}
    (hP : GX.prog = P) (hw : GX.w = w) (hK : GX.K = K) (hA : GX.A = A.deeper GX.env) (hcalm : GX.calm = true) (hxe : GX.xe = fun _ _ => False) (hex : GX.ex = fp) (hpn : ∀ p ∈ GX.pn, ∀ b ∈ fp, p.1 ≠ b) (hco : GX.env.scope.isCoroutine = false)
    (T : Turn P w K tg J fp it tn) (pg : PG GX tg g) (pe : PE GX elt te)
    (turn : ∀ i m H, W i m H → (J.stop i H ∧ Ft H) ∨ (J.go i H ∧ ∃ Nx : Hp → Prop, (∀ H', Nx H' → ∃ m', m' < m ∧ W (i + 1) m' H') ∧ ∀ x H', J.yld i H x H' → g x σ0 H' fun σ2 H3 => (∀ (j : Nat) v, σ0[j]? = some (some v) → σ2[j]? = some (some v)) ∧ te σ2 H3 fun y H5 => ∃ c, y = .bl c ∧ if c = true then Nx H5 else Ff H5)) :
    ∀ (n : Nat) (s₀ s : Shared), At GX fp tn σ0 W n s →
      Seg (model P w) A (Ep GX Ft) (Yp GX fp tn σ0 W Ff) n s₀ (.compLoop (.GeneratorExp elt [⟨tg, iter, [], 0⟩] scope pos) 0 (.ref it) .none GX.env)
        ((model P w).den (.compLoop (.GeneratorExp elt [⟨tg, iter, [], 0⟩] scope pos) 0 (.ref it) .none GX.env)) [] s := by
  subst hP hw hK
  have hAo : A.over (.compLoop (.GeneratorExp elt [⟨tg, iter, [], 0⟩] scope pos) 0 (.ref it) .none GX.env) [] = GX.A := over_gen.trans hA.symm
  have noE : ∀ {x : Value} {s' : Shared}, GX.xe x s' → False := fun {x s'} h => by rw [hxe] at h; exact h
  intro n
  induction n with
  | zero =>
    intro s₀ s h
    obtain ⟨i, m, H, _, _, _, _, hm⟩ := h
    exact absurd hm (Nat.not_lt_zero _)
  | succ n ih =>
    intro s₀ s h
    obtain ⟨i, m, H, I, st, nf, wi, hm⟩ := h
    show Seg _ A _ _ _ s₀ _ ((compTurn (.GeneratorExp elt [⟨tg, iter, [], 0⟩] scope pos) 0 (.ref it) .none GX.env).onRaise (leaving GX.env)) [] s
    rw [compTurn_gen, Sem.onRaise_eq_wrap]
    refine seg_bind_wrap (wpAny_standAt ?_)
    rcases turn i m H wi with ⟨stop, ft⟩ | ⟨go, Nx, hNx, step⟩
    · refine seg_bind_wrap ?_
      rw [hAo]
      refine thnF (T.done GX rfl rfl rfl hcalm i [] s _ H (fun _ _ => False) I (stat_of hex hpn I nf) st stop) fun r s1 ⟨hr, I1⟩ => ?_
      subst hr
      exact seg_end (.ok .next) ⟨rfl, _, H, I1, ft⟩
    · refine seg_bind_wrap ?_
      rw [hAo]
      refine thnF (T.item GX rfl rfl rfl hcalm i [] s _ H (fun _ _ => False) I (stat_of hex hpn I nf) st go) fun r s1 ⟨u, hr, h1⟩ => ?_
      subst hr
      refine seg_bind_wrap ?_
      rw [hAo]
      refine thnF h1 fun _ s2 ⟨x, H2, I2, r2, y2, st2, n2⟩ => ?_
      have I2' := I2.pinned (stat_of hex hpn I2 n2) (T.obj _ _ st2)
      refine seg_bind_wrap ?_
      rw [hAo]
      refine wpAny_mono (pg.run _ s2 _ H2 x u _ I2' r2 (step x H2 y2)) (fun _ s3 ⟨σ3, H3, I3, hl3, q3⟩ => ?_) fun _ _ hx => (noE hx).elim
      refine seg_bind_wrap (wpAny_tests_nil ?_)
      simp only [if_true]
      have hy : ∀ v, yieldOut GX.env v = yieldValue v := fun v => by simp only [yieldOut, hco, Bool.false_eq_true, if_false]
      simp only [hy]
      rw [Sem.bind_eq_wrap', Sem.bind_eq_wrap', Sem.wrap_wrap, Sem.wrap_wrap]
      refine seg_wrap ?_
      rw [hAo]
      refine wpAny_mono (pe.run _ s3 σ3 H3 _ I3 q3) (fun y s5 ⟨yv, H5, I5, r5, c, ey, q5⟩ => ?_) fun _ _ hx => (noE hx).elim
      subst ey
      have ev : y = Value.bool c := r5
      subst ev
      have pin' : ∀ b ∈ fp, ∀ o, s2.heap.get? b = some o → s5.heap.get? b = some o ∧ H5 b = none := fun b hb o e =>
        let z := I5.pin (b, o) (List.mem_append_right _ (List.mem_append_right _ (mem_pinsAt hb e)))
        ⟨z.1, z.2.1⟩
      have I6 : Inv GX [] σ0 H5 s5 := (I5.unpinned (pins := [])).weak (by rw [I.len, I5.len]) hl3
      have st6 : tn (i + 1) s5.heap := T.keep _ _ _ st2 fun b hb o e => (pin' b hb o e).1
      have n6 : ∀ b ∈ fp, H5 b = none := fun b hb => by
        obtain ⟨o, e, _⟩ := T.obj _ _ st2 b hb
        exact (pin' b hb o e).2
      refine seg_at (seg_yield rfl rfl rfl ⟨c, rfl, ?_⟩)
      cases c with
      | true =>
        obtain ⟨m', hm', w'⟩ := hNx H5 q5
        refine .inl ⟨rfl, ⟨i + 1, m', H5, I6, st6, n6, w', by omega⟩, fun s' z => ?_⟩
        exact seg_again rfl (ih s' s' ⟨i + 1, m', H5, inv_woke I6 z, by rw [z.heap]; exact st6, n6, w', by omega⟩)
      | false => exact .inr ⟨rfl, _, H5, I6, q5⟩
theorem seg_begin {A : Around} {P : Program} {w : World} {K : PySem.W.Frag} {elt tg iter : Expr} {scope : Scope} {pos : Pos} {it : Addr} {GX : Cx} {n : Nat} {s₀ s : Shared} {R : GenEnd} {Y : Protocol} {i : Nat}
    (T : Turn P w K tg J fp it tn) (st : tn i s.heap)
    (loop : Seg (model P w) A R Y n s₀ (.compLoop (.GeneratorExp elt [⟨tg, iter, [], 0⟩] scope pos) 0 (.ref it) .none GX.env) ((model P w).den (.compLoop (.GeneratorExp elt [⟨tg, iter, [], 0⟩] scope pos) 0 (.ref it) .none GX.env)) [] s) :
      Seg (model P w) A R Y n s₀ (.compStart (.GeneratorExp elt [⟨tg, iter, [], 0⟩] scope pos) 0 (.ref it) .none GX.env)
        ((model P w).den (.compStart (.GeneratorExp elt [⟨tg, iter, [], 0⟩] scope pos) 0 (.ref it) .none GX.env)) [] s := by
  show Seg _ A _ _ _ s₀ _ ((compStart (.GeneratorExp elt [⟨tg, iter, [], 0⟩] scope pos) 0 (.ref it) .none GX.env).onRaise (leaving GX.env)) [] s
  unfold compStart
  rw [Sem.onRaise_eq_wrap]
  show Seg _ A _ _ _ s₀ _ ((ask >>= _).wrap _ _ _ _) [] s
  refine seg_bind_wrap (wpAny_askSetting ?_)
  split
  · exact seg_again rfl loop
  · first
      | exact seg_bind_wrap (wpAny_rule (seg_bind_wrap (wpAny_standAt (seg_bind_wrap (T.self _ i s _ _ st (seg_again rfl loop))))))
      | (refine seg_bind_wrap (wpAny_rule ?_); show Seg _ A _ _ _ s₀ _ ((standAt iter.pos >>= _).wrap _ _ _ _) [] s; exact seg_bind_wrap (wpAny_standAt (seg_bind_wrap (T.self _ i s _ _ st (seg_again rfl loop)))))

theorem all_loop {A : Around} {P : Program} {w : World} {GX : Cx} {a : Addr} {g : Nat} {go : Obj} {R : Result → Shared → Prop}
    (hh : A.handled = none) (hd : A.depth < recursionLimit) (hgo : ∀ h : Heap, h.get? a = some go → h.IsGen a g) (hpn : (a, go) ∈ GX.pn)
    (hT : ∀ σ H s', Inv GX [] σ H s' → Ft H → R (.ok (.ret (.bool true))) s') (hF : ∀ σ H s', Inv GX [] σ H s' → Ff H → R (.ok (.ret (.bool false))) s') :
    ∀ (n : Nat) (s : Shared), s.heap.IsGen a g → s.heap.NoLimit →
      (∃ gs, s.gens[g]? = some gs ∧ gs.Goes (model P w) A.in1.in1 (Ep GX Ft) (Yp GX fp tn σ0 W Ff) n (.send .none) (s.setGen g .running)) →
      codeAny (model P w) A (.builtin "all.loop" ⟨[.ref a], []⟩) R s := by
  have goes : ∀ {gs : GenState} {B : Around} {n : Nat} {r : Resume} {s : Shared}, gs.Goes (model P w) B (Ep GX Ft) (Yp GX fp tn σ0 W Ff) n r s →
      gs.Goes (model P w) B (fun n s₀ r s₁ => r = .ok .next ∧ (fun (_ : Nat) (_ : Shared) s₁ => ∃ σ H, Inv GX [] σ H s₁ ∧ Ft H) n s₀ s₁) (Yp GX fp tn σ0 W Ff) n r s := fun h => h
  have pinned : ∀ {σ H s'}, Inv GX [] σ H s' → s'.heap.IsGen a g := fun {σ H s'} J => hgo _ (J.pin (a, go) (List.mem_append_left _ hpn)).1
  intro n
  induction n with
  | zero =>
    intro s hg hl ⟨gs, hgs, hgo'⟩
    refine codeAny_builtin F.entry_all_loop ?_
    rw [Around.under_plainId F.plain_all_loop _]
    show wpAny _ A.in1 (pyNext (.ref a) >>= _) _ _ s
    refine wpAny_bind (wpAny_pyNext_genexpQ (A := A.in1) hh hl hd hg hgs (goes hgo') (fun v s₁ gs' hbare hv => ?_) (fun s₁ hp h' hk => ?_))
    · obtain ⟨c, rfl, h⟩ := hv
      refine wpAny_bind (wpAny_holding (wpAny_truthy_bool ?_))
      refine wpAny_bind (wpAny_letGo ?_)
      rcases h with ⟨rfl, _, hk⟩ | ⟨rfl, σ, H, I, ff⟩
      · exact False.elim (hk s₁ ⟨rfl, rfl, (by
          obtain ⟨_, _, _, I1, _⟩ := ‹At _ _ _ _ _ _ _›
          exact I1.bare)⟩)
      · simp only [Bool.false_eq_true, if_false]
        refine wpAny_bind (wpAny_rule (wpAny_pure ?_))
        exact hF σ H _ (inv_woke I ⟨rfl, rfl, allBare_setGen I.bare hbare⟩) ff
    · obtain ⟨σ, H, I, ft⟩ := hp
      refine wpAny_bind (wpAny_rule (wpAny_pure ?_))
      have I2 : Inv GX [] σ H (s₁.setGen g .finished) := inv_woke I ⟨rfl, rfl, allBare_setGen I.bare rfl⟩
      exact hT σ H _ (I2.call' (ch := []) rfl (Un.kept hk) (I2.hok.kept hk) I2.bare fun b hb => by simp at hb) ft
  | succ n ih =>
    intro s hg hl ⟨gs, hgs, hgo'⟩
    have hgl : g < s.gens.size := (Array.getElem?_eq_some_iff.mp hgs).1
    refine codeAny_builtin F.entry_all_loop ?_
    rw [Around.under_plainId F.plain_all_loop _]
    show wpAny _ A.in1 (pyNext (.ref a) >>= _) _ _ s
    refine wpAny_bind (GenW.wpAny_gsz (n := g + 1) hgl (wpAny_pyNext_genexpQ (A := A.in1) hh hl hd hg hgs (goes hgo') (fun v s₁ gs' hbare hv => ?_) (fun s₁ hp h' hk => ?_)))
    · intro hsz
      obtain ⟨c, rfl, h⟩ := hv
      refine wpAny_bind (wpAny_holding (wpAny_truthy_bool ?_))
      refine wpAny_bind (wpAny_letGo ?_)
      rcases h with ⟨rfl, hat, hk⟩ | ⟨rfl, σ, H, I, ff⟩
      · simp only [if_true]
        obtain ⟨_, _, _, I1, _⟩ := id hat
        have hsz1 : g < s₁.gens.size := by
          have q : (s₁.setGen g gs').gens.size = s₁.gens.size := GenW.setGen_size _ _ _
          have hsz' : g + 1 ≤ (s₁.setGen g gs').gens.size := hsz
          omega
        refine wpAny_pure ⟨plainId_quiet F.plain_all_loop _, ih (s₁.setGen g gs') (show s₁.heap.IsGen a g from pinned I1) (show s₁.heap.NoLimit from I1.nolimit) ⟨gs', setGen_at hsz1, ?_⟩⟩
        exact hk _ ⟨rfl, rfl, allBare_setGen (allBare_setGen I1.bare hbare) rfl⟩
      · simp only [Bool.false_eq_true, if_false]
        refine wpAny_bind (wpAny_rule (wpAny_pure ?_))
        exact hF σ H _ (inv_woke I ⟨rfl, rfl, allBare_setGen I.bare hbare⟩) ff
    · intro _
      obtain ⟨σ, H, I, ft⟩ := hp
      refine wpAny_bind (wpAny_rule (wpAny_pure ?_))
      have I2 : Inv GX [] σ H (s₁.setGen g .finished) := inv_woke I ⟨rfl, rfl, allBare_setGen I.bare rfl⟩
      exact hT σ H _ (I2.call' (ch := []) rfl (Un.kept hk) (I2.hok.kept hk) I2.bare fun b hb => by simp at hb) ft
end

/-- all(elt for tg in iter), its element True or False; behind it the def's table may have grown.
W by the turn and a measure; a turn that gives False ends it -/
def tAllG (P : Addr) (wi : TI) (g : TG) (te : TE) (caps : List (Str × Nat)) : TE := fun σ H Q => wi σ H fun J H1 => TabG H1 P ∧ ∀ H2, Tabbed P H1 H2 →
  ∃ W : Nat → Nat → Hp → Prop, (∃ m, W 0 m H2) ∧ ∀ i m H, W i m H → (J.stop i H ∧ Q (.bl true) H) ∨
    (J.go i H ∧ ∃ Nx : Hp → Prop, (∀ H', Nx H' → ∃ m', m' < m ∧ W (i + 1) m' H') ∧ ∀ x H', J.yld i H x H' → g x (none :: capV σ caps) H' fun σ2 H3 =>
      (∀ (j : Nat) v, (none :: capV σ caps : L2.St)[j]? = some (some v) → σ2[j]? = some (some v)) ∧ te σ2 H3 fun y H5 => ∃ c, y = .bl c ∧ if c = true then Nx H5 else Q (.bl false) H5)

theorem pe_allG {X : Cx} {c P : Addr} {elt tg iter : Expr} {x : Str} {p pos gpos : Pos} {scope : Scope} {wi : TI} {g : TG} {te : TE} {k : Nat} {caps : List (Str × Nat)}
    (hr : Room (k + 1) X.A) (hg : Gl X "all") (hm : X.mg "all" = none) (TB : TabB X.base X.mg c P) (hcode : X.env.code = .ref c) (S : GenS X.env scope x) (C : Caps X scope caps) (hi : PI X tg iter wi) (hcalm : X.calm = true)
    (pg : ∀ (s : Shared) (H : Hp) (a : Addr) (code : Value) (fp : List Addr) (pn : List (Addr × Obj)), PG (gx X (x :: capN caps) s H (genEnv scope (cloFrom X.env.cells scope.names []) a code builtinsNs X.env) fp pn) tg g)
    (pe : ∀ (s : Shared) (H : Hp) (a : Addr) (code : Value) (fp : List Addr) (pn : List (Addr × Obj)), Room k (gx X (x :: capN caps) s H (genEnv scope (cloFrom X.env.cells scope.names []) a code builtinsNs X.env) fp pn).A → PE (gx X (x :: capN caps) s H (genEnv scope (cloFrom X.env.cells scope.names []) a code builtinsNs X.env) fp pn) elt te)
    (hb : bootBuiltins "all" = some (.builtin "all") := by decide +kernel)
    (hs : ∀ v, genFold iter X.env v = pure v := by intro _; rfl)
    (he : starEach [.GeneratorExp elt [⟨tg, iter, [], 0⟩] scope gpos] X.env = (false, eval (.GeneratorExp elt [⟨tg, iter, [], 0⟩] scope gpos) X.env) :: starEach [] X.env := by rfl) :
    PE X (.Call (.Name "all" p) [.GeneratorExp elt [⟨tg, iter, [], 0⟩] scope gpos] [] pos) (tAllG P wi g te caps) := by
  refine ⟨fun pins s σ H Q I h => ?_⟩
  refine wpAny_Call_Name_kw (ld_blt I hg hm hb ?_)
  refine PyProof.Rows.callWith_builtin1 ?_ he (by rfl)
  rw [he]
  show wpAny _ _ (spliced ((false, eval (.GeneratorExp elt [⟨tg, iter, [], 0⟩] scope gpos) X.env) :: backTo pos (starEach [] X.env))) _ _ s
  refine Calls.spliced_cons ?_
  refine wpAny_mono (Q := fun v s5 => wpAny (model X.prog X.w) X.A (call (.builtin "all") [v]) (EP X pins σ Q) X.xe s5) ?_ (fun v s5 hq => Calls.spliced_nil hq) fun _ _ h => h
  refine wpAny_GeneratorExp_make S.co (closure_ok S.free) S.cell S.dot S.kind (by have := hr.dp; omega) ?_ hs
  refine thn (hi.run pins s σ H _ I h) fun xv s1 h1 => thn h1 fun itv s2 h2 => ?_
  obtain ⟨it, fp, tn, J, H2, ei, I2, T, st2, f2, ⟨ps, hP, ht⟩, q⟩ := h2
  subst ei
  refine ⟨I2.nolimit, ?_⟩
  have hPs : s2.heap.get? P = some { cls := .none, data := .fields ps } := I2.hok P _ hP
  have hPlt : P < s2.heap.objs.size := Heap.lt_size hPs
  have cd : PySem.W.CodeHd s2.heap c P := TB.code.keeps fun b u e => I2.bk b u e
  have lim2 : s2.heap.NoLimit := I2.nolimit
  have fpP : ∀ b ∈ fp, b ≠ P := fun b hb z => by
    have q := (f2 b hb).1
    rw [z, hP] at q
    cases q
  have cont : ∀ (code : Value) (h3 : Heap) (tk : Nat) (ps' : Array Value), Heap.ExtBut P s2.heap h3 → s2.heap.objs.size ≤ h3.objs.size → h3.get? P = some { cls := .none, data := .fields ps' } → (∃ more, ps' = ps ++ more) → TriplesOk ps'.toList →
      wpAny (model X.prog X.w) X.A (builtinsFor X.env.globals X.env.builtins) (fun bi s₄ =>
        ∀ h', h'.Ns s₄.heap.objs.size (fun y => if y = ".0" then some (.ref it) else none) → Heap.SameBut s₄.heap.objs.size (s₄.heap.push { cls := .type "frame", data := .dict #[] }) h' →
          wpAny (model X.prog X.w) X.A (call (.builtin "all") [.ref h'.objs.size]) (EP X pins σ Q) X.xe { s₄ with
            gens := s₄.gens.push (.fresh (.compStart (.GeneratorExp elt [⟨tg, iter, [], 0⟩] scope gpos) 0 (.ref it) .none (genEnv scope (cloFrom X.env.cells scope.names []) s₄.heap.objs.size code bi X.env))),
            toks := s₄.toks + 1 + 1 + 1,
            heap := h'.push { cls := .type "generator", data := .fields #[.int s₄.gens.size 0, .str "<genexpr>" (s₄.toks + 1), .str (X.env.qual ++ "<genexpr>") (s₄.toks + 1 + 1)] } }) X.xe { s2 with heap := h3, toks := tk } := by
    intro code h3 tk ps' hx hsz hP3 hmore ht3
    obtain ⟨bm, ob, e1, e2, e3, e4, e5, e6, e7, e8⟩ := TB.bm
    obtain ⟨more, em⟩ := hmore
    have keep3 : ∀ b u, b ≠ P → s2.heap.get? b = some u → h3.get? b = some u := fun b u hb e => hx b u hb e
    refine wpAny_builtinsFor (m := X.mg) (by rw [I2.ok.glob]; exact (I2.mod.glob.keeps I2.bk).extBut hx TB.gP) e1 e2 (keep3 _ _ e4 (I2.bk _ _ e5)) e6 e7 e8 ?_
    have I4 : Inv X pins σ (upd H2 P (.tbl (ps ++ more))) { s2 with heap := h3, toks := tk } := inv_tab (g' := s2.gens) (d' := s2.drawn) I2 hP keep3 (by rw [← em]; exact hP3) I2.bare
    obtain ⟨W, ⟨m0, w0⟩, turn⟩ := q (upd H2 P (.tbl (ps ++ more))) ⟨⟨ps ++ more, upd_same, by rw [← em]; exact ht3⟩, fun b hb => upd_ne hb⟩
    generalize hs4 : ({ s2 with heap := h3, toks := tk } : Shared) = s4 at I4 ⊢
    have g4 : s4.gens = s2.gens := by rw [← hs4]
    have hh4 : s4.heap = h3 := by rw [← hs4]
    intro h' hn' hs'
    have hz' : h'.objs.size = s4.heap.objs.size + 1 := by rw [hs'.1, Heap.size_push]
    generalize hgo : ({ cls := .type "generator", data := .fields #[.int s4.gens.size 0, .str "<genexpr>" (s4.toks + 1), .str (X.env.qual ++ "<genexpr>") (s4.toks + 1 + 1)] } : Obj) = go
    have isG : ∀ h : Heap, h.get? h'.objs.size = some go → h.IsGen h'.objs.size s4.gens.size := fun h e => ⟨go, _, _, e, by rw [← hgo], by rw [← hgo], by rw [← hgo]⟩
    have keep' : ∀ b o, s4.heap.get? b = some o → h'.get? b = some o := fun b o e => hs'.extBut b o (Nat.ne_of_lt (Heap.lt_size e)) (Heap.get?_push_of_some _ e)
    have keep5 : ∀ b o, s4.heap.get? b = some o → (h'.push go).get? b = some o := fun b o e => Heap.get?_push_of_some _ (keep' b o e)
    have hpush : (h'.push go).get? h'.objs.size = some go := by
      rw [← hgo]
      exact Heap.get?_push_size _ rfl
    generalize hs5 : ({ s4 with gens := s4.gens.push (.fresh (.compStart (.GeneratorExp elt [⟨tg, iter, [], 0⟩] scope gpos) 0 (.ref it) .none (genEnv scope (cloFrom X.env.cells scope.names []) s4.heap.objs.size code builtinsNs X.env))), toks := s4.toks + 1 + 1 + 1, heap := h'.push go } : Shared) = s5
    have h5h : s5.heap = h'.push go := by rw [← hs5]
    have h5g : s5.gens = s4.gens.push (.fresh (.compStart (.GeneratorExp elt [⟨tg, iter, [], 0⟩] scope gpos) 0 (.ref it) .none (genEnv scope (cloFrom X.env.cells scope.names []) s4.heap.objs.size code builtinsNs X.env))) := by rw [← hs5]
    have b5 : AllBare s5.gens := by rw [h5g]; exact AllBare.push I4.bare rfl
    have f4 : ∀ b ∈ fp, FpOk X pins (upd H2 P (.tbl (ps ++ more))) b ∧ b < s4.heap.objs.size := fun b hb => by
      refine ⟨⟨?_, (f2 b hb).2⟩, ?_⟩
      · rw [upd_ne (fpP b hb)]
        exact (f2 b hb).1
      · obtain ⟨o, e, _⟩ := T.obj _ _ st2 b hb
        rw [hh4]
        exact Nat.lt_of_lt_of_le (Heap.lt_size e) hsz
    have I5 := gen_start (s5 := s5) (go := go) (code := code) (fp := fp) I4 S C hr.hd f4 (by rw [← hs5]) b5 (by rw [h5h]; exact keep5) (by rw [h5h]; exact hn'.push _) (by rw [h5h, ← hz']; exact hpush) (fun v z => by rw [← hgo] at z; cases z)
    have st5 : tn 0 s5.heap := T.keep _ _ _ st2 fun b hb o e => by
      rw [h5h]
      exact keep5 b o (by rw [hh4]; exact keep3 b o (fpP b hb) e)
    have n5 : ∀ b ∈ fp, upd H2 P (.tbl (ps ++ more)) b = none := fun b hb => (f4 b hb).1.1
    have hpn : ∀ p ∈ [(s4.heap.objs.size + 1, go)], ∀ b ∈ fp, p.1 ≠ b := fun p hp b hb z => by
      rw [List.mem_singleton.mp hp] at z
      have := (f4 b hb).2
      have z' : s4.heap.objs.size + 1 = b := z
      rw [← z'] at this
      exact absurd (Nat.lt_of_succ_lt this) (Nat.lt_irrefl _)
    rw [hz'] at isG hpush ⊢
    have back : ∀ {σ' : L2.St} {H' : Hp} {s' : Shared}, Inv (gx X (x :: capN caps) s4 (upd H2 P (.tbl (ps ++ more))) (genEnv scope (cloFrom X.env.cells scope.names []) s4.heap.objs.size code builtinsNs X.env) fp [(s4.heap.objs.size + 1, go)]) [] σ' H' s' → Inv X pins σ H' s' := fun {σ' H' s'} J =>
      I4.call' (ch := fp) J.os J.base J.hok J.bare fun b hb => ⟨(f4 b hb).1.2.2.2.1, (f4 b hb).1.2.1, (f4 b hb).1.2.2.2.2.1, (f4 b hb).1.2.2.2.2.2⟩
    have rmk : Room k (X.A.in1.in1.deeper (genEnv scope (cloFrom X.env.cells scope.names []) s4.heap.objs.size code builtinsNs X.env)) := ⟨hr.hd, by have := hr.dp; show X.A.depth + 1 + 3 * k + 5 < _; omega, by have := hr.un; show X.A.units + 1 + 1 + 3 + 16 * k + 200 < _; omega⟩
    have hg5 : s5.heap.IsGen (s4.heap.objs.size + 1) s4.gens.size := isG _ (by rw [h5h]; exact hpush)
    refine call_function_tree F.kind_all F.plain_all F.entry_all (F.args_all1 _) ?_
    unfold Builtin.«all»
    refine wpAny_bind (m := oneArg "all" _) (wpAny_pure ?_)
    refine wpAny_bind (wpAny_pyIter_gen hg5 ?_)
    refine wpAny_pure ⟨plainId_quiet F.plain_all_loop _, ?_⟩
    refine all_loop (GX := gx X (x :: capN caps) s4 (upd H2 P (.tbl (ps ++ more))) (genEnv scope (cloFrom X.env.cells scope.names []) s4.heap.objs.size code builtinsNs X.env) fp [(s4.heap.objs.size + 1, go)]) (fp := fp) (tn := tn) (σ0 := none :: capV σ caps) (W := W) (Ft := fun H' => Q (.bl true) H') (Ff := fun H' => Q (.bl false) H')
      (go := go) hr.hd (by have := hr.dp; omega) isG (List.mem_singleton.mpr rfl) (fun σ' H' s' J ft => ?_) (fun σ' H' s' J ff => ?_) (m0 + 1) s5 hg5 I5.nolimit ⟨.fresh (.compStart (.GeneratorExp elt [⟨tg, iter, [], 0⟩] scope gpos) 0 (.ref it) .none (genEnv scope (cloFrom X.env.cells scope.names []) s4.heap.objs.size code builtinsNs X.env)), by rw [h5g]; exact Array.getElem?_push_size .., ⟨rfl, ?_⟩⟩
    · exact ⟨.bl true, H', back J, rfl, ft⟩
    · exact ⟨.bl false, H', back J, rfl, ff⟩
    · have I5' : Inv (gx X (x :: capN caps) s4 (upd H2 P (.tbl (ps ++ more))) (genEnv scope (cloFrom X.env.cells scope.names []) s4.heap.objs.size code builtinsNs X.env) fp [(s4.heap.objs.size + 1, go)]) [] (none :: capV σ caps) (upd H2 P (.tbl (ps ++ more))) (s5.setGen s4.gens.size .running) := inv_woke I5 ⟨rfl, rfl, allBare_setGen b5 rfl⟩
      refine seg_begin (GX := gx X (x :: capN caps) s4 (upd H2 P (.tbl (ps ++ more))) (genEnv scope (cloFrom X.env.cells scope.names []) s4.heap.objs.size code builtinsNs X.env) fp [(s4.heap.objs.size + 1, go)]) T (i := 0) st5 ?_
      refine seg_loop (A := X.A.in1.in1) (GX := gx X (x :: capN caps) s4 (upd H2 P (.tbl (ps ++ more))) (genEnv scope (cloFrom X.env.cells scope.names []) s4.heap.objs.size code builtinsNs X.env) fp [(s4.heap.objs.size + 1, go)]) rfl rfl rfl rfl hcalm rfl rfl hpn S.co T (pg s4 _ _ code fp _) (pe s4 _ _ code fp _ rmk) turn (m0 + 1) _ _ ⟨0, m0, _, I5', st5, n5, w0, Nat.lt_succ_self _⟩
  cases hf : codeAmong gpos ps.toList with
  | none =>
    refine wpAny_genexprCodeX hcode (cd.code hPs ht) (cd.tab hPs) hf fun c' h' tk hx hge hlt hco' _ htab' _ => ?_
    obtain ⟨o1, vs, f1, tf, fl, tg', inF, tx, tt, op, _, _, _, _, _, _, _, _, _, htr, _⟩ := hco'
    exact cont _ h' tk _ hx (Nat.le_trans hge (Nat.le_of_lt hlt)) htab'.2 ⟨_, rfl⟩ htr
  | some cv =>
    refine wpAny_genexprCode_hit hcode (cd.code hPs ht) hf ?_
    exact cont cv s2.heap s2.toks ps (Heap.ExtBut.refl _ _) (Nat.le_refl _) hPs ⟨#[], by simp⟩ ht
end Gx

/-! Promises of defs that are called where no repr is under way: room and no guards. -/
namespace Gd
open PySem PySem.Spec PyProof.Rows L2 GxR Gx

structure RoomG (k : Nat) (A : Around) : Prop where
  r : Room k A
  g : A.guards = some []
theorem RoomG.mono {j k : Nat} {A : Around} (r : RoomG k A) (h : j ≤ k) : RoomG j A := ⟨r.r.mono h, r.g⟩
theorem RoomG.deeper {k : Nat} {A : Around} (r : RoomG (k + 1) A) (env : Env) : RoomG k (A.deeper env) := ⟨r.r.deeper env, r.g⟩

/-- a def's promise, kept wherever no guard is up -/
structure FnG (P : Program) (w : World) (K : PySem.W.Frag) (mg : Str → Option Value) (base : Heap) (CX : CXT) (k : Nat) (f : Addr) (fd : FuncData) (ps : List Str) (sp : Sp) : Prop where
  len : ∀ vs H Q E, sp vs H Q E → vs.length = ps.length
  run : ∀ (A : Around) (outer : List Env) (s : Shared) (H : Hp) (args : Args) (us : List Value) (vs : List V) (Q : VK) (E : XK), RoomG k A → Env0 P w K mg base A outer s H → BindsTo s fd args (ps.zip us) → Vals vs us → sp vs H Q E →
    codeAny (model P w) A (.call (.ref f) args) (CR CX outer P w H s Q E) s

section
variable {P : Program} {w : World} {K : PySem.W.Frag} {mg : Str → Option Value} {base : Heap} {CX : CXT} {k : Nat} {f : Addr} {fd : FuncData} {ps : List Str} {sp : Sp}

theorem FnG.mono {j : Nat} (F : FnG P w K mg base CX j f fd ps sp) (h : j ≤ k) : FnG P w K mg base CX k f fd ps sp := ⟨F.len, fun A outer s H args us vs Q E hr => F.run A outer s H args us vs Q E (hr.mono h)⟩
theorem FnG.imp {sp' : Sp} (F : FnG P w K mg base CX k f fd ps sp) (h : ∀ vs H Q E, sp' vs H Q E → sp vs H Q E) : FnG P w K mg base CX k f fd ps sp' :=
  ⟨fun vs H Q E q => F.len vs H Q E (h _ _ _ _ q), fun A outer s H args us vs Q E hr he hb hv hs => F.run A outer s H args us vs Q E hr he hb hv (h _ _ _ _ hs)⟩
/-- a promise kept everywhere -/
theorem FnG.of (F : FnOk P w K mg base CX k f fd ps sp) : FnG P w K mg base CX k f fd ps sp := ⟨F.len, fun A outer s H args us vs Q E hr => F.run A outer s H args us vs Q E hr.r⟩
/-- nothing is raised: any word for what is raised will do -/
theorem FnG.calm0 {CX' : CXT} (F : FnG P w K mg base CX0 k f fd ps sp) : FnG P w K mg base CX' k f fd ps sp := ⟨F.len, fun A outer s H args us vs Q E hr he hb hv hs => codeAny_mono (F.run A outer s H args us vs Q E hr he hb hv hs) fun r s' q => by
  cases r with
  | error e => exact False.elim q
  | ok fl => cases fl <;> exact q⟩

theorem fnG_of {name qual : Str} {params : Arguments} {body : List Stmt} {scope : Scope} {dV kV doc pm cdv ct oc : Value} {an od : Option Addr} {osl : Array (Option Value)} {N : List Str}
    (lk : K.lookup f = some ⟨oc, od, .func (PySem.W.fnOf name qual params body scope dV kV doc pm an cdv ct), osl⟩) (hcd : PySem.W.codeIn K cdv qual = true) (S : FnScope N ps scope) (len : ∀ vs H Q E, sp vs H Q E → vs.length = ps.length)
    (hbody : ∀ (A : Around) (outer : List Env) (s : Shared) (H : Hp) (vs : List V) (Q : VK) (E : XK), RoomG k (A.deeper (envOfC qual scope s.heap.objs.size f cdv)) → sp vs H Q E →
      ∃ t, PSs (cxOf CX P w K mg base N qual scope f cdv A outer s H E) body t ∧ t { nx := fun _ H' => Q .non H', rt := Q } (start N vs) H) :
    FnG P w K mg base CX (k + 1) f (PySem.W.fnOf name qual params body scope dV kV doc pm an cdv ct) ps sp := by
  refine ⟨len, fun A outer s H args us vs Q E hr e0 hb r hsp => ?_⟩
  have kin : K.In s.heap := e0.mod.kin.keeps fun b o e => (e0.bs b o e).1
  have lim : s.heap.NoLimit := e0.mod.nolimit.keeps fun b o e => (e0.bs b o e).1
  have par : ∀ y ∈ ps.zip us, scope.names.lookup y.1 = some .local ∨ (scope.names.lookup y.1 = some .cell ∧ ((cellsFrom (s.heap.objs.size + 1) scope.names []).lookup y.1).isSome = true) := fun ⟨n, v⟩ hy => by
    have hn := (List.of_mem_zip hy).1
    rcases S.par n hn with q | q
    · exact .inl q
    · exact .inr ⟨q, PySem.W.cellsFrom_some _ _ _ (.inl q)⟩
  refine codeAny_call_function hr.r.depth (kin _ _ lk) rfl S.co S.gen rfl (PySem.W.codeRec_of kin hcd) (hb _ _ _ _ ?_)
  refine wpAny_newFunctionEnv_cells S.kind par fun env he s1 x => ?_
  subst he
  refine ⟨lim.keeps x.toInCall.keep, codeAny_func ?_⟩
  obtain ⟨t, ht, hq⟩ := hbody A outer s H vs Q E (hr.deeper _) hsp
  refine wpAny_mono (ht.run [] s1 (start N vs) H _ (inv_start S hr.r.hd e0 (len _ _ _ _ hsp) r x) hq) (fun fl s' hs => ?_) fun e s' hs => hs
  cases fl with
  | ret u =>
    obtain ⟨v, σ', H', J, rv, q⟩ := hs
    exact ⟨v, H', J.os, J.bare, J.base, J.hok, rv, q⟩
  | next =>
    obtain ⟨σ', H', J, q⟩ := hs
    exact ⟨.non, H', J.os, J.bare, J.base, J.hok, rfl, q⟩
  | brk =>
    obtain ⟨_, _, _, q⟩ := hs
    exact q.elim
  | cont =>
    obtain ⟨_, _, _, q⟩ := hs
    exact q.elim
end

section
variable {P : Program} {w : World} {K : PySem.W.Frag} {mg : Str → Option Value} {base : Heap}
/-- a def that lets nothing out, by its body -/
theorem okG {x qual : Str} {st : Stmt} {f : Addr} {fd : FuncData} {N ps : List Str} {k : Nat} {sp : Sp} (F : Fun K x qual st f fd) (S : FnScope N ps (defScope st)) (len : ∀ vs H Q E, sp vs H Q E → vs.length = ps.length)
    (hbody : ∀ (cdv : Value) (A : Around) (outer : List Env) (s : Shared) (H : Hp) (vs : List V) (Q : VK) (E : XK), RoomG k (A.deeper (envOfC qual (defScope st) s.heap.objs.size f cdv)) → sp vs H Q E →
      ∃ t, PSs (cxOf CX0 P w K mg base N qual (defScope st) f cdv A outer s H E).nox (defBody st) t ∧ t { nx := fun _ H' => Q .non H', rt := Q } (start N vs) H) : FnG P w K mg base CX0 (k + 1) f fd ps sp := by
  obtain ⟨oc, od, kV, doc, pm, an, cdv, ct, osl, rfl, lk, hcd⟩ := F.ex
  refine fnG_of lk hcd S len fun A outer s H vs Q E hr hsp => ?_
  obtain ⟨t, h, q⟩ := hbody cdv A outer s H vs Q E hr hsp
  exact ⟨t, h.nox, q⟩
/-- a def whose code is at c, its table at T -/
theorem okGc {x qual : Str} {st : Stmt} {f c : Addr} {fd : FuncData} {N ps : List Str} {k : Nat} {sp : Sp} (F : Fun K x qual st f fd) (hc : fd.code = .ref c) (S : FnScope N ps (defScope st)) (len : ∀ vs H Q E, sp vs H Q E → vs.length = ps.length)
    (hbody : ∀ (A : Around) (outer : List Env) (s : Shared) (H : Hp) (vs : List V) (Q : VK) (E : XK), RoomG k (A.deeper (envOfC qual (defScope st) s.heap.objs.size f (.ref c))) → sp vs H Q E →
      ∃ t, PSs (cxOf CX0 P w K mg base N qual (defScope st) f (.ref c) A outer s H E).nox (defBody st) t ∧ t { nx := fun _ H' => Q .non H', rt := Q } (start N vs) H) : FnG P w K mg base CX0 (k + 1) f fd ps sp := by
  obtain ⟨oc, od, kV, doc, pm, an, cdv, ct, osl, rfl, lk, hcd⟩ := F.ex
  obtain rfl : cdv = .ref c := hc
  refine fnG_of lk hcd S len fun A outer s H vs Q E hr hsp => ?_
  obtain ⟨t, h, q⟩ := hbody A outer s H vs Q E hr hsp
  exact ⟨t, h.nox, q⟩
/-- a def that may raise -/
theorem okGX {x qual : Str} {st : Stmt} {f : Addr} {fd : FuncData} {N ps : List Str} {k : Nat} {sp : Sp} (F : Fun K x qual st f fd) (S : FnScope N ps (defScope st)) (len : ∀ vs H Q E, sp vs H Q E → vs.length = ps.length)
    (hbody : ∀ (cdv : Value) (A : Around) (outer : List Env) (s : Shared) (H : Hp) (vs : List V) (Q : VK) (E : XK), RoomG k (A.deeper (envOfC qual (defScope st) s.heap.objs.size f cdv)) → sp vs H Q E →
      ∃ t, PSs (cxOf (L2.CX P w) P w K mg base N qual (defScope st) f cdv A outer s H E) (defBody st) t ∧ t { nx := fun _ H' => Q .non H', rt := Q } (start N vs) H) : FnG P w K mg base (L2.CX P w) (k + 1) f fd ps sp := by
  obtain ⟨oc, od, kV, doc, pm, an, cdv, ct, osl, rfl, lk, hcd⟩ := F.ex
  exact fnG_of lk hcd S len fun A outer s H vs Q E hr hsp => hbody cdv A outer s H vs Q E hr hsp
end

section
variable {X : Cx} {CX : CXT} {k : Nat} {f : Addr} {fd : FuncData} {ps : List Str} {sp : Sp} {dvs : List V} {ds : List Value} {E : XK} {x : Str} {p pos : Pos} {e : Expr} {es : List Expr} {t : TA}
theorem run_fnG {pins : List (Addr × Obj)} {σ : L2.St} {H : Hp} {s : Shared} {Q : VK} {us : List Value} {vs : List V} (F : FnG X.prog X.w X.K X.mg X.base CX k f fd ps sp) (hr : RoomG k X.A) (hb : Binds X.K fd ps ds) (hd : Vals dvs ds) (hx : Passes CX X E)
    (I : Inv X pins σ H s) (r : Vals vs us) (h : sp (vs ++ dvs) H Q E) : wpAny (model X.prog X.w) X.A (call (.ref f) us) (EP X pins σ Q) X.xe s := by
  have r2 : Vals (vs ++ dvs) (us ++ ds) := r.append hd
  have hl : (us ++ ds).length = ps.length := r2.length ▸ F.len _ _ _ _ h
  refine wpAny_call (codeAny_mono (F.run X.A X.stack s H ⟨us, []⟩ (us ++ ds) (vs ++ dvs) Q E hr I.env0 (hb s us I.kIn hl) r2 h) fun r s' hq => ?_)
  cases r with
  | error e => exact hx pins σ H s e s' I hq
  | ok fl =>
    cases fl with
    | ret u => exact I.after hq
    | next => exact hq.elim
    | brk => exact hq.elim
    | cont => exact hq.elim
theorem pe_callG (F : FnG X.prog X.w X.K X.mg X.base CX k f fd ps sp) (hr : RoomG k X.A) (hg : Gl X x) (hm : X.mg x = some (.ref f)) (hk : PySem.W.keepIn X.K (.ref f) = true) (hb : Binds X.K fd ps ds) (hd : Vals dvs ds) (hx : Passes CX X E)
    (ha : PA X (e :: es) t) (hdb : (x == ("__debug__" : Str)) = false := by decide) (he : starEach (e :: es) X.env = (false, eval e X.env) :: starEach es X.env := by rfl) (hpl : (backTo pos (starEach es X.env)).any (·.1) = false := by rfl) :
    PE X (.Call (.Name x p) (e :: es) [] pos) (tCall sp dvs E t) := by
  refine ⟨fun pins s σ H Q I h => wpAny_Call_Name_kw (ld_glob I hg hm ?_ hdb)⟩
  refine PySem.W.callWith_K (h₀ := X.base) I.ok.mod.kin hk (thn (ha.run pos pins s σ H _ I h) fun us s1 ⟨vs, H1, I1, r, q⟩ => ⟨I1.kIn, run_fnG F hr hb hd hx I1 r q⟩) he hpl
theorem pe_call0G (F : FnG X.prog X.w X.K X.mg X.base CX k f fd ps sp) (hr : RoomG k X.A) (hg : Gl X x) (hm : X.mg x = some (.ref f)) (hk : PySem.W.keepIn X.K (.ref f) = true) (hb : Binds X.K fd ps ds) (hd : Vals dvs ds) (hx : Passes CX X E)
    (hdb : (x == ("__debug__" : Str)) = false := by decide) : PE X (.Call (.Name x p) [] [] pos) (tCall sp dvs E tNil) :=
  ⟨fun pins s σ H Q I h => wpAny_Call_Name_kw (ld_glob I hg hm (PySem.W.callWith_K0 I.kIn hk (run_fnG (us := []) F hr hb hd hx I .nil h)) hdb)⟩
end

/-! ### repr of data of any depth -/
section
variable {X : Cx}
/-- repr(x), x data: its text -/
def rRepr (K : PySem.W.Frag) : List V → Hp → VK → Prop := fun xs H Q => ∃ v d, xs = [v] ∧ Dp K H v d ∧ d.showable = true ∧ d.hasDict = false ∧ d.depth ≤ 64 ∧ d.shown.length ≤ sizeLine ∧ Q (.str d.shown) H
theorem call_repr (hu : X.A.units + 66 < cLine) (hg : X.A.guards = some []) : CallR X (.builtin "repr") (rRepr X.K) := by
  intro pins s σ H xs us Q I r h
  obtain ⟨v, d, rfl, hd, hs, hnd, hdp, hsz, q⟩ := h
  obtain ⟨u, rfl, ru⟩ := vals1 r
  obtain ⟨as, rd⟩ := Dp.reads I d v u hd ru
  cases hd with
  | non => cases ru; exact PySem.P.repr_of_none ⟨.str _, H, I.tok _, ⟨_, rfl⟩, q⟩
  | bl b => cases ru; exact PySem.P.repr_of_bool ⟨.str _, H, I.tok _, ⟨_, rfl⟩, q⟩
  | int i =>
    obtain ⟨t, rfl⟩ := ru
    exact PySem.P.repr_of_int (by simpa [PyData.showable] using hs) ⟨.str _, H, I.tok _, ⟨_, rfl⟩, q⟩
  | str x =>
    obtain ⟨t, rfl⟩ := ru
    exact PySem.P.repr_of_str ⟨.str _, H, I.tok _, ⟨_, rfl⟩, q⟩ hsz
  | lst h1 h2 =>
    cases ru
    refine repr_of_reads' rd hs (fun z => absurd (hnd.symm.trans z) (by decide)) hg (by omega) (fun _ _ e => e) (fun h' t tk k => ?_) hsz
    exact ⟨.str _, H, I.kept k, ⟨_, rfl⟩, q⟩
  | tup h1 h2 =>
    cases ru
    refine repr_of_reads' rd hs (fun z => absurd (hnd.symm.trans z) (by decide)) hg (by omega) (fun _ _ e => e) (fun h' t tk k => ?_) hsz
    exact ⟨.str _, H, I.kept k, ⟨_, rfl⟩, q⟩
end
end Gd

/-! The end of a law: the law's def keeps its promise FnG at the caller's around. -/
namespace Gd
open PySem PySem.Spec PyProof.Rows L2 GxR Gx

/-- what the law is entered with: the script, locked, and the defs' tables -/
def entryH (K : PySem.W.Frag) (a : Addr) (T : List Addr) (scr : HO) : Hp := fun b => if b ∈ T then some (.tbl #[]) else if b = a then (if (K.lookup a).isSome = true then none else some scr) else none
theorem entryH_inv {K : PySem.W.Frag} {a b : Addr} {T : List Addr} {scr u : HO} (h : entryH K a T scr b = some u) : (b ∈ T ∧ u = .tbl #[]) ∨ (b ∉ T ∧ b = a ∧ K.lookup a = none ∧ u = scr) := by
  unfold entryH at h
  by_cases h1 : b ∈ T
  · rw [if_pos h1] at h
    cases h
    exact .inl ⟨h1, rfl⟩
  · rw [if_neg h1] at h
    by_cases h2 : b = a
    · rw [if_pos h2] at h
      by_cases h3 : (K.lookup a).isSome = true
      · rw [if_pos h3] at h
        cases h
      · rw [if_neg h3] at h
        cases h
        refine .inr ⟨h1, h2, ?_, rfl⟩
        cases q : K.lookup a with
        | none => rfl
        | some o => rw [q] at h3; exact absurd rfl h3
    · rw [if_neg h2] at h
      cases h
theorem entryH_tab {K : PySem.W.Frag} {a b : Addr} {T : List Addr} {scr : HO} (h : b ∈ T) : entryH K a T scr b = some (.tbl #[]) := if_pos h
theorem entryH_scr {K : PySem.W.Frag} {a : Addr} {T : List Addr} {scr : HO} (h : a ∉ T) (hk : K.lookup a = none) : entryH K a T scr a = some scr := by
  unfold entryH
  rw [if_neg h, if_pos rfl, hk]
  rfl

section
variable {P : Program} {w : World} {K : PySem.W.Frag} {mg mb : Str → Option Value} {k : Nat} {fa a : Addr} {cs : List (Addr × Addr)} {fd : FuncData} {x : Str} {sp : Sp} {s1 : Shared} {vs : List Value} {ns : List Int} {CX : CXT}
theorem law_endG (kin : K.In s1.heap) (hns : s1.heap.Ns mainGlobals mg) (hb : s1.heap.Ns builtinsNs mb) (hbb : ∀ x : Str, x ≠ "__name__" → mb x = bootBuiltins x) (hlim : s1.heap.NoLimit) (hg : s1.gens = #[])
    (hT : ∀ p ∈ cs, s1.heap.get? p.2 = some { cls := .none, data := .fields #[] }) (nT : ∀ p ∈ cs, K.lookup p.2 = none) (C : ∀ p ∈ cs, PySem.W.CodeHd s1.heap p.1 p.2)
    (hbm : ∃ (bm : Addr) (ob : Obj), mg "__builtins__" = some (.ref bm) ∧ bm ≠ builtinsNs ∧ s1.heap.get? bm = some ob ∧ ob.cls = .type "module" ∧ ob.dict = some builtinsNs ∧ ob.data = .plain)
    (ha : s1.heap.get? a = some { cls := .type "list", data := .seq vs.toArray }) (hi : IntsAre vs ns) (hl : ns.length ≤ sizeLine) (hr : RoomG k callerA)
    (F : ∀ base : Heap, K.In base → base.Ns mainGlobals mg → (∀ p ∈ cs, TabB base mg p.1 p.2) → FnG P w K mg base CX k fa fd [x] sp) (hbind : ∀ (s : Shared) (u : Value), BindsTo s fd ⟨[u], []⟩ [(x, u)])
    (hsp : ∀ H : Hp, (∀ p ∈ cs, H p.2 = some (.tbl #[])) → SqL K H a (ns.map V.int) → sp [.ref a] H (fun v _ => v = .bl true) fun _ _ _ => False)
    (hCX : ∀ H e s', CX [] H s1 (fun _ _ _ => False) e s' → False) :
    codeAny (model P w) callerA (.call (.ref fa) ⟨[.ref a], []⟩) (fun r s' => r = .ok (.ret (.bool true)) ∧ OldK s1.heap s'.heap ∧ s'.os = s1.os ∧ AllBare s'.gens) s1 := by
  have tabAt : ∀ b ∈ cs.map (·.2), s1.heap.get? b = some { cls := .none, data := .fields #[] } := fun b hb => by
    obtain ⟨p, hp, rfl⟩ := List.mem_map.mp hb
    exact hT p hp
  have inT : ∀ p ∈ cs, p.2 ∈ cs.map (·.2) := fun p hp => List.mem_map.mpr ⟨p, hp, rfl⟩
  have aT : a ∉ cs.map (·.2) := fun z => by
    have q := (tabAt a z).symm.trans ha
    cases congrArg Obj.data (Option.some.inj q)
  let H : Hp := entryH K a (cs.map (·.2)) (.frz { cls := .type "list", data := .seq vs.toArray } (.lst (ns.map V.int)))
  have hv : ∀ {b u}, H b = some u → (b ∈ cs.map (·.2) ∧ u = .tbl #[]) ∨ (b ∉ cs.map (·.2) ∧ b = a ∧ K.lookup a = none ∧ u = .frz { cls := .type "list", data := .seq vs.toArray } (.lst (ns.map V.int))) := fun h => entryH_inv h
  have hok : HOk P w H s1.heap := fun b u h => by
    rcases hv h with ⟨h1, rfl⟩ | ⟨_, rfl, _, rfl⟩
    · exact tabAt b h1
    · exact ⟨ha, by rw [List.length_map]; exact hl, vs, _, vals_ints hi, ha⟩
  have plain : ∀ {b : Addr} {o : Obj}, s1.heap.get? b = some o → (∀ xs n, o.data ≠ .seq xs n) → o.data ≠ .fields #[] → H b = none := fun {b o} e h1 h2 => by
    cases q : H b with
    | none => rfl
    | some u =>
      rcases hv q with ⟨h3, _⟩ | ⟨_, rfl, _, _⟩
      · rw [tabAt b h3] at e
        cases e
        exact (h2 rfl).elim
      · rw [ha] at e
        cases e
        exact (h1 _ _ rfl).elim
  have nsK : ∀ {b : Addr} {m : Str → Option Value}, s1.heap.Ns b m → (hidT s1.heap H).Ns b m := fun {b m} ⟨o, es, ep, e, d, r⟩ =>
    ⟨o, es, ep, hidT_get e (plain e (fun xs n z => by rw [d] at z; cases z) fun z => by rw [d] at z; cases z), d, r⟩
  have kinB : K.In (hidT s1.heap H) := fun b o e => hidT_get (kin b o e) (by
    cases q : H b with
    | none => rfl
    | some u =>
      rcases hv q with ⟨h3, _⟩ | ⟨_, rfl, h4, _⟩
      · obtain ⟨p, hp, rfl⟩ := List.mem_map.mp h3
        rw [nT p hp] at e
        cases e
      · rw [h4] at e
        cases e)
  have md : L2.Mod K mg (hidT s1.heap H) := ⟨kinB, nsK hns, ⟨mb, nsK hb, hbb⟩, let ⟨mc, h1, h2⟩ := hlim; ⟨mc, nsK h1, h2⟩⟩
  have noG : ∀ p ∈ cs, mainGlobals ≠ p.2 := fun p hp z => by
    obtain ⟨o, es, ep, e, hd, _⟩ := hns
    rw [z, hT p hp] at e
    cases e
    cases hd
  have tabs : ∀ p ∈ cs, TabB (hidT s1.heap H) mg p.1 p.2 := fun p hp => by
    refine ⟨?_, ?_, noG p hp⟩
    · obtain ⟨o, us, file, tf, flags, tg, inF, text, tt, e1, r1, r2, r3, r4, r5, r6, r7, r8, hne⟩ := C p hp
      exact ⟨o, us, file, tf, flags, tg, inF, text, tt, hidT_get e1 (plain e1 (fun xs n z => by rw [r2] at z; cases z) fun z => by rw [r2] at z; cases z; simp at r3), r1, r2, r3, r4, r5, r6, r7, r8, hne⟩
    · obtain ⟨bm, ob, b1, b2, b3, b4, b5, b6⟩ := hbm
      refine ⟨bm, ob, b1, b2, fun q => ?_, fun q => ?_, hidT_get b3 (plain b3 (fun xs n z => by rw [b6] at z; cases z) fun z => by rw [b6] at z; cases z), b4, b5, b6⟩
      · obtain ⟨o, es, ep, e, hd, _⟩ := hns
        rw [q, e] at b3
        cases b3
        rw [hd] at b6
        cases b6
      · rw [q, hT p hp] at b3
        cases b3
        cases b6
  have seqA : SqL K H a (ns.map V.int) := by
    cases q : K.lookup a with
    | none => exact .inl (.inr ⟨_, entryH_scr aT q⟩)
    | some o =>
      have e := kin a o q
      rw [ha] at e
      cases e
      exact .inr ⟨_, vs.toArray, _, q, rfl, rfl, rfl, by rw [List.size_toArray, hi.length]; exact hl, by simpa using vals_ints hi⟩
  have e0 : Env0 P w K mg (hidT s1.heap H) callerA [] s1 H := ⟨rfl, md, fun b o e => of_hidT e, Nat.le_of_eq (hidT_size _ _), trivial, fun b z => absurd (show b ∈ ([] : List Addr) from z) (by simp), hok, .of_eq hg⟩
  refine codeAny_mono ((F _ kinB (nsK hns) tabs).run callerA [] s1 H ⟨[.ref a], []⟩ [.ref a] [.ref a] _ _ hr e0 (hbind s1 (.ref a)) (.cons rfl .nil) (hsp H (fun p hp => entryH_tab (inT p hp)) seqA)) fun r s' h => ?_
  cases r with
  | error e => exact (hCX H e s' h).elim
  | ok fl =>
    cases fl with
    | next => exact h.elim
    | brk => exact h.elim
    | cont => exact h.elim
    | ret u =>
      obtain ⟨v, H', os, bare, un, hok', r', q⟩ := h
      obtain rfl : v = .bl true := q
      obtain rfl : u = Value.bool true := r'
      have stays : ∀ b o, b ∉ cs.map (·.2) → s1.heap.get? b = some o → s'.heap.get? b = some o := fun b o nb e => by
        cases q : H b with
        | none => exact un.keep b o e q (fun z => absurd (show b ∈ ([] : List Addr) from z) (by simp)) (by simp)
        | some u =>
          rcases hv q with ⟨z, _⟩ | ⟨_, rfl, _, rfl⟩
          · exact absurd z nb
          · rw [ha] at e
            cases e
            exact (hok' b _ (un.frzs b _ _ q)).1
      refine ⟨rfl, ⟨fun b o e => ?_, fun b o e => ?_⟩, os, bare⟩
      · by_cases hm : b ∈ cs.map (·.2)
        · obtain ⟨p, hp, rfl⟩ := List.mem_map.mp hm
          obtain ⟨more, z⟩ := un.tbls p.2 #[] (entryH_tab (inT p hp))
          rw [hT p hp] at e
          cases e
          exact .inr (.inl ⟨((C p hp).tab (hT p hp)).isCodeTable, rfl, #[], more, rfl, by rw [Array.empty_append]; rw [Array.empty_append] at z; exact hok' p.2 _ z⟩)
        · exact .inl (stays b o hm e)
      · by_cases hm : b ∈ cs.map (·.2)
        · obtain ⟨p, hp, rfl⟩ := List.mem_map.mp hm
          obtain ⟨more, z⟩ := un.tbls p.2 #[] (entryH_tab (inT p hp))
          exact ⟨_, hok' p.2 _ z⟩
        · exact ⟨o, stays b o hm e⟩
end

/-- what is known of the law's promise at the head's heap h -/
def LawG (l : PySem.W.OpenLaw) (w : World) (K : PySem.W.Frag) (CX : CXT) (k n : Nat) (x : Str) (mg : Str → Option Value) (fa : Addr) (h : Heap) : Prop :=
  ∃ (fd : FuncData) (cs : List (Addr × Addr)) (sp : Sp), (∀ p ∈ cs, h.get? p.2 = some { cls := .none, data := .fields #[] }) ∧ (∀ p ∈ cs, K.lookup p.2 = none) ∧ (∀ p ∈ cs, PySem.W.CodeHd h p.1 p.2) ∧ (∀ (s : Shared) (u : Value), BindsTo s fd ⟨[u], []⟩ [(x, u)]) ∧
    (∀ (H : Hp) (a : Addr) (ns : List Int), ns.length ≤ n → (∀ z ∈ ns, Builtin.Int.intBits z ≤ 1048576) → (∀ p ∈ cs, H p.2 = some (.tbl #[])) → SqL K H a (ns.map V.int) → sp [.ref a] H (fun v _ => v = .bl true) fun _ _ _ => False) ∧
    ∀ base : Heap, K.In base → base.Ns mainGlobals mg → (∀ p ∈ cs, TabB base mg p.1 p.2) → FnG l.prog w K mg base CX k fa fd [x] sp
theorem walk_G {l : PySem.W.OpenLaw} {n k : Nat} {q : Program} {loose : List Str} {XP : (Str → Option Value) → Heap → Prop} {YP : World → Heap → Prop} {d : DefRec} {K : Params → PySem.W.Frag} {CX : World → CXT} {x : Str}
    (hn : l.most = some n) (hn2 : n ≤ sizeLine) (hdf : d.params.defaults = []) (hr : RoomG k callerA) (hY : ∀ (w : World) (h : Heap), YP w h → (K w.params).In h)
    (F : ∀ (w : World) (mg : Str → Option Value) (fa : Addr) (h : Heap), YP w h → (K w.params).In h → h.Ns mainGlobals mg → mg d.name = some (.ref fa) → LawG l w (K w.params) (CX w) k n x mg fa h)
    (hCX : ∀ (w : World) (H : Hp) (s : Shared) (e : Value) (s' : Shared), CX w [] H s (fun _ _ _ => False) e s' → False) :
    PySem.W.WalkO q loose XP YP l.row.toRowW d [] (fun f vs => PySem.call f vs) := by
  refine Att.attach_callB hn hdf fun w s0 s1 mg mb fa o pm cd doc a vs ns G Y ho hd hcd hmg hobj hints hlen hbits hg => ?_
  obtain ⟨fd, cs, sp, hT, nT, C, hb, hsp, hF⟩ := F w mg fa _ Y (hY w _ Y) G.T.g hmg
  exact law_endG (hY w _ Y) G.T.g G.T.b G.T.builtins G.T.nolimit hg hT nT C G.T.bmain hobj hints (Nat.le_trans hlen hn2) hr hF hb (fun H hH hS => hsp H a ns hlen hbits hH hS) fun H e s' => hCX w H s1 e s'
end Gd

/-! What stays through a call: all but the defs' tables and some lists; defs as they stand; data. -/
namespace Gd
open PySem PySem.Spec PyProof.Rows L2 GxR Gx

/-- no table -/
def NoTab (o : HO) : Prop := ∀ ps, o ≠ .tbl ps
/-- all stays but tables, which may grow, and the objects at S -/
structure Kb (S : List Addr) (H H' : Hp) : Prop where
  keep : ∀ b o, H b = some o → b ∉ S → NoTab o → H' b = some o
  tab : ∀ T, TabG H T → TabG H' T
  free : ∀ p, H' p = none → H p = none
abbrev Kp (H H' : Hp) : Prop := Kb [] H H'
section
variable {S : List Addr} {H H' H1 H2 : Hp} {p : Addr} {o u : HO}
theorem Kb.refl (H : Hp) : Kb S H H := ⟨fun _ _ h _ _ => h, fun _ h => h, fun _ h => h⟩
theorem Kb.trans (a : Kb S H H1) (b : Kb S H1 H2) : Kb S H H2 := ⟨fun c o h n t => b.keep c o (a.keep c o h n t) n t, fun T h => b.tab T (a.tab T h), fun q h => a.free q (b.free q h)⟩
theorem Kb.mono {S' : List Addr} (a : Kb S H H') (h : ∀ b ∈ S, b ∈ S') : Kb S' H H' := ⟨fun c o e n t => a.keep c o e (fun z => n (h c z)) t, a.tab, a.free⟩
theorem Kb.of (a : Kp H H') : Kb S H H' := a.mono fun _ h => (by cases h)
theorem tab_notab {T : Addr} (h : TabG H T) (e : H T = some o) (n : NoTab o) : False := by
  obtain ⟨ps, h1, _⟩ := h
  rw [e] at h1
  cases h1
  exact n ps rfl
theorem upd_some_of {q : Addr} (h : upd H p o q = none) : H q = none := by
  by_cases z : q = p
  · rw [z, upd_same] at h
    cases h
  · rw [upd_ne z] at h
    exact h
theorem Kb.new (h : H p = none) : Kb S H (upd H p o) :=
  ⟨fun b u e _ _ => by rw [upd_ne (ne_of_none e h)]; exact e, fun T ⟨ps, e, t⟩ => ⟨ps, by rw [upd_ne (ne_of_none e h)]; exact e, t⟩, fun q e => upd_some_of e⟩
theorem Kb.tabbed {P : Addr} (h : Tabbed P H H') (hP : TabG H P) : Kb S H H' := by
  refine ⟨fun b o e _ n => ?_, fun T hT => ?_, fun q e => ?_⟩
  · rw [h.2 b fun z => tab_notab (by rw [z]; exact hP) e n]
    exact e
  · by_cases z : T = P
    · exact z ▸ h.1
    · obtain ⟨ps, e, t⟩ := hT
      exact ⟨ps, by rw [h.2 T z]; exact e, t⟩
  · by_cases z : q = P
    · obtain ⟨ps, e', _⟩ := h.1
      rw [z, e'] at e
      cases e
    · rw [h.2 q z] at e
      exact e
/-- a known list is stored -/
theorem Kb.put (hp : p ∈ S) (e : H p = some u) (n : NoTab u) : Kb S H (upd H p o) :=
  ⟨fun b v hb nb _ => by rw [upd_ne (fun z : b = p => nb (by rw [z]; exact hp))]; exact hb, fun T hT => by
    have z : T ≠ p := fun z => tab_notab (o := u) (by rw [← z]; exact hT) e n
    obtain ⟨ps, e', t⟩ := hT
    exact ⟨ps, by rw [upd_ne z]; exact e', t⟩, fun q e => upd_some_of e⟩
/-- an object that was not there at H may change -/
theorem Kb.mut (k : Kb S H H') (hp : H p = none) (n : ¬ TabG H' p) : Kb S H (upd H' p o) :=
  ⟨fun b v hb nb t => by rw [upd_ne (ne_of_none hb hp)]; exact k.keep b v hb nb t, fun T hT => by
    have z : T ≠ p := fun z => n (z ▸ k.tab T hT)
    obtain ⟨ps, e', t⟩ := k.tab T hT
    exact ⟨ps, by rw [upd_ne z]; exact e', t⟩, fun q e => k.free q (upd_some_of e)⟩
theorem no_tab (e : H p = some o) (n : NoTab o) : ¬ TabG H p := fun h => tab_notab h e n
theorem nt_lst {xs : List V} : NoTab (.lst xs) := fun _ h => by cases h
theorem nt_tup {xs : List V} : NoTab (.tup xs) := fun _ h => by cases h
theorem nt_frz {ob : Obj} : NoTab (.frz ob u) := fun _ h => by cases h
theorem nt_ext {φ : Heap → Prop} : NoTab (.ext φ) := fun _ h => by cases h

end

/-! ### data: scalars and tuples; whatever is made of them stands for good -/
mutual
inductive Dt (K : PySem.W.Frag) (H : Hp) : V → PyData → Prop where
  | non : Dt K H .non .none
  | bl (b : Bool) : Dt K H (.bl b) (.bool b)
  | int (i : Int) : Dt K H (.int i) (.int i)
  | str (x : Str) : Dt K H (.str x) (.str x)
  | tup {a : Addr} {xs : List V} {ds : List PyData} (h : SqT K H a xs) (hs : DtAll K H xs ds) : Dt K H (.ref a) (.tuple ds)
inductive DtAll (K : PySem.W.Frag) (H : Hp) : List V → List PyData → Prop where
  | nil : DtAll K H [] []
  | cons {v : V} {vs : List V} {d : PyData} {ds : List PyData} (h : Dt K H v d) (hs : DtAll K H vs ds) : DtAll K H (v :: vs) (d :: ds)
end
/-- the lists at S are lists -/
def Lsts (S : List Addr) (H : Hp) : Prop := ∀ b ∈ S, ∃ xs, H b = some (.lst xs)
theorem Lsts.nil {H : Hp} : Lsts [] H := fun _ h => by cases h
section
variable {K : PySem.W.Frag} {S : List Addr} {H H' : Hp}
theorem Kb.sqT (k : Kb S H H') (hS : Lsts S H) {a : Addr} {xs : List V} (h : SqT K H a xs) : SqT K H' a xs := by
  rcases h with (h | ⟨o, h⟩) | h
  · exact .inl (.inl (k.keep a _ h (fun z => by obtain ⟨ys, e⟩ := hS a z; rw [h] at e; cases e) nt_tup))
  · exact .inl (.inr ⟨o, k.keep a _ h (fun z => by obtain ⟨ys, e⟩ := hS a z; rw [h] at e; cases e) nt_frz⟩)
  · exact .inr h
mutual
theorem Dt.kb (k : Kb S H H') (hS : Lsts S H) : ∀ {v : V} {d : PyData}, Dt K H v d → Dt K H' v d
  | _, _, .non => .non
  | _, _, .bl b => .bl b
  | _, _, .int i => .int i
  | _, _, .str x => .str x
  | _, _, .tup h hs => .tup (k.sqT hS h) (DtAll.kb k hS hs)
theorem DtAll.kb (k : Kb S H H') (hS : Lsts S H) : ∀ {vs : List V} {ds : List PyData}, DtAll K H vs ds → DtAll K H' vs ds
  | _, _, .nil => .nil
  | _, _, .cons h hs => .cons (h.kb k hS) (DtAll.kb k hS hs)
end
mutual
theorem Dt.dp : ∀ {v : V} {d : PyData}, Dt K H v d → Dp K H v d
  | _, _, .non => .non
  | _, _, .bl b => .bl b
  | _, _, .int i => .int i
  | _, _, .str x => .str x
  | _, _, .tup h hs => .tup h hs.dp
theorem DtAll.dp : ∀ {vs : List V} {ds : List PyData}, DtAll K H vs ds → DpAll K H vs ds
  | _, _, .nil => .nil
  | _, _, .cons h hs => .cons h.dp hs.dp
end
theorem DtAll.length : ∀ {vs : List V} {ds : List PyData}, DtAll K H vs ds → vs.length = ds.length
  | _, _, .nil => rfl
  | _, _, .cons _ hs => congrArg (· + 1) hs.length
theorem DtAll.get : ∀ {vs : List V} {ds : List PyData} {i : Nat} {v : V}, DtAll K H vs ds → vs[i]? = some v → ∃ d, ds[i]? = some d ∧ Dt K H v d
  | _, _, _, _, .nil, e => by simp at e
  | _, _, 0, _, .cons h _, e => by
    have e := Option.some.inj e
    subst e
    exact ⟨_, rfl, h⟩
  | _, _, i + 1, _, .cons _ hs, e => DtAll.get (i := i) hs e
theorem DtAll.at : ∀ {vs : List V} {ds : List PyData} {i : Nat} {d : PyData}, DtAll K H vs ds → ds[i]? = some d → ∃ v, vs[i]? = some v ∧ Dt K H v d
  | _, _, _, _, .nil, e => by simp at e
  | _, _, 0, _, .cons h _, e => by
    have e := Option.some.inj e
    subst e
    exact ⟨_, rfl, h⟩
  | _, _, i + 1, _, .cons _ hs, e => DtAll.at (i := i) hs e
end

/-! ### defs -/
section
variable {P : Program} {w : World} {K : PySem.W.Frag} {mg : Str → Option Value} {base : Heap}
/-- the def x stands as st -/
def DefAt (K : PySem.W.Frag) (mg : Str → Option Value) (x : Str) (st : Stmt) (ps : List Str) : Prop := ∃ f fd, Fun K x x st f fd ∧ mg x = some (.ref f) ∧ Binds K fd ps []
/-- .. and its code's table is at T -/
def DefTab (K : PySem.W.Frag) (mg : Str → Option Value) (base : Heap) (x : Str) (st : Stmt) (ps : List Str) (T : Addr) : Prop :=
  ∃ f fd c, Fun K x x st f fd ∧ mg x = some (.ref f) ∧ Binds K fd ps [] ∧ fd.code = .ref c ∧ TabB base mg c T
/-- what a caller needs -/
def Cal (P : Program) (w : World) (K : PySem.W.Frag) (mg : Str → Option Value) (base : Heap) (CX : CXT) (k : Nat) (x : Str) (ps : List Str) (sp : Sp) : Prop :=
  ∃ f fd, FnG P w K mg base CX k f fd ps sp ∧ mg x = some (.ref f) ∧ PySem.W.keepIn K (.ref f) = true ∧ Binds K fd ps []
theorem Cal.mono {CX : CXT} {j k : Nat} {x : Str} {ps : List Str} {sp : Sp} (c : Cal P w K mg base CX j x ps sp) (h : j ≤ k) : Cal P w K mg base CX k x ps sp :=
  let ⟨f, fd, F, r⟩ := c; ⟨f, fd, F.mono h, r⟩
theorem Cal.imp {CX : CXT} {k : Nat} {x : Str} {ps : List Str} {sp sp' : Sp} (c : Cal P w K mg base CX k x ps sp) (h : ∀ vs H Q E, sp' vs H Q E → sp vs H Q E) : Cal P w K mg base CX k x ps sp' :=
  let ⟨f, fd, F, r⟩ := c; ⟨f, fd, F.imp h, r⟩
theorem DefAt.cal {x : Str} {st : Stmt} {N ps : List Str} {k : Nat} {sp : Sp} (D : DefAt K mg x st ps) (S : FnScope N ps (defScope st)) (len : ∀ vs H Q E, sp vs H Q E → vs.length = ps.length)
    (hbody : ∀ (f : Addr) (cdv : Value) (A : Around) (outer : List Env) (s : Shared) (H : Hp) (vs : List V) (Q : VK) (E : XK), RoomG k (A.deeper (envOfC x (defScope st) s.heap.objs.size f cdv)) → sp vs H Q E →
      ∃ t, PSs (cxOf CX0 P w K mg base N x (defScope st) f cdv A outer s H E).nox (defBody st) t ∧ t { nx := fun _ H' => Q .non H', rt := Q } (start N vs) H) : Cal P w K mg base CX0 (k + 1) x ps sp := by
  obtain ⟨f, fd, F, g, b⟩ := D
  exact ⟨f, fd, okG F S len (hbody f), g, F.kp, b⟩
theorem DefTab.cal {x : Str} {st : Stmt} {N ps : List Str} {k : Nat} {sp : Sp} {T : Addr} (D : DefTab K mg base x st ps T) (S : FnScope N ps (defScope st)) (len : ∀ vs H Q E, sp vs H Q E → vs.length = ps.length)
    (hbody : ∀ (f c : Addr) (A : Around) (outer : List Env) (s : Shared) (H : Hp) (vs : List V) (Q : VK) (E : XK), TabB base mg c T → RoomG k (A.deeper (envOfC x (defScope st) s.heap.objs.size f (.ref c))) → sp vs H Q E →
      ∃ t, PSs (cxOf CX0 P w K mg base N x (defScope st) f (.ref c) A outer s H E).nox (defBody st) t ∧ t { nx := fun _ H' => Q .non H', rt := Q } (start N vs) H) : Cal P w K mg base CX0 (k + 1) x ps sp := by
  obtain ⟨f, fd, c, F, g, b, e, TB⟩ := D
  exact ⟨f, fd, okGc F e S len (fun A outer s H vs Q E => hbody f c A outer s H vs Q E TB), g, F.kp, b⟩
end
section
variable {X : Cx} {k : Nat} {ps : List Str} {sp : Sp} {x : Str} {p pos : Pos} {e : Expr} {es : List Expr} {t : TA}
theorem pe_cal (C : Cal X.prog X.w X.K X.mg X.base CX0 k x ps sp) (hr : RoomG k X.A) (hg : Gl X x) (ha : PA X (e :: es) t) (hdb : (x == ("__debug__" : Str)) = false := by decide) (he : starEach (e :: es) X.env = (false, eval e X.env) :: starEach es X.env := by rfl) (hpl : (backTo pos (starEach es X.env)).any (·.1) = false := by rfl) :
    PE X (.Call (.Name x p) (e :: es) [] pos) (tCall sp [] E0 t) := by
  obtain ⟨f, fd, F, g, kp, b⟩ := C
  exact pe_callG F hr hg g kp b .nil pass0 ha hdb he hpl
theorem pe_cal0 (C : Cal X.prog X.w X.K X.mg X.base CX0 k x ps sp) (hr : RoomG k X.A) (hg : Gl X x) (hdb : (x == ("__debug__" : Str)) = false := by decide) : PE X (.Call (.Name x p) [] [] pos) (tCall sp [] E0 tNil) := by
  obtain ⟨f, fd, F, g, kp, b⟩ := C
  exact pe_call0G F hr hg g kp b .nil pass0 hdb
end
end Gd

/-! Readings of some expressions over data. -/
namespace Gd
open PySem PySem.Spec PyProof.Rows L2 GxR Gx

/-! ### isinstance -/
def tyName : PyData → String
  | .none => "NoneType"
  | .bool _ => "bool"
  | .int _ => "int"
  | .str _ => "str"
  | .list _ => "list"
  | .tuple _ => "tuple"
  | .dict _ => "dict"
def isStrD : PyData → Bool | .str _ => true | _ => false
def isTupD : PyData → Bool | .tuple _ => true | _ => false
def isIntD : PyData → Bool | .int _ => true | .bool _ => true | _ => false
def isBoolD : PyData → Bool | .bool _ => true | _ => false
theorem kit_str (d : PyData) : kitB (tyName d) "str" = some (isStrD d) := by
  cases d with
  | none => exact (by decide +kernel : kitB "NoneType" "str" = some false)
  | bool _ => exact (by decide +kernel : kitB "bool" "str" = some false)
  | int _ => exact (by decide +kernel : kitB "int" "str" = some false)
  | str _ => exact (by decide +kernel : kitB "str" "str" = some true)
  | list _ => exact (by decide +kernel : kitB "list" "str" = some false)
  | tuple _ => exact (by decide +kernel : kitB "tuple" "str" = some false)
  | dict _ => exact (by decide +kernel : kitB "dict" "str" = some false)
theorem kit_tup (d : PyData) : kitB (tyName d) "tuple" = some (isTupD d) := by
  cases d with
  | none => exact (by decide +kernel : kitB "NoneType" "tuple" = some false)
  | bool _ => exact (by decide +kernel : kitB "bool" "tuple" = some false)
  | int _ => exact (by decide +kernel : kitB "int" "tuple" = some false)
  | str _ => exact (by decide +kernel : kitB "str" "tuple" = some false)
  | list _ => exact (by decide +kernel : kitB "list" "tuple" = some false)
  | tuple _ => exact (by decide +kernel : kitB "tuple" "tuple" = some true)
  | dict _ => exact (by decide +kernel : kitB "dict" "tuple" = some false)
theorem kit_int (d : PyData) : kitB (tyName d) "int" = some (isIntD d) := by
  cases d with
  | none => exact (by decide +kernel : kitB "NoneType" "int" = some false)
  | bool _ => exact (by decide +kernel : kitB "bool" "int" = some true)
  | int _ => exact (by decide +kernel : kitB "int" "int" = some true)
  | str _ => exact (by decide +kernel : kitB "str" "int" = some false)
  | list _ => exact (by decide +kernel : kitB "list" "int" = some false)
  | tuple _ => exact (by decide +kernel : kitB "tuple" "int" = some false)
  | dict _ => exact (by decide +kernel : kitB "dict" "int" = some false)
theorem kit_bool (d : PyData) : kitB (tyName d) "bool" = some (isBoolD d) := by
  cases d with
  | none => exact (by decide +kernel : kitB "NoneType" "bool" = some false)
  | bool _ => exact (by decide +kernel : kitB "bool" "bool" = some true)
  | int _ => exact (by decide +kernel : kitB "int" "bool" = some false)
  | str _ => exact (by decide +kernel : kitB "str" "bool" = some false)
  | list _ => exact (by decide +kernel : kitB "list" "bool" = some false)
  | tuple _ => exact (by decide +kernel : kitB "tuple" "bool" = some false)
  | dict _ => exact (by decide +kernel : kitB "dict" "bool" = some false)
section
variable {K : PySem.W.Frag} {H : Hp} {v : V} {d : PyData} {Q : VK}
theorem Dt.ty (h : Dt K H v d) : TyX K H v (.type (tyName d)) := by
  cases h with
  | non => exact .base .non
  | bl b => exact .base (.bl b)
  | int i => exact .base (.int i)
  | str x => exact .base (.str x)
  | tup h hs =>
    rcases h with (h | ⟨o, h⟩) | ⟨o, its, n, h1, h2, _⟩
    · exact .base (.tup h)
    · exact .fTuple h
    · exact .kTuple h1 h2
theorem isi_q {T : String} {b : Bool} (h : Dt K H v d) (hb : kitB (tyName d) T = some b) (q : Q (.bl b) H) : rIsi K [v, .ty T] H Q := ⟨v, .ty T, _, _, b, rfl, .ty T, h.ty, kit_ty hb, q⟩
end

/-! ### all(test for c in text), the test changes nothing -/
theorem nil_slots {σ2 : L2.St} : ∀ (j : Nat) (v : V), (none :: capV ([] : L2.St) [] : L2.St)[j]? = some (some v) → σ2[j]? = some (some v) := fun j v h => by
  cases j with
  | zero => cases h
  | succ j => simp [capV] at h
theorem all_take {p : Nat → Bool} {l : List Nat} {i c : Nat} (hc : l[i]? = some c) (h : (l.take i).all p = true) : (l.take (i + 1)).all p = p c := by
  rw [List.take_add_one, hc, List.all_append, h, Bool.true_and]
  simp
theorem all_mid {p : Nat → Bool} {l : List Nat} {i c : Nat} (hc : l[i]? = some c) (h : p c = false) : l.all p = false := by
  rw [List.all_eq_false]
  exact ⟨c, List.mem_of_getElem? hc, by rw [h]; exact Bool.false_ne_true⟩
theorem all_str {T : Addr} {x : Str} {te : TE} {p : Nat → Bool} {H1 : Hp} {Q : VK} {σ : L2.St} (hT : TabG H1 T)
    (ht : ∀ c ∈ x.cps.toList, ∀ (H : Hp) (Q' : VK), Q' (.bl (p c)) H → te [some (.str ⟨#[c]⟩)] H Q') (q : ∀ H2, Tabbed T H1 H2 → Q (.bl (x.cps.toList.all p)) H2) :
    TabG H1 T ∧ ∀ H2, Tabbed T H1 H2 → ∃ W : Nat → Nat → Hp → Prop, (∃ m, W 0 m H2) ∧ ∀ i m H, W i m H → ((Its x).stop i H ∧ Q (.bl true) H) ∨
      ((Its x).go i H ∧ ∃ Nx : Hp → Prop, (∀ H', Nx H' → ∃ m', m' < m ∧ W (i + 1) m' H') ∧ ∀ y H', (Its x).yld i H y H' → gName 0 y (none :: capV σ []) H' fun σ2 H3 =>
        (∀ (j : Nat) v, (none :: capV σ [] : L2.St)[j]? = some (some v) → σ2[j]? = some (some v)) ∧ te σ2 H3 fun y H5 => ∃ c, y = .bl c ∧ if c = true then Nx H5 else Q (.bl false) H5) := by
  refine ⟨hT, fun H2 h2 => ⟨fun i m H => H = H2 ∧ m = x.cps.size - i ∧ i ≤ x.cps.size ∧ (x.cps.toList.take i).all p = true, ⟨_, rfl, rfl, Nat.zero_le _, by simp⟩, ?_⟩⟩
  rintro i m H ⟨rfl, rfl, hi, ha⟩
  by_cases hl : i < x.cps.size
  · refine .inr ⟨hl, fun H' => H' = H ∧ (x.cps.toList.take (i + 1)).all p = true, fun H' ⟨e, a⟩ => ⟨x.cps.size - (i + 1), by omega, e, rfl, hl, a⟩, fun y H' hy => ?_⟩
    obtain ⟨rfl, c, hc, rfl⟩ := hy
    have hc' : x.cps.toList[i]? = some c := by rw [Array.getElem?_toList]; exact hc
    refine ⟨nil_slots, ht c (List.mem_of_getElem? hc') _ _ ⟨p c, rfl, ?_⟩⟩
    cases e : p c with
    | true =>
      rw [if_pos rfl]
      exact ⟨rfl, by rw [all_take hc' ha, e]⟩
    | false =>
      rw [if_neg Bool.false_ne_true, ← all_mid (p := p) hc' e]
      exact q _ h2
  · have e : i = x.cps.size := by omega
    subst e
    refine .inl ⟨Nat.le_refl _, ?_⟩
    have e2 : x.cps.toList.take x.cps.size = x.cps.toList := by
      rw [← Array.length_toList]
      exact List.take_length
    rw [e2] at ha
    rw [← ha]
    exact q _ h2
end Gd
namespace Gd
open PySem PySem.Spec PyProof.Rows L2 GxR Gx
/-- data of small texts, no deeper than n -/
def okN : Nat → PyData → Bool
  | _, .none => true
  | _, .bool _ => true
  | _, .int i => decide (i.natAbs.log2 < 1920)
  | _, .str x => decide (x.length ≤ 1000) && PyData.strOk x
  | n + 1, .tuple ds => decide (ds.length ≤ 1000) && ds.all (okN n)
  | _, _ => false
def OkD (d : PyData) : Prop := ∃ n, n ≤ 60 ∧ okN n d = true
theorem okN_int {n : Nat} {i : Int} (h : okN n (.int i) = true) : i.natAbs.log2 < 1920 := by
  cases n <;> exact of_decide_eq_true h
theorem okN_str {n : Nat} {x : Str} (h : okN n (.str x) = true) : x.length ≤ 1000 ∧ PyData.strOk x = true := by
  have h2 : (decide (x.length ≤ 1000) && PyData.strOk x) = true := by cases n <;> exact h
  rw [Bool.and_eq_true] at h2
  exact ⟨of_decide_eq_true h2.1, h2.2⟩
theorem okN_tup {n : Nat} {ds : List PyData} (h : okN n (.tuple ds) = true) : ∃ m, n = m + 1 ∧ ds.length ≤ 1000 ∧ ∀ d ∈ ds, okN m d = true := by
  cases n with
  | zero => cases h
  | succ m =>
    have h2 : (decide (ds.length ≤ 1000) && ds.all (okN m)) = true := h
    rw [Bool.and_eq_true, List.all_eq_true] at h2
    exact ⟨m, rfl, of_decide_eq_true h2.1, h2.2⟩
theorem OkD.str {x : Str} (h : OkD (.str x)) : x.length ≤ 1000 := let ⟨_, _, h⟩ := h; (okN_str h).1
theorem OkD.len {ds : List PyData} (h : OkD (.tuple ds)) : ds.length ≤ 1000 := by
  obtain ⟨_, _, h⟩ := h
  obtain ⟨m, _, h2, _⟩ := okN_tup h
  exact h2
theorem OkD.child {ds : List PyData} (h : OkD (.tuple ds)) {d : PyData} (hd : d ∈ ds) : OkD d := by
  obtain ⟨n, hn, h⟩ := h
  obtain ⟨m, rfl, _, h3⟩ := okN_tup h
  exact ⟨m, by omega, h3 d hd⟩
mutual
theorem okN_lay : ∀ (d : PyData) {n : Nat}, okN n d = true → d.canLay0 = true ∧ d.depth ≤ n
  | .none, n, _ => ⟨by simp only [PyData.canLay0], by simp only [PyData.depth]; omega⟩
  | .bool _, n, _ => ⟨by simp only [PyData.canLay0], by simp only [PyData.depth]; omega⟩
  | .int _, n, _ => ⟨by simp only [PyData.canLay0], by simp only [PyData.depth]; omega⟩
  | .str x, n, h => ⟨by simp only [PyData.canLay0]; exact (okN_str h).2, by simp only [PyData.depth]; omega⟩
  | .list xs, n, h => by cases n <;> cases h
  | .dict xs, n, h => by cases n <;> cases h
  | .tuple ds, n, h => by
    obtain ⟨m, e, _, h3⟩ := okN_tup h
    have q := okN_layAll ds h3
    simp only [PyData.canLay0, PyData.depth]
    exact ⟨q.1, by have := q.2; omega⟩
theorem okN_layAll : ∀ (ds : List PyData) {n : Nat}, (∀ d ∈ ds, okN n d = true) → PyData.canLayAll0 ds = true ∧ PyData.depthAll ds ≤ n
  | [], n, _ => ⟨by simp only [PyData.canLayAll0], by simp only [PyData.depthAll]; omega⟩
  | d :: ds, n, h => by
    have q := okN_lay d (h d List.mem_cons_self)
    have r := okN_layAll ds fun e he => h e (List.mem_cons_of_mem _ he)
    simp only [PyData.canLayAll0, PyData.depthAll, q.1, r.1, Bool.and_true]
    exact ⟨trivial, Nat.max_le.mpr ⟨q.2, r.2⟩⟩
end
theorem OkD.shaped {d : PyData} (h : OkD d) : SeqAt.shaped d = true := by
  obtain ⟨n, hn, h⟩ := h
  have q := okN_lay d h
  unfold SeqAt.shaped
  rw [q.1, Bool.true_and, decide_eq_true_eq]
  omega
theorem OkD.of {d : PyData} (h : okN 8 d = true) : OkD d := ⟨8, by decide, h⟩
theorem line1000 {n : Nat} (h : n ≤ 1000) : n ≤ sizeLine := Nat.le_of_lt (small1000 h)
/-- a test of one datum -/
def spData (K : PySem.W.Frag) (ts : List Addr) (p : PyData → Bool) : Sp := fun vs H Q _ => ∃ v d, vs = [v] ∧ Dt K H v d ∧ OkD d ∧ (∀ T ∈ ts, TabG H T) ∧ ∀ H', Kp H H' → Q (.bl (p d)) H'
end Gd
namespace Gd
open PySem PySem.Spec PyProof.Rows L2 GxR Gx
/-- a generator expression's scope without captured names -/
def genC (scope : Scope) (x : Str) : Bool := decide (scope.kind = .function) && !scope.isCoroutine && (scope.names.all fun y => !decide (y.2 = NameKind.cell) && !decide (y.2 = NameKind.free)) && decide (scope.names.lookup (".0" : Str) = some NameKind.local) && decide (scope.names.lookup x = some NameKind.local)
theorem genS_by {env : Env} {scope : Scope} {x : Str} (h : genC scope x = true) : GenS env scope x := by
  unfold genC at h
  simp only [Bool.and_eq_true, decide_eq_true_eq, Bool.not_eq_true', List.all_eq_true, decide_eq_false_iff_not] at h
  obtain ⟨⟨⟨⟨h1, h2⟩, h3⟩, h4⟩, h5⟩ := h
  exact ⟨h1, h2, fun y hy => (h3 y hy).1, h4, h5, fun y hy e => absurd e (h3 y hy).2⟩
theorem nd1 (x : Str) : (x :: capN []).Nodup := by simp [capN]
end Gd

/-! {elt for tg in iter}, its members ints or texts; len of it. -/
namespace Gd
open PySem PySem.Spec PyProof.Rows L2 GxR Gx

abbrev noKeys : Key → Bool := fun _ => false
abbrev addKey (S : Key → Bool) (k : Key) : Key → Bool := fun j => S j || decide (j = k)
theorem setK_fresh {P : Program} {w : World} {h : Heap} : (h.push { cls := .type "set", dict := none, data := .set #[] 0 (.fresh 0 0 (!w.params.followText "set-order")) }).SetOf (mixKind P w) h.objs.size noKeys 0 :=
  ⟨_, #[], 0, _, Heap.get?_push_size _ rfl, ⟨rfl, rfl, rfl⟩, rfl, (fun e he => by simp at he), (fun k => by simp), (by decide), (by rfl), rfl⟩
section
variable {X : Cx}
theorem addK_ok {pins : List (Addr × Obj)} {σ : L2.St} {H : Hp} {s : Shared} {E : Value → Shared → Prop} {D : Addr} {S : Key → Bool} {n : Nat} {k : Key} {u : Value} {Q : Value → Shared → Prop} (I : Inv X pins σ H s) (hD : H D = some (SetK X.prog X.w D S n)) (room : n + 1 < scanBound) (r : RelV (kV k) u)
    (h : ∀ s', Inv X pins σ (upd H D (SetK X.prog X.w D (addKey S k) (if S k = true then n else n + 1))) s' → Q .none s') : wpAny (model X.prog X.w) X.A (call (.builtin "set.add") [.ref D, u]) Q E s := by
  refine call_set_add (kV_is r) (key_scan r) (setK_get I hD) room fun h' sb new => ?_
  obtain ⟨ob, _, _, _, ho, _⟩ := id new
  exact h _ (I.write (e := D) (t' := s.toks + 1) (by rw [hD]; trivial) (.inl rfl) (fun b o hb q => (sb.2 b hb).trans q) ⟨ob, ho⟩ (setK_new new))

/-- the reading: D the new set; W by the turn and a measure -/
def tScK (P : Program) (w : World) (wi : TI) (g : TG) (te : TE) (vs : List Nat) : TE := fun σ H Q => wi σ H fun J H1 => ∀ D, H1 D = none → ∃ W : Nat → Nat → Hp → Prop, (∃ m, W 0 m (upd H1 D (SetK P w D noKeys 0))) ∧ ∀ i m H, W i m H →
  (J.stop i H ∧ Q (.ref D) H) ∨ (J.go i H ∧ ∃ Nx : Hp → Prop, (∀ H', Nx H' → ∃ m', m' < m ∧ W (i + 1) m' H') ∧ ∀ x H', J.yld i H x H' → g x (wipe σ vs) H' fun σ2 H2 => wipe σ2 vs = wipe σ vs ∧ te σ2 H2 fun y H4 =>
    ∃ (k : Key) (S : Key → Bool) (n : Nat), y = kV k ∧ H4 D = some (SetK P w D S n) ∧ n + 1 < scanBound ∧ Nx (upd H4 D (SetK P w D (addKey S k) (if S k = true then n else n + 1))))

theorem pe_scK {elt tg iter : Expr} {scope : Scope} {own : List (PySem.Str × Nat)} {pos : Pos} {wi : TI} {g : TG} {te : TE} (hc : X.calm = true) (hN : X.N.Nodup) (hi : PI X tg iter wi) (ok : BlkOk X.N X.env.scope scope own)
    (hg : ∀ (s : Shared) (H : Hp) (C : Addr) (cl : List (PySem.Str × Addr)) (fp : List Addr), PG (X.blk s H scope (compEnvC scope cl C X.env) fp) tg g) (_ : ∀ (s : Shared) (H : Hp) (C : Addr) (cl : List (PySem.Str × Addr)) (fp : List Addr), PTs (X.blk s H scope (compEnvC scope cl C X.env) fp) [] tYes)
    (he : ∀ (s : Shared) (H : Hp) (C : Addr) (cl : List (PySem.Str × Addr)) (fp : List Addr), PE (X.blk s H scope (compEnvC scope cl C X.env) fp) elt te) (hs : ∀ x, foldedSetIterable iter X.env x = pure x := by intro _; rfl) :
    PE X (.SetComp elt [⟨tg, iter, [], 0⟩] scope pos) (tScK X.prog X.w wi g te (own.map (·.2))) := by
  refine ⟨fun pins s σ H Q I h => ?_⟩
  rw [PpSet.eval_SetComp]
  have free : ∀ y ∈ scope.names, y.2 = .free → ∃ c, X.env.cells.lookup y.1 = some c := fun y hy e => (ok.free y hy e).elim (fun k => I.ok.has _ (.inl k)) fun k => I.ok.has _ (.inr k)
  refine wpAny_comprehension_free (use := none) rfl hs (closure_ok free) ok.kind (fun y hy e => by rw [ok.uniq y hy, e]) (thn (hi.run pins s σ H _ I h) fun xv s1 hx => thn hx fun itv s2 h2 => ?_)
  obtain ⟨it, fp, tn, J, H2, rfl, I2, T, st2, f2, q⟩ := h2
  refine PpSet.newSet_ok (newEnv_comp ?_)
  obtain ⟨W, ⟨m0, w0⟩, turn⟩ := q s2.heap.objs.size (I2.hok.fresh (Nat.le_refl _))
  -- the set
  let so : Obj := { cls := .type "set", dict := none, data := .set #[] 0 (.fresh 0 0 (!X.w.params.followText "set-order")) }
  let H3 : Hp := upd H2 s2.heap.objs.size (SetK X.prog X.w s2.heap.objs.size noKeys 0)
  let s3 : Shared := { s2 with heap := s2.heap.push so }
  have I3 : Inv X pins σ H3 s3 := I2.laid (t' := s2.toks) (fun b o e => Heap.get?_push_of_some _ e) (Nat.le_refl _) (setK_new setK_fresh)
  have f3 : ∀ b ∈ fp, FpOk X pins H3 b ∧ b < s3.heap.objs.size := fun b hb => by
    obtain ⟨o, e, _⟩ := T.obj _ _ st2 b hb
    have lt := Heap.lt_size e
    exact ⟨⟨by show upd _ _ _ b = none; rw [upd_ne (Nat.ne_of_lt lt)]; exact (f2 b hb).1, (f2 b hb).2⟩, by show b < (s2.heap.push so).objs.size; rw [Heap.size_push]; exact Nat.lt_succ_of_lt lt⟩
  have st3 : tn 0 s3.heap := T.keep _ _ _ st2 fun b _ o e => Heap.get?_push_of_some _ e
  -- the block
  have I4 := block_start I3 ok hN f3
  have pg := hg s3 H3 s3.heap.objs.size (cellsFrom (s3.heap.objs.size + 1) scope.names (cloFrom X.env.cells scope.names [])) fp
  have pe := he s3 H3 s3.heap.objs.size (cellsFrom (s3.heap.objs.size + 1) scope.names (cloFrom X.env.cells scope.names [])) fp
  let ce : Env := compEnvC scope (cellsFrom (s3.heap.objs.size + 1) scope.names (cloFrom X.env.cells scope.names [])) s3.heap.objs.size X.env
  let s4 : Shared := { s3 with heap := pushCells (s3.heap.push { cls := .type "dict", data := .dict #[] }) scope.names }
  have I4 : Inv (X.blk s3 H3 scope ce fp) [] (wipe σ (own.map (·.2))) H3 s4 := I4
  have st4 : tn 0 s4.heap := T.keep _ _ _ st3 fun b _ o e => pushCells_keeps _ _ _ _ (Heap.get?_push_of_some _ e)
  have stat : ∀ {σ' : L2.St} {H' : Hp} {s' : Shared}, Inv (X.blk s3 H3 scope ce fp) [] σ' H' s' → (∀ b ∈ fp, H' b = none) → ∀ b ∈ fp, FpOk (X.blk s3 H3 scope ce fp) [] H' b := fun {σ' H' s'} J' hn b hb =>
    ⟨hn b hb, (J'.ok.exf b hb).1, J'.ok.exfs b hb, .inl hb, fun x c e => (J'.ok.exf b hb).2 x c e, fun p hp => absurd (show p ∈ ([] : List (Addr × Obj)) ++ [] from hp) (by simp)⟩
  show codeAny _ _ (.compStart (.SetComp elt [⟨tg, iter, [], 0⟩] scope pos) 0 (.ref it) (.ref s2.heap.objs.size) ce) (compPost (model X.prog X.w) X.A X.xe none (EP X pins σ Q) (.ref s2.heap.objs.size) s3.heap.objs.size) s4
  refine PpSet.codeAny_compStart_set ?loop (T.self X.A 0 _ _ _ st4 ?loop)
  refine PpSet.compLoopS_any (fun n s' => ∃ i H', Inv (X.blk s3 H3 scope ce fp) [] (wipe σ (own.map (·.2))) H' s' ∧ tn i s'.heap ∧ (∀ b ∈ fp, H' b = none) ∧ W i n H') ?_ m0 ⟨0, H3, I4, st4, fun b hb => (f3 b hb).1.1, w0⟩
  rintro n s5 ⟨i, H5, I5, st5, n5, w5⟩
  rcases turn i n H5 w5 with ⟨stop, qq⟩ | ⟨go, Nx, hNx, step⟩
  · refine thnF (T.done (X.blk s3 H3 scope ce fp) rfl rfl rfl hc i [] s5 _ H5 (fun _ _ => False) I5 (stat I5 n5) st5 stop) fun r s6 ⟨hr, I6⟩ => ?_
    subst hr
    have I7 : Inv X pins σ H5 s6 := I3.call' (ch := fp) I6.os I6.base I6.hok I6.bare fun b hb => ⟨(f3 b hb).1.2.2.2.1, (f3 b hb).1.2.1, (f3 b hb).1.2.2.2.2.1, (f3 b hb).1.2.2.2.2.2⟩
    have fC := I3.fpOk (H' := H5) (Nat.le_refl _) (show H5 s3.heap.objs.size = none from I6.free)
    obtain ⟨m, hn, _⟩ := I6.loc
    refine ⟨m, hn, fun h'' sb => ?_⟩
    obtain ⟨f0, f1, _, f3', f4', f5'⟩ := fC
    exact ⟨.ref _, H5, I7.turned (t' := s6.toks) (fun b o hb e => (sb.2 b hb).trans e) f0 f1 f3' f4' f5', rfl, qq⟩
  · refine thnF (T.item (X.blk s3 H3 scope ce fp) rfl rfl rfl hc i [] s5 _ H5 (fun _ _ => False) I5 (stat I5 n5) st5 go) fun r s6 ⟨u, hr, h6⟩ => ?_
    subst hr
    refine thnF h6 fun _ s7 ⟨x, H7, I7, r7, y7, st7, n7⟩ => ?_
    refine thnF (pg.run _ s7 _ H7 x u _ (I7.pinned (stat I7 n7) (T.obj _ _ st7)) r7 (step x H7 y7)) fun _ s8 ⟨σ8, H8, I8, hw8, q8⟩ => ?_
    refine wpAny_tests_nil ?_
    simp only [if_true]
    refine thnF (pe.run _ s8 σ8 H8 _ I8 q8) fun z s9 ⟨yv, H9, I9, r9, k, S0, n0, ey, hD9, room, nx⟩ => ?_
    subst ey
    refine addK_ok (X := X.blk s3 H3 scope ce fp) I9 hD9 room r9 fun s10 I10 => ?_
    obtain ⟨m', hm, w'⟩ := hNx _ nx
    have still : ∀ b ∈ fp, ∀ o, s7.heap.get? b = some o → s10.heap.get? b = some o ∧ _ = none := fun b hb o e =>
      let z := I10.pin (b, o) (List.mem_append_right _ (List.mem_append_right _ (mem_pinsAt hb e)))
      ⟨z.1, z.2.1⟩
    refine ⟨m', hm, i + 1, _, (I10.unpinned (pins := [])).weak (show (wipe σ (own.map (·.2))).length = σ8.length by rw [← hw8, wipe_length]) (fun j v e => ?_), T.keep _ _ _ st7 fun b hb o e => (still b hb o e).1, fun b hb => ?_, w'⟩
    · rw [← hw8] at e
      exact (wipe_some e).1
    · obtain ⟨o, e, _⟩ := T.obj _ _ st7 b hb
      exact (still b hb o e).2

/-- len of a set of keys -/
def rLenK (P : Program) (w : World) : List V → Hp → VK → Prop := fun xs H Q => ∃ (a : Addr) (S : Key → Bool) (n : Nat), xs = [.ref a] ∧ H a = some (SetK P w a S n) ∧ Q (.int n) H
theorem call_lenK : CallR X (.builtin "len") (rLenK X.prog X.w) := by
  intro pins s σ H xs us Q I r h
  obtain ⟨a, S, n, rfl, ha, q⟩ := h
  obtain ⟨u, rfl, ru⟩ := vals1 r
  cases ru
  obtain ⟨o, es, ep, t, ho, hx, hd, he, hm, hb, hf, hn⟩ := setK_get I ha
  have h4 : scanBound = 4096 := rfl
  exact call_len_set ho hx hd hf (by omega) ⟨.int n, H, I.tok _, ⟨_, by rw [hn]⟩, q⟩

/-! ### the members of a row: as many as there are different ones -/
theorem snoc_ind {α : Type} {p : List α → Prop} (h0 : p []) (h1 : ∀ l a, p l → p (l ++ [a])) (l : List α) : p l := by
  have h : ∀ r : List α, p r.reverse := fun r => by
    induction r with
    | nil => exact h0
    | cons a r ih =>
      rw [List.reverse_cons]
      exact h1 _ _ ih
  have q := h l.reverse
  rw [List.reverse_reverse] at q
  exact q
/-- what a walk over keys leaves -/
def keysOf (ks : List Key) : (Key → Bool) × Nat := ks.foldl (fun p k => (addKey p.1 k, if p.1 k = true then p.2 else p.2 + 1)) (noKeys, 0)
theorem keysOf_snoc (ks : List Key) (k : Key) : keysOf (ks ++ [k]) = (addKey (keysOf ks).1 k, if (keysOf ks).1 k = true then (keysOf ks).2 else (keysOf ks).2 + 1) := by
  unfold keysOf
  rw [List.foldl_append]
  rfl
theorem keysOf_mem (ks : List Key) (j : Key) : (keysOf ks).1 j = true ↔ j ∈ ks := by
  refine snoc_ind (p := fun ks => (keysOf ks).1 j = true ↔ j ∈ ks) (by simp [keysOf]) (fun ks k ih => ?_) ks
  · rw [keysOf_snoc]
    show (_ || _) = true ↔ _
    rw [Bool.or_eq_true, decide_eq_true_eq, ih]
    simp
theorem keysOf_le (ks : List Key) : (keysOf ks).2 ≤ ks.length := by
  refine snoc_ind (p := fun ks => (keysOf ks).2 ≤ ks.length) (by simp [keysOf]) (fun ks k ih => ?_) ks
  · rw [keysOf_snoc, List.length_append, List.length_singleton]
    show (if (keysOf ks).1 k = true then (keysOf ks).2 else (keysOf ks).2 + 1) ≤ ks.length + 1
    have ih : (keysOf ks).2 ≤ ks.length := ih
    split <;> omega
theorem keysOf_all (ks : List Key) : (keysOf ks).2 = ks.length ↔ ks.Nodup := by
  refine snoc_ind (p := fun ks => (keysOf ks).2 = ks.length ↔ ks.Nodup) (by simp [keysOf]) (fun ks k ih => ?_) ks
  · have hle := keysOf_le ks
    rw [keysOf_snoc, List.length_append, List.length_singleton, List.nodup_append]
    show (if (keysOf ks).1 k = true then (keysOf ks).2 else (keysOf ks).2 + 1) = ks.length + 1 ↔ _
    have ih : (keysOf ks).2 = ks.length ↔ ks.Nodup := ih
    by_cases h : (keysOf ks).1 k = true
    · rw [if_pos h]
      have hm := (keysOf_mem ks k).mp h
      constructor
      · intro e
        omega
      · intro n
        exact absurd rfl (n.2.2 k hm k (List.mem_singleton.mpr rfl))
    · rw [if_neg h]
      have hm : k ∉ ks := fun z => h ((keysOf_mem ks k).mpr z)
      constructor
      · intro e
        refine ⟨ih.mp (by omega), by simp, fun a ha b hb => ?_⟩
        rw [List.mem_singleton.mp hb]
        exact fun z => hm (z ▸ ha)
      · intro n
        have := ih.mpr n.1
        omega
end
end Gd

/-! Walks over tuples of data. -/
namespace Gd
open PySem PySem.Spec PyProof.Rows L2 GxR Gx
section
variable {K : PySem.W.Frag}
theorem all_takeD {p : PyData → Bool} {l : List PyData} {i : Nat} {d : PyData} (hd : l[i]? = some d) (h : (l.take i).all p = true) : (l.take (i + 1)).all p = p d := by
  rw [List.take_add_one, hd, List.all_append, h, Bool.true_and]
  simp
theorem all_midD {p : PyData → Bool} {l : List PyData} {i : Nat} {d : PyData} (hd : l[i]? = some d) (h : p d = false) : l.all p = false := by
  rw [List.all_eq_false]
  exact ⟨d, List.mem_of_getElem? hd, by rw [h]; exact Bool.false_ne_true⟩
/-- all(test for x in tuple) -/
theorem all_tup {T a : Addr} {xs : List V} {ds : List PyData} {te : TE} {p : PyData → Bool} {H1 : Hp} {Q : VK} {σ : L2.St} (hT : TabG H1 T) (h : SqT K H1 a xs) (hs : DtAll K H1 xs ds)
    (ht : ∀ (v : V) (d : PyData) (H : Hp) (Q' : VK), d ∈ ds → Dt K H v d → Kp H1 H → (∀ H', Kp H H' → Q' (.bl (p d)) H') → te [some v] H Q') (q : ∀ H', Kp H1 H' → Q (.bl (ds.all p)) H') :
    TabG H1 T ∧ ∀ H2, Tabbed T H1 H2 → ∃ W : Nat → Nat → Hp → Prop, (∃ m, W 0 m H2) ∧ ∀ i m H, W i m H → ((Itt K a).stop i H ∧ Q (.bl true) H) ∨
      ((Itt K a).go i H ∧ ∃ Nx : Hp → Prop, (∀ H', Nx H' → ∃ m', m' < m ∧ W (i + 1) m' H') ∧ ∀ y H', (Itt K a).yld i H y H' → gName 0 y (none :: capV σ []) H' fun σ2 H3 =>
        (∀ (j : Nat) v, (none :: capV σ [] : L2.St)[j]? = some (some v) → σ2[j]? = some (some v)) ∧ te σ2 H3 fun y H5 => ∃ c, y = .bl c ∧ if c = true then Nx H5 else Q (.bl false) H5) := by
  refine ⟨hT, fun H2 h2 => ⟨fun i m H => Kp H1 H ∧ m = xs.length - i ∧ i ≤ xs.length ∧ (ds.take i).all p = true, ⟨_, Kb.tabbed h2 hT, rfl, Nat.zero_le _, by simp⟩, ?_⟩⟩
  rintro i m H ⟨k, rfl, hi, ha⟩
  have hq := k.sqT Lsts.nil h
  have hds := DtAll.kb k Lsts.nil hs
  by_cases hl : i < xs.length
  · obtain ⟨v, hv⟩ : ∃ v, xs[i]? = some v := ⟨xs[i], List.getElem?_eq_getElem hl⟩
    obtain ⟨d, hd, hvd⟩ := hds.get hv
    refine .inr ⟨⟨xs, v, hq, hv⟩, fun H' => Kp H1 H' ∧ (ds.take (i + 1)).all p = true, fun H' ⟨e, a⟩ => ⟨xs.length - (i + 1), by omega, e, rfl, hl, a⟩, fun y H' hy => ?_⟩
    obtain ⟨rfl, hy⟩ := hy
    have ey : v = y := Option.some.inj (hv.symm.trans (hy xs hq))
    subst ey
    refine ⟨nil_slots, ht v d _ _ (List.mem_of_getElem? hd) hvd k fun H5 k5 => ⟨p d, rfl, ?_⟩⟩
    cases e : p d with
    | true =>
      rw [if_pos rfl]
      exact ⟨k.trans k5, by rw [all_takeD hd ha, e]⟩
    | false =>
      rw [if_neg Bool.false_ne_true, ← all_midD (p := p) hd e]
      exact q _ (k.trans k5)
  · have e : i = xs.length := by omega
    subst e
    refine .inl ⟨⟨xs, hq, Nat.le_refl _⟩, ?_⟩
    have e2 : ds.take xs.length = ds := by
      rw [hs.length]
      exact List.take_length
    rw [e2] at ha
    rw [← ha]
    exact q _ k
/-- {e for x in tuple}, each member known -/
theorem scK_tup {P : Program} {w : World} {a : Addr} {xs : List V} {ks : List Key} {te : TE} {H1 : Hp} {Q : VK} {σ : L2.St} {j : Nat} (h : SqT K H1 a xs) (hl : ks.length = xs.length) (hn : xs.length ≤ 1000) (hj : j < σ.length)
    (ht : ∀ (i : Nat) (v : V) (k : Key) (H : Hp) (Q' : VK), xs[i]? = some v → ks[i]? = some k → Kp H1 H → Q' (kV k) H → te ((wipe σ [j]).set j (some v)) H Q')
    (q : ∀ D H', H1 D = none → Kp H1 H' → H' D = some (SetK P w D (keysOf ks).1 (keysOf ks).2) → Q (.ref D) H') :
    ∀ D, H1 D = none → ∃ W : Nat → Nat → Hp → Prop, (∃ m, W 0 m (upd H1 D (SetK P w D noKeys 0))) ∧ ∀ i m H, W i m H →
      ((Itt K a).stop i H ∧ Q (.ref D) H) ∨ ((Itt K a).go i H ∧ ∃ Nx : Hp → Prop, (∀ H', Nx H' → ∃ m', m' < m ∧ W (i + 1) m' H') ∧ ∀ x H', (Itt K a).yld i H x H' → gName j x (wipe σ [j]) H' fun σ2 H2 => wipe σ2 [j] = wipe σ [j] ∧ te σ2 H2 fun y H4 =>
        ∃ (k : Key) (S : Key → Bool) (n : Nat), y = kV k ∧ H4 D = some (SetK P w D S n) ∧ n + 1 < scanBound ∧ Nx (upd H4 D (SetK P w D (addKey S k) (if S k = true then n else n + 1)))) := by
  intro D hD
  refine ⟨fun i m H => m = xs.length - i ∧ i ≤ xs.length ∧ Kp H1 H ∧ H D = some (SetK P w D (keysOf (ks.take i)).1 (keysOf (ks.take i)).2), ⟨_, rfl, Nat.zero_le _, Kb.new hD, upd_same⟩, ?_⟩
  rintro i m H ⟨rfl, hi, k, hs⟩
  have hq := k.sqT Lsts.nil h
  by_cases hl2 : i < xs.length
  · obtain ⟨v, hv⟩ : ∃ v, xs[i]? = some v := ⟨xs[i], List.getElem?_eq_getElem hl2⟩
    obtain ⟨ky, hk⟩ : ∃ y, ks[i]? = some y := ⟨ks[i], List.getElem?_eq_getElem (by omega)⟩
    refine .inr ⟨⟨xs, v, hq, hv⟩, fun H' => Kp H1 H' ∧ H' D = some (SetK P w D (keysOf (ks.take (i + 1))).1 (keysOf (ks.take (i + 1))).2), fun H' ⟨a, b⟩ => ⟨xs.length - (i + 1), by omega, rfl, hl2, a, b⟩, fun x H' hy => ?_⟩
    obtain ⟨rfl, hy⟩ := hy
    have ey : v = x := Option.some.inj (hv.symm.trans (hy xs hq))
    subst ey
    refine ⟨?_, ht i v ky _ _ hv hk k ⟨ky, _, _, rfl, hs, ?_, ?_, ?_⟩⟩
    · show ((wipe σ [j]).set j (some v)).set j none = wipe σ [j]
      unfold wipe wipe
      rw [List.set_set, List.set_set]
    · have h1 := keysOf_le (ks.take i)
      rw [List.length_take] at h1
      show _ + 1 < 4096
      omega
    · exact k.mut hD (no_tab hs nt_ext)
    · rw [upd_same, List.take_add_one, hk]
      show some (SetK P w D _ _) = some (SetK P w D (keysOf (ks.take i ++ [ky])).1 (keysOf (ks.take i ++ [ky])).2)
      rw [keysOf_snoc]
  · have e : i = xs.length := by omega
    subst e
    refine .inl ⟨⟨xs, hq, Nat.le_refl _⟩, q D H hD k ?_⟩
    rw [← hl, List.take_length] at hs
    exact hs
end
end Gd
namespace Gd
open PySem PySem.Spec PyProof.Rows L2 GxR Gx
/-! ### rules whose reading names the written part by a letter, for the blocks of comprehensions -/
section
variable {X : Cx} {K : PySem.W.Frag}
theorem ix_tupK (h : X.K = K) : IxR X (rIxT K) := h ▸ ix_tup
theorem ix_listK (h : X.K = K) : IxR X (rIxL K) := h ▸ ix_list
theorem call_isiL (h : X.K = K) : CallR X (.builtin "isinstance") (rIsi K) := h ▸ call_isi
theorem call_len_seqK (h : X.K = K) : CallR X (.builtin "len") (fun xs H Q => ∃ p ys, xs = [.ref p] ∧ (SqL K H p ys ∨ SqT K H p ys) ∧ Q (.int ys.length) H) := h ▸ call_len_seq
theorem op_eqDK (h : X.K = K) (hu : X.A.units + 64 < cLine) : OpR X (compareOp .Eq) (rEqD K) := h ▸ op_eqD hu
theorem op_neDK (h : X.K = K) (hu : X.A.units + 64 < cLine) : OpR X (compareOp .NotEq) (rNeD K) := h ▸ op_neD hu
end
end Gd
namespace Gd
open PySem PySem.Spec PyProof.Rows L2 GxR Gx
section
variable {K : PySem.W.Frag} {T : Addr} {te : TE} {H : Hp} {Q : VK} {σ : L2.St} {i : Nat}
theorem rd_all_str {x : Str} {p : Nat → Bool} (hx : σ[i]? = some (some (.str x))) (hT : TabG H T)
    (ht : ∀ c ∈ x.cps.toList, ∀ (H : Hp) (Q' : VK), Q' (.bl (p c)) H → te [some (.str ⟨#[c]⟩)] H Q') (q : ∀ H2, Kp H H2 → Q (.bl (x.cps.toList.all p)) H2) : tAllG T (iStr (tVar i)) (gName 0) te [] σ H Q :=
  ⟨.str x, hx, x, rfl, all_str (p := p) hT ht fun H2 h2 => q H2 (Kb.tabbed h2 hT)⟩
theorem rd_all_tup {a : Addr} {xs : List V} {ds : List PyData} {p : PyData → Bool} (hx : σ[i]? = some (some (.ref a))) (hT : TabG H T) (h : SqT K H a xs) (hs : DtAll K H xs ds)
    (ht : ∀ (v : V) (d : PyData) (H' : Hp) (Q' : VK), d ∈ ds → Dt K H' v d → Kp H H' → (∀ H2, Kp H' H2 → Q' (.bl (p d)) H2) → te [some v] H' Q') (q : ∀ H', Kp H H' → Q (.bl (ds.all p)) H') : tAllG T (iTup K (tVar i)) (gName 0) te [] σ H Q :=
  ⟨.ref a, hx, a, rfl, ⟨xs, h⟩, all_tup (p := p) hT h hs ht q⟩
theorem rd_scK_tup {P : Program} {w : World} {a : Addr} {xs : List V} {ks : List Key} {j : Nat} (hx : σ[i]? = some (some (.ref a))) (h : SqT K H a xs) (hl : ks.length = xs.length) (hn : xs.length ≤ 1000) (hj : j < σ.length)
    (ht : ∀ (i : Nat) (v : V) (k : Key) (H' : Hp) (Q' : VK), xs[i]? = some v → ks[i]? = some k → Kp H H' → Q' (kV k) H' → te ((wipe σ [j]).set j (some v)) H' Q')
    (q : ∀ D H', H D = none → Kp H H' → H' D = some (SetK P w D (keysOf ks).1 (keysOf ks).2) → Q (.ref D) H') : tScK P w (iTup K (tVar i)) (gName j) te [j] σ H Q :=
  ⟨.ref a, hx, a, rfl, ⟨xs, h⟩, scK_tup h hl hn hj ht q⟩
end
end Gd

/-! Defs that may raise an own error with one field; the error caught. -/
namespace Gd
open PySem PySem.Spec PyProof.Rows L2 GxR Gx
/-- what a caller of a def that may raise needs -/
def CalX (P : Program) (w : World) (K : PySem.W.Frag) (mg : Str → Option Value) (base : Heap) (k : Nat) (x : Str) (ps : List Str) (sp : Sp) : Prop :=
  ∃ f fd, FnG P w K mg base (L2.CX P w) k f fd ps sp ∧ mg x = some (.ref f) ∧ PySem.W.keepIn K (.ref f) = true ∧ Binds K fd ps []
section
variable {P : Program} {w : World} {K : PySem.W.Frag} {mg : Str → Option Value} {base : Heap}
theorem DefAt.calX {x : Str} {st : Stmt} {N ps : List Str} {k : Nat} {sp : Sp} (D : DefAt K mg x st ps) (S : FnScope N ps (defScope st)) (len : ∀ vs H Q E, sp vs H Q E → vs.length = ps.length)
    (hb : ∀ (f : Addr) (cdv : Value) (A : Around) (outer : List Env) (s : Shared) (H : Hp) (vs : List V) (Q : VK) (E : XK), RoomG k (A.deeper (envOfC x (defScope st) s.heap.objs.size f cdv)) → sp vs H Q E →
      ∃ t, PSs (cxOf (L2.CX P w) P w K mg base N x (defScope st) f cdv A outer s H E) (defBody st) t ∧ t { nx := fun _ H' => Q .non H', rt := Q } (start N vs) H) : CalX P w K mg base (k + 1) x ps sp := by
  obtain ⟨f, fd, F, g, b⟩ := D
  exact ⟨f, fd, okGX F S len (hb f), g, F.kp, b⟩
end
section
variable {X : Cx} {k : Nat} {ps : List Str} {sp : Sp} {x : Str} {p pos : Pos} {e : Expr} {es : List Expr} {t : TA} {E : L2.St → XK}
theorem pe_calX (C : CalX X.prog X.w X.K X.mg X.base k x ps sp) (hr : RoomG k X.A) (hg : Gl X x) (hx : ∀ σ, PassesAt (L2.CX X.prog X.w) X σ (E σ)) (ha : PA X (e :: es) t) (hdb : (x == ("__debug__" : Str)) = false := by decide)
    (he : starEach (e :: es) X.env = (false, eval e X.env) :: starEach es X.env := by rfl) (hpl : (backTo pos (starEach es X.env)).any (·.1) = false := by rfl) : PE X (.Call (.Name x p) (e :: es) [] pos) (tCallS sp E t) := by
  obtain ⟨f, fd, F, g, kp, b⟩ := C
  refine ⟨fun pins s σ H Q I h => wpAny_Call_Name_kw (ld_glob I hg g ?_ hdb)⟩
  refine PySem.W.callWith_K (h₀ := X.base) I.ok.mod.kin kp (thn (ha.run pos pins s σ H _ I h) fun us s1 ⟨vs, H1, I1, rv, q1⟩ => ⟨I1.kIn, ?_⟩) he hpl
  have hl : us.length = ps.length := by
    rw [← rv.length]
    exact F.len _ _ _ _ q1
  have bb := b s1 us I1.kIn (by rw [List.append_nil]; exact hl)
  rw [List.append_nil] at bb
  refine wpAny_call (codeAny_mono (F.run X.A X.stack s1 H1 ⟨us, []⟩ us vs Q (E σ) hr I1.env0 bb rv q1) fun r s' hq => ?_)
  cases r with
  | error er => exact hx σ pins H1 s1 er s' I1 hq
  | ok fl =>
    cases fl with
    | ret u => exact I1.after hq
    | _ => exact hq.elim
end
/-- __init__ that stores its one argument -/
def spInit (K : PySem.W.Frag) (fld : Str) : Sp := fun vs H Q _ => ∃ (a C : Addr) (y : V), vs = [.ref a, y] ∧ OexC K C ∧ PySem.W.findIn K (.ref C) fld = some none ∧ H a = some (exo a C none) ∧
  ∀ dx, H dx = none → dx ≠ a → Q .non (upd (upd H dx (exd dx [(fld, y)])) a (exo a C (some dx)))
theorem rd_raise {K : PySem.W.Frag} {C : Addr} {fld : Str} {σ : L2.St} {H : Hp} {Q : XK} {i : Nat} {v : V} (T : OexC K C) (hno : PySem.W.findIn K (.ref C) fld = some none) (hv : σ[i]? = some (some v)) (q : ∀ d H', Kp H H' → H' d = some (.xd [(fld, v)]) → Q (.ref C) (some d) H') :
    tMkO C (spInit K fld) [] (tCons (tVar i) tNil) σ H Q := by
  refine ⟨v, hv, by show 1 ≤ 1000; decide, fun a ha => ⟨a, C, v, rfl, T, hno, upd_same, fun dx hdx hne => ?_⟩⟩
  have hd : H dx = none := by rw [upd_ne hne] at hdx; exact hdx
  refine ⟨rfl, dx, [(fld, v)], upd_same, by rw [upd_ne hne]; exact upd_same, hd, q dx _ ⟨fun b o e _ _ => ?_, fun T' hT => ?_, fun b e => ?_⟩ upd_same⟩
  · have h1 : b ≠ a := ne_of_none e ha
    have h2 : b ≠ dx := ne_of_none e hd
    rw [upd_ne h2, del_ne h1, upd_ne h1, upd_ne h2, upd_ne h1]
    exact e
  · obtain ⟨ps, e, t⟩ := hT
    have h1 : T' ≠ a := ne_of_none e ha
    have h2 : T' ≠ dx := ne_of_none e hd
    exact ⟨ps, by rw [upd_ne h2, del_ne h1, upd_ne h1, upd_ne h2, upd_ne h1]; exact e, t⟩
  · by_cases h2 : b = dx
    · rw [h2]
      exact hd
    · by_cases h1 : b = a
      · rw [h1]
        exact ha
      · rw [upd_ne h2, del_ne h1, upd_ne h1, upd_ne h2, upd_ne h1] at e
        exact e
/-- isinstance of the error that the suite holds -/
structure ExcK (K : PySem.W.Frag) (C : Addr) : Prop where
  cl : (PySem.W.clsIn K C).isSome = true
  ga : PySem.W.findIn K (.ref C) "__getattribute__" = some (some (.builtin "BaseException.__getattribute__"))
  gg : PySem.W.findIn K (.ref C) "__getattr__" = some none
  sub : PySem.W.subIn K (.ref C) (.type "BaseException") = some true
  ca : PySem.W.findIn K (.ref C) "__class__" = some (some (.builtin "object.__class__"))
  sg : PySem.W.specialIn K (.builtin "object.__class__") "__get__" = some (some (.builtin "getset_descriptor.__get__"))
  tk : PySem.W.takesIn K (.builtin "object.__class__") = some true
  mo : PySem.W.mroIn K C (.type "object") = some true
def rIsX (K : PySem.W.Frag) (C a : Addr) (cls : Value) (d : Option Addr) : List V → Hp → VK → Prop := fun xs H Q => ∃ (c : V) (cv : Value) (b : Bool) (dd : Addr) (fs : List (Str × V)), xs = [.ref a, c] ∧ cls = .ref C ∧ d = some dd ∧ H dd = some (.xd fs) ∧ (∀ u, RelV c u → u = cv) ∧ PySem.W.kitOne K (.ref C) cv = some b ∧ Q (.bl b) H
theorem call_isX {X : Cx} {a C : Addr} {oe : Obj} {cls : Value} {d : Option Addr} {pn : List (Addr × Obj)} (T : ExcK X.K C) (hz : Zc cls d oe) (hf : ∃ vs, oe.data = .fields vs) : CallR (X.suite a ((a, oe) :: pn)) (.builtin "isinstance") (rIsX X.K C a cls d) := by
  intro pins s σ H xs us Q I r h
  obtain ⟨c, cv, b, dd, fs, rfl, rfl, rfl, ed, hcv, e, q⟩ := h
  obtain ⟨vs, hv⟩ := hf
  have at_ := (I.pin (a, oe) (List.mem_append.mpr (.inl List.mem_cons_self))).1
  obtain ⟨mA, ⟨od, es, ep, ho, _⟩, _⟩ := (show ObjOk X.prog X.w H s.heap dd (.xd fs) from I.hok dd _ ed)
  have J : PySem.W.InstAt s.heap a oe C (some od) := by
    obtain ⟨oc, odc, oda, osl⟩ := oe
    obtain ⟨z1, z2⟩ := hz
    dsimp only at z1 z2 hv
    subst z1 z2 hv
    exact ⟨at_, rfl, rfl, ho⟩
  cases r with
  | cons rx rr =>
    cases rr with
    | cons rt rr =>
      cases rr
      cases rx
      cases hcv _ rt
      exact PySem.W.kia_one (PySem.W.kitx_exc T.cl T.ga T.gg T.sub T.ca T.sg T.tk T.mo) I.kIn J e (fun z => nomatch z) fun tk => ⟨.bl b, H, I.kept (t' := tk) fun _ _ z => z, rfl, q⟩
end Gd

/-! The end: the facts of the top, with the tables of code objects that the head leaves. -/
namespace Gd
open PySem PySem.Spec PyProof.Rows L2 GxR Gx
theorem walk_G2 {l : PySem.W.OpenLaw} {n k : Nat} {q : Program} {loose : List Str} {XP : (Str → Option Value) → Heap → Prop} {YP : World → Heap → Prop} {d : DefRec} {K : Params → PySem.W.Frag} {CX : World → CXT} {x : Str}
    (hn : l.most = some n) (hn2 : n ≤ sizeLine) (hdf : d.params.defaults = []) (hr : RoomG k callerA) (hY : ∀ (w : World) (h : Heap), YP w h → (K w.params).In h)
    (F : ∀ (w : World) (mg : Str → Option Value) (fa : Addr) (h : Heap), YP w h → (K w.params).In h → h.Ns mainGlobals mg → mg d.name = some (.ref fa) →
      (∀ (y : Str) (d' : DefRec) (c P : Addr), (recsOf q).find? (fun e => e.name == y) = some d' → PySem.W.tabIn (K w.params) y = some (c, P) → PySem.W.CodeHd h c P ∧ h.get? P = some { cls := .none, data := .fields #[] }) → LawG l w (K w.params) (CX w) k n x mg fa h)
    (hCX : ∀ (w : World) (H : Hp) (s : Shared) (e : Value) (s' : Shared), CX w [] H s (fun _ _ _ => False) e s' → False) :
    PySem.W.WalkO q loose XP YP l.row.toRowW d [] (fun f vs => PySem.call f vs) := by
  refine Att.attach_callB hn hdf fun w s0 s1 mg mb fa o pm cd doc a vs ns G Y ho hd hcd hmg hobj hints hlen hbits hg => ?_
  obtain ⟨fd, cs, sp, hT, nT, C, hb, hsp, hF⟩ := F w mg fa _ Y (hY w _ Y) G.T.g hmg fun y d' c P hr ht => PySem.W.tab_of G.T (hY w _ Y) hr ht
  exact law_endG (hY w _ Y) G.T.g G.T.b G.T.builtins G.T.nolimit hg hT nT C G.T.bmain hobj hints (Nat.le_trans hlen hn2) hr hF hb (fun H hH hS => hsp H a ns hlen hbits hH hS) fun H e s' => hCX w H s1 e s'
/-- the def x, its code object at c -/
def DefC (K : PySem.W.Frag) (mg : Str → Option Value) (x : Str) (st : Stmt) (ps : List Str) (c : Addr) : Prop := ∃ f fd, Fun K x x st f fd ∧ mg x = some (.ref f) ∧ Binds K fd ps [] ∧ fd.code = .ref c
theorem DefC.tab {K : PySem.W.Frag} {mg : Str → Option Value} {base : Heap} {x : Str} {st : Stmt} {ps : List Str} {c T : Addr} (D : DefC K mg x st ps c) (B : TabB base mg c T) : DefTab K mg base x st ps T :=
  let ⟨f, fd, F, g, b, e⟩ := D; ⟨f, fd, c, F, g, b, e, B⟩
section
variable {K : PySem.W.Frag} {h : Heap} {mg : Str → Option Value} {x : Str} {st : Stmt} {ps : List Str} {f c T : Addr} {od an od1 : Option Addr} {sl sl1 : Array (Option Value)} {oc kV dc pm cd ct oc1 : Value} {vs : Array Value}
theorem def_k (X : K.In h) (G : h.Ns mainGlobals mg) (a : PySem.W.nsIn K mainGlobals x = some (some (.ref f))) (l : K.lookup f = some ⟨oc, od, .func (PySem.W.fnOf x x (defArgs st) (defBody st) (defScope st) .none kV dc pm an cd ct), sl⟩) (c : PySem.W.codeIn K cd x = true) (k : PySem.W.keepIn K (.ref f) = true)
    (b : ∀ (kV doc pm : Value) (an : Option Addr) (cdv ct : Value) (us : List Value), us.length = ps.length → bindArgs (PySem.W.fnOf x x (defArgs st) (defBody st) (defScope st) .none kV doc pm an cdv ct) ⟨us, []⟩ = pure (ps.zip us)) : DefAt K mg x st ps :=
  ⟨f, _, fun_mk l c k, PySem.W.mg_of X G a, (fun_mk l c k).binds b⟩
theorem def_c (X : K.In h) (G : h.Ns mainGlobals mg) (a : PySem.W.nsIn K mainGlobals x = some (some (.ref f))) (l : K.lookup f = some ⟨oc, od, .func (PySem.W.fnOf x x (defArgs st) (defBody st) (defScope st) .none kV dc pm an (.ref c) ct), sl⟩) (cc : PySem.W.codeIn K (.ref c) x = true) (k : PySem.W.keepIn K (.ref f) = true)
    (l1 : K.lookup c = some ⟨oc1, od1, .fields vs, sl1⟩) (hv : vs[11]? = some (.ref T))
    (b : ∀ (kV doc pm : Value) (an : Option Addr) (cdv ct : Value) (us : List Value), us.length = ps.length → bindArgs (PySem.W.fnOf x x (defArgs st) (defBody st) (defScope st) .none kV doc pm an cdv ct) ⟨us, []⟩ = pure (ps.zip us)) : DefC K mg x st ps c ∧ PySem.W.tabIn K x = some (c, T) := by
  refine ⟨⟨f, _, fun_mk l cc k, PySem.W.mg_of X G a, (fun_mk l cc k).binds b, rfl⟩, ?_⟩
  unfold PySem.W.tabIn
  rw [a]
  show (match K.lookup f with
    | some ⟨_, _, .func fd, _⟩ => _
    | _ => none) = _
  rw [l]
  show (match K.lookup c with
    | some ⟨_, _, .fields vs, _⟩ => _
    | _ => none) = _
  rw [l1]
  show (match (vs[11]? : Option Value) with
    | some (.ref P) => some (c, P)
    | _ => none) = _
  rw [hv]
theorem law_k {fa : Addr} {p1 : Str} (X : K.In h) (G : h.Ns mainGlobals mg) (hfa : mg x = some (.ref fa)) (a : PySem.W.nsIn K mainGlobals x = some (some (.ref f))) (l : K.lookup f = some ⟨oc, od, .func (PySem.W.fnOf x x (defArgs st) (defBody st) (defScope st) .none kV dc pm an cd ct), sl⟩) (c : PySem.W.codeIn K cd x = true) (k : PySem.W.keepIn K (.ref f) = true)
    (b : ∀ (kV doc pm : Value) (an : Option Addr) (cdv ct : Value) (s : Shared) (u : Value), BindsTo s (PySem.W.fnOf x x (defArgs st) (defBody st) (defScope st) .none kV doc pm an cdv ct) ⟨[u], []⟩ [(p1, u)]) : ∃ fd, Fun K x x st fa fd ∧ ∀ (s : Shared) (u : Value), BindsTo s fd ⟨[u], []⟩ [(p1, u)] := by
  have e := hfa.symm.trans (PySem.W.mg_of X G a)
  cases e
  exact ⟨_, fun_mk l c k, b _ _ _ _ _ _⟩
theorem glob_k {t : Tok} {i : Int} (X : K.In h) (G : h.Ns mainGlobals mg) (a : PySem.W.nsIn K mainGlobals x = some (some (.int i t))) : ∃ t, mg x = some (.int i t) := ⟨t, PySem.W.mg_of X G a⟩
theorem no_tabs (X : K.In h) (hK : PySem.W.noTabs K = true) (hT : h.get? T = some { cls := .none, data := .fields #[] }) : K.lookup T = none := by
  cases e : K.lookup T with
  | none => rfl
  | some o =>
    have h1 := X T o e
    rw [hT] at h1
    cases h1
    have h2 := List.all_eq_true.mp hK _ (PySem.W.mem_of_lookupK e)
    exact absurd (show false = true from h2) Bool.false_ne_true
end
end Gd

/-! max(xs, default=d) of a list of ints -/
namespace MxD
open PySem PyProof.Rows
theorem argsD (a d : Value) : argsOk "max" ⟨[a], [(Str.ofString "default", d)]⟩ := by unfold argsOk; kernel_rfl
theorem nm : (toString "max" ++ toString ".loop" : String) = "max.loop" := by decide
section
variable {prog : Program} {w : World} {A : Around} {R : Result → Shared → Prop} {I S : Addr} {fp wr : List Addr} {n : Nat} {P : Nat → Value → Prop} {St : Nat → Heap → Prop} {d : Value}
abbrev Lp (I S : Addr) (d : Value) : Code := .builtin "max.loop" ⟨[.ref I, .none, .ref S], [(Str.ofString "default", d)]⟩
/-- the list that holds the best so far -/
abbrev bestO (xs : Array Value) (c : Nat) : Obj := { cls := .type "list", dict := none, data := .seq xs c, slots := #[] }
theorem turn (W : Walks prog w A.in1 I fp wr n P St) (bt : Nat → Nat → Bool) (hc : CmpOf prog w A.in1 .Gt P bt) (no : S ∉ fp) : ∀ (m j : Nat) (s : Shared) (u : Value) (c : Nat),
    j + 1 + m = n → St (j + 1) s.heap → P (argBest bt j) u → s.heap.get? S = some (bestO #[u, u] c) →
    (∀ v h t, P (argBest bt (n - 1)) v → (∀ b o, b ∉ wr → b ≠ S → s.heap.get? b = some o → h.get? b = some o) → R (.ok (.ret v)) { s with heap := h, toks := t }) →
    codeAny (model prog w) A (Lp I S d) R s := by
  have nw : S ∉ wr := fun z => no (W.sub _ z)
  intro m
  induction m with
  | zero =>
    intro j s u c e x p g q
    refine codeAny_builtin F.entry_max_loop ?_
    rw [Around.under_plainId F.plain_max_loop _]
    show wpAny _ _ (seqItems? (.ref S) >>= _) _ _ _
    refine wpAny_bind (wpAny_seqItems g rfl ?_)
    show wpAny _ _ (tryCatch (pyNext (.ref I)) _ >>= _) _ _ _
    refine wpAny_bind (wpAny_tryCatch (W.done s _ _ (e ▸ x) fun h t k => ?_))
    have g' := k S _ nw g
    show wpAny _ _ (updateSeq S _ >>= _) _ _ _
    refine wpAny_bind ?_
    refine wpAny_updateSeq g' rfl (wpAny_bind (wpAny_letGo (wpAny_pure ?_)))
    exact q u _ t (by rw [← e]; exact p) fun b o z1 z2 y => (Heap.get?_update_other _ _ (Ne.symm z2)).trans (k b o z1 y)
  | succ m ih =>
    intro j s u c e x p g q
    refine codeAny_builtin F.entry_max_loop ?_
    rw [Around.under_plainId F.plain_max_loop _]
    show wpAny _ _ (seqItems? (.ref S) >>= _) _ _ _
    refine wpAny_bind (wpAny_seqItems g rfl ?_)
    show wpAny _ _ (tryCatch (pyNext (.ref I)) _ >>= _) _ _ _
    refine wpAny_bind (wpAny_tryCatch (W.item (j + 1) s _ _ (by omega) x fun v h t pv x' k => ?_))
    have g' := k S _ nw g
    show wpAny _ _ (tryCatch (holding [v, v] (richCompare .Gt v u >>= _)) _ >>= _) _ _ _
    refine wpAny_bind (wpAny_tryCatch (wpAny_holding (wpAny_bind (hc (j + 1) (argBest bt j) v u _ _ _ pv p ?_))))
    refine wpAny_bind (wpAny_holding (wpAny_truthy_bool ?_))
    refine wpAny_bind (wpAny_letGo (wpAny_pure ?_))
    by_cases hb : bt (j + 1) (argBest bt j) = true
    · rw [hb]
      simp only [if_true]
      refine wpAny_bind ?_
      refine wpAny_updateSeq g' rfl (wpAny_bind (wpAny_letGo ?_))
      rw [nm]
      have pb : P (argBest bt (j + 1)) v := by
        show P (if _ then _ else _) v
        rw [if_pos hb]
        exact pv
      refine wpAny_pure ⟨plainId_quiet F.plain_max_loop _, ih (j + 1) _ v _ (by omega) (W.frame _ _ _ x' fun b z o y => ?_) pb (Heap.get?_update_self _ g' rfl) fun v2 h2 t2 p2 k2 => ?_⟩
      · exact (Heap.get?_update_other _ _ (fun z' : S = b => no (by rw [z']; exact z))).trans y
      · exact q v2 h2 t2 p2 fun b o z1 z2 y => k2 b o z1 z2 ((Heap.get?_update_other _ _ (Ne.symm z2)).trans (k b o z1 y))
    · have hb : bt (j + 1) (argBest bt j) = false := by simpa using hb
      rw [hb]
      simp only [Bool.false_eq_true, if_false]
      refine wpAny_bind (wpAny_letGo ?_)
      rw [nm]
      have pb : P (argBest bt (j + 1)) u := by
        show P (if _ then _ else _) u
        rw [hb]
        exact p
      refine wpAny_pure ⟨plainId_quiet F.plain_max_loop _, ih (j + 1) _ u c (by omega) x' pb g' fun v2 h2 t2 p2 k2 => ?_⟩
      exact q v2 h2 t2 p2 fun b o z1 z2 y => k2 b o z1 z2 (k b o z1 y)
theorem first (W : Walks prog w A.in1 I fp wr n P St) (bt : Nat → Nat → Bool) (hc : CmpOf prog w A.in1 .Gt P bt) (no : S ∉ fp) {s : Shared} {c : Nat} (x : St 0 s.heap) (g : s.heap.get? S = some (bestO #[] c))
    (q : 0 < n → ∀ v h t, P (argBest bt (n - 1)) v → (∀ b o, b ∉ wr → b ≠ S → s.heap.get? b = some o → h.get? b = some o) → R (.ok (.ret v)) { s with heap := h, toks := t })
    (q0 : n = 0 → ∀ h t, (∀ b o, b ∉ wr → b ≠ S → s.heap.get? b = some o → h.get? b = some o) → R (.ok (.ret d)) { s with heap := h, toks := t }) :
    codeAny (model prog w) A (Lp I S d) R s := by
  have nw : S ∉ wr := fun z => no (W.sub _ z)
  refine codeAny_builtin F.entry_max_loop ?_
  rw [Around.under_plainId F.plain_max_loop _]
  show wpAny _ _ (seqItems? (.ref S) >>= _) _ _ _
  refine wpAny_bind (wpAny_seqItems g rfl ?_)
  show wpAny _ _ (tryCatch (pyNext (.ref I)) _ >>= _) _ _ _
  by_cases hn : 0 < n
  · refine wpAny_bind (wpAny_tryCatch (W.item 0 s _ _ hn x fun v h t pv x' k => ?_))
    have g' := k S _ nw g
    show wpAny _ _ (updateSeq S _ >>= _) _ _ _
    refine wpAny_bind ?_
    refine wpAny_updateSeq g' rfl ?_
    rw [nm]
    refine wpAny_pure ⟨plainId_quiet F.plain_max_loop _, turn W bt hc no (n - 1) 0 _ v _ (by omega) (W.frame _ _ _ x' fun b z o y => ?_) pv (Heap.get?_update_self _ g' rfl) fun v2 h2 t2 p2 k2 => ?_⟩
    · exact (Heap.get?_update_other _ _ (fun z' : S = b => no (by rw [z']; exact z))).trans y
    · exact q hn v2 h2 t2 p2 fun b o z1 z2 y => k2 b o z1 z2 ((Heap.get?_update_other _ _ (Ne.symm z2)).trans (k b o z1 y))
  · have hn : n = 0 := by omega
    refine wpAny_bind (wpAny_tryCatch (W.done s _ _ (hn ▸ x) fun h t k => ?_))
    show wpAny _ _ (rule _ >>= _) _ _ _
    refine wpAny_bind (wpAny_rule (wpAny_pure ?_))
    exact q0 hn h t fun b o z1 z2 y => k b o z1 y
end
section
variable {prog : Program} {w : World} {A : Around} {E : Value → Shared → Prop} {s : Shared} {l : Addr} {its : List Value} {ns : List Int} {d : Value} {Q : Value → Shared → Prop}
theorem run (hh : A.handled = none) (hl : s.heap.IsList l its.toArray) (hi : IntsAre its ns)
    (h : ∀ h' t M t', (∀ b o, s.heap.get? b = some o → h'.get? b = some o) → M ∈ ns → (∀ a, a ∈ ns → a ≤ M) → Q (.int M t') { s with heap := h', toks := t })
    (h0 : ns = [] → ∀ h' t, (∀ b o, s.heap.get? b = some o → h'.get? b = some o) → Q d { s with heap := h', toks := t }) :
    wpAny (model prog w) A (call (.builtin "max") [.ref l] [(Str.ofString "default", d)]) Q E s := by
  obtain ⟨xs, e⟩ := hi.allInts.items
  have hn : numsOf (intItems xs).toList = ns := by rw [← e]; exact hi.numsOf
  rw [nums_intItems] at hn
  subst hn
  rw [e] at hl
  refine kmk_tree F.kind_max F.plain_max F.entry_max (argsD _ _) ?_
  show wpAny _ _ (Builtin.Builtins.bindParams "max" ["key", "default"] 0 ⟨[], [(Str.ofString "default", d)]⟩ >>= _) _ _ _
  refine wpAny_bind (wpAny_of_eq (show Builtin.Builtins.bindParams "max" ["key", "default"] 0 ⟨[], [(Str.ofString "default", d)]⟩ = pure [none, some d] from rfl) ?_)
  refine wpAny_bind (wpAny_pure ?_)
  refine wpAny_bind (iter_intList hl fun s2 e2 st fp li => ?_)
  subst e2
  refine wpAny_bind (wpAny_newObj_type ?_)
  rw [nm]
  have hz := Heap.size_push s.heap { cls := .type "list_iterator", data := .fields #[.ref l, .int 0 0] }
  have W := Walks.list (prog := prog) (w := w) (A := A.in1) hh s.heap.objs.size l li (intItems xs)
  refine wpAny_pure ⟨plainId_quiet F.plain_max_loop _, first W _ (CmpOf.ints_gt (numAt xs) fun _ _ => intItems_at) (fun z => Nat.lt_irrefl _ (fp _ z)) (W.frame _ _ _ st fun b _ o y => Heap.get?_push_of_some _ y) (Heap.get?_push_size _ rfl) (fun hn v h' t pv k => ?_) fun hn h' t k => ?_⟩
  · have hp : (intItems xs)[argBest (fun i j => decide (numAt xs i > numAt xs j)) (xs.size - 1)]? = some v := by simpa [intItems] using pv
    obtain ⟨tv, rfl⟩ := intItems_at hp
    obtain ⟨h1, h2⟩ := argBest_gt (numAt xs) (xs.size - 1)
    have hx : 0 < xs.size := by simpa [intItems] using hn
    refine h h' t _ tv (old_kept fun b o hb y => k b o hb (Nat.ne_of_lt (Heap.lt_size y)) (Heap.get?_push_of_some _ y)) ?_ fun a ha => ?_
    · rw [numAt_eq]
      exact PySem.getD_mem (by rw [List.length_map, Array.length_toList]; omega)
    · obtain ⟨j, hj, rfl⟩ := mem_getD ha
      rw [List.length_map, Array.length_toList] at hj
      rw [← numAt_eq]
      exact h2 j (by omega)
  · refine h0 ?_ h' t (old_kept fun b o hb y => k b o hb (Nat.ne_of_lt (Heap.lt_size y)) (Heap.get?_push_of_some _ y))
    have hx : xs.size = 0 := by simpa [intItems] using hn
    rw [Array.eq_empty_of_size_eq_zero hx]
    rfl
end
end MxD
namespace L2
open PySem PySem.Spec PyProof.Rows
def rMaxD0 (K : PySem.W.Frag) : List V → List V → Hp → VK → Prop := fun vs zs H Q => ∃ (a : Addr) (ns : List Int) (d : V), vs = [V.ref a] ∧ zs = [d] ∧ SqL K H a (ns.map V.int) ∧
  (∀ m, m ∈ ns → (∀ y, y ∈ ns → y ≤ m) → Q (.int m) H) ∧ (ns = [] → Q d H)
theorem cr_maxDef {X : Cx} (hc : X.calm = true) : CallRK X (.builtin "max") [Str.ofString "default"] (rMaxD0 X.K) := by
  intro pins s σ H vs zs us ws Q I r rz h
  obtain ⟨a, ns, d, rfl, rfl, hs, q, q0⟩ := h
  obtain ⟨its, rv, hl, _⟩ := I.list hs
  rw [Vals.ref1 r]
  obtain ⟨w1, rfl, e1⟩ := vals1 rz
  exact MxD.run (I.ok.hd hc) hl.isList rv.ints (fun h' t m t' hk h1 h2 => ⟨.int _, H, I.kept hk, ⟨_, rfl⟩, q m h1 h2⟩) fun hn h' t hk => ⟨d, H, I.kept hk, e1, q0 hn⟩
end L2

/-! Longest ascending rows, as plain functions. -/
namespace Lis
def best (x : Int) : List Int → List Int → Int → Int
  | y :: ys, l :: ls, b => best x ys ls (if x < y then (if l + 1 > b then l + 1 else b) else b)
  | _, _, b => b
def lens : List Int → List Int
  | [] => []
  | x :: xs => best x xs (lens xs) 1 :: lens xs
theorem length_lens : ∀ xs : List Int, (lens xs).length = xs.length
  | [] => rfl
  | x :: xs => by
    show _ + 1 = _ + 1
    rw [length_lens xs]
theorem best_cons {x y l b : Int} {ys ls : List Int} : best x (y :: ys) (l :: ls) b = best x ys ls (if x < y then (if l + 1 > b then l + 1 else b) else b) := rfl
theorem best_nil {x b : Int} {l : List Int} : best x [] l b = b := by unfold best; rfl
/-- the row that stays: at: the number of the next item, left: how many are wanted, last: the item taken last -/
def pick : List Int → List Int → Nat → Int → Option Int → List Int
  | x :: xs, l :: ls, at', left, last =>
    if l = left ∧ (∀ y, last = some y → y < x) then (at' : Int) :: pick xs ls (at' + 1) (left - 1) (some x) else pick xs ls (at' + 1) left last
  | _, _, _, _, _ => []
def top (ls : List Int) : Int := ls.foldl (fun a b => if b > a then b else a) 0
def stay (ns : List Int) : List Int := pick ns (lens ns) 0 (top (lens ns)) none
theorem best_ge : ∀ (ys ls : List Int) (x b : Int), b ≤ best x ys ls b
  | [], ls, x, b => by rw [best_nil]; exact Int.le_refl b
  | y :: ys, [], x, b => by unfold best; exact Int.le_refl b
  | y :: ys, l :: ls, x, b => by
    unfold best
    refine Int.le_trans ?_ (best_ge ys ls x _)
    split
    · split <;> omega
    · omega
theorem lens_pos : ∀ (xs : List Int) (l : Int), l ∈ lens xs → 1 ≤ l
  | x :: xs, l, h => by
    rcases List.mem_cons.mp h with rfl | h
    · exact best_ge _ _ _ _
    · exact lens_pos xs l h
theorem foldl_top : ∀ (ls : List Int) (a : Int), (a ≤ ls.foldl (fun a b => if b > a then b else a) a) ∧ (∀ l ∈ ls, l ≤ ls.foldl (fun a b => if b > a then b else a) a) ∧ (ls.foldl (fun a b => if b > a then b else a) a = a ∨ ls.foldl (fun a b => if b > a then b else a) a ∈ ls)
  | [], a => ⟨Int.le_refl a, (fun _ h => by cases h), .inl rfl⟩
  | l :: ls, a => by
    obtain ⟨h1, h2, h3⟩ := foldl_top ls (if l > a then l else a)
    simp only [List.foldl_cons]
    refine ⟨?_, ?_, ?_⟩
    · refine Int.le_trans ?_ h1
      split <;> omega
    · intro z hz
      rcases List.mem_cons.mp hz with rfl | hz
      · refine Int.le_trans ?_ h1
        split <;> omega
      · exact h2 z hz
    · rcases h3 with h3 | h3
      · rw [h3]
        by_cases q : l > a
        · rw [if_pos q]; exact .inr List.mem_cons_self
        · rw [if_neg q]; exact .inl rfl
      · exact .inr (List.mem_cons_of_mem _ h3)
/-- the greatest, as max tells it -/
theorem top_eq {ls : List Int} {m : Int} (hp : ∀ l ∈ ls, 1 ≤ l) (h1 : m ∈ ls) (h2 : ∀ l ∈ ls, l ≤ m) : m = top ls := by
  obtain ⟨a, b, c⟩ := foldl_top ls 0
  have h3 := b m h1
  rcases c with c | c
  · have := hp m h1
    unfold top
    omega
  · have := h2 _ c
    unfold top
    omega
theorem top_eq0 {ls : List Int} {m : Int} (h1 : m ∈ (0 :: ls)) (h2 : ∀ l ∈ (0 :: ls), l ≤ m) : m = top ls := by
  obtain ⟨a, b, c⟩ := foldl_top ls 0
  have q : top ls = ls.foldl (fun a b => if b > a then b else a) 0 := rfl
  have h4 := h2 0 List.mem_cons_self
  rcases List.mem_cons.mp h1 with h1 | h1
  · rcases c with c | c
    · omega
    · have := h2 _ (List.mem_cons_of_mem _ c)
      omega
  · have := b m h1
    rcases c with c | c
    · omega
    · have := h2 _ (List.mem_cons_of_mem _ c)
      omega
theorem top_nonneg (ls : List Int) : 0 ≤ top ls := (foldl_top ls 0).1
end Lis
namespace Lis
/-- what is taken before item i -/
structure Pk (ns : List Int) (i : Nat) (taken : List Int) (left : Int) (last : Option Int) : Prop where
  eq : taken ++ pick (ns.drop i) ((lens ns).drop i) i left last = stay ns
  no : last = none → taken = []
  yes : ∀ y, last = some y → ∃ (pre : List Int) (t : Nat), taken = pre ++ [(t : Int)] ∧ ns[t]? = some y
  len : taken.length ≤ i
theorem Pk.start (ns : List Int) : Pk ns 0 [] (top (lens ns)) none := ⟨rfl, fun _ => rfl, (fun _ h => by cases h), Nat.le_refl _⟩
theorem drop_cons {α : Type} {xs : List α} {i : Nat} {x : α} (h : xs[i]? = some x) : xs.drop i = x :: xs.drop (i + 1) := by
  have hi : i < xs.length := by
    cases Nat.lt_or_ge i xs.length with
    | inl h => exact h
    | inr h' => rw [List.getElem?_eq_none h'] at h; cases h
  rw [List.drop_eq_getElem_cons hi]
  rw [List.getElem?_eq_getElem hi] at h
  rw [Option.some.inj h]
theorem Pk.take {ns taken : List Int} {i : Nat} {left x l : Int} {last : Option Int} (p : Pk ns i taken left last) (hx : ns[i]? = some x) (hl : (lens ns)[i]? = some l) (e : l = left) (h : ∀ y, last = some y → y < x) : Pk ns (i + 1) (taken ++ [(i : Int)]) (left - 1) (some x) := by
  obtain ⟨h1, h2, h3, h4⟩ := p
  refine ⟨?_, (fun z => by cases z), fun y z => ⟨taken, i, rfl, ?_⟩, by simp; omega⟩
  · rw [drop_cons hx, drop_cons hl] at h1
    unfold pick at h1
    rw [if_pos ⟨e, h⟩] at h1
    rw [← h1, List.append_assoc]
    rfl
  · cases z
    exact hx
theorem Pk.skip {ns taken : List Int} {i : Nat} {left x l : Int} {last : Option Int} (p : Pk ns i taken left last) (hx : ns[i]? = some x) (hl : (lens ns)[i]? = some l) (h : ¬ (l = left ∧ ∀ y, last = some y → y < x)) : Pk ns (i + 1) taken left last := by
  obtain ⟨h1, h2, h3, h4⟩ := p
  refine ⟨?_, h2, h3, by omega⟩
  rw [drop_cons hx, drop_cons hl] at h1
  unfold pick at h1
  rw [if_neg h] at h1
  exact h1
theorem Pk.done {ns taken : List Int} {left : Int} {last : Option Int} (p : Pk ns ns.length taken left last) : taken = stay ns := by
  have h1 := p.eq
  rw [List.drop_length] at h1
  unfold pick at h1
  rw [List.append_nil] at h1
  exact h1
end Lis

/-! All ascending rows; the first of the longest ones. -/
namespace Lis
/-- r is a row of indices (from at' on) whose items ascend, all behind `last` -/
def Up : List Int → Nat → Option Int → List Int → Prop
  | _, _, _, [] => True
  | [], _, _, _ :: _ => False
  | x :: xs, at', last, i :: r => (i = (at' : Int) ∧ (∀ y, last = some y → y < x) ∧ Up xs (at' + 1) (some x) r) ∨ Up xs (at' + 1) last (i :: r)
/-- how long the longest one is -/
def most : List Int → Option Int → Int
  | [], _ => 0
  | x :: xs, last => if ∀ y, last = some y → y < x then max (1 + most xs (some x)) (most xs last) else most xs last
instance {last : Option Int} {x : Int} : Decidable (∀ y, last = some y → y < x) :=
  match last with
  | none => isTrue fun _ h => by cases h
  | some z => if h : z < x then isTrue fun y e => by cases e; exact h else isFalse fun k => h (k z rfl)
theorem up_nil {xs : List Int} {at' : Nat} {last : Option Int} : Up xs at' last [] := by cases xs <;> exact trivial
theorem most_nonneg : ∀ (xs : List Int) (last : Option Int), 0 ≤ most xs last
  | [], _ => Int.le_refl 0
  | x :: xs, last => by
    have h1 := most_nonneg xs (some x)
    have h2 := most_nonneg xs last
    unfold most
    split <;> omega
theorem up_le : ∀ (xs : List Int) (at' : Nat) (last : Option Int) (r : List Int), Up xs at' last r → (r.length : Int) ≤ most xs last
  | xs, at', last, [], _ => by have := most_nonneg xs last; simpa using this
  | [], _, _, _ :: _, h => h.elim
  | x :: xs, at', last, i :: r, h => by
    unfold most
    rcases h with ⟨_, h1, h2⟩ | h
    · have := up_le xs (at' + 1) (some x) r h2
      rw [if_pos h1, List.length_cons]
      omega
    · have := up_le xs (at' + 1) last (i :: r) h
      split <;> omega
theorem up_from : ∀ (xs : List Int) (at' : Nat) (last : Option Int) (i : Int) (r : List Int), Up xs at' last (i :: r) → (at' : Int) ≤ i
  | [], _, _, _, _, h => h.elim
  | x :: xs, at', last, i, r, h => by
    rcases h with ⟨h, _⟩ | h
    · omega
    · have := up_from xs (at' + 1) last i r h
      omega
theorem best_most : ∀ (ys : List Int) (x b : Int), 1 ≤ b → best x ys (lens ys) b = max b (1 + most ys (some x))
  | [], x, b, hb => by
    rw [best_nil]
    show b = max b (1 + 0)
    omega
  | y :: ys, x, b, hb => by
    have ih := best_most ys x
    have hl : lens (y :: ys) = best y ys (lens ys) 1 :: lens ys := rfl
    have h1 := best_most ys y 1 (by omega)
    have n1 := most_nonneg ys (some y)
    have n2 := most_nonneg ys (some x)
    have e1 : best y ys (lens ys) 1 = 1 + most ys (some y) := by omega
    rw [hl, e1, best_cons]
    have hm : most (y :: ys) (some x) = if x < y then max (1 + most ys (some y)) (most ys (some x)) else most ys (some x) := by
      show (if ∀ z, some x = some z → z < y then _ else _) = _
      by_cases q : x < y
      · rw [if_pos q, if_pos (fun z e => by cases e; exact q)]
      · rw [if_neg q, if_neg (fun k => q (k x rfl))]
    rw [hm]
    by_cases q : x < y
    · rw [if_pos q, if_pos q, ih _ (by split <;> omega)]
      split <;> omega
    · rw [if_neg q, if_neg q, ih _ hb]
theorem lens_cons (x : Int) (xs : List Int) : lens (x :: xs) = (1 + most xs (some x)) :: lens xs := by
  show best x xs (lens xs) 1 :: lens xs = _
  have := best_most xs x 1 (by omega)
  have n := most_nonneg xs (some x)
  rw [this]
  congr 1
  omega
theorem top_cons (l : Int) (ls : List Int) (h : 0 ≤ l) : top (l :: ls) = max l (top ls) := by
  obtain ⟨a1, a2, a3⟩ := foldl_top (l :: ls) 0
  obtain ⟨b1, b2, b3⟩ := foldl_top ls 0
  have e1 : top (l :: ls) = (l :: ls).foldl (fun a b => if b > a then b else a) 0 := rfl
  have e2 : top ls = ls.foldl (fun a b => if b > a then b else a) 0 := rfl
  rw [← e1] at a1 a2 a3
  rw [← e2] at b1 b2 b3
  have c1 := a2 l List.mem_cons_self
  have c2 : top ls ≤ top (l :: ls) := by
    rcases b3 with b3 | b3
    · rw [b3]; exact a1
    · exact a2 _ (List.mem_cons_of_mem _ b3)
  rcases a3 with a3 | a3
  · omega
  · rcases List.mem_cons.mp a3 with a3 | a3
    · omega
    · have := b2 _ a3
      omega
theorem top_most : ∀ ns : List Int, top (lens ns) = most ns none
  | [] => rfl
  | x :: xs => by
    have n := most_nonneg xs (some x)
    rw [lens_cons, top_cons _ _ (by omega), top_most xs]
    show _ = if ∀ y, none = some y → y < x then _ else _
    rw [if_pos (fun y h => by cases h)]
/-- what is picked ascends, is as long as can be, and first among those -/
theorem pick_ok : ∀ (xs : List Int) (at' : Nat) (last : Option Int), Up xs at' last (pick xs (lens xs) at' (most xs last) last) ∧ ((pick xs (lens xs) at' (most xs last) last).length : Int) = most xs last ∧
    ∀ r, Up xs at' last r → (r.length : Int) = most xs last → r = pick xs (lens xs) at' (most xs last) last ∨ pick xs (lens xs) at' (most xs last) last < r
  | [], at', last => by
    refine ⟨up_nil, rfl, fun r h e => ?_⟩
    cases r with
    | nil => exact .inl rfl
    | cons i r => exact h.elim
  | x :: xs, at', last => by
    have n1 := most_nonneg xs (some x)
    have n2 := most_nonneg xs last
    rw [lens_cons]
    unfold pick
    by_cases q : ∀ y, last = some y → y < x
    · have em : most (x :: xs) last = max (1 + most xs (some x)) (most xs last) := by
        conv => lhs; unfold most
        rw [if_pos q]
      by_cases e : 1 + most xs (some x) = most (x :: xs) last
      · rw [if_pos ⟨e, q⟩]
        obtain ⟨h1, h2, h3⟩ := pick_ok xs (at' + 1) (some x)
        have e' : most (x :: xs) last - 1 = most xs (some x) := by omega
        rw [e']
        refine ⟨.inl ⟨rfl, q, h1⟩, by rw [List.length_cons]; omega, fun r hr hl => ?_⟩
        cases r with
        | nil => simp at hl; omega
        | cons i r =>
          rcases hr with ⟨hi, _, hr⟩ | hr
          · subst hi
            rw [List.length_cons] at hl
            rcases h3 r hr (by omega) with h | h
            · exact .inl (by rw [h])
            · exact .inr (List.cons_lt_cons_iff.mpr (.inr ⟨rfl, h⟩))
          · have := up_from xs (at' + 1) last i r hr
            exact .inr (List.cons_lt_cons_iff.mpr (.inl (by omega)))
      · rw [if_neg (fun h => e h.1)]
        have e' : most (x :: xs) last = most xs last := by omega
        rw [e']
        obtain ⟨h1, h2, h3⟩ := pick_ok xs (at' + 1) last
        refine ⟨?_, h2, fun r hr hl => ?_⟩
        · cases hp : pick xs (lens xs) (at' + 1) (most xs last) last with
          | nil => exact up_nil
          | cons i r => rw [hp] at h1; exact .inr h1
        · refine h3 r ?_ hl
          cases r with
          | nil => exact up_nil
          | cons i r =>
            rcases hr with ⟨_, _, hr⟩ | hr
            · have := up_le xs (at' + 1) (some x) r hr
              rw [List.length_cons] at hl
              omega
            · exact hr
    · rw [if_neg (fun h => q h.2)]
      have e' : most (x :: xs) last = most xs last := by
        conv => lhs; unfold most
        rw [if_neg q]
      rw [e']
      obtain ⟨h1, h2, h3⟩ := pick_ok xs (at' + 1) last
      refine ⟨?_, h2, fun r hr hl => ?_⟩
      · cases hp : pick xs (lens xs) (at' + 1) (most xs last) last with
        | nil => exact up_nil
        | cons i r => rw [hp] at h1; exact .inr h1
      · refine h3 r ?_ hl
        cases r with
        | nil => exact up_nil
        | cons i r =>
          rcases hr with ⟨_, z, _⟩ | hr
          · exact absurd z q
          · exact hr
theorem stay_ok (ns : List Int) : Up ns 0 none (stay ns) ∧ ((stay ns).length : Int) = most ns none ∧ ∀ r, Up ns 0 none r → (r.length : Int) = most ns none → r = stay ns ∨ stay ns < r := by
  have h := pick_ok ns 0 none
  unfold stay
  rw [top_most]
  exact h
/-- the value taken last: of a row of xs from at' on -/
def lastV (xs : List Int) (at' : Nat) (last : Option Int) (r : List Int) : Option Int := match r.getLast? with | none => last | some i => xs[i.toNat - at']?
/-- one item more behind -/
theorem up_snoc : ∀ (xs : List Int) (at' : Nat) (last : Option Int) (x : Int) (r : List Int), Up (xs ++ [x]) at' last r ↔ Up xs at' last r ∨ ∃ r', r = r' ++ [((at' + xs.length : Nat) : Int)] ∧ Up xs at' last r' ∧ ∀ y, lastV xs at' last r' = some y → y < x
  | [], at', last, x, r => by
    constructor
    · intro h
      cases r with
      | nil => exact .inl up_nil
      | cons i r =>
        rcases h with ⟨h1, h2, h3⟩ | h
        · cases r with
          | nil => exact .inr ⟨[], by rw [h1]; rfl, up_nil, h2⟩
          | cons j r => exact h3.elim
        · exact h.elim
    · rintro (h | ⟨r', rfl, h1, h2⟩)
      · cases r with
        | nil => exact up_nil
        | cons i r => exact h.elim
      · cases r' with
        | nil => exact .inl ⟨rfl, h2, up_nil⟩
        | cons i r => exact h1.elim
  | z :: xs, at', last, x, [] => ⟨fun _ => .inl up_nil, fun _ => up_nil⟩
  | z :: xs, at', last, x, i :: r => by
    have a1 := up_snoc xs (at' + 1) (some z) x r
    have a2 := up_snoc xs (at' + 1) last x (i :: r)
    have len : at' + (z :: xs).length = at' + 1 + xs.length := by rw [List.length_cons]; omega
    rw [len]
    have lv : ∀ (l : Option Int) (s : List Int), s ≠ [] → Up xs (at' + 1) l s → lastV (z :: xs) at' last s = lastV xs (at' + 1) l s := by
      intro l s hs hu
      obtain ⟨j, hj⟩ : ∃ j, s.getLast? = some j := by
        cases e : s.getLast? with
        | none => exact absurd (List.getLast?_eq_none_iff.mp e) hs
        | some j => exact ⟨j, rfl⟩
      have hge : ∀ (xs : List Int) (a : Nat) (l : Option Int) (s : List Int), Up xs a l s → ∀ k ∈ s, (a : Int) ≤ k := by
        intro xs
        induction xs with
        | nil =>
          intro a l s h k hk
          cases s with
          | nil => cases hk
          | cons => exact h.elim
        | cons w xs ih =>
          intro a l s h k hk
          cases s with
          | nil => cases hk
          | cons i s =>
            rcases h with ⟨h1, _, h3⟩ | h
            · rcases List.mem_cons.mp hk with rfl | hk
              · omega
              · have := ih _ _ _ h3 k hk
                omega
            · have := ih _ _ _ h k hk
              omega
      have h1 := hge xs (at' + 1) l s hu j (List.mem_of_getLast? hj)
      unfold lastV
      rw [hj]
      show (z :: xs)[j.toNat - at']? = xs[j.toNat - (at' + 1)]?
      rw [show j.toNat - at' = (j.toNat - (at' + 1)) + 1 by omega]
      rfl
    constructor
    · rintro (⟨h1, h2, h3⟩ | h)
      · rcases a1.mp h3 with h | ⟨r', rfl, k1, k2⟩
        · exact .inl (.inl ⟨h1, h2, h⟩)
        · refine .inr ⟨i :: r', rfl, .inl ⟨h1, h2, k1⟩, ?_⟩
          cases r' with
          | nil =>
            intro y hy
            refine k2 y ?_
            subst h1
            have : lastV (z :: xs) at' last [(at' : Int)] = some z := by
              unfold lastV
              show (z :: xs)[(at' : Int).toNat - at']? = _
              rw [Int.toNat_natCast, Nat.sub_self]
              rfl
            rw [this] at hy
            exact hy
          | cons j r' =>
            intro y hy
            refine k2 y ?_
            have e : lastV (z :: xs) at' last (i :: j :: r') = lastV (z :: xs) at' last (j :: r') := by
              unfold lastV
              rw [List.getLast?_cons_cons]
            rw [e, lv (some z) (j :: r') (by simp) k1] at hy
            exact hy
      · rcases a2.mp h with h | ⟨r', e, k1, k2⟩
        · exact .inl (.inr h)
        · cases r' with
          | nil => exact .inr ⟨[], e, up_nil, k2⟩
          | cons j r' =>
            refine .inr ⟨j :: r', e, .inr k1, fun y hy => k2 y ?_⟩
            rw [lv last (j :: r') (by simp) k1] at hy
            exact hy
    · rintro ((⟨h1, h2, h3⟩ | h) | ⟨r', e, k1, k2⟩)
      · exact .inl ⟨h1, h2, a1.mpr (.inl h3)⟩
      · exact .inr (a2.mpr (.inl h))
      · cases r' with
        | nil => exact .inr (a2.mpr (.inr ⟨[], e, up_nil, k2⟩))
        | cons j r' =>
          have e1 : i = j := by simp at e; exact e.1
          have e2 : r = r' ++ [((at' + 1 + xs.length : Nat) : Int)] := by simp at e; exact e.2
          subst e1
          rcases k1 with ⟨h1, h2, h3⟩ | k1
          · refine .inl ⟨h1, h2, a1.mpr (.inr ⟨r', e2, h3, fun y hy => k2 y ?_⟩)⟩
            cases r' with
            | nil =>
              subst h1
              unfold lastV
              show (z :: xs)[(at' : Int).toNat - at']? = _
              rw [Int.toNat_natCast, Nat.sub_self]
              exact hy
            | cons j r' =>
              have e : lastV (z :: xs) at' last (i :: j :: r') = lastV (z :: xs) at' last (j :: r') := by
                unfold lastV
                rw [List.getLast?_cons_cons]
              rw [e, lv (some z) (j :: r') (by simp) h3]
              exact hy
          · refine .inr (a2.mpr (.inr ⟨i :: r', e, k1, fun y hy => k2 y ?_⟩))
            rw [lv last (i :: r') (by simp) k1]
            exact hy
end Lis

namespace Lis
/-- a row can go on with item k -/
def okB (ns : List Int) (k : Nat) (r : List Int) : Bool := match r.getLast? with
  | none => true
  | some i => decide ((ns[i.toNat]?).getD 0 < (ns[k]?).getD 0)
/-- the rows of the first k items, as they are found -/
def rows (ns : List Int) : Nat → List (List Int)
  | 0 => [[]]
  | k + 1 => rows ns k ++ ((rows ns k).filter (okB ns k)).map (· ++ [(k : Int)])
theorem rows_len (ns : List Int) : ∀ k, (rows ns k).length ≤ 2 ^ k
  | 0 => Nat.le_refl _
  | k + 1 => by
    have h := rows_len ns k
    have h2 := List.length_filter_le (okB ns k) (rows ns k)
    show (rows ns k ++ _).length ≤ _
    rw [List.length_append, List.length_map, Nat.pow_succ]
    omega
theorem rows_lt (ns : List Int) : ∀ (k : Nat) (r : List Int), r ∈ rows ns k → ∀ i ∈ r, ∃ n : Nat, i = n ∧ n < k
  | 0, r, h, i, hi => by
    rw [List.mem_singleton.mp h] at hi
    cases hi
  | k + 1, r, h, i, hi => by
    rcases List.mem_append.mp h with h | h
    · obtain ⟨n, e, hn⟩ := rows_lt ns k r h i hi
      exact ⟨n, e, by omega⟩
    · obtain ⟨r', h', rfl⟩ := List.mem_map.mp h
      rcases List.mem_append.mp hi with hi | hi
      · obtain ⟨n, e, hn⟩ := rows_lt ns k r' (List.mem_filter.mp h').1 i hi
        exact ⟨n, e, by omega⟩
      · exact ⟨k, List.mem_singleton.mp hi, by omega⟩
theorem rows_size (ns : List Int) : ∀ (k : Nat) (r : List Int), r ∈ rows ns k → r.length ≤ k
  | 0, r, h => by rw [List.mem_singleton.mp h]; exact Nat.le_refl _
  | k + 1, r, h => by
    rcases List.mem_append.mp h with h | h
    · exact Nat.le_succ_of_le (rows_size ns k r h)
    · obtain ⟨r', h', rfl⟩ := List.mem_map.mp h
      have := rows_size ns k r' (List.mem_filter.mp h').1
      simp
      exact this
theorem okB_iff {ns : List Int} {k : Nat} {x : Int} (hx : ns[k]? = some x) {r : List Int} (hr : ∀ i ∈ r, ∃ n : Nat, i = n ∧ n < k) : okB ns k r = true ↔ ∀ y, lastV (ns.take k) 0 none r = some y → y < x := by
  unfold okB lastV
  cases hg : r.getLast? with
  | none => exact ⟨fun _ y h => (by cases h), fun _ => rfl⟩
  | some i =>
    obtain ⟨n, rfl, hn⟩ := hr i (List.mem_of_getLast? hg)
    have hk : k < ns.length := by
      cases Nat.lt_or_ge k ns.length with
      | inl h => exact h
      | inr h => rw [List.getElem?_eq_none h] at hx; cases hx
    have e : (ns.take k)[(n : Int).toNat - 0]? = some ns[n] := by
      rw [Int.toNat_natCast, Nat.sub_zero, List.getElem?_take, if_pos hn, List.getElem?_eq_getElem (by omega)]
    show decide _ = true ↔ ∀ y, (ns.take k)[(n : Int).toNat - 0]? = some y → y < x
    rw [e, Int.toNat_natCast, List.getElem?_eq_getElem (show n < ns.length by omega), hx, decide_eq_true_eq]
    exact ⟨fun h y hy => by cases hy; exact h, fun h => h _ rfl⟩
theorem rows_up (ns : List Int) : ∀ k, k ≤ ns.length → ∀ r, r ∈ rows ns k ↔ Up (ns.take k) 0 none r
  | 0, _, r => by
    show r ∈ [[]] ↔ Up [] 0 none r
    rw [List.mem_singleton]
    constructor
    · intro h; rw [h]; exact up_nil
    · intro h
      cases r with
      | nil => rfl
      | cons i r => exact h.elim
  | k + 1, hk, r => by
    have ih := rows_up ns k (by omega)
    have hx : ns[k]? = some ns[k] := List.getElem?_eq_getElem (by omega)
    have et : ns.take (k + 1) = ns.take k ++ [ns[k]] := by rw [List.take_succ, hx]; rfl
    have lt : (ns.take k).length = k := by rw [List.length_take]; omega
    rw [et, up_snoc, lt, Nat.zero_add]
    show r ∈ rows ns k ++ _ ↔ _
    rw [List.mem_append, ih r]
    constructor
    · rintro (h | h)
      · exact .inl h
      · obtain ⟨r', h', rfl⟩ := List.mem_map.mp h
        obtain ⟨h1, h2⟩ := List.mem_filter.mp h'
        exact .inr ⟨r', rfl, (ih r').mp h1, (okB_iff hx (rows_lt ns k r' h1)).mp h2⟩
    · rintro (h | ⟨r', rfl, h1, h2⟩)
      · exact .inl h
      · exact .inr (List.mem_map.mpr ⟨r', List.mem_filter.mpr ⟨(ih r').mpr h1, (okB_iff hx (rows_lt ns k r' ((ih r').mpr h1))).mpr h2⟩, rfl⟩)
/-- what the law finds is what stays -/
theorem stay_least {ns : List Int} {size : Int} {e : List Int} (h1 : ∃ r ∈ rows ns ns.length, (r.length : Int) = size) (h2 : ∀ r ∈ rows ns ns.length, (r.length : Int) ≤ size) (he : e ∈ rows ns ns.length) (hs : (e.length : Int) = size)
    (hle : ∀ r ∈ rows ns ns.length, (r.length : Int) = size → e ≤ r) : e = stay ns := by
  have up := rows_up ns ns.length (Nat.le_refl _)
  rw [List.take_length] at up
  obtain ⟨s1, s2, s3⟩ := stay_ok ns
  have e1 : size = most ns none := by
    obtain ⟨r, hr, hl⟩ := h1
    have a := up_le ns 0 none r ((up r).mp hr)
    have b := h2 _ ((up _).mpr s1)
    omega
  rcases s3 e ((up e).mp he) (by omega) with h | h
  · exact h
  · exact absurd h (hle _ ((up _).mpr s1) (by omega))
end Lis

/-! How long data is when shown. -/
namespace Gd
open PySem PySem.Spec PyProof.Rows L2 GxR Gx
theorem call_reprR {X : Cx} {k : Nat} (hr : RoomG k X.A) : CallR X (.builtin "repr") (rRepr X.K) := call_repr (by have := hr.r.un; omega) hr.g
theorem from_le : ∀ (ts : List Str) (k : Nat) (acc : Str), (textFrom k acc ts).length ≤ acc.length + piled ts
  | [], k, acc => by show acc.length ≤ _; omega
  | t :: ts, k, acc => by
    have ih := from_le ts (k + 1) (acc ++ (if k > 0 then ", " else "" : String) ++ t)
    rw [Str.length_append, Str.length_append] at ih
    have h2 : (Str.ofString (if k > 0 then ", " else "" : String)).length ≤ 2 := by split <;> decide +kernel
    have e : piled (t :: ts) = t.length + 2 + piled ts := by simp [piled]
    show (textFrom (k + 1) _ ts).length ≤ _
    rw [e]
    omega
theorem list_le (ts : List Str) : (listText ts).length ≤ piled ts + 2 := by
  unfold listText
  have h := from_le ts 0 (Str.ofString "[")
  rw [Str.length_append]
  have e1 : (Str.ofString "[").length = 1 := by decide +kernel
  have e2 : (Str.ofString "]").length = 1 := by decide +kernel
  rw [e1] at h
  omega
theorem tuple_le {ts : List Str} (h : ts ≠ []) : (tupleText ts).length ≤ piled ts + 3 := by
  unfold tupleText
  have hj := join_length_add ts h
  rw [Str.length_append, Str.length_append]
  have e1 : (Str.ofString "(").length = 1 := by decide +kernel
  have e2 : (Str.ofString (if (ts.length == 1) = true then ",)" else ")" : String)).length ≤ 2 := by split <;> decide +kernel
  omega
/-- shown in at most sz signs, at most dep deep -/
structure Shw (dep sz : Nat) (d : PyData) : Prop where
  ws : d.showable = true
  wh : d.hasDict = false
  wd : d.depth ≤ dep
  wz : d.shown.length ≤ sz
theorem Shw.mono {a b a' b' : Nat} {d : PyData} (w : Shw a b d) (h1 : a ≤ a') (h2 : b ≤ b') : Shw a' b' d := ⟨w.ws, w.wh, Nat.le_trans w.wd h1, Nat.le_trans w.wz h2⟩
theorem Shw.nat {n : Nat} (hn : n ≤ 999999999) : Shw 0 9 (.int (n : Int)) := by
  refine ⟨?_, rfl, Nat.le_refl _, ?_⟩
  · show decide ((n : Int).natAbs.log2 < 1920) = true
    have : (n : Int).natAbs = n := by omega
    rw [this, decide_eq_true]
    by_cases h0 : n = 0
    · rw [h0]
      decide
    · have := (Nat.log2_lt h0).mpr (show n < 2 ^ 30 by omega)
      omega
  · have h : (TL.numL n).length ≤ 9 := TL.numL_len (by decide) (by omega)
    have e2 : (Str.ofString (toString (n : Int))).length = (TL.numL n).length := by
      show (Str.ofString (toString (n : Int))).cps.size = _
      rw [← Array.length_toList]
      exact congrArg List.length (TL.tl_num n)
    show (Str.ofString (toString (n : Int))).length ≤ 9
    omega
theorem Shw.str {x : Str} {n : Nat} (h : x.length ≤ n) (hc : ∀ c ∈ x.cps.toList, c < 1114112) : Shw 0 (10 * n + 2) (.str x) := by
  refine ⟨rfl, rfl, Nat.le_refl _, ?_⟩
  have := StrLaws.reprText_len x (fun c h => Nat.lt_of_lt_of_le (hc c h) (by decide))
  show (reprText x).length ≤ _
  omega
theorem Shw.bl {b : Bool} : Shw 0 5 (.bool b) := by cases b <;> exact ⟨rfl, rfl, Nat.le_refl _, by decide +kernel⟩
theorem Shw.non : Shw 0 4 .none := ⟨rfl, rfl, Nat.le_refl _, by decide +kernel⟩
theorem shw_all {k m : Nat} : ∀ {ds : List PyData}, (∀ d ∈ ds, Shw k m d) → PyData.showableAll ds = true ∧ PyData.hasDictAll ds = false ∧ PyData.depthAll ds ≤ k ∧ piled (PyData.shownAll ds) ≤ (m + 2) * ds.length
  | [], _ => ⟨rfl, rfl, Nat.zero_le _, Nat.zero_le _⟩
  | d :: ds, h => by
    obtain ⟨a, b, c, e⟩ := shw_all (ds := ds) fun x hx => h x (List.mem_cons_of_mem _ hx)
    have w := h d List.mem_cons_self
    refine ⟨?_, ?_, ?_, ?_⟩
    · show (d.showable && _) = true
      rw [w.ws, a]; rfl
    · show (d.hasDict || _) = false
      rw [w.wh, b]; rfl
    · show max d.depth _ ≤ k
      exact Nat.max_le.mpr ⟨w.wd, c⟩
    · show piled (d.shown :: PyData.shownAll ds) ≤ _
      have := w.wz
      rw [piled_cons, List.length_cons, Nat.mul_succ]
      omega
theorem Shw.list {k m : Nat} {ds : List PyData} (h : ∀ d ∈ ds, Shw k m d) : Shw (k + 1) ((m + 2) * ds.length + 2) (.list ds) := by
  obtain ⟨a, b, c, e⟩ := shw_all h
  refine ⟨a, b, ?_, ?_⟩
  · show PyData.depthAll ds + 1 ≤ _
    omega
  · have := list_le (PyData.shownAll ds)
    show (listText (PyData.shownAll ds)).length ≤ _
    omega
theorem Shw.tuple {k m : Nat} {ds : List PyData} (h : ∀ d ∈ ds, Shw k m d) : Shw (k + 1) ((m + 2) * ds.length + 3) (.tuple ds) := by
  obtain ⟨a, b, c, e⟩ := shw_all h
  refine ⟨a, b, ?_, ?_⟩
  · show PyData.depthAll ds + 1 ≤ _
    omega
  · show (tupleText (PyData.shownAll ds)).length ≤ _
    cases ds with
    | nil => exact Nat.le_trans (show (tupleText []).length ≤ 3 by decide +kernel) (by omega)
    | cons d ds =>
      have := tuple_le (ts := PyData.shownAll (d :: ds)) (by intro z; cases z)
      omega
/-- fit to be shown -/
def Fit (d : PyData) : Prop := d.showable = true ∧ d.hasDict = false ∧ d.depth ≤ 64 ∧ d.shown.length ≤ sizeLine
theorem Shw.fit {k m : Nat} {d : PyData} (w : Shw k m d) (h1 : k ≤ 64 := by decide) (h2 : m ≤ 16777216 := by decide) : Fit d := ⟨w.ws, w.wh, Nat.le_trans w.wd h1, Nat.le_trans w.wz h2⟩
end Gd

/-! sorted(xs) of a list of lists of ints -/
namespace L2
open PySem PySem.Spec PyProof.Rows
theorem each_of_vals : ∀ {L : List (Addr × List Int)} {us : List Value}, Vals (L.map fun p => V.ref p.1) us → PySem.W.EachIs (fun (v : Value) (p : Addr × List Int) => v = .ref p.1) us L
  | [], _, r => by cases r; exact .nil
  | p :: L, _, r => by
    cases r with
    | cons h t => exact .cons h (each_of_vals t)
theorem vals_of_each : ∀ {L : List (Addr × List Int)} {us : List Value}, PySem.W.EachIs (fun (v : Value) (p : Addr × List Int) => v = .ref p.1) us L → Vals (L.map fun p => V.ref p.1) us
  | [], _, r => by cases r; exact .nil
  | p :: L, _, r => by
    cases r with
    | cons h t => exact .cons h (vals_of_each t)
theorem each_and {α β : Type} {R S : α → β → Prop} : ∀ {as : List α} {bs : List β}, PySem.W.EachIs R as bs → (∀ a b, b ∈ bs → R a b → S a b) → PySem.W.EachIs S as bs
  | _, _, .nil, _ => .nil
  | _, _, .cons h t, k => .cons (k _ _ List.mem_cons_self h) (each_and t fun a b hb => k a b (List.mem_cons_of_mem _ hb))
def rSortedRows (K : PySem.W.Frag) : List V → Hp → VK → Prop := fun vs H Q => ∃ (a : Addr) (L : List (Addr × List Int)), vs = [V.ref a] ∧ SqL K H a (L.map fun p => V.ref p.1) ∧ (∀ p ∈ L, H p.1 = some (.lst (p.2.map V.int))) ∧
  ∀ (L' : List (Addr × List Int)) (p : Addr), L' = L.mergeSort (fun x y => decide (x.2 ≤ y.2)) → H p = none → Q (.ref p) (upd H p (.lst (L'.map fun p => V.ref p.1)))
theorem dp_ints {K : PySem.W.Frag} {H : Hp} : ∀ ns : List Int, DpAll K H (ns.map V.int) (ns.map PyData.int)
  | [] => .nil
  | n :: ns => .cons (.int n) (dp_ints ns)
theorem cr_sortedRows {X : Cx} (hu : X.A.units + 4 < cLine) : CallR X (.builtin "sorted") (rSortedRows X.K) := by
  intro pins s σ H vs us Q I r h
  obtain ⟨a, L, rfl, hs, hL, q⟩ := h
  obtain ⟨its, rv, hl, hz⟩ := I.list hs
  rw [Vals.ref1 r]
  have e := each_of_vals rv
  rw [List.length_map] at hz
  refine PySem.W.sorted_data (enc := fun p : Addr × List Int => .list (p.2.map PyData.int)) hl.isList e (each_and e fun v p hp hv => ?_) (PySem.W.AllAlike.of fun b b' => ?_) (PySem.W.Sortable.others fun b => ⟨(fun z => by cases z), fun xs z => by cases z⟩) hz (fun b hb => ?_) fun out ho he => ?_
  · obtain ⟨as, rd⟩ := Dp.reads I (.list (p.2.map PyData.int)) (.ref p.1) v (.lst (.inl (.inl (hL p hp))) (dp_ints p.2)) hv
    exact ⟨as, rd⟩
  · show PySem.W.alike (.list _) (.list _) = true
    unfold PySem.W.alike
    exact PySem.W.alike_ints _ _
  · show X.A.units + 2 + (PyData.depthAll (b.2.map PyData.int) + 1) < cLine
    rw [PySem.W.depth_ints]
    omega
  · rw [PySem.W.dataLe_rows] at he
    obtain ⟨ep, he'⟩ := PyProof.Rows.sortedAll_at s.heap its out.toArray
    have hlen : ((L.mergeSort fun x y => decide (x.2 ≤ y.2)).map fun p => V.ref p.1).length ≤ sizeLine := by
      rw [List.length_map, List.length_mergeSort]
      exact hz
    exact ⟨.ref _, upd H (s.heap.objs.size + 1) (.lst ((L.mergeSort fun x y => decide (x.2 ≤ y.2)).map fun p => V.ref p.1)), I.laid (t' := s.toks) (fun _ _ => PyProof.Rows.sortedAll_old) (Nat.le_succ _) ⟨hlen, out, ep, vals_of_each he, he'⟩, rfl, q _ _ rfl (I.hok.fresh (Nat.le_succ _))⟩
theorem cr_sortedRowsR {X : Cx} {k : Nat} (hr : Gd.RoomG k X.A) : CallR X (.builtin "sorted") (rSortedRows X.K) := cr_sortedRows (by have := hr.r.un; omega)
end L2

namespace Rd
open PySem PySem.Spec PyProof.Rows L2 GxR Gx Gd
def topS (i : Nat) : Stmt := PySem.Challenge.pw_remoteviews_k12_few_moves.main.body.getD i (.Pass ⟨0, 0, 0, 0⟩)
end Rd

namespace Rd
open PySem PySem.Spec PyProof.Rows L2 GxR Gx Gd
/-! ### the law's draws -/
abbrev s_law_cell : Stmt := topS 5
theorem sc_law_cell : FnScope ["script", "k"] ["script", "k"] (defScope s_law_cell) := ⟨rfl, rfl, rfl, by decide +kernel, rfl, by decide +kernel, by decide +kernel⟩
abbrev s_law_draw : Stmt := topS 9
theorem sc_law_draw : FnScope ["box", "many", "at"] ["box", "many"] (defScope s_law_draw) := ⟨rfl, rfl, rfl, by decide +kernel, rfl, by decide +kernel, by decide +kernel⟩
def Box (bx d : Addr) (H : Hp) : Prop := ∃ (xs : List V) (at' : Int), H bx = some (.lst [.ref d, .int at']) ∧ 0 ≤ at' ∧ H d = some (.lst xs) ∧ ∀ v ∈ xs, ∃ i, v = .int i
theorem Box.ne {bx d : Addr} {H : Hp} (h : Box bx d H) : d ≠ bx := fun e => by
  obtain ⟨xs, a, h1, h2, h3, h4⟩ := h
  rw [e, h1] at h3
  cases h3
  obtain ⟨i, e⟩ := h4 _ List.mem_cons_self
  cases e
theorem Box.lsts {bx d : Addr} {H : Hp} (h : Box bx d H) : Lsts [bx] H := fun b hb => by
  obtain ⟨xs, a, h1, _⟩ := h
  cases hb with
  | head => exact ⟨_, h1⟩
  | tail _ h => cases h
theorem Box.kb {S : List Addr} {bx d : Addr} {H H' : Hp} (h : Box bx d H) (k : Kb S H H') (n1 : bx ∉ S) (n2 : d ∉ S) : Box bx d H' := by
  obtain ⟨xs, a, h1, h2, h3, h4⟩ := h
  exact ⟨xs, a, k.keep bx _ h1 n1 nt_lst, h2, k.keep d _ h3 n2 nt_lst, h4⟩
theorem Box.kp {bx d : Addr} {H H' : Hp} (h : Box bx d H) (k : Kp H H') : Box bx d H' := h.kb k (by simp) (by simp)
theorem Box.upd {bx d D : Addr} {H : Hp} {o : HO} (h : Box bx d H) (n1 : D ≠ bx) (n2 : D ≠ d) : Box bx d (upd H D o) := by
  obtain ⟨xs, a, h1, h2, h3, h4⟩ := h
  exact ⟨xs, a, by rw [upd_ne n1.symm]; exact h1, h2, by rw [upd_ne n2.symm]; exact h3, h4⟩
theorem Box.new {bx d D : Addr} {H : Hp} (h : Box bx d H) (n : H D = none) : D ≠ bx ∧ D ≠ d := by
  obtain ⟨xs, a, h1, h2, h3, h4⟩ := h
  exact ⟨(ne_of_none h1 n).symm, (ne_of_none h3 n).symm⟩
/-- after some draws -/
def Aft (bx d : Addr) (H H' : Hp) : Prop := Kb [bx] H H' ∧ Box bx d H'
theorem Aft.trans {bx d : Addr} {H H1 H2 : Hp} (a : Aft bx d H H1) (b : Aft bx d H1 H2) : Aft bx d H H2 := ⟨a.1.trans b.1, b.2⟩
theorem Aft.of {bx d : Addr} {H H' : Hp} (b : Box bx d H) (k : Kp H H') : Aft bx d H H' := ⟨Kb.of k, b.kp k⟩
theorem Aft.refl {bx d : Addr} {H : Hp} (b : Box bx d H) : Aft bx d H H := ⟨Kb.refl H, b⟩
theorem Aft.new {bx d D : Addr} {H : Hp} {o : HO} (b : Box bx d H) (n : H D = none) : Aft bx d H (upd H D o) := Aft.of b (Kb.new n)
theorem Aft.mut {bx d D : Addr} {H H' : Hp} {o u : HO} (k : Aft bx d H H') (n : H D = none) (b : Box bx d H) (e : H' D = some u) (t : NoTab u) : Aft bx d H (upd H' D o) :=
  ⟨k.1.mut n (no_tab e t), k.2.upd (b.new n).1 (b.new n).2⟩
theorem Aft.dt {K : PySem.W.Frag} {bx d : Addr} {H H' : Hp} {v : V} {x : PyData} (k : Aft bx d H H') (b : Box bx d H) (h : Dt K H v x) : Dt K H' v x := h.kb k.1 b.lsts
theorem Aft.lst {bx d D : Addr} {H H' : Hp} {xs : List V} (k : Aft bx d H H') (e : H D = some (.lst xs)) (n : D ≠ bx) : H' D = some (.lst xs) := k.1.keep D _ e (by simpa using n) nt_lst
def spDraw : Sp := fun vs H Q _ => ∃ bx d many, vs = [.ref bx, .int many] ∧ 0 < many ∧ Box bx d H ∧ ∀ H' r, Aft bx d H H' → 0 ≤ r → r < many → Q (.int r) H'
def spCell (K : PySem.W.Frag) : Sp := fun vs H Q _ => ∃ (a : Addr) (ns : List Int) (k : Int), vs = [.ref a, .int k] ∧ 0 ≤ k ∧ SqL K H a (ns.map V.int) ∧ ∀ i, Q (.int i) H
section
variable {P : Program} {w : World} {K : PySem.W.Frag} {mg : Str → Option Value} {base : Heap}
theorem c_law_cell (D : DefAt K mg "_law_cell" s_law_cell ["script", "k"]) (m_len : mg "len" = none) : Cal P w K mg base CX0 1 "_law_cell" ["script", "k"] (spCell K) := by
  refine D.cal (k := 0) sc_law_cell (fun vs H Q E h => ?_) fun f cdv A outer s H vs Q E hr h => ?_
  · obtain ⟨a, ns, k, rfl, _⟩ := h
    rfl
  · obtain ⟨a, ns, k, rfl, h0, h, q⟩ := h
    refine ⟨_, (pss_cons (ps_if (pt_cmpR op_lt (pv 1) (pe_callB call_len_seq (by rfl) m_len (by decide +kernel) (pa_cons (pv 0) pa_nil)) (nomark _)) (pss_one (ps_ret (pe_ix ix_list (pv 0) (pv 1) (fun _ _ => rfl)))) pss_nil)
  (pss_one (ps_ret pe_int))), ?_⟩
    refine ⟨_, rfl, _, rfl, a, _, rfl, .inl h, k, _, rfl, rfl, _, rfl, ?_⟩
    by_cases hk : k < ((ns.map V.int).length : Int)
    · rw [decide_eq_true hk]
      obtain ⟨n, rfl⟩ : ∃ n : Nat, k = n := ⟨k.toNat, by omega⟩
      have hn : n < (ns.map V.int).length := by omega
      have e : (ns.map V.int)[n]? = some (.int (ns[n]'(by simpa using hn))) := by simp
      exact iteT ⟨_, rfl, _, rfl, a, _, _, _, rfl, rfl, h, atI_nat e, q _⟩
    · rw [decide_eq_false hk]
      exact iteF (q 0)
theorem c_law_draw (D : DefAt K mg "_law_draw" s_law_draw ["box", "many"]) (m_len : mg "len" = none) (m_int : mg "int" = none) : Cal P w K mg base CX0 1 "_law_draw" ["box", "many"] spDraw := by
  refine D.cal (k := 0) sc_law_draw (fun vs H Q E h => ?_) fun f cdv A outer s H vs Q E hr h => ?_
  · obtain ⟨bx, d, many, rfl, _⟩ := h
    rfl
  · obtain ⟨bx, d, many, rfl, hm, hb, q⟩ := h
    have hne := hb.ne
    obtain ⟨xs, n, h1, h2, h3, h4⟩ := hb
    refine ⟨_, (pss_cons (ps_set (i := 2) sc_law_draw.nd rfl (Or.inl rfl) (pe_ix ix_list (pv 0) pe_int (fun _ _ => rfl)))
  (pss_cons (ps_asg (pe_op op_add (pv 2) pe_int) (pg_sub (pv 0) pe_int set_list))
  (pss_cons (ps_if (pt_cmpR op_lt (pv 2) (pe_callB call_len_seq (by rfl) m_len (by decide +kernel) (pa_cons (pe_ix ix_list (pv 0) pe_int (fun _ _ => rfl)) pa_nil)) (nomark _)) (pss_one (ps_ret (pe_op op_mod (pe_callTy call_int1 (by rfl) m_int (by decide +kernel) (pa_cons (pe_ix ix_list (pe_ix ix_list (pv 0) pe_int (fun _ _ => rfl)) (pv 2) (fun _ _ => rfl)) pa_nil)) (pv 1)))) pss_nil)
  (pss_one (ps_ret (pe_op op_mod (pe_callTy call_int1 (by rfl) m_int (by decide +kernel) (pa_cons (pe_op op_add (pe_op op_mul (pv 2) pe_int) pe_int) pa_nil)) (pv 1))))))), ?_⟩
    refine ⟨.ref bx, rfl, bx, _, 1, _, rfl, rfl, .inl (.inl h1), atI_nat (j := 1) rfl, ?_⟩
    refine ⟨.int n, rfl, n, 1, rfl, rfl, .ref bx, rfl, bx, _, 1, 1, rfl, rfl, h1, rfl, ?_⟩
    have k1 : Aft bx d H (upd H bx (.lst [.ref d, .int (n + 1)])) := ⟨Kb.put (by simp) h1 nt_lst, xs, n + 1, upd_same, by omega, by rw [upd_ne hne]; exact h3, h4⟩
    have e1 : (upd H bx (.lst [.ref d, .int (n + 1)])) bx = some (.lst [.ref d, .int (n + 1)]) := upd_same
    have e2 : (upd H bx (.lst [.ref d, .int (n + 1)])) d = some (.lst xs) := by rw [upd_ne hne]; exact h3
    refine ⟨.int n, rfl, .ref bx, rfl, bx, _, 0, .ref d, rfl, rfl, .inl (.inl e1), atI_nat (j := 0) rfl, d, xs, rfl, .inl (.inl (.inl e2)), n, _, rfl, rfl, _, rfl, ?_⟩
    by_cases hk : n < (xs.length : Int)
    · rw [decide_eq_true hk]
      obtain ⟨j, rfl⟩ : ∃ j : Nat, n = j := ⟨n.toNat, by omega⟩
      have hj : j < xs.length := by omega
      obtain ⟨i, hi⟩ := h4 xs[j] (List.getElem_mem hj)
      have e : xs[j]? = some (.int i) := by rw [List.getElem?_eq_getElem hj, hi]
      exact iteT ⟨.ref bx, rfl, bx, _, 0, .ref d, rfl, rfl, .inl (.inl e1), atI_nat (j := 0) rfl, _, rfl, d, xs, j, .int i, rfl, rfl, .inl (.inl e2), atI_nat e, .inl ⟨i, rfl, _, rfl, i, many, rfl, rfl, hm, q _ _ k1 (Int.emod_nonneg _ (by omega)) (Int.emod_lt_of_pos _ hm)⟩⟩
    · rw [decide_eq_false hk]
      exact iteF ⟨_, rfl, n, 7, rfl, rfl, .inr (by decide), _, _, rfl, rfl, .inl ⟨_, rfl, _, rfl, _, many, rfl, rfl, hm, q _ _ k1 (Int.emod_nonneg _ (by omega)) (Int.emod_lt_of_pos _ hm)⟩⟩
end
abbrev s_law_digits : Stmt := topS 8
theorem sc_law_digits : FnScope ["script", "first", "last", "digits", "k", "cell", "turn", "seed"] ["script", "first", "last"] (defScope s_law_digits) := ⟨rfl, rfl, rfl, by decide +kernel, rfl, by decide +kernel, by decide +kernel⟩
def spDigits (K : PySem.W.Frag) : Sp := fun vs H Q _ => ∃ (a : Addr) (ns : List Int) (last : Nat), vs = [.ref a, .int 0, .int (last : Int)] ∧ last ≤ 200 ∧ SqL K H a (ns.map V.int) ∧ ∀ (d : Addr) (H' : Hp) (xs : List V), H d = none → Kp H H' → H' d = some (.lst xs) → (∀ v ∈ xs, ∃ i, v = .int i) → Q (.ref d) H'
/-- the list at D holds at most n ints, all else stands -/
def Dg (H0 : Hp) (D : Addr) (n : Nat) (H : Hp) : Prop := ∃ xs : List V, xs.length ≤ n ∧ (∀ v ∈ xs, ∃ i, v = .int i) ∧ Kp H0 H ∧ H D = some (.lst xs)
theorem Dg.push {H0 H : Hp} {D : Addr} {n : Nat} {xs : List V} {i : Int} (h0 : H0 D = none) (hl : xs.length ≤ n) (hi : ∀ v ∈ xs, ∃ i, v = .int i) (k : Kp H0 H) (e : H D = some (.lst xs)) : Dg H0 D (n + 1) (upd H D (.lst (xs ++ [.int i]))) :=
  ⟨xs ++ [.int i], by simp; exact hl, fun v hv => by
    rcases List.mem_append.mp hv with h | h
    · exact hi v h
    · exact ⟨i, by simpa using h⟩, k.mut h0 (no_tab e nt_lst), upd_same⟩
theorem Dg.mono {H0 H : Hp} {D : Addr} {n m : Nat} (h : Dg H0 D n H) (l : n ≤ m) : Dg H0 D m H := let ⟨xs, a, r⟩ := h; ⟨xs, Nat.le_trans a l, r⟩
theorem iteC {b : Bool} {A B : Prop} (h1 : A) (h2 : B) : if b = true then A else B := by
  cases b with
  | true => exact iteT h1
  | false => exact iteF h2
theorem cell_pos {R r k l} {b : Bool} {σ : L2.St} {H : Hp} {c : Int} (hs : σ[5]? = some (some (.int c))) (hσ : σ.set 5 (some (.int c)) = σ) (h : ∀ c', R (σ.set 5 (some (.int c'))) H) :
    if b = true then tAsg (tOp (rI0 fun i j => V.int (i - j)) (tC (V.int 1)) (tOp (rI CMul fun i j => V.int (i * j)) (tC (V.int 2)) (tVar 5))) (gName 5) ⟨R, r, k, l⟩ σ H else tNext ⟨R, r, k, l⟩ σ H := by
  cases b with
  | true => exact iteT ⟨_, hs, 2, c, rfl, rfl, .inl (by decide), 1, _, rfl, rfl, h _⟩
  | false =>
    refine iteF ?_
    have z := h c
    rw [hσ] at z
    exact z
section
variable {P : Program} {w : World} {K : PySem.W.Frag} {mg : Str → Option Value} {base : Heap}
theorem c_law_digits (D : DefAt K mg "_law_digits" s_law_digits ["script", "first", "last"]) (m_range : mg "range" = none) (m_int : mg "int" = none)
    (c__law_cell : Cal P w K mg base CX0 1 "_law_cell" ["script", "k"] (spCell K)) : Cal P w K mg base CX0 2 "_law_digits" ["script", "first", "last"] (spDigits K) := by
  refine D.cal (k := 1) sc_law_digits (fun vs H Q E h => ?_) fun f cdv A outer s H vs Q E hr h => ?_
  · obtain ⟨bx, d, last, rfl, _⟩ := h
    rfl
  · obtain ⟨a, ns, last, rfl, h200, ha, q⟩ := h
    refine ⟨_, (pss_cons (ps_set (i := 3) sc_law_digits.nd rfl (Or.inl rfl) (pe_lst pa_nil))
  (pss_cons (ps_for PassesOwn.never rfl (pi_range2 (by rfl) m_range (pa_cons (pv 1) (pa_cons (pv 2) pa_nil))) (pg_name (i := 4) sc_law_digits.nd rfl (Or.inl rfl)) (pss_cons (ps_set (i := 5) sc_law_digits.nd rfl (Or.inl rfl) (pe_cal (c__law_cell.mono (by decide)) hr (by rfl) (pa_cons (pv 0) (pa_cons (pv 4) pa_nil))))
  (pss_cons (ps_if (pt_cmpR op_lt (pv 5) pe_int (nomark _)) (pss_one (ps_set (i := 5) sc_law_digits.nd rfl (Or.inl rfl) (pe_op op_sub pe_int (pe_op op_mul pe_int (pv 5))))) pss_nil)
  (pss_one (ps_if (pt_cmpR op_ge (pv 5) (pe_op op_pow pe_int pe_int) (nomark _)) (pss_one (ps_for PassesOwn.never rfl (pi_range1 (by rfl) m_range (pa_cons pe_int pa_nil)) (pg_name (i := 6) sc_law_digits.nd rfl (Or.inl rfl)) (pss_one (ps_if (pt_cmpR op_gt (pv 5) pe_int (nomark _)) (pss_cons (ps_expr (pe_bm PySem.F.plainAttrs_list PySem.F.slot_list_append PySem.F.type_list_append mt_append (pv 3) (pa_cons (pe_op op_mod (pe_callTy call_int1 (by rfl) m_int (by decide +kernel) (pa_cons (pv 5) pa_nil)) pe_int) pa_nil)))
  (pss_one (ps_set (i := 5) sc_law_digits.nd rfl (Or.inl rfl) (pe_op op_fdiv (pv 5) pe_int)))) pss_nil)))) (pss_cons (ps_set (i := 7) sc_law_digits.nd rfl (Or.inl rfl) (pe_op op_mod (pe_callTy call_int1 (by rfl) m_int (by decide +kernel) (pa_cons (pe_op op_add (pe_op op_add (pe_op op_mul (pv 5) pe_int) (pe_op op_mul (pv 4) pe_int)) pe_int) pa_nil)) pe_int))
  (pss_one (ps_for PassesOwn.never rfl (pi_range1 (by rfl) m_range (pa_cons pe_int pa_nil)) (pg_name (i := 6) sc_law_digits.nd rfl (Or.inl rfl)) (pss_cons (ps_set (i := 7) sc_law_digits.nd rfl (Or.inl rfl) (pe_op op_mod (pe_callTy call_int1 (by rfl) m_int (by decide +kernel) (pa_cons (pe_op op_add (pe_op op_add (pe_op op_mul (pv 7) pe_int) (pe_op op_mul pe_int (pv 6))) pe_int) pa_nil)) pe_int))
  (pss_one (ps_expr (pe_bm PySem.F.plainAttrs_list PySem.F.slot_list_append PySem.F.type_list_append mt_append (pv 3) (pa_cons (pe_op op_mod (pe_callTy call_int1 (by rfl) m_int (by decide +kernel) (pa_cons (pe_op op_fdiv (pv 7) pe_int) pa_nil)) pe_int) pa_nil)))))))))))))
  (pss_one (ps_ret (pv 3))))), ?_⟩
    refine ⟨Nat.zero_le _, fun D hD => ⟨.int 0, rfl, .int (last : Int), rfl, 0, (last : Int), rfl, by omega, ?_⟩⟩
    refine ⟨fun i m σ H' => m = last - i ∧ i ≤ last ∧ (∃ o1 o2 o3 o4, σ = [some (.ref a), some (.int 0), some (.int (last : Int)), some (.ref D), o1, o2, o3, o4]) ∧ Dg H D (60 * i) H', ⟨_, rfl, Nat.zero_le _, ⟨none, none, none, none, rfl⟩, [], Nat.le_refl _, (fun _ h => by cases h), Kb.new hD, upd_same⟩, ?_⟩
    rintro i m σ H1 ⟨rfl, hi, ⟨o1, o2, o3, o4, rfl⟩, g⟩
    by_cases hl : i < last
    · refine .inr ⟨hl, fun σ' H' => (∃ o1 o2 o3 o4, σ' = [some (.ref a), some (.int 0), some (.int (last : Int)), some (.ref D), o1, o2, o3, o4]) ∧ Dg H D (60 * (i + 1)) H', fun σ' H' ⟨e1, e2⟩ => ⟨_, by omega, rfl, hl, e1, e2⟩, ?_⟩
      rintro x H2 ⟨rfl, rfl⟩
      have hsq : SqL K H2 a (ns.map V.int) := by
        obtain ⟨xs, _, _, k, e⟩ := g
        rcases ha with (ha | ⟨o, ha⟩) | ha
        · exact .inl (.inl (k.keep a _ ha (by simp) nt_lst))
        · exact .inl (.inr ⟨o, k.keep a _ ha (by simp) nt_frz⟩)
        · exact .inr ha
      refine ⟨.ref a, rfl, .int (0 + i), rfl, a, ns, _, rfl, by omega, hsq, fun c => ?_⟩
      refine ⟨_, rfl, c, 0, rfl, rfl, ?_⟩
      refine ⟨_, rfl, cell_pos rfl rfl fun c => ?_⟩
      refine ⟨_, rfl, 10, 18, rfl, rfl, ⟨by decide, by decide, by decide⟩, c, 10 ^ 18, rfl, rfl, ?_⟩
      refine ⟨_, rfl, ?_⟩
      refine iteC ?_ ?_
      · refine ⟨60, rfl, by decide, by decide, ?_⟩
        refine ⟨fun j m σ H' => m = 60 - j ∧ j ≤ 60 ∧ (∃ o1 c o3 o4, σ = [some (.ref a), some (.int 0), some (.int (last : Int)), some (.ref D), o1, some (.int c), o3, o4]) ∧ Dg H D (60 * i + j) H', ⟨_, rfl, Nat.zero_le _, ⟨_, _, _, _, rfl⟩, g⟩, ?_⟩
        rintro j m σ H3 ⟨rfl, hj, ⟨o1, c, o3, o4, rfl⟩, g⟩
        by_cases hl : j < 60
        · refine .inr ⟨hl, fun σ' H' => (∃ o1 c o3 o4, σ' = [some (.ref a), some (.int 0), some (.int (last : Int)), some (.ref D), o1, some (.int c), o3, o4]) ∧ Dg H D (60 * i + (j + 1)) H', fun σ' H' ⟨e1, e2⟩ => ⟨_, by omega, rfl, hl, e1, e2⟩, ?_⟩
          rintro x H4 ⟨rfl, rfl⟩
          refine ⟨_, rfl, c, 0, rfl, rfl, _, rfl, ?_⟩
          refine iteC ?_ ?_
          · obtain ⟨xs, h1, h2, h3, h4⟩ := g
            refine ⟨.ref D, rfl, .inl ⟨rfl, _, .inl (.inl h4)⟩, _, rfl, .inl ⟨c, rfl, c, 1000, rfl, rfl, by show (0 : Int) < 1000; decide, D, xs, _, rfl, rfl, h4, ?_, ?_⟩⟩
            · have : sizeLine = 16777216 := rfl
              omega
            · exact ⟨_, rfl, c, 1000, rfl, rfl, ⟨by decide, by decide⟩, ⟨_, _, _, _, rfl⟩, Dg.push hD h1 h2 h3 h4⟩
          · exact ⟨⟨_, _, _, _, rfl⟩, g.mono (by omega)⟩
        · exact .inl ⟨by show 60 ≤ j; omega, ⟨_, _, _, _, rfl⟩, g.mono (by omega)⟩
      · refine ⟨_, rfl, c, 48271, rfl, rfl, .inr (by decide), _, rfl, _, 69621, rfl, rfl, .inr (by decide), _, _, rfl, rfl, _, _, rfl, rfl, .inl ⟨_, rfl, _, 2147483647, rfl, rfl, by show (0 : Int) < 2147483647; decide, ?_⟩⟩
        refine ⟨12, rfl, by decide, by decide, ?_⟩
        refine ⟨fun j m σ H' => m = 12 - j ∧ j ≤ 12 ∧ (∃ o1 o2 o3 c, σ = [some (.ref a), some (.int 0), some (.int (last : Int)), some (.ref D), o1, o2, o3, some (.int c)]) ∧ Dg H D (60 * i + j) H', ⟨_, rfl, Nat.zero_le _, ⟨_, _, _, _, rfl⟩, g⟩, ?_⟩
        rintro j m σ H3 ⟨rfl, hj, ⟨o1, o2, o3, c, rfl⟩, g⟩
        by_cases hl : j < 12
        · refine .inr ⟨hl, fun σ' H' => (∃ o1 o2 o3 c, σ' = [some (.ref a), some (.int 0), some (.int (last : Int)), some (.ref D), o1, o2, o3, some (.int c)]) ∧ Dg H D (60 * i + (j + 1)) H', fun σ' H' ⟨e1, e2⟩ => ⟨_, by omega, rfl, hl, e1, e2⟩, ?_⟩
          rintro x H4 ⟨rfl, rfl⟩
          refine ⟨_, rfl, c, 16807, rfl, rfl, .inr (by decide), _, rfl, 7, _, rfl, rfl, .inl (by decide), _, _, rfl, rfl, _, _, rfl, rfl, .inl ⟨_, rfl, _, 2147483647, rfl, rfl, by show (0 : Int) < 2147483647; decide, ?_⟩⟩
          obtain ⟨xs, h1, h2, h3, h4⟩ := g
          refine ⟨.ref D, rfl, .inl ⟨rfl, _, .inl (.inl h4)⟩, _, rfl, _, 997, rfl, rfl, ⟨by decide, by decide⟩, .inl ⟨_, rfl, _, 1000, rfl, rfl, by show (0 : Int) < 1000; decide, D, xs, _, rfl, rfl, h4, ?_, ?_⟩⟩
          · have : sizeLine = 16777216 := rfl
            omega
          · exact ⟨⟨_, _, _, _, rfl⟩, Dg.push hD h1 h2 h3 h4⟩
        · exact .inl ⟨by show 12 ≤ j; omega, ⟨_, _, _, _, rfl⟩, g.mono (by omega)⟩
    · obtain ⟨xs, h1, h2, h3, h4⟩ := g
      refine .inl ⟨by show ((last : Int) - 0).toNat ≤ _; omega, ?_⟩
      exact ⟨_, rfl, q D H1 xs hD h3 h4 h2⟩
end

end Rd

namespace Rd
open PySem PySem.Spec PyProof.Rows L2 GxR Gx Gd Lis
abbrev s_lengths : Stmt := topS 2
theorem sc_lengths : FnScope ["places", "lengths", "at", "behind"] ["places"] (defScope s_lengths) := ⟨rfl, rfl, rfl, by decide +kernel, rfl, by decide +kernel, by decide +kernel⟩
def spLens (K : PySem.W.Frag) : Sp := fun vs H Q _ => ∃ (a : Addr) (ns : List Int), vs = [.ref a] ∧ SqT K H a (ns.map V.int) ∧ ns.length ≤ 1000 ∧ ∀ (D : Addr) (H' : Hp), H D = none → Kp H H' → H' D = some (.lst ((lens ns).map V.int)) → Q (.ref D) H'
theorem get_map {ns : List Int} {i : Nat} {x : Int} (h : ns[i]? = some x) : (ns.map V.int)[i]? = some (.int x) := by rw [List.getElem?_map, h]; rfl
theorem ixN_nat {n t : Nat} (h : t < n) : ixN n (t : Int) = some t := by
  unfold ixN
  rw [if_pos (by omega), if_pos (by omega)]
  rfl
theorem set_mid {t : Nat} {b c : Int} {L : List Int} : ((List.replicate t 1 ++ b :: L).map V.int).set t (.int c) = (List.replicate t 1 ++ c :: L).map V.int := by
  rw [← List.map_set, List.set_append_right _ _ (by simp), List.length_replicate, Nat.sub_self]
  rfl
section
variable {P : Program} {w : World} {K : PySem.W.Frag} {mg : Str → Option Value} {base : Heap}
theorem c_lengths (D : DefAt K mg "_lengths" s_lengths ["places"]) (m_len : mg "len" = none) (m_range : mg "range" = none) (m_reversed : mg "reversed" = none) (m_max : mg "max" = none) : Cal P w K mg base CX0 1 "_lengths" ["places"] (spLens K) := by
  refine D.cal (k := 0) sc_lengths (fun vs H Q E h => ?_) fun f cdv A outer s H vs Q E hr h => ?_
  · obtain ⟨a, ns, rfl, _⟩ := h
    rfl
  · obtain ⟨a, ns, rfl, ha, hn, q⟩ := h
    refine ⟨_, (pss_cons (ps_set (i := 1) sc_lengths.nd rfl (Or.inl rfl) (pe_op op_rep (pe_lst (pa_cons pe_int pa_nil)) (pe_callB call_len_seq (by rfl) m_len (by decide +kernel) (pa_cons (pv 0) pa_nil))))
  (pss_cons (ps_for PassesOwn.never rfl (pi_revR (by rfl) m_reversed (prg_1 (by rfl) m_range (pe_callB call_len_seq (by rfl) m_len (by decide +kernel) (pa_cons (pv 0) pa_nil)))) (pg_name (i := 2) sc_lengths.nd rfl (Or.inl rfl)) (pss_one (ps_for PassesOwn.never rfl (pi_range2 (by rfl) m_range (pa_cons (pe_op op_add (pv 2) pe_int) (pa_cons (pe_callB call_len_seq (by rfl) m_len (by decide +kernel) (pa_cons (pv 0) pa_nil)) pa_nil))) (pg_name (i := 3) sc_lengths.nd rfl (Or.inl rfl)) (pss_one (ps_if (pt_cmpR op_lt (pe_ix ix_tup (pv 0) (pv 2) (fun _ _ => rfl)) (pe_ix ix_tup (pv 0) (pv 3) (fun _ _ => rfl)) (nomark _)) (pss_one (ps_asg (pe_callB (call_max2 rfl) (by rfl) m_max (by decide +kernel) (pa_cons (pe_ix ix_list (pv 1) (pv 2) (fun _ _ => rfl)) (pa_cons (pe_op op_add (pe_ix ix_list (pv 1) (pv 3) (fun _ _ => rfl)) pe_int) pa_nil))) (pg_sub (pv 1) (pv 2) set_list))) pss_nil)))))
  (pss_one (ps_ret (pv 1))))), ?_⟩
    have sz : sizeLine = 16777216 := rfl
    refine ⟨by show 1 ≤ sizeLine; decide, fun p0 h0 => ?_⟩
    have k0 : Kp H (upd H p0 (.lst [.int 1])) := Kb.new h0
    refine ⟨.ref a, rfl, a, ns.map V.int, rfl, .inr (k0.sqT .nil ha), p0, ((ns.map V.int).length : Nat), _, rfl, rfl, upd_same, by omega, by rw [List.length_map]; omega, by rw [List.length_map]; show 1 * _ ≤ _; omega, fun D hD => ?_⟩
    have k1 : Kp H (upd (upd H p0 (.lst [.int 1])) D (.lst (List.replicate ((ns.map V.int).length : Int).toNat [V.int 1]).flatten)) := k0.trans (Kb.new hD)
    have hDH : H D = none := k0.free D hD
    have e1 : (upd (upd H p0 (.lst [.int 1])) D (.lst (List.replicate ((ns.map V.int).length : Int).toNat [V.int 1]).flatten)) D = some (.lst ((List.replicate ns.length 1).map V.int)) := by
      rw [upd_same, Int.toNat_natCast, List.length_map]
      simp
    generalize upd (upd H p0 (.lst [.int 1])) D (.lst (List.replicate ((ns.map V.int).length : Int).toNat [V.int 1]).flatten) = H1 at k1 e1 ⊢
    have hz : (ns.map V.int).length = ns.length := List.length_map ..
    refine ⟨.ref a, rfl, a, ns.map V.int, rfl, .inr (k1.sqT .nil ha), _, rfl, by decide, by decide, by omega, by omega, ?_⟩
    refine for_it walk_rangeC (fun i σ H' => i ≤ ns.length ∧ (∃ o2 o3, σ = [some (.ref a), some (.ref D), o2, o3]) ∧ Kp H H' ∧ H' D = some (.lst ((List.replicate (ns.length - i) 1 ++ lens (ns.drop (ns.length - i))).map V.int))) ⟨Nat.zero_le _, ⟨_, _, rfl⟩, k1, ?_⟩ (fun _ _ _ _ _ => trivial) ?_ ?_
    · rw [e1, Nat.sub_zero, List.drop_length]
      show _ = some (HO.lst ((_ ++ []).map _))
      rw [List.append_nil]
    · rintro i x σ _ H2 hi ⟨_, ⟨o2, o3, rfl⟩, k2, e2⟩ ⟨rfl, hx⟩
      have hi' : i < ns.length := by omega
      obtain ⟨t, ht⟩ : ∃ t : Nat, t + i + 1 = ns.length := ⟨ns.length - i - 1, by omega⟩
      have hx : x = .int (t : Int) := by
        refine hx.trans ?_
        show V.int _ = V.int _
        congr 1
        omega
      subst hx
      obtain ⟨y, hy⟩ : ∃ y, ns[t]? = some y := ⟨ns[t], by simp [List.getElem?_eq_getElem, show t < ns.length by omega]⟩
      have hd : ns.drop t = y :: ns.drop (t + 1) := by
        rw [List.drop_eq_getElem_cons (by omega)]
        congr 1
        rw [List.getElem?_eq_getElem (by omega)] at hy
        exact Option.some.inj hy
      have hlL : (lens (ns.drop (t + 1))).length = ns.length - (t + 1) := by rw [length_lens, List.length_drop]
      have e3 : H2 D = some (.lst ((List.replicate t 1 ++ 1 :: lens (ns.drop (t + 1))).map V.int)) := by
        rw [e2, show ns.length - i = t + 1 by omega, List.replicate_succ', List.append_assoc]
        rfl
      refine ⟨_, rfl, _, 1, rfl, rfl, .ref a, rfl, a, ns.map V.int, rfl, .inr (k2.sqT .nil ha), _, _, rfl, ⟨by omega, by omega, by omega, by omega⟩, ?_⟩
      refine for_it walk_range (fun j σ H' => (∃ o3, σ = [some (.ref a), some (.ref D), some (.int (t : Int)), o3]) ∧ Kp H H' ∧ ∃ b, H' D = some (.lst ((List.replicate t 1 ++ b :: lens (ns.drop (t + 1))).map V.int)) ∧ best y ((ns.drop (t + 1)).drop j) ((lens (ns.drop (t + 1))).drop j) b = best y (ns.drop (t + 1)) (lens (ns.drop (t + 1))) 1) ⟨⟨_, rfl⟩, k2, 1, e3, rfl⟩ (fun _ _ _ _ _ => trivial) ?_ ?_
      · rintro j x σ _ H3 hj ⟨⟨o3, rfl⟩, k3, b, e4, hb⟩ ⟨rfl, hx⟩
        have hx : x = .int ((t + 1 + j : Nat) : Int) := by
          refine hx.trans ?_
          show V.int _ = V.int _
          congr 1
        subst hx
        have hj' : t + 1 + j < ns.length := by omega
        obtain ⟨z, hz'⟩ : ∃ z, ns[t + 1 + j]? = some z := ⟨ns[t + 1 + j], by simp [List.getElem?_eq_getElem, hj']⟩
        obtain ⟨l, hl⟩ : ∃ l, (lens (ns.drop (t + 1)))[j]? = some l := ⟨(lens (ns.drop (t + 1)))[j]'(by omega), List.getElem?_eq_getElem _⟩
        have d1 : (ns.drop (t + 1)).drop j = z :: (ns.drop (t + 1)).drop (j + 1) := by
          rw [List.drop_eq_getElem_cons (by rw [List.length_drop]; omega)]
          congr 1
          rw [List.getElem_drop]
          rw [List.getElem?_eq_getElem (by omega)] at hz'
          exact Option.some.inj hz'
        have d2 : (lens (ns.drop (t + 1))).drop j = l :: (lens (ns.drop (t + 1))).drop (j + 1) := by
          rw [List.drop_eq_getElem_cons (by omega)]
          congr 1
          rw [List.getElem?_eq_getElem (by omega)] at hl
          exact Option.some.inj hl
        rw [d1, d2, best_cons] at hb
        refine ⟨_, rfl, _, rfl, a, _, _, _, rfl, rfl, k3.sqT .nil ha, atI_nat (get_map hy), _, rfl, _, rfl, a, _, _, _, rfl, rfl, k3.sqT .nil ha, atI_nat (get_map hz'), _, _, rfl, rfl, _, rfl, ?_⟩
        have g1 : ((List.replicate t (1 : Int) ++ b :: lens (ns.drop (t + 1))).map V.int)[t]? = some (.int b) := get_map (by simp)
        have g2 : ((List.replicate t (1 : Int) ++ b :: lens (ns.drop (t + 1))).map V.int)[t + 1 + j]? = some (.int l) := get_map (by
          rw [List.getElem?_append_right (by simp; omega), List.length_replicate, show t + 1 + j - t = j + 1 by omega]
          exact hl)
        by_cases hlt : y < z
        · rw [decide_eq_true hlt]
          rw [if_pos hlt] at hb
          refine iteT ?_
          refine ⟨_, rfl, _, rfl, D, _, _, _, rfl, rfl, .inl (.inl e4), atI_nat g1, _, rfl, _, rfl, D, _, _, _, rfl, rfl, .inl (.inl e4), atI_nat g2, _, _, rfl, rfl, _, _, rfl, ?_⟩
          exact ⟨_, rfl, _, rfl, D, _, _, t, rfl, rfl, e4, ixN_nat (by simp), ⟨_, rfl⟩, k3.mut hDH (no_tab e4 nt_lst), _, by rw [upd_same, set_mid], hb⟩
        · rw [decide_eq_false hlt]
          rw [if_neg hlt] at hb
          exact iteF ⟨⟨_, rfl⟩, k3, b, e4, hb⟩
      · rintro σ H3 ⟨⟨o3, rfl⟩, k3, b, e4, hb⟩
        refine ⟨by omega, ⟨_, _, rfl⟩, k3, ?_⟩
        rw [e4, show ns.length - (i + 1) = t by omega, hd]
        show _ = some (HO.lst ((_ ++ best y _ _ 1 :: _).map _))
        have z0 : (ns.drop (t + 1)).drop (((ns.map V.int).length : Int) - ((t : Int) + 1)).toNat = [] := List.drop_eq_nil_of_le (by rw [List.length_drop]; omega)
        rw [← hb, z0, best_nil]
    · rintro σ H2 ⟨_, ⟨o2, o3, rfl⟩, k2, e2⟩
      refine ⟨_, rfl, q D H2 hDH k2 ?_⟩
      have z : ns.length - (((ns.map V.int).length : Int) - 0).toNat = 0 := by omega
      rw [e2, z]
      rfl
end
end Rd

namespace Rd
open PySem PySem.Spec PyProof.Rows L2 GxR Gx Gd Lis
abbrev s_staying : Stmt := topS 1
theorem sc_staying : FnScope ["places", "lengths", "row", "left", "at", "length"] ["places"] (defScope s_staying) := ⟨rfl, rfl, rfl, by decide +kernel, rfl, by decide +kernel, by decide +kernel⟩
def spStay (K : PySem.W.Frag) : Sp := fun vs H Q _ => ∃ (a : Addr) (ns : List Int), vs = [.ref a] ∧ SqT K H a (ns.map V.int) ∧ ns.length ≤ 1000 ∧ ∀ (D : Addr) (H' : Hp), H D = none → Kp H H' → H' D = some (.lst ((stay ns).map V.int)) → Q (.ref D) H'
theorem max_rd {ls : List Int} {A : Int → Prop} {B : Prop} (hp : ∀ l ∈ ls, 1 ≤ l) (h : A (top ls)) (hb : ls = [] → A 0 → B := by exact fun _ h => h) : (∀ m, m ∈ ls → (∀ y, y ∈ ls → y ≤ m) → A m) ∧ (ls = [] → B) :=
  ⟨fun m h1 h2 => top_eq hp h1 h2 ▸ h, fun e => hb e (by rw [e] at h; exact h)⟩
theorem iteF' {b : Bool} {A B : Prop} (h : b = false) (q : B) : if b = true then A else B := by subst h; exact iteF q
section
variable {P : Program} {w : World} {K : PySem.W.Frag} {mg : Str → Option Value} {base : Heap}
theorem c_staying (D : DefAt K mg "staying" s_staying ["places"]) (m_max : mg "max" = none) (m_enumerate : mg "enumerate" = none)
    (c__lengths : Cal P w K mg base CX0 1 "_lengths" ["places"] (spLens K)) : Cal P w K mg base CX0 2 "staying" ["places"] (spStay K) := by
  refine D.cal (k := 1) sc_staying (fun vs H Q E h => ?_) fun f cdv A outer s H vs Q E hr h => ?_
  · obtain ⟨a, ns, rfl, _⟩ := h
    rfl
  · obtain ⟨a, ns, rfl, ha, hn, q⟩ := h
    refine ⟨_, (pss_cons (ps_set (i := 1) sc_staying.nd rfl (Or.inl rfl) (pe_cal (c__lengths.mono (by decide)) hr (by rfl) (pa_cons (pv 0) pa_nil)))
  (pss_cons (ps_set (i := 2) sc_staying.nd rfl (Or.inl rfl) (pe_lst pa_nil))
  (pss_cons (ps_set (i := 3) sc_staying.nd rfl (Or.inl rfl) (pe_callBK (cr_maxDef rfl) (by rfl) m_max (by decide +kernel) (pa_cons (pv 1) pa_nil) (pk_cons pe_int pk_nil)))
  (pss_cons (ps_for PassesOwn.never rfl (pi_enum (by rfl) m_enumerate (pa_cons (pv 1) pa_nil)) (pg_tup rfl (pgs_cons (pg_name (i := 4) sc_staying.nd rfl (Or.inl rfl)) (pgs_cons (pg_name (i := 5) sc_staying.nd rfl (Or.inl rfl)) pgs_nil))) (pss_one (ps_if (PW.pt (pw_and (pt_cmpR op_eq (pv 5) (pv 3) (nomark _)) (pw_and1 (PW.pt (pw_or (pt_not (pt_truth (pv 2) (by intro _; rfl))) (pw_or1 (pt_cmpR op_lt (pe_ix ix_tup (pv 0) (pe_ix ix_list (pv 2) (pe_un un_neg pe_int) (fun _ _ => rfl)) (fun _ _ => rfl)) (pe_ix ix_tup (pv 0) (pv 4) (fun _ _ => rfl)) (nomark _)))))))) (pss_cons (ps_expr (pe_bm PySem.F.plainAttrs_list PySem.F.slot_list_append PySem.F.type_list_append mt_append (pv 2) (pa_cons (pv 4) pa_nil)))
  (pss_one (ps_aug (i := 3) sc_staying.nd rfl (Or.inl rfl) pe_int ip_sub))) pss_nil)))
  (pss_one (ps_ret (pv 2))))))), ?_⟩
    have sz : sizeLine = 16777216 := rfl
    refine ⟨.ref a, rfl, a, ns, rfl, ha, hn, fun L H1 hL k1 e1 => ?_⟩
    refine ⟨by show 0 ≤ sizeLine; decide, fun R hR => ?_⟩
    have k2 : Kp H (upd H1 R (.lst [])) := k1.trans (Kb.new hR)
    have e2 : (upd H1 R (.lst [])) L = some (.lst ((lens ns).map V.int)) := by rw [upd_ne (ne_of_none e1 hR)]; exact e1
    have hRH : H R = none := k1.free R hR
    have hLR : L ≠ R := ne_of_none e1 hR
    have e3 : (upd H1 R (.lst [])) R = some (.lst (([] : List Int).map V.int)) := upd_same
    generalize upd H1 R (.lst []) = H2 at k2 e2 e3 ⊢
    refine ⟨_, rfl, L, lens ns, .int 0, rfl, rfl, .inl (.inl e2), max_rd (lens_pos ns) ?_⟩
    refine ⟨_, rfl, L, (lens ns).map V.int, rfl, .inl (.inl e2), ?_⟩
    refine for_it walk_enum (fun i σ H' => Kp H H' ∧ H' L = some (.lst ((lens ns).map V.int)) ∧ ∃ taken left last, Pk ns i taken left last ∧ H' R = some (.lst (taken.map V.int)) ∧ ∃ o4 o5, σ = [some (.ref a), some (.ref L), some (.ref R), some (.int left), o4, o5]) ⟨k2, e2, [], _, none, Pk.start ns, e3, _, _, rfl⟩ (fun i σ H' _ h => .inl (.inl h.2.1)) ?_ ?_
    · rintro i x σ H3 H4 hi ⟨k3, e4, taken, left, last, pk, e5, o4, o5, rfl⟩ ⟨T, u, v, rfl, hT, rfl, hu, hv⟩
      obtain rfl := Option.some.inj hu
      rw [List.length_map] at hi
      obtain ⟨l, hl⟩ : ∃ l, (lens ns)[i]? = some l := ⟨(lens ns)[i]'hi, List.getElem?_eq_getElem _⟩
      obtain rfl : V.int l = v := Option.some.inj ((get_map hl).symm.trans hv)
      rw [length_lens] at hi
      obtain ⟨y, hy⟩ : ∃ y, ns[i]? = some y := ⟨ns[i]'hi, List.getElem?_eq_getElem _⟩
      have k4 : Kp H (upd H3 T (.tup [.int (i : Nat), .int l])) := k3.trans (Kb.new hT)
      have e6 : (upd H3 T (.tup [.int (i : Nat), .int l])) L = some (.lst ((lens ns).map V.int)) := by rw [upd_ne (ne_of_none e4 hT)]; exact e4
      have e7 : (upd H3 T (.tup [.int (i : Nat), .int l])) R = some (.lst (taken.map V.int)) := by rw [upd_ne (ne_of_none e5 hT)]; exact e5
      have eT : (upd H3 T (.tup [.int (i : Nat), .int l])) T = some (.tup [.int (i : Nat), .int l]) := upd_same
      generalize upd H3 T (.tup [.int (i : Nat), .int l]) = H5 at k4 e6 e7 eT ⊢
      refine ⟨T, _, rfl, SqT.of eT, rfl, _, _, rfl, _, _, rfl, rfl, _, rfl, _, rfl, rfl, _, rfl, ?_⟩
      have sq := k4.sqT .nil ha
      have fin : Pk ns (i + 1) (taken ++ [(i : Int)]) (left - 1) (some y) → (Kp H (upd H5 R (.lst (taken.map V.int ++ [.int (i : Nat)]))) ∧ (upd H5 R (.lst (taken.map V.int ++ [.int (i : Nat)]))) L = some (.lst ((lens ns).map V.int)) ∧ ∃ tk lf la, Pk ns (i + 1) tk lf la ∧ (upd H5 R (.lst (taken.map V.int ++ [.int (i : Nat)]))) R = some (.lst (tk.map V.int)) ∧
          ∃ o4 o5, ([some (.ref a), some (.ref L), some (.ref R), some (.int (left - 1)), some (.int (i : Nat)), some (.int l)] : L2.St) = [some (.ref a), some (.ref L), some (.ref R), some (.int lf), o4, o5]) := fun p =>
        ⟨k4.mut hRH (no_tab e7 nt_lst), by rw [upd_ne hLR]; exact e6, _, _, _, p, by rw [upd_same, List.map_append]; rfl, _, _, rfl⟩
      have tl : (taken.map V.int).length < sizeLine := by have := pk.len; rw [List.length_map]; omega
      by_cases hc : l = left
      · rw [decide_eq_true (show V.int l = V.int left by rw [hc])]
        refine iteT ⟨_, rfl, _, .inl ⟨_, .inl (.inl e7), rfl⟩, ?_⟩
        cases hla : last with
        | none =>
          obtain rfl := pk.no hla
          exact iteT (iteT ⟨_, rfl, .inl ⟨rfl, _, .inl (.inl e7)⟩, _, rfl, R, _, _, rfl, rfl, e7, tl, _, rfl, _, _, rfl, rfl, fin (pk.take hy hl hc fun y z => by rw [hla] at z; cases z)⟩)
        | some y' =>
          obtain ⟨pre, t, rfl, ht⟩ := pk.yes y' hla
          refine iteF' (by simp) ?_
          refine ⟨_, rfl, _, rfl, 1, rfl, R, _, -1, .int (t : Int), rfl, rfl, .inl (.inl e7), by rw [List.map_append]; exact atI_last _ _, a, _, _, _, rfl, rfl, sq, atI_nat (get_map ht), _, rfl, _, rfl, a, _, _, _, rfl, rfl, sq, atI_nat (get_map hy), _, _, rfl, rfl, _, rfl, ?_⟩
          by_cases hlt : y' < y
          · rw [decide_eq_true hlt]
            exact iteT ⟨_, rfl, .inl ⟨rfl, _, .inl (.inl e7)⟩, _, rfl, R, _, _, rfl, rfl, e7, tl, _, rfl, _, _, rfl, rfl, fin (pk.take hy hl hc fun z hz => by rw [hla] at hz; cases hz; exact hlt)⟩
          · rw [decide_eq_false hlt]
            exact iteF ⟨k4, e6, _, _, _, pk.skip hy hl (fun h => hlt (h.2 y' hla)), e7, _, _, rfl⟩
      · rw [decide_eq_false (show ¬ V.int l = V.int left by intro z; cases z; exact hc rfl)]
        exact iteF (iteF ⟨k4, e6, _, _, _, pk.skip hy hl (fun h => hc h.1), e7, _, _, rfl⟩)
    · rintro σ H3 ⟨k3, e4, taken, left, last, pk, e5, o4, o5, rfl⟩
      rw [List.length_map, length_lens] at pk
      refine ⟨_, rfl, q R H3 hRH k3 ?_⟩
      rw [e5, pk.done]
end
end Rd

namespace Rd
open PySem PySem.Spec PyProof.Rows L2 GxR Gx Gd Lis
abbrev s_law_list_is : Stmt := topS 6
theorem sc_law_list_is : FnScope ["actual", "due"] ["actual", "due"] (defScope s_law_list_is) := ⟨rfl, rfl, rfl, by decide +kernel, rfl, by decide +kernel, by decide +kernel⟩
def spListIs (K : PySem.W.Frag) : Sp := fun vs H Q _ => ∃ (p a : Addr) (xs ys : List V) (ds : List PyData), vs = [.ref p, .ref a] ∧ SqL K H p xs ∧ SqL K H a ys ∧ DtAll K H xs ds ∧ DtAll K H ys ds ∧ Fit (.list ds) ∧ H p = some (.lst xs) ∧ ∀ H', Kp H H' → Q (.bl true) H'
section
variable {P : Program} {w : World} {K : PySem.W.Frag} {mg : Str → Option Value} {base : Heap}
theorem c_law_list_is (D : DefAt K mg "_law_list_is" s_law_list_is ["actual", "due"]) (m_isinstance : mg "isinstance" = none) (m_list : mg "list" = none) (m_repr : mg "repr" = none) : Cal P w K mg base CX0 1 "_law_list_is" ["actual", "due"] (spListIs K) := by
  refine D.cal (k := 0) sc_law_list_is (fun vs H Q E h => ?_) fun f cdv A outer s H vs Q E hr h => ?_
  · obtain ⟨p, a, xs, ys, ss, rfl, _⟩ := h
    rfl
  · obtain ⟨p, a, xs, ys, ds, rfl, sp, sa, hx, hy, ⟨s1, s2, s3, s4⟩, hp, q⟩ := h
    refine ⟨_, (pss_one (ps_ret (pe_and (pe_callB call_isi (by rfl) m_isinstance (by decide +kernel) (pa_cons (pv 0) (pa_cons (pe_bltn (v := .ty "list") (by rfl) m_list (by decide +kernel) rfl) pa_nil))) (pe_one (pe_cmpR op_eq (pe_callB (call_reprR hr) (by rfl) m_repr (by decide +kernel) (pa_cons (pv 0) pa_nil)) (pe_callB (call_reprR hr) (by rfl) m_repr (by decide +kernel) (pa_cons (pe_callTy call_list_of (by rfl) m_list (by decide +kernel) (pa_cons (pv 1) pa_nil)) pa_nil)) (nomark _)))))), ?_⟩
    refine ⟨_, rfl, .ref p, .ty "list", _, _, true, rfl, ClsV.ty "list", .base (.lst hp), kit_ty (by decide +kernel), true, rfl, iteT ?_⟩
    refine ⟨_, rfl, .ref p, .list ds, rfl, .lst sp hx.dp, s1, s2, s3, s4, ?_⟩
    refine ⟨_, rfl, a, ys, rfl, .inl sa, fun L hL => ?_⟩
    have k1 : Kp H (upd H L (.lst ys)) := Kb.new hL
    refine ⟨.ref L, .list ds, rfl, .lst (.inl (.inl upd_same)) (DtAll.kb k1 Lsts.nil hy).dp, s1, s2, s3, s4, rfl, ?_⟩
    rw [decide_eq_true rfl]
    exact q _ k1
/-- ints as data -/
theorem dt_ints (K : PySem.W.Frag) (H : Hp) : ∀ ns : List Int, DtAll K H (ns.map V.int) (ns.map PyData.int)
  | [] => .nil
  | n :: ns => .cons (.int n) (dt_ints K H ns)
end
end Rd

namespace Rd
open PySem PySem.Spec PyProof.Rows L2 GxR Gx Gd Lis
abbrev s_law_rows_up : Stmt := topS 10
theorem sc_law_rows_up : FnScope ["places", "found", "k", "row"] ["places"] (defScope s_law_rows_up) := ⟨rfl, rfl, rfl, by decide +kernel, rfl, by decide +kernel, by decide +kernel⟩
/-- at D a list of lists of ints -/
def Rws (H : Hp) (D : Addr) (L : List (Addr × List Int)) : Prop := H D = some (.lst (L.map fun p => V.ref p.1)) ∧ ∀ p ∈ L, H p.1 = some (.lst (p.2.map V.int))
theorem Rws.kp {H H' : Hp} {D : Addr} {L : List (Addr × List Int)} (r : Rws H D L) (k : Kp H H') : Rws H' D L := ⟨k.keep D _ r.1 (by simp) nt_lst, fun p hp => k.keep _ _ (r.2 p hp) (by simp) nt_lst⟩
def spRows (K : PySem.W.Frag) : Sp := fun vs H Q _ => ∃ (a : Addr) (ns : List Int), vs = [.ref a] ∧ H a = some (.lst (ns.map V.int)) ∧ ns.length ≤ 9 ∧ ∀ (D : Addr) (H' : Hp) (L : List (Addr × List Int)), Kp H H' → Rws H' D L → L.map (·.2) = rows ns ns.length → Q (.ref D) H'
theorem iteP {p : Prop} [Decidable p] {A B : Prop} (h : p) (q : A) : if decide p = true then A else B := by rw [if_pos (decide_eq_true h)]; exact q
theorem iteN {p : Prop} [Decidable p] {A B : Prop} (h : ¬ p) (q : B) : if decide p = true then A else B := by rw [if_neg (by simpa using h)]; exact q
section
variable {P : Program} {w : World} {K : PySem.W.Frag} {mg : Str → Option Value} {base : Heap}
theorem c_law_rows_up (D : DefAt K mg "_law_rows_up" s_law_rows_up ["places"]) (m_len : mg "len" = none) (m_range : mg "range" = none) : Cal P w K mg base CX0 1 "_law_rows_up" ["places"] (spRows K) := by
  refine D.cal (k := 0) sc_law_rows_up (fun vs H Q E h => ?_) fun f cdv A outer s H vs Q E hr h => ?_
  · obtain ⟨a, ns, rfl, _⟩ := h
    rfl
  · obtain ⟨a, ns, rfl, ha, hn, q⟩ := h
    refine ⟨_, (pss_cons (ps_set (i := 1) sc_law_rows_up.nd rfl (Or.inl rfl) (pe_lst (pa_cons (pe_lst pa_nil) pa_nil)))
  (pss_cons (ps_for PassesOwn.never rfl (pi_range1 (by rfl) m_range (pa_cons (pe_callB call_len_seq (by rfl) m_len (by decide +kernel) (pa_cons (pv 0) pa_nil)) pa_nil)) (pg_name (i := 2) sc_law_rows_up.nd rfl (Or.inr rfl)) (pss_one (ps_set (i := 1) sc_law_rows_up.nd rfl (Or.inl rfl) (pe_op op_cat (pv 1) (pe_lc rfl sc_law_rows_up.nd (pi_list (pv 1)) (blkOk_by (own := [("row", 3)]) (N := ["places", "found", "k", "row"]) (sc := defScope s_law_rows_up) (by decide +kernel)) (fun _ _ _ _ _ => (pg_name (i := 3) sc_law_rows_up.nd rfl (Or.inl rfl))) (fun _ _ _ _ _ => (pts_one (PW.pt (pw_or (pt_cmpR op_eq (pe_callB (call_len_seqK (K := K) rfl) (by rfl) m_len (by decide +kernel) (pa_cons (pv 3) pa_nil)) pe_int (nomark _)) (pw_or1 (pt_cmpR op_lt (pe_ix (ix_listK (K := K) rfl) (pv 0) (pe_ix (ix_listK (K := K) rfl) (pv 3) (pe_un un_neg pe_int) (fun _ _ => rfl)) (fun _ _ => rfl)) (pe_ix (ix_listK (K := K) rfl) (pv 0) (pv 2) (fun _ _ => rfl)) (nomark _))))))) (fun _ _ _ _ _ => (pe_op op_cat (pv 3) (pe_lst (pa_cons (pv 2) pa_nil)))))))))
  (pss_one (ps_ret (pv 1))))), ?_⟩
    have sz : sizeLine = 16777216 := rfl
    have sq : ∀ {H' : Hp}, Kp H H' → SqL K H' a (ns.map V.int) := fun k => .inl (.inl (k.keep a _ ha (by simp) nt_lst))
    refine ⟨by show 0 ≤ sizeLine; decide, fun p0 h0 => ⟨by show 1 ≤ sizeLine; decide, fun D0 hD0 => ?_⟩⟩
    have k1 : Kp H (upd (upd H p0 (.lst [])) D0 (.lst [.ref p0])) := (Kb.new h0).trans (Kb.new hD0)
    have r1 : Rws (upd (upd H p0 (.lst [])) D0 (.lst [.ref p0])) D0 [(p0, [])] := ⟨upd_same, fun p hp => by
      rw [List.mem_singleton.mp hp, upd_ne (ne_of_none (H := upd H p0 (.lst [])) upd_same hD0)]
      exact upd_same⟩
    generalize upd (upd H p0 (.lst [])) D0 (.lst [.ref p0]) = H1 at k1 r1 ⊢
    refine ⟨.ref a, rfl, a, _, rfl, .inl (sq k1), _, rfl, by rw [List.length_map]; omega, by rw [List.length_map]; omega, ?_⟩
    refine for_it walk_range (fun i σ H' => Kp H H' ∧ ∃ D L o2, Rws H' D L ∧ L.map (·.2) = rows ns i ∧ σ = [some (.ref a), some (.ref D), o2, none]) ⟨k1, D0, _, _, r1, rfl, rfl⟩ (fun _ _ _ _ _ => trivial) ?_ ?_
    · rintro i x σ _ H2 hi ⟨k2, D, L, o2, r2, hL, rfl⟩ ⟨rfl, hx⟩
      have hx : x = .int (i : Int) := by
        refine hx.trans ?_
        show V.int _ = V.int _
        congr 1
        omega
      subst hx
      have hi : i < ns.length := by rw [List.length_map] at hi; omega
      have hll : L.length ≤ 2 ^ 9 := by
        have h1 := rows_len ns i
        have h2 : 2 ^ i ≤ 2 ^ 9 := Nat.pow_le_pow_right (by decide) (by omega)
        have h3 := congrArg List.length hL
        rw [List.length_map] at h3
        omega
      obtain ⟨y, hy⟩ : ∃ y, ns[i]? = some y := ⟨ns[i], List.getElem?_eq_getElem hi⟩
      refine ⟨_, rfl, _, rfl, D, rfl, ⟨_, .inl (.inl r2.1)⟩, fun E hE => ?_⟩
      have hEH : H E = none := k2.free E hE
      refine lc_it walk_list (fun j H' => Kp H2 H' ∧ ∃ M : List (Addr × List Int), H' E = some (.lst (M.map fun p => V.ref p.1)) ∧ (∀ p ∈ M, p.1 ≠ E ∧ H' p.1 = some (.lst (p.2.map V.int))) ∧ M.map (·.2) = (((rows ns i).take j).filter (okB ns i)).map (· ++ [(i : Int)]) ∧ M.length ≤ j) ⟨Kb.new hE, [], upd_same, (fun p hp => by cases hp), rfl, Nat.le_refl _⟩ (fun j H' _ h => .inl (.inl (r2.kp h.1).1)) ?_ ?_
      · rintro j x _ H3 hj ⟨k3, M, e3, m3, hM, hMl⟩ ⟨rfl, hx⟩
        rw [List.length_map] at hj
        have hp : L[j]? = some L[j] := List.getElem?_eq_getElem hj
        rw [List.getElem?_map, hp] at hx
        generalize hpp : L[j] = p at hp hx
        obtain rfl := Option.some.inj hx
        have hpm : p ∈ L := List.mem_of_getElem? hp
        have ep := (r2.kp k3).2 p hpm
        have hr : (rows ns i)[j]? = some p.2 := by rw [← hL, List.getElem?_map, hp]; rfl
        have hlt := rows_lt ns i p.2 (List.mem_of_getElem? hr)
        have hsz := rows_size ns i p.2 (List.mem_of_getElem? hr)
        have tk : (rows ns i).take (j + 1) = (rows ns i).take j ++ [p.2] := by rw [List.take_succ, hr]; rfl
        have yes : okB ns i p.2 = true → ∀ (q u : Addr), H3 q = none → (upd H3 q (.lst [.int (i : Int)])) u = none → (upd (upd H3 q (.lst [.int (i : Int)])) u (.lst (p.2.map V.int ++ [.int (i : Int)]))) E = some (.lst (M.map fun p => V.ref p.1)) ∧ Kp H2 (upd (upd (upd H3 q (.lst [.int (i : Int)])) u (.lst (p.2.map V.int ++ [.int (i : Int)]))) E (.lst ((M.map fun p => V.ref p.1) ++ [.ref u]))) ∧ ∃ M' : List (Addr × List Int), (upd (upd (upd H3 q (.lst [.int (i : Int)])) u (.lst (p.2.map V.int ++ [.int (i : Int)]))) E (.lst ((M.map fun p => V.ref p.1) ++ [.ref u]))) E = some (.lst (M'.map fun p => V.ref p.1)) ∧
            (∀ p_1 ∈ M', p_1.1 ≠ E ∧ (upd (upd (upd H3 q (.lst [.int (i : Int)])) u (.lst (p.2.map V.int ++ [.int (i : Int)]))) E (.lst ((M.map fun p => V.ref p.1) ++ [.ref u]))) p_1.1 = some (.lst (p_1.2.map V.int))) ∧ M'.map (·.2) = (((rows ns i).take (j + 1)).filter (okB ns i)).map (· ++ [(i : Int)]) ∧ M'.length ≤ j + 1 := fun z q u hq hu => by
          have kq : Kp H3 (upd H3 q (.lst [.int (i : Int)])) := Kb.new hq
          have ku : Kp (upd H3 q (.lst [.int (i : Int)])) (upd (upd H3 q (.lst [.int (i : Int)])) u (.lst (p.2.map V.int ++ [.int (i : Int)]))) := Kb.new hu
          have e4 := kq.keep E _ e3 (by simp) nt_lst
          have huE : u ≠ E := (ne_of_none e4 hu).symm
          have e5 := ku.keep E _ e4 (by simp) nt_lst
          have m5 : ∀ p ∈ M, (upd (upd H3 q (.lst [.int (i : Int)])) u (.lst (p.2.map V.int ++ [.int (i : Int)]))) p.1 = some (.lst (p.2.map V.int)) := fun p hp => by
            have h1 := kq.keep p.1 _ (m3 p hp).2 (by simp) nt_lst
            rw [upd_ne (ne_of_none h1 hu)]
            exact h1
          have eu : (upd (upd H3 q (.lst [.int (i : Int)])) u (.lst (p.2.map V.int ++ [.int (i : Int)]))) u = some (.lst ((p.2 ++ [(i : Int)]).map V.int)) := by rw [upd_same, List.map_append]; rfl
          have k5 := (k3.trans kq).trans ku
          have kp' : ∀ p' ∈ M, (upd (upd H3 q (.lst [.int (i : Int)])) u (.lst (p.2.map V.int ++ [.int (i : Int)]))) p'.1 = some (.lst (p'.2.map V.int)) := fun p' hp' => ku.keep _ _ (kq.keep _ _ (m3 p' hp').2 (by simp) nt_lst) (by simp) nt_lst
          generalize upd (upd H3 q (.lst [.int (i : Int)])) u (.lst (p.2.map V.int ++ [.int (i : Int)])) = H5 at e5 eu k5 kp' ⊢
          refine ⟨e5, k5.mut hE (no_tab e5 nt_lst), M ++ [(u, p.2 ++ [(i : Int)])], by rw [upd_same, List.map_append]; rfl, fun p' hp' => ?_, ?_, by simp; omega⟩
          · rcases List.mem_append.mp hp' with h | h
            · exact ⟨(m3 p' h).1, by rw [upd_ne (m3 p' h).1]; exact kp' p' h⟩
            · rw [List.mem_singleton.mp h]
              exact ⟨huE, by rw [upd_ne huE]; exact eu⟩
          · rw [tk, List.filter_append, List.map_append, hM]
            simp [z]
        have no : okB ns i p.2 = false → Kp H2 H3 ∧ ∃ M : List (Addr × List Int), H3 E = some (.lst (M.map fun p => V.ref p.1)) ∧ (∀ p ∈ M, p.1 ≠ E ∧ H3 p.1 = some (.lst (p.2.map V.int))) ∧ M.map (·.2) = (((rows ns i).take (j + 1)).filter (okB ns i)).map (· ++ [(i : Int)]) ∧ M.length ≤ j + 1 := fun z => by
          refine ⟨k3, M, e3, m3, ?_, by omega⟩
          rw [tk, List.filter_append, hM]
          simp [z]
        have go : okB ns i p.2 = true → _ := fun z => (⟨_, rfl, _, rfl, by show 1 ≤ sizeLine; decide, fun q hq => ⟨p.1, q, _, _, rfl, rfl, by rw [upd_ne (ne_of_none ep hq)]; exact ep, upd_same, by rw [List.length_map]; show _ + 1 ≤ _; omega, fun u hu => ⟨_, (yes z q u hq hu).1, by rw [List.length_map]; omega, (yes z q u hq hu).2⟩⟩⟩ : tOp rCat (tVar 3) (tLst (tCons (tVar 2) tNil)) [some (.ref a), some (.ref D), some (.int (i : Int)), some (.ref p.1)] H3 fun y H4 => ∃ acc, H4 E = some (.lst acc) ∧ acc.length < sizeLine ∧ Kp H2 (upd H4 E (.lst (acc ++ [y]))) ∧ ∃ M' : List (Addr × List Int), (upd H4 E (.lst (acc ++ [y]))) E = some (.lst (M'.map fun p => V.ref p.1)) ∧
            (∀ p ∈ M', p.1 ≠ E ∧ (upd H4 E (.lst (acc ++ [y]))) p.1 = some (.lst (p.2.map V.int))) ∧ M'.map (·.2) = (((rows ns i).take (j + 1)).filter (okB ns i)).map (· ++ [(i : Int)]) ∧ M'.length ≤ j + 1)
        refine ⟨rfl, _, rfl, p.1, _, rfl, .inl (.inl (.inl ep)), rfl, _, rfl, ?_⟩
        cases hg : p.2.getLast? with
        | none =>
          have h0 := List.getLast?_eq_none_iff.mp hg
          have z : okB ns i p.2 = true := by unfold okB; rw [hg]
          exact iteP (by rw [h0]; rfl) (iteT (go z))
        | some t =>
          obtain ⟨t', rfl, ht'⟩ := hlt t (List.mem_of_getLast? hg)
          obtain ⟨r', hr'⟩ : ∃ r', p.2 = r' ++ [(t' : Int)] := by
            rcases List.eq_nil_or_concat p.2 with h | ⟨r', b, h⟩
            · rw [h] at hg
              cases hg
            · rw [List.concat_eq_append] at h
              rw [h, List.getLast?_append] at hg
              cases hg
              exact ⟨r', h⟩
          obtain ⟨y', hy'⟩ : ∃ y', ns[t']? = some y' := ⟨ns[t'], List.getElem?_eq_getElem (by omega)⟩
          have ez : okB ns i p.2 = decide (y' < y) := by
            unfold okB
            rw [hg]
            show decide ((ns[(t' : Int).toNat]?).getD 0 < (ns[i]?).getD 0) = _
            rw [Int.toNat_natCast, hy', hy]
            rfl
          refine iteN (by rw [hr']; intro z; injection z with z; simp at z; omega) ?_
          have k03 := k2.trans k3
          refine ⟨_, rfl, _, rfl, 1, rfl, p.1, _, -1, .int (t' : Int), rfl, rfl, .inl (.inl ep), by rw [hr', List.map_append]; exact atI_last _ _, a, _, _, _, rfl, rfl, sq k03, atI_nat (get_map hy'), _, rfl, _, rfl, a, _, _, _, rfl, rfl, sq k03, atI_nat (get_map hy), _, _, rfl, rfl, _, rfl, ?_⟩
          by_cases hc : y' < y
          · rw [decide_eq_true hc] at ez ⊢
            exact iteT (go ez)
          · rw [decide_eq_false hc] at ez ⊢
            exact iteF (no ez)
      · rintro H3 ⟨k3, M, e3, m3, hM, hMl⟩
        have r3 := r2.kp k3
        refine ⟨D, E, _, _, rfl, rfl, r3.1, e3, by rw [List.length_map] at hMl ⊢; rw [List.length_map]; omega, fun F hF => ?_⟩
        have kF : Kp H3 (upd H3 F (.lst ((L.map fun p => V.ref p.1) ++ M.map fun p => V.ref p.1))) := Kb.new hF
        refine ⟨(k2.trans k3).trans kF, F, L ++ M, _, ⟨by rw [upd_same, List.map_append], fun p hp => ?_⟩, ?_, rfl⟩
        · rcases List.mem_append.mp hp with h | h
          · exact kF.keep _ _ (r3.2 p h) (by simp) nt_lst
          · exact kF.keep _ _ (m3 p h).2 (by simp) nt_lst
        · rw [List.map_append, hL, hM, List.take_of_length_le (by rw [← hL, List.length_map, List.length_map]; exact Nat.le_refl _)]
          rfl
    · rintro σ H2 ⟨k2, D, L, o2, r2, hL, rfl⟩
      refine ⟨_, rfl, q D H2 L k2 r2 ?_⟩
      rw [Int.toNat_natCast, List.length_map] at hL
      exact hL
end
end Rd

namespace Rd
open PySem PySem.Spec PyProof.Rows L2 GxR Gx Gd Lis
abbrev s_law : Stmt := topS 11
theorem sc_law : FnScope ["script", "box", "turn", "places", "k", "place", "rows", "size", "due", "row"] ["script"] (defScope s_law) := ⟨rfl, rfl, rfl, by decide +kernel, rfl, by decide +kernel, by decide +kernel⟩
def spLaw (K : PySem.W.Frag) : Sp := fun vs H Q _ => ∃ (a : Addr) (ns : List Int), vs = [.ref a] ∧ SqL K H a (ns.map V.int) ∧ ∀ H', Q (.bl true) H'
theorem pick_mem : ∀ (xs ls : List Int) (at' : Nat) (left : Int) (last : Option Int), (pick xs ls at' left last).length ≤ xs.length ∧ ∀ i ∈ pick xs ls at' left last, ∃ n : Nat, i = n ∧ n < at' + xs.length
  | [], ls, at', left, last => by unfold pick; exact ⟨Nat.le_refl _, fun _ h => by cases h⟩
  | x :: xs, [], at', left, last => by unfold pick; exact ⟨Nat.zero_le _, fun _ h => by cases h⟩
  | x :: xs, l :: ls, at', left, last => by
    unfold pick
    split
    · obtain ⟨h1, h2⟩ := pick_mem xs ls (at' + 1) (left - 1) (some x)
      refine ⟨by simp; omega, fun i hi => ?_⟩
      rcases List.mem_cons.mp hi with rfl | hi
      · exact ⟨at', rfl, by simp⟩
      · obtain ⟨n, e, hn⟩ := h2 i hi
        exact ⟨n, e, by simp; omega⟩
    · obtain ⟨h1, h2⟩ := pick_mem xs ls (at' + 1) left last
      refine ⟨by simp; omega, fun i hi => ?_⟩
      obtain ⟨n, e, hn⟩ := h2 i hi
      exact ⟨n, e, by simp; omega⟩
theorem stay_fit {ns : List Int} (h : ns.length ≤ 1000) : Fit (.list ((stay ns).map PyData.int)) := by
  obtain ⟨h1, h2⟩ := pick_mem ns (lens ns) 0 (top (lens ns)) none
  have w : ∀ d ∈ (stay ns).map PyData.int, Shw 0 9 d := fun d hd => by
    obtain ⟨i, hi, rfl⟩ := List.mem_map.mp hd
    obtain ⟨n, rfl, hn⟩ := h2 i hi
    exact Shw.nat (by omega)
  refine ((Shw.list w).mono (Nat.le_refl _) (show _ ≤ 20000 by rw [List.length_map]; have : (stay ns).length ≤ 1000 := Nat.le_trans h1 h; omega)).fit
section
variable {P : Program} {w : World} {K : PySem.W.Frag} {mg : Str → Option Value} {base : Heap}
theorem ok_law {f : Addr} {fd : FuncData} (F : Fun K "law" "law" s_law f fd) (m_range : mg "range" = none) (m_len : mg "len" = none) (m_int : mg "int" = none) (m_tuple : mg "tuple" = none) (m_max : mg "max" = none) (m_sorted : mg "sorted" = none)
    (c__law_digits : Cal P w K mg base CX0 2 "_law_digits" ["script", "first", "last"] (spDigits K)) (c__law_draw : Cal P w K mg base CX0 1 "_law_draw" ["box", "many"] spDraw)
    (c_staying : Cal P w K mg base CX0 2 "staying" ["places"] (spStay K)) (c__law_rows_up : Cal P w K mg base CX0 1 "_law_rows_up" ["places"] (spRows K)) (c__law_list_is : Cal P w K mg base CX0 1 "_law_list_is" ["actual", "due"] (spListIs K)) :
    FnG P w K mg base CX0 3 f fd ["script"] (spLaw K) := by
  refine okG (k := 2) F sc_law (fun vs H Q E h => ?_) fun cdv A outer s H vs Q E hr h => ?_
  · obtain ⟨a, ns, rfl, _⟩ := h
    rfl
  · obtain ⟨a, ns, rfl, hs, q⟩ := h
    refine ⟨_, (pss_cons (ps_set (i := 1) sc_law.nd rfl (Or.inl rfl) (pe_lst (pa_cons (pe_cal (c__law_digits.mono (by decide)) hr (by rfl) (pa_cons (pv 0) (pa_cons pe_int (pa_cons pe_int pa_nil)))) (pa_cons pe_int pa_nil))))
  (pss_cons (ps_for PassesOwn.never rfl (pi_range1 (by rfl) m_range (pa_cons pe_int pa_nil)) (pg_name (i := 2) sc_law.nd rfl (Or.inl rfl)) (pss_cons (ps_set (i := 3) sc_law.nd rfl (Or.inl rfl) (pe_lst pa_nil))
  (pss_cons (ps_for PassesOwn.never rfl (pi_range1 (by rfl) m_range (pa_cons (pe_cal (c__law_draw.mono (by decide)) hr (by rfl) (pa_cons (pv 1) (pa_cons pe_int pa_nil))) pa_nil)) (pg_name (i := 4) sc_law.nd rfl (Or.inl rfl)) (pss_cons (ps_set (i := 5) sc_law.nd rfl (Or.inl rfl) (pe_op op_add (pe_cal (c__law_draw.mono (by decide)) hr (by rfl) (pa_cons (pv 1) (pa_cons pe_int pa_nil))) (pe_op op_mul (pe_op op_mul pe_int (pe_callTy call_int1 (by rfl) m_int (by decide +kernel) (pa_cons (pv 4) pa_nil))) (pe_cal (c__law_draw.mono (by decide)) hr (by rfl) (pa_cons (pv 1) (pa_cons pe_int pa_nil))))))
  (pss_one (ps_if (pt_cmpR op_notIn_seq (pv 5) (pv 3) (by rfl)) (pss_one (ps_expr (pe_bm PySem.F.plainAttrs_list PySem.F.slot_list_append PySem.F.type_list_append mt_append (pv 3) (pa_cons (pv 5) pa_nil)))) pss_nil))))
  (pss_cons (ps_set (i := 6) sc_law.nd rfl (Or.inl rfl) (pe_cal (c__law_rows_up.mono (by decide)) hr (by rfl) (pa_cons (pv 3) pa_nil)))
  (pss_cons (ps_set (i := 7) sc_law.nd rfl (Or.inr rfl) (pe_callB (cr_max rfl) (by rfl) m_max (by decide +kernel) (pa_cons (pe_lc rfl sc_law.nd (pi_list (pv 6)) (blkOk_by (own := [("row", 9)]) (N := ["script", "box", "turn", "places", "k", "place", "rows", "size", "due", "row"]) (sc := defScope s_law) (by decide +kernel)) (fun _ _ _ _ _ => (pg_name (i := 9) sc_law.nd rfl (Or.inl rfl))) (fun _ _ _ _ _ => pts_nil) (fun _ _ _ _ _ => (pe_callB (call_len_seqK (K := K) rfl) (by rfl) m_len (by decide +kernel) (pa_cons (pv 9) pa_nil)))) pa_nil)))
  (pss_cons (ps_set (i := 8) sc_law.nd rfl (Or.inl rfl) (pe_ix ix_list (pe_callB (cr_sortedRowsR hr) (by rfl) m_sorted (by decide +kernel) (pa_cons (pe_lc rfl sc_law.nd (pi_list (pv 6)) (blkOk_by (own := [("row", 9)]) (N := ["script", "box", "turn", "places", "k", "place", "rows", "size", "due", "row"]) (sc := defScope s_law) (by decide +kernel)) (fun _ _ _ _ _ => (pg_name (i := 9) sc_law.nd rfl (Or.inl rfl))) (fun _ _ _ _ _ => (pts_one (pt_cmpR op_eq (pe_callB (call_len_seqK (K := K) rfl) (by rfl) m_len (by decide +kernel) (pa_cons (pv 9) pa_nil)) (pv 7) (nomark _)))) (fun _ _ _ _ _ => (pv 9))) pa_nil)) pe_int (fun _ _ => rfl)))
  (pss_one (ps_if (pt_not (pt_val (pe_cal (c__law_list_is.mono (by decide)) hr (by rfl) (pa_cons (pe_cal (c_staying.mono (by decide)) hr (by rfl) (pa_cons (pe_callTy call_tuple_of (by rfl) m_tuple (by decide +kernel) (pa_cons (pv 3) pa_nil)) pa_nil)) (pa_cons (pv 8) pa_nil))))) (pss_one (ps_ret pe_bl)) pss_nil))))))))
  (pss_one (ps_ret pe_bl)))), ?_⟩
    have sz : sizeLine = 16777216 := rfl
    refine ⟨.ref a, rfl, a, ns, 20, rfl, by decide, hs, fun d H1 xs hd k1 e1 hi => ⟨by show 2 ≤ sizeLine; decide, fun bx hbx => ?_⟩⟩
    have b0 : Box bx d (upd H1 bx (.lst [.ref d, .int 0])) := ⟨xs, 0, upd_same, Int.le_refl 0, by rw [upd_ne (ne_of_none e1 hbx)]; exact e1, hi⟩
    generalize upd H1 bx (.lst [.ref d, .int 0]) = H2 at b0 ⊢
    refine ⟨4, rfl, by decide, by decide, ?_⟩
    refine for_it walk_range (fun i σ H' => Box bx d H' ∧ ∃ o2 o3 o4 o5 o6 o7 o8, σ = [some (.ref a), some (.ref bx), o2, o3, o4, o5, o6, o7, o8, none]) ⟨b0, _, _, _, _, _, _, _, rfl⟩ (fun _ _ _ _ _ => trivial) ?_ ?_
    · rintro i x σ _ H3 hi ⟨b3, o2, o3, o4, o5, o6, o7, o8, rfl⟩ ⟨rfl, hx⟩
      refine ⟨by show 0 ≤ sizeLine; decide, fun D hD => ?_⟩
      have b4 : Box bx d (upd H3 D (.lst [])) := (Aft.new b3 hD).2
      have hDb := (b3.new hD).1
      have b3' := b3
      have e4 : (upd H3 D (.lst [])) D = some (.lst (([] : List Int).map V.int)) := upd_same
      generalize upd H3 D (.lst []) = H4 at b4 e4 ⊢
      refine ⟨.ref bx, rfl, bx, d, 10, rfl, by decide, b4, fun H5 r5 a5 g5 l5 => ⟨r5, rfl, by omega, by omega, ?_⟩⟩
      refine for_it walk_range (fun j σ H' => Box bx d H' ∧ ∃ (ps : List Int) (o4 o5 : Option V), H' D = some (.lst (ps.map V.int)) ∧ ps.length ≤ j ∧ σ = [some (.ref a), some (.ref bx), some x, some (.ref D), o4, o5, o6, o7, o8, none]) ⟨a5.2, [], _, _, a5.lst e4 hDb, Nat.le_refl _, rfl⟩ (fun _ _ _ _ _ => trivial) ?_ ?_
      · rintro j y σ _ H6 hj ⟨b6, ps, o4, o5, e6, hp, rfl⟩ ⟨rfl, hy⟩
        obtain rfl : y = .int (0 + (j : Int)) := hy
        refine ⟨.ref bx, rfl, bx, d, 30, rfl, by decide, b6, fun H7 r7 a7 g7 l7 => ?_⟩
        refine ⟨_, rfl, .inl ⟨_, rfl, 2, _, rfl, rfl, .inl (by decide), .ref bx, rfl, bx, d, 2, rfl, by decide, a7.2, fun H8 r8 a8 g8 l8 => ?_⟩⟩
        refine ⟨_, _, rfl, rfl, .inr (by omega), _, _, rfl, rfl, ?_⟩
        have e8 := a8.lst (a7.lst e6 hDb) hDb
        refine ⟨_, rfl, _, rfl, D, _, rfl, .inl (.inl (.inl e8)), ?_⟩
        have hflat : (ps.map V.int).all flatV = true := List.all_eq_true.mpr fun v hv => by
          obtain ⟨n, _, rfl⟩ := List.mem_map.mp hv
          rfl
        refine ⟨rfl, hflat, _, rfl, iteC ?_ ?_⟩
        · refine ⟨_, rfl, .inl ⟨rfl, _, .inl (.inl e8)⟩, _, rfl, D, _, _, rfl, rfl, e8, by rw [List.length_map]; omega, ?_⟩
          exact ⟨a8.2.upd hDb (b3'.new hD).2, ps ++ [_], _, _, by rw [upd_same, List.map_append]; rfl, by simp; omega, rfl⟩
        · exact ⟨a8.2, ps, _, _, e8, by omega, rfl⟩
      · rintro σ H6 ⟨b6, ps, o4, o5, e6, hp, rfl⟩
        refine ⟨_, rfl, D, ps, rfl, e6, by omega, fun R H7 L k7 r7 hL => ?_⟩
        have hLl : L.length ≤ 512 := by
          have h1 := rows_len ns ps.length
          have h2 : 2 ^ ps.length ≤ 2 ^ 9 := Nat.pow_le_pow_right (by decide) (by omega)
          have h3 := congrArg List.length hL
          have h4 := rows_len ps ps.length
          rw [List.length_map] at h3
          omega
        have e7 := k7.keep D _ e6 (by simp) nt_lst
        have b7 := b6.kp k7
        refine ⟨_, rfl, R, rfl, ⟨_, .inl (.inl r7.1)⟩, fun E hE => ?_⟩
        refine lc_it walk_list (fun j H' => Kp H7 H' ∧ H' E = some (.lst (((L.take j).map fun p => ((p.2.length : Nat) : Int)).map V.int))) ⟨Kb.new hE, upd_same⟩ (fun j H' _ h => .inl (.inl (r7.kp h.1).1)) ?_ ?_
        · rintro j y _ H8 hj ⟨k8, e8⟩ ⟨rfl, hy⟩
          rw [List.length_map] at hj
          have hp : L[j]? = some L[j] := List.getElem?_eq_getElem hj
          rw [List.getElem?_map, hp] at hy
          generalize L[j] = p at hp hy
          obtain rfl := Option.some.inj hy
          have ep := (r7.kp k8).2 p (List.mem_of_getElem? hp)
          refine ⟨rfl, iteT (B := Kp H7 H8 ∧ H8 E = some (.lst (((L.take (j + 1)).map fun p => ((p.2.length : Nat) : Int)).map V.int))) ⟨_, rfl, p.1, _, rfl, .inl (.inl (.inl ep)), _, e8, by rw [List.length_map, List.length_map, List.length_take]; omega, k8.mut hE (no_tab e8 nt_lst), ?_⟩⟩
          rw [upd_same, List.take_succ, hp, List.length_map]
          simp
        · rintro H8 ⟨k8, e8⟩
          rw [List.take_of_length_le (by rw [List.length_map]; exact Nat.le_refl _)] at e8
          have hLne : L ≠ [] := by
            intro z
            have h1 : ([] : List Int) ∈ rows ps ps.length := (rows_up ps ps.length (Nat.le_refl _) []).mpr up_nil
            rw [← hL, z] at h1
            cases h1
          refine ⟨E, L.map fun p => ((p.2.length : Nat) : Int), rfl, .inl (.inl e8), by rw [List.length_map]; exact List.length_pos_iff.mpr hLne, fun m hm hle => ?_⟩
          have r8 := r7.kp k8
          have e9 := k8.keep D _ e7 (by simp) nt_lst
          have b9 := b7.kp k8
          refine ⟨_, rfl, R, rfl, ⟨_, .inl (.inl r8.1)⟩, fun G hG => ?_⟩
          refine lc_it walk_list (fun j H' => Kp H8 H' ∧ H' G = some (.lst (((L.take j).filter fun p => decide (((p.2.length : Nat) : Int) = m)).map fun p => V.ref p.1))) ⟨Kb.new hG, upd_same⟩ (fun j H' _ h => .inl (.inl (r8.kp h.1).1)) ?_ ?_
          · rintro j y _ H9 hj ⟨k9, e10⟩ ⟨rfl, hy⟩
            rw [List.length_map] at hj
            have hp : L[j]? = some L[j] := List.getElem?_eq_getElem hj
            rw [List.getElem?_map, hp] at hy
            generalize L[j] = p at hp hy
            obtain rfl := Option.some.inj hy
            have ep := (r8.kp k9).2 p (List.mem_of_getElem? hp)
            have tk : L.take (j + 1) = L.take j ++ [p] := by rw [List.take_succ, hp]; rfl
            refine ⟨rfl, _, rfl, p.1, _, rfl, .inl (.inl (.inl ep)), _, rfl, rfl, _, rfl, ?_⟩
            by_cases hc : ((p.2.length : Nat) : Int) = m
            · refine iteP (show V.int ((p.2.map V.int).length : Nat) = V.int m by rw [List.length_map, hc]) ⟨_, rfl, _, e10, ?_, k9.mut hG (no_tab e10 nt_lst), ?_⟩
              · have := List.length_filter_le (fun p : Addr × List Int => decide (((p.2.length : Nat) : Int) = m)) (L.take j)
                rw [List.length_take] at this
                rw [List.length_map]
                omega
              · rw [upd_same, tk, List.filter_append, List.map_append]
                simp [hc]
            · refine iteN (show ¬ V.int ((p.2.map V.int).length : Nat) = V.int m by rw [List.length_map]; intro z; injection z with z; exact hc z) ⟨k9, ?_⟩
              rw [e10, tk, List.filter_append]
              simp [hc]
          · rintro H9 ⟨k9, e10⟩
            rw [List.take_of_length_le (by rw [List.length_map]; exact Nat.le_refl _)] at e10
            have r9 := r8.kp k9
            refine ⟨G, _, rfl, .inl (.inl e10), fun p hp => r9.2 p (List.mem_filter.mp hp).1, fun L' S hL' hS => ?_⟩
            have hr : ∀ r, r ∈ rows ps ps.length ↔ ∃ p ∈ L, p.2 = r := fun r => by rw [← hL, List.mem_map]
            have T : PySem.W.TotalLe (fun x y : Addr × List Int => decide (x.2 ≤ y.2)) := by
              rw [← PySem.W.dataLe_rows]
              exact PySem.W.sortLe_total _ _ _
            have pw := PySem.W.sort_pairwise T (L.filter fun p => decide (((p.2.length : Nat) : Int) = m))
            have pm : ∀ p, p ∈ L' ↔ p ∈ L ∧ ((p.2.length : Nat) : Int) = m := fun p => by
              rw [hL', List.mem_mergeSort, List.mem_filter, decide_eq_true_eq]
            rw [← hL'] at pw
            obtain ⟨p1, hp1, hp2⟩ := List.mem_map.mp hm
            cases hLc : L' with
            | nil =>
              have := (pm p1).mpr ⟨hp1, hp2⟩
              rw [hLc] at this
              cases this
            | cons qq rest =>
              rw [hLc] at pw
              have hq := (pm qq).mp (by rw [hLc]; exact List.mem_cons_self)
              have est : qq.2 = stay ps := stay_least (size := m) ⟨p1.2, (hr _).mpr ⟨p1, hp1, rfl⟩, hp2⟩ (fun r h => by
                obtain ⟨p, hp, rfl⟩ := (hr r).mp h
                exact hle _ (List.mem_map.mpr ⟨p, hp, rfl⟩)) ((hr _).mpr ⟨qq, hq.1, rfl⟩) hq.2 fun r h hl => by
                obtain ⟨p, hp, rfl⟩ := (hr r).mp h
                have hpm := (pm p).mpr ⟨hp, hl⟩
                rw [hLc] at hpm
                rcases List.mem_cons.mp hpm with rfl | hpm
                · exact List.le_refl _
                · exact of_decide_eq_true ((List.pairwise_cons.mp pw).1 p hpm)
              have kS : Kp H9 (upd H9 S (.lst ((qq :: rest).map fun p => V.ref p.1))) := Kb.new hS
              have eq9 := kS.keep _ _ (r9.2 qq hq.1) (by simp) nt_lst
              have e12 := kS.keep D _ (k9.keep D _ e9 (by simp) nt_lst) (by simp) nt_lst
              have b12 := (b9.kp k9).kp kS
              have eS : (upd H9 S (.lst ((qq :: rest).map fun p => V.ref p.1))) S = some (.lst ((qq :: rest).map fun p => V.ref p.1)) := upd_same
              generalize upd H9 S (.lst ((qq :: rest).map fun p => V.ref p.1)) = H10 at kS eq9 e12 b12 eS ⊢
              refine ⟨S, _, 0, .ref qq.1, rfl, rfl, .inl (.inl eS), atI_nat (j := 0) rfl, ?_⟩
              refine ⟨_, rfl, D, _, rfl, .inl ⟨.inl (.inl e12), fun tp htp => ?_⟩⟩
              have kt : Kp H10 (upd H10 tp (.tup (ps.map V.int))) := Kb.new htp
              have et : (upd H10 tp (.tup (ps.map V.int))) tp = some (.tup (ps.map V.int)) := upd_same
              generalize upd H10 tp (.tup (ps.map V.int)) = H11 at kt et ⊢
              refine ⟨tp, ps, rfl, SqT.of et, by omega, fun D1 H12 hD1 k12 e13 => ?_⟩
              have ed := k12.keep _ _ (kt.keep _ _ eq9 (by simp) nt_lst) (by simp) nt_lst
              rw [est] at ed
              refine ⟨_, rfl, D1, qq.1, _, _, _, rfl, .inl (.inl e13), .inl (.inl ed), dt_ints K H12 _, dt_ints K H12 _, stay_fit (by omega), e13, fun H' k' => ⟨_, rfl, ?_⟩⟩
              exact iteF ⟨((b12.kp kt).kp k12).kp k', _, _, _, _, _, _, _, rfl⟩
    · rintro σ H3 ⟨b3, o2, o3, o4, o5, o6, o7, o8, rfl⟩
      exact q H3
end
end Rd

namespace Rd
open PySem PySem.Spec PyProof.Rows L2 GxR Gx Gd
theorem law_fin {l : PySem.W.OpenLaw} {w : World} {K : PySem.W.Frag} {mg : Str → Option Value} {h : Heap} {fa : Addr} {fd : FuncData} (Fl : Fun K "law" "law" s_law fa fd) (bl : ∀ (s : Shared) (u : Value), BindsTo s fd ⟨[u], []⟩ [("script", u)])
    (D_staying : DefAt K mg "staying" s_staying ["places"]) (D__lengths : DefAt K mg "_lengths" s_lengths ["places"])
    (D__law_cell : DefAt K mg "_law_cell" s_law_cell ["script", "k"]) (D__law_list_is : DefAt K mg "_law_list_is" s_law_list_is ["actual", "due"]) (D__law_digits : DefAt K mg "_law_digits" s_law_digits ["script", "first", "last"]) (D__law_draw : DefAt K mg "_law_draw" s_law_draw ["box", "many"])
    (D__law_rows_up : DefAt K mg "_law_rows_up" s_law_rows_up ["places"])
    (m_isinstance : mg "isinstance" = none) (m_int : mg "int" = none) (m_len : mg "len" = none) (m_range : mg "range" = none) (m_repr : mg "repr" = none) (m_list : mg "list" = none) (m_tuple : mg "tuple" = none) (m_enumerate : mg "enumerate" = none) (m_reversed : mg "reversed" = none) (m_max : mg "max" = none) (m_sorted : mg "sorted" = none) :
    LawG l w K CX0 3 63 "script" mg fa h := by
  refine ⟨fd, [], spLaw K, (fun p hp => by cases hp), (fun p hp => by cases hp), (fun p hp => by cases hp), bl, fun H a ns hlen hbits hH hS => ⟨a, ns, rfl, hS, fun _ => rfl⟩, fun base kin hns hB => ?_⟩
  have c1 := c_lengths (P := l.prog) (w := w) (base := base) D__lengths m_len m_range m_reversed m_max
  have c2 := c_staying (P := l.prog) (w := w) (base := base) D_staying m_max m_enumerate c1
  have c_law_cell := c_law_cell (P := l.prog) (w := w) (base := base) D__law_cell m_len
  have c_law_digits := c_law_digits (P := l.prog) (w := w) (base := base) D__law_digits m_range m_int c_law_cell
  have c_law_draw := c_law_draw (P := l.prog) (w := w) (base := base) D__law_draw m_len m_int
  have c4 := c_law_rows_up (P := l.prog) (w := w) (base := base) D__law_rows_up m_len m_range
  have c5 := c_law_list_is (P := l.prog) (w := w) (base := base) D__law_list_is m_isinstance m_list m_repr
  exact ok_law Fl m_range m_len m_int m_tuple m_max m_sorted c_law_digits c_law_draw c2 c4 c5
end Rd

open PySem PySem.W PyProof.Rows
set_option maxHeartbeats 0 in
theorem PySem.Challenge.cw_remoteviews_k12_few_moves_holds : PySem.Challenge.rw_remoteviews_k12_few_moves.Holds := by
  w_on; o_law; k_head; (case hw => w_witness2)
  k_fill
  refine Gd.walk_G2 (l := PySem.Challenge.rw_remoteviews_k12_few_moves) (n := 63) (k := 3) (x := "script") (CX := fun _ => L2.CX0) rfl (by decide) rfl ⟨⟨rfl, by decide, by decide⟩, rfl⟩ (fun w h Y => PySem.W.kIn_of Y) ?F (fun _ _ _ _ _ h => h)
  case F =>
    intro w mg fa h Y KX G hmg tabs
    have D_staying := by
      refine' Gd.def_k (x := "staying") (st := Rd.s_staying) (ps := ["places"]) KX G ?a ?l ?c ?k ?b
      (case a => k_is); (case l => k_is); (case c => k_is); (case k => k_is); (case b => exact fun _ _ _ _ _ _ us hl => match us, hl with | [_], _ => rfl)
    have D__lengths := by
      refine' Gd.def_k (x := "_lengths") (st := Rd.s_lengths) (ps := ["places"]) KX G ?a ?l ?c ?k ?b
      (case a => k_is); (case l => k_is); (case c => k_is); (case k => k_is); (case b => exact fun _ _ _ _ _ _ us hl => match us, hl with | [_], _ => rfl)
    have D__law_cell := by
      refine' Gd.def_k (x := "_law_cell") (st := Rd.s_law_cell) (ps := ["script", "k"]) KX G ?a ?l ?c ?k ?b
      (case a => k_is); (case l => k_is); (case c => k_is); (case k => k_is); (case b => exact fun _ _ _ _ _ _ us hl => match us, hl with | [_, _], _ => rfl)
    have D__law_list_is := by
      refine' Gd.def_k (x := "_law_list_is") (st := Rd.s_law_list_is) (ps := ["actual", "due"]) KX G ?a ?l ?c ?k ?b
      (case a => k_is); (case l => k_is); (case c => k_is); (case k => k_is); (case b => exact fun _ _ _ _ _ _ us hl => match us, hl with | [_, _], _ => rfl)
    have D__law_digits := by
      refine' Gd.def_k (x := "_law_digits") (st := Rd.s_law_digits) (ps := ["script", "first", "last"]) KX G ?a ?l ?c ?k ?b
      (case a => k_is); (case l => k_is); (case c => k_is); (case k => k_is); (case b => exact fun _ _ _ _ _ _ us hl => match us, hl with | [_, _, _], _ => rfl)
    have D__law_draw := by
      refine' Gd.def_k (x := "_law_draw") (st := Rd.s_law_draw) (ps := ["box", "many"]) KX G ?a ?l ?c ?k ?b
      (case a => k_is); (case l => k_is); (case c => k_is); (case k => k_is); (case b => exact fun _ _ _ _ _ _ us hl => match us, hl with | [_, _], _ => rfl)
    have D__law_rows_up := by
      refine' Gd.def_k (x := "_law_rows_up") (st := Rd.s_law_rows_up) (ps := ["places"]) KX G ?a ?l ?c ?k ?b
      (case a => k_is); (case l => k_is); (case c => k_is); (case k => k_is); (case b => exact fun _ _ _ _ _ _ us hl => match us, hl with | [_], _ => rfl)
    have m_isinstance := by
      refine' PySem.W.mg_none_of (n := "isinstance") KX G ?a
      (case a => k_is)
    have m_int := by
      refine' PySem.W.mg_none_of (n := "int") KX G ?a
      (case a => k_is)
    have m_len := by
      refine' PySem.W.mg_none_of (n := "len") KX G ?a
      (case a => k_is)
    have m_range := by
      refine' PySem.W.mg_none_of (n := "range") KX G ?a
      (case a => k_is)
    have m_repr := by
      refine' PySem.W.mg_none_of (n := "repr") KX G ?a
      (case a => k_is)
    have m_list := by
      refine' PySem.W.mg_none_of (n := "list") KX G ?a
      (case a => k_is)
    have m_tuple := by
      refine' PySem.W.mg_none_of (n := "tuple") KX G ?a
      (case a => k_is)
    have m_enumerate := by
      refine' PySem.W.mg_none_of (n := "enumerate") KX G ?a
      (case a => k_is)
    have m_reversed := by
      refine' PySem.W.mg_none_of (n := "reversed") KX G ?a
      (case a => k_is)
    have m_max := by
      refine' PySem.W.mg_none_of (n := "max") KX G ?a
      (case a => k_is)
    have m_sorted := by
      refine' PySem.W.mg_none_of (n := "sorted") KX G ?a
      (case a => k_is)
    have L := by
      refine' Gd.law_k (x := "law") (st := Rd.s_law) (p1 := "script") KX G hmg ?a ?l ?c ?k ?b
      (case a => k_is); (case l => k_is); (case c => k_is); (case k => k_is); (case b => exact fun _ _ _ _ _ _ s u => .of_eq rfl)
    obtain ⟨fd, Fl, bl⟩ := L
    exact Rd.law_fin Fl bl D_staying D__lengths D__law_cell D__law_list_is D__law_digits D__law_draw D__law_rows_up m_isinstance m_int m_len m_range m_repr m_list m_tuple m_enumerate m_reversed m_max m_sorted
