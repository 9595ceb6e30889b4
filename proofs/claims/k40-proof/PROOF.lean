import PyProof.Rows.All
import Wide.All
import OpenK.AllK
import Wide.FinOn
import PyProof.EqAt
import PyProof.EqKinds
import PyProof.TupleCall
import KE.KNest
import HandS.Base
import HandS.Call
import HandS.List
import HandS.Comp
import HandS.AnyAll
import HandS.GenOver
import HandS.GenList
import HandS.ForMost
import HandS.Exc
import HandS.WordsExc
import HandS.EndTab
import HandS.IsInst
import HandS.SetBool
import HandS.SetKeys
import HandS.RaiseMore
import HandS.ExcOwn
import HandS.ExcInit
import HandS.ExcField
import KE.KExcIs
import HandS.More
import HandS.Small
import HandS.ExcIs
import HandS.ExcCtx
import HandS.HotCalls
import HandS.SuiteRaise
import HandS.Text
import HandS.Style
import HandS.ReplaceLit
import HandS.ReplaceList
import HandS.ReplaceDef
import HandS.Iter
import PyProof.P3In
import HandS.Walk
import PyProof.StrBlock2
import KE.KDictPairs
import KE.KRevSl
import HandS.Star
import HandS.TupAny
import HandS.CallLocal
import HandS.Dict
import HandS.ListItems
import HandS.Conv
import HandS.TryOnly
import HandS.SortKw
import HandS.RevRange
import KE.KMinKey
import PySem.Challenge.RW_remoteviews_k40_entries_read_back
set_option Elab.async false
set_option linter.all false
set_option maxRecDepth 100000
set_option maxHeartbeats 4000000
/-! all(e for x in it): the element any expression, its names the target's and captured ones. -/
namespace Gx
open PySem PySem.Spec PyProof.Rows L2 GxR
open Sem (wp)

/-- the around of a generator expression's code over a consumer's call -/
theorem over_gen {A : Around} {elt tg iter : Expr} {ifs : List Expr} {scope : Scope} {pos : Pos} {it acc : Value} {env : Env} :
    A.over (.compLoop (.GeneratorExp elt [⟨tg, iter, ifs, 0⟩] scope pos) 0 it acc env) [] = A.deeper env := by
  first
    | rfl
    | (obtain ⟨hd, d, fr, gs, u⟩ := A; simp [Around.over, Around.deeper, marksOver, frameCount, unitsOf, envsOf, guardsOf, pushEnvs, pushGuards, Code.envs, Code.env?, Code.isFrame, Code.guards, Code.isGuard, Code.weight, Code.frames, Code.isCreation, Code.isCaller, Code.cUnits])
theorem over_genS {A : Around} {elt tg iter : Expr} {ifs : List Expr} {scope : Scope} {pos : Pos} {it acc : Value} {env : Env} :
    A.over (.compStart (.GeneratorExp elt [⟨tg, iter, ifs, 0⟩] scope pos) 0 it acc env) [] = A.deeper env := by
  first
    | rfl
    | (obtain ⟨hd, d, fr, gs, u⟩ := A; simp [Around.over, Around.deeper, marksOver, frameCount, unitsOf, envsOf, guardsOf, pushEnvs, pushGuards, Code.envs, Code.env?, Code.isFrame, Code.guards, Code.isGuard, Code.weight, Code.frames, Code.isCreation, Code.isCaller, Code.cUnits])

/-- the context of a generator expression's block: begun at s; pn: its own object -/
abbrev gx (X : Cx) (N : List Str) (s : Shared) (H : Hp) (cenv : Env) (fp : List Addr) (pn : List (Addr × Obj)) : Cx :=
  { X with A := X.A.in1.in1.deeper cenv, N := N, s_0 := s, H_0 := H, env := cenv, outer := X.stack, stack := cenv :: X.stack, ex := fp, fn := fun _ => false, pn := pn, xe := fun _ _ => False }

/-- captured names: their places in the def's names -/
structure Caps (X : Cx) (scope : Scope) (caps : List (Str × Nat)) : Prop where
  ix : ∀ p ∈ caps, X.N[p.2]? = some p.1
  free : ∀ p ∈ caps, scope.names.lookup p.1 = some .free
  vis : ∀ p ∈ caps, X.env.scope.names.lookup p.1 = some .cell ∨ X.env.scope.names.lookup p.1 = some .free
theorem Caps.nil {X : Cx} {scope : Scope} : Caps X scope [] := ⟨fun _ h => (by cases h), fun _ h => (by cases h), fun _ h => (by cases h)⟩
def capV (σ : L2.St) (caps : List (Str × Nat)) : L2.St := caps.map fun p => (σ[p.2]?).join
def capN (caps : List (Str × Nat)) : List Str := caps.map (·.1)

section
variable {X : Cx} {pins : List (Addr × Obj)} {σ : L2.St} {H : Hp} {s : Shared}

theorem gen_start {scope : Scope} {x : Str} {code : Value} {caps : List (Str × Nat)} {fp : List Addr} {s5 : Shared} {go : Obj} {m : Str → Option Value} (I : Inv X pins σ H s) (S : GenS X.env scope x) (C : Caps X scope caps) (hd : X.A.handled = none)
    (hfp : ∀ b ∈ fp, FpOk X pins H b ∧ b < s.heap.objs.size)
    (hos : s5.os = s.os) (hba : AllBare s5.gens) (hk : ∀ b o, s.heap.get? b = some o → s5.heap.get? b = some o)
    (hn : s5.heap.Ns s.heap.objs.size m) (hgo : s5.heap.get? (s.heap.objs.size + 1) = some go) (hgc : ∀ v, go.data ≠ .cell v) :
    Inv (gx X (x :: capN caps) s H (genEnv scope (cloFrom X.env.cells scope.names []) s.heap.objs.size code builtinsNs X.env) fp [(s.heap.objs.size + 1, go)]) [] (none :: capV σ caps) H s5 := by
  have cm : ∀ {y c}, (y, c) ∈ cloFrom X.env.cells scope.names [] → X.env.cells.lookup y = some c ∧ c < s.heap.objs.size := fun {y c} hm => by
    rcases cloFrom_mem hm with hm | ⟨h1, rfl⟩
    · cases hm
    · obtain ⟨c, hc⟩ := S.free _ h1 rfl
      rw [hc]
      obtain ⟨w, z⟩ := I.cell _ _ hc
      exact ⟨rfl, z.lt⟩
  have lk : ∀ {y c}, (cloFrom X.env.cells scope.names []).lookup y = some c → X.env.cells.lookup y = some c ∧ c < s.heap.objs.size := fun {y c} e => cm (PySem.mem_of_lookup e)
  have look : ∀ {y}, scope.names.lookup y = some .free → ∃ c, (cloFrom X.env.cells scope.names []).lookup y = some c ∧ X.env.cells.lookup y = some c := fun {y} hl => by
    have hy : (y, NameKind.free) ∈ scope.names := PySem.mem_of_lookup hl
    obtain ⟨c', e'⟩ := mem_lookup (cloFrom_has (cells := X.env.cells) (acc := []) hy)
    exact ⟨c', e', (lk e').1⟩
  refine ⟨⟨I.ok.mod, S.kind, I.ok.glob, rfl, Nat.le_refl _, fun y z c e1 e2 => I.ok.inj y z c (lk e1).1 (lk e2).1, fun y hy => ?_, fun y c z => absurd z (by simp), fun _ => hd, ?_, .inr ⟨rfl, rfl⟩, fun b hb => ⟨?_, fun y c e z => ?_⟩, I.bs, Nat.le_trans I.ok.bsz I.sz, fun b o e hb => ?_, fun b hb z => ?_, I.stack, I.stkFree⟩,
    hos, hba, Un.kept hk, ⟨m, hn, fun i y v e1 e2 e3 => ?_⟩, fun y c e => ?_, ?_, fun y c e => ?_, fun p hp => ?_, I.hok.kept hk, ?_⟩
  · have hy : scope.names.lookup y = some .cell ∨ scope.names.lookup y = some .free := hy
    rcases hy with hy | hy
    · exact absurd rfl (S.cell _ (PySem.mem_of_lookup hy))
    · obtain ⟨c, e, _⟩ := look hy
      exact ⟨c, e⟩
  · exact Around.frames_deeper (A := X.A.in1.in1) (show X.A.in1.in1.frames = some X.stack from I.ok.frames)
  · show b ≠ s.heap.objs.size
    exact Nat.ne_of_lt (hfp b hb).2
  · exact (hfp b hb).1.2.2.2.2.1 y c (lk e).1 z
  · rcases (hfp b hb).1.2.2.2.1 with z | z
    · exact I.ok.noex b o e z
    · exact absurd (Nat.lt_of_lt_of_le (Heap.lt_size e) (Nat.le_trans I.ok.bsz z)) (Nat.lt_irrefl _)
  · rcases List.mem_cons.mp (I.stkSub b z) with z | z
    · exact (hfp b hb).1.2.1 z
    · exact (hfp b hb).1.2.2.1 z
  · cases i with
    | zero => cases e2
    | succ i =>
      have e1 : (capN caps)[i]? = some y := e1
      have e2 : (capV σ caps)[i]? = some (some v) := e2
      unfold capN at e1
      unfold capV at e2
      rw [List.getElem?_map] at e1 e2
      cases hp : caps[i]? with
      | none => rw [hp] at e1; cases e1
      | some p =>
        rw [hp] at e1 e2
        have ey : p.1 = y := Option.some.inj e1
        have ev : (σ[p.2]?).join = some v := Option.some.inj e2
        have hpm : p ∈ caps := List.mem_of_getElem? hp
        have ev2 : σ[p.2]? = some (some v) := by
          cases q : σ[p.2]? with
          | none => rw [q] at ev; cases ev
          | some w => rw [q] at ev; rw [show w = some v from ev]
        obtain ⟨m0, hn0, hl0⟩ := I.loc
        have hv := C.vis p hpm
        obtain ⟨u, r, l⟩ := hl0 p.2 p.1 v (C.ix p hpm) ev2 (.inr hv)
        subst ey
        refine ⟨u, r, .inr ⟨.inr (C.free p hpm), ?_⟩⟩
        obtain ⟨c, h1, h2⟩ := look (C.free p hpm)
        rcases l with ⟨k, _⟩ | ⟨_, c', e', z⟩
        · have k : X.env.scope.names.lookup p.1 = some .local := k
          rcases hv with k' | k' <;> rw [k'] at k <;> cases k
        · rw [h2] at e'; cases e'
          exact ⟨c, h1, z.keeps hk⟩
  · obtain ⟨w, z⟩ := I.cell y c (lk e).1
    exact ⟨w, z.keeps hk⟩
  · exact I.hok.fresh (Nat.le_refl _)
  · exact I.freeC y c (lk e).1
  · have hp : p ∈ [(s.heap.objs.size + 1, go)] ++ [] := hp
    rw [List.append_nil] at hp
    rw [List.mem_singleton.mp hp]
    exact ⟨hgo, I.hok.fresh (Nat.le_succ _), (Nat.succ_ne_self _), fun hb => by
      rcases List.mem_cons.mp (I.stkSub _ hb) with z | z
      · have h1 := I.lt
        have z' : s.heap.objs.size + 1 = X.env.locals := z
        rw [← z'] at h1
        exact absurd (Nat.lt_of_succ_lt h1) (Nat.lt_irrefl _)
      · exact I.nofs (Nat.le_succ _) z, hgc⟩
  · show (none :: capV σ caps).length = (x :: capN caps).length
    unfold capV capN
    simp
end

/-- woken again: only the generators' table turned -/
structure Woke (s s' : Shared) : Prop where
  heap : s'.heap = s.heap
  os : s'.os = s.os
  bare : AllBare s'.gens
theorem inv_woke {X : Cx} {pins : List (Addr × Obj)} {σ : L2.St} {H : Hp} {s s' : Shared} (I : Inv X pins σ H s) (z : Woke s s') : Inv X pins σ H s' :=
  I.call' (ch := []) z.os (by rw [z.heap]; exact Un.refl) (by rw [z.heap]; exact I.hok) z.bare fun b hb => by simp at hb

section
variable {X : Cx} {N : List Str} {s4 : Shared} {H4 : Hp} {cenv : Env} {fp : List Addr} {pn : List (Addr × Obj)} {J : It} {tn : Nat → Heap → Prop} {σ0 : L2.St} {W : Nat → Nat → Hp → Prop} {Ft Ff : Hp → Prop}

/-- asleep at turn i -/
def At (GX : Cx) (fp : List Addr) (tn : Nat → Heap → Prop) (σ0 : L2.St) (W : Nat → Nat → Hp → Prop) (n : Nat) (s : Shared) : Prop :=
  ∃ i m H, Inv GX [] σ0 H s ∧ tn i s.heap ∧ (∀ b ∈ fp, H b = none) ∧ W i m H ∧ m < n
/-- it has handed out v -/
def Yp (GX : Cx) (fp : List Addr) (tn : Nat → Heap → Prop) (σ0 : L2.St) (W : Nat → Nat → Hp → Prop) (Ff : Hp → Prop) : Protocol := fun n s₀ v s kap =>
  ∃ c, v = .bool c ∧ ((c = true ∧ At GX fp tn σ0 W n s ∧ ∀ s', Woke s s' → kap (.send .none) s') ∨ (c = false ∧ ∃ σ H, Inv GX [] σ H s ∧ Ff H))
def Ep (GX : Cx) (Ft : Hp → Prop) : GenEnd := fun n s₀ r s => r = .ok .next ∧ ∃ σ H, Inv GX [] σ H s ∧ Ft H

theorem stat_of {GX : Cx} {σ' : L2.St} {H' : Hp} {s' : Shared} (hex : GX.ex = fp) (hpn : ∀ p ∈ GX.pn, ∀ b ∈ fp, p.1 ≠ b) (I' : Inv GX [] σ' H' s') (hn : ∀ b ∈ fp, H' b = none) : ∀ b ∈ fp, FpOk GX [] H' b := fun b hb => by
  have hb' : b ∈ GX.ex := by rw [hex]; exact hb
  exact ⟨hn b hb, (I'.ok.exf b hb').1, I'.ok.exfs b hb', .inl hb', fun x c e => (I'.ok.exf b hb').2 x c e, fun p hp => hpn p (by rw [List.append_nil] at hp; exact hp) b hb⟩

theorem seg_loop {A : Around} {P : Program} {w : World} {K : PySem.W.Frag} {elt tg iter : Expr} {scope : Scope} {pos : Pos} {it : Addr} {GX : Cx} {g : TG} {te : TE}
    (hP : GX.prog = P) (hw : GX.w = w) (hK : GX.K = K) (hA : GX.A = A.deeper GX.env) (hcalm : GX.calm = true) (hxe : GX.xe = fun _ _ => False) (hex : GX.ex = fp) (hpn : ∀ p ∈ GX.pn, ∀ b ∈ fp, p.1 ≠ b) (hco : GX.env.scope.isCoroutine = false)
    (T : Turn P w K tg J fp it tn) (pg : PG GX tg g) (pe : PE GX elt te)
    (turn : ∀ i m H, W i m H → (J.stop i H ∧ Ft H) ∨ (J.go i H ∧ ∃ Nx : Hp → Prop, (∀ H', Nx H' → ∃ m', m' < m ∧ W (i + 1) m' H') ∧ ∀ x H', J.yld i H x H' → g x σ0 H' fun σ2 H3 => (∀ (j : Nat) v, σ0[j]? = some (some v) → σ2[j]? = some (some v)) ∧ te σ2 H3 fun y H5 => ∃ c, y = .bl c ∧ if c = true then Nx H5 else Ff H5)) :
    ∀ (n : Nat) (s₀ s : Shared), At GX fp tn σ0 W n s →
      Seg (model P w) A (Ep GX Ft) (Yp GX fp tn σ0 W Ff) n s₀ (.compLoop (.GeneratorExp elt [⟨tg, iter, [], 0⟩] scope pos) 0 (.ref it) .none GX.env)
        ((model P w).den (.compLoop (.GeneratorExp elt [⟨tg, iter, [], 0⟩] scope pos) 0 (.ref it) .none GX.env)) [] s := by
  subst hP hw hK
  have hAo : A.over (.compLoop (.GeneratorExp elt [⟨tg, iter, [], 0⟩] scope pos) 0 (.ref it) .none GX.env) [] = GX.A := over_gen.trans hA.symm
  have noE : ∀ {x : Value} {s' : Shared}, GX.xe x s' → False := fun {x s'} h => by rw [hxe] at h; exact h
  intro n
  induction n with
  | zero =>
    intro s₀ s h
    obtain ⟨i, m, H, _, _, _, _, hm⟩ := h
    exact absurd hm (Nat.not_lt_zero _)
  | succ n ih =>
    intro s₀ s h
    obtain ⟨i, m, H, I, st, nf, wi, hm⟩ := h
    show Seg _ A _ _ _ s₀ _ ((compTurn (.GeneratorExp elt [⟨tg, iter, [], 0⟩] scope pos) 0 (.ref it) .none GX.env).onRaise (leaving GX.env)) [] s
    rw [compTurn_gen, Sem.onRaise_eq_wrap]
    refine seg_bind_wrap (wpAny_standAt ?_)
    rcases turn i m H wi with ⟨stop, ft⟩ | ⟨go, Nx, hNx, step⟩
    · refine seg_bind_wrap ?_
      rw [hAo]
      refine thnF (T.done GX rfl rfl rfl hcalm i [] s _ H (fun _ _ => False) I (stat_of hex hpn I nf) st stop) fun r s1 ⟨hr, I1⟩ => ?_
      subst hr
      exact seg_end (.ok .next) ⟨rfl, _, H, I1, ft⟩
    · refine seg_bind_wrap ?_
      rw [hAo]
      refine thnF (T.item GX rfl rfl rfl hcalm i [] s _ H (fun _ _ => False) I (stat_of hex hpn I nf) st go) fun r s1 ⟨u, hr, h1⟩ => ?_
      subst hr
      refine seg_bind_wrap ?_
      rw [hAo]
      refine thnF h1 fun _ s2 ⟨x, H2, I2, r2, y2, st2, n2⟩ => ?_
      have I2' := I2.pinned (stat_of hex hpn I2 n2) (T.obj _ _ st2)
      refine seg_bind_wrap ?_
      rw [hAo]
      refine wpAny_mono (pg.run _ s2 _ H2 x u _ I2' r2 (step x H2 y2)) (fun _ s3 ⟨σ3, H3, I3, hl3, q3⟩ => ?_) fun _ _ hx => (noE hx).elim
      refine seg_bind_wrap (wpAny_tests_nil ?_)
      simp only [if_true]
      have hy : ∀ v, yieldOut GX.env v = yieldValue v := fun v => by simp only [yieldOut, hco, Bool.false_eq_true, if_false]
      simp only [hy]
      rw [Sem.bind_eq_wrap', Sem.bind_eq_wrap', Sem.wrap_wrap, Sem.wrap_wrap]
      refine seg_wrap ?_
      rw [hAo]
      refine wpAny_mono (pe.run _ s3 σ3 H3 _ I3 q3) (fun y s5 ⟨yv, H5, I5, r5, c, ey, q5⟩ => ?_) fun _ _ hx => (noE hx).elim
      subst ey
      have ev : y = Value.bool c := r5
      subst ev
      have pin' : ∀ b ∈ fp, ∀ o, s2.heap.get? b = some o → s5.heap.get? b = some o ∧ H5 b = none := fun b hb o e =>
        let z := I5.pin (b, o) (List.mem_append_right _ (List.mem_append_right _ (mem_pinsAt hb e)))
        ⟨z.1, z.2.1⟩
      have I6 : Inv GX [] σ0 H5 s5 := (I5.unpinned (pins := [])).weak (by rw [I.len, I5.len]) hl3
      have st6 : tn (i + 1) s5.heap := T.keep _ _ _ st2 fun b hb o e => (pin' b hb o e).1
      have n6 : ∀ b ∈ fp, H5 b = none := fun b hb => by
        obtain ⟨o, e, _⟩ := T.obj _ _ st2 b hb
        exact (pin' b hb o e).2
      refine seg_at (seg_yield rfl rfl rfl ⟨c, rfl, ?_⟩)
      cases c with
      | true =>
        obtain ⟨m', hm', w'⟩ := hNx H5 q5
        refine .inl ⟨rfl, ⟨i + 1, m', H5, I6, st6, n6, w', by omega⟩, fun s' z => ?_⟩
        exact seg_again rfl (ih s' s' ⟨i + 1, m', H5, inv_woke I6 z, by rw [z.heap]; exact st6, n6, w', by omega⟩)
      | false => exact .inr ⟨rfl, _, H5, I6, q5⟩
theorem seg_begin {A : Around} {P : Program} {w : World} {K : PySem.W.Frag} {elt tg iter : Expr} {scope : Scope} {pos : Pos} {it : Addr} {GX : Cx} {n : Nat} {s₀ s : Shared} {R : GenEnd} {Y : Protocol} {i : Nat}
    (T : Turn P w K tg J fp it tn) (st : tn i s.heap)
    (loop : Seg (model P w) A R Y n s₀ (.compLoop (.GeneratorExp elt [⟨tg, iter, [], 0⟩] scope pos) 0 (.ref it) .none GX.env) ((model P w).den (.compLoop (.GeneratorExp elt [⟨tg, iter, [], 0⟩] scope pos) 0 (.ref it) .none GX.env)) [] s) :
      Seg (model P w) A R Y n s₀ (.compStart (.GeneratorExp elt [⟨tg, iter, [], 0⟩] scope pos) 0 (.ref it) .none GX.env)
        ((model P w).den (.compStart (.GeneratorExp elt [⟨tg, iter, [], 0⟩] scope pos) 0 (.ref it) .none GX.env)) [] s := by
  show Seg _ A _ _ _ s₀ _ ((compStart (.GeneratorExp elt [⟨tg, iter, [], 0⟩] scope pos) 0 (.ref it) .none GX.env).onRaise (leaving GX.env)) [] s
  unfold compStart
  rw [Sem.onRaise_eq_wrap]
  show Seg _ A _ _ _ s₀ _ ((ask >>= _).wrap _ _ _ _) [] s
  refine seg_bind_wrap (wpAny_askSetting ?_)
  split
  · exact seg_again rfl loop
  · first
      | exact seg_bind_wrap (wpAny_rule (seg_bind_wrap (wpAny_standAt (seg_bind_wrap (T.self _ i s _ _ st (seg_again rfl loop))))))
      | (refine seg_bind_wrap (wpAny_rule ?_); show Seg _ A _ _ _ s₀ _ ((standAt iter.pos >>= _).wrap _ _ _ _) [] s; exact seg_bind_wrap (wpAny_standAt (seg_bind_wrap (T.self _ i s _ _ st (seg_again rfl loop)))))

theorem all_loop {A : Around} {P : Program} {w : World} {GX : Cx} {a : Addr} {g : Nat} {go : Obj} {R : Result → Shared → Prop}
    (hh : A.handled = none) (hd : A.depth < recursionLimit) (hgo : ∀ h : Heap, h.get? a = some go → h.IsGen a g) (hpn : (a, go) ∈ GX.pn)
    (hT : ∀ σ H s', Inv GX [] σ H s' → Ft H → R (.ok (.ret (.bool true))) s') (hF : ∀ σ H s', Inv GX [] σ H s' → Ff H → R (.ok (.ret (.bool false))) s') :
    ∀ (n : Nat) (s : Shared), s.heap.IsGen a g → s.heap.NoLimit →
      (∃ gs, s.gens[g]? = some gs ∧ gs.Goes (model P w) A.in1.in1 (Ep GX Ft) (Yp GX fp tn σ0 W Ff) n (.send .none) (s.setGen g .running)) →
      codeAny (model P w) A (.builtin "all.loop" ⟨[.ref a], []⟩) R s := by
  have goes : ∀ {gs : GenState} {B : Around} {n : Nat} {r : Resume} {s : Shared}, gs.Goes (model P w) B (Ep GX Ft) (Yp GX fp tn σ0 W Ff) n r s →
      gs.Goes (model P w) B (fun n s₀ r s₁ => r = .ok .next ∧ (fun (_ : Nat) (_ : Shared) s₁ => ∃ σ H, Inv GX [] σ H s₁ ∧ Ft H) n s₀ s₁) (Yp GX fp tn σ0 W Ff) n r s := fun h => h
  have pinned : ∀ {σ H s'}, Inv GX [] σ H s' → s'.heap.IsGen a g := fun {σ H s'} J => hgo _ (J.pin (a, go) (List.mem_append_left _ hpn)).1
  intro n
  induction n with
  | zero =>
    intro s hg hl ⟨gs, hgs, hgo'⟩
    refine codeAny_builtin F.entry_all_loop ?_
    rw [Around.under_plainId F.plain_all_loop _]
    show wpAny _ A.in1 (pyNext (.ref a) >>= _) _ _ s
    refine wpAny_bind (wpAny_pyNext_genexpQ (A := A.in1) hh hl hd hg hgs (goes hgo') (fun v s₁ gs' hbare hv => ?_) (fun s₁ hp h' hk => ?_))
    · obtain ⟨c, rfl, h⟩ := hv
      refine wpAny_bind (wpAny_holding (wpAny_truthy_bool ?_))
      refine wpAny_bind (wpAny_letGo ?_)
      rcases h with ⟨rfl, _, hk⟩ | ⟨rfl, σ, H, I, ff⟩
      · exact False.elim (hk s₁ ⟨rfl, rfl, (by
          obtain ⟨_, _, _, I1, _⟩ := ‹At _ _ _ _ _ _ _›
          exact I1.bare)⟩)
      · simp only [Bool.false_eq_true, if_false]
        refine wpAny_bind (wpAny_rule (wpAny_pure ?_))
        exact hF σ H _ (inv_woke I ⟨rfl, rfl, allBare_setGen I.bare hbare⟩) ff
    · obtain ⟨σ, H, I, ft⟩ := hp
      refine wpAny_bind (wpAny_rule (wpAny_pure ?_))
      have I2 : Inv GX [] σ H (s₁.setGen g .finished) := inv_woke I ⟨rfl, rfl, allBare_setGen I.bare rfl⟩
      exact hT σ H _ (I2.call' (ch := []) rfl (Un.kept hk) (I2.hok.kept hk) I2.bare fun b hb => by simp at hb) ft
  | succ n ih =>
    intro s hg hl ⟨gs, hgs, hgo'⟩
    have hgl : g < s.gens.size := (Array.getElem?_eq_some_iff.mp hgs).1
    refine codeAny_builtin F.entry_all_loop ?_
    rw [Around.under_plainId F.plain_all_loop _]
    show wpAny _ A.in1 (pyNext (.ref a) >>= _) _ _ s
    refine wpAny_bind (GenW.wpAny_gsz (n := g + 1) hgl (wpAny_pyNext_genexpQ (A := A.in1) hh hl hd hg hgs (goes hgo') (fun v s₁ gs' hbare hv => ?_) (fun s₁ hp h' hk => ?_)))
    · intro hsz
      obtain ⟨c, rfl, h⟩ := hv
      refine wpAny_bind (wpAny_holding (wpAny_truthy_bool ?_))
      refine wpAny_bind (wpAny_letGo ?_)
      rcases h with ⟨rfl, hat, hk⟩ | ⟨rfl, σ, H, I, ff⟩
      · simp only [if_true]
        obtain ⟨_, _, _, I1, _⟩ := id hat
        have hsz1 : g < s₁.gens.size := by
          have q : (s₁.setGen g gs').gens.size = s₁.gens.size := GenW.setGen_size _ _ _
          have hsz' : g + 1 ≤ (s₁.setGen g gs').gens.size := hsz
          omega
        refine wpAny_pure ⟨plainId_quiet F.plain_all_loop _, ih (s₁.setGen g gs') (show s₁.heap.IsGen a g from pinned I1) (show s₁.heap.NoLimit from I1.nolimit) ⟨gs', setGen_at hsz1, ?_⟩⟩
        exact hk _ ⟨rfl, rfl, allBare_setGen (allBare_setGen I1.bare hbare) rfl⟩
      · simp only [Bool.false_eq_true, if_false]
        refine wpAny_bind (wpAny_rule (wpAny_pure ?_))
        exact hF σ H _ (inv_woke I ⟨rfl, rfl, allBare_setGen I.bare hbare⟩) ff
    · intro _
      obtain ⟨σ, H, I, ft⟩ := hp
      refine wpAny_bind (wpAny_rule (wpAny_pure ?_))
      have I2 : Inv GX [] σ H (s₁.setGen g .finished) := inv_woke I ⟨rfl, rfl, allBare_setGen I.bare rfl⟩
      exact hT σ H _ (I2.call' (ch := []) rfl (Un.kept hk) (I2.hok.kept hk) I2.bare fun b hb => by simp at hb) ft
end

/-- all(elt for tg in iter), its element True or False; behind it the def's table may have grown.
W by the turn and a measure; a turn that gives False ends it -/
def tAllG (P : Addr) (wi : TI) (g : TG) (te : TE) (caps : List (Str × Nat)) : TE := fun σ H Q => wi σ H fun J H1 => TabG H1 P ∧ ∀ H2, Tabbed P H1 H2 →
  ∃ W : Nat → Nat → Hp → Prop, (∃ m, W 0 m H2) ∧ ∀ i m H, W i m H → (J.stop i H ∧ Q (.bl true) H) ∨
    (J.go i H ∧ ∃ Nx : Hp → Prop, (∀ H', Nx H' → ∃ m', m' < m ∧ W (i + 1) m' H') ∧ ∀ x H', J.yld i H x H' → g x (none :: capV σ caps) H' fun σ2 H3 =>
      (∀ (j : Nat) v, (none :: capV σ caps : L2.St)[j]? = some (some v) → σ2[j]? = some (some v)) ∧ te σ2 H3 fun y H5 => ∃ c, y = .bl c ∧ if c = true then Nx H5 else Q (.bl false) H5)

theorem pe_allG {X : Cx} {c P : Addr} {elt tg iter : Expr} {x : Str} {p pos gpos : Pos} {scope : Scope} {wi : TI} {g : TG} {te : TE} {k : Nat} {caps : List (Str × Nat)}
    (hr : Room (k + 1) X.A) (hg : Gl X "all") (hm : X.mg "all" = none) (TB : TabB X.base X.mg c P) (hcode : X.env.code = .ref c) (S : GenS X.env scope x) (C : Caps X scope caps) (hi : PI X tg iter wi) (hcalm : X.calm = true)
    (pg : ∀ (s : Shared) (H : Hp) (a : Addr) (code : Value) (fp : List Addr) (pn : List (Addr × Obj)), PG (gx X (x :: capN caps) s H (genEnv scope (cloFrom X.env.cells scope.names []) a code builtinsNs X.env) fp pn) tg g)
    (pe : ∀ (s : Shared) (H : Hp) (a : Addr) (code : Value) (fp : List Addr) (pn : List (Addr × Obj)), Room k (gx X (x :: capN caps) s H (genEnv scope (cloFrom X.env.cells scope.names []) a code builtinsNs X.env) fp pn).A → PE (gx X (x :: capN caps) s H (genEnv scope (cloFrom X.env.cells scope.names []) a code builtinsNs X.env) fp pn) elt te)
    (hb : bootBuiltins "all" = some (.builtin "all") := by decide +kernel)
    (hs : ∀ v, genFold iter X.env v = pure v := by intro _; rfl)
    (he : starEach [.GeneratorExp elt [⟨tg, iter, [], 0⟩] scope gpos] X.env = (false, eval (.GeneratorExp elt [⟨tg, iter, [], 0⟩] scope gpos) X.env) :: starEach [] X.env := by rfl) :
    PE X (.Call (.Name "all" p) [.GeneratorExp elt [⟨tg, iter, [], 0⟩] scope gpos] [] pos) (tAllG P wi g te caps) := by
  refine ⟨fun pins s σ H Q I h => ?_⟩
  refine wpAny_Call_Name_kw (ld_blt I hg hm hb ?_)
  refine PyProof.Rows.callWith_builtin1 ?_ he (by rfl)
  rw [he]
  show wpAny _ _ (spliced ((false, eval (.GeneratorExp elt [⟨tg, iter, [], 0⟩] scope gpos) X.env) :: backTo pos (starEach [] X.env))) _ _ s
  refine Calls.spliced_cons ?_
  refine wpAny_mono (Q := fun v s5 => wpAny (model X.prog X.w) X.A (call (.builtin "all") [v]) (EP X pins σ Q) X.xe s5) ?_ (fun v s5 hq => Calls.spliced_nil hq) fun _ _ h => h
  refine wpAny_GeneratorExp_make S.co (closure_ok S.free) S.cell S.dot S.kind (by have := hr.dp; omega) ?_ hs
  refine thn (hi.run pins s σ H _ I h) fun xv s1 h1 => thn h1 fun itv s2 h2 => ?_
  obtain ⟨it, fp, tn, J, H2, ei, I2, T, st2, f2, ⟨ps, hP, ht⟩, q⟩ := h2
  subst ei
  refine ⟨I2.nolimit, ?_⟩
  have hPs : s2.heap.get? P = some { cls := .none, data := .fields ps } := I2.hok P _ hP
  have hPlt : P < s2.heap.objs.size := Heap.lt_size hPs
  have cd : PySem.W.CodeHd s2.heap c P := TB.code.keeps fun b u e => I2.bk b u e
  have lim2 : s2.heap.NoLimit := I2.nolimit
  have fpP : ∀ b ∈ fp, b ≠ P := fun b hb z => by
    have q := (f2 b hb).1
    rw [z, hP] at q
    cases q
  have cont : ∀ (code : Value) (h3 : Heap) (tk : Nat) (ps' : Array Value), Heap.ExtBut P s2.heap h3 → s2.heap.objs.size ≤ h3.objs.size → h3.get? P = some { cls := .none, data := .fields ps' } → (∃ more, ps' = ps ++ more) → TriplesOk ps'.toList →
      wpAny (model X.prog X.w) X.A (builtinsFor X.env.globals X.env.builtins) (fun bi s₄ =>
        ∀ h', h'.Ns s₄.heap.objs.size (fun y => if y = ".0" then some (.ref it) else none) → Heap.SameBut s₄.heap.objs.size (s₄.heap.push { cls := .type "frame", data := .dict #[] }) h' →
          wpAny (model X.prog X.w) X.A (call (.builtin "all") [.ref h'.objs.size]) (EP X pins σ Q) X.xe { s₄ with
            gens := s₄.gens.push (.fresh (.compStart (.GeneratorExp elt [⟨tg, iter, [], 0⟩] scope gpos) 0 (.ref it) .none (genEnv scope (cloFrom X.env.cells scope.names []) s₄.heap.objs.size code bi X.env))),
            toks := s₄.toks + 1 + 1 + 1,
            heap := h'.push { cls := .type "generator", data := .fields #[.int s₄.gens.size 0, .str "<genexpr>" (s₄.toks + 1), .str (X.env.qual ++ "<genexpr>") (s₄.toks + 1 + 1)] } }) X.xe { s2 with heap := h3, toks := tk } := by
    intro code h3 tk ps' hx hsz hP3 hmore ht3
    obtain ⟨bm, ob, e1, e2, e3, e4, e5, e6, e7, e8⟩ := TB.bm
    obtain ⟨more, em⟩ := hmore
    have keep3 : ∀ b u, b ≠ P → s2.heap.get? b = some u → h3.get? b = some u := fun b u hb e => hx b u hb e
    refine wpAny_builtinsFor (m := X.mg) (by rw [I2.ok.glob]; exact (I2.mod.glob.keeps I2.bk).extBut hx TB.gP) e1 e2 (keep3 _ _ e4 (I2.bk _ _ e5)) e6 e7 e8 ?_
    have I4 : Inv X pins σ (upd H2 P (.tbl (ps ++ more))) { s2 with heap := h3, toks := tk } := inv_tab (g' := s2.gens) (d' := s2.drawn) I2 hP keep3 (by rw [← em]; exact hP3) I2.bare
    obtain ⟨W, ⟨m0, w0⟩, turn⟩ := q (upd H2 P (.tbl (ps ++ more))) ⟨⟨ps ++ more, upd_same, by rw [← em]; exact ht3⟩, fun b hb => upd_ne hb⟩
    generalize hs4 : ({ s2 with heap := h3, toks := tk } : Shared) = s4 at I4 ⊢
    have g4 : s4.gens = s2.gens := by rw [← hs4]
    have hh4 : s4.heap = h3 := by rw [← hs4]
    intro h' hn' hs'
    have hz' : h'.objs.size = s4.heap.objs.size + 1 := by rw [hs'.1, Heap.size_push]
    generalize hgo : ({ cls := .type "generator", data := .fields #[.int s4.gens.size 0, .str "<genexpr>" (s4.toks + 1), .str (X.env.qual ++ "<genexpr>") (s4.toks + 1 + 1)] } : Obj) = go
    have isG : ∀ h : Heap, h.get? h'.objs.size = some go → h.IsGen h'.objs.size s4.gens.size := fun h e => ⟨go, _, _, e, by rw [← hgo], by rw [← hgo], by rw [← hgo]⟩
    have keep' : ∀ b o, s4.heap.get? b = some o → h'.get? b = some o := fun b o e => hs'.extBut b o (Nat.ne_of_lt (Heap.lt_size e)) (Heap.get?_push_of_some _ e)
    have keep5 : ∀ b o, s4.heap.get? b = some o → (h'.push go).get? b = some o := fun b o e => Heap.get?_push_of_some _ (keep' b o e)
    have hpush : (h'.push go).get? h'.objs.size = some go := by
      rw [← hgo]
      exact Heap.get?_push_size _ rfl
    generalize hs5 : ({ s4 with gens := s4.gens.push (.fresh (.compStart (.GeneratorExp elt [⟨tg, iter, [], 0⟩] scope gpos) 0 (.ref it) .none (genEnv scope (cloFrom X.env.cells scope.names []) s4.heap.objs.size code builtinsNs X.env))), toks := s4.toks + 1 + 1 + 1, heap := h'.push go } : Shared) = s5
    have h5h : s5.heap = h'.push go := by rw [← hs5]
    have h5g : s5.gens = s4.gens.push (.fresh (.compStart (.GeneratorExp elt [⟨tg, iter, [], 0⟩] scope gpos) 0 (.ref it) .none (genEnv scope (cloFrom X.env.cells scope.names []) s4.heap.objs.size code builtinsNs X.env))) := by rw [← hs5]
    have b5 : AllBare s5.gens := by rw [h5g]; exact AllBare.push I4.bare rfl
    have f4 : ∀ b ∈ fp, FpOk X pins (upd H2 P (.tbl (ps ++ more))) b ∧ b < s4.heap.objs.size := fun b hb => by
      refine ⟨⟨?_, (f2 b hb).2⟩, ?_⟩
      · rw [upd_ne (fpP b hb)]
        exact (f2 b hb).1
      · obtain ⟨o, e, _⟩ := T.obj _ _ st2 b hb
        rw [hh4]
        exact Nat.lt_of_lt_of_le (Heap.lt_size e) hsz
    have I5 := gen_start (s5 := s5) (go := go) (code := code) (fp := fp) I4 S C hr.hd f4 (by rw [← hs5]) b5 (by rw [h5h]; exact keep5) (by rw [h5h]; exact hn'.push _) (by rw [h5h, ← hz']; exact hpush) (fun v z => by rw [← hgo] at z; cases z)
    have st5 : tn 0 s5.heap := T.keep _ _ _ st2 fun b hb o e => by
      rw [h5h]
      exact keep5 b o (by rw [hh4]; exact keep3 b o (fpP b hb) e)
    have n5 : ∀ b ∈ fp, upd H2 P (.tbl (ps ++ more)) b = none := fun b hb => (f4 b hb).1.1
    have hpn : ∀ p ∈ [(s4.heap.objs.size + 1, go)], ∀ b ∈ fp, p.1 ≠ b := fun p hp b hb z => by
      rw [List.mem_singleton.mp hp] at z
      have := (f4 b hb).2
      have z' : s4.heap.objs.size + 1 = b := z
      rw [← z'] at this
      exact absurd (Nat.lt_of_succ_lt this) (Nat.lt_irrefl _)
    rw [hz'] at isG hpush ⊢
    have back : ∀ {σ' : L2.St} {H' : Hp} {s' : Shared}, Inv (gx X (x :: capN caps) s4 (upd H2 P (.tbl (ps ++ more))) (genEnv scope (cloFrom X.env.cells scope.names []) s4.heap.objs.size code builtinsNs X.env) fp [(s4.heap.objs.size + 1, go)]) [] σ' H' s' → Inv X pins σ H' s' := fun {σ' H' s'} J =>
      I4.call' (ch := fp) J.os J.base J.hok J.bare fun b hb => ⟨(f4 b hb).1.2.2.2.1, (f4 b hb).1.2.1, (f4 b hb).1.2.2.2.2.1, (f4 b hb).1.2.2.2.2.2⟩
    have rmk : Room k (X.A.in1.in1.deeper (genEnv scope (cloFrom X.env.cells scope.names []) s4.heap.objs.size code builtinsNs X.env)) := ⟨hr.hd, by have := hr.dp; show X.A.depth + 1 + 3 * k + 5 < _; omega, by have := hr.un; show X.A.units + 1 + 1 + 3 + 16 * k + 200 < _; omega⟩
    have hg5 : s5.heap.IsGen (s4.heap.objs.size + 1) s4.gens.size := isG _ (by rw [h5h]; exact hpush)
    refine call_function_tree F.kind_all F.plain_all F.entry_all (F.args_all1 _) ?_
    unfold Builtin.«all»
    refine wpAny_bind (m := oneArg "all" _) (wpAny_pure ?_)
    refine wpAny_bind (wpAny_pyIter_gen hg5 ?_)
    refine wpAny_pure ⟨plainId_quiet F.plain_all_loop _, ?_⟩
    refine all_loop (GX := gx X (x :: capN caps) s4 (upd H2 P (.tbl (ps ++ more))) (genEnv scope (cloFrom X.env.cells scope.names []) s4.heap.objs.size code builtinsNs X.env) fp [(s4.heap.objs.size + 1, go)]) (fp := fp) (tn := tn) (σ0 := none :: capV σ caps) (W := W) (Ft := fun H' => Q (.bl true) H') (Ff := fun H' => Q (.bl false) H')
      (go := go) hr.hd (by have := hr.dp; omega) isG (List.mem_singleton.mpr rfl) (fun σ' H' s' J ft => ?_) (fun σ' H' s' J ff => ?_) (m0 + 1) s5 hg5 I5.nolimit ⟨.fresh (.compStart (.GeneratorExp elt [⟨tg, iter, [], 0⟩] scope gpos) 0 (.ref it) .none (genEnv scope (cloFrom X.env.cells scope.names []) s4.heap.objs.size code builtinsNs X.env)), by rw [h5g]; exact Array.getElem?_push_size .., ⟨rfl, ?_⟩⟩
    · exact ⟨.bl true, H', back J, rfl, ft⟩
    · exact ⟨.bl false, H', back J, rfl, ff⟩
    · have I5' : Inv (gx X (x :: capN caps) s4 (upd H2 P (.tbl (ps ++ more))) (genEnv scope (cloFrom X.env.cells scope.names []) s4.heap.objs.size code builtinsNs X.env) fp [(s4.heap.objs.size + 1, go)]) [] (none :: capV σ caps) (upd H2 P (.tbl (ps ++ more))) (s5.setGen s4.gens.size .running) := inv_woke I5 ⟨rfl, rfl, allBare_setGen b5 rfl⟩
      refine seg_begin (GX := gx X (x :: capN caps) s4 (upd H2 P (.tbl (ps ++ more))) (genEnv scope (cloFrom X.env.cells scope.names []) s4.heap.objs.size code builtinsNs X.env) fp [(s4.heap.objs.size + 1, go)]) T (i := 0) st5 ?_
      refine seg_loop (A := X.A.in1.in1) (GX := gx X (x :: capN caps) s4 (upd H2 P (.tbl (ps ++ more))) (genEnv scope (cloFrom X.env.cells scope.names []) s4.heap.objs.size code builtinsNs X.env) fp [(s4.heap.objs.size + 1, go)]) rfl rfl rfl rfl hcalm rfl rfl hpn S.co T (pg s4 _ _ code fp _) (pe s4 _ _ code fp _ rmk) turn (m0 + 1) _ _ ⟨0, m0, _, I5', st5, n5, w0, Nat.lt_succ_self _⟩
  cases hf : codeAmong gpos ps.toList with
  | none =>
    refine wpAny_genexprCodeX hcode (cd.code hPs ht) (cd.tab hPs) hf fun c' h' tk hx hge hlt hco' _ htab' _ => ?_
    obtain ⟨o1, vs, f1, tf, fl, tg', inF, tx, tt, op, _, _, _, _, _, _, _, _, _, htr, _⟩ := hco'
    exact cont _ h' tk _ hx (Nat.le_trans hge (Nat.le_of_lt hlt)) htab'.2 ⟨_, rfl⟩ htr
  | some cv =>
    refine wpAny_genexprCode_hit hcode (cd.code hPs ht) hf ?_
    exact cont cv s2.heap s2.toks ps (Heap.ExtBut.refl _ _) (Nat.le_refl _) hPs ⟨#[], by simp⟩ ht
end Gx

/-! Promises of defs that are called where no repr is under way: room and no guards. -/
namespace Gd
open PySem PySem.Spec PyProof.Rows L2 GxR Gx

structure RoomG (k : Nat) (A : Around) : Prop where
  r : Room k A
  g : A.guards = some []
theorem RoomG.mono {j k : Nat} {A : Around} (r : RoomG k A) (h : j ≤ k) : RoomG j A := ⟨r.r.mono h, r.g⟩
theorem RoomG.deeper {k : Nat} {A : Around} (r : RoomG (k + 1) A) (env : Env) : RoomG k (A.deeper env) := ⟨r.r.deeper env, r.g⟩

/-- a def's promise, kept wherever no guard is up -/
structure FnG (P : Program) (w : World) (K : PySem.W.Frag) (mg : Str → Option Value) (base : Heap) (CX : CXT) (k : Nat) (f : Addr) (fd : FuncData) (ps : List Str) (sp : Sp) : Prop where
  len : ∀ vs H Q E, sp vs H Q E → vs.length = ps.length
  run : ∀ (A : Around) (outer : List Env) (s : Shared) (H : Hp) (args : Args) (us : List Value) (vs : List V) (Q : VK) (E : XK), RoomG k A → Env0 P w K mg base A outer s H → BindsTo s fd args (ps.zip us) → Vals vs us → sp vs H Q E →
    codeAny (model P w) A (.call (.ref f) args) (CR CX outer P w H s Q E) s

section
variable {P : Program} {w : World} {K : PySem.W.Frag} {mg : Str → Option Value} {base : Heap} {CX : CXT} {k : Nat} {f : Addr} {fd : FuncData} {ps : List Str} {sp : Sp}

theorem FnG.mono {j : Nat} (F : FnG P w K mg base CX j f fd ps sp) (h : j ≤ k) : FnG P w K mg base CX k f fd ps sp := ⟨F.len, fun A outer s H args us vs Q E hr => F.run A outer s H args us vs Q E (hr.mono h)⟩
theorem FnG.imp {sp' : Sp} (F : FnG P w K mg base CX k f fd ps sp) (h : ∀ vs H Q E, sp' vs H Q E → sp vs H Q E) : FnG P w K mg base CX k f fd ps sp' :=
  ⟨fun vs H Q E q => F.len vs H Q E (h _ _ _ _ q), fun A outer s H args us vs Q E hr he hb hv hs => F.run A outer s H args us vs Q E hr he hb hv (h _ _ _ _ hs)⟩
/-- a promise kept everywhere -/
theorem FnG.of (F : FnOk P w K mg base CX k f fd ps sp) : FnG P w K mg base CX k f fd ps sp := ⟨F.len, fun A outer s H args us vs Q E hr => F.run A outer s H args us vs Q E hr.r⟩
/-- nothing is raised: any word for what is raised will do -/
theorem FnG.calm0 {CX' : CXT} (F : FnG P w K mg base CX0 k f fd ps sp) : FnG P w K mg base CX' k f fd ps sp := ⟨F.len, fun A outer s H args us vs Q E hr he hb hv hs => codeAny_mono (F.run A outer s H args us vs Q E hr he hb hv hs) fun r s' q => by
  cases r with
  | error e => exact False.elim q
  | ok fl => cases fl <;> exact q⟩

theorem fnG_of {name qual : Str} {params : Arguments} {body : List Stmt} {scope : Scope} {dV kV doc pm cdv ct oc : Value} {an od : Option Addr} {osl : Array (Option Value)} {N : List Str}
    (lk : K.lookup f = some ⟨oc, od, .func (PySem.W.fnOf name qual params body scope dV kV doc pm an cdv ct), osl⟩) (hcd : PySem.W.codeIn K cdv qual = true) (S : FnScope N ps scope) (len : ∀ vs H Q E, sp vs H Q E → vs.length = ps.length)
    (hbody : ∀ (A : Around) (outer : List Env) (s : Shared) (H : Hp) (vs : List V) (Q : VK) (E : XK), RoomG k (A.deeper (envOfC qual scope s.heap.objs.size f cdv)) → sp vs H Q E →
      ∃ t, PSs (cxOf CX P w K mg base N qual scope f cdv A outer s H E) body t ∧ t { nx := fun _ H' => Q .non H', rt := Q } (start N vs) H) :
    FnG P w K mg base CX (k + 1) f (PySem.W.fnOf name qual params body scope dV kV doc pm an cdv ct) ps sp := by
  refine ⟨len, fun A outer s H args us vs Q E hr e0 hb r hsp => ?_⟩
  have kin : K.In s.heap := e0.mod.kin.keeps fun b o e => (e0.bs b o e).1
  have lim : s.heap.NoLimit := e0.mod.nolimit.keeps fun b o e => (e0.bs b o e).1
  have par : ∀ y ∈ ps.zip us, scope.names.lookup y.1 = some .local ∨ (scope.names.lookup y.1 = some .cell ∧ ((cellsFrom (s.heap.objs.size + 1) scope.names []).lookup y.1).isSome = true) := fun ⟨n, v⟩ hy => by
    have hn := (List.of_mem_zip hy).1
    rcases S.par n hn with q | q
    · exact .inl q
    · exact .inr ⟨q, PySem.W.cellsFrom_some _ _ _ (.inl q)⟩
  refine codeAny_call_function hr.r.depth (kin _ _ lk) rfl S.co S.gen rfl (PySem.W.codeRec_of kin hcd) (hb _ _ _ _ ?_)
  refine wpAny_newFunctionEnv_cells S.kind par fun env he s1 x => ?_
  subst he
  refine ⟨lim.keeps x.toInCall.keep, codeAny_func ?_⟩
  obtain ⟨t, ht, hq⟩ := hbody A outer s H vs Q E (hr.deeper _) hsp
  refine wpAny_mono (ht.run [] s1 (start N vs) H _ (inv_start S hr.r.hd e0 (len _ _ _ _ hsp) r x) hq) (fun fl s' hs => ?_) fun e s' hs => hs
  cases fl with
  | ret u =>
    obtain ⟨v, σ', H', J, rv, q⟩ := hs
    exact ⟨v, H', J.os, J.bare, J.base, J.hok, rv, q⟩
  | next =>
    obtain ⟨σ', H', J, q⟩ := hs
    exact ⟨.non, H', J.os, J.bare, J.base, J.hok, rfl, q⟩
  | brk =>
    obtain ⟨_, _, _, q⟩ := hs
    exact q.elim
  | cont =>
    obtain ⟨_, _, _, q⟩ := hs
    exact q.elim
end

section
variable {P : Program} {w : World} {K : PySem.W.Frag} {mg : Str → Option Value} {base : Heap}
/-- a def that lets nothing out, by its body -/
theorem okG {x qual : Str} {st : Stmt} {f : Addr} {fd : FuncData} {N ps : List Str} {k : Nat} {sp : Sp} (F : Fun K x qual st f fd) (S : FnScope N ps (defScope st)) (len : ∀ vs H Q E, sp vs H Q E → vs.length = ps.length)
    (hbody : ∀ (cdv : Value) (A : Around) (outer : List Env) (s : Shared) (H : Hp) (vs : List V) (Q : VK) (E : XK), RoomG k (A.deeper (envOfC qual (defScope st) s.heap.objs.size f cdv)) → sp vs H Q E →
      ∃ t, PSs (cxOf CX0 P w K mg base N qual (defScope st) f cdv A outer s H E).nox (defBody st) t ∧ t { nx := fun _ H' => Q .non H', rt := Q } (start N vs) H) : FnG P w K mg base CX0 (k + 1) f fd ps sp := by
  obtain ⟨oc, od, kV, doc, pm, an, cdv, ct, osl, rfl, lk, hcd⟩ := F.ex
  refine fnG_of lk hcd S len fun A outer s H vs Q E hr hsp => ?_
  obtain ⟨t, h, q⟩ := hbody cdv A outer s H vs Q E hr hsp
  exact ⟨t, h.nox, q⟩
/-- a def whose code is at c, its table at T -/
theorem okGc {x qual : Str} {st : Stmt} {f c : Addr} {fd : FuncData} {N ps : List Str} {k : Nat} {sp : Sp} (F : Fun K x qual st f fd) (hc : fd.code = .ref c) (S : FnScope N ps (defScope st)) (len : ∀ vs H Q E, sp vs H Q E → vs.length = ps.length)
    (hbody : ∀ (A : Around) (outer : List Env) (s : Shared) (H : Hp) (vs : List V) (Q : VK) (E : XK), RoomG k (A.deeper (envOfC qual (defScope st) s.heap.objs.size f (.ref c))) → sp vs H Q E →
      ∃ t, PSs (cxOf CX0 P w K mg base N qual (defScope st) f (.ref c) A outer s H E).nox (defBody st) t ∧ t { nx := fun _ H' => Q .non H', rt := Q } (start N vs) H) : FnG P w K mg base CX0 (k + 1) f fd ps sp := by
  obtain ⟨oc, od, kV, doc, pm, an, cdv, ct, osl, rfl, lk, hcd⟩ := F.ex
  obtain rfl : cdv = .ref c := hc
  refine fnG_of lk hcd S len fun A outer s H vs Q E hr hsp => ?_
  obtain ⟨t, h, q⟩ := hbody A outer s H vs Q E hr hsp
  exact ⟨t, h.nox, q⟩
/-- a def that may raise -/
theorem okGX {x qual : Str} {st : Stmt} {f : Addr} {fd : FuncData} {N ps : List Str} {k : Nat} {sp : Sp} (F : Fun K x qual st f fd) (S : FnScope N ps (defScope st)) (len : ∀ vs H Q E, sp vs H Q E → vs.length = ps.length)
    (hbody : ∀ (cdv : Value) (A : Around) (outer : List Env) (s : Shared) (H : Hp) (vs : List V) (Q : VK) (E : XK), RoomG k (A.deeper (envOfC qual (defScope st) s.heap.objs.size f cdv)) → sp vs H Q E →
      ∃ t, PSs (cxOf (L2.CX P w) P w K mg base N qual (defScope st) f cdv A outer s H E) (defBody st) t ∧ t { nx := fun _ H' => Q .non H', rt := Q } (start N vs) H) : FnG P w K mg base (L2.CX P w) (k + 1) f fd ps sp := by
  obtain ⟨oc, od, kV, doc, pm, an, cdv, ct, osl, rfl, lk, hcd⟩ := F.ex
  exact fnG_of lk hcd S len fun A outer s H vs Q E hr hsp => hbody cdv A outer s H vs Q E hr hsp
end

section
variable {X : Cx} {CX : CXT} {k : Nat} {f : Addr} {fd : FuncData} {ps : List Str} {sp : Sp} {dvs : List V} {ds : List Value} {E : XK} {x : Str} {p pos : Pos} {e : Expr} {es : List Expr} {t : TA}
theorem run_fnG {pins : List (Addr × Obj)} {σ : L2.St} {H : Hp} {s : Shared} {Q : VK} {us : List Value} {vs : List V} (F : FnG X.prog X.w X.K X.mg X.base CX k f fd ps sp) (hr : RoomG k X.A) (hb : Binds X.K fd ps ds) (hd : Vals dvs ds) (hx : Passes CX X E)
    (I : Inv X pins σ H s) (r : Vals vs us) (h : sp (vs ++ dvs) H Q E) : wpAny (model X.prog X.w) X.A (call (.ref f) us) (EP X pins σ Q) X.xe s := by
  have r2 : Vals (vs ++ dvs) (us ++ ds) := r.append hd
  have hl : (us ++ ds).length = ps.length := r2.length ▸ F.len _ _ _ _ h
  refine wpAny_call (codeAny_mono (F.run X.A X.stack s H ⟨us, []⟩ (us ++ ds) (vs ++ dvs) Q E hr I.env0 (hb s us I.kIn hl) r2 h) fun r s' hq => ?_)
  cases r with
  | error e => exact hx pins σ H s e s' I hq
  | ok fl =>
    cases fl with
    | ret u => exact I.after hq
    | next => exact hq.elim
    | brk => exact hq.elim
    | cont => exact hq.elim
theorem pe_callG (F : FnG X.prog X.w X.K X.mg X.base CX k f fd ps sp) (hr : RoomG k X.A) (hg : Gl X x) (hm : X.mg x = some (.ref f)) (hk : PySem.W.keepIn X.K (.ref f) = true) (hb : Binds X.K fd ps ds) (hd : Vals dvs ds) (hx : Passes CX X E)
    (ha : PA X (e :: es) t) (hdb : (x == ("__debug__" : Str)) = false := by decide) (he : starEach (e :: es) X.env = (false, eval e X.env) :: starEach es X.env := by rfl) (hpl : (backTo pos (starEach es X.env)).any (·.1) = false := by rfl) :
    PE X (.Call (.Name x p) (e :: es) [] pos) (tCall sp dvs E t) := by
  refine ⟨fun pins s σ H Q I h => wpAny_Call_Name_kw (ld_glob I hg hm ?_ hdb)⟩
  refine PySem.W.callWith_K (h₀ := X.base) I.ok.mod.kin hk (thn (ha.run pos pins s σ H _ I h) fun us s1 ⟨vs, H1, I1, r, q⟩ => ⟨I1.kIn, run_fnG F hr hb hd hx I1 r q⟩) he hpl
theorem pe_call0G (F : FnG X.prog X.w X.K X.mg X.base CX k f fd ps sp) (hr : RoomG k X.A) (hg : Gl X x) (hm : X.mg x = some (.ref f)) (hk : PySem.W.keepIn X.K (.ref f) = true) (hb : Binds X.K fd ps ds) (hd : Vals dvs ds) (hx : Passes CX X E)
    (hdb : (x == ("__debug__" : Str)) = false := by decide) : PE X (.Call (.Name x p) [] [] pos) (tCall sp dvs E tNil) :=
  ⟨fun pins s σ H Q I h => wpAny_Call_Name_kw (ld_glob I hg hm (PySem.W.callWith_K0 I.kIn hk (run_fnG (us := []) F hr hb hd hx I .nil h)) hdb)⟩
end

/-! ### repr of data of any depth -/
section
variable {X : Cx}
/-- repr(x), x data: its text -/
def rRepr (K : PySem.W.Frag) : List V → Hp → VK → Prop := fun xs H Q => ∃ v d, xs = [v] ∧ Dp K H v d ∧ d.showable = true ∧ d.hasDict = false ∧ d.depth ≤ 64 ∧ d.shown.length ≤ sizeLine ∧ Q (.str d.shown) H
theorem call_repr (hu : X.A.units + 66 < cLine) (hg : X.A.guards = some []) : CallR X (.builtin "repr") (rRepr X.K) := by
  intro pins s σ H xs us Q I r h
  obtain ⟨v, d, rfl, hd, hs, hnd, hdp, hsz, q⟩ := h
  obtain ⟨u, rfl, ru⟩ := vals1 r
  obtain ⟨as, rd⟩ := Dp.reads I d v u hd ru
  cases hd with
  | non => cases ru; exact PySem.P.repr_of_none ⟨.str _, H, I.tok _, ⟨_, rfl⟩, q⟩
  | bl b => cases ru; exact PySem.P.repr_of_bool ⟨.str _, H, I.tok _, ⟨_, rfl⟩, q⟩
  | int i =>
    obtain ⟨t, rfl⟩ := ru
    exact PySem.P.repr_of_int (by simpa [PyData.showable] using hs) ⟨.str _, H, I.tok _, ⟨_, rfl⟩, q⟩
  | str x =>
    obtain ⟨t, rfl⟩ := ru
    exact PySem.P.repr_of_str ⟨.str _, H, I.tok _, ⟨_, rfl⟩, q⟩ hsz
  | lst h1 h2 =>
    cases ru
    refine repr_of_reads' rd hs (fun z => absurd (hnd.symm.trans z) (by decide)) hg (by omega) (fun _ _ e => e) (fun h' t tk k => ?_) hsz
    exact ⟨.str _, H, I.kept k, ⟨_, rfl⟩, q⟩
  | tup h1 h2 =>
    cases ru
    refine repr_of_reads' rd hs (fun z => absurd (hnd.symm.trans z) (by decide)) hg (by omega) (fun _ _ e => e) (fun h' t tk k => ?_) hsz
    exact ⟨.str _, H, I.kept k, ⟨_, rfl⟩, q⟩
end
end Gd

/-! The end of a law: the law's def keeps its promise FnG at the caller's around. -/
namespace Gd
open PySem PySem.Spec PyProof.Rows L2 GxR Gx

/-- what the law is entered with: the script, locked, and the defs' tables -/
def entryH (K : PySem.W.Frag) (a : Addr) (T : List Addr) (scr : HO) : Hp := fun b => if b ∈ T then some (.tbl #[]) else if b = a then (if (K.lookup a).isSome = true then none else some scr) else none
theorem entryH_inv {K : PySem.W.Frag} {a b : Addr} {T : List Addr} {scr u : HO} (h : entryH K a T scr b = some u) : (b ∈ T ∧ u = .tbl #[]) ∨ (b ∉ T ∧ b = a ∧ K.lookup a = none ∧ u = scr) := by
  unfold entryH at h
  by_cases h1 : b ∈ T
  · rw [if_pos h1] at h
    cases h
    exact .inl ⟨h1, rfl⟩
  · rw [if_neg h1] at h
    by_cases h2 : b = a
    · rw [if_pos h2] at h
      by_cases h3 : (K.lookup a).isSome = true
      · rw [if_pos h3] at h
        cases h
      · rw [if_neg h3] at h
        cases h
        refine .inr ⟨h1, h2, ?_, rfl⟩
        cases q : K.lookup a with
        | none => rfl
        | some o => rw [q] at h3; exact absurd rfl h3
    · rw [if_neg h2] at h
      cases h
theorem entryH_tab {K : PySem.W.Frag} {a b : Addr} {T : List Addr} {scr : HO} (h : b ∈ T) : entryH K a T scr b = some (.tbl #[]) := if_pos h
theorem entryH_scr {K : PySem.W.Frag} {a : Addr} {T : List Addr} {scr : HO} (h : a ∉ T) (hk : K.lookup a = none) : entryH K a T scr a = some scr := by
  unfold entryH
  rw [if_neg h, if_pos rfl, hk]
  rfl

section
variable {P : Program} {w : World} {K : PySem.W.Frag} {mg mb : Str → Option Value} {k : Nat} {fa a : Addr} {cs : List (Addr × Addr)} {fd : FuncData} {x : Str} {sp : Sp} {s1 : Shared} {vs : List Value} {ns : List Int} {CX : CXT}
theorem law_endG (kin : K.In s1.heap) (hns : s1.heap.Ns mainGlobals mg) (hb : s1.heap.Ns builtinsNs mb) (hbb : ∀ x : Str, x ≠ "__name__" → mb x = bootBuiltins x) (hlim : s1.heap.NoLimit) (hg : s1.gens = #[])
    (hT : ∀ p ∈ cs, s1.heap.get? p.2 = some { cls := .none, data := .fields #[] }) (nT : ∀ p ∈ cs, K.lookup p.2 = none) (C : ∀ p ∈ cs, PySem.W.CodeHd s1.heap p.1 p.2)
    (hbm : ∃ (bm : Addr) (ob : Obj), mg "__builtins__" = some (.ref bm) ∧ bm ≠ builtinsNs ∧ s1.heap.get? bm = some ob ∧ ob.cls = .type "module" ∧ ob.dict = some builtinsNs ∧ ob.data = .plain)
    (ha : s1.heap.get? a = some { cls := .type "list", data := .seq vs.toArray }) (hi : IntsAre vs ns) (hl : ns.length ≤ sizeLine) (hr : RoomG k callerA)
    (F : ∀ base : Heap, K.In base → base.Ns mainGlobals mg → (∀ p ∈ cs, TabB base mg p.1 p.2) → FnG P w K mg base CX k fa fd [x] sp) (hbind : ∀ (s : Shared) (u : Value), BindsTo s fd ⟨[u], []⟩ [(x, u)])
    (hsp : ∀ H : Hp, (∀ p ∈ cs, H p.2 = some (.tbl #[])) → SqL K H a (ns.map V.int) → sp [.ref a] H (fun v _ => v = .bl true) fun _ _ _ => False)
    (hCX : ∀ H e s', CX [] H s1 (fun _ _ _ => False) e s' → False) :
    codeAny (model P w) callerA (.call (.ref fa) ⟨[.ref a], []⟩) (fun r s' => r = .ok (.ret (.bool true)) ∧ OldK s1.heap s'.heap ∧ s'.os = s1.os ∧ AllBare s'.gens) s1 := by
  have tabAt : ∀ b ∈ cs.map (·.2), s1.heap.get? b = some { cls := .none, data := .fields #[] } := fun b hb => by
    obtain ⟨p, hp, rfl⟩ := List.mem_map.mp hb
    exact hT p hp
  have inT : ∀ p ∈ cs, p.2 ∈ cs.map (·.2) := fun p hp => List.mem_map.mpr ⟨p, hp, rfl⟩
  have aT : a ∉ cs.map (·.2) := fun z => by
    have q := (tabAt a z).symm.trans ha
    cases congrArg Obj.data (Option.some.inj q)
  let H : Hp := entryH K a (cs.map (·.2)) (.frz { cls := .type "list", data := .seq vs.toArray } (.lst (ns.map V.int)))
  have hv : ∀ {b u}, H b = some u → (b ∈ cs.map (·.2) ∧ u = .tbl #[]) ∨ (b ∉ cs.map (·.2) ∧ b = a ∧ K.lookup a = none ∧ u = .frz { cls := .type "list", data := .seq vs.toArray } (.lst (ns.map V.int))) := fun h => entryH_inv h
  have hok : HOk P w H s1.heap := fun b u h => by
    rcases hv h with ⟨h1, rfl⟩ | ⟨_, rfl, _, rfl⟩
    · exact tabAt b h1
    · exact ⟨ha, by rw [List.length_map]; exact hl, vs, _, vals_ints hi, ha⟩
  have plain : ∀ {b : Addr} {o : Obj}, s1.heap.get? b = some o → (∀ xs n, o.data ≠ .seq xs n) → o.data ≠ .fields #[] → H b = none := fun {b o} e h1 h2 => by
    cases q : H b with
    | none => rfl
    | some u =>
      rcases hv q with ⟨h3, _⟩ | ⟨_, rfl, _, _⟩
      · rw [tabAt b h3] at e
        cases e
        exact (h2 rfl).elim
      · rw [ha] at e
        cases e
        exact (h1 _ _ rfl).elim
  have nsK : ∀ {b : Addr} {m : Str → Option Value}, s1.heap.Ns b m → (hidT s1.heap H).Ns b m := fun {b m} ⟨o, es, ep, e, d, r⟩ =>
    ⟨o, es, ep, hidT_get e (plain e (fun xs n z => by rw [d] at z; cases z) fun z => by rw [d] at z; cases z), d, r⟩
  have kinB : K.In (hidT s1.heap H) := fun b o e => hidT_get (kin b o e) (by
    cases q : H b with
    | none => rfl
    | some u =>
      rcases hv q with ⟨h3, _⟩ | ⟨_, rfl, h4, _⟩
      · obtain ⟨p, hp, rfl⟩ := List.mem_map.mp h3
        rw [nT p hp] at e
        cases e
      · rw [h4] at e
        cases e)
  have md : L2.Mod K mg (hidT s1.heap H) := ⟨kinB, nsK hns, ⟨mb, nsK hb, hbb⟩, let ⟨mc, h1, h2⟩ := hlim; ⟨mc, nsK h1, h2⟩⟩
  have noG : ∀ p ∈ cs, mainGlobals ≠ p.2 := fun p hp z => by
    obtain ⟨o, es, ep, e, hd, _⟩ := hns
    rw [z, hT p hp] at e
    cases e
    cases hd
  have tabs : ∀ p ∈ cs, TabB (hidT s1.heap H) mg p.1 p.2 := fun p hp => by
    refine ⟨?_, ?_, noG p hp⟩
    · obtain ⟨o, us, file, tf, flags, tg, inF, text, tt, e1, r1, r2, r3, r4, r5, r6, r7, r8, hne⟩ := C p hp
      exact ⟨o, us, file, tf, flags, tg, inF, text, tt, hidT_get e1 (plain e1 (fun xs n z => by rw [r2] at z; cases z) fun z => by rw [r2] at z; cases z; simp at r3), r1, r2, r3, r4, r5, r6, r7, r8, hne⟩
    · obtain ⟨bm, ob, b1, b2, b3, b4, b5, b6⟩ := hbm
      refine ⟨bm, ob, b1, b2, fun q => ?_, fun q => ?_, hidT_get b3 (plain b3 (fun xs n z => by rw [b6] at z; cases z) fun z => by rw [b6] at z; cases z), b4, b5, b6⟩
      · obtain ⟨o, es, ep, e, hd, _⟩ := hns
        rw [q, e] at b3
        cases b3
        rw [hd] at b6
        cases b6
      · rw [q, hT p hp] at b3
        cases b3
        cases b6
  have seqA : SqL K H a (ns.map V.int) := by
    cases q : K.lookup a with
    | none => exact .inl (.inr ⟨_, entryH_scr aT q⟩)
    | some o =>
      have e := kin a o q
      rw [ha] at e
      cases e
      exact .inr ⟨_, vs.toArray, _, q, rfl, rfl, rfl, by rw [List.size_toArray, hi.length]; exact hl, by simpa using vals_ints hi⟩
  have e0 : Env0 P w K mg (hidT s1.heap H) callerA [] s1 H := ⟨rfl, md, fun b o e => of_hidT e, Nat.le_of_eq (hidT_size _ _), trivial, fun b z => absurd (show b ∈ ([] : List Addr) from z) (by simp), hok, .of_eq hg⟩
  refine codeAny_mono ((F _ kinB (nsK hns) tabs).run callerA [] s1 H ⟨[.ref a], []⟩ [.ref a] [.ref a] _ _ hr e0 (hbind s1 (.ref a)) (.cons rfl .nil) (hsp H (fun p hp => entryH_tab (inT p hp)) seqA)) fun r s' h => ?_
  cases r with
  | error e => exact (hCX H e s' h).elim
  | ok fl =>
    cases fl with
    | next => exact h.elim
    | brk => exact h.elim
    | cont => exact h.elim
    | ret u =>
      obtain ⟨v, H', os, bare, un, hok', r', q⟩ := h
      obtain rfl : v = .bl true := q
      obtain rfl : u = Value.bool true := r'
      have stays : ∀ b o, b ∉ cs.map (·.2) → s1.heap.get? b = some o → s'.heap.get? b = some o := fun b o nb e => by
        cases q : H b with
        | none => exact un.keep b o e q (fun z => absurd (show b ∈ ([] : List Addr) from z) (by simp)) (by simp)
        | some u =>
          rcases hv q with ⟨z, _⟩ | ⟨_, rfl, _, rfl⟩
          · exact absurd z nb
          · rw [ha] at e
            cases e
            exact (hok' b _ (un.frzs b _ _ q)).1
      refine ⟨rfl, ⟨fun b o e => ?_, fun b o e => ?_⟩, os, bare⟩
      · by_cases hm : b ∈ cs.map (·.2)
        · obtain ⟨p, hp, rfl⟩ := List.mem_map.mp hm
          obtain ⟨more, z⟩ := un.tbls p.2 #[] (entryH_tab (inT p hp))
          rw [hT p hp] at e
          cases e
          exact .inr (.inl ⟨((C p hp).tab (hT p hp)).isCodeTable, rfl, #[], more, rfl, by rw [Array.empty_append]; rw [Array.empty_append] at z; exact hok' p.2 _ z⟩)
        · exact .inl (stays b o hm e)
      · by_cases hm : b ∈ cs.map (·.2)
        · obtain ⟨p, hp, rfl⟩ := List.mem_map.mp hm
          obtain ⟨more, z⟩ := un.tbls p.2 #[] (entryH_tab (inT p hp))
          exact ⟨_, hok' p.2 _ z⟩
        · exact ⟨o, stays b o hm e⟩
end

/-- what is known of the law's promise at the head's heap h -/
def LawG (l : PySem.W.OpenLaw) (w : World) (K : PySem.W.Frag) (CX : CXT) (k n : Nat) (x : Str) (mg : Str → Option Value) (fa : Addr) (h : Heap) : Prop :=
  ∃ (fd : FuncData) (cs : List (Addr × Addr)) (sp : Sp), (∀ p ∈ cs, h.get? p.2 = some { cls := .none, data := .fields #[] }) ∧ (∀ p ∈ cs, K.lookup p.2 = none) ∧ (∀ p ∈ cs, PySem.W.CodeHd h p.1 p.2) ∧ (∀ (s : Shared) (u : Value), BindsTo s fd ⟨[u], []⟩ [(x, u)]) ∧
    (∀ (H : Hp) (a : Addr) (ns : List Int), ns.length ≤ n → (∀ z ∈ ns, Builtin.Int.intBits z ≤ 1048576) → (∀ p ∈ cs, H p.2 = some (.tbl #[])) → SqL K H a (ns.map V.int) → sp [.ref a] H (fun v _ => v = .bl true) fun _ _ _ => False) ∧
    ∀ base : Heap, K.In base → base.Ns mainGlobals mg → (∀ p ∈ cs, TabB base mg p.1 p.2) → FnG l.prog w K mg base CX k fa fd [x] sp
theorem walk_G {l : PySem.W.OpenLaw} {n k : Nat} {q : Program} {loose : List Str} {XP : (Str → Option Value) → Heap → Prop} {YP : World → Heap → Prop} {d : DefRec} {K : Params → PySem.W.Frag} {CX : World → CXT} {x : Str}
    (hn : l.most = some n) (hn2 : n ≤ sizeLine) (hdf : d.params.defaults = []) (hr : RoomG k callerA) (hY : ∀ (w : World) (h : Heap), YP w h → (K w.params).In h)
    (F : ∀ (w : World) (mg : Str → Option Value) (fa : Addr) (h : Heap), YP w h → (K w.params).In h → h.Ns mainGlobals mg → mg d.name = some (.ref fa) → LawG l w (K w.params) (CX w) k n x mg fa h)
    (hCX : ∀ (w : World) (H : Hp) (s : Shared) (e : Value) (s' : Shared), CX w [] H s (fun _ _ _ => False) e s' → False) :
    PySem.W.WalkO q loose XP YP l.row.toRowW d [] (fun f vs => PySem.call f vs) := by
  refine Att.attach_callB hn hdf fun w s0 s1 mg mb fa o pm cd doc a vs ns G Y ho hd hcd hmg hobj hints hlen hbits hg => ?_
  obtain ⟨fd, cs, sp, hT, nT, C, hb, hsp, hF⟩ := F w mg fa _ Y (hY w _ Y) G.T.g hmg
  exact law_endG (hY w _ Y) G.T.g G.T.b G.T.builtins G.T.nolimit hg hT nT C G.T.bmain hobj hints (Nat.le_trans hlen hn2) hr hF hb (fun H hH hS => hsp H a ns hlen hbits hH hS) fun H e s' => hCX w H s1 e s'
end Gd

/-! What stays through a call: all but the defs' tables and some lists; defs as they stand; data. -/
namespace Gd
open PySem PySem.Spec PyProof.Rows L2 GxR Gx

/-- no table -/
def NoTab (o : HO) : Prop := ∀ ps, o ≠ .tbl ps
/-- all stays but tables, which may grow, and the objects at S -/
structure Kb (S : List Addr) (H H' : Hp) : Prop where
  keep : ∀ b o, H b = some o → b ∉ S → NoTab o → H' b = some o
  tab : ∀ T, TabG H T → TabG H' T
  free : ∀ p, H' p = none → H p = none
abbrev Kp (H H' : Hp) : Prop := Kb [] H H'
section
variable {S : List Addr} {H H' H1 H2 : Hp} {p : Addr} {o u : HO}
theorem Kb.refl (H : Hp) : Kb S H H := ⟨fun _ _ h _ _ => h, fun _ h => h, fun _ h => h⟩
theorem Kb.trans (a : Kb S H H1) (b : Kb S H1 H2) : Kb S H H2 := ⟨fun c o h n t => b.keep c o (a.keep c o h n t) n t, fun T h => b.tab T (a.tab T h), fun q h => a.free q (b.free q h)⟩
theorem Kb.mono {S' : List Addr} (a : Kb S H H') (h : ∀ b ∈ S, b ∈ S') : Kb S' H H' := ⟨fun c o e n t => a.keep c o e (fun z => n (h c z)) t, a.tab, a.free⟩
theorem Kb.of (a : Kp H H') : Kb S H H' := a.mono fun _ h => (by cases h)
theorem tab_notab {T : Addr} (h : TabG H T) (e : H T = some o) (n : NoTab o) : False := by
  obtain ⟨ps, h1, _⟩ := h
  rw [e] at h1
  cases h1
  exact n ps rfl
theorem upd_some_of {q : Addr} (h : upd H p o q = none) : H q = none := by
  by_cases z : q = p
  · rw [z, upd_same] at h
    cases h
  · rw [upd_ne z] at h
    exact h
theorem Kb.new (h : H p = none) : Kb S H (upd H p o) :=
  ⟨fun b u e _ _ => by rw [upd_ne (ne_of_none e h)]; exact e, fun T ⟨ps, e, t⟩ => ⟨ps, by rw [upd_ne (ne_of_none e h)]; exact e, t⟩, fun q e => upd_some_of e⟩
theorem Kb.tabbed {P : Addr} (h : Tabbed P H H') (hP : TabG H P) : Kb S H H' := by
  refine ⟨fun b o e _ n => ?_, fun T hT => ?_, fun q e => ?_⟩
  · rw [h.2 b fun z => tab_notab (by rw [z]; exact hP) e n]
    exact e
  · by_cases z : T = P
    · exact z ▸ h.1
    · obtain ⟨ps, e, t⟩ := hT
      exact ⟨ps, by rw [h.2 T z]; exact e, t⟩
  · by_cases z : q = P
    · obtain ⟨ps, e', _⟩ := h.1
      rw [z, e'] at e
      cases e
    · rw [h.2 q z] at e
      exact e
/-- a known list is stored -/
theorem Kb.put (hp : p ∈ S) (e : H p = some u) (n : NoTab u) : Kb S H (upd H p o) :=
  ⟨fun b v hb nb _ => by rw [upd_ne (fun z : b = p => nb (by rw [z]; exact hp))]; exact hb, fun T hT => by
    have z : T ≠ p := fun z => tab_notab (o := u) (by rw [← z]; exact hT) e n
    obtain ⟨ps, e', t⟩ := hT
    exact ⟨ps, by rw [upd_ne z]; exact e', t⟩, fun q e => upd_some_of e⟩
/-- an object that was not there at H may change -/
theorem Kb.mut (k : Kb S H H') (hp : H p = none) (n : ¬ TabG H' p) : Kb S H (upd H' p o) :=
  ⟨fun b v hb nb t => by rw [upd_ne (ne_of_none hb hp)]; exact k.keep b v hb nb t, fun T hT => by
    have z : T ≠ p := fun z => n (z ▸ k.tab T hT)
    obtain ⟨ps, e', t⟩ := k.tab T hT
    exact ⟨ps, by rw [upd_ne z]; exact e', t⟩, fun q e => k.free q (upd_some_of e)⟩
theorem no_tab (e : H p = some o) (n : NoTab o) : ¬ TabG H p := fun h => tab_notab h e n
theorem nt_lst {xs : List V} : NoTab (.lst xs) := fun _ h => by cases h
theorem nt_tup {xs : List V} : NoTab (.tup xs) := fun _ h => by cases h
theorem nt_frz {ob : Obj} : NoTab (.frz ob u) := fun _ h => by cases h
theorem nt_ext {φ : Heap → Prop} : NoTab (.ext φ) := fun _ h => by cases h

end

/-! ### data: scalars and tuples; whatever is made of them stands for good -/
mutual
inductive Dt (K : PySem.W.Frag) (H : Hp) : V → PyData → Prop where
  | non : Dt K H .non .none
  | bl (b : Bool) : Dt K H (.bl b) (.bool b)
  | int (i : Int) : Dt K H (.int i) (.int i)
  | str (x : Str) : Dt K H (.str x) (.str x)
  | tup {a : Addr} {xs : List V} {ds : List PyData} (h : SqT K H a xs) (hs : DtAll K H xs ds) : Dt K H (.ref a) (.tuple ds)
inductive DtAll (K : PySem.W.Frag) (H : Hp) : List V → List PyData → Prop where
  | nil : DtAll K H [] []
  | cons {v : V} {vs : List V} {d : PyData} {ds : List PyData} (h : Dt K H v d) (hs : DtAll K H vs ds) : DtAll K H (v :: vs) (d :: ds)
end
/-- the lists at S are lists -/
def Lsts (S : List Addr) (H : Hp) : Prop := ∀ b ∈ S, ∃ xs, H b = some (.lst xs)
theorem Lsts.nil {H : Hp} : Lsts [] H := fun _ h => by cases h
section
variable {K : PySem.W.Frag} {S : List Addr} {H H' : Hp}
theorem Kb.sqT (k : Kb S H H') (hS : Lsts S H) {a : Addr} {xs : List V} (h : SqT K H a xs) : SqT K H' a xs := by
  rcases h with (h | ⟨o, h⟩) | h
  · exact .inl (.inl (k.keep a _ h (fun z => by obtain ⟨ys, e⟩ := hS a z; rw [h] at e; cases e) nt_tup))
  · exact .inl (.inr ⟨o, k.keep a _ h (fun z => by obtain ⟨ys, e⟩ := hS a z; rw [h] at e; cases e) nt_frz⟩)
  · exact .inr h
mutual
theorem Dt.kb (k : Kb S H H') (hS : Lsts S H) : ∀ {v : V} {d : PyData}, Dt K H v d → Dt K H' v d
  | _, _, .non => .non
  | _, _, .bl b => .bl b
  | _, _, .int i => .int i
  | _, _, .str x => .str x
  | _, _, .tup h hs => .tup (k.sqT hS h) (DtAll.kb k hS hs)
theorem DtAll.kb (k : Kb S H H') (hS : Lsts S H) : ∀ {vs : List V} {ds : List PyData}, DtAll K H vs ds → DtAll K H' vs ds
  | _, _, .nil => .nil
  | _, _, .cons h hs => .cons (h.kb k hS) (DtAll.kb k hS hs)
end
mutual
theorem Dt.dp : ∀ {v : V} {d : PyData}, Dt K H v d → Dp K H v d
  | _, _, .non => .non
  | _, _, .bl b => .bl b
  | _, _, .int i => .int i
  | _, _, .str x => .str x
  | _, _, .tup h hs => .tup h hs.dp
theorem DtAll.dp : ∀ {vs : List V} {ds : List PyData}, DtAll K H vs ds → DpAll K H vs ds
  | _, _, .nil => .nil
  | _, _, .cons h hs => .cons h.dp hs.dp
end
theorem DtAll.length : ∀ {vs : List V} {ds : List PyData}, DtAll K H vs ds → vs.length = ds.length
  | _, _, .nil => rfl
  | _, _, .cons _ hs => congrArg (· + 1) hs.length
theorem DtAll.get : ∀ {vs : List V} {ds : List PyData} {i : Nat} {v : V}, DtAll K H vs ds → vs[i]? = some v → ∃ d, ds[i]? = some d ∧ Dt K H v d
  | _, _, _, _, .nil, e => by simp at e
  | _, _, 0, _, .cons h _, e => by
    have e := Option.some.inj e
    subst e
    exact ⟨_, rfl, h⟩
  | _, _, i + 1, _, .cons _ hs, e => DtAll.get (i := i) hs e
theorem DtAll.at : ∀ {vs : List V} {ds : List PyData} {i : Nat} {d : PyData}, DtAll K H vs ds → ds[i]? = some d → ∃ v, vs[i]? = some v ∧ Dt K H v d
  | _, _, _, _, .nil, e => by simp at e
  | _, _, 0, _, .cons h _, e => by
    have e := Option.some.inj e
    subst e
    exact ⟨_, rfl, h⟩
  | _, _, i + 1, _, .cons _ hs, e => DtAll.at (i := i) hs e
end

/-! ### defs -/
section
variable {P : Program} {w : World} {K : PySem.W.Frag} {mg : Str → Option Value} {base : Heap}
/-- the def x stands as st -/
def DefAt (K : PySem.W.Frag) (mg : Str → Option Value) (x : Str) (st : Stmt) (ps : List Str) : Prop := ∃ f fd, Fun K x x st f fd ∧ mg x = some (.ref f) ∧ Binds K fd ps []
/-- .. and its code's table is at T -/
def DefTab (K : PySem.W.Frag) (mg : Str → Option Value) (base : Heap) (x : Str) (st : Stmt) (ps : List Str) (T : Addr) : Prop :=
  ∃ f fd c, Fun K x x st f fd ∧ mg x = some (.ref f) ∧ Binds K fd ps [] ∧ fd.code = .ref c ∧ TabB base mg c T
/-- what a caller needs -/
def Cal (P : Program) (w : World) (K : PySem.W.Frag) (mg : Str → Option Value) (base : Heap) (CX : CXT) (k : Nat) (x : Str) (ps : List Str) (sp : Sp) : Prop :=
  ∃ f fd, FnG P w K mg base CX k f fd ps sp ∧ mg x = some (.ref f) ∧ PySem.W.keepIn K (.ref f) = true ∧ Binds K fd ps []
theorem Cal.mono {CX : CXT} {j k : Nat} {x : Str} {ps : List Str} {sp : Sp} (c : Cal P w K mg base CX j x ps sp) (h : j ≤ k) : Cal P w K mg base CX k x ps sp :=
  let ⟨f, fd, F, r⟩ := c; ⟨f, fd, F.mono h, r⟩
theorem Cal.imp {CX : CXT} {k : Nat} {x : Str} {ps : List Str} {sp sp' : Sp} (c : Cal P w K mg base CX k x ps sp) (h : ∀ vs H Q E, sp' vs H Q E → sp vs H Q E) : Cal P w K mg base CX k x ps sp' :=
  let ⟨f, fd, F, r⟩ := c; ⟨f, fd, F.imp h, r⟩
theorem DefAt.cal {x : Str} {st : Stmt} {N ps : List Str} {k : Nat} {sp : Sp} (D : DefAt K mg x st ps) (S : FnScope N ps (defScope st)) (len : ∀ vs H Q E, sp vs H Q E → vs.length = ps.length)
    (hbody : ∀ (f : Addr) (cdv : Value) (A : Around) (outer : List Env) (s : Shared) (H : Hp) (vs : List V) (Q : VK) (E : XK), RoomG k (A.deeper (envOfC x (defScope st) s.heap.objs.size f cdv)) → sp vs H Q E →
      ∃ t, PSs (cxOf CX0 P w K mg base N x (defScope st) f cdv A outer s H E).nox (defBody st) t ∧ t { nx := fun _ H' => Q .non H', rt := Q } (start N vs) H) : Cal P w K mg base CX0 (k + 1) x ps sp := by
  obtain ⟨f, fd, F, g, b⟩ := D
  exact ⟨f, fd, okG F S len (hbody f), g, F.kp, b⟩
theorem DefTab.cal {x : Str} {st : Stmt} {N ps : List Str} {k : Nat} {sp : Sp} {T : Addr} (D : DefTab K mg base x st ps T) (S : FnScope N ps (defScope st)) (len : ∀ vs H Q E, sp vs H Q E → vs.length = ps.length)
    (hbody : ∀ (f c : Addr) (A : Around) (outer : List Env) (s : Shared) (H : Hp) (vs : List V) (Q : VK) (E : XK), TabB base mg c T → RoomG k (A.deeper (envOfC x (defScope st) s.heap.objs.size f (.ref c))) → sp vs H Q E →
      ∃ t, PSs (cxOf CX0 P w K mg base N x (defScope st) f (.ref c) A outer s H E).nox (defBody st) t ∧ t { nx := fun _ H' => Q .non H', rt := Q } (start N vs) H) : Cal P w K mg base CX0 (k + 1) x ps sp := by
  obtain ⟨f, fd, c, F, g, b, e, TB⟩ := D
  exact ⟨f, fd, okGc F e S len (fun A outer s H vs Q E => hbody f c A outer s H vs Q E TB), g, F.kp, b⟩
end
section
variable {X : Cx} {k : Nat} {ps : List Str} {sp : Sp} {x : Str} {p pos : Pos} {e : Expr} {es : List Expr} {t : TA}
theorem pe_cal (C : Cal X.prog X.w X.K X.mg X.base CX0 k x ps sp) (hr : RoomG k X.A) (hg : Gl X x) (ha : PA X (e :: es) t) (hdb : (x == ("__debug__" : Str)) = false := by decide) (he : starEach (e :: es) X.env = (false, eval e X.env) :: starEach es X.env := by rfl) (hpl : (backTo pos (starEach es X.env)).any (·.1) = false := by rfl) :
    PE X (.Call (.Name x p) (e :: es) [] pos) (tCall sp [] E0 t) := by
  obtain ⟨f, fd, F, g, kp, b⟩ := C
  exact pe_callG F hr hg g kp b .nil pass0 ha hdb he hpl
theorem pe_cal0 (C : Cal X.prog X.w X.K X.mg X.base CX0 k x ps sp) (hr : RoomG k X.A) (hg : Gl X x) (hdb : (x == ("__debug__" : Str)) = false := by decide) : PE X (.Call (.Name x p) [] [] pos) (tCall sp [] E0 tNil) := by
  obtain ⟨f, fd, F, g, kp, b⟩ := C
  exact pe_call0G F hr hg g kp b .nil pass0 hdb
end
end Gd

/-! Readings of some expressions over data. -/
namespace Gd
open PySem PySem.Spec PyProof.Rows L2 GxR Gx

/-! ### isinstance -/
def tyName : PyData → String
  | .none => "NoneType"
  | .bool _ => "bool"
  | .int _ => "int"
  | .str _ => "str"
  | .list _ => "list"
  | .tuple _ => "tuple"
  | .dict _ => "dict"
def isStrD : PyData → Bool | .str _ => true | _ => false
def isTupD : PyData → Bool | .tuple _ => true | _ => false
def isIntD : PyData → Bool | .int _ => true | .bool _ => true | _ => false
def isBoolD : PyData → Bool | .bool _ => true | _ => false
theorem kit_str (d : PyData) : kitB (tyName d) "str" = some (isStrD d) := by
  cases d with
  | none => exact (by decide +kernel : kitB "NoneType" "str" = some false)
  | bool _ => exact (by decide +kernel : kitB "bool" "str" = some false)
  | int _ => exact (by decide +kernel : kitB "int" "str" = some false)
  | str _ => exact (by decide +kernel : kitB "str" "str" = some true)
  | list _ => exact (by decide +kernel : kitB "list" "str" = some false)
  | tuple _ => exact (by decide +kernel : kitB "tuple" "str" = some false)
  | dict _ => exact (by decide +kernel : kitB "dict" "str" = some false)
theorem kit_tup (d : PyData) : kitB (tyName d) "tuple" = some (isTupD d) := by
  cases d with
  | none => exact (by decide +kernel : kitB "NoneType" "tuple" = some false)
  | bool _ => exact (by decide +kernel : kitB "bool" "tuple" = some false)
  | int _ => exact (by decide +kernel : kitB "int" "tuple" = some false)
  | str _ => exact (by decide +kernel : kitB "str" "tuple" = some false)
  | list _ => exact (by decide +kernel : kitB "list" "tuple" = some false)
  | tuple _ => exact (by decide +kernel : kitB "tuple" "tuple" = some true)
  | dict _ => exact (by decide +kernel : kitB "dict" "tuple" = some false)
theorem kit_int (d : PyData) : kitB (tyName d) "int" = some (isIntD d) := by
  cases d with
  | none => exact (by decide +kernel : kitB "NoneType" "int" = some false)
  | bool _ => exact (by decide +kernel : kitB "bool" "int" = some true)
  | int _ => exact (by decide +kernel : kitB "int" "int" = some true)
  | str _ => exact (by decide +kernel : kitB "str" "int" = some false)
  | list _ => exact (by decide +kernel : kitB "list" "int" = some false)
  | tuple _ => exact (by decide +kernel : kitB "tuple" "int" = some false)
  | dict _ => exact (by decide +kernel : kitB "dict" "int" = some false)
theorem kit_bool (d : PyData) : kitB (tyName d) "bool" = some (isBoolD d) := by
  cases d with
  | none => exact (by decide +kernel : kitB "NoneType" "bool" = some false)
  | bool _ => exact (by decide +kernel : kitB "bool" "bool" = some true)
  | int _ => exact (by decide +kernel : kitB "int" "bool" = some false)
  | str _ => exact (by decide +kernel : kitB "str" "bool" = some false)
  | list _ => exact (by decide +kernel : kitB "list" "bool" = some false)
  | tuple _ => exact (by decide +kernel : kitB "tuple" "bool" = some false)
  | dict _ => exact (by decide +kernel : kitB "dict" "bool" = some false)
section
variable {K : PySem.W.Frag} {H : Hp} {v : V} {d : PyData} {Q : VK}
theorem Dt.ty (h : Dt K H v d) : TyX K H v (.type (tyName d)) := by
  cases h with
  | non => exact .base .non
  | bl b => exact .base (.bl b)
  | int i => exact .base (.int i)
  | str x => exact .base (.str x)
  | tup h hs =>
    rcases h with (h | ⟨o, h⟩) | ⟨o, its, n, h1, h2, _⟩
    · exact .base (.tup h)
    · exact .fTuple h
    · exact .kTuple h1 h2
theorem isi_q {T : String} {b : Bool} (h : Dt K H v d) (hb : kitB (tyName d) T = some b) (q : Q (.bl b) H) : rIsi K [v, .ty T] H Q := ⟨v, .ty T, _, _, b, rfl, .ty T, h.ty, kit_ty hb, q⟩
end

/-! ### all(test for c in text), the test changes nothing -/
theorem nil_slots {σ2 : L2.St} : ∀ (j : Nat) (v : V), (none :: capV ([] : L2.St) [] : L2.St)[j]? = some (some v) → σ2[j]? = some (some v) := fun j v h => by
  cases j with
  | zero => cases h
  | succ j => simp [capV] at h
theorem all_take {p : Nat → Bool} {l : List Nat} {i c : Nat} (hc : l[i]? = some c) (h : (l.take i).all p = true) : (l.take (i + 1)).all p = p c := by
  rw [List.take_add_one, hc, List.all_append, h, Bool.true_and]
  simp
theorem all_mid {p : Nat → Bool} {l : List Nat} {i c : Nat} (hc : l[i]? = some c) (h : p c = false) : l.all p = false := by
  rw [List.all_eq_false]
  exact ⟨c, List.mem_of_getElem? hc, by rw [h]; exact Bool.false_ne_true⟩
theorem all_str {T : Addr} {x : Str} {te : TE} {p : Nat → Bool} {H1 : Hp} {Q : VK} {σ : L2.St} (hT : TabG H1 T)
    (ht : ∀ c ∈ x.cps.toList, ∀ (H : Hp) (Q' : VK), Q' (.bl (p c)) H → te [some (.str ⟨#[c]⟩)] H Q') (q : ∀ H2, Tabbed T H1 H2 → Q (.bl (x.cps.toList.all p)) H2) :
    TabG H1 T ∧ ∀ H2, Tabbed T H1 H2 → ∃ W : Nat → Nat → Hp → Prop, (∃ m, W 0 m H2) ∧ ∀ i m H, W i m H → ((Its x).stop i H ∧ Q (.bl true) H) ∨
      ((Its x).go i H ∧ ∃ Nx : Hp → Prop, (∀ H', Nx H' → ∃ m', m' < m ∧ W (i + 1) m' H') ∧ ∀ y H', (Its x).yld i H y H' → gName 0 y (none :: capV σ []) H' fun σ2 H3 =>
        (∀ (j : Nat) v, (none :: capV σ [] : L2.St)[j]? = some (some v) → σ2[j]? = some (some v)) ∧ te σ2 H3 fun y H5 => ∃ c, y = .bl c ∧ if c = true then Nx H5 else Q (.bl false) H5) := by
  refine ⟨hT, fun H2 h2 => ⟨fun i m H => H = H2 ∧ m = x.cps.size - i ∧ i ≤ x.cps.size ∧ (x.cps.toList.take i).all p = true, ⟨_, rfl, rfl, Nat.zero_le _, by simp⟩, ?_⟩⟩
  rintro i m H ⟨rfl, rfl, hi, ha⟩
  by_cases hl : i < x.cps.size
  · refine .inr ⟨hl, fun H' => H' = H ∧ (x.cps.toList.take (i + 1)).all p = true, fun H' ⟨e, a⟩ => ⟨x.cps.size - (i + 1), by omega, e, rfl, hl, a⟩, fun y H' hy => ?_⟩
    obtain ⟨rfl, c, hc, rfl⟩ := hy
    have hc' : x.cps.toList[i]? = some c := by rw [Array.getElem?_toList]; exact hc
    refine ⟨nil_slots, ht c (List.mem_of_getElem? hc') _ _ ⟨p c, rfl, ?_⟩⟩
    cases e : p c with
    | true =>
      rw [if_pos rfl]
      exact ⟨rfl, by rw [all_take hc' ha, e]⟩
    | false =>
      rw [if_neg Bool.false_ne_true, ← all_mid (p := p) hc' e]
      exact q _ h2
  · have e : i = x.cps.size := by omega
    subst e
    refine .inl ⟨Nat.le_refl _, ?_⟩
    have e2 : x.cps.toList.take x.cps.size = x.cps.toList := by
      rw [← Array.length_toList]
      exact List.take_length
    rw [e2] at ha
    rw [← ha]
    exact q _ h2
end Gd
namespace Gd
open PySem PySem.Spec PyProof.Rows L2 GxR Gx
/-- data of small texts, no deeper than n -/
def okN : Nat → PyData → Bool
  | _, .none => true
  | _, .bool _ => true
  | _, .int i => decide (i.natAbs.log2 < 1920)
  | _, .str x => decide (x.length ≤ 1000) && PyData.strOk x
  | n + 1, .tuple ds => decide (ds.length ≤ 1000) && ds.all (okN n)
  | _, _ => false
def OkD (d : PyData) : Prop := ∃ n, n ≤ 60 ∧ okN n d = true
theorem okN_int {n : Nat} {i : Int} (h : okN n (.int i) = true) : i.natAbs.log2 < 1920 := by
  cases n <;> exact of_decide_eq_true h
theorem okN_str {n : Nat} {x : Str} (h : okN n (.str x) = true) : x.length ≤ 1000 ∧ PyData.strOk x = true := by
  have h2 : (decide (x.length ≤ 1000) && PyData.strOk x) = true := by cases n <;> exact h
  rw [Bool.and_eq_true] at h2
  exact ⟨of_decide_eq_true h2.1, h2.2⟩
theorem okN_tup {n : Nat} {ds : List PyData} (h : okN n (.tuple ds) = true) : ∃ m, n = m + 1 ∧ ds.length ≤ 1000 ∧ ∀ d ∈ ds, okN m d = true := by
  cases n with
  | zero => cases h
  | succ m =>
    have h2 : (decide (ds.length ≤ 1000) && ds.all (okN m)) = true := h
    rw [Bool.and_eq_true, List.all_eq_true] at h2
    exact ⟨m, rfl, of_decide_eq_true h2.1, h2.2⟩
theorem OkD.str {x : Str} (h : OkD (.str x)) : x.length ≤ 1000 := let ⟨_, _, h⟩ := h; (okN_str h).1
theorem OkD.len {ds : List PyData} (h : OkD (.tuple ds)) : ds.length ≤ 1000 := by
  obtain ⟨_, _, h⟩ := h
  obtain ⟨m, _, h2, _⟩ := okN_tup h
  exact h2
theorem OkD.child {ds : List PyData} (h : OkD (.tuple ds)) {d : PyData} (hd : d ∈ ds) : OkD d := by
  obtain ⟨n, hn, h⟩ := h
  obtain ⟨m, rfl, _, h3⟩ := okN_tup h
  exact ⟨m, by omega, h3 d hd⟩
mutual
theorem okN_lay : ∀ (d : PyData) {n : Nat}, okN n d = true → d.canLay0 = true ∧ d.depth ≤ n
  | .none, n, _ => ⟨by simp only [PyData.canLay0], by simp only [PyData.depth]; omega⟩
  | .bool _, n, _ => ⟨by simp only [PyData.canLay0], by simp only [PyData.depth]; omega⟩
  | .int _, n, _ => ⟨by simp only [PyData.canLay0], by simp only [PyData.depth]; omega⟩
  | .str x, n, h => ⟨by simp only [PyData.canLay0]; exact (okN_str h).2, by simp only [PyData.depth]; omega⟩
  | .list xs, n, h => by cases n <;> cases h
  | .dict xs, n, h => by cases n <;> cases h
  | .tuple ds, n, h => by
    obtain ⟨m, e, _, h3⟩ := okN_tup h
    have q := okN_layAll ds h3
    simp only [PyData.canLay0, PyData.depth]
    exact ⟨q.1, by have := q.2; omega⟩
theorem okN_layAll : ∀ (ds : List PyData) {n : Nat}, (∀ d ∈ ds, okN n d = true) → PyData.canLayAll0 ds = true ∧ PyData.depthAll ds ≤ n
  | [], n, _ => ⟨by simp only [PyData.canLayAll0], by simp only [PyData.depthAll]; omega⟩
  | d :: ds, n, h => by
    have q := okN_lay d (h d List.mem_cons_self)
    have r := okN_layAll ds fun e he => h e (List.mem_cons_of_mem _ he)
    simp only [PyData.canLayAll0, PyData.depthAll, q.1, r.1, Bool.and_true]
    exact ⟨trivial, Nat.max_le.mpr ⟨q.2, r.2⟩⟩
end
theorem OkD.shaped {d : PyData} (h : OkD d) : SeqAt.shaped d = true := by
  obtain ⟨n, hn, h⟩ := h
  have q := okN_lay d h
  unfold SeqAt.shaped
  rw [q.1, Bool.true_and, decide_eq_true_eq]
  omega
theorem OkD.of {d : PyData} (h : okN 8 d = true) : OkD d := ⟨8, by decide, h⟩
theorem line1000 {n : Nat} (h : n ≤ 1000) : n ≤ sizeLine := Nat.le_of_lt (small1000 h)
/-- a test of one datum -/
def spData (K : PySem.W.Frag) (ts : List Addr) (p : PyData → Bool) : Sp := fun vs H Q _ => ∃ v d, vs = [v] ∧ Dt K H v d ∧ OkD d ∧ (∀ T ∈ ts, TabG H T) ∧ ∀ H', Kp H H' → Q (.bl (p d)) H'
end Gd
namespace Gd
open PySem PySem.Spec PyProof.Rows L2 GxR Gx
/-- a generator expression's scope without captured names -/
def genC (scope : Scope) (x : Str) : Bool := decide (scope.kind = .function) && !scope.isCoroutine && (scope.names.all fun y => !decide (y.2 = NameKind.cell) && !decide (y.2 = NameKind.free)) && decide (scope.names.lookup (".0" : Str) = some NameKind.local) && decide (scope.names.lookup x = some NameKind.local)
theorem genS_by {env : Env} {scope : Scope} {x : Str} (h : genC scope x = true) : GenS env scope x := by
  unfold genC at h
  simp only [Bool.and_eq_true, decide_eq_true_eq, Bool.not_eq_true', List.all_eq_true, decide_eq_false_iff_not] at h
  obtain ⟨⟨⟨⟨h1, h2⟩, h3⟩, h4⟩, h5⟩ := h
  exact ⟨h1, h2, fun y hy => (h3 y hy).1, h4, h5, fun y hy e => absurd e (h3 y hy).2⟩
theorem nd1 (x : Str) : (x :: capN []).Nodup := by simp [capN]
end Gd

/-! {elt for tg in iter}, its members ints or texts; len of it. -/
namespace Gd
open PySem PySem.Spec PyProof.Rows L2 GxR Gx

abbrev noKeys : Key → Bool := fun _ => false
abbrev addKey (S : Key → Bool) (k : Key) : Key → Bool := fun j => S j || decide (j = k)
theorem setK_fresh {P : Program} {w : World} {h : Heap} : (h.push { cls := .type "set", dict := none, data := .set #[] 0 (.fresh 0 0 (!w.params.followText "set-order")) }).SetOf (mixKind P w) h.objs.size noKeys 0 :=
  ⟨_, #[], 0, _, Heap.get?_push_size _ rfl, ⟨rfl, rfl, rfl⟩, rfl, (fun e he => by simp at he), (fun k => by simp), (by decide), (by rfl), rfl⟩
section
variable {X : Cx}
theorem addK_ok {pins : List (Addr × Obj)} {σ : L2.St} {H : Hp} {s : Shared} {E : Value → Shared → Prop} {D : Addr} {S : Key → Bool} {n : Nat} {k : Key} {u : Value} {Q : Value → Shared → Prop} (I : Inv X pins σ H s) (hD : H D = some (SetK X.prog X.w D S n)) (room : n + 1 < scanBound) (r : RelV (kV k) u)
    (h : ∀ s', Inv X pins σ (upd H D (SetK X.prog X.w D (addKey S k) (if S k = true then n else n + 1))) s' → Q .none s') : wpAny (model X.prog X.w) X.A (call (.builtin "set.add") [.ref D, u]) Q E s := by
  refine call_set_add (kV_is r) (key_scan r) (setK_get I hD) room fun h' sb new => ?_
  obtain ⟨ob, _, _, _, ho, _⟩ := id new
  exact h _ (I.write (e := D) (t' := s.toks + 1) (by rw [hD]; trivial) (.inl rfl) (fun b o hb q => (sb.2 b hb).trans q) ⟨ob, ho⟩ (setK_new new))

/-- the reading: D the new set; W by the turn and a measure -/
def tScK (P : Program) (w : World) (wi : TI) (g : TG) (te : TE) (vs : List Nat) : TE := fun σ H Q => wi σ H fun J H1 => ∀ D, H1 D = none → ∃ W : Nat → Nat → Hp → Prop, (∃ m, W 0 m (upd H1 D (SetK P w D noKeys 0))) ∧ ∀ i m H, W i m H →
  (J.stop i H ∧ Q (.ref D) H) ∨ (J.go i H ∧ ∃ Nx : Hp → Prop, (∀ H', Nx H' → ∃ m', m' < m ∧ W (i + 1) m' H') ∧ ∀ x H', J.yld i H x H' → g x (wipe σ vs) H' fun σ2 H2 => wipe σ2 vs = wipe σ vs ∧ te σ2 H2 fun y H4 =>
    ∃ (k : Key) (S : Key → Bool) (n : Nat), y = kV k ∧ H4 D = some (SetK P w D S n) ∧ n + 1 < scanBound ∧ Nx (upd H4 D (SetK P w D (addKey S k) (if S k = true then n else n + 1))))

theorem pe_scK {elt tg iter : Expr} {scope : Scope} {own : List (PySem.Str × Nat)} {pos : Pos} {wi : TI} {g : TG} {te : TE} (hc : X.calm = true) (hN : X.N.Nodup) (hi : PI X tg iter wi) (ok : BlkOk X.N X.env.scope scope own)
    (hg : ∀ (s : Shared) (H : Hp) (C : Addr) (cl : List (PySem.Str × Addr)) (fp : List Addr), PG (X.blk s H scope (compEnvC scope cl C X.env) fp) tg g) (_ : ∀ (s : Shared) (H : Hp) (C : Addr) (cl : List (PySem.Str × Addr)) (fp : List Addr), PTs (X.blk s H scope (compEnvC scope cl C X.env) fp) [] tYes)
    (he : ∀ (s : Shared) (H : Hp) (C : Addr) (cl : List (PySem.Str × Addr)) (fp : List Addr), PE (X.blk s H scope (compEnvC scope cl C X.env) fp) elt te) (hs : ∀ x, foldedSetIterable iter X.env x = pure x := by intro _; rfl) :
    PE X (.SetComp elt [⟨tg, iter, [], 0⟩] scope pos) (tScK X.prog X.w wi g te (own.map (·.2))) := by
  refine ⟨fun pins s σ H Q I h => ?_⟩
  rw [PpSet.eval_SetComp]
  have free : ∀ y ∈ scope.names, y.2 = .free → ∃ c, X.env.cells.lookup y.1 = some c := fun y hy e => (ok.free y hy e).elim (fun k => I.ok.has _ (.inl k)) fun k => I.ok.has _ (.inr k)
  refine wpAny_comprehension_free (use := none) rfl hs (closure_ok free) ok.kind (fun y hy e => by rw [ok.uniq y hy, e]) (thn (hi.run pins s σ H _ I h) fun xv s1 hx => thn hx fun itv s2 h2 => ?_)
  obtain ⟨it, fp, tn, J, H2, rfl, I2, T, st2, f2, q⟩ := h2
  refine PpSet.newSet_ok (newEnv_comp ?_)
  obtain ⟨W, ⟨m0, w0⟩, turn⟩ := q s2.heap.objs.size (I2.hok.fresh (Nat.le_refl _))
  -- the set
  let so : Obj := { cls := .type "set", dict := none, data := .set #[] 0 (.fresh 0 0 (!X.w.params.followText "set-order")) }
  let H3 : Hp := upd H2 s2.heap.objs.size (SetK X.prog X.w s2.heap.objs.size noKeys 0)
  let s3 : Shared := { s2 with heap := s2.heap.push so }
  have I3 : Inv X pins σ H3 s3 := I2.laid (t' := s2.toks) (fun b o e => Heap.get?_push_of_some _ e) (Nat.le_refl _) (setK_new setK_fresh)
  have f3 : ∀ b ∈ fp, FpOk X pins H3 b ∧ b < s3.heap.objs.size := fun b hb => by
    obtain ⟨o, e, _⟩ := T.obj _ _ st2 b hb
    have lt := Heap.lt_size e
    exact ⟨⟨by show upd _ _ _ b = none; rw [upd_ne (Nat.ne_of_lt lt)]; exact (f2 b hb).1, (f2 b hb).2⟩, by show b < (s2.heap.push so).objs.size; rw [Heap.size_push]; exact Nat.lt_succ_of_lt lt⟩
  have st3 : tn 0 s3.heap := T.keep _ _ _ st2 fun b _ o e => Heap.get?_push_of_some _ e
  -- the block
  have I4 := block_start I3 ok hN f3
  have pg := hg s3 H3 s3.heap.objs.size (cellsFrom (s3.heap.objs.size + 1) scope.names (cloFrom X.env.cells scope.names [])) fp
  have pe := he s3 H3 s3.heap.objs.size (cellsFrom (s3.heap.objs.size + 1) scope.names (cloFrom X.env.cells scope.names [])) fp
  let ce : Env := compEnvC scope (cellsFrom (s3.heap.objs.size + 1) scope.names (cloFrom X.env.cells scope.names [])) s3.heap.objs.size X.env
  let s4 : Shared := { s3 with heap := pushCells (s3.heap.push { cls := .type "dict", data := .dict #[] }) scope.names }
  have I4 : Inv (X.blk s3 H3 scope ce fp) [] (wipe σ (own.map (·.2))) H3 s4 := I4
  have st4 : tn 0 s4.heap := T.keep _ _ _ st3 fun b _ o e => pushCells_keeps _ _ _ _ (Heap.get?_push_of_some _ e)
  have stat : ∀ {σ' : L2.St} {H' : Hp} {s' : Shared}, Inv (X.blk s3 H3 scope ce fp) [] σ' H' s' → (∀ b ∈ fp, H' b = none) → ∀ b ∈ fp, FpOk (X.blk s3 H3 scope ce fp) [] H' b := fun {σ' H' s'} J' hn b hb =>
    ⟨hn b hb, (J'.ok.exf b hb).1, J'.ok.exfs b hb, .inl hb, fun x c e => (J'.ok.exf b hb).2 x c e, fun p hp => absurd (show p ∈ ([] : List (Addr × Obj)) ++ [] from hp) (by simp)⟩
  show codeAny _ _ (.compStart (.SetComp elt [⟨tg, iter, [], 0⟩] scope pos) 0 (.ref it) (.ref s2.heap.objs.size) ce) (compPost (model X.prog X.w) X.A X.xe none (EP X pins σ Q) (.ref s2.heap.objs.size) s3.heap.objs.size) s4
  refine PpSet.codeAny_compStart_set ?loop (T.self X.A 0 _ _ _ st4 ?loop)
  refine PpSet.compLoopS_any (fun n s' => ∃ i H', Inv (X.blk s3 H3 scope ce fp) [] (wipe σ (own.map (·.2))) H' s' ∧ tn i s'.heap ∧ (∀ b ∈ fp, H' b = none) ∧ W i n H') ?_ m0 ⟨0, H3, I4, st4, fun b hb => (f3 b hb).1.1, w0⟩
  rintro n s5 ⟨i, H5, I5, st5, n5, w5⟩
  rcases turn i n H5 w5 with ⟨stop, qq⟩ | ⟨go, Nx, hNx, step⟩
  · refine thnF (T.done (X.blk s3 H3 scope ce fp) rfl rfl rfl hc i [] s5 _ H5 (fun _ _ => False) I5 (stat I5 n5) st5 stop) fun r s6 ⟨hr, I6⟩ => ?_
    subst hr
    have I7 : Inv X pins σ H5 s6 := I3.call' (ch := fp) I6.os I6.base I6.hok I6.bare fun b hb => ⟨(f3 b hb).1.2.2.2.1, (f3 b hb).1.2.1, (f3 b hb).1.2.2.2.2.1, (f3 b hb).1.2.2.2.2.2⟩
    have fC := I3.fpOk (H' := H5) (Nat.le_refl _) (show H5 s3.heap.objs.size = none from I6.free)
    obtain ⟨m, hn, _⟩ := I6.loc
    refine ⟨m, hn, fun h'' sb => ?_⟩
    obtain ⟨f0, f1, _, f3', f4', f5'⟩ := fC
    exact ⟨.ref _, H5, I7.turned (t' := s6.toks) (fun b o hb e => (sb.2 b hb).trans e) f0 f1 f3' f4' f5', rfl, qq⟩
  · refine thnF (T.item (X.blk s3 H3 scope ce fp) rfl rfl rfl hc i [] s5 _ H5 (fun _ _ => False) I5 (stat I5 n5) st5 go) fun r s6 ⟨u, hr, h6⟩ => ?_
    subst hr
    refine thnF h6 fun _ s7 ⟨x, H7, I7, r7, y7, st7, n7⟩ => ?_
    refine thnF (pg.run _ s7 _ H7 x u _ (I7.pinned (stat I7 n7) (T.obj _ _ st7)) r7 (step x H7 y7)) fun _ s8 ⟨σ8, H8, I8, hw8, q8⟩ => ?_
    refine wpAny_tests_nil ?_
    simp only [if_true]
    refine thnF (pe.run _ s8 σ8 H8 _ I8 q8) fun z s9 ⟨yv, H9, I9, r9, k, S0, n0, ey, hD9, room, nx⟩ => ?_
    subst ey
    refine addK_ok (X := X.blk s3 H3 scope ce fp) I9 hD9 room r9 fun s10 I10 => ?_
    obtain ⟨m', hm, w'⟩ := hNx _ nx
    have still : ∀ b ∈ fp, ∀ o, s7.heap.get? b = some o → s10.heap.get? b = some o ∧ _ = none := fun b hb o e =>
      let z := I10.pin (b, o) (List.mem_append_right _ (List.mem_append_right _ (mem_pinsAt hb e)))
      ⟨z.1, z.2.1⟩
    refine ⟨m', hm, i + 1, _, (I10.unpinned (pins := [])).weak (show (wipe σ (own.map (·.2))).length = σ8.length by rw [← hw8, wipe_length]) (fun j v e => ?_), T.keep _ _ _ st7 fun b hb o e => (still b hb o e).1, fun b hb => ?_, w'⟩
    · rw [← hw8] at e
      exact (wipe_some e).1
    · obtain ⟨o, e, _⟩ := T.obj _ _ st7 b hb
      exact (still b hb o e).2

/-- len of a set of keys -/
def rLenK (P : Program) (w : World) : List V → Hp → VK → Prop := fun xs H Q => ∃ (a : Addr) (S : Key → Bool) (n : Nat), xs = [.ref a] ∧ H a = some (SetK P w a S n) ∧ Q (.int n) H
theorem call_lenK : CallR X (.builtin "len") (rLenK X.prog X.w) := by
  intro pins s σ H xs us Q I r h
  obtain ⟨a, S, n, rfl, ha, q⟩ := h
  obtain ⟨u, rfl, ru⟩ := vals1 r
  cases ru
  obtain ⟨o, es, ep, t, ho, hx, hd, he, hm, hb, hf, hn⟩ := setK_get I ha
  have h4 : scanBound = 4096 := rfl
  exact call_len_set ho hx hd hf (by omega) ⟨.int n, H, I.tok _, ⟨_, by rw [hn]⟩, q⟩

/-! ### the members of a row: as many as there are different ones -/
theorem snoc_ind {α : Type} {p : List α → Prop} (h0 : p []) (h1 : ∀ l a, p l → p (l ++ [a])) (l : List α) : p l := by
  have h : ∀ r : List α, p r.reverse := fun r => by
    induction r with
    | nil => exact h0
    | cons a r ih =>
      rw [List.reverse_cons]
      exact h1 _ _ ih
  have q := h l.reverse
  rw [List.reverse_reverse] at q
  exact q
/-- what a walk over keys leaves -/
def keysOf (ks : List Key) : (Key → Bool) × Nat := ks.foldl (fun p k => (addKey p.1 k, if p.1 k = true then p.2 else p.2 + 1)) (noKeys, 0)
theorem keysOf_snoc (ks : List Key) (k : Key) : keysOf (ks ++ [k]) = (addKey (keysOf ks).1 k, if (keysOf ks).1 k = true then (keysOf ks).2 else (keysOf ks).2 + 1) := by
  unfold keysOf
  rw [List.foldl_append]
  rfl
theorem keysOf_mem (ks : List Key) (j : Key) : (keysOf ks).1 j = true ↔ j ∈ ks := by
  refine snoc_ind (p := fun ks => (keysOf ks).1 j = true ↔ j ∈ ks) (by simp [keysOf]) (fun ks k ih => ?_) ks
  · rw [keysOf_snoc]
    show (_ || _) = true ↔ _
    rw [Bool.or_eq_true, decide_eq_true_eq, ih]
    simp
theorem keysOf_le (ks : List Key) : (keysOf ks).2 ≤ ks.length := by
  refine snoc_ind (p := fun ks => (keysOf ks).2 ≤ ks.length) (by simp [keysOf]) (fun ks k ih => ?_) ks
  · rw [keysOf_snoc, List.length_append, List.length_singleton]
    show (if (keysOf ks).1 k = true then (keysOf ks).2 else (keysOf ks).2 + 1) ≤ ks.length + 1
    have ih : (keysOf ks).2 ≤ ks.length := ih
    split <;> omega
theorem keysOf_all (ks : List Key) : (keysOf ks).2 = ks.length ↔ ks.Nodup := by
  refine snoc_ind (p := fun ks => (keysOf ks).2 = ks.length ↔ ks.Nodup) (by simp [keysOf]) (fun ks k ih => ?_) ks
  · have hle := keysOf_le ks
    rw [keysOf_snoc, List.length_append, List.length_singleton, List.nodup_append]
    show (if (keysOf ks).1 k = true then (keysOf ks).2 else (keysOf ks).2 + 1) = ks.length + 1 ↔ _
    have ih : (keysOf ks).2 = ks.length ↔ ks.Nodup := ih
    by_cases h : (keysOf ks).1 k = true
    · rw [if_pos h]
      have hm := (keysOf_mem ks k).mp h
      constructor
      · intro e
        omega
      · intro n
        exact absurd rfl (n.2.2 k hm k (List.mem_singleton.mpr rfl))
    · rw [if_neg h]
      have hm : k ∉ ks := fun z => h ((keysOf_mem ks k).mpr z)
      constructor
      · intro e
        refine ⟨ih.mp (by omega), by simp, fun a ha b hb => ?_⟩
        rw [List.mem_singleton.mp hb]
        exact fun z => hm (z ▸ ha)
      · intro n
        have := ih.mpr n.1
        omega
end
end Gd

/-! Walks over tuples of data. -/
namespace Gd
open PySem PySem.Spec PyProof.Rows L2 GxR Gx
section
variable {K : PySem.W.Frag}
theorem all_takeD {p : PyData → Bool} {l : List PyData} {i : Nat} {d : PyData} (hd : l[i]? = some d) (h : (l.take i).all p = true) : (l.take (i + 1)).all p = p d := by
  rw [List.take_add_one, hd, List.all_append, h, Bool.true_and]
  simp
theorem all_midD {p : PyData → Bool} {l : List PyData} {i : Nat} {d : PyData} (hd : l[i]? = some d) (h : p d = false) : l.all p = false := by
  rw [List.all_eq_false]
  exact ⟨d, List.mem_of_getElem? hd, by rw [h]; exact Bool.false_ne_true⟩
/-- all(test for x in tuple) -/
theorem all_tup {T a : Addr} {xs : List V} {ds : List PyData} {te : TE} {p : PyData → Bool} {H1 : Hp} {Q : VK} {σ : L2.St} (hT : TabG H1 T) (h : SqT K H1 a xs) (hs : DtAll K H1 xs ds)
    (ht : ∀ (v : V) (d : PyData) (H : Hp) (Q' : VK), d ∈ ds → Dt K H v d → Kp H1 H → (∀ H', Kp H H' → Q' (.bl (p d)) H') → te [some v] H Q') (q : ∀ H', Kp H1 H' → Q (.bl (ds.all p)) H') :
    TabG H1 T ∧ ∀ H2, Tabbed T H1 H2 → ∃ W : Nat → Nat → Hp → Prop, (∃ m, W 0 m H2) ∧ ∀ i m H, W i m H → ((Itt K a).stop i H ∧ Q (.bl true) H) ∨
      ((Itt K a).go i H ∧ ∃ Nx : Hp → Prop, (∀ H', Nx H' → ∃ m', m' < m ∧ W (i + 1) m' H') ∧ ∀ y H', (Itt K a).yld i H y H' → gName 0 y (none :: capV σ []) H' fun σ2 H3 =>
        (∀ (j : Nat) v, (none :: capV σ [] : L2.St)[j]? = some (some v) → σ2[j]? = some (some v)) ∧ te σ2 H3 fun y H5 => ∃ c, y = .bl c ∧ if c = true then Nx H5 else Q (.bl false) H5) := by
  refine ⟨hT, fun H2 h2 => ⟨fun i m H => Kp H1 H ∧ m = xs.length - i ∧ i ≤ xs.length ∧ (ds.take i).all p = true, ⟨_, Kb.tabbed h2 hT, rfl, Nat.zero_le _, by simp⟩, ?_⟩⟩
  rintro i m H ⟨k, rfl, hi, ha⟩
  have hq := k.sqT Lsts.nil h
  have hds := DtAll.kb k Lsts.nil hs
  by_cases hl : i < xs.length
  · obtain ⟨v, hv⟩ : ∃ v, xs[i]? = some v := ⟨xs[i], List.getElem?_eq_getElem hl⟩
    obtain ⟨d, hd, hvd⟩ := hds.get hv
    refine .inr ⟨⟨xs, v, hq, hv⟩, fun H' => Kp H1 H' ∧ (ds.take (i + 1)).all p = true, fun H' ⟨e, a⟩ => ⟨xs.length - (i + 1), by omega, e, rfl, hl, a⟩, fun y H' hy => ?_⟩
    obtain ⟨rfl, hy⟩ := hy
    have ey : v = y := Option.some.inj (hv.symm.trans (hy xs hq))
    subst ey
    refine ⟨nil_slots, ht v d _ _ (List.mem_of_getElem? hd) hvd k fun H5 k5 => ⟨p d, rfl, ?_⟩⟩
    cases e : p d with
    | true =>
      rw [if_pos rfl]
      exact ⟨k.trans k5, by rw [all_takeD hd ha, e]⟩
    | false =>
      rw [if_neg Bool.false_ne_true, ← all_midD (p := p) hd e]
      exact q _ (k.trans k5)
  · have e : i = xs.length := by omega
    subst e
    refine .inl ⟨⟨xs, hq, Nat.le_refl _⟩, ?_⟩
    have e2 : ds.take xs.length = ds := by
      rw [hs.length]
      exact List.take_length
    rw [e2] at ha
    rw [← ha]
    exact q _ k
/-- {e for x in tuple}, each member known -/
theorem scK_tup {P : Program} {w : World} {a : Addr} {xs : List V} {ks : List Key} {te : TE} {H1 : Hp} {Q : VK} {σ : L2.St} {j : Nat} (h : SqT K H1 a xs) (hl : ks.length = xs.length) (hn : xs.length ≤ 1000) (hj : j < σ.length)
    (ht : ∀ (i : Nat) (v : V) (k : Key) (H : Hp) (Q' : VK), xs[i]? = some v → ks[i]? = some k → Kp H1 H → Q' (kV k) H → te ((wipe σ [j]).set j (some v)) H Q')
    (q : ∀ D H', H1 D = none → Kp H1 H' → H' D = some (SetK P w D (keysOf ks).1 (keysOf ks).2) → Q (.ref D) H') :
    ∀ D, H1 D = none → ∃ W : Nat → Nat → Hp → Prop, (∃ m, W 0 m (upd H1 D (SetK P w D noKeys 0))) ∧ ∀ i m H, W i m H →
      ((Itt K a).stop i H ∧ Q (.ref D) H) ∨ ((Itt K a).go i H ∧ ∃ Nx : Hp → Prop, (∀ H', Nx H' → ∃ m', m' < m ∧ W (i + 1) m' H') ∧ ∀ x H', (Itt K a).yld i H x H' → gName j x (wipe σ [j]) H' fun σ2 H2 => wipe σ2 [j] = wipe σ [j] ∧ te σ2 H2 fun y H4 =>
        ∃ (k : Key) (S : Key → Bool) (n : Nat), y = kV k ∧ H4 D = some (SetK P w D S n) ∧ n + 1 < scanBound ∧ Nx (upd H4 D (SetK P w D (addKey S k) (if S k = true then n else n + 1)))) := by
  intro D hD
  refine ⟨fun i m H => m = xs.length - i ∧ i ≤ xs.length ∧ Kp H1 H ∧ H D = some (SetK P w D (keysOf (ks.take i)).1 (keysOf (ks.take i)).2), ⟨_, rfl, Nat.zero_le _, Kb.new hD, upd_same⟩, ?_⟩
  rintro i m H ⟨rfl, hi, k, hs⟩
  have hq := k.sqT Lsts.nil h
  by_cases hl2 : i < xs.length
  · obtain ⟨v, hv⟩ : ∃ v, xs[i]? = some v := ⟨xs[i], List.getElem?_eq_getElem hl2⟩
    obtain ⟨ky, hk⟩ : ∃ y, ks[i]? = some y := ⟨ks[i], List.getElem?_eq_getElem (by omega)⟩
    refine .inr ⟨⟨xs, v, hq, hv⟩, fun H' => Kp H1 H' ∧ H' D = some (SetK P w D (keysOf (ks.take (i + 1))).1 (keysOf (ks.take (i + 1))).2), fun H' ⟨a, b⟩ => ⟨xs.length - (i + 1), by omega, rfl, hl2, a, b⟩, fun x H' hy => ?_⟩
    obtain ⟨rfl, hy⟩ := hy
    have ey : v = x := Option.some.inj (hv.symm.trans (hy xs hq))
    subst ey
    refine ⟨?_, ht i v ky _ _ hv hk k ⟨ky, _, _, rfl, hs, ?_, ?_, ?_⟩⟩
    · show ((wipe σ [j]).set j (some v)).set j none = wipe σ [j]
      unfold wipe wipe
      rw [List.set_set, List.set_set]
    · have h1 := keysOf_le (ks.take i)
      rw [List.length_take] at h1
      show _ + 1 < 4096
      omega
    · exact k.mut hD (no_tab hs nt_ext)
    · rw [upd_same, List.take_add_one, hk]
      show some (SetK P w D _ _) = some (SetK P w D (keysOf (ks.take i ++ [ky])).1 (keysOf (ks.take i ++ [ky])).2)
      rw [keysOf_snoc]
  · have e : i = xs.length := by omega
    subst e
    refine .inl ⟨⟨xs, hq, Nat.le_refl _⟩, q D H hD k ?_⟩
    rw [← hl, List.take_length] at hs
    exact hs
end
end Gd
namespace Gd
open PySem PySem.Spec PyProof.Rows L2 GxR Gx
/-! ### rules whose reading names the written part by a letter, for the blocks of comprehensions -/
section
variable {X : Cx} {K : PySem.W.Frag}
theorem ix_tupK (h : X.K = K) : IxR X (rIxT K) := h ▸ ix_tup
theorem ix_listK (h : X.K = K) : IxR X (rIxL K) := h ▸ ix_list
theorem call_isiL (h : X.K = K) : CallR X (.builtin "isinstance") (rIsi K) := h ▸ call_isi
theorem call_len_seqK (h : X.K = K) : CallR X (.builtin "len") (fun xs H Q => ∃ p ys, xs = [.ref p] ∧ (SqL K H p ys ∨ SqT K H p ys) ∧ Q (.int ys.length) H) := h ▸ call_len_seq
theorem op_eqDK (h : X.K = K) (hu : X.A.units + 64 < cLine) : OpR X (compareOp .Eq) (rEqD K) := h ▸ op_eqD hu
theorem op_neDK (h : X.K = K) (hu : X.A.units + 64 < cLine) : OpR X (compareOp .NotEq) (rNeD K) := h ▸ op_neD hu
end
end Gd
namespace Gd
open PySem PySem.Spec PyProof.Rows L2 GxR Gx
section
variable {K : PySem.W.Frag} {T : Addr} {te : TE} {H : Hp} {Q : VK} {σ : L2.St} {i : Nat}
theorem rd_all_str {x : Str} {p : Nat → Bool} (hx : σ[i]? = some (some (.str x))) (hT : TabG H T)
    (ht : ∀ c ∈ x.cps.toList, ∀ (H : Hp) (Q' : VK), Q' (.bl (p c)) H → te [some (.str ⟨#[c]⟩)] H Q') (q : ∀ H2, Kp H H2 → Q (.bl (x.cps.toList.all p)) H2) : tAllG T (iStr (tVar i)) (gName 0) te [] σ H Q :=
  ⟨.str x, hx, x, rfl, all_str (p := p) hT ht fun H2 h2 => q H2 (Kb.tabbed h2 hT)⟩
theorem rd_all_tup {a : Addr} {xs : List V} {ds : List PyData} {p : PyData → Bool} (hx : σ[i]? = some (some (.ref a))) (hT : TabG H T) (h : SqT K H a xs) (hs : DtAll K H xs ds)
    (ht : ∀ (v : V) (d : PyData) (H' : Hp) (Q' : VK), d ∈ ds → Dt K H' v d → Kp H H' → (∀ H2, Kp H' H2 → Q' (.bl (p d)) H2) → te [some v] H' Q') (q : ∀ H', Kp H H' → Q (.bl (ds.all p)) H') : tAllG T (iTup K (tVar i)) (gName 0) te [] σ H Q :=
  ⟨.ref a, hx, a, rfl, ⟨xs, h⟩, all_tup (p := p) hT h hs ht q⟩
theorem rd_scK_tup {P : Program} {w : World} {a : Addr} {xs : List V} {ks : List Key} {j : Nat} (hx : σ[i]? = some (some (.ref a))) (h : SqT K H a xs) (hl : ks.length = xs.length) (hn : xs.length ≤ 1000) (hj : j < σ.length)
    (ht : ∀ (i : Nat) (v : V) (k : Key) (H' : Hp) (Q' : VK), xs[i]? = some v → ks[i]? = some k → Kp H H' → Q' (kV k) H' → te ((wipe σ [j]).set j (some v)) H' Q')
    (q : ∀ D H', H D = none → Kp H H' → H' D = some (SetK P w D (keysOf ks).1 (keysOf ks).2) → Q (.ref D) H') : tScK P w (iTup K (tVar i)) (gName j) te [j] σ H Q :=
  ⟨.ref a, hx, a, rfl, ⟨xs, h⟩, scK_tup h hl hn hj ht q⟩
end
end Gd

/-! Defs that may raise an own error with one field; the error caught. -/
namespace Gd
open PySem PySem.Spec PyProof.Rows L2 GxR Gx
/-- what a caller of a def that may raise needs -/
def CalX (P : Program) (w : World) (K : PySem.W.Frag) (mg : Str → Option Value) (base : Heap) (k : Nat) (x : Str) (ps : List Str) (sp : Sp) : Prop :=
  ∃ f fd, FnG P w K mg base (L2.CX P w) k f fd ps sp ∧ mg x = some (.ref f) ∧ PySem.W.keepIn K (.ref f) = true ∧ Binds K fd ps []
section
variable {P : Program} {w : World} {K : PySem.W.Frag} {mg : Str → Option Value} {base : Heap}
theorem DefAt.calX {x : Str} {st : Stmt} {N ps : List Str} {k : Nat} {sp : Sp} (D : DefAt K mg x st ps) (S : FnScope N ps (defScope st)) (len : ∀ vs H Q E, sp vs H Q E → vs.length = ps.length)
    (hb : ∀ (f : Addr) (cdv : Value) (A : Around) (outer : List Env) (s : Shared) (H : Hp) (vs : List V) (Q : VK) (E : XK), RoomG k (A.deeper (envOfC x (defScope st) s.heap.objs.size f cdv)) → sp vs H Q E →
      ∃ t, PSs (cxOf (L2.CX P w) P w K mg base N x (defScope st) f cdv A outer s H E) (defBody st) t ∧ t { nx := fun _ H' => Q .non H', rt := Q } (start N vs) H) : CalX P w K mg base (k + 1) x ps sp := by
  obtain ⟨f, fd, F, g, b⟩ := D
  exact ⟨f, fd, okGX F S len (hb f), g, F.kp, b⟩
end
section
variable {X : Cx} {k : Nat} {ps : List Str} {sp : Sp} {x : Str} {p pos : Pos} {e : Expr} {es : List Expr} {t : TA} {E : L2.St → XK}
theorem pe_calX (C : CalX X.prog X.w X.K X.mg X.base k x ps sp) (hr : RoomG k X.A) (hg : Gl X x) (hx : ∀ σ, PassesAt (L2.CX X.prog X.w) X σ (E σ)) (ha : PA X (e :: es) t) (hdb : (x == ("__debug__" : Str)) = false := by decide)
    (he : starEach (e :: es) X.env = (false, eval e X.env) :: starEach es X.env := by rfl) (hpl : (backTo pos (starEach es X.env)).any (·.1) = false := by rfl) : PE X (.Call (.Name x p) (e :: es) [] pos) (tCallS sp E t) := by
  obtain ⟨f, fd, F, g, kp, b⟩ := C
  refine ⟨fun pins s σ H Q I h => wpAny_Call_Name_kw (ld_glob I hg g ?_ hdb)⟩
  refine PySem.W.callWith_K (h₀ := X.base) I.ok.mod.kin kp (thn (ha.run pos pins s σ H _ I h) fun us s1 ⟨vs, H1, I1, rv, q1⟩ => ⟨I1.kIn, ?_⟩) he hpl
  have hl : us.length = ps.length := by
    rw [← rv.length]
    exact F.len _ _ _ _ q1
  have bb := b s1 us I1.kIn (by rw [List.append_nil]; exact hl)
  rw [List.append_nil] at bb
  refine wpAny_call (codeAny_mono (F.run X.A X.stack s1 H1 ⟨us, []⟩ us vs Q (E σ) hr I1.env0 bb rv q1) fun r s' hq => ?_)
  cases r with
  | error er => exact hx σ pins H1 s1 er s' I1 hq
  | ok fl =>
    cases fl with
    | ret u => exact I1.after hq
    | _ => exact hq.elim
end
/-- __init__ that stores its one argument -/
def spInit (K : PySem.W.Frag) (fld : Str) : Sp := fun vs H Q _ => ∃ (a C : Addr) (y : V), vs = [.ref a, y] ∧ OexC K C ∧ PySem.W.findIn K (.ref C) fld = some none ∧ H a = some (exo a C none) ∧
  ∀ dx, H dx = none → dx ≠ a → Q .non (upd (upd H dx (exd dx [(fld, y)])) a (exo a C (some dx)))
theorem rd_raise {K : PySem.W.Frag} {C : Addr} {fld : Str} {σ : L2.St} {H : Hp} {Q : XK} {i : Nat} {v : V} (T : OexC K C) (hno : PySem.W.findIn K (.ref C) fld = some none) (hv : σ[i]? = some (some v)) (q : ∀ d H', Kp H H' → H' d = some (.xd [(fld, v)]) → Q (.ref C) (some d) H') :
    tMkO C (spInit K fld) [] (tCons (tVar i) tNil) σ H Q := by
  refine ⟨v, hv, by show 1 ≤ 1000; decide, fun a ha => ⟨a, C, v, rfl, T, hno, upd_same, fun dx hdx hne => ?_⟩⟩
  have hd : H dx = none := by rw [upd_ne hne] at hdx; exact hdx
  refine ⟨rfl, dx, [(fld, v)], upd_same, by rw [upd_ne hne]; exact upd_same, hd, q dx _ ⟨fun b o e _ _ => ?_, fun T' hT => ?_, fun b e => ?_⟩ upd_same⟩
  · have h1 : b ≠ a := ne_of_none e ha
    have h2 : b ≠ dx := ne_of_none e hd
    rw [upd_ne h2, del_ne h1, upd_ne h1, upd_ne h2, upd_ne h1]
    exact e
  · obtain ⟨ps, e, t⟩ := hT
    have h1 : T' ≠ a := ne_of_none e ha
    have h2 : T' ≠ dx := ne_of_none e hd
    exact ⟨ps, by rw [upd_ne h2, del_ne h1, upd_ne h1, upd_ne h2, upd_ne h1]; exact e, t⟩
  · by_cases h2 : b = dx
    · rw [h2]
      exact hd
    · by_cases h1 : b = a
      · rw [h1]
        exact ha
      · rw [upd_ne h2, del_ne h1, upd_ne h1, upd_ne h2, upd_ne h1] at e
        exact e
/-- isinstance of the error that the suite holds -/
structure ExcK (K : PySem.W.Frag) (C : Addr) : Prop where
  cl : (PySem.W.clsIn K C).isSome = true
  ga : PySem.W.findIn K (.ref C) "__getattribute__" = some (some (.builtin "BaseException.__getattribute__"))
  gg : PySem.W.findIn K (.ref C) "__getattr__" = some none
  sub : PySem.W.subIn K (.ref C) (.type "BaseException") = some true
  ca : PySem.W.findIn K (.ref C) "__class__" = some (some (.builtin "object.__class__"))
  sg : PySem.W.specialIn K (.builtin "object.__class__") "__get__" = some (some (.builtin "getset_descriptor.__get__"))
  tk : PySem.W.takesIn K (.builtin "object.__class__") = some true
  mo : PySem.W.mroIn K C (.type "object") = some true
def rIsX (K : PySem.W.Frag) (C a : Addr) (cls : Value) (d : Option Addr) : List V → Hp → VK → Prop := fun xs H Q => ∃ (c : V) (cv : Value) (b : Bool) (dd : Addr) (fs : List (Str × V)), xs = [.ref a, c] ∧ cls = .ref C ∧ d = some dd ∧ H dd = some (.xd fs) ∧ (∀ u, RelV c u → u = cv) ∧ PySem.W.kitOne K (.ref C) cv = some b ∧ Q (.bl b) H
theorem call_isX {X : Cx} {a C : Addr} {oe : Obj} {cls : Value} {d : Option Addr} {pn : List (Addr × Obj)} (T : ExcK X.K C) (hz : Zc cls d oe) (hf : ∃ vs, oe.data = .fields vs) : CallR (X.suite a ((a, oe) :: pn)) (.builtin "isinstance") (rIsX X.K C a cls d) := by
  intro pins s σ H xs us Q I r h
  obtain ⟨c, cv, b, dd, fs, rfl, rfl, rfl, ed, hcv, e, q⟩ := h
  obtain ⟨vs, hv⟩ := hf
  have at_ := (I.pin (a, oe) (List.mem_append.mpr (.inl List.mem_cons_self))).1
  obtain ⟨mA, ⟨od, es, ep, ho, _⟩, _⟩ := (show ObjOk X.prog X.w H s.heap dd (.xd fs) from I.hok dd _ ed)
  have J : PySem.W.InstAt s.heap a oe C (some od) := by
    obtain ⟨oc, odc, oda, osl⟩ := oe
    obtain ⟨z1, z2⟩ := hz
    dsimp only at z1 z2 hv
    subst z1 z2 hv
    exact ⟨at_, rfl, rfl, ho⟩
  cases r with
  | cons rx rr =>
    cases rr with
    | cons rt rr =>
      cases rr
      cases rx
      cases hcv _ rt
      exact PySem.W.kia_one (PySem.W.kitx_exc T.cl T.ga T.gg T.sub T.ca T.sg T.tk T.mo) I.kIn J e (fun z => nomatch z) fun tk => ⟨.bl b, H, I.kept (t' := tk) fun _ _ z => z, rfl, q⟩
end Gd

/-! The end: the facts of the top, with the tables of code objects that the head leaves. -/
namespace Gd
open PySem PySem.Spec PyProof.Rows L2 GxR Gx
theorem walk_G2 {l : PySem.W.OpenLaw} {n k : Nat} {q : Program} {loose : List Str} {XP : (Str → Option Value) → Heap → Prop} {YP : World → Heap → Prop} {d : DefRec} {K : Params → PySem.W.Frag} {CX : World → CXT} {x : Str}
    (hn : l.most = some n) (hn2 : n ≤ sizeLine) (hdf : d.params.defaults = []) (hr : RoomG k callerA) (hY : ∀ (w : World) (h : Heap), YP w h → (K w.params).In h)
    (F : ∀ (w : World) (mg : Str → Option Value) (fa : Addr) (h : Heap), YP w h → (K w.params).In h → h.Ns mainGlobals mg → mg d.name = some (.ref fa) →
      (∀ (y : Str) (d' : DefRec) (c P : Addr), (recsOf q).find? (fun e => e.name == y) = some d' → PySem.W.tabIn (K w.params) y = some (c, P) → PySem.W.CodeHd h c P ∧ h.get? P = some { cls := .none, data := .fields #[] }) → LawG l w (K w.params) (CX w) k n x mg fa h)
    (hCX : ∀ (w : World) (H : Hp) (s : Shared) (e : Value) (s' : Shared), CX w [] H s (fun _ _ _ => False) e s' → False) :
    PySem.W.WalkO q loose XP YP l.row.toRowW d [] (fun f vs => PySem.call f vs) := by
  refine Att.attach_callB hn hdf fun w s0 s1 mg mb fa o pm cd doc a vs ns G Y ho hd hcd hmg hobj hints hlen hbits hg => ?_
  obtain ⟨fd, cs, sp, hT, nT, C, hb, hsp, hF⟩ := F w mg fa _ Y (hY w _ Y) G.T.g hmg fun y d' c P hr ht => PySem.W.tab_of G.T (hY w _ Y) hr ht
  exact law_endG (hY w _ Y) G.T.g G.T.b G.T.builtins G.T.nolimit hg hT nT C G.T.bmain hobj hints (Nat.le_trans hlen hn2) hr hF hb (fun H hH hS => hsp H a ns hlen hbits hH hS) fun H e s' => hCX w H s1 e s'
/-- the def x, its code object at c -/
def DefC (K : PySem.W.Frag) (mg : Str → Option Value) (x : Str) (st : Stmt) (ps : List Str) (c : Addr) : Prop := ∃ f fd, Fun K x x st f fd ∧ mg x = some (.ref f) ∧ Binds K fd ps [] ∧ fd.code = .ref c
theorem DefC.tab {K : PySem.W.Frag} {mg : Str → Option Value} {base : Heap} {x : Str} {st : Stmt} {ps : List Str} {c T : Addr} (D : DefC K mg x st ps c) (B : TabB base mg c T) : DefTab K mg base x st ps T :=
  let ⟨f, fd, F, g, b, e⟩ := D; ⟨f, fd, c, F, g, b, e, B⟩
section
variable {K : PySem.W.Frag} {h : Heap} {mg : Str → Option Value} {x : Str} {st : Stmt} {ps : List Str} {f c T : Addr} {od an od1 : Option Addr} {sl sl1 : Array (Option Value)} {oc kV dc pm cd ct oc1 : Value} {vs : Array Value}
theorem def_k (X : K.In h) (G : h.Ns mainGlobals mg) (a : PySem.W.nsIn K mainGlobals x = some (some (.ref f))) (l : K.lookup f = some ⟨oc, od, .func (PySem.W.fnOf x x (defArgs st) (defBody st) (defScope st) .none kV dc pm an cd ct), sl⟩) (c : PySem.W.codeIn K cd x = true) (k : PySem.W.keepIn K (.ref f) = true)
    (b : ∀ (kV doc pm : Value) (an : Option Addr) (cdv ct : Value) (us : List Value), us.length = ps.length → bindArgs (PySem.W.fnOf x x (defArgs st) (defBody st) (defScope st) .none kV doc pm an cdv ct) ⟨us, []⟩ = pure (ps.zip us)) : DefAt K mg x st ps :=
  ⟨f, _, fun_mk l c k, PySem.W.mg_of X G a, (fun_mk l c k).binds b⟩
theorem def_c (X : K.In h) (G : h.Ns mainGlobals mg) (a : PySem.W.nsIn K mainGlobals x = some (some (.ref f))) (l : K.lookup f = some ⟨oc, od, .func (PySem.W.fnOf x x (defArgs st) (defBody st) (defScope st) .none kV dc pm an (.ref c) ct), sl⟩) (cc : PySem.W.codeIn K (.ref c) x = true) (k : PySem.W.keepIn K (.ref f) = true)
    (l1 : K.lookup c = some ⟨oc1, od1, .fields vs, sl1⟩) (hv : vs[11]? = some (.ref T))
    (b : ∀ (kV doc pm : Value) (an : Option Addr) (cdv ct : Value) (us : List Value), us.length = ps.length → bindArgs (PySem.W.fnOf x x (defArgs st) (defBody st) (defScope st) .none kV doc pm an cdv ct) ⟨us, []⟩ = pure (ps.zip us)) : DefC K mg x st ps c ∧ PySem.W.tabIn K x = some (c, T) := by
  refine ⟨⟨f, _, fun_mk l cc k, PySem.W.mg_of X G a, (fun_mk l cc k).binds b, rfl⟩, ?_⟩
  unfold PySem.W.tabIn
  rw [a]
  show (match K.lookup f with
    | some ⟨_, _, .func fd, _⟩ => _
    | _ => none) = _
  rw [l]
  show (match K.lookup c with
    | some ⟨_, _, .fields vs, _⟩ => _
    | _ => none) = _
  rw [l1]
  show (match (vs[11]? : Option Value) with
    | some (.ref P) => some (c, P)
    | _ => none) = _
  rw [hv]
theorem law_k {fa : Addr} {p1 : Str} (X : K.In h) (G : h.Ns mainGlobals mg) (hfa : mg x = some (.ref fa)) (a : PySem.W.nsIn K mainGlobals x = some (some (.ref f))) (l : K.lookup f = some ⟨oc, od, .func (PySem.W.fnOf x x (defArgs st) (defBody st) (defScope st) .none kV dc pm an cd ct), sl⟩) (c : PySem.W.codeIn K cd x = true) (k : PySem.W.keepIn K (.ref f) = true)
    (b : ∀ (kV doc pm : Value) (an : Option Addr) (cdv ct : Value) (s : Shared) (u : Value), BindsTo s (PySem.W.fnOf x x (defArgs st) (defBody st) (defScope st) .none kV doc pm an cdv ct) ⟨[u], []⟩ [(p1, u)]) : ∃ fd, Fun K x x st fa fd ∧ ∀ (s : Shared) (u : Value), BindsTo s fd ⟨[u], []⟩ [(p1, u)] := by
  have e := hfa.symm.trans (PySem.W.mg_of X G a)
  cases e
  exact ⟨_, fun_mk l c k, b _ _ _ _ _ _⟩
theorem glob_k {t : Tok} {i : Int} (X : K.In h) (G : h.Ns mainGlobals mg) (a : PySem.W.nsIn K mainGlobals x = some (some (.int i t))) : ∃ t, mg x = some (.int i t) := ⟨t, PySem.W.mg_of X G a⟩
theorem no_tabs (X : K.In h) (hK : PySem.W.noTabs K = true) (hT : h.get? T = some { cls := .none, data := .fields #[] }) : K.lookup T = none := by
  cases e : K.lookup T with
  | none => rfl
  | some o =>
    have h1 := X T o e
    rw [hT] at h1
    cases h1
    have h2 := List.all_eq_true.mp hK _ (PySem.W.mem_of_lookupK e)
    exact absurd (show false = true from h2) Bool.false_ne_true
end
end Gd

/-! A def that stands under another name of the row. -/
namespace Gd
open PySem PySem.Spec PyProof.Rows L2 GxR Gx
/-- the def x stands as st under the name y -/
def DefAl (K : PySem.W.Frag) (mg : Str → Option Value) (x y : Str) (st : Stmt) (ps : List Str) : Prop := ∃ f fd, Fun K x x st f fd ∧ mg y = some (.ref f) ∧ Binds K fd ps []
section
variable {P : Program} {w : World} {K : PySem.W.Frag} {mg : Str → Option Value} {base : Heap}
theorem DefAl.cal {x y : Str} {st : Stmt} {N ps : List Str} {k : Nat} {sp : Sp} (D : DefAl K mg x y st ps) (S : FnScope N ps (defScope st)) (len : ∀ vs H Q E, sp vs H Q E → vs.length = ps.length)
    (hbody : ∀ (f : Addr) (cdv : Value) (A : Around) (outer : List Env) (s : Shared) (H : Hp) (vs : List V) (Q : VK) (E : XK), RoomG k (A.deeper (envOfC x (defScope st) s.heap.objs.size f cdv)) → sp vs H Q E →
      ∃ t, PSs (cxOf CX0 P w K mg base N x (defScope st) f cdv A outer s H E).nox (defBody st) t ∧ t { nx := fun _ H' => Q .non H', rt := Q } (start N vs) H) : Cal P w K mg base CX0 (k + 1) y ps sp := by
  obtain ⟨f, fd, F, g, b⟩ := D
  exact ⟨f, fd, okG F S len (hbody f), g, F.kp, b⟩
theorem DefAl.calX {x y : Str} {st : Stmt} {N ps : List Str} {k : Nat} {sp : Sp} (D : DefAl K mg x y st ps) (S : FnScope N ps (defScope st)) (len : ∀ vs H Q E, sp vs H Q E → vs.length = ps.length)
    (hb : ∀ (f : Addr) (cdv : Value) (A : Around) (outer : List Env) (s : Shared) (H : Hp) (vs : List V) (Q : VK) (E : XK), RoomG k (A.deeper (envOfC x (defScope st) s.heap.objs.size f cdv)) → sp vs H Q E →
      ∃ t, PSs (cxOf (L2.CX P w) P w K mg base N x (defScope st) f cdv A outer s H E) (defBody st) t ∧ t { nx := fun _ H' => Q .non H', rt := Q } (start N vs) H) : CalX P w K mg base (k + 1) y ps sp := by
  obtain ⟨f, fd, F, g, b⟩ := D
  exact ⟨f, fd, okGX F S len (hb f), g, F.kp, b⟩
end
end Gd

/-! An own error without a field: raised, caught. -/
namespace Gd
open PySem PySem.Spec PyProof.Rows L2 GxR Gx
/-- the class of the error x at C -/
structure BadN (K : PySem.W.Frag) (mg : Str → Option Value) (x : Str) (C : Addr) : Prop where
  q : PySem.W.excIn K C [.type "ValueError", .type "Exception", .type "BaseException", .type "object"] "ValueError.__new__" = true
  g : mg x = some (.ref C)
  kp : PySem.W.keepIn K (.ref C) = true
  b : PySem.W.subIn K (.ref C) (.type "BaseException") = some true
  t : PySem.W.typeIn K (.ref C) = some (.type "type")
section
variable {X : Cx} {C : Addr} {x : Str} {p pos pos2 : Pos} {W : WX}
theorem pmk_own0 (B : BadN X.K X.mg x C) (hg : Gl X x) (hdb : (x == ("__debug__" : Str)) = false := by decide) : PMk X (.Call (.Name x p) [] [] pos) (fun _ H Q => Q (.ref C) none H) := by
  intro pins s σ H Q I h
  refine wpAny_Call_Name_kw (ld_glob I hg B.g (PySem.W.callWith_K0 I.kIn B.kp ?_) hdb)
  show wpAny _ _ (call (.ref C) []) _ _ _
  obtain ⟨bm, N, nm, qn, bs, hdct, sn, sub, ab, col, dd, k0, k1, k2, k3, k5, mN, hC, hN, hni, T⟩ := exc_obj I.kIn B.q
  refine wpAny_call_exc_subT PySem.F.excBase_ValueError T hC hN hni (fun h' e hm => ?_) (Nat.zero_le _)
  exact mk_of I hm (raises_own B.b B.t) h (I.hok.gone hm.new)
theorem ps_bad0 (B : BadN X.K X.mg x C) (hc : X.calm = true) (tk : Takes X W) (hg : Gl X x) (hdb : (x == ("__debug__" : Str)) = false := by decide) : PS X (.Raise (some (.Call (.Name x p) [] [] pos)) none pos2) (fun _ σ H => W (.ref C) none σ H) :=
  ps_raise hc tk (pmk_own0 B hg hdb)
end
/-- isinstance(e, c), e an own error without a field that the suite holds -/
def rIsN (K : PySem.W.Frag) (C a : Addr) (cls : Value) (d : Option Addr) : List V → Hp → VK → Prop := fun xs H Q => ∃ (c : V) (cv : Value) (b : Bool), xs = [.ref a, c] ∧ cls = .ref C ∧ d = none ∧ (∀ u, RelV c u → u = cv) ∧ PySem.W.kitOne K (.ref C) cv = some b ∧ Q (.bl b) H
theorem call_isN {X : Cx} {a C : Addr} {oe : Obj} {cls : Value} {d : Option Addr} {pn : List (Addr × Obj)} (T : ExcC X.K C) (hz : Zc cls d oe) (hf : ∃ vs, oe.data = .fields vs) : CallR (X.suite a ((a, oe) :: pn)) (.builtin "isinstance") (rIsN X.K C a cls d) := by
  intro pins s σ H xs us Q I r h
  obtain ⟨c, cv, b, rfl, rfl, rfl, hcv, e, q⟩ := h
  exact call_isE T hz hf pins s σ H _ us Q I r ⟨c, cv, b, rfl, hcv, e, q⟩
/-- the error x at C is caught by xV at CV -/
structure CatN (K : PySem.W.Frag) (mg : Str → Option Value) (x xV : Str) (C CV : Addr) : Prop where
  g : mg x = some (.ref C)
  gV : mg xV = some (.ref CV)
  ex : PySem.W.exmOne K (.ref C) (.ref CV) = some true
  is : ExcC K C
  k1 : PySem.W.kitOne K (.ref C) (.ref C) = some true
  k2 : PySem.W.kitOne K (.ref C) (.type "ValueError") = some true
end Gd

/-! Defs whose errors may be handled by a suite that raises: what they raise has no context. -/
namespace Gd
open PySem PySem.Spec PyProof.Rows L2 GxR Gx
def CalN (P : Program) (w : World) (K : PySem.W.Frag) (mg : Str → Option Value) (base : Heap) (k : Nat) (x : Str) (ps : List Str) (sp : Sp) : Prop :=
  ∃ f fd, FnG P w K mg base (L2N.CX P w) k f fd ps sp ∧ mg x = some (.ref f) ∧ PySem.W.keepIn K (.ref f) = true ∧ Binds K fd ps []
section
variable {P : Program} {w : World} {K : PySem.W.Frag} {mg : Str → Option Value} {base : Heap}
theorem okGN {x qual : Str} {st : Stmt} {f : Addr} {fd : FuncData} {N ps : List Str} {k : Nat} {sp : Sp} (F : Fun K x qual st f fd) (S : FnScope N ps (defScope st)) (len : ∀ vs H Q E, sp vs H Q E → vs.length = ps.length)
    (hbody : ∀ (cdv : Value) (A : Around) (outer : List Env) (s : Shared) (H : Hp) (vs : List V) (Q : VK) (E : XK), RoomG k (A.deeper (envOfC qual (defScope st) s.heap.objs.size f cdv)) → sp vs H Q E →
      ∃ t, PSs (cxOf (L2N.CX P w) P w K mg base N qual (defScope st) f cdv A outer s H E) (defBody st) t ∧ t { nx := fun _ H' => Q .non H', rt := Q } (start N vs) H) : FnG P w K mg base (L2N.CX P w) (k + 1) f fd ps sp := by
  obtain ⟨oc, od, kV, doc, pm, an, cdv, ct, osl, rfl, lk, hcd⟩ := F.ex
  exact fnG_of lk hcd S len fun A outer s H vs Q E hr hsp => hbody cdv A outer s H vs Q E hr hsp
theorem CalN.mono {j k : Nat} {x : Str} {ps : List Str} {sp : Sp} (c : CalN P w K mg base j x ps sp) (h : j ≤ k) : CalN P w K mg base k x ps sp :=
  let ⟨f, fd, F, r⟩ := c; ⟨f, fd, F.mono h, r⟩
theorem DefAt.calN {x : Str} {st : Stmt} {N ps : List Str} {k : Nat} {sp : Sp} (D : DefAt K mg x st ps) (S : FnScope N ps (defScope st)) (len : ∀ vs H Q E, sp vs H Q E → vs.length = ps.length)
    (hb : ∀ (f : Addr) (cdv : Value) (A : Around) (outer : List Env) (s : Shared) (H : Hp) (vs : List V) (Q : VK) (E : XK), RoomG k (A.deeper (envOfC x (defScope st) s.heap.objs.size f cdv)) → sp vs H Q E →
      ∃ t, PSs (cxOf (L2N.CX P w) P w K mg base N x (defScope st) f cdv A outer s H E) (defBody st) t ∧ t { nx := fun _ H' => Q .non H', rt := Q } (start N vs) H) : CalN P w K mg base (k + 1) x ps sp := by
  obtain ⟨f, fd, F, g, b⟩ := D
  exact ⟨f, fd, okGN F S len (hb f), g, F.kp, b⟩
theorem DefAl.calN {x y : Str} {st : Stmt} {N ps : List Str} {k : Nat} {sp : Sp} (D : DefAl K mg x y st ps) (S : FnScope N ps (defScope st)) (len : ∀ vs H Q E, sp vs H Q E → vs.length = ps.length)
    (hb : ∀ (f : Addr) (cdv : Value) (A : Around) (outer : List Env) (s : Shared) (H : Hp) (vs : List V) (Q : VK) (E : XK), RoomG k (A.deeper (envOfC x (defScope st) s.heap.objs.size f cdv)) → sp vs H Q E →
      ∃ t, PSs (cxOf (L2N.CX P w) P w K mg base N x (defScope st) f cdv A outer s H E) (defBody st) t ∧ t { nx := fun _ H' => Q .non H', rt := Q } (start N vs) H) : CalN P w K mg base (k + 1) y ps sp := by
  obtain ⟨f, fd, F, g, b⟩ := D
  exact ⟨f, fd, okGN F S len (hb f), g, F.kp, b⟩
end
section
variable {X : Cx} {k : Nat} {ps : List Str} {sp : Sp} {x : Str} {p pos pos2 : Pos} {e : Expr} {es : List Expr} {t : TA} {E : L2.St → XK} {C : Addr} {W : WX}
theorem pe_calN (C : CalN X.prog X.w X.K X.mg X.base k x ps sp) (hr : RoomG k X.A) (hg : Gl X x) (hx : ∀ σ, PassesAt (L2N.CX X.prog X.w) X σ (E σ)) (ha : PA X (e :: es) t) (hdb : (x == ("__debug__" : Str)) = false := by decide)
    (he : starEach (e :: es) X.env = (false, eval e X.env) :: starEach es X.env := by rfl) (hpl : (backTo pos (starEach es X.env)).any (·.1) = false := by rfl) : PE X (.Call (.Name x p) (e :: es) [] pos) (tCallS sp E t) := by
  obtain ⟨f, fd, F, g, kp, b⟩ := C
  refine ⟨fun pins s σ H Q I h => wpAny_Call_Name_kw (ld_glob I hg g ?_ hdb)⟩
  refine PySem.W.callWith_K (h₀ := X.base) I.ok.mod.kin kp (thn (ha.run pos pins s σ H _ I h) fun us s1 ⟨vs, H1, I1, rv, q1⟩ => ⟨I1.kIn, ?_⟩) he hpl
  have hl : us.length = ps.length := by
    rw [← rv.length]
    exact F.len _ _ _ _ q1
  have bb := b s1 us I1.kIn (by rw [List.append_nil]; exact hl)
  rw [List.append_nil] at bb
  refine wpAny_call (codeAny_mono (F.run X.A X.stack s1 H1 ⟨us, []⟩ us vs Q (E σ) hr I1.env0 bb rv q1) fun r s' hq => ?_)
  cases r with
  | error er => exact hx σ pins H1 s1 er s' I1 hq
  | ok fl =>
    cases fl with
    | ret u => exact I1.after hq
    | _ => exact hq.elim
theorem pmk_own0N (B : BadN X.K X.mg x C) (hg : Gl X x) (hdb : (x == ("__debug__" : Str)) = false := by decide) : L2N.PMk X (.Call (.Name x p) [] [] pos) (fun _ H Q => Q (.ref C) none H) := by
  intro pins s σ H Q I h
  refine wpAny_Call_Name_kw (ld_glob I hg B.g (PySem.W.callWith_K0 I.kIn B.kp ?_) hdb)
  show wpAny _ _ (call (.ref C) []) _ _ _
  obtain ⟨bm, N, nm, qn, bs, hdct, sn, sub, ab, col, dd, k0, k1, k2, k3, k5, mN, hC, hN, hni, T⟩ := exc_obj I.kIn B.q
  refine wpAny_call_exc_subT PySem.F.excBase_ValueError T hC hN hni (fun h' e hm => ?_) (Nat.zero_le _)
  exact L2N.mk_of I hm (raises_own B.b B.t) h (I.hok.gone hm.new)
theorem ps_bad0N (B : BadN X.K X.mg x C) (hc : X.calm = true) (tk : L2N.Takes X W) (hg : Gl X x) (hdb : (x == ("__debug__" : Str)) = false := by decide) : PS X (.Raise (some (.Call (.Name x p) [] [] pos)) none pos2) (fun _ σ H => W (.ref C) none σ H) :=
  L2N.ps_raise hc tk (pmk_own0N B hg hdb)
theorem ps_bad0H (B : BadN X.K X.mg x C) (hc : L2H.HotC X) (tk : L2.Takes X W) (hg : Gl X x) (hdb : (x == ("__debug__" : Str)) = false := by decide) : PS X (.Raise (some (.Call (.Name x p) [] [] pos)) none pos2) (fun _ σ H => W (.ref C) none σ H) :=
  L2H.ps_raiseH hc tk (pmk_own0N B hg hdb)
end
/-- a suite that no state reaches -/
theorem pss_no {X : Cx} {b : List Stmt} : PSs X b (fun _ _ _ => False) := ⟨fun _ _ _ _ _ _ h => h.elim⟩
end Gd

namespace Rv
open PySem PySem.Spec PyProof.Rows L2 GxR Gx Gd
def topS (i : Nat) : Stmt := PySem.Challenge.pw_remoteviews_k40_entries_read_back.main.body.getD i (.Pass ⟨0, 0, 0, 0⟩)
abbrev s_is_character : Stmt := topS 11
abbrev s_is_digit : Stmt := topS 12
abbrev s_is_small : Stmt := topS 18
/-! ### signs -/
def inRg (a b c : Nat) : Bool := decide (a ≤ c) && decide (c ≤ b)
def isSmall : Nat → Bool := inRg 97 122
def isDigit : Nat → Bool := inRg 48 57
def isChar (c : Nat) : Bool := inRg 32 126 c && !decide (c = 37)
theorem lt1 {a b : Nat} : decide (([a] : List Nat) < [b]) = decide (a < b) := by
  rw [Bool.eq_iff_iff, decide_eq_true_eq, decide_eq_true_eq]
  constructor
  · intro h
    cases h with
    | rel h => exact h
    | cons h => cases h
  · intro h
    exact .rel h
theorem le1 {a b : Nat} : (!decide (([b] : List Nat) < [a])) = decide (a ≤ b) := by
  rw [lt1, Bool.eq_iff_iff, Bool.not_eq_true', decide_eq_false_iff_not, decide_eq_true_eq]
  omega
def spSign (p : Nat → Bool) : Sp := fun vs H Q _ => ∃ c, vs = [.str ⟨#[c]⟩] ∧ Q (.bl (p c)) H
abbrev rLeS : R2 := fun x y H Q => ∃ i j, x = .str i ∧ y = .str j ∧ Q (.bl (!decide (j.cps.toList < i.cps.toList))) H
theorem chain_rd {a b c : Nat} {xa xb : Str} {σ : L2.St} {H : Hp} {Q : VK} {i : Nat} (ha : xa = ⟨#[a]⟩) (hb : xb = ⟨#[b]⟩) (hs : σ[i]? = some (some (.str ⟨#[c]⟩))) (q : Q (.bl (inRg a b c)) H) :
    tChain rLeS rLeS (tC (.str xa)) (tVar i) (tC (.str xb)) σ H Q := by
  subst ha hb
  refine ⟨_, hs, ⟨#[a]⟩, ⟨#[c]⟩, rfl, rfl, _, rfl, ?_⟩
  show if (!decide (([c] : List Nat) < [a])) = true then ∃ i j, V.str ⟨#[c]⟩ = .str i ∧ V.str ⟨#[b]⟩ = .str j ∧ Q (.bl (!decide (j.cps.toList < i.cps.toList))) H else Q (.bl false) H
  rw [le1]
  unfold inRg at q
  by_cases h : a ≤ c
  · rw [decide_eq_true h] at q ⊢
    rw [if_pos rfl]
    refine ⟨_, _, rfl, rfl, ?_⟩
    show Q (.bl (!decide (([b] : List Nat) < [c]))) H
    rw [le1]
    exact q
  · rw [decide_eq_false h] at q ⊢
    exact iteF q
theorem chain_and {a b c : Nat} {xa xb : Str} {σ : L2.St} {H : Hp} {Q : VK} {i : Nat} {tb : TE} (ha : xa = ⟨#[a]⟩) (hb : xb = ⟨#[b]⟩) (hs : σ[i]? = some (some (.str ⟨#[c]⟩))) (q : if inRg a b c = true then tb σ H Q else Q (.bl false) H) :
    tAndV (tChain rLeS rLeS (tC (.str xa)) (tVar i) (tC (.str xb))) tb σ H Q := chain_rd ha hb hs ⟨_, rfl, q⟩
section
variable {P : Program} {w : World} {K : PySem.W.Frag} {mg : Str → Option Value} {base : Heap}
theorem sc_is_small : FnScope ["char"] ["char"] (defScope s_is_small) := ⟨rfl, rfl, rfl, by decide +kernel, rfl, by decide +kernel, by decide +kernel⟩
theorem c_is_small (D : DefAt K mg "_is_small" s_is_small ["char"]) : Cal P w K mg base CX0 1 "_is_small" ["char"] (spSign isSmall) := by
  refine D.cal (k := 0) sc_is_small (fun vs H Q E h => ?_) fun f cdv A outer s H vs Q E hr h => ?_
  · obtain ⟨c, rfl, _⟩ := h
    rfl
  · obtain ⟨c, rfl, q⟩ := h
    refine ⟨_, pss_one (ps_ret (pe_chain op_le_str op_le_str pe_str (pv 0) pe_str)), ?_⟩
    exact chain_rd rfl rfl rfl q
theorem sc_is_digit : FnScope ["char"] ["char"] (defScope s_is_digit) := ⟨rfl, rfl, rfl, by decide +kernel, rfl, by decide +kernel, by decide +kernel⟩
theorem c_is_digit (D : DefAt K mg "is_digit" s_is_digit ["char"]) : Cal P w K mg base CX0 1 "is_digit" ["char"] (spSign isDigit) := by
  refine D.cal (k := 0) sc_is_digit (fun vs H Q E h => ?_) fun f cdv A outer s H vs Q E hr h => ?_
  · obtain ⟨c, rfl, _⟩ := h
    rfl
  · obtain ⟨c, rfl, q⟩ := h
    refine ⟨_, pss_one (ps_ret (pe_chain op_le_str op_le_str pe_str (pv 0) pe_str)), ?_⟩
    exact chain_rd rfl rfl rfl q
theorem sc_is_character : FnScope ["char"] ["char"] (defScope s_is_character) := ⟨rfl, rfl, rfl, by decide +kernel, rfl, by decide +kernel, by decide +kernel⟩
theorem c_is_character (D : DefAt K mg "is_character" s_is_character ["char"]) (gP : ∃ t, mg "PERCENT" = some (.int 37 t)) (mo : mg "ord" = none) : Cal P w K mg base CX0 1 "is_character" ["char"] (spSign isChar) := by
  refine D.cal (k := 0) sc_is_character (fun vs H Q E h => ?_) fun f cdv A outer s H vs Q E hr h => ?_
  · obtain ⟨c, rfl, _⟩ := h
    rfl
  · obtain ⟨c, rfl, q⟩ := h
    obtain ⟨t, gP⟩ := gP
    refine ⟨_, pss_one (ps_ret (pe_and (pe_chain op_le_str op_le_str pe_str (pv 0) pe_str) (pe_one (pe_cmpR op_ne (pe_callB call_ord (by rfl) mo (by decide +kernel) (pa_cons (pv 0) pa_nil)) (pe_glob (v := .int 37) rfl gP ⟨t, rfl⟩) (nomark _))))), ?_⟩
    refine chain_and (a := 32) (b := 126) (c := c) rfl rfl rfl ?_
    cases e : inRg 32 126 c with
    | false =>
      refine iteF ?_
      unfold isChar at q
      rw [e] at q
      exact q
    | true =>
      refine iteT ⟨_, rfl, _, rfl, rfl, rfl, ?_⟩
      unfold isChar at q
      rw [e] at q
      have e2 : decide (V.int (((#[c] : Array Nat).getD 0 0 : Nat) : Int) = V.int 37) = decide (c = 37) := by
        rw [Bool.eq_iff_iff, decide_eq_true_eq, decide_eq_true_eq]
        constructor
        · intro h
          have h := V.int.inj h
          have h2 : ((c : Nat) : Int) = 37 := h
          omega
        · intro h
          subst h
          rfl
      rw [e2]
      exact q
end
end Rv
namespace Rv
open PySem PySem.Spec PyProof.Rows L2 GxR Gx Gd
def isNameL (l : List Nat) : Bool := decide (1 ≤ l.length) && decide (l.length ≤ 12) && ((match l with | c :: _ => isSmall c | [] => false) && l.all (fun c => isSmall c || isDigit c))
def isName : PyData → Bool
  | .str x => isNameL x.cps.toList
  | _ => false
abbrev s_is_name : Stmt := topS 13
section
variable {P : Program} {w : World} {K : PySem.W.Frag} {mg : Str → Option Value} {base : Heap}
theorem sc_is_name : FnScope ["thing"] ["thing"] (defScope s_is_name) := ⟨rfl, rfl, rfl, by decide +kernel, rfl, by decide +kernel, by decide +kernel⟩
theorem c_is_name {T : Addr} (D : DefTab K mg base "is_name" s_is_name ["thing"] T) (gN : ∃ t, mg "NAME_LENGTH" = some (.int 12 t)) (mi : mg "isinstance" = none) (ms : mg "str" = none) (ml : mg "len" = none) (ma : mg "all" = none)
    (c1 : Cal P w K mg base CX0 1 "_is_small" ["char"] (spSign isSmall)) (c2 : Cal P w K mg base CX0 1 "is_digit" ["char"] (spSign isDigit)) : Cal P w K mg base CX0 3 "is_name" ["thing"] (spData K [T] isName) := by
  refine D.cal (k := 2) sc_is_name (fun vs H Q E h => ?_) fun f c A outer s H vs Q E TB hr h => ?_
  · obtain ⟨v, d, rfl, _⟩ := h
    rfl
  · obtain ⟨v, d, rfl, hd, hz, hT, q⟩ := h
    obtain ⟨t, gN⟩ := gN
    refine ⟨_, pss_cons (ps_if (PW.pt (pw_or (pt_not (pt_val (pe_callB call_isi (by rfl) mi (by decide +kernel) (pa_cons (pv 0) (pa_cons (pe_bltn (v := .ty "str") (by rfl) ms (by decide +kernel) rfl) pa_nil)))))
          (pw_or1 (pt_not (pt_chain op_le op_le pe_int (pe_callB call_len_str (by rfl) ml PySem.boot_len (pa_cons (pv 0) pa_nil)) (pe_glob (v := .int 12) rfl gN ⟨t, rfl⟩))))))
        (pss_one (ps_ret pe_bl)) pss_nil)
      (pss_one (ps_ret (pe_and (pe_cal (c1.mono (by decide : 1 ≤ 2)) hr (by rfl) (pa_cons (pe_ix ix_str (pv 0) pe_int (fun _ _ => rfl)) pa_nil))
        (pe_one (pe_allG hr.r (by rfl) ma TB rfl (genS_by (by decide +kernel)) Caps.nil (pi_str (pv 0)) rfl
          (fun _ _ _ _ _ _ => pg_name (i := 0) (nd1 _) rfl (Or.inl rfl))
          (fun _ _ _ _ _ _ rk => pe_or (pe_cal c1 ⟨rk, hr.g⟩ (by rfl) (pa_cons (pv 0) pa_nil)) (pe_one (pe_cal c2 ⟨rk, hr.g⟩ (by rfl) (pa_cons (pv 0) pa_nil))))))))), ?_⟩
    refine ⟨v, rfl, v, .ty "str", _, _, isStrD d, rfl, ClsV.ty "str", hd.ty, kit_ty (kit_str d), _, rfl, ?_⟩
    have qF : isName d = false → Q (.bl false) H := fun e => by
      have z := q H (Kb.refl H)
      rw [e] at z
      exact z
    by_cases hs : isStrD d = true
    · cases hd <;> first | (cases hs; done) | skip
      rename_i x
      refine iteF ?_
      have hx : x.length = x.cps.toList.length := by simp [Str.length]
      have hlen := hz.str
      refine ⟨_, rfl, x, rfl, line1000 hlen, 1, (x.length : Int), rfl, rfl, _, rfl, ?_⟩
      by_cases h1 : (1 : Int) ≤ (x.length : Int)
      · rw [decide_eq_true h1]
        refine iteT ⟨_, _, rfl, rfl, _, rfl, ?_⟩
        by_cases h2 : (x.length : Int) ≤ 12
        · rw [decide_eq_true h2]
          refine iteF ?_
          obtain ⟨l, hl⟩ : ∃ l, x.cps.toList = l := ⟨_, rfl⟩
          cases l with
          | nil =>
            rw [hx, hl] at h1
            exact absurd h1 (by decide)
          | cons c0 r =>
            have en : isName (.str x) = (isSmall c0 && x.cps.toList.all fun c => isSmall c || isDigit c) := by
              have h1' : 1 ≤ x.cps.toList.length := by omega
              have h2' : x.cps.toList.length ≤ 12 := by omega
              show isNameL x.cps.toList = _
              unfold isNameL
              rw [decide_eq_true h1', decide_eq_true h2', hl]
              rfl
            refine ⟨.str x, rfl, x, 0, c0, rfl, rfl, line1000 hlen, by rw [hl]; exact atI_nat (j := 0) rfl, c0, rfl, isSmall c0, rfl, ?_⟩
            cases e0 : isSmall c0 with
            | false =>
              refine iteF (qF ?_)
              rw [en, e0]
              rfl
            | true =>
              refine iteT ⟨.str x, rfl, x, rfl, ?_⟩
              refine all_str (p := fun c => isSmall c || isDigit c) (hT T (List.mem_singleton.mpr rfl)) (fun c _ H Q' q' => ⟨.str ⟨#[c]⟩, rfl, c, rfl, isSmall c, rfl, ?_⟩) fun H2 h2 => ?_
              · cases e1 : isSmall c with
                | true =>
                  rw [e1] at q'
                  exact iteT q'
                | false =>
                  rw [e1] at q'
                  exact iteF ⟨.str ⟨#[c]⟩, rfl, c, rfl, q'⟩
              · have z := q H2 (Kb.tabbed h2 (hT T (List.mem_singleton.mpr rfl)))
                rw [en, e0] at z
                exact z
        · rw [decide_eq_false h2]
          refine iteT ?_
          have h2' : ¬ x.cps.toList.length ≤ 12 := by omega
          refine qF ?_
          show isNameL x.cps.toList = _
          unfold isNameL
          rw [decide_eq_false h2', Bool.and_false]
          rfl
      · rw [decide_eq_false h1]
        refine iteF ⟨_, rfl, ?_⟩
        have h1' : ¬ 1 ≤ x.cps.toList.length := by omega
        refine qF ?_
        show isNameL x.cps.toList = _
        unfold isNameL
        rw [decide_eq_false h1']
        rfl
    · rw [Bool.eq_false_iff.mpr hs]
      refine iteT ?_
      refine qF ?_
      cases d <;> first | rfl | exact absurd rfl hs
end
end Rv

namespace Rv
open PySem PySem.Spec PyProof.Rows L2 GxR Gx Gd
/-! ### pairs, texts, keys, integers -/
def isPairD : PyData → Bool
  | .tuple ds => decide (ds.length = 2)
  | _ => false
def isTextD (a b : Int) : PyData → Bool
  | .str x => decide (a ≤ (x.length : Int)) && decide ((x.length : Int) ≤ b) && x.cps.toList.all isChar
  | _ => false
abbrev isKeyD : PyData → Bool := isTextD 1 12
def isIntegerD : PyData → Bool
  | .int i => decide (0 ≤ i) && decide (i ≤ 999999)
  | _ => false
abbrev s_is_pair : Stmt := topS 19
abbrev s_is_text : Stmt := topS 20
abbrev s_is_key : Stmt := topS 14
abbrev s_is_integer : Stmt := topS 21
def spText (K : PySem.W.Frag) (ts : List Addr) : Sp := fun vs H Q _ => ∃ v d a b, vs = [v, .int a, .int b] ∧ Dt K H v d ∧ OkD d ∧ (∀ T ∈ ts, TabG H T) ∧ ∀ H', Kp H H' → Q (.bl (isTextD a b d)) H'
section
variable {P : Program} {w : World} {K : PySem.W.Frag} {mg : Str → Option Value} {base : Heap}
theorem sc_is_pair : FnScope ["thing"] ["thing"] (defScope s_is_pair) := ⟨rfl, rfl, rfl, by decide +kernel, rfl, by decide +kernel, by decide +kernel⟩
theorem c_is_pair (D : DefAt K mg "_is_pair" s_is_pair ["thing"]) (mi : mg "isinstance" = none) (mt : mg "tuple" = none) (ml : mg "len" = none) : Cal P w K mg base CX0 1 "_is_pair" ["thing"] (spData K [] isPairD) := by
  refine D.cal (k := 0) sc_is_pair (fun vs H Q E h => ?_) fun f cdv A outer s H vs Q E hr h => ?_
  · obtain ⟨v, d, rfl, _⟩ := h
    rfl
  · obtain ⟨v, d, rfl, hd, hz, hT, q⟩ := h
    refine ⟨_, pss_one (ps_ret (pe_and (pe_callB call_isi (by rfl) mi (by decide +kernel) (pa_cons (pv 0) (pa_cons (pe_bltn (v := .ty "tuple") (by rfl) mt (by decide +kernel) rfl) pa_nil)))
      (pe_one (pe_cmpR op_eq (pe_callB call_len_seq (by rfl) ml PySem.boot_len (pa_cons (pv 0) pa_nil)) pe_int (nomark _))))), ?_⟩
    have z := q H (Kb.refl H)
    refine ⟨v, rfl, v, .ty "tuple", _, _, isTupD d, rfl, ClsV.ty "tuple", hd.ty, kit_ty (kit_tup d), isTupD d, rfl, ?_⟩
    cases hd with
    | @tup a xs ds h hs =>
      refine iteT ⟨_, rfl, _, _, rfl, .inr h, rfl, ?_⟩
      have e : decide (V.int (xs.length : Int) = V.int 2) = isPairD (.tuple ds) := by
        show _ = decide _
        rw [← hs.length, Bool.eq_iff_iff, decide_eq_true_eq, decide_eq_true_eq]
        constructor
        · intro q
          have q := V.int.inj q
          omega
        · intro q
          rw [q]
          rfl
      rw [e]
      exact z
    | _ => exact iteF z
theorem sc_is_text : FnScope ["thing", "shortest", "longest"] ["thing", "shortest", "longest"] (defScope s_is_text) := ⟨rfl, rfl, rfl, by decide +kernel, rfl, by decide +kernel, by decide +kernel⟩
theorem c_is_text {T : Addr} (D : DefTab K mg base "_is_text" s_is_text ["thing", "shortest", "longest"] T) (mi : mg "isinstance" = none) (ms : mg "str" = none) (ml : mg "len" = none) (ma : mg "all" = none)
    (c1 : Cal P w K mg base CX0 1 "is_character" ["char"] (spSign isChar)) : Cal P w K mg base CX0 3 "_is_text" ["thing", "shortest", "longest"] (spText K [T]) := by
  refine D.cal (k := 2) sc_is_text (fun vs H Q E h => ?_) fun f c A outer s H vs Q E TB hr h => ?_
  · obtain ⟨v, d, a, b, rfl, _⟩ := h
    rfl
  · obtain ⟨v, d, a, b, rfl, hd, hz, hT, q⟩ := h
    refine ⟨_, pss_cons (ps_if (PW.pt (pw_or (pt_not (pt_val (pe_callB call_isi (by rfl) mi (by decide +kernel) (pa_cons (pv 0) (pa_cons (pe_bltn (v := .ty "str") (by rfl) ms (by decide +kernel) rfl) pa_nil)))))
          (pw_or1 (pt_not (pt_chain op_le op_le (pv 1) (pe_callB call_len_str (by rfl) ml PySem.boot_len (pa_cons (pv 0) pa_nil)) (pv 2))))))
        (pss_one (ps_ret pe_bl)) pss_nil)
      (pss_one (ps_ret (pe_allG hr.r (by rfl) ma TB rfl (genS_by (by decide +kernel)) Caps.nil (pi_str (pv 0)) rfl
          (fun _ _ _ _ _ _ => pg_name (i := 0) (nd1 _) rfl (Or.inl rfl)) (fun _ _ _ _ _ _ rk => pe_cal c1 ⟨rk, hr.g⟩ (by rfl) (pa_cons (pv 0) pa_nil))))), ?_⟩
    have qF : isTextD a b d = false → Q (.bl false) H := fun e => by
      have z := q H (Kb.refl H)
      rw [e] at z
      exact z
    refine ⟨v, rfl, v, .ty "str", _, _, isStrD d, rfl, ClsV.ty "str", hd.ty, kit_ty (kit_str d), _, rfl, ?_⟩
    cases hd with
    | str x =>
      refine iteF ⟨_, rfl, .str x, rfl, x, rfl, line1000 hz.str, a, (x.length : Int), rfl, rfl, _, rfl, ?_⟩
      by_cases h1 : a ≤ (x.length : Int)
      · rw [decide_eq_true h1]
        refine iteT ⟨_, rfl, _, _, rfl, rfl, _, rfl, ?_⟩
        by_cases h2 : (x.length : Int) ≤ b
        · rw [decide_eq_true h2]
          refine iteF ⟨.str x, rfl, x, rfl, ?_⟩
          refine all_str (p := isChar) (hT T (List.mem_singleton.mpr rfl)) (fun c _ H Q' q' => ⟨.str ⟨#[c]⟩, rfl, c, rfl, q'⟩) fun H2 h2' => ?_
          have z := q H2 (Kb.tabbed h2' (hT T (List.mem_singleton.mpr rfl)))
          have e : isTextD a b (.str x) = x.cps.toList.all isChar := by
            show (decide _ && decide _ && _) = _
            rw [decide_eq_true h1, decide_eq_true h2]
            rfl
          rw [e] at z
          exact z
        · rw [decide_eq_false h2]
          refine iteT (qF ?_)
          show (decide _ && decide _ && _) = _
          rw [decide_eq_false h2, Bool.and_false]
          rfl
      · rw [decide_eq_false h1]
        refine iteF ⟨_, rfl, ?_⟩
        refine iteT (qF ?_)
        show (decide _ && decide _ && _) = _
        rw [decide_eq_false h1]
        rfl
    | _ => exact iteT (qF rfl)
theorem sc_is_key : FnScope ["thing"] ["thing"] (defScope s_is_key) := ⟨rfl, rfl, rfl, by decide +kernel, rfl, by decide +kernel, by decide +kernel⟩
theorem c_is_key {ts : List Addr} (D : DefAt K mg "is_key" s_is_key ["thing"]) (gK : ∃ t, mg "KEY_LENGTH" = some (.int 12 t)) (c1 : Cal P w K mg base CX0 3 "_is_text" ["thing", "shortest", "longest"] (spText K ts)) :
    Cal P w K mg base CX0 4 "is_key" ["thing"] (spData K ts isKeyD) := by
  refine D.cal (k := 3) sc_is_key (fun vs H Q E h => ?_) fun f cdv A outer s H vs Q E hr h => ?_
  · obtain ⟨v, d, rfl, _⟩ := h
    rfl
  · obtain ⟨v, d, rfl, hd, hz, hT, q⟩ := h
    obtain ⟨t, gK⟩ := gK
    refine ⟨_, pss_one (ps_ret (pe_cal c1 hr (by rfl) (pa_cons (pv 0) (pa_cons pe_int (pa_cons (pe_glob (v := .int 12) rfl gK ⟨t, rfl⟩) pa_nil))))), ?_⟩
    exact ⟨v, rfl, v, d, 1, 12, rfl, hd, hz, hT, q⟩
theorem sc_is_integer : FnScope ["thing"] ["thing"] (defScope s_is_integer) := ⟨rfl, rfl, rfl, by decide +kernel, rfl, by decide +kernel, by decide +kernel⟩
theorem c_is_integer (D : DefAt K mg "_is_integer" s_is_integer ["thing"]) (mi : mg "isinstance" = none) (mb : mg "bool" = none) (mn : mg "int" = none) (gG : ∃ t, mg "GREATEST_INTEGER" = some (.int 999999 t)) : Cal P w K mg base CX0 1 "_is_integer" ["thing"] (spData K [] isIntegerD) := by
  refine D.cal (k := 0) sc_is_integer (fun vs H Q E h => ?_) fun f cdv A outer s H vs Q E hr h => ?_
  · obtain ⟨v, d, rfl, _⟩ := h
    rfl
  · obtain ⟨v, d, rfl, hd, hz, hT, q⟩ := h
    obtain ⟨t, gG⟩ := gG
    refine ⟨_, pss_cons (ps_if (PW.pt (pw_or (pt_val (pe_callB call_isi (by rfl) mi (by decide +kernel) (pa_cons (pv 0) (pa_cons (pe_bltn (v := .ty "bool") (by rfl) mb (by decide +kernel) rfl) pa_nil))))
          (pw_or1 (pt_not (pt_val (pe_callB call_isi (by rfl) mi (by decide +kernel) (pa_cons (pv 0) (pa_cons (pe_bltn (v := .ty "int") (by rfl) mn (by decide +kernel) rfl) pa_nil))))))))
        (pss_one (ps_ret pe_bl)) pss_nil)
      (pss_one (ps_ret (pe_chain op_le op_le pe_int (pv 0) (pe_glob (v := .int 999999) rfl gG ⟨t, rfl⟩)))), ?_⟩
    have z := q H (Kb.refl H)
    refine ⟨v, rfl, v, .ty "bool", _, _, isBoolD d, rfl, ClsV.ty "bool", hd.ty, kit_ty (kit_bool d), _, rfl, ?_⟩
    cases hd with
    | bl b => exact iteT z
    | int i =>
      refine iteF ⟨_, rfl, .int i, .ty "int", _, _, true, rfl, ClsV.ty "int", (Dt.int (K := K) (H := H) i).ty, kit_ty (kit_int (.int i)), _, rfl, ?_⟩
      refine iteF ⟨_, rfl, 0, i, rfl, rfl, _, rfl, ?_⟩
      have z : Q (.bl (decide (0 ≤ i) && decide (i ≤ 999999))) H := z
      by_cases h : 0 ≤ i
      · rw [decide_eq_true h] at z ⊢
        exact iteT ⟨i, 999999, rfl, rfl, z⟩
      · rw [decide_eq_false h] at z ⊢
        exact iteF z
    | non => exact iteF ⟨_, rfl, .non, .ty "int", _, _, false, rfl, ClsV.ty "int", (Dt.non (K := K) (H := H)).ty, kit_ty (kit_int .none), _, rfl, iteT z⟩
    | str x => exact iteF ⟨_, rfl, .str x, .ty "int", _, _, false, rfl, ClsV.ty "int", (Dt.str (K := K) (H := H) x).ty, kit_ty (kit_int (.str x)), _, rfl, iteT z⟩
    | tup h hs => exact iteF ⟨_, rfl, .ref _, .ty "int", _, _, false, rfl, ClsV.ty "int", (Dt.tup h hs).ty, kit_ty (kit_int (.tuple _)), _, rfl, iteT z⟩
end
end Rv

namespace Rv
open PySem PySem.Spec PyProof.Rows L2 GxR Gx Gd
/-! ### scalars -/
def scalOf (k c : PyData) : Bool := if PyData.eqv k (.str "bool") = true then isBoolD c else if PyData.eqv k (.str "int") = true then isIntegerD c else PyData.eqv k (.str "text") && isTextD 0 40 c
def pairScal : PyData → Bool
  | .tuple [k, c] => scalOf k c
  | _ => false
def isScalarD (d : PyData) : Bool := PyData.eqv d (.tuple [.str "none"]) || pairScal d
abbrev s_is_scalar : Stmt := topS 15
theorem sc_is_scalar : FnScope ["thing", "kind", "content"] ["thing"] (defScope s_is_scalar) := ⟨rfl, rfl, rfl, by decide +kernel, rfl, by decide +kernel, by decide +kernel⟩
section
variable {P : Program} {w : World} {K : PySem.W.Frag} {mg : Str → Option Value} {base : Heap}
theorem c_is_scalar {ts : List Addr} (D : DefAt K mg "is_scalar" s_is_scalar ["thing"]) (m_isinstance : mg "isinstance" = none) (m_bool : mg "bool" = none) (gT : ∃ t, mg "TEXT_LENGTH" = some (.int 40 t))
    (c__is_pair : Cal P w K mg base CX0 1 "_is_pair" ["thing"] (spData K [] isPairD)) (c__is_integer : Cal P w K mg base CX0 1 "_is_integer" ["thing"] (spData K [] isIntegerD)) (c__is_text : Cal P w K mg base CX0 3 "_is_text" ["thing", "shortest", "longest"] (spText K ts)) :
    Cal P w K mg base CX0 4 "is_scalar" ["thing"] (spData K ts isScalarD) := by
  refine D.cal (k := 3) sc_is_scalar (fun vs H Q E h => ?_) fun f cdv A outer s H vs Q E hr h => ?_
  · obtain ⟨v, d, rfl, _⟩ := h
    rfl
  · obtain ⟨v, d, rfl, hd, hz, hT, q⟩ := h
    obtain ⟨t, g_TEXT_LENGTH⟩ := gT
    refine ⟨_, (pss_cons (ps_if (pt_cmpR (op_eqD hr.r.units) (pv 0) (pe_tup (pa_cons pe_str pa_nil)) (nomark _)) (pss_one (ps_ret pe_bl)) pss_nil)
  (pss_cons (ps_if (pt_not (pt_val (pe_cal (c__is_pair.mono (by omega)) hr (by rfl) (pa_cons (pv 0) pa_nil)))) (pss_one (ps_ret pe_bl)) pss_nil)
  (pss_cons (ps_asg (pv 0) (pg_tup rfl (pgs_cons (pg_name (i := 1) sc_is_scalar.nd rfl (Or.inl rfl)) (pgs_cons (pg_name (i := 2) sc_is_scalar.nd rfl (Or.inl rfl)) pgs_nil))))
  (pss_cons (ps_if (pt_cmpR (op_eqD hr.r.units) (pv 1) pe_str (nomark _)) (pss_one (ps_ret (pe_callB call_isi (by rfl) m_isinstance (by decide +kernel) (pa_cons (pv 2) (pa_cons (pe_bltn (v := .ty "bool") (by rfl) m_bool (by decide +kernel) rfl) pa_nil))))) pss_nil)
  (pss_cons (ps_if (pt_cmpR (op_eqD hr.r.units) (pv 1) pe_str (nomark _)) (pss_one (ps_ret (pe_cal (c__is_integer.mono (by omega)) hr (by rfl) (pa_cons (pv 2) pa_nil)))) pss_nil)
  (pss_one (ps_ret (pe_and (pe_cmpR (op_eqD hr.r.units) (pv 1) pe_str (nomark _)) (pe_one (pe_cal (c__is_text.mono (by omega)) hr (by rfl) (pa_cons (pv 2) (pa_cons pe_int (pa_cons (pe_glob (v := .int 40) rfl g_TEXT_LENGTH ⟨_, rfl⟩) pa_nil))))))))))))), ?_⟩
    refine ⟨v, rfl, by show 1 ≤ sizeLine; decide, fun p hp => ?_⟩
    have k1 : Kp H (upd H p (.tup [.str "none"])) := Kb.new hp
    generalize hH1 : upd H p (.tup [.str "none"]) = H1 at k1 ⊢
    have e1 : SqT K H1 p [.str "none"] := by rw [← hH1]; exact SqT.of upd_same
    have hd1 := hd.kb k1 Lsts.nil
    refine ⟨d, .tuple [.str "none"], hd1.dp, .tup e1 (.cons (.str _) .nil), hz.shaped, by decide +kernel, _, rfl, ?_⟩
    cases e0 : PyData.eqv d (.tuple [.str "none"]) with
    | true =>
      have z := q H1 k1
      unfold isScalarD at z
      rw [e0] at z
      exact iteT z
    | false =>
      have q2 : ∀ (b : Bool) (H' : Hp), pairScal d = b → Kp H H' → Q (.bl b) H' := fun b H' e k => by
        have z := q H' k
        unfold isScalarD at z
        rw [e0, Bool.false_or, e] at z
        exact z
      refine iteF ⟨v, rfl, v, d, rfl, hd1, hz, (fun _ h => by cases h), fun H2 k2 => ⟨isPairD d, rfl, ?_⟩⟩
      have k12 := k1.trans k2
      have hd2 := hd1.kb k2 Lsts.nil
      cases hd2 with
      | @tup a xs ds h hs =>
        by_cases hl : ds.length = 2
        · obtain ⟨dk, dc, rfl⟩ : ∃ x y, ds = [x, y] := by
            match ds, hl with
            | [x, y], _ => exact ⟨x, y, rfl⟩
          cases hs with
          | @cons vk _ _ _ hk hs =>
            cases hs with
            | @cons vc _ _ _ hc hs =>
              cases hs
              have okk : OkD dk := hz.child (by simp)
              have okc : OkD dc := hz.child (by simp)
              refine iteF ⟨.ref a, rfl, a, [vk, vc], rfl, h, rfl, vk, [vc], rfl, vc, [], rfl, rfl, ?_⟩
              refine ⟨vk, rfl, dk, .str "bool", hk.dp, .str _, okk.shaped, by decide +kernel, _, rfl, ?_⟩
              have z : ∀ H', Kp H H' → Q (.bl (scalOf dk dc)) H' := fun H' k => q2 _ H' rfl k
              unfold scalOf at z
              cases eb : PyData.eqv dk (.str "bool") with
              | true =>
                rw [eb] at z
                exact iteT ⟨vc, rfl, vc, .ty "bool", _, _, isBoolD dc, rfl, ClsV.ty "bool", hc.ty, kit_ty (kit_bool dc), z H2 k12⟩
              | false =>
                rw [eb] at z
                refine iteF ⟨vk, rfl, dk, .str "int", hk.dp, .str _, okk.shaped, by decide +kernel, _, rfl, ?_⟩
                cases ei : PyData.eqv dk (.str "int") with
                | true =>
                  rw [ei] at z
                  exact iteT ⟨vc, rfl, vc, dc, rfl, hc, okc, (fun _ h => by cases h), fun H3 k3 => z H3 (k12.trans k3)⟩
                | false =>
                  rw [ei] at z
                  refine iteF ⟨vk, rfl, dk, .str "text", hk.dp, .str _, okk.shaped, by decide +kernel, _, rfl, ?_⟩
                  cases et : PyData.eqv dk (.str "text") with
                  | true =>
                    rw [et] at z
                    exact iteT ⟨vc, rfl, vc, dc, 0, 40, rfl, hc, okc, fun T hm => k12.tab T (hT T hm), fun H3 k3 => z H3 (k12.trans k3)⟩
                  | false =>
                    rw [et] at z
                    exact iteF (z H2 k12)
        · have e : isPairD (.tuple ds) = false := decide_eq_false hl
          rw [e]
          refine iteT (q2 false H2 ?_ k12)
          match ds, hl with
          | [], _ => rfl
          | [_], _ => rfl
          | [_, _], hl => exact absurd rfl hl
          | _ :: _ :: _ :: _, _ => rfl
      | _ => exact iteT (q2 false H2 rfl k12)
end
end Rv

namespace Rv
open PySem PySem.Spec PyProof.Rows L2 GxR Gx Gd
/-! ### right scalars, their plain texts -/
inductive Sc where
  | none | bool (b : Bool) | int (i : Int) | text (x : Str)
def Sc.d : Sc → PyData
  | .none => .tuple [.str "none"]
  | .bool b => .tuple [.str "bool", .bool b]
  | .int i => .tuple [.str "int", .int i]
  | .text x => .tuple [.str "text", .str x]
def Sc.plain : Sc → Str
  | .none => ""
  | .bool b => if b = true then "true" else "false"
  | .int i => toString i
  | .text x => x
def Sc.ok : Sc → Prop
  | .int i => 0 ≤ i ∧ i ≤ 999999
  | _ => True
theorem log_of {i : Int} (h : 0 ≤ i ∧ i ≤ 999999) : i.natAbs.log2 < 1920 := by
  have h1 : i.natAbs < 2 ^ 20 := by omega
  by_cases h0 : i.natAbs = 0
  · rw [h0]
    decide
  · have := (Nat.log2_lt h0).mpr h1
    omega
def spPlain (K : PySem.W.Frag) : Sp := fun vs H Q _ => ∃ v s, vs = [v] ∧ Dt K H v (Sc.d s) ∧ s.ok ∧ Q (.str s.plain) H
abbrev s_plain : Stmt := topS 17
theorem sc_plain : FnScope ["scalar"] ["scalar"] (defScope s_plain) := ⟨rfl, rfl, rfl, by decide +kernel, rfl, by decide +kernel, by decide +kernel⟩
abbrev s_is_entry : Stmt := topS 23
theorem sc_is_entry : FnScope ["thing"] ["thing"] (defScope s_is_entry) := ⟨rfl, rfl, rfl, by decide +kernel, rfl, by decide +kernel, by decide +kernel⟩
abbrev s_are_entries : Stmt := topS 22
theorem sc_are_entries : FnScope ["thing", "entry"] ["thing"] (defScope s_are_entries) := ⟨rfl, rfl, rfl, by decide +kernel, rfl, by decide +kernel, by decide +kernel⟩
abbrev s_is_value : Stmt := topS 16
theorem sc_is_value : FnScope ["thing"] ["thing"] (defScope s_is_value) := ⟨rfl, rfl, rfl, by decide +kernel, rfl, by decide +kernel, by decide +kernel⟩
def isEntryD : PyData → Bool
  | .tuple [k, s] => isKeyD k && isScalarD s
  | _ => false
def keyOfD : PyData → Key
  | .tuple (.str x :: _) => .inr x
  | _ => .inl 0
def areEntriesD : PyData → Bool
  | .tuple ds => decide (ds.length ≤ 8) && (ds.all isEntryD && decide ((ds.map keyOfD).Nodup))
  | _ => false
def pairMap : PyData → Bool
  | .tuple [k, m] => PyData.eqv k (.str "map") && areEntriesD m
  | _ => false
def isValueD (d : PyData) : Bool := isScalarD d || pairMap d
section
variable {P : Program} {w : World} {K : PySem.W.Frag} {mg : Str → Option Value} {base : Heap}
theorem c_plain (D : DefAt K mg "plain" s_plain ["scalar"]) (m_str : mg "str" = none) : Cal P w K mg base CX0 1 "plain" ["scalar"] (spPlain K) := by
  refine D.cal (k := 0) sc_plain (fun vs H Q E h => ?_) fun f cdv A outer s H vs Q E hr h => ?_
  · obtain ⟨v, s, rfl, _⟩ := h
    rfl
  · obtain ⟨v, sc, rfl, hd, ok, q⟩ := h
    refine ⟨_, (pss_cons (ps_if (pt_cmpR op_eq (pe_ix ix_tup (pv 0) pe_int (fun _ _ => rfl)) pe_str (nomark _)) (pss_one (ps_ret pe_str)) pss_nil)
  (pss_cons (ps_if (pt_cmpR op_eq (pe_ix ix_tup (pv 0) pe_int (fun _ _ => rfl)) pe_str (nomark _)) (pss_one (ps_ret (pe_ifExp (pt_val (pe_ix ix_tup (pv 0) pe_int (fun _ _ => rfl))) pe_str pe_str))) pss_nil)
  (pss_one (ps_ret (pe_callTy (call_str_int.or SkE.call_str_str) (by rfl) m_str (by decide +kernel) (pa_cons (pe_ix ix_tup (pv 0) pe_int (fun _ _ => rfl)) pa_nil)))))), ?_⟩
    cases sc with
    | none =>
      cases hd with
      | @tup a _ _ h hs =>
        cases hs with
        | cons hk hs =>
          cases hs
          cases hk
          exact ⟨.ref a, rfl, a, _, 0, _, rfl, rfl, h, atI_nat (j := 0) rfl, rfl, _, rfl, iteT q⟩
    | bool b =>
      cases hd with
      | @tup a _ _ h hs =>
        cases hs with
        | cons hk hs =>
          cases hs with
          | cons hc hs =>
            cases hs
            cases hk
            cases hc
            refine ⟨.ref a, rfl, a, _, 0, _, rfl, rfl, h, atI_nat (j := 0) rfl, rfl, _, rfl, iteF ?_⟩
            refine ⟨.ref a, rfl, a, _, 0, _, rfl, rfl, h, atI_nat (j := 0) rfl, rfl, _, rfl, iteT ?_⟩
            refine ⟨.ref a, rfl, a, _, 1, _, rfl, rfl, h, atI_nat (j := 1) rfl, b, rfl, ?_⟩
            cases b with
            | true => exact iteT q
            | false => exact iteF q
    | int i =>
      cases hd with
      | @tup a _ _ h hs =>
        cases hs with
        | cons hk hs =>
          cases hs with
          | cons hc hs =>
            cases hs
            cases hk
            cases hc
            refine ⟨.ref a, rfl, a, _, 0, _, rfl, rfl, h, atI_nat (j := 0) rfl, rfl, _, rfl, iteF ?_⟩
            refine ⟨.ref a, rfl, a, _, 0, _, rfl, rfl, h, atI_nat (j := 0) rfl, rfl, _, rfl, iteF ?_⟩
            exact ⟨.ref a, rfl, a, _, 1, _, rfl, rfl, h, atI_nat (j := 1) rfl, .inl ⟨i, rfl, log_of ok, q⟩⟩
    | text x =>
      cases hd with
      | @tup a _ _ h hs =>
        cases hs with
        | cons hk hs =>
          cases hs with
          | cons hc hs =>
            cases hs
            cases hk
            cases hc
            refine ⟨.ref a, rfl, a, _, 0, _, rfl, rfl, h, atI_nat (j := 0) rfl, rfl, _, rfl, iteF ?_⟩
            refine ⟨.ref a, rfl, a, _, 0, _, rfl, rfl, h, atI_nat (j := 0) rfl, rfl, _, rfl, iteF ?_⟩
            exact ⟨.ref a, rfl, a, _, 1, _, rfl, rfl, h, atI_nat (j := 1) rfl, .inr ⟨x, rfl, q⟩⟩
theorem c_is_entry {ts : List Addr} (D : DefAt K mg "_is_entry" s_is_entry ["thing"]) (c__is_pair : Cal P w K mg base CX0 1 "_is_pair" ["thing"] (spData K [] isPairD)) (c_is_key : Cal P w K mg base CX0 4 "is_key" ["thing"] (spData K ts isKeyD))
    (c_is_scalar : Cal P w K mg base CX0 4 "is_scalar" ["thing"] (spData K ts isScalarD)) : Cal P w K mg base CX0 5 "_is_entry" ["thing"] (spData K ts isEntryD) := by
  refine D.cal (k := 4) sc_is_entry (fun vs H Q E h => ?_) fun f cdv A outer s H vs Q E hr h => ?_
  · obtain ⟨v, s, rfl, _⟩ := h
    rfl
  · obtain ⟨v, d, rfl, hd, hz, hT, q⟩ := h
    refine ⟨_, (pss_one (ps_ret (pe_and (pe_cal (c__is_pair.mono (by omega)) hr (by rfl) (pa_cons (pv 0) pa_nil)) (pe_and (pe_cal (c_is_key.mono (by omega)) hr (by rfl) (pa_cons (pe_ix ix_tup (pv 0) pe_int (fun _ _ => rfl)) pa_nil)) (pe_one (pe_cal (c_is_scalar.mono (by omega)) hr (by rfl) (pa_cons (pe_ix ix_tup (pv 0) pe_int (fun _ _ => rfl)) pa_nil))))))), ?_⟩
    refine ⟨v, rfl, v, d, rfl, hd, hz, (fun _ h => by cases h), fun H1 k1 => ⟨isPairD d, rfl, ?_⟩⟩
    have hd1 := hd.kb k1 Lsts.nil
    cases hd1 with
    | @tup a xs ds h hs =>
      by_cases hl : ds.length = 2
      · obtain ⟨dk, dc, rfl⟩ : ∃ x y, ds = [x, y] := by
          match ds, hl with
          | [x, y], _ => exact ⟨x, y, rfl⟩
        cases hs with
        | @cons vk _ _ _ hk hs =>
          cases hs with
          | @cons vc _ _ _ hc hs =>
            cases hs
            have okk : OkD dk := hz.child (by simp)
            have okc : OkD dc := hz.child (by simp)
            have z : ∀ H', Kp H H' → Q (.bl (isKeyD dk && isScalarD dc)) H' := q
            refine iteT ⟨.ref a, rfl, a, _, 0, _, rfl, rfl, h, atI_nat (j := 0) rfl, vk, dk, rfl, hk, okk, fun T hm => k1.tab T (hT T hm), fun H2 k2 => ⟨isKeyD dk, rfl, ?_⟩⟩
            cases e : isKeyD dk with
            | false =>
              rw [e] at z
              exact iteF (z H2 (k1.trans k2))
            | true =>
              rw [e] at z
              exact iteT ⟨.ref a, rfl, a, _, 1, _, rfl, rfl, k2.sqT Lsts.nil h, atI_nat (j := 1) rfl, vc, dc, rfl, hc.kb k2 Lsts.nil, okc, fun T hm => k2.tab T (k1.tab T (hT T hm)), fun H3 k3 => z H3 ((k1.trans k2).trans k3)⟩
      · have e : isPairD (.tuple ds) = false := decide_eq_false hl
        have e2 : isEntryD (.tuple ds) = false := by
          match ds, hl with
          | [], _ => rfl
          | [_], _ => rfl
          | [_, _], hl => exact absurd rfl hl
          | _ :: _ :: _ :: _, _ => rfl
        have z := q H1 k1
        rw [e2] at z
        rw [e]
        exact iteF z
    | _ => exact iteF (q H1 k1)
theorem c_is_value {ts : List Addr} (D : DefAt K mg "is_value" s_is_value ["thing"]) (c__is_pair : Cal P w K mg base CX0 1 "_is_pair" ["thing"] (spData K [] isPairD))
    (c_is_scalar : Cal P w K mg base CX0 4 "is_scalar" ["thing"] (spData K ts isScalarD)) (c__are_entries : Cal P w K mg base CX0 7 "_are_entries" ["thing"] (spData K ts areEntriesD)) : Cal P w K mg base CX0 8 "is_value" ["thing"] (spData K ts isValueD) := by
  refine D.cal (k := 7) sc_is_value (fun vs H Q E h => ?_) fun f cdv A outer s H vs Q E hr h => ?_
  · obtain ⟨v, s, rfl, _⟩ := h
    rfl
  · obtain ⟨v, d, rfl, hd, hz, hT, q⟩ := h
    refine ⟨_, (pss_cons (ps_if (pt_val (pe_cal (c_is_scalar.mono (by omega)) hr (by rfl) (pa_cons (pv 0) pa_nil))) (pss_one (ps_ret pe_bl)) pss_nil)
  (pss_one (ps_ret (pe_and (pe_cal (c__is_pair.mono (by omega)) hr (by rfl) (pa_cons (pv 0) pa_nil)) (pe_and (pe_cmpR (op_eqD hr.r.units) (pe_ix ix_tup (pv 0) pe_int (fun _ _ => rfl)) pe_str (nomark _)) (pe_one (pe_cal (c__are_entries.mono (by omega)) hr (by rfl) (pa_cons (pe_ix ix_tup (pv 0) pe_int (fun _ _ => rfl)) pa_nil)))))))), ?_⟩
    refine ⟨v, rfl, v, d, rfl, hd, hz, hT, fun H1 k1 => ⟨isScalarD d, rfl, ?_⟩⟩
    have z : ∀ H', Kp H H' → Q (.bl (isScalarD d || pairMap d)) H' := q
    cases es : isScalarD d with
    | true =>
      rw [es] at z
      exact iteT (z H1 k1)
    | false =>
      rw [es] at z
      have hd1 := hd.kb k1 Lsts.nil
      refine iteF ⟨v, rfl, v, d, rfl, hd1, hz, (fun _ h => by cases h), fun H2 k2 => ⟨isPairD d, rfl, ?_⟩⟩
      have k12 := k1.trans k2
      have hd2 := hd1.kb k2 Lsts.nil
      cases hd2 with
      | @tup a xs ds h hs =>
        by_cases hl : ds.length = 2
        · obtain ⟨dk, dc, rfl⟩ : ∃ x y, ds = [x, y] := by
            match ds, hl with
            | [x, y], _ => exact ⟨x, y, rfl⟩
          cases hs with
          | @cons vk _ _ _ hk hs =>
            cases hs with
            | @cons vc _ _ _ hc hs =>
              cases hs
              have okk : OkD dk := hz.child (by simp)
              have okc : OkD dc := hz.child (by simp)
              have z : ∀ H', Kp H H' → Q (.bl (PyData.eqv dk (.str "map") && areEntriesD dc)) H' := z
              refine iteT ⟨.ref a, rfl, a, _, 0, _, rfl, rfl, h, atI_nat (j := 0) rfl, dk, .str "map", hk.dp, .str _, okk.shaped, by decide +kernel, _, rfl, ?_⟩
              cases e : PyData.eqv dk (.str "map") with
              | false =>
                rw [e] at z
                exact iteF (z H2 k12)
              | true =>
                rw [e] at z
                exact iteT ⟨.ref a, rfl, a, _, 1, _, rfl, rfl, h, atI_nat (j := 1) rfl, vc, dc, rfl, hc, okc, fun T hm => k12.tab T (hT T hm), fun H3 k3 => z H3 (k12.trans k3)⟩
        · have e : isPairD (.tuple ds) = false := decide_eq_false hl
          have e2 : pairMap (.tuple ds) = false := by
            match ds, hl with
            | [], _ => rfl
            | [_], _ => rfl
            | [_, _], hl => exact absurd rfl hl
            | _ :: _ :: _ :: _, _ => rfl
          have z := z H2 k12
          rw [e2] at z
          rw [e]
          exact iteF z
      | _ => exact iteF (z H2 k12)
end
end Rv

namespace Rv
open PySem PySem.Spec PyProof.Rows L2 GxR Gx Gd
theorem sp_more {K : PySem.W.Frag} {ts ts' : List Addr} {p : PyData → Bool} (h : ∀ T ∈ ts, T ∈ ts') : ∀ (vs : List V) (H : Hp) (Q : VK) (E : XK), spData K ts' p vs H Q E → spData K ts p vs H Q E :=
  fun _ _ _ _ ⟨v, d, e, hd, hz, hT, q⟩ => ⟨v, d, e, hd, hz, fun T hm => hT T (h T hm), q⟩
theorem entry_shape {d : PyData} (h : isEntryD d = true) : ∃ x s, d = .tuple [.str x, s] := by
  unfold isEntryD at h
  split at h
  · rename_i k s
    rw [Bool.and_eq_true] at h
    have h1 := h.1
    cases k with
    | str x => exact ⟨x, s, rfl⟩
    | _ => cases h1
  · cases h
section
variable {P : Program} {w : World} {K : PySem.W.Frag} {mg : Str → Option Value} {base : Heap}
theorem c_are_entries {T : Addr} {ts : List Addr} (D : DefTab K mg base "_are_entries" s_are_entries ["thing"] T) (gM : ∃ t, mg "MAP_SIZE" = some (.int 8 t)) (m_isinstance : mg "isinstance" = none) (m_tuple : mg "tuple" = none) (m_len : mg "len" = none) (m_all : mg "all" = none)
    (c__is_entry : Cal P w K mg base CX0 5 "_is_entry" ["thing"] (spData K ts isEntryD)) (hTs : T ∈ ts) : Cal P w K mg base CX0 7 "_are_entries" ["thing"] (spData K ts areEntriesD) := by
  refine D.cal (k := 6) sc_are_entries (fun vs H Q E h => ?_) fun f c A outer s H vs Q E TB hr h => ?_
  · obtain ⟨v, s, rfl, _⟩ := h
    rfl
  · obtain ⟨v, d, rfl, hd, hz, hT, q⟩ := h
    obtain ⟨t, g_MAP_SIZE⟩ := gM
    refine ⟨_, (pss_cons (ps_if (PW.pt (pw_or (pt_not (pt_val (pe_callB call_isi (by rfl) m_isinstance (by decide +kernel) (pa_cons (pv 0) (pa_cons (pe_bltn (v := .ty "tuple") (by rfl) m_tuple (by decide +kernel) rfl) pa_nil))))) (pw_or1 (pt_cmpR op_gt (pe_callB call_len_seq (by rfl) m_len (by decide +kernel) (pa_cons (pv 0) pa_nil)) (pe_glob (v := .int 8) rfl g_MAP_SIZE ⟨_, rfl⟩) (nomark _))))) (pss_one (ps_ret pe_bl)) pss_nil)
  (pss_cons (ps_if (pt_not (pt_val (pe_allG hr.r (by rfl) m_all TB rfl (genS_by (by decide +kernel)) Caps.nil (pi_tup (pv 0)) rfl (fun _ _ _ _ _ _ => pg_name (i := 0) (nd1 _) rfl (Or.inl rfl)) (fun _ _ _ _ _ _ rk => (pe_cal (c__is_entry.mono (by omega)) (RoomG.mk rk hr.g) (by rfl) (pa_cons (pv 0) pa_nil)))))) (pss_one (ps_ret pe_bl)) pss_nil)
  (pss_one (ps_ret (pe_cmpR op_eq (pe_callB call_lenK (by rfl) m_len (by decide +kernel) (pa_cons (pe_scK rfl sc_are_entries.nd (pi_tup (pv 0)) (blkOk_by (own := [("entry", 1)]) (N := ["thing", "entry"]) (sc := defScope s_are_entries) (by decide +kernel)) (fun _ _ _ _ _ => (pg_name (i := 1) sc_are_entries.nd rfl (Or.inl rfl))) (fun _ _ _ _ _ => pts_nil) (fun _ _ _ _ _ => (pe_ix (ix_tupK (K := K) rfl) (pv 1) pe_int (fun _ _ => rfl)))) pa_nil)) (pe_callB call_len_seq (by rfl) m_len (by decide +kernel) (pa_cons (pv 0) pa_nil)) (nomark _)))))), ?_⟩
    refine ⟨v, rfl, v, .ty "tuple", _, _, isTupD d, rfl, ClsV.ty "tuple", hd.ty, kit_ty (kit_tup d), _, rfl, ?_⟩
    cases hd with
    | @tup a xs ds h hs =>
      have hlen := hs.length
      refine iteF ⟨.ref a, rfl, a, xs, rfl, .inr h, (xs.length : Int), 8, rfl, rfl, _, rfl, ?_⟩
      by_cases h8 : ds.length ≤ 8
      · have e8 : decide ((8 : Int) < (xs.length : Int)) = false := decide_eq_false (by omega)
        rw [e8]
        refine iteF ?_
        have z : ∀ (b : Bool) H', (ds.all isEntryD && decide ((ds.map keyOfD).Nodup)) = b → Kp H H' → Q (.bl b) H' := fun b H' e k => by
          have z := q H' k
          have e1 : areEntriesD (.tuple ds) = (decide (ds.length ≤ 8) && (ds.all isEntryD && decide ((ds.map keyOfD).Nodup))) := rfl
          rw [e1, decide_eq_true h8, Bool.true_and, e] at z
          exact z
        dsimp only [tNext, tSeq, tIfS, tNot, tB]
        refine rd_all_tup (i := 0) (p := isEntryD) rfl (hT T hTs) h hs (fun v' d' H' Q' hm hv k q' => ?_) fun H1 k1 => ⟨ds.all isEntryD, rfl, ?_⟩
        · exact ⟨v', rfl, v', d', rfl, hv, hz.child hm, fun T' hm' => k.tab T' (hT T' hm'), q'⟩
        · cases ea : ds.all isEntryD with
          | false => exact iteT (z false H1 (by rw [ea]; rfl) k1)
          | true =>
            have h1 := k1.sqT Lsts.nil h
            have hs1 := DtAll.kb k1 Lsts.nil hs
            have shape : ∀ d' ∈ ds, ∃ x s, d' = .tuple [.str x, s] := fun d' hm => entry_shape (List.all_eq_true.mp ea d' hm)
            refine iteF ?_
            dsimp only [tNext, tSeq, tIfS, tNot, tB, tRet, tOp, tCB, tCons, tNil]
            refine rd_scK_tup (i := 0) (j := 1) rfl (ks := ds.map keyOfD) h1 (by rw [List.length_map, hlen]) (by rw [hlen]; exact hz.len) (by show 1 < 2; decide) (fun i v' ky H' Q' hv hk k q' => ?_) fun D H2 hD k2 hset => ?_
            · obtain ⟨d', hd', hvd⟩ := hs1.get hv
              obtain ⟨x, s', rfl⟩ := shape d' (List.mem_of_getElem? hd')
              rw [List.getElem?_map, hd'] at hk
              have ek : Sum.inr x = ky := Option.some.inj hk
              subst ek
              have hvd := hvd.kb k Lsts.nil
              cases hvd with
              | @tup b ys _ hb hys =>
                cases hys with
                | cons hx hys =>
                  cases hx
                  exact ⟨.ref b, rfl, b, _, 0, _, rfl, rfl, hb, atI_nat (j := 0) rfl, q'⟩
            · have k12 := k1.trans k2
              refine ⟨D, _, _, rfl, hset, .ref a, rfl, a, xs, rfl, .inr (k2.sqT Lsts.nil h1), rfl, ?_⟩
              refine z _ H2 ?_ k12
              rw [ea, Bool.true_and, Bool.eq_iff_iff, decide_eq_true_eq, decide_eq_true_eq]
              have hall := keysOf_all (ds.map keyOfD)
              rw [List.length_map] at hall
              constructor
              · intro n
                rw [hall.mpr n, hlen]
              · intro e
                have e := V.int.inj e
                exact hall.mp (by omega)
      · have e8 : decide ((8 : Int) < (xs.length : Int)) = true := decide_eq_true (by omega)
        rw [e8]
        refine iteT ?_
        have z := q H (Kb.refl H)
        have e1 : areEntriesD (.tuple ds) = (decide (ds.length ≤ 8) && (ds.all isEntryD && decide ((ds.map keyOfD).Nodup))) := rfl
        rw [e1, decide_eq_false h8] at z
        exact z
    | _ => exact iteT (q H (Kb.refl H))
end
end Rv

namespace Rs
open PySem PySem.Spec PyProof.Rows L2 GxR Gx Gd
def topS (i : Nat) : Stmt := PySem.Challenge.pw_remoteviews_k40_entries_read_back.main.body.getD i (.Pass ⟨0, 0, 0, 0⟩)
abbrev s_is_character : Stmt := topS 11
abbrev s_is_digit : Stmt := topS 12
abbrev s_is_small : Stmt := topS 18
/-! ### signs -/
def inRg (a b c : Nat) : Bool := decide (a ≤ c) && decide (c ≤ b)
def isSmall : Nat → Bool := inRg 97 122
def isDigit : Nat → Bool := inRg 48 57
def isChar (c : Nat) : Bool := inRg 32 126 c && !decide (c = 37)
theorem lt1 {a b : Nat} : decide (([a] : List Nat) < [b]) = decide (a < b) := by
  rw [Bool.eq_iff_iff, decide_eq_true_eq, decide_eq_true_eq]
  constructor
  · intro h
    cases h with
    | rel h => exact h
    | cons h => cases h
  · intro h
    exact .rel h
theorem le1 {a b : Nat} : (!decide (([b] : List Nat) < [a])) = decide (a ≤ b) := by
  rw [lt1, Bool.eq_iff_iff, Bool.not_eq_true', decide_eq_false_iff_not, decide_eq_true_eq]
  omega
def spSign (p : Nat → Bool) : Sp := fun vs H Q _ => ∃ c, vs = [.str ⟨#[c]⟩] ∧ Q (.bl (p c)) H
abbrev rLeS : R2 := fun x y H Q => ∃ i j, x = .str i ∧ y = .str j ∧ Q (.bl (!decide (j.cps.toList < i.cps.toList))) H
theorem chain_rd {a b c : Nat} {xa xb : Str} {σ : L2.St} {H : Hp} {Q : VK} {i : Nat} (ha : xa = ⟨#[a]⟩) (hb : xb = ⟨#[b]⟩) (hs : σ[i]? = some (some (.str ⟨#[c]⟩))) (q : Q (.bl (inRg a b c)) H) :
    tChain rLeS rLeS (tC (.str xa)) (tVar i) (tC (.str xb)) σ H Q := by
  subst ha hb
  refine ⟨_, hs, ⟨#[a]⟩, ⟨#[c]⟩, rfl, rfl, _, rfl, ?_⟩
  show if (!decide (([c] : List Nat) < [a])) = true then ∃ i j, V.str ⟨#[c]⟩ = .str i ∧ V.str ⟨#[b]⟩ = .str j ∧ Q (.bl (!decide (j.cps.toList < i.cps.toList))) H else Q (.bl false) H
  rw [le1]
  unfold inRg at q
  by_cases h : a ≤ c
  · rw [decide_eq_true h] at q ⊢
    rw [if_pos rfl]
    refine ⟨_, _, rfl, rfl, ?_⟩
    show Q (.bl (!decide (([b] : List Nat) < [c]))) H
    rw [le1]
    exact q
  · rw [decide_eq_false h] at q ⊢
    exact iteF q
theorem chain_and {a b c : Nat} {xa xb : Str} {σ : L2.St} {H : Hp} {Q : VK} {i : Nat} {tb : TE} (ha : xa = ⟨#[a]⟩) (hb : xb = ⟨#[b]⟩) (hs : σ[i]? = some (some (.str ⟨#[c]⟩))) (q : if inRg a b c = true then tb σ H Q else Q (.bl false) H) :
    tAndV (tChain rLeS rLeS (tC (.str xa)) (tVar i) (tC (.str xb))) tb σ H Q := chain_rd ha hb hs ⟨_, rfl, q⟩
section
variable {P : Program} {w : World} {K : PySem.W.Frag} {mg : Str → Option Value} {base : Heap}
theorem sc_is_small : FnScope ["char"] ["char"] (defScope s_is_small) := ⟨rfl, rfl, rfl, by decide +kernel, rfl, by decide +kernel, by decide +kernel⟩
theorem c_is_small (D : DefAt K mg "_is_small" s_is_small ["char"]) : Cal P w K mg base CX0 1 "_is_small" ["char"] (spSign isSmall) := by
  refine D.cal (k := 0) sc_is_small (fun vs H Q E h => ?_) fun f cdv A outer s H vs Q E hr h => ?_
  · obtain ⟨c, rfl, _⟩ := h
    rfl
  · obtain ⟨c, rfl, q⟩ := h
    refine ⟨_, pss_one (ps_ret (pe_chain op_le_str op_le_str pe_str (pv 0) pe_str)), ?_⟩
    exact chain_rd rfl rfl rfl q
theorem sc_is_digit : FnScope ["char"] ["char"] (defScope s_is_digit) := ⟨rfl, rfl, rfl, by decide +kernel, rfl, by decide +kernel, by decide +kernel⟩
theorem c_is_digit (D : DefAt K mg "is_digit" s_is_digit ["char"]) : Cal P w K mg base CX0 1 "is_digit" ["char"] (spSign isDigit) := by
  refine D.cal (k := 0) sc_is_digit (fun vs H Q E h => ?_) fun f cdv A outer s H vs Q E hr h => ?_
  · obtain ⟨c, rfl, _⟩ := h
    rfl
  · obtain ⟨c, rfl, q⟩ := h
    refine ⟨_, pss_one (ps_ret (pe_chain op_le_str op_le_str pe_str (pv 0) pe_str)), ?_⟩
    exact chain_rd rfl rfl rfl q
theorem sc_is_character : FnScope ["char"] ["char"] (defScope s_is_character) := ⟨rfl, rfl, rfl, by decide +kernel, rfl, by decide +kernel, by decide +kernel⟩
theorem c_is_character (D : DefAt K mg "is_character" s_is_character ["char"]) (gP : ∃ t, mg "PERCENT" = some (.int 37 t)) (mo : mg "ord" = none) : Cal P w K mg base CX0 1 "is_character" ["char"] (spSign isChar) := by
  refine D.cal (k := 0) sc_is_character (fun vs H Q E h => ?_) fun f cdv A outer s H vs Q E hr h => ?_
  · obtain ⟨c, rfl, _⟩ := h
    rfl
  · obtain ⟨c, rfl, q⟩ := h
    obtain ⟨t, gP⟩ := gP
    refine ⟨_, pss_one (ps_ret (pe_and (pe_chain op_le_str op_le_str pe_str (pv 0) pe_str) (pe_one (pe_cmpR op_ne (pe_callB call_ord (by rfl) mo (by decide +kernel) (pa_cons (pv 0) pa_nil)) (pe_glob (v := .int 37) rfl gP ⟨t, rfl⟩) (nomark _))))), ?_⟩
    refine chain_and (a := 32) (b := 126) (c := c) rfl rfl rfl ?_
    cases e : inRg 32 126 c with
    | false =>
      refine iteF ?_
      unfold isChar at q
      rw [e] at q
      exact q
    | true =>
      refine iteT ⟨_, rfl, _, rfl, rfl, rfl, ?_⟩
      unfold isChar at q
      rw [e] at q
      have e2 : decide (V.int (((#[c] : Array Nat).getD 0 0 : Nat) : Int) = V.int 37) = decide (c = 37) := by
        rw [Bool.eq_iff_iff, decide_eq_true_eq, decide_eq_true_eq]
        constructor
        · intro h
          have h := V.int.inj h
          have h2 : ((c : Nat) : Int) = 37 := h
          omega
        · intro h
          subst h
          rfl
      rw [e2]
      exact q
end
end Rs
namespace Rs
open PySem PySem.Spec PyProof.Rows L2 GxR Gx Gd
def isNameL (l : List Nat) : Bool := decide (1 ≤ l.length) && decide (l.length ≤ 12) && ((match l with | c :: _ => isSmall c | [] => false) && l.all (fun c => isSmall c || isDigit c))
def isName : PyData → Bool
  | .str x => isNameL x.cps.toList
  | _ => false
abbrev s_is_name : Stmt := topS 13
section
variable {P : Program} {w : World} {K : PySem.W.Frag} {mg : Str → Option Value} {base : Heap}
theorem sc_is_name : FnScope ["thing"] ["thing"] (defScope s_is_name) := ⟨rfl, rfl, rfl, by decide +kernel, rfl, by decide +kernel, by decide +kernel⟩
theorem c_is_name {T : Addr} (D : DefTab K mg base "is_name" s_is_name ["thing"] T) (gN : ∃ t, mg "NAME_LENGTH" = some (.int 12 t)) (mi : mg "isinstance" = none) (ms : mg "str" = none) (ml : mg "len" = none) (ma : mg "all" = none)
    (c1 : Cal P w K mg base CX0 1 "_is_small" ["char"] (spSign isSmall)) (c2 : Cal P w K mg base CX0 1 "is_digit" ["char"] (spSign isDigit)) : Cal P w K mg base CX0 3 "is_name" ["thing"] (spData K [T] isName) := by
  refine D.cal (k := 2) sc_is_name (fun vs H Q E h => ?_) fun f c A outer s H vs Q E TB hr h => ?_
  · obtain ⟨v, d, rfl, _⟩ := h
    rfl
  · obtain ⟨v, d, rfl, hd, hz, hT, q⟩ := h
    obtain ⟨t, gN⟩ := gN
    refine ⟨_, pss_cons (ps_if (PW.pt (pw_or (pt_not (pt_val (pe_callB call_isi (by rfl) mi (by decide +kernel) (pa_cons (pv 0) (pa_cons (pe_bltn (v := .ty "str") (by rfl) ms (by decide +kernel) rfl) pa_nil)))))
          (pw_or1 (pt_not (pt_chain op_le op_le pe_int (pe_callB call_len_str (by rfl) ml PySem.boot_len (pa_cons (pv 0) pa_nil)) (pe_glob (v := .int 12) rfl gN ⟨t, rfl⟩))))))
        (pss_one (ps_ret pe_bl)) pss_nil)
      (pss_one (ps_ret (pe_and (pe_cal (c1.mono (by decide : 1 ≤ 2)) hr (by rfl) (pa_cons (pe_ix ix_str (pv 0) pe_int (fun _ _ => rfl)) pa_nil))
        (pe_one (pe_allG hr.r (by rfl) ma TB rfl (genS_by (by decide +kernel)) Caps.nil (pi_str (pv 0)) rfl
          (fun _ _ _ _ _ _ => pg_name (i := 0) (nd1 _) rfl (Or.inl rfl))
          (fun _ _ _ _ _ _ rk => pe_or (pe_cal c1 ⟨rk, hr.g⟩ (by rfl) (pa_cons (pv 0) pa_nil)) (pe_one (pe_cal c2 ⟨rk, hr.g⟩ (by rfl) (pa_cons (pv 0) pa_nil))))))))), ?_⟩
    refine ⟨v, rfl, v, .ty "str", _, _, isStrD d, rfl, ClsV.ty "str", hd.ty, kit_ty (kit_str d), _, rfl, ?_⟩
    have qF : isName d = false → Q (.bl false) H := fun e => by
      have z := q H (Kb.refl H)
      rw [e] at z
      exact z
    by_cases hs : isStrD d = true
    · cases hd <;> first | (cases hs; done) | skip
      rename_i x
      refine iteF ?_
      have hx : x.length = x.cps.toList.length := by simp [Str.length]
      have hlen := hz.str
      refine ⟨_, rfl, x, rfl, line1000 hlen, 1, (x.length : Int), rfl, rfl, _, rfl, ?_⟩
      by_cases h1 : (1 : Int) ≤ (x.length : Int)
      · rw [decide_eq_true h1]
        refine iteT ⟨_, _, rfl, rfl, _, rfl, ?_⟩
        by_cases h2 : (x.length : Int) ≤ 12
        · rw [decide_eq_true h2]
          refine iteF ?_
          obtain ⟨l, hl⟩ : ∃ l, x.cps.toList = l := ⟨_, rfl⟩
          cases l with
          | nil =>
            rw [hx, hl] at h1
            exact absurd h1 (by decide)
          | cons c0 r =>
            have en : isName (.str x) = (isSmall c0 && x.cps.toList.all fun c => isSmall c || isDigit c) := by
              have h1' : 1 ≤ x.cps.toList.length := by omega
              have h2' : x.cps.toList.length ≤ 12 := by omega
              show isNameL x.cps.toList = _
              unfold isNameL
              rw [decide_eq_true h1', decide_eq_true h2', hl]
              rfl
            refine ⟨.str x, rfl, x, 0, c0, rfl, rfl, line1000 hlen, by rw [hl]; exact atI_nat (j := 0) rfl, c0, rfl, isSmall c0, rfl, ?_⟩
            cases e0 : isSmall c0 with
            | false =>
              refine iteF (qF ?_)
              rw [en, e0]
              rfl
            | true =>
              refine iteT ⟨.str x, rfl, x, rfl, ?_⟩
              refine all_str (p := fun c => isSmall c || isDigit c) (hT T (List.mem_singleton.mpr rfl)) (fun c _ H Q' q' => ⟨.str ⟨#[c]⟩, rfl, c, rfl, isSmall c, rfl, ?_⟩) fun H2 h2 => ?_
              · cases e1 : isSmall c with
                | true =>
                  rw [e1] at q'
                  exact iteT q'
                | false =>
                  rw [e1] at q'
                  exact iteF ⟨.str ⟨#[c]⟩, rfl, c, rfl, q'⟩
              · have z := q H2 (Kb.tabbed h2 (hT T (List.mem_singleton.mpr rfl)))
                rw [en, e0] at z
                exact z
        · rw [decide_eq_false h2]
          refine iteT ?_
          have h2' : ¬ x.cps.toList.length ≤ 12 := by omega
          refine qF ?_
          show isNameL x.cps.toList = _
          unfold isNameL
          rw [decide_eq_false h2', Bool.and_false]
          rfl
      · rw [decide_eq_false h1]
        refine iteF ⟨_, rfl, ?_⟩
        have h1' : ¬ 1 ≤ x.cps.toList.length := by omega
        refine qF ?_
        show isNameL x.cps.toList = _
        unfold isNameL
        rw [decide_eq_false h1']
        rfl
    · rw [Bool.eq_false_iff.mpr hs]
      refine iteT ?_
      refine qF ?_
      cases d <;> first | rfl | exact absurd rfl hs
end
end Rs

namespace Rs
open PySem PySem.Spec PyProof.Rows L2 GxR Gx Gd
/-! ### signs, as they are read -/
def sx (l : List Nat) : Str := ⟨l.toArray⟩
theorem sx_tl (l : List Nat) : (sx l).cps.toList = l := by simp [sx]
theorem sx_len (l : List Nat) : (sx l).length = l.length := by simp [sx, Str.length]
theorem sx_of (x : Str) : sx x.cps.toList = x := by simp [sx]
theorem sx_inj {a b : List Nat} (h : sx a = sx b) : a = b := by rw [← sx_tl a, h, sx_tl]
inductive Sg where
  | name (l : List Nat) | num (n : Nat) | quo (l : List Nat) | mark (c : Nat)
def Sg.d : Sg → PyData
  | .name l => .tuple [.str "name", .str (sx l)]
  | .num n => .tuple [.str "number", .int (n : Int)]
  | .quo l => .tuple [.str "quoted", .str (sx l)]
  | .mark c => .tuple [.str "mark", .str (sx [c])]
def isRun (c : Nat) : Bool := isSmall c || (inRg 65 90 c || isDigit c)
def isNumL (l : List Nat) : Bool := decide (l.length ≤ 9) && (l.all isDigit && (decide (l = [48]) || !decide (l.head? = some 48)))
def isMark (c : Nat) : Bool := decide (c = 40) || (decide (c = 41) || (decide (c = 44) || decide (c = 61)))
def escOf (c : Nat) : Option Nat := if c = 34 then some 34 else if c = 92 then some 92 else if c = 110 then some 10 else none
/-- what stands behind the opening quotation mark: the content and how far it goes -/
def readQ : List Nat → Option (List Nat × Nat)
  | [] => none
  | [c] => if c = 34 then some ([], 1) else none
  | c :: e :: r => if c = 34 then some ([], 1) else if c = 92 then (match escOf e with | some m => (readQ r).map fun p => (m :: p.1, p.2 + 2) | none => none) else if isChar c = true then (readQ (e :: r)).map fun p => (c :: p.1, p.2 + 1) else none
def runOf (l : List Nat) : List Nat := l.takeWhile isRun
/-- the sign that begins a row, and its length -/
def readS : List Nat → Option (Sg × Nat)
  | [] => none
  | c :: r => if isMark c = true then some (.mark c, 1) else if c = 34 then (readQ r).map fun p => (.quo p.1, p.2 + 1) else if isRun c = true then
      (if isNameL (runOf (c :: r)) = true then some (.name (runOf (c :: r)), (runOf (c :: r)).length) else if isNumL (runOf (c :: r)) = true then some (.num (NumText.digitsVal (runOf (c :: r))), (runOf (c :: r)).length) else none)
    else none
theorem readS_cons (c : Nat) (r : List Nat) : readS (c :: r) = if isMark c = true then some (.mark c, 1) else if c = 34 then (readQ r).map fun p => (.quo p.1, p.2 + 1) else if isRun c = true then
      (if isNameL (runOf (c :: r)) = true then some (.name (runOf (c :: r)), (runOf (c :: r)).length) else if isNumL (runOf (c :: r)) = true then some (.num (NumText.digitsVal (runOf (c :: r))), (runOf (c :: r)).length) else none)
    else none := rfl
/-- the signs of a row, or where none begins -/
inductive Out where | ok (ss : List Sg) | bad (o : Nat)
def Out.shift (w : Nat) (ss : List Sg) : Out → Out
  | .ok ts => .ok (ss ++ ts)
  | .bad o => .bad (w + o)
def splitF : Nat → List Nat → Out
  | _, [] => .ok []
  | 0, _ => .ok []
  | f + 1, c :: r => if c = 32 then (splitF f r).shift 1 [] else match readS (c :: r) with | none => .bad 0 | some (s, w) => (splitF f ((c :: r).drop w)).shift w [s]
theorem splitF_cons (f c : Nat) (r : List Nat) : splitF (f + 1) (c :: r) = if c = 32 then (splitF f r).shift 1 [] else match readS (c :: r) with | none => .bad 0 | some (s, w) => (splitF f ((c :: r).drop w)).shift w [s] := rfl
def splitR (l : List Nat) : Out := splitF l.length l
theorem readQ_pos : ∀ (l : List Nat) {p : List Nat × Nat}, readQ l = some p → 1 ≤ p.2 ∧ p.2 ≤ l.length
  | [], p, h => by cases h
  | [c], p, h => by
    unfold readQ at h
    split at h
    · cases h
      exact ⟨Nat.le_refl _, Nat.le_refl _⟩
    · cases h
  | c :: e :: r, p, h => by
    unfold readQ at h
    split at h
    · cases h
      exact ⟨Nat.le_refl _, by simp⟩
    · split at h
      · split at h
        · cases hq : readQ r with
          | none => rw [hq] at h; cases h
          | some p' =>
            rw [hq] at h
            cases h
            have := readQ_pos r hq
            exact ⟨by simp, by simp; omega⟩
        · cases h
      · split at h
        · cases hq : readQ (e :: r) with
          | none => rw [hq] at h; cases h
          | some p' =>
            rw [hq] at h
            cases h
            have := readQ_pos (e :: r) hq
            exact ⟨by simp, by simp at this ⊢; omega⟩
        · cases h
theorem runOf_cons {c : Nat} {r : List Nat} (h : isRun c = true) : runOf (c :: r) = c :: runOf r := by
  unfold runOf
  rw [List.takeWhile_cons, if_pos h]
theorem runOf_le (l : List Nat) : (runOf l).length ≤ l.length := (List.takeWhile_sublist _).length_le
theorem readS_pos {l : List Nat} {s : Sg} {w : Nat} (h : readS l = some (s, w)) : 1 ≤ w ∧ w ≤ l.length := by
  cases l with
  | nil => cases h
  | cons c r =>
    rw [readS_cons] at h
    split at h
    · cases h
      exact ⟨Nat.le_refl _, by simp⟩
    · split at h
      · cases hq : readQ r with
        | none => rw [hq] at h; cases h
        | some p =>
          rw [hq] at h
          cases h
          have := readQ_pos r hq
          exact ⟨by simp, by simp; omega⟩
      · split at h
        · rename_i hc
          have hl := runOf_le (c :: r)
          have hp : 1 ≤ (runOf (c :: r)).length := by rw [runOf_cons hc]; simp
          split at h
          · cases h
            exact ⟨hp, hl⟩
          · split at h
            · cases h
              exact ⟨hp, hl⟩
            · cases h
        · cases h
/-- enough steps -/
theorem splitF_more : ∀ (f g : Nat) (l : List Nat), l.length ≤ f → l.length ≤ g → splitF f l = splitF g l
  | f, g, [], _, _ => by cases f <;> cases g <;> rfl
  | 0, _, c :: r, h, _ => by simp at h
  | _, 0, c :: r, _, h => by simp at h
  | f + 1, g + 1, c :: r, h1, h2 => by
    unfold splitF
    split
    · rw [splitF_more f g r (by simp at h1; omega) (by simp at h2; omega)]
    · cases hq : readS (c :: r) with
      | none => rfl
      | some p =>
        obtain ⟨s, w⟩ := p
        have hp := readS_pos hq
        have hl : ((c :: r).drop w).length ≤ r.length := by rw [List.length_drop]; simp at hp ⊢; omega
        show (splitF f _).shift w [s] = (splitF g _).shift w [s]
        rw [splitF_more f g _ (by simp at h1; omega) (by simp at h2; omega)]
theorem splitR_nil : splitR [] = .ok [] := rfl
theorem splitR_sp (r : List Nat) : splitR (32 :: r) = (splitR r).shift 1 [] := rfl
theorem splitR_bad {c : Nat} {r : List Nat} (hc : c ≠ 32) (h : readS (c :: r) = none) : splitR (c :: r) = .bad 0 := by
  unfold splitR
  show splitF (r.length + 1) _ = _
  rw [splitF_cons, if_neg hc, h]
theorem splitR_sign {l : List Nat} {s : Sg} {w : Nat} (hc : l.head? ≠ some 32) (h : readS l = some (s, w)) : splitR l = (splitR (l.drop w)).shift w [s] := by
  cases l with
  | nil => cases h
  | cons c r =>
    have hp := readS_pos h
    unfold splitR
    show splitF (r.length + 1) _ = _
    rw [splitF_cons, if_neg (fun z => hc (by rw [z]; rfl)), h]
    show (splitF r.length _).shift w [s] = _
    rw [splitF_more r.length ((c :: r).drop w).length _ (by rw [List.length_drop]; simp at hp ⊢; omega) (Nat.le_refl _)]
theorem Out.shift_shift (o : Out) (a b : Nat) (ss ts : List Sg) : (o.shift a ss).shift b ts = o.shift (b + a) (ts ++ ss) := by
  cases o with
  | ok x => simp [Out.shift]
  | bad x => simp [Out.shift]; omega
/-! ### texts of signs -/
def escC (c : Nat) : List Nat := if c = 92 then [92, 92] else if c = 34 then [92, 34] else if c = 10 then [92, 110] else [c]
def escL (l : List Nat) : List Nat := l.flatMap escC
def quoL (l : List Nat) : List Nat := 34 :: (escL l ++ [34])
def Sg.text : Sg → List Nat
  | .name l => l
  | .num n => (Str.ofString (toString (n : Int))).cps.toList
  | .quo l => quoL l
  | .mark c => [c]
def Sg.run : Sg → Bool
  | .name _ => true
  | .num _ => true
  | _ => false
def Sg.good : Sg → Prop
  | .name l => isNameL l = true
  | .num n => n ≤ 999999999
  | .quo l => l.all (fun c => isChar c || decide (c = 10)) = true ∧ l.length ≤ 40
  | .mark c => isMark c = true
theorem readQ_esc : ∀ (l t : List Nat), l.all (fun c => isChar c || decide (c = 10)) = true → readQ (escL l ++ 34 :: t) = some (l, (escL l).length + 1)
  | [], t, _ => by
    show readQ (34 :: t) = _
    cases t <;> rfl
  | c :: l, t, h => by
    rw [List.all_cons, Bool.and_eq_true] at h
    have ih := readQ_esc l t h.2
    have e : escL (c :: l) = escC c ++ escL l := rfl
    rw [e]
    have h1 := h.1
    have two : ∀ {m e : Nat}, escOf e = some m → readQ ([92, e] ++ escL l ++ 34 :: t) = some (m :: l, ([92, e] ++ escL l).length + 1) := fun {m e} he => by
      show readQ (92 :: e :: (escL l ++ 34 :: t)) = _
      unfold readQ
      rw [if_neg (by decide), if_pos rfl, he]
      show (readQ (escL l ++ 34 :: t)).map _ = _
      rw [ih]
      simp
    unfold escC
    by_cases c1 : c = 92
    · subst c1
      rw [if_pos rfl]
      exact two rfl
    · rw [if_neg c1]
      by_cases c2 : c = 34
      · subst c2
        rw [if_pos rfl]
        exact two rfl
      · rw [if_neg c2]
        by_cases c3 : c = 10
        · subst c3
          rw [if_pos rfl]
          exact two rfl
        · rw [if_neg c3]
          have hch : isChar c = true := by
            rw [Bool.or_eq_true, decide_eq_true_eq] at h1
            rcases h1 with h1 | h1
            · exact h1
            · exact absurd h1 c3
          show readQ (c :: (escL l ++ 34 :: t)) = _
          obtain ⟨a, b, hab⟩ : ∃ a b, escL l ++ 34 :: t = a :: b := by
            cases escL l with
            | nil => exact ⟨_, _, rfl⟩
            | cons a b => exact ⟨_, _, rfl⟩
          rw [hab] at ih ⊢
          unfold readQ
          rw [if_neg c2, if_neg c1, if_pos hch]
          show (readQ (a :: b)).map _ = _
          rw [ih]
          simp
end Rs

namespace Rs
open PySem PySem.Spec PyProof.Rows L2 GxR Gx Gd
/-! ### the text of a sign is read as the sign -/
def Hd (t : List Nat) : Prop := t = [] ∨ ∃ c r, t = c :: r ∧ isRun c = false
theorem run_app {l t : List Nat} (h : l.all isRun = true) (ht : Hd t) : runOf (l ++ t) = l := by
  induction l with
  | nil =>
    rcases ht with rfl | ⟨c, r, rfl, hc⟩
    · rfl
    · show runOf (c :: r) = []
      unfold runOf
      rw [List.takeWhile_cons, if_neg (by rw [hc]; exact Bool.false_ne_true)]
  | cons c l ih =>
    rw [List.all_cons, Bool.and_eq_true] at h
    show runOf (c :: (l ++ t)) = _
    rw [runOf_cons h.1, ih h.2]
theorem rg {a b c : Nat} : inRg a b c = true ↔ a ≤ c ∧ c ≤ b := by
  unfold inRg
  rw [Bool.and_eq_true, decide_eq_true_eq, decide_eq_true_eq]
theorem run_plain {c : Nat} (h : isRun c = true) : isMark c = false ∧ c ≠ 34 ∧ c ≠ 32 := by
  unfold isRun isSmall isDigit at h
  rw [Bool.or_eq_true, Bool.or_eq_true, rg, rg, rg] at h
  refine ⟨?_, by omega, by omega⟩
  unfold isMark
  rw [decide_eq_false (by omega), decide_eq_false (by omega), decide_eq_false (by omega), decide_eq_false (by omega)]
  rfl
theorem digit_run {c : Nat} (h : isDigit c = true) : isRun c = true := by unfold isRun; rw [h]; simp
theorem small_run {c : Nat} (h : isSmall c = true) : isRun c = true := by unfold isRun; rw [h]; simp
theorem readS_run {l t : List Nat} (hl : l.all isRun = true) (hne : l ≠ []) (ht : Hd t) : readS (l ++ t) = if isNameL l = true then some (.name l, l.length) else if isNumL l = true then some (.num (NumText.digitsVal l), l.length) else none := by
  cases l with
  | nil => exact absurd rfl hne
  | cons c r =>
    have hc : isRun c = true := by rw [List.all_cons, Bool.and_eq_true] at hl; exact hl.1
    obtain ⟨h1, h2, _⟩ := run_plain hc
    have hr := run_app hl ht
    show readS (c :: (r ++ t)) = _
    rw [readS_cons, if_neg (by rw [h1]; exact Bool.false_ne_true), if_neg h2, if_pos hc]
    have hr' : runOf (c :: (r ++ t)) = c :: r := hr
    rw [hr']
theorem name_parts {l : List Nat} (h : isNameL l = true) : 1 ≤ l.length ∧ l.length ≤ 12 ∧ (∃ c r, l = c :: r ∧ isSmall c = true) ∧ l.all (fun c => isSmall c || isDigit c) = true := by
  unfold isNameL at h
  rw [Bool.and_eq_true, Bool.and_eq_true, decide_eq_true_eq, decide_eq_true_eq, Bool.and_eq_true] at h
  obtain ⟨⟨h1, h2⟩, h3, h4⟩ := h
  cases l with
  | nil => simp at h1
  | cons c r => exact ⟨h1, h2, ⟨c, r, rfl, h3⟩, h4⟩
theorem name_run {l : List Nat} (h : isNameL l = true) : l.all isRun = true := by
  obtain ⟨_, _, _, h⟩ := name_parts h
  rw [List.all_eq_true] at h ⊢
  intro c hc
  have h := h c hc
  rw [Bool.or_eq_true] at h
  rcases h with h | h
  · exact small_run h
  · exact digit_run h
theorem numL_head : ∀ (n : Nat), 0 < n → ∃ c r, TL.numL n = c :: r ∧ c ≠ 48 := by
  intro n
  induction n using Nat.strongRecOn with
  | _ n ih =>
    intro hn
    by_cases h : n < 10
    · rw [TL.numL_lt h]
      exact ⟨_, _, rfl, by omega⟩
    · rw [TL.numL_step (by omega)]
      obtain ⟨c, r, e, hc⟩ := ih (n / 10) (by omega) (by omega)
      rw [e]
      exact ⟨c, _, rfl, hc⟩
theorem numL_all (n : Nat) : (TL.numL n).all isDigit = true := by
  rw [List.all_eq_true]
  intro c hc
  exact rg.mpr (TL.numL_digits n c hc)
theorem num_isNum {n : Nat} (h : n ≤ 999999999) : isNumL (TL.numL n) = true := by
  unfold isNumL
  rw [decide_eq_true (TL.numL_len (n := n) (k := 9) (by decide) (by omega)), numL_all]
  by_cases h0 : n = 0
  · subst h0
    rfl
  · obtain ⟨c, r, e, hc⟩ := numL_head n (by omega)
    rw [e]
    have : decide ((c :: r).head? = some 48) = false := decide_eq_false (by simpa using hc)
    rw [this]
    simp
theorem num_noName (n : Nat) : isNameL (TL.numL n) = false := by
  cases e : isNameL (TL.numL n) with
  | false => rfl
  | true =>
    obtain ⟨_, _, ⟨c, r, e1, h1⟩, _⟩ := name_parts e
    have h2 := TL.numL_digits n c (by rw [e1]; exact List.mem_cons_self)
    have h3 := rg.mp h1
    omega
theorem text_num (n : Nat) : (Sg.num n).text = TL.numL n := TL.tl_num n
theorem mark_of {c : Nat} (h : isMark c = true) : c = 40 ∨ c = 41 ∨ c = 44 ∨ c = 61 := by
  unfold isMark at h
  rw [Bool.or_eq_true, Bool.or_eq_true, Bool.or_eq_true, decide_eq_true_eq, decide_eq_true_eq, decide_eq_true_eq, decide_eq_true_eq] at h
  exact h
theorem readS_text {s : Sg} (g : s.good) {t : List Nat} (ht : s.run = true → Hd t) : readS (s.text ++ t) = some (s, s.text.length) := by
  cases s with
  | name l =>
    have hne : l ≠ [] := by obtain ⟨_, _, ⟨c, r, rfl, _⟩, _⟩ := name_parts g; simp
    show readS (l ++ t) = _
    rw [readS_run (name_run g) hne (ht rfl), if_pos (show isNameL l = true from g)]
    rfl
  | num n =>
    rw [text_num]
    have hr : (TL.numL n).all isRun = true := by
      have := numL_all n
      rw [List.all_eq_true] at this ⊢
      exact fun c hc => digit_run (this c hc)
    rw [readS_run hr (TL.numL_ne n) (ht rfl), if_neg (by rw [num_noName]; exact Bool.false_ne_true), if_pos (num_isNum g), TL.numL_val]
  | quo l =>
    show readS (34 :: ((escL l ++ [34]) ++ t)) = _
    rw [readS_cons, if_neg (by decide), if_pos rfl, List.append_assoc]
    show (readQ (escL l ++ 34 :: t)).map _ = _
    rw [readQ_esc l t g.1]
    show some (Sg.quo l, _) = some (Sg.quo l, (quoL l).length)
    unfold quoL
    simp
  | mark c =>
    show readS (c :: t) = _
    rw [readS_cons, if_pos (show isMark c = true from g)]
    rfl
theorem text_head {s : Sg} (g : s.good) : ∃ c r, s.text = c :: r ∧ c ≠ 32 ∧ (s.run = false → isRun c = false) := by
  cases s with
  | name l =>
    obtain ⟨_, _, ⟨c, r, rfl, h⟩, _⟩ := name_parts g
    exact ⟨c, r, rfl, (run_plain (small_run h)).2.2, fun z => by cases z⟩
  | num n =>
    rw [text_num]
    cases e : TL.numL n with
    | nil => exact absurd e (TL.numL_ne n)
    | cons c r =>
      have h := TL.numL_digits n c (by rw [e]; exact List.mem_cons_self)
      exact ⟨c, r, rfl, by omega, fun z => by cases z⟩
  | quo l => exact ⟨34, _, rfl, by decide, fun _ => by decide⟩
  | mark c =>
    refine ⟨c, [], rfl, ?_, fun _ => ?_⟩
    · rcases mark_of g with h | h | h | h <;> omega
    · rcases mark_of g with h | h | h | h <;> subst h <;> decide
theorem escL_len : ∀ l : List Nat, (escL l).length ≤ 2 * l.length
  | [] => Nat.le_refl _
  | c :: l => by
    have e : escL (c :: l) = escC c ++ escL l := rfl
    have h : (escC c).length ≤ 2 := by
      unfold escC
      split
      · decide
      · split
        · decide
        · split
          · decide
          · simp
    have := escL_len l
    rw [e, List.length_append, List.length_cons]
    omega
theorem text_len {s : Sg} (g : s.good) : s.text.length ≤ 82 := by
  cases s with
  | name l =>
    have := (name_parts g).2.1
    show l.length ≤ 82
    omega
  | num n =>
    rw [text_num]
    have := TL.numL_len (n := n) (k := 9) (by decide) (by have : n ≤ 999999999 := g; omega)
    omega
  | quo l =>
    have h := g.2
    have := escL_len l
    show (34 :: (escL l ++ [34])).length ≤ 82
    simp
    omega
  | mark c => show 1 ≤ 82; decide
/-! ### rows of signs with gaps -/
def looseL : List (Nat × Sg) → List Nat
  | [] => []
  | (g, s) :: r => List.replicate g 32 ++ (s.text ++ looseL r)
def Apart : Bool → List (Nat × Sg) → Prop
  | _, [] => True
  | b, (g, s) :: r => (b = true → s.run = true → 1 ≤ g) ∧ Apart s.run r
theorem split_sps : ∀ (g : Nat) (r : List Nat), splitR (List.replicate g 32 ++ r) = (splitR r).shift g []
  | 0, r => by
    show splitR r = _
    cases splitR r <;> simp [Out.shift]
  | g + 1, r => by
    show splitR (32 :: (List.replicate g 32 ++ r)) = _
    rw [splitR_sp, split_sps g r, Out.shift_shift]
    simp [Nat.add_comm]
theorem hd_32 (t : List Nat) : Hd (32 :: t) := .inr ⟨32, t, rfl, by decide⟩
theorem split_loose : ∀ (rows : List (Nat × Sg)) (b : Bool) (t : List Nat), (∀ p ∈ rows, p.2.good) → Apart b rows → Hd t → splitR (looseL rows ++ t) = (splitR t).shift (looseL rows).length (rows.map (·.2))
  | [], b, t, _, _, _ => by
    show splitR t = _
    cases splitR t <;> simp [Out.shift, looseL]
  | (g, s) :: r, b, t, hg, ha, ht => by
    have gs : s.good := hg (g, s) List.mem_cons_self
    have ih := split_loose r s.run t (fun p hp => hg p (List.mem_cons_of_mem _ hp)) ha.2 ht
    have hd : s.run = true → Hd (looseL r ++ t) := fun hs => by
      cases r with
      | nil => exact ht
      | cons p r =>
        obtain ⟨g', s'⟩ := p
        show Hd ((List.replicate g' 32 ++ (s'.text ++ looseL r)) ++ t)
        cases g' with
        | zero =>
          have hr : s'.run = false := by
            cases e : s'.run with
            | false => rfl
            | true => exact absurd (ha.2.1 hs e) (by decide)
          obtain ⟨c, x, e1, _, h2⟩ := text_head (hg (0, s') (List.mem_cons_of_mem _ List.mem_cons_self))
          refine .inr ⟨c, (x ++ looseL r) ++ t, ?_, h2 hr⟩
          show (s'.text ++ looseL r) ++ t = _
          rw [e1]
          rfl
        | succ g' => exact hd_32 _
    have e : looseL ((g, s) :: r) ++ t = List.replicate g 32 ++ (s.text ++ (looseL r ++ t)) := by
      show (List.replicate g 32 ++ (s.text ++ looseL r)) ++ t = _
      rw [List.append_assoc, List.append_assoc]
    obtain ⟨c, x, e1, h1, _⟩ := text_head gs
    rw [e, split_sps, splitR_sign (by rw [e1]; simpa using h1) (readS_text gs hd), List.drop_left, ih, Out.shift_shift, Out.shift_shift]
    have el : (looseL ((g, s) :: r)).length = g + (s.text.length + (looseL r).length) := by
      show (List.replicate g 32 ++ (s.text ++ looseL r)).length = _
      simp
    rw [el, Nat.add_assoc]
    rfl
theorem loose_len : ∀ (rows : List (Nat × Sg)), (∀ p ∈ rows, p.2.good ∧ p.1 ≤ 2) → (looseL rows).length ≤ 84 * rows.length
  | [], _ => Nat.le_refl _
  | (g, s) :: r, h => by
    have h1 := h (g, s) List.mem_cons_self
    have h2 : s.text.length ≤ 82 := text_len h1.1
    have h3 : g ≤ 2 := h1.2
    have ih := loose_len r fun p hp => h p (List.mem_cons_of_mem _ hp)
    show (List.replicate g 32 ++ (s.text ++ looseL r)).length ≤ _
    simp
    omega
theorem loose_snoc : ∀ (rows : List (Nat × Sg)) (g : Nat) (s : Sg), looseL (rows ++ [(g, s)]) = looseL rows ++ (List.replicate g 32 ++ s.text)
  | [], g, s => by simp [looseL]
  | (g', s') :: r, g, s => by
    show List.replicate g' 32 ++ (s'.text ++ looseL (r ++ [(g, s)])) = _
    rw [loose_snoc r g s]
    show _ = (List.replicate g' 32 ++ (s'.text ++ looseL r)) ++ _
    simp
def lastRun : Bool → List (Nat × Sg) → Bool
  | b, [] => b
  | _, (_, s) :: r => lastRun s.run r
theorem apart_snoc : ∀ (rows : List (Nat × Sg)) (b : Bool) (g : Nat) (s : Sg), Apart b rows → (lastRun b rows = true → s.run = true → 1 ≤ g) → Apart b (rows ++ [(g, s)])
  | [], b, g, s, _, h => ⟨h, trivial⟩
  | (g', s') :: r, b, g, s, ha, h => ⟨ha.1, apart_snoc r s'.run g s ha.2 h⟩
theorem lastRun_snoc : ∀ (rows : List (Nat × Sg)) (b : Bool) (g : Nat) (s : Sg), lastRun b (rows ++ [(g, s)]) = s.run
  | [], b, g, s => rfl
  | (g', s') :: r, b, g, s => lastRun_snoc r s'.run g s
/-! ### the one written form -/
def isLeft : Sg → Bool
  | .mark c => decide (c = 40)
  | _ => false
def tight : Sg → Bool
  | .mark c => decide (c = 40) || (decide (c = 41) || decide (c = 44))
  | _ => false
def wr : Bool → List Sg → List (Nat × Sg)
  | _, [] => []
  | f, s :: r => ((if (f || tight s) = true then 0 else 1), s) :: wr (isLeft s) r
theorem wr_signs : ∀ (f : Bool) (ss : List Sg), (wr f ss).map (·.2) = ss
  | _, [] => rfl
  | f, s :: r => by
    show s :: (wr (isLeft s) r).map (·.2) = _
    rw [wr_signs]
theorem wr_apart : ∀ (f b : Bool) (ss : List Sg), (b = true → f = false) → Apart b (wr f ss)
  | _, _, [], _ => trivial
  | f, b, s :: r, h => by
    refine ⟨fun hb hs => ?_, wr_apart (isLeft s) s.run r fun hs => ?_⟩
    · rw [h hb]
      cases s with
      | name l => exact Nat.le_refl _
      | num n => exact Nat.le_refl _
      | quo l => cases hs
      | mark c => cases hs
    · cases s with
      | name l => rfl
      | num n => rfl
      | quo l => cases hs
      | mark c => cases hs
theorem wr_mem {f : Bool} {ss : List Sg} (h : ∀ s ∈ ss, s.good) : ∀ p ∈ wr f ss, p.2.good ∧ p.1 ≤ 2 := by
  induction ss generalizing f with
  | nil => exact fun p hp => by cases hp
  | cons s r ih =>
    intro p hp
    rcases List.mem_cons.mp hp with rfl | hp
    · refine ⟨h s List.mem_cons_self, ?_⟩
      show (if _ then 0 else 1) ≤ 2
      split <;> omega
    · exact ih (fun s hs => h s (List.mem_cons_of_mem _ hs)) p hp
end Rs

namespace Gd
open PySem PySem.Spec PyProof.Rows L2 GxR Gx
/-- the class of the error at C -/
structure Bad (P : Program) (w : World) (K : PySem.W.Frag) (mg : Str → Option Value) (base : Heap) (C : Addr) : Prop where
  T : OexC K C
  no : PySem.W.findIn K (.ref C) "offset" = some none
  ex : ∃ (fI : Addr) (fd : FuncData), PySem.W.findIn K (.ref C) "__init__" = some (some (.ref fI)) ∧ PySem.W.typeIn K (.ref fI) = some (.type "function") ∧ FnOk P w K mg base CX0 1 fI fd ["self", "offset"] (spInit K "offset") ∧ Binds K fd ["self", "offset"] []
  g : mg "BadSigns" = some (.ref C)
theorem ps_bad {X : Cx} {C : Addr} {k : Nat} {e : Expr} {es : List Expr} {ta : TA} {W : WX} {p pos pos2 : Pos} (B : Bad X.prog X.w X.K X.mg X.base C) (hc : X.calm = true) (tk : Takes X W) (hr : RoomG (k + 2) X.A) (hg : Gl X "BadSigns") (ha : PA X (e :: es) ta)
    (he : starEach (e :: es) X.env = (false, eval e X.env) :: starEach es X.env := by rfl) (hpl : (backTo pos (starEach es X.env)).any (·.1) = false := by rfl) :
    PS X (.Raise (some (.Call (.Name "BadSigns" p) (e :: es) [] pos)) none pos2) (fun _ σ H => tMkO C (spInit X.K "offset") [] ta σ H fun cls d H' => W cls d σ H') := by
  obtain ⟨fI, fd, iC, tI, F1, b⟩ := B.ex
  exact ps_raise hc tk (pmk_oex B.T iC tI F1 (hr.r.mono (by omega : 1 + 1 ≤ k + 2)) b .nil pass0 hg B.g ha (by decide) he hpl)
theorem CalX.mono {P : Program} {w : World} {K : PySem.W.Frag} {mg : Str → Option Value} {base : Heap} {j k : Nat} {x : Str} {ps : List Str} {sp : Sp} (c : CalX P w K mg base j x ps sp) (h : j ≤ k) : CalX P w K mg base k x ps sp :=
  let ⟨f, fd, F, r⟩ := c; ⟨f, fd, F.mono h, r⟩
end Gd
namespace Rs
open PySem PySem.Spec PyProof.Rows L2 GxR Gx Gd
abbrev s_is_of_run : Stmt := topS 41
theorem sc_is_of_run : FnScope ["char"] ["char"] (defScope s_is_of_run) := ⟨rfl, rfl, rfl, by decide +kernel, rfl, by decide +kernel, by decide +kernel⟩
abbrev s_is_number : Stmt := topS 43
theorem sc_is_number : FnScope ["run"] ["run"] (defScope s_is_number) := ⟨rfl, rfl, rfl, by decide +kernel, rfl, by decide +kernel, by decide +kernel⟩
abbrev s_meant : Stmt := topS 45
theorem sc_meant : FnScope ["piece", "start"] ["piece", "start"] (defScope s_meant) := ⟨rfl, rfl, rfl, by decide +kernel, rfl, by decide +kernel, by decide +kernel⟩
theorem chain_or {a b c : Nat} {xa xb : Str} {σ : L2.St} {H : Hp} {Q : VK} {i : Nat} {tb : TE} (ha : xa = ⟨#[a]⟩) (hb : xb = ⟨#[b]⟩) (hs : σ[i]? = some (some (.str ⟨#[c]⟩))) (q : if inRg a b c = true then Q (.bl true) H else tb σ H Q) :
    tOrV (tChain rLeS rLeS (tC (.str xa)) (tVar i) (tC (.str xb))) tb σ H Q := chain_rd ha hb hs ⟨_, rfl, q⟩
theorem one_is (c : Nat) : sx [c] = ⟨#[c]⟩ := rfl
def ErrAt (C : Addr) (n : Nat) (H : Hp) (E : XK) : Prop := ∀ d H', Kp H H' → H' d = some (.xd [("offset", .int (n : Int))]) → E (.ref C) (some d) H'
def spNum (ts : List Addr) : Sp := fun vs H Q _ => ∃ l : List Nat, vs = [.str (sx l)] ∧ l ≠ [] ∧ l.length ≤ 1000 ∧ (∀ T ∈ ts, TabG H T) ∧ ∀ H', Kp H H' → Q (.bl (isNumL l)) H'
/-- a piece of a quoted text -/
def meantL : List Nat → Option Nat
  | [c] => if c = 92 then none else if isChar c = true then some c else none
  | [92, e] => escOf e
  | _ => none
def spMeant (C : Addr) : Sp := fun vs H Q E => ∃ (p : List Nat) (n : Nat), vs = [.str (sx p), .int (n : Int)] ∧ ((∃ c, p = [c]) ∨ ∃ e, p = [92, e]) ∧ (match meantL p with
  | some m => Q (.str (sx [m])) H
  | none => ErrAt C n H E)
/-- the dict of the escapes -/
structure EscK (K : PySem.W.Frag) (w : World) (d : Addr) : Prop where
  ex : ∃ (n : Nat) (h1 h2 h3 : Int) (t1 t2 t3 u1 u2 u3 : Tok), KDict K w d #[⟨h1, .str (sx [92, 34]) t1, .str (sx [34]) u1⟩, ⟨h2, .str (sx [92, 92]) t2, .str (sx [92]) u2⟩, ⟨h3, .str (sx [92, 110]) t3, .str (sx [10]) u3⟩] n
theorem sx_beq (a b : List Nat) : (sx a == sx b) = decide (a = b) := by
  rw [Bool.eq_iff_iff, beq_iff_eq, decide_eq_true_eq]
  exact ⟨sx_inj, fun h => by rw [h]⟩
theorem EscK.look {K : PySem.W.Frag} {w : World} {d : Addr} (D : EscK K w d) (p : List Nat) : ∃ (n : Nat) (es : Array DictEntry) (r : Option Value), KDict K w d es n ∧ PySem.W.nsIn K d (sx p) = some r ∧
    (match (if p = [92, 34] then some 34 else if p = [92, 92] then some 92 else if p = [92, 110] then some 10 else none : Option Nat) with | some m => ∃ u, r = some (.str (sx [m]) u) | none => r = none) := by
  obtain ⟨n, h1, h2, h3, t1, t2, t3, u1, u2, u3, KD⟩ := D.ex
  refine ⟨n, _, (if p = [92, 34] then some (.str (sx [34]) u1) else if p = [92, 92] then some (.str (sx [92]) u2) else if p = [92, 110] then some (.str (sx [10]) u3) else none), KD, ?_, ?_⟩
  · have e : ∀ (q : List Nat) (t : Tok), (Value.str (sx q) t).isStr (sx p) = decide (q = p) := fun q t => sx_beq q p
    unfold PySem.W.nsIn
    rw [KD.at_]
    dsimp only
    by_cases c1 : p = [92, 34]
    · subst c1
      simp [List.find?_cons, e]
    · by_cases c2 : p = [92, 92]
      · subst c2
        simp [List.find?_cons, e]
      · by_cases c3 : p = [92, 110]
        · subst c3
          simp [List.find?_cons, e]
        · rw [if_neg c1, if_neg c2, if_neg c3]
          have e1 : ([92, 34] = p) = False := eq_false fun z => c1 z.symm
          have e2 : ([92, 92] = p) = False := eq_false fun z => c2 z.symm
          have e3 : ([92, 110] = p) = False := eq_false fun z => c3 z.symm
          simp only [List.find?_cons, e, e1, e2, e3, decide_false, List.find?_nil]
          rfl
  · by_cases c1 : p = [92, 34]
    · rw [if_pos c1, if_pos c1]
      exact ⟨u1, rfl⟩
    · rw [if_neg c1, if_neg c1]
      by_cases c2 : p = [92, 92]
      · rw [if_pos c2, if_pos c2]
        exact ⟨u2, rfl⟩
      · rw [if_neg c2, if_neg c2]
        by_cases c3 : p = [92, 110]
        · rw [if_pos c3, if_pos c3]
          exact ⟨u3, rfl⟩
        · rw [if_neg c3, if_neg c3]
section
variable {P : Program} {w : World} {K : PySem.W.Frag} {mg : Str → Option Value} {base : Heap}
theorem c_is_of_run (D : DefAt K mg "_is_of_run" s_is_of_run ["char"]) (c_is_digit : Cal P w K mg base CX0 1 "is_digit" ["char"] (spSign isDigit)) : Cal P w K mg base CX0 2 "_is_of_run" ["char"] (spSign isRun) := by
  refine D.cal (k := 1) sc_is_of_run (fun vs H Q E h => ?_) fun f cdv A outer s H vs Q E hr h => ?_
  · obtain ⟨c, rfl, _⟩ := h
    rfl
  · obtain ⟨c, rfl, q⟩ := h
    refine ⟨_, (pss_one (ps_ret (pe_or (pe_chain op_le_str op_le_str pe_str (pv 0) pe_str) (pe_or (pe_chain op_le_str op_le_str pe_str (pv 0) pe_str) (pe_one (pe_cal (c_is_digit.mono (by omega)) hr (by rfl) (pa_cons (pv 0) pa_nil))))))), ?_⟩
    refine chain_or (a := 97) (b := 122) (c := c) rfl rfl rfl ?_
    have q : Q (.bl (inRg 97 122 c || (inRg 65 90 c || isDigit c))) H := q
    cases e1 : inRg 97 122 c with
    | true =>
      rw [e1] at q
      exact iteT q
    | false =>
      rw [e1] at q
      refine iteF (chain_or (a := 65) (b := 90) (c := c) rfl rfl rfl ?_)
      cases e2 : inRg 65 90 c with
      | true =>
        rw [e2] at q
        exact iteT q
      | false =>
        rw [e2] at q
        exact iteF ⟨_, rfl, c, rfl, q⟩
theorem c_is_number {T : Addr} {ts : List Addr} (D : DefTab K mg base "_is_number" s_is_number ["run"] T) (gN : ∃ t, mg "NUMBER_LENGTH" = some (.int 9 t)) (m_len : mg "len" = none) (m_all : mg "all" = none) (hTs : T ∈ ts)
    (c_is_digit : Cal P w K mg base CX0 1 "is_digit" ["char"] (spSign isDigit)) : Cal P w K mg base CX0 3 "_is_number" ["run"] (spNum ts) := by
  refine D.cal (k := 2) sc_is_number (fun vs H Q E h => ?_) fun f c A outer s H vs Q E TB hr h => ?_
  · obtain ⟨c, rfl, _⟩ := h
    rfl
  · obtain ⟨l, rfl, hne, hz, hT, q⟩ := h
    obtain ⟨t, g_NUMBER_LENGTH⟩ := gN
    refine ⟨_, (pss_cons (ps_if (PW.pt (pw_or (pt_cmpR op_gt (pe_callB call_len_str (by rfl) m_len (by decide +kernel) (pa_cons (pv 0) pa_nil)) (pe_glob (v := .int 9) rfl g_NUMBER_LENGTH ⟨_, rfl⟩) (nomark _)) (pw_or1 (pt_not (pt_val (pe_allG hr.r (by rfl) m_all TB rfl (genS_by (by decide +kernel)) Caps.nil (pi_str (pv 0)) rfl (fun _ _ _ _ _ _ => pg_name (i := 0) (nd1 _) rfl (Or.inl rfl)) (fun _ _ _ _ _ _ rk => (pe_cal (c_is_digit.mono (by omega)) (RoomG.mk rk hr.g) (by rfl) (pa_cons (pv 0) pa_nil))))))))) (pss_one (ps_ret pe_bl)) pss_nil)
  (pss_one (ps_ret (pe_or (pe_cmpR op_eq (pv 0) pe_str (nomark _)) (pe_one (pe_cmpR op_ne (pe_ix ix_str (pv 0) pe_int (fun _ _ => rfl)) pe_str (nomark _))))))), ?_⟩
    refine ⟨_, rfl, sx l, rfl, by rw [sx_len]; exact line1000 hz, _, 9, rfl, rfl, _, rfl, ?_⟩
    rw [sx_len]
    have e0 : isNumL l = (decide (l.length ≤ 9) && (l.all isDigit && (decide (l = [48]) || !decide (l.head? = some 48)))) := rfl
    by_cases h9 : l.length ≤ 9
    · rw [decide_eq_false (by omega : ¬ (9 : Int) < (l.length : Int))]
      refine iteF ?_
      rw [decide_eq_true h9, Bool.true_and] at e0
      dsimp only [tNot, tB]
      refine rd_all_str (i := 0) (p := isDigit) rfl (hT T hTs) (fun d _ H' Q' q' => ⟨_, rfl, d, rfl, q'⟩) fun H2 k2 => ⟨_, rfl, ?_⟩
      rw [sx_tl]
      cases ea : l.all isDigit with
      | false =>
        rw [ea] at e0
        refine iteT ?_
        have z := q H2 k2
        rw [e0] at z
        exact z
      | true =>
        rw [ea, Bool.true_and] at e0
        refine iteF ⟨_, rfl, rfl, _, rfl, ?_⟩
        have e1 : decide (V.str (sx l) = V.str (Str.ofString "0")) = decide (l = [48]) := by
          rw [Bool.eq_iff_iff, decide_eq_true_eq, decide_eq_true_eq]
          constructor
          · intro z
            exact sx_inj ((V.str.inj z).trans (by decide +kernel : Str.ofString "0" = sx [48]))
          · intro z
            rw [z]
            exact congrArg V.str (by decide +kernel : sx [48] = Str.ofString "0")
        rw [e1]
        have z := q H2 k2
        rw [e0] at z
        cases ez : decide (l = [48]) with
        | true =>
          rw [ez] at z
          exact iteT z
        | false =>
          rw [ez] at z
          obtain ⟨d, r, rfl⟩ : ∃ d r, l = d :: r := by
            cases l with
            | nil => exact absurd rfl hne
            | cons d r => exact ⟨d, r, rfl⟩
          refine iteF ⟨_, rfl, sx (d :: r), 0, d, rfl, rfl, by rw [sx_len]; exact line1000 hz, by rw [sx_tl]; exact atI_nat (j := 0) rfl, rfl, ?_⟩
          have e2 : (!decide (V.str ⟨#[d]⟩ = V.str (Str.ofString "0"))) = !decide ((d :: r).head? = some 48) := by
            congr 1
            rw [Bool.eq_iff_iff, decide_eq_true_eq, decide_eq_true_eq]
            constructor
            · intro z
              have := sx_inj (a := [d]) (b := [48]) ((V.str.inj z).trans (by decide +kernel : Str.ofString "0" = sx [48]))
              simpa using this
            · intro z
              have z : d = 48 := by simpa using z
              rw [z]
              exact congrArg V.str (by decide +kernel : (⟨#[48]⟩ : Str) = Str.ofString "0")
          rw [e2]
          exact z
    · rw [decide_eq_true (by omega : (9 : Int) < (l.length : Int))]
      refine iteT ?_
      have z := q H (Kb.refl H)
      rw [e0, decide_eq_false h9] at z
      exact z
theorem eq_sign (c d : Nat) {x : Str} (hx : x = sx [d]) : decide (V.str ⟨#[c]⟩ = V.str x) = decide (c = d) := by
  subst hx
  rw [Bool.eq_iff_iff, decide_eq_true_eq, decide_eq_true_eq]
  constructor
  · intro z
    have := sx_inj (a := [c]) (b := [d]) (V.str.inj z)
    simpa using this
  · intro z
    rw [z]
    rfl
theorem c_meant {C aE : Addr} (D : DefAt K mg "_meant" s_meant ["piece", "start"]) (BD : Bad P w K mg base C) (EK : EscK K w aE) (g_ESCAPES : mg "ESCAPES" = some (.ref aE)) (gB : ∃ t, mg "BACKSLASH" = some (.str (Str.ofString "\\") t))
    (c_is_character : Cal P w K mg base CX0 1 "is_character" ["char"] (spSign isChar)) : CalX P w K mg base 3 "_meant" ["piece", "start"] (spMeant C) := by
  refine D.calX (k := 2) sc_meant (fun vs H Q E h => ?_) fun f cdv A outer s H vs Q E hr h => ?_
  · obtain ⟨c, n, rfl, _⟩ := h
    rfl
  · obtain ⟨p, n, rfl, hp, h⟩ := h
    obtain ⟨t, g_BACKSLASH⟩ := gB
    obtain ⟨_, _, _, KD, e0, hm⟩ := EK.look p
    refine ⟨_, (pss_cons (ps_if (pt_cmpR (op_in_kd KD) (pv 0) (pe_glob (v := .ref aE) rfl g_ESCAPES rfl) (by rfl)) (pss_one (ps_ret (pe_ix ix_kdict (pe_glob (v := .ref aE) rfl g_ESCAPES rfl) (pv 0) (fun _ _ => rfl)))) pss_nil)
  (pss_cons (ps_if (PW.pt (pw_or (pt_cmpR op_eq (pe_ix ix_str (pv 0) pe_int (fun _ _ => rfl)) (pe_glob (v := .str (Str.ofString "\\")) rfl g_BACKSLASH ⟨_, rfl⟩) (nomark _)) (pw_or1 (pt_not (pt_val (pe_cal (c_is_character.mono (by omega)) hr (by rfl) (pa_cons (pv 0) pa_nil))))))) (pss_one (ps_bad BD rfl (takes_of rfl rfl rfl rfl) hr (by rfl) (pa_cons (pv 1) pa_nil))) pss_nil)
  (pss_one (ps_ret (pv 0))))), ?_⟩
    refine ⟨_, rfl, sx p, _, rfl, rfl, e0, _, rfl, ?_⟩
    have raise : ∀ H' : Hp, H' = H → ErrAt C n H E → tMkO C (spInit K "offset") [] (tCons (tVar 1) tNil) (start ["piece", "start"] [.str (sx p), .int (n : Int)]) H' fun cls d H'' => E cls d H'' := fun H' e h => by
      subst e
      exact rd_raise BD.T BD.no (i := 1) rfl h
    have hB : Str.ofString "\\" = sx [92] := by decide +kernel
    rcases hp with ⟨c, rfl⟩ | ⟨e, rfl⟩
    · rw [if_neg (by simp), if_neg (by simp), if_neg (by simp)] at hm
      subst hm
      refine iteF ⟨_, rfl, sx [c], 0, c, rfl, rfl, by rw [sx_len]; show 1 ≤ sizeLine; decide, by rw [sx_tl]; exact atI_nat (j := 0) rfl, rfl, _, rfl, ?_⟩
      rw [eq_sign c 92 hB]
      by_cases h92 : c = 92
      · subst h92
        exact iteT (iteT (raise _ rfl h))
      · rw [decide_eq_false h92]
        have em : meantL [c] = if isChar c = true then some c else none := if_neg h92
        rw [em] at h
        refine iteF ⟨_, rfl, c, rfl, isChar c, rfl, ?_⟩
        cases ec : isChar c with
        | true =>
          rw [ec] at h
          exact iteF ⟨_, rfl, h⟩
        | false =>
          rw [ec] at h
          exact iteT (raise _ rfl h)
    · have em : (if [92, e] = [92, 34] then some 34 else if [92, e] = [92, 92] then some 92 else if [92, e] = [92, 110] then some 10 else none : Option Nat) = escOf e := by
        unfold escOf
        simp
      rw [em] at hm
      have em2 : meantL [92, e] = escOf e := rfl
      rw [em2] at h
      cases ee : escOf e with
      | none =>
        rw [ee] at hm h
        have hm : _ = none := hm
        subst hm
        refine iteF ⟨_, rfl, sx [92, e], 0, 92, rfl, rfl, by rw [sx_len]; show 2 ≤ sizeLine; decide, by rw [sx_tl]; exact atI_nat (j := 0) rfl, rfl, _, rfl, ?_⟩
        rw [eq_sign 92 92 hB]
        exact iteT (iteT (raise _ rfl h))
      | some m =>
        rw [ee] at hm h
        obtain ⟨u, hm⟩ := hm
        subst hm
        exact iteT ⟨_, rfl, aE, sx [92, e], .str (sx [m]), rfl, rfl, ⟨_, _, _, KD.at_, KD.lit, e0, ⟨u, rfl⟩⟩, h⟩
end
end Rs

namespace Rs
open PySem PySem.Spec PyProof.Rows L2 GxR Gx Gd
abbrev s_read_quoted : Stmt := topS 44
theorem sc_read_quoted : FnScope ["line", "start", "parts", "at", "width"] ["line", "start"] (defScope s_read_quoted) := ⟨rfl, rfl, rfl, by decide +kernel, rfl, by decide +kernel, by decide +kernel⟩
abbrev s_read_run : Stmt := topS 42
theorem sc_read_run : FnScope ["line", "start", "end", "run"] ["line", "start"] (defScope s_read_run) := ⟨rfl, rfl, rfl, by decide +kernel, rfl, by decide +kernel, by decide +kernel⟩
abbrev s_read_sign : Stmt := topS 40
theorem sc_read_sign : FnScope ["line", "start", "char"] ["line", "start"] (defScope s_read_sign) := ⟨rfl, rfl, rfl, by decide +kernel, rfl, by decide +kernel, by decide +kernel⟩
abbrev s_split_line : Stmt := topS 33
theorem sc_split_line : FnScope ["line", "signs", "at", "sign"] ["line"] (defScope s_split_line) := ⟨rfl, rfl, rfl, by decide +kernel, rfl, by decide +kernel, by decide +kernel⟩
/-- a sign and where it ends, or the error -/
def RdS (K : PySem.W.Frag) (C : Addr) (n : Nat) (H : Hp) (Q : VK) (E : XK) : Option (Sg × Nat) → Prop
  | none => ErrAt C n H E
  | some (g, w) => ∀ H' v, Kp H H' → Dt K H' v (.tuple [g.d, .int ((n + w : Nat) : Int)]) → Q v H'
theorem ErrAt.kp {C : Addr} {n : Nat} {H H' : Hp} {E : XK} (h : ErrAt C n H E) (k : Kp H H') : ErrAt C n H' E := fun d H2 k2 e => h d H2 (k.trans k2) e
theorem RdS.kp {K : PySem.W.Frag} {C : Addr} {n : Nat} {H H' : Hp} {Q : VK} {E : XK} : ∀ {o : Option (Sg × Nat)}, RdS K C n H Q E o → Kp H H' → RdS K C n H' Q E o
  | none, h, k => ErrAt.kp h k
  | some (g, w), h, k => fun H2 v k2 hv => h H2 v (k.trans k2) hv
def readQ' : List Nat → Option (Sg × Nat)
  | [] => none
  | _ :: r => (readQ r).map fun p => (.quo p.1, p.2 + 1)
def readR (l : List Nat) : Option (Sg × Nat) := if isNameL (runOf l) = true then some (.name (runOf l), (runOf l).length) else if isNumL (runOf l) = true then some (.num (NumText.digitsVal (runOf l)), (runOf l).length) else none
/-- a line that can be read: its runs are not too long -/
def Lim (l : List Nat) : Prop := l.length ≤ 100000 ∧ ∀ n, (runOf (l.drop n)).length ≤ 1000
theorem Lim.of {l : List Nat} (h : l.length ≤ 1000) : Lim l := ⟨by omega, fun n => by
  have := runOf_le (l.drop n)
  rw [List.length_drop] at this
  omega⟩
def spRead (K : PySem.W.Frag) (C : Addr) (ts : List Addr) (pre : List Nat → Prop) (f : List Nat → Option (Sg × Nat)) : Sp := fun vs H Q E => ∃ (l : List Nat) (n : Nat), vs = [.str (sx l), .int (n : Int)] ∧ n < l.length ∧ Lim l ∧ (∀ T ∈ ts, TabG H T) ∧ pre (l.drop n) ∧ RdS K C n H Q E (f (l.drop n))
theorem drop_cons {l : List Nat} {n : Nat} (h : n < l.length) : ∃ c, l[n]? = some c ∧ l.drop n = c :: l.drop (n + 1) := ⟨l[n], List.getElem?_eq_getElem h, List.drop_eq_getElem_cons h⟩
theorem at_sx {l : List Nat} {n : Nat} {c : Nat} (h : l[n]? = some c) : atI (sx l).cps.toList (n : Int) = some c := by
  rw [sx_tl]
  exact atI_nat h
theorem cut_sx {l : List Nat} {a b : Nat} (h1 : a ≤ b) (h2 : b ≤ l.length) : cutS (sx l) (some (a : Int)) (some (b : Int)) = sx ((l.drop a).take (b - a)) := by
  unfold cutS
  rw [sx_len, HT.sIx_nat, HT.sIx_nat, sx_tl, Nat.min_eq_left (Nat.le_trans h1 h2), Nat.min_eq_left h2]
  rfl
theorem cut_k {l : List Nat} {a k : Nat} (h : a ≤ l.length) : cutS (sx l) (some (a : Int)) (some ((a : Int) + (k : Int))) = sx ((l.drop a).take k) := by
  unfold cutS
  have e : ((a : Int) + (k : Int)) = ((a + k : Nat) : Int) := rfl
  rw [sx_len, e, HT.sIx_nat, HT.sIx_nat, sx_tl, Nat.min_eq_left h]
  unfold sx
  congr 1
  congr 1
  rw [List.take_eq_take_iff, List.length_drop]
  omega
theorem join_sx (cs : List Nat) : Txt.join (Str.ofString "") (cs.map fun c => sx [c]) = sx cs := by
  refine TL.ext_tl ?_
  have e : TL.tl (Str.ofString "") = [] := by decide +kernel
  rw [TL.join_eq, TL.tl_join, e]
  have j : ∀ l : List (List Nat), TL.joinL [] l = l.flatten := by
    intro l
    induction l with
    | nil => rfl
    | cons p l ih =>
      cases l with
      | nil => simp [TL.joinL]
      | cons q r =>
        show p ++ ([] ++ TL.joinL [] (q :: r)) = _
        rw [ih]
        rfl
  rw [j]
  show _ = (sx cs).cps.toList
  rw [sx_tl, List.map_map]
  induction cs with
  | nil => rfl
  | cons c cs ih =>
    rw [List.map_cons, List.flatten_cons, ih]
    rfl
theorem sum_sx (cs : List Nat) : ((cs.map fun c => sx [c]).map (·.length)).sum = cs.length := by
  induction cs with
  | nil => rfl
  | cons c cs ih =>
    rw [List.map_cons, List.map_cons, List.sum_cons, ih, List.length_cons]
    show 1 + _ = _
    omega
theorem sl_ok {l : List Nat} (h : Lim l) : l.length ≤ sizeLine := by
  have sz : sizeLine = 16777216 := rfl
  have := h.1
  omega
/-- the quoted text so far: parts at D, the rest at n -/
def Qs (K : PySem.W.Frag) (H0 : Hp) (D : Addr) (l : List Nat) (s n : Nat) (H : Hp) : Prop := ∃ ps : List Nat, n ≤ l.length ∧ s + 1 ≤ n ∧ ps.length ≤ n ∧ Kp H0 H ∧ H D = some (.lst ((ps.map fun c => sx [c]).map V.str)) ∧ readQ (l.drop (s + 1)) = (readQ (l.drop n)).map fun p => (ps ++ p.1, (n - (s + 1)) + p.2)
theorem Qs.push {K : PySem.W.Frag} {H0 H : Hp} {D : Addr} {l ps : List Nat} {s n w m : Nat} (hD : H0 D = none) (h1 : n + w ≤ l.length) (h2 : s + 1 ≤ n) (h3 : ps.length ≤ n) (hw : 1 ≤ w) (k : Kp H0 H) (e : H D = some (.lst ((ps.map fun c => sx [c]).map V.str)))
    (q : readQ (l.drop (s + 1)) = (readQ (l.drop n)).map fun p => (ps ++ p.1, (n - (s + 1)) + p.2)) (r : readQ (l.drop n) = (readQ (l.drop (n + w))).map fun p => (m :: p.1, p.2 + w)) :
    Qs K H0 D l s (n + w) (upd H D (.lst (((ps.map fun c => sx [c]).map V.str) ++ [.str (sx [m])]))) := by
  refine ⟨ps ++ [m], h1, by omega, by simp; omega, k.mut hD (no_tab e nt_lst), ?_, ?_⟩
  · rw [upd_same, List.map_append, List.map_append]
    rfl
  · rw [q, r]
    cases readQ (l.drop (n + w)) with
    | none => rfl
    | some p =>
      show some (ps ++ (m :: p.1), (n - (s + 1)) + (p.2 + w)) = some ((ps ++ [m]) ++ p.1, (n + w - (s + 1)) + p.2)
      rw [List.append_assoc, show (n - (s + 1)) + (p.2 + w) = (n + w - (s + 1)) + p.2 by omega]
      rfl
theorem readQ_nil : readQ [] = none := rfl
theorem readQ_end (r : List Nat) : readQ (34 :: r) = some ([], 1) := by cases r <;> rfl
theorem readQ_bs (r : List Nat) : readQ (92 :: r) = match r with | [] => none | e :: r' => (match escOf e with | some m => (readQ r').map fun p => (m :: p.1, p.2 + 2) | none => none) := by
  cases r with
  | nil => rfl
  | cons e r' => rfl
theorem readQ_ch {c : Nat} (h1 : c ≠ 34) (h2 : c ≠ 92) (r : List Nat) : readQ (c :: r) = if isChar c = true then (readQ r).map fun p => (c :: p.1, p.2 + 1) else none := by
  cases r with
  | nil =>
    unfold readQ
    rw [if_neg h1]
    split <;> rfl
  | cons e r' =>
    show (if c = 34 then _ else if c = 92 then _ else if isChar c = true then _ else _) = _
    rw [if_neg h1, if_neg h2]
section
variable {P : Program} {w : World} {K : PySem.W.Frag} {mg : Str → Option Value} {base : Heap}
theorem c_read_quoted {C : Addr} (D : DefAt K mg "_read_quoted" s_read_quoted ["line", "start"]) (BD : Bad P w K mg base C) (gQ : ∃ t, mg "QUOTE" = some (.str (Str.ofString "\"") t)) (gB : ∃ t, mg "BACKSLASH" = some (.str (Str.ofString "\\") t)) (m_len : mg "len" = none)
    (c__meant : CalX P w K mg base 3 "_meant" ["piece", "start"] (spMeant C)) : CalX P w K mg base 4 "_read_quoted" ["line", "start"] (spRead K C [] (fun _ => True) readQ') := by
  refine D.calX (k := 3) sc_read_quoted (fun vs H Q E h => ?_) fun f cdv A outer s H vs Q E hr h => ?_
  · obtain ⟨c, n, rfl, _⟩ := h
    rfl
  · obtain ⟨l, n, rfl, hn, hz, _, _, h⟩ := h
    obtain ⟨tq, g_QUOTE⟩ := gQ
    obtain ⟨tb, g_BACKSLASH⟩ := gB
    have hB : Str.ofString "\\" = sx [92] := by decide +kernel
    have hQ : Str.ofString "\"" = sx [34] := by decide +kernel
    have lz : (sx l).length ≤ sizeLine := by rw [sx_len]; exact sl_ok hz
    have hz1 : l.length ≤ 100000 := hz.1
    refine ⟨_, (pss_cons (ps_set (i := 2) sc_read_quoted.nd rfl (Or.inl rfl) (pe_lst pa_nil))
  (pss_cons (ps_set (i := 3) sc_read_quoted.nd rfl (Or.inl rfl) (pe_op op_add (pv 1) pe_int))
  (pss_cons (ps_while (passes_of rfl) (PW.pt (pw_and (pt_cmpR op_lt (pv 3) (pe_callB call_len_str (by rfl) m_len (by decide +kernel) (pa_cons (pv 0) pa_nil)) (nomark _)) (pw_and1 (pt_cmpR op_ne (pe_ix ix_str (pv 0) (pv 3) (fun _ _ => rfl)) (pe_glob (v := .str (Str.ofString "\"")) rfl g_QUOTE ⟨_, rfl⟩) (nomark _))))) (pss_cons (ps_set (i := 4) sc_read_quoted.nd rfl (Or.inl rfl) (pe_ifExp (pt_cmpR op_eq (pe_ix ix_str (pv 0) (pv 3) (fun _ _ => rfl)) (pe_glob (v := .str (Str.ofString "\\")) rfl g_BACKSLASH ⟨_, rfl⟩) (nomark _)) pe_int pe_int))
  (pss_cons (ps_expr (pe_bm PySem.F.plainAttrs_list PySem.F.slot_list_append PySem.F.type_list_append mt_append (pv 2) (pa_cons (pe_calX (c__meant.mono (by omega)) hr (by rfl) (fun σ => passAt (takes_of rfl rfl rfl rfl) σ) (pa_cons (pe_slice sl_str (pv 0) (po_some (pv 3)) (po_some (pe_op op_add (pv 3) (pv 4)))) (pa_cons (pv 1) pa_nil))) pa_nil)))
  (pss_one (ps_aug (i := 3) sc_read_quoted.nd rfl (Or.inl rfl) (pv 4) ip_add)))))
  (pss_cons (ps_if (pt_cmpR op_eq (pv 3) (pe_callB call_len_str (by rfl) m_len (by decide +kernel) (pa_cons (pv 0) pa_nil)) (nomark _)) (pss_one (ps_bad BD rfl (takes_of rfl rfl rfl rfl) hr (by rfl) (pa_cons (pv 1) pa_nil))) pss_nil)
  (pss_one (ps_ret (pe_tup (pa_cons (pe_tup (pa_cons pe_str (pa_cons (pe_join pe_str (pv 2)) pa_nil))) (pa_cons (pe_op op_add (pv 3) pe_int) pa_nil))))))))), ?_⟩
    refine ⟨Nat.zero_le _, fun D hD => ⟨_, rfl, _, _, rfl, rfl, ?_⟩⟩
    obtain ⟨c0, e0, e1⟩ := drop_cons hn
    have eR : readQ' (l.drop n) = (readQ (l.drop (n + 1))).map fun p => (.quo p.1, p.2 + 1) := by rw [e1]; rfl
    rw [eR] at h
    refine ⟨fun m σ H' => ∃ a : Nat, m = l.length - a ∧ (∃ o4, σ = [some (.str (sx l)), some (.int (n : Int)), some (.ref D), some (.int (a : Int)), o4]) ∧ Qs K H D l n a H', ⟨_, n + 1, rfl, ⟨none, rfl⟩, [], by omega, by omega, by simp, Kb.new hD, upd_same, ?_⟩, ?_⟩
    · cases readQ (l.drop (n + 1)) with
      | none => rfl
      | some p => simp
    rintro m σ H1 ⟨a, rfl, ⟨o4, rfl⟩, hq⟩
    obtain ⟨ps, q1, q2, q3, k, eD, qr⟩ := id hq
    have lps : ((ps.map fun c => sx [c]).map V.str).length < sizeLine := by
      rw [List.length_map, List.length_map]
      have : sizeLine = 16777216 := rfl
      omega
    refine ⟨_, rfl, _, rfl, sx l, rfl, lz, _, _, rfl, rfl, _, rfl, ?_⟩
    rw [sx_len]
    by_cases ha : a < l.length
    · rw [decide_eq_true (by omega : (a : Int) < (l.length : Int))]
      obtain ⟨c, hc, ed⟩ := drop_cons ha
      refine iteT ⟨_, rfl, _, rfl, sx l, _, c, rfl, rfl, lz, at_sx hc, rfl, _, rfl, ?_⟩
      rw [eq_sign c 34 hQ]
      by_cases c34 : c = 34
      · subst c34
        refine iteF ⟨_, rfl, _, rfl, sx l, rfl, lz, rfl, _, rfl, ?_⟩
        rw [sx_len, decide_eq_false (fun z => by have := V.int.inj z; omega)]
        refine iteF ?_
        rw [ed, readQ_end] at qr
        rw [qr] at h
        refine ⟨⟨_, rfl⟩, _, rfl, _, D, ps.map fun c => sx [c], rfl, rfl, .inl (.inl (.inl eD)), ?_, ?_⟩
        · rw [sum_sx]
          show ps.length + _ * 0 ≤ _
          omega
        rw [join_sx]
        refine ⟨by show 2 ≤ sizeLine; decide, fun p hp => ⟨_, rfl, _, _, rfl, rfl, by show 2 ≤ sizeLine; decide, fun p2 hp2 => ?_⟩⟩
        have k1 : Kp H1 (upd H1 p (.tup [.str (Str.ofString "quoted"), .str (sx ps)])) := Kb.new hp
        have d1 : Dt K (upd H1 p (.tup [.str (Str.ofString "quoted"), .str (sx ps)])) (.ref p) (Sg.quo ps).d := .tup (SqT.of upd_same) (.cons (.str _) (.cons (.str _) .nil))
        generalize upd H1 p (.tup [.str (Str.ofString "quoted"), .str (sx ps)]) = H2 at k1 d1 hp2 ⊢
        have k2 : Kp H2 (upd H2 p2 (.tup [.ref p, .int ((a : Int) + 1)])) := Kb.new hp2
        refine h _ _ ((k.trans k1).trans k2) ?_
        have e1 : (n + ((a - (n + 1)) + 1 + 1) : Nat) = a + 1 := by omega
        have e2 : ps ++ [] = ps := List.append_nil ps
        show Dt K _ _ (.tuple [(Sg.quo (ps ++ [])).d, .int (((n + ((a - (n + 1)) + 1 + 1) : Nat)) : Int)])
        rw [e1, e2]
        exact .tup (SqT.of upd_same) (.cons (d1.kb k2 Lsts.nil) (.cons (.int _) .nil))
      · rw [decide_eq_false c34]
        refine iteT ⟨fun σ' H' => ∃ a' : Nat, a < a' ∧ (∃ o4, σ' = [some (.str (sx l)), some (.int (n : Int)), some (.ref D), some (.int (a' : Int)), o4]) ∧ Qs K H D l n a' H', fun σ' H' ⟨a', h1, h2, h3⟩ => ⟨_, by omega, a', rfl, h2, h3⟩, ?_⟩
        have err : readQ (l.drop a) = none → ErrAt C n H1 E := fun z => by
          rw [qr, z] at h
          exact ErrAt.kp h k
        refine ⟨_, rfl, _, rfl, sx l, _, c, rfl, rfl, lz, at_sx hc, rfl, _, rfl, ?_⟩
        rw [eq_sign c 92 hB]
        by_cases c92 : c = 92
        · subst c92
          refine iteT ⟨.ref D, rfl, .inl ⟨rfl, _, .inl (.inl eD)⟩, _, rfl, _, rfl, _, rfl, _, rfl, _, rfl, _, _, rfl, rfl, _, rfl, sx l, rfl, lz, _, rfl, (l.drop a).take 2, n, ?_, ?_, ?_⟩
          · show [V.str (cutS (sx l) (some (a : Int)) (some ((a : Int) + ((2 : Nat) : Int)))), _] = _
            rw [cut_k q1]
          · rw [ed]
            cases l.drop (a + 1) with
            | nil => exact .inl ⟨92, rfl⟩
            | cons e r => exact .inr ⟨e, rfl⟩
          · have eQ : readQ (l.drop a) = _ := (congrArg readQ ed).trans (readQ_bs _)
            rw [ed]
            cases er : l.drop (a + 1) with
            | nil =>
              rw [er] at eQ
              exact err eQ
            | cons e r =>
              rw [er] at eQ
              have eQ : readQ (l.drop a) = match escOf e with | some m => (readQ r).map fun p => (m :: p.1, p.2 + 2) | none => none := eQ
              show (match escOf e with | some m => _ | none => _)
              cases ee : escOf e with
              | none =>
                rw [ee] at eQ
                exact err eQ
              | some m =>
                rw [ee] at eQ
                have e2 : l.drop (a + 2) = r := by
                  have := congrArg (List.drop 1) er
                  rw [List.drop_drop] at this
                  exact this
                have hl2 : a + 2 ≤ l.length := by
                  have := congrArg List.length er
                  rw [List.length_drop, List.length_cons] at this
                  omega
                refine ⟨D, _, .str (sx [m]), rfl, rfl, eD, lps, _, rfl, _, rfl, _, _, rfl, rfl, a + 2, by omega, ⟨_, rfl⟩, ?_⟩
                exact Qs.push hD hl2 q2 q3 (by decide) k eD qr (by rw [e2]; exact eQ)
        · rw [decide_eq_false c92]
          refine iteF ⟨.ref D, rfl, .inl ⟨rfl, _, .inl (.inl eD)⟩, _, rfl, _, rfl, _, rfl, _, rfl, _, rfl, _, _, rfl, rfl, _, rfl, sx l, rfl, lz, _, rfl, [c], n, ?_, .inl ⟨c, rfl⟩, ?_⟩
          · show [V.str (cutS (sx l) (some (a : Int)) (some ((a : Int) + ((1 : Nat) : Int)))), _] = _
            rw [cut_k q1, ed]
            rfl
          · have eQ : readQ (l.drop a) = _ := (congrArg readQ ed).trans (readQ_ch c34 c92 _)
            have em : meantL [c] = if isChar c = true then some c else none := if_neg c92
            rw [em]
            cases ec : isChar c with
            | false =>
              rw [ec] at eQ
              exact err eQ
            | true =>
              rw [ec] at eQ
              refine ⟨D, _, .str (sx [c]), rfl, rfl, eD, lps, _, rfl, _, rfl, _, _, rfl, rfl, a + 1, by omega, ⟨_, rfl⟩, ?_⟩
              exact Qs.push hD (by omega) q2 q3 (by decide) k eD qr eQ
    · have ea : a = l.length := by omega
      rw [decide_eq_false (by omega : ¬ (a : Int) < (l.length : Int))]
      refine iteF ⟨_, rfl, _, rfl, sx l, rfl, lz, rfl, _, rfl, ?_⟩
      rw [sx_len, ea, decide_eq_true rfl]
      rw [ea, List.drop_length, readQ_nil] at qr
      rw [qr] at h
      exact iteT (rd_raise BD.T BD.no (i := 1) rfl (ErrAt.kp h k))
end
end Rs

namespace Rs
open PySem PySem.Spec PyProof.Rows L2 GxR Gx Gd
theorem run_cut {L : List Nat} {k : Nat} (h : (L.take k).all isRun = true) (ht : Hd (L.drop k)) : runOf L = L.take k := by
  have := run_app h ht
  rw [List.take_append_drop] at this
  exact this
theorem run_ok {l : List Nat} (h : l.all isRun = true) (hz : l.length ≤ 1000) : OkD (.str (sx l)) := by
  refine ⟨1, by decide, ?_⟩
  have e : (decide ((sx l).length ≤ 1000) && PyData.strOk (sx l)) = true := by
    rw [sx_len, decide_eq_true hz, Bool.true_and]
    show (sx l).cps.all _ = true
    rw [← Array.all_toList, sx_tl, List.all_eq_true]
    intro c hc
    have h1 := List.all_eq_true.mp h c hc
    unfold isRun isSmall isDigit at h1
    rw [Bool.or_eq_true, Bool.or_eq_true, rg, rg, rg] at h1
    rw [decide_eq_true_eq]
    omega
  exact e
theorem num_val {l : List Nat} (h : isNumL l = true) (hne : l ≠ []) : intText? (sx l) = some ((NumText.digitsVal l : Nat) : Int) ∧ (sx l).length ≤ 640 := by
  unfold isNumL at h
  rw [Bool.and_eq_true, decide_eq_true_eq, Bool.and_eq_true] at h
  have hd : NumText.AllDigits l := fun c hc => rg.mp (List.all_eq_true.mp h.2.1 c hc)
  refine ⟨?_, by rw [sx_len]; omega⟩
  have := PySem.intText_digits (x := sx l) (by rw [sx_tl]; exact hd) (by rw [sx_tl]; exact hne) (by rw [sx_len]; omega)
  rw [sx_tl] at this
  exact this
def marksV : List V := [.str (Str.ofString "("), .str (Str.ofString ")"), .str (Str.ofString ","), .str (Str.ofString "=")]
theorem in_marks (c : Nat) : inV (.str ⟨#[c]⟩) marksV = isMark c := by
  have e : ∀ (d : Nat) (x : Str), x = sx [d] → eqV (.str x) (.str ⟨#[c]⟩) = decide (c = d) := fun d x hx => by
    subst hx
    show (sx [d] == sx [c]) = _
    rw [sx_beq, Bool.eq_iff_iff, decide_eq_true_eq, decide_eq_true_eq]
    simp [eq_comm]
  show (eqV _ _ || (eqV _ _ || (eqV _ _ || (eqV _ _ || false)))) = _
  rw [e 40 _ (by decide +kernel), e 41 _ (by decide +kernel), e 44 _ (by decide +kernel), e 61 _ (by decide +kernel), Bool.or_false]
  rfl
/-- a pair that is made -/
theorem mk_pair {K : PySem.W.Frag} {H : Hp} {Q : VK} {v : V} {x : Str} {z : Int} {d : PyData} (hd : Dt K H v d) (q : ∀ H' u, Kp H H' → Dt K H' u (.tuple [.tuple [.str x, d], .int z]) → Q u H') :
    2 ≤ sizeLine ∧ ∀ p, H p = none → ∀ p2, upd H p (.tup [.str x, v]) p2 = none → Q (.ref p2) (upd (upd H p (.tup [.str x, v])) p2 (.tup [.ref p, .int z])) := by
  refine ⟨by decide, fun p hp p2 hp2 => ?_⟩
  have k1 : Kp H (upd H p (.tup [.str x, v])) := Kb.new hp
  have d1 : Dt K (upd H p (.tup [.str x, v])) (.ref p) (.tuple [.str x, d]) := .tup (SqT.of upd_same) (.cons (.str _) (.cons (hd.kb k1 Lsts.nil) .nil))
  generalize upd H p (.tup [.str x, v]) = H2 at k1 d1 hp2 ⊢
  have k2 : Kp H2 (upd H2 p2 (.tup [.ref p, .int z])) := Kb.new hp2
  exact q _ _ (k1.trans k2) (.tup (SqT.of upd_same) (.cons (d1.kb k2 Lsts.nil) (.cons (.int _) .nil)))
theorem mk_made {K : PySem.W.Frag} {H : Hp} {Q : VK} {v : V} {x : Str} {d : PyData} {σ : L2.St} {t : TA} {z : Int} (hd : Dt K H v d) (q : ∀ H' u, Kp H H' → Dt K H' u (.tuple [.tuple [.str x, d], .int z]) → Q u H') (ht : ∀ (H' : Hp) (R : List V → Hp → Prop) (_ : R [.int z] H'), t σ H' R := by intro _ _ h; exact ⟨_, rfl, _, _, rfl, rfl, h⟩)
    {te : TE} (he : ∀ (H' : Hp) (R : VK), R v H' → te σ H' R := by intro _ _ h; exact ⟨_, rfl, h⟩) : tTup (tCons (tTup (tCons (tC (.str x)) (tCons te tNil))) t) σ H Q := by
  obtain ⟨z1, z2⟩ := mk_pair hd q
  exact he H _ ⟨z1, fun p hp => ht _ _ ⟨z1, z2 p hp⟩⟩
def tRunEnd (K : PySem.W.Frag) (C : Addr) (ts : List Addr) (E : XK) : TS :=
  tSeq (tAsg (tSl rSlS (tVar 0) (tPart (tVar 1)) (tPart (tVar 2))) (gName 3))
    (tSeq (tIfS (tB (tCall (spData K ts isName) [] E0 (tCons (tVar 3) tNil))) (tRet (tTup (tCons (tTup (tCons (tC (.str (Str.ofString "name"))) (tCons (tVar 3) tNil))) (tCons (tVar 2) tNil)))) tNext)
      (tSeq (tIfS (tB (tCall (spNum ts) [] E0 (tCons (tVar 3) tNil))) (tRet (tTup (tCons (tTup (tCons (tC (.str (Str.ofString "number"))) (tCons (tCB (fun xs H Q => ∃ a n, xs = [.str a] ∧ intText? a = some n ∧ a.length ≤ 640 ∧ Q (.int n) H) (tCons (tVar 3) tNil)) tNil))) (tCons (tVar 2) tNil)))) tNext)
        fun _ σ H => tMkO C (spInit K (Str.ofString "offset")) [] (tCons (tVar 1) tNil) σ H fun cls d H' => E cls d H'))
theorem run_end {K : PySem.W.Frag} {C : Addr} {ts : List Addr} {E : XK} {D : Ends} {H : Hp} {l : List Nat} {n a : Nat} {o3 : Option V} (T : OexC K C) (no : PySem.W.findIn K (.ref C) "offset" = some none) (hz : Lim l) (hT : ∀ T ∈ ts, TabG H T) (h1 : n ≤ a) (h2 : a ≤ l.length)
    (rne : runOf (l.drop n) ≠ []) (e : (l.drop n).take (a - n) = runOf (l.drop n)) (el : (runOf (l.drop n)).length = a - n) (hr : (runOf (l.drop n)).all isRun = true) (h : RdS K C n H D.rt E (readR (l.drop n))) :
    tRunEnd K C ts E D [some (.str (sx l)), some (.int (n : Int)), some (.int (a : Int)), o3] H := by
  have lz : (sx l).length ≤ sizeLine := by rw [sx_len]; exact sl_ok hz
  have hz1 : l.length ≤ 100000 := hz.1
  refine ⟨_, rfl, _, rfl, _, rfl, _, rfl, _, rfl, sx l, rfl, lz, ?_⟩
  rw [cut_sx h1 h2, e]
  unfold readR at h
  have rz : (runOf (l.drop n)).length ≤ 1000 := hz.2 n
  have ew : n + (runOf (l.drop n)).length = a := by omega
  rw [ew.symm] at *
  generalize runOf (l.drop n) = R at h hr rne rz
  refine ⟨_, rfl, .str (sx R), .str (sx R), rfl, .str _, run_ok hr rz, hT, fun H2 k2 => ⟨isNameL R, ?_, ?_⟩⟩
  · show V.bl (isNameL (sx R).cps.toList) = _
    rw [sx_tl]
  cases en : isNameL R with
  | true =>
    rw [en] at h
    obtain ⟨z1, z2⟩ := mk_pair (Q := D.rt) (x := Str.ofString "name") (z := ((n + R.length : Nat) : Int)) (.str (sx R)) fun H' u k hu => h H' u (k2.trans k) hu
    exact iteT ⟨_, rfl, z1, fun p hp => ⟨_, rfl, z1, z2 p hp⟩⟩
  | false =>
    rw [en] at h
    refine iteF ⟨_, rfl, R, rfl, rne, rz, fun T hm => k2.tab T (hT T hm), fun H3 k3 => ⟨isNumL R, rfl, ?_⟩⟩
    cases eu : isNumL R with
    | true =>
      rw [eu] at h
      obtain ⟨v1, v2⟩ := num_val eu rne
      obtain ⟨z1, z2⟩ := mk_pair (Q := D.rt) (x := Str.ofString "number") (z := ((n + R.length : Nat) : Int)) (.int ((NumText.digitsVal R : Nat) : Int)) fun H' u k hu => h H' u ((k2.trans k3).trans k) hu
      exact iteT ⟨_, rfl, _, _, rfl, v1, v2, z1, fun p hp => ⟨_, rfl, z1, z2 p hp⟩⟩
    | false =>
      rw [eu] at h
      exact iteF (rd_raise T no (i := 1) rfl (ErrAt.kp h (k2.trans k3)))
section
variable {P : Program} {w : World} {K : PySem.W.Frag} {mg : Str → Option Value} {base : Heap}
theorem c_read_run {C : Addr} {ts : List Addr} (D : DefAt K mg "_read_run" s_read_run ["line", "start"]) (BD : Bad P w K mg base C) (m_len : mg "len" = none) (m_int : mg "int" = none)
    (c__is_of_run : Cal P w K mg base CX0 2 "_is_of_run" ["char"] (spSign isRun)) (c_is_name : Cal P w K mg base CX0 3 "is_name" ["thing"] (spData K ts isName)) (c__is_number : Cal P w K mg base CX0 3 "_is_number" ["run"] (spNum ts)) :
    CalX P w K mg base 4 "_read_run" ["line", "start"] (spRead K C ts (fun l => ∃ c r, l = c :: r ∧ isRun c = true) readR) := by
  refine D.calX (k := 3) sc_read_run (fun vs H Q E h => ?_) fun f cdv A outer s H vs Q E hr h => ?_
  · obtain ⟨c, n, rfl, _⟩ := h
    rfl
  · obtain ⟨l, n, rfl, hn, hz, hT, ⟨c0, r0, e0, hc0⟩, h⟩ := h
    have lz : (sx l).length ≤ sizeLine := by rw [sx_len]; exact sl_ok hz
    have hz1 : l.length ≤ 100000 := hz.1
    refine ⟨_, (pss_cons (ps_set (i := 2) sc_read_run.nd rfl (Or.inl rfl) (pv 1))
  (pss_cons (ps_while (passes_of rfl) (PW.pt (pw_and (pt_cmpR op_lt (pv 2) (pe_callB call_len_str (by rfl) m_len (by decide +kernel) (pa_cons (pv 0) pa_nil)) (nomark _)) (pw_and1 (pt_val (pe_cal (c__is_of_run.mono (by omega)) hr (by rfl) (pa_cons (pe_ix ix_str (pv 0) (pv 2) (fun _ _ => rfl)) pa_nil)))))) (pss_one (ps_aug (i := 2) sc_read_run.nd rfl (Or.inl rfl) pe_int ip_add)))
  (pss_cons (ps_set (i := 3) sc_read_run.nd rfl (Or.inl rfl) (pe_slice sl_str (pv 0) (po_some (pv 1)) (po_some (pv 2))))
  (pss_cons (ps_if (pt_val (pe_cal (c_is_name.mono (by omega)) hr (by rfl) (pa_cons (pv 3) pa_nil))) (pss_one (ps_ret (pe_tup (pa_cons (pe_tup (pa_cons pe_str (pa_cons (pv 3) pa_nil))) (pa_cons (pv 2) pa_nil))))) pss_nil)
  (pss_cons (ps_if (pt_val (pe_cal (c__is_number.mono (by omega)) hr (by rfl) (pa_cons (pv 3) pa_nil))) (pss_one (ps_ret (pe_tup (pa_cons (pe_tup (pa_cons pe_str (pa_cons (pe_callTy call_int_str (by rfl) m_int (by decide +kernel) (pa_cons (pv 3) pa_nil)) pa_nil))) (pa_cons (pv 2) pa_nil))))) pss_nil)
  (pss_one (ps_bad BD rfl (takes_of rfl rfl rfl rfl) hr (by rfl) (pa_cons (pv 1) pa_nil)))))))), ?_⟩
    refine ⟨_, rfl, fun m σ H' => ∃ a : Nat, m = l.length - a ∧ (∃ o3, σ = [some (.str (sx l)), some (.int (n : Int)), some (.int (a : Int)), o3]) ∧ n ≤ a ∧ a ≤ l.length ∧ ((l.drop n).take (a - n)).all isRun = true ∧ H' = H, ⟨_, n, rfl, ⟨none, rfl⟩, Nat.le_refl _, by omega, by simp, rfl⟩, ?_⟩
    rintro m σ H1 ⟨a, rfl, ⟨o3, rfl⟩, h1, h2, h3, rfl⟩
    refine ⟨_, rfl, _, rfl, sx l, rfl, lz, _, _, rfl, rfl, _, rfl, ?_⟩
    rw [sx_len]
    -- behind the loop
    have fin : Hd (l.drop a) → (l.drop n).take (a - n) = runOf (l.drop n) ∧ (runOf (l.drop n)).length = a - n := fun hh => by
      have e : (l.drop n).drop (a - n) = l.drop a := by rw [List.drop_drop]; congr 1; omega
      have := run_cut h3 (by rw [e]; exact hh)
      refine ⟨this.symm, ?_⟩
      rw [this, List.length_take, List.length_drop]
      omega
    have rne : runOf (l.drop n) ≠ [] := by
      rw [e0, runOf_cons hc0]
      simp
    have rall : Hd (l.drop a) → (runOf (l.drop n)).all isRun = true := fun hh => by
      rw [← (fin hh).1]
      exact h3
    by_cases ha : a < l.length
    · rw [decide_eq_true (by omega : (a : Int) < (l.length : Int))]
      obtain ⟨c, hc, ed⟩ := drop_cons ha
      refine iteT ⟨_, rfl, _, rfl, sx l, _, c, rfl, rfl, lz, at_sx hc, c, rfl, isRun c, rfl, ?_⟩
      cases ec : isRun c with
      | true =>
        refine iteT ⟨fun σ' H' => (∃ o3, σ' = [some (.str (sx l)), some (.int (n : Int)), some (.int ((a + 1 : Nat) : Int)), o3]) ∧ H' = H1, fun σ' H' ⟨e1, e2⟩ => ⟨_, by omega, a + 1, rfl, e1, by omega, by omega, ?_, e2⟩, _, rfl, _, _, rfl, rfl, ⟨_, rfl⟩, rfl⟩
        have e : a + 1 - n = (a - n) + 1 := by omega
        have e2 : (l.drop n)[a - n]? = some c := by
          rw [List.getElem?_drop, show n + (a - n) = a by omega]
          exact hc
        rw [e, List.take_add_one, e2, List.all_append, h3]
        show (_ && (isRun c && true)) = true
        rw [ec]
        rfl
      | false =>
        have hh : Hd (l.drop a) := .inr ⟨c, _, ed, ec⟩
        exact iteF (run_end BD.T BD.no hz hT h1 h2 rne (fin hh).1 (fin hh).2 (rall hh) h)
    · have ea : a = l.length := by omega
      rw [decide_eq_false (by omega : ¬ (a : Int) < (l.length : Int))]
      have hh : Hd (l.drop a) := .inl (by rw [ea, List.drop_length])
      exact iteF (run_end BD.T BD.no hz hT h1 h2 rne (fin hh).1 (fin hh).2 (rall hh) h)
theorem c_read_sign {C aM : Addr} {ts : List Addr} (D : DefAt K mg "_read_sign" s_read_sign ["line", "start"]) (BD : Bad P w K mg base C) (gQ : ∃ t, mg "QUOTE" = some (.str (Str.ofString "\"") t)) (g_MARKS : mg "MARKS" = some (.ref aM)) (hM : ∀ H, SqT K H aM marksV)
    (c__is_of_run : Cal P w K mg base CX0 2 "_is_of_run" ["char"] (spSign isRun)) (c__read_quoted : CalX P w K mg base 4 "_read_quoted" ["line", "start"] (spRead K C [] (fun _ => True) readQ'))
    (c__read_run : CalX P w K mg base 4 "_read_run" ["line", "start"] (spRead K C ts (fun l => ∃ c r, l = c :: r ∧ isRun c = true) readR)) : CalX P w K mg base 5 "_read_sign" ["line", "start"] (spRead K C ts (fun _ => True) readS) := by
  refine D.calX (k := 4) sc_read_sign (fun vs H Q E h => ?_) fun f cdv A outer s H vs Q E hr h => ?_
  · obtain ⟨c, n, rfl, _⟩ := h
    rfl
  · obtain ⟨l, n, rfl, hn, hz, hT, _, h⟩ := h
    obtain ⟨tq, g_QUOTE⟩ := gQ
    have lz : (sx l).length ≤ sizeLine := by rw [sx_len]; exact sl_ok hz
    have hz1 : l.length ≤ 100000 := hz.1
    obtain ⟨c, hc, ed⟩ := drop_cons hn
    have hQ : Str.ofString "\"" = sx [34] := by decide +kernel
    rw [ed, readS_cons] at h
    refine ⟨_, (pss_cons (ps_set (i := 2) sc_read_sign.nd rfl (Or.inl rfl) (pe_ix ix_str (pv 0) (pv 1) (fun _ _ => rfl)))
  (pss_cons (ps_if (pt_cmpR op_in_seq (pv 2) (pe_glob (v := .ref aM) rfl g_MARKS rfl) (by rfl)) (pss_one (ps_ret (pe_tup (pa_cons (pe_tup (pa_cons pe_str (pa_cons (pv 2) pa_nil))) (pa_cons (pe_op op_add (pv 1) pe_int) pa_nil))))) pss_nil)
  (pss_cons (ps_if (pt_cmpR op_eq (pv 2) (pe_glob (v := .str (Str.ofString "\"")) rfl g_QUOTE ⟨_, rfl⟩) (nomark _)) (pss_one (ps_ret (pe_calX (c__read_quoted.mono (by omega)) hr (by rfl) (fun σ => passAt (takes_of rfl rfl rfl rfl) σ) (pa_cons (pv 0) (pa_cons (pv 1) pa_nil))))) pss_nil)
  (pss_cons (ps_if (pt_val (pe_cal (c__is_of_run.mono (by omega)) hr (by rfl) (pa_cons (pv 2) pa_nil))) (pss_one (ps_ret (pe_calX (c__read_run.mono (by omega)) hr (by rfl) (fun σ => passAt (takes_of rfl rfl rfl rfl) σ) (pa_cons (pv 0) (pa_cons (pv 1) pa_nil))))) pss_nil)
  (pss_one (ps_bad BD rfl (takes_of rfl rfl rfl rfl) hr (by rfl) (pa_cons (pv 1) pa_nil))))))), ?_⟩
    refine ⟨_, rfl, _, rfl, sx l, _, c, rfl, rfl, lz, at_sx hc, ?_⟩
    refine ⟨_, rfl, aM, marksV, rfl, .inr (hM H), rfl, rfl, isMark c, congrArg V.bl (in_marks c), ?_⟩
    cases em : isMark c with
    | true =>
      rw [em] at h
      exact iteT (mk_made (x := Str.ofString "mark") (.str (sx [c])) fun H' u k hu => h H' u k hu)
    | false =>
      rw [em] at h
      refine iteF ⟨_, rfl, rfl, _, rfl, ?_⟩
      rw [eq_sign c 34 hQ]
      by_cases c34 : c = 34
      · have h : RdS K C n H Q E ((readQ (l.drop (n + 1))).map fun p => (.quo p.1, p.2 + 1)) := by
          have h := h
          rw [if_neg Bool.false_ne_true, if_pos c34] at h
          exact h
        rw [decide_eq_true c34]
        refine iteT ⟨_, rfl, _, rfl, l, n, rfl, hn, hz, (fun _ h => by cases h), trivial, ?_⟩
        rw [ed]
        exact h
      · have h : RdS K C n H Q E (if isRun c = true then readR (c :: l.drop (n + 1)) else none) := by
          have h := h
          rw [if_neg Bool.false_ne_true, if_neg c34] at h
          exact h
        rw [decide_eq_false c34]
        refine iteF ⟨_, rfl, c, rfl, isRun c, rfl, ?_⟩
        cases ec : isRun c with
        | true =>
          rw [ec] at h
          refine iteT ⟨_, rfl, _, rfl, l, n, rfl, hn, hz, hT, ⟨c, _, ed, ec⟩, ?_⟩
          rw [ed]
          exact h
        | false =>
          rw [ec] at h
          exact iteF (rd_raise BD.T BD.no (i := 1) rfl h)
end
end Rs

namespace Rs
open PySem PySem.Spec PyProof.Rows L2 GxR Gx Gd
theorem DtAll.snoc {K : PySem.W.Frag} {H : Hp} {v : V} {d : PyData} : ∀ {vs : List V} {ds : List PyData}, DtAll K H vs ds → Dt K H v d → DtAll K H (vs ++ [v]) (ds ++ [d])
  | _, _, .nil, h => .cons h .nil
  | _, _, .cons h hs, h2 => .cons h (DtAll.snoc hs h2)
theorem Out.shift0 (o : Out) : o = o.shift 0 [] := by cases o <;> simp [Out.shift]
/-- the list of the signs at D, or the error -/
def RdL (K : PySem.W.Frag) (C : Addr) (H : Hp) (Q : VK) (E : XK) : Out → Prop
  | .bad n => ErrAt C n H E
  | .ok ss => ∀ H' D vs, H D = none → Kp H H' → H' D = some (.lst vs) → DtAll K H' vs (ss.map Sg.d) → Q (.ref D) H'
def spSplit (K : PySem.W.Frag) (C : Addr) (ts : List Addr) : Sp := fun vs H Q E => ∃ l : List Nat, vs = [.str (sx l)] ∧ Lim l ∧ (∀ T ∈ ts, TabG H T) ∧ RdL K C H Q E (splitR l)
section
variable {P : Program} {w : World} {K : PySem.W.Frag} {mg : Str → Option Value} {base : Heap}
theorem c_split_line {C : Addr} {ts : List Addr} (D : DefAt K mg "split_line" s_split_line ["line"]) (m_len : mg "len" = none)
    (c__read_sign : CalX P w K mg base 5 "_read_sign" ["line", "start"] (spRead K C ts (fun _ => True) readS)) : CalX P w K mg base 6 "split_line" ["line"] (spSplit K C ts) := by
  refine D.calX (k := 5) sc_split_line (fun vs H Q E h => ?_) fun f cdv A outer s H vs Q E hr h => ?_
  · obtain ⟨l, rfl, _⟩ := h
    rfl
  · obtain ⟨l, rfl, hz, hT, h⟩ := h
    have lz : (sx l).length ≤ sizeLine := by rw [sx_len]; exact sl_ok hz
    have hz1 : l.length ≤ 100000 := hz.1
    have h32 : Str.ofString " " = sx [32] := by decide +kernel
    refine ⟨_, (pss_cons (ps_set (i := 1) sc_split_line.nd rfl (Or.inl rfl) (pe_lst pa_nil))
  (pss_cons (ps_set (i := 2) sc_split_line.nd rfl (Or.inl rfl) pe_int)
  (pss_cons (ps_while (passes_of rfl) (pt_cmpR op_lt (pv 2) (pe_callB call_len_str (by rfl) m_len (by decide +kernel) (pa_cons (pv 0) pa_nil)) (nomark _)) (pss_one (ps_if (pt_cmpR op_eq (pe_ix ix_str (pv 0) (pv 2) (fun _ _ => rfl)) pe_str (nomark _)) (pss_one (ps_aug (i := 2) sc_split_line.nd rfl (Or.inl rfl) pe_int ip_add)) (pss_cons (ps_asg (pe_calX (c__read_sign.mono (by omega)) hr (by rfl) (fun σ => passAt (takes_of rfl rfl rfl rfl) σ) (pa_cons (pv 0) (pa_cons (pv 2) pa_nil))) (pg_tup rfl (pgs_cons (pg_name (i := 3) sc_split_line.nd rfl (Or.inl rfl)) (pgs_cons (pg_name (i := 2) sc_split_line.nd rfl (Or.inl rfl)) pgs_nil))))
  (pss_one (ps_expr (pe_bm PySem.F.plainAttrs_list PySem.F.slot_list_append PySem.F.type_list_append mt_append (pv 1) (pa_cons (pv 3) pa_nil))))))))
  (pss_one (ps_ret (pv 1)))))), ?_⟩
    refine ⟨Nat.zero_le _, fun D hD => ?_⟩
    refine ⟨fun m σ H' => ∃ a : Nat, m = l.length - a ∧ (∃ o3, σ = [some (.str (sx l)), some (.ref D), some (.int (a : Int)), o3]) ∧ a ≤ l.length ∧ ∃ (ss : List Sg) (vs : List V), ss.length ≤ a ∧ H' D = some (.lst vs) ∧ DtAll K H' vs (ss.map Sg.d) ∧ Kp H H' ∧ splitR l = (splitR (l.drop a)).shift a ss,
      ⟨_, 0, rfl, ⟨none, rfl⟩, Nat.zero_le _, [], [], Nat.le_refl _, upd_same, .nil, Kb.new hD, Out.shift0 _⟩, ?_⟩
    rintro m σ H1 ⟨a, rfl, ⟨o3, rfl⟩, h1, ss, vs, hs, eD, ds, k, e⟩
    refine ⟨_, rfl, _, rfl, sx l, rfl, lz, _, _, rfl, rfl, _, rfl, ?_⟩
    rw [sx_len]
    by_cases ha : a < l.length
    · rw [decide_eq_true (by omega : (a : Int) < (l.length : Int))]
      obtain ⟨c, hc, ed⟩ := drop_cons ha
      refine iteT ⟨fun σ' H' => ∃ a' : Nat, a < a' ∧ (∃ o3, σ' = [some (.str (sx l)), some (.ref D), some (.int (a' : Int)), o3]) ∧ a' ≤ l.length ∧ ∃ (ss : List Sg) (vs : List V), ss.length ≤ a' ∧ H' D = some (.lst vs) ∧ DtAll K H' vs (ss.map Sg.d) ∧ Kp H H' ∧ splitR l = (splitR (l.drop a')).shift a' ss,
        fun σ' H' ⟨a', z1, z2, z3⟩ => ⟨_, by omega, a', rfl, z2, z3⟩, ?_⟩
      refine ⟨_, rfl, _, rfl, sx l, _, c, rfl, rfl, lz, at_sx hc, rfl, _, rfl, ?_⟩
      rw [eq_sign c 32 h32]
      by_cases c32 : c = 32
      · subst c32
        refine iteT ⟨_, rfl, _, _, rfl, rfl, a + 1, by omega, ⟨_, rfl⟩, by omega, ss, vs, by omega, eD, ds, k, ?_⟩
        rw [e, ed, splitR_sp, Out.shift_shift, List.append_nil]
      · rw [decide_eq_false c32]
        refine iteF ⟨_, rfl, _, rfl, l, a, rfl, ha, hz, fun T hm => k.tab T (hT T hm), trivial, ?_⟩
        have hd : (l.drop a).head? ≠ some 32 := by
          rw [ed]
          simpa using c32
        cases er : readS (l.drop a) with
        | none =>
          rw [ed] at er
          have e2 : splitR (l.drop a) = .bad 0 := by rw [ed]; exact splitR_bad c32 er
          rw [e, e2] at h
          exact ErrAt.kp h k
        | some p =>
          obtain ⟨g, wd⟩ := p
          obtain ⟨p1, p2⟩ := readS_pos er
          rw [List.length_drop] at p2
          rw [splitR_sign hd er, List.drop_drop, Out.shift_shift] at e
          intro H2 v k2 hv
          have eD2 := k2.keep D _ eD (by simp) nt_lst
          have ds2 := DtAll.kb k2 Lsts.nil ds
          cases hv with
          | @tup b ys _ hb hys =>
            cases hys with
            | @cons vg _ _ _ hg hys =>
              cases hys with
              | cons hi hys =>
                cases hys
                cases hi
                have lz2 : vs.length < sizeLine := by
                  have := ds.length
                  rw [List.length_map] at this
                  have : sizeLine = 16777216 := rfl
                  omega
                refine ⟨b, _, rfl, hb, rfl, vg, _, rfl, .int ((a + wd : Nat) : Int), _, rfl, rfl, ?_⟩
                refine ⟨_, rfl, .inl ⟨rfl, _, .inl (.inl eD2)⟩, _, rfl, D, vs, vg, rfl, rfl, eD2, lz2, ?_⟩
                refine ⟨a + wd, by omega, ⟨_, rfl⟩, by omega, ss ++ [g], vs ++ [vg], by simp; omega, upd_same, ?_, (k.trans k2).mut hD (no_tab eD2 nt_lst), e⟩
                rw [List.map_append]
                exact DtAll.kb (Kb.put (S := [D]) (by simp) eD2 nt_lst) (fun b hb => by rw [List.mem_singleton.mp hb]; exact ⟨_, eD2⟩) (DtAll.snoc ds2 hg)
    · have ea : a = l.length := by omega
      rw [decide_eq_false (by omega : ¬ (a : Int) < (l.length : Int))]
      rw [ea, List.drop_length, splitR_nil] at e
      rw [e] at h
      have h : RdL K C H Q E (.ok (ss ++ [])) := h
      rw [List.append_nil] at h
      exact iteF ⟨_, rfl, h H1 D vs hD k eD ds⟩
end
end Rs

namespace Gd
open PySem PySem.Spec PyProof.Rows L2 GxR Gx
def rNotInT (K : PySem.W.Frag) : R2 := fun x y H Q => ∃ d ds, Dp K H x d ∧ Dp K H y (.tuple ds) ∧ SeqAt.shaped d = true ∧ SeqAt.shaped (.tuple ds) = true ∧ Q (.bl (!ds.any fun z => PyData.eqv z d)) H
theorem op_notInT {X : Cx} (hu : X.A.units + 65 < cLine) : OpR X (compareOp .NotIn) (rNotInT X.K) := by
  intro pins s σ H x y v u Q I rx ry h
  obtain ⟨d, ds, h1, h2, s1, s2, q⟩ := h
  obtain ⟨as, r1⟩ := Dp.reads I d x v h1 rx
  obtain ⟨bs, r2⟩ := Dp.reads I (.tuple ds) y u h2 ry
  exact SeqAt.notIn_tuple_reads r2 r1 (SeqAt.canLay_of_shaped s2) (SeqAt.canLay_of_shaped s1) (room_in_shaped s1 hu) ⟨.bl _, H, I, rfl, q⟩
theorem hu_units {k : Nat} {A : Around} (hr : RoomG k A) : A.units + 65 < cLine := by have := hr.r.un; omega
/-- a def whose body wants a token -/
theorem DefAt.calT {P : Program} {w : World} {K : PySem.W.Frag} {mg : Str → Option Value} {base : Heap} {x : Str} {st : Stmt} {N ps : List Str} {sp : Sp} (D : DefAt K mg x st ps) (S : FnScope N ps (defScope st)) (hnc : ∀ y ∈ (defScope st).names, y.2 ≠ .cell) (hps : 1 ≤ ps.length)
    (len : ∀ vs H Q E, sp vs H Q E → vs.length = ps.length)
    (hb : ∀ (f : Addr) (cdv : Value) (A : Around) (outer : List Env) (s : Shared) (H : Hp) (vs : List V) (Q : VK) (E : XK), sp vs H Q E →
      ∃ t, PSsT (cxOf CX0 P w K mg base N x (defScope st) f cdv A outer s H E) (defBody st) t ∧ t { nx := fun _ H' => Q .non H', rt := Q } (start N vs) H) : Cal P w K mg base CX0 1 x ps sp := by
  obtain ⟨f, fd, F, g, b⟩ := D
  have kp := F.kp
  obtain ⟨oc, od, kV, doc, pm, an, cdv, ct, osl, rfl, lk, hcd⟩ := F.ex
  exact ⟨f, _, .of (fn_ofT (k := 0) lk hcd S hnc hps len fun A outer s H vs Q E _ hsp => hb f cdv A outer s H vs Q E hsp), g, kp, b⟩
end Gd
namespace Rs
open PySem PySem.Spec PyProof.Rows L2 GxR Gx Gd
abbrev s_escaped : Stmt := topS 48
theorem sc_escaped : FnScope ["text"] ["text"] (defScope s_escaped) := ⟨rfl, rfl, rfl, by decide +kernel, rfl, by decide +kernel, by decide +kernel⟩
abbrev s_is_space_between : Stmt := topS 46
theorem sc_is_space_between : FnScope ["sign", "following"] ["sign", "following"] (defScope s_is_space_between) := ⟨rfl, rfl, rfl, by decide +kernel, rfl, by decide +kernel, by decide +kernel⟩
abbrev s_sign_text : Stmt := topS 47
theorem sc_sign_text : FnScope ["sign"] ["sign"] (defScope s_sign_text) := ⟨rfl, rfl, rfl, by decide +kernel, rfl, by decide +kernel, by decide +kernel⟩
abbrev s_write_signs : Stmt := topS 34
theorem sc_write_signs : FnScope ["signs", "parts", "place", "sign"] ["signs"] (defScope s_write_signs) := ⟨rfl, rfl, rfl, by decide +kernel, rfl, by decide +kernel, by decide +kernel⟩
/-! ### escapes -/
theorem repl1 (a : Nat) (z : List Nat) : ∀ l : List Nat, StrLaws.replL [a] z l = l.flatMap fun c => if c = a then z else [c]
  | [] => StrLaws.replL_nil
  | c :: r => by
    have ih := repl1 a z r
    rw [List.flatMap_cons, ← ih]
    unfold StrLaws.replL
    rw [StrLaws.replS]
    by_cases h : c = a
    · subst h
      rw [if_pos (by simp), if_pos rfl]
      rfl
    · rw [if_neg (by simpa using h), if_neg h]
      rfl
theorem replace1 {x y z : Str} {a : Nat} (hy : y = sx [a]) : (Txt.replace x y z).cps.toList = x.cps.toList.flatMap fun c => if c = a then z.cps.toList else [c] := by
  subst hy
  rw [StrLaws.replace_list (by rw [sx_len]; exact Nat.le_refl _), sx_tl, repl1]
theorem escaped_is (l : List Nat) : Txt.replace (Txt.replace (Txt.replace (sx l) (Str.ofString "\\") (Str.ofString "\\\\")) (Str.ofString "\"") (Str.ofString "\\\"")) (Str.ofString "\n") (Str.ofString "\\n") = sx (escL l) := by
  refine TL.ext_tl ?_
  show Array.toList _ = Array.toList _
  rw [replace1 (a := 10) (by decide +kernel), replace1 (a := 34) (by decide +kernel), replace1 (a := 92) (by decide +kernel), sx_tl, sx_tl, List.flatMap_assoc, List.flatMap_assoc]
  unfold escL
  congr 1
  funext c
  have e1 : (Str.ofString "\\\\").cps.toList = [92, 92] := by decide +kernel
  have e2 : (Str.ofString "\\\"").cps.toList = [92, 34] := by decide +kernel
  have e3 : (Str.ofString "\\n").cps.toList = [92, 110] := by decide +kernel
  rw [e1, e2, e3]
  unfold escC
  by_cases h1 : c = 92
  · subst h1
    rfl
  · rw [if_neg h1, if_neg h1]
    by_cases h2 : c = 34
    · subst h2
      rfl
    · by_cases h3 : c = 10
      · subst h3
        rfl
      · rw [if_neg h2, if_neg h3]
        simp [h2, h3]
theorem esc_len1 (l : List Nat) : (Txt.replace (sx l) (Str.ofString "\\") (Str.ofString "\\\\")).length ≤ 2 * l.length := by
  have e : ∀ m : List Nat, (m.flatMap fun c => if c = 92 then (Str.ofString "\\\\").cps.toList else [c]).length ≤ 2 * m.length := by
    intro m
    have e1 : (Str.ofString "\\\\").cps.toList = [92, 92] := by decide +kernel
    rw [e1]
    induction m with
    | nil => exact Nat.le_refl _
    | cons c m ih =>
      rw [List.flatMap_cons, List.length_append, List.length_cons]
      have : (if c = 92 then [92, 92] else [c]).length ≤ 2 := by split <;> simp
      omega
  have := e l
  rw [← sx_tl l, ← replace1 (y := Str.ofString "\\") (a := 92) (by decide +kernel), Array.length_toList, sx_tl] at this
  exact this
theorem esc_len2 (l : List Nat) : (Txt.replace (Txt.replace (sx l) (Str.ofString "\\") (Str.ofString "\\\\")) (Str.ofString "\"") (Str.ofString "\\\"")).length ≤ 4 * l.length := by
  have e : ∀ m : List Nat, (m.flatMap fun c => if c = 34 then (Str.ofString "\\\"").cps.toList else [c]).length ≤ 2 * m.length := by
    intro m
    have e1 : (Str.ofString "\\\"").cps.toList = [92, 34] := by decide +kernel
    rw [e1]
    induction m with
    | nil => exact Nat.le_refl _
    | cons c m ih =>
      rw [List.flatMap_cons, List.length_append, List.length_cons]
      have : (if c = 34 then [92, 34] else [c]).length ≤ 2 := by split <;> simp
      omega
  have h1 := esc_len1 l
  have h2 := e (Txt.replace (sx l) (Str.ofString "\\") (Str.ofString "\\\\")).cps.toList
  rw [← replace1 (y := Str.ofString "\"") (a := 34) (by decide +kernel), Array.length_toList, Array.length_toList] at h2
  have h3 : (Txt.replace (sx l) (Str.ofString "\\") (Str.ofString "\\\\")).cps.size ≤ 2 * l.length := h1
  show Array.size _ ≤ _
  omega
def spEsc : Sp := fun vs H Q _ => ∃ l : List Nat, vs = [.str (sx l)] ∧ l.length ≤ 1000 ∧ Q (.str (sx (escL l))) H
theorem rd_esc {te : TE} {σ : L2.St} {H : Hp} {Q : VK} {l : List Nat} (hz : l.length ≤ 1000) (ht : ∀ R : VK, R (.str (sx l)) H → te σ H R) (q : Q (.str (sx (escL l))) H) :
    CwR.tReplC (CwR.tReplC (CwR.tReplC te (Str.ofString "\\") (Str.ofString "\\\\")) (Str.ofString "\"") (Str.ofString "\\\"")) (Str.ofString "\n") (Str.ofString "\\n") σ H Q := by
  have h1 := esc_len1 l
  have h2 := esc_len2 l
  have z1 : (Str.ofString "\\\\").length = 2 := by decide +kernel
  have z2 : (Str.ofString "\\\"").length = 2 := by decide +kernel
  have z3 : (Str.ofString "\\n").length = 2 := by decide +kernel
  refine ht _ ⟨_, rfl, by rw [z1, sx_len]; omega, _, rfl, by rw [z2]; omega, _, rfl, by rw [z3]; omega, ?_⟩
  rw [escaped_is]
  exact q
/-! ### comparing signs -/
theorem eqv_mark (s : Sg) (c : Nat) : PyData.eqv s.d (Sg.mark c).d = (match s with | .mark c' => decide (c' = c) | _ => false) := by
  have e : ∀ (a : Str) (x y : PyData), PyData.eqv (.tuple [.str a, x]) (.tuple [.str (Str.ofString "mark"), y]) = (a == Str.ofString "mark" && PyData.eqv x y) := fun a x y => by
    simp only [PyData.eqv, PyData.eqvAll, Bool.and_true]
  cases s with
  | name l => exact (e _ _ _).trans (by rw [show ((Str.ofString "name") == (Str.ofString "mark")) = false by decide +kernel]; rfl)
  | num n => exact (e _ _ _).trans (by rw [show ((Str.ofString "number") == (Str.ofString "mark")) = false by decide +kernel]; rfl)
  | quo l => exact (e _ _ _).trans (by rw [show ((Str.ofString "quoted") == (Str.ofString "mark")) = false by decide +kernel]; rfl)
  | mark c' =>
    refine (e _ _ _).trans ?_
    rw [show ((Str.ofString "mark") == (Str.ofString "mark")) = true by decide +kernel, Bool.true_and]
    simp only [PyData.eqv]
    rw [sx_beq]
    simp
theorem eqv_mark' (s : Sg) (c : Nat) : PyData.eqv (Sg.mark c).d s.d = (match s with | .mark c' => decide (c' = c) | _ => false) := by
  have e : ∀ (a : Str) (x y : PyData), PyData.eqv (.tuple [.str (Str.ofString "mark"), y]) (.tuple [.str a, x]) = (Str.ofString "mark" == a && PyData.eqv y x) := fun a x y => by
    simp only [PyData.eqv, PyData.eqvAll, Bool.and_true]
  cases s with
  | name l => exact (e _ _ _).trans (by rw [show ((Str.ofString "mark") == (Str.ofString "name")) = false by decide +kernel]; rfl)
  | num n => exact (e _ _ _).trans (by rw [show ((Str.ofString "mark") == (Str.ofString "number")) = false by decide +kernel]; rfl)
  | quo l => exact (e _ _ _).trans (by rw [show ((Str.ofString "mark") == (Str.ofString "quoted")) = false by decide +kernel]; rfl)
  | mark c' =>
    refine (e _ _ _).trans ?_
    rw [show ((Str.ofString "mark") == (Str.ofString "mark")) = true by decide +kernel, Bool.true_and]
    simp only [PyData.eqv]
    rw [sx_beq]
    simp [eq_comm]
theorem good_ok {s : Sg} (g : s.good) : OkD s.d := by
  have one : ∀ (l : List Nat), l.length ≤ 1000 → (∀ c ∈ l, c < 1114112) → okN 1 (.str (sx l)) = true := fun l h1 h2 => by
    have e : (decide ((sx l).length ≤ 1000) && PyData.strOk (sx l)) = true := by
      rw [sx_len, decide_eq_true h1, Bool.true_and]
      show (sx l).cps.all _ = true
      rw [← Array.all_toList, sx_tl, List.all_eq_true]
      exact fun c hc => decide_eq_true (h2 c hc)
    exact e
  have two : ∀ (x : Str) (d : PyData), okN 1 (.str x) = true → okN 1 d = true → OkD (.tuple [.str x, d]) := fun x d h1 h2 => ⟨2, by decide, by
    show (decide ([PyData.str x, d].length ≤ 1000) && [PyData.str x, d].all (okN 1)) = true
    rw [List.all_cons, List.all_cons, h1, h2]
    rfl⟩
  cases s with
  | name l =>
    refine two _ _ (by decide +kernel) (one l (by have := (name_parts g).2.1; omega) fun c hc => ?_)
    have h := List.all_eq_true.mp (name_run g) c hc
    unfold isRun isSmall isDigit at h
    rw [Bool.or_eq_true, Bool.or_eq_true, rg, rg, rg] at h
    omega
  | num n =>
    refine two _ _ (by decide +kernel) ?_
    have hn : n ≤ 999999999 := g
    refine decide_eq_true ?_
    have : (n : Int).natAbs = n := by omega
    rw [this]
    by_cases h0 : n = 0
    · rw [h0]
      decide
    · have := (Nat.log2_lt h0).mpr (show n < 2 ^ 30 by omega)
      omega
  | quo l =>
    refine two _ _ (by decide +kernel) (one l (by have := g.2; omega) fun c hc => ?_)
    have h := List.all_eq_true.mp g.1 c hc
    rw [Bool.or_eq_true, decide_eq_true_eq] at h
    rcases h with h | h
    · unfold isChar at h
      rw [Bool.and_eq_true, rg] at h
      omega
    · omega
  | mark c =>
    refine two _ _ (by decide +kernel) (one [c] (by simp) fun d hd => ?_)
    rw [List.mem_singleton.mp hd]
    rcases mark_of g with h | h | h | h <;> omega
end Rs

/-! Expressions, as they are read: pure. -/
namespace Rx
open PySem PySem.Spec PyProof.Rows L2 GxR Gx Gd Rs
def cs (s : String) : List Nat := (Str.ofString s).cps.toList
def noneS : PyData := .tuple [.str "none"]
/-- the scalar of a sign -/
def scalarOf : Sg → Option PyData
  | .quo l => if Rv.isScalarD (.tuple [.str "text", .str (sx l)]) = true then some (.tuple [.str "text", .str (sx l)]) else none
  | .num n => if Rv.isScalarD (.tuple [.str "int", .int (n : Int)]) = true then some (.tuple [.str "int", .int (n : Int)]) else none
  | .name l => if l = cs "none" then some noneS else if l = cs "true" then some (.tuple [.str "bool", .bool true]) else if l = cs "false" then some (.tuple [.str "bool", .bool false]) else none
  | .mark _ => none
theorem scalar_name (l : List Nat) : scalarOf (.name l) = if l = cs "none" then some noneS else if l = cs "true" then some (.tuple [.str "bool", .bool true]) else if l = cs "false" then some (.tuple [.str "bool", .bool false]) else none := rfl
theorem scalar_num (n : Nat) : scalarOf (.num n) = if Rv.isScalarD (.tuple [.str "int", .int (n : Int)]) = true then some (.tuple [.str "int", .int (n : Int)]) else none := rfl
theorem scalar_quo (l : List Nat) : scalarOf (.quo l) = if Rv.isScalarD (.tuple [.str "text", .str (sx l)]) = true then some (.tuple [.str "text", .str (sx l)]) else none := rfl
inductive Ex where
  | lit (v : PyData) | var (l : List Nat) | call (f : List Nat) (es : List Ex) | inj (l : List Nat) (e : Ex)
mutual
def Ex.d : Ex → PyData
  | .lit v => .tuple [.str "literal", v]
  | .var l => .tuple [.str "variable", .str (sx l)]
  | .call f es => .tuple [.str "call", .str (sx f), .tuple (Ex.ds es)]
  | .inj l e => .tuple [.str "inject", .str (sx l), e.d]
def Ex.ds : List Ex → List PyData
  | [] => []
  | e :: es => e.d :: Ex.ds es
end
mutual
def Ex.calls : Ex → Nat
  | .lit _ => 0
  | .var _ => 0
  | .call _ es => 1 + Ex.callsAll es
  | .inj _ e => 1 + e.calls
def Ex.callsAll : List Ex → Nat
  | [] => 0
  | e :: es => e.calls + Ex.callsAll es
end
-- how deep the calls stand in one another; a call with more than three arguments counts as deeper
mutual
def Ex.deep : Ex → Nat
  | .lit _ => 0
  | .var _ => 0
  | .call _ es => 1 + Ex.deepAll es + (es.length - 3)
  | .inj _ e => 1 + e.deep
def Ex.deepAll : List Ex → Nat
  | [] => 0
  | e :: es => max e.deep (Ex.deepAll es)
end
def arity : List Nat → Nat := fun l => if l ∈ [cs "not", cs "size", cs "reverse", cs "resource"] then 1 else if l ∈ [cs "put", cs "cond"] then 3 else 2
def reserved : List (List Nat) := ["none", "true", "false", "map", "inject", "not", "size", "reverse", "add", "sub", "lt", "eq", "and", "concat", "has", "get", "remove", "take", "put", "cond", "resource"].map cs
/-- a mark stands first -/
def atMark (c : Nat) : List Sg → Bool
  | .mark c' :: _ => decide (c' = c)
  | _ => false
/-- what stands behind a mark -/
def expect (c : Nat) (r : List Sg) : Option (List Sg) := if atMark c r = true then some r.tail else none
def rdArgs (f : List Sg → Option (Ex × List Sg)) : Nat → Nat → List Sg → Option (List Ex × List Sg)
  | 0, _, r => some ([], r)
  | k + 1, c, r => match expect c r with
    | none => none
    | some r1 => match f r1 with
      | none => none
      | some (e, r2) => match rdArgs f k 44 r2 with
        | none => none
        | some (es, r3) => some (e :: es, r3)
def kindOf : Sg → Str
  | .name _ => Str.ofString "name"
  | .num _ => Str.ofString "number"
  | .quo _ => Str.ofString "quoted"
  | .mark _ => Str.ofString "mark"
def contOf : Sg → PyData
  | .name l => .str (sx l)
  | .num n => .int (n : Int)
  | .quo l => .str (sx l)
  | .mark c => .str (sx [c])
theorem d_eq (s : Sg) : s.d = .tuple [.str (kindOf s), contOf s] := by cases s <;> rfl
def isQuo : Sg → Bool
  | .quo _ => true
  | _ => false
/-- an entry of a map -/
def rdEnt : List Sg → Option (PyData × List Sg)
  | [] => none
  | s :: r => if atMark 44 r = true then (match r.tail with
    | [] => none
    | s2 :: r2 => match scalarOf s2 with
      | none => none
      | some v => if isQuo s = true then some (.tuple [contOf s, v], r2) else none) else none
theorem rdEnt_cons (s : Sg) (r : List Sg) : rdEnt (s :: r) = if atMark 44 r = true then (match r.tail with
    | [] => none
    | s2 :: r2 => match scalarOf s2 with
      | none => none
      | some v => if isQuo s = true then some (.tuple [contOf s, v], r2) else none) else none := rfl
def rdEnts : Nat → Bool → List Sg → Option (List PyData × List Sg)
  | 0, _, _ => none
  | n + 1, first, r => if atMark 41 r = true then some ([], r.tail) else
    match (if first = true then some r else expect 44 r) with
    | none => none
    | some r1 => match rdEnt r1 with
      | none => none
      | some (e, r2) => match rdEnts n false r2 with
        | none => none
        | some (es, r3) => some (e :: es, r3)
def rdMap (r : List Sg) : Option (Ex × List Sg) := match expect 40 r with
  | none => none
  | some r1 => match rdEnts (r1.length + 1) true r1 with
    | none => none
    | some (es, r2) => if Rv.isValueD (.tuple [.str "map", .tuple es]) = true then some (.lit (.tuple [.str "map", .tuple es]), r2) else none
def rdInj (f : List Sg → Option (Ex × List Sg)) (r : List Sg) : Option (Ex × List Sg) := match expect 40 r with
  | none => none
  | some [] => none
  | some (s :: r1) => match s with
    | .name l => if l ∈ reserved then none else match expect 44 r1 with
      | none => none
      | some r2 => match f r2 with
        | none => none
        | some (e, r3) => match expect 41 r3 with
          | none => none
          | some r4 => some (.inj l e, r4)
    | _ => none
def rdCall (f : List Sg → Option (Ex × List Sg)) (l : List Nat) (r : List Sg) : Option (Ex × List Sg) := match rdArgs f (arity l) 40 r with
  | none => none
  | some (es, r1) => match expect 41 r1 with
    | none => none
    | some r2 => some (.call l es, r2)
def rdBody (f : Option (List Sg → Option (Ex × List Sg))) : List Sg → Option (Ex × List Sg)
  | [] => none
  | s :: r => match scalarOf s with
    | some v => some (.lit v, r)
    | none => match s with
      | .name l => if l = cs "map" then rdMap r else if l ∉ reserved then some (.var l, r) else match f with
        | none => none
        | some f => if l = cs "inject" then rdInj f r else rdCall f l r
      | _ => none
/-- an expression with at most n calls in one another -/
def rd : Nat → List Sg → Option (Ex × List Sg)
  | 0 => rdBody none
  | n + 1 => rdBody (some (rd n))
def readE (L : List Sg) : Option (Ex × List Sg) := match rd 5 L with
  | none => none
  | some (e, r) => if 10 < e.calls then none else some (e, r)
/-! ### the law's rows -/
def ofS (s : Str) : List Nat := s.cps.toList
def wrongs : List (List Nat) :=
  (["", "(a)", ")", ",", "=", "add(a)", "add(a, b,)", "add(a, b, c)", "add(, b)", "add a", "add", "not", "not()", "not(a", "size()",
    "1000000", "999999999", "map", "map(", "map(a, 1)", "map(\"a\")", "map(\"a\", 1", "map(\"a\", 1,)", "map(\"a\" 1)", "map(\"\", 1)",
    "map(\"a\", 1, \"a\", 2)", "map(\"a\", n)", "map(\"a\", map())", "map(\"abcdefghijklm\", 1)", "map(\"a\\n\", 1)"].map cs) ++ [34 :: List.replicate 41 97 ++ [34]] ++ (["\"a\\n\"",
    "inject", "inject(a)", "inject(none, 1)", "inject(add, 1)", "inject(a, )", "inject(\"a\", 1)", "inject(a 1)", "cond(a, b)", "resource()",
    "inject(inject, 1)", "put(m, k)", "map(\"a\", 1000000)", "map(\"k0\", 1, \"k1\", 1, \"k2\", 1, \"k3\", 1, \"k4\", 1, \"k5\", 1, \"k6\", 1, \"k7\", 1, \"k8\", 1)"].map cs) ++
  ((List.replicate 6 (cs "not(")).flatten ++ cs "a" ++ List.replicate 6 41) :: ((List.replicate 6 (cs "inject(a, ")).flatten ++ cs "a" ++ List.replicate 6 41) :: ["and(a)", "eq(a, add)"].map cs
def nears : List (List Nat) :=
  (["a", "n1", "none", "true", "false", "0", "999999", "\"\""].map cs) ++ [34 :: List.replicate 40 97 ++ [34]] ++ (["map()", "map(\"a\", 1)", "map(\"a\", 1, \"b\", none)", "true",
    "add(a, b)", "not(a)", "inject(a, 1)", "cond(a, b, c)", "resource(a)", "take(m, 2)", "mapx", "adds", "nones", "injects"].map cs) ++
  [(List.replicate 5 (cs "not(")).flatten ++ cs "a" ++ List.replicate 5 41, cs "map(\"k0\", 1, \"k1\", 1, \"k2\", 1, \"k3\", 1, \"k4\", 1, \"k5\", 1, \"k6\", 1, \"k7\", 1)"]
def inner : List Nat := cs "cond(a, add(1, 2), put(m, k, 1))"
def calls10 : List Nat := cs "and(eq(" ++ inner ++ cs ", " ++ inner ++ cs "), and(not(a), b))"
def calls11 : List Nat := cs "and(eq(" ++ inner ++ cs ", " ++ inner ++ cs "), and(not(a), not(b)))"
end Rx

namespace Gd
open PySem PySem.Spec PyProof.Rows L2 GxR Gx
def rInT (K : PySem.W.Frag) : R2 := fun x y H Q => ∃ d ds, Dp K H x d ∧ Dp K H y (.tuple ds) ∧ SeqAt.shaped d = true ∧ SeqAt.shaped (.tuple ds) = true ∧ Q (.bl (ds.any fun z => PyData.eqv z d)) H
theorem op_inT {X : Cx} (hu : X.A.units + 65 < cLine) : OpR X (compareOp .In) (rInT X.K) := by
  intro pins s σ H x y v u Q I rx ry h
  obtain ⟨d, ds, h1, h2, s1, s2, q⟩ := h
  obtain ⟨as, r1⟩ := Dp.reads I d x v h1 rx
  obtain ⟨bs, r2⟩ := Dp.reads I (.tuple ds) y u h2 ry
  exact SeqAt.in_tuple_reads r2 r1 (SeqAt.canLay_of_shaped s2) (SeqAt.canLay_of_shaped s1) (room_in_shaped s1 hu) ⟨.bl _, H, I, rfl, q⟩
theorem iteP {p : Prop} [Decidable p] {A B : Prop} (h : p) (q : A) : if decide p = true then A else B := by rw [if_pos (decide_eq_true h)]; exact q
theorem iteN {p : Prop} [Decidable p] {A B : Prop} (h : ¬ p) (q : B) : if decide p = true then A else B := by rw [if_neg (by simpa using h)]; exact q
theorem iteN' {p : Prop} [Decidable p] {A B : Prop} (h : ¬ p) (q : B) : if decide p = true then A else B := iteN h q
end Gd
namespace Rx
open PySem PySem.Spec PyProof.Rows L2 GxR Gx Gd Rs
abbrev topS := Rs.topS
abbrev s_is_at : Stmt := topS 37
theorem sc_is_at : FnScope ["signs", "at", "sign"] ["signs", "at", "sign"] (defScope s_is_at) := ⟨rfl, rfl, rfl, by decide +kernel, rfl, by decide +kernel, by decide +kernel⟩
abbrev s_if_scalar : Stmt := topS 51
theorem sc_if_scalar : FnScope ["thing"] ["thing"] (defScope s_if_scalar) := ⟨rfl, rfl, rfl, by decide +kernel, rfl, by decide +kernel, by decide +kernel⟩
abbrev s_scalar_of : Stmt := topS 36
theorem sc_scalar_of : FnScope ["sign", "kind", "content"] ["sign"] (defScope s_scalar_of) := ⟨rfl, rfl, rfl, by decide +kernel, rfl, by decide +kernel, by decide +kernel⟩
abbrev s_sign_at : Stmt := topS 66
theorem sc_sign_at : FnScope ["signs", "at"] ["signs", "at"] (defScope s_sign_at) := ⟨rfl, rfl, rfl, by decide +kernel, rfl, by decide +kernel, by decide +kernel⟩
abbrev s_behind_expressions : Stmt := topS 67
theorem sc_behind_expressions : FnScope ["signs", "at", "sign"] ["signs", "at", "sign"] (defScope s_behind_expressions) := ⟨rfl, rfl, rfl, by decide +kernel, rfl, by decide +kernel, by decide +kernel⟩
/-- a sign of right size -/
def fit : Sg → Bool
  | .name l => decide (l.length ≤ 1000) && l.all fun c => decide (c < 1114112)
  | .num n => decide (n ≤ 999999999)
  | .quo l => decide (l.length ≤ 1000) && l.all fun c => decide (c < 1114112)
  | .mark c => decide (c < 1114112)
theorem okS {l : List Nat} (h : (decide (l.length ≤ 1000) && l.all fun c => decide (c < 1114112)) = true) (n : Nat) : okN n (.str (sx l)) = true := by
  rw [Bool.and_eq_true, List.all_eq_true] at h
  have e : (decide ((sx l).length ≤ 1000) && PyData.strOk (sx l)) = true := by
    rw [sx_len, h.1, Bool.true_and]
    show (sx l).cps.all _ = true
    rw [← Array.all_toList, sx_tl, List.all_eq_true]
    exact h.2
  cases n <;> exact e
theorem okI {m : Nat} (h : m ≤ 999999999) (n : Nat) : okN n (.int (m : Int)) = true := by
  have : decide ((m : Int).natAbs.log2 < 1920) = true := by
    have : (m : Int).natAbs = m := by omega
    rw [this, decide_eq_true]
    by_cases h0 : m = 0
    · rw [h0]; decide
    · have := (Nat.log2_lt h0).mpr (show m < 2 ^ 30 by omega)
      omega
  cases n <;> exact this
theorem okPair {a b : PyData} (ha : okN 1 a = true) (hb : okN 1 b = true) : OkD (.tuple [a, b]) := ⟨2, by decide, by
  show (decide ((2 : Nat) ≤ 1000) && (okN 1 a && (okN 1 b && true))) = true
  rw [ha, hb]; rfl⟩
theorem fit_ok {s : Sg} (h : fit s = true) : OkD s.d := by
  cases s with
  | name l => exact okPair (by decide +kernel) (okS h 1)
  | num n => exact okPair (by decide +kernel) (okI (of_decide_eq_true h) 1)
  | quo l => exact okPair (by decide +kernel) (okS h 1)
  | mark c => exact okPair (by decide +kernel) (okS (by
      have h : decide (c < 1114112) = true := h
      show (decide ((1 : Nat) ≤ 1000) && (decide (c < 1114112) && true)) = true
      rw [h]; rfl) 1)
/-- the signs L stand at S -/
def Sgs (K : PySem.W.Frag) (H : Hp) (S : Addr) (L : List Sg) : Prop := ∃ vs, H S = some (.lst vs) ∧ DtAll K H vs (L.map Sg.d)
theorem Sgs.kp {K : PySem.W.Frag} {H H' : Hp} {S : Addr} {L : List Sg} (h : Sgs K H S L) (k : Kp H H') : Sgs K H' S L := let ⟨vs, a, b⟩ := h; ⟨vs, k.keep S _ a (by simp) nt_lst, DtAll.kb k Lsts.nil b⟩
theorem Sgs.len {K : PySem.W.Frag} {H : Hp} {S : Addr} {L : List Sg} (h : Sgs K H S L) : ∃ vs, H S = some (.lst vs) ∧ vs.length = L.length ∧ DtAll K H vs (L.map Sg.d) := by
  obtain ⟨vs, a, b⟩ := h
  have := b.length
  rw [List.length_map] at this
  exact ⟨vs, a, this, b⟩
theorem dropC {α : Type} {L : List α} {i : Nat} (h : i < L.length) : ∃ s, L[i]? = some s ∧ L.drop i = s :: L.drop (i + 1) := ⟨L[i], List.getElem?_eq_getElem h, List.drop_eq_getElem_cons h⟩
def spIsAt (K : PySem.W.Frag) : Sp := fun vs H Q _ => ∃ (S : Addr) (at' : Nat) (v : V) (L : List Sg) (c : Nat), vs = [.ref S, .int (at' : Int), v] ∧ Sgs K H S L ∧ (∀ s ∈ L, fit s = true) ∧ Dt K H v (Sg.mark c).d ∧ c < 1114112 ∧ Q (.bl (atMark c (L.drop at'))) H
def spIf (K : PySem.W.Frag) (ts : List Addr) : Sp := fun vs H Q _ => ∃ v d, vs = [v] ∧ Dt K H v d ∧ OkD d ∧ (∀ T ∈ ts, TabG H T) ∧ ∀ H', Kp H H' → Q (if Rv.isScalarD d = true then v else .non) H'
def spScalar (K : PySem.W.Frag) (ts : List Addr) : Sp := fun vs H Q _ => ∃ v s, vs = [v] ∧ Dt K H v (Sg.d s) ∧ fit s = true ∧ (∀ T ∈ ts, TabG H T) ∧ ∀ H' u, Kp H H' → (match scalarOf s with | none => u = .non | some d => u ≠ .non ∧ Dt K H' u d) → Q u H'
def spSignAt (K : PySem.W.Frag) (C : Addr) : Sp := fun vs H Q E => ∃ (S : Addr) (at' : Nat) (L : List Sg), vs = [.ref S, .int (at' : Int)] ∧ Sgs K H S L ∧ (match L.drop at' with | [] => E (.ref C) none H | s :: _ => ∀ v, Dt K H v s.d → Q v H)
def spBehind (K : PySem.W.Frag) (C : Addr) : Sp := fun vs H Q E => ∃ (S : Addr) (at' : Nat) (v : V) (L : List Sg) (c : Nat), vs = [.ref S, .int (at' : Int), v] ∧ Sgs K H S L ∧ (∀ s ∈ L, fit s = true) ∧ Dt K H v (Sg.mark c).d ∧ c < 1114112 ∧ (if atMark c (L.drop at') = true then Q (.int ((at' : Int) + 1)) H else E (.ref C) none H)
section
variable {P : Program} {w : World} {K : PySem.W.Frag} {mg : Str → Option Value} {base : Heap}
theorem c_is_at (D : DefAt K mg "is_at" s_is_at ["signs", "at", "sign"]) (m_len : mg "len" = none) : Cal P w K mg base CX0 1 "is_at" ["signs", "at", "sign"] (spIsAt K) := by
  refine D.cal (k := 0) sc_is_at (fun vs H Q E h => ?_) fun f cdv A outer s H vs Q E hr h => ?_
  · obtain ⟨S, a, v, L, c, rfl, _⟩ := h
    rfl
  · obtain ⟨S, a, v, L, c, rfl, hS, hf, hv, hc, q⟩ := h
    refine ⟨_, (pss_one (ps_ret (pe_and (pe_cmpR op_lt (pv 1) (pe_callB call_len_seq (by rfl) m_len (by decide +kernel) (pa_cons (pv 0) pa_nil)) (nomark _)) (pe_one (pe_cmpR (op_eqD hr.r.units) (pe_ix ix_list (pv 0) (pv 1) (fun _ _ => rfl)) (pv 2) (nomark _)))))), ?_⟩
    obtain ⟨vs, e, hl, ds⟩ := hS.len
    refine ⟨_, rfl, _, rfl, S, vs, rfl, .inl (.inl (.inl e)), _, _, rfl, rfl, _, rfl, ?_⟩
    by_cases ha : a < L.length
    · refine iteP (show (a : Int) < (vs.length : Int) by omega) ?_
      obtain ⟨s, hs, hd⟩ := dropC ha
      obtain ⟨u, hu, du⟩ := ds.at (i := a) (d := s.d) (by rw [List.getElem?_map, hs]; rfl)
      have fs := hf s (List.mem_of_getElem? hs)
      refine ⟨_, rfl, _, rfl, S, vs, _, u, rfl, rfl, .inl (.inl e), atI_nat hu, _, rfl, s.d, (Sg.mark c).d, du.dp, hv.dp, (fit_ok fs).shaped, (fit_ok (s := .mark c) (decide_eq_true hc)).shaped, ?_⟩
      rw [hd] at q
      rw [eqv_mark]
      cases s with
      | mark c' => exact q
      | _ => exact q
    · refine iteN (show ¬ (a : Int) < (vs.length : Int) by omega) ?_
      rw [List.drop_eq_nil_of_le (by omega)] at q
      exact q
theorem c_if_scalar {ts : List Addr} (D : DefAt K mg "_if_scalar" s_if_scalar ["thing"]) (c_is_scalar : Cal P w K mg base CX0 4 "is_scalar" ["thing"] (spData K ts Rv.isScalarD)) : Cal P w K mg base CX0 5 "_if_scalar" ["thing"] (spIf K ts) := by
  refine D.cal (k := 4) sc_if_scalar (fun vs H Q E h => ?_) fun f cdv A outer s H vs Q E hr h => ?_
  · obtain ⟨v, d, rfl, _⟩ := h
    rfl
  · obtain ⟨v, d, rfl, hv, ok, hT, q⟩ := h
    refine ⟨_, (pss_one (ps_ret (pe_ifExp (pt_val (pe_cal (c_is_scalar.mono (by omega)) hr (by rfl) (pa_cons (pv 0) pa_nil))) (pv 0) pe_non))), ?_⟩
    refine ⟨_, rfl, v, d, rfl, hv, ok, hT, fun H' k => ⟨_, rfl, ?_⟩⟩
    have q := q H' k
    cases e : Rv.isScalarD d with
    | true =>
      rw [e] at q
      exact iteT ⟨_, rfl, q⟩
    | false =>
      rw [e] at q
      exact iteF q
theorem c_sign_at {C : Addr} (D : DefAt K mg "_sign_at" s_sign_at ["signs", "at"]) (BN_BadExpression : BadN K mg "BadExpression" C) (m_len : mg "len" = none) : CalN P w K mg base 1 "_sign_at" ["signs", "at"] (spSignAt K C) := by
  refine D.calN (k := 0) sc_sign_at (fun vs H Q E h => ?_) fun f cdv A outer s H vs Q E hr h => ?_
  · obtain ⟨S, a, L, rfl, _⟩ := h
    rfl
  · obtain ⟨S, a, L, rfl, hS, h⟩ := h
    refine ⟨_, (pss_cons (ps_if (pt_cmpR op_ge (pv 1) (pe_callB call_len_seq (by rfl) m_len (by decide +kernel) (pa_cons (pv 0) pa_nil)) (nomark _)) (pss_one (ps_bad0N BN_BadExpression rfl (L2N.takes_of rfl rfl rfl rfl) (by rfl))) pss_nil)
  (pss_one (ps_ret (pe_ix ix_list (pv 0) (pv 1) (fun _ _ => rfl))))), ?_⟩
    obtain ⟨vs, e, hl, ds⟩ := hS.len
    refine ⟨_, rfl, _, rfl, S, vs, rfl, .inl (.inl (.inl e)), _, _, rfl, rfl, _, rfl, ?_⟩
    by_cases ha : a < L.length
    · obtain ⟨s, hs, hd⟩ := dropC ha
      rw [hd] at h
      obtain ⟨u, hu, du⟩ := ds.at (i := a) (d := s.d) (by rw [List.getElem?_map, hs]; rfl)
      refine iteN (show ¬ (vs.length : Int) ≤ (a : Int) by omega) ?_
      exact ⟨_, rfl, _, rfl, S, vs, _, u, rfl, rfl, .inl (.inl e), atI_nat hu, h u du⟩
    · rw [List.drop_eq_nil_of_le (by omega)] at h
      exact iteP (show (vs.length : Int) ≤ (a : Int) by omega) h
theorem c_behind {C : Addr} (D : DefAl K mg "_behind" "behind_expressions" s_behind_expressions ["signs", "at", "sign"]) (BN_BadExpression : BadN K mg "BadExpression" C) (c_is_at : Cal P w K mg base CX0 1 "is_at" ["signs", "at", "sign"] (spIsAt K)) : CalN P w K mg base 2 "behind_expressions" ["signs", "at", "sign"] (spBehind K C) := by
  refine D.calN (k := 1) sc_behind_expressions (fun vs H Q E h => ?_) fun f cdv A outer s H vs Q E hr h => ?_
  · obtain ⟨S, a, v, L, c, rfl, _⟩ := h
    rfl
  · obtain ⟨S, a, v, L, c, rfl, hS, hf, hv, hc, h⟩ := h
    refine ⟨_, (pss_cons (ps_if (pt_not (pt_val (pe_cal (c_is_at.mono (by omega)) hr (by rfl) (pa_cons (pv 0) (pa_cons (pv 1) (pa_cons (pv 2) pa_nil)))))) (pss_one (ps_bad0N BN_BadExpression rfl (L2N.takes_of rfl rfl rfl rfl) (by rfl))) pss_nil)
  (pss_one (ps_ret (pe_op op_add (pv 1) pe_int)))), ?_⟩
    refine ⟨_, rfl, _, rfl, _, rfl, S, a, v, L, c, rfl, hS, hf, hv, hc, _, rfl, ?_⟩
    cases e : atMark c (L.drop a) with
    | true =>
      rw [e] at h
      exact iteF ⟨_, rfl, _, _, rfl, rfl, h⟩
    | false =>
      rw [e] at h
      exact iteT h
end
end Rx

namespace Rx
open PySem PySem.Spec PyProof.Rows L2 GxR Gx Gd Rs
theorem eqv_pair (a b : Str) (x y : PyData) : PyData.eqv (.tuple [.str a, x]) (.tuple [.str b, y]) = (a == b && PyData.eqv x y) := by
  simp only [PyData.eqv, PyData.eqvAll, Bool.and_true]
theorem eqv_str (a b : Str) : PyData.eqv (.str a) (.str b) = (a == b) := by simp only [PyData.eqv]
theorem sx_is (l : List Nat) (s : String) : (sx l == Str.ofString s) = decide (l = cs s) := by
  have e : Str.ofString s = sx (cs s) := (sx_of _).symm
  rw [e, sx_beq]
theorem dec_sx (l : List Nat) (s : String) : decide (V.str (sx l) = V.str (Str.ofString s)) = decide (l = cs s) := by
  have e : Str.ofString s = sx (cs s) := (sx_of _).symm
  rw [e, Bool.eq_iff_iff, decide_eq_true_eq, decide_eq_true_eq]
  exact ⟨fun h => sx_inj (V.str.inj h), fun h => by rw [h]⟩
/-- a pair of a word and something -/
theorem dt_pair {K : PySem.W.Frag} {H : Hp} {v : V} {a b : PyData} (h : Dt K H v (.tuple [a, b])) : ∃ p x y, v = .ref p ∧ SqT K H p [x, y] ∧ Dt K H x a ∧ Dt K H y b := by
  cases h with
  | tup h hs =>
    cases hs with
    | cons h1 hs =>
      cases hs with
      | cons h2 hs =>
        cases hs
        exact ⟨_, _, _, rfl, h, h1, h2⟩
theorem new_pair {K : PySem.W.Frag} {H : Hp} {p : Addr} {x y : V} {a b : PyData} (hp : H p = none) (hx : Dt K H x a) (hy : Dt K H y b) : Kp H (upd H p (.tup [x, y])) ∧ Dt K (upd H p (.tup [x, y])) (.ref p) (.tuple [a, b]) :=
  ⟨Kb.new hp, .tup (SqT.of upd_same) (.cons (hx.kb (Kb.new hp) Lsts.nil) (.cons (hy.kb (Kb.new hp) Lsts.nil) .nil))⟩
theorem rd_tail {K : PySem.W.Frag} {H : Hp} {Q : VK} {p : Addr} {wd : String} {l : List Nat} {nm : Bool} {d : PyData} (hp : SqT K H p [.str (Str.ofString wd), .str (sx l)]) (hv : Dt K H (.ref p) d) (hd : d = .tuple [.str (Str.ofString wd), .str (sx l)]) (e : (Str.ofString wd == Str.ofString "name") = nm) (ok : OkD d)
    (qn : nm = true → l = cs "none" → ∀ H' u, Kp H H' → Dt K H' u noneS → Q u H') (qt : nm = true → l = cs "true" → ∀ H' u, Kp H H' → Dt K H' u (.tuple [.str "bool", .bool true]) → Q u H')
    (qf : nm = true → l = cs "false" → ∀ H' u, Kp H H' → Dt K H' u (.tuple [.str "bool", .bool false]) → Q u H') (qo : ¬ (nm = true ∧ (l = cs "none" ∨ l = cs "true" ∨ l = cs "false")) → ∀ H', Kp H H' → Q .non H') :
    (tSeq (tIfS (tTest (tOp (rEqD K) (tVar 0) (tTup (tCons (tC (.str (Str.ofString "name"))) (tCons (tC (.str (Str.ofString "none"))) tNil))))) (tRet (tTup (tCons (tC (.str (Str.ofString "none"))) tNil))) tNext)
      (tSeq (tIfS (tTest (tOp (rInT K) (tVar 0) (tTup (tCons (tTup (tCons (tC (.str (Str.ofString "name"))) (tCons (tC (.str (Str.ofString "true"))) tNil))) (tCons (tTup (tCons (tC (.str (Str.ofString "name"))) (tCons (tC (.str (Str.ofString "false"))) tNil))) tNil))))) (tRet (tTup (tCons (tC (.str (Str.ofString "bool"))) (tCons (tOp rEq (tVar 2) (tC (.str (Str.ofString "true")))) tNil)))) tNext)
        (tRet (tC .non)))) { nx := fun _ H' => Q .non H', rt := Q } [some (.ref p), some (.str (Str.ofString wd)), some (.str (sx l))] H := by
  have e' : (Str.ofString "name" == Str.ofString wd) = nm := by rw [← e, Bool.eq_iff_iff, beq_iff_eq, beq_iff_eq, eq_comm]
  have sx_is' : ∀ s : String, (Str.ofString s == sx l) = decide (l = cs s) := fun s => by rw [← sx_is, Bool.eq_iff_iff, beq_iff_eq, beq_iff_eq, eq_comm]
  refine ⟨_, rfl, by show 2 ≤ sizeLine; decide, fun t ht => ?_⟩
  obtain ⟨k1, d1⟩ := new_pair (K := K) ht (.str (Str.ofString "name")) (.str (Str.ofString "none"))
  generalize upd H t (.tup [.str (Str.ofString "name"), .str (Str.ofString "none")]) = H1 at k1 d1 ⊢
  have v1 := hv.kb k1 Lsts.nil
  refine ⟨d, _, v1.dp, d1.dp, ok.shaped, by decide +kernel, _, rfl, ?_⟩
  rw [hd, eqv_pair, eqv_str, e, sx_is]
  by_cases hn : nm = true ∧ l = cs "none"
  · rw [hn.1, decide_eq_true hn.2]
    refine iteT ⟨by show 1 ≤ sizeLine; decide, fun t2 ht2 => qn hn.1 hn.2 _ _ (k1.trans (Kb.new ht2)) (.tup (SqT.of upd_same) (.cons (.str _) .nil))⟩
  · have e0 : (nm && decide (l = cs "none")) = false := by
      cases nm with
      | false => rfl
      | true => exact decide_eq_false fun z => hn ⟨rfl, z⟩
    rw [e0]
    refine iteF ?_
    refine ⟨_, rfl, by show 2 ≤ sizeLine; decide, fun t2 ht2 => ⟨by show 2 ≤ sizeLine; decide, fun t3 ht3 => ⟨by show 2 ≤ sizeLine; decide, fun t4 ht4 => ?_⟩⟩⟩
    obtain ⟨k2, d2⟩ := new_pair (K := K) ht2 (.str (Str.ofString "name")) (.str (Str.ofString "true"))
    generalize upd H1 t2 (.tup [.str (Str.ofString "name"), .str (Str.ofString "true")]) = H2 at k2 d2 ht3 ht4 ⊢
    obtain ⟨k3, d3⟩ := new_pair (K := K) ht3 (.str (Str.ofString "name")) (.str (Str.ofString "false"))
    generalize upd H2 t3 (.tup [.str (Str.ofString "name"), .str (Str.ofString "false")]) = H3 at k3 d3 ht4 ⊢
    have d2' := d2.kb k3 Lsts.nil
    have k4 : Kp H3 (upd H3 t4 (.tup [.ref t2, .ref t3])) := Kb.new ht4
    have d4 : Dt K (upd H3 t4 (.tup [.ref t2, .ref t3])) (.ref t4) (.tuple [.tuple [.str (Str.ofString "name"), .str (Str.ofString "true")], .tuple [.str (Str.ofString "name"), .str (Str.ofString "false")]]) :=
      .tup (SqT.of upd_same) (.cons (d2'.kb k4 Lsts.nil) (.cons (d3.kb k4 Lsts.nil) .nil))
    generalize upd H3 t4 (.tup [.ref t2, .ref t3]) = H4 at k4 d4 ⊢
    have k14 := ((k1.trans k2).trans k3).trans k4
    have v4 := hv.kb k14 Lsts.nil
    refine ⟨d, _, v4.dp, d4.dp, ok.shaped, by decide +kernel, _, rfl, ?_⟩
    have ea : ([PyData.tuple [.str (Str.ofString "name"), .str (Str.ofString "true")], .tuple [.str (Str.ofString "name"), .str (Str.ofString "false")]].any fun z => PyData.eqv z d) = (nm && (decide (l = cs "true") || decide (l = cs "false"))) := by
      show (PyData.eqv _ d || (PyData.eqv _ d || false)) = _
      rw [hd, eqv_pair, eqv_pair, eqv_str, eqv_str, e', sx_is', sx_is', Bool.or_false]
      cases nm <;> rfl
    rw [ea]
    by_cases ht : nm = true ∧ (l = cs "true" ∨ l = cs "false")
    · rw [ht.1, show (decide (l = cs "true") || decide (l = cs "false")) = true by rcases ht.2 with z | z <;> simp [z]]
      refine iteT ⟨_, rfl, rfl, by show 2 ≤ sizeLine; decide, fun t5 ht5 => ?_⟩
      rw [dec_sx]
      obtain ⟨k5, d5⟩ := new_pair (K := K) ht5 (.str (Str.ofString "bool")) (.bl (decide (l = cs "true")))
      rcases ht.2 with z | z
      · rw [decide_eq_true z] at k5 d5 ⊢
        exact qt ht.1 z _ _ (k14.trans k5) d5
      · have nz : ¬ l = cs "true" := by rw [z]; decide +kernel
        rw [decide_eq_false nz] at k5 d5 ⊢
        exact qf ht.1 z _ _ (k14.trans k5) d5
    · have e0 : (nm && (decide (l = cs "true") || decide (l = cs "false"))) = false := by
        cases nm with
        | false => rfl
        | true =>
          have a1 : ¬ l = cs "true" := fun z => ht ⟨rfl, .inl z⟩
          have a2 : ¬ l = cs "false" := fun z => ht ⟨rfl, .inr z⟩
          rw [decide_eq_false a1, decide_eq_false a2]
          rfl
      rw [e0]
      refine iteF (qo (fun z => ?_) H4 k14)
      rcases z.2 with y | y | y
      · exact hn ⟨z.1, y⟩
      · exact ht ⟨z.1, .inl y⟩
      · exact ht ⟨z.1, .inr y⟩
section
variable {P : Program} {w : World} {K : PySem.W.Frag} {mg : Str → Option Value} {base : Heap}
theorem c_scalar_of {ts : List Addr} (D : DefAt K mg "scalar_of" s_scalar_of ["sign"]) (c__if_scalar : Cal P w K mg base CX0 5 "_if_scalar" ["thing"] (spIf K ts)) : Cal P w K mg base CX0 6 "scalar_of" ["sign"] (spScalar K ts) := by
  refine D.cal (k := 5) sc_scalar_of (fun vs H Q E h => ?_) fun f cdv A outer s H vs Q E hr h => ?_
  · obtain ⟨v, s, rfl, _⟩ := h
    rfl
  · obtain ⟨v, sg, rfl, hv, hf, hT, q⟩ := h
    refine ⟨_, (pss_cons (ps_asg (pv 0) (pg_tup rfl (pgs_cons (pg_name (i := 1) sc_scalar_of.nd rfl (Or.inl rfl)) (pgs_cons (pg_name (i := 2) sc_scalar_of.nd rfl (Or.inl rfl)) pgs_nil))))
  (pss_cons (ps_if (pt_cmpR op_eq (pv 1) pe_str (nomark _)) (pss_one (ps_ret (pe_cal (c__if_scalar.mono (by omega)) hr (by rfl) (pa_cons (pe_tup (pa_cons pe_str (pa_cons (pv 2) pa_nil))) pa_nil)))) pss_nil)
  (pss_cons (ps_if (pt_cmpR op_eq (pv 1) pe_str (nomark _)) (pss_one (ps_ret (pe_cal (c__if_scalar.mono (by omega)) hr (by rfl) (pa_cons (pe_tup (pa_cons pe_str (pa_cons (pv 2) pa_nil))) pa_nil)))) pss_nil)
  (pss_cons (ps_if (pt_cmpR (op_eqD hr.r.units) (pv 0) (pe_tup (pa_cons pe_str (pa_cons pe_str pa_nil))) (nomark _)) (pss_one (ps_ret (pe_tup (pa_cons pe_str pa_nil)))) pss_nil)
  (pss_cons (ps_if (pt_cmpR (op_inT (hu_units hr)) (pv 0) (pe_tup (pa_cons (pe_tup (pa_cons pe_str (pa_cons pe_str pa_nil))) (pa_cons (pe_tup (pa_cons pe_str (pa_cons pe_str pa_nil))) pa_nil))) (by rfl)) (pss_one (ps_ret (pe_tup (pa_cons pe_str (pa_cons (pe_cmpR op_eq (pv 2) pe_str (nomark _)) pa_nil))))) pss_nil)
  (pss_one (ps_ret pe_non))))))), ?_⟩
    -- what a text or a number gives
    have made : ∀ (wd : String) (y : V) (dy : PyData), Dt K H y dy → okN 1 dy = true → scalarOf sg = (if Rv.isScalarD (.tuple [.str (Str.ofString wd), dy]) = true then some (.tuple [.str (Str.ofString wd), dy]) else none) → okN 1 (.str (Str.ofString wd)) = true →
        ∀ p, H p = none → spIf K ts [.ref p] (upd H p (.tup [.str (Str.ofString wd), y])) Q E := fun wd y dy hy oky e okw p hp => by
      obtain ⟨k1, d1⟩ := new_pair hp (.str (Str.ofString wd)) hy
      refine ⟨_, _, rfl, d1, okPair okw oky, fun T hm => k1.tab T (hT T hm), fun H' k => ?_⟩
      have q := q H'
      rw [e] at q
      cases es : Rv.isScalarD (.tuple [.str (Str.ofString wd), dy]) with
      | true =>
        rw [es] at q
        exact q _ (k1.trans k) ⟨(fun z => by cases z), d1.kb k Lsts.nil⟩
      | false =>
        rw [es] at q
        exact q _ (k1.trans k) rfl
    -- a mark gives nothing, a name what it says
    cases sg with
    | name l =>
      obtain ⟨p, x, y, rfl, hp, hx, hy⟩ := dt_pair hv
      cases hx
      cases hy
      refine ⟨_, rfl, p, _, rfl, hp, rfl, _, _, rfl, _, _, rfl, rfl, ?_⟩
      refine ⟨_, rfl, rfl, _, rfl, iteN (show ¬ V.str (Str.ofString "name") = V.str (Str.ofString "quoted") by decide +kernel) ⟨_, rfl, rfl, _, rfl, iteN (show ¬ V.str (Str.ofString "name") = V.str (Str.ofString "number") by decide +kernel) ?_⟩⟩
      refine rd_tail (nm := true) hp hv rfl (by decide +kernel) (okPair (by decide +kernel) (okS hf 1)) (fun _ h H' u k d => ?_) (fun _ h H' u k d => ?_) (fun _ h H' u k d => ?_) (fun h H' k => ?_)
      · have q := q H' u k
        rw [scalar_name, if_pos h] at q
        exact q ⟨(fun z => by rw [z] at d; cases d), d⟩
      · have q := q H' u k
        rw [scalar_name, if_neg (by rw [h]; decide +kernel), if_pos h] at q
        exact q ⟨(fun z => by rw [z] at d; cases d), d⟩
      · have q := q H' u k
        rw [scalar_name, if_neg (by rw [h]; decide +kernel), if_neg (by rw [h]; decide +kernel), if_pos h] at q
        exact q ⟨(fun z => by rw [z] at d; cases d), d⟩
      · have q := q H' .non k
        rw [scalar_name, if_neg (fun z => h ⟨rfl, .inl z⟩), if_neg (fun z => h ⟨rfl, .inr (.inl z)⟩), if_neg (fun z => h ⟨rfl, .inr (.inr z)⟩)] at q
        exact q rfl
    | num n =>
      obtain ⟨p, x, y, rfl, hp, hx, hy⟩ := dt_pair hv
      cases hx
      cases hy
      refine ⟨_, rfl, p, _, rfl, hp, rfl, _, _, rfl, _, _, rfl, rfl, ?_⟩
      refine ⟨_, rfl, rfl, _, rfl, iteN (show ¬ V.str (Str.ofString "number") = V.str (Str.ofString "quoted") by decide +kernel) ⟨_, rfl, rfl, _, rfl, iteP (show V.str (Str.ofString "number") = V.str (Str.ofString "number") from rfl) ?_⟩⟩
      exact ⟨_, rfl, by show 2 ≤ sizeLine; decide, fun p2 hp2 => made "int" _ _ (.int _) (okI (of_decide_eq_true hf) 1) rfl (by decide +kernel) p2 hp2⟩
    | quo l =>
      obtain ⟨p, x, y, rfl, hp, hx, hy⟩ := dt_pair hv
      cases hx
      cases hy
      refine ⟨_, rfl, p, _, rfl, hp, rfl, _, _, rfl, _, _, rfl, rfl, ?_⟩
      refine ⟨_, rfl, rfl, _, rfl, iteP (show V.str (Str.ofString "quoted") = V.str (Str.ofString "quoted") from rfl) ?_⟩
      exact ⟨_, rfl, by show 2 ≤ sizeLine; decide, fun p2 hp2 => made "text" _ _ (.str _) (okS hf 1) rfl (by decide +kernel) p2 hp2⟩
    | mark c =>
      obtain ⟨p, x, y, rfl, hp, hx, hy⟩ := dt_pair hv
      cases hx
      cases hy
      refine ⟨_, rfl, p, _, rfl, hp, rfl, _, _, rfl, _, _, rfl, rfl, ?_⟩
      refine ⟨_, rfl, rfl, _, rfl, iteN (show ¬ V.str (Str.ofString "mark") = V.str (Str.ofString "quoted") by decide +kernel) ⟨_, rfl, rfl, _, rfl, iteN (show ¬ V.str (Str.ofString "mark") = V.str (Str.ofString "number") by decide +kernel) ?_⟩⟩
      exact rd_tail (nm := false) hp hv rfl (by decide +kernel) (fit_ok hf) (fun h => by cases h) (fun h => by cases h) (fun h => by cases h) (fun h H' k => q H' .non k rfl)
end
end Rx

namespace Rx
open PySem PySem.Spec PyProof.Rows L2 GxR Gx Gd Rs
abbrev s_read_entry : Stmt := topS 65
theorem sc_read_entry : FnScope ["signs", "at", "kind", "key", "scalar"] ["signs", "at"] (defScope s_read_entry) := ⟨rfl, rfl, rfl, by decide +kernel, rfl, by decide +kernel, by decide +kernel⟩
theorem kind_quo (s : Sg) : decide (V.str (kindOf s) = V.str (Str.ofString "quoted")) = isQuo s := by
  cases s
  · exact decide_eq_false (show ¬ V.str (Str.ofString "name") = V.str (Str.ofString "quoted") by decide +kernel)
  · exact decide_eq_false (show ¬ V.str (Str.ofString "number") = V.str (Str.ofString "quoted") by decide +kernel)
  · exact decide_eq_true rfl
  · exact decide_eq_false (show ¬ V.str (Str.ofString "mark") = V.str (Str.ofString "quoted") by decide +kernel)
theorem ok_scalar {s : Sg} {d : PyData} (hf : fit s = true) (h : scalarOf s = some d) : okN 2 d = true := by
  cases s with
  | name l =>
    rw [scalar_name] at h
    split at h
    · cases h; decide +kernel
    · split at h
      · cases h; decide +kernel
      · split at h
        · cases h; decide +kernel
        · cases h
  | num n =>
    rw [scalar_num] at h
    split at h
    · cases h
      show (decide ((2 : Nat) ≤ 1000) && (okN 1 _ && (okN 1 _ && true))) = true
      rw [okI (of_decide_eq_true hf) 1, show okN 1 (PyData.str (Str.ofString "int")) = true by decide +kernel]; rfl
    · cases h
  | quo l =>
    rw [scalar_quo] at h
    split at h
    · cases h
      show (decide ((2 : Nat) ≤ 1000) && (okN 1 _ && (okN 1 _ && true))) = true
      rw [okS hf 1, show okN 1 (PyData.str (Str.ofString "text")) = true by decide +kernel]; rfl
    · cases h
  | mark c => cases h
def ErrN (C : Addr) (H : Hp) (E : XK) : Prop := ∀ H', Kp H H' → E (.ref C) none H'
/-- a pair of what is read and the index behind it, or the error -/
def Res (K : PySem.W.Frag) (C : Addr) (L : List Sg) (H : Hp) (Q : VK) (E : XK) : Option (PyData × List Sg) → Prop
  | none => ErrN C H E
  | some (d, r) => ∀ H' u (a : Nat), Kp H H' → L.drop a = r → a ≤ L.length → Dt K H' u (.tuple [d, .int (a : Int)]) → Q u H'
theorem Res.kp {K : PySem.W.Frag} {C : Addr} {L : List Sg} {H H1 : Hp} {Q : VK} {E : XK} {o : Option (PyData × List Sg)} (h : Res K C L H Q E o) (k : Kp H H1) : Res K C L H1 Q E o := by
  cases o with
  | none => exact fun H' k' => h H' (k.trans k')
  | some p => exact fun H' u a k' => h H' u a (k.trans k')
def spEnt (K : PySem.W.Frag) (C : Addr) (ts : List Addr) : Sp := fun vs H Q E => ∃ (S : Addr) (at' : Nat) (L : List Sg), vs = [.ref S, .int (at' : Int)] ∧ Sgs K H S L ∧ (∀ s ∈ L, fit s = true) ∧ (∀ T ∈ ts, TabG H T) ∧ Res K C L H Q E (rdEnt (L.drop at'))
theorem drop_tail {α : Type} (L : List α) (a : Nat) : (L.drop a).tail = L.drop (a + 1) := by rw [List.tail_drop]
theorem drop_some {α : Type} {L : List α} {a : Nat} {s : α} {r : List α} (h : L.drop a = s :: r) : a < L.length ∧ L.drop (a + 1) = r ∧ s ∈ L := by
  have h1 : a < L.length := by
    cases Nat.lt_or_ge a L.length with
    | inl h => exact h
    | inr z => rw [List.drop_eq_nil_of_le z] at h; cases h
  refine ⟨h1, ?_, ?_⟩
  · rw [← drop_tail, h]; rfl
  · exact List.mem_of_mem_drop (by rw [h]; exact List.mem_cons_self)
section
variable {P : Program} {w : World} {K : PySem.W.Frag} {mg : Str → Option Value} {base : Heap}
theorem c_read_entry {C aC : Addr} {ts : List Addr} (D : DefAt K mg "_read_entry" s_read_entry ["signs", "at"]) (BN_BadExpression : BadN K mg "BadExpression" C) (g_COMMA : mg "COMMA" = some (.ref aC)) (hC : ∀ H, Dt K H (.ref aC) (Sg.mark 44).d)
    (c__sign_at : CalN P w K mg base 1 "_sign_at" ["signs", "at"] (spSignAt K C)) (c_behind_expressions : CalN P w K mg base 2 "behind_expressions" ["signs", "at", "sign"] (spBehind K C)) (c_scalar_of : Cal P w K mg base CX0 6 "scalar_of" ["sign"] (spScalar K ts)) : CalN P w K mg base 7 "_read_entry" ["signs", "at"] (spEnt K C ts) := by
  refine D.calN (k := 6) sc_read_entry (fun vs H Q E h => ?_) fun f cdv A outer s H vs Q E hr h => ?_
  · obtain ⟨S, a, L, rfl, _⟩ := h
    rfl
  · obtain ⟨S, a, L, rfl, hS, hf, hT, h⟩ := h
    refine ⟨_, (pss_cons (ps_asg (pe_calN (c__sign_at.mono (by omega)) hr (by rfl) (fun σ => L2N.passAt (L2N.takes_of rfl rfl rfl rfl) σ) (pa_cons (pv 0) (pa_cons (pv 1) pa_nil))) (pg_tup rfl (pgs_cons (pg_name (i := 2) sc_read_entry.nd rfl (Or.inl rfl)) (pgs_cons (pg_name (i := 3) sc_read_entry.nd rfl (Or.inl rfl)) pgs_nil))))
  (pss_cons (ps_set (i := 1) sc_read_entry.nd rfl (Or.inl rfl) (pe_calN (c_behind_expressions.mono (by omega)) hr (by rfl) (fun σ => L2N.passAt (L2N.takes_of rfl rfl rfl rfl) σ) (pa_cons (pv 0) (pa_cons (pe_op op_add (pv 1) pe_int) (pa_cons (pe_glob (v := .ref aC) rfl g_COMMA rfl) pa_nil)))))
  (pss_cons (ps_set (i := 4) sc_read_entry.nd rfl (Or.inl rfl) (pe_cal (c_scalar_of.mono (by omega)) hr (by rfl) (pa_cons (pe_calN (c__sign_at.mono (by omega)) hr (by rfl) (fun σ => L2N.passAt (L2N.takes_of rfl rfl rfl rfl) σ) (pa_cons (pv 0) (pa_cons (pv 1) pa_nil))) pa_nil)))
  (pss_cons (ps_if (PW.pt (pw_or (pt_cmpR op_ne (pv 2) pe_str (nomark _)) (pw_or1 (pt_cmpR op_isN (pv 4) pe_non (nomark _))))) (pss_one (ps_bad0N BN_BadExpression rfl (L2N.takes_of rfl rfl rfl rfl) (by rfl))) pss_nil)
  (pss_one (ps_ret (pe_tup (pa_cons (pe_tup (pa_cons (pv 3) (pa_cons (pv 4) pa_nil))) (pa_cons (pe_op op_add (pv 1) pe_int) pa_nil))))))))), ?_⟩
    refine ⟨_, rfl, _, rfl, S, a, L, rfl, hS, ?_⟩
    cases e1 : L.drop a with
    | nil =>
      rw [e1] at h
      exact h H (Kb.refl H)
    | cons s1 r1 =>
      obtain ⟨ha, er1, hm1⟩ := drop_some e1
      rw [e1, rdEnt_cons] at h
      intro v1 d1
      rw [d_eq] at d1
      obtain ⟨p, x, y, rfl, hp, hx, hy⟩ := dt_pair d1
      cases hx
      refine ⟨p, _, rfl, hp, rfl, _, _, rfl, _, _, rfl, rfl, ?_⟩
      refine ⟨_, rfl, _, rfl, _, 1, rfl, rfl, S, a + 1, .ref aC, L, 44, rfl, hS, hf, hC H, by decide, ?_⟩
      rw [er1]
      cases e2 : atMark 44 r1 with
      | false =>
        rw [e2] at h
        exact h H (Kb.refl H)
      | true =>
        rw [e2] at h
        have h : Res K C L H Q E (match r1.tail with
          | [] => none
          | s2 :: r2 => match scalarOf s2 with
            | none => none
            | some v => if isQuo s1 = true then some (.tuple [contOf s1, v], r2) else none) := h
        have et : L.drop (a + 2) = r1.tail := by rw [← er1, drop_tail]
        refine ⟨_, rfl, _, rfl, S, a + 2, L, rfl, hS, ?_⟩
        rw [et]
        cases e3 : r1.tail with
        | nil =>
          rw [e3] at h
          exact h H (Kb.refl H)
        | cons s2 r2 =>
          rw [e3] at h et
          obtain ⟨ha2, er2, hm2⟩ := drop_some et
          intro v2 d2
          refine ⟨v2, s2, rfl, d2, hf s2 hm2, hT, fun H2 u k2 hu => ?_⟩
          refine ⟨_, rfl, rfl, _, rfl, ?_⟩
          have h : Res K C L H Q E (match scalarOf s2 with
            | none => none
            | some v => if isQuo s1 = true then some (.tuple [contOf s1, v], r2) else none) := h
          rw [kind_quo]
          cases eq : isQuo s1 with
          | false =>
            rw [eq] at h
            have h : ErrN C H E := by
              cases es : scalarOf s2 with
              | none => rw [es] at h; exact h
              | some v => rw [es] at h; exact h
            exact iteT (iteT (h H2 k2))
          | true =>
            rw [eq] at h
            cases es : scalarOf s2 with
            | none =>
              rw [es] at h hu
              subst hu
              exact iteF ⟨_, rfl, rfl, _, rfl, iteP (show V.non = V.non from rfl) (h H2 k2)⟩
            | some dv =>
              rw [es] at h hu
              obtain ⟨hu1, hu2⟩ := hu
              have h : Res K C L H Q E (some (.tuple [contOf s1, dv], r2)) := h
              refine iteF ⟨_, rfl, rfl, _, rfl, iteN' hu1 ?_⟩
              refine ⟨_, rfl, _, rfl, by show 2 ≤ sizeLine; decide, fun q hq => ⟨_, rfl, _, 1, rfl, rfl, by show 2 ≤ sizeLine; decide, fun q2 hq2 => ?_⟩⟩
              obtain ⟨k3, d3⟩ := new_pair (K := K) hq (hy.kb k2 Lsts.nil) hu2
              generalize upd H2 q (.tup [y, u]) = H3 at k3 d3 hq2 ⊢
              obtain ⟨k4, d4⟩ := new_pair (K := K) hq2 d3 (.int (((a + 3 : Nat)) : Int))
              exact h _ _ (a + 3) ((k2.trans k3).trans k4) er2 (by omega) d4
end
end Rx

namespace Rx
open PySem PySem.Spec PyProof.Rows L2 GxR Gx Gd Rs
abbrev s_read_map : Stmt := topS 64
theorem sc_read_map : FnScope ["signs", "at", "entries", "entry", "value"] ["signs", "at"] (defScope s_read_map) := ⟨rfl, rfl, rfl, by decide +kernel, rfl, by decide +kernel, by decide +kernel⟩
def addE (es : List PyData) : Option (List PyData × List Sg) → Option (List PyData × List Sg)
  | none => none
  | some (xs, r) => some (es ++ xs, r)
theorem rdEnts_cons (n : Nat) (first : Bool) (r : List Sg) : rdEnts (n + 1) first r = if atMark 41 r = true then some ([], r.tail) else
    match (if first = true then some r else expect 44 r) with
    | none => none
    | some r1 => match rdEnt r1 with
      | none => none
      | some (e, r2) => match rdEnts n false r2 with
        | none => none
        | some (es, r3) => some (e :: es, r3) := rfl
theorem addE_addE (es : List PyData) (e : PyData) (o : Option (List PyData × List Sg)) : addE es (match o with | none => none | some (xs, r3) => some (e :: xs, r3)) = addE (es ++ [e]) o := by
  cases o with
  | none => rfl
  | some p => show some (es ++ (e :: p.1), p.2) = some ((es ++ [e]) ++ p.1, p.2); rw [List.append_assoc]; rfl
/-- what the entries give -/
def mapOf : Option (List PyData × List Sg) → Option (PyData × List Sg)
  | none => none
  | some (es, r) => if Rv.isValueD (.tuple [.str "map", .tuple es]) = true then some (.tuple [.str "literal", .tuple [.str "map", .tuple es]], r) else none
def toD (o : Option (Ex × List Sg)) : Option (PyData × List Sg) := match o with | none => none | some (e, r) => some (e.d, r)
theorem map_is (r : List Sg) : toD (rdMap r) = if atMark 40 r = true then mapOf (rdEnts (r.tail.length + 1) true r.tail) else none := by
  unfold rdMap expect
  cases atMark 40 r with
  | false => rfl
  | true =>
    show toD (match rdEnts (r.tail.length + 1) true r.tail with | none => none | some (es, r2) => _) = mapOf (rdEnts (r.tail.length + 1) true r.tail)
    cases rdEnts (r.tail.length + 1) true r.tail with
    | none => rfl
    | some p =>
      show toD (if Rv.isValueD (.tuple [.str "map", .tuple p.1]) = true then some (.lit (.tuple [.str "map", .tuple p.1]), p.2) else none) = if _ then _ else _
      split <;> rfl
theorem rdEnt_len {r r2 : List Sg} {e : PyData} (h : rdEnt r = some (e, r2)) : r2.length < r.length := by
  cases r with
  | nil => cases h
  | cons s r =>
    rw [rdEnt_cons] at h
    split at h
    · cases ht : r.tail with
      | nil => rw [ht] at h; cases h
      | cons s2 r3 =>
        rw [ht] at h
        have h : (match scalarOf s2 with | none => none | some v => if isQuo s = true then some (PyData.tuple [contOf s, v], r3) else none) = some (e, r2) := h
        cases hs : scalarOf s2 with
        | none => rw [hs] at h; cases h
        | some v =>
          rw [hs] at h
          have h : (if isQuo s = true then some (PyData.tuple [contOf s, v], r3) else none) = some (e, r2) := h
          split at h
          · cases h
            have := congrArg List.length ht
            rw [List.length_tail, List.length_cons] at this
            rw [List.length_cons]
            omega
          · cases h
    · cases h
theorem rdEnt_ok {r r2 : List Sg} {e : PyData} (hf : ∀ s ∈ r, fit s = true) (h : rdEnt r = some (e, r2)) : okN 3 e = true := by
  cases r with
  | nil => cases h
  | cons s r =>
    rw [rdEnt_cons] at h
    split at h
    · cases ht : r.tail with
      | nil => rw [ht] at h; cases h
      | cons s2 r3 =>
        rw [ht] at h
        have h : (match scalarOf s2 with | none => none | some v => if isQuo s = true then some (PyData.tuple [contOf s, v], r3) else none) = some (e, r2) := h
        cases hs : scalarOf s2 with
        | none => rw [hs] at h; cases h
        | some v =>
          rw [hs] at h
          have h : (if isQuo s = true then some (PyData.tuple [contOf s, v], r3) else none) = some (e, r2) := h
          have f2 : fit s2 = true := hf s2 (List.mem_cons_of_mem _ (List.mem_of_mem_tail (by rw [ht]; exact List.mem_cons_self)))
          have f1 := hf s List.mem_cons_self
          split at h
          · cases h
            have ok1 : okN 2 (contOf s) = true := by
              cases s with
              | quo l => exact okS f1 2
              | name l => exact okS f1 2
              | num n => exact okI (of_decide_eq_true f1) 2
              | mark c => exact okS (by
                  have h : decide (c < 1114112) = true := f1
                  show (decide ((1 : Nat) ≤ 1000) && (decide (c < 1114112) && true)) = true
                  rw [h]; rfl) 2
            show (decide ((2 : Nat) ≤ 1000) && (okN 2 (contOf s) && (okN 2 v && true))) = true
            rw [ok1, ok_scalar f2 hs]; rfl
          · cases h
    · cases h
theorem iteF' {b : Bool} {A B : Prop} (h : b = false) (q : B) : if b = true then A else B := by subst h; exact iteF q
theorem iteT' {b : Bool} {A B : Prop} (h : b = true) (q : A) : if b = true then A else B := by subst h; exact iteT q
theorem Res.imp {K : PySem.W.Frag} {C : Addr} {L : List Sg} {H : Hp} {Q Q' : VK} {E : XK} {o : Option (PyData × List Sg)} (q : ∀ u H', Q u H' → Q' u H') (h : Res K C L H Q E o) : Res K C L H Q' E o := by
  cases o with
  | none => exact h
  | some p => exact fun H' u a k e l d => q _ _ (h H' u a k e l d)
def spMap (K : PySem.W.Frag) (C : Addr) (ts : List Addr) : Sp := fun vs H Q E => ∃ (S : Addr) (at' : Nat) (L : List Sg), vs = [.ref S, .int (at' : Int)] ∧ Sgs K H S L ∧ (∀ s ∈ L, fit s = true) ∧ L.length ≤ 1000 ∧ (∀ T ∈ ts, TabG H T) ∧ Res K C L H Q E (toD (rdMap (L.drop at')))
section
variable {P : Program} {w : World} {K : PySem.W.Frag} {mg : Str → Option Value} {base : Heap}
theorem c_read_map {C aL aR aC : Addr} {ts : List Addr} (D : DefAt K mg "_read_map" s_read_map ["signs", "at"]) (BN_BadExpression : BadN K mg "BadExpression" C) (g_LEFT : mg "LEFT" = some (.ref aL)) (g_RIGHT : mg "RIGHT" = some (.ref aR)) (g_COMMA : mg "COMMA" = some (.ref aC))
    (hL : ∀ H, Dt K H (.ref aL) (Sg.mark 40).d) (hR : ∀ H, Dt K H (.ref aR) (Sg.mark 41).d) (hC : ∀ H, Dt K H (.ref aC) (Sg.mark 44).d) (m_tuple : mg "tuple" = none)
    (c_is_at : Cal P w K mg base CX0 1 "is_at" ["signs", "at", "sign"] (spIsAt K)) (c_behind_expressions : CalN P w K mg base 2 "behind_expressions" ["signs", "at", "sign"] (spBehind K C)) (c__read_entry : CalN P w K mg base 7 "_read_entry" ["signs", "at"] (spEnt K C ts))
    (c_is_value : Cal P w K mg base CX0 8 "is_value" ["thing"] (spData K ts Rv.isValueD)) : CalN P w K mg base 9 "_read_map" ["signs", "at"] (spMap K C ts) := by
  refine D.calN (k := 8) sc_read_map (fun vs H Q E h => ?_) fun f cdv A outer s H vs Q E hr h => ?_
  · obtain ⟨S, a, L, rfl, _⟩ := h
    rfl
  · obtain ⟨S, a, L, rfl, hS, hf, hz, hT, h⟩ := h
    refine ⟨_, (pss_cons (ps_set (i := 1) sc_read_map.nd rfl (Or.inl rfl) (pe_calN (c_behind_expressions.mono (by omega)) hr (by rfl) (fun σ => L2N.passAt (L2N.takes_of rfl rfl rfl rfl) σ) (pa_cons (pv 0) (pa_cons (pv 1) (pa_cons (pe_glob (v := .ref aL) rfl g_LEFT rfl) pa_nil)))))
  (pss_cons (ps_set (i := 2) sc_read_map.nd rfl (Or.inl rfl) (pe_lst pa_nil))
  (pss_cons (ps_while (passes_of rfl) (pt_not (pt_val (pe_cal (c_is_at.mono (by omega)) hr (by rfl) (pa_cons (pv 0) (pa_cons (pv 1) (pa_cons (pe_glob (v := .ref aR) rfl g_RIGHT rfl) pa_nil)))))) (pss_cons (ps_if (pt_truth (pv 2) (by intro _; rfl)) (pss_one (ps_set (i := 1) sc_read_map.nd rfl (Or.inl rfl) (pe_calN (c_behind_expressions.mono (by omega)) hr (by rfl) (fun σ => L2N.passAt (L2N.takes_of rfl rfl rfl rfl) σ) (pa_cons (pv 0) (pa_cons (pv 1) (pa_cons (pe_glob (v := .ref aC) rfl g_COMMA rfl) pa_nil)))))) pss_nil)
  (pss_cons (ps_asg (pe_calN (c__read_entry.mono (by omega)) hr (by rfl) (fun σ => L2N.passAt (L2N.takes_of rfl rfl rfl rfl) σ) (pa_cons (pv 0) (pa_cons (pv 1) pa_nil))) (pg_tup rfl (pgs_cons (pg_name (i := 3) sc_read_map.nd rfl (Or.inl rfl)) (pgs_cons (pg_name (i := 1) sc_read_map.nd rfl (Or.inl rfl)) pgs_nil))))
  (pss_one (ps_expr (pe_bm PySem.F.plainAttrs_list PySem.F.slot_list_append PySem.F.type_list_append mt_append (pv 2) (pa_cons (pv 3) pa_nil)))))))
  (pss_cons (ps_set (i := 4) sc_read_map.nd rfl (Or.inl rfl) (pe_tup (pa_cons pe_str (pa_cons (pe_callTy call_tuple_of (by rfl) m_tuple (by decide +kernel) (pa_cons (pv 2) pa_nil)) pa_nil))))
  (pss_cons (ps_if (pt_not (pt_val (pe_cal (c_is_value.mono (by omega)) hr (by rfl) (pa_cons (pv 4) pa_nil)))) (pss_one (ps_bad0N BN_BadExpression rfl (L2N.takes_of rfl rfl rfl rfl) (by rfl))) pss_nil)
  (pss_one (ps_ret (pe_tup (pa_cons (pe_tup (pa_cons pe_str (pa_cons (pv 4) pa_nil))) (pa_cons (pe_op op_add (pv 1) pe_int) pa_nil)))))))))), ?_⟩
    refine ⟨_, rfl, _, rfl, S, a, .ref aL, L, 40, rfl, hS, hf, hL H, by decide, ?_⟩
    rw [map_is] at h
    cases e1 : atMark 40 (L.drop a) with
    | false =>
      rw [e1] at h
      exact h H (Kb.refl H)
    | true =>
      rw [e1, drop_tail] at h
      have h : Res K C L H Q E (mapOf (rdEnts ((L.drop (a + 1)).length + 1) true (L.drop (a + 1)))) := h
      generalize hR0 : rdEnts ((L.drop (a + 1)).length + 1) true (L.drop (a + 1)) = R0 at h
      have ha1 : a < L.length := by
        cases Nat.lt_or_ge a L.length with
        | inl z => exact z
        | inr z => rw [List.drop_eq_nil_of_le z] at e1; cases e1
      refine ⟨Nat.zero_le _, fun D hD => ?_⟩
      refine ⟨fun m σ H' => ∃ b n : Nat, m = L.length - b ∧ b ≤ L.length ∧ L.length - b < n ∧ (∃ o3 o4, σ = [some (.ref S), some (.int (b : Int)), some (.ref D), o3, o4]) ∧ ∃ (es : List PyData) (vs : List V), es.length ≤ b ∧ (∀ e ∈ es, okN 3 e = true) ∧ H' D = some (.lst vs) ∧ DtAll K H' vs es ∧ Kp H H' ∧ R0 = addE es (rdEnts n es.isEmpty (L.drop b)),
        ⟨_, a + 1, L.length - (a + 1) + 1, rfl, by omega, by omega, ⟨_, _, rfl⟩, [], [], Nat.zero_le _, (fun _ h => by cases h), upd_same, .nil, Kb.new hD, ?_⟩, ?_⟩
      · rw [← hR0, List.length_drop]
        have ae : ∀ o, o = addE [] o := fun o => by cases o <;> rfl
        exact ae _
      rintro m σ H1 ⟨b, n, rfl, hb, hn, ⟨o3, o4, rfl⟩, es, vs, hl, hok, eD, ds, k, e⟩
      obtain ⟨n, rfl⟩ : ∃ n', n = n' + 1 := ⟨n - 1, by omega⟩
      have hS1 := hS.kp k
      refine ⟨_, rfl, _, rfl, S, b, .ref aR, L, 41, rfl, hS1, hf, hR H1, by decide, _, rfl, ?_⟩
      rw [rdEnts_cons] at e
      cases e2 : atMark 41 (L.drop b) with
      | true =>
        rw [e2] at e
        have e : R0 = some (es ++ [], (L.drop b).tail) := e
        rw [List.append_nil, drop_tail] at e
        rw [e] at h
        have hb1 : b < L.length := by
          cases Nat.lt_or_ge b L.length with
          | inl z => exact z
          | inr z => rw [List.drop_eq_nil_of_le z] at e2; cases e2
        have lz : vs.length ≤ sizeLine := by
          have := ds.length
          have : sizeLine = 16777216 := rfl
          omega
        refine iteF ⟨_, rfl, D, vs, rfl, .inl ⟨.inl (.inl eD), fun t ht => ⟨by show 2 ≤ sizeLine; decide, fun t2 ht2 => ?_⟩⟩⟩
        have k2 : Kp H1 (upd H1 t (.tup vs)) := Kb.new ht
        have dt1 : Dt K (upd H1 t (.tup vs)) (.ref t) (.tuple es) := .tup (SqT.of upd_same) (DtAll.kb k2 Lsts.nil ds)
        generalize upd H1 t (.tup vs) = H2 at k2 dt1 ht2 ⊢
        obtain ⟨k3, d3⟩ := new_pair (K := K) ht2 (.str (Str.ofString "map")) dt1
        generalize upd H2 t2 (.tup [.str (Str.ofString "map"), .ref t]) = H3 at k3 d3 ⊢
        have k13 := (k.trans k2).trans k3
        have okm : okN 5 (.tuple [.str (Str.ofString "map"), .tuple es]) = true := by
          have e4 : okN 4 (.tuple es) = true := by
            show (decide (es.length ≤ 1000) && es.all (okN 3)) = true
            rw [decide_eq_true (by omega : es.length ≤ 1000), List.all_eq_true.mpr hok]; rfl
          show (decide ((2 : Nat) ≤ 1000) && (okN 4 _ && (okN 4 (.tuple es) && true))) = true
          rw [e4, show okN 4 (PyData.str (Str.ofString "map")) = true by decide +kernel]; rfl
        refine ⟨_, rfl, _, _, rfl, d3, ⟨5, by decide, okm⟩, fun T hm => k13.tab T (hT T hm), fun H4 k4 => ⟨_, rfl, ?_⟩⟩
        have h : Res K C L H Q E (if Rv.isValueD (.tuple [.str (Str.ofString "map"), .tuple es]) = true then some (.tuple [.str (Str.ofString "literal"), .tuple [.str (Str.ofString "map"), .tuple es]], L.drop (b + 1)) else none) := h
        have k14 := k13.trans k4
        cases ev : Rv.isValueD (.tuple [.str (Str.ofString "map"), .tuple es]) with
        | false =>
          rw [ev] at h
          exact iteT (h H4 k14)
        | true =>
          rw [ev] at h
          have h : Res K C L H Q E (some (.tuple [.str (Str.ofString "literal"), .tuple [.str (Str.ofString "map"), .tuple es]], L.drop (b + 1))) := h
          refine iteF ⟨_, rfl, by show 2 ≤ sizeLine; decide, fun t3 ht3 => ⟨_, rfl, _, 1, rfl, rfl, by show 2 ≤ sizeLine; decide, fun t4 ht4 => ?_⟩⟩
          obtain ⟨k5, d5⟩ := new_pair (K := K) ht3 (.str (Str.ofString "literal")) (d3.kb k4 Lsts.nil)
          generalize upd H4 t3 (.tup [.str (Str.ofString "literal"), .ref t2]) = H5 at k5 d5 ht4 ⊢
          obtain ⟨k6, d6⟩ := new_pair (K := K) ht4 d5 (.int ((b + 1 : Nat) : Int))
          exact h _ _ (b + 1) ((k14.trans k5).trans k6) rfl (by omega) d6
      | false =>
        rw [e2] at e
        have e : R0 = addE es (match (if es.isEmpty = true then some (L.drop b) else expect 44 (L.drop b)) with
          | none => none
          | some r1 => match rdEnt r1 with
            | none => none
            | some (e, r2) => match rdEnts n false r2 with
              | none => none
              | some (es, r3) => some (e :: es, r3)) := e
        refine iteT ⟨fun σ' H' => ∃ b' : Nat, b < b' ∧ b' ≤ L.length ∧ (∃ o3 o4, σ' = [some (.ref S), some (.int (b' : Int)), some (.ref D), o3, o4]) ∧ ∃ (es : List PyData) (vs : List V), es.length ≤ b' ∧ (∀ e ∈ es, okN 3 e = true) ∧ H' D = some (.lst vs) ∧ DtAll K H' vs es ∧ Kp H H' ∧ R0 = addE es (rdEnts n es.isEmpty (L.drop b')),
          fun σ' H' ⟨b', z1, z2, z3, z4⟩ => ⟨_, by omega, b', n, rfl, z2, by omega, z3, z4⟩, ?_⟩
        -- the entry, from b1 on
        have ent : ∀ b1 : Nat, b ≤ b1 → b1 ≤ L.length → R0 = addE es (match rdEnt (L.drop b1) with
            | none => none
            | some (e, r2) => match rdEnts n false r2 with
              | none => none
              | some (es, r3) => some (e :: es, r3)) → Res K C L H1 (fun u H2 => ∃ (p : Addr) (x : V) (b' : Nat) (d : PyData), u = .ref p ∧ SqT K H2 p [x, .int (b' : Int)] ∧ Dt K H2 x d ∧ Kp H1 H2 ∧ b1 < b' ∧ b' ≤ L.length ∧ okN 3 d = true ∧ R0 = addE (es ++ [d]) (rdEnts n false (L.drop b'))) E (rdEnt (L.drop b1)) := fun b1 h1 h2 e => by
          cases er : rdEnt (L.drop b1) with
          | none =>
            rw [er] at e
            have e : R0 = none := e
            rw [e] at h
            exact fun H' k' => h H' (k.trans k')
          | some p =>
            obtain ⟨d, r2⟩ := p
            rw [er] at e
            have len := rdEnt_len er
            have okd := rdEnt_ok (fun s hs => hf s (List.mem_of_mem_drop hs)) er
            intro H2 u b' k2 hr2 hb' du
            obtain ⟨p, x, y, rfl, hp, hx, hy⟩ := dt_pair du
            cases hy
            have e : R0 = addE es (match rdEnts n false r2 with
              | none => none
              | some (es, r3) => some (d :: es, r3)) := e
            rw [addE_addE, ← hr2] at e
            rw [← hr2, List.length_drop, List.length_drop] at len
            exact ⟨p, x, b', d, rfl, hp, hx, k2, by omega, hb', okd, e⟩
        have fin : ∀ (H2 : Hp) (p : Addr) (x : V) (b1 b' : Nat) (d : PyData), SqT K H2 p [x, .int (b' : Int)] → Dt K H2 x d → Kp H1 H2 → b ≤ b1 → b1 < b' → b' ≤ L.length → okN 3 d = true → R0 = addE (es ++ [d]) (rdEnts n false (L.drop b')) → ∀ o4 : Option V,
            vs.length < sizeLine ∧ H2 D = some (.lst vs) ∧ ∃ (es : List PyData) (vs' : List V), es.length ≤ b' ∧ (∀ e ∈ es, okN 3 e = true) ∧ (upd H2 D (.lst (vs ++ [x]))) D = some (.lst vs') ∧ DtAll K (upd H2 D (.lst (vs ++ [x]))) vs' es ∧ Kp H (upd H2 D (.lst (vs ++ [x]))) ∧ R0 = addE es (rdEnts n es.isEmpty (L.drop b')) := fun H2 p x b1 b' d hp hx k2 g1 g2 g3 okd e o4 => by
          have eD2 := k2.keep D _ eD (by simp) nt_lst
          have hl2 := ds.length
          refine ⟨by have : sizeLine = 16777216 := rfl; omega, eD2, es ++ [d], vs ++ [x], by simp; omega, fun z hz => ?_, upd_same, ?_, (k.trans k2).mut hD (no_tab eD2 nt_lst), ?_⟩
          · rcases List.mem_append.mp hz with z1 | z1
            · exact hok z z1
            · rw [List.mem_singleton.mp z1]; exact okd
          · exact DtAll.kb (Kb.put (S := [D]) (by simp) eD2 nt_lst) (fun b hb => by rw [List.mem_singleton.mp hb]; exact ⟨_, eD2⟩) (DtAll.snoc (DtAll.kb k2 Lsts.nil ds) hx)
          · rw [e]
            congr 1
            have : (es ++ [d]).isEmpty = false := by cases es <;> rfl
            rw [this]
        have tT : ∀ T ∈ ts, TabG H1 T := fun T hm => k.tab T (hT T hm)
        refine ⟨_, rfl, _, .inl ⟨vs, .inl (.inl eD), rfl⟩, ?_⟩
        have hl0 := ds.length
        cases hes : es with
        | nil =>
          rw [hes] at e
          have hvs : vs = [] := List.eq_nil_of_length_eq_zero (by rw [hl0, hes]; rfl)
          refine iteF' (by rw [hvs]; rfl) ?_
          refine ⟨_, rfl, _, rfl, S, b, L, rfl, hS1, hf, tT, Res.imp ?_ (ent b (Nat.le_refl _) hb (by rw [hes]; exact e))⟩
          rintro u H2 ⟨p, x, b', d, rfl, hp, hx, k2, g, hb', okd, e'⟩
          obtain ⟨f1, f2, f3⟩ := fin H2 p x b b' d hp hx k2 (Nat.le_refl _) g hb' okd e' o4
          exact ⟨p, _, rfl, hp, rfl, _, _, rfl, _, _, rfl, rfl, _, rfl, .inl ⟨rfl, _, .inl (.inl f2)⟩, _, rfl, D, vs, x, rfl, rfl, f2, f1, b', by omega, hb', ⟨_, _, rfl⟩, f3⟩
        | cons e0 es0 =>
          have hne : vs ≠ [] := fun z => by rw [z, hes] at hl0; cases hl0
          have hie : es.isEmpty = false := by rw [hes]; rfl
          rw [hie] at e
          have e : R0 = addE es (match expect 44 (L.drop b) with
            | none => none
            | some r1 => match rdEnt r1 with
              | none => none
              | some (e, r2) => match rdEnts n false r2 with
                | none => none
                | some (es, r3) => some (e :: es, r3)) := e
          refine iteT' (by cases vs with | nil => exact absurd rfl hne | cons => rfl) ?_
          refine ⟨_, rfl, _, rfl, S, b, .ref aC, L, 44, rfl, hS1, hf, hC H1, by decide, ?_⟩
          unfold expect at e
          cases e4 : atMark 44 (L.drop b) with
          | false =>
            rw [e4] at e
            have e : R0 = none := e
            rw [e] at h
            exact h H1 k
          | true =>
            rw [e4, drop_tail] at e
            have hb1 : b < L.length := by
              cases Nat.lt_or_ge b L.length with
              | inl z => exact z
              | inr z => rw [List.drop_eq_nil_of_le z] at e4; cases e4
            refine ⟨_, rfl, _, rfl, S, b + 1, L, rfl, hS1, hf, tT, Res.imp ?_ (ent (b + 1) (by omega) (by omega) e)⟩
            rintro u H2 ⟨p, x, b', d, rfl, hp, hx, k2, g, hb', okd, e'⟩
            obtain ⟨f1, f2, f3⟩ := fin H2 p x (b + 1) b' d hp hx k2 (by omega) g hb' okd e' o4
            exact ⟨p, _, rfl, hp, rfl, _, _, rfl, _, _, rfl, rfl, _, rfl, .inl ⟨rfl, _, .inl (.inl f2)⟩, _, rfl, D, vs, x, rfl, rfl, f2, f1, b', by omega, hb', ⟨_, _, rfl⟩, f3⟩
end
end Rx

namespace Rx
open PySem PySem.Spec PyProof.Rows L2 GxR Gx Gd Rs
abbrev s_read : Stmt := topS 61
theorem sc_read : FnScope ["signs", "at", "depth", "kind", "content", "scalar"] ["signs", "at", "depth"] (defScope s_read) := ⟨rfl, rfl, rfl, by decide +kernel, rfl, by decide +kernel, by decide +kernel⟩
abbrev s_read_inject : Stmt := topS 63
theorem sc_read_inject : FnScope ["signs", "at", "depth", "kind", "name", "otherwise"] ["signs", "at", "depth"] (defScope s_read_inject) := ⟨rfl, rfl, rfl, by decide +kernel, rfl, by decide +kernel, by decide +kernel⟩
abbrev s_read_call : Stmt := topS 62
theorem sc_read_call : FnScope ["function", "signs", "at", "depth", "arguments", "place", "argument"] ["function", "signs", "at", "depth"] (defScope s_read_call) := ⟨rfl, rfl, rfl, by decide +kernel, rfl, by decide +kernel, by decide +kernel⟩
def funs : List (List Nat) := ["not", "size", "reverse", "add", "sub", "lt", "eq", "and", "concat", "has", "get", "remove", "take", "put", "cond", "resource"].map cs
def resV : List V := (["none", "true", "false", "map", "inject", "not", "size", "reverse", "add", "sub", "lt", "eq", "and", "concat", "has", "get", "remove", "take", "put", "cond", "resource"] : List String).map fun s => V.str (Str.ofString s)
theorem in_strs (l : List Nat) : ∀ ss : List String, inV (.str (sx l)) (ss.map fun s => V.str (Str.ofString s)) = decide (l ∈ ss.map cs)
  | [] => rfl
  | s :: ss => by
    have ih := in_strs l ss
    have e : eqV (.str (Str.ofString s)) (.str (sx l)) = decide (l = cs s) := by
      show (Str.ofString s == sx l) = _
      rw [← sx_is, Bool.eq_iff_iff, beq_iff_eq, beq_iff_eq, eq_comm]
    show (eqV (.str (Str.ofString s)) (.str (sx l)) || inV (.str (sx l)) (ss.map fun s => V.str (Str.ofString s))) = _
    rw [e, ih, Bool.eq_iff_iff, Bool.or_eq_true, decide_eq_true_eq, decide_eq_true_eq, decide_eq_true_eq, List.map_cons, List.mem_cons]
theorem in_res (l : List Nat) : inV (.str (sx l)) resV = decide (l ∈ reserved) := in_strs l _
theorem all_flatS : ∀ ss : List String, (ss.map fun s => V.str (Str.ofString s)).all flatV = true
  | [] => rfl
  | s :: ss => by show (true && _) = true; rw [all_flatS ss]; rfl
theorem fun_of {l : List Nat} (h : l ∈ reserved) (h1 : scalarOf (.name l) = none) (h2 : l ≠ cs "map") (h3 : l ≠ cs "inject") : l ∈ funs := by
  rw [scalar_name] at h1
  have n1 : l ≠ cs "none" := fun z => by rw [if_pos z] at h1; cases h1
  rw [if_neg n1] at h1
  have n2 : l ≠ cs "true" := fun z => by rw [if_pos z] at h1; cases h1
  rw [if_neg n2] at h1
  have n3 : l ≠ cs "false" := fun z => by rw [if_pos z] at h1; cases h1
  have e : reserved = cs "none" :: cs "true" :: cs "false" :: cs "map" :: cs "inject" :: funs := rfl
  rw [e] at h
  simp only [List.mem_cons, n1, n2, n3, h2, h3, false_or] at h
  exact h
theorem kind_name (s : Sg) : decide (V.str (kindOf s) = V.str (Str.ofString "name")) = (match s with | .name _ => true | _ => false) := by
  cases s
  · exact decide_eq_true rfl
  · exact decide_eq_false (show ¬ V.str (Str.ofString "number") = V.str (Str.ofString "name") by decide +kernel)
  · exact decide_eq_false (show ¬ V.str (Str.ofString "quoted") = V.str (Str.ofString "name") by decide +kernel)
  · exact decide_eq_false (show ¬ V.str (Str.ofString "mark") = V.str (Str.ofString "name") by decide +kernel)
def spRd (K : PySem.W.Frag) (C : Addr) (ts : List Addr) (n : Nat) : Sp := fun vs H Q E => ∃ (S : Addr) (at' : Nat) (L : List Sg) (dp : Int), vs = [.ref S, .int (at' : Int), .int dp] ∧ dp = 6 - (n : Int) ∧ Sgs K H S L ∧ (∀ s ∈ L, fit s = true) ∧ L.length ≤ 1000 ∧ (∀ T ∈ ts, TabG H T) ∧ Res K C L H Q E (toD (rd n (L.drop at')))
def spInj (K : PySem.W.Frag) (C : Addr) (ts : List Addr) (n : Nat) : Sp := fun vs H Q E => ∃ (S : Addr) (at' : Nat) (L : List Sg) (dp : Int), vs = [.ref S, .int (at' : Int), .int dp] ∧ dp = 5 - (n : Int) ∧ Sgs K H S L ∧ (∀ s ∈ L, fit s = true) ∧ L.length ≤ 1000 ∧ (∀ T ∈ ts, TabG H T) ∧ Res K C L H Q E (toD (rdInj (rd n) (L.drop at')))
def spCl (K : PySem.W.Frag) (C : Addr) (ts : List Addr) (n : Nat) : Sp := fun vs H Q E => ∃ (S : Addr) (at' : Nat) (L : List Sg) (dp : Int) (l : List Nat), vs = [.str (sx l), .ref S, .int (at' : Int), .int dp] ∧ l ∈ funs ∧ dp = 5 - (n : Int) ∧ Sgs K H S L ∧ (∀ s ∈ L, fit s = true) ∧ L.length ≤ 1000 ∧ (∀ T ∈ ts, TabG H T) ∧ Res K C L H Q E (toD (rdCall (rd n) l (L.drop at')))
def prevI (K : PySem.W.Frag) (C : Addr) (ts : List Addr) : Nat → Sp
  | 0 => fun _ _ _ _ => False
  | n + 1 => spInj K C ts n
def prevC (K : PySem.W.Frag) (C : Addr) (ts : List Addr) : Nat → Sp
  | 0 => fun _ _ _ _ => False
  | n + 1 => spCl K C ts n
def prevF : Nat → Option (List Sg → Option (Ex × List Sg))
  | 0 => none
  | n + 1 => some (rd n)
theorem rd_cons (n : Nat) (s : Sg) (r : List Sg) : rd n (s :: r) = (match scalarOf s with
    | some v => some (.lit v, r)
    | none => match s with
      | .name l => if l = cs "map" then rdMap r else if l ∉ reserved then some (.var l, r) else match prevF n with
        | none => none
        | some f => if l = cs "inject" then rdInj f r else rdCall f l r
      | _ => none) := by cases n <;> rfl
theorem rd_nil (n : Nat) : rd n [] = none := by cases n <;> rfl
section
variable {P : Program} {w : World} {K : PySem.W.Frag} {mg : Str → Option Value} {base : Heap}
theorem c_read {C aRes : Addr} {ts : List Addr} {n k : Nat} (hn : n ≤ 5) (hk : 9 ≤ k) (D : DefAt K mg "_read" s_read ["signs", "at", "depth"]) (BN_BadExpression : BadN K mg "BadExpression" C) (g_RESERVED : mg "RESERVED" = some (.ref aRes)) (hRes : ∀ H, SqT K H aRes resV) (g_DEEP : ∃ t, mg "DEEPEST_CALL" = some (.int 5 t))
    (c__sign_at : CalN P w K mg base 1 "_sign_at" ["signs", "at"] (spSignAt K C)) (c_scalar_of : Cal P w K mg base CX0 6 "scalar_of" ["sign"] (spScalar K ts)) (c__read_map : CalN P w K mg base 9 "_read_map" ["signs", "at"] (spMap K C ts))
    (c__read_inject : CalN P w K mg base k "_read_inject" ["signs", "at", "depth"] (prevI K C ts n)) (c__read_call : CalN P w K mg base k "_read_call" ["function", "signs", "at", "depth"] (prevC K C ts n)) :
    CalN P w K mg base (k + 1) "_read" ["signs", "at", "depth"] (spRd K C ts n) := by
  refine D.calN (k := k) sc_read (fun vs H Q E h => ?_) fun f cdv A outer s H vs Q E hr h => ?_
  · obtain ⟨S, a, L, dp, rfl, _⟩ := h
    rfl
  · obtain ⟨S, a, L, dp, rfl, hdp, hS, hf, hz, hT, h⟩ := h
    obtain ⟨tD, g_DEEPEST_CALL⟩ := g_DEEP
    refine ⟨_, (pss_cons (ps_asg (pe_calN (c__sign_at.mono (by omega)) hr (by rfl) (fun σ => L2N.passAt (L2N.takes_of rfl rfl rfl rfl) σ) (pa_cons (pv 0) (pa_cons (pv 1) pa_nil))) (pg_tup rfl (pgs_cons (pg_name (i := 3) sc_read.nd rfl (Or.inl rfl)) (pgs_cons (pg_name (i := 4) sc_read.nd rfl (Or.inl rfl)) pgs_nil))))
  (pss_cons (ps_set (i := 5) sc_read.nd rfl (Or.inl rfl) (pe_cal (c_scalar_of.mono (by omega)) hr (by rfl) (pa_cons (pe_tup (pa_cons (pv 3) (pa_cons (pv 4) pa_nil))) pa_nil)))
  (pss_cons (ps_if (pt_cmpR op_notN (pv 5) pe_non (nomark _)) (pss_one (ps_ret (pe_tup (pa_cons (pe_tup (pa_cons pe_str (pa_cons (pv 5) pa_nil))) (pa_cons (pe_op op_add (pv 1) pe_int) pa_nil))))) pss_nil)
  (pss_cons (ps_if (pt_cmpR op_ne (pv 3) pe_str (nomark _)) (pss_one (ps_bad0N BN_BadExpression rfl (L2N.takes_of rfl rfl rfl rfl) (by rfl))) pss_nil)
  (pss_cons (ps_if (pt_cmpR op_eq (pv 4) pe_str (nomark _)) (pss_one (ps_ret (pe_calN (c__read_map.mono (by omega)) hr (by rfl) (fun σ => L2N.passAt (L2N.takes_of rfl rfl rfl rfl) σ) (pa_cons (pv 0) (pa_cons (pe_op op_add (pv 1) pe_int) pa_nil))))) pss_nil)
  (pss_cons (ps_if (pt_cmpR op_notIn_seq (pv 4) (pe_glob (v := .ref aRes) rfl g_RESERVED rfl) (by rfl)) (pss_one (ps_ret (pe_tup (pa_cons (pe_tup (pa_cons pe_str (pa_cons (pv 4) pa_nil))) (pa_cons (pe_op op_add (pv 1) pe_int) pa_nil))))) pss_nil)
  (pss_cons (ps_if (pt_cmpR op_gt (pv 2) (pe_glob (v := .int 5) rfl g_DEEPEST_CALL ⟨_, rfl⟩) (nomark _)) (pss_one (ps_bad0N BN_BadExpression rfl (L2N.takes_of rfl rfl rfl rfl) (by rfl))) pss_nil)
  (pss_cons (ps_if (pt_cmpR op_eq (pv 4) pe_str (nomark _)) (pss_one (ps_ret (pe_calN (c__read_inject.mono (by omega)) hr (by rfl) (fun σ => L2N.passAt (L2N.takes_of rfl rfl rfl rfl) σ) (pa_cons (pv 0) (pa_cons (pe_op op_add (pv 1) pe_int) (pa_cons (pv 2) pa_nil)))))) pss_nil)
  (pss_one (ps_ret (pe_calN (c__read_call.mono (by omega)) hr (by rfl) (fun σ => L2N.passAt (L2N.takes_of rfl rfl rfl rfl) σ) (pa_cons (pv 4) (pa_cons (pv 0) (pa_cons (pe_op op_add (pv 1) pe_int) (pa_cons (pv 2) pa_nil))))))))))))))), ?_⟩
    refine ⟨_, rfl, _, rfl, S, a, L, rfl, hS, ?_⟩
    cases e1 : L.drop a with
    | nil =>
      rw [e1, rd_nil] at h
      exact h H (Kb.refl H)
    | cons s1 r1 =>
      obtain ⟨ha, er1, hm1⟩ := drop_some e1
      rw [e1, rd_cons] at h
      intro v1 d1
      rw [d_eq] at d1
      obtain ⟨p, x, y, rfl, hp, hx, hy⟩ := dt_pair d1
      cases hx
      refine ⟨p, _, rfl, hp, rfl, _, _, rfl, _, _, rfl, rfl, ?_⟩
      refine ⟨_, rfl, _, rfl, by show 2 ≤ sizeLine; decide, fun t ht => ?_⟩
      obtain ⟨k1, dt⟩ := new_pair (K := K) ht (.str (kindOf s1)) hy
      rw [← d_eq] at dt
      generalize upd H t (.tup [.str (kindOf s1), y]) = H1 at k1 dt ⊢
      refine ⟨_, s1, rfl, dt, hf s1 hm1, fun T hm => k1.tab T (hT T hm), fun H2 u k2 hu => ?_⟩
      have k12 := k1.trans k2
      refine ⟨_, rfl, rfl, _, rfl, ?_⟩
      -- a pair is given back
      have give : ∀ (wd : String) (H3 : Hp) (z : V) (d : PyData), Kp H H3 → Dt K H3 z d → Res K C L H Q E (some (.tuple [.str (Str.ofString wd), d], r1)) → ∀ p, H3 p = none → ∀ p2, (upd H3 p (.tup [.str (Str.ofString wd), z])) p2 = none → Q (.ref p2) (upd (upd H3 p (.tup [.str (Str.ofString wd), z])) p2 (.tup [.ref p, .int ((a : Int) + 1)])) := fun wd H3 z d k3 hd h p hp p2 hp2 => by
        obtain ⟨k4, d4⟩ := new_pair (K := K) hp (.str (Str.ofString wd)) hd
        generalize upd H3 p (.tup [.str (Str.ofString wd), z]) = H4 at k4 d4 hp2 ⊢
        obtain ⟨k5, d5⟩ := new_pair (K := K) hp2 d4 (.int ((a + 1 : Nat) : Int))
        exact h _ _ (a + 1) ((k3.trans k4).trans k5) er1 (by omega) d5
      cases es : scalarOf s1 with
      | some dv =>
        rw [es] at h hu
        obtain ⟨hu1, hu2⟩ := hu
        refine iteT' (by rw [decide_eq_false hu1]; rfl) ?_
        exact ⟨_, rfl, by show 2 ≤ sizeLine; decide, fun p3 hp3 => ⟨_, rfl, _, 1, rfl, rfl, by show 2 ≤ sizeLine; decide, fun p4 hp4 => give "literal" H2 u dv k12 hu2 h p3 hp3 p4 hp4⟩⟩
      | none =>
        rw [es] at h hu
        have hu : u = .non := hu
        subst hu
        refine iteF' (by rfl) ?_
        refine ⟨_, rfl, rfl, _, rfl, ?_⟩
        rw [kind_name]
        cases s1 with
        | num m => exact iteT (h H2 k12)
        | quo m => exact iteT (h H2 k12)
        | mark m => exact iteT (h H2 k12)
        | name l =>
          have h : Res K C L H Q E (toD (if l = cs "map" then rdMap r1 else if l ∉ reserved then some (.var l, r1) else match prevF n with
            | none => none
            | some f => if l = cs "inject" then rdInj f r1 else rdCall f l r1)) := h
          cases hy
          have hT2 : ∀ T ∈ ts, TabG H2 T := fun T hm => k12.tab T (hT T hm)
          have hS2 := hS.kp k12
          refine iteF ⟨_, rfl, rfl, _, rfl, ?_⟩
          rw [dec_sx]
          by_cases hm : l = cs "map"
          · rw [if_pos hm] at h
            refine iteP hm ⟨_, rfl, _, rfl, _, 1, rfl, rfl, S, a + 1, L, rfl, hS2, hf, hz, hT2, ?_⟩
            rw [er1]
            exact Res.kp h k12
          · rw [if_neg hm] at h
            refine iteN hm ⟨_, rfl, aRes, resV, rfl, .inr (hRes H2), rfl, all_flatS _, _, rfl, ?_⟩
            rw [in_res]
            by_cases hres : l ∈ reserved
            · rw [if_neg (fun z => z hres)] at h
              refine iteF' (by rw [decide_eq_true hres]; rfl) ?_
              refine ⟨_, rfl, _, _, rfl, rfl, _, rfl, ?_⟩
              cases n with
              | zero => exact iteP (show (5 : Int) < dp by omega) (h H2 k12)
              | succ m =>
                have h : Res K C L H Q E (toD (if l = cs "inject" then rdInj (rd m) r1 else rdCall (rd m) l r1)) := h
                refine iteN (show ¬ (5 : Int) < dp by omega) ⟨_, rfl, rfl, _, rfl, ?_⟩
                rw [dec_sx]
                by_cases hi : l = cs "inject"
                · rw [if_pos hi] at h
                  refine iteP hi ⟨_, rfl, _, rfl, _, 1, rfl, rfl, _, rfl, S, a + 1, L, dp, rfl, by omega, hS2, hf, hz, hT2, ?_⟩
                  rw [er1]
                  exact Res.kp h k12
                · rw [if_neg hi] at h
                  refine iteN hi ⟨_, rfl, _, rfl, _, rfl, _, 1, rfl, rfl, _, rfl, S, a + 1, L, dp, l, rfl, fun_of hres es hm hi, by omega, hS2, hf, hz, hT2, ?_⟩
                  rw [er1]
                  exact Res.kp h k12
            · rw [if_pos hres] at h
              refine iteT' (by rw [decide_eq_false hres]; rfl) ?_
              exact ⟨_, rfl, by show 2 ≤ sizeLine; decide, fun p3 hp3 => ⟨_, rfl, _, 1, rfl, rfl, by show 2 ≤ sizeLine; decide, fun p4 hp4 => give "variable" H2 _ _ k12 (.str (sx l)) h p3 hp3 p4 hp4⟩⟩
end
end Rx

namespace Rx
open PySem PySem.Spec PyProof.Rows L2 GxR Gx Gd Rs
theorem ds_snoc : ∀ (es : List Ex) (e : Ex), Ex.ds (es ++ [e]) = Ex.ds es ++ [e.d]
  | [], e => rfl
  | x :: es, e => by show x.d :: Ex.ds (es ++ [e]) = _; rw [ds_snoc es e]; rfl
theorem ds_len : ∀ es : List Ex, (Ex.ds es).length = es.length
  | [] => rfl
  | e :: es => by show (Ex.ds es).length + 1 = es.length + 1; rw [ds_len es]
def addA (es : List Ex) : Option (List Ex × List Sg) → Option (List Ex × List Sg)
  | none => none
  | some (xs, r) => some (es ++ xs, r)
theorem addA_add (es : List Ex) (e : Ex) (o : Option (List Ex × List Sg)) : addA es (match o with | none => none | some (xs, r3) => some (e :: xs, r3)) = addA (es ++ [e]) o := by
  cases o with
  | none => rfl
  | some p => show some (es ++ (e :: p.1), p.2) = some ((es ++ [e]) ++ p.1, p.2); rw [List.append_assoc]; rfl
/-- a triple -/
theorem new_three {K : PySem.W.Frag} {H : Hp} {p : Addr} {x y z : V} {a b c : PyData} (hp : H p = none) (hx : Dt K H x a) (hy : Dt K H y b) (hz : Dt K H z c) : Kp H (upd H p (.tup [x, y, z])) ∧ Dt K (upd H p (.tup [x, y, z])) (.ref p) (.tuple [a, b, c]) :=
  ⟨Kb.new hp, .tup (SqT.of upd_same) (.cons (hx.kb (Kb.new hp) Lsts.nil) (.cons (hy.kb (Kb.new hp) Lsts.nil) (.cons (hz.kb (Kb.new hp) Lsts.nil) .nil)))⟩
theorem inj_is (f : List Sg → Option (Ex × List Sg)) (r : List Sg) : rdInj f r = if atMark 40 r = true then (match r.tail with
    | [] => none
    | s :: r1 => match s with
      | .name l => if l ∈ reserved then none else if atMark 44 r1 = true then (match f r1.tail with
        | none => none
        | some (e, r3) => if atMark 41 r3 = true then some (.inj l e, r3.tail) else none) else none
      | _ => none) else none := by
  unfold rdInj expect
  cases atMark 40 r with
  | false => rfl
  | true =>
    show (match some r.tail with | none => none | some [] => none | some (s :: r1) => _) = (match r.tail with | [] => none | s :: r1 => _)
    cases r.tail with
    | nil => rfl
    | cons s r1 =>
      cases s with
      | name l =>
        show (if l ∈ reserved then none else _) = (if l ∈ reserved then none else _)
        by_cases hl : l ∈ reserved
        · rw [if_pos hl, if_pos hl]
        · rw [if_neg hl, if_neg hl]
          cases atMark 44 r1 with
          | false => rfl
          | true =>
            show (match f r1.tail with | none => none | some (e, r3) => _) = (match f r1.tail with | none => none | some (e, r3) => _)
            cases f r1.tail with
            | none => rfl
            | some p =>
              obtain ⟨e, r3⟩ := p
              show (match (if atMark 41 r3 = true then some r3.tail else none) with | none => none | some r4 => _) = if atMark 41 r3 = true then _ else _
              cases atMark 41 r3 <;> rfl
      | _ => rfl
theorem atMark_lt {c : Nat} {L : List Sg} {a : Nat} (h : atMark c (L.drop a) = true) : a < L.length := by
  cases Nat.lt_or_ge a L.length with
  | inl z => exact z
  | inr z => rw [List.drop_eq_nil_of_le z] at h; cases h
section
variable {P : Program} {w : World} {K : PySem.W.Frag} {mg : Str → Option Value} {base : Heap}
theorem c_read_inject {C aL aR aC aRes : Addr} {ts : List Addr} {n k : Nat} (hn : n ≤ 4) (hk : 9 ≤ k) (D : DefAt K mg "_read_inject" s_read_inject ["signs", "at", "depth"]) (BN_BadExpression : BadN K mg "BadExpression" C) (g_LEFT : mg "LEFT" = some (.ref aL)) (g_RIGHT : mg "RIGHT" = some (.ref aR)) (g_COMMA : mg "COMMA" = some (.ref aC))
    (hL : ∀ H, Dt K H (.ref aL) (Sg.mark 40).d) (hR : ∀ H, Dt K H (.ref aR) (Sg.mark 41).d) (hC : ∀ H, Dt K H (.ref aC) (Sg.mark 44).d) (g_RESERVED : mg "RESERVED" = some (.ref aRes)) (hRes : ∀ H, SqT K H aRes resV)
    (c__sign_at : CalN P w K mg base 1 "_sign_at" ["signs", "at"] (spSignAt K C)) (c_behind_expressions : CalN P w K mg base 2 "behind_expressions" ["signs", "at", "sign"] (spBehind K C)) (c__read : CalN P w K mg base k "_read" ["signs", "at", "depth"] (spRd K C ts n)) :
    CalN P w K mg base (k + 1) "_read_inject" ["signs", "at", "depth"] (spInj K C ts n) := by
  refine D.calN (k := k) sc_read_inject (fun vs H Q E h => ?_) fun f cdv A outer s H vs Q E hr h => ?_
  · obtain ⟨S, a, L, dp, rfl, _⟩ := h
    rfl
  · obtain ⟨S, a, L, dp, rfl, hdp, hS, hf, hz, hT, h⟩ := h
    refine ⟨_, (pss_cons (ps_set (i := 1) sc_read_inject.nd rfl (Or.inl rfl) (pe_calN (c_behind_expressions.mono (by omega)) hr (by rfl) (fun σ => L2N.passAt (L2N.takes_of rfl rfl rfl rfl) σ) (pa_cons (pv 0) (pa_cons (pv 1) (pa_cons (pe_glob (v := .ref aL) rfl g_LEFT rfl) pa_nil)))))
  (pss_cons (ps_asg (pe_calN (c__sign_at.mono (by omega)) hr (by rfl) (fun σ => L2N.passAt (L2N.takes_of rfl rfl rfl rfl) σ) (pa_cons (pv 0) (pa_cons (pv 1) pa_nil))) (pg_tup rfl (pgs_cons (pg_name (i := 3) sc_read_inject.nd rfl (Or.inl rfl)) (pgs_cons (pg_name (i := 4) sc_read_inject.nd rfl (Or.inl rfl)) pgs_nil))))
  (pss_cons (ps_if (PW.pt (pw_or (pt_cmpR op_ne (pv 3) pe_str (nomark _)) (pw_or1 (pt_cmpR op_in_seq (pv 4) (pe_glob (v := .ref aRes) rfl g_RESERVED rfl) (by rfl))))) (pss_one (ps_bad0N BN_BadExpression rfl (L2N.takes_of rfl rfl rfl rfl) (by rfl))) pss_nil)
  (pss_cons (ps_set (i := 1) sc_read_inject.nd rfl (Or.inl rfl) (pe_calN (c_behind_expressions.mono (by omega)) hr (by rfl) (fun σ => L2N.passAt (L2N.takes_of rfl rfl rfl rfl) σ) (pa_cons (pv 0) (pa_cons (pe_op op_add (pv 1) pe_int) (pa_cons (pe_glob (v := .ref aC) rfl g_COMMA rfl) pa_nil)))))
  (pss_cons (ps_asg (pe_calN (c__read.mono (by omega)) hr (by rfl) (fun σ => L2N.passAt (L2N.takes_of rfl rfl rfl rfl) σ) (pa_cons (pv 0) (pa_cons (pv 1) (pa_cons (pe_op op_add (pv 2) pe_int) pa_nil)))) (pg_tup rfl (pgs_cons (pg_name (i := 5) sc_read_inject.nd rfl (Or.inl rfl)) (pgs_cons (pg_name (i := 1) sc_read_inject.nd rfl (Or.inl rfl)) pgs_nil))))
  (pss_one (ps_ret (pe_tup (pa_cons (pe_tup (pa_cons pe_str (pa_cons (pv 4) (pa_cons (pv 5) pa_nil)))) (pa_cons (pe_calN (c_behind_expressions.mono (by omega)) hr (by rfl) (fun σ => L2N.passAt (L2N.takes_of rfl rfl rfl rfl) σ) (pa_cons (pv 0) (pa_cons (pv 1) (pa_cons (pe_glob (v := .ref aR) rfl g_RIGHT rfl) pa_nil)))) pa_nil)))))))))), ?_⟩
    refine ⟨_, rfl, _, rfl, S, a, .ref aL, L, 40, rfl, hS, hf, hL H, by decide, ?_⟩
    rw [inj_is, drop_tail] at h
    cases e1 : atMark 40 (L.drop a) with
    | false =>
      rw [e1] at h
      exact h H (Kb.refl H)
    | true =>
      rw [e1] at h
      have ha := atMark_lt e1
      refine ⟨_, rfl, _, rfl, S, a + 1, L, rfl, hS, ?_⟩
      cases e2 : L.drop (a + 1) with
      | nil =>
        rw [e2] at h
        exact h H (Kb.refl H)
      | cons s1 r1 =>
        obtain ⟨ha1, er1, hm1⟩ := drop_some e2
        rw [e2] at h
        intro v1 d1
        rw [d_eq] at d1
        obtain ⟨p, x, y, rfl, hp, hx, hy⟩ := dt_pair d1
        cases hx
        refine ⟨p, _, rfl, hp, rfl, _, _, rfl, _, _, rfl, rfl, ?_⟩
        refine ⟨_, rfl, rfl, _, rfl, ?_⟩
        rw [kind_name]
        cases s1 with
        | num m => exact iteT (iteT (h H (Kb.refl H)))
        | quo m => exact iteT (iteT (h H (Kb.refl H)))
        | mark m => exact iteT (iteT (h H (Kb.refl H)))
        | name l =>
          cases hy
          have h : Res K C L H Q E (toD (if l ∈ reserved then none else if atMark 44 r1 = true then (match rd n r1.tail with
            | none => none
            | some (e, r3) => if atMark 41 r3 = true then some (.inj l e, r3.tail) else none) else none)) := h
          refine iteF ⟨_, rfl, aRes, resV, rfl, .inr (hRes H), rfl, all_flatS _, _, rfl, ?_⟩
          rw [in_res]
          by_cases hres : l ∈ reserved
          · rw [if_pos hres] at h
            exact iteP hres (h H (Kb.refl H))
          · rw [if_neg hres] at h
            refine iteN hres ?_
            refine ⟨_, rfl, _, rfl, _, 1, rfl, rfl, S, a + 2, .ref aC, L, 44, rfl, hS, hf, hC H, by decide, ?_⟩
            have er1 : L.drop (a + 2) = r1 := er1
            rw [er1]
            cases e3 : atMark 44 r1 with
            | false =>
              rw [e3] at h
              exact h H (Kb.refl H)
            | true =>
              rw [e3, ← er1, drop_tail] at h
              have h : Res K C L H Q E (toD (match rd n (L.drop (a + 3)) with
                | none => none
                | some (e, r3) => if atMark 41 r3 = true then some (.inj l e, r3.tail) else none)) := h
              have ha3 := atMark_lt (L := L) (a := a + 2) (by rw [er1]; exact e3)
              refine ⟨_, rfl, _, rfl, _, rfl, _, _, rfl, rfl, S, a + 3, L, dp + 1, rfl, by omega, hS, hf, hz, hT, ?_⟩
              cases e4 : rd n (L.drop (a + 3)) with
              | none =>
                rw [e4] at h
                exact h
              | some pr =>
                obtain ⟨e, r3⟩ := pr
                rw [e4] at h
                have h : Res K C L H Q E (toD (if atMark 41 r3 = true then some (.inj l e, r3.tail) else none)) := h
                intro H2 u b k2 hb hbl du
                obtain ⟨p2, x2, y2, rfl, hp2, hx2, hy2⟩ := dt_pair du
                cases hy2
                refine ⟨p2, _, rfl, hp2, rfl, _, _, rfl, _, _, rfl, rfl, ?_⟩
                refine ⟨_, rfl, _, rfl, by show 3 ≤ sizeLine; decide, fun p3 hp3 => ?_⟩
                obtain ⟨k3, d3⟩ := new_three (K := K) hp3 (.str (Str.ofString "inject")) (.str (sx l)) hx2
                generalize upd H2 p3 (.tup [.str (Str.ofString "inject"), .str (sx l), x2]) = H3 at k3 d3 ⊢
                have k13 := k2.trans k3
                refine ⟨_, rfl, _, rfl, S, b, .ref aR, L, 41, rfl, hS.kp k13, hf, hR H3, by decide, ?_⟩
                rw [← hb] at h
                cases e5 : atMark 41 (L.drop b) with
                | false =>
                  rw [e5] at h
                  exact h H3 k13
                | true =>
                  rw [e5, drop_tail] at h
                  have h : Res K C L H Q E (some (Ex.d (.inj l e), L.drop (b + 1))) := h
                  have hb1 := atMark_lt e5
                  refine ⟨by show 2 ≤ sizeLine; decide, fun p4 hp4 => ?_⟩
                  obtain ⟨k4, d4⟩ := new_pair (K := K) hp4 d3 (.int ((b + 1 : Nat) : Int))
                  exact h _ _ (b + 1) (k13.trans k4) rfl (by omega) d4
theorem c_read_call {C aL aR aC aAr : Addr} {ts : List Addr} {n k : Nat} (hn : n ≤ 4) (hk : 9 ≤ k) (D : DefAt K mg "_read_call" s_read_call ["function", "signs", "at", "depth"]) (g_LEFT : mg "LEFT" = some (.ref aL)) (g_RIGHT : mg "RIGHT" = some (.ref aR)) (g_COMMA : mg "COMMA" = some (.ref aC))
    (hL : ∀ H, Dt K H (.ref aL) (Sg.mark 40).d) (hR : ∀ H, Dt K H (.ref aR) (Sg.mark 41).d) (hC : ∀ H, Dt K H (.ref aC) (Sg.mark 44).d) (g_ARITIES : mg "ARITIES" = some (.ref aAr)) (hAr : ∀ l ∈ funs, KDct K w aAr (sx l) (.int (arity l : Nat))) (m_range : mg "range" = none) (m_tuple : mg "tuple" = none)
    (c_behind_expressions : CalN P w K mg base 2 "behind_expressions" ["signs", "at", "sign"] (spBehind K C)) (c__read : CalN P w K mg base k "_read" ["signs", "at", "depth"] (spRd K C ts n)) :
    CalN P w K mg base (k + 1) "_read_call" ["function", "signs", "at", "depth"] (spCl K C ts n) := by
  refine D.calN (k := k) sc_read_call (fun vs H Q E h => ?_) fun f cdv A outer s H vs Q E hr h => ?_
  · obtain ⟨S, a, L, dp, l, rfl, _⟩ := h
    rfl
  · obtain ⟨S, a, L, dp, l, rfl, hl, hdp, hS, hf, hz, hT, h⟩ := h
    refine ⟨_, (pss_cons (ps_set (i := 4) sc_read_call.nd rfl (Or.inl rfl) (pe_lst pa_nil))
  (pss_cons (ps_for (passes_of rfl) rfl (pi_range1 (by rfl) m_range (pa_cons (pe_ix ix_kdict (pe_glob (v := .ref aAr) rfl g_ARITIES rfl) (pv 0) (fun _ _ => rfl)) pa_nil)) (pg_name (i := 5) sc_read_call.nd rfl (Or.inl rfl)) (pss_cons (ps_set (i := 2) sc_read_call.nd rfl (Or.inl rfl) (pe_calN (c_behind_expressions.mono (by omega)) hr (by rfl) (fun σ => L2N.passAt (L2N.takes_of rfl rfl rfl rfl) σ) (pa_cons (pv 1) (pa_cons (pv 2) (pa_cons (pe_ifExp (pt_cmpR op_eq (pv 5) pe_int (nomark _)) (pe_glob (v := .ref aL) rfl g_LEFT rfl) (pe_glob (v := .ref aC) rfl g_COMMA rfl)) pa_nil)))))
  (pss_cons (ps_asg (pe_calN (c__read.mono (by omega)) hr (by rfl) (fun σ => L2N.passAt (L2N.takes_of rfl rfl rfl rfl) σ) (pa_cons (pv 1) (pa_cons (pv 2) (pa_cons (pe_op op_add (pv 3) pe_int) pa_nil)))) (pg_tup rfl (pgs_cons (pg_name (i := 6) sc_read_call.nd rfl (Or.inl rfl)) (pgs_cons (pg_name (i := 2) sc_read_call.nd rfl (Or.inl rfl)) pgs_nil))))
  (pss_one (ps_expr (pe_bm PySem.F.plainAttrs_list PySem.F.slot_list_append PySem.F.type_list_append mt_append (pv 4) (pa_cons (pv 6) pa_nil)))))))
  (pss_one (ps_ret (pe_tup (pa_cons (pe_tup (pa_cons pe_str (pa_cons (pv 0) (pa_cons (pe_callTy call_tuple_of (by rfl) m_tuple (by decide +kernel) (pa_cons (pv 4) pa_nil)) pa_nil)))) (pa_cons (pe_calN (c_behind_expressions.mono (by omega)) hr (by rfl) (fun σ => L2N.passAt (L2N.takes_of rfl rfl rfl rfl) σ) (pa_cons (pv 1) (pa_cons (pv 2) (pa_cons (pe_glob (v := .ref aR) rfl g_RIGHT rfl) pa_nil)))) pa_nil))))))), ?_⟩
    refine ⟨Nat.zero_le _, fun D hD => ?_⟩
    have har : arity l ≤ 3 := by
      unfold arity
      repeat' split
      all_goals omega
    unfold rdCall at h
    generalize hR0 : rdArgs (rd n) (arity l) 40 (L.drop a) = R0 at h
    refine ⟨_, rfl, aAr, sx l, _, rfl, rfl, hAr l hl, _, rfl, by omega, by omega, ?_⟩
    rw [Int.toNat_natCast]
    refine for_it walk_range (fun i σ H' => i ≤ arity l ∧ ∃ (b : Nat) (es : List Ex) (vs : List V) (o5 o6 : Option V), σ = [some (.str (sx l)), some (.ref S), some (.int (b : Int)), some (.int dp), some (.ref D), o5, o6] ∧ es.length = i ∧ Kp H H' ∧ H' D = some (.lst vs) ∧ DtAll K H' vs (Ex.ds es) ∧
      R0 = addA es (rdArgs (rd n) (arity l - i) (if i = 0 then 40 else 44) (L.drop b))) ?_ (fun _ _ _ _ _ => trivial) ?_ ?_
    · refine ⟨Nat.zero_le _, a, [], [], _, _, rfl, rfl, Kb.new hD, upd_same, .nil, ?_⟩
      rw [← hR0]
      have ae : ∀ o, o = addA [] o := fun o => by cases o <;> rfl
      exact ae _
    · rintro i x σ _ H1 hi ⟨hi1, b, es, vs, o5, o6, rfl, hlen, k1, eD, ds, e⟩ ⟨rfl, hx⟩
      obtain rfl : x = .int (0 + (i : Int)) := hx
      obtain ⟨g, hg⟩ : ∃ g, arity l - i = g + 1 := ⟨arity l - i - 1, by omega⟩
      have hS1 := hS.kp k1
      rw [hg] at e
      refine ⟨_, rfl, _, rfl, _, rfl, rfl, _, rfl, ?_⟩
      by_cases h0 : i = 0
      · rw [if_pos h0] at e
        have e : R0 = addA es (match expect 40 (L.drop b) with
          | none => none
          | some r1 => match rd n r1 with
            | none => none
            | some (e, r2) => match rdArgs (rd n) g 44 r2 with
              | none => none
              | some (es, r3) => some (e :: es, r3)) := e
        refine iteP (show V.int (0 + (i : Int)) = V.int 0 by rw [h0]; rfl) ⟨S, b, .ref aL, L, 40, rfl, hS1, hf, hL H1, by decide, ?_⟩
        unfold expect at e
        cases e1 : atMark 40 (L.drop b) with
        | false =>
          rw [e1] at e
          have e : R0 = none := e
          rw [e] at h
          exact h H1 k1
        | true =>
          rw [e1, drop_tail] at e
          have e : R0 = addA es (match rd n (L.drop (b + 1)) with
            | none => none
            | some (e, r2) => match rdArgs (rd n) g 44 r2 with
              | none => none
              | some (es, r3) => some (e :: es, r3)) := e
          refine ⟨_, rfl, _, rfl, _, rfl, _, _, rfl, rfl, S, b + 1, L, dp + 1, rfl, by omega, hS1, hf, hz, fun T hm => k1.tab T (hT T hm), ?_⟩
          cases e2 : rd n (L.drop (b + 1)) with
          | none =>
            rw [e2] at e
            have e : R0 = none := e
            rw [e] at h
            exact fun H' k' => h H' (k1.trans k')
          | some pr =>
            obtain ⟨ex, r2⟩ := pr
            rw [e2] at e
            intro H2 u b2 k2 hb2 hbl du
            obtain ⟨p2, x2, y2, rfl, hp2, hx2, hy2⟩ := dt_pair du
            cases hy2
            have eD2 := k2.keep D _ eD (by simp) nt_lst
            have hlv := ds.length
            rw [ds_len] at hlv
            refine ⟨p2, _, rfl, hp2, rfl, _, _, rfl, _, _, rfl, rfl, ?_⟩
            refine ⟨_, rfl, .inl ⟨rfl, _, .inl (.inl eD2)⟩, _, rfl, D, vs, x2, rfl, rfl, eD2, by have : sizeLine = 16777216 := rfl; omega, by omega, b2, es ++ [ex], vs ++ [x2], _, _, rfl, by simp; omega, (k1.trans k2).mut hD (no_tab eD2 nt_lst), upd_same, ?_, ?_⟩
            · rw [ds_snoc]
              exact DtAll.kb (Kb.put (S := [D]) (by simp) eD2 nt_lst) (fun b hb => by rw [List.mem_singleton.mp hb]; exact ⟨_, eD2⟩) (DtAll.snoc (DtAll.kb k2 Lsts.nil ds) hx2)
            · have e : R0 = addA es (match rdArgs (rd n) g 44 r2 with
                | none => none
                | some (es, r3) => some (ex :: es, r3)) := e
              rw [addA_add, ← hb2] at e
              rw [e, if_neg (by omega : ¬ i + 1 = 0)]
              congr 2
              omega
      · rw [if_neg h0] at e
        have e : R0 = addA es (match expect 44 (L.drop b) with
          | none => none
          | some r1 => match rd n r1 with
            | none => none
            | some (e, r2) => match rdArgs (rd n) g 44 r2 with
              | none => none
              | some (es, r3) => some (e :: es, r3)) := e
        refine iteN (show ¬ V.int (0 + (i : Int)) = V.int 0 by intro z; injection z with z; omega) ⟨S, b, .ref aC, L, 44, rfl, hS1, hf, hC H1, by decide, ?_⟩
        unfold expect at e
        cases e1 : atMark 44 (L.drop b) with
        | false =>
          rw [e1] at e
          have e : R0 = none := e
          rw [e] at h
          exact h H1 k1
        | true =>
          rw [e1, drop_tail] at e
          have e : R0 = addA es (match rd n (L.drop (b + 1)) with
            | none => none
            | some (e, r2) => match rdArgs (rd n) g 44 r2 with
              | none => none
              | some (es, r3) => some (e :: es, r3)) := e
          refine ⟨_, rfl, _, rfl, _, rfl, _, _, rfl, rfl, S, b + 1, L, dp + 1, rfl, by omega, hS1, hf, hz, fun T hm => k1.tab T (hT T hm), ?_⟩
          cases e2 : rd n (L.drop (b + 1)) with
          | none =>
            rw [e2] at e
            have e : R0 = none := e
            rw [e] at h
            exact fun H' k' => h H' (k1.trans k')
          | some pr =>
            obtain ⟨ex, r2⟩ := pr
            rw [e2] at e
            intro H2 u b2 k2 hb2 hbl du
            obtain ⟨p2, x2, y2, rfl, hp2, hx2, hy2⟩ := dt_pair du
            cases hy2
            have eD2 := k2.keep D _ eD (by simp) nt_lst
            have hlv := ds.length
            rw [ds_len] at hlv
            refine ⟨p2, _, rfl, hp2, rfl, _, _, rfl, _, _, rfl, rfl, ?_⟩
            refine ⟨_, rfl, .inl ⟨rfl, _, .inl (.inl eD2)⟩, _, rfl, D, vs, x2, rfl, rfl, eD2, by have : sizeLine = 16777216 := rfl; omega, by omega, b2, es ++ [ex], vs ++ [x2], _, _, rfl, by simp; omega, (k1.trans k2).mut hD (no_tab eD2 nt_lst), upd_same, ?_, ?_⟩
            · rw [ds_snoc]
              exact DtAll.kb (Kb.put (S := [D]) (by simp) eD2 nt_lst) (fun b hb => by rw [List.mem_singleton.mp hb]; exact ⟨_, eD2⟩) (DtAll.snoc (DtAll.kb k2 Lsts.nil ds) hx2)
            · have e : R0 = addA es (match rdArgs (rd n) g 44 r2 with
                | none => none
                | some (es, r3) => some (ex :: es, r3)) := e
              rw [addA_add, ← hb2] at e
              rw [e, if_neg (by omega : ¬ i + 1 = 0)]
              congr 2
              omega
    · rintro σ H1 ⟨_, b, es, vs, o5, o6, rfl, hlen, k1, eD, ds, e⟩
      rw [Nat.sub_self] at e
      have e : R0 = some (es ++ [], L.drop b) := e
      rw [List.append_nil] at e
      rw [e] at h
      have h : Res K C L H Q E (toD (match expect 41 (L.drop b) with
        | none => none
        | some r2 => some (.call l es, r2))) := h
      refine ⟨_, rfl, _, rfl, D, vs, rfl, .inl ⟨.inl (.inl eD), fun t ht => ⟨by show 3 ≤ sizeLine; decide, fun t2 ht2 => ?_⟩⟩⟩
      have k2 : Kp H1 (upd H1 t (.tup vs)) := Kb.new ht
      have dt1 : Dt K (upd H1 t (.tup vs)) (.ref t) (.tuple (Ex.ds es)) := .tup (SqT.of upd_same) (DtAll.kb k2 Lsts.nil ds)
      generalize upd H1 t (.tup vs) = H2 at k2 dt1 ht2 ⊢
      obtain ⟨k3, d3⟩ := new_three (K := K) ht2 (.str (Str.ofString "call")) (.str (sx l)) dt1
      generalize upd H2 t2 (.tup [.str (Str.ofString "call"), .str (sx l), .ref t]) = H3 at k3 d3 ⊢
      have k13 := (k1.trans k2).trans k3
      refine ⟨_, rfl, _, rfl, S, b, .ref aR, L, 41, rfl, hS.kp k13, hf, hR H3, by decide, ?_⟩
      unfold expect at h
      cases e5 : atMark 41 (L.drop b) with
      | false =>
        rw [e5] at h
        exact h H3 k13
      | true =>
        rw [e5, drop_tail] at h
        have h : Res K C L H Q E (some (Ex.d (.call l es), L.drop (b + 1))) := h
        have hb1 := atMark_lt e5
        refine ⟨by show 2 ≤ sizeLine; decide, fun p4 hp4 => ?_⟩
        obtain ⟨k4, d4⟩ := new_pair (K := K) hp4 d3 (.int ((b + 1 : Nat) : Int))
        exact h _ _ (b + 1) (k13.trans k4) rfl (by omega) d4
end
end Rx

namespace Rx
open PySem PySem.Spec PyProof.Rows L2 GxR Gx Gd Rs
abbrev s_inner_ones : Stmt := topS 59
theorem sc_inner_ones : FnScope ["expression"] ["expression"] (defScope s_inner_ones) := ⟨rfl, rfl, rfl, by decide +kernel, rfl, by decide +kernel, by decide +kernel⟩
abbrev s_count_calls : Stmt := topS 60
theorem sc_count_calls : FnScope ["expression", "own", "inner"] ["expression"] (defScope s_count_calls) := ⟨rfl, rfl, rfl, by decide +kernel, rfl, by decide +kernel, by decide +kernel⟩
abbrev s_read_expression : Stmt := topS 57
theorem sc_read_expression : FnScope ["signs", "at", "expression", "end"] ["signs", "at"] (defScope s_read_expression) := ⟨rfl, rfl, rfl, by decide +kernel, rfl, by decide +kernel, by decide +kernel⟩
def innerOf : Ex → List Ex
  | .call _ es => es
  | .inj _ e => [e]
  | _ => []
theorem callsAll_sum : ∀ es : List Ex, Ex.callsAll es = (es.map Ex.calls).sum
  | [] => rfl
  | e :: es => by show e.calls + Ex.callsAll es = _; rw [callsAll_sum es]; rfl
theorem deepAll_le : ∀ (es : List Ex) (m : Nat), Ex.deepAll es ≤ m ↔ ∀ e ∈ es, e.deep ≤ m
  | [], m => ⟨fun _ e h => (by cases h), fun _ => Nat.zero_le _⟩
  | e :: es, m => by
    show max e.deep (Ex.deepAll es) ≤ m ↔ _
    rw [Nat.max_le, deepAll_le es m]
    exact ⟨fun h x hx => by rcases List.mem_cons.mp hx with rfl | hx; exact h.1; exact h.2 x hx, fun h => ⟨h e List.mem_cons_self, fun x hx => h x (List.mem_cons_of_mem _ hx)⟩⟩
def own : Ex → Nat
  | .call _ _ => 1
  | .inj _ _ => 1
  | _ => 0
theorem calls_eq (e : Ex) : e.calls = own e + ((innerOf e).map Ex.calls).sum := by
  cases e with
  | lit v => rfl
  | var l => rfl
  | call f es => show 1 + Ex.callsAll es = 1 + _; rw [callsAll_sum]; rfl
  | inj l e => show 1 + e.calls = 1 + (e.calls + 0); rw [Nat.add_zero]
theorem inner_deep {e x : Ex} {m : Nat} (h : e.deep ≤ m + 1) (hx : x ∈ innerOf e) : x.deep ≤ m := by
  cases e with
  | lit v => cases hx
  | var l => cases hx
  | call f es =>
    have h : 1 + Ex.deepAll es + (es.length - 3) ≤ m + 1 := h
    exact (deepAll_le es m).mp (by omega) x hx
  | inj l e =>
    have h : 1 + e.deep ≤ m + 1 := h
    rw [List.mem_singleton.mp hx]
    omega
theorem inner_zero {e : Ex} (h : e.deep ≤ 0) : innerOf e = [] := by
  cases e with
  | lit v => rfl
  | var l => rfl
  | call f es =>
    have h : 1 + Ex.deepAll es + (es.length - 3) ≤ 0 := h
    omega
  | inj l e =>
    have h : 1 + e.deep ≤ 0 := h
    omega
theorem args_deep {f : List Sg → Option (Ex × List Sg)} {m : Nat} (hf : ∀ L e r, f L = some (e, r) → e.deep ≤ m) : ∀ (k c : Nat) (L : List Sg) (es : List Ex) (r : List Sg), rdArgs f k c L = some (es, r) → Ex.deepAll es ≤ m
  | 0, c, L, es, r, h => by cases h; exact Nat.zero_le _
  | k + 1, c, L, es, r, h => by
    have h : (match expect c L with | none => none | some r1 => match f r1 with | none => none | some (e, r2) => match rdArgs f k 44 r2 with | none => none | some (es, r3) => some (e :: es, r3)) = some (es, r) := h
    cases h1 : expect c L with
    | none => rw [h1] at h; cases h
    | some r1 =>
      rw [h1] at h
      have h : (match f r1 with | none => none | some (e, r2) => match rdArgs f k 44 r2 with | none => none | some (es, r3) => some (e :: es, r3)) = some (es, r) := h
      cases h2 : f r1 with
      | none => rw [h2] at h; cases h
      | some p =>
        obtain ⟨e, r2⟩ := p
        rw [h2] at h
        have h : (match rdArgs f k 44 r2 with | none => none | some (es, r3) => some (e :: es, r3)) = some (es, r) := h
        cases h3 : rdArgs f k 44 r2 with
        | none => rw [h3] at h; cases h
        | some p3 =>
          obtain ⟨es3, r3⟩ := p3
          rw [h3] at h
          cases h
          exact Nat.max_le.mpr ⟨hf _ _ _ h2, args_deep hf k 44 r2 es3 _ h3⟩
theorem args_len : ∀ (f : List Sg → Option (Ex × List Sg)) (k c : Nat) (L : List Sg) (es : List Ex) (r : List Sg), rdArgs f k c L = some (es, r) → es.length = k
  | f, 0, c, L, es, r, h => by cases h; rfl
  | f, k + 1, c, L, es, r, h => by
    have h : (match expect c L with | none => none | some r1 => match f r1 with | none => none | some (e, r2) => match rdArgs f k 44 r2 with | none => none | some (es, r3) => some (e :: es, r3)) = some (es, r) := h
    cases h1 : expect c L with
    | none => rw [h1] at h; cases h
    | some r1 =>
      rw [h1] at h
      have h : (match f r1 with | none => none | some (e, r2) => match rdArgs f k 44 r2 with | none => none | some (es, r3) => some (e :: es, r3)) = some (es, r) := h
      cases h2 : f r1 with
      | none => rw [h2] at h; cases h
      | some p =>
        obtain ⟨e, r2⟩ := p
        rw [h2] at h
        have h : (match rdArgs f k 44 r2 with | none => none | some (es, r3) => some (e :: es, r3)) = some (es, r) := h
        cases h3 : rdArgs f k 44 r2 with
        | none => rw [h3] at h; cases h
        | some p3 =>
          obtain ⟨es3, r3⟩ := p3
          rw [h3] at h
          cases h
          show es3.length + 1 = k + 1
          rw [args_len f k 44 r2 es3 _ h3]
theorem inner_len {e : Ex} {m : Nat} (h : e.deep ≤ m) : (innerOf e).length ≤ m + 3 := by
  cases e with
  | lit v => exact Nat.zero_le _
  | var l => exact Nat.zero_le _
  | call f es =>
    have h : 1 + Ex.deepAll es + (es.length - 3) ≤ m := h
    show es.length ≤ m + 3
    omega
  | inj l e => show 1 ≤ m + 3; omega
theorem map_deep {L r : List Sg} {e : Ex} (h : rdMap L = some (e, r)) : e.deep = 0 := by
  unfold rdMap at h
  cases h1 : expect 40 L with
  | none => rw [h1] at h; cases h
  | some r1 =>
    rw [h1] at h
    have h : (match rdEnts (r1.length + 1) true r1 with | none => none | some (es, r2) => if Rv.isValueD (.tuple [.str "map", .tuple es]) = true then some (Ex.lit (.tuple [.str "map", .tuple es]), r2) else none) = some (e, r) := h
    cases h2 : rdEnts (r1.length + 1) true r1 with
    | none => rw [h2] at h; cases h
    | some p =>
      rw [h2] at h
      have h : (if Rv.isValueD (.tuple [.str "map", .tuple p.1]) = true then some (Ex.lit (.tuple [.str "map", .tuple p.1]), p.2) else none) = some (e, r) := h
      split at h
      · cases h; rfl
      · cases h
theorem rd_deep : ∀ (n : Nat) (L r : List Sg) (e : Ex), rd n L = some (e, r) → e.deep ≤ n
  | n, [], r, e, h => by rw [rd_nil] at h; cases h
  | n, s :: L, r, e, h => by
    rw [rd_cons] at h
    cases h1 : scalarOf s with
    | some v => rw [h1] at h; cases h; exact Nat.zero_le _
    | none =>
      rw [h1] at h
      cases s with
      | num m => cases h
      | quo m => cases h
      | mark m => cases h
      | name l =>
        have h : (if l = cs "map" then rdMap L else if l ∉ reserved then some (Ex.var l, L) else match prevF n with
          | none => none
          | some f => if l = cs "inject" then rdInj f L else rdCall f l L) = some (e, r) := h
        by_cases hm : l = cs "map"
        · rw [if_pos hm] at h
          rw [map_deep h]
          exact Nat.zero_le _
        · rw [if_neg hm] at h
          by_cases hr : l ∉ reserved
          · rw [if_pos hr] at h; cases h; exact Nat.zero_le _
          · rw [if_neg hr] at h
            cases n with
            | zero => cases h
            | succ m =>
              have h : (if l = cs "inject" then rdInj (rd m) L else rdCall (rd m) l L) = some (e, r) := h
              by_cases hi : l = cs "inject"
              · rw [if_pos hi, inj_is] at h
                split at h
                · cases ht : L.tail with
                  | nil => rw [ht] at h; cases h
                  | cons s2 r1 =>
                    rw [ht] at h
                    cases s2 with
                    | name l2 =>
                      have h : (if l2 ∈ reserved then none else if atMark 44 r1 = true then (match rd m r1.tail with
                        | none => none
                        | some (e, r3) => if atMark 41 r3 = true then some (Ex.inj l2 e, r3.tail) else none) else none) = some (e, r) := h
                      split at h
                      · cases h
                      · split at h
                        · cases h4 : rd m r1.tail with
                          | none => rw [h4] at h; cases h
                          | some p =>
                            obtain ⟨e4, r4⟩ := p
                            rw [h4] at h
                            have h : (if atMark 41 r4 = true then some (Ex.inj l2 e4, r4.tail) else none) = some (e, r) := h
                            split at h
                            · cases h
                              have := rd_deep m _ _ _ h4
                              show 1 + e4.deep ≤ m + 1
                              omega
                            · cases h
                        · cases h
                    | _ => cases h
                · cases h
              · rw [if_neg hi] at h
                unfold rdCall at h
                cases h4 : rdArgs (rd m) (arity l) 40 L with
                | none => rw [h4] at h; cases h
                | some p =>
                  obtain ⟨es, r4⟩ := p
                  rw [h4] at h
                  have h : (match expect 41 r4 with | none => none | some r2 => some (Ex.call l es, r2)) = some (e, r) := h
                  cases h5 : expect 41 r4 with
                  | none => rw [h5] at h; cases h
                  | some r5 =>
                    rw [h5] at h
                    cases h
                    have := args_deep (fun L e r h => rd_deep m L r e h) _ _ _ _ _ h4
                    have hl := args_len _ _ _ _ _ _ h4
                    have ha : arity l ≤ 3 := by
                      unfold arity
                      repeat' split
                      all_goals omega
                    show 1 + Ex.deepAll es + (es.length - 3) ≤ m + 1
                    omega
theorem ite_to {b : Bool} {A : Int → Prop} {x : Int} (e : (if b = true then (1 : Int) else 0) = x) (h : A x) : if b = true then A 1 else A 0 := by
  cases b with
  | true => rw [← e] at h; exact iteT h
  | false => rw [← e] at h; exact iteF h
theorem ds_map : ∀ es : List Ex, Ex.ds es = es.map Ex.d
  | [] => rfl
  | e :: es => by show e.d :: Ex.ds es = _; rw [ds_map es]; rfl
theorem sum_cast : ∀ es : List Ex, (es.map fun x => ((x.calls : Nat) : Int)).sum = (((es.map Ex.calls).sum : Nat) : Int)
  | [] => rfl
  | e :: es => by
    have ih := sum_cast es
    simp only [List.map_cons, List.sum_cons] at ih ⊢
    omega
def spInner (K : PySem.W.Frag) : Sp := fun vs H Q _ => ∃ v e, vs = [v] ∧ Dt K H v (Ex.d e) ∧ ∀ H' p xs, Kp H H' → SqT K H' p xs → DtAll K H' xs (Ex.ds (innerOf e)) → Q (.ref p) H'
def spCnt (K : PySem.W.Frag) (m : Nat) : Sp := fun vs H Q _ => ∃ v e, vs = [v] ∧ Dt K H v (Ex.d e) ∧ e.deep ≤ m ∧ ∀ H', Kp H H' → Q (.int (e.calls : Int)) H'
def spRE (K : PySem.W.Frag) (C : Addr) (ts : List Addr) : Sp := fun vs H Q E => ∃ (S : Addr) (at' : Nat) (L : List Sg), vs = [.ref S, .int (at' : Int)] ∧ Sgs K H S L ∧ (∀ s ∈ L, fit s = true) ∧ L.length ≤ 1000 ∧ (∀ T ∈ ts, TabG H T) ∧ Res K C L H Q E (toD (readE (L.drop at')))
section
variable {P : Program} {w : World} {K : PySem.W.Frag} {mg : Str → Option Value} {base : Heap}
theorem dt_head {H : Hp} {v : V} {e : Ex} (h : Dt K H v e.d) : ∃ p xs wd, v = .ref p ∧ SqT K H p xs ∧ xs[0]? = some (.str (Str.ofString wd)) ∧ (match e with
    | .lit _ => wd = "literal"
    | .var _ => wd = "variable"
    | .call _ es => wd = "call" ∧ ∃ q ys, xs[2]? = some (.ref q) ∧ SqT K H q ys ∧ DtAll K H ys (Ex.ds es)
    | .inj _ e => wd = "inject" ∧ ∃ z, xs[2]? = some z ∧ Dt K H z e.d) := by
  cases e with
  | lit x => obtain ⟨p, a, b, rfl, hp, ha, hb⟩ := dt_pair h; cases ha; exact ⟨p, _, "literal", rfl, hp, rfl, rfl⟩
  | var x => obtain ⟨p, a, b, rfl, hp, ha, hb⟩ := dt_pair h; cases ha; exact ⟨p, _, "variable", rfl, hp, rfl, rfl⟩
  | call f es =>
    cases h with
    | tup h hs =>
      cases hs with
      | cons h1 hs =>
        cases hs with
        | cons h2 hs =>
          cases hs with
          | cons h3 hs =>
            cases hs
            cases h1
            cases h3 with
            | tup h3 hs3 => exact ⟨_, _, "call", rfl, h, rfl, rfl, _, _, rfl, h3, hs3⟩
  | inj l x =>
    cases h with
    | tup h hs =>
      cases hs with
      | cons h1 hs =>
        cases hs with
        | cons h2 hs =>
          cases hs with
          | cons h3 hs =>
            cases hs
            cases h1
            exact ⟨_, _, "inject", rfl, h, rfl, rfl, _, rfl, h3⟩
theorem c_inner_ones (D : DefAt K mg "_inner_ones" s_inner_ones ["expression"]) : Cal P w K mg base CX0 1 "_inner_ones" ["expression"] (spInner K) := by
  refine D.cal (k := 0) sc_inner_ones (fun vs H Q E h => ?_) fun f cdv A outer s H vs Q E hr h => ?_
  · obtain ⟨v, e, rfl, _⟩ := h
    rfl
  · obtain ⟨v, e, rfl, hv, q⟩ := h
    refine ⟨_, (pss_cons (ps_if (pt_cmpR op_eq (pe_ix ix_tup (pv 0) pe_int (fun _ _ => rfl)) pe_str (nomark _)) (pss_one (ps_ret (pe_ix ix_tup (pv 0) pe_int (fun _ _ => rfl)))) pss_nil)
  (pss_cons (ps_if (pt_cmpR op_eq (pe_ix ix_tup (pv 0) pe_int (fun _ _ => rfl)) pe_str (nomark _)) (pss_one (ps_ret (pe_tup (pa_cons (pe_ix ix_tup (pv 0) pe_int (fun _ _ => rfl)) pa_nil)))) pss_nil)
  (pss_one (ps_ret (pe_tup pa_nil))))), ?_⟩
    obtain ⟨p, xs, wd, rfl, hp, h0, hm⟩ := dt_head hv
    refine ⟨_, rfl, p, xs, 0, _, rfl, rfl, hp, atI_nat (j := 0) h0, rfl, _, rfl, ?_⟩
    cases e with
    | lit x =>
      obtain rfl : wd = "literal" := hm
      refine iteN (show ¬ V.str (Str.ofString "literal") = V.str (Str.ofString "call") by decide +kernel) ⟨_, rfl, p, xs, 0, _, rfl, rfl, hp, atI_nat (j := 0) h0, rfl, _, rfl, iteN (show ¬ V.str (Str.ofString "literal") = V.str (Str.ofString "inject") by decide +kernel) ⟨Nat.zero_le _, fun t ht => q _ t [] (Kb.new ht) (SqT.of upd_same) .nil⟩⟩
    | var x =>
      obtain rfl : wd = "variable" := hm
      refine iteN (show ¬ V.str (Str.ofString "variable") = V.str (Str.ofString "call") by decide +kernel) ⟨_, rfl, p, xs, 0, _, rfl, rfl, hp, atI_nat (j := 0) h0, rfl, _, rfl, iteN (show ¬ V.str (Str.ofString "variable") = V.str (Str.ofString "inject") by decide +kernel) ⟨Nat.zero_le _, fun t ht => q _ t [] (Kb.new ht) (SqT.of upd_same) .nil⟩⟩
    | call g es =>
      obtain ⟨rfl, z, ys, h2, hz, hys⟩ := hm
      exact iteP (show V.str (Str.ofString "call") = V.str (Str.ofString "call") from rfl) ⟨_, rfl, p, xs, 2, _, rfl, rfl, hp, atI_nat (j := 2) h2, q H z ys (Kb.refl H) hz hys⟩
    | inj l x =>
      obtain ⟨rfl, z, h2, hz⟩ := hm
      refine iteN (show ¬ V.str (Str.ofString "inject") = V.str (Str.ofString "call") by decide +kernel) ⟨_, rfl, p, xs, 0, _, rfl, rfl, hp, atI_nat (j := 0) h0, rfl, _, rfl, iteP (show V.str (Str.ofString "inject") = V.str (Str.ofString "inject") from rfl) ⟨_, rfl, p, xs, 2, _, rfl, rfl, hp, atI_nat (j := 2) h2, by show 1 ≤ sizeLine; decide, fun t ht => q _ t [z] (Kb.new ht) (SqT.of upd_same) (.cons (hz.kb (Kb.new ht) Lsts.nil) .nil)⟩⟩
def prevN (K : PySem.W.Frag) : Nat → Sp
  | 0 => fun _ _ _ _ => False
  | n + 1 => spCnt K n
theorem c_count_calls {m k : Nat} (hk : 1 ≤ k) (hm100 : m ≤ 100) (D : DefAt K mg "_count_calls" s_count_calls ["expression"]) (m_sum : mg "sum" = none) (c__inner_ones : Cal P w K mg base CX0 1 "_inner_ones" ["expression"] (spInner K))
    (c__count_calls : Cal P w K mg base CX0 k "_count_calls" ["expression"] (prevN K m)) : Cal P w K mg base CX0 (k + 1) "_count_calls" ["expression"] (spCnt K m) := by
  refine D.cal (k := k) sc_count_calls (fun vs H Q E h => ?_) fun f cdv A outer s H vs Q E hr h => ?_
  · obtain ⟨v, e, rfl, _⟩ := h
    rfl
  · obtain ⟨v, e, rfl, hv, hd, q⟩ := h
    refine ⟨_, (pss_cons (ps_set (i := 1) sc_count_calls.nd rfl (Or.inl rfl) (pe_ifExp (pt_cmpR op_in_seq (pe_ix ix_tup (pv 0) pe_int (fun _ _ => rfl)) (pe_tup (pa_cons pe_str (pa_cons pe_str pa_nil))) (by rfl)) pe_int pe_int))
  (pss_one (ps_ret (pe_op op_add (pv 1) (pe_callB (cr_sum rfl) (by rfl) m_sum (by decide +kernel) (pa_cons (pe_lc rfl sc_count_calls.nd (pi_tup (pe_cal (c__inner_ones.mono (by omega)) hr (by rfl) (pa_cons (pv 0) pa_nil))) (blkOk_by (own := [("inner", 2)]) (N := ["expression", "own", "inner"]) (sc := defScope s_count_calls) (by decide +kernel)) (fun _ _ _ _ _ => (pg_name (i := 2) sc_count_calls.nd rfl (Or.inl rfl))) (fun _ _ _ _ _ => pts_nil) (fun _ _ _ _ _ => (pe_cal (c__count_calls.mono (by omega)) hr (by rfl) (pa_cons (pv 2) pa_nil)))) pa_nil)))))), ?_⟩
    obtain ⟨p, xs, wd, rfl, hp, h0, hm⟩ := dt_head hv
    refine ⟨_, rfl, p, xs, 0, _, rfl, rfl, hp, atI_nat (j := 0) h0, by show 2 ≤ sizeLine; decide, fun t ht => ⟨t, _, rfl, .inr (SqT.of upd_same), rfl, rfl, _, rfl, ?_⟩⟩
    have k1 : Kp H (upd H t (.tup [.str (Str.ofString "call"), .str (Str.ofString "inject")])) := Kb.new ht
    have hv1 := hv.kb k1 Lsts.nil
    generalize upd H t (.tup [.str (Str.ofString "call"), .str (Str.ofString "inject")]) = H1 at k1 hv1 ⊢
    have eo : (if inV (.str (Str.ofString wd)) [.str (Str.ofString "call"), .str (Str.ofString "inject")] = true then (1 : Int) else 0) = (own e : Int) := by
      cases e with
      | lit x => obtain rfl : wd = "literal" := hm; exact (show (if inV (.str (Str.ofString "literal")) [.str (Str.ofString "call"), .str (Str.ofString "inject")] = true then (1 : Int) else 0) = 0 by decide +kernel)
      | var x => obtain rfl : wd = "variable" := hm; exact (show (if inV (.str (Str.ofString "variable")) [.str (Str.ofString "call"), .str (Str.ofString "inject")] = true then (1 : Int) else 0) = 0 by decide +kernel)
      | call g es => obtain ⟨rfl, _⟩ := hm; exact (show (if inV (.str (Str.ofString "call")) [.str (Str.ofString "call"), .str (Str.ofString "inject")] = true then (1 : Int) else 0) = 1 by decide +kernel)
      | inj l x => obtain ⟨rfl, _⟩ := hm; exact (show (if inV (.str (Str.ofString "inject")) [.str (Str.ofString "call"), .str (Str.ofString "inject")] = true then (1 : Int) else 0) = 1 by decide +kernel)
    refine ite_to (A := fun n => tC (V.int n) _ _ _) eo ?_
    refine ⟨_, rfl, _, rfl, .ref p, e, rfl, hv1, fun H2 p2 xs2 k2 hp2 hx2 => ⟨p2, rfl, ⟨xs2, hp2⟩, fun D hD => ?_⟩⟩
    have hl := hx2.length
    rw [ds_len] at hl
    refine lc_it walk_tup (fun i H' => Kp H2 H' ∧ H' D = some (.lst ((((innerOf e).take i).map fun x => ((x.calls : Nat) : Int)).map V.int))) ⟨Kb.new hD, upd_same⟩ (fun i H' _ h => h.1.sqT Lsts.nil hp2) ?_ ?_
    · rintro i x _ H3 hi ⟨k3, e3⟩ ⟨rfl, hx⟩
      have hxe : (innerOf e)[i]? = some ((innerOf e)[i]'(by omega)) := List.getElem?_eq_getElem (by omega)
      generalize (innerOf e)[i]'(by omega) = ex at hxe
      obtain ⟨d, hd1, hd2⟩ := (DtAll.kb k3 Lsts.nil hx2).get hx
      have hmem := List.mem_of_getElem? hxe
      have hds : (Ex.ds (innerOf e))[i]? = some ex.d := by
        rw [ds_map, List.getElem?_map, hxe]; rfl
      rw [hds] at hd1
      cases hd1
      refine ⟨rfl, ?_⟩
      cases m with
      | zero => rw [inner_zero hd] at hmem; cases hmem
      | succ m' =>
        refine iteT (B := Kp H2 H3 ∧ H3 D = some (.lst ((((innerOf e).take (i + 1)).map fun x => ((x.calls : Nat) : Int)).map V.int))) ⟨_, rfl, x, ex, rfl, hd2, inner_deep hd hmem, fun H4 k4 => ?_⟩
        have e4 := k4.keep D _ e3 (by simp) nt_lst
        refine ⟨_, e4, ?_, (k3.trans k4).mut hD (no_tab e4 nt_lst), ?_⟩
        · have h3 := inner_len hd
          have : sizeLine = 16777216 := rfl
          rw [List.length_map, List.length_map, List.length_take]
          omega
        · rw [upd_same, List.take_succ, hxe]
          simp
    · rintro H3 ⟨k3, e3⟩
      rw [List.take_of_length_le (by omega)] at e3
      refine ⟨D, (innerOf e).map fun x => ((x.calls : Nat) : Int), rfl, .inl (.inl e3), _, _, rfl, rfl, ?_⟩
      have es : (own e : Int) + ((innerOf e).map fun x => ((x.calls : Nat) : Int)).sum = (e.calls : Int) := by
        rw [calls_eq e, sum_cast]
        omega
      have qq := q H3 ((k1.trans k2).trans k3)
      rw [← es] at qq
      exact qq
theorem c_read_expression {C : Addr} {ts : List Addr} {k : Nat} (D : DefAt K mg "read_expression" s_read_expression ["signs", "at"]) (BN_BadExpression : BadN K mg "BadExpression" C) (g_MOST : ∃ t, mg "MOST_CALLS" = some (.int 10 t))
    (c__read : CalN P w K mg base k "_read" ["signs", "at", "depth"] (spRd K C ts 5)) (c__count_calls : Cal P w K mg base CX0 k "_count_calls" ["expression"] (spCnt K 5)) : CalN P w K mg base (k + 1) "read_expression" ["signs", "at"] (spRE K C ts) := by
  refine D.calN (k := k) sc_read_expression (fun vs H Q E h => ?_) fun f cdv A outer s H vs Q E hr h => ?_
  · obtain ⟨S, a, L, rfl, _⟩ := h
    rfl
  · obtain ⟨S, a, L, rfl, hS, hf, hz, hT, h⟩ := h
    obtain ⟨tM, g_MOST_CALLS⟩ := g_MOST
    refine ⟨_, (pss_cons (ps_asg (pe_calN (c__read.mono (by omega)) hr (by rfl) (fun σ => L2N.passAt (L2N.takes_of rfl rfl rfl rfl) σ) (pa_cons (pv 0) (pa_cons (pv 1) (pa_cons pe_int pa_nil)))) (pg_tup rfl (pgs_cons (pg_name (i := 2) sc_read_expression.nd rfl (Or.inl rfl)) (pgs_cons (pg_name (i := 3) sc_read_expression.nd rfl (Or.inl rfl)) pgs_nil))))
  (pss_cons (ps_if (pt_cmpR op_gt (pe_cal (c__count_calls.mono (by omega)) hr (by rfl) (pa_cons (pv 2) pa_nil)) (pe_glob (v := .int 10) rfl g_MOST_CALLS ⟨_, rfl⟩) (nomark _)) (pss_one (ps_bad0N BN_BadExpression rfl (L2N.takes_of rfl rfl rfl rfl) (by rfl))) pss_nil)
  (pss_one (ps_ret (pe_tup (pa_cons (pv 2) (pa_cons (pv 3) pa_nil))))))), ?_⟩
    refine ⟨_, rfl, _, rfl, S, a, L, 1, rfl, by decide, hS, hf, hz, hT, ?_⟩
    unfold readE at h
    cases e1 : rd 5 (L.drop a) with
    | none =>
      rw [e1] at h
      exact h
    | some p =>
      obtain ⟨ex, r⟩ := p
      rw [e1] at h
      have h : Res K C L H Q E (toD (if 10 < ex.calls then none else some (ex, r))) := h
      intro H2 u b k2 hb hbl du
      obtain ⟨p2, x2, y2, rfl, hp2, hx2, hy2⟩ := dt_pair du
      cases hy2
      refine ⟨p2, _, rfl, hp2, rfl, _, _, rfl, _, _, rfl, rfl, ?_⟩
      refine ⟨_, rfl, x2, ex, rfl, hx2, rd_deep 5 _ _ _ e1, fun H3 k3 => ⟨_, _, rfl, rfl, _, rfl, ?_⟩⟩
      have k23 := k2.trans k3
      by_cases hc : 10 < ex.calls
      · rw [if_pos hc] at h
        exact iteP (show (10 : Int) < (ex.calls : Int) by omega) (h H3 k23)
      · rw [if_neg hc] at h
        have h : Res K C L H Q E (some (ex.d, r)) := h
        refine iteN (show ¬ (10 : Int) < (ex.calls : Int) by omega) ⟨_, rfl, _, rfl, by show 2 ≤ sizeLine; decide, fun p4 hp4 => ?_⟩
        obtain ⟨k4, d4⟩ := new_pair (K := K) hp4 (hx2.kb k3 Lsts.nil) (.int (b : Int))
        exact h _ _ b (k23.trans k4) hb hbl d4
end
end Rx

namespace Rv
open PySem PySem.Spec PyProof.Rows L2 GxR Gx Gd
/-! ### the law's draws -/
abbrev s_law_cell : Stmt := topS 94
theorem sc_law_cell : FnScope ["script", "k"] ["script", "k"] (defScope s_law_cell) := ⟨rfl, rfl, rfl, by decide +kernel, rfl, by decide +kernel, by decide +kernel⟩
abbrev s_law_draw : Stmt := topS 96
theorem sc_law_draw : FnScope ["box", "many", "at"] ["box", "many"] (defScope s_law_draw) := ⟨rfl, rfl, rfl, by decide +kernel, rfl, by decide +kernel, by decide +kernel⟩
def Box (bx d : Addr) (H : Hp) : Prop := ∃ (xs : List V) (at' : Int), H bx = some (.lst [.ref d, .int at']) ∧ 0 ≤ at' ∧ H d = some (.lst xs) ∧ ∀ v ∈ xs, ∃ i, v = .int i
theorem Box.ne {bx d : Addr} {H : Hp} (h : Box bx d H) : d ≠ bx := fun e => by
  obtain ⟨xs, a, h1, h2, h3, h4⟩ := h
  rw [e, h1] at h3
  cases h3
  obtain ⟨i, e⟩ := h4 _ List.mem_cons_self
  cases e
theorem Box.lsts {bx d : Addr} {H : Hp} (h : Box bx d H) : Lsts [bx] H := fun b hb => by
  obtain ⟨xs, a, h1, _⟩ := h
  cases hb with
  | head => exact ⟨_, h1⟩
  | tail _ h => cases h
theorem Box.kb {S : List Addr} {bx d : Addr} {H H' : Hp} (h : Box bx d H) (k : Kb S H H') (n1 : bx ∉ S) (n2 : d ∉ S) : Box bx d H' := by
  obtain ⟨xs, a, h1, h2, h3, h4⟩ := h
  exact ⟨xs, a, k.keep bx _ h1 n1 nt_lst, h2, k.keep d _ h3 n2 nt_lst, h4⟩
theorem Box.kp {bx d : Addr} {H H' : Hp} (h : Box bx d H) (k : Kp H H') : Box bx d H' := h.kb k (by simp) (by simp)
theorem Box.upd {bx d D : Addr} {H : Hp} {o : HO} (h : Box bx d H) (n1 : D ≠ bx) (n2 : D ≠ d) : Box bx d (upd H D o) := by
  obtain ⟨xs, a, h1, h2, h3, h4⟩ := h
  exact ⟨xs, a, by rw [upd_ne n1.symm]; exact h1, h2, by rw [upd_ne n2.symm]; exact h3, h4⟩
theorem Box.new {bx d D : Addr} {H : Hp} (h : Box bx d H) (n : H D = none) : D ≠ bx ∧ D ≠ d := by
  obtain ⟨xs, a, h1, h2, h3, h4⟩ := h
  exact ⟨(ne_of_none h1 n).symm, (ne_of_none h3 n).symm⟩
/-- after some draws -/
def Aft (bx d : Addr) (H H' : Hp) : Prop := Kb [bx] H H' ∧ Box bx d H'
theorem Aft.trans {bx d : Addr} {H H1 H2 : Hp} (a : Aft bx d H H1) (b : Aft bx d H1 H2) : Aft bx d H H2 := ⟨a.1.trans b.1, b.2⟩
theorem Aft.of {bx d : Addr} {H H' : Hp} (b : Box bx d H) (k : Kp H H') : Aft bx d H H' := ⟨Kb.of k, b.kp k⟩
theorem Aft.refl {bx d : Addr} {H : Hp} (b : Box bx d H) : Aft bx d H H := ⟨Kb.refl H, b⟩
theorem Aft.new {bx d D : Addr} {H : Hp} {o : HO} (b : Box bx d H) (n : H D = none) : Aft bx d H (upd H D o) := Aft.of b (Kb.new n)
theorem Aft.mut {bx d D : Addr} {H H' : Hp} {o u : HO} (k : Aft bx d H H') (n : H D = none) (b : Box bx d H) (e : H' D = some u) (t : NoTab u) : Aft bx d H (upd H' D o) :=
  ⟨k.1.mut n (no_tab e t), k.2.upd (b.new n).1 (b.new n).2⟩
theorem Aft.dt {K : PySem.W.Frag} {bx d : Addr} {H H' : Hp} {v : V} {x : PyData} (k : Aft bx d H H') (b : Box bx d H) (h : Dt K H v x) : Dt K H' v x := h.kb k.1 b.lsts
theorem Aft.lst {bx d D : Addr} {H H' : Hp} {xs : List V} (k : Aft bx d H H') (e : H D = some (.lst xs)) (n : D ≠ bx) : H' D = some (.lst xs) := k.1.keep D _ e (by simpa using n) nt_lst
def spDraw : Sp := fun vs H Q _ => ∃ bx d many, vs = [.ref bx, .int many] ∧ 0 < many ∧ Box bx d H ∧ ∀ H' r, Aft bx d H H' → 0 ≤ r → r < many → Q (.int r) H'
def lawChars : Str := Str.ofString " !\"#$&'()*+,-./09:;<=>?@AZ[\\]^_`az{|}~"
def spChars : Sp := fun vs H Q _ => vs = [] ∧ Q (.str lawChars) H
def spCell (K : PySem.W.Frag) : Sp := fun vs H Q _ => ∃ (a : Addr) (ns : List Int) (k : Int), vs = [.ref a, .int k] ∧ 0 ≤ k ∧ SqL K H a (ns.map V.int) ∧ ∀ i, Q (.int i) H
section
variable {P : Program} {w : World} {K : PySem.W.Frag} {mg : Str → Option Value} {base : Heap}
theorem c_law_cell (D : DefAt K mg "_law_cell" s_law_cell ["script", "k"]) (m_len : mg "len" = none) : Cal P w K mg base CX0 1 "_law_cell" ["script", "k"] (spCell K) := by
  refine D.cal (k := 0) sc_law_cell (fun vs H Q E h => ?_) fun f cdv A outer s H vs Q E hr h => ?_
  · obtain ⟨a, ns, k, rfl, _⟩ := h
    rfl
  · obtain ⟨a, ns, k, rfl, h0, h, q⟩ := h
    refine ⟨_, (pss_cons (ps_if (pt_cmpR op_lt (pv 1) (pe_callB call_len_seq (by rfl) m_len (by decide +kernel) (pa_cons (pv 0) pa_nil)) (nomark _)) (pss_one (ps_ret (pe_ix ix_list (pv 0) (pv 1) (fun _ _ => rfl)))) pss_nil)
  (pss_one (ps_ret pe_int))), ?_⟩
    refine ⟨_, rfl, _, rfl, a, _, rfl, .inl h, k, _, rfl, rfl, _, rfl, ?_⟩
    by_cases hk : k < ((ns.map V.int).length : Int)
    · rw [decide_eq_true hk]
      obtain ⟨n, rfl⟩ : ∃ n : Nat, k = n := ⟨k.toNat, by omega⟩
      have hn : n < (ns.map V.int).length := by omega
      have e : (ns.map V.int)[n]? = some (.int (ns[n]'(by simpa using hn))) := by simp
      exact iteT ⟨_, rfl, _, rfl, a, _, _, _, rfl, rfl, h, atI_nat e, q _⟩
    · rw [decide_eq_false hk]
      exact iteF (q 0)
theorem c_law_draw (D : DefAt K mg "_law_draw" s_law_draw ["box", "many"]) (m_len : mg "len" = none) (m_int : mg "int" = none) : Cal P w K mg base CX0 1 "_law_draw" ["box", "many"] spDraw := by
  refine D.cal (k := 0) sc_law_draw (fun vs H Q E h => ?_) fun f cdv A outer s H vs Q E hr h => ?_
  · obtain ⟨bx, d, many, rfl, _⟩ := h
    rfl
  · obtain ⟨bx, d, many, rfl, hm, hb, q⟩ := h
    have hne := hb.ne
    obtain ⟨xs, n, h1, h2, h3, h4⟩ := hb
    refine ⟨_, (pss_cons (ps_set (i := 2) sc_law_draw.nd rfl (Or.inl rfl) (pe_ix ix_list (pv 0) pe_int (fun _ _ => rfl)))
  (pss_cons (ps_asg (pe_op op_add (pv 2) pe_int) (pg_sub (pv 0) pe_int set_list))
  (pss_cons (ps_if (pt_cmpR op_lt (pv 2) (pe_callB call_len_seq (by rfl) m_len (by decide +kernel) (pa_cons (pe_ix ix_list (pv 0) pe_int (fun _ _ => rfl)) pa_nil)) (nomark _)) (pss_one (ps_ret (pe_op op_mod (pe_callTy call_int1 (by rfl) m_int (by decide +kernel) (pa_cons (pe_ix ix_list (pe_ix ix_list (pv 0) pe_int (fun _ _ => rfl)) (pv 2) (fun _ _ => rfl)) pa_nil)) (pv 1)))) pss_nil)
  (pss_one (ps_ret (pe_op op_mod (pe_callTy call_int1 (by rfl) m_int (by decide +kernel) (pa_cons (pe_op op_add (pe_op op_mul (pv 2) pe_int) pe_int) pa_nil)) (pv 1))))))), ?_⟩
    refine ⟨.ref bx, rfl, bx, _, 1, _, rfl, rfl, .inl (.inl h1), atI_nat (j := 1) rfl, ?_⟩
    refine ⟨.int n, rfl, n, 1, rfl, rfl, .ref bx, rfl, bx, _, 1, 1, rfl, rfl, h1, rfl, ?_⟩
    have k1 : Aft bx d H (upd H bx (.lst [.ref d, .int (n + 1)])) := ⟨Kb.put (by simp) h1 nt_lst, xs, n + 1, upd_same, by omega, by rw [upd_ne hne]; exact h3, h4⟩
    have e1 : (upd H bx (.lst [.ref d, .int (n + 1)])) bx = some (.lst [.ref d, .int (n + 1)]) := upd_same
    have e2 : (upd H bx (.lst [.ref d, .int (n + 1)])) d = some (.lst xs) := by rw [upd_ne hne]; exact h3
    refine ⟨.int n, rfl, .ref bx, rfl, bx, _, 0, .ref d, rfl, rfl, .inl (.inl e1), atI_nat (j := 0) rfl, d, xs, rfl, .inl (.inl (.inl e2)), n, _, rfl, rfl, _, rfl, ?_⟩
    by_cases hk : n < (xs.length : Int)
    · rw [decide_eq_true hk]
      obtain ⟨j, rfl⟩ : ∃ j : Nat, n = j := ⟨n.toNat, by omega⟩
      have hj : j < xs.length := by omega
      obtain ⟨i, hi⟩ := h4 xs[j] (List.getElem_mem hj)
      have e : xs[j]? = some (.int i) := by rw [List.getElem?_eq_getElem hj, hi]
      exact iteT ⟨.ref bx, rfl, bx, _, 0, .ref d, rfl, rfl, .inl (.inl e1), atI_nat (j := 0) rfl, _, rfl, d, xs, j, .int i, rfl, rfl, .inl (.inl e2), atI_nat e, .inl ⟨i, rfl, _, rfl, i, many, rfl, rfl, hm, q _ _ k1 (Int.emod_nonneg _ (by omega)) (Int.emod_lt_of_pos _ hm)⟩⟩
    · rw [decide_eq_false hk]
      exact iteF ⟨_, rfl, n, 7, rfl, rfl, .inr (by decide), _, _, rfl, rfl, .inl ⟨_, rfl, _, rfl, _, many, rfl, rfl, hm, q _ _ k1 (Int.emod_nonneg _ (by omega)) (Int.emod_lt_of_pos _ hm)⟩⟩
end
end Rv

namespace Rv
open PySem PySem.Spec PyProof.Rows L2 GxR Gx Gd
def spString : Sp := fun vs H Q _ => ∃ bx d, vs = [.ref bx, .int 40] ∧ Box bx d H ∧ ∀ H' x, Aft bx d H H' → x.length ≤ 40 → x.cps.toList.all isChar = true → Q (.str x) H'
def tStr (K : PySem.W.Frag) : TE := tM1 (fun x xs H Q => ∃ a p, ∃ ys : List Str, x = .str a ∧ xs = [.ref p] ∧ (SqL K H p (ys.map V.str) ∨ SqT K H p (ys.map V.str)) ∧ (ys.map (·.length)).sum + ys.length * a.length ≤ 16777216 ∧ Q (.str (Txt.join a ys)) H) (tC (.str (Str.ofString "")))
  (tLc (iRng1 (tCons (tVar 3) tNil)) (gName 4) tYes (tOp rIxS (tVar 2) (tCall spDraw [] E0 (tCons (tVar 0) (tCons (tCB (fun xs H Q => ∃ z, xs = [V.str z] ∧ z.length ≤ sizeLine ∧ Q (.int z.length) H) (tCons (tVar 2) tNil)) tNil)))) [4])
theorem joinL_nil : ∀ l : List (List Nat), TL.joinL [] l = l.flatten
  | [] => rfl
  | [p] => by simp [TL.joinL]
  | p :: q :: r => by
    have := joinL_nil (q :: r)
    show p ++ ([] ++ TL.joinL [] (q :: r)) = _
    rw [this]
    simp
def one (c : Nat) : Str := ⟨#[c]⟩
theorem join_ones (cs : List Nat) : (Txt.join (Str.ofString "") (cs.map one)).cps.toList = cs := by
  have h := TL.tl_join (Str.ofString "") (cs.map one)
  rw [← TL.join_eq] at h
  have e : TL.tl (Str.ofString "") = [] := by decide +kernel
  rw [e, joinL_nil] at h
  refine h.trans ?_
  clear h
  induction cs with
  | nil => rfl
  | cons c cs ih =>
    show [c] ++ _ = c :: cs
    rw [ih]
    rfl
theorem sum_ones (cs : List Nat) : ((cs.map one).map (·.length)).sum = cs.length := by
  induction cs with
  | nil => rfl
  | cons c cs ih =>
    rw [List.map_cons, List.map_cons, List.sum_cons, ih, List.length_cons]
    show 1 + _ = _
    omega
theorem chars_ok : ∀ (i c : Nat), lawChars.cps.toList[i]? = some c → isChar c = true := fun i c h => by
  have e : lawChars.cps.toList.all isChar = true := by decide +kernel
  exact List.all_eq_true.mp e c (List.mem_of_getElem? h)
theorem chars_len : lawChars.length = 38 := by decide +kernel
theorem str_end {K : PySem.W.Frag} {bx d : Addr} {H : Hp} {Q : VK} {sz : Int} (hb : Box bx d H) (h0 : 0 ≤ sz) (h1 : sz ≤ 40) (q : ∀ H' x, Aft bx d H H' → x.length ≤ 40 → x.cps.toList.all isChar = true → Q (.str x) H') :
    tStr K [some (.ref bx), some (.int 40), some (.str lawChars), some (.int sz), none] H Q := by
  refine ⟨⟨_, rfl⟩, .int sz, rfl, sz, rfl, by omega, by omega, fun D hD => ?_⟩
  refine ⟨fun i m H' => ∃ cs : List Nat, cs.length = i ∧ m = sz.toNat - i ∧ i ≤ sz.toNat ∧ cs.all isChar = true ∧ Aft bx d H H' ∧ H' D = some (.lst ((cs.map one).map V.str)), ⟨_, [], rfl, rfl, Nat.zero_le _, rfl, .new hb hD, upd_same⟩, ?_⟩
  rintro i m H' ⟨cs, rfl, rfl, hi, hc, a, e⟩
  by_cases hl : cs.length < sz.toNat
  · refine .inr ⟨hl, fun H'' => ∃ cs' : List Nat, cs'.length = cs.length + 1 ∧ cs'.all isChar = true ∧ Aft bx d H H'' ∧ H'' D = some (.lst ((cs'.map one).map V.str)), fun H'' ⟨cs', e1, e2, e3, e4⟩ => ⟨_, by omega, cs', e1, rfl, hl, e2, e3, e4⟩, ?_⟩
    rintro x Hy ⟨rfl, rfl⟩
    refine ⟨rfl, ?_⟩
    refine iteT (B := ∃ cs' : List Nat, cs'.length = cs.length + 1 ∧ cs'.all isChar = true ∧ Aft bx d H Hy ∧ Hy D = some (.lst ((cs'.map one).map V.str))) ⟨.str lawChars, rfl, .ref bx, rfl, .str lawChars, rfl, lawChars, rfl, by rw [chars_len]; decide, bx, d, _, rfl, by rw [chars_len]; decide, a.2, fun H4 r a4 g l => ?_⟩
    obtain ⟨j, rfl⟩ : ∃ j : Nat, r = j := ⟨r.toNat, by omega⟩
    have hj : j < lawChars.cps.toList.length := by
      have : lawChars.cps.toList.length = lawChars.length := by simp [Str.length]
      omega
    have ec : lawChars.cps.toList[j]? = some (lawChars.cps.toList[j]) := List.getElem?_eq_getElem hj
    have e4 := a4.lst e (hb.new hD).1
    have hc' := chars_ok _ _ ec
    refine ⟨lawChars, j, _, rfl, rfl, by rw [chars_len]; decide, atI_nat ec, _, e4, ?_, cs ++ [lawChars.cps.toList[j]], by simp, by rw [List.all_append, hc, Bool.true_and]; show (_ && _) = true; rw [hc']; rfl, (a.trans a4).mut hD hb e4 nt_lst, ?_⟩
    · rw [List.length_map, List.length_map]
      have : sizeLine = 16777216 := rfl
      omega
    · rw [upd_same, List.map_append, List.map_append]
      rfl
  · refine .inl ⟨by show sz.toNat ≤ _; omega, Str.ofString "", D, cs.map one, rfl, rfl, .inl (.inl (.inl e)), ?_, ?_⟩
    · rw [sum_ones]
      show cs.length + _ * 0 ≤ _
      omega
    · refine q H' _ a ?_ ?_
      · have := congrArg List.length (join_ones cs)
        show (Txt.join _ _).cps.size ≤ 40
        rw [← Array.length_toList, this]
        omega
      · rw [join_ones]
        exact hc
section
variable {P : Program} {w : World} {K : PySem.W.Frag} {mg : Str → Option Value} {base : Heap}
end
end Rv

namespace Rv
open PySem PySem.Spec PyProof.Rows L2 GxR Gx Gd
abbrev s_law_digits : Stmt := topS 95
theorem sc_law_digits : FnScope ["script", "first", "last", "digits", "k", "cell", "place", "seed"] ["script", "first", "last"] (defScope s_law_digits) := ⟨rfl, rfl, rfl, by decide +kernel, rfl, by decide +kernel, by decide +kernel⟩
def spDigits (K : PySem.W.Frag) : Sp := fun vs H Q _ => ∃ (a : Addr) (ns : List Int), vs = [.ref a, .int 0, .int 30] ∧ SqL K H a (ns.map V.int) ∧ ∀ (d : Addr) (H' : Hp) (xs : List V), H d = none → Kp H H' → H' d = some (.lst xs) → (∀ v ∈ xs, ∃ i, v = .int i) → Q (.ref d) H'
/-- the list at D holds at most n ints, all else stands -/
def Dg (H0 : Hp) (D : Addr) (n : Nat) (H : Hp) : Prop := ∃ xs : List V, xs.length ≤ n ∧ (∀ v ∈ xs, ∃ i, v = .int i) ∧ Kp H0 H ∧ H D = some (.lst xs)
theorem Dg.push {H0 H : Hp} {D : Addr} {n : Nat} {xs : List V} {i : Int} (h0 : H0 D = none) (hl : xs.length ≤ n) (hi : ∀ v ∈ xs, ∃ i, v = .int i) (k : Kp H0 H) (e : H D = some (.lst xs)) : Dg H0 D (n + 1) (upd H D (.lst (xs ++ [.int i]))) :=
  ⟨xs ++ [.int i], by simp; exact hl, fun v hv => by
    rcases List.mem_append.mp hv with h | h
    · exact hi v h
    · exact ⟨i, by simpa using h⟩, k.mut h0 (no_tab e nt_lst), upd_same⟩
theorem Dg.mono {H0 H : Hp} {D : Addr} {n m : Nat} (h : Dg H0 D n H) (l : n ≤ m) : Dg H0 D m H := let ⟨xs, a, r⟩ := h; ⟨xs, Nat.le_trans a l, r⟩
theorem iteC {b : Bool} {A B : Prop} (h1 : A) (h2 : B) : if b = true then A else B := by
  cases b with
  | true => exact iteT h1
  | false => exact iteF h2
theorem cell_pos {R r k l} {b : Bool} {σ : L2.St} {H : Hp} {c : Int} (hs : σ[5]? = some (some (.int c))) (hσ : σ.set 5 (some (.int c)) = σ) (h : ∀ c', R (σ.set 5 (some (.int c'))) H) :
    if b = true then tAsg (tOp (rI0 fun i j => V.int (i - j)) (tC (V.int 1)) (tOp (rI CMul fun i j => V.int (i * j)) (tC (V.int 2)) (tVar 5))) (gName 5) ⟨R, r, k, l⟩ σ H else tNext ⟨R, r, k, l⟩ σ H := by
  cases b with
  | true => exact iteT ⟨_, hs, 2, c, rfl, rfl, .inl (by decide), 1, _, rfl, rfl, h _⟩
  | false =>
    refine iteF ?_
    have z := h c
    rw [hσ] at z
    exact z
section
variable {P : Program} {w : World} {K : PySem.W.Frag} {mg : Str → Option Value} {base : Heap}
theorem c_law_digits (D : DefAt K mg "_law_digits" s_law_digits ["script", "first", "last"]) (m_range : mg "range" = none) (m_int : mg "int" = none)
    (c__law_cell : Cal P w K mg base CX0 1 "_law_cell" ["script", "k"] (spCell K)) : Cal P w K mg base CX0 2 "_law_digits" ["script", "first", "last"] (spDigits K) := by
  refine D.cal (k := 1) sc_law_digits (fun vs H Q E h => ?_) fun f cdv A outer s H vs Q E hr h => ?_
  · obtain ⟨bx, d, rfl, _⟩ := h
    rfl
  · obtain ⟨a, ns, rfl, ha, q⟩ := h
    refine ⟨_, (pss_cons (ps_set (i := 3) sc_law_digits.nd rfl (Or.inl rfl) (pe_lst pa_nil))
  (pss_cons (ps_for PassesOwn.never rfl (pi_range2 (by rfl) m_range (pa_cons (pv 1) (pa_cons (pv 2) pa_nil))) (pg_name (i := 4) sc_law_digits.nd rfl (Or.inl rfl)) (pss_cons (ps_set (i := 5) sc_law_digits.nd rfl (Or.inl rfl) (pe_cal (c__law_cell.mono (by omega)) hr (by rfl) (pa_cons (pv 0) (pa_cons (pv 4) pa_nil))))
  (pss_cons (ps_if (pt_cmpR op_lt (pv 5) pe_int (nomark _)) (pss_one (ps_set (i := 5) sc_law_digits.nd rfl (Or.inl rfl) (pe_op op_sub pe_int (pe_op op_mul pe_int (pv 5))))) pss_nil)
  (pss_one (ps_if (pt_cmpR op_ge (pv 5) (pe_op op_pow pe_int pe_int) (nomark _)) (pss_one (ps_for PassesOwn.never rfl (pi_range1 (by rfl) m_range (pa_cons pe_int pa_nil)) (pg_name (i := 6) sc_law_digits.nd rfl (Or.inl rfl)) (pss_one (ps_if (pt_cmpR op_gt (pv 5) pe_int (nomark _)) (pss_cons (ps_expr (pe_bm PySem.F.plainAttrs_list PySem.F.slot_list_append PySem.F.type_list_append mt_append (pv 3) (pa_cons (pe_op op_mod (pe_callTy call_int1 (by rfl) m_int (by decide +kernel) (pa_cons (pv 5) pa_nil)) pe_int) pa_nil)))
  (pss_one (ps_set (i := 5) sc_law_digits.nd rfl (Or.inl rfl) (pe_op op_fdiv (pv 5) pe_int)))) pss_nil)))) (pss_cons (ps_set (i := 7) sc_law_digits.nd rfl (Or.inl rfl) (pe_op op_mod (pe_callTy call_int1 (by rfl) m_int (by decide +kernel) (pa_cons (pe_op op_add (pe_op op_add (pe_op op_mul (pv 5) pe_int) (pe_op op_mul (pv 4) pe_int)) pe_int) pa_nil)) pe_int))
  (pss_one (ps_for PassesOwn.never rfl (pi_range1 (by rfl) m_range (pa_cons pe_int pa_nil)) (pg_name (i := 6) sc_law_digits.nd rfl (Or.inl rfl)) (pss_cons (ps_set (i := 7) sc_law_digits.nd rfl (Or.inl rfl) (pe_op op_mod (pe_callTy call_int1 (by rfl) m_int (by decide +kernel) (pa_cons (pe_op op_add (pe_op op_add (pe_op op_mul (pv 7) pe_int) (pe_op op_mul pe_int (pv 6))) pe_int) pa_nil)) pe_int))
  (pss_one (ps_expr (pe_bm PySem.F.plainAttrs_list PySem.F.slot_list_append PySem.F.type_list_append mt_append (pv 3) (pa_cons (pe_op op_mod (pe_callTy call_int1 (by rfl) m_int (by decide +kernel) (pa_cons (pe_op op_fdiv (pv 7) pe_int) pa_nil)) pe_int) pa_nil)))))))))))))
  (pss_one (ps_ret (pv 3))))), ?_⟩
    refine ⟨Nat.zero_le _, fun D hD => ⟨.int 0, rfl, .int 30, rfl, 0, 30, rfl, by decide, ?_⟩⟩
    refine ⟨fun i m σ H' => m = 30 - i ∧ i ≤ 30 ∧ (∃ o1 o2 o3 o4, σ = [some (.ref a), some (.int 0), some (.int 30), some (.ref D), o1, o2, o3, o4]) ∧ Dg H D (60 * i) H', ⟨_, rfl, Nat.zero_le _, ⟨none, none, none, none, rfl⟩, [], Nat.le_refl _, (fun _ h => by cases h), Kb.new hD, upd_same⟩, ?_⟩
    rintro i m σ H1 ⟨rfl, hi, ⟨o1, o2, o3, o4, rfl⟩, g⟩
    by_cases hl : i < 30
    · refine .inr ⟨hl, fun σ' H' => (∃ o1 o2 o3 o4, σ' = [some (.ref a), some (.int 0), some (.int 30), some (.ref D), o1, o2, o3, o4]) ∧ Dg H D (60 * (i + 1)) H', fun σ' H' ⟨e1, e2⟩ => ⟨_, by omega, rfl, hl, e1, e2⟩, ?_⟩
      rintro x H2 ⟨rfl, rfl⟩
      have hsq : SqL K H2 a (ns.map V.int) := by
        obtain ⟨xs, _, _, k, e⟩ := g
        rcases ha with (ha | ⟨o, ha⟩) | ha
        · exact .inl (.inl (k.keep a _ ha (by simp) nt_lst))
        · exact .inl (.inr ⟨o, k.keep a _ ha (by simp) nt_frz⟩)
        · exact .inr ha
      refine ⟨.ref a, rfl, .int (0 + i), rfl, a, ns, _, rfl, by omega, hsq, fun c => ?_⟩
      refine ⟨_, rfl, c, 0, rfl, rfl, ?_⟩
      refine ⟨_, rfl, cell_pos rfl rfl fun c => ?_⟩
      refine ⟨_, rfl, 10, 18, rfl, rfl, ⟨by decide, by decide, by decide⟩, c, 10 ^ 18, rfl, rfl, ?_⟩
      refine ⟨_, rfl, ?_⟩
      refine iteC ?_ ?_
      · refine ⟨60, rfl, by decide, by decide, ?_⟩
        refine ⟨fun j m σ H' => m = 60 - j ∧ j ≤ 60 ∧ (∃ o1 c o3 o4, σ = [some (.ref a), some (.int 0), some (.int 30), some (.ref D), o1, some (.int c), o3, o4]) ∧ Dg H D (60 * i + j) H', ⟨_, rfl, Nat.zero_le _, ⟨_, _, _, _, rfl⟩, g⟩, ?_⟩
        rintro j m σ H3 ⟨rfl, hj, ⟨o1, c, o3, o4, rfl⟩, g⟩
        by_cases hl : j < 60
        · refine .inr ⟨hl, fun σ' H' => (∃ o1 c o3 o4, σ' = [some (.ref a), some (.int 0), some (.int 30), some (.ref D), o1, some (.int c), o3, o4]) ∧ Dg H D (60 * i + (j + 1)) H', fun σ' H' ⟨e1, e2⟩ => ⟨_, by omega, rfl, hl, e1, e2⟩, ?_⟩
          rintro x H4 ⟨rfl, rfl⟩
          refine ⟨_, rfl, c, 0, rfl, rfl, _, rfl, ?_⟩
          refine iteC ?_ ?_
          · obtain ⟨xs, h1, h2, h3, h4⟩ := g
            refine ⟨.ref D, rfl, .inl ⟨rfl, _, .inl (.inl h4)⟩, _, rfl, .inl ⟨c, rfl, c, 1000, rfl, rfl, by show (0 : Int) < 1000; decide, D, xs, _, rfl, rfl, h4, ?_, ?_⟩⟩
            · have : sizeLine = 16777216 := rfl
              omega
            · exact ⟨_, rfl, c, 1000, rfl, rfl, ⟨by decide, by decide⟩, ⟨_, _, _, _, rfl⟩, Dg.push hD h1 h2 h3 h4⟩
          · exact ⟨⟨_, _, _, _, rfl⟩, g.mono (by omega)⟩
        · exact .inl ⟨by show 60 ≤ j; omega, ⟨_, _, _, _, rfl⟩, g.mono (by omega)⟩
      · refine ⟨_, rfl, c, 48271, rfl, rfl, .inr (by decide), _, rfl, _, 69621, rfl, rfl, .inr (by decide), _, _, rfl, rfl, _, _, rfl, rfl, .inl ⟨_, rfl, _, 2147483647, rfl, rfl, by show (0 : Int) < 2147483647; decide, ?_⟩⟩
        refine ⟨12, rfl, by decide, by decide, ?_⟩
        refine ⟨fun j m σ H' => m = 12 - j ∧ j ≤ 12 ∧ (∃ o1 o2 o3 c, σ = [some (.ref a), some (.int 0), some (.int 30), some (.ref D), o1, o2, o3, some (.int c)]) ∧ Dg H D (60 * i + j) H', ⟨_, rfl, Nat.zero_le _, ⟨_, _, _, _, rfl⟩, g⟩, ?_⟩
        rintro j m σ H3 ⟨rfl, hj, ⟨o1, o2, o3, c, rfl⟩, g⟩
        by_cases hl : j < 12
        · refine .inr ⟨hl, fun σ' H' => (∃ o1 o2 o3 c, σ' = [some (.ref a), some (.int 0), some (.int 30), some (.ref D), o1, o2, o3, some (.int c)]) ∧ Dg H D (60 * i + (j + 1)) H', fun σ' H' ⟨e1, e2⟩ => ⟨_, by omega, rfl, hl, e1, e2⟩, ?_⟩
          rintro x H4 ⟨rfl, rfl⟩
          refine ⟨_, rfl, c, 16807, rfl, rfl, .inr (by decide), _, rfl, 7, _, rfl, rfl, .inl (by decide), _, _, rfl, rfl, _, _, rfl, rfl, .inl ⟨_, rfl, _, 2147483647, rfl, rfl, by show (0 : Int) < 2147483647; decide, ?_⟩⟩
          obtain ⟨xs, h1, h2, h3, h4⟩ := g
          refine ⟨.ref D, rfl, .inl ⟨rfl, _, .inl (.inl h4)⟩, _, rfl, _, 997, rfl, rfl, ⟨by decide, by decide⟩, .inl ⟨_, rfl, _, 1000, rfl, rfl, by show (0 : Int) < 1000; decide, D, xs, _, rfl, rfl, h4, ?_, ?_⟩⟩
          · have : sizeLine = 16777216 := rfl
            omega
          · exact ⟨⟨_, _, _, _, rfl⟩, Dg.push hD h1 h2 h3 h4⟩
        · exact .inl ⟨by show 12 ≤ j; omega, ⟨_, _, _, _, rfl⟩, g.mono (by omega)⟩
    · obtain ⟨xs, h1, h2, h3, h4⟩ := g
      refine .inl ⟨by show 30 - 0 ≤ _; omega, ?_⟩
      exact ⟨_, rfl, q D H1 xs hD h3 h4 h2⟩
end
end Rv

namespace Rv
open PySem PySem.Spec PyProof.Rows L2 GxR Gx Gd
/-! ### right values -/
def textOk (x : Str) : Prop := x.length ≤ 40 ∧ x.cps.toList.all isChar = true
def Sc.good : Sc → Prop
  | .int i => 0 ≤ i ∧ i ≤ 999999
  | .text x => textOk x
  | _ => True
theorem Sc.good.ok : ∀ {s : Sc}, s.good → s.ok
  | .none, _ => trivial
  | .bool _, _ => trivial
  | .int _, h => h
  | .text _, _ => trivial
theorem str_ok {x : Str} (h : x.cps.toList.all isChar = true) : PyData.strOk x = true := by
  show x.cps.all _ = true
  rw [← Array.all_toList, List.all_eq_true]
  intro c hc
  have h1 := List.all_eq_true.mp h c hc
  unfold isChar inRg at h1
  rw [Bool.and_eq_true, Bool.and_eq_true, decide_eq_true_eq, decide_eq_true_eq] at h1
  rw [decide_eq_true_eq]
  omega
theorem okN_str' {n : Nat} {x : Str} (h1 : x.length ≤ 1000) (h2 : PyData.strOk x = true) : okN n (.str x) = true := by
  have e : (decide (x.length ≤ 1000) && PyData.strOk x) = true := by rw [decide_eq_true h1, h2]; rfl
  cases n <;> exact e
theorem okN_tup' {n : Nat} {ds : List PyData} (h1 : ds.length ≤ 1000) (h2 : ∀ d ∈ ds, okN n d = true) : okN (n + 1) (.tuple ds) = true := by
  show (decide _ && _) = true
  rw [decide_eq_true h1, List.all_eq_true.mpr h2]
  rfl
theorem good_okN : ∀ {s : Sc}, s.good → okN 1 s.d = true
  | .none, _ => by decide +kernel
  | .bool b, _ => by cases b <;> decide +kernel
  | .int i, h => okN_tup' (by simp) fun d hd => by
    rcases List.mem_cons.mp hd with rfl | hd
    · decide +kernel
    · rw [List.mem_singleton.mp hd]
      exact decide_eq_true (log_of h)
  | .text x, h => okN_tup' (by simp) fun d hd => by
    rcases List.mem_cons.mp hd with rfl | hd
    · decide +kernel
    · rw [List.mem_singleton.mp hd]
      have := h.1
      exact okN_str' (by omega) (str_ok h.2)
theorem text_is {x : Str} {a b : Int} (h1 : a ≤ (x.length : Int)) (h2 : (x.length : Int) ≤ b) (h : x.cps.toList.all isChar = true) : isTextD a b (.str x) = true := by
  show (decide _ && decide _ && _) = true
  rw [decide_eq_true h1, decide_eq_true h2, h]
  rfl
theorem scal_bool (c : PyData) : scalOf (.str "bool") c = isBoolD c := by
  unfold scalOf
  rw [if_pos (by decide +kernel)]
theorem scal_int (c : PyData) : scalOf (.str "int") c = isIntegerD c := by
  unfold scalOf
  rw [if_neg (by decide +kernel), if_pos (by decide +kernel)]
theorem scal_text (c : PyData) : scalOf (.str "text") c = isTextD 0 40 c := by
  unfold scalOf
  rw [if_neg (by decide +kernel), if_neg (by decide +kernel), show PyData.eqv (.str "text") (.str "text") = true by decide +kernel, Bool.true_and]
theorem scal_pair {k c : PyData} (h : scalOf k c = true) : isScalarD (.tuple [k, c]) = true := by
  show (_ || scalOf k c) = true
  rw [h, Bool.or_true]
theorem good_scalar : ∀ {s : Sc}, s.good → isScalarD s.d = true
  | .none, _ => by decide +kernel
  | .bool b, _ => scal_pair ((scal_bool _).trans rfl)
  | .int i, h => scal_pair ((scal_int _).trans (by show (decide _ && decide _) = true; rw [decide_eq_true h.1, decide_eq_true h.2]; rfl))
  | .text x, h => scal_pair ((scal_text _).trans (text_is (by omega) (by have := h.1; omega) h.2))
def spScalar (K : PySem.W.Frag) : Sp := fun vs H Q _ => ∃ bx d, vs = [.ref bx] ∧ Box bx d H ∧ ∀ H' v (s : Sc), Aft bx d H H' → Dt K H' v s.d → s.good → Q v H'
theorem mul_small {a b : Int} (h1 : 0 ≤ a) (h2 : a < 1000) (h3 : 0 ≤ b) (h4 : b < 1000) : 0 ≤ a * b ∧ a * b ≤ 999999 := by
  constructor
  · exact Int.mul_nonneg h1 h3
  · have := Int.mul_le_mul (show a ≤ 999 by omega) (show b ≤ 999 by omega) h3 (by omega)
    omega
section
variable {P : Program} {w : World} {K : PySem.W.Frag} {mg : Str → Option Value} {base : Heap}
theorem eqStr {x y : Str} : eqV (.str x) (.str y) = true → x = y := fun h => eq_of_beq h
end
/-! ### maps -/
def ent (p : Str × Sc) : PyData := .tuple [.str p.1, p.2.d]
def keyOk (x : Str) : Prop := isKeyD (.str x) = true ∧ okN 1 (.str x) = true
structure Ents (ps : List (Str × Sc)) : Prop where
  len : ps.length ≤ 8
  nd : (ps.map (·.1)).Nodup
  ok : ∀ p ∈ ps, keyOk p.1 ∧ p.2.good
def mapD (ps : List (Str × Sc)) : PyData := .tuple [.str "map", .tuple (ps.map ent)]
theorem Ents.entries {ps : List (Str × Sc)} (h : Ents ps) : areEntriesD (.tuple (ps.map ent)) = true := by
  have e1 : (ps.map ent).length ≤ 8 := by rw [List.length_map]; exact h.len
  have e2 : (ps.map ent).all isEntryD = true := by
    rw [List.all_eq_true]
    intro d hd
    obtain ⟨p, hp, rfl⟩ := List.mem_map.mp hd
    obtain ⟨h1, h2⟩ := h.ok p hp
    show (isKeyD _ && isScalarD _) = true
    rw [h1.1, good_scalar h2]
    rfl
  have e3 : ((ps.map ent).map keyOfD).Nodup := by
    have e : (ps.map ent).map keyOfD = (ps.map (·.1)).map Sum.inr := by
      rw [List.map_map, List.map_map]
      rfl
    rw [e]
    exact List.Pairwise.map _ (fun a b n z => n (Sum.inr.inj z)) h.nd
  show (decide _ && (_ && decide _)) = true
  rw [decide_eq_true e1, e2, decide_eq_true e3]
  rfl
theorem Ents.okN {ps : List (Str × Sc)} (h : Ents ps) : okN 4 (mapD ps) = true := by
  refine okN_tup' (by simp) fun d hd => ?_
  rcases List.mem_cons.mp hd with rfl | hd
  · decide +kernel
  · rw [List.mem_singleton.mp hd]
    refine okN_tup' (by rw [List.length_map]; have := h.len; omega) fun d hd => ?_
    obtain ⟨p, hp, rfl⟩ := List.mem_map.mp hd
    obtain ⟨h1, h2⟩ := h.ok p hp
    refine okN_tup' (by simp) fun d hd => ?_
    rcases List.mem_cons.mp hd with rfl | hd
    · exact h1.2
    · rw [List.mem_singleton.mp hd]
      exact good_okN h2
def spMap (K : PySem.W.Frag) : Sp := fun vs H Q _ => ∃ bx d, vs = [.ref bx] ∧ Box bx d H ∧ ∀ H' v ps, Aft bx d H H' → Dt K H' v (mapD ps) → Ents ps → Q v H'
theorem keyK : ∀ k : Nat, k < 8 → keyOk ((Str.ofString "k") ++ (Str.ofString (toString (0 + (k : Int))))) ∧ (Str.ofString "k").length + (Str.ofString (toString (0 + (k : Int)))).length ≤ sizeLine
  | 0, _ => ⟨⟨by decide +kernel, by decide +kernel⟩, by decide +kernel⟩
  | 1, _ => ⟨⟨by decide +kernel, by decide +kernel⟩, by decide +kernel⟩
  | 2, _ => ⟨⟨by decide +kernel, by decide +kernel⟩, by decide +kernel⟩
  | 3, _ => ⟨⟨by decide +kernel, by decide +kernel⟩, by decide +kernel⟩
  | 4, _ => ⟨⟨by decide +kernel, by decide +kernel⟩, by decide +kernel⟩
  | 5, _ => ⟨⟨by decide +kernel, by decide +kernel⟩, by decide +kernel⟩
  | 6, _ => ⟨⟨by decide +kernel, by decide +kernel⟩, by decide +kernel⟩
  | 7, _ => ⟨⟨by decide +kernel, by decide +kernel⟩, by decide +kernel⟩
  | n + 8, h => by omega
theorem eight {x : Str} (hx : keyOk x) {r : Int} (h0 : 0 ≤ r) (h8 : r < 8) : ∃ y, keyOk y ∧ atI [V.str (Str.ofString "a"), .str (Str.ofString "b"), .str (Str.ofString "c"), .str (Str.ofString "tea"), .str (Str.ofString "x y"), .str x, .str (Str.ofString "\"q\\"), .str (Str.ofString "abcdefghijkl")] r = some (.str y) := by
  obtain h | h | h | h | h | h | h | h : r = 0 ∨ r = 1 ∨ r = 2 ∨ r = 3 ∨ r = 4 ∨ r = 5 ∨ r = 6 ∨ r = 7 := by omega
  · subst h
    exact ⟨_, ⟨by decide +kernel, by decide +kernel⟩, atI_nat (j := 0) rfl⟩
  · subst h
    exact ⟨_, ⟨by decide +kernel, by decide +kernel⟩, atI_nat (j := 1) rfl⟩
  · subst h
    exact ⟨_, ⟨by decide +kernel, by decide +kernel⟩, atI_nat (j := 2) rfl⟩
  · subst h
    exact ⟨_, ⟨by decide +kernel, by decide +kernel⟩, atI_nat (j := 3) rfl⟩
  · subst h
    exact ⟨_, ⟨by decide +kernel, by decide +kernel⟩, atI_nat (j := 4) rfl⟩
  · subst h
    exact ⟨_, hx, atI_nat (j := 5) rfl⟩
  · subst h
    exact ⟨_, ⟨by decide +kernel, by decide +kernel⟩, atI_nat (j := 6) rfl⟩
  · subst h
    exact ⟨_, ⟨by decide +kernel, by decide +kernel⟩, atI_nat (j := 7) rfl⟩
/-- the entries so far -/
def Mp (K : PySem.W.Frag) (bx d D : Addr) (H0 : Hp) (n : Nat) (H : Hp) : Prop := ∃ (ps : List (Str × Sc)) (evs : List V), ps.length ≤ n ∧ (ps.map (·.1)).Nodup ∧ (∀ p ∈ ps, keyOk p.1 ∧ p.2.good) ∧ DtAll K H evs (ps.map ent) ∧ H D = some (.lst evs) ∧ Aft bx d H0 H
theorem Mp.mono {K : PySem.W.Frag} {bx d D : Addr} {H0 H : Hp} {n m : Nat} (h : Mp K bx d D H0 n H) (l : n ≤ m) : Mp K bx d D H0 m H := let ⟨ps, evs, a, r⟩ := h; ⟨ps, evs, Nat.le_trans a l, r⟩
theorem DtAll.snoc {K : PySem.W.Frag} {H : Hp} {v : V} {d : PyData} : ∀ {vs : List V} {ds : List PyData}, DtAll K H vs ds → Dt K H v d → DtAll K H (vs ++ [v]) (ds ++ [d])
  | _, _, .nil, h => .cons h .nil
  | _, _, .cons h hs, h2 => .cons h (DtAll.snoc hs h2)
theorem all_flat (l : List Str) : (l.map V.str).all flatV = true := by
  rw [List.all_eq_true]
  intro v hv
  obtain ⟨x, _, rfl⟩ := List.mem_map.mp hv
  rfl
theorem not_inV {x : Str} {l : List Str} (h : inV (.str x) (l.map V.str) = false) : x ∉ l := fun hm => by
  unfold inV at h
  rw [List.any_eq_false] at h
  exact h _ (List.mem_map_of_mem (f := V.str) hm) (beq_self_eq_true x)
section
variable {P : Program} {w : World} {K : PySem.W.Frag} {mg : Str → Option Value} {base : Heap}
end
end Rv

namespace Gd
open PySem PySem.Spec PyProof.Rows L2 GxR Gx
def rMulS : R2 := fun x y H Q => ∃ a n, x = .str a ∧ y = .int n ∧ MulOk a n ∧ Q (.str (Txt.mul a n)) H
theorem op_mul_str {X : Cx} : OpR X (binaryOp .Mult) rMulS := by
  intro pins s σ H x y v u Q I rx ry h
  obtain ⟨a, n, rfl, rfl, hok, q⟩ := h
  obtain ⟨t, rfl⟩ := rx
  obtain ⟨t', rfl⟩ := ry
  exact SB.mul hok fun t2 k => ⟨.str _, H, I.tok _, ⟨_, rfl⟩, q⟩
/-! ### displays of data -/
theorem o_asg {te : TE} {i : Nat} {u : TS} {D : Ends} {σ : L2.St} {H : Hp} (h : te σ H fun x H1 => u D (σ.set i (some x)) H1) : tSeq (tAsg te (gName i)) u D σ H := h
def MkD (K : PySem.W.Frag) (te : TE) (σ : L2.St) (d : PyData) : Prop := ∀ (H : Hp) (Q : VK), (∀ v H', Kp H H' → Dt K H' v d → Q v H') → te σ H Q
def MkDs (K : PySem.W.Frag) (ta : TA) (σ : L2.St) (ds : List PyData) : Prop := ∀ (H : Hp) (Q : List V → Hp → Prop), (∀ vs H', Kp H H' → DtAll K H' vs ds → Q vs H') → ta σ H Q
section
variable {K : PySem.W.Frag} {σ : L2.St} {te : TE} {ta : TA} {d : PyData} {ds : List PyData}
theorem mk_non : MkD K (tC .non) σ .none := fun H Q q => q _ H (Kb.refl H) .non
theorem mk_str {x : Str} : MkD K (tC (.str x)) σ (.str x) := fun H Q q => q _ H (Kb.refl H) (.str x)
theorem mk_int {i : Int} : MkD K (tC (.int i)) σ (.int i) := fun H Q q => q _ H (Kb.refl H) (.int i)
theorem mk_bl {b : Bool} : MkD K (tC (.bl b)) σ (.bool b) := fun H Q q => q _ H (Kb.refl H) (.bl b)
theorem mk_neg {i : Int} : MkD K (tUn (rU fun i => .int (-i)) (tC (.int i))) σ (.int (-i)) := fun H Q q => ⟨i, rfl, q _ H (Kb.refl H) (.int (-i))⟩
theorem mk_mul {x : Str} {n : Int} (h : MulOk x n) : MkD K (tOp rMulS (tC (.str x)) (tC (.int n))) σ (.str (Txt.mul x n)) := fun H Q q => ⟨x, n, rfl, rfl, h, q _ H (Kb.refl H) (.str _)⟩
theorem mk_nil : MkDs K tNil σ [] := fun H Q q => q _ H (Kb.refl H) .nil
theorem mk_cons (h : MkD K te σ d) (hs : MkDs K ta σ ds) : MkDs K (tCons te ta) σ (d :: ds) := fun H Q q => h H _ fun v H1 k1 hd => hs H1 _ fun vs H2 k2 hds => q _ H2 (k1.trans k2) (.cons (hd.kb k2 Lsts.nil) hds)
theorem mk_tup (hs : MkDs K ta σ ds) (hl : ds.length ≤ 64) : MkD K (tTup ta) σ (.tuple ds) := fun H Q q => hs H _ fun vs H1 k1 hds => ⟨by rw [hds.length]; exact Nat.le_trans hl (by decide), fun p hp => by
  have k2 : Kp H1 (upd H1 p (.tup vs)) := Kb.new hp
  exact q _ _ (k1.trans k2) (.tup (SqT.of upd_same) (DtAll.kb k2 Lsts.nil hds))⟩
theorem mk_lst {H : Hp} {Q : VK} (hs : MkDs K ta σ ds) (hl : ds.length ≤ 64) (q : ∀ vs p H', Kp H H' → H p = none → H' p = some (.lst vs) → DtAll K H' vs ds → Q (.ref p) H') : tLst ta σ H Q := hs H _ fun vs H1 k1 hds => ⟨by rw [hds.length]; exact Nat.le_trans hl (by decide), fun p hp => by
  have k2 : Kp H1 (upd H1 p (.lst vs)) := Kb.new hp
  exact q _ _ _ (k1.trans k2) (k1.free p hp) upd_same (DtAll.kb k2 Lsts.nil hds)⟩
theorem DtAll.app {H : Hp} : ∀ {vs ws : List V} {ds es : List PyData}, DtAll K H vs ds → DtAll K H ws es → DtAll K H (vs ++ ws) (ds ++ es)
  | _, _, _, _, .nil, h => h
  | _, _, _, _, .cons h hs, h2 => .cons h (DtAll.app hs h2)
end
end Gd
namespace Rv
open PySem PySem.Spec PyProof.Rows L2 GxR Gx Gd
abbrev s_law_same : Stmt := topS 97
theorem sc_law_same : FnScope ["actual", "due"] ["actual", "due"] (defScope s_law_same) := ⟨rfl, rfl, rfl, by decide +kernel, rfl, by decide +kernel, by decide +kernel⟩
/-! ### wrong rows -/
def none1 : PyData := .tuple [.str "none"]
def map1 (es : List PyData) : PyData := .tuple [.str "map", .tuple es]
def nineD : List PyData := (List.range 9).map fun k : Nat => .tuple [.str (Str.ofString "k" ++ Str.ofString (toString (0 + (k : Int)))), none1]
def wrong1 : List PyData := [.tuple [.str "int", .int (-1)], .tuple [.str "int", .int 1000000], .tuple [.str "int", .bool true], .tuple [.str "bool", .int 1], .tuple [.str "text", .str (Txt.mul "a" 41)], .tuple [.str "text", .str "a\n"], .tuple [.str "text", .int 5], .tuple [.str "none", .int 0], .tuple [.str "nil"]]
def wrong2 : List PyData := [map1 [.tuple [.str "a", .tuple [.str "int", .int 1]], .tuple [.str "a", .tuple [.str "int", .int 2]]], map1 [.tuple [.str "", none1]], map1 [.tuple [.str "abcdefghijklm", none1]]]
def wrong3 : List PyData := [map1 nineD, map1 [.tuple [.str "a", map1 []]], map1 [.tuple [.str "a"]]]
def wrong4 : List PyData := [.tuple [.str "map", .tuple [.str "a", none1]], .tuple [], .tuple [.str "int"], .int 7, .str "text", .none, .tuple [.str "map"], .tuple [.str "text", .str "\t"]]
def wrongs : List PyData := ((wrong1 ++ wrong2) ++ wrong3) ++ wrong4
theorem wrongs_ok : wrongs.all (fun d => okN 8 d && (!isValueD d && !isScalarD d)) = true := by decide +kernel

/-- a value drawn -/
def GV (dt : PyData) : Prop := (∃ s : Sc, s.good ∧ dt = s.d) ∨ ∃ ps, Ents ps ∧ dt = mapD ps
theorem GV.okd {dt : PyData} (h : GV dt) : OkD dt := by
  rcases h with ⟨s, g, rfl⟩ | ⟨ps, g, rfl⟩
  · exact ⟨1, by decide, good_okN g⟩
  · exact ⟨4, by decide, g.okN⟩
theorem GV.value {dt : PyData} (h : GV dt) : isValueD dt = true := by
  rcases h with ⟨s, g, rfl⟩ | ⟨ps, g, rfl⟩
  · show (_ || _) = true
    rw [good_scalar g, Bool.true_or]
  · show (_ || (PyData.eqv (.str "map") (.str "map") && _)) = true
    rw [g.entries, show PyData.eqv (.str "map") (.str "map") = true by decide +kernel]
    simp
theorem map_noScalar {ps : List (Str × Sc)} : isScalarD (mapD ps) = false := by
  show (PyData.eqv (.tuple [.str "map", .tuple (ps.map ent)]) (.tuple [.str "none"]) || scalOf (.str "map") _) = false
  unfold scalOf
  rw [if_neg (by decide +kernel), if_neg (by decide +kernel)]
  simp only [PyData.eqv, PyData.eqvAll, Bool.and_false, Bool.false_or]
  rw [show ((Str.ofString "map") == (Str.ofString "text")) = false by decide +kernel, Bool.false_and]
def spValue (K : PySem.W.Frag) : Sp := fun vs H Q _ => ∃ bx d, vs = [.ref bx] ∧ Box bx d H ∧ ∀ H' v dt, Aft bx d H H' → Dt K H' v dt → GV dt → Q v H'
def spWrong (K : PySem.W.Frag) : Sp := fun vs H Q _ => ∃ bx d, vs = [.ref bx] ∧ Box bx d H ∧ ∀ H' v dt, Aft bx d H H' → Dt K H' v dt → OkD dt → isValueD dt = false → isScalarD dt = false → Q v H'
section
variable {P : Program} {w : World} {K : PySem.W.Frag} {mg : Str → Option Value} {base : Heap}
/-- the tuple of nine entries -/
theorem mk_nine {σ : L2.St} (hσ : 2 < σ.length) : MkD K (tCB (fun xs H Q => ∃ p ys, xs = [.ref p] ∧ ((SqL K H p ys ∧ ∀ l, H l = none → Q (.ref l) (upd H l (.tup ys))) ∨ (SqT K H p ys ∧ Q (.ref p) H)))
    (tCons (tLc (iRng1 (tCons (tC (.int 9)) tNil)) (gName 2) tYes (tTup (tCons (tOp (fun x y H Q => ∃ i j, x = .str i ∧ y = .str j ∧ i.length + j.length ≤ sizeLine ∧ Q (.str (i ++ j)) H) (tC (.str (Str.ofString "k")))
      (tCB (fun xs H Q => ∃ i, xs = [.int i] ∧ i.natAbs.log2 < 1920 ∧ Q (.str (Str.ofString (toString i))) H) (tCons (tVar 2) tNil))) (tCons (tTup (tCons (tC (.str (Str.ofString "none"))) tNil)) tNil))) [2]) tNil)) σ (.tuple nineD) := by
  intro H Q q
  refine ⟨9, rfl, by decide, by decide, fun D hD => ?_⟩
  refine ⟨fun i m H' => m = 9 - i ∧ i ≤ 9 ∧ Kp H H' ∧ ∃ vs, H' D = some (.lst vs) ∧ DtAll K H' vs (nineD.take i), ⟨_, rfl, Nat.zero_le _, Kb.new hD, [], upd_same, .nil⟩, ?_⟩
  rintro i m H1 ⟨rfl, hi, k, vs, e, hs⟩
  have hlen := hs.length
  have h9 : nineD.length = 9 := rfl
  by_cases hl : i < 9
  · refine .inr ⟨hl, fun H' => Kp H H' ∧ ∃ vs, H' D = some (.lst vs) ∧ DtAll K H' vs (nineD.take (i + 1)), fun H' ⟨z1, z2⟩ => ⟨_, by omega, rfl, hl, z1, z2⟩, ?_⟩
    rintro x H2 ⟨rfl, rfl⟩
    have hk : ∀ i : Nat, i < 9 → (Str.ofString "k").length + (Str.ofString (toString (0 + (i : Int)))).length ≤ sizeLine := by
      intro i h
      rcases Nat.lt_or_ge i 8 with h | h
      · exact (keyK i h).2
      · obtain rfl : i = 8 := by omega
        decide +kernel
    refine ⟨by show ((σ.set 2 none).set 2 (some _)).set 2 none = σ.set 2 none; rw [List.set_set, List.set_set], iteT (B := Kp H H2 ∧ ∃ vs, H2 D = some (.lst vs) ∧ DtAll K H2 vs (nineD.take (i + 1))) ?_⟩
    refine ⟨.int (0 + i), by show ((σ.set 2 none).set 2 (some _))[2]? = _; rw [List.set_set]; exact List.getElem?_set_self hσ, _, rfl, log_of ⟨by omega, by omega⟩, _, _, rfl, rfl, hk i hl, ?_⟩
    refine ⟨by show 1 ≤ sizeLine; decide, fun p hp => ⟨by show 2 ≤ sizeLine; decide, fun p2 hp2 => ?_⟩⟩
    have k1 : Kp H2 (upd H2 p (.tup [.str (Str.ofString "none")])) := Kb.new hp
    have d1 : Dt K (upd H2 p (.tup [.str (Str.ofString "none")])) (.ref p) none1 := .tup (SqT.of upd_same) (.cons (.str _) .nil)
    have e1 := k1.keep D _ e (by simp) nt_lst
    have hs1 := DtAll.kb k1 Lsts.nil hs
    generalize upd H2 p (.tup [.str (Str.ofString "none")]) = H3 at k1 d1 e1 hs1 hp2 ⊢
    have k2 : Kp H3 (upd H3 p2 (.tup [.str (Str.ofString "k" ++ Str.ofString (toString (0 + (i : Int)))), .ref p])) := Kb.new hp2
    have d2 : Dt K (upd H3 p2 (.tup [.str (Str.ofString "k" ++ Str.ofString (toString (0 + (i : Int)))), .ref p])) (.ref p2) (.tuple [.str (Str.ofString "k" ++ Str.ofString (toString (0 + (i : Int)))), none1]) := .tup (SqT.of upd_same) (.cons (.str _) (.cons (d1.kb k2 Lsts.nil) .nil))
    have e2 := k2.keep D _ e1 (by simp) nt_lst
    have hs2 := DtAll.kb k2 Lsts.nil hs1
    refine ⟨vs, e2, ?_, (((k.trans k1).trans k2).mut hD (no_tab e2 nt_lst)), _, upd_same, ?_⟩
    · rw [hlen, List.length_take]
      have : sizeLine = 16777216 := rfl
      omega
    · have e9 : nineD[i]? = some (.tuple [.str (Str.ofString "k" ++ Str.ofString (toString (0 + (i : Int)))), none1]) := by
        unfold nineD
        rw [List.getElem?_map, List.getElem?_range hl]
        rfl
      rw [List.take_add_one, e9]
      exact DtAll.kb (Kb.put (S := [D]) (by simp) e2 nt_lst) (fun b hb => by rw [List.mem_singleton.mp hb]; exact ⟨_, e2⟩) (DtAll.snoc hs2 d2)
  · obtain rfl : i = 9 := by omega
    refine .inl ⟨Nat.le_refl 9, ?_⟩
    refine ⟨D, vs, rfl, .inl ⟨.inl (.inl e), fun l hl => ?_⟩⟩
    have k1 : Kp H1 (upd H1 l (.tup vs)) := Kb.new hl
    exact q _ _ (k.trans k1) (.tup (SqT.of upd_same) (DtAll.kb k1 Lsts.nil hs))
end
end Rv

namespace HT
open PySem PySem.Spec PySem.Calls PyProof.Rows L2
section
variable {prog : Program} {w : World} {A : Around} {E : Value → Shared → Prop} {s : Shared}
theorem adjust_rev (n : Nat) : Builtin.Slice.sliceAdjust none none (-1) (n : Int) = ((n : Int) - 1, -1) := rfl
theorem places_rev (n : Nat) : Builtin.Slice.slicePlaces ((n : Int) - 1) (-1) (-1) = n := by
  unfold Builtin.Slice.slicePlaces
  have h1 : ¬ ((-1 : Int) > 0) := by omega
  simp only [h1, if_false]
  by_cases h : (n : Int) - 1 > -1
  · rw [if_pos h, show (- -1 : Int) = 1 by decide, Int.ediv_one]
    omega
  · rw [if_neg h]
    omega
theorem sliceApplied_rev {sl : Addr} {vs : Value} {n : Nat} {Q : Int × Int × Nat → Shared → Prop} (hs : s.heap.IsSliceOf sl .none .none vs) (ps : IsPart vs (some (-1)))
    (h : Q ((n : Int) - 1, -1, n) s) : wpAny (model prog w) A (Builtin.Slice.sliceApplied (.ref sl) (pure (n : Int))) Q E s := by
  obtain ⟨os, hos, hcs, hds⟩ := id hs
  unfold Builtin.Slice.sliceApplied Builtin.Slice.sliceFields
  refine wpAny_bind (wpAny_bind (wpAny_field hos hds (x := .none) rfl (wpAny_bind (wpAny_field hos hds (x := .none) rfl (wpAny_bind (wpAny_field hos hds (x := vs) rfl (wpAny_pure ?_)))))))
  refine wpAny_bind (slicePart_ ps ?_)
  show wpAny _ _ (if ((-1 : Int) == 0) = true then _ else _) _ _ s
  rw [if_neg (by decide)]
  refine wpAny_bind (slicePart_none (wpAny_bind (slicePart_none (wpAny_bind (wpAny_pure ?_)))))
  show wpAny _ _ (match Builtin.Slice.sliceAdjust none none (-1) (n : Int) with | (lo, hi) => pure (lo, (-1 : Int), Builtin.Slice.slicePlaces lo hi (-1))) _ _ s
  rw [adjust_rev n]
  show wpAny _ _ (pure ((n : Int) - 1, (-1 : Int), Builtin.Slice.slicePlaces ((n : Int) - 1) (-1) (-1))) _ _ s
  rw [places_rev]
  exact wpAny_pure h
theorem fm_congr {α β : Type} {f g : α → Option β} : ∀ {l : List α}, (∀ m ∈ l, f m = g m) → l.filterMap f = l.filterMap g
  | [], _ => rfl
  | a :: l, h => by rw [List.filterMap_cons, List.filterMap_cons, h a List.mem_cons_self, fm_congr fun m hm => h m (List.mem_cons_of_mem _ hm)]
theorem pick_rev (xs : Array Value) : ((List.range xs.size).filterMap fun (m : Nat) => xs[(((xs.size : Int) - 1) + (m : Int) * (-1)).toNat]?).toArray = xs.toList.reverse.toArray := by
  have e : ((List.range xs.size).filterMap fun (m : Nat) => xs[(((xs.size : Int) - 1) + (m : Int) * (-1)).toNat]?) = ((List.range xs.size).map fun k => xs.size - 1 - k).filterMap (xs[·]?) := by
    rw [List.filterMap_map]
    refine fm_congr fun m hm => ?_
    have := List.mem_range.mp hm
    show xs[(((xs.size : Int) - 1) + (m : Int) * (-1)).toNat]? = xs[xs.size - 1 - m]?
    rw [show (((xs.size : Int) - 1) + (m : Int) * (-1)).toNat = xs.size - 1 - m by omega]
  rw [e, PySem.W.krv_range, List.filterMap_reverse, PySem.W.krv_all]
theorem getItem_tuple_rev {t sl : Addr} {items : Array Value} {vs : Value} {Q : Value → Shared → Prop} (ht : IsTup s.heap t items) (hs : s.heap.IsSliceOf sl .none .none vs) (ps : IsPart vs (some (-1)))
    (h : Q (.ref s.heap.objs.size) { s with heap := s.heap.push { cls := .type "tuple", data := .seq items.toList.reverse.toArray } })
    (hsz : items.size ≤ sizeLine) : wpAny (model prog w) A (getItem (.ref t) (.ref sl)) Q E s := by
  have htake : sizeOk (.seq items.toList.reverse.toArray) := by
    show items.toList.reverse.toArray.size ≤ sizeLine
    rw [List.size_toArray, List.length_reverse, Array.length_toList]
    exact hsz
  obtain ⟨os, hos, hcs, hds⟩ := id hs
  have hTs : s.TypeIs (.ref sl) "slice" := ⟨os, hos, hcs⟩
  unfold getItem
  try with_reducible refine wpAny_holding ?_
  first | refine wpAny_bind (wpAny_pure ?_) | skip
  refine wpAny_bind (wpAny_sequenceKey ht.typeIs (by decide) ?_)
  refine wpAny_bind (wpAny_callSpecial?_slot (name := Str.ofString "__getitem__") ht.typeIs PyProof.Rows.slot_tuple_getitem
    (wpAny_call_entry PyProof.Rows.slot_tuple_getitem ht.typeIs entry_tuple_getitem ?_ (args_tuple_getitem _ _)))
  show wpAny _ _ (Builtin.Tuple.tupleItemsOf (.ref t) >>= _) _ _ s
  refine wpAny_bind (tupleItemsOf_ ht ?_)
  refine wpAny_bind (wpAny_typeOf hTs ?_)
  rw [if_pos (by decide)]
  refine wpAny_bind (sliceApplied_rev hs ps ?_)
  have hno : ¬ (((((items.size : Nat) : Int) - 1) == 0 && (-1 : Int) == 1 && items.size == items.size) = true) := by
    intro q
    rw [Bool.and_eq_true, Bool.and_eq_true] at q
    exact absurd q.1.2 (by decide)
  show wpAny _ _ (if ((((items.size : Nat) : Int) - 1) == 0 && (-1 : Int) == 1 && items.size == items.size) = true then _ else _) _ _ s
  rw [if_neg hno, pick_rev]
  first
    | exact wpAny_bind (m := Builtin.Tuple.tupleExact _) (wpAny_newObj_type (wpAny_pure ⟨_, rfl, wpAny_pure h⟩) htake)
    | exact wpAny_bind (m := Builtin.Tuple.tupleExact _) (wpAny_newObj_type (wpAny_bind (wpAny_pure (wpAny_pure ⟨_, rfl, wpAny_pure h⟩))) htake)
    | exact wpAny_bind (wpAny_bind (m := Builtin.Tuple.tupleExact _) (wpAny_newObj_type (wpAny_pure (wpAny_pure ⟨_, rfl, wpAny_pure h⟩)) htake))
    | exact wpAny_bind (wpAny_bind (m := Builtin.Tuple.tupleExact _) (wpAny_newObj_type (wpAny_pure ⟨_, rfl, wpAny_pure h⟩) htake))
end
end HT
namespace Gd
open PySem PySem.Spec PyProof.Rows L2 GxR Gx
/-- a tuple without a dict of its own -/
def NoD (K : PySem.W.Frag) (H : Hp) (a : Addr) : Prop := (∃ o u, H a = some (.frz o u) ∧ o.dict = none) ∨ ∃ o, K.lookup a = some o ∧ o.dict = none
theorem NoD.kb {K : PySem.W.Frag} {S : List Addr} {H H' : Hp} {a : Addr} (k : Kb S H H') (hS : Lsts S H) (h : NoD K H a) : NoD K H' a := by
  rcases h with ⟨o, u, e, d⟩ | h
  · exact .inl ⟨o, u, k.keep a _ e (fun z => by obtain ⟨ys, e2⟩ := hS a z; rw [e] at e2; cases e2) nt_frz, d⟩
  · exact .inr h
abbrev frzT (o : Obj) (xs : List V) : HO := .frz o (.tup xs)
section
variable {X : Cx}
theorem SqT.frz {K : PySem.W.Frag} {H : Hp} {p : Addr} {o : Obj} {xs : List V} (e : H p = some (frzT o xs)) : SqT K H p xs := .inl (.inr ⟨o, e⟩)
theorem NoD.frz {K : PySem.W.Frag} {H : Hp} {p : Addr} {o : Obj} {u : HO} (e : H p = some (.frz o u)) (d : o.dict = none) : NoD K H p := .inl ⟨o, u, e, d⟩
/-- tuple(x): a new tuple of a list's items, without a dict; a tuple itself -/
theorem call_tuple_ofF : CallR X (.type "tuple") (fun xs H Q => ∃ p ys, xs = [.ref p] ∧ ((SqL X.K H p ys ∧ ∀ l o, H l = none → o.dict = none → Q (.ref l) (upd H l (frzT o ys))) ∨ (SqT X.K H p ys ∧ Q (.ref p) H))) := by
  intro pins s σ H xs us Q I r h
  obtain ⟨p, ys, rfl, h⟩ := h
  obtain ⟨u, rfl, rx⟩ := vals1 r
  cases rx
  rcases h with ⟨hq, q⟩ | ⟨hq, q⟩
  · obtain ⟨its, r', pl, hz⟩ := I.list hq
    have hlen := r'.length
    refine call_tuple_list pl.isList (fun h' kp => ?_) (by simp only [List.size_toArray] <;> omega)
    have I1 : Inv X pins σ H { s with heap := h' } := I.kept (t' := s.toks) kp
    have I2 : Inv X pins σ (upd H h'.objs.size (frzT { cls := .type "tuple", data := .seq its.toArray } ys)) { s with heap := h'.push { cls := .type "tuple", data := .seq its.toArray } } :=
      I1.laid (t' := s.toks) (fun b o e => Heap.get?_push_of_some _ e) (Nat.le_refl _) (show ObjOk X.prog X.w _ _ _ (frzT _ ys) from ⟨Heap.get?_push_size _ rfl, hz, its, r', IsTup.new _ _⟩)
    exact ⟨.ref h'.objs.size, _, I2, rfl, q _ _ (I1.hok.fresh (Nat.le_refl _)) rfl⟩
  · obtain ⟨its, r', pl, hz⟩ := I.tuple hq
    exact call_tuple_same pl ⟨.ref p, H, I, rfl, q⟩
/-- t[lo:hi], new tuples without a dict -/
def rSlF (K : PySem.W.Frag) : V → Option Int → Option Int → Hp → VK → Prop := fun x lo hi H Q => ∃ a xs, x = .ref a ∧ SqT K H a xs ∧
  (HT.sIx xs.length 0 lo = 0 ∧ HT.sIx xs.length xs.length hi = xs.length → Q (.ref a) H) ∧ (¬ (HT.sIx xs.length 0 lo = 0 ∧ HT.sIx xs.length xs.length hi = xs.length) → ∀ p o, H p = none → o.dict = none → Q (.ref p) (upd H p (frzT o (cutV xs lo hi))))
theorem sl_tupF : SlR X (rSlF X.K) := by
  intro pins s σ H x v vl vu lo hi sl Q I rx hs pl pu h
  obtain ⟨a, xs, rfl, hx, q1, q2⟩ := h
  cases rx
  obtain ⟨its, r, ht, hz⟩ := I.tuple hx
  have hlen : its.toArray.size = xs.length := by rw [List.size_toArray]; exact r.length.symm
  refine ⟨"tuple", _, PyProof.Rows.slot_tuple_getitem.lookup, ht.typeIs, ?_⟩
  by_cases hw : HT.sIx xs.length 0 lo = 0 ∧ HT.sIx xs.length xs.length hi = xs.length
  · exact getItem_tuple_whole ht hs pl pu (by rw [hlen]; exact hw) ⟨.ref a, H, I, rfl, q1 hw⟩
  · refine HT.getItem_tuple_cut ht hs pl pu (by rw [hlen]; exact hw) ?_ (by rw [hlen]; exact hz)
    rw [hlen]
    refine ⟨.ref s.heap.objs.size, _, I.laid (t' := s.toks) (o := frzT { cls := .type "tuple", data := .seq ((its.toArray.toList.drop (HT.sIx xs.length 0 lo)).take (HT.sIx xs.length xs.length hi - HT.sIx xs.length 0 lo)).toArray } (cutV xs lo hi)) (fun b ob q => Heap.get?_push_of_some _ q) (Nat.le_refl _) ?_, rfl, q2 hw _ _ (I.hok.fresh (Nat.le_refl _)) rfl⟩
    exact ⟨Heap.get?_push_size _ rfl, Nat.le_trans (cutV_length xs lo hi) hz, _, (r.drop (HT.sIx xs.length 0 lo)).take (HT.sIx xs.length xs.length hi - HT.sIx xs.length 0 lo), IsTup.new _ _⟩
/-- t[::-1] of a tuple -/
def tRevT (K : PySem.W.Frag) (te : TE) : TE := fun σ H Q => te σ H fun x H1 => ∃ a xs, x = .ref a ∧ SqT K H1 a xs ∧ ∀ p o, H1 p = none → o.dict = none → Q (.ref p) (upd H1 p (frzT o xs.reverse))
theorem pe_revT {e : Expr} {te : TE} {k : Nat} {p1 p2 p3 pos : Pos} (he : PE X e te) : PE X (.Subscript e (.Slice none none (some (.UnaryOp .USub (.Constant (.int 1) k p1) p2)) p3) pos) (tRevT X.K te) := by
  refine ⟨fun pins s σ H Q I h => ?_⟩
  refine Subscript_ (thn (he.run pins s σ H _ I h) fun v s1 ⟨x, H1, I1, r1, q1⟩ => ?_)
  obtain ⟨a, xs, ex, hx, q⟩ := q1
  subst ex
  cases r1
  have hst : PO X (some (.UnaryOp .USub (.Constant (.int 1) k p1) p2)) (tPart (tUn (rU fun i => .int (-i)) (tC (.int 1)))) := po_some (pe_un un_neg pe_int)
  refine wpAny_Slice (thn (po_none.run pins s1 σ H1 (fun o H2 => o = none ∧ H2 = H1) I1 ⟨rfl, rfl⟩) fun vl s2 ⟨l, H2, I2, pl, el, e2⟩ => ?_)
  subst el e2
  refine thn (po_none.run pins s2 σ H2 (fun o H3 => o = none ∧ H3 = H2) I2 ⟨rfl, rfl⟩) fun vu s3 ⟨u, H3, I3, pu, eu, e3⟩ => ?_
  subst eu e3
  refine thn (hst.run pins s3 σ H3 (fun o H4 => o = some (-1) ∧ H4 = H3) I3 ⟨1, rfl, -1, rfl, rfl, rfl⟩) fun vs s4 ⟨o, H4, I4, ps, eo, e4⟩ => ?_
  subst eo e4
  cases pl
  cases pu
  have I5 : Inv X pins σ H4 { s4 with heap := s4.heap.push { cls := .type "slice", data := .fields #[.none, .none, vs] } } := I4.kept (t' := s4.toks) fun b ob q => Heap.get?_push_of_some _ q
  obtain ⟨its, r, ht, hz⟩ := I5.tuple hx
  have hlen := r.length
  show wpAny (model X.prog X.w) X.A (subscriptTail e (.Slice none none (some (.UnaryOp .USub (.Constant (.int 1) k p1) p2)) p3) (.ref a) (.ref s4.heap.objs.size)) (EP X pins σ Q) X.xe { s4 with heap := s4.heap.push { cls := .type "slice", data := .fields #[.none, .none, vs] } }
  refine tail_any (ops := [.ref a, .ref s4.heap.objs.size]) ht.typeIs (PyProof.Rows.slot_tuple_getitem.lookup) ?_ (by with_unfolding_all rfl)
  refine HT.getItem_tuple_rev ht (Heap.IsSliceOf.new _ .none .none vs) ps ?_ (by rw [List.size_toArray]; omega)
  refine ⟨.ref _, _, I5.laid (t' := s4.toks) (o := frzT { cls := .type "tuple", data := .seq its.toArray.toList.reverse.toArray } xs.reverse) (fun b ob q => Heap.get?_push_of_some _ q) (Nat.le_refl _) ?_, rfl, q _ _ (I5.hok.fresh (Nat.le_refl _)) rfl⟩
  exact ⟨Heap.get?_push_size _ rfl, by rw [List.length_reverse]; exact hz, _, r.reverse, IsTup.new _ _⟩
/-- dict(t) of a tuple of pairs -/
theorem call_dictT (hcalm : X.calm = true) : CallR X (.type "dict") (fun xs H Q => ∃ (a : Addr) (ps : List Addr) (kvs : List (Key × V)), xs = [.ref a] ∧ SqT X.K H a (ps.map V.ref) ∧ NoD X.K H a ∧ Paired (fun p kv => SqT X.K H p [kV kv.1, kv.2]) ps kvs ∧
    ∀ p, H p = none → Q (.ref p) (upd H p (.dK (mergeK [] kvs)))) := by
  intro pins s σ H xs us Q I r q
  obtain ⟨a, ps, kvs, ex, hq, hnd, hp, q⟩ := q
  subst ex
  obtain ⟨u, eu, rx⟩ := vals1 r
  subst eu
  cases rx
  obtain ⟨its, rv, pl, hz⟩ := I.tuple hq
  have ei := refs_at rv
  subst ei
  rw [List.length_map] at hz
  obtain ⟨prs, rel, hl, hpr⟩ := pairs_of I hp
  obtain ⟨o, ho, hc, n, hdat⟩ := pl
  have hd : o.dict = none := by
    rcases hnd with ⟨o2, u, e, d⟩ | ⟨o2, e, d⟩
    · have := (I.hok a _ e).1
      rw [ho] at this
      cases this
      exact d
    · have := I.kIn a o2 e
      rw [ho] at this
      cases this
      exact d
  -- the pairs as the library tells them
  have key : ∀ j : Nat, ∃ v : Value, ∀ q' : Key × Value, prs[j]? = some q' → ∃ b : Addr, ps[j]? = some b ∧ IsTup s.heap b #[v, q'.2] ∧ keyIs q'.1 v = true := fun j => by
    cases e : prs[j]? with
    | none => exact ⟨.none, fun q' h => by cases h⟩
    | some q' =>
      obtain ⟨b, u, e1, e2, e3⟩ := hpr j q' e
      exact ⟨u, fun q'' h => by cases h; exact ⟨b, e1, e2, e3⟩⟩
  let kf : Nat → Value := fun j => Classical.choose (key j)
  have hkf : ∀ (j : Nat) (q' : Key × Value), prs[j]? = some q' → ∃ b : Addr, ps[j]? = some b ∧ IsTup s.heap b #[kf j, q'.2] ∧ keyIs q'.1 (kf j) = true := fun j => Classical.choose_spec (key j)
  let pvs : List (Value × Value) := (List.range prs.length).map fun j => (kf j, (prs.getD j (.inl 0, .none)).2)
  have hpv : ∀ j, j < prs.length → pvs[j]? = some (kf j, (prs.getD j (.inl 0, .none)).2) := fun j hj => by
    show ((List.range prs.length).map _)[j]? = _
    rw [List.getElem?_map, List.getElem?_range hj]
    rfl
  have hpl : pvs.length = prs.length := by show ((List.range prs.length).map _).length = _; rw [List.length_map, List.length_range]
  have hgd : ∀ (j : Nat) (q' : Key × Value), prs[j]? = some q' → prs.getD j (.inl 0, .none) = q' := fun j q' e => by rw [List.getD_eq_getElem?_getD, e]; rfl
  have ok : PySem.PlainSeq "tuple" s.heap a (ps.map Value.ref).toArray ∧ PySem.PairItems s.heap (ps.map Value.ref).toArray (fun j => ps.getD j 0) pvs := by
    refine ⟨⟨o, n, ho, hc, hd, hdat⟩, by rw [List.size_toArray, List.length_map, hpl, hl], fun j k v hj => ?_⟩
    have hj2 : j < prs.length := by have := (List.getElem?_eq_some_iff.mp hj).1; omega
    rw [hpv j hj2] at hj
    cases hj
    obtain ⟨q', hq'⟩ : ∃ q', prs[j]? = some q' := ⟨prs[j], List.getElem?_eq_getElem hj2⟩
    rw [hgd j q' hq']
    obtain ⟨b, e1, e2, e3⟩ := hkf j q' hq'
    have eb : ps.getD j 0 = b := by rw [List.getD_eq_getElem?_getD, e1]; rfl
    show (ps.map Value.ref).toArray[j]? = some (Value.ref (ps.getD j 0)) ∧ PySem.PairAt s.heap (ps.getD j 0) (kf j) q'.2
    rw [eb]
    exact ⟨by simp [e1], .inl e2⟩
  have hm : (s.heap.objs.size == sysModules) = false := beq_eq_false_iff_ne.mpr (Nat.ne_of_gt I.big)
  refine PySem.call_dict_pairs (knd := mixKind X.prog X.w) (kvs := prs) (PySem.PairArg.tuple a _ _ pvs) (I.ok.hd hcalm) ok ⟨by rw [hpl], fun i k v hr => ?_⟩ (by rw [hpl, hl]; exact hz) fun h' tk hd' k => ?_
  · have hr : pvs[i]? = some (k, v) := hr
    have hi : i < prs.length := by have := (List.getElem?_eq_some_iff.mp hr).1; omega
    rw [hpv i hi] at hr
    cases hr
    obtain ⟨q', hq'⟩ : ∃ q', prs[i]? = some q' := ⟨prs[i], List.getElem?_eq_getElem hi⟩
    rw [hgd i q' hq']
    obtain ⟨b, e1, e2, e3⟩ := hkf i q' hq'
    exact ⟨q'.1, hq', e3⟩
  · have hlen : (mergeK [] kvs).length ≤ sizeLine := by
      refine Nat.le_trans (length_mergeK kvs []) ?_
      rw [List.length_nil, Nat.zero_add, rel.length, hl]
      exact hz
    exact ⟨.ref s.heap.objs.size, upd H s.heap.objs.size (.dK (mergeK [] kvs)), I.laid (t' := tk) (fun b o e => k b o (by simp) e) (Nat.le_refl _) (show ObjOk X.prog X.w _ _ _ (.dK (mergeK [] kvs)) from ⟨hlen, hm, merged [] prs, KV.merge rel .nil, hd'⟩), rfl, q _ (I.hok.fresh (Nat.le_refl _))⟩
end
/-! ### calls with a star -/
section
variable {X : Cx} {k i : Nat} {ps : List Str} {sp : Sp} {x : Str} {p pos sp_ : Pos} {e : Expr} {es : List Expr} {t : TA} {te : TE}
theorem run_cal {CX : CXT} {E : XK} {f : Addr} {fd : FuncData} {pins : List (Addr × Obj)} {σ : L2.St} {H : Hp} {s : Shared} {Q : VK} {us : List Value} {vs : List V} (F : FnG X.prog X.w X.K X.mg X.base CX k f fd ps sp) (b : Binds X.K fd ps []) (hr : RoomG k X.A) (hx : Passes CX X E)
    (I : Inv X pins σ H s) (r : Vals vs us) (h : sp vs H Q E) : codeAny (model X.prog X.w) X.A (.call (.ref f) ⟨us, []⟩) (fun r s' => match r with | .ok (.ret v) => EP X pins σ Q v s' | .ok _ => False | .error e => X.xe e s') s := by
  have hl : us.length = ps.length := by rw [← r.length]; exact F.len _ _ _ _ h
  have bb := b s us I.kIn (by rw [List.append_nil]; exact hl)
  rw [List.append_nil] at bb
  refine codeAny_mono (F.run X.A X.stack s H ⟨us, []⟩ us vs Q E hr I.env0 bb r h) fun r s' hq => ?_
  cases r with
  | error e => exact hx pins σ H s e s' I hq
  | ok fl =>
    cases fl with
    | ret u => exact I.after hq
    | next => exact hq.elim
    | brk => exact hq.elim
    | cont => exact hq.elim
/-- x(e, .., *y) -/
theorem pe_calS2 (C : Cal X.prog X.w X.K X.mg X.base CX0 k x ps sp) (hr : RoomG k X.A) (hg : Gl X x) (ha : PA X (e :: es) t) (hd : (x == ("__debug__" : Str)) = false := by decide)
    (he : starEach (e :: es) X.env = (false, eval e X.env) :: starEach es X.env := by rfl) (hst : (backTo pos (starEach es X.env)).any (·.1) = true := by rfl) :
    PE X (.Call (.Name x p) (e :: es) [] pos) (fun σ H Q => t σ H fun vs H1 => sp vs H1 Q E0) := by
  obtain ⟨f, fd, F, g, kp, b⟩ := C
  refine ⟨fun pins s σ H Q I h => ?_⟩
  refine wpAny_Call_Name_kw (ld_glob I hg g ?_ hd)
  refine PySem.W.callWith_S2 (h₀ := X.base) I.ok.mod.kin kp (thn (ha.run pos pins s σ H _ I h) fun us s1 ⟨vs, H1, I1, r, q⟩ => ⟨I1.kIn, ?_⟩) he hst
  exact wpAny_call (run_cal F b hr pass0 I1 r q)
/-- y(*z), y a local name that holds one of several defs -/
theorem pe_calLS (hN : X.N[i]? = some x) (hv : Vis X.env.scope x) (hr : RoomG k X.A) (he : PE X e te) (hdb : (x == ("__debug__" : Str)) = false := by decide) (hcd : (x == ("__classdict__" : Str)) = false := by decide)
    (hst : starEach [.Starred e sp_] X.env = [(true, eval e X.env)] := by rfl) :
    PE X (.Call (.Name x p) [.Starred e sp_] [] pos) (fun σ H Q => ∃ (f : Addr) (fd : FuncData) (ps : List Str) (sp : Sp), σ[i]? = some (some (.ref f)) ∧ FnG X.prog X.w X.K X.mg X.base CX0 k f fd ps sp ∧ PySem.W.keepIn X.K (.ref f) = true ∧ Binds X.K fd ps [] ∧
      te σ H fun y H1 => ∃ a xs, y = V.ref a ∧ (SqT X.K H1 a xs ∨ SqL X.K H1 a xs) ∧ sp xs H1 Q E0) := by
  refine ⟨fun pins s σ H Q I h => ?_⟩
  obtain ⟨f, fd, ps, sp, hs, F, kp, b, ht⟩ := h
  refine wpAny_Call_Name_kw (thn ((pe_var (pos := p) hN hv hdb hcd).run pins s σ H (fun v H1 => v = .ref f ∧ H1 = H) I ⟨.ref f, hs, rfl, rfl⟩) fun u s1 ⟨v, H1, I1, r1, q1⟩ => ?_)
  obtain ⟨rfl, rfl⟩ := q1
  cases r1
  refine PySem.W.callWith_S (h₀ := X.base) I.ok.mod.kin kp (thn (he.run pins s1 σ _ _ I1 ht) fun v s2 ⟨y, H2, I2, ry, a, xs, ey, hxs, q⟩ => ?_) hst
  subst ey
  obtain rfl : v = Value.ref a := ry
  exact StX.star_any I2 hxs fun us s3 I3 rv => ⟨I3.kIn, wpAny_call (run_cal F b hr pass0 I3 rv q)⟩
end
end Gd

/-! Values with their maps' entries, expressions with their literals. -/
namespace Rw
open PySem PySem.Spec PyProof.Rows L2 GxR Gx Gd Rx Rs
abbrev topS := Rs.topS
inductive Va where
  | s (x : Rv.Sc) | m (ps : List (Str × Rv.Sc))
def Va.d : Va → PyData
  | .s x => x.d
  | .m ps => Rv.mapD ps
def Va.good : Va → Prop
  | .s x => x.good
  | .m ps => Rv.Ents ps
theorem Va.good.gv : ∀ {v : Va}, v.good → Rv.GV v.d
  | .s x, h => .inl ⟨x, h, rfl⟩
  | .m ps, h => .inr ⟨ps, h, rfl⟩
def scOf : PyData → Rv.Sc
  | .tuple [_, .bool b] => .bool b
  | .tuple [_, .int i] => .int i
  | .tuple [_, .str x] => .text x
  | _ => .none
def entOf : PyData → Str × Rv.Sc
  | .tuple [.str k, s] => (k, scOf s)
  | _ => (Str.ofString "", .none)
def Va.of : PyData → Va
  | .tuple [_, .tuple es] => .m (es.map entOf)
  | d => .s (scOf d)
theorem scOf_d : ∀ x : Rv.Sc, scOf x.d = x
  | .none => rfl
  | .bool _ => rfl
  | .int _ => rfl
  | .text _ => rfl
theorem entOf_ent (p : Str × Rv.Sc) : entOf (Rv.ent p) = p := by
  show (p.1, scOf p.2.d) = p
  rw [scOf_d]
theorem Va.of_d : ∀ v : Va, Va.of v.d = v
  | .s .none => rfl
  | .s (.bool _) => rfl
  | .s (.int _) => rfl
  | .s (.text _) => rfl
  | .m ps => by
    show Va.m ((ps.map Rv.ent).map entOf) = Va.m ps
    rw [List.map_map]
    congr 1
    exact (List.map_congr_left fun p _ => entOf_ent p).trans (List.map_id ps)
theorem d_inj {v u : Va} (h : v.d = u.d) : v = u := by rw [← Va.of_d v, h, Va.of_d]
/-- the value stands at v; the entries of a map have no dict of their own -/
inductive DtV (K : PySem.W.Frag) (H : Hp) : V → Va → Prop where
  | s {v : V} {x : Rv.Sc} (h : Dt K H v x.d) : DtV K H v (.s x)
  | m {a b : Addr} {xs : List V} {ps : List (Str × Rv.Sc)} (h : SqT K H a [.str (Str.ofString "map"), .ref b]) (n : NoD K H b) (hb : SqT K H b xs) (hs : DtAll K H xs (ps.map Rv.ent)) : DtV K H (.ref a) (.m ps)
mutual
inductive DtE (K : PySem.W.Frag) (H : Hp) : V → Ex → Prop where
  | lit {a : Addr} {x : V} {va : Va} (h : SqT K H a [.str (Str.ofString "literal"), x]) (hx : DtV K H x va) : DtE K H (.ref a) (.lit va.d)
  | var {a : Addr} {l : List Nat} (h : SqT K H a [.str (Str.ofString "variable"), .str (sx l)]) : DtE K H (.ref a) (.var l)
  | call {a t : Addr} {xs : List V} {f : List Nat} {es : List Ex} (h : SqT K H a [.str (Str.ofString "call"), .str (sx f), .ref t]) (ht : SqT K H t xs) (hs : DtEs K H xs es) : DtE K H (.ref a) (.call f es)
  | inj {a : Addr} {x : V} {l : List Nat} {e : Ex} (h : SqT K H a [.str (Str.ofString "inject"), .str (sx l), x]) (hx : DtE K H x e) : DtE K H (.ref a) (.inj l e)
inductive DtEs (K : PySem.W.Frag) (H : Hp) : List V → List Ex → Prop where
  | nil : DtEs K H [] []
  | cons {v : V} {vs : List V} {e : Ex} {es : List Ex} (h : DtE K H v e) (hs : DtEs K H vs es) : DtEs K H (v :: vs) (e :: es)
end
section
variable {K : PySem.W.Frag} {S : List Addr} {H H' : Hp}
theorem DtV.dt {v : V} {va : Va} : DtV K H v va → Dt K H v va.d
  | .s h => h
  | .m h n hb hs => .tup h (.cons (.str _) (.cons (.tup hb hs) .nil))
theorem DtV.kb (k : Kb S H H') (hS : Lsts S H) {v : V} {va : Va} : DtV K H v va → DtV K H' v va
  | .s h => .s (h.kb k hS)
  | .m h n hb hs => .m (k.sqT hS h) (n.kb k hS) (k.sqT hS hb) (DtAll.kb k hS hs)
mutual
theorem DtE.dt : ∀ {v : V} {e : Ex}, DtE K H v e → Dt K H v e.d
  | _, _, .lit h hx => .tup h (.cons (.str _) (.cons hx.dt .nil))
  | _, _, .var h => .tup h (.cons (.str _) (.cons (.str _) .nil))
  | _, _, .call h ht hs => .tup h (.cons (.str _) (.cons (.str _) (.cons (.tup ht hs.dt) .nil)))
  | _, _, .inj h hx => .tup h (.cons (.str _) (.cons (.str _) (.cons hx.dt .nil)))
theorem DtEs.dt : ∀ {vs : List V} {es : List Ex}, DtEs K H vs es → DtAll K H vs (Ex.ds es)
  | _, _, .nil => .nil
  | _, _, .cons h hs => .cons h.dt hs.dt
end
mutual
theorem DtE.kb (k : Kb S H H') (hS : Lsts S H) : ∀ {v : V} {e : Ex}, DtE K H v e → DtE K H' v e
  | _, _, .lit h hx => .lit (k.sqT hS h) (hx.kb k hS)
  | _, _, .var h => .var (k.sqT hS h)
  | _, _, .call h ht hs => .call (k.sqT hS h) (k.sqT hS ht) (DtEs.kb k hS hs)
  | _, _, .inj h hx => .inj (k.sqT hS h) (DtE.kb k hS hx)
theorem DtEs.kb (k : Kb S H H') (hS : Lsts S H) : ∀ {vs : List V} {es : List Ex}, DtEs K H vs es → DtEs K H' vs es
  | _, _, .nil => .nil
  | _, _, .cons h hs => .cons (DtE.kb k hS h) (DtEs.kb k hS hs)
end
theorem DtEs.snoc {v : V} {e : Ex} : ∀ {vs : List V} {es : List Ex}, DtEs K H vs es → DtE K H v e → DtEs K H (vs ++ [v]) (es ++ [e])
  | _, _, .nil, h => .cons h .nil
  | _, _, .cons h hs, h2 => .cons h (DtEs.snoc hs h2)
theorem DtEs.length : ∀ {vs : List V} {es : List Ex}, DtEs K H vs es → vs.length = es.length
  | _, _, .nil => rfl
  | _, _, .cons _ hs => congrArg (· + 1) hs.length
theorem DtEs.get : ∀ {vs : List V} {es : List Ex} {i : Nat} {v : V}, DtEs K H vs es → vs[i]? = some v → ∃ e, es[i]? = some e ∧ DtE K H v e
  | _, _, _, _, .nil, e => by simp at e
  | _, _, 0, _, .cons h _, e => by
    have e := Option.some.inj e
    subst e
    exact ⟨_, rfl, h⟩
  | _, _, i + 1, _, .cons _ hs, e => DtEs.get (i := i) hs e
end
def spMapN (K : PySem.W.Frag) : Sp := fun vs H Q _ => ∃ bx d, vs = [.ref bx] ∧ Rv.Box bx d H ∧ ∀ H' v ps, Rv.Aft bx d H H' → DtV K H' v (.m ps) → Rv.Ents ps → Q v H'
def spValN (K : PySem.W.Frag) : Sp := fun vs H Q _ => ∃ bx d, vs = [.ref bx] ∧ Rv.Box bx d H ∧ ∀ H' v va, Rv.Aft bx d H H' → DtV K H' v va → va.good → Q v H'
end Rw
namespace Rv
open PySem PySem.Spec PyProof.Rows L2 GxR Gx Gd
section
variable {P : Program} {w : World} {K : PySem.W.Frag} {mg : Str → Option Value} {base : Heap}
end
end Rv

namespace Gd
open PySem PySem.Spec PyProof.Rows L2 GxR Gx
theorem hu1 {k : Nat} {A : Around} (hr : RoomG k A) : A.units + 1 < cLine := by have := hr.r.un; omega
theorem iteQ {p : Prop} [Decidable p] {A B : Prop} (h1 : A) (h2 : B) : if decide p = true then A else B := by
  by_cases h : p
  · rw [if_pos (decide_eq_true h)]; exact h1
  · rw [if_neg (by simpa using h)]; exact h2
end Gd
/-! Expressions, as the laws draw them. -/
namespace Rw
open PySem PySem.Spec PyProof.Rows L2 GxR Gx Gd Rx Rs
abbrev GV := Rv.GV
abbrev Box := Rv.Box
abbrev Aft := Rv.Aft
mutual
def GoodE (ns : List Str) : Ex → Prop
  | .lit v => Rv.GV v
  | .var l => sx l ∈ ns
  | .call f es => f ∈ funs ∧ es.length = arity f ∧ GoodEs ns es
  | .inj l e => (l = cs "ctx" ∨ l = cs "tone") ∧ GoodE ns e
def GoodEs (ns : List Str) : List Ex → Prop
  | [] => True
  | e :: es => GoodE ns e ∧ GoodEs ns es
end
theorem goodEs_iff {ns : List Str} : ∀ {es : List Ex}, GoodEs ns es ↔ ∀ e ∈ es, GoodE ns e
  | [] => ⟨(fun _ _ h => by cases h), fun _ => trivial⟩
  | e :: es => by
    constructor
    · rintro ⟨h1, h2⟩ x hx
      rcases List.mem_cons.mp hx with rfl | hx
      · exact h1
      · exact goodEs_iff.mp h2 x hx
    · exact fun h => ⟨h e List.mem_cons_self, goodEs_iff.mpr fun x hx => h x (List.mem_cons_of_mem _ hx)⟩
theorem goodEs_snoc {ns : List Str} {es : List Ex} {e : Ex} (h1 : GoodEs ns es) (h2 : GoodE ns e) : GoodEs ns (es ++ [e]) := goodEs_iff.mpr fun x hx => by
  rcases List.mem_append.mp hx with h | h
  · exact goodEs_iff.mp h1 x h
  · rw [List.mem_singleton.mp h]; exact h2
def kindL : List (String × String) := [("not", "b"), ("size", "m"), ("reverse", "m"), ("add", "ii"), ("sub", "ii"), ("lt", "ii"), ("eq", "vv"), ("and", "bb"), ("concat", "ss"), ("has", "mk"), ("get", "mk"), ("remove", "mk"), ("take", "mi"), ("put", "mks"), ("cond", "bvv"), ("resource", "t")]
def kindD : List PyData := kindL.map fun p => .tuple [.str (Str.ofString p.1), .str (Str.ofString p.2)]
def spFuns (K : PySem.W.Frag) : Sp := fun vs H Q _ => vs = [] ∧ ∀ H' p xs, Kp H H' → H' p = some (.lst xs) → DtAll K H' xs kindD → Q (.ref p) H'
def spLeaf (K : PySem.W.Frag) : Sp := fun vs H Q _ => ∃ (bx d nm : Addr) (ns : List Str) (kd : Str), vs = [.ref bx, .ref nm, .str kd] ∧ Box bx d H ∧ H nm = some (.lst (ns.map V.str)) ∧ nm ≠ bx ∧ ns ≠ [] ∧ ns.length ≤ 10 ∧ ∀ H' v e, Aft bx d H H' → DtE K H' v e → GoodE ns e → e.calls = 0 → e.deep = 0 → Q v H'
section
variable {P : Program} {w : World} {K : PySem.W.Frag} {mg : Str → Option Value} {base : Heap}
theorem three {a b c : V} {r : Int} (h0 : 0 ≤ r) (h3 : r < 3) : ∃ y, atI [a, b, c] r = some y ∧ (y = a ∨ y = b ∨ y = c) := by
  obtain h | h | h : r = 0 ∨ r = 1 ∨ r = 2 := by omega
  · subst h; exact ⟨_, atI_nat (j := 0) rfl, .inl rfl⟩
  · subst h; exact ⟨_, atI_nat (j := 1) rfl, .inr (.inl rfl)⟩
  · subst h; exact ⟨_, atI_nat (j := 2) rfl, .inr (.inr rfl)⟩
theorem lit_end {H : Hp} {p : Addr} {v : V} {x : Va} (hp : H p = none) (hv : DtV K H v x) : Kp H (upd H p (.tup [.str (Str.ofString "literal"), v])) ∧ DtE K (upd H p (.tup [.str (Str.ofString "literal"), v])) (.ref p) (.lit x.d) :=
  ⟨Kb.new hp, .lit (SqT.of upd_same) (hv.kb (Kb.new hp) Lsts.nil)⟩
end
end Rw

/-! The signs of values and expressions, pure; read back. -/
namespace Rw
open PySem PySem.Spec PyProof.Rows L2 GxR Gx Gd Rx Rs
def scS : Rv.Sc → Sg
  | .none => .name (cs "none")
  | .bool b => .name (if b = true then cs "true" else cs "false")
  | .int i => .num i.toNat
  | .text x => .quo x.cps.toList
/-- rows, each behind a mark -/
def argS : Nat → List (List Sg) → List Sg
  | _, [] => []
  | c, r :: rs => .mark c :: (r ++ argS 44 rs)
/-- rows with commas between them -/
def sepS : List (List Sg) → List Sg
  | [] => []
  | r :: rs => r ++ argS 44 rs
def encS (rows : List (List Sg)) : List Sg := .mark 40 :: (sepS rows ++ [.mark 41])
def entR (p : Str × Rv.Sc) : List (List Sg) := [[.quo p.1.cps.toList], [scS p.2]]
def mapS (ps : List (Str × Rv.Sc)) : List Sg := .name (cs "map") :: encS (ps.flatMap entR)
def vaS : Va → List Sg
  | .s x => [scS x]
  | .m ps => mapS ps
mutual
def exS : Ex → List Sg
  | .lit v => vaS (Va.of v)
  | .var l => [.name l]
  | .inj l e => .name (cs "inject") :: encS [[.name l], exS e]
  | .call f es => .name f :: encS (exSs es)
def exSs : List Ex → List (List Sg)
  | [] => []
  | e :: es => exS e :: exSs es
end
/-- an expression that can be written -/
def NameX (l : List Nat) : Prop := l ∉ reserved
mutual
def WrE : Ex → Prop
  | .lit v => ∃ va : Va, va.good ∧ v = va.d
  | .var l => NameX l
  | .call f es => f ∈ funs ∧ es.length = arity f ∧ WrEs es
  | .inj l e => NameX l ∧ WrE e
def WrEs : List Ex → Prop
  | [] => True
  | e :: es => WrE e ∧ WrEs es
end
theorem isScalar_sc {s : Rv.Sc} (g : s.good) : Rv.isScalarD s.d = true := Rv.good_scalar g
theorem scalarOf_scS {s : Rv.Sc} (g : s.good) : scalarOf (scS s) = some s.d := by
  have h := isScalar_sc g
  cases s with
  | none => show scalarOf (.name (cs "none")) = _; rw [scalar_name, if_pos rfl]; rfl
  | bool b =>
    cases b with
    | true => show scalarOf (.name (cs "true")) = _; rw [scalar_name, if_neg (by decide +kernel), if_pos rfl]; rfl
    | false => show scalarOf (.name (cs "false")) = _; rw [scalar_name, if_neg (by decide +kernel), if_neg (by decide +kernel), if_pos rfl]; rfl
  | int i =>
    have g : 0 ≤ i ∧ i ≤ 999999 := g
    have e : (i.toNat : Int) = i := by omega
    show scalarOf (.num i.toNat) = _
    rw [scalar_num, e]
    have h : Rv.isScalarD (.tuple [.str "int", .int i]) = true := h
    rw [if_pos h]
    rfl
  | text x =>
    show scalarOf (.quo x.cps.toList) = _
    rw [scalar_quo, sx_of]
    have h : Rv.isScalarD (.tuple [.str "text", .str x]) = true := h
    rw [if_pos h]
    rfl
theorem expect_pos (c : Nat) (r : List Sg) : expect c (.mark c :: r) = some r := by
  unfold expect
  rw [if_pos (by show decide (c = c) = true; exact decide_eq_true rfl)]
  rfl
theorem entry_back {p : Str × Rv.Sc} (g : p.2.good) (r : List Sg) : rdEnt (.quo p.1.cps.toList :: .mark 44 :: scS p.2 :: r) = some (Rv.ent p, r) := by
  rw [rdEnt_cons, if_pos (by show decide (44 = 44) = true; rfl)]
  show (match scalarOf (scS p.2) with | none => none | some v => if isQuo (.quo p.1.cps.toList) = true then some (PyData.tuple [contOf (.quo p.1.cps.toList), v], r) else none) = _
  rw [scalarOf_scS g]
  show (if true = true then some (PyData.tuple [.str (sx p.1.cps.toList), p.2.d], r) else none) = _
  rw [if_pos rfl, sx_of]
  rfl
theorem ents_go {n : Nat} {first : Bool} {r r1 r2 r3 : List Sg} {e : PyData} {es : List PyData} (h1 : atMark 41 r = false) (h2 : (if first = true then some r else expect 44 r) = some r1) (h3 : rdEnt r1 = some (e, r2)) (h4 : rdEnts n false r2 = some (es, r3)) : rdEnts (n + 1) first r = some (e :: es, r3) := by
  show (if atMark 41 r = true then some ([], r.tail) else match (if first = true then some r else expect 44 r) with | none => none | some r1 => match rdEnt r1 with | none => none | some (e, r2) => match rdEnts n false r2 with | none => none | some (es, r3) => some (e :: es, r3)) = _
  rw [h1, h2, if_neg Bool.false_ne_true]
  show (match rdEnt r1 with | none => none | some (e, r2) => match rdEnts n false r2 with | none => none | some (es, r3) => some (e :: es, r3)) = _
  rw [h3]
  show (match rdEnts n false r2 with | none => none | some (es, r3) => some (e :: es, r3)) = _
  rw [h4]
theorem ents_back : ∀ (ps : List (Str × Rv.Sc)) (n : Nat) (r : List Sg), (∀ p ∈ ps, p.2.good) → ps.length + 1 ≤ n → rdEnts n false (argS 44 (ps.flatMap entR) ++ .mark 41 :: r) = some (ps.map Rv.ent, r)
  | [], n + 1, r, _, _ => by
    show (if atMark 41 (.mark 41 :: r) = true then some ([], (Sg.mark 41 :: r).tail) else _) = _
    rw [if_pos (by show decide (41 = 41) = true; rfl)]
    rfl
  | p :: ps, n + 1, r, h, hn => by
    have ih := ents_back ps n r (fun q hq => h q (List.mem_cons_of_mem _ hq)) (by simp at hn; omega)
    have e : argS 44 ((p :: ps).flatMap entR) ++ .mark 41 :: r = .mark 44 :: .quo p.1.cps.toList :: .mark 44 :: scS p.2 :: (argS 44 (ps.flatMap entR) ++ .mark 41 :: r) := rfl
    rw [e]
    exact ents_go (by show decide (44 = 41) = false; rfl) (by rw [if_neg Bool.false_ne_true, expect_pos]) (entry_back (h p List.mem_cons_self) _) ih
theorem ents_first (ps : List (Str × Rv.Sc)) (n : Nat) (r : List Sg) (h : ∀ p ∈ ps, p.2.good) (hn : ps.length + 1 ≤ n) : rdEnts n true (sepS (ps.flatMap entR) ++ .mark 41 :: r) = some (ps.map Rv.ent, r) := by
  cases n with
  | zero => omega
  | succ n =>
    cases ps with
    | nil =>
      show (if atMark 41 (.mark 41 :: r) = true then some ([], (Sg.mark 41 :: r).tail) else _) = _
      rw [if_pos (by show decide (41 = 41) = true; rfl)]
      rfl
    | cons p ps =>
      have ih := ents_back ps n r (fun q hq => h q (List.mem_cons_of_mem _ hq)) (by simp at hn; omega)
      have e : sepS ((p :: ps).flatMap entR) ++ .mark 41 :: r = .quo p.1.cps.toList :: .mark 44 :: scS p.2 :: (argS 44 (ps.flatMap entR) ++ .mark 41 :: r) := rfl
      rw [e]
      exact ents_go rfl (by rw [if_pos rfl]) (entry_back (h p List.mem_cons_self) _) ih
theorem argS_len : ∀ (c : Nat) (rs : List (List Sg)), rs.length ≤ (argS c rs).length
  | _, [] => Nat.le_refl _
  | c, r :: rs => by
    have := argS_len 44 rs
    show rs.length + 1 ≤ (r ++ argS 44 rs).length + 1
    rw [List.length_append]
    omega
theorem flat_len : ∀ ps : List (Str × Rv.Sc), (ps.flatMap entR).length = 2 * ps.length
  | [] => rfl
  | p :: ps => by
    rw [List.flatMap_cons, List.length_append, flat_len ps, List.length_cons]
    show 2 + _ = _
    omega
theorem sep_len (ps : List (Str × Rv.Sc)) : ps.length ≤ (sepS (ps.flatMap entR)).length := by
  cases ps with
  | nil => exact Nat.le_refl _
  | cons p ps =>
    have h := argS_len 44 ([scS p.2] :: ps.flatMap entR)
    have h2 := flat_len ps
    show ps.length + 1 ≤ ([Sg.quo p.1.cps.toList] ++ argS 44 ([scS p.2] :: ps.flatMap entR)).length
    rw [List.length_append]
    simp only [List.length_cons, List.length_nil] at h ⊢
    omega
theorem enc_app (rows : List (List Sg)) (r : List Sg) : encS rows ++ r = .mark 40 :: (sepS rows ++ .mark 41 :: r) := by
  unfold encS
  rw [List.cons_append, List.append_assoc]
  rfl
theorem map_back {ps : List (Str × Rv.Sc)} (g : Rv.Ents ps) (r : List Sg) : rdMap (encS (ps.flatMap entR) ++ r) = some (.lit (Va.m ps).d, r) := by
  rw [enc_app]
  unfold rdMap
  rw [expect_pos]
  show (match rdEnts ((sepS (ps.flatMap entR) ++ Sg.mark 41 :: r).length + 1) true (sepS (ps.flatMap entR) ++ .mark 41 :: r) with | none => none | some (es, r2) => if Rv.isValueD (.tuple [.str "map", .tuple es]) = true then some (Ex.lit (.tuple [.str "map", .tuple es]), r2) else none) = _
  rw [ents_first ps _ r (fun p hp => (g.ok p hp).2) (by have := sep_len ps; rw [List.length_append]; omega)]
  show (if Rv.isValueD (.tuple [.str "map", .tuple (ps.map Rv.ent)]) = true then some (Ex.lit (.tuple [.str "map", .tuple (ps.map Rv.ent)]), r) else none) = _
  have h : Rv.isValueD (.tuple [.str "map", .tuple (ps.map Rv.ent)]) = true := Rv.GV.value (.inr ⟨ps, g, rfl⟩)
  rw [if_pos h]
  rfl
theorem funs_ok : funs.all (fun f => (scalarOf (.name f)).isNone && (!decide (f = cs "map") && (decide (f ∈ reserved) && (!decide (f = cs "inject") && decide (1 ≤ arity f))))) = true := by decide +kernel
theorem fun_ok {f : List Nat} (h : f ∈ funs) : scalarOf (.name f) = none ∧ f ≠ cs "map" ∧ f ∈ reserved ∧ f ≠ cs "inject" ∧ 1 ≤ arity f := by
  have := List.all_eq_true.mp funs_ok f h
  simp only [Bool.and_eq_true, Bool.not_eq_true', decide_eq_false_iff_not, decide_eq_true_eq, Option.isNone_iff_eq_none] at this
  exact ⟨this.1, this.2.1, this.2.2.1, this.2.2.2.1, this.2.2.2.2⟩
theorem name_scalar {l : List Nat} (h : NameX l) : scalarOf (.name l) = none ∧ l ≠ cs "map" := by
  have hm : ∀ s ∈ reserved, l ≠ s := fun s hs z => h (z ▸ hs)
  refine ⟨?_, hm _ (by decide +kernel)⟩
  rw [scalar_name, if_neg (hm _ (by decide +kernel)), if_neg (hm _ (by decide +kernel)), if_neg (hm _ (by decide +kernel))]
mutual
theorem rd_back : ∀ {e : Ex} {n : Nat} {r : List Sg}, WrE e → e.deep ≤ n → rd n (exS e ++ r) = some (e, r)
  | .lit v, n, r, h, _ => by
    obtain ⟨va, g, rfl⟩ := h
    show rd n (vaS (Va.of va.d) ++ r) = _
    rw [Va.of_d]
    cases va with
    | s x =>
      show rd n (scS x :: r) = _
      rw [rd_cons, scalarOf_scS g]
      rfl
    | m ps =>
      show rd n (.name (cs "map") :: (encS (ps.flatMap entR) ++ r)) = _
      rw [rd_cons, show scalarOf (.name (cs "map")) = none by decide +kernel]
      show (if cs "map" = cs "map" then _ else _) = _
      rw [if_pos rfl, map_back g]
  | .var l, n, r, h, _ => by
    show rd n (.name l :: r) = _
    obtain ⟨h1, h2⟩ := name_scalar h
    rw [rd_cons, h1]
    show (if l = cs "map" then _ else if l ∉ reserved then _ else _) = _
    rw [if_neg h2, if_pos (show l ∉ reserved from h)]
  | .inj l e, 0, r, _, hd => by
    have : 1 + e.deep ≤ 0 := hd
    omega
  | .inj l e, n + 1, r, ⟨hl, h⟩, hd => by
    have ih := rd_back (e := e) (n := n) (r := .mark 41 :: r) h (by have : 1 + e.deep ≤ n + 1 := hd; omega)
    show rd (n + 1) (.name (cs "inject") :: (encS [[.name l], exS e] ++ r)) = _
    rw [rd_cons, show scalarOf (.name (cs "inject")) = none by decide +kernel]
    show (if cs "inject" = cs "map" then _ else if cs "inject" ∉ reserved then _ else if cs "inject" = cs "inject" then rdInj (rd n) (encS [[.name l], exS e] ++ r) else _) = _
    rw [if_neg (by decide +kernel), if_neg (fun z => z (by decide +kernel)), if_pos rfl, enc_app]
    have e1 : sepS [[Sg.name l], exS e] ++ .mark 41 :: r = .name l :: .mark 44 :: (exS e ++ .mark 41 :: r) := by
      show ([Sg.name l] ++ (.mark 44 :: (exS e ++ []))) ++ .mark 41 :: r = _
      rw [List.append_nil]
      rfl
    rw [e1]
    unfold rdInj
    rw [expect_pos]
    show (if l ∈ reserved then none else match expect 44 (.mark 44 :: (exS e ++ .mark 41 :: r)) with | none => none | some r2 => match rd n r2 with | none => none | some (e, r3) => match expect 41 r3 with | none => none | some r4 => some (Ex.inj l e, r4)) = _
    rw [if_neg hl, expect_pos]
    show (match rd n (exS e ++ .mark 41 :: r) with | none => none | some (e, r3) => match expect 41 r3 with | none => none | some r4 => some (Ex.inj l e, r4)) = _
    rw [ih]
    show (match expect 41 (.mark 41 :: r) with | none => none | some r4 => some (Ex.inj l e, r4)) = _
    rw [expect_pos]
  | .call f es, 0, r, _, hd => by
    have : 1 + Ex.deepAll es + (es.length - 3) ≤ 0 := hd
    omega
  | .call f es, n + 1, r, ⟨hf, hl, h⟩, hd => by
    have ih := args_back (es := es) (n := n) (c := 40) (r := .mark 41 :: r) h (by have : 1 + Ex.deepAll es + (es.length - 3) ≤ n + 1 := hd; omega)
    obtain ⟨f1, f2, f3, f4, f5⟩ := fun_ok hf
    show rd (n + 1) (.name f :: (encS (exSs es) ++ r)) = _
    rw [rd_cons, f1]
    show (if f = cs "map" then _ else if f ∉ reserved then _ else if f = cs "inject" then _ else rdCall (rd n) f (encS (exSs es) ++ r)) = _
    rw [if_neg f2, if_neg (fun z => z f3), if_neg f4, enc_app]
    have e1 : Sg.mark 40 :: (sepS (exSs es) ++ .mark 41 :: r) = argS 40 (exSs es) ++ .mark 41 :: r := by
      cases es with
      | nil => exact absurd hl (by show ¬ 0 = arity f; omega)
      | cons e es => rfl
    rw [e1]
    unfold rdCall
    rw [← hl, ih]
    show (match expect 41 (.mark 41 :: r) with | none => none | some r2 => some (Ex.call f es, r2)) = _
    rw [expect_pos]
theorem args_back : ∀ {es : List Ex} {n c : Nat} {r : List Sg}, WrEs es → Ex.deepAll es ≤ n → rdArgs (rd n) es.length c (argS c (exSs es) ++ r) = some (es, r)
  | [], n, c, r, _, _ => rfl
  | e :: es, n, c, r, ⟨h1, h2⟩, hd => by
    have hd : max e.deep (Ex.deepAll es) ≤ n := hd
    have i1 := rd_back (e := e) (n := n) (r := argS 44 (exSs es) ++ r) h1 (by omega)
    have i2 := args_back (es := es) (n := n) (c := 44) (r := r) h2 (by omega)
    have e1 : argS c (exSs (e :: es)) ++ r = .mark c :: (exS e ++ (argS 44 (exSs es) ++ r)) := by
      show Sg.mark c :: (exS e ++ argS 44 (exSs es)) ++ r = _
      rw [List.cons_append, List.append_assoc]
    rw [e1]
    show (match expect c (.mark c :: (exS e ++ (argS 44 (exSs es) ++ r))) with | none => none | some r1 => match rd n r1 with | none => none | some (e, r2) => match rdArgs (rd n) es.length 44 r2 with | none => none | some (es, r3) => some (e :: es, r3)) = _
    rw [expect_pos]
    show (match rd n (exS e ++ (argS 44 (exSs es) ++ r)) with | none => none | some (e, r2) => match rdArgs (rd n) es.length 44 r2 with | none => none | some (es, r3) => some (e :: es, r3)) = _
    rw [i1]
    show (match rdArgs (rd n) es.length 44 (argS 44 (exSs es) ++ r) with | none => none | some (es, r3) => some (e :: es, r3)) = _
    rw [i2]
end
end Rw

/-! The defs that write literals. -/
namespace Rw
open PySem PySem.Spec PyProof.Rows L2 GxR Gx Gd Rx Rs
abbrev s_scalar_sign : Stmt := topS 50
theorem sc_scalar_sign : FnScope ["scalar"] ["scalar"] (defScope s_scalar_sign) := ⟨rfl, rfl, rfl, by decide +kernel, rfl, by decide +kernel, by decide +kernel⟩
abbrev s_separated : Stmt := topS 38
theorem sc_separated : FnScope ["rows", "signs", "place", "row"] ["rows"] (defScope s_separated) := ⟨rfl, rfl, rfl, by decide +kernel, rfl, by decide +kernel, by decide +kernel⟩
abbrev s_enclosed : Stmt := topS 39
theorem sc_enclosed : FnScope ["rows"] ["rows"] (defScope s_enclosed) := ⟨rfl, rfl, rfl, by decide +kernel, rfl, by decide +kernel, by decide +kernel⟩
abbrev s_map_signs : Stmt := topS 49
theorem sc_map_signs : FnScope ["entries", "rows", "key", "scalar"] ["entries"] (defScope s_map_signs) := ⟨rfl, rfl, rfl, by decide +kernel, rfl, by decide +kernel, by decide +kernel⟩
abbrev s_literal : Stmt := topS 35
theorem sc_literal : FnScope ["value"] ["value"] (defScope s_literal) := ⟨rfl, rfl, rfl, by decide +kernel, rfl, by decide +kernel, by decide +kernel⟩
/-- a list of rows of signs -/
inductive RwAt (K : PySem.W.Frag) (H : Hp) : List V → List (List Sg) → Prop where
  | nil : RwAt K H [] []
  | cons {p : Addr} {vs xs : List V} {r : List Sg} {rows : List (List Sg)} (h : H p = some (.lst vs)) (hv : DtAll K H vs (r.map Sg.d)) (hs : RwAt K H xs rows) : RwAt K H (.ref p :: xs) (r :: rows)
theorem RwAt.kp {K : PySem.W.Frag} {H H' : Hp} (k : Kp H H') : ∀ {xs : List V} {rows : List (List Sg)}, RwAt K H xs rows → RwAt K H' xs rows
  | _, _, .nil => .nil
  | _, _, .cons h hv hs => .cons (k.keep _ _ h (by simp) nt_lst) (DtAll.kb k Lsts.nil hv) (RwAt.kp k hs)
theorem RwAt.length {K : PySem.W.Frag} {H : Hp} : ∀ {xs : List V} {rows : List (List Sg)}, RwAt K H xs rows → xs.length = rows.length
  | _, _, .nil => rfl
  | _, _, .cons _ _ hs => congrArg (· + 1) hs.length
theorem RwAt.get {K : PySem.W.Frag} {H : Hp} : ∀ {xs : List V} {rows : List (List Sg)} {i : Nat} {v : V}, RwAt K H xs rows → xs[i]? = some v → ∃ p vs r, v = .ref p ∧ rows[i]? = some r ∧ H p = some (.lst vs) ∧ DtAll K H vs (r.map Sg.d)
  | _, _, _, _, .nil, e => by simp at e
  | _, _, 0, _, .cons h hv _, e => by
    cases e
    exact ⟨_, _, _, rfl, rfl, h, hv⟩
  | _, _, i + 1, _, .cons _ _ hs, e => RwAt.get (i := i) hs e
theorem RwAt.snoc {K : PySem.W.Frag} {H : Hp} {p : Addr} {vs : List V} {r : List Sg} (h : H p = some (.lst vs)) (hv : DtAll K H vs (r.map Sg.d)) : ∀ {xs : List V} {rows : List (List Sg)}, RwAt K H xs rows → RwAt K H (xs ++ [.ref p]) (rows ++ [r])
  | _, _, .nil => .cons h hv .nil
  | _, _, .cons h1 h2 hs => .cons h1 h2 (RwAt.snoc h hv hs)
def spScS (K : PySem.W.Frag) : Sp := fun vs H Q _ => ∃ v s, vs = [v] ∧ Dt K H v (Rv.Sc.d s) ∧ s.good ∧ ∀ H' u, Kp H H' → Dt K H' u (scS s).d → Q u H'
def spSep (K : PySem.W.Frag) : Sp := fun vs H Q _ => ∃ (a : Addr) (xs : List V) (rows : List (List Sg)), vs = [.ref a] ∧ H a = some (.lst xs) ∧ RwAt K H xs rows ∧ (sepS rows).length ≤ 10000 ∧
  ∀ H' D ys, Kp H H' → H D = none → H' D = some (.lst ys) → DtAll K H' ys ((sepS rows).map Sg.d) → Q (.ref D) H'
def spEnc (K : PySem.W.Frag) : Sp := fun vs H Q _ => ∃ (a : Addr) (xs : List V) (rows : List (List Sg)), vs = [.ref a] ∧ H a = some (.lst xs) ∧ RwAt K H xs rows ∧ (sepS rows).length ≤ 10000 ∧
  ∀ H' D ys, Kp H H' → H D = none → H' D = some (.lst ys) → DtAll K H' ys ((encS rows).map Sg.d) → Q (.ref D) H'
section
variable {P : Program} {w : World} {K : PySem.W.Frag} {mg : Str → Option Value} {base : Heap}
theorem c_scalar_sign (D : DefAt K mg "_scalar_sign" s_scalar_sign ["scalar"]) (c_plain : Cal P w K mg base CX0 1 "plain" ["scalar"] (Rv.spPlain K)) : Cal P w K mg base CX0 2 "_scalar_sign" ["scalar"] (spScS K) := by
  refine D.cal (k := 1) sc_scalar_sign (fun vs H Q E h => ?_) fun f cdv A outer s H vs Q E hr h => ?_
  · obtain ⟨v, s, rfl, _⟩ := h
    rfl
  · obtain ⟨v, sc, rfl, hv, g, q⟩ := h
    refine ⟨_, (pss_cons (ps_if (pt_cmpR op_eq (pe_ix ix_tup (pv 0) pe_int (fun _ _ => rfl)) pe_str (nomark _)) (pss_one (ps_ret (pe_tup (pa_cons pe_str (pa_cons (pe_ix ix_tup (pv 0) pe_int (fun _ _ => rfl)) pa_nil))))) pss_nil)
  (pss_cons (ps_if (pt_cmpR op_eq (pe_ix ix_tup (pv 0) pe_int (fun _ _ => rfl)) pe_str (nomark _)) (pss_one (ps_ret (pe_tup (pa_cons pe_str (pa_cons (pe_ix ix_tup (pv 0) pe_int (fun _ _ => rfl)) pa_nil))))) pss_nil)
  (pss_cons (ps_if (pt_cmpR op_eq (pe_ix ix_tup (pv 0) pe_int (fun _ _ => rfl)) pe_str (nomark _)) (pss_one (ps_ret (pe_tup (pa_cons pe_str (pa_cons pe_str pa_nil))))) pss_nil)
  (pss_one (ps_ret (pe_tup (pa_cons pe_str (pa_cons (pe_cal (c_plain.mono (by omega)) hr (by rfl) (pa_cons (pv 0) pa_nil)) pa_nil)))))))), ?_⟩
    have hv0 := hv
    cases sc with
    | text x =>
      obtain ⟨p, a, b, rfl, hp, ha, hb⟩ := dt_pair hv
      cases ha
      cases hb
      refine ⟨_, rfl, p, _, 0, _, rfl, rfl, hp, atI_nat (j := 0) rfl, rfl, _, rfl, iteP rfl ⟨_, rfl, p, _, 1, _, rfl, rfl, hp, atI_nat (j := 1) rfl, by show 2 ≤ sizeLine; decide, fun t ht => ?_⟩⟩
      obtain ⟨k1, d1⟩ := new_pair (K := K) ht (.str (Str.ofString "quoted")) (.str x)
      refine q _ _ k1 ?_
      show Dt K _ _ (.tuple [.str "quoted", .str (sx x.cps.toList)])
      rw [sx_of]
      exact d1
    | int i =>
      obtain ⟨p, a, b, rfl, hp, ha, hb⟩ := dt_pair hv
      cases ha
      cases hb
      have g : 0 ≤ i ∧ i ≤ 999999 := g
      refine ⟨_, rfl, p, _, 0, _, rfl, rfl, hp, atI_nat (j := 0) rfl, rfl, _, rfl, iteN (by decide +kernel) ⟨_, rfl, p, _, 0, _, rfl, rfl, hp, atI_nat (j := 0) rfl, rfl, _, rfl, iteP rfl ⟨_, rfl, p, _, 1, _, rfl, rfl, hp, atI_nat (j := 1) rfl, by show 2 ≤ sizeLine; decide, fun t ht => ?_⟩⟩⟩
      obtain ⟨k1, d1⟩ := new_pair (K := K) ht (.str (Str.ofString "number")) (.int i)
      refine q _ _ k1 ?_
      show Dt K _ _ (.tuple [.str "number", .int (i.toNat : Int)])
      rw [show (i.toNat : Int) = i by omega]
      exact d1
    | none =>
      cases hv with
      | @tup p _ _ hp hs =>
        cases hs with
        | cons ha hs =>
          cases hs
          cases ha
          refine ⟨_, rfl, p, _, 0, _, rfl, rfl, hp, atI_nat (j := 0) rfl, rfl, _, rfl, iteN (by decide +kernel) ⟨_, rfl, p, _, 0, _, rfl, rfl, hp, atI_nat (j := 0) rfl, rfl, _, rfl, iteN (by decide +kernel) ⟨_, rfl, p, _, 0, _, rfl, rfl, hp, atI_nat (j := 0) rfl, rfl, _, rfl, iteP rfl ⟨by show 2 ≤ sizeLine; decide, fun t ht => ?_⟩⟩⟩⟩
          obtain ⟨k1, d1⟩ := new_pair (K := K) ht (.str (Str.ofString "name")) (.str (Str.ofString "none"))
          exact q _ _ k1 d1
    | bool b =>
      obtain ⟨p, a, b', rfl, hp, ha, hb⟩ := dt_pair hv
      cases ha
      cases hb
      refine ⟨_, rfl, p, _, 0, _, rfl, rfl, hp, atI_nat (j := 0) rfl, rfl, _, rfl, iteN (by decide +kernel) ⟨_, rfl, p, _, 0, _, rfl, rfl, hp, atI_nat (j := 0) rfl, rfl, _, rfl, iteN (by decide +kernel) ⟨_, rfl, p, _, 0, _, rfl, rfl, hp, atI_nat (j := 0) rfl, rfl, _, rfl, iteN (by decide +kernel) ⟨_, rfl, _, .bool b, rfl, hv0, trivial, by show 2 ≤ sizeLine; decide, fun t ht => ?_⟩⟩⟩⟩
      obtain ⟨k1, d1⟩ := new_pair (K := K) ht (.str (Str.ofString "name")) (.str (Rv.Sc.plain (.bool b)))
      refine q _ _ k1 ?_
      cases b with
      | true => exact d1
      | false => exact d1
theorem argS_snoc : ∀ (l : List (List Sg)) (c : Nat) (r : List Sg), l ≠ [] → argS c (l ++ [r]) = argS c l ++ .mark 44 :: r
  | [], _, _, h => absurd rfl h
  | [x], c, r, _ => by
    show Sg.mark c :: (x ++ (.mark 44 :: (r ++ []))) = (.mark c :: (x ++ [])) ++ .mark 44 :: r
    rw [List.append_nil, List.append_nil]
    rfl
  | x :: y :: l, c, r, _ => by
    have ih := argS_snoc (y :: l) 44 r (by simp)
    show Sg.mark c :: (x ++ argS 44 (y :: l ++ [r])) = (.mark c :: (x ++ argS 44 (y :: l))) ++ .mark 44 :: r
    rw [ih, List.cons_append, List.append_assoc]
theorem sepS_snoc : ∀ (l : List (List Sg)) (r : List Sg), sepS (l ++ [r]) = (if l.length > 0 then sepS l ++ [.mark 44] else sepS l) ++ r
  | [], r => by show r ++ [] = [] ++ r; simp
  | [x], r => by
    rw [if_pos (by simp)]
    show x ++ (.mark 44 :: (r ++ [])) = (x ++ [] ++ [.mark 44]) ++ r
    simp
  | x :: y :: l, r => by
    rw [if_pos (by simp)]
    show x ++ argS 44 (y :: l ++ [r]) = (x ++ argS 44 (y :: l) ++ [.mark 44]) ++ r
    rw [argS_snoc _ _ _ (by simp)]
    simp
theorem sep_take (rows : List (List Sg)) (i : Nat) : (sepS (rows.take i)).length ≤ (sepS rows).length := by
  have h : ∀ (l : List (List Sg)) (c i : Nat), (argS c (l.take i)).length ≤ (argS c l).length := fun l => by
    induction l with
    | nil => intro c i; rw [List.take_nil]; exact Nat.le_refl _
    | cons x l ih =>
      intro c i
      cases i with
      | zero => exact Nat.zero_le _
      | succ i =>
        have := ih 44 i
        show (x ++ argS 44 (l.take i)).length + 1 ≤ (x ++ argS 44 l).length + 1
        rw [List.length_append, List.length_append]
        omega
  cases rows with
  | nil => rw [List.take_nil]; exact Nat.le_refl _
  | cons x l =>
    cases i with
    | zero => exact Nat.zero_le _
    | succ i =>
      have := h l 44 i
      show (x ++ argS 44 (l.take i)).length ≤ (x ++ argS 44 l).length
      rw [List.length_append, List.length_append]
      omega
theorem DtAll.app {K : PySem.W.Frag} {H : Hp} : ∀ {xs ys : List V} {ds es : List PyData}, DtAll K H xs ds → DtAll K H ys es → DtAll K H (xs ++ ys) (ds ++ es)
  | _, _, _, _, .nil, h => h
  | _, _, _, _, .cons h hs, h2 => .cons h (DtAll.app hs h2)
theorem c_separated {aC : Addr} (D : DefAt K mg "separated" s_separated ["rows"]) (m_enumerate : mg "enumerate" = none) (g_COMMA : mg "COMMA" = some (.ref aC)) (hC : ∀ H, Dt K H (.ref aC) (Sg.mark 44).d) : Cal P w K mg base CX0 1 "separated" ["rows"] (spSep K) := by
  refine D.cal (k := 0) sc_separated (fun vs H Q E h => ?_) fun f cdv A outer s H vs Q E hr h => ?_
  · obtain ⟨a, xs, rows, rfl, _⟩ := h
    rfl
  · obtain ⟨a, xs, rows, rfl, ha, hrw, hz, q⟩ := h
    refine ⟨_, (pss_cons (ps_set (i := 1) sc_separated.nd rfl (Or.inl rfl) (pe_lst pa_nil))
  (pss_cons (ps_for PassesOwn.never rfl (pi_enum (by rfl) m_enumerate (pa_cons (pv 0) pa_nil)) (pg_tup rfl (pgs_cons (pg_name (i := 2) sc_separated.nd rfl (Or.inl rfl)) (pgs_cons (pg_name (i := 3) sc_separated.nd rfl (Or.inl rfl)) pgs_nil))) (pss_cons (ps_if (pt_cmpR op_gt (pv 2) pe_int (nomark _)) (pss_one (ps_expr (pe_bm PySem.F.plainAttrs_list PySem.F.slot_list_append PySem.F.type_list_append mt_append (pv 1) (pa_cons (pe_glob (v := .ref aC) rfl g_COMMA rfl) pa_nil)))) pss_nil)
  (pss_one (ps_expr (pe_bm PySem.F.plainAttrs_list PySem.F.slot_list_extend PySem.F.type_list_extend mt_extend (pv 1) (pa_cons (pv 3) pa_nil))))))
  (pss_one (ps_ret (pv 1))))), ?_⟩
    have sz : sizeLine = 16777216 := rfl
    refine ⟨by show 0 ≤ sizeLine; decide, fun L hL => ?_⟩
    have k0 : Kp H (upd H L (.lst [])) := Kb.new hL
    have e0 : (upd H L (.lst [])) L = some (.lst []) := upd_same
    generalize upd H L (.lst []) = H1 at k0 e0 ⊢
    have ha1 := k0.keep _ _ ha (by simp) nt_lst
    have hl := hrw.length
    refine ⟨_, rfl, a, xs, rfl, .inl (.inl ha1), ?_⟩
    refine for_it walk_enum (fun i σ H' => Kp H H' ∧ (∃ o2 o3, σ = [some (.ref a), some (.ref L), o2, o3]) ∧ ∃ ys, H' L = some (.lst ys) ∧ DtAll K H' ys ((sepS (rows.take i)).map Sg.d)) ⟨k0, ⟨none, none, rfl⟩, [], e0, .nil⟩ (fun i σ H' _ h => .inl (.inl (h.1.keep _ _ ha (by simp) nt_lst))) ?_ ?_
    · rintro i x σ H2 _ hi ⟨k, ⟨o2, o3, rfl⟩, ys, eL, ds⟩ ⟨T, y1, y2, rfl, hT, rfl, hy1, hy2⟩
      cases hy1
      have k1 : Kp H2 (upd H2 T (.tup [.int (i : Nat), y2])) := Kb.new hT
      have sT : SqT K (upd H2 T (.tup [.int (i : Nat), y2])) T [.int (i : Nat), y2] := SqT.of upd_same
      generalize upd H2 T (.tup [.int (i : Nat), y2]) = H3 at k1 sT ⊢
      have k3 := k.trans k1
      obtain ⟨p, vs, r, rfl, hr, hp, hv⟩ := (hrw.kp k3).get (show xs[i]? = some y2 from hy2)
      have eL3 := k1.keep _ _ eL (by simp) nt_lst
      have ds3 := DtAll.kb k1 Lsts.nil ds
      have hst : sepS (rows.take (i + 1)) = (if i > 0 then sepS (rows.take i) ++ [.mark 44] else sepS (rows.take i)) ++ r := by
        rw [List.take_add_one, hr]
        show sepS (rows.take i ++ [r]) = _
        rw [sepS_snoc, show (rows.take i).length = i by rw [List.length_take]; omega]
      have hlen := sep_take rows (i + 1)
      rw [hst, List.length_append] at hlen
      have hLp : L ≠ p := fun z => by
        obtain ⟨p', vs', r', e1, _, hp', _⟩ := hrw.get (show xs[i]? = some (.ref p) from hy2)
        cases e1
        rw [← z, hL] at hp'
        cases hp'
      -- the end of a turn
      have fin : ∀ (H4 : Hp) (ys4 : List V) (ss : List Sg), Kp H H4 → H4 L = some (.lst ys4) → DtAll K H4 ys4 (ss.map Sg.d) → ss = (if i > 0 then sepS (rows.take i) ++ [.mark 44] else sepS (rows.take i)) → H4 p = some (.lst vs) → DtAll K H4 vs (r.map Sg.d) →
          ys4.length + vs.length ≤ sizeLine ∧ Kp H (upd H4 L (.lst (ys4 ++ vs))) ∧ DtAll K (upd H4 L (.lst (ys4 ++ vs))) (ys4 ++ vs) ((sepS (rows.take (i + 1))).map Sg.d) := fun H4 ys4 ss k4 e4 d4 es hp4 hv4 => by
        have l1 := d4.length
        have l2 := hv4.length
        rw [List.length_map] at l1 l2
        refine ⟨?_, k4.mut hL (no_tab e4 nt_lst), ?_⟩
        · rw [l1, l2, es]; omega
        · rw [hst, ← es, List.map_append]
          exact DtAll.kb (Kb.put (S := [L]) (by simp) e4 nt_lst) (fun b hb => by rw [List.mem_singleton.mp hb]; exact ⟨_, e4⟩) (DtAll.app d4 hv4)
      refine ⟨T, _, rfl, sT, rfl, _, _, rfl, _, _, rfl, rfl, _, rfl, _, _, rfl, rfl, _, rfl, ?_⟩
      by_cases hi0 : i > 0
      · rw [if_pos hi0] at fin
        have hys : ys.length < sizeLine := by
          have := ds3.length
          rw [List.length_map] at this
          have := sep_take rows i
          omega
        refine iteP (by omega) ⟨_, rfl, .inl ⟨rfl, _, .inl (.inl eL3)⟩, L, ys, .ref aC, rfl, rfl, eL3, hys, ?_⟩
        have k4 : Kp H (upd H3 L (.lst (ys ++ [.ref aC]))) := k3.mut hL (no_tab eL3 nt_lst)
        have kb4 : Kb [L] H3 (upd H3 L (.lst (ys ++ [.ref aC]))) := Kb.put (by simp) eL3 nt_lst
        have hS : Lsts [L] H3 := fun b hb => by rw [List.mem_singleton.mp hb]; exact ⟨_, eL3⟩
        have e4 : (upd H3 L (.lst (ys ++ [.ref aC]))) L = some (.lst (ys ++ [.ref aC])) := upd_same
        have d4 : DtAll K (upd H3 L (.lst (ys ++ [.ref aC]))) (ys ++ [.ref aC]) ((sepS (rows.take i) ++ [Sg.mark 44]).map Sg.d) := by
          rw [List.map_append]
          exact DtAll.app (DtAll.kb kb4 hS ds3) (.cons (hC _) .nil)
        have hp4 : (upd H3 L (.lst (ys ++ [.ref aC]))) p = some (.lst vs) := by rw [upd_ne hLp.symm]; exact hp
        have hv4 := DtAll.kb kb4 hS hv
        generalize upd H3 L (.lst (ys ++ [.ref aC])) = H4 at k4 e4 d4 hp4 hv4 ⊢
        obtain ⟨f1, f2, f3⟩ := fin H4 _ _ k4 e4 d4 rfl hp4 hv4
        exact ⟨_, rfl, .inl ⟨rfl, _, .inl (.inl e4)⟩, _, rfl, L, p, _, _, rfl, rfl, e4, hp4, f1, f2, ⟨_, _, rfl⟩, _, upd_same, f3⟩
      · rw [if_neg hi0] at fin
        refine iteN (by omega) ?_
        obtain ⟨f1, f2, f3⟩ := fin H3 _ _ k3 eL3 ds3 rfl hp hv
        exact ⟨_, rfl, .inl ⟨rfl, _, .inl (.inl eL3)⟩, _, rfl, L, p, _, _, rfl, rfl, eL3, hp, f1, f2, ⟨_, _, rfl⟩, _, upd_same, f3⟩
    · rintro σ H2 ⟨k, ⟨o2, o3, rfl⟩, ys, eL, ds⟩
      rw [hl, List.take_length] at ds
      exact ⟨_, rfl, q H2 L ys k hL eL ds⟩
theorem c_enclosed {aL aR : Addr} (D : DefAt K mg "enclosed" s_enclosed ["rows"]) (g_LEFT : mg "LEFT" = some (.ref aL)) (hL : ∀ H, Dt K H (.ref aL) (Sg.mark 40).d) (g_RIGHT : mg "RIGHT" = some (.ref aR)) (hR : ∀ H, Dt K H (.ref aR) (Sg.mark 41).d)
    (c_separated : Cal P w K mg base CX0 1 "separated" ["rows"] (spSep K)) : Cal P w K mg base CX0 2 "enclosed" ["rows"] (spEnc K) := by
  refine D.cal (k := 1) sc_enclosed (fun vs H Q E h => ?_) fun f cdv A outer s H vs Q E hr h => ?_
  · obtain ⟨a, xs, rows, rfl, _⟩ := h
    rfl
  · obtain ⟨a, xs, rows, rfl, ha, hrw, hz, q⟩ := h
    refine ⟨_, (pss_one (ps_ret (pe_op op_cat (pe_op op_cat (pe_lst (pa_cons (pe_glob (v := .ref aL) rfl g_LEFT rfl) pa_nil)) (pe_cal (c_separated.mono (by omega)) hr (by rfl) (pa_cons (pv 0) pa_nil))) (pe_lst (pa_cons (pe_glob (v := .ref aR) rfl g_RIGHT rfl) pa_nil))))), ?_⟩
    have sz : sizeLine = 16777216 := rfl
    refine ⟨by show 1 ≤ sizeLine; decide, fun p1 h1 => ?_⟩
    have k1 : Kp H (upd H p1 (.lst [.ref aL])) := Kb.new h1
    have e1 : (upd H p1 (.lst [.ref aL])) p1 = some (.lst [.ref aL]) := upd_same
    generalize upd H p1 (.lst [.ref aL]) = H1 at k1 e1 ⊢
    refine ⟨_, rfl, a, xs, rows, rfl, k1.keep _ _ ha (by simp) nt_lst, hrw.kp k1, hz, fun H2 D2 ys k2 _ e2 d2 => ?_⟩
    have hl : ys.length = (sepS rows).length := by rw [d2.length, List.length_map]
    refine ⟨p1, D2, _, _, rfl, rfl, k2.keep _ _ e1 (by simp) nt_lst, e2, by show 1 + ys.length ≤ _; omega, fun p3 h3 => ?_⟩
    have k3 : Kp H2 (upd H2 p3 (.lst ([.ref aL] ++ ys))) := Kb.new h3
    have e3 : (upd H2 p3 (.lst ([.ref aL] ++ ys))) p3 = some (.lst ([.ref aL] ++ ys)) := upd_same
    have d3 : DtAll K (upd H2 p3 (.lst ([.ref aL] ++ ys))) ([.ref aL] ++ ys) ((Sg.mark 40 :: sepS rows).map Sg.d) := .cons (hL _) (DtAll.kb k3 Lsts.nil d2)
    generalize upd H2 p3 (.lst ([.ref aL] ++ ys)) = H3 at k3 e3 d3 ⊢
    refine ⟨by show 1 ≤ sizeLine; decide, fun p4 h4 => ?_⟩
    have k4 : Kp H3 (upd H3 p4 (.lst [.ref aR])) := Kb.new h4
    have e4 : (upd H3 p4 (.lst [.ref aR])) p4 = some (.lst [.ref aR]) := upd_same
    have d4 := DtAll.kb k4 Lsts.nil d3
    generalize upd H3 p4 (.lst [.ref aR]) = H4 at k4 e4 d4 ⊢
    refine ⟨p3, p4, _, _, rfl, rfl, k4.keep _ _ e3 (by simp) nt_lst, e4, by rw [List.length_append, List.length_singleton, List.length_singleton]; omega, fun p5 h5 => ?_⟩
    have k5 : Kp H4 (upd H4 p5 (.lst (([.ref aL] ++ ys) ++ [.ref aR]))) := Kb.new h5
    refine q _ p5 _ ((((k1.trans k2).trans k3).trans k4).trans k5) ?_ upd_same ?_
    · exact (((k1.trans k2).trans k3).trans k4).free p5 h5
    · have e : (encS rows).map Sg.d = (Sg.mark 40 :: sepS rows).map Sg.d ++ [Sg.mark 41].map Sg.d := by
        rw [← List.map_append]
        rfl
      rw [e]
      exact DtAll.app (DtAll.kb k5 Lsts.nil d4) (.cons (hR _) .nil)
end
end Rw

namespace Rw
open PySem PySem.Spec PyProof.Rows L2 GxR Gx Gd Rx Rs
theorem RwAt.put {K : PySem.W.Frag} {H : Hp} {D : Addr} {us ws : List V} (e : H D = some (.lst us)) : ∀ {xs : List V} {rows : List (List Sg)}, RwAt K H xs rows → (∀ x ∈ xs, x ≠ .ref D) → RwAt K (upd H D (.lst ws)) xs rows
  | _, _, .nil, _ => .nil
  | _, _, .cons (p := p) h hv hs, hn => by
    have hp : p ≠ D := fun z => hn (.ref p) (by simp) (by rw [z])
    refine .cons (by rw [upd_ne hp]; exact h) (DtAll.kb (Kb.put (S := [D]) (by simp) e nt_lst) (fun b hb => by rw [List.mem_singleton.mp hb]; exact ⟨_, e⟩) hv) (RwAt.put e hs fun x hx => hn x (by simp [hx]))
theorem arg_ones : ∀ (rows : List (List Sg)) (c : Nat), (∀ r ∈ rows, r.length = 1) → (argS c rows).length = 2 * rows.length
  | [], _, _ => rfl
  | r :: rows, c, h => by
    have ih := arg_ones rows 44 fun x hx => h x (List.mem_cons_of_mem _ hx)
    have h1 := h r List.mem_cons_self
    show (r ++ argS 44 rows).length + 1 = 2 * (rows.length + 1)
    rw [List.length_append, ih, h1]
    omega
theorem sep_le (rows : List (List Sg)) : (sepS rows).length ≤ (argS 44 rows).length := by
  cases rows with
  | nil => exact Nat.le_refl _
  | cons r rows =>
    show (r ++ argS 44 rows).length ≤ (r ++ argS 44 rows).length + 1
    omega
theorem ent_ones : ∀ (ps : List (Str × Rv.Sc)), ∀ r ∈ ps.flatMap entR, r.length = 1 := fun ps r hr => by
  obtain ⟨p, _, hp⟩ := List.mem_flatMap.mp hr
  simp only [entR, List.mem_cons, List.not_mem_nil, or_false] at hp
  rcases hp with rfl | rfl <;> rfl
theorem map_sep_le {ps : List (Str × Rv.Sc)} (h : ps.length ≤ 8) : (sepS (ps.flatMap entR)).length ≤ 32 := by
  have h1 := sep_le (ps.flatMap entR)
  rw [arg_ones _ _ (ent_ones ps), flat_len] at h1
  omega
def spMapS (K : PySem.W.Frag) : Sp := fun vs H Q _ => ∃ (b : Addr) (xs : List V) (ps : List (Str × Rv.Sc)), vs = [.ref b] ∧ SqT K H b xs ∧ DtAll K H xs (ps.map Rv.ent) ∧ Rv.Ents ps ∧
  ∀ H' D ys, Kp H H' → H D = none → H' D = some (.lst ys) → DtAll K H' ys ((mapS ps).map Sg.d) → Q (.ref D) H'
def spLit (K : PySem.W.Frag) : Sp := fun vs H Q _ => ∃ (v : V) (va : Va), vs = [v] ∧ Dt K H v va.d ∧ va.good ∧
  ∀ H' D ys, Kp H H' → H D = none → H' D = some (.lst ys) → DtAll K H' ys ((vaS va).map Sg.d) → Q (.ref D) H'
section
variable {P : Program} {w : World} {K : PySem.W.Frag} {mg : Str → Option Value} {base : Heap}
theorem c_map_signs (D : DefAt K mg "_map_signs" s_map_signs ["entries"]) (c__scalar_sign : Cal P w K mg base CX0 2 "_scalar_sign" ["scalar"] (spScS K)) (c_enclosed : Cal P w K mg base CX0 2 "enclosed" ["rows"] (spEnc K)) : Cal P w K mg base CX0 3 "_map_signs" ["entries"] (spMapS K) := by
  refine D.cal (k := 2) sc_map_signs (fun vs H Q E h => ?_) fun f cdv A outer s H vs Q E hr h => ?_
  · obtain ⟨b, xs, ps, rfl, _⟩ := h
    rfl
  · obtain ⟨b, xs, ps, rfl, hb, hx, g, q⟩ := h
    refine ⟨_, (pss_cons (ps_set (i := 1) sc_map_signs.nd rfl (Or.inl rfl) (pe_lst pa_nil))
  (pss_cons (ps_for PassesOwn.never rfl (pi_tup (pv 0)) (pg_tup rfl (pgs_cons (pg_name (i := 2) sc_map_signs.nd rfl (Or.inl rfl)) (pgs_cons (pg_name (i := 3) sc_map_signs.nd rfl (Or.inl rfl)) pgs_nil))) (pss_cons (ps_expr (pe_bm PySem.F.plainAttrs_list PySem.F.slot_list_append PySem.F.type_list_append mt_append (pv 1) (pa_cons (pe_lst (pa_cons (pe_tup (pa_cons pe_str (pa_cons (pv 2) pa_nil))) pa_nil)) pa_nil)))
  (pss_one (ps_expr (pe_bm PySem.F.plainAttrs_list PySem.F.slot_list_append PySem.F.type_list_append mt_append (pv 1) (pa_cons (pe_lst (pa_cons (pe_cal (c__scalar_sign.mono (by omega)) hr (by rfl) (pa_cons (pv 3) pa_nil)) pa_nil)) pa_nil))))))
  (pss_one (ps_ret (pe_op op_cat (pe_lst (pa_cons (pe_tup (pa_cons pe_str (pa_cons pe_str pa_nil))) pa_nil)) (pe_cal (c_enclosed.mono (by omega)) hr (by rfl) (pa_cons (pv 1) pa_nil))))))), ?_⟩
    have sz : sizeLine = 16777216 := rfl
    have g8 := g.len
    have hl : xs.length = ps.length := by rw [hx.length, List.length_map]
    refine ⟨by show 0 ≤ sizeLine; decide, fun L hL => ?_⟩
    have k0 : Kp H (upd H L (.lst [])) := Kb.new hL
    have e0 : (upd H L (.lst [])) L = some (.lst []) := upd_same
    generalize upd H L (.lst []) = H1 at k0 e0 ⊢
    refine ⟨_, rfl, b, rfl, ⟨xs, k0.sqT Lsts.nil hb⟩, ?_⟩
    refine for_it walk_tup (fun i σ H' => Kp H H' ∧ (∃ o2 o3, σ = [some (.ref b), some (.ref L), o2, o3]) ∧ ∃ ws, H' L = some (.lst ws) ∧ RwAt K H' ws ((ps.take i).flatMap entR) ∧ ∀ x ∈ ws, x ≠ .ref L) ⟨k0, ⟨none, none, rfl⟩, [], e0, .nil, fun x h => by simp at h⟩ (fun i σ H' _ h => h.1.sqT Lsts.nil hb) ?_ ?_
    · rintro i x σ _ H2 hi ⟨k, ⟨o2, o3, rfl⟩, ws, eL, rw0, hne⟩ ⟨rfl, hx'⟩
      have hi2 : i < ps.length := by omega
      obtain ⟨d, hd, dv⟩ := (DtAll.kb k Lsts.nil hx).get hx'
      rw [List.getElem?_map, List.getElem?_eq_getElem hi2] at hd
      obtain rfl : Rv.ent ps[i] = d := Option.some.inj hd
      obtain ⟨t, y, z, rfl, ht, hy, hz⟩ := dt_pair dv
      cases hy
      have gs := (g.ok ps[i] (List.getElem_mem hi2)).2
      have hwl : ws.length = 2 * i := by
        rw [rw0.length, flat_len, List.length_take]
        omega
      refine ⟨t, _, rfl, ht, rfl, _, _, rfl, _, _, rfl, rfl, _, rfl, .inl ⟨rfl, _, .inl (.inl eL)⟩, _, rfl, by show 2 ≤ sizeLine; decide, fun t1 h1 => ⟨by show 1 ≤ sizeLine; decide, fun l1 hl1 => ?_⟩⟩
      obtain ⟨k1, d1⟩ := new_pair (K := K) h1 (.str (Str.ofString "quoted")) (.str ps[i].1)
      generalize upd H2 t1 (.tup [.str (Str.ofString "quoted"), .str ps[i].1]) = H3 at k1 d1 hl1 ⊢
      have eL3 := k1.keep _ _ eL (by simp) nt_lst
      have n1 : l1 ≠ L := fun z => by rw [z, eL3] at hl1; cases hl1
      have k2 : Kp H3 (upd H3 l1 (.lst [.ref t1])) := Kb.new hl1
      have e2 : (upd H3 l1 (.lst [.ref t1])) l1 = some (.lst [.ref t1]) := upd_same
      have d2 := d1.kb k2 Lsts.nil
      have hz2 := (hz.kb k1 Lsts.nil).kb k2 Lsts.nil
      generalize upd H3 l1 (.lst [.ref t1]) = H4 at k2 e2 d2 hz2 ⊢
      have eL4 := k2.keep _ _ eL3 (by simp) nt_lst
      have rw4 := (rw0.kp k1).kp k2
      have r1 : DtAll K H4 [.ref t1] ([Sg.quo ps[i].1.cps.toList].map Sg.d) := .cons (by show Dt K H4 (.ref t1) (.tuple [.str "quoted", .str (sx ps[i].1.cps.toList)]); rw [sx_of]; exact d2) .nil
      refine ⟨L, ws, .ref l1, rfl, rfl, eL4, by omega, ?_⟩
      have rw5 := (RwAt.snoc e2 r1 rw4).put (ws := ws ++ [.ref l1]) eL4 (fun x hx => by
        rcases List.mem_append.mp hx with h | h
        · exact hne x h
        · rw [List.mem_singleton.mp h]; exact fun z => n1 (V.ref.inj z))
      have k5 : Kp H (upd H4 L (.lst (ws ++ [.ref l1]))) := ((k.trans k1).trans k2).mut hL (no_tab eL4 nt_lst)
      have hz5 := hz2.kb (Kb.put (S := [L]) (o := .lst (ws ++ [.ref l1])) (by simp) eL4 nt_lst) (fun b hb => by rw [List.mem_singleton.mp hb]; exact ⟨_, eL4⟩)
      have eL5 : (upd H4 L (.lst (ws ++ [.ref l1]))) L = some (.lst (ws ++ [.ref l1])) := upd_same
      generalize upd H4 L (.lst (ws ++ [.ref l1])) = H5 at rw5 k5 hz5 eL5 ⊢
      refine ⟨_, rfl, .inl ⟨rfl, _, .inl (.inl eL5)⟩, _, rfl, z, ps[i].2, rfl, hz5, gs, fun H6 u6 k6 d6 => ⟨by show 1 ≤ sizeLine; decide, fun l2 hl2 => ?_⟩⟩
      have eL6 := k6.keep _ _ eL5 (by simp) nt_lst
      have n2 : l2 ≠ L := fun z => by rw [z, eL6] at hl2; cases hl2
      have k7 : Kp H6 (upd H6 l2 (.lst [u6])) := Kb.new hl2
      have e7 : (upd H6 l2 (.lst [u6])) l2 = some (.lst [u6]) := upd_same
      have d7 := d6.kb k7 Lsts.nil
      generalize upd H6 l2 (.lst [u6]) = H7 at k7 e7 d7 ⊢
      have eL7 := k7.keep _ _ eL6 (by simp) nt_lst
      have rw7 := (rw5.kp k6).kp k7
      have r2 : DtAll K H7 [u6] ([scS ps[i].2].map Sg.d) := .cons d7 .nil
      have hne7 : ∀ x ∈ ws ++ [.ref l1] ++ [.ref l2], x ≠ V.ref L := fun x hx => by
        rcases List.mem_append.mp hx with h | h
        · rcases List.mem_append.mp h with h | h
          · exact hne x h
          · rw [List.mem_singleton.mp h]; exact fun z => n1 (V.ref.inj z)
        · rw [List.mem_singleton.mp h]; exact fun z => n2 (V.ref.inj z)
      refine ⟨L, ws ++ [.ref l1], .ref l2, rfl, rfl, eL7, by rw [List.length_append, List.length_singleton]; omega, ?_⟩
      have rw8 := (RwAt.snoc e7 r2 rw7).put (ws := ws ++ [.ref l1] ++ [.ref l2]) eL7 hne7
      refine ⟨((k5.trans k6).trans k7).mut hL (no_tab eL7 nt_lst), ⟨_, _, rfl⟩, _, upd_same, ?_, hne7⟩
      have et : (ps.take (i + 1)).flatMap entR = ((ps.take i).flatMap entR ++ [[Sg.quo ps[i].1.cps.toList]]) ++ [[scS ps[i].2]] := by
        rw [List.take_add_one, List.getElem?_eq_getElem hi2]
        show (ps.take i ++ [ps[i]]).flatMap entR = _
        rw [List.flatMap_append, List.append_assoc]
        rfl
      rw [et]
      exact rw8
    · rintro σ H2 ⟨k, ⟨o2, o3, rfl⟩, ws, eL, rw0, hne⟩
      rw [hl, List.take_length] at rw0
      refine ⟨by show 2 ≤ sizeLine; decide, fun t1 h1 => ⟨by show 1 ≤ sizeLine; decide, fun l1 hl1 => ?_⟩⟩
      obtain ⟨k1, d1⟩ := new_pair (K := K) h1 (.str (Str.ofString "name")) (.str (Str.ofString "map"))
      generalize upd H2 t1 (.tup [.str (Str.ofString "name"), .str (Str.ofString "map")]) = H3 at k1 d1 hl1 ⊢
      have k2 : Kp H3 (upd H3 l1 (.lst [.ref t1])) := Kb.new hl1
      have e2 : (upd H3 l1 (.lst [.ref t1])) l1 = some (.lst [.ref t1]) := upd_same
      have d2 := d1.kb k2 Lsts.nil
      generalize upd H3 l1 (.lst [.ref t1]) = H4 at k2 e2 d2 ⊢
      have k12 := k1.trans k2
      refine ⟨_, rfl, L, ws, _, rfl, k12.keep _ _ eL (by simp) nt_lst, rw0.kp k12, Nat.le_trans (map_sep_le g8) (by decide), fun H5 D5 ys k5 _ e5 d5 => ?_⟩
      have hyl : ys.length ≤ 100 := by
        have := map_sep_le g8
        rw [d5.length, List.length_map]
        show ((sepS (ps.flatMap entR) ++ [Sg.mark 41]).length + 1) ≤ 100
        rw [List.length_append, List.length_singleton]
        omega
      refine ⟨l1, D5, _, _, rfl, rfl, k5.keep _ _ e2 (by simp) nt_lst, e5, by rw [List.length_singleton]; omega, fun p6 h6 => ?_⟩
      have k6 : Kp H5 (upd H5 p6 (.lst ([.ref t1] ++ ys))) := Kb.new h6
      have k05 := (k.trans k12).trans k5
      refine q _ p6 _ (k05.trans k6) (k05.free p6 h6) upd_same ?_
      exact .cons ((d2.kb k5 Lsts.nil).kb k6 Lsts.nil) (DtAll.kb k6 Lsts.nil d5)
theorem c_literal (D : DefAt K mg "literal" s_literal ["value"]) (c__scalar_sign : Cal P w K mg base CX0 2 "_scalar_sign" ["scalar"] (spScS K)) (c__map_signs : Cal P w K mg base CX0 3 "_map_signs" ["entries"] (spMapS K)) : Cal P w K mg base CX0 4 "literal" ["value"] (spLit K) := by
  refine D.cal (k := 3) sc_literal (fun vs H Q E h => ?_) fun f cdv A outer s H vs Q E hr h => ?_
  · obtain ⟨v, va, rfl, _⟩ := h
    rfl
  · obtain ⟨v, va, rfl, hv, g, q⟩ := h
    refine ⟨_, (pss_cons (ps_if (pt_cmpR op_eq (pe_ix ix_tup (pv 0) pe_int (fun _ _ => rfl)) pe_str (nomark _)) (pss_one (ps_ret (pe_cal (c__map_signs.mono (by omega)) hr (by rfl) (pa_cons (pe_ix ix_tup (pv 0) pe_int (fun _ _ => rfl)) pa_nil)))) pss_nil)
  (pss_one (ps_ret (pe_lst (pa_cons (pe_cal (c__scalar_sign.mono (by omega)) hr (by rfl) (pa_cons (pv 0) pa_nil)) pa_nil))))), ?_⟩
    cases va with
    | m ps =>
      obtain ⟨p, x, y, rfl, hp, hx, hy⟩ := dt_pair (show Dt K H v (.tuple [.str (Str.ofString "map"), .tuple (ps.map Rv.ent)]) from hv)
      cases hx
      cases hy with
      | tup hb hs => exact ⟨_, rfl, p, _, 0, _, rfl, rfl, hp, atI_nat (j := 0) rfl, rfl, _, rfl, iteP rfl ⟨_, rfl, p, _, 1, _, rfl, rfl, hp, atI_nat (j := 1) rfl, _, _, ps, rfl, hb, hs, g, q⟩⟩
    | s x =>
      have hv : Dt K H v x.d := hv
      have hv0 := hv
      obtain ⟨p, xs, wd, rfl, hp, h0, hm⟩ : ∃ p xs wd, v = .ref p ∧ SqT K H p xs ∧ xs[0]? = some (.str (Str.ofString wd)) ∧ (Str.ofString wd ≠ Str.ofString "map") := by
        cases x with
        | none =>
          cases hv with
          | @tup p _ _ hp hs =>
            cases hs with
            | cons ha hs =>
              cases ha
              exact ⟨_, _, "none", rfl, hp, rfl, by decide +kernel⟩
        | bool b => obtain ⟨p, x, y, rfl, hp, hx, hy⟩ := dt_pair hv; cases hx; exact ⟨_, _, "bool", rfl, hp, rfl, by decide +kernel⟩
        | int b => obtain ⟨p, x, y, rfl, hp, hx, hy⟩ := dt_pair hv; cases hx; exact ⟨_, _, "int", rfl, hp, rfl, by decide +kernel⟩
        | text b => obtain ⟨p, x, y, rfl, hp, hx, hy⟩ := dt_pair hv; cases hx; exact ⟨_, _, "text", rfl, hp, rfl, by decide +kernel⟩
      refine ⟨_, rfl, p, _, 0, _, rfl, rfl, hp, atI_nat (j := 0) h0, rfl, _, rfl, iteN (fun z => hm (V.str.inj z)) ⟨_, rfl, .ref p, x, rfl, hv0, g, fun H1 u k1 d1 => ⟨by show 1 ≤ sizeLine; decide, fun l hl => ?_⟩⟩⟩
      have k2 : Kp H1 (upd H1 l (.lst [u])) := Kb.new hl
      exact q _ l _ (k1.trans k2) (k1.free l hl) upd_same (.cons (d1.kb k2 Lsts.nil) .nil)
end
end Rw

namespace Rw
open PySem PySem.Spec PyProof.Rows L2 GxR Gx Gd Rx Rs
abbrev s_expression_signs : Stmt := topS 58
theorem sc_expression_signs : FnScope ["expression", "kind", "rows", "inner"] ["expression"] (defScope s_expression_signs) := ⟨rfl, rfl, rfl, by decide +kernel, rfl, by decide +kernel, by decide +kernel⟩
theorem exSs_map : ∀ es : List Ex, exSs es = es.map exS
  | [] => rfl
  | e :: es => by show exS e :: exSs es = _; rw [exSs_map es]; rfl
theorem wrEs_iff : ∀ {es : List Ex}, WrEs es ↔ ∀ e ∈ es, WrE e
  | [] => ⟨(fun _ _ h => by cases h), fun _ => trivial⟩
  | e :: es => by
    constructor
    · rintro ⟨h1, h2⟩ x hx
      rcases List.mem_cons.mp hx with rfl | hx
      · exact h1
      · exact wrEs_iff.mp h2 x hx
    · exact fun h => ⟨h e List.mem_cons_self, wrEs_iff.mpr fun x hx => h x (List.mem_cons_of_mem _ hx)⟩
theorem inner_wr {e x : Ex} (h : WrE e) (hx : x ∈ innerOf e) : WrE x := by
  cases e with
  | lit v => cases hx
  | var l => cases hx
  | call f es => exact wrEs_iff.mp h.2.2 x hx
  | inj l e => rw [List.mem_singleton.mp hx]; exact h.2
theorem arg_mem : ∀ (rows : List (List Sg)) (c : Nat) {r : List Sg}, r ∈ rows → r.length + 1 ≤ (argS c rows).length
  | x :: rows, c, r, h => by
    show r.length + 1 ≤ (x ++ argS 44 rows).length + 1
    rw [List.length_append]
    rcases List.mem_cons.mp h with rfl | h
    · omega
    · have := arg_mem rows 44 h
      omega
theorem sep_mem {rows : List (List Sg)} {r : List Sg} (h : r ∈ rows) : r.length ≤ (sepS rows).length := by
  cases rows with
  | nil => cases h
  | cons x rows =>
    show r.length ≤ (x ++ argS 44 rows).length
    rw [List.length_append]
    rcases List.mem_cons.mp h with rfl | h
    · omega
    · have := arg_mem rows 44 h
      omega
theorem enc_len (rows : List (List Sg)) : (encS rows).length = (sepS rows).length + 2 := by
  show ((sepS rows ++ [Sg.mark 41]).length + 1) = _
  rw [List.length_append, List.length_singleton]
theorem inner_len2 {e x : Ex} (hx : x ∈ innerOf e) : (exS x).length ≤ (exS e).length := by
  cases e with
  | lit v => cases hx
  | var l => cases hx
  | call f es =>
    have h : exS x ∈ exSs es := by rw [exSs_map]; exact List.mem_map_of_mem hx
    have := sep_mem h
    show _ ≤ (encS (exSs es)).length + 1
    rw [enc_len]
    omega
  | inj l e =>
    rw [List.mem_singleton.mp hx]
    have := sep_mem (rows := [[Sg.name l], exS e]) (r := exS e) (by simp)
    show _ ≤ (encS [[.name l], exS e]).length + 1
    rw [enc_len]
    omega
theorem inner_count {e : Ex} (h : WrE e) : (innerOf e).length ≤ 3 := by
  cases e with
  | lit v => exact Nat.zero_le _
  | var l => exact Nat.zero_le _
  | call f es =>
    have : funs.all (fun f => decide (arity f ≤ 3)) = true := by decide +kernel
    show es.length ≤ 3
    rw [h.2.1]
    exact of_decide_eq_true (List.all_eq_true.mp this f h.1)
  | inj l e => show 1 ≤ 3; decide
def spExS (K : PySem.W.Frag) (m : Nat) : Sp := fun vs H Q _ => ∃ v e, vs = [v] ∧ Dt K H v (Ex.d e) ∧ WrE e ∧ e.deep ≤ m ∧ (exS e).length ≤ 10000 ∧
  ∀ H' D ys, Kp H H' → H D = none → H' D = some (.lst ys) → DtAll K H' ys ((exS e).map Sg.d) → Q (.ref D) H'
def prevS (K : PySem.W.Frag) : Nat → Sp
  | 0 => fun _ _ _ _ => False
  | n + 1 => spExS K n
/-- what stands in an expression -/
theorem dt_ex {K : PySem.W.Frag} {H : Hp} {v : V} {e : Ex} (h : Dt K H v e.d) : ∃ p xs wd, v = .ref p ∧ SqT K H p xs ∧ xs[0]? = some (.str (Str.ofString wd)) ∧ (match e with
    | .lit x => wd = "literal" ∧ ∃ u, xs[1]? = some u ∧ Dt K H u x
    | .var l => wd = "variable" ∧ xs[1]? = some (.str (sx l))
    | .call f _ => wd = "call" ∧ xs[1]? = some (.str (sx f))
    | .inj l _ => wd = "inject" ∧ xs[1]? = some (.str (sx l))) := by
  cases e with
  | lit x => obtain ⟨p, a, b, rfl, hp, ha, hb⟩ := dt_pair h; cases ha; exact ⟨p, _, "literal", rfl, hp, rfl, rfl, _, rfl, hb⟩
  | var x => obtain ⟨p, a, b, rfl, hp, ha, hb⟩ := dt_pair h; cases ha; cases hb; exact ⟨p, _, "variable", rfl, hp, rfl, rfl, rfl⟩
  | call f es =>
    cases h with
    | tup h hs =>
      cases hs with
      | cons h1 hs =>
        cases hs with
        | cons h2 hs =>
          cases h1
          cases h2
          exact ⟨_, _, "call", rfl, h, rfl, rfl, rfl⟩
  | inj l x =>
    cases h with
    | tup h hs =>
      cases hs with
      | cons h1 hs =>
        cases hs with
        | cons h2 hs =>
          cases h1
          cases h2
          exact ⟨_, _, "inject", rfl, h, rfl, rfl, rfl⟩
section
variable {P : Program} {w : World} {K : PySem.W.Frag} {mg : Str → Option Value} {base : Heap}
theorem c_expression_signs {m k : Nat} (hk : 4 ≤ k) (D : DefAt K mg "expression_signs" s_expression_signs ["expression"]) (c_literal : Cal P w K mg base CX0 4 "literal" ["value"] (spLit K)) (c_enclosed : Cal P w K mg base CX0 2 "enclosed" ["rows"] (spEnc K)) (c__inner_ones : Cal P w K mg base CX0 1 "_inner_ones" ["expression"] (spInner K))
    (c_expression_signs : Cal P w K mg base CX0 k "expression_signs" ["expression"] (prevS K m)) : Cal P w K mg base CX0 (k + 1) "expression_signs" ["expression"] (spExS K m) := by
  refine D.cal (k := k) sc_expression_signs (fun vs H Q E h => ?_) fun f cdv A outer s H vs Q E hr h => ?_
  · obtain ⟨v, e, rfl, _⟩ := h
    rfl
  · obtain ⟨v, e, rfl, hv, hw, hd, hz, q⟩ := h
    refine ⟨_, (pss_cons (ps_set (i := 1) sc_expression_signs.nd rfl (Or.inl rfl) (pe_ix ix_tup (pv 0) pe_int (fun _ _ => rfl)))
  (pss_cons (ps_if (pt_cmpR op_eq (pv 1) pe_str (nomark _)) (pss_one (ps_ret (pe_cal (c_literal.mono (by omega)) hr (by rfl) (pa_cons (pe_ix ix_tup (pv 0) pe_int (fun _ _ => rfl)) pa_nil)))) pss_nil)
  (pss_cons (ps_if (pt_cmpR op_eq (pv 1) pe_str (nomark _)) (pss_one (ps_ret (pe_lst (pa_cons (pe_tup (pa_cons pe_str (pa_cons (pe_ix ix_tup (pv 0) pe_int (fun _ _ => rfl)) pa_nil))) pa_nil)))) pss_nil)
  (pss_cons (ps_setLc (i := 2) rfl sc_expression_signs.nd rfl rfl (sw_true rfl rfl rfl (by decide +kernel)) (pi_tup (pe_cal (c__inner_ones.mono (by omega)) hr (by rfl) (pa_cons (pv 0) pa_nil))) (blkOk_by (own := [("inner", 3)]) (N := ["expression", "kind", "rows", "inner"]) (sc := defScope s_expression_signs) (by decide +kernel)) (fun _ _ _ _ _ => (pg_name (i := 3) sc_expression_signs.nd rfl (Or.inl rfl))) (fun _ _ _ _ _ => pts_nil) (fun _ _ _ _ _ => (pe_cal (c_expression_signs.mono (by omega)) hr (by rfl) (pa_cons (pv 3) pa_nil))))
  (pss_cons (ps_if (pt_cmpR op_eq (pv 1) pe_str (nomark _)) (pss_one (ps_ret (pe_op op_cat (pe_lst (pa_cons (pe_tup (pa_cons pe_str (pa_cons pe_str pa_nil))) pa_nil)) (pe_cal (c_enclosed.mono (by omega)) hr (by rfl) (pa_cons (pe_op op_cat (pe_lst (pa_cons (pe_lst (pa_cons (pe_tup (pa_cons pe_str (pa_cons (pe_ix ix_tup (pv 0) pe_int (fun _ _ => rfl)) pa_nil))) pa_nil)) pa_nil)) (pv 2)) pa_nil))))) pss_nil)
  (pss_one (ps_ret (pe_op op_cat (pe_lst (pa_cons (pe_tup (pa_cons pe_str (pa_cons (pe_ix ix_tup (pv 0) pe_int (fun _ _ => rfl)) pa_nil))) pa_nil)) (pe_cal (c_enclosed.mono (by omega)) hr (by rfl) (pa_cons (pv 2) pa_nil)))))))))), ?_⟩
    have sz : sizeLine = 16777216 := rfl
    obtain ⟨p, xs, wd, rfl, hp, h0, hm⟩ := dt_ex hv
    refine ⟨_, rfl, p, xs, 0, _, rfl, rfl, hp, atI_nat (j := 0) h0, ?_⟩
    have hk3 : (∃ x, e = .lit x) ∨ (∃ l, e = .var l) ∨ ∃ g, xs[1]? = some (.str (sx g)) ∧ ((wd = "call" ∧ exS e = .name g :: encS (exSs (innerOf e))) ∨ (wd = "inject" ∧ exS e = .name (cs "inject") :: encS ([.name g] :: exSs (innerOf e)))) := by
      cases e with
      | lit x => exact .inl ⟨x, rfl⟩
      | var l => exact .inr (.inl ⟨l, rfl⟩)
      | call g es => exact .inr (.inr ⟨g, hm.2, .inl ⟨hm.1, rfl⟩⟩)
      | inj l ex => exact .inr (.inr ⟨l, hm.2, .inr ⟨hm.1, rfl⟩⟩)
    rcases hk3 with ⟨x, rfl⟩ | ⟨l, rfl⟩ | ⟨g, h1, hwd⟩
    · obtain ⟨rfl, u, h1, hu⟩ := hm
      obtain ⟨va, gva, rfl⟩ := hw
      refine ⟨_, rfl, rfl, _, rfl, iteP rfl ⟨_, rfl, p, xs, 1, _, rfl, rfl, hp, atI_nat (j := 1) h1, _, va, rfl, hu, gva, fun H' D ys k1 hD e1 d1 => q H' D ys k1 hD e1 ?_⟩⟩
      show DtAll K H' ys ((vaS (Va.of va.d)).map Sg.d)
      rw [Va.of_d]
      exact d1
    · obtain ⟨rfl, h1⟩ := hm
      refine ⟨_, rfl, rfl, _, rfl, iteN (by decide +kernel) ⟨_, rfl, rfl, _, rfl, iteP rfl ⟨_, rfl, p, xs, 1, _, rfl, rfl, hp, atI_nat (j := 1) h1, by show 2 ≤ sizeLine; decide, fun t ht => ⟨by show 1 ≤ sizeLine; decide, fun D hD => ?_⟩⟩⟩⟩
      obtain ⟨k1, d1⟩ := new_pair (K := K) ht (.str (Str.ofString "name")) (.str (sx l))
      generalize upd H t (.tup [.str (Str.ofString "name"), .str (sx l)]) = H1 at k1 d1 hD ⊢
      have k2 : Kp H1 (upd H1 D (.lst [.ref t])) := Kb.new hD
      exact q _ D _ (k1.trans k2) (k1.free D hD) upd_same (.cons (d1.kb k2 Lsts.nil) .nil)
    · have hno : Str.ofString wd ≠ Str.ofString "literal" ∧ Str.ofString wd ≠ Str.ofString "variable" := by
        rcases hwd with ⟨rfl, _⟩ | ⟨rfl, _⟩ <;> decide +kernel
      refine ⟨_, rfl, rfl, _, rfl, iteN (fun z => hno.1 (V.str.inj z)) ⟨_, rfl, rfl, _, rfl, iteN (fun z => hno.2 (V.str.inj z)) ?_⟩⟩
      refine ⟨_, rfl, .ref p, e, rfl, hv, fun H2 p2 xs2 k2 hp2 hx2 => ⟨p2, rfl, ⟨xs2, hp2⟩, fun L hL => ?_⟩⟩
      have hl := hx2.length
      rw [ds_len] at hl
      refine lc_it walk_tup (fun i H' => Kp H2 H' ∧ ∃ ws, H' L = some (.lst ws) ∧ RwAt K H' ws (((innerOf e).take i).map exS) ∧ ∀ x ∈ ws, x ≠ .ref L) ⟨Kb.new hL, [], upd_same, .nil, fun x h => by simp at h⟩ (fun i H' _ h => h.1.sqT Lsts.nil hp2) ?_ ?_
      · rintro i x _ H3 hi ⟨k3, ws, eL, rw3, hne⟩ ⟨rfl, hx⟩
        have hxe : (innerOf e)[i]? = some ((innerOf e)[i]'(by omega)) := List.getElem?_eq_getElem (by omega)
        generalize (innerOf e)[i]'(by omega) = ex at hxe
        obtain ⟨d, hd1, hd2⟩ := (DtAll.kb k3 Lsts.nil hx2).get hx
        have hmem := List.mem_of_getElem? hxe
        have hds : (Ex.ds (innerOf e))[i]? = some ex.d := by
          rw [ds_map, List.getElem?_map, hxe]; rfl
        rw [hds] at hd1
        cases hd1
        refine ⟨rfl, ?_⟩
        cases m with
        | zero => rw [inner_zero hd] at hmem; cases hmem
        | succ m' =>
          refine iteT (B := Kp H2 H3 ∧ ∃ ws, H3 L = some (.lst ws) ∧ RwAt K H3 ws (((innerOf e).take (i + 1)).map exS) ∧ ∀ x ∈ ws, x ≠ V.ref L) ⟨_, rfl, x, ex, rfl, hd2, inner_wr hw hmem, inner_deep hd hmem, Nat.le_trans (inner_len2 hmem) hz, fun H4 D4 ys k4 hD4 e4 d4 => ?_⟩
          have eL4 := k4.keep L _ eL (by simp) nt_lst
          have n4 : D4 ≠ L := fun z => by rw [z, eL] at hD4; cases hD4
          have hwl : ws.length ≤ m' + 1 + 3 := by
            have := inner_len hd
            rw [rw3.length, List.length_map, List.length_take]
            omega
          have hne4 : ∀ y ∈ ws ++ [.ref D4], y ≠ V.ref L := fun y hy => by
            rcases List.mem_append.mp hy with h | h
            · exact hne y h
            · rw [List.mem_singleton.mp h]; exact fun z => n4 (V.ref.inj z)
          refine ⟨ws, eL4, ?_, (k3.trans k4).mut hL (no_tab eL4 nt_lst), _, upd_same, ?_, hne4⟩
          · have := inner_len hd
            have h5 : i < 10000 := by
              have := inner_count hw
              omega
            have h6 : ws.length = i := by
              rw [rw3.length, List.length_map, List.length_take]
              omega
            omega
          · rw [List.take_add_one, hxe, List.map_append]
            exact (RwAt.snoc e4 d4 (rw3.kp k4)).put eL4 hne4
      · rintro H3 ⟨k3, ws, eL, rw3, hne⟩
        rw [List.take_of_length_le (by omega), ← exSs_map] at rw3
        rcases hwd with ⟨rfl, hex⟩ | ⟨rfl, hex⟩
        · have hsz : (sepS (exSs (innerOf e))).length ≤ 9990 + 8 := by
            rw [hex, List.length_cons, enc_len] at hz
            omega
          have k03 := k2.trans k3
          refine ⟨_, rfl, rfl, _, rfl, iteN (by decide +kernel) ⟨_, rfl, p, xs, 1, _, rfl, rfl, k03.sqT Lsts.nil hp, atI_nat (j := 1) h1, by show 2 ≤ sizeLine; decide, fun t ht => ⟨by show 1 ≤ sizeLine; decide, fun l1 hl1 => ?_⟩⟩⟩
          obtain ⟨q1, d1⟩ := new_pair (K := K) ht (.str (Str.ofString "name")) (.str (sx g))
          generalize upd H3 t (.tup [.str (Str.ofString "name"), .str (sx g)]) = G1 at q1 d1 hl1 ⊢
          have q2 : Kp G1 (upd G1 l1 (.lst [.ref t])) := Kb.new hl1
          have e2 : (upd G1 l1 (.lst [.ref t])) l1 = some (.lst [.ref t]) := upd_same
          have d2 := d1.kb q2 Lsts.nil
          generalize upd G1 l1 (.lst [.ref t]) = G2 at q2 e2 d2 ⊢
          have q12 := q1.trans q2
          refine ⟨_, rfl, L, ws, _, rfl, q12.keep _ _ eL (by simp) nt_lst, rw3.kp q12, by omega, fun G5 D5 ys q5 _ e5 d5 => ?_⟩
          have hyl : ys.length ≤ 10000 := by
            rw [d5.length, List.length_map, enc_len]
            omega
          refine ⟨l1, D5, _, _, rfl, rfl, q5.keep _ _ e2 (by simp) nt_lst, e5, by rw [List.length_singleton]; omega, fun p6 h6 => ?_⟩
          have q6 : Kp G5 (upd G5 p6 (.lst ([.ref t] ++ ys))) := Kb.new h6
          have q05 := (k03.trans q12).trans q5
          refine q _ p6 _ (q05.trans q6) (q05.free p6 h6) upd_same ?_
          rw [hex]
          exact .cons ((d2.kb q5 Lsts.nil).kb q6 Lsts.nil) (DtAll.kb q6 Lsts.nil d5)
        · have hsz : (sepS ([.name g] :: exSs (innerOf e))).length ≤ 9990 + 8 := by
            rw [hex, List.length_cons, enc_len] at hz
            omega
          have k03 := k2.trans k3
          refine ⟨_, rfl, rfl, _, rfl, iteP rfl ⟨by show 2 ≤ sizeLine; decide, fun t ht => ⟨by show 1 ≤ sizeLine; decide, fun l1 hl1 => ?_⟩⟩⟩
          obtain ⟨q1, d1⟩ := new_pair (K := K) ht (.str (Str.ofString "name")) (.str (Str.ofString "inject"))
          generalize upd H3 t (.tup [.str (Str.ofString "name"), .str (Str.ofString "inject")]) = G1 at q1 d1 hl1 ⊢
          have q2 : Kp G1 (upd G1 l1 (.lst [.ref t])) := Kb.new hl1
          have e2 : (upd G1 l1 (.lst [.ref t])) l1 = some (.lst [.ref t]) := upd_same
          have d2 := d1.kb q2 Lsts.nil
          generalize upd G1 l1 (.lst [.ref t]) = G2 at q2 e2 d2 ⊢
          have q12 := q1.trans q2
          refine ⟨_, rfl, p, xs, 1, _, rfl, rfl, (k03.trans q12).sqT Lsts.nil hp, atI_nat (j := 1) h1, by show 2 ≤ sizeLine; decide, fun t2 ht2 => ⟨by show 1 ≤ sizeLine; decide, fun l2 hl2 => ⟨by show 1 ≤ sizeLine; decide, fun l3 hl3 => ?_⟩⟩⟩
          obtain ⟨r1, c1⟩ := new_pair (K := K) ht2 (.str (Str.ofString "name")) (.str (sx g))
          generalize upd G2 t2 (.tup [.str (Str.ofString "name"), .str (sx g)]) = G3 at r1 c1 hl2 hl3 ⊢
          have r2 : Kp G3 (upd G3 l2 (.lst [.ref t2])) := Kb.new hl2
          have f2 : (upd G3 l2 (.lst [.ref t2])) l2 = some (.lst [.ref t2]) := upd_same
          have c2 := c1.kb r2 Lsts.nil
          generalize upd G3 l2 (.lst [.ref t2]) = G4 at r2 f2 c2 hl3 ⊢
          have r3 : Kp G4 (upd G4 l3 (.lst [.ref l2])) := Kb.new hl3
          have f3 : (upd G4 l3 (.lst [.ref l2])) l3 = some (.lst [.ref l2]) := upd_same
          have f23 := r3.keep _ _ f2 (by simp) nt_lst
          have c3 := c2.kb r3 Lsts.nil
          generalize upd G4 l3 (.lst [.ref l2]) = G6 at r3 f3 f23 c3 ⊢
          have r13 := (r1.trans r2).trans r3
          have q16 := q12.trans r13
          have eL6 := q16.keep _ _ eL (by simp) nt_lst
          have hwl : ws.length ≤ 3 := by
            have := inner_count hw
            rw [rw3.length, exSs_map, List.length_map]
            exact this
          refine ⟨_, rfl, l3, L, _, _, rfl, rfl, f3, eL6, by rw [List.length_singleton]; omega, fun l4 hl4 => ?_⟩
          have r4 : Kp G6 (upd G6 l4 (.lst ([.ref l2] ++ ws))) := Kb.new hl4
          have f4 : (upd G6 l4 (.lst ([.ref l2] ++ ws))) l4 = some (.lst ([.ref l2] ++ ws)) := upd_same
          have f24 := r4.keep _ _ f23 (by simp) nt_lst
          have c4 := c3.kb r4 Lsts.nil
          have rw6 := (rw3.kp q16).kp r4
          generalize upd G6 l4 (.lst ([.ref l2] ++ ws)) = G7 at r4 f4 f24 c4 rw6 ⊢
          have c5 : DtAll K G7 [.ref t2] ([Sg.name g].map Sg.d) := .cons c4 .nil
          refine ⟨l4, _, [.name g] :: exSs (innerOf e), rfl, f4, .cons f24 c5 rw6, by omega, fun G5 D5 ys q5 _ e5 d5 => ?_⟩
          have hyl : ys.length ≤ 10000 := by
            rw [d5.length, List.length_map, enc_len]
            omega
          have q27 := (r13.trans r4).trans q5
          refine ⟨l1, D5, _, _, rfl, rfl, q27.keep _ _ e2 (by simp) nt_lst, e5, by rw [List.length_singleton]; omega, fun p6 h6 => ?_⟩
          have q6 : Kp G5 (upd G5 p6 (.lst ([.ref t] ++ ys))) := Kb.new h6
          have q05 := (k03.trans q12).trans q27
          refine q _ p6 _ (q05.trans q6) (q05.free p6 h6) upd_same ?_
          rw [hex]
          exact .cons (by show Dt K _ _ (.tuple [.str "name", .str (sx (cs "inject"))]); rw [show sx (cs "inject") = Str.ofString "inject" by decide +kernel]; exact (d2.kb q27 Lsts.nil).kb q6 Lsts.nil) (DtAll.kb q6 Lsts.nil d5)
end
end Rw

namespace Rw
open PySem PySem.Spec PyProof.Rows L2 GxR Gx Gd Rx Rs
/-- what is drawn can be written -/
theorem names_ok {ns : List Str} (hn : ns.all (fun x => decide (x.cps.toList ∉ reserved)) = true) {l : List Nat} (h : sx l ∈ ns) : NameX l := by
  have := of_decide_eq_true (List.all_eq_true.mp hn _ h)
  rw [sx_tl] at this
  exact this
mutual
theorem GoodE.wr {ns : List Str} (hn : ns.all (fun x => decide (x.cps.toList ∉ reserved)) = true) : ∀ {e : Ex}, GoodE ns e → WrE e
  | .lit v, h => by
    rcases h with ⟨s, g, rfl⟩ | ⟨ps, g, rfl⟩
    · exact ⟨.s s, g, rfl⟩
    · exact ⟨.m ps, g, rfl⟩
  | .var l, h => names_ok hn h
  | .call f es, ⟨h1, h2, h3⟩ => ⟨h1, h2, GoodEs.wr hn h3⟩
  | .inj l e, ⟨h1, h2⟩ => ⟨by rcases h1 with rfl | rfl <;> (show _ ∉ reserved; decide +kernel), GoodE.wr hn (e := e) h2⟩
theorem GoodEs.wr {ns : List Str} (hn : ns.all (fun x => decide (x.cps.toList ∉ reserved)) = true) : ∀ {es : List Ex}, GoodEs ns es → WrEs es
  | [], _ => trivial
  | e :: es, ⟨h1, h2⟩ => ⟨GoodE.wr hn h1, GoodEs.wr hn h2⟩
end
theorem va_len {va : Va} (g : va.good) : (vaS va).length ≤ 35 := by
  cases va with
  | s x => show 1 ≤ 35; decide
  | m ps =>
    have g : Rv.Ents ps := g
    have := map_sep_le g.len
    show (encS (ps.flatMap entR)).length + 1 ≤ 35
    rw [enc_len]
    omega
mutual
/-- how many signs an expression has -/
theorem ex_len : ∀ {e : Ex}, WrE e → (exS e).length ≤ 35 + 75 * e.calls
  | .lit v, h => by
    obtain ⟨va, g, rfl⟩ := h
    have := va_len g
    show (vaS (Va.of va.d)).length ≤ _
    rw [Va.of_d]
    omega
  | .var l, _ => by show 1 ≤ _; omega
  | .inj l e, ⟨_, h⟩ => by
    have := ex_len (e := e) h
    show (encS [[.name l], exS e]).length + 1 ≤ 35 + 75 * (1 + e.calls)
    rw [enc_len]
    show ([Sg.name l] ++ (Sg.mark 44 :: (exS e ++ []))).length + 2 + 1 ≤ _
    simp only [List.length_append, List.length_cons, List.length_nil]
    omega
  | .call f es, ⟨h1, h2, h3⟩ => by
    have a := exs_len (es := es) h3
    have b : es.length ≤ 3 := by
      have : funs.all (fun f => decide (arity f ≤ 3)) = true := by decide +kernel
      rw [h2]
      exact of_decide_eq_true (List.all_eq_true.mp this f h1)
    have c := sep_le (exSs es)
    show (encS (exSs es)).length + 1 ≤ 35 + 75 * (1 + Ex.callsAll es)
    rw [enc_len]
    cases es with
    | nil => show 0 + 2 + 1 ≤ _; omega
    | cons e es =>
      have d : (argS 44 (exSs (e :: es))).length = (sepS (exSs (e :: es))).length + 1 := rfl
      have : (e :: es).length = es.length + 1 := rfl
      omega
theorem exs_len : ∀ {es : List Ex}, WrEs es → (argS 44 (exSs es)).length ≤ 36 * es.length + 75 * Ex.callsAll es
  | [], _ => Nat.zero_le _
  | e :: es, ⟨h1, h2⟩ => by
    have a := ex_len h1
    have b := exs_len h2
    show (exS e ++ argS 44 (exSs es)).length + 1 ≤ 36 * (es.length + 1) + 75 * (e.calls + Ex.callsAll es)
    rw [List.length_append]
    omega
end
/-- the whole expression is read back by readE, whatever stands behind it -/
theorem rd5_back {e : Ex} (h : WrE e) (hd : e.deep ≤ 5) (r : List Sg) : rd 5 (exS e ++ r) = some (e, r) := rd_back h hd
section
variable {P : Program} {w : World} {K : PySem.W.Frag} {mg : Str → Option Value} {base : Heap}
theorem DefAt.no1 {x : Str} {st : Stmt} {N ps : List Str} {k : Nat} (D : DefAt K mg x st ps) (S : FnScope N ps (defScope st)) : Cal P w K mg base CX0 (k + 1) x ps (fun _ _ _ _ => False) := D.cal S (fun _ _ _ _ h => h.elim) fun _ _ _ _ _ _ _ _ _ _ h => h.elim
theorem signs_all (D : DefAt K mg "expression_signs" s_expression_signs ["expression"]) (c_literal : Cal P w K mg base CX0 4 "literal" ["value"] (spLit K)) (c_enclosed : Cal P w K mg base CX0 2 "enclosed" ["rows"] (spEnc K)) (c__inner_ones : Cal P w K mg base CX0 1 "_inner_ones" ["expression"] (spInner K)) :
    ∀ m, Cal P w K mg base CX0 (5 + m) "expression_signs" ["expression"] (spExS K m) := fun m => by
  induction m with
  | zero => exact c_expression_signs (m := 0) (k := 4) (by decide) D c_literal c_enclosed c__inner_ones (DefAt.no1 D sc_expression_signs)
  | succ m ih => exact c_expression_signs (m := m + 1) (k := 5 + m) (by omega) D c_literal c_enclosed c__inner_ones ih
end
end Rw

/-! The text of an expression, pure. -/
namespace Rw
open PySem PySem.Spec PyProof.Rows L2 GxR Gx Gd Rx Rs
def tW (f : Bool) (ss : List Sg) : List Nat := looseL (wr f ss)
theorem tW_nil (f : Bool) : tW f [] = [] := rfl
theorem tW_cons (f : Bool) (s : Sg) (r : List Sg) : tW f (s :: r) = List.replicate (if (f || tight s) = true then 0 else 1) 32 ++ (s.text ++ tW (isLeft s) r) := rfl
def endF : Bool → List Sg → Bool
  | f, [] => f
  | _, s :: r => endF (isLeft s) r
theorem tW_app : ∀ (f : Bool) (ss ts : List Sg), tW f (ss ++ ts) = tW f ss ++ tW (endF f ss) ts
  | f, [], ts => rfl
  | f, s :: r, ts => by
    have ih := tW_app (isLeft s) r ts
    rw [List.cons_append, tW_cons, tW_cons, ih, List.append_assoc, List.append_assoc]
    rfl
theorem endF_app : ∀ (f : Bool) (ss ts : List Sg), endF f (ss ++ ts) = endF (endF f ss) ts
  | f, [], ts => rfl
  | f, s :: r, ts => endF_app (isLeft s) r ts
/-- a row that begins with no mark and ends with no left parenthesis -/
def RowOk (r : List Sg) : Prop := ∃ s r', r = s :: r' ∧ tight s = false ∧ endF (isLeft s) r' = false
theorem row_end {r : List Sg} (h : RowOk r) (f : Bool) : endF f r = false := by
  obtain ⟨s, r', rfl, _, h⟩ := h
  exact h
theorem row_space {r : List Sg} (h : RowOk r) : tW false r = 32 :: tW true r := by
  obtain ⟨s, r', rfl, ht, _⟩ := h
  rw [tW_cons, tW_cons, ht]
  rfl
/-- texts, each behind a comma and a space -/
def behL (ts : List (List Nat)) : List Nat := ts.flatMap fun t => 44 :: 32 :: t
def comL : List (List Nat) → List Nat
  | [] => []
  | t :: ts => t ++ behL ts
theorem text_mark (c : Nat) : (Sg.mark c).text = [c] := rfl
theorem arg_text : ∀ (rows : List (List Sg)), (∀ r ∈ rows, RowOk r) → tW false (argS 44 rows) = behL (rows.map (tW true)) ∧ endF false (argS 44 rows) = false
  | [], _ => ⟨rfl, rfl⟩
  | r :: rows, h => by
    have ih := arg_text rows fun x hx => h x (List.mem_cons_of_mem _ hx)
    have hr := h r List.mem_cons_self
    have e : argS 44 (r :: rows) = .mark 44 :: (r ++ argS 44 rows) := rfl
    have hl : isLeft (.mark 44) = false := by decide +kernel
    have ht : tight (.mark 44) = true := by decide +kernel
    refine ⟨?_, ?_⟩
    · rw [e, tW_cons, hl, ht, tW_app, row_end hr, row_space hr, ih.1]
      show [] ++ ([44] ++ (32 :: tW true r ++ behL (rows.map (tW true)))) = (44 :: 32 :: tW true r) ++ behL (rows.map (tW true))
      rfl
    · rw [e]
      show endF (isLeft (.mark 44)) (r ++ argS 44 rows) = false
      rw [hl, endF_app, row_end hr, ih.2]
theorem sep_text (rows : List (List Sg)) (h : ∀ r ∈ rows, RowOk r) : tW true (sepS rows ++ [.mark 41]) = comL (rows.map (tW true)) ++ [41] := by
  have ht : tight (.mark 41) = true := by decide +kernel
  have h41 : ∀ f, tW f [Sg.mark 41] = [41] := fun f => by
    rw [tW_cons, ht, Bool.or_true]
    rfl
  cases rows with
  | nil => exact h41 true
  | cons r rows =>
    have ih := arg_text rows fun x hx => h x (List.mem_cons_of_mem _ hx)
    have hr := h r List.mem_cons_self
    show tW true ((r ++ argS 44 rows) ++ [.mark 41]) = (tW true r ++ behL (rows.map (tW true))) ++ [41]
    rw [tW_app, tW_app, row_end hr, ih.1, h41]
/-- name(row, row) -/
theorem call_text (l : List Nat) (rows : List (List Sg)) (h : ∀ r ∈ rows, RowOk r) : tW true (.name l :: encS rows) = l ++ 40 :: (comL (rows.map (tW true)) ++ [41]) := by
  have hl : isLeft (.name l) = false := rfl
  have ht : tight (.mark 40) = true := by decide +kernel
  have h40 : isLeft (.mark 40) = true := by decide +kernel
  unfold encS
  rw [tW_cons, tW_cons, ht, h40, sep_text rows h]
  show [] ++ (l ++ (List.replicate (if (isLeft (.name l) || true) = true then 0 else 1) 32 ++ ([40] ++ _))) = _
  rw [Bool.or_true]
  rfl
theorem enc_row (l : List Nat) (rows : List (List Sg)) : RowOk (.name l :: encS rows) := by
  refine ⟨.name l, encS rows, rfl, rfl, ?_⟩
  show endF (isLeft (.name l)) (.mark 40 :: (sepS rows ++ [.mark 41])) = false
  show endF (isLeft (.mark 40)) (sepS rows ++ [.mark 41]) = false
  rw [endF_app]
  show isLeft (.mark 41) = false
  decide +kernel
theorem sc_row (s : Rv.Sc) : RowOk [scS s] := by
  cases s <;> exact ⟨_, [], rfl, rfl, rfl⟩
theorem ex_row : ∀ {e : Ex}, WrE e → RowOk (exS e)
  | .lit v, h => by
    obtain ⟨va, g, rfl⟩ := h
    show RowOk (vaS (Va.of va.d))
    rw [Va.of_d]
    cases va with
    | s x => exact sc_row x
    | m ps => exact enc_row _ _
  | .var l, _ => ⟨.name l, [], rfl, rfl, rfl⟩
  | .inj l e, _ => enc_row _ _
  | .call f es, _ => enc_row _ _
/-- the text of a scalar -/
def scT : Rv.Sc → List Nat := fun s => (scS s).text
theorem sc_text (s : Rv.Sc) : tW true [scS s] = scT s := by
  rw [tW_cons, Bool.true_or]
  show [] ++ (scT s ++ []) = scT s
  rw [List.append_nil]
  rfl
def vaT : Va → List Nat
  | .s x => scT x
  | .m ps => cs "map" ++ 40 :: (comL (ps.flatMap fun p => [quoL p.1.cps.toList, scT p.2]) ++ [41])
theorem ents_text (ps : List (Str × Rv.Sc)) : (ps.flatMap entR).map (tW true) = ps.flatMap fun p => [quoL p.1.cps.toList, scT p.2] := by
  induction ps with
  | nil => rfl
  | cons p ps ih =>
    rw [List.flatMap_cons, List.flatMap_cons, List.map_append, ih]
    show [tW true [Sg.quo p.1.cps.toList], tW true [scS p.2]] ++ _ = _
    rw [sc_text]
    have : tW true [Sg.quo p.1.cps.toList] = quoL p.1.cps.toList := by
      rw [tW_cons, Bool.true_or]
      show [] ++ (quoL p.1.cps.toList ++ []) = _
      rw [List.append_nil]
      rfl
    rw [this]
theorem va_text (va : Va) : tW true (vaS va) = vaT va := by
  cases va with
  | s x => exact sc_text x
  | m ps =>
    show tW true (.name (cs "map") :: encS (ps.flatMap entR)) = _
    rw [call_text _ _ (fun r hr => ?_), ents_text]
    · rfl
    · obtain ⟨p, _, hp⟩ := List.mem_flatMap.mp hr
      simp only [entR, List.mem_cons, List.not_mem_nil, or_false] at hp
      rcases hp with rfl | rfl
      · exact ⟨_, [], rfl, rfl, rfl⟩
      · exact sc_row _
mutual
/-- the text of an expression -/
def exT : Ex → List Nat
  | .lit v => vaT (Va.of v)
  | .var l => l
  | .inj l e => cs "inject" ++ 40 :: (comL [l, exT e] ++ [41])
  | .call f es => f ++ 40 :: (comL (exTs es) ++ [41])
def exTs : List Ex → List (List Nat)
  | [] => []
  | e :: es => exT e :: exTs es
end
mutual
theorem ex_text : ∀ {e : Ex}, WrE e → tW true (exS e) = exT e
  | .lit v, _ => va_text _
  | .var l, _ => by
    show tW true [Sg.name l] = l
    rw [tW_cons, Bool.true_or]
    show [] ++ (l ++ []) = l
    rw [List.append_nil]
    rfl
  | .inj l e, ⟨_, h⟩ => by
    have ih := ex_text (e := e) h
    have hr := ex_row h
    have hn : RowOk [Sg.name l] := ⟨.name l, [], rfl, rfl, rfl⟩
    have hl : tW true [Sg.name l] = l := by
      rw [tW_cons, Bool.true_or]
      show [] ++ (l ++ []) = l
      rw [List.append_nil]
      rfl
    show tW true (.name (cs "inject") :: encS [[.name l], exS e]) = _
    rw [call_text _ _ (fun r hr' => by
      simp only [List.mem_cons, List.not_mem_nil, or_false] at hr'
      rcases hr' with rfl | rfl
      · exact hn
      · exact hr)]
    show cs "inject" ++ 40 :: (comL [tW true [Sg.name l], tW true (exS e)] ++ [41]) = _
    rw [hl, ih]
    rfl
  | .call f es, ⟨_, _, h⟩ => by
    have ih := exs_text (es := es) h
    show tW true (.name f :: encS (exSs es)) = _
    rw [call_text _ _ (fun r hr => by
      rw [exSs_map] at hr
      obtain ⟨e, he, rfl⟩ := List.mem_map.mp hr
      exact ex_row (wrEs_iff.mp h e he)), ih]
    rfl
theorem exs_text : ∀ {es : List Ex}, WrEs es → (exSs es).map (tW true) = exTs es
  | [], _ => rfl
  | e :: es, ⟨h1, h2⟩ => by
    have a := ex_text h1
    have b := exs_text h2
    show tW true (exS e) :: (exSs es).map (tW true) = exT e :: exTs es
    rw [a, b]
end
end Rw

/-! The law's own writing of literals. -/
namespace Rw
open PySem PySem.Spec PyProof.Rows L2 GxR Gx Gd Rx Rs
abbrev s_law_quoted : Stmt := topS 104
theorem sc_law_quoted : FnScope ["text"] ["text"] (defScope s_law_quoted) := ⟨rfl, rfl, rfl, by decide +kernel, rfl, by decide +kernel, by decide +kernel⟩
def spVaT (K : PySem.W.Frag) : Sp := fun vs H Q _ => ∃ (v : V) (va : Va), vs = [v] ∧ Dt K H v va.d ∧ va.good ∧ ∀ H', Kp H H' → Q (.str (sx (vaT va))) H'
def spQuote : Sp := fun vs H Q _ => ∃ l : List Nat, vs = [.str (sx l)] ∧ l.length ≤ 1000 ∧ Q (.str (sx (quoL l))) H
def spScT (K : PySem.W.Frag) : Sp := fun vs H Q _ => ∃ v s, vs = [v] ∧ Dt K H v (Rv.Sc.d s) ∧ s.good ∧ ∀ H', Kp H H' → Q (.str (sx (scT s))) H'
theorem sx_app (a b : List Nat) : sx a ++ sx b = sx (a ++ b) := by
  show Str.mk (a.toArray ++ b.toArray) = Str.mk (a ++ b).toArray
  rw [List.append_toArray]
def pairT (p : Str × Rv.Sc) : List Nat := quoL p.1.cps.toList ++ 44 :: 32 :: scT p.2
theorem behL_pairs (ps : List (Str × Rv.Sc)) : behL (ps.flatMap fun p => [quoL p.1.cps.toList, scT p.2]) = behL (ps.map pairT) := by
  induction ps with
  | nil => rfl
  | cons p ps ih =>
    have e : ∀ (a b : List Nat) (r : List (List Nat)), behL ([a, b] ++ r) = (44 :: 32 :: a) ++ ((44 :: 32 :: b) ++ behL r) := fun a b r => rfl
    rw [List.flatMap_cons, e, ih, List.map_cons]
    show _ = (44 :: 32 :: (quoL p.1.cps.toList ++ 44 :: 32 :: scT p.2)) ++ behL (ps.map pairT)
    simp
theorem comL_pairs (ps : List (Str × Rv.Sc)) : comL (ps.flatMap fun p => [quoL p.1.cps.toList, scT p.2]) = comL (ps.map pairT) := by
  cases ps with
  | nil => rfl
  | cons p ps =>
    have := behL_pairs ps
    show quoL p.1.cps.toList ++ ((44 :: 32 :: scT p.2) ++ behL (ps.flatMap fun p => [quoL p.1.cps.toList, scT p.2])) = (quoL p.1.cps.toList ++ 44 :: 32 :: scT p.2) ++ behL (ps.map pairT)
    rw [this]
    simp
theorem join_com : ∀ ts : List (List Nat), TL.joinL [44, 32] ts = comL ts
  | [] => rfl
  | [t] => by show t = t ++ []; rw [List.append_nil]
  | t :: u :: ts => by
    have ih := join_com (u :: ts)
    show t ++ ([44, 32] ++ TL.joinL [44, 32] (u :: ts)) = t ++ ((44 :: 32 :: u) ++ behL ts)
    rw [ih]
    rfl
theorem join_sx (ts : List (List Nat)) : Txt.join (Str.ofString ", ") (ts.map sx) = sx (comL ts) := by
  refine TL.ext_tl ?_
  have e : TL.tl (Str.ofString ", ") = [44, 32] := by decide +kernel
  rw [TL.join_eq, TL.tl_join, e, List.map_map, ← join_com]
  have : ts.map (TL.tl ∘ sx) = ts := by
    have h : ts.map (TL.tl ∘ sx) = ts.map id := List.map_congr_left fun t _ => sx_tl t
    rw [h, List.map_id]
  rw [this]
  exact (sx_tl _).symm
theorem quo_len (l : List Nat) : (quoL l).length ≤ 2 * l.length + 2 := by
  have := escL_len l
  show (escL l ++ [34]).length + 1 ≤ _
  rw [List.length_append, List.length_singleton]
  omega
theorem scT_len {s : Rv.Sc} (g : s.good) : (scT s).length ≤ 100 := by
  cases s with
  | none => decide +kernel
  | bool b => cases b <;> decide +kernel
  | int i =>
    have g : 0 ≤ i ∧ i ≤ 999999 := g
    have := text_len (s := .num i.toNat) (by show i.toNat ≤ 999999999; omega)
    show (Sg.num i.toNat).text.length ≤ 100
    omega
  | text x =>
    have g : Rv.textOk x := g
    have h1 := quo_len x.cps.toList
    have h2 : x.cps.toList.length ≤ 40 := by rw [Array.length_toList]; exact g.1
    show (quoL x.cps.toList).length ≤ 100
    omega
theorem pair_len {p : Str × Rv.Sc} (g : Rv.keyOk p.1 ∧ p.2.good) : (pairT p).length ≤ 3000 ∧ p.1.cps.toList.length ≤ 1000 := by
  have h1 := quo_len p.1.cps.toList
  have h2 : p.1.cps.toList.length ≤ 1000 := by rw [Array.length_toList]; exact (okN_str g.1.2).1
  have h3 := scT_len g.2
  refine ⟨?_, h2⟩
  show (quoL p.1.cps.toList ++ 44 :: 32 :: scT p.2).length ≤ _
  rw [List.length_append, List.length_cons, List.length_cons]
  omega
section
variable {P : Program} {w : World} {K : PySem.W.Frag} {mg : Str → Option Value} {base : Heap}
theorem c_law_quoted (D : DefAt K mg "_law_quoted" s_law_quoted ["text"]) : Cal P w K mg base CX0 1 "_law_quoted" ["text"] spQuote := by
  refine D.calT sc_law_quoted (by decide +kernel) (by decide) (fun vs H Q E h => ?_) fun f cdv A outer s H vs Q E h => ?_
  · obtain ⟨l, rfl, _⟩ := h
    rfl
  · obtain ⟨l, rfl, hz, q⟩ := h
    refine ⟨_, CwR.psst_one (CwR.pst_ret (CwR.pet_op op_add_str (CwR.pet_op op_add_str (CwR.PET.of pe_str) (CwR.pet_replT (CwR.pet_replT (CwR.pet_replC (pv 0))))) (CwR.PET.of pe_str))), ?_⟩
    have he := escL_len l
    have one : (Str.ofString "\"").length = 1 := by decide +kernel
    have sz : sizeLine = 16777216 := rfl
    dsimp only [tRet, tOp, tC]
    refine rd_esc hz (fun R h => ⟨_, rfl, h⟩) ⟨_, _, rfl, rfl, by rw [one, sx_len]; omega, _, _, rfl, rfl, ?_, ?_⟩
    · show (Str.ofString "\"" ++ sx (escL l)).cps.size + (Str.ofString "\"").length ≤ sizeLine
      rw [Str.cps_append, Array.size_append]
      have e1 : (Str.ofString "\"").cps.size = 1 := one
      have e2 : (sx (escL l)).cps.size = (escL l).length := sx_len _
      rw [e1, e2, one]
      omega
    · have e : Str.ofString "\"" ++ sx (escL l) ++ Str.ofString "\"" = sx (quoL l) := by
        refine TL.ext_tl ?_
        rw [TL.tl_append, TL.tl_append]
        show (Str.ofString "\"").cps.toList ++ (sx (escL l)).cps.toList ++ (Str.ofString "\"").cps.toList = (sx (quoL l)).cps.toList
        rw [sx_tl, sx_tl, show (Str.ofString "\"").cps.toList = [34] by decide +kernel]
        rfl
      rw [e]
      exact q
end
end Rw

/-! The signs of what is drawn are good. -/
namespace Rw
open PySem PySem.Spec PyProof.Rows L2 GxR Gx Gd Rx Rs
theorem scS_good {s : Rv.Sc} (g : s.good) : (scS s).good := by
  cases s with
  | none => show isNameL (cs "none") = true; decide +kernel
  | bool b => cases b <;> (show isNameL _ = true; decide +kernel)
  | int i =>
    have g : 0 ≤ i ∧ i ≤ 999999 := g
    show i.toNat ≤ 999999999
    omega
  | text x =>
    have g : Rv.textOk x := g
    refine ⟨?_, by rw [Array.length_toList]; exact g.1⟩
    refine List.all_eq_true.mpr fun c hc => ?_
    have := List.all_eq_true.mp g.2 c hc
    have e : isChar c = true := this
    rw [e, Bool.true_or]
theorem mem_arg {P : Sg → Prop} (h44 : P (.mark 44)) : ∀ (rows : List (List Sg)) (c : Nat), P (.mark c) → (∀ r ∈ rows, ∀ s ∈ r, P s) → ∀ s ∈ argS c rows, P s
  | [], _, _, _, s, h => by cases h
  | r :: rows, c, hc, hr, s, h => by
    rcases List.mem_cons.mp (show s ∈ Sg.mark c :: (r ++ argS 44 rows) from h) with rfl | h
    · exact hc
    · rcases List.mem_append.mp h with h | h
      · exact hr r List.mem_cons_self s h
      · exact mem_arg h44 rows 44 h44 (fun x hx => hr x (List.mem_cons_of_mem _ hx)) s h
theorem mem_enc {P : Sg → Prop} (h40 : P (.mark 40)) (h41 : P (.mark 41)) (h44 : P (.mark 44)) {rows : List (List Sg)} (hr : ∀ r ∈ rows, ∀ s ∈ r, P s) : ∀ s ∈ encS rows, P s := fun s h => by
  rcases List.mem_cons.mp (show s ∈ Sg.mark 40 :: (sepS rows ++ [.mark 41]) from h) with rfl | h
  · exact h40
  · rcases List.mem_append.mp h with h | h
    · cases rows with
      | nil => cases h
      | cons r rows =>
        rcases List.mem_append.mp (show s ∈ r ++ argS 44 rows from h) with h | h
        · exact hr r List.mem_cons_self s h
        · exact mem_arg h44 rows 44 h44 (fun x hx => hr x (List.mem_cons_of_mem _ hx)) s h
    · rw [List.mem_singleton.mp h]; exact h41
theorem enc_good {rows : List (List Sg)} (hr : ∀ r ∈ rows, ∀ s ∈ r, s.good) : ∀ s ∈ encS rows, s.good :=
  mem_enc (P := Sg.good) (by show isMark 40 = true; decide) (by show isMark 41 = true; decide) (by show isMark 44 = true; decide) hr
theorem key_good {x : Str} (h : Rv.keyOk x) : (Sg.quo x.cps.toList).good := by
  obtain ⟨h1, h2⟩ := h
  have h1 : Rv.isKeyD (.str x) = true := h1
  have h1 : (decide (1 ≤ (x.length : Int)) && decide ((x.length : Int) ≤ 12) && x.cps.toList.all Rv.isChar) = true := h1
  rw [Bool.and_eq_true, Bool.and_eq_true, decide_eq_true_eq, decide_eq_true_eq] at h1
  refine ⟨List.all_eq_true.mpr fun c hc => ?_, by rw [Array.length_toList]; have := h1.1.2; show x.length ≤ 40; omega⟩
  have := List.all_eq_true.mp h1.2 c hc
  have e : isChar c = true := this
  rw [e, Bool.true_or]
theorem funs_name : funs.all (fun f => isNameL f) = true := by decide +kernel
theorem va_sgood {va : Va} (g : va.good) : ∀ s ∈ vaS va, s.good := by
  cases va with
  | s x => exact fun s hs => by rw [List.mem_singleton.mp hs]; exact scS_good g
  | m ps =>
    have g : Rv.Ents ps := g
    intro s hs
    rcases List.mem_cons.mp (show s ∈ Sg.name (cs "map") :: encS (ps.flatMap entR) from hs) with rfl | hs
    · show isNameL (cs "map") = true
      decide +kernel
    · refine enc_good (fun r hr s hs => ?_) s hs
      obtain ⟨p, hp, hr⟩ := List.mem_flatMap.mp hr
      have ok := g.ok p hp
      simp only [entR, List.mem_cons, List.not_mem_nil, or_false] at hr
      rcases hr with rfl | rfl
      · rw [List.mem_singleton.mp hs]; exact key_good ok.1
      · rw [List.mem_singleton.mp hs]; exact scS_good ok.2
mutual
/-- the signs of a drawn expression are good -/
theorem ex_sgood {ns : List Str} (hn : ns.all (fun x => isNameL x.cps.toList) = true) : ∀ {e : Ex}, GoodE ns e → ∀ s ∈ exS e, s.good
  | .lit v, h, s, hs => by
    have h2 : ∃ va : Va, va.good ∧ v = va.d := by
      rcases h with ⟨s, g, rfl⟩ | ⟨ps, g, rfl⟩
      · exact ⟨.s s, g, rfl⟩
      · exact ⟨.m ps, g, rfl⟩
    obtain ⟨va, g, rfl⟩ := h2
    have hs : s ∈ vaS (Va.of va.d) := hs
    rw [Va.of_d] at hs
    exact va_sgood g s hs
  | .var l, h, s, hs => by
    rw [List.mem_singleton.mp (show s ∈ [Sg.name l] from hs)]
    have := List.all_eq_true.mp hn _ h
    rw [sx_tl] at this
    exact this
  | .inj l e, ⟨hl, h⟩, s, hs => by
    have ih := ex_sgood hn (e := e) h
    rcases List.mem_cons.mp (show s ∈ Sg.name (cs "inject") :: encS [[.name l], exS e] from hs) with rfl | hs
    · show isNameL (cs "inject") = true
      decide +kernel
    · refine enc_good (fun r hr s hs => ?_) s hs
      simp only [List.mem_cons, List.not_mem_nil, or_false] at hr
      rcases hr with rfl | rfl
      · rw [List.mem_singleton.mp hs]
        show isNameL l = true
        rcases hl with rfl | rfl <;> decide +kernel
      · exact ih s hs
  | .call f es, ⟨hf, _, h⟩, s, hs => by
    have ih := exs_sgood hn (es := es) h
    rcases List.mem_cons.mp (show s ∈ Sg.name f :: encS (exSs es) from hs) with rfl | hs
    · exact List.all_eq_true.mp funs_name f hf
    · exact enc_good ih s hs
theorem exs_sgood {ns : List Str} (hn : ns.all (fun x => isNameL x.cps.toList) = true) : ∀ {es : List Ex}, GoodEs ns es → ∀ r ∈ exSs es, ∀ s ∈ r, s.good
  | [], _, r, h, _, _ => by cases h
  | e :: es, ⟨h1, h2⟩, r, hr, s, hs => by
    have a := ex_sgood hn h1
    have b := exs_sgood hn h2
    rcases List.mem_cons.mp (show r ∈ exS e :: exSs es from hr) with rfl | hr
    · exact a s hs
    · exact b r hr s hs
end
/-- the written text of signs is split into them -/
theorem split_text {ss : List Sg} (h : ∀ s ∈ ss, s.good) : splitR (tW true ss) = .ok ss := by
  have := split_loose (wr true ss) false [] (fun p hp => (wr_mem h p hp).1) (wr_apart true false ss fun z => by cases z) (.inl rfl)
  rw [List.append_nil, wr_signs, splitR_nil] at this
  show splitR (looseL (wr true ss)) = _
  rw [this]
  show Out.ok (ss ++ []) = _
  rw [List.append_nil]
end Rw

namespace Rw
open PySem PySem.Spec PyProof.Rows L2 GxR Gx Gd Rx Rs
theorem run_lt {c : Nat} (h : isRun c = true) : c < 1114112 := by
  unfold isRun isSmall isDigit at h
  rw [Bool.or_eq_true, Bool.or_eq_true, rg, rg, rg] at h
  omega
theorem good_fit {s : Sg} (g : s.good) : fit s = true := by
  cases s with
  | name l =>
    have hl := (name_parts g).2.1
    have hr := name_run g
    show (decide (l.length ≤ 1000) && l.all fun c => decide (c < 1114112)) = true
    rw [Bool.and_eq_true, decide_eq_true_eq, List.all_eq_true]
    exact ⟨by omega, fun c hc => decide_eq_true (run_lt (List.all_eq_true.mp hr c hc))⟩
  | num n => exact decide_eq_true g
  | quo l =>
    obtain ⟨h1, h2⟩ := g
    show (decide (l.length ≤ 1000) && l.all fun c => decide (c < 1114112)) = true
    rw [Bool.and_eq_true, decide_eq_true_eq, List.all_eq_true]
    refine ⟨by omega, fun c hc => decide_eq_true ?_⟩
    have h := List.all_eq_true.mp h1 c hc
    rw [Bool.or_eq_true, decide_eq_true_eq] at h
    rcases h with h | h
    · unfold isChar at h
      rw [Bool.and_eq_true, rg] at h
      omega
    · omega
  | mark c =>
    refine decide_eq_true ?_
    rcases mark_of g with h | h | h | h <;> omega
end Rw

/-! try .. except (A, B): the tuple of the classes is made behind the landing, all else is kept. -/
namespace Gd
open PySem PySem.Spec PyProof.Rows L2
theorem fly_push {B h : Heap} {l : List Env} {a : Addr} {Z : Obj → Prop} {o : Obj} (f : HandSPX.FlyingZ B l a Z h) : HandSPX.FlyingZ B l a Z (h.push o) := by
  have kp : ∀ q u, h.get? q = some u → (h.push o).get? q = some u := fun _ _ z => Heap.get?_push_of_some _ z
  rcases f with ⟨f1, f2, f3, oe, vs, T, oT, ws, e1, e2, e3, e4, e5, e6, e7, e8, e9⟩
  exact ⟨fun q u z => kp _ _ (f1 q u z), f2, f3.of_keeps fun q u z _ => ⟨u, kp _ _ z, rfl⟩, oe, vs, T, oT, ws, kp _ _ e1, e2, e3, e4, e5, e6, kp _ _ e7, e8, e9⟩
/-- what ends a suite of an except ends the try -/
theorem ends_suite {X : Cx} {a : Addr} {pn : List (Addr × Obj)} {pins : List (Addr × Obj)} {D : Ends} (ok : X.Ok) {f : Flow} {s : Shared} (h : SP (X.suite a pn) [] D f s) (un : ∀ σ H s, Inv (X.suite a pn) [] σ H s → Inv X pins σ H s) : SP X pins D f s := by
  cases f with
  | ret u => rcases h with ⟨v, σ, H, I, r, q⟩; exact ⟨v, σ, H, un _ _ _ I, r, q⟩
  | _ => rcases h with ⟨σ, H, I, q⟩; exact ⟨σ, H, un _ _ _ I, q⟩
/-- what the clause 'except (A, B)' wishes -/
def wTwo (K : PySem.W.Frag) (c1 c2 : Value) (ts : Addr → Value → Option Addr → TS) (D : Ends) : WX := fun cls d σ H =>
  PySem.W.exmAny K cls [c1, c2] = some true ∧ ∀ a, H a = none → ts a cls d D σ H
theorem two_eval {X : Cx} {x1 x2 : Str} {c1 c2 : Value} {n1 n2 tp : Pos} {kk : Nat} {a : Addr} {pn : List (Addr × Obj)} {σ : L2.St} {H : Hp} {s : Shared} (I : Inv (X.suite a pn) [] σ H s) (h1 : Names X x1 c1) (h2 : Names X x2 c2)
    {Q : Value → Shared → Prop} {E : Value → Shared → Prop} (q : Q (.ref s.heap.objs.size) { s with heap := s.heap.push { cls := .type "tuple", data := .seq [c1, c2].toArray } }) :
    wpAny (model X.prog X.w) (X.A.mark (some (.ref a))) (eval (.Tuple [.Name x1 n1, .Name x2 n2] kk tp) X.env) Q E s := by
  have one : ∀ {x : Str} {c : Value} {np : Pos} {R : Value → Shared → Prop}, Names X x c → R c s → wpAny (model X.prog X.w) (X.A.mark (some (.ref a))) (eval (.Name x np) X.env) R E s := fun {x c np R} hc r => by
    rcases hc with ⟨g, db, m | ⟨m, v, nn⟩⟩
    · exact ld_glob (X := X.suite a pn) I g m r db
    · exact ld_blt (X := X.suite a pn) I g m v r nn db
  exact wpAny_Tuple (wpAny_items_cons (one h1 (wpAny_items_cons (one h2 (wpAny_items_nil ⟨by size_fits, q⟩)))))
section
variable {X : Cx} {x1 x2 : Str} {c1 c2 : Value} {body suite : List Stmt} {st : Stmt} {n1 n2 tp pos pos' : Pos} {kk : Nat} {tb : WX → TS} {ts : Addr → Value → Option Addr → TS}
theorem ps_try_two (hst : X.stack = X.env :: X.outer) (hfr : X.env.frame = some X.env.locals) (h1 : Names X x1 c1) (h2 : Names X x2 c2)
    (hb : ∀ (W : WX) (pn : List (Addr × Obj)) (xe : Value → Shared → Prop), Takes (X.tr pn xe) W → PassesOwn (model X.prog X.w) X.A X.env xe → PSs (X.tr pn xe) body (tb W))
    (hs : ∀ (a : Addr) (oe : Obj) (cls : Value) (d : Option Addr) (pn : List (Addr × Obj)), Zc cls d oe → (∃ vs, oe.data = .fields vs) → PSs (X.suite a ((a, oe) :: pn)) (st :: suite) (ts a cls d)) :
    PS X (.Try body [.ExceptHandler (some (.Tuple [.Name x1 n1, .Name x2 n2] kk tp)) none (st :: suite) pos'] [] [] pos) (fun D σ H => tb (wTwo X.K c1 c2 ts D) D σ H) := by
  constructor
  intro pins s σ H D I hw
  have ok := I.ok
  have fr : X.A.frames = some (X.env :: X.outer) := ok.frames.trans (by rw [hst])
  refine wpAny_Try_except (wpAny_mono ((hb (wTwo X.K c1 c2 ts D) (X.pn ++ pins) _ (fun u s1 caught => ?_) PassesOwn.looking).run [] s σ H D (I.toTry _) hw) (fun f s1 h => ?_) fun _ _ h => h)
  · rcases caught with ⟨a, B, sI, pI, σ1, H1, cls, d, rfl, It, nb, up1, sky, na, os, ag, hb1, yes⟩
    have I1 : Inv X pins σ1 H1 sI := It.ofTry ok
    have sky : Sky B (X.env :: X.outer) a (Zc cls d) X.env.locals s1.heap := hst ▸ sky
    show wpAny (model X.prog X.w) X.A (noteFrame (.ref a) X.env) _ _ _
    refine Sky.land Zc.steady fr hfr sky fun h3 fl up2 => ?_
    rcases fl.there with ⟨oe, vs, e1, z1, d1⟩
    have up12 := up1.trans up2
    have I3 : Inv X pins σ1 H1 { s1 with heap := h3 } := I1.landed nb fl.1 up12 os ag
    have aside : ∀ {g : Heap} {l : List Env} {o : Obj} {ws : Array Value}, g.FunFrames B l → g.get? a = some o → o.data = .fields ws → a ∉ frs l := fun {g l o ws} ff e dd hm => by
      rcases ff.mem hm with ⟨_, o', e', hnf⟩
      exact hnf _ (by rw [e] at e'; cases e'; exact dd)
    have ns := aside fl.2.2.1 e1 d1
    have nL : a ≠ X.env.locals := fun z => ns (List.mem_filterMap.mpr ⟨X.env, List.mem_cons_self, by rw [hfr, z]⟩)
    have nF : a ∉ X.fs := fun hm => by
      rcases List.mem_filterMap.mp hm with ⟨v, hv, q⟩
      exact ns (List.mem_filterMap.mpr ⟨v, List.mem_cons_of_mem _ hv, q⟩)
    refine wpAny_handleBy_cons (codeAny_handlers_test ?_) (fun q => by cases q)
    have kp : ∀ q o, h3.get? q = some o → (h3.push { cls := .type "tuple", data := .seq [c1, c2].toArray }).get? q = some o := fun _ _ z => Heap.get?_push_of_some _ z
    have LT : PySem.W.Looks (model X.prog X.w) h3 (typeOf (.ref a)) cls := fun A Q E s k q => wpAny_typeOf_ref (k _ _ e1) (by rw [z1.1]; exact q)
    have LM := PySem.W.exm_tup2 (M := model X.prog X.w) ((I3.kIn).keeps kp) (LT.keeps kp) (Heap.get?_push_size h3 rfl) hb1
    refine two_eval (I3.suite e1 d1 na nL nF) h1 h2 (LM.here ?_)
    have fl' := fly_push (o := { cls := .type "tuple", data := .seq [c1, c2].toArray }) fl
    have up3 := up12.trans (Heap.UpToSlots.of_keeps kp)
    generalize h3.push { cls := .type "tuple", data := .seq [c1, c2].toArray } = h4 at fl' up3
    refine codeAny_handlers_suite (HandSPX.lands_againZ fl' fun h5 fl5 up5 => ?_)
    rcases fl5.there with ⟨oe5, vs5, e5, z5, d5⟩
    have I5 : Inv X pins σ1 H1 { s1 with heap := h5 } := I1.landed nb fl5.1 (up3.trans up5) os ag
    exact wpAny_mono ((hs a oe5 cls d (X.pn ++ pins) z5 ⟨_, d5⟩).run [] _ _ H1 _ (I5.suite e5 d5 na nL nF) (yes a na)) (fun f s6 h => ends_suite ok h fun _ _ _ J => J.unsuite ok) fun _ _ z => z.elim
  · have back : SP X pins D f s1 := by
      cases f with
      | ret u => rcases h with ⟨v, σ1, H1, J, r, q⟩; exact ⟨v, σ1, H1, J.ofTry ok, r, q⟩
      | _ => rcases h with ⟨σ1, H1, J, q⟩; exact ⟨σ1, H1, J.ofTry ok, q⟩
    cases f with
    | next => exact wpAny_execs_nil back
    | _ => exact back
end
end Gd

/-! Data that stands while a list or a dict is filled. -/
namespace Gd
open PySem PySem.Spec PyProof.Rows L2 GxR Gx
section
variable {K : PySem.W.Frag} {H : Hp} {p : Addr} {v : V} {d : PyData} {vs xs ys : List V} {ds : List PyData}
theorem lsts_one (e : H p = some (.lst xs)) : Lsts [p] H := fun b hb => by
  cases hb with
  | head => exact ⟨_, e⟩
  | tail _ h => cases h
theorem dt_lst (e : H p = some (.lst xs)) (h : Dt K H v d) {o : HO} : Dt K (upd H p o) v d := h.kb (Kb.put (by simp) e nt_lst : Kb [p] H _) (lsts_one e)
theorem dts_lst (e : H p = some (.lst xs)) (h : DtAll K H vs ds) {o : HO} : DtAll K (upd H p o) vs ds := DtAll.kb (Kb.put (by simp) e nt_lst : Kb [p] H _) (lsts_one e) h
theorem DtAll.snoc : ∀ {vs : List V} {ds : List PyData}, DtAll K H vs ds → Dt K H v d → DtAll K H (vs ++ [v]) (ds ++ [d])
  | _, _, .nil, h => .cons h .nil
  | _, _, .cons h1 h2, h => .cons h1 (h2.snoc h)
theorem DtAll.cat : ∀ {vs ws : List V} {ds es : List PyData}, DtAll K H vs ds → DtAll K H ws es → DtAll K H (vs ++ ws) (ds ++ es)
  | _, _, _, _, .nil, h => h
  | _, _, _, _, .cons h1 h2, h => .cons h1 (h2.cat h)
/-- a part of the list goes on at another address -/
theorem tup_inv {ds : List PyData} (h : Dt K H v (.tuple ds)) : ∃ a xs, v = .ref a ∧ SqT K H a xs ∧ DtAll K H xs ds := by
  cases h with
  | tup h hs => exact ⟨_, _, rfl, h, hs⟩
end
theorem iteTb {b : Bool} {A B : Prop} (h : b = true) (q : A) : if b = true then A else B := by rw [if_pos h]; exact q
theorem iteFb {b : Bool} {A B : Prop} (h : b = false) (q : B) : if b = true then A else B := by subst h; exact q
/-! ### cuts: what holds between two statements -/
theorem seq_gen {a b : TS} {D : Ends} {σ : L2.St} {H : Hp} (C : L2.St → Hp → Prop) (h : ∀ N : L2.St → Hp → Prop, (∀ σ' H', C σ' H' → N σ' H') → a { D with nx := N } σ H) (rest : ∀ σ' H', C σ' H' → b D σ' H') : tSeq a b D σ H := h _ rest
theorem asg_gen {te : TE} {g : TG} {D : Ends} {σ : L2.St} {H : Hp} (C : V → Hp → Prop) (h : ∀ N : VK, (∀ v H', C v H' → N v H') → te σ H N) (rest : ∀ v H', C v H' → g v σ H' D.nx) : tAsg te g D σ H := h _ rest
theorem gset {i : Nat} {v : V} {σ : L2.St} {H : Hp} {Q : L2.St → Hp → Prop} (h : Q (σ.set i (some v)) H) : gName i v σ H Q := h
/-- x = constant -/
theorem seq_c {c : V} {i : Nat} {b : TS} {D : Ends} {σ : L2.St} {H : Hp} (h : b D (σ.set i (some c)) H) : tSeq (tAsg (tC c) (gName i)) b D σ H := h
theorem sset_gen {te : TE} {i : Nat} {b : TS} {D : Ends} {σ : L2.St} {H : Hp} (C : V → Hp → Prop) (h : ∀ N : VK, (∀ v H', C v H' → N v H') → te σ H N) (rest : ∀ v H', C v H' → b D (σ.set i (some v)) H') : tSeq (tAsg te (gName i)) b D σ H := h _ rest
theorem nx_gen {D : Ends} {σ : L2.St} {H : Hp} (h : D.nx σ H) : tNext D σ H := h
theorem ret_gen {te : TE} {D : Ends} {σ : L2.St} {H : Hp} (C : V → Hp → Prop) (h : ∀ N : VK, (∀ v H', C v H' → N v H') → te σ H N) (rest : ∀ v H', C v H' → D.rt v H') : tRet te D σ H := h _ rest
end Gd

/-! Forms of lines, pure; reading. -/
namespace L2
theorem mt_isupper {X : Cx} : MtR X "str.isupper" (fun x xs H Q => ∃ a, x = .str a ∧ xs = [] ∧ True ∧ Q (.bl (PySem.Txt.isupper a)) H) :=
  mt0 (C := fun _ => True) (g := fun a => .bl (PySem.Txt.isupper a)) fun _ _ s _ _ h => PySem.SC.isupper (h _ s.toks rfl)
end L2
namespace Rw
open PySem PySem.Spec PyProof.Rows L2 GxR Gx Gd Rx Rs
abbrev s_word_of : Stmt := topS 73
theorem sc_word_of : FnScope ["signs"] ["signs"] (defScope s_word_of) := ⟨rfl, rfl, rfl, by decide +kernel, rfl, by decide +kernel, by decide +kernel⟩
abbrev s_sign_of : Stmt := topS 76
theorem sc_sign_of : FnScope ["part"] ["part"] (defScope s_sign_of) := ⟨rfl, rfl, rfl, by decide +kernel, rfl, by decide +kernel, by decide +kernel⟩
abbrev s_behind_forms : Stmt := topS 77
theorem sc_behind_forms : FnScope ["signs", "at", "sign"] ["signs", "at", "sign"] (defScope s_behind_forms) := ⟨rfl, rfl, rfl, by decide +kernel, rfl, by decide +kernel, by decide +kernel⟩
abbrev s_is_right : Stmt := topS 86
theorem sc_is_right : FnScope ["part", "content"] ["part", "content"] (defScope s_is_right) := ⟨rfl, rfl, rfl, by decide +kernel, rfl, by decide +kernel, by decide +kernel⟩
abbrev s_scalar_of : Stmt := topS 85
theorem sc_scalar_of : FnScope ["sign", "scalar"] ["sign"] (defScope s_scalar_of) := ⟨rfl, rfl, rfl, by decide +kernel, rfl, by decide +kernel, by decide +kernel⟩
abbrev s_value_of : Stmt := topS 84
theorem sc_value_of : FnScope ["part", "sign", "kind", "content"] ["part", "sign"] (defScope s_value_of) := ⟨rfl, rfl, rfl, by decide +kernel, rfl, by decide +kernel, by decide +kernel⟩
/-- a value of a line, with its part -/
inductive Pv where
  | name (l : List Nat) | num (n : Nat) | quo (l : List Nat) | sc (s : Rv.Sc) | out (l : List Nat) | val (va : Va)
def outs : List (List Nat) := ["applied", "failed", "unhandled", "stale", "removed", "conflict"].map cs
def Pv.d : Pv → PyData
  | .name l => .str (sx l)
  | .num n => .int (n : Int)
  | .quo l => .str (sx l)
  | .sc s => s.d
  | .out l => .str (sx l)
  | .val va => va.d
def Pv.part : Pv → String
  | .name _ => "NAME"
  | .num _ => "NUMBER"
  | .quo _ => "QUOTED"
  | .sc _ => "SCALAR"
  | .out _ => "OUTCOME"
  | .val _ => "VALUE"
def Pv.ss : Pv → List Sg
  | .name l => [.name l]
  | .num n => [.num n]
  | .quo l => [.quo l]
  | .sc s => [scS s]
  | .out l => [.name l]
  | .val va => vaS va
def Pv.ok : Pv → Prop
  | .name l => isNameL l = true
  | .num n => n ≤ 999999999
  | .quo l => l.all (fun c => isChar c || decide (c = 10)) = true ∧ l.length ≤ 40
  | .sc s => s.good
  | .out l => l ∈ outs
  | .val va => va.good
def parts : List String := ["NAME", "NUMBER", "QUOTED", "SCALAR", "OUTCOME"]
/-- the value of a part that is one sign -/
def valOf (p : String) (s : Sg) : Option PyData :=
  if p = "SCALAR" then scalarOf s else match s with
  | .name l => if p = "NAME" then some (.str (sx l)) else if p = "OUTCOME" then (if l ∈ outs then some (.str (sx l)) else none) else none
  | .num n => if p = "NUMBER" then some (.int (n : Int)) else none
  | .quo l => if p = "QUOTED" then some (.str (sx l)) else none
  | .mark _ => none
def litR : Option (Ex × List Sg) → Option (PyData × List Sg)
  | some (.lit v, r) => some (v, r)
  | _ => none
def rdV (p : String) (L : List Sg) : Option (PyData × List Sg) :=
  if p = "VALUE" then litR (readE L) else match L with
  | [] => none
  | s :: r => (valOf p s).map fun d => (d, r)
def rdF : List String → List Sg → Option (List PyData)
  | [], [] => some []
  | [], _ :: _ => none
  | p :: ps, L => match rdV p L with
    | none => none
    | some (d, r) => (rdF ps r).map fun ds => d :: ds
def spWord (K : PySem.W.Frag) : Sp := fun vs H Q _ => ∃ (S : Addr) (L : List Sg), vs = [.ref S] ∧ Sgs K H S L ∧ Q (.str (match L with | .name l :: _ => sx l | _ => Str.ofString "")) H
def spSignOf (K : PySem.W.Frag) : Sp := fun vs H Q _ => ∃ l : List Nat, vs = [.str (sx l)] ∧ isNameL l = true ∧ ∀ H' u, Kp H H' → Dt K H' u (Sg.name l).d → Q u H'
def spAtN (K : PySem.W.Frag) : Sp := fun vs H Q _ => ∃ (S : Addr) (a : Nat) (v : V) (L : List Sg) (l : List Nat), vs = [.ref S, .int (a : Int), v] ∧ Sgs K H S L ∧ Dt K H v (Sg.name l).d ∧ fit (.name l) = true ∧ L[a]? = some (.name l) ∧ Q (.bl true) H
def spBehN (K : PySem.W.Frag) : Sp := fun vs H Q _ => ∃ (S : Addr) (a : Nat) (v : V) (L : List Sg) (l : List Nat), vs = [.ref S, .int (a : Int), v] ∧ Sgs K H S L ∧ Dt K H v (Sg.name l).d ∧ fit (.name l) = true ∧ L[a]? = some (.name l) ∧ Q (.int ((a + 1 : Nat) : Int)) H
def spRight (K : PySem.W.Frag) : Sp := fun vs H Q _ => ∃ (p : String) (x : V), vs = [.str (Str.ofString p), x] ∧ ((p ≠ "OUTCOME" ∧ p ∈ parts ∧ Q (.bl true) H) ∨ (p = "OUTCOME" ∧ ∃ l, x = .str (sx l) ∧ Q (.bl (decide (l ∈ outs))) H))
def ResV (K : PySem.W.Frag) (C : Addr) (H : Hp) (Q : VK) (E : XK) : Option PyData → Prop
  | none => ErrN C H E
  | some d => ∀ H' u, Kp H H' → Dt K H' u d → Q u H'
def spSclOf (K : PySem.W.Frag) (C : Addr) (ts : List Addr) : Sp := fun vs H Q E => ∃ v s, vs = [v] ∧ Dt K H v (Sg.d s) ∧ fit s = true ∧ (∀ T ∈ ts, TabG H T) ∧ ResV K C H Q E (scalarOf s)
def spValOf (K : PySem.W.Frag) (C : Addr) (ts : List Addr) : Sp := fun vs H Q E => ∃ (p : String) (v : V) (s : Sg), vs = [.str (Str.ofString p), v] ∧ p ∈ parts ∧ Dt K H v (Sg.d s) ∧ fit s = true ∧ (∀ T ∈ ts, TabG H T) ∧ ResV K C H Q E (valOf p s)
section
variable {P : Program} {w : World} {K : PySem.W.Frag} {mg : Str → Option Value} {base : Heap} {C : Addr} {ts : List Addr}
def _root_.Rs.Sg.wd : Sg → String
  | .name _ => "name"
  | .num _ => "number"
  | .quo _ => "quoted"
  | .mark _ => "mark"
theorem no_mark {l : List Nat} (h : isNameL l = true) : inV (.str (sx l)) marksV = false := by
  have g : ∀ z : String, isNameL (cs z) = false → (Str.ofString z == sx l) = false := fun z hz => beq_eq_false_iff_ne.mpr fun e => by
    have : l = cs z := by rw [← sx_tl l, ← e]; rfl
    rw [this, hz] at h
    cases h
  show ((Str.ofString "(" == sx l) || ((Str.ofString ")" == sx l) || ((Str.ofString "," == sx l) || ((Str.ofString "=" == sx l) || false)))) = false
  rw [g "(" (by decide +kernel), g ")" (by decide +kernel), g "," (by decide +kernel), g "=" (by decide +kernel)]
  rfl
theorem c_word_of (D : DefAt K mg "word_of" s_word_of ["signs"]) : Cal P w K mg base CX0 1 "word_of" ["signs"] (spWord K) := by
  refine D.cal (k := 0) sc_word_of (fun vs H Q E h => ?_) fun f cdv A outer s H vs Q E hr h => ?_
  · obtain ⟨_, _, rfl, _⟩ := h
    rfl
  · obtain ⟨S, L, rfl, hS, q⟩ := h
    refine ⟨_, (pss_cons (ps_if (PW.pt (pw_or (pt_not (pt_truth (pv 0) (by intro _; rfl))) (pw_or1 (pt_cmpR op_ne (pe_ix ix_tup (pe_ix ix_list (pv 0) pe_int (fun _ _ => rfl)) pe_int (fun _ _ => rfl)) pe_str (nomark _))))) (pss_one (ps_ret pe_str)) pss_nil)
  (pss_one (ps_ret (pe_ix ix_tup (pe_ix ix_list (pv 0) pe_int (fun _ _ => rfl)) pe_int (fun _ _ => rfl))))), ?_⟩
    obtain ⟨vs, e, hl, ds⟩ := hS.len
    cases L with
    | nil =>
      obtain rfl : vs = [] := List.length_eq_zero_iff.mp hl
      exact ⟨_, rfl, false, .inl ⟨[], .inl (.inl e), rfl⟩, iteT (iteT q)⟩
    | cons s r =>
      cases ds with
      | @cons v _ _ _ h0 hs =>
      have two : ∃ p y, v = .ref p ∧ SqT K H p [.str (Str.ofString s.wd), y] ∧ ∀ l, s = .name l → y = .str (sx l) := by
        cases s <;> (cases h0 with | tup h hs => cases hs with | cons a hs => cases hs with | cons b hs => cases hs; cases a; cases b; exact ⟨_, _, rfl, h, fun l e => by cases e <;> rfl⟩)
      obtain ⟨p, y, rfl, hp, hy⟩ := two
      refine ⟨_, rfl, true, .inl ⟨_, .inl (.inl e), rfl⟩, iteF ⟨_, rfl, S, _, 0, _, rfl, rfl, .inl (.inl e), atI_nat (j := 0) rfl, p, _, 0, _, rfl, rfl, hp, atI_nat (j := 0) rfl, rfl, _, rfl, ?_⟩⟩
      cases s with
      | name l =>
        obtain rfl := hy l rfl
        exact iteFb (by rfl) ⟨_, rfl, S, _, 0, _, rfl, rfl, .inl (.inl e), atI_nat (j := 0) rfl, p, _, 1, _, rfl, rfl, hp, atI_nat (j := 1) rfl, q⟩
      | num _ => exact iteTb (by rfl) q
      | quo _ => exact iteTb (by rfl) q
      | mark _ => exact iteTb (by rfl) q
theorem c_sign_of {aM : Addr} (D : DefAt K mg "_sign_of" s_sign_of ["part"]) (g_MARKS : mg "MARKS" = some (.ref aM)) (hM : ∀ H, SqT K H aM marksV) : Cal P w K mg base CX0 1 "_sign_of" ["part"] (spSignOf K) := by
  refine D.cal (k := 0) sc_sign_of (fun vs H Q E h => ?_) fun f cdv A outer s H vs Q E hr h => ?_
  · obtain ⟨_, rfl, _⟩ := h
    rfl
  · obtain ⟨l, rfl, hl, q⟩ := h
    refine ⟨_, (pss_one (ps_ret (pe_ifExp (pt_cmpR op_in_seq (pv 0) (pe_glob (v := .ref aM) rfl g_MARKS rfl) (by rfl)) (pe_tup (pa_cons pe_str (pa_cons (pv 0) pa_nil))) (pe_tup (pa_cons pe_str (pa_cons (pv 0) pa_nil)))))), ?_⟩
    refine ⟨_, rfl, aM, _, rfl, .inr (hM H), rfl, rfl, _, rfl, iteF' (no_mark hl) ⟨_, rfl, by show 2 ≤ sizeLine; decide, fun p hp => q _ _ (Kb.new hp) (.tup (SqT.of upd_same) (.cons (.str _) (.cons (.str _) .nil)))⟩⟩
theorem c_is_atN (D : DefAt K mg "is_at" s_is_at ["signs", "at", "sign"]) (m_len : mg "len" = none) : Cal P w K mg base CX0 1 "is_at" ["signs", "at", "sign"] (spAtN K) := by
  refine D.cal (k := 0) sc_is_at (fun vs H Q E h => ?_) fun f cdv A outer s H vs Q E hr h => ?_
  · obtain ⟨S, a, v, L, c, rfl, _⟩ := h
    rfl
  · obtain ⟨S, a, v, L, l, rfl, hS, hv, hf, hL, q⟩ := h
    refine ⟨_, (pss_one (ps_ret (pe_and (pe_cmpR op_lt (pv 1) (pe_callB call_len_seq (by rfl) m_len (by decide +kernel) (pa_cons (pv 0) pa_nil)) (nomark _)) (pe_one (pe_cmpR (op_eqD hr.r.units) (pe_ix ix_list (pv 0) (pv 1) (fun _ _ => rfl)) (pv 2) (nomark _)))))), ?_⟩
    obtain ⟨vs, e, hl, ds⟩ := hS.len
    have ha : a < L.length := (List.getElem?_eq_some_iff.mp hL).1
    refine ⟨_, rfl, _, rfl, S, vs, rfl, .inl (.inl (.inl e)), _, _, rfl, rfl, _, rfl, iteP (show (a : Int) < (vs.length : Int) by omega) ?_⟩
    obtain ⟨u, hu, du⟩ := ds.at (i := a) (d := (Sg.name l).d) (by rw [List.getElem?_map, hL]; rfl)
    refine ⟨_, rfl, _, rfl, S, vs, _, u, rfl, rfl, .inl (.inl e), atI_nat hu, _, rfl, (Sg.name l).d, (Sg.name l).d, du.dp, hv.dp, (fit_ok hf).shaped, (fit_ok hf).shaped, ?_⟩
    obtain ⟨n, hn, ho⟩ := fit_ok hf
    rw [PySem.SeqAt.eqv_refl _ (okN_lay _ ho).1]
    exact q
theorem c_behind_forms (D : DefAl K mg "_behind" "behind_forms" s_behind_forms ["signs", "at", "sign"]) (BN_BadForm : BadN K mg "BadForm" C) (c_is_at : Cal P w K mg base CX0 1 "is_at" ["signs", "at", "sign"] (spAtN K)) : CalX P w K mg base 2 "behind_forms" ["signs", "at", "sign"] (spBehN K) := by
  refine D.calX (k := 1) sc_behind_forms (fun vs H Q E h => ?_) fun f cdv A outer s H vs Q E hr h => ?_
  · obtain ⟨S, a, v, L, c, rfl, _⟩ := h
    rfl
  · obtain ⟨S, a, v, L, l, rfl, hS, hv, hf, hL, q⟩ := h
    refine ⟨_, (pss_cons (ps_if (pt_not (pt_val (pe_cal (c_is_at.mono (by omega)) hr (by rfl) (pa_cons (pv 0) (pa_cons (pv 1) (pa_cons (pv 2) pa_nil)))))) (pss_one (ps_bad0 BN_BadForm rfl (takes_of rfl rfl rfl rfl) (by rfl))) pss_nil)
  (pss_one (ps_ret (pe_op op_add (pv 1) pe_int)))), ?_⟩
    exact ⟨_, rfl, _, rfl, _, rfl, S, a, v, L, l, rfl, hS, hv, hf, hL, _, rfl, iteF' (by rfl) ⟨_, rfl, _, _, rfl, rfl, q⟩⟩
theorem c_is_right {aO : Addr} (D : DefAt K mg "_is_right" s_is_right ["part", "content"]) (g_OUTCOMES : mg "OUTCOMES" = some (.ref aO)) (hO : ∀ H, SqT K H aO (outs.map fun l => V.str (sx l))) (c_is_scalar : Cal P w K mg base CX0 4 "is_scalar" ["thing"] (spData K ts Rv.isScalarD)) : Cal P w K mg base CX0 5 "_is_right" ["part", "content"] (spRight K) := by
  refine D.cal (k := 4) sc_is_right (fun vs H Q E h => ?_) fun f cdv A outer s H vs Q E hr h => ?_
  · obtain ⟨p, x, rfl, _⟩ := h
    rfl
  · obtain ⟨p, x, rfl, h⟩ := h
    refine ⟨_, (pss_cons (ps_if (pt_cmpR op_eq (pv 0) pe_str (nomark _)) (pss_one (ps_ret (pe_cal (c_is_scalar.mono (by omega)) hr (by rfl) (pa_cons (pe_tup (pa_cons pe_str (pa_cons (pv 1) pa_nil))) pa_nil)))) pss_nil)
  (pss_cons (ps_if (pt_cmpR op_eq (pv 0) pe_str (nomark _)) (pss_one (ps_ret (pe_cmpR op_in_seq (pv 1) (pe_glob (v := .ref aO) rfl g_OUTCOMES rfl) (by rfl)))) pss_nil)
  (pss_one (ps_ret pe_bl)))), ?_⟩
    rcases h with ⟨np, hp, q⟩ | ⟨rfl, l, rfl, q⟩
    · simp only [parts, List.mem_cons, List.not_mem_nil, or_false] at hp
      rcases hp with rfl | rfl | rfl | rfl | rfl
      · exact ⟨_, rfl, rfl, _, rfl, iteN (by decide +kernel) ⟨_, rfl, rfl, _, rfl, iteN (by decide +kernel) q⟩⟩
      · exact ⟨_, rfl, rfl, _, rfl, iteN (by decide +kernel) ⟨_, rfl, rfl, _, rfl, iteN (by decide +kernel) q⟩⟩
      · exact ⟨_, rfl, rfl, _, rfl, iteN (by decide +kernel) ⟨_, rfl, rfl, _, rfl, iteN (by decide +kernel) q⟩⟩
      · exact ⟨_, rfl, rfl, _, rfl, iteN (by decide +kernel) ⟨_, rfl, rfl, _, rfl, iteN (by decide +kernel) q⟩⟩
      · exact absurd rfl np
    · refine ⟨_, rfl, rfl, _, rfl, iteN (by decide +kernel) ⟨_, rfl, rfl, _, rfl, iteP rfl ⟨_, rfl, aO, _, rfl, .inr (hO H), rfl, ?_, ?_⟩⟩⟩
      · exact List.all_eq_true.mpr fun v hv => by obtain ⟨l, _, rfl⟩ := List.mem_map.mp hv; rfl
      · have : inV (.str (sx l)) (outs.map fun l => V.str (sx l)) = decide (l ∈ outs) := by
          rw [Bool.eq_iff_iff, decide_eq_true_eq]
          unfold inV
          rw [List.any_eq_true]
          constructor
          · rintro ⟨v, hv, h⟩
            obtain ⟨m, hm, rfl⟩ := List.mem_map.mp hv
            have h : (sx m == sx l) = true := h
            rw [← sx_inj (beq_iff_eq.mp h)]
            exact hm
          · intro h
            exact ⟨_, List.mem_map.mpr ⟨l, h, rfl⟩, by show (sx l == sx l) = true; simp⟩
        show Q (.bl (inV (.str (sx l)) (outs.map fun l => V.str (sx l)))) H
        rw [this]
        exact q
theorem ErrN.kp' {H H' : Hp} {E : XK} (h : ErrN C H E) (k : Kp H H') : ErrN C H' E := fun H2 k2 => h H2 (k.trans k2)
theorem c_scalar_of_f (D : DefAt K mg "_scalar_of" s_scalar_of ["sign"]) (BN_BadForm : BadN K mg "BadForm" C) (c_scalar_of : Cal P w K mg base CX0 6 "scalar_of" ["sign"] (spScalar K ts)) : CalX P w K mg base 7 "_scalar_of" ["sign"] (spSclOf K C ts) := by
  refine D.calX (k := 6) sc_scalar_of (fun vs H Q E h => ?_) fun f cdv A outer s H vs Q E hr h => ?_
  · obtain ⟨v, s, rfl, _⟩ := h
    rfl
  · obtain ⟨v, s, rfl, hv, hf, hT, q⟩ := h
    refine ⟨_, (pss_cons (ps_set (i := 1) sc_scalar_of.nd rfl (Or.inl rfl) (pe_cal (c_scalar_of.mono (by omega)) hr (by rfl) (pa_cons (pv 0) pa_nil)))
  (pss_cons (ps_if (pt_cmpR op_isN (pv 1) pe_non (nomark _)) (pss_one (ps_bad0 BN_BadForm rfl (takes_of rfl rfl rfl rfl) (by rfl))) pss_nil)
  (pss_one (ps_ret (pv 1))))), ?_⟩
    refine ⟨_, rfl, v, s, rfl, hv, hf, hT, fun H1 u k h => ?_⟩
    cases e : scalarOf s with
    | none =>
      rw [e] at h q
      obtain rfl : u = .non := h
      refine gset ?_
      exact ⟨_, rfl, rfl, _, rfl, iteT (q H1 k)⟩
    | some d =>
      rw [e] at h q
      refine gset ?_
      exact ⟨_, rfl, rfl, _, rfl, iteF' (decide_eq_false h.1) ⟨_, rfl, q H1 u k h.2⟩⟩
def kindT : String → String
  | "NUMBER" => "number"
  | "QUOTED" => "quoted"
  | _ => "name"
def signParts : List String := ["NAME", "NUMBER", "QUOTED", "OUTCOME"]
theorem c_value_of {aSK : Addr} (D : DefAt K mg "_value_of" s_value_of ["part", "sign"]) (BN_BadForm : BadN K mg "BadForm" C) (g_SIGN_KINDS : mg "SIGN_KINDS" = some (.ref aSK)) (hSK : ∀ p ∈ signParts, KDct K w aSK (Str.ofString p) (.str (Str.ofString (kindT p))))
    (c__scalar_of : CalX P w K mg base 7 "_scalar_of" ["sign"] (spSclOf K C ts)) (c__is_right : Cal P w K mg base CX0 5 "_is_right" ["part", "content"] (spRight K)) : CalX P w K mg base 8 "_value_of" ["part", "sign"] (spValOf K C ts) := by
  refine D.calX (k := 7) sc_value_of (fun vs H Q E h => ?_) fun f cdv A outer s H vs Q E hr h => ?_
  · obtain ⟨p, v, s, rfl, _⟩ := h
    rfl
  · obtain ⟨p, v, s, rfl, hp, hv, hf, hT, q⟩ := h
    refine ⟨_, (pss_cons (ps_if (pt_cmpR op_eq (pv 0) pe_str (nomark _)) (pss_one (ps_ret (pe_calX (c__scalar_of.mono (by omega)) hr (by rfl) (fun σ => passAt (takes_of rfl rfl rfl rfl) σ) (pa_cons (pv 1) pa_nil)))) pss_nil)
  (pss_cons (ps_asg (pv 1) (pg_tup rfl (pgs_cons (pg_name (i := 2) sc_value_of.nd rfl (Or.inl rfl)) (pgs_cons (pg_name (i := 3) sc_value_of.nd rfl (Or.inl rfl)) pgs_nil))))
  (pss_cons (ps_if (PW.pt (pw_or (pt_cmpR op_ne (pv 2) (pe_ix ix_kdict (pe_glob (v := .ref aSK) rfl g_SIGN_KINDS rfl) (pv 0) (fun _ _ => rfl)) (nomark _)) (pw_or1 (pt_not (pt_val (pe_cal (c__is_right.mono (by omega)) hr (by rfl) (pa_cons (pv 0) (pa_cons (pv 3) pa_nil)))))))) (pss_one (ps_bad0 BN_BadForm rfl (takes_of rfl rfl rfl rfl) (by rfl))) pss_nil)
  (pss_one (ps_ret (pv 3)))))), ?_⟩
    by_cases hs : p = "SCALAR"
    · subst hs
      refine ⟨_, rfl, rfl, _, rfl, iteP rfl ⟨_, rfl, v, s, rfl, hv, hf, hT, ?_⟩⟩
      have e : valOf "SCALAR" s = scalarOf s := by unfold valOf; rw [if_pos rfl]
      rw [e] at q
      cases es : scalarOf s with
      | none => rw [es] at q; exact q
      | some d => rw [es] at q; exact q
    · have two : ∃ a y, v = .ref a ∧ SqT K H a [.str (Str.ofString s.wd), y] ∧ (∀ l, s = .name l → y = .str (sx l)) ∧ (match s with | .name l => Dt K H y (.str (sx l)) | .num n => Dt K H y (.int (n : Int)) | .quo l => Dt K H y (.str (sx l)) | .mark c => Dt K H y (.str (sx [c]))) := by
        cases s <;> (cases hv with | tup h hs => cases hs with | cons a hs => cases hs with | cons b hs => cases hs; cases a; exact ⟨_, _, rfl, h, fun l e => by cases e <;> (cases b; rfl), b⟩)
      obtain ⟨a, y, rfl, ha, hy, dy⟩ := two
      have hp' : p ∈ signParts := by
        simp only [parts, List.mem_cons, List.not_mem_nil, or_false] at hp
        rcases hp with rfl | rfl | rfl | rfl | rfl
        · simp [signParts]
        · simp [signParts]
        · simp [signParts]
        · exact absurd rfl hs
        · simp [signParts]
      have hk := hSK p hp'
      simp only [signParts, List.mem_cons, List.not_mem_nil, or_false] at hp'
      have hne : ¬ V.str (Str.ofString p) = V.str (Str.ofString "SCALAR") := by rcases hp' with rfl | rfl | rfl | rfl <;> decide +kernel
      refine ⟨_, rfl, rfl, _, rfl, iteN hne ⟨_, rfl, a, _, rfl, ha, rfl, _, _, rfl, _, _, rfl, rfl, ?_⟩⟩
      refine ⟨_, rfl, _, rfl, aSK, _, _, rfl, rfl, hk, rfl, _, rfl, ?_⟩
      have bad : valOf p s = none → E (.ref C) none H := fun e => by rw [e] at q; exact q H (Kb.refl H)
      have good : ∀ d, valOf p s = some d → Dt K H y d → Q y H := fun d e h => by rw [e] at q; exact q H y (Kb.refl H) h
      rcases hp' with rfl | rfl | rfl | rfl
      · cases s with
        | name l => exact iteFb (by rfl) ⟨_, rfl, _, rfl, "NAME", y, rfl, .inl ⟨by decide, by decide, _, rfl, iteF' (by rfl) ⟨_, rfl, good _ (by simp [valOf]) dy⟩⟩⟩
        | _ => exact iteTb (by rfl) (iteT (bad (by simp [valOf])))
      · cases s with
        | num l => exact iteFb (by rfl) ⟨_, rfl, _, rfl, "NUMBER", y, rfl, .inl ⟨by decide, by decide, _, rfl, iteF' (by rfl) ⟨_, rfl, good _ (by simp [valOf]) dy⟩⟩⟩
        | _ => exact iteTb (by rfl) (iteT (bad (by simp [valOf])))
      · cases s with
        | quo l => exact iteFb (by rfl) ⟨_, rfl, _, rfl, "QUOTED", y, rfl, .inl ⟨by decide, by decide, _, rfl, iteF' (by rfl) ⟨_, rfl, good _ (by simp [valOf]) dy⟩⟩⟩
        | _ => exact iteTb (by rfl) (iteT (bad (by simp [valOf])))
      · cases s with
        | name l =>
          obtain rfl := hy l rfl
          by_cases hl : l ∈ outs
          · exact iteFb (by rfl) ⟨_, rfl, _, rfl, "OUTCOME", _, rfl, .inr ⟨rfl, l, rfl, _, rfl, iteF' (by rw [decide_eq_true hl]; rfl) ⟨_, rfl, good _ (by simp [valOf, hl]) dy⟩⟩⟩
          · exact iteFb (by rfl) ⟨_, rfl, _, rfl, "OUTCOME", _, rfl, .inr ⟨rfl, l, rfl, _, rfl, iteT' (by rw [decide_eq_false hl]; rfl) (bad (by simp [valOf, hl]))⟩⟩
        | _ => exact iteTb (by rfl) (iteT (bad (by simp [valOf])))
end
end Rw

/-! Forms, read. -/
namespace Rw
open PySem PySem.Spec PyProof.Rows L2 GxR Gx Gd Rx Rs
abbrev s_read_expression : Stmt := topS 80
theorem sc_read_expression : FnScope ["signs", "at"] ["signs", "at"] (defScope s_read_expression) := ⟨rfl, rfl, rfl, by decide +kernel, rfl, by decide +kernel, by decide +kernel⟩
abbrev s_read_literal : Stmt := topS 81
theorem sc_read_literal : FnScope ["signs", "at", "expression", "end"] ["signs", "at"] (defScope s_read_literal) := ⟨rfl, rfl, rfl, by decide +kernel, rfl, by decide +kernel, by decide +kernel⟩
abbrev s_read_value : Stmt := topS 79
theorem sc_read_value : FnScope ["part", "signs", "at", "sign"] ["part", "signs", "at"] (defScope s_read_value) := ⟨rfl, rfl, rfl, by decide +kernel, rfl, by decide +kernel, by decide +kernel⟩
abbrev s_read_form : Stmt := topS 74
theorem sc_read_form : FnScope ["form", "signs", "values", "at", "part", "value"] ["form", "signs"] (defScope s_read_form) := ⟨rfl, rfl, rfl, by decide +kernel, rfl, by decide +kernel, by decide +kernel⟩
def spLitR (K : PySem.W.Frag) (C : Addr) (ts : List Addr) : Sp := fun vs H Q E => ∃ (S : Addr) (a : Nat) (L : List Sg), vs = [.ref S, .int (a : Int)] ∧ Sgs K H S L ∧ (∀ s ∈ L, fit s = true) ∧ L.length ≤ 1000 ∧ (∀ T ∈ ts, TabG H T) ∧ Res K C L H Q E (litR (readE (L.drop a)))
def spRV (K : PySem.W.Frag) (C : Addr) (ts : List Addr) : Sp := fun vs H Q E => ∃ (p : String) (S : Addr) (a : Nat) (L : List Sg), vs = [.str (Str.ofString p), .ref S, .int (a : Int)] ∧ p ∈ "VALUE" :: parts ∧ Sgs K H S L ∧ (∀ s ∈ L, fit s = true) ∧ L.length ≤ 1000 ∧ a ≤ L.length ∧ (∀ T ∈ ts, TabG H T) ∧ Res K C L H Q E (rdV p (L.drop a))
def formL : List (String × List String) := [("start", ["NAME", "QUOTED"]), ("connect", []), ("disconnect", ["NUMBER"]), ("event", ["NUMBER", "NUMBER", "NUMBER", "NAME", "SCALAR"]), ("discard", ["NUMBER", "NUMBER", "OUTCOME"]), ("resolve", ["QUOTED", "VALUE"]), ("replace", ["QUOTED"])]
theorem rdV_cons {p : String} (h : ¬ p = "VALUE") (s : Sg) (r : List Sg) : rdV p (s :: r) = (valOf p s).map fun d => (d, r) := by unfold rdV; rw [if_neg h]
theorem rdV_nil {p : String} (h : ¬ p = "VALUE") : rdV p [] = none := by unfold rdV; rw [if_neg h]
theorem rdF_cons (p : String) (ps : List String) (L : List Sg) : rdF (p :: ps) L = match rdV p L with | none => none | some (d, r) => (rdF ps r).map fun ds => d :: ds := by cases L <;> rfl
theorem up_parts : ("VALUE" :: parts).all (fun p => Txt.isupper (Str.ofString p)) = true := by decide +kernel
theorem low_kinds : formL.all (fun f => !(Txt.isupper (Str.ofString f.1)) && isNameL (cs f.1) && f.2.all fun p => decide (p ∈ "VALUE" :: parts)) = true := by decide +kernel
theorem other_parts : parts.all (fun p => ["EXPRESSION", "VALUE", "NAMES", "PARAMETERS", "ARGUMENTS", "OUTCOMES"].all fun z => decide (¬ V.str (Str.ofString p) = V.str (Str.ofString z))) = true := by decide +kernel
def ResT (K : PySem.W.Frag) (C : Addr) (H : Hp) (Q : VK) (E : XK) : Option (List PyData) → Prop
  | none => ErrN C H E
  | some ds => ∀ H' u, Kp H H' → Dt K H' u (.tuple ds) → Q u H'
def spForm (K : PySem.W.Frag) (C : Addr) (ts : List Addr) : Sp := fun vs H Q E => ∃ (fm S : Addr) (w : String) (ps : List String) (r : List Sg), vs = [.ref fm, .ref S] ∧ (w, ps) ∈ formL ∧ SqT K H fm ((w :: ps).map fun p => V.str (Str.ofString p)) ∧ Sgs K H S (.name (cs w) :: r) ∧ (∀ s ∈ Sg.name (cs w) :: r, fit s = true) ∧ r.length ≤ 999 ∧ (∀ T ∈ ts, TabG H T) ∧ ResT K C H Q E (rdF ps r)
section
variable {P : Program} {w : World} {K : PySem.W.Frag} {mg : Str → Option Value} {base : Heap} {C CE : Addr} {ts : List Addr} {k : Nat}
theorem c_read_expression_f (D : DefAt K mg "_read_expression" s_read_expression ["signs", "at"]) (BN_BadForm : BadN K mg "BadForm" C) (g_BadExpression : mg "BadExpression" = some (.ref CE)) (hex : PySem.W.exmOne K (.ref CE) (.ref CE) = some true)
    (c_read_expression : CalN P w K mg base k "read_expression" ["signs", "at"] (spRE K CE ts)) : CalX P w K mg base (k + 1) "_read_expression" ["signs", "at"] (spRE K C ts) := by
  refine D.calX (k := k) sc_read_expression (fun vs H Q E h => ?_) fun f cdv A outer s H vs Q E hr h => ?_
  · obtain ⟨S, a, L, rfl, _⟩ := h
    rfl
  · obtain ⟨S, a, L, rfl, hS, hf, hz, hT, h⟩ := h
    refine ⟨_, pss_one (L2H.ps_try_onlyX (tb := fun W => tRet (tCallS (spRE K CE ts) (WE W) (tCons (tVar 0) (tCons (tVar 1) tNil)))) (Wout := fun cls d _ H => E cls d H) rfl rfl ⟨rfl, by decide, Or.inl g_BadExpression⟩ (L2H.passesAt_of rfl) (takes_of rfl rfl rfl rfl)
        (fun W pn xe tk _ _ => pss_one (ps_ret (by exact pe_calN c_read_expression hr (by rfl) (fun σ => L2N.passAt tk σ) (pa_cons (pv 0) (pa_cons (pv 1) pa_nil)))))
        (fun a oe cls d pn hz hf tk hot => pss_one (ps_bad0H BN_BadForm hot tk (by rfl)))), ?_⟩
    refine ⟨_, rfl, _, rfl, S, a, L, rfl, hS, hf, hz, hT, ?_⟩
    cases e : toD (readE (L.drop a)) with
    | none =>
      rw [e] at h
      exact fun H' k => ⟨true, hex, fun _ a ha => h H' k, fun z => by cases z⟩
    | some p =>
      rw [e] at h
      exact h
theorem c_read_literal (D : DefAt K mg "_read_literal" s_read_literal ["signs", "at"]) (BN_BadForm : BadN K mg "BadForm" C) (c__read_expression : CalX P w K mg base k "_read_expression" ["signs", "at"] (spRE K C ts)) : CalX P w K mg base (k + 1) "_read_literal" ["signs", "at"] (spLitR K C ts) := by
  refine D.calX (k := k) sc_read_literal (fun vs H Q E h => ?_) fun f cdv A outer s H vs Q E hr h => ?_
  · obtain ⟨S, a, L, rfl, _⟩ := h
    rfl
  · obtain ⟨S, a, L, rfl, hS, hf, hz, hT, h⟩ := h
    refine ⟨_, (pss_cons (ps_asg (pe_calX (c__read_expression.mono (by omega)) hr (by rfl) (fun σ => passAt (takes_of rfl rfl rfl rfl) σ) (pa_cons (pv 0) (pa_cons (pv 1) pa_nil))) (pg_tup rfl (pgs_cons (pg_name (i := 2) sc_read_literal.nd rfl (Or.inl rfl)) (pgs_cons (pg_name (i := 3) sc_read_literal.nd rfl (Or.inl rfl)) pgs_nil))))
  (pss_cons (ps_if (pt_cmpR op_ne (pe_ix ix_tup (pv 2) pe_int (fun _ _ => rfl)) pe_str (nomark _)) (pss_one (ps_bad0 BN_BadForm rfl (takes_of rfl rfl rfl rfl) (by rfl))) pss_nil)
  (pss_one (ps_ret (pe_tup (pa_cons (pe_ix ix_tup (pv 2) pe_int (fun _ _ => rfl)) (pa_cons (pv 3) pa_nil))))))), ?_⟩
    refine ⟨_, rfl, _, rfl, S, a, L, rfl, hS, hf, hz, hT, ?_⟩
    cases e : readE (L.drop a) with
    | none =>
      rw [e] at h
      exact h
    | some p =>
      obtain ⟨ex, r⟩ := p
      rw [e] at h
      intro H2 u b k2 hb hbl du
      obtain ⟨p2, x2, y2, rfl, hp2, hx2, hy2⟩ := dt_pair du
      cases hy2
      refine ⟨p2, _, rfl, hp2, rfl, _, _, rfl, _, _, rfl, rfl, ?_⟩
      cases ex with
      | lit v =>
        obtain ⟨q, x3, y3, rfl, hq, hx3, hy3⟩ := dt_pair (a := .str (Str.ofString "literal")) (b := v) hx2
        cases hx3
        refine ⟨_, rfl, q, _, 0, _, rfl, rfl, hq, atI_nat (j := 0) rfl, rfl, _, rfl, iteFb (by rfl) ?_⟩
        refine ⟨_, rfl, q, _, 1, _, rfl, rfl, hq, atI_nat (j := 1) rfl, _, rfl, by show 2 ≤ sizeLine; decide, fun p4 hp4 => ?_⟩
        obtain ⟨k4, d4⟩ := new_pair (K := K) hp4 hy3 (.int (b : Int))
        exact h _ _ b (k2.trans k4) hb hbl d4
      | _ =>
        have h : ErrN C H E := h
        cases hx2 with
        | tup hq hs =>
          cases hs with
          | cons h1 hs =>
            cases h1
            exact ⟨_, rfl, _, _, 0, _, rfl, rfl, hq, atI_nat (j := 0) rfl, rfl, _, rfl, iteTb (by rfl) (h H2 k2)⟩
theorem c_read_value (hk : 8 ≤ k) (D : DefAt K mg "_read_value" s_read_value ["part", "signs", "at"]) (BN_BadForm : BadN K mg "BadForm" C) (m_len : mg "len" = none) (m_tuple : mg "tuple" = none)
    (c__read_literal : CalX P w K mg base k "_read_literal" ["signs", "at"] (spLitR K C ts)) (c__value_of : CalX P w K mg base 8 "_value_of" ["part", "sign"] (spValOf K C ts)) :
    CalX P w K mg base (k + 1) "_read_value" ["part", "signs", "at"] (spRV K C ts) := by
  refine D.calX (k := k) sc_read_value (fun vs H Q E h => ?_) fun f cdv A outer s H vs Q E hr h => ?_
  · obtain ⟨p, S, a, L, rfl, _⟩ := h
    rfl
  · obtain ⟨p, S, a, L, rfl, hp, hS, hf, hz, ha, hT, h⟩ := h
    refine ⟨_, (pss_cons (ps_if (pt_cmpR op_eq (pv 0) pe_str (nomark _)) pss_no pss_nil)
  (pss_cons (ps_if (pt_cmpR op_eq (pv 0) pe_str (nomark _)) (pss_one (ps_ret (pe_calX (c__read_literal.mono (by omega)) hr (by rfl) (fun σ => passAt (takes_of rfl rfl rfl rfl) σ) (pa_cons (pv 1) (pa_cons (pv 2) pa_nil))))) pss_nil)
  (pss_cons (ps_if (pt_cmpR op_eq (pv 0) pe_str (nomark _)) pss_no pss_nil)
  (pss_cons (ps_if (pt_cmpR op_eq (pv 0) pe_str (nomark _)) pss_no pss_nil)
  (pss_cons (ps_if (pt_cmpR op_eq (pv 0) pe_str (nomark _)) pss_no pss_nil)
  (pss_cons (ps_if (pt_cmpR op_eq (pv 0) pe_str (nomark _)) pss_no pss_nil)
  (pss_cons (ps_if (pt_cmpR op_ge (pv 2) (pe_callB call_len_seq (by rfl) m_len (by decide +kernel) (pa_cons (pv 1) pa_nil)) (nomark _)) (pss_one (ps_bad0 BN_BadForm rfl (takes_of rfl rfl rfl rfl) (by rfl))) pss_nil)
  (pss_one (ps_ret (pe_tup (pa_cons (pe_calX (c__value_of.mono (by omega)) hr (by rfl) (fun σ => passAt (takes_of rfl rfl rfl rfl) σ) (pa_cons (pv 0) (pa_cons (pe_ix ix_list (pv 1) (pv 2) (fun _ _ => rfl)) pa_nil))) (pa_cons (pe_op op_add (pv 2) pe_int) pa_nil)))))))))))), ?_⟩
    obtain ⟨vs, e, hl, ds⟩ := hS.len
    by_cases hv : p = "VALUE"
    · subst hv
      have h : Res K C L H Q E (litR (readE (L.drop a))) := by
        have : rdV "VALUE" (L.drop a) = litR (readE (L.drop a)) := by unfold rdV; rw [if_pos rfl]
        rw [← this]
        exact h
      refine ⟨_, rfl, rfl, _, rfl, iteN (by decide +kernel) ⟨_, rfl, rfl, _, rfl, iteP (by rfl) ⟨_, rfl, _, rfl, S, a, L, rfl, hS, hf, hz, hT, ?_⟩⟩⟩
      cases e : litR (readE (L.drop a)) with
      | none => rw [e] at h; exact h
      | some p => rw [e] at h; exact h
    · have hp : p ∈ parts := by
        rcases List.mem_cons.mp hp with h | h
        · exact absurd h hv
        · exact h
      have hn : ∀ z ∈ ["EXPRESSION", "VALUE", "NAMES", "PARAMETERS", "ARGUMENTS", "OUTCOMES"], ¬ V.str (Str.ofString p) = V.str (Str.ofString z) := fun z hz => of_decide_eq_true (List.all_eq_true.mp (List.all_eq_true.mp other_parts p hp) z hz)
      refine ⟨_, rfl, rfl, _, rfl, iteN (hn "EXPRESSION" (by simp)) ⟨_, rfl, rfl, _, rfl, iteN (hn "VALUE" (by simp)) ⟨_, rfl, rfl, _, rfl, iteN (hn "NAMES" (by simp)) ⟨_, rfl, rfl, _, rfl, iteN (hn "PARAMETERS" (by simp)) ⟨_, rfl, rfl, _, rfl, iteN (hn "ARGUMENTS" (by simp)) ⟨_, rfl, rfl, _, rfl, iteN (hn "OUTCOMES" (by simp)) ?_⟩⟩⟩⟩⟩⟩
      refine ⟨_, rfl, _, rfl, S, vs, rfl, .inl (.inl (.inl e)), _, _, rfl, rfl, _, rfl, ?_⟩
      by_cases hl2 : a < L.length
      · refine iteN (show ¬ (vs.length : Int) ≤ (a : Int) by omega) ?_
        obtain ⟨s, hs, hd⟩ := dropC hl2
        rw [hd, rdV_cons hv] at h
        obtain ⟨u, hu, du⟩ := ds.at (i := a) (d := s.d) (by rw [List.getElem?_map, hs]; rfl)
        refine ⟨_, rfl, _, rfl, _, rfl, S, vs, _, u, rfl, rfl, .inl (.inl e), atI_nat hu, p, u, s, rfl, hp, du, hf s (List.mem_of_getElem? hs), hT, ?_⟩
        cases ev : valOf p s with
        | none => rw [ev] at h; exact h
        | some d =>
          rw [ev] at h
          have h : Res K C L H Q E (some (d, L.drop (a + 1))) := h
          intro H2 y k2 dy
          refine ⟨_, rfl, _, _, rfl, rfl, by show 2 ≤ sizeLine; decide, fun p4 hp4 => ?_⟩
          obtain ⟨k4, d4⟩ := new_pair (K := K) hp4 dy (.int ((a : Int) + 1))
          exact h _ _ (a + 1) (k2.trans k4) rfl (by omega) d4
      · rw [List.drop_eq_nil_of_le (by omega), rdV_nil hv] at h
        exact iteP (show (vs.length : Int) ≤ (a : Int) by omega) (h H (Kb.refl H))
theorem c_read_form (hk : 2 ≤ k) (D : DefAt K mg "read_form" s_read_form ["form", "signs"]) (BN_BadForm : BadN K mg "BadForm" C) (m_len : mg "len" = none) (m_tuple : mg "tuple" = none)
    (c__read_value : CalX P w K mg base k "_read_value" ["part", "signs", "at"] (spRV K C ts)) (c_behind_forms : CalX P w K mg base 2 "behind_forms" ["signs", "at", "sign"] (spBehN K)) (c__sign_of : Cal P w K mg base CX0 1 "_sign_of" ["part"] (spSignOf K)) :
    CalX P w K mg base (k + 1) "read_form" ["form", "signs"] (spForm K C ts) := by
  refine D.calX (k := k) sc_read_form (fun vs H Q E h => ?_) fun f cdv A outer s H vs Q E hr h => ?_
  · obtain ⟨fm, S, w, ps, r, rfl, _⟩ := h
    rfl
  · obtain ⟨fm, S, wd, ps, r, rfl, hw, hfm, hS, hf, hz, hT, h⟩ := h
    refine ⟨_, (pss_cons (ps_set (i := 2) sc_read_form.nd rfl (Or.inl rfl) (pe_lst pa_nil))
  (pss_cons (ps_set (i := 3) sc_read_form.nd rfl (Or.inl rfl) pe_int)
  (pss_cons (ps_for (passes_of rfl) rfl (pi_tup (pv 0)) (pg_name (i := 4) sc_read_form.nd rfl (Or.inl rfl)) (pss_one (ps_if (pt_val (pe_bm0 PySem.F.plainAttrs_str PySem.F.slot_str_isupper PySem.F.type_str_isupper mt_isupper (pv 4))) (pss_cons (ps_asg (pe_calX (c__read_value.mono (by omega)) hr (by rfl) (fun σ => passAt (takes_of rfl rfl rfl rfl) σ) (pa_cons (pv 4) (pa_cons (pv 1) (pa_cons (pv 3) pa_nil)))) (pg_tup rfl (pgs_cons (pg_name (i := 5) sc_read_form.nd rfl (Or.inl rfl)) (pgs_cons (pg_name (i := 3) sc_read_form.nd rfl (Or.inl rfl)) pgs_nil))))
  (pss_one (ps_expr (pe_bm PySem.F.plainAttrs_list PySem.F.slot_list_append PySem.F.type_list_append mt_append (pv 2) (pa_cons (pv 5) pa_nil))))) (pss_one (ps_set (i := 3) sc_read_form.nd rfl (Or.inl rfl) (pe_calX (c_behind_forms.mono (by omega)) hr (by rfl) (fun σ => passAt (takes_of rfl rfl rfl rfl) σ) (pa_cons (pv 1) (pa_cons (pv 3) (pa_cons (pe_cal (c__sign_of.mono (by omega)) hr (by rfl) (pa_cons (pv 4) pa_nil)) pa_nil)))))))))
  (pss_cons (ps_if (pt_cmpR op_lt (pv 3) (pe_callB call_len_seq (by rfl) m_len (by decide +kernel) (pa_cons (pv 1) pa_nil)) (nomark _)) (pss_one (ps_bad0 BN_BadForm rfl (takes_of rfl rfl rfl rfl) (by rfl))) pss_nil)
  (pss_one (ps_ret (pe_callTy call_tuple_of (by rfl) m_tuple (by decide +kernel) (pa_cons (pv 2) pa_nil)))))))), ?_⟩
    obtain ⟨vs, e, hl, ds⟩ := hS.len
    have sz : sizeLine = 16777216 := rfl
    obtain ⟨⟨lo, nm⟩, up⟩ : (Txt.isupper (Str.ofString wd) = false ∧ isNameL (cs wd) = true) ∧ ∀ p ∈ ps, p ∈ "VALUE" :: parts := by
      have := List.all_eq_true.mp low_kinds _ hw
      rw [Bool.and_eq_true, Bool.and_eq_true, Bool.not_eq_true'] at this
      exact ⟨⟨this.1.1, this.1.2⟩, fun p hp => of_decide_eq_true (List.all_eq_true.mp this.2 p hp)⟩
    have esx : sx (cs wd) = Str.ofString wd := sx_of _
    have lv : vs.length ≤ 1000 := by rw [hl, List.length_cons]; omega
    refine ⟨by show 0 ≤ sizeLine; decide, fun D hD => ?_⟩
    refine gset ?_
    have lps : ps.length ≤ 5 := by
      have : formL.all (fun f => decide (f.2.length ≤ 5)) = true := by decide +kernel
      exact of_decide_eq_true (List.all_eq_true.mp this _ hw)
    refine ⟨_, rfl, fm, rfl, ⟨_, ((Kb.new hD : Kp H _)).sqT Lsts.nil hfm⟩, ?_⟩
    refine for_it walk_tup (fun i σ' H' => Kp H H' ∧ ∃ (acc : List V) (es : List PyData) (a : Nat) (o4 o5 : Option V), σ' = [some (.ref fm), some (.ref S), some (.ref D), some (.int (a : Int)), o4, o5] ∧ H' D = some (.lst acc) ∧ DtAll K H' acc es ∧ a ≤ r.length + 1 ∧ acc.length ≤ i ∧
        ((i = 0 ∧ a = 0 ∧ es = []) ∨ ∃ j, i = j + 1 ∧ rdF ps r = (rdF (ps.drop j) ((Sg.name (cs wd) :: r).drop a)).map fun ts => es ++ ts))
      ⟨Kb.new hD, [], [], 0, none, none, rfl, upd_same, .nil, by omega, Nat.le_refl _, .inl ⟨rfl, rfl, rfl⟩⟩ (fun i σ' H' _ ⟨k, _⟩ => k.sqT Lsts.nil hfm) ?_ ?_
    · rintro i x σ' _ H1 hi ⟨k1, acc, es, a, o4, o5, rfl, eD, da, ha, lac, hcase⟩ ⟨rfl, hx⟩
      rw [List.length_map, List.length_cons] at hi
      refine gset ?_
      rcases hcase with ⟨rfl, rfl, rfl⟩ | ⟨j, rfl, hj⟩
      · obtain rfl : x = .str (Str.ofString wd) := by
          have : (((wd :: ps).map fun p => V.str (Str.ofString p)))[0]? = some (V.str (Str.ofString wd)) := rfl
          rw [this] at hx
          cases hx
          rfl
        refine ⟨_, rfl, rfl, _, rfl, rfl, trivial, _, rfl, iteF' lo ?_⟩
        refine ⟨_, rfl, _, rfl, _, rfl, cs wd, by rw [esx]; rfl, nm, fun H2 u k2 du => ?_⟩
        refine ⟨S, 0, u, _, cs wd, rfl, (hS.kp (k1.trans k2)), du, hf _ List.mem_cons_self, rfl, ?_⟩
        refine ⟨k1.trans k2, acc, [], 1, _, _, rfl, k2.keep D _ eD (by simp) nt_lst, DtAll.kb k2 Lsts.nil da, by omega, by omega, .inr ⟨0, rfl, ?_⟩⟩
        show rdF ps r = (rdF ps r).map fun ts => ts
        cases rdF ps r <;> rfl
      · have hj2 : j < ps.length := by omega
        obtain rfl : x = .str (Str.ofString ps[j]) := by
          have : (((wd :: ps).map fun p => V.str (Str.ofString p)))[j + 1]? = some (V.str (Str.ofString ps[j])) := by rw [List.getElem?_map, List.getElem?_cons_succ, List.getElem?_eq_getElem hj2]; rfl
          rw [this] at hx
          cases hx
          rfl
        have hpj := up ps[j] (List.getElem_mem hj2)
        refine ⟨_, rfl, rfl, _, rfl, rfl, trivial, _, rfl, iteT' (List.all_eq_true.mp up_parts _ hpj) ?_⟩
        refine ⟨_, rfl, _, rfl, _, rfl, ps[j], S, a, _, rfl, hpj, hS.kp k1, hf, by rw [List.length_cons]; omega, by rw [List.length_cons]; omega, fun T hm => k1.tab T (hT T hm), ?_⟩
        rw [List.drop_eq_getElem_cons hj2, rdF_cons] at hj
        cases ev : rdV ps[j] ((Sg.name (cs wd) :: r).drop a) with
        | none =>
          rw [ev] at hj
          rw [show rdF ps r = none from hj] at h
          exact fun H2 k2 => h H2 (k1.trans k2)
        | some q =>
          obtain ⟨d, L2⟩ := q
          rw [ev] at hj
          intro H2 u b k2 hb hbl du
          obtain ⟨p2, x2, y2, rfl, hp2, hx2, hy2⟩ := dt_pair du
          cases hy2
          have k12 := k1.trans k2
          have eD2 := k2.keep D _ eD (by simp) nt_lst
          refine ⟨p2, _, rfl, hp2, rfl, _, _, rfl, _, _, rfl, rfl, ?_⟩
          refine ⟨_, rfl, .inl ⟨rfl, _, .inl (.inl eD2)⟩, _, rfl, D, acc, x2, rfl, rfl, eD2, by omega, ?_⟩
          refine ⟨k12.mut hD (no_tab eD2 nt_lst), acc ++ [x2], es ++ [d], b, _, _, rfl, upd_same, dts_lst eD2 (Gd.DtAll.snoc (DtAll.kb k2 Lsts.nil da) hx2), by rw [List.length_cons] at hbl; omega, by simp; omega, .inr ⟨j + 1, rfl, ?_⟩⟩
          rw [hj, hb]
          show Option.map (fun ts => es ++ ts) (Option.map (fun ds => d :: ds) (rdF (ps.drop (j + 1)) L2)) = _
          cases rdF (ps.drop (j + 1)) L2 with
          | none => rfl
          | some ts => show some (es ++ d :: ts) = some (es ++ [d] ++ ts); simp
    · rintro σ' H1 ⟨k1, acc, es, a, o4, o5, rfl, eD, da, ha, lac, hcase⟩
      rw [List.length_map, List.length_cons] at hcase lac
      obtain ⟨vs1, e1, hl1, ds1⟩ := (hS.kp k1).len
      rw [List.length_cons] at hl1
      rcases hcase with ⟨h0, _⟩ | ⟨j, hj0, hj⟩
      · omega
      obtain rfl : j = ps.length := by omega
      rw [List.drop_length] at hj
      refine ⟨_, rfl, _, rfl, S, vs1, rfl, .inl (.inl (.inl e1)), _, _, rfl, rfl, _, rfl, ?_⟩
      by_cases hlt : a < r.length + 1
      · refine iteP (show (a : Int) < (vs1.length : Int) by omega) ?_
        have : rdF ps r = none := by
          rw [hj, List.drop_eq_getElem_cons (by rw [List.length_cons]; omega)]
          rfl
        rw [this] at h
        exact h H1 k1
      · refine iteN (show ¬ (a : Int) < (vs1.length : Int) by omega) ?_
        have : rdF ps r = some es := by
          rw [hj, List.drop_eq_nil_of_le (by rw [List.length_cons]; omega)]
          show some (es ++ []) = some es
          rw [List.append_nil]
        rw [this] at h
        refine ⟨_, rfl, D, acc, rfl, .inl ⟨.inl (.inl eD), fun l hl => h _ _ (k1.trans (Kb.new hl)) (.tup (SqT.of upd_same) (DtAll.kb (Kb.new hl) Lsts.nil da))⟩⟩
end
end Rw

namespace Rs
open PySem PySem.Spec PyProof.Rows L2 GxR Gx Gd
def spText (K : PySem.W.Frag) : Sp := fun vs H Q _ => ∃ v s, vs = [v] ∧ Dt K H v (Sg.d s) ∧ s.good ∧ Q (.str (sx s.text)) H
def spBetween (K : PySem.W.Frag) : Sp := fun vs H Q _ => ∃ v1 v2 s1 s2, vs = [v1, v2] ∧ Dt K H v1 (Sg.d s1) ∧ Dt K H v2 (Sg.d s2) ∧ s1.good ∧ s2.good ∧ ∀ H', Kp H H' → Q (.bl (!isLeft s1 && !tight s2)) H'
def spWrite (K : PySem.W.Frag) : Sp := fun vs H Q _ => ∃ (a : Addr) (xs : List V) (ss : List Sg), vs = [.ref a] ∧ H a = some (.lst xs) ∧ DtAll K H xs (ss.map Sg.d) ∧ (∀ s ∈ ss, s.good) ∧ ss.length ≤ 1000 ∧ ∀ H', Kp H H' → Q (.str (sx (looseL (wr true ss)))) H'
/-- the texts so far, one behind the other -/
def catL (ps : List Str) : List Nat := (ps.map fun p => p.cps.toList).flatten
theorem catL_snoc (ps : List Str) (p : Str) : catL (ps ++ [p]) = catL ps ++ p.cps.toList := by simp [catL]
theorem join_cat (ps : List Str) : Txt.join (Str.ofString "") ps = sx (catL ps) := by
  refine TL.ext_tl ?_
  have e : TL.tl (Str.ofString "") = [] := by decide +kernel
  rw [TL.join_eq, TL.tl_join, e]
  have j : ∀ l : List (List Nat), TL.joinL [] l = l.flatten := by
    intro l
    induction l with
    | nil => rfl
    | cons p l ih =>
      cases l with
      | nil => simp [TL.joinL]
      | cons q r =>
        show p ++ ([] ++ TL.joinL [] (q :: r)) = _
        rw [ih]
        rfl
  rw [j]
  exact (sx_tl _).symm
theorem cat_len (ps : List Str) : (ps.map (·.length)).sum = (catL ps).length := by
  induction ps with
  | nil => rfl
  | cons p ps ih =>
    have e : catL (p :: ps) = p.cps.toList ++ catL ps := rfl
    rw [List.map_cons, List.sum_cons, ih, e, List.length_append]
    simp [Str.length]
/-- is the sign ahead of the i-th one a left parenthesis, or is it the first -/
def flag (ss : List Sg) : Nat → Bool
  | 0 => true
  | i + 1 => match ss[i]? with | some s => isLeft s | none => false
theorem wr_drop {ss : List Sg} {i : Nat} {s : Sg} (h : ss[i]? = some s) : looseL (wr (flag ss i) (ss.drop i)) = List.replicate (if (flag ss i || tight s) = true then 0 else 1) 32 ++ (s.text ++ looseL (wr (flag ss (i + 1)) (ss.drop (i + 1)))) := by
  have hi : i < ss.length := (List.getElem?_eq_some_iff.mp h).1
  have e : ss.drop i = s :: ss.drop (i + 1) := by
    rw [List.drop_eq_getElem_cons hi]
    congr 1
    exact (List.getElem?_eq_some_iff.mp h).2
  have e2 : flag ss (i + 1) = isLeft s := by
    show (match ss[i]? with | some s => isLeft s | none => false) = _
    rw [h]
  rw [e, e2]
  rfl
section
variable {P : Program} {w : World} {K : PySem.W.Frag} {mg : Str → Option Value} {base : Heap}
theorem c_escaped (D : DefAt K mg "_escaped" s_escaped ["text"]) : Cal P w K mg base CX0 1 "_escaped" ["text"] spEsc := by
  refine D.calT sc_escaped (by decide +kernel) (by decide) (fun vs H Q E h => ?_) fun f cdv A outer s H vs Q E h => ?_
  · obtain ⟨l, rfl, _⟩ := h
    rfl
  · obtain ⟨l, rfl, hz, q⟩ := h
    refine ⟨_, CwR.psst_one (CwR.pst_ret (CwR.pet_replT (CwR.pet_replT (CwR.pet_replC (pv 0))))), ?_⟩
    exact rd_esc hz (fun R h => ⟨_, rfl, h⟩) q
theorem c_sign_text (D : DefAt K mg "_sign_text" s_sign_text ["sign"]) (gQ : ∃ t, mg "QUOTE" = some (.str (Str.ofString "\"") t)) (m_str : mg "str" = none) (c__escaped : Cal P w K mg base CX0 1 "_escaped" ["text"] spEsc) : Cal P w K mg base CX0 2 "_sign_text" ["sign"] (spText K) := by
  refine D.cal (k := 1) sc_sign_text (fun vs H Q E h => ?_) fun f cdv A outer s H vs Q E hr h => ?_
  · obtain ⟨v, s, rfl, _⟩ := h
    rfl
  · obtain ⟨v, sg, rfl, hd, g, q⟩ := h
    obtain ⟨tq, g_QUOTE⟩ := gQ
    refine ⟨_, (pss_cons (ps_if (pt_cmpR op_eq (pe_ix ix_tup (pv 0) pe_int (fun _ _ => rfl)) pe_str (nomark _)) (pss_one (ps_ret (pe_op op_add_str (pe_op op_add_str (pe_glob (v := .str (Str.ofString "\"")) rfl g_QUOTE ⟨_, rfl⟩) (pe_cal (c__escaped.mono (by omega)) hr (by rfl) (pa_cons (pe_ix ix_tup (pv 0) pe_int (fun _ _ => rfl)) pa_nil))) (pe_glob (v := .str (Str.ofString "\"")) rfl g_QUOTE ⟨_, rfl⟩)))) pss_nil)
  (pss_one (ps_ret (pe_callTy (call_str_int.or SkE.call_str_str) (by rfl) m_str (by decide +kernel) (pa_cons (pe_ix ix_tup (pv 0) pe_int (fun _ _ => rfl)) pa_nil))))), ?_⟩
    cases sg with
    | name l =>
      cases hd with
      | @tup a _ _ h hs =>
        cases hs with
        | cons hk hs =>
          cases hs with
          | cons hc hs =>
            cases hs
            cases hk
            cases hc
            exact ⟨.ref a, rfl, a, _, 0, _, rfl, rfl, h, atI_nat (j := 0) rfl, rfl, _, rfl, iteF ⟨.ref a, rfl, a, _, 1, _, rfl, rfl, h, atI_nat (j := 1) rfl, .inr ⟨_, rfl, q⟩⟩⟩
    | num n =>
      cases hd with
      | @tup a _ _ h hs =>
        cases hs with
        | cons hk hs =>
          cases hs with
          | cons hc hs =>
            cases hs
            cases hk
            cases hc
            have hn : n ≤ 999999999 := g
            have hl : (n : Int).natAbs.log2 < 1920 := by
              have : (n : Int).natAbs = n := by omega
              rw [this]
              by_cases h0 : n = 0
              · rw [h0]
                decide
              · have := (Nat.log2_lt h0).mpr (show n < 2 ^ 30 by omega)
                omega
            refine ⟨.ref a, rfl, a, _, 0, _, rfl, rfl, h, atI_nat (j := 0) rfl, rfl, _, rfl, iteF ⟨.ref a, rfl, a, _, 1, _, rfl, rfl, h, atI_nat (j := 1) rfl, .inl ⟨_, rfl, hl, ?_⟩⟩⟩
            have q : Q (.str (sx (Str.ofString (toString (n : Int))).cps.toList)) H := q
            rw [sx_of] at q
            exact q
    | mark c =>
      cases hd with
      | @tup a _ _ h hs =>
        cases hs with
        | cons hk hs =>
          cases hs with
          | cons hc hs =>
            cases hs
            cases hk
            cases hc
            exact ⟨.ref a, rfl, a, _, 0, _, rfl, rfl, h, atI_nat (j := 0) rfl, rfl, _, rfl, iteF ⟨.ref a, rfl, a, _, 1, _, rfl, rfl, h, atI_nat (j := 1) rfl, .inr ⟨_, rfl, q⟩⟩⟩
    | quo l =>
      cases hd with
      | @tup a _ _ h hs =>
        cases hs with
        | cons hk hs =>
          cases hs with
          | cons hc hs =>
            cases hs
            cases hk
            cases hc
            have hl := g.2
            have he := escL_len l
            have one : (Str.ofString "\"").length = 1 := by decide +kernel
            have sz : sizeLine = 16777216 := rfl
            refine ⟨.ref a, rfl, a, _, 0, _, rfl, rfl, h, atI_nat (j := 0) rfl, rfl, _, rfl, iteT ⟨.ref a, rfl, a, _, 1, _, rfl, rfl, h, atI_nat (j := 1) rfl, l, rfl, by omega, _, _, rfl, rfl, by rw [one, sx_len]; omega, _, _, rfl, rfl, ?_, ?_⟩⟩
            · show (Str.ofString "\"" ++ sx (escL l)).cps.size + (Str.ofString "\"").length ≤ sizeLine
              rw [Str.cps_append, Array.size_append]
              have e1 : (Str.ofString "\"").cps.size = 1 := one
              have e2 : (sx (escL l)).cps.size = (escL l).length := sx_len _
              rw [e1, e2, one]
              omega
            · have e : Str.ofString "\"" ++ sx (escL l) ++ Str.ofString "\"" = sx (Sg.text (.quo l)) := by
                refine TL.ext_tl ?_
                rw [TL.tl_append, TL.tl_append]
                show (Str.ofString "\"").cps.toList ++ (sx (escL l)).cps.toList ++ (Str.ofString "\"").cps.toList = (sx (quoL l)).cps.toList
                rw [sx_tl, sx_tl, show (Str.ofString "\"").cps.toList = [34] by decide +kernel]
                rfl
              rw [e]
              exact q
theorem c_is_space_between {aL aR aC : Addr} (D : DefAt K mg "_is_space_between" s_is_space_between ["sign", "following"]) (g_LEFT : mg "LEFT" = some (.ref aL)) (g_RIGHT : mg "RIGHT" = some (.ref aR)) (g_COMMA : mg "COMMA" = some (.ref aC))
    (hL : ∀ H, Dt K H (.ref aL) (Sg.mark 40).d) (hR : ∀ H, Dt K H (.ref aR) (Sg.mark 41).d) (hC : ∀ H, Dt K H (.ref aC) (Sg.mark 44).d) : Cal P w K mg base CX0 1 "_is_space_between" ["sign", "following"] (spBetween K) := by
  refine D.cal (k := 0) sc_is_space_between (fun vs H Q E h => ?_) fun f cdv A outer s H vs Q E hr h => ?_
  · obtain ⟨v1, v2, s1, s2, rfl, _⟩ := h
    rfl
  · obtain ⟨v1, v2, s1, s2, rfl, h1, h2, g1, g2, q⟩ := h
    refine ⟨_, (pss_one (ps_ret (pe_and (pe_cmpR (op_neD hr.r.units) (pv 0) (pe_glob (v := .ref aL) rfl g_LEFT rfl) (nomark _)) (pe_one (pe_cmpR (op_notInT (hu_units hr)) (pv 1) (pe_tup (pa_cons (pe_glob (v := .ref aL) rfl g_LEFT rfl) (pa_cons (pe_glob (v := .ref aR) rfl g_RIGHT rfl) (pa_cons (pe_glob (v := .ref aC) rfl g_COMMA rfl) pa_nil)))) (by rfl)))))), ?_⟩
    refine ⟨_, rfl, s1.d, (Sg.mark 40).d, h1.dp, (hL H).dp, (good_ok g1).shaped, (good_ok (s := .mark 40) rfl).shaped, !PyData.eqv s1.d (Sg.mark 40).d, rfl, ?_⟩
    have e1 : PyData.eqv s1.d (Sg.mark 40).d = isLeft s1 := eqv_mark s1 40
    rw [e1]
    cases el : isLeft s1 with
    | true =>
      rw [el] at q
      exact iteF (q H (Kb.refl H))
    | false =>
      rw [el] at q
      refine iteT ⟨_, rfl, by show 3 ≤ sizeLine; decide, fun p hp => ?_⟩
      have k1 : Kp H (upd H p (.tup [.ref aL, .ref aR, .ref aC])) := Kb.new hp
      refine ⟨s2.d, [(Sg.mark 40).d, (Sg.mark 41).d, (Sg.mark 44).d], (h2.kb k1 Lsts.nil).dp, .tup (SqT.of upd_same) (.cons (hL _).dp (.cons (hR _).dp (.cons (hC _).dp .nil))), (good_ok g2).shaped, by decide +kernel, ?_⟩
      have e2 : ([(Sg.mark 40).d, (Sg.mark 41).d, (Sg.mark 44).d].any fun z => PyData.eqv z s2.d) = tight s2 := by
        show (PyData.eqv (Sg.mark 40).d s2.d || (PyData.eqv (Sg.mark 41).d s2.d || (PyData.eqv (Sg.mark 44).d s2.d || false))) = _
        rw [eqv_mark', eqv_mark', eqv_mark', Bool.or_false]
        cases s2 <;> rfl
      rw [e2]
      exact q _ k1
theorem c_write_signs (D : DefAt K mg "write_signs" s_write_signs ["signs"]) (m_enumerate : mg "enumerate" = none) (c__is_space_between : Cal P w K mg base CX0 1 "_is_space_between" ["sign", "following"] (spBetween K)) (c__sign_text : Cal P w K mg base CX0 2 "_sign_text" ["sign"] (spText K)) :
    Cal P w K mg base CX0 3 "write_signs" ["signs"] (spWrite K) := by
  refine D.cal (k := 2) sc_write_signs (fun vs H Q E h => ?_) fun f cdv A outer s H vs Q E hr h => ?_
  · obtain ⟨a, xs, ss, rfl, _⟩ := h
    rfl
  · obtain ⟨a, xs, ss, rfl, ha, hd, hg, hz, q⟩ := h
    refine ⟨_, (pss_cons (ps_set (i := 1) sc_write_signs.nd rfl (Or.inl rfl) (pe_lst pa_nil))
  (pss_cons (ps_for PassesOwn.never rfl (pi_enum (by rfl) m_enumerate (pa_cons (pv 0) pa_nil)) (pg_tup rfl (pgs_cons (pg_name (i := 2) sc_write_signs.nd rfl (Or.inl rfl)) (pgs_cons (pg_name (i := 3) sc_write_signs.nd rfl (Or.inl rfl)) pgs_nil))) (pss_cons (ps_if (PW.pt (pw_and (pt_cmpR op_gt (pv 2) pe_int (nomark _)) (pw_and1 (pt_val (pe_cal (c__is_space_between.mono (by omega)) hr (by rfl) (pa_cons (pe_ix ix_list (pv 0) (pe_op op_sub (pv 2) pe_int) (fun _ _ => rfl)) (pa_cons (pv 3) pa_nil))))))) (pss_one (ps_expr (pe_bm PySem.F.plainAttrs_list PySem.F.slot_list_append PySem.F.type_list_append mt_append (pv 1) (pa_cons pe_str pa_nil)))) pss_nil)
  (pss_one (ps_expr (pe_bm PySem.F.plainAttrs_list PySem.F.slot_list_append PySem.F.type_list_append mt_append (pv 1) (pa_cons (pe_cal (c__sign_text.mono (by omega)) hr (by rfl) (pa_cons (pv 3) pa_nil)) pa_nil))))))
  (pss_one (ps_ret (pe_join pe_str (pv 1)))))), ?_⟩
    refine ⟨Nat.zero_le _, fun D hD => ?_⟩
    have hDa : D ≠ a := (ne_of_none ha hD).symm
    have k0 : Kp H (upd H D (.lst [])) := Kb.new hD
    have hlen := hd.length
    rw [List.length_map] at hlen
    have tot := loose_len (wr true ss) (wr_mem hg)
    have wl : (wr true ss).length = ss.length := by
      have := congrArg List.length (wr_signs true ss)
      rw [List.length_map] at this
      exact this
    rw [wl] at tot
    have ha' := k0.keep a _ ha (by simp) nt_lst
    refine ⟨_, rfl, a, xs, rfl, .inl (.inl ha'), ?_⟩
    refine ⟨fun i m σ H' => m = ss.length - i ∧ i ≤ ss.length ∧ (∃ o2 o3, σ = [some (.ref a), some (.ref D), o2, o3]) ∧ Kp H H' ∧ ∃ ps : List Str, ps.length ≤ 2 * i ∧ H' D = some (.lst (ps.map V.str)) ∧ catL ps ++ looseL (wr (flag ss i) (ss.drop i)) = looseL (wr true ss),
      ⟨_, rfl, Nat.zero_le _, ⟨none, none, rfl⟩, k0, [], Nat.le_refl _, upd_same, rfl⟩, ?_⟩
    rintro i m σ H1 ⟨rfl, hi, ⟨o2, o3, rfl⟩, k, ps, hps, eD, ec⟩
    have sz : sizeLine = 16777216 := rfl
    have ha1 := k.keep a _ ha (by simp) nt_lst
    by_cases hl : i < ss.length
    · obtain ⟨sg, hs⟩ : ∃ sg, ss[i]? = some sg := ⟨ss[i], List.getElem?_eq_getElem hl⟩
      have gs : sg.good := hg sg (List.mem_of_getElem? hs)
      obtain ⟨v, hv⟩ : ∃ v, xs[i]? = some v := ⟨xs[i]'(by omega), List.getElem?_eq_getElem (by omega)⟩
      refine .inr ⟨⟨xs, v, .inl (.inl ha1), hv⟩, fun σ' H' => (∃ o2 o3, σ' = [some (.ref a), some (.ref D), o2, o3]) ∧ Kp H H' ∧ ∃ ps : List Str, ps.length ≤ 2 * (i + 1) ∧ H' D = some (.lst (ps.map V.str)) ∧ catL ps ++ looseL (wr (flag ss (i + 1)) (ss.drop (i + 1))) = looseL (wr true ss),
        fun σ' H' ⟨z1, z2⟩ => ⟨_, by omega, rfl, hl, z1, z2⟩, ?_⟩
      rintro x H2 ⟨T, y, rfl, hTn, rfl, hy⟩
      have ey : v = y := Option.some.inj (hv.symm.trans (hy xs (.inl (.inl ha1))))
      subst ey
      have k2 : Kp H1 (upd H1 T (.tup [.int (i : Int), v])) := Kb.new hTn
      have eT : SqT K (upd H1 T (.tup [.int (i : Int), v])) T [.int (i : Int), v] := SqT.of upd_same
      generalize upd H1 T (.tup [.int (i : Int), v]) = H2 at k2 eT ⊢
      have k02 := k.trans k2
      have eD2 := k2.keep D _ eD (by simp) nt_lst
      have ha2 := k02.keep a _ ha (by simp) nt_lst
      have d2 := DtAll.kb k02 Lsts.nil hd
      have dv : Dt K H2 v sg.d := by
        obtain ⟨d', h1, h2⟩ := d2.get hv
        rw [List.getElem?_map, hs] at h1
        cases h1
        exact h2
      refine ⟨T, _, rfl, eT, rfl, _, _, rfl, _, _, rfl, rfl, ?_⟩
      rw [wr_drop hs] at ec
      -- the second part of the body
      have fin : ∀ (H3 : Hp) (g : Nat) (ps2 : List Str), Kp H H3 → Dt K H3 v sg.d → ps2.length ≤ 2 * i + 1 → H3 D = some (.lst (ps2.map V.str)) → catL ps2 = catL ps ++ List.replicate g 32 → g = (if (flag ss i || tight sg) = true then 0 else 1) →
          (∃ o2 o3, ([some (.ref a), some (.ref D), some (.int (i : Int)), some v] : L2.St) = [some (.ref a), some (.ref D), o2, o3]) ∧ Kp H (upd H3 D (.lst ((ps2.map V.str) ++ [.str (sx sg.text)]))) ∧ ∃ ps : List Str, ps.length ≤ 2 * (i + 1) ∧ (upd H3 D (.lst ((ps2.map V.str) ++ [.str (sx sg.text)]))) D = some (.lst (ps.map V.str)) ∧ catL ps ++ looseL (wr (flag ss (i + 1)) (ss.drop (i + 1))) = looseL (wr true ss) := by
        intro H3 g ps2 k3 dv3 hp2 eD3 e1 e2
        refine ⟨⟨_, _, rfl⟩, k3.mut hD (no_tab eD3 nt_lst), ps2 ++ [sx sg.text], by simp; omega, ?_, ?_⟩
        · rw [upd_same, List.map_append]
          rfl
        · rw [catL_snoc, e1, sx_tl, ← ec, e2, List.append_assoc, List.append_assoc]
      refine ⟨_, rfl, _, _, rfl, rfl, _, rfl, ?_⟩
      have two : ∀ (H3 : Hp) (g : Nat) (ps2 : List Str), Kp H H3 → Dt K H3 v sg.d → ps2.length ≤ 2 * i + 1 → ps2.length < sizeLine := fun _ _ _ _ _ h => by omega
      cases i with
      | zero =>
        rw [decide_eq_false (by simp : ¬ (0 : Int) < ((0 : Nat) : Int))]
        refine iteF (iteF ⟨.ref D, rfl, .inl ⟨rfl, _, .inl (.inl eD2)⟩, _, rfl, v, sg, rfl, dv, gs, D, _, _, rfl, rfl, eD2, by rw [List.length_map]; omega, ?_⟩)
        exact fin H2 0 ps k02 dv (by omega) eD2 (by simp) rfl
      | succ j =>
        rw [decide_eq_true (by omega : (0 : Int) < ((j + 1 : Nat) : Int))]
        obtain ⟨s', hs'⟩ : ∃ s', ss[j]? = some s' := ⟨ss[j]'(by omega), List.getElem?_eq_getElem (by omega)⟩
        have gs' : s'.good := hg s' (List.mem_of_getElem? hs')
        obtain ⟨v', hv'⟩ : ∃ v', xs[j]? = some v' := ⟨xs[j]'(by omega), List.getElem?_eq_getElem (by omega)⟩
        have dv' : Dt K H2 v' s'.d := by
          obtain ⟨d', h1, h2⟩ := d2.get hv'
          rw [List.getElem?_map, hs'] at h1
          cases h1
          exact h2
        have ef : flag ss (j + 1) = isLeft s' := by
          show (match ss[j]? with | some s => isLeft s | none => false) = _
          rw [hs']
        have eix : atI xs (((j + 1 : Nat) : Int) - 1) = some v' := by
          rw [show (((j + 1 : Nat) : Int) - 1) = (j : Int) by omega]
          exact atI_nat hv'
        refine iteT ⟨_, rfl, _, rfl, _, _, rfl, rfl, a, xs, _, v', rfl, rfl, .inl (.inl ha2), eix, v, rfl, v', v, s', sg, rfl, dv', dv, gs', gs, fun H3 k3 => ⟨_, rfl, ?_⟩⟩
        have k03 := k02.trans k3
        have eD3 := k3.keep D _ eD2 (by simp) nt_lst
        have dv3 := dv.kb k3 Lsts.nil
        cases eb : (!isLeft s' && !tight sg) with
        | true =>
          refine iteT ⟨.ref D, rfl, .inl ⟨rfl, _, .inl (.inl eD3)⟩, D, _, _, rfl, rfl, eD3, by rw [List.length_map]; omega, ?_⟩
          have eD4 : (upd H3 D (.lst (ps.map V.str ++ [.str (Str.ofString " ")]))) D = some (.lst ((ps ++ [Str.ofString " "]).map V.str)) := by
            rw [upd_same, List.map_append]
            rfl
          have k4 : Kb [D] H3 (upd H3 D (.lst (ps.map V.str ++ [.str (Str.ofString " ")]))) := Kb.put (by simp) eD3 nt_lst
          have dv4 := dv3.kb k4 (fun b hb => by rw [List.mem_singleton.mp hb]; exact ⟨_, eD3⟩)
          have k04 := k03.mut (o := .lst (ps.map V.str ++ [.str (Str.ofString " ")])) hD (no_tab eD3 nt_lst)
          refine ⟨.ref D, rfl, .inl ⟨rfl, _, .inl (.inl eD4)⟩, _, rfl, v, sg, rfl, dv4, gs, D, _, _, rfl, rfl, eD4, by rw [List.length_map, List.length_append]; simp; omega, ?_⟩
          refine fin _ 1 _ k04 dv4 (by simp; omega) eD4 ?_ ?_
          · rw [catL_snoc, show (Str.ofString " ").cps.toList = [32] by decide +kernel]
            rfl
          · rw [ef]
            have : (isLeft s' || tight sg) = false := by
              cases h1 : isLeft s' <;> cases h2 : tight sg <;> rw [h1, h2] at eb <;> first | rfl | cases eb
            rw [this]
            rfl
        | false =>
          refine iteF ⟨.ref D, rfl, .inl ⟨rfl, _, .inl (.inl eD3)⟩, _, rfl, v, sg, rfl, dv3, gs, D, _, _, rfl, rfl, eD3, by rw [List.length_map]; omega, ?_⟩
          refine fin H3 0 ps k03 dv3 (by omega) eD3 (by simp) ?_
          rw [ef]
          have : (isLeft s' || tight sg) = true := by
            cases h1 : isLeft s' <;> cases h2 : tight sg <;> rw [h1, h2] at eb <;> first | rfl | cases eb
          rw [this]
          rfl
    · have ei : i = ss.length := by omega
      subst ei
      refine .inl ⟨⟨xs, .inl (.inl ha1), by omega⟩, ?_⟩
      rw [List.drop_length] at ec
      have ec : catL ps ++ [] = _ := ec
      rw [List.append_nil] at ec
      refine ⟨⟨_, rfl⟩, _, rfl, _, D, ps, rfl, rfl, .inl (.inl (.inl eD)), ?_, ?_⟩
      · rw [cat_len, ec]
        show _ + _ * 0 ≤ _
        omega
      · rw [join_cat, ec]
        exact q H1 k
end
end Rs

/-! Forms, written; entries. -/
namespace Rw
open PySem PySem.Spec PyProof.Rows L2 GxR Gx Gd Rx Rs
abbrev s_value_signs : Stmt := topS 87
theorem sc_value_signs : FnScope ["part", "value", "outcome", "name", "argument"] ["part", "value"] (defScope s_value_signs) := ⟨rfl, rfl, rfl, by decide +kernel, rfl, by decide +kernel, by decide +kernel⟩
abbrev s_write_form : Stmt := topS 75
theorem sc_write_form : FnScope ["form", "values", "signs", "left", "part"] ["form", "values"] (defScope s_write_form) := ⟨rfl, rfl, rfl, by decide +kernel, rfl, by decide +kernel, by decide +kernel⟩
abbrev s_write_entry : Stmt := topS 90
theorem sc_write_entry : FnScope ["entry"] ["entry"] (defScope s_write_entry) := ⟨rfl, rfl, rfl, by decide +kernel, rfl, by decide +kernel, by decide +kernel⟩
abbrev s_read_entry : Stmt := topS 91
theorem sc_read_entry : FnScope ["line", "entry"] ["line"] (defScope s_read_entry) := ⟨rfl, rfl, rfl, by decide +kernel, rfl, by decide +kernel, by decide +kernel⟩
def spVS (K : PySem.W.Frag) : Sp := fun vs H Q _ => ∃ (v : V) (pv : Pv), vs = [.str (Str.ofString pv.part), v] ∧ Dt K H v pv.d ∧ pv.ok ∧ ∀ H' D ys, Kp H H' → H D = none → H' D = some (.lst ys) → DtAll K H' ys (pv.ss.map Sg.d) → Q (.ref D) H'
def spWF (K : PySem.W.Frag) : Sp := fun vs H Q _ => ∃ (fm vl : Addr) (xs : List V) (w : String) (pvs : List Pv), vs = [.ref fm, .ref vl] ∧ (w, pvs.map Pv.part) ∈ formL ∧ SqT K H fm ((w :: pvs.map Pv.part).map fun p => V.str (Str.ofString p)) ∧ SqT K H vl xs ∧ DtAll K H xs (pvs.map Pv.d) ∧ (∀ p ∈ pvs, p.ok) ∧
  ∀ H' D ys, Kp H H' → H' D = some (.lst ys) → DtAll K H' ys ((Sg.name (cs w) :: pvs.flatMap Pv.ss).map Sg.d) → Q (.ref D) H'
/-- an entry: its kind and its values -/
def EnOk (w : String) (pvs : List Pv) : Prop := (w, pvs.map Pv.part) ∈ formL ∧ ∀ p ∈ pvs, p.ok
def enD (w : String) (pvs : List Pv) : PyData := .tuple (.str (Str.ofString w) :: pvs.map Pv.d)
def enS (w : String) (pvs : List Pv) : List Sg := .name (cs w) :: pvs.flatMap Pv.ss
def spWE (K : PySem.W.Frag) : Sp := fun vs H Q _ => ∃ (v : V) (w : String) (pvs : List Pv), vs = [v] ∧ EnOk w pvs ∧ Dt K H v (enD w pvs) ∧ ∀ H', Kp H H' → Q (.str (sx (tW true (enS w pvs)))) H'
theorem outs_name : outs.all (fun l => isNameL l) = true := by decide +kernel
theorem pv_good : ∀ {p : Pv}, p.ok → ∀ s ∈ p.ss, s.good
  | .name l, h, s, hs => by rw [List.mem_singleton.mp hs]; exact h
  | .num n, h, s, hs => by rw [List.mem_singleton.mp hs]; exact h
  | .quo l, h, s, hs => by rw [List.mem_singleton.mp hs]; exact h
  | .sc x, h, s, hs => by rw [List.mem_singleton.mp hs]; exact scS_good h
  | .out l, h, s, hs => by rw [List.mem_singleton.mp hs]; exact List.all_eq_true.mp outs_name l h
  | .val va, h, s, hs => va_sgood (va := va) h s hs
theorem pv_len : ∀ {p : Pv}, p.ok → p.ss.length ≤ 35
  | .name l, h => by show 1 ≤ 35; omega
  | .num n, h => by show 1 ≤ 35; omega
  | .quo l, h => by show 1 ≤ 35; omega
  | .sc x, h => by show 1 ≤ 35; omega
  | .out l, h => by show 1 ≤ 35; omega
  | .val va, h => va_len (va := va) h
theorem form_small : formL.all (fun f => decide (f.2.length ≤ 5) && isNameL (cs f.1)) = true := by decide +kernel
theorem en_good {w : String} {pvs : List Pv} (h : EnOk w pvs) : (∀ s ∈ enS w pvs, s.good) ∧ (enS w pvs).length ≤ 200 := by
  have hf := List.all_eq_true.mp form_small _ h.1
  rw [Bool.and_eq_true] at hf
  have l5 : pvs.length ≤ 5 := by have := of_decide_eq_true hf.1; rwa [List.length_map] at this
  refine ⟨fun s hs => ?_, ?_⟩
  · rcases List.mem_cons.mp hs with rfl | hs
    · exact hf.2
    · obtain ⟨p, hp, hs⟩ := List.mem_flatMap.mp hs
      exact pv_good (h.2 p hp) s hs
  · have : ∀ (l : List Pv), (∀ p ∈ l, p.ok) → (l.flatMap Pv.ss).length ≤ 35 * l.length := fun l => by
      induction l with
      | nil => intro _; exact Nat.le_refl _
      | cons p l ih =>
        intro h
        have h1 := pv_len (h p List.mem_cons_self)
        have h2 := ih fun q hq => h q (List.mem_cons_of_mem _ hq)
        rw [List.flatMap_cons, List.length_append, List.length_cons]
        omega
    have := this pvs h.2
    show (Sg.name (cs w) :: pvs.flatMap Pv.ss).length ≤ 200
    rw [List.length_cons]
    omega
section
variable {P : Program} {w : World} {K : PySem.W.Frag} {mg : Str → Option Value} {base : Heap} {ts : List Addr} {aSK aF : Addr}
theorem c_value_signs (D : DefAt K mg "_value_signs" s_value_signs ["part", "value"]) (g_SIGN_KINDS : mg "SIGN_KINDS" = some (.ref aSK)) (hSK : ∀ p ∈ signParts, KDct K w aSK (Str.ofString p) (.str (Str.ofString (kindT p))))
    (c_literal : Cal P w K mg base CX0 4 "literal" ["value"] (spLit K)) : Cal P w K mg base CX0 5 "_value_signs" ["part", "value"] (spVS K) := by
  refine D.cal (k := 4) sc_value_signs (fun vs H Q E h => ?_) fun f cdv A outer s H vs Q E hr h => ?_
  · obtain ⟨v, b, rfl, _⟩ := h
    rfl
  · obtain ⟨v, b, rfl, hv, ok, q⟩ := h
    refine ⟨_, (pss_cons (ps_if (pt_cmpR op_eq (pv 0) pe_str (nomark _)) pss_no pss_nil)
  (pss_cons (ps_if (pt_cmpR op_in_seq (pv 0) (pe_tup (pa_cons pe_str (pa_cons pe_str pa_nil))) (by rfl)) (pss_one (ps_ret (pe_cal (c_literal.mono (by omega)) hr (by rfl) (pa_cons (pv 1) pa_nil)))) pss_nil)
  (pss_cons (ps_if (pt_cmpR op_eq (pv 0) pe_str (nomark _)) pss_no pss_nil)
  (pss_cons (ps_if (pt_cmpR op_eq (pv 0) pe_str (nomark _)) pss_no pss_nil)
  (pss_cons (ps_if (pt_cmpR op_eq (pv 0) pe_str (nomark _)) pss_no pss_nil)
  (pss_cons (ps_if (pt_cmpR op_eq (pv 0) pe_str (nomark _)) pss_no pss_nil)
  (pss_one (ps_ret (pe_lst (pa_cons (pe_tup (pa_cons (pe_ix ix_kdict (pe_glob (v := .ref aSK) rfl g_SIGN_KINDS rfl) (pv 0) (fun _ _ => rfl)) (pa_cons (pv 1) pa_nil))) pa_nil)))))))))), ?_⟩
    have hn : ∀ z ∈ ["EXPRESSION", "NAMES", "PARAMETERS", "ARGUMENTS", "OUTCOMES"], ¬ V.str (Str.ofString b.part) = V.str (Str.ofString z) := by
      have all : ("VALUE" :: parts).all (fun p => ["EXPRESSION", "NAMES", "PARAMETERS", "ARGUMENTS", "OUTCOMES"].all fun z => decide (¬ V.str (Str.ofString p) = V.str (Str.ofString z))) = true := by decide +kernel
      have hb : b.part ∈ "VALUE" :: parts := by cases b <;> simp [Pv.part, parts]
      exact fun z hz => of_decide_eq_true (List.all_eq_true.mp (List.all_eq_true.mp all _ hb) z hz)
    refine ⟨_, rfl, rfl, _, rfl, iteN (hn "EXPRESSION" (by simp)) ⟨_, rfl, by show 2 ≤ sizeLine; decide, fun p0 hp0 => ⟨p0, _, rfl, .inr (SqT.of upd_same), rfl, rfl, _, rfl, ?_⟩⟩⟩
    have k1 : Kp H (upd H p0 (.tup [.str (Str.ofString "SCALAR"), .str (Str.ofString "VALUE")])) := Kb.new hp0
    have hv1 := hv.kb k1 Lsts.nil
    have fr : ∀ D, (upd H p0 (.tup [.str (Str.ofString "SCALAR"), .str (Str.ofString "VALUE")])) D = none → H D = none := fun D h => k1.free D h
    generalize upd H p0 (.tup [.str (Str.ofString "SCALAR"), .str (Str.ofString "VALUE")]) = H1 at k1 hv1 fr ⊢
    have lit : ∀ va : Va, va.good → b.d = va.d → b.ss = vaS va → ∃ v' va', [v] = [v'] ∧ Dt K H1 v' va'.d ∧ va'.good ∧ ∀ H' D ys, Kp H1 H' → H1 D = none → H' D = some (.lst ys) → DtAll K H' ys ((vaS va').map Sg.d) → Q (.ref D) H' := fun va g e1 e2 => by
      refine ⟨v, va, rfl, by rw [← e1]; exact hv1, g, fun H' D ys k h1 h2 h3 => q H' D ys (k1.trans k) (fr D h1) h2 (by rw [e2]; exact h3)⟩
    have one : ∀ (s : Sg) (kd : String), b.ss = [s] → b.part ∈ signParts → kindT b.part = kd → s.d = .tuple [.str (Str.ofString kd), b.d] → (b.part = "SCALAR" ∨ b.part = "VALUE" → False) →
        ∀ p2, H1 p2 = none → ∀ D, (upd H1 p2 (.tup [.str (Str.ofString kd), v])) D = none → Q (.ref D) (upd (upd H1 p2 (.tup [.str (Str.ofString kd), v])) D (.lst [.ref p2])) := fun s kd e1 e2 e3 e4 e5 p2 h2 D hD => by
      have k2 : Kp H1 (upd H1 p2 (.tup [.str (Str.ofString kd), v])) := Kb.new h2
      have k3 : Kp (upd H1 p2 (.tup [.str (Str.ofString kd), v])) (upd (upd H1 p2 (.tup [.str (Str.ofString kd), v])) D (.lst [.ref p2])) := Kb.new hD
      refine q _ D [.ref p2] (k1.trans (k2.trans k3)) (fr D (upd_some_of hD)) upd_same ?_
      rw [e1]
      refine .cons ?_ .nil
      rw [e4]
      exact .tup (k3.sqT Lsts.nil (SqT.of upd_same)) (.cons (.str _) (.cons (hv1.kb (k2.trans k3) Lsts.nil) .nil))
    cases b with
    | sc x => exact iteT' (by show inV (V.str (Str.ofString "SCALAR")) [V.str (Str.ofString "SCALAR"), V.str (Str.ofString "VALUE")] = true; decide +kernel) ⟨_, rfl, lit (.s x) ok rfl rfl⟩
    | val va => exact iteT' (by show inV (V.str (Str.ofString "VALUE")) [V.str (Str.ofString "SCALAR"), V.str (Str.ofString "VALUE")] = true; decide +kernel) ⟨_, rfl, lit va ok rfl rfl⟩
    | name l =>
      refine iteF' (by show inV (V.str (Str.ofString "NAME")) [V.str (Str.ofString "SCALAR"), V.str (Str.ofString "VALUE")] = false; decide +kernel) ⟨_, rfl, rfl, _, rfl, iteN (hn "NAMES" (by simp)) ⟨_, rfl, rfl, _, rfl, iteN (hn "PARAMETERS" (by simp)) ⟨_, rfl, rfl, _, rfl, iteN (hn "ARGUMENTS" (by simp)) ⟨_, rfl, rfl, _, rfl, iteN (hn "OUTCOMES" (by simp)) ?_⟩⟩⟩⟩
      refine nx_gen ?_
      exact ⟨_, rfl, aSK, _, _, rfl, rfl, hSK "NAME" (by simp [signParts]), _, rfl, by show 2 ≤ sizeLine; decide, fun p2 h2 => ⟨by show 1 ≤ sizeLine; decide, fun D hD => one (.name l) "name" rfl (by simp [Pv.part, signParts]) rfl rfl (fun h => by rcases h with h | h <;> simp [Pv.part] at h) p2 h2 D hD⟩⟩
    | num n =>
      refine iteF' (by show inV (V.str (Str.ofString "NUMBER")) [V.str (Str.ofString "SCALAR"), V.str (Str.ofString "VALUE")] = false; decide +kernel) ⟨_, rfl, rfl, _, rfl, iteN (hn "NAMES" (by simp)) ⟨_, rfl, rfl, _, rfl, iteN (hn "PARAMETERS" (by simp)) ⟨_, rfl, rfl, _, rfl, iteN (hn "ARGUMENTS" (by simp)) ⟨_, rfl, rfl, _, rfl, iteN (hn "OUTCOMES" (by simp)) ?_⟩⟩⟩⟩
      refine nx_gen ?_
      exact ⟨_, rfl, aSK, _, _, rfl, rfl, hSK "NUMBER" (by simp [signParts]), _, rfl, by show 2 ≤ sizeLine; decide, fun p2 h2 => ⟨by show 1 ≤ sizeLine; decide, fun D hD => one (.num n) "number" rfl (by simp [Pv.part, signParts]) rfl rfl (fun h => by rcases h with h | h <;> simp [Pv.part] at h) p2 h2 D hD⟩⟩
    | quo l =>
      refine iteF' (by show inV (V.str (Str.ofString "QUOTED")) [V.str (Str.ofString "SCALAR"), V.str (Str.ofString "VALUE")] = false; decide +kernel) ⟨_, rfl, rfl, _, rfl, iteN (hn "NAMES" (by simp)) ⟨_, rfl, rfl, _, rfl, iteN (hn "PARAMETERS" (by simp)) ⟨_, rfl, rfl, _, rfl, iteN (hn "ARGUMENTS" (by simp)) ⟨_, rfl, rfl, _, rfl, iteN (hn "OUTCOMES" (by simp)) ?_⟩⟩⟩⟩
      refine nx_gen ?_
      exact ⟨_, rfl, aSK, _, _, rfl, rfl, hSK "QUOTED" (by simp [signParts]), _, rfl, by show 2 ≤ sizeLine; decide, fun p2 h2 => ⟨by show 1 ≤ sizeLine; decide, fun D hD => one (.quo l) "quoted" rfl (by simp [Pv.part, signParts]) rfl rfl (fun h => by rcases h with h | h <;> simp [Pv.part] at h) p2 h2 D hD⟩⟩
    | out l =>
      refine iteF' (by show inV (V.str (Str.ofString "OUTCOME")) [V.str (Str.ofString "SCALAR"), V.str (Str.ofString "VALUE")] = false; decide +kernel) ⟨_, rfl, rfl, _, rfl, iteN (hn "NAMES" (by simp)) ⟨_, rfl, rfl, _, rfl, iteN (hn "PARAMETERS" (by simp)) ⟨_, rfl, rfl, _, rfl, iteN (hn "ARGUMENTS" (by simp)) ⟨_, rfl, rfl, _, rfl, iteN (hn "OUTCOMES" (by simp)) ?_⟩⟩⟩⟩
      refine nx_gen ?_
      exact ⟨_, rfl, aSK, _, _, rfl, rfl, hSK "OUTCOME" (by simp [signParts]), _, rfl, by show 2 ≤ sizeLine; decide, fun p2 h2 => ⟨by show 1 ≤ sizeLine; decide, fun D hD => one (.name l) "name" rfl (by simp [Pv.part, signParts]) rfl rfl (fun h => by rcases h with h | h <;> simp [Pv.part] at h) p2 h2 D hD⟩⟩
theorem c_write_form (D : DefAt K mg "write_form" s_write_form ["form", "values"]) (m_list : mg "list" = none) (c__value_signs : Cal P w K mg base CX0 5 "_value_signs" ["part", "value"] (spVS K)) (c__sign_of : Cal P w K mg base CX0 1 "_sign_of" ["part"] (spSignOf K)) :
    Cal P w K mg base CX0 6 "write_form" ["form", "values"] (spWF K) := by
  refine D.cal (k := 5) sc_write_form (fun vs H Q E h => ?_) fun f cdv A outer s H vs Q E hr h => ?_
  · obtain ⟨_, _, _, _, _, rfl, _⟩ := h
    rfl
  · obtain ⟨fm, vl, xs, wd, pvs, rfl, hw, hfm, hvl, hd, ok, q⟩ := h
    refine ⟨_, (pss_cons (ps_set (i := 2) sc_write_form.nd rfl (Or.inl rfl) (pe_lst pa_nil))
  (pss_cons (ps_set (i := 3) sc_write_form.nd rfl (Or.inl rfl) (pe_callTy call_list_of (by rfl) m_list (by decide +kernel) (pa_cons (pv 1) pa_nil)))
  (pss_cons (ps_for PassesOwn.never rfl (pi_tup (pv 0)) (pg_name (i := 4) sc_write_form.nd rfl (Or.inl rfl)) (pss_one (ps_if (pt_val (pe_bm0 PySem.F.plainAttrs_str PySem.F.slot_str_isupper PySem.F.type_str_isupper mt_isupper (pv 4))) (pss_one (ps_expr (pe_bm PySem.F.plainAttrs_list PySem.F.slot_list_extend PySem.F.type_list_extend mt_extend (pv 2) (pa_cons (pe_cal (c__value_signs.mono (by omega)) hr (by rfl) (pa_cons (pv 4) (pa_cons (pe_bm PySem.F.plainAttrs_list PySem.F.slot_list_pop PySem.F.type_list_pop mt_popAt (pv 3) (pa_cons pe_int pa_nil)) pa_nil))) pa_nil)))) (pss_one (ps_expr (pe_bm PySem.F.plainAttrs_list PySem.F.slot_list_append PySem.F.type_list_append mt_append (pv 2) (pa_cons (pe_cal (c__sign_of.mono (by omega)) hr (by rfl) (pa_cons (pv 4) pa_nil)) pa_nil)))))))
  (pss_one (ps_ret (pv 2)))))), ?_⟩
    have sz : sizeLine = 16777216 := rfl
    obtain ⟨⟨lo, nm⟩, up⟩ : (Txt.isupper (Str.ofString wd) = false ∧ isNameL (cs wd) = true) ∧ ∀ p ∈ pvs.map Pv.part, p ∈ "VALUE" :: parts := by
      have := List.all_eq_true.mp low_kinds _ hw
      rw [Bool.and_eq_true, Bool.and_eq_true, Bool.not_eq_true'] at this
      exact ⟨⟨this.1.1, this.1.2⟩, fun p hp => of_decide_eq_true (List.all_eq_true.mp this.2 p hp)⟩
    have esx : sx (cs wd) = Str.ofString wd := sx_of _
    have gd := en_good (w := wd) (pvs := pvs) ⟨hw, ok⟩
    have lxs : xs.length = pvs.length := by rw [hd.length, List.length_map]
    refine ⟨by show 0 ≤ sizeLine; decide, fun D hD => ?_⟩
    refine gset ?_
    have k1 : Kp H (upd H D (.lst [])) := Kb.new hD
    have eD : (upd H D (.lst [])) D = some (.lst []) := upd_same
    generalize upd H D (.lst []) = H1 at k1 eD ⊢
    refine ⟨_, rfl, vl, xs, rfl, .inr (k1.sqT Lsts.nil hvl), fun Lf hLf => ?_⟩
    refine gset ?_
    have hLf0 : H Lf = none := k1.free Lf hLf
    have k2 : Kp H (upd H1 Lf (.lst xs)) := k1.trans (Kb.new hLf)
    have eD2 : (upd H1 Lf (.lst xs)) D = some (.lst []) := (Kb.new hLf : Kp H1 _).keep D _ eD (by simp) nt_lst
    have eL2 : (upd H1 Lf (.lst xs)) Lf = some (.lst xs) := upd_same
    have nDL : D ≠ Lf := fun z => by rw [z, hLf] at eD; cases eD
    generalize upd H1 Lf (.lst xs) = H2 at k2 eD2 eL2 ⊢
    refine ⟨_, rfl, fm, rfl, ⟨_, k2.sqT Lsts.nil hfm⟩, ?_⟩
    refine for_it walk_tup (fun i σ' H' => Kp H H' ∧ ∃ (acc : List V) (o4 : Option V), σ' = [some (.ref fm), some (.ref vl), some (.ref D), some (.ref Lf), o4] ∧ H' D = some (.lst acc) ∧
        ((i = 0 ∧ acc = [] ∧ H' Lf = some (.lst xs)) ∨ ∃ j, i = j + 1 ∧ H' Lf = some (.lst (xs.drop j)) ∧ DtAll K H' acc ((Sg.name (cs wd) :: (pvs.take j).flatMap Pv.ss).map Sg.d)))
      ⟨k2, [], none, rfl, eD2, .inl ⟨rfl, rfl, eL2⟩⟩ (fun i σ' H' _ ⟨k, _⟩ => k.sqT Lsts.nil hfm) ?_ ?_
    · rintro i x σ' _ H3 hi ⟨k3, acc, o4, rfl, eD3, hcase⟩ ⟨rfl, hx⟩
      rw [List.length_map, List.length_cons, List.length_map] at hi
      refine gset ?_
      rcases hcase with ⟨rfl, rfl, eL3⟩ | ⟨j, rfl, eL3, da⟩
      · obtain rfl : x = .str (Str.ofString wd) := by
          have : (((wd :: pvs.map Pv.part).map fun p => V.str (Str.ofString p)))[0]? = some (V.str (Str.ofString wd)) := rfl
          rw [this] at hx
          cases hx
          rfl
        refine ⟨_, rfl, rfl, _, rfl, rfl, trivial, _, rfl, iteF' lo ?_⟩
        refine ⟨_, rfl, .inl ⟨rfl, _, .inl (.inl eD3)⟩, _, rfl, cs wd, by rw [esx]; rfl, nm, fun H4 u k4 du => ?_⟩
        have eD4 := k4.keep D _ eD3 (by simp) nt_lst
        have eL4 := k4.keep Lf _ eL3 (by simp) nt_lst
        refine ⟨D, [], u, rfl, rfl, eD4, by show 0 < sizeLine; decide, (k3.trans k4).mut hD (no_tab eD4 nt_lst), [u], _, rfl, upd_same, .inr ⟨0, rfl, ?_, ?_⟩⟩
        · rw [upd_ne (Ne.symm nDL)]; exact eL4
        · exact .cons (dt_lst eD4 du) .nil
      · have hj2 : j < pvs.length := by omega
        obtain rfl : x = .str (Str.ofString pvs[j].part) := by
          have : (((wd :: pvs.map Pv.part).map fun p => V.str (Str.ofString p)))[j + 1]? = some (V.str (Str.ofString pvs[j].part)) := by rw [List.getElem?_map, List.getElem?_cons_succ, List.getElem?_map, List.getElem?_eq_getElem hj2]; rfl
          rw [this] at hx
          cases hx
          rfl
        have hpj := up pvs[j].part (List.mem_map.mpr ⟨_, List.getElem_mem hj2, rfl⟩)
        refine ⟨_, rfl, rfl, _, rfl, rfl, trivial, _, rfl, iteT' (List.all_eq_true.mp up_parts _ hpj) ?_⟩
        obtain ⟨y, hy, dy⟩ := (DtAll.kb k3 Lsts.nil hd).at (d := pvs[j].d) (i := j) (by rw [List.getElem?_map, List.getElem?_eq_getElem hj2]; rfl)
        have hj3 : j < xs.length := by omega
        have exj : xs.drop j = y :: xs.drop (j + 1) := by
          rw [List.drop_eq_getElem_cons hj3]
          congr 1
          rw [List.getElem?_eq_getElem hj3] at hy
          exact Option.some.inj hy
        rw [exj] at eL3
        refine ⟨_, rfl, .inl ⟨rfl, _, .inl (.inl eD3)⟩, _, rfl, _, rfl, .inl ⟨rfl, _, .inl (.inl eL3)⟩, Lf, y :: xs.drop (j + 1), 0, 0, y, rfl, rfl, eL3, by decide, by decide, by unfold seqIndex?; simp, rfl, ?_⟩
        have eD4 : (upd H3 Lf (.lst (xs.drop (j + 1)))) D = some (.lst acc) := by rw [upd_ne nDL]; exact eD3
        have k4 : Kp H (upd H3 Lf (.lst (xs.drop (j + 1)))) := k3.mut hLf0 (no_tab eL3 nt_lst)
        have dy4 : Dt K (upd H3 Lf (.lst (xs.drop (j + 1)))) y pvs[j].d := dt_lst eL3 dy
        have da4 : DtAll K (upd H3 Lf (.lst (xs.drop (j + 1)))) acc _ := dts_lst eL3 da
        have eL4 : (upd H3 Lf (.lst (xs.drop (j + 1)))) Lf = some (.lst (xs.drop (j + 1))) := upd_same
        rw [show (y :: List.drop (j + 1) xs).eraseIdx 0 = List.drop (j + 1) xs from rfl]
        generalize upd H3 Lf (.lst (xs.drop (j + 1))) = H4 at eD4 k4 dy4 da4 eL4 ⊢
        refine ⟨y, pvs[j], rfl, dy4, ok _ (List.getElem_mem hj2), fun H5 G ys k5 hG eG dG => ?_⟩
        have eD5 := k5.keep D _ eD4 (by simp) nt_lst
        have eL5 := k5.keep Lf _ eL4 (by simp) nt_lst
        have et : pvs.take (j + 1) = pvs.take j ++ [pvs[j]] := by rw [List.take_add_one, List.getElem?_eq_getElem hj2]; rfl
        have la : acc.length ≤ 200 := by
          have h1 := da.length
          have h2 : ((pvs.take j).flatMap Pv.ss).length ≤ (pvs.flatMap Pv.ss).length := by
            conv => rhs; rw [← List.take_append_drop j pvs, List.flatMap_append, List.length_append]
            omega
          have h3 := gd.2
          unfold enS at h3
          rw [List.length_cons] at h3
          rw [List.length_map, List.length_cons] at h1
          omega
        have ly : ys.length ≤ 35 := by have := pv_len (ok pvs[j] (List.getElem_mem hj2)); rw [dG.length, List.length_map]; exact this
        refine ⟨D, G, acc, ys, rfl, rfl, eD5, eG, by omega, (k4.trans k5).mut hD (no_tab eD5 nt_lst), acc ++ ys, _, rfl, upd_same, .inr ⟨j + 1, rfl, ?_, ?_⟩⟩
        · rw [upd_ne (Ne.symm nDL)]; exact eL5
        · rw [et, List.flatMap_append, List.flatMap_cons, List.flatMap_nil, List.append_nil, ← List.cons_append, List.map_append]
          exact dts_lst eD5 (Gd.DtAll.cat (DtAll.kb k5 Lsts.nil da4) dG)
    · rintro σ' H3 ⟨k3, acc, o4, rfl, eD3, hcase⟩
      rw [List.length_map, List.length_cons, List.length_map] at hcase
      rcases hcase with ⟨h0, _⟩ | ⟨j, hj0, eL3, da⟩
      · omega
      obtain rfl : j = pvs.length := by omega
      rw [List.take_length] at da
      exact ⟨_, rfl, q H3 D acc k3 eD3 da⟩
theorem c_write_entry (D : DefAt K mg "write_entry" s_write_entry ["entry"]) (g_FORMS : mg "FORMS" = some (.ref aF)) (hF : ∀ f ∈ formL, ∃ g, KDct K w aF (Str.ofString f.1) (.ref g) ∧ ∀ H, SqT K H g ((f.1 :: f.2).map fun p => V.str (Str.ofString p)))
    (c_write_form : Cal P w K mg base CX0 6 "write_form" ["form", "values"] (spWF K)) (c_write_signs : Cal P w K mg base CX0 3 "write_signs" ["signs"] (spWrite K)) : Cal P w K mg base CX0 7 "write_entry" ["entry"] (spWE K) := by
  refine D.cal (k := 6) sc_write_entry (fun vs H Q E h => ?_) fun f cdv A outer s H vs Q E hr h => ?_
  · obtain ⟨v, wd, pvs, rfl, _⟩ := h
    rfl
  · obtain ⟨v, wd, pvs, rfl, ok, hv, q⟩ := h
    refine ⟨_, (pss_one (ps_ret (pe_cal (c_write_signs.mono (by omega)) hr (by rfl) (pa_cons (pe_cal (c_write_form.mono (by omega)) hr (by rfl) (pa_cons (pe_ix ix_kdict (pe_glob (v := .ref aF) rfl g_FORMS rfl) (pe_ix ix_tup (pv 0) pe_int (fun _ _ => rfl)) (fun _ _ => rfl)) (pa_cons (pe_slice sl_tupF (pv 0) (po_some pe_int) po_none) pa_nil))) pa_nil)))), ?_⟩
    obtain ⟨a, xs, rfl, ha, hxs⟩ := tup_inv hv
    cases hxs with
    | @cons v0 xs _ _ h0 hxs =>
    cases h0
    obtain ⟨fm, kfm, sfm⟩ := hF _ ok.1
    obtain ⟨gd1, gd2⟩ := en_good ok
    refine ⟨_, rfl, a, _, 0, _, rfl, rfl, ha, atI_nat (j := 0) rfl, aF, _, _, rfl, rfl, kfm, ?_⟩
    refine ⟨_, rfl, (1 : Int), rfl, a, _, rfl, ha, fun hw => ?_, fun hw p o hp ho => ?_⟩
    · have h1 := hw.1
      rw [show (1 : Int) = ((1 : Nat) : Int) from rfl, HT.sIx_nat, List.length_cons] at h1
      omega
    · have k1 : Kp H (upd H p (frzT o (cutV (V.str (Str.ofString wd) :: xs) (some (1 : Int)) none))) := Kb.new hp
      have e : cutV (V.str (Str.ofString wd) :: xs) (some (1 : Int)) none = xs := by
        unfold cutV
        rw [HT.sIx_none, show (1 : Int) = ((1 : Nat) : Int) from rfl, HT.sIx_nat, List.length_cons, Nat.min_eq_left (by omega)]
        simp
      rw [e] at k1 ⊢
      refine ⟨fm, p, xs, wd, pvs, rfl, ok.1, sfm _, SqT.frz upd_same, DtAll.kb k1 Lsts.nil hxs, ok.2, fun H2 D ys k2 eD dD => ?_⟩
      exact ⟨D, ys, _, rfl, eD, dD, gd1, by show (enS wd pvs).length ≤ 1000; omega, fun H3 k3 => q H3 ((k1.trans k2).trans k3)⟩
end
end Rw

/-! Entries, read. -/
namespace Rw
open PySem PySem.Spec PyProof.Rows L2 GxR Gx Gd Rx Rs
abbrev s_entry_of : Stmt := topS 92
theorem sc_entry_of : FnScope ["line", "signs", "kind"] ["line"] (defScope s_entry_of) := ⟨rfl, rfl, rfl, by decide +kernel, rfl, by decide +kernel, by decide +kernel⟩
def rdS : List Sg → Option PyData
  | .name w :: r => match formL.find? (fun f => decide (cs f.1 = w)) with
    | some f => (rdF f.2 r).map fun ds => .tuple (.str (sx w) :: ds)
    | none => none
  | _ => none
theorem rdS_name (w : List Nat) (r : List Sg) : rdS (.name w :: r) = match formL.find? (fun f => decide (cs f.1 = w)) with
    | some f => (rdF f.2 r).map fun ds => .tuple (.str (sx w) :: ds)
    | none => none := rfl
def rdEn (l : List Nat) : Option PyData := match splitR l with
  | .ok L => rdS L
  | .bad _ => none
def OkL (l : List Nat) : Prop := match splitR l with
  | .ok L => (∀ s ∈ L, fit s = true) ∧ L.length ≤ 1000
  | .bad _ => True
def spEO (K : PySem.W.Frag) (ts : List Addr) : Sp := fun vs H Q _ => ∃ l : List Nat, vs = [.str (sx l)] ∧ Lim l ∧ OkL l ∧ (∀ T ∈ ts, TabG H T) ∧ ∀ H' u, Kp H H' → (match rdEn l with | none => u = .non | some d => u ≠ .non ∧ Dt K H' u d) → Q u H'
def spREn (K : PySem.W.Frag) (ts : List Addr) : Sp := fun vs H Q _ => ∃ l : List Nat, vs = [.str (sx l)] ∧ Lim l ∧ OkL l ∧ (∀ T ∈ ts, TabG H T) ∧ ((rdEn l = none ∧ ∀ H', Kp H H' → Q .non H') ∨
  ∃ w pvs, EnOk w pvs ∧ rdEn l = some (enD w pvs) ∧ (tW true (enS w pvs) = l → ∀ H' u, Kp H H' → Dt K H' u (enD w pvs) → Q u H') ∧ (tW true (enS w pvs) ≠ l → ∀ H', Kp H H' → Q .non H'))
section
variable {P : Program} {w : World} {K : PySem.W.Frag} {mg : Str → Option Value} {base : Heap} {ts : List Addr} {aF CS CF : Addr} {k nF : Nat} {esF : Array DictEntry}
theorem c_entry_of (hk : 8 ≤ k) (D : DefAt K mg "_entry_of" s_entry_of ["line"]) (g_BadSigns : mg "BadSigns" = some (.ref CS)) (g_BadForm : mg "BadForm" = some (.ref CF)) (g_FORMS : mg "FORMS" = some (.ref aF))
    (hKD : KDict K w aF esF nF) (hIn : ∀ x : List Nat, ∃ r, PySem.W.nsIn K aF (sx x) = some r ∧ r.isSome = (formL.find? fun f => decide (cs f.1 = x)).isSome)
    (hF : ∀ f ∈ formL, ∃ g, KDct K w aF (Str.ofString f.1) (.ref g) ∧ ∀ H, SqT K H g ((f.1 :: f.2).map fun p => V.str (Str.ofString p)))
    (hS : PySem.W.exmAny K (.ref CS) [.ref CS, .ref CF] = some true) (hB : PySem.W.exmAny K (.ref CF) [.ref CS, .ref CF] = some true)
    (c_split_line : CalX P w K mg base 6 "split_line" ["line"] (spSplit K CS ts)) (c_word_of : Cal P w K mg base CX0 1 "word_of" ["signs"] (spWord K)) (c_read_form : CalX P w K mg base k "read_form" ["form", "signs"] (spForm K CF ts)) :
    Cal P w K mg base CX0 (k + 1) "_entry_of" ["line"] (spEO K ts) := by
  refine D.cal (k := k) sc_entry_of (fun vs H Q E h => ?_) fun f cdv A outer s H vs Q E hr h => ?_
  · obtain ⟨l, rfl, _⟩ := h
    rfl
  · obtain ⟨l, rfl, hl, ok, hT, q⟩ := h
    refine ⟨_, pss_one (ps_try_two (tb := fun W => tSeq (tAsg (tCallS (spSplit K CS ts) (WE W) (tCons (tVar 0) tNil)) (gName 1)) (tSeq (tAsg (tCall (spWord K) [] E0 (tCons (tVar 1) tNil)) (gName 2)) (tRet (tIf (tTest (tOp (fun x y H Q => ∃ (z : Str) (r : Option Value), x = .str z ∧ y = .ref aF ∧ PySem.W.nsIn K aF z = some r ∧ Q (.bl r.isSome) H) (tVar 2) (tC (.ref aF)))) (tOp (rCatT K) (tTup (tCons (tVar 2) tNil)) (tCallS (spForm K CF ts) (WE W) (tCons (tOp (rIxD K w) (tC (.ref aF)) (tVar 2)) (tCons (tVar 1) tNil)))) (tC .non))))) (ts := fun _ _ _ => tRet (tC .non)) rfl rfl ⟨rfl, by decide, Or.inl g_BadSigns⟩ ⟨rfl, by decide, Or.inl g_BadForm⟩ (fun W pn xe tk _ => by exact
(pss_cons (ps_set (i := 1) sc_entry_of.nd rfl (Or.inl rfl) (pe_calX (c_split_line.mono (by omega)) hr (by rfl) (fun σ => passAt tk σ) (pa_cons (pv 0) pa_nil)))
  (pss_cons (ps_set (i := 2) sc_entry_of.nd rfl (Or.inl rfl) (pe_cal (c_word_of.mono (by omega)) hr (by rfl) (pa_cons (pv 1) pa_nil)))
  (pss_one (ps_ret (pe_ifExp (pt_cmpR (op_in_kd hKD) (pv 2) (pe_glob (v := .ref aF) rfl g_FORMS rfl) (by rfl)) (pe_op op_catT (pe_tup (pa_cons (pv 2) pa_nil)) (pe_calX (c_read_form.mono (by omega)) hr (by rfl) (fun σ => passAt tk σ) (pa_cons (pe_ix ix_kdict (pe_glob (v := .ref aF) rfl g_FORMS rfl) (pv 2) (fun _ _ => rfl)) (pa_cons (pv 1) pa_nil)))) pe_non))))))
      (fun a oe cls d pn hz hf => pss_one (ps_ret pe_non))), ?_⟩
    refine ⟨_, rfl, l, rfl, hl, hT, ?_⟩
    unfold OkL at ok
    unfold rdEn at q
    cases e : splitR l with
    | bad n => 
      rw [e] at q
      exact fun d H' k _ => ⟨hS, fun a ha => q H' .non k rfl⟩
    | ok L =>
      rw [e] at q ok
      have ok : (∀ s ∈ L, fit s = true) ∧ L.length ≤ 1000 := ok
      have q : ∀ H' u, Kp H H' → (match rdS L with | none => u = .non | some d => u ≠ .non ∧ Dt K H' u d) → Q u H' := q
      intro H1 S vs hS0 k1 eS dS
      refine gset ?_
      refine ⟨_, rfl, S, L, rfl, ⟨vs, eS, dS⟩, ?_⟩
      refine gset ?_
      cases L with
      | nil =>
        obtain ⟨r0, h1, h2⟩ := hIn []
        have hn : (formL.find? fun f => decide (cs f.1 = [])) = none := by decide +kernel
        rw [hn] at h2
        exact ⟨_, rfl, _, r0, rfl, rfl, h1, _, rfl, iteF' h2 (q H1 .non k1 rfl)⟩
      | cons s r =>
      cases s with
      | num n =>
        obtain ⟨r0, h1, h2⟩ := hIn []
        have hn : (formL.find? fun f => decide (cs f.1 = [])) = none := by decide +kernel
        rw [hn] at h2
        exact ⟨_, rfl, _, r0, rfl, rfl, h1, _, rfl, iteF' h2 (q H1 .non k1 rfl)⟩
      | quo n =>
        obtain ⟨r0, h1, h2⟩ := hIn []
        have hn : (formL.find? fun f => decide (cs f.1 = [])) = none := by decide +kernel
        rw [hn] at h2
        exact ⟨_, rfl, _, r0, rfl, rfl, h1, _, rfl, iteF' h2 (q H1 .non k1 rfl)⟩
      | mark n =>
        obtain ⟨r0, h1, h2⟩ := hIn []
        have hn : (formL.find? fun f => decide (cs f.1 = [])) = none := by decide +kernel
        rw [hn] at h2
        exact ⟨_, rfl, _, r0, rfl, rfl, h1, _, rfl, iteF' h2 (q H1 .non k1 rfl)⟩
      | name x =>
        obtain ⟨r0, h1, h2⟩ := hIn x
        cases hx : formL.find? fun f => decide (cs f.1 = x) with
        | none =>
          rw [hx] at h2
          have hz : rdS (Sg.name x :: r) = none := by rw [rdS_name, hx]
          exact ⟨_, rfl, _, r0, rfl, rfl, h1, _, rfl, iteF' h2 (q H1 .non k1 (by rw [hz]))⟩
        | some fm =>
          rw [hx] at h2
          obtain ⟨wd, ps⟩ := fm
          have hm := List.mem_of_find?_eq_some hx
          have hc : cs wd = x := of_decide_eq_true (List.find?_some (p := fun f : String × List String => decide (cs f.1 = x)) hx)
          subst hc
          have esx : sx (cs wd) = Str.ofString wd := sx_of _
          obtain ⟨g, kg, sg⟩ := hF _ hm
          have hrs : rdS (Sg.name (cs wd) :: r) = (rdF ps r).map fun ds => .tuple (.str (sx (cs wd)) :: ds) := by rw [rdS_name, hx]
          rw [hrs] at q
          refine ⟨_, rfl, _, r0, rfl, rfl, h1, _, rfl, iteT' h2 ?_⟩
          refine ⟨_, rfl, by show 1 ≤ sizeLine; decide, fun p hp => ?_⟩
          have k2 : Kp H1 (upd H1 p (.tup [.str (sx (cs wd))])) := Kb.new hp
          have s2 : SqT K (upd H1 p (.tup [.str (sx (cs wd))])) p [.str (sx (cs wd))] := SqT.of upd_same
          have S2 : Sgs K (upd H1 p (.tup [.str (sx (cs wd))])) S (Sg.name (cs wd) :: r) := (show Sgs K H1 S _ from ⟨vs, eS, dS⟩).kp k2
          generalize upd H1 p (.tup [.str (sx (cs wd))]) = H2 at k2 s2 S2 ⊢
          have k12 := k1.trans k2
          have hl2 := ok.2
          rw [List.length_cons] at hl2
          refine ⟨_, rfl, aF, _, _, rfl, rfl, (by show KDct K w aF (sx (cs wd)) (.ref g); rw [esx]; exact kg), _, rfl, g, S, wd, ps, r, rfl, hm, sg _, S2, ok.1, by omega, fun T hm => k12.tab T (hT T hm), ?_⟩
          cases er : rdF ps r with
          | none =>
            rw [er] at q
            exact fun H3 k3 => ⟨hB, fun a ha => q H3 .non (k12.trans k3) rfl⟩
          | some ds =>
            rw [er] at q
            have q : ∀ H' u, Kp H H' → (u ≠ .non ∧ Dt K H' u (.tuple (.str (sx (cs wd)) :: ds))) → Q u H' := q
            intro H3 u k3 du
            obtain ⟨b, ys, rfl, hb, hys⟩ := tup_inv du
            have ly : ys.length ≤ 1000 := by
              have := hys.length
              have h5 : ds.length ≤ 5 := by
                have a1 : ∀ (ps : List String) (L : List Sg) (ds : List PyData), rdF ps L = some ds → ds.length = ps.length := by
                  intro ps
                  induction ps with
                  | nil => intro L ds h; cases L with | nil => cases h; rfl | cons _ _ => cases h
                  | cons p ps ih =>
                    intro L ds h
                    rw [rdF_cons] at h
                    cases hv : rdV p L with
                    | none => rw [hv] at h; cases h
                    | some q =>
                      obtain ⟨d, r⟩ := q
                      rw [hv] at h
                      obtain ⟨es, h1, h2⟩ := Option.map_eq_some_iff.mp (show (rdF ps r).map (fun ds => d :: ds) = some ds from h)
                      rw [← h2, List.length_cons, List.length_cons, ih r es h1]
                have a2 := a1 ps r ds er
                have := of_decide_eq_true (Bool.and_eq_true _ _ ▸ List.all_eq_true.mp form_small _ hm).1
                have h6 : ps.length ≤ 5 := this
                omega
              omega
            have k13 := k12.trans k3
            have sz : sizeLine = 16777216 := rfl
            have s3 := k3.sqT Lsts.nil s2
            refine ⟨p, b, [.str (sx (cs wd))], ys, rfl, rfl, s3, hb, by simp, by show 1 + ys.length ≤ sizeLine; omega, fun h0 => ?_, fun _ p4 h4 => ?_⟩
            · subst h0
              cases hys
              exact q H3 _ k13 ⟨(fun z => by cases z), .tup s3 (.cons (.str _) .nil)⟩
            · exact q _ _ (k13.trans (Kb.new h4)) ⟨(fun z => by cases z), .tup (SqT.of upd_same) (.cons (.str _) (DtAll.kb (Kb.new h4) Lsts.nil hys))⟩
theorem c_read_entry_e {kw : Nat} (D : DefAt K mg "read_entry" s_read_entry ["line"]) (c__entry_of : Cal P w K mg base CX0 k "_entry_of" ["line"] (spEO K ts)) (c_write_entry : Cal P w K mg base CX0 7 "write_entry" ["entry"] (spWE K)) (hk : 7 ≤ k) :
    Cal P w K mg base CX0 (k + 1) "read_entry" ["line"] (spREn K ts) := by
  refine D.cal (k := k) sc_read_entry (fun vs H Q E h => ?_) fun f cdv A outer s H vs Q E hr h => ?_
  · obtain ⟨l, rfl, _⟩ := h
    rfl
  · obtain ⟨l, rfl, hl, ok, hT, q⟩ := h
    refine ⟨_, (pss_cons (ps_set (i := 1) sc_read_entry.nd rfl (Or.inl rfl) (pe_cal (c__entry_of.mono (by omega)) hr (by rfl) (pa_cons (pv 0) pa_nil)))
  (pss_cons (ps_if (PW.pt (pw_or (pt_cmpR op_isN (pv 1) pe_non (nomark _)) (pw_or1 (pt_cmpR op_ne (pe_cal (c_write_entry.mono (by omega)) hr (by rfl) (pa_cons (pv 1) pa_nil)) (pv 0) (nomark _))))) (pss_one (ps_ret pe_non)) pss_nil)
  (pss_one (ps_ret (pv 1))))), ?_⟩
    refine ⟨_, rfl, l, rfl, hl, ok, hT, fun H1 u k1 hu => ?_⟩
    refine gset ?_
    rcases q with ⟨e, q⟩ | ⟨wd, pvs, en, e, q1, q2⟩
    · rw [e] at hu
      obtain rfl : u = .non := hu
      exact ⟨_, rfl, rfl, _, rfl, iteT (iteT (q H1 k1))⟩
    · rw [e] at hu
      obtain ⟨nn, du⟩ := hu
      refine ⟨_, rfl, rfl, _, rfl, iteF' (decide_eq_false nn) ⟨_, rfl, u, wd, pvs, rfl, en, du, fun H2 k2 => ⟨_, rfl, rfl, _, rfl, ?_⟩⟩⟩
      by_cases hz : tW true (enS wd pvs) = l
      · exact iteF' (by rw [hz, decide_eq_true rfl]; rfl) ⟨_, rfl, q1 hz H2 u (k1.trans k2) (du.kb k2 Lsts.nil)⟩
      · exact iteT' (by rw [decide_eq_false fun z => hz (sx_inj (V.str.inj z))]; rfl) (q2 hz H2 (k1.trans k2))
end
end Rw

/-! Lines of entries are read back; others are refused: pure. -/
namespace Rw
open PySem PySem.Spec PyProof.Rows L2 GxR Gx Gd Rx Rs
theorem rdV_back : ∀ {p : Pv} {r : List Sg}, p.ok → rdV p.part (p.ss ++ r) = some (p.d, r)
  | .name l, r, _ => by
    show rdV "NAME" (.name l :: r) = _
    rw [rdV_cons (by decide)]
    simp [valOf, Pv.d]
  | .num n, r, _ => by
    show rdV "NUMBER" (.num n :: r) = _
    rw [rdV_cons (by decide)]
    simp [valOf, Pv.d]
  | .quo l, r, _ => by
    show rdV "QUOTED" (.quo l :: r) = _
    rw [rdV_cons (by decide)]
    simp [valOf, Pv.d]
  | .sc s, r, g => by
    show rdV "SCALAR" (scS s :: r) = _
    rw [rdV_cons (by decide)]
    have e : valOf "SCALAR" (scS s) = scalarOf (scS s) := by unfold valOf; rw [if_pos rfl]
    rw [e, scalarOf_scS g]
    rfl
  | .out l, r, g => by
    show rdV "OUTCOME" (.name l :: r) = _
    rw [rdV_cons (by decide)]
    have g : l ∈ outs := g
    simp [valOf, Pv.d, g]
  | .val va, r, g => by
    show rdV "VALUE" (vaS va ++ r) = _
    have e : rdV "VALUE" (vaS va ++ r) = litR (readE (vaS va ++ r)) := by unfold rdV; rw [if_pos rfl]
    have h : rd 5 (exS (.lit va.d) ++ r) = some (.lit va.d, r) := rd_back (e := .lit va.d) ⟨va, g, rfl⟩ (by show 0 ≤ 5; omega)
    have e2 : exS (.lit va.d) = vaS va := by show vaS (Va.of va.d) = vaS va; rw [Va.of_d]
    rw [e2] at h
    rw [e]
    unfold readE
    rw [h]
    show litR (if 10 < (Ex.lit va.d).calls then none else some (Ex.lit va.d, r)) = _
    rw [if_neg (by show ¬ 10 < 0; omega)]
    rfl
theorem rdF_back : ∀ {pvs : List Pv} {X : List Sg}, (∀ p ∈ pvs, p.ok) → rdF (pvs.map Pv.part) (pvs.flatMap Pv.ss ++ X) = if X = [] then some (pvs.map Pv.d) else none
  | [], [], _ => rfl
  | [], x :: X, _ => by rw [if_neg (by simp)]; rfl
  | p :: pvs, X, h => by
    rw [List.map_cons, List.flatMap_cons, List.append_assoc, rdF_cons, rdV_back (h p List.mem_cons_self)]
    show (rdF (pvs.map Pv.part) (pvs.flatMap Pv.ss ++ X)).map (fun ds => p.d :: ds) = _
    rw [rdF_back fun q hq => h q (List.mem_cons_of_mem _ hq)]
    by_cases e : X = []
    · rw [if_pos e, if_pos e]; rfl
    · rw [if_neg e, if_neg e]; rfl
theorem form_find : formL.all (fun f => decide (formL.find? (fun g => decide (cs g.1 = cs f.1)) = some f)) = true := by decide +kernel
theorem rdS_back {w : String} {pvs : List Pv} (h : EnOk w pvs) (X : List Sg) : rdS (enS w pvs ++ X) = if X = [] then some (enD w pvs) else none := by
  show rdS (.name (cs w) :: (pvs.flatMap Pv.ss ++ X)) = _
  rw [rdS_name, of_decide_eq_true (List.all_eq_true.mp form_find _ h.1)]
  show (rdF (pvs.map Pv.part) (pvs.flatMap Pv.ss ++ X)).map (fun ds => PyData.tuple (.str (sx (cs w)) :: ds)) = _
  rw [rdF_back h.2, show sx (cs w) = Str.ofString w from sx_of _]
  by_cases e : X = []
  · rw [if_pos e, if_pos e]; rfl
  · rw [if_neg e, if_neg e]; rfl
theorem fit_all {L : List Sg} (h : ∀ s ∈ L, s.good) : ∀ s ∈ L, fit s = true := fun s hs => good_fit (h s hs)
/-- a line that is refused -/
def Wrong (l : List Nat) : Prop := OkL l ∧ (rdEn l = none ∨ ∃ w pvs, EnOk w pvs ∧ rdEn l = some (enD w pvs) ∧ tW true (enS w pvs) ≠ l)
theorem ok_of {l : List Nat} {L : List Sg} (h : splitR l = .ok L) (g : ∀ s ∈ L, s.good) (hl : L.length ≤ 1000) : OkL l := by
  unfold OkL
  rw [h]
  exact ⟨fit_all g, hl⟩
theorem rd_of {l : List Nat} {L : List Sg} (h : splitR l = .ok L) : rdEn l = rdS L := by unfold rdEn; rw [h]
/-- the line of an entry tells it -/
theorem en_back {w : String} {pvs : List Pv} (h : EnOk w pvs) : OkL (tW true (enS w pvs)) ∧ rdEn (tW true (enS w pvs)) = some (enD w pvs) := by
  obtain ⟨g, l⟩ := en_good h
  have e := split_text g
  refine ⟨ok_of e g (by omega), ?_⟩
  rw [rd_of e]
  have := rdS_back h []
  rwa [List.append_nil, if_pos rfl] at this
/-- the same signs, another line -/
theorem wrong_same {w : String} {pvs : List Pv} {l : List Nat} (h : EnOk w pvs) (e : splitR l = .ok (enS w pvs)) (hl : l.length ≠ (tW true (enS w pvs)).length) : Wrong l := by
  obtain ⟨g, n⟩ := en_good h
  refine ⟨ok_of e g (by omega), .inr ⟨w, pvs, h, ?_, fun z => hl (by rw [z])⟩⟩
  rw [rd_of e]
  have := rdS_back h []
  rwa [List.append_nil, if_pos rfl] at this
/-- a sign more -/
theorem wrong_more {w : String} {pvs : List Pv} {l : List Nat} {X : List Sg} (h : EnOk w pvs) (hX : ∀ s ∈ X, s.good) (hl : X.length ≤ 100) (hn : X ≠ []) (e : tW true (enS w pvs ++ X) = l) : Wrong l := by
  obtain ⟨g, n⟩ := en_good h
  have g2 : ∀ s ∈ enS w pvs ++ X, s.good := fun s hs => by
    rcases List.mem_append.mp hs with hs | hs
    · exact g s hs
    · exact hX s hs
  have es := split_text g2
  rw [e] at es
  refine ⟨ok_of es g2 (by rw [List.length_append]; omega), .inl ?_⟩
  rw [rd_of es, rdS_back h X, if_neg hn]
theorem pv_row : ∀ {p : Pv}, p.ok → RowOk p.ss
  | .name l, _ => ⟨.name l, [], rfl, rfl, rfl⟩
  | .num n, _ => ⟨.num n, [], rfl, rfl, rfl⟩
  | .quo l, _ => ⟨.quo l, [], rfl, rfl, rfl⟩
  | .sc s, _ => sc_row s
  | .out l, _ => ⟨.name l, [], rfl, rfl, rfl⟩
  | .val va, g => by
    have := ex_row (e := .lit va.d) ⟨va, g, rfl⟩
    rwa [show exS (.lit va.d) = vaS va by show vaS (Va.of va.d) = vaS va; rw [Va.of_d]] at this
theorem pvs_text : ∀ {pvs : List Pv}, (∀ p ∈ pvs, p.ok) → tW false (pvs.flatMap Pv.ss) = pvs.flatMap (fun p => 32 :: tW true p.ss) ∧ endF false (pvs.flatMap Pv.ss) = false
  | [], _ => ⟨rfl, rfl⟩
  | p :: pvs, h => by
    obtain ⟨a, b⟩ := pvs_text (pvs := pvs) fun q hq => h q (List.mem_cons_of_mem _ hq)
    have r := pv_row (h p List.mem_cons_self)
    refine ⟨?_, ?_⟩
    · rw [List.flatMap_cons, tW_app, row_end r, a, row_space r, List.flatMap_cons]
    · rw [List.flatMap_cons, endF_app, row_end r, b]
/-- the text of an entry -/
theorem en_text {w : String} {pvs : List Pv} (h : EnOk w pvs) : tW true (enS w pvs) = cs w ++ pvs.flatMap fun p => 32 :: tW true p.ss := by
  show tW true (.name (cs w) :: pvs.flatMap Pv.ss) = _
  rw [tW_cons]
  show List.replicate 0 32 ++ (cs w ++ tW false (pvs.flatMap Pv.ss)) = _
  rw [(pvs_text h.2).1]
  rfl
theorem en_end {w : String} {pvs : List Pv} (h : EnOk w pvs) : endF true (enS w pvs) = false := (pvs_text h.2).2
theorem wrong7 {w : String} {pvs : List Pv} (h : EnOk w pvs) : Wrong (tW true (enS w pvs) ++ [32, 55]) := by
  refine wrong_more (X := [.num 7]) h (fun s hs => by rw [List.mem_singleton.mp hs]; show 7 ≤ 999999999; omega) (by simp) (by simp) ?_
  rw [tW_app, en_end h]
  congr 1
theorem wrongx {w : String} {pvs : List Pv} (h : EnOk w pvs) : Wrong (tW true (enS w pvs) ++ [32, 120]) := by
  refine wrong_more (X := [.name [120]]) h (fun s hs => by rw [List.mem_singleton.mp hs]; show isNameL [120] = true; decide) (by simp) (by simp) ?_
  rw [tW_app, en_end h]
  congr 1
theorem wrongp {w : String} {pvs : List Pv} (h : EnOk w pvs) : Wrong (tW true (enS w pvs) ++ [41]) := by
  refine wrong_more (X := [.mark 41]) h (fun s hs => by rw [List.mem_singleton.mp hs]; show isMark 41 = true; decide) (by simp) (by simp) ?_
  rw [tW_app, en_end h]
  congr 1
theorem wrong_sp {w : String} {pvs : List Pv} (h : EnOk w pvs) : Wrong (32 :: tW true (enS w pvs)) := by
  refine wrong_same h ?_ (by simp)
  rw [splitR_sp, split_text (en_good h).1]
  rfl
theorem split_behind {ss : List Sg} {t : List Nat} (h : ∀ s ∈ ss, s.good) (ht : Hd t) : splitR (tW true ss ++ t) = (splitR t).shift (tW true ss).length ss := by
  have := split_loose (wr true ss) false t (fun p hp => (wr_mem h p hp).1) (wr_apart true false ss fun z => by cases z) ht
  rwa [wr_signs] at this
theorem wrong_be {w : String} {pvs : List Pv} (h : EnOk w pvs) : Wrong (tW true (enS w pvs) ++ [32]) := by
  refine wrong_same h ?_ (by simp)
  rw [split_behind (en_good h).1 (.inr ⟨32, [], rfl, by decide⟩)]
  show Out.ok (enS w pvs ++ []) = _
  rw [List.append_nil]
theorem wrong_nl {w : String} {pvs : List Pv} (h : EnOk w pvs) : Wrong (tW true (enS w pvs) ++ [10]) := by
  have e : splitR (tW true (enS w pvs) ++ [10]) = .bad ((tW true (enS w pvs)).length + 0) := by
    rw [split_behind (en_good h).1 (.inr ⟨10, [], rfl, by decide⟩), splitR_bad (c := 10) (r := []) (by decide) (by decide)]
    rfl
  refine ⟨?_, .inl ?_⟩
  · unfold OkL; rw [e]; trivial
  · unfold rdEn; rw [e]
theorem kinds_x : formL.all (fun f => isNameL (120 :: cs f.1) && (formL.find? (fun g => decide (cs g.1 = 120 :: cs f.1))).isNone) = true := by decide +kernel
theorem wrong_x {w : String} {pvs : List Pv} (h : EnOk w pvs) : Wrong (120 :: tW true (enS w pvs)) := by
  have hk := List.all_eq_true.mp kinds_x _ h.1
  rw [Bool.and_eq_true] at hk
  have e : 120 :: tW true (enS w pvs) = tW true (.name (120 :: cs w) :: pvs.flatMap Pv.ss) := by
    rw [en_text h, tW_cons]
    show _ = List.replicate 0 32 ++ ((120 :: cs w) ++ tW false (pvs.flatMap Pv.ss))
    rw [(pvs_text h.2).1]
    rfl
  have g : ∀ s ∈ Sg.name (120 :: cs w) :: pvs.flatMap Pv.ss, s.good := fun s hs => by
    rcases List.mem_cons.mp hs with rfl | hs
    · exact hk.1
    · exact (en_good h).1 s (List.mem_cons_of_mem _ hs)
  have es := split_text g
  rw [e]
  refine ⟨ok_of es g (by have := (en_good h).2; unfold enS at this; rw [List.length_cons] at this ⊢; omega), .inl ?_⟩
  rw [rd_of es, rdS_name, Option.isNone_iff_eq_none.mp hk.2]
def consts : List (List Nat) := ["", "reject 1", "connect 1", "discard 1 1 lost", "event 1 0 5 buy map()", "event 1 00 5 buy none", "resolve x none", "start 9 \"\""].map cs
theorem consts_all : consts.all (fun l => (rdEn l).isNone && match splitR l with | .ok L => L.all fit && decide (L.length ≤ 1000) | .bad _ => true) = true := by decide +kernel
theorem wrong_c {l : List Nat} (h : l ∈ consts) : Wrong l := by
  have := List.all_eq_true.mp consts_all l h
  rw [Bool.and_eq_true] at this
  refine ⟨?_, .inl (Option.isNone_iff_eq_none.mp this.1)⟩
  have h2 := this.2
  unfold OkL
  cases e : splitR l with
  | bad n => trivial
  | ok L =>
    rw [e] at h2
    have h2 : (L.all fit && decide (L.length ≤ 1000)) = true := h2
    rw [Bool.and_eq_true, decide_eq_true_eq, List.all_eq_true] at h2
    exact h2
end Rw

/-! The law's entries, drawn. -/
namespace Rw
open PySem PySem.Spec PyProof.Rows L2 GxR Gx Gd Rx Rs
abbrev s_law_text : Stmt := topS 98
theorem sc_law_text : FnScope ["box", "signs", "k"] ["box"] (defScope s_law_text) := ⟨rfl, rfl, rfl, by decide +kernel, rfl, by decide +kernel, by decide +kernel⟩
abbrev s_law_name : Stmt := topS 99
theorem sc_law_name : FnScope ["box"] ["box"] (defScope s_law_name) := ⟨rfl, rfl, rfl, by decide +kernel, rfl, by decide +kernel, by decide +kernel⟩
abbrev s_law_number : Stmt := topS 100
theorem sc_law_number : FnScope ["box"] ["box"] (defScope s_law_number) := ⟨rfl, rfl, rfl, by decide +kernel, rfl, by decide +kernel, by decide +kernel⟩
abbrev s_law_scalar : Stmt := topS 101
theorem sc_law_scalar : FnScope ["box", "kind"] ["box"] (defScope s_law_scalar) := ⟨rfl, rfl, rfl, by decide +kernel, rfl, by decide +kernel, by decide +kernel⟩
abbrev s_law_value : Stmt := topS 102
theorem sc_law_value : FnScope ["box", "k"] ["box"] (defScope s_law_value) := ⟨rfl, rfl, rfl, by decide +kernel, rfl, by decide +kernel, by decide +kernel⟩
abbrev s_law_entry : Stmt := topS 103
theorem sc_law_entry : FnScope ["box", "kind", "words"] ["box"] (defScope s_law_entry) := ⟨rfl, rfl, rfl, by decide +kernel, rfl, by decide +kernel, by decide +kernel⟩
def quoOk (l : List Nat) : Prop := l.all (fun c => isChar c || decide (c = 10)) = true ∧ l.length ≤ 40
def toks : List Str := ["a", "b ", "\"", "\\", "\n", "(,)", "=", "x9"].map Str.ofString
theorem toks_ok : toks.all (fun s => s.cps.toList.all (fun c => isChar c || decide (c = 10)) && decide (s.length ≤ 3)) = true := by decide +kernel
theorem cat_ok : ∀ {ps : List Str}, (∀ p ∈ ps, p ∈ toks) → (catL ps).all (fun c => isChar c || decide (c = 10)) = true ∧ (catL ps).length ≤ 3 * ps.length
  | [], _ => ⟨rfl, Nat.le_refl _⟩
  | p :: ps, h => by
    obtain ⟨a, b⟩ := cat_ok (ps := ps) fun q hq => h q (List.mem_cons_of_mem _ hq)
    have := List.all_eq_true.mp toks_ok p (h p List.mem_cons_self)
    rw [Bool.and_eq_true, decide_eq_true_eq] at this
    have e : catL (p :: ps) = p.cps.toList ++ catL ps := rfl
    have hl : p.cps.toList.length = p.length := by simp [Str.length]
    rw [e, List.all_append, List.length_append, List.length_cons, this.1, a]
    exact ⟨rfl, by omega⟩
def spTx : Sp := fun vs H Q _ => ∃ bx d, vs = [.ref bx] ∧ Rv.Box bx d H ∧ ∀ H' l, Rv.Aft bx d H H' → quoOk l → Q (.str (sx l)) H'
def spNm : Sp := fun vs H Q _ => ∃ bx d, vs = [.ref bx] ∧ Rv.Box bx d H ∧ ∀ H' l, Rv.Aft bx d H H' → isNameL l = true → Q (.str (sx l)) H'
def spNb : Sp := fun vs H Q _ => ∃ bx d, vs = [.ref bx] ∧ Rv.Box bx d H ∧ ∀ H' (n : Nat), Rv.Aft bx d H H' → n ≤ 999999999 → Q (.int (n : Int)) H'
def spSk (K : PySem.W.Frag) : Sp := fun vs H Q _ => ∃ bx d, vs = [.ref bx] ∧ Rv.Box bx d H ∧ ∀ H' v (s : Rv.Sc), Rv.Aft bx d H H' → Dt K H' v s.d → s.good → Q v H'
def spVk (K : PySem.W.Frag) : Sp := fun vs H Q _ => ∃ bx d, vs = [.ref bx] ∧ Rv.Box bx d H ∧ ∀ H' v (a : Va), Rv.Aft bx d H H' → Dt K H' v a.d → a.good → Q v H'
def spEk (K : PySem.W.Frag) : Sp := fun vs H Q _ => ∃ bx d, vs = [.ref bx] ∧ Rv.Box bx d H ∧ ∀ H' v w pvs, Rv.Aft bx d H H' → Dt K H' v (enD w pvs) → EnOk w pvs → Q v H'
def nmsV : List (List Nat) := ["shop", "a", "z9", "event", "none", "abcdefghijkl"].map cs
theorem nms_ok : nmsV.all isNameL = true := by decide +kernel
section
variable {P : Program} {w : World} {K : PySem.W.Frag} {mg : Str → Option Value} {base : Heap}
theorem c_law_text (D : DefAt K mg "_law_text" s_law_text ["box"]) (m_range : mg "range" = none) (c__law_draw : Cal P w K mg base CX0 1 "_law_draw" ["box", "many"] Rv.spDraw) : Cal P w K mg base CX0 2 "_law_text" ["box"] spTx := by
  refine D.cal (k := 1) sc_law_text (fun vs H Q E h => ?_) fun f cdv A outer s H vs Q E hr h => ?_
  · obtain ⟨bx, d, rfl, _⟩ := h
    rfl
  · obtain ⟨bx, d, rfl, b, q⟩ := h
    refine ⟨_, (pss_cons (ps_set (i := 1) sc_law_text.nd rfl (Or.inr rfl) (pe_lst (pa_cons pe_str (pa_cons pe_str (pa_cons pe_str (pa_cons pe_str (pa_cons pe_str (pa_cons pe_str (pa_cons pe_str (pa_cons pe_str pa_nil))))))))))
  (pss_one (ps_ret (pe_join pe_str (pe_lc rfl sc_law_text.nd (pi_range1 (by rfl) m_range (pa_cons (pe_cal (c__law_draw.mono (by omega)) hr (by rfl) (pa_cons (pv 0) (pa_cons pe_int pa_nil))) pa_nil)) (blkOk_by (own := [("k", 2)]) (N := ["box", "signs", "k"]) (sc := defScope s_law_text) (by decide +kernel)) (fun _ _ _ _ _ => (pg_name (i := 2) sc_law_text.nd rfl (Or.inl rfl))) (fun _ _ _ _ _ => pts_nil) (fun _ _ _ _ _ => (pe_ix (ix_listK (K := K) rfl) (pv 1) (pe_cal (c__law_draw.mono (by omega)) hr (by rfl) (pa_cons (pv 0) (pa_cons pe_int pa_nil))) (fun _ _ => rfl)))))))), ?_⟩
    refine ⟨by show 8 ≤ sizeLine; decide, fun S hS => ?_⟩
    refine gset ?_
    have a1 := Rv.Aft.new (o := .lst (toks.map V.str)) b hS
    have nS := (b.new hS).1
    have eS : (upd H S (.lst (toks.map V.str))) S = some (.lst (toks.map V.str)) := upd_same
    refine ⟨⟨_, rfl⟩, .ref bx, rfl, bx, d, 7, rfl, by decide, a1.2, fun H2 r a2 g l => ⟨r, rfl, by omega, by omega, fun D hD => ?_⟩⟩
    have eS2 := a2.lst eS nS
    obtain ⟨n, rfl⟩ : ∃ n : Nat, r = n := ⟨r.toNat, by omega⟩
    rw [Int.toNat_natCast]
    refine lc_it walk_range (fun i H' => ∃ ps : List Str, ps.length = i ∧ Rv.Aft bx d H2 H' ∧ H' D = some (.lst (ps.map V.str)) ∧ ∀ p ∈ ps, p ∈ toks) ⟨[], rfl, Rv.Aft.new a2.2 hD, upd_same, fun p hp => by cases hp⟩ (fun _ _ _ _ => trivial) ?_ ?_
    · rintro i x _ H3 hi ⟨ps, hl, a3, eD, hp⟩ ⟨rfl, hx⟩
      refine ⟨rfl, iteT (B := ∃ ps : List Str, ps.length = i + 1 ∧ Rv.Aft bx d H2 H3 ∧ H3 D = some (.lst (ps.map V.str)) ∧ ∀ p ∈ ps, p ∈ toks) ?_⟩
      refine ⟨_, rfl, .ref bx, rfl, bx, d, 8, rfl, by decide, a3.2, fun H4 r4 a4 g4 l4 => ?_⟩
      have nD := (a2.2.new hD).1
      have a34 := a3.trans a4
      obtain ⟨j, rfl⟩ : ∃ j : Nat, r4 = j := ⟨r4.toNat, by omega⟩
      have hj : j < toks.length := by show j < 8; omega
      refine ⟨S, toks.map V.str, (j : Int), .str toks[j], rfl, rfl, .inl (.inl (a34.lst eS2 nS)), atI_nat (by rw [List.getElem?_map, List.getElem?_eq_getElem hj]; rfl), _, a4.lst eD nD, by rw [List.length_map]; have : sizeLine = 16777216 := rfl; omega, ps ++ [toks[j]], by simp [hl], a34.mut hD a2.2 (a4.lst eD nD) nt_lst, ?_, fun p hp' => ?_⟩
      · rw [upd_same, List.map_append]; rfl
      · rcases List.mem_append.mp hp' with h | h
        · exact hp p h
        · rw [List.mem_singleton.mp h]; exact List.getElem_mem hj
    · rintro H3 ⟨ps, hl, a3, eD, hp⟩
      obtain ⟨c1, c2⟩ := cat_ok hp
      refine ⟨_, D, ps, rfl, rfl, .inl (.inl (.inl eD)), ?_, ?_⟩
      · have := cat_len ps
        have e0 : (Str.ofString "").length = 0 := rfl
        rw [e0]
        omega
      · rw [join_cat]
        exact q H3 _ ((a1.trans a2).trans a3) ⟨c1, by omega⟩
theorem c_law_name (D : DefAt K mg "_law_name" s_law_name ["box"]) (c__law_draw : Cal P w K mg base CX0 1 "_law_draw" ["box", "many"] Rv.spDraw) : Cal P w K mg base CX0 2 "_law_name" ["box"] spNm := by
  refine D.cal (k := 1) sc_law_name (fun vs H Q E h => ?_) fun f cdv A outer s H vs Q E hr h => ?_
  · obtain ⟨bx, d, rfl, _⟩ := h
    rfl
  · obtain ⟨bx, d, rfl, b, q⟩ := h
    refine ⟨_, (pss_one (ps_ret (pe_ix ix_list (pe_lst (pa_cons pe_str (pa_cons pe_str (pa_cons pe_str (pa_cons pe_str (pa_cons pe_str (pa_cons pe_str pa_nil))))))) (pe_cal (c__law_draw.mono (by omega)) hr (by rfl) (pa_cons (pv 0) (pa_cons pe_int pa_nil))) (fun _ _ => rfl)))), ?_⟩
    refine ⟨by show 6 ≤ sizeLine; decide, fun S hS => ?_⟩
    have a1 := Rv.Aft.new (o := .lst (nmsV.map fun l => V.str (sx l))) b hS
    have nS := (b.new hS).1
    have eS : (upd H S (.lst (nmsV.map fun l => V.str (sx l)))) S = some (.lst (nmsV.map fun l => V.str (sx l))) := upd_same
    refine ⟨.ref bx, rfl, bx, d, 6, rfl, by decide, a1.2, fun H2 r a2 g l => ?_⟩
    obtain ⟨j, rfl⟩ : ∃ j : Nat, r = j := ⟨r.toNat, by omega⟩
    have hj : j < nmsV.length := by show j < 6; omega
    refine ⟨S, _, (j : Int), .str (sx nmsV[j]), rfl, rfl, .inl (.inl (a2.lst eS nS)), atI_nat (by rw [List.getElem?_map, List.getElem?_eq_getElem hj]; rfl), q H2 _ (a1.trans a2) (List.all_eq_true.mp nms_ok _ (List.getElem_mem hj))⟩
theorem c_law_number (D : DefAt K mg "_law_number" s_law_number ["box"]) (c__law_draw : Cal P w K mg base CX0 1 "_law_draw" ["box", "many"] Rv.spDraw) : Cal P w K mg base CX0 2 "_law_number" ["box"] spNb := by
  refine D.cal (k := 1) sc_law_number (fun vs H Q E h => ?_) fun f cdv A outer s H vs Q E hr h => ?_
  · obtain ⟨bx, d, rfl, _⟩ := h
    rfl
  · obtain ⟨bx, d, rfl, b, q⟩ := h
    refine ⟨_, (pss_one (ps_ret (pe_ix ix_list (pe_lst (pa_cons pe_int (pa_cons pe_int (pa_cons pe_int (pa_cons pe_int (pa_cons (pe_cal (c__law_draw.mono (by omega)) hr (by rfl) (pa_cons (pv 0) (pa_cons pe_int pa_nil))) pa_nil)))))) (pe_cal (c__law_draw.mono (by omega)) hr (by rfl) (pa_cons (pv 0) (pa_cons pe_int pa_nil))) (fun _ _ => rfl)))), ?_⟩
    refine ⟨.ref bx, rfl, bx, d, 1000, rfl, by decide, b, fun H1 r1 a1 g1 l1 => ⟨by show 5 ≤ sizeLine; decide, fun S hS => ?_⟩⟩
    obtain ⟨n1, rfl⟩ : ∃ j : Nat, r1 = j := ⟨r1.toNat, by omega⟩
    have a2 := Rv.Aft.new (o := .lst [V.int 0, .int 1, .int 7, .int 999999999, .int (n1 : Int)]) a1.2 hS
    have nS := (a1.2.new hS).1
    have eS : (upd H1 S (.lst [V.int 0, .int 1, .int 7, .int 999999999, .int (n1 : Int)])) S = some (.lst [V.int 0, .int 1, .int 7, .int 999999999, .int (n1 : Int)]) := upd_same
    refine ⟨.ref bx, rfl, bx, d, 5, rfl, by decide, a2.2, fun H2 r a3 g l => ?_⟩
    have a13 := (a1.trans a2).trans a3
    have e3 := a3.lst eS nS
    have : r = 0 ∨ r = 1 ∨ r = 2 ∨ r = 3 ∨ r = 4 := by omega
    rcases this with rfl | rfl | rfl | rfl | rfl
    · exact ⟨S, _, 0, _, rfl, rfl, .inl (.inl e3), atI_nat (j := 0) rfl, q H2 0 a13 (by omega)⟩
    · exact ⟨S, _, 1, _, rfl, rfl, .inl (.inl e3), atI_nat (j := 1) rfl, q H2 1 a13 (by omega)⟩
    · exact ⟨S, _, 2, _, rfl, rfl, .inl (.inl e3), atI_nat (j := 2) rfl, q H2 7 a13 (by omega)⟩
    · exact ⟨S, _, 3, _, rfl, rfl, .inl (.inl e3), atI_nat (j := 3) rfl, q H2 999999999 a13 (by omega)⟩
    · exact ⟨S, _, 4, _, rfl, rfl, .inl (.inl e3), atI_nat (j := 4) rfl, q H2 n1 a13 (by omega)⟩
end
end Rw

/-! The law's scalars and values, drawn. -/
namespace Rw
open PySem PySem.Spec PyProof.Rows L2 GxR Gx Gd Rx Rs
def txs : List Str := ["", "hi", "a\"b", "\\"].map Str.ofString ++ [Txt.mul (Str.ofString "x") 40]
theorem txs_ok : txs.all (fun s => decide (s.length ≤ 40) && s.cps.toList.all isChar) = true := by decide +kernel
section
variable {P : Program} {w : World} {K : PySem.W.Frag} {mg : Str → Option Value} {base : Heap}
theorem c_law_scalar_k (D : DefAt K mg "_law_scalar" s_law_scalar ["box"]) (c__law_draw : Cal P w K mg base CX0 1 "_law_draw" ["box", "many"] Rv.spDraw) : Cal P w K mg base CX0 2 "_law_scalar" ["box"] (spSk K) := by
  refine D.cal (k := 1) sc_law_scalar (fun vs H Q E h => ?_) fun f cdv A outer s H vs Q E hr h => ?_
  · obtain ⟨bx, d, rfl, _⟩ := h
    rfl
  · obtain ⟨bx, d, rfl, b, q⟩ := h
    refine ⟨_, (pss_cons (ps_set (i := 1) sc_law_scalar.nd rfl (Or.inl rfl) (pe_cal (c__law_draw.mono (by omega)) hr (by rfl) (pa_cons (pv 0) (pa_cons pe_int pa_nil))))
  (pss_cons (ps_if (pt_cmpR op_lt (pv 1) pe_int (nomark _)) (pss_one (ps_ret (pe_ix ix_list (pe_lst (pa_cons (pe_tup (pa_cons pe_str pa_nil)) (pa_cons (pe_tup (pa_cons pe_str (pa_cons pe_bl pa_nil))) (pa_cons (pe_tup (pa_cons pe_str (pa_cons pe_bl pa_nil))) pa_nil)))) (pe_cal (c__law_draw.mono (by omega)) hr (by rfl) (pa_cons (pv 0) (pa_cons pe_int pa_nil))) (fun _ _ => rfl)))) pss_nil)
  (pss_cons (ps_if (pt_cmpR op_eq (pv 1) pe_int (nomark _)) (pss_one (ps_ret (pe_tup (pa_cons pe_str (pa_cons (pe_op op_mul (pe_cal (c__law_draw.mono (by omega)) hr (by rfl) (pa_cons (pv 0) (pa_cons pe_int pa_nil))) (pe_cal (c__law_draw.mono (by omega)) hr (by rfl) (pa_cons (pv 0) (pa_cons pe_int pa_nil)))) pa_nil))))) pss_nil)
  (pss_one (ps_ret (pe_tup (pa_cons pe_str (pa_cons (pe_ix ix_list (pe_lst (pa_cons pe_str (pa_cons pe_str (pa_cons pe_str (pa_cons pe_str (pa_cons (pe_op op_mul_str pe_str pe_int) pa_nil)))))) (pe_cal (c__law_draw.mono (by omega)) hr (by rfl) (pa_cons (pv 0) (pa_cons pe_int pa_nil))) (fun _ _ => rfl)) pa_nil)))))))), ?_⟩
    refine ⟨.ref bx, rfl, bx, d, 5, rfl, by decide, b, fun H1 kd a1 g1 l1 => ?_⟩
    refine gset ?_
    have two2 : 2 ≤ sizeLine := by decide
    refine ⟨_, rfl, _, _, rfl, rfl, _, rfl, ?_⟩
    by_cases h1 : kd < 2
    · refine iteP h1 ?_
      refine ⟨by show 1 ≤ sizeLine; decide, fun p1 hp1 => ?_⟩
      have k1 := Rv.Aft.new (o := .tup [.str (Str.ofString "none")]) a1.2 hp1
      have s1 : SqT K (upd H1 p1 (.tup [.str (Str.ofString "none")])) p1 [.str (Str.ofString "none")] := SqT.of upd_same
      generalize upd H1 p1 (.tup [.str (Str.ofString "none")]) = G1 at k1 s1 ⊢
      refine ⟨two2, fun p2 hp2 => ?_⟩
      have k2 := Rv.Aft.new (o := .tup [.str (Str.ofString "bool"), .bl true]) k1.2 hp2
      have s2 : SqT K (upd G1 p2 (.tup [.str (Str.ofString "bool"), .bl true])) p2 [.str (Str.ofString "bool"), .bl true] := SqT.of upd_same
      generalize upd G1 p2 (.tup [.str (Str.ofString "bool"), .bl true]) = G2 at k2 s2 ⊢
      refine ⟨two2, fun p3 hp3 => ?_⟩
      have k3 := Rv.Aft.new (o := .tup [.str (Str.ofString "bool"), .bl false]) k2.2 hp3
      have s3 : SqT K (upd G2 p3 (.tup [.str (Str.ofString "bool"), .bl false])) p3 [.str (Str.ofString "bool"), .bl false] := SqT.of upd_same
      generalize upd G2 p3 (.tup [.str (Str.ofString "bool"), .bl false]) = G3 at k3 s3 ⊢
      refine ⟨by show 3 ≤ sizeLine; decide, fun S hS => ?_⟩
      have k4 := Rv.Aft.new (o := .lst [.ref p1, .ref p2, .ref p3]) k3.2 hS
      have nS := (k3.2.new hS).1
      have eS : (upd G3 S (.lst [.ref p1, .ref p2, .ref p3])) S = some (.lst [.ref p1, .ref p2, .ref p3]) := upd_same
      generalize upd G3 S (.lst [.ref p1, .ref p2, .ref p3]) = G4 at k4 eS ⊢
      refine ⟨.ref bx, rfl, bx, d, 3, rfl, by decide, k4.2, fun G5 r k5 g5 l5 => ?_⟩
      have e5 := k5.lst eS nS
      have kk := (((a1.trans k1).trans k2).trans k3).trans (k4.trans k5)
      have : r = 0 ∨ r = 1 ∨ r = 2 := by omega
      rcases this with rfl | rfl | rfl
      · exact ⟨S, _, 0, _, rfl, rfl, .inl (.inl e5), atI_nat (j := 0) rfl, q G5 _ .none kk (.tup (((k2.trans k3).trans (k4.trans k5)).1.sqT k1.2.lsts s1) (.cons (.str _) .nil)) trivial⟩
      · exact ⟨S, _, 1, _, rfl, rfl, .inl (.inl e5), atI_nat (j := 1) rfl, q G5 _ (.bool true) kk (.tup ((k3.trans (k4.trans k5)).1.sqT k2.2.lsts s2) (.cons (.str _) (.cons (.bl _) .nil))) trivial⟩
      · exact ⟨S, _, 2, _, rfl, rfl, .inl (.inl e5), atI_nat (j := 2) rfl, q G5 _ (.bool false) kk (.tup ((k4.trans k5).1.sqT k3.2.lsts s3) (.cons (.str _) (.cons (.bl _) .nil))) trivial⟩
    · refine iteN h1 ⟨_, rfl, rfl, _, rfl, ?_⟩
      by_cases h2 : kd = 2
      · subst h2
        refine iteP rfl ?_
        refine ⟨.ref bx, rfl, bx, d, 1000, rfl, by decide, a1.2, fun H2 r2 a2 g2 l2 => ⟨.ref bx, rfl, bx, d, 1000, rfl, by decide, a2.2, fun H3 r3 a3 g3 l3 => ⟨_, _, rfl, rfl, .inl ⟨by omega, by omega⟩, two2, fun p hp => ?_⟩⟩⟩
        have k4 := Rv.Aft.new (o := .tup [.str (Str.ofString "int"), .int (r2 * r3)]) a3.2 hp
        exact q _ _ (.int (r2 * r3)) (((a1.trans a2).trans a3).trans k4) (.tup (SqT.of upd_same) (.cons (.str _) (.cons (.int _) .nil))) (Rv.mul_small g2 l2 g3 l3)
      · refine iteN (fun z => h2 (V.int.inj z)) ?_
        refine ⟨_, _, rfl, rfl, ⟨by decide +kernel, fun _ _ => by decide +kernel, fun _ _ => by decide +kernel⟩, by show 5 ≤ sizeLine; decide, fun S hS => ?_⟩
        have k2 := Rv.Aft.new (o := .lst (txs.map V.str)) a1.2 hS
        have nS := (a1.2.new hS).1
        have eS : (upd H1 S (.lst (txs.map V.str))) S = some (.lst (txs.map V.str)) := upd_same
        refine ⟨.ref bx, rfl, bx, d, 5, rfl, by decide, k2.2, fun H3 r a3 g3 l3 => ?_⟩
        obtain ⟨j, rfl⟩ : ∃ j : Nat, r = j := ⟨r.toNat, by omega⟩
        have hj : j < txs.length := by show j < 5; omega
        have ok := List.all_eq_true.mp txs_ok _ (List.getElem_mem hj)
        rw [Bool.and_eq_true, decide_eq_true_eq] at ok
        refine ⟨S, txs.map V.str, (j : Int), .str txs[j], rfl, rfl, .inl (.inl (a3.lst eS nS)), atI_nat (by rw [List.getElem?_map, List.getElem?_eq_getElem hj]; rfl), two2, fun p hp => ?_⟩
        have k4 := Rv.Aft.new (o := .tup [.str (Str.ofString "text"), .str txs[j]]) a3.2 hp
        exact q _ _ (.text txs[j]) (((a1.trans k2).trans a3).trans k4) (.tup (SqT.of upd_same) (.cons (.str _) (.cons (.str _) .nil))) ok
theorem c_law_value_k (D : DefAt K mg "_law_value" s_law_value ["box"]) (m_range : mg "range" = none) (m_str : mg "str" = none) (m_tuple : mg "tuple" = none) (c__law_draw : Cal P w K mg base CX0 1 "_law_draw" ["box", "many"] Rv.spDraw)
    (c__law_scalar : Cal P w K mg base CX0 2 "_law_scalar" ["box"] (spSk K)) : Cal P w K mg base CX0 3 "_law_value" ["box"] (spVk K) := by
  refine D.cal (k := 2) sc_law_value (fun vs H Q E h => ?_) fun f cdv A outer s H vs Q E hr h => ?_
  · obtain ⟨bx, d, rfl, _⟩ := h
    rfl
  · obtain ⟨bx, d, rfl, b, q⟩ := h
    refine ⟨_, (pss_cons (ps_if (pt_cmpR op_eq (pe_cal (c__law_draw.mono (by omega)) hr (by rfl) (pa_cons (pv 0) (pa_cons pe_int pa_nil))) pe_int (nomark _)) (pss_one (ps_ret (pe_cal (c__law_scalar.mono (by omega)) hr (by rfl) (pa_cons (pv 0) pa_nil)))) pss_nil)
  (pss_one (ps_ret (pe_tup (pa_cons pe_str (pa_cons (pe_callTy call_tuple_of (by rfl) m_tuple (by decide +kernel) (pa_cons (pe_lc rfl sc_law_value.nd (pi_range1 (by rfl) m_range (pa_cons (pe_cal (c__law_draw.mono (by omega)) hr (by rfl) (pa_cons (pv 0) (pa_cons pe_int pa_nil))) pa_nil)) (blkOk_by (own := [("k", 1)]) (N := ["box", "k"]) (sc := defScope s_law_value) (by decide +kernel)) (fun _ _ _ _ _ => (pg_name (i := 1) sc_law_value.nd rfl (Or.inl rfl))) (fun _ _ _ _ _ => pts_nil) (fun _ _ _ _ _ => (pe_tup (pa_cons (pe_op op_add_str pe_str (pe_callTy call_str_int (by rfl) m_str (by decide +kernel) (pa_cons (pv 1) pa_nil))) (pa_cons (pe_cal (c__law_scalar.mono (by omega)) hr (by rfl) (pa_cons (pv 0) pa_nil)) pa_nil))))) pa_nil)) pa_nil)))))), ?_⟩
    have sz : sizeLine = 16777216 := rfl
    refine ⟨.ref bx, rfl, bx, d, 2, rfl, by decide, b, fun H1 r1 a1 g1 l1 => ⟨rfl, _, rfl, ?_⟩⟩
    by_cases h1 : r1 = 0
    · subst h1
      exact iteP rfl ⟨.ref bx, rfl, bx, d, rfl, a1.2, fun H2 v s a2 dv g => q H2 v (.s s) (a1.trans a2) dv g⟩
    · refine iteN (fun z => h1 (V.int.inj z)) ?_
      refine ⟨.ref bx, rfl, bx, d, 4, rfl, by decide, a1.2, fun H2 r2 a2 g2 l2 => ⟨r2, rfl, by omega, by omega, fun G hG => ?_⟩⟩
      obtain ⟨n, rfl⟩ : ∃ n : Nat, r2 = n := ⟨r2.toNat, by omega⟩
      rw [Int.toNat_natCast]
      have nG := (a2.2.new hG).1
      refine lc_it walk_range (fun i H' => ∃ (ps : List (Str × Rv.Sc)) (acc : List V), ps.length = i ∧ Rv.Aft bx d H2 H' ∧ H' G = some (.lst acc) ∧ DtAll K H' acc (ps.map Rv.ent) ∧ ps.map (·.1) = (List.range i).map (fun j : Nat => (Str.ofString "k") ++ (Str.ofString (toString (0 + (j : Int))))) ∧ ∀ p ∈ ps, Rv.keyOk p.1 ∧ p.2.good)
        ⟨[], [], rfl, Rv.Aft.new a2.2 hG, upd_same, .nil, rfl, fun p hp => by cases hp⟩ (fun _ _ _ _ => trivial) ?_ ?_
      · rintro i x _ H3 hi ⟨ps, acc, hl, a3, eG, da, hk, hp⟩ ⟨rfl, hx⟩
        obtain rfl : x = .int (0 + (i : Int)) := hx
        have key := Rv.keyK i (by omega)
        refine ⟨rfl, iteT (B := ∃ (ps : List (Str × Rv.Sc)) (acc : List V), ps.length = i + 1 ∧ Rv.Aft bx d H2 H3 ∧ H3 G = some (.lst acc) ∧ DtAll K H3 acc (ps.map Rv.ent) ∧ ps.map (·.1) = (List.range (i + 1)).map (fun j : Nat => (Str.ofString "k") ++ (Str.ofString (toString (0 + (j : Int))))) ∧ ∀ p ∈ ps, Rv.keyOk p.1 ∧ p.2.good) ?_⟩
        refine ⟨_, rfl, _, rfl, Rv.log_of ⟨by omega, by omega⟩, _, _, rfl, rfl, key.2, .ref bx, rfl, bx, d, rfl, a3.2, fun H4 v s a4 dv g => ⟨by show 2 ≤ sizeLine; decide, fun p hp0 => ?_⟩⟩
        have k5 := Rv.Aft.new (o := .tup [.str ((Str.ofString "k") ++ (Str.ofString (toString (0 + (i : Int))))), v]) a4.2 hp0
        have s5 : Dt K (upd H4 p (.tup [.str ((Str.ofString "k") ++ (Str.ofString (toString (0 + (i : Int))))), v])) (.ref p) (Rv.ent (((Str.ofString "k") ++ (Str.ofString (toString (0 + (i : Int))))), s)) := .tup (SqT.of upd_same) (.cons (.str _) (.cons (k5.dt a4.2 dv) .nil))
        have a45 := a4.trans k5
        have eG5 := a45.lst eG nG
        have da5 := DtAll.kb a45.1 a3.2.lsts da
        have la : acc.length = ps.length := by rw [da.length, List.length_map]
        refine ⟨acc, eG5, by omega, ps ++ [(((Str.ofString "k") ++ (Str.ofString (toString (0 + (i : Int))))), s)], acc ++ [.ref p], by simp [hl], (a3.trans a45).mut hG a2.2 eG5 nt_lst, upd_same, ?_, ?_, fun p' hp' => ?_⟩
        · rw [List.map_append]
          exact dts_lst eG5 (Gd.DtAll.snoc da5 s5)
        · rw [List.map_append, hk, List.range_succ, List.map_append]
          rfl
        · rcases List.mem_append.mp hp' with h | h
          · exact hp p' h
          · rw [List.mem_singleton.mp h]; exact ⟨key.1, g⟩
      · rintro H3 ⟨ps, acc, hl, a3, eG, da, hk, hp⟩
        have nd : ∀ n, n ≤ 4 → ((List.range n).map (fun j : Nat => (Str.ofString "k") ++ (Str.ofString (toString (0 + (j : Int)))))).Nodup := by
          intro n hn
          have : n = 0 ∨ n = 1 ∨ n = 2 ∨ n = 3 ∨ n = 4 := by omega
          rcases this with rfl | rfl | rfl | rfl | rfl <;> decide +kernel
        have ents : Rv.Ents ps := ⟨by omega, by rw [hk]; exact nd n (by omega), hp⟩
        refine ⟨G, acc, rfl, .inl ⟨.inl (.inl eG), fun p1 h1 => ⟨by show 2 ≤ sizeLine; decide, fun p2 h2 => ?_⟩⟩⟩
        have k1 := Rv.Aft.new (o := .tup acc) a3.2 h1
        have k2 := Rv.Aft.new (o := .tup [.str (Str.ofString "map"), .ref p1]) k1.2 h2
        refine q _ _ (.m ps) ((a1.trans a2).trans ((a3.trans k1).trans k2)) ?_ ents
        exact .tup (SqT.of upd_same) (.cons (.str _) (.cons (.tup (k2.1.sqT k1.2.lsts (SqT.of upd_same)) (DtAll.kb (k1.trans k2).1 a3.2.lsts da)) .nil))
end
end Rw

/-! The law's entries, drawn; their lines. -/
namespace Rw
open PySem PySem.Spec PyProof.Rows L2 GxR Gx Gd Rx Rs
abbrev s_law_literal : Stmt := topS 105
theorem sc_law_literal : FnScope ["value", "key", "scalar"] ["value"] (defScope s_law_literal) := ⟨rfl, rfl, rfl, by decide +kernel, rfl, by decide +kernel, by decide +kernel⟩
abbrev s_law_line : Stmt := topS 106
theorem sc_law_line : FnScope ["entry", "kind", "part"] ["entry"] (defScope s_law_line) := ⟨rfl, rfl, rfl, by decide +kernel, rfl, by decide +kernel, by decide +kernel⟩
theorem en_mk {w : String} {pvs : List Pv} (h : (w, pvs.map Pv.part) ∈ formL) (ok : ∀ p ∈ pvs, p.ok) : EnOk w pvs := ⟨h, ok⟩
theorem outs_at {j : Nat} (h : j < outs.length) : outs[j] ∈ outs := List.getElem_mem h
section
variable {P : Program} {w : World} {K : PySem.W.Frag} {mg : Str → Option Value} {base : Heap}
theorem c_law_entry (D : DefAt K mg "_law_entry" s_law_entry ["box"]) (c__law_draw : Cal P w K mg base CX0 1 "_law_draw" ["box", "many"] Rv.spDraw) (c__law_name : Cal P w K mg base CX0 2 "_law_name" ["box"] spNm) (c__law_text : Cal P w K mg base CX0 2 "_law_text" ["box"] spTx)
    (c__law_number : Cal P w K mg base CX0 2 "_law_number" ["box"] spNb) (c__law_scalar : Cal P w K mg base CX0 2 "_law_scalar" ["box"] (spSk K)) (c__law_value : Cal P w K mg base CX0 3 "_law_value" ["box"] (spVk K)) : Cal P w K mg base CX0 4 "_law_entry" ["box"] (spEk K) := by
  refine D.cal (k := 3) sc_law_entry (fun vs H Q E h => ?_) fun f cdv A outer s H vs Q E hr h => ?_
  · obtain ⟨bx, d, rfl, _⟩ := h
    rfl
  · obtain ⟨bx, d, rfl, b, q⟩ := h
    refine ⟨_, (pss_cons (ps_set (i := 1) sc_law_entry.nd rfl (Or.inl rfl) (pe_cal (c__law_draw.mono (by omega)) hr (by rfl) (pa_cons (pv 0) (pa_cons pe_int pa_nil))))
  (pss_cons (ps_if (pt_cmpR op_eq (pv 1) pe_int (nomark _)) (pss_one (ps_ret (pe_tup (pa_cons pe_str (pa_cons (pe_cal (c__law_name.mono (by omega)) hr (by rfl) (pa_cons (pv 0) pa_nil)) (pa_cons (pe_cal (c__law_text.mono (by omega)) hr (by rfl) (pa_cons (pv 0) pa_nil)) pa_nil)))))) pss_nil)
  (pss_cons (ps_if (pt_cmpR op_eq (pv 1) pe_int (nomark _)) (pss_one (ps_ret (pe_tup (pa_cons pe_str pa_nil)))) pss_nil)
  (pss_cons (ps_if (pt_cmpR op_eq (pv 1) pe_int (nomark _)) (pss_one (ps_ret (pe_tup (pa_cons pe_str (pa_cons (pe_cal (c__law_number.mono (by omega)) hr (by rfl) (pa_cons (pv 0) pa_nil)) pa_nil))))) pss_nil)
  (pss_cons (ps_if (pt_cmpR op_eq (pv 1) pe_int (nomark _)) (pss_one (ps_ret (pe_tup (pa_cons pe_str (pa_cons (pe_cal (c__law_number.mono (by omega)) hr (by rfl) (pa_cons (pv 0) pa_nil)) (pa_cons (pe_cal (c__law_number.mono (by omega)) hr (by rfl) (pa_cons (pv 0) pa_nil)) (pa_cons (pe_cal (c__law_number.mono (by omega)) hr (by rfl) (pa_cons (pv 0) pa_nil)) (pa_cons (pe_cal (c__law_name.mono (by omega)) hr (by rfl) (pa_cons (pv 0) pa_nil)) (pa_cons (pe_cal (c__law_scalar.mono (by omega)) hr (by rfl) (pa_cons (pv 0) pa_nil)) pa_nil))))))))) pss_nil)
  (pss_cons (ps_if (pt_cmpR op_eq (pv 1) pe_int (nomark _)) (pss_cons (ps_set (i := 2) sc_law_entry.nd rfl (Or.inl rfl) (pe_lst (pa_cons pe_str (pa_cons pe_str (pa_cons pe_str (pa_cons pe_str (pa_cons pe_str (pa_cons pe_str pa_nil))))))))
  (pss_one (ps_ret (pe_tup (pa_cons pe_str (pa_cons (pe_cal (c__law_number.mono (by omega)) hr (by rfl) (pa_cons (pv 0) pa_nil)) (pa_cons (pe_cal (c__law_number.mono (by omega)) hr (by rfl) (pa_cons (pv 0) pa_nil)) (pa_cons (pe_ix ix_list (pv 2) (pe_cal (c__law_draw.mono (by omega)) hr (by rfl) (pa_cons (pv 0) (pa_cons pe_int pa_nil))) (fun _ _ => rfl)) pa_nil)))))))) pss_nil)
  (pss_cons (ps_if (pt_cmpR op_eq (pv 1) pe_int (nomark _)) (pss_one (ps_ret (pe_tup (pa_cons pe_str (pa_cons (pe_cal (c__law_text.mono (by omega)) hr (by rfl) (pa_cons (pv 0) pa_nil)) (pa_cons (pe_cal (c__law_value.mono (by omega)) hr (by rfl) (pa_cons (pv 0) pa_nil)) pa_nil)))))) pss_nil)
  (pss_one (ps_ret (pe_tup (pa_cons pe_str (pa_cons (pe_cal (c__law_text.mono (by omega)) hr (by rfl) (pa_cons (pv 0) pa_nil)) pa_nil)))))))))))), ?_⟩
    refine ⟨.ref bx, rfl, bx, d, 7, rfl, by decide, b, fun H1 kd a1 g1 l1 => ?_⟩
    refine gset ?_
    have sz : sizeLine = 16777216 := rfl
    have : kd = 0 ∨ kd = 1 ∨ kd = 2 ∨ kd = 3 ∨ kd = 4 ∨ kd = 5 ∨ kd = 6 := by omega
    rcases this with rfl | rfl | rfl | rfl | rfl | rfl | rfl
    · refine ⟨_, rfl, rfl, _, rfl, iteP rfl ?_⟩
      refine ⟨.ref bx, rfl, bx, d, rfl, a1.2, fun H2 l a2 hn => ⟨.ref bx, rfl, bx, d, rfl, a2.2, fun H3 t a3 ht => ⟨by show 3 ≤ sizeLine; decide, fun p hp => ?_⟩⟩⟩
      refine q _ _ "start" [.name l, .quo t] (((a1.trans a2).trans a3).trans (Rv.Aft.new a3.2 hp)) (.tup (SqT.of upd_same) (.cons (.str _) (.cons (.str _) (.cons (.str _) .nil)))) (en_mk (by simp [formL, Pv.part]) fun p hp => ?_)
      rcases List.mem_cons.mp hp with rfl | hp
      · exact hn
      · rw [List.mem_singleton.mp hp]; exact ht
    · refine ⟨_, rfl, rfl, _, rfl, iteN (by decide) ⟨_, rfl, rfl, _, rfl, iteP rfl ⟨by show 1 ≤ sizeLine; decide, fun p hp => ?_⟩⟩⟩
      exact q _ _ "connect" [] (a1.trans (Rv.Aft.new a1.2 hp)) (.tup (SqT.of upd_same) (.cons (.str _) .nil)) (en_mk (by simp [formL]) fun p hp => by cases hp)
    · refine ⟨_, rfl, rfl, _, rfl, iteN (by decide) ⟨_, rfl, rfl, _, rfl, iteN (by decide) ⟨_, rfl, rfl, _, rfl, iteP rfl ?_⟩⟩⟩
      refine ⟨.ref bx, rfl, bx, d, rfl, a1.2, fun H2 n a2 hn => ⟨by show 2 ≤ sizeLine; decide, fun p hp => ?_⟩⟩
      refine q _ _ "disconnect" [.num n] ((a1.trans a2).trans (Rv.Aft.new a2.2 hp)) (.tup (SqT.of upd_same) (.cons (.str _) (.cons (.int _) .nil))) (en_mk (by simp [formL, Pv.part]) fun p hp => ?_)
      rw [List.mem_singleton.mp hp]; exact hn
    · refine ⟨_, rfl, rfl, _, rfl, iteN (by decide) ⟨_, rfl, rfl, _, rfl, iteN (by decide) ⟨_, rfl, rfl, _, rfl, iteN (by decide) ⟨_, rfl, rfl, _, rfl, iteP rfl ?_⟩⟩⟩⟩
      refine ⟨.ref bx, rfl, bx, d, rfl, a1.2, fun H2 n1 a2 h2 => ⟨.ref bx, rfl, bx, d, rfl, a2.2, fun H3 n2 a3 h3 => ⟨.ref bx, rfl, bx, d, rfl, a3.2, fun H4 n3 a4 h4 => ⟨.ref bx, rfl, bx, d, rfl, a4.2, fun H5 l a5 h5 => ⟨.ref bx, rfl, bx, d, rfl, a5.2, fun H6 v s a6 dv g => ⟨by show 6 ≤ sizeLine; decide, fun p hp => ?_⟩⟩⟩⟩⟩⟩
      have k7 := Rv.Aft.new (o := .tup [.str (Str.ofString "event"), .int (n1 : Int), .int (n2 : Int), .int (n3 : Int), .str (sx l), v]) a6.2 hp
      refine q _ _ "event" [.num n1, .num n2, .num n3, .name l, .sc s] (((a1.trans a2).trans (a3.trans a4)).trans ((a5.trans a6).trans k7)) (.tup (SqT.of upd_same) (.cons (.str _) (.cons (.int _) (.cons (.int _) (.cons (.int _) (.cons (.str _) (.cons (k7.dt a6.2 dv) .nil))))))) (en_mk (by simp [formL, Pv.part]) fun p hp => ?_)
      simp only [List.mem_cons, List.not_mem_nil, or_false] at hp
      rcases hp with rfl | rfl | rfl | rfl | rfl
      · exact h2
      · exact h3
      · exact h4
      · exact h5
      · exact g
    · refine ⟨_, rfl, rfl, _, rfl, iteN (by decide) ⟨_, rfl, rfl, _, rfl, iteN (by decide) ⟨_, rfl, rfl, _, rfl, iteN (by decide) ⟨_, rfl, rfl, _, rfl, iteN (by decide) ⟨_, rfl, rfl, _, rfl, iteP rfl ?_⟩⟩⟩⟩⟩
      refine ⟨by show 6 ≤ sizeLine; decide, fun S hS => ?_⟩
      have kS := Rv.Aft.new (o := .lst (outs.map fun l => V.str (sx l))) a1.2 hS
      have nS := (a1.2.new hS).1
      have eS : (upd H1 S (.lst (outs.map fun l => V.str (sx l)))) S = some (.lst (outs.map fun l => V.str (sx l))) := upd_same
      refine gset ?_
      refine ⟨.ref bx, rfl, bx, d, rfl, kS.2, fun H2 n1 a2 h2 => ⟨.ref bx, rfl, bx, d, rfl, a2.2, fun H3 n2 a3 h3 => ⟨_, rfl, .ref bx, rfl, bx, d, 6, rfl, by decide, a3.2, fun H4 r a4 g4 l4 => ?_⟩⟩⟩
      obtain ⟨j, rfl⟩ : ∃ j : Nat, r = j := ⟨r.toNat, by omega⟩
      have hj : j < outs.length := by show j < 6; omega
      refine ⟨S, outs.map (fun l => V.str (sx l)), (j : Int), .str (sx outs[j]), rfl, rfl, .inl (.inl (a4.lst (a3.lst (a2.lst eS nS) nS) nS)), atI_nat (by rw [List.getElem?_map, List.getElem?_eq_getElem hj]; rfl), by show 4 ≤ sizeLine; decide, fun p hp => ?_⟩
      refine q _ _ "discard" [.num n1, .num n2, .out outs[j]] (((a1.trans kS).trans (a2.trans a3)).trans (a4.trans (Rv.Aft.new a4.2 hp))) (.tup (SqT.of upd_same) (.cons (.str _) (.cons (.int _) (.cons (.int _) (.cons (.str _) .nil))))) (en_mk (by simp [formL, Pv.part]) fun p hp => ?_)
      simp only [List.mem_cons, List.not_mem_nil, or_false] at hp
      rcases hp with rfl | rfl | rfl
      · exact h2
      · exact h3
      · exact outs_at hj
    · refine ⟨_, rfl, rfl, _, rfl, iteN (by decide) ⟨_, rfl, rfl, _, rfl, iteN (by decide) ⟨_, rfl, rfl, _, rfl, iteN (by decide) ⟨_, rfl, rfl, _, rfl, iteN (by decide) ⟨_, rfl, rfl, _, rfl, iteN (by decide) ⟨_, rfl, rfl, _, rfl, iteP rfl ?_⟩⟩⟩⟩⟩⟩
      refine ⟨.ref bx, rfl, bx, d, rfl, a1.2, fun H2 t a2 ht => ⟨.ref bx, rfl, bx, d, rfl, a2.2, fun H3 v va a3 dv g => ⟨by show 3 ≤ sizeLine; decide, fun p hp => ?_⟩⟩⟩
      have k4 := Rv.Aft.new (o := .tup [.str (Str.ofString "resolve"), .str (sx t), v]) a3.2 hp
      refine q _ _ "resolve" [.quo t, .val va] (((a1.trans a2).trans a3).trans k4) (.tup (SqT.of upd_same) (.cons (.str _) (.cons (.str _) (.cons (k4.dt a3.2 dv) .nil)))) (en_mk (by simp [formL, Pv.part]) fun p hp => ?_)
      rcases List.mem_cons.mp hp with rfl | hp
      · exact ht
      · rw [List.mem_singleton.mp hp]; exact g
    · refine ⟨_, rfl, rfl, _, rfl, iteN (by decide) ⟨_, rfl, rfl, _, rfl, iteN (by decide) ⟨_, rfl, rfl, _, rfl, iteN (by decide) ⟨_, rfl, rfl, _, rfl, iteN (by decide) ⟨_, rfl, rfl, _, rfl, iteN (by decide) ⟨_, rfl, rfl, _, rfl, iteN (by decide) ?_⟩⟩⟩⟩⟩⟩
      refine ⟨.ref bx, rfl, bx, d, rfl, a1.2, fun H2 t a2 ht => ⟨by show 2 ≤ sizeLine; decide, fun p hp => ?_⟩⟩
      refine q _ _ "replace" [.quo t] ((a1.trans a2).trans (Rv.Aft.new a2.2 hp)) (.tup (SqT.of upd_same) (.cons (.str _) (.cons (.str _) .nil))) (en_mk (by simp [formL, Pv.part]) fun p hp => ?_)
      rw [List.mem_singleton.mp hp]; exact ht
end
end Rw

/-! The law's literals. -/
namespace Rw
open PySem PySem.Spec PyProof.Rows L2 GxR Gx Gd Rx Rs
def spLk (K : PySem.W.Frag) (ok : Va → Prop) : Sp := fun vs H Q _ => ∃ (v : V) (va : Va), vs = [v] ∧ ok va ∧ Dt K H v va.d ∧ va.good ∧ ∀ H', Kp H H' → Q (.str (sx (vaT va))) H'
section
variable {P : Program} {w : World} {K : PySem.W.Frag} {mg : Str → Option Value} {base : Heap}
theorem c_law_literal_k {k : Nat} {sp : Sp} {okv : Va → Prop} (hk : 1 ≤ k) (D : DefAt K mg "_law_literal" s_law_literal ["value"]) (m_int : mg "int" = none) (m_str : mg "str" = none) (c__law_quoted : Cal P w K mg base CX0 1 "_law_quoted" ["text"] spQuote) (c__law_literal : Cal P w K mg base CX0 k "_law_literal" ["value"] sp)
    (hm : ∀ ps, okv (.m ps) → ∀ (v : V) (s : Rv.Sc) (H : Hp) (Q : VK) (E : XK), (Dt K H v s.d ∧ s.good ∧ ∀ H', Kp H H' → Q (.str (sx (scT s))) H') → sp [v] H Q E) : Cal P w K mg base CX0 (k + 1) "_law_literal" ["value"] (spLk K okv) := by
  refine D.cal (k := k) sc_law_literal (fun vs H Q E h => ?_) fun f cdv A outer s H vs Q E hr h => ?_
  · obtain ⟨v, va, rfl, _⟩ := h
    rfl
  · obtain ⟨v, va, rfl, hok, hv, g, q⟩ := h
    refine ⟨_, (pss_cons (ps_if (pt_cmpR op_eq (pe_ix ix_tup (pv 0) pe_int (fun _ _ => rfl)) pe_str (nomark _)) (pss_one (ps_ret pe_str)) pss_nil)
  (pss_cons (ps_if (pt_cmpR op_eq (pe_ix ix_tup (pv 0) pe_int (fun _ _ => rfl)) pe_str (nomark _)) (pss_one (ps_ret (pe_ix ix_list (pe_lst (pa_cons pe_str (pa_cons pe_str pa_nil))) (pe_callTy call_int1 (by rfl) m_int (by decide +kernel) (pa_cons (pe_ix ix_tup (pv 0) pe_int (fun _ _ => rfl)) pa_nil)) (fun _ _ => rfl)))) pss_nil)
  (pss_cons (ps_if (pt_cmpR op_eq (pe_ix ix_tup (pv 0) pe_int (fun _ _ => rfl)) pe_str (nomark _)) (pss_one (ps_ret (pe_callTy call_str_int (by rfl) m_str (by decide +kernel) (pa_cons (pe_ix ix_tup (pv 0) pe_int (fun _ _ => rfl)) pa_nil)))) pss_nil)
  (pss_cons (ps_if (pt_cmpR op_eq (pe_ix ix_tup (pv 0) pe_int (fun _ _ => rfl)) pe_str (nomark _)) (pss_one (ps_ret (pe_cal (c__law_quoted.mono (by omega)) hr (by rfl) (pa_cons (pe_ix ix_tup (pv 0) pe_int (fun _ _ => rfl)) pa_nil)))) pss_nil)
  (pss_one (ps_ret (pe_op op_add_str (pe_op op_add_str pe_str (pe_join pe_str (pe_lc rfl sc_law_literal.nd (pi_tup (pe_ix ix_tup (pv 0) pe_int (fun _ _ => rfl))) (blkOk_by (own := [("key", 1), ("scalar", 2)]) (N := ["value", "key", "scalar"]) (sc := defScope s_law_literal) (by decide +kernel)) (fun _ _ _ _ _ => (by exact (show PG _ _ (gTup K 2 (gCons (gName 1) (gCons (gName 2) gNil))) from pg_tup rfl (pgs_cons (pg_name (i := 1) sc_law_literal.nd rfl (Or.inl rfl) (.inr rfl)) (pgs_cons (pg_name (i := 2) sc_law_literal.nd rfl (Or.inl rfl) (.inr rfl)) pgs_nil))))) (fun _ _ _ _ _ => pts_nil) (fun _ _ _ _ _ => (pe_op op_add_str (pe_op op_add_str (pe_cal (c__law_quoted.mono (by omega)) hr (by rfl) (pa_cons (pv 1) pa_nil)) pe_str) (pe_cal (c__law_literal.mono (by omega)) hr (by rfl) (pa_cons (pv 2) pa_nil))))))) pe_str))))))), ?_⟩
    have sz : sizeLine = 16777216 := rfl
    have sxo : ∀ x : String, sx (cs x) = Str.ofString x := fun x => sx_of _
    cases va with
    | s sc =>
      have hv : Dt K H v sc.d := hv
      have q : ∀ H', Kp H H' → Q (.str (sx (scT sc))) H' := q
      have g : sc.good := g
      cases sc with
      | none =>
        cases hv with
        | @tup p _ _ hp hs =>
          cases hs with
          | cons ha hs =>
            cases hs
            cases ha
            refine ⟨_, rfl, p, _, 0, _, rfl, rfl, hp, atI_nat (j := 0) rfl, rfl, _, rfl, iteP rfl ?_⟩
            have := q H (Kb.refl H)
            rw [show scT .none = cs "none" from rfl, sxo] at this
            exact this
      | bool b =>
        obtain ⟨p, a, b', rfl, hp, ha, hb⟩ := dt_pair hv
        cases ha
        cases hb
        refine ⟨_, rfl, p, _, 0, _, rfl, rfl, hp, atI_nat (j := 0) rfl, rfl, _, rfl, iteN (by decide +kernel) ⟨_, rfl, p, _, 0, _, rfl, rfl, hp, atI_nat (j := 0) rfl, rfl, _, rfl, iteP rfl ⟨by show 2 ≤ sizeLine; decide, fun p2 hp2 => ?_⟩⟩⟩
        have k1 : Kp H (upd H p2 (.lst [.str (Str.ofString "false"), .str (Str.ofString "true")])) := Kb.new hp2
        have q := q _ k1
        refine ⟨_, rfl, p, _, 1, _, rfl, rfl, k1.sqT Lsts.nil hp, atI_nat (j := 1) rfl, .inr ⟨b, rfl, ?_⟩⟩
        cases b with
        | true =>
          rw [show scT (.bool true) = cs "true" from rfl, sxo] at q
          exact ⟨p2, _, 1, _, rfl, rfl, .inl (.inl upd_same), atI_nat (j := 1) rfl, q⟩
        | false =>
          rw [show scT (.bool false) = cs "false" from rfl, sxo] at q
          exact ⟨p2, _, 0, _, rfl, rfl, .inl (.inl upd_same), atI_nat (j := 0) rfl, q⟩
      | int i =>
        obtain ⟨p, a, b', rfl, hp, ha, hb⟩ := dt_pair hv
        cases ha
        cases hb
        have g : 0 ≤ i ∧ i ≤ 999999 := g
        have q := q H (Kb.refl H)
        rw [show sx (scT (.int i)) = Str.ofString (toString i) by
          show sx (Str.ofString (toString ((i.toNat : Nat) : Int))).cps.toList = _
          rw [sx_of, show ((i.toNat : Nat) : Int) = i by omega]] at q
        exact ⟨_, rfl, p, _, 0, _, rfl, rfl, hp, atI_nat (j := 0) rfl, rfl, _, rfl, iteN (by decide +kernel) ⟨_, rfl, p, _, 0, _, rfl, rfl, hp, atI_nat (j := 0) rfl, rfl, _, rfl, iteN (by decide +kernel) ⟨_, rfl, p, _, 0, _, rfl, rfl, hp, atI_nat (j := 0) rfl, rfl, _, rfl, iteP rfl ⟨_, rfl, p, _, 1, _, rfl, rfl, hp, atI_nat (j := 1) rfl, i, rfl, Rv.log_of g, q⟩⟩⟩⟩
      | text x =>
        obtain ⟨p, a, b', rfl, hp, ha, hb⟩ := dt_pair hv
        cases ha
        cases hb
        have g : Rv.textOk x := g
        have hl : x.cps.toList.length ≤ 1000 := by
          have := g.1
          rw [Array.length_toList]
          exact Nat.le_trans this (by decide)
        refine ⟨_, rfl, p, _, 0, _, rfl, rfl, hp, atI_nat (j := 0) rfl, rfl, _, rfl, iteN (by decide +kernel) ⟨_, rfl, p, _, 0, _, rfl, rfl, hp, atI_nat (j := 0) rfl, rfl, _, rfl, iteN (by decide +kernel) ⟨_, rfl, p, _, 0, _, rfl, rfl, hp, atI_nat (j := 0) rfl, rfl, _, rfl, iteN (by decide +kernel) ⟨_, rfl, p, _, 0, _, rfl, rfl, hp, atI_nat (j := 0) rfl, rfl, _, rfl, iteP rfl ⟨_, rfl, p, _, 1, _, rfl, rfl, hp, atI_nat (j := 1) rfl, x.cps.toList, by rw [sx_of]; rfl, hl, q H (Kb.refl H)⟩⟩⟩⟩⟩
    | m ps =>
      obtain ⟨p, x, y, rfl, hp, hx, hy⟩ := dt_pair (show Dt K H v (.tuple [.str (Str.ofString "map"), .tuple (ps.map Rv.ent)]) from hv)
      cases hx
      cases hy with
      | @tup b xs _ hb hs =>
        refine ⟨_, rfl, p, _, 0, _, rfl, rfl, hp, atI_nat (j := 0) rfl, rfl, _, rfl, iteN (by decide +kernel) ⟨_, rfl, p, _, 0, _, rfl, rfl, hp, atI_nat (j := 0) rfl, rfl, _, rfl, iteN (by decide +kernel) ⟨_, rfl, p, _, 0, _, rfl, rfl, hp, atI_nat (j := 0) rfl, rfl, _, rfl, iteN (by decide +kernel) ⟨_, rfl, p, _, 0, _, rfl, rfl, hp, atI_nat (j := 0) rfl, rfl, _, rfl, iteN (by decide +kernel) ?_⟩⟩⟩⟩
        have g : Rv.Ents ps := g
        have g8 := g.len
        have hl : xs.length = ps.length := by rw [hs.length, List.length_map]
        have o2 : (Str.ofString ", ").length = 2 := by decide +kernel
        have so2 : Str.ofString ", " = sx [44, 32] := by decide +kernel
        refine ⟨⟨_, rfl⟩, _, rfl, p, _, 1, _, rfl, rfl, hp, atI_nat (j := 1) rfl, b, rfl, ⟨xs, hb⟩, fun D hD => ?_⟩
        refine lc_it walk_tup (fun i H' => Kp H H' ∧ H' D = some (.lst ((((ps.take i).map pairT).map sx).map V.str))) ⟨Kb.new hD, upd_same⟩ (fun i H' _ h => h.1.sqT Lsts.nil hb) ?_ ?_
        · rintro i x _ H3 hi ⟨k3, e3⟩ ⟨rfl, hx'⟩
          have hi2 : i < ps.length := by omega
          obtain ⟨d, hd, dv⟩ := (DtAll.kb k3 Lsts.nil hs).get hx'
          rw [List.getElem?_map, List.getElem?_eq_getElem hi2] at hd
          obtain rfl : Rv.ent ps[i] = d := Option.some.inj hd
          obtain ⟨t, y, z, rfl, ht, hy, hz⟩ := dt_pair dv
          cases hy
          have gp := g.ok ps[i] (List.getElem_mem hi2)
          have pl := pair_len gp
          have ql := quo_len ps[i].1.cps.toList
          have sl := scT_len gp.2
          refine ⟨t, _, rfl, ht, rfl, _, _, rfl, _, _, rfl, rfl, ?_⟩
          refine ⟨rfl, iteT (B := Kp H H3 ∧ H3 D = some (.lst ((((ps.take (i + 1)).map pairT).map sx).map V.str))) ?_⟩
          refine ⟨_, rfl, ps[i].1.cps.toList, by rw [sx_of]; rfl, pl.2, _, _, rfl, rfl, by rw [sx_len, o2]; omega, ?_⟩
          refine ⟨_, rfl, hm ps hok z ps[i].2 H3 _ _ ⟨hz, gp.2, fun H4 k4 => ⟨_, _, rfl, rfl, ?_, ?_⟩⟩⟩
          · rw [so2, sx_app, sx_len, sx_len, List.length_append]
            show _ + 2 + _ ≤ _
            omega
          · have e4 := k4.keep D _ e3 (by simp) nt_lst
            refine ⟨_, e4, ?_, (k3.trans k4).mut hD (no_tab e4 nt_lst), ?_⟩
            · rw [List.length_map, List.length_map, List.length_map, List.length_take]
              omega
            · rw [upd_same, so2, sx_app, sx_app, List.take_add_one, List.getElem?_eq_getElem hi2, List.map_append, List.map_append, List.map_append]
              show some (HO.lst (_ ++ [V.str (sx ((quoL ps[i].1.cps.toList ++ [44, 32]) ++ scT ps[i].2))])) = some (HO.lst (_ ++ [V.str (sx (quoL ps[i].1.cps.toList ++ 44 :: 32 :: scT ps[i].2))]))
              rw [List.append_assoc]
              rfl
        · rintro H3 ⟨k3, e3⟩
          rw [hl, List.take_length] at e3
          have hsum : ((((ps.map pairT).map sx).map (·.length))).sum ≤ 3000 * ps.length := by
            have : ∀ l : List (Str × Rv.Sc), (∀ p ∈ l, Rv.keyOk p.1 ∧ p.2.good) → ((((l.map pairT).map sx).map (·.length))).sum ≤ 3000 * l.length := fun l => by
              induction l with
              | nil => exact fun _ => Nat.le_refl _
              | cons p l ih =>
                intro h
                have h1 := (pair_len (h p List.mem_cons_self)).1
                have h2 := ih fun q hq => h q (List.mem_cons_of_mem _ hq)
                rw [List.map_cons, List.map_cons, List.map_cons, List.sum_cons, sx_len, List.length_cons]
                omega
            exact this ps g.ok
          have hjl : (comL (ps.map pairT)).length ≤ 3002 * ps.length := by
            have : ∀ l : List (Str × Rv.Sc), (∀ p ∈ l, Rv.keyOk p.1 ∧ p.2.good) → (behL (l.map pairT)).length ≤ 3002 * l.length := fun l => by
              induction l with
              | nil => exact fun _ => Nat.le_refl _
              | cons p l ih =>
                intro h
                have h1 := (pair_len (h p List.mem_cons_self)).1
                have h2 := ih fun q hq => h q (List.mem_cons_of_mem _ hq)
                show ((44 :: 32 :: pairT p) ++ behL (l.map pairT)).length ≤ 3002 * (l.length + 1)
                rw [List.length_append, List.length_cons, List.length_cons]
                omega
            have := this ps g.ok
            cases ps with
            | nil => exact Nat.zero_le _
            | cons p ps =>
              have e : (behL ((p :: ps).map pairT)).length = (comL ((p :: ps).map pairT)).length + 2 := rfl
              omega
          have o1 : (Str.ofString ")").length = 1 := by decide +kernel
          have o4 : (Str.ofString "map(").length = 4 := by decide +kernel
          refine ⟨Str.ofString ", ", D, (ps.map pairT).map sx, rfl, rfl, .inl (.inl (.inl e3)), ?_, ?_⟩
          · rw [o2, List.length_map, List.length_map]
            omega
          · rw [join_sx]
            refine ⟨_, _, rfl, rfl, by rw [o4, sx_len]; omega, ⟨_, _, rfl, rfl, ?_, ?_⟩⟩
            · rw [show Str.ofString "map(" = sx (cs "map" ++ [40]) by decide +kernel, sx_app, sx_len, o1, List.length_append]
              have : (cs "map" ++ [40]).length = 4 := by decide +kernel
              omega
            · have q := q H3 k3
              rw [show vaT (.m ps) = (cs "map" ++ [40]) ++ comL (ps.map pairT) ++ [41] by
                show cs "map" ++ 40 :: (comL (ps.flatMap fun p => [quoL p.1.cps.toList, scT p.2]) ++ [41]) = _
                rw [comL_pairs]
                simp, ← sx_app, ← sx_app, show sx (cs "map" ++ [40]) = Str.ofString "map(" by decide +kernel, show sx [41] = Str.ofString ")" by decide +kernel] at q
              exact q
end
end Rw

/-! The law's lines. -/
namespace Rw
open PySem PySem.Spec PyProof.Rows L2 GxR Gx Gd Rx Rs
def spLn (K : PySem.W.Frag) : Sp := fun vs H Q _ => ∃ (v : V) (w : String) (pvs : List Pv), vs = [v] ∧ EnOk w pvs ∧ Dt K H v (enD w pvs) ∧ ∀ H', Kp H H' → Q (.str (sx (tW true (enS w pvs)))) H'
theorem tW1 (s : Sg) : tW true [s] = s.text := by
  rw [tW_cons]
  show List.replicate 0 32 ++ (s.text ++ []) = _
  simp
theorem log9 {n : Nat} (h : n ≤ 999999999) : (n : Int).natAbs.log2 < 1920 := by
  rw [Int.natAbs_natCast]
  by_cases hn : n = 0
  · subst hn; decide
  · exact (Nat.log2_lt hn).mpr (Nat.lt_of_lt_of_le (show n < 2 ^ 30 by omega) (Nat.pow_le_pow_right (by decide) (by decide)))
theorem joinL_sp : ∀ (ts : List (List Nat)) (t : List Nat), TL.joinL [32] (t :: ts) = t ++ ts.flatMap fun u => 32 :: u
  | [], t => by show t = t ++ []; rw [List.append_nil]
  | u :: ts, t => by
    have ih := joinL_sp ts u
    show t ++ ([32] ++ TL.joinL [32] (u :: ts)) = _
    rw [ih, List.flatMap_cons]
    simp
theorem join_sp (ts : List (List Nat)) : Txt.join (Str.ofString " ") (ts.map sx) = sx (TL.joinL [32] ts) := by
  refine TL.ext_tl ?_
  have e : TL.tl (Str.ofString " ") = [32] := by decide +kernel
  rw [TL.join_eq, TL.tl_join, e, List.map_map]
  have : ts.map (TL.tl ∘ sx) = ts := by
    have h : ts.map (TL.tl ∘ sx) = ts.map id := List.map_congr_left fun t _ => sx_tl t
    rw [h, List.map_id]
  rw [this]
  exact (sx_tl _).symm
theorem beh_len : ∀ l : List (Str × Rv.Sc), (∀ p ∈ l, Rv.keyOk p.1 ∧ p.2.good) → (behL (l.map pairT)).length ≤ 3002 * l.length
  | [], _ => Nat.le_refl _
  | p :: l, h => by
    have h1 := (pair_len (h p List.mem_cons_self)).1
    have h2 := beh_len l fun q hq => h q (List.mem_cons_of_mem _ hq)
    show ((44 :: 32 :: pairT p) ++ behL (l.map pairT)).length ≤ 3002 * (l.length + 1)
    rw [List.length_append, List.length_cons, List.length_cons]
    omega
theorem vaT_len {va : Va} (g : va.good) : (vaT va).length ≤ 30000 := by
  cases va with
  | s s => have := scT_len (s := s) g; show (scT s).length ≤ _; omega
  | m ps =>
    have g : Rv.Ents ps := g
    have h1 := beh_len ps g.ok
    have h2 := g.len
    have e : vaT (.m ps) = cs "map" ++ 40 :: (comL (ps.map pairT) ++ [41]) := by
      show cs "map" ++ 40 :: (comL (ps.flatMap fun p => [quoL p.1.cps.toList, scT p.2]) ++ [41]) = _
      rw [comL_pairs]
    have h3 : (comL (ps.map pairT)).length ≤ (behL (ps.map pairT)).length := by
      cases ps with
      | nil => exact Nat.le_refl _
      | cons p ps =>
        have : (behL ((p :: ps).map pairT)).length = (comL ((p :: ps).map pairT)).length + 2 := rfl
        omega
    have h4 : (cs "map").length = 3 := by decide +kernel
    rw [e, List.length_append, List.length_cons, List.length_append, h4]
    show 3 + (_ + 1 + 1) ≤ _
    omega
/-- the text of a plain value -/
def plV : V → Str
  | .int i => Str.ofString (toString i)
  | .str x => x
  | _ => Str.ofString ""
def PlOk (v : V) : Prop := (∃ n : Nat, v = .int (n : Int) ∧ n ≤ 999999999) ∨ ∃ x : Str, v = .str x
theorem dec_len {n : Nat} (h : n ≤ 999999999) : (Str.ofString (toString (n : Int))).length ≤ 10 := by
  have h1 : (TL.numL n).length ≤ 10 := TL.numL_len (by decide) (by omega)
  have e2 : (Str.ofString (toString (n : Int))).length = (TL.numL n).length := by
    show (Str.ofString (toString (n : Int))).cps.size = _
    rw [← Array.length_toList]
    exact congrArg List.length (TL.tl_num n)
  rw [e2]
  exact h1
theorem name_len {l : List Nat} (h : isNameL l = true) : l.length ≤ 12 := (name_parts h).2.1
theorem map1 {pvs : List Pv} {x : String} (h : pvs.map Pv.part = [x]) : ∃ b, pvs = [b] ∧ b.part = x := by
  match pvs, h with
  | [b], h => exact ⟨b, rfl, by simpa using h⟩
theorem map2 {pvs : List Pv} {x y : String} (h : pvs.map Pv.part = [x, y]) : ∃ b c, pvs = [b, c] ∧ b.part = x ∧ c.part = y := by
  match pvs, h with
  | [b, c], h => exact ⟨b, c, rfl, by simpa using h⟩
theorem map3 {pvs : List Pv} {x y z : String} (h : pvs.map Pv.part = [x, y, z]) : ∃ b c e, pvs = [b, c, e] ∧ b.part = x ∧ c.part = y ∧ e.part = z := by
  match pvs, h with
  | [b, c, e], h => exact ⟨b, c, e, rfl, by simpa using h⟩
theorem map5 {pvs : List Pv} {x y z u v : String} (h : pvs.map Pv.part = [x, y, z, u, v]) : ∃ b c e f g, pvs = [b, c, e, f, g] ∧ b.part = x ∧ c.part = y ∧ e.part = z ∧ f.part = u ∧ g.part = v := by
  match pvs, h with
  | [b, c, e, f, g], h => exact ⟨b, c, e, f, g, rfl, by simpa using h⟩
theorem isNm {b : Pv} (h : b.part = "NAME") : ∃ l, b = .name l := by cases b <;> first | exact ⟨_, rfl⟩ | simp [Pv.part] at h
theorem isNb {b : Pv} (h : b.part = "NUMBER") : ∃ l, b = .num l := by cases b <;> first | exact ⟨_, rfl⟩ | simp [Pv.part] at h
theorem isQu {b : Pv} (h : b.part = "QUOTED") : ∃ l, b = .quo l := by cases b <;> first | exact ⟨_, rfl⟩ | simp [Pv.part] at h
theorem isSc {b : Pv} (h : b.part = "SCALAR") : ∃ l, b = .sc l := by cases b <;> first | exact ⟨_, rfl⟩ | simp [Pv.part] at h
theorem isOu {b : Pv} (h : b.part = "OUTCOME") : ∃ l, b = .out l := by cases b <;> first | exact ⟨_, rfl⟩ | simp [Pv.part] at h
theorem isVa {b : Pv} (h : b.part = "VALUE") : ∃ l, b = .val l := by cases b <;> first | exact ⟨_, rfl⟩ | simp [Pv.part] at h
section
variable {P : Program} {w : World} {K : PySem.W.Frag} {mg : Str → Option Value} {base : Heap}
theorem row_lc {ys : List V} {H0 : Hp} {te : TE} {o0 o1 o2 : Option V} {N : VK} (C : Addr → Hp → Prop) (hte : ∀ R : VK, (∀ b H1, C b H1 → R (.ref b) H1) → te [o0, o1, o2] H0 R) (hC : ∀ b H1, C b H1 → Kp H0 H1 ∧ SqT K H1 b ys) (ok : ∀ y ∈ ys, PlOk y) (hn : ys.length ≤ 100) (q : ∀ H' G, Kp H0 H' → H' G = some (.lst ((ys.map plV).map V.str)) → N (.ref G) H') :
    tLc (iTup K te) (gName 2) tYes (tCB (fun xs H Q => (∃ i, xs = [V.int i] ∧ i.natAbs.log2 < 1920 ∧ Q (V.str (Str.ofString (toString i))) H) ∨ ∃ a, xs = [V.str a] ∧ Q (V.str a) H) (tCons (tVar 2) tNil)) (List.map (fun x => x.snd) [(Str.ofString "part", 2)]) [o0, o1, o2] H0 N := by
  refine hte _ fun b H1 hc => ?_
  obtain ⟨k1, hb⟩ := hC b H1 hc
  refine ⟨b, rfl, ⟨ys, hb⟩, fun G hG => ?_⟩
  refine lc_it walk_tup (fun i H' => Kp H1 H' ∧ H' G = some (.lst (((ys.take i).map plV).map V.str))) ⟨Kb.new hG, upd_same⟩ (fun i H' _ h => h.1.sqT Lsts.nil hb) ?_ ?_
  · rintro i x _ H3 hi ⟨k3, e3⟩ ⟨rfl, hx⟩
    have sz : sizeLine = 16777216 := rfl
    have et : ys.take (i + 1) = ys.take i ++ [x] := by rw [List.take_add_one, hx]; rfl
    have fin : ∃ acc, H3 G = some (.lst acc) ∧ acc.length < sizeLine ∧ Kp H1 (upd H3 G (.lst (acc ++ [V.str (plV x)]))) ∧ (upd H3 G (.lst (acc ++ [V.str (plV x)]))) G = some (.lst (((ys.take (i + 1)).map plV).map V.str)) := by
      refine ⟨_, e3, by rw [List.length_map, List.length_map, List.length_take]; omega, k3.mut hG (no_tab e3 nt_lst), ?_⟩
      rw [upd_same, et, List.map_append, List.map_append]
      rfl
    refine ⟨rfl, iteT (B := Kp H1 H3 ∧ H3 G = some (.lst (((ys.take (i + 1)).map plV).map V.str))) ?_⟩
    rcases ok x (List.mem_of_getElem? hx) with ⟨n, rfl, hn9⟩ | ⟨z, rfl⟩
    · exact ⟨_, rfl, .inl ⟨_, rfl, log9 hn9, fin⟩⟩
    · exact ⟨_, rfl, .inr ⟨_, rfl, fin⟩⟩
  · rintro H3 ⟨k3, e3⟩
    rw [List.take_length] at e3
    exact q H3 G (k1.trans k3) e3
theorem c_law_line (D : DefAt K mg "_law_line" s_law_line ["entry"]) (m_str : mg "str" = none) (c__law_quoted : Cal P w K mg base CX0 1 "_law_quoted" ["text"] spQuote) (c__law_literal : Cal P w K mg base CX0 3 "_law_literal" ["value"] (spLk K fun _ => True)) : Cal P w K mg base CX0 4 "_law_line" ["entry"] (spLn K) := by
  refine D.cal (k := 3) sc_law_line (fun vs H Q E h => ?_) fun f cdv A outer s H vs Q E hr h => ?_
  · obtain ⟨v, wd, pvs, rfl, _⟩ := h
    rfl
  · obtain ⟨v, wd, pvs, rfl, ok, hv, q⟩ := h
    refine ⟨_, (pss_cons (ps_set (i := 1) sc_law_line.nd rfl (Or.inl rfl) (pe_ix ix_tup (pv 0) pe_int (fun _ _ => rfl)))
  (pss_cons (ps_if (pt_cmpR op_eq (pv 1) pe_str (nomark _)) (pss_one (ps_ret (pe_op op_add_str (pe_op op_add_str (pe_op op_add_str pe_str (pe_ix ix_tup (pv 0) pe_int (fun _ _ => rfl))) pe_str) (pe_cal (c__law_quoted.mono (by omega)) hr (by rfl) (pa_cons (pe_ix ix_tup (pv 0) pe_int (fun _ _ => rfl)) pa_nil))))) pss_nil)
  (pss_cons (ps_if (pt_cmpR op_eq (pv 1) pe_str (nomark _)) (pss_one (ps_ret (pe_join pe_str (pe_op op_cat (pe_op op_cat (pe_lst (pa_cons (pv 1) pa_nil)) (pe_lc rfl sc_law_line.nd (pi_tup (pe_slice sl_tupF (pv 0) (po_some pe_int) (po_some pe_int))) (blkOk_by (own := [("part", 2)]) (N := ["entry", "kind", "part"]) (sc := defScope s_law_line) (by decide +kernel)) (fun _ _ _ _ _ => (pg_name (i := 2) sc_law_line.nd rfl (Or.inl rfl))) (fun _ _ _ _ _ => pts_nil) (fun _ _ _ _ _ => (pe_callTy (call_str_int.or SkE.call_str_str) (by rfl) m_str (by decide +kernel) (pa_cons (pv 2) pa_nil))))) (pe_lst (pa_cons (pe_cal (c__law_literal.mono (by omega)) hr (by rfl) (pa_cons (pe_ix ix_tup (pv 0) pe_int (fun _ _ => rfl)) pa_nil)) pa_nil)))))) pss_nil)
  (pss_cons (ps_if (pt_cmpR op_eq (pv 1) pe_str (nomark _)) (pss_one (ps_ret (pe_op op_add_str (pe_op op_add_str (pe_op op_add_str pe_str (pe_cal (c__law_quoted.mono (by omega)) hr (by rfl) (pa_cons (pe_ix ix_tup (pv 0) pe_int (fun _ _ => rfl)) pa_nil))) pe_str) (pe_cal (c__law_literal.mono (by omega)) hr (by rfl) (pa_cons (pe_ix ix_tup (pv 0) pe_int (fun _ _ => rfl)) pa_nil))))) pss_nil)
  (pss_cons (ps_if (pt_cmpR op_eq (pv 1) pe_str (nomark _)) (pss_one (ps_ret (pe_op op_add_str pe_str (pe_cal (c__law_quoted.mono (by omega)) hr (by rfl) (pa_cons (pe_ix ix_tup (pv 0) pe_int (fun _ _ => rfl)) pa_nil))))) pss_nil)
  (pss_one (ps_ret (pe_join pe_str (pe_lc rfl sc_law_line.nd (pi_tup (pv 0)) (blkOk_by (own := [("part", 2)]) (N := ["entry", "kind", "part"]) (sc := defScope s_law_line) (by decide +kernel)) (fun _ _ _ _ _ => (pg_name (i := 2) sc_law_line.nd rfl (Or.inl rfl))) (fun _ _ _ _ _ => pts_nil) (fun _ _ _ _ _ => (pe_callTy (call_str_int.or SkE.call_str_str) (by rfl) m_str (by decide +kernel) (pa_cons (pv 2) pa_nil)))))))))))), ?_⟩
    have sz : sizeLine = 16777216 := rfl
    have osp : Str.ofString " " = sx [32] := by decide +kernel
    obtain ⟨a, xs, rfl, ha, hxs⟩ := tup_inv hv
    cases hxs with
    | @cons v0 xs _ _ h0 hxs =>
    cases h0
    refine ⟨_, rfl, a, _, 0, _, rfl, rfl, ha, atI_nat (j := 0) rfl, ?_⟩
    refine gset ?_
    have hform := ok.1
    have okp := ok.2
    have et := en_text ok
    simp only [formL, List.mem_cons, Prod.mk.injEq, List.not_mem_nil, or_false] at hform
    rcases hform with ⟨rfl, hp⟩ | ⟨rfl, hp⟩ | ⟨rfl, hp⟩ | ⟨rfl, hp⟩ | ⟨rfl, hp⟩ | ⟨rfl, hp⟩ | ⟨rfl, hp⟩
    · obtain ⟨b, c, rfl, h1, h2⟩ := map2 hp
      obtain ⟨l, rfl⟩ := isNm h1
      obtain ⟨t, rfl⟩ := isQu h2
      cases hxs with
      | cons x1 hxs =>
      cases hxs with
      | cons x2 hxs =>
      cases hxs
      cases x1
      cases x2
      have gl : isNameL l = true := okp (.name l) (by simp)
      have gt : t.all (fun c => isChar c || decide (c = 10)) = true ∧ t.length ≤ 40 := okp (.quo t) (by simp)
      have ll := name_len gl
      have lt := quo_len t
      have os : Str.ofString "start " = sx (cs "start" ++ [32]) := by decide +kernel
      have l6 : (cs "start" ++ [32]).length = 6 := by decide +kernel
      have e : sx (tW true (enS "start" [.name l, .quo t])) = ((Str.ofString "start " ++ sx l) ++ Str.ofString " ") ++ sx (quoL t) := by
        rw [os, osp, sx_app, sx_app, sx_app, et]
        congr 1
        show cs "start" ++ ((32 :: tW true [.name l]) ++ ((32 :: tW true [.quo t]) ++ [])) = _
        rw [tW1, tW1]
        simp [Sg.text]
      refine ⟨_, rfl, rfl, _, rfl, iteP rfl ?_⟩
      refine ⟨_, rfl, a, _, 1, _, rfl, rfl, ha, atI_nat (j := 1) rfl, _, _, rfl, rfl, by rw [os, sx_len, sx_len, l6]; omega, _, _, rfl, rfl, by rw [os, osp, sx_app, sx_len, sx_len, List.length_append, l6]; show 6 + _ + 1 ≤ _; omega, ?_⟩
      refine ⟨_, rfl, a, _, 2, _, rfl, rfl, ha, atI_nat (j := 2) rfl, t, rfl, by omega, _, _, rfl, rfl, by rw [os, osp, sx_app, sx_app, sx_len, sx_len, List.length_append, List.length_append, l6]; show 6 + _ + 1 + _ ≤ _; omega, ?_⟩
      rw [← e]
      exact q H (Kb.refl H)
    · obtain rfl : pvs = [] := List.map_eq_nil_iff.mp hp
      cases hxs
      refine ⟨_, rfl, rfl, _, rfl, iteN (by decide +kernel) ⟨_, rfl, rfl, _, rfl, iteN (by decide +kernel) ⟨_, rfl, rfl, _, rfl, iteN (by decide +kernel) ⟨_, rfl, rfl, _, rfl, iteN (by decide +kernel) ?_⟩⟩⟩⟩
      refine nx_gen ?_
      refine ⟨⟨_, rfl⟩, ?_⟩
      refine row_lc (fun b H1 => b = a ∧ H1 = H) (fun R h => ⟨_, rfl, h a H ⟨rfl, rfl⟩⟩) (fun b H1 hc => by obtain ⟨rfl, rfl⟩ := hc; exact ⟨Kb.refl _, ha⟩) (fun y hy => .inr ⟨_, List.mem_singleton.mp hy⟩) (by simp) fun H' G k e => ?_
      refine ⟨_, G, [Str.ofString "connect"], rfl, rfl, .inl (.inl (.inl e)), by decide +kernel, ?_⟩
      have : Txt.join (Str.ofString " ") [Str.ofString "connect"] = sx (tW true (enS "connect" [])) := by
        rw [et, show [Str.ofString "connect"] = [cs "connect"].map sx by rw [List.map_cons, List.map_nil, show sx (cs "connect") = Str.ofString "connect" from sx_of _], join_sp, joinL_sp]
        rfl
      rw [this]
      exact q H' k
    · obtain ⟨b, rfl, h1⟩ := map1 hp
      obtain ⟨n, rfl⟩ := isNb h1
      cases hxs with
      | cons x1 hxs =>
      cases hxs
      cases x1
      have gn : n ≤ 999999999 := okp (.num n) (by simp)
      refine ⟨_, rfl, rfl, _, rfl, iteN (by decide +kernel) ⟨_, rfl, rfl, _, rfl, iteN (by decide +kernel) ⟨_, rfl, rfl, _, rfl, iteN (by decide +kernel) ⟨_, rfl, rfl, _, rfl, iteN (by decide +kernel) ?_⟩⟩⟩⟩
      refine nx_gen ?_
      refine ⟨⟨_, rfl⟩, ?_⟩
      refine row_lc (fun b H1 => b = a ∧ H1 = H) (fun R h => ⟨_, rfl, h a H ⟨rfl, rfl⟩⟩) (fun b H1 hc => by obtain ⟨rfl, rfl⟩ := hc; exact ⟨Kb.refl _, ha⟩) (fun y hy => ?_) (by simp) fun H' G k e => ?_
      · simp only [List.mem_cons, List.not_mem_nil, or_false] at hy
        rcases hy with rfl | rfl
        · exact .inr ⟨_, rfl⟩
        · exact .inl ⟨n, rfl, gn⟩
      refine ⟨_, G, [Str.ofString "disconnect", Str.ofString (toString (n : Int))], rfl, rfl, .inl (.inl (.inl e)), ?_, ?_⟩
      · have := dec_len gn
        have h10 : (Str.ofString "disconnect").length = 10 := by decide +kernel
        show (Str.ofString "disconnect").length + ((Str.ofString (toString (n : Int))).length + 0) + 2 * 1 ≤ 16777216
        omega
      · have : Txt.join (Str.ofString " ") [Str.ofString "disconnect", Str.ofString (toString (n : Int))] = sx (tW true (enS "disconnect" [.num n])) := by
          rw [et, show [Str.ofString "disconnect", Str.ofString (toString (n : Int))] = [cs "disconnect", (Sg.num n).text].map sx by
            rw [List.map_cons, List.map_cons, List.map_nil, show sx (cs "disconnect") = Str.ofString "disconnect" from sx_of _, show sx (Sg.num n).text = Str.ofString (toString (n : Int)) from sx_of _], join_sp, joinL_sp]
          congr 1
        rw [this]
        exact q H' k
    · obtain ⟨b1, b2, b3, b4, b5, rfl, h1, h2, h3, h4, h5⟩ := map5 hp
      obtain ⟨n1, rfl⟩ := isNb h1
      obtain ⟨n2, rfl⟩ := isNb h2
      obtain ⟨n3, rfl⟩ := isNb h3
      obtain ⟨l, rfl⟩ := isNm h4
      obtain ⟨sc, rfl⟩ := isSc h5
      cases hxs with
      | cons x1 hxs =>
      cases hxs with
      | cons x2 hxs =>
      cases hxs with
      | cons x3 hxs =>
      cases hxs with
      | cons x4 hxs =>
      cases hxs with
      | @cons v5 _ _ _ x5 hxs =>
      cases hxs
      cases x1
      cases x2
      cases x3
      cases x4
      have g1 : n1 ≤ 999999999 := okp (.num n1) (by simp)
      have g2 : n2 ≤ 999999999 := okp (.num n2) (by simp)
      have g3 : n3 ≤ 999999999 := okp (.num n3) (by simp)
      have g4 : isNameL l = true := okp (.name l) (by simp)
      have g5 : sc.good := okp (.sc sc) (by simp)
      refine ⟨_, rfl, rfl, _, rfl, iteN (by decide +kernel) ⟨_, rfl, rfl, _, rfl, iteP rfl ?_⟩⟩
      refine ⟨⟨_, rfl⟩, _, rfl, by show 1 ≤ sizeLine; decide, fun p1 hp1 => ?_⟩
      have k1 : Kp H (upd H p1 (.lst [.str (Str.ofString "event")])) := Kb.new hp1
      have e1 : (upd H p1 (.lst [.str (Str.ofString "event")])) p1 = some (.lst [.str (Str.ofString "event")]) := upd_same
      have ha1 := k1.sqT Lsts.nil ha
      generalize upd H p1 (.lst [.str (Str.ofString "event")]) = H1 at k1 e1 ha1 ⊢
      refine row_lc (ys := [.int (n1 : Int), .int (n2 : Int), .int (n3 : Int), .str (sx l)]) (fun b H2 => ∃ o, H1 b = none ∧ H2 = upd H1 b (frzT o [.int (n1 : Int), .int (n2 : Int), .int (n3 : Int), .str (sx l)])) (fun R h => ⟨_, rfl, 1, rfl, 5, rfl, a, _, rfl, ha1, fun hw => ?_, fun hw p o hp0 ho => h p _ ⟨o, hp0, rfl⟩⟩) (fun b H2 hc => ?_) (fun y hy => ?_) (by simp) fun H2 G k2 eG => ?_
      · have := hw.1
        rw [show (1 : Int) = ((1 : Nat) : Int) from rfl, HT.sIx_nat] at this
        simp at this
      · obtain ⟨o, hb0, rfl⟩ := hc
        exact ⟨Kb.new hb0, SqT.frz upd_same⟩
      · simp only [List.mem_cons, List.not_mem_nil, or_false] at hy
        rcases hy with rfl | rfl | rfl | rfl
        · exact .inl ⟨n1, rfl, g1⟩
        · exact .inl ⟨n2, rfl, g2⟩
        · exact .inl ⟨n3, rfl, g3⟩
        · exact .inr ⟨_, rfl⟩
      have k12 := k1.trans k2
      have e1' := k2.keep p1 _ e1 (by simp) nt_lst
      refine ⟨p1, G, _, _, rfl, rfl, e1', eG, by show 1 + 4 ≤ sizeLine; decide, fun p3 hp3 => ?_⟩
      have k13 := k12.trans (Kb.new hp3 : Kp H2 (upd H2 p3 (.lst ([V.str (Str.ofString "event")] ++ ([V.int (n1 : Int), .int (n2 : Int), .int (n3 : Int), .str (sx l)].map plV).map V.str))))
      have e3 : (upd H2 p3 (.lst ([V.str (Str.ofString "event")] ++ ([V.int (n1 : Int), .int (n2 : Int), .int (n3 : Int), .str (sx l)].map plV).map V.str))) p3 = some (.lst ([Str.ofString "event", Str.ofString (toString (n1 : Int)), Str.ofString (toString (n2 : Int)), Str.ofString (toString (n3 : Int)), sx l].map V.str)) := upd_same
      generalize upd H2 p3 (.lst ([V.str (Str.ofString "event")] ++ ([V.int (n1 : Int), .int (n2 : Int), .int (n3 : Int), .str (sx l)].map plV).map V.str)) = H3 at k13 e3 ⊢
      refine ⟨_, rfl, a, _, 5, _, rfl, rfl, k13.sqT Lsts.nil ha, atI_nat (j := 5) rfl, v5, .s sc, rfl, trivial, x5.kb k13 Lsts.nil, g5, fun H4 k4 => ⟨by show 1 ≤ sizeLine; decide, fun p4 hp4 => ?_⟩⟩
      have k5 : Kp H4 (upd H4 p4 (.lst [.str (sx (vaT (.s sc)))])) := Kb.new hp4
      have e4 : (upd H4 p4 (.lst [.str (sx (vaT (.s sc)))])) p4 = some (.lst [.str (sx (vaT (.s sc)))]) := upd_same
      have e34 := (k4.trans k5).keep p3 _ e3 (by simp) nt_lst
      have k15 := k13.trans (k4.trans k5)
      generalize upd H4 p4 (.lst [.str (sx (vaT (.s sc)))]) = H5 at k5 e4 e34 k15 ⊢
      refine ⟨p3, p4, _, _, rfl, rfl, e34, e4, by show 5 + 1 ≤ sizeLine; decide, fun p5 hp5 => ?_⟩
      refine ⟨_, p5, [Str.ofString "event", Str.ofString (toString (n1 : Int)), Str.ofString (toString (n2 : Int)), Str.ofString (toString (n3 : Int)), sx l, sx (scT sc)], rfl, rfl, .inl (.inl (.inl upd_same)), ?_, ?_⟩
      · have d1 := dec_len g1
        have d2 := dec_len g2
        have d3 := dec_len g3
        have ln := name_len g4
        have ls := scT_len g5
        have h10 : (Str.ofString "event").length = 5 := by decide +kernel
        have lo2 : (sx l).length = l.length := sx_len l
        have lo3 : (sx (scT sc)).length = (scT sc).length := sx_len _
        show (Str.ofString "event").length + ((Str.ofString (toString (n1 : Int))).length + ((Str.ofString (toString (n2 : Int))).length + ((Str.ofString (toString (n3 : Int))).length + ((sx l).length + ((sx (scT sc)).length + 0))))) + 6 * 1 ≤ 16777216
        omega
      · have : Txt.join (Str.ofString " ") [Str.ofString "event", Str.ofString (toString (n1 : Int)), Str.ofString (toString (n2 : Int)), Str.ofString (toString (n3 : Int)), sx l, sx (scT sc)] = sx (tW true (enS "event" [.num n1, .num n2, .num n3, .name l, .sc sc])) := by
          rw [et, show [Str.ofString "event", Str.ofString (toString (n1 : Int)), Str.ofString (toString (n2 : Int)), Str.ofString (toString (n3 : Int)), sx l, sx (scT sc)] = [cs "event", (Sg.num n1).text, (Sg.num n2).text, (Sg.num n3).text, l, scT sc].map sx by
            rw [List.map_cons, List.map_cons, List.map_cons, List.map_cons, List.map_cons, List.map_cons, List.map_nil, show sx (cs "event") = Str.ofString "event" from sx_of _, show sx (Sg.num n1).text = Str.ofString (toString (n1 : Int)) from sx_of _, show sx (Sg.num n2).text = Str.ofString (toString (n2 : Int)) from sx_of _, show sx (Sg.num n3).text = Str.ofString (toString (n3 : Int)) from sx_of _], join_sp, joinL_sp]
          show sx (cs "event" ++ ((32 :: (Sg.num n1).text) ++ ((32 :: (Sg.num n2).text) ++ ((32 :: (Sg.num n3).text) ++ ((32 :: l) ++ ((32 :: scT sc) ++ [])))))) = sx (cs "event" ++ ((32 :: tW true [.num n1]) ++ ((32 :: tW true [.num n2]) ++ ((32 :: tW true [.num n3]) ++ ((32 :: tW true [.name l]) ++ ((32 :: tW true [scS sc]) ++ []))))))
          rw [tW1, tW1, tW1, tW1, tW1]
          rfl
        rw [this]
        exact q _ (k15.trans (Kb.new hp5))
    · obtain ⟨b1, b2, b3, rfl, h1, h2, h3⟩ := map3 hp
      obtain ⟨n1, rfl⟩ := isNb h1
      obtain ⟨n2, rfl⟩ := isNb h2
      obtain ⟨o, rfl⟩ := isOu h3
      cases hxs with
      | cons x1 hxs =>
      cases hxs with
      | cons x2 hxs =>
      cases hxs with
      | cons x3 hxs =>
      cases hxs
      cases x1
      cases x2
      cases x3
      have g1 : n1 ≤ 999999999 := okp (.num n1) (by simp)
      have g2 : n2 ≤ 999999999 := okp (.num n2) (by simp)
      have g3 : o ∈ outs := okp (.out o) (by simp)
      have lo : o.length ≤ 12 := name_len (List.all_eq_true.mp outs_name o g3)
      refine ⟨_, rfl, rfl, _, rfl, iteN (by decide +kernel) ⟨_, rfl, rfl, _, rfl, iteN (by decide +kernel) ⟨_, rfl, rfl, _, rfl, iteN (by decide +kernel) ⟨_, rfl, rfl, _, rfl, iteN (by decide +kernel) ?_⟩⟩⟩⟩
      refine nx_gen ?_
      refine ⟨⟨_, rfl⟩, ?_⟩
      refine row_lc (fun b H1 => b = a ∧ H1 = H) (fun R h => ⟨_, rfl, h a H ⟨rfl, rfl⟩⟩) (fun b H1 hc => by obtain ⟨rfl, rfl⟩ := hc; exact ⟨Kb.refl _, ha⟩) (fun y hy => ?_) (by simp) fun H' G k e => ?_
      · simp only [List.mem_cons, List.not_mem_nil, or_false] at hy
        rcases hy with rfl | rfl | rfl | rfl
        · exact .inr ⟨_, rfl⟩
        · exact .inl ⟨n1, rfl, g1⟩
        · exact .inl ⟨n2, rfl, g2⟩
        · exact .inr ⟨_, rfl⟩
      refine ⟨_, G, [Str.ofString "discard", Str.ofString (toString (n1 : Int)), Str.ofString (toString (n2 : Int)), sx o], rfl, rfl, .inl (.inl (.inl e)), ?_, ?_⟩
      · have d1 := dec_len g1
        have d2 := dec_len g2
        have h10 : (Str.ofString "discard").length = 7 := by decide +kernel
        have lo2 : (sx o).length = o.length := sx_len o
        show (Str.ofString "discard").length + ((Str.ofString (toString (n1 : Int))).length + ((Str.ofString (toString (n2 : Int))).length + ((sx o).length + 0))) + 4 * 1 ≤ 16777216
        omega
      · have : Txt.join (Str.ofString " ") [Str.ofString "discard", Str.ofString (toString (n1 : Int)), Str.ofString (toString (n2 : Int)), sx o] = sx (tW true (enS "discard" [.num n1, .num n2, .out o])) := by
          rw [et, show [Str.ofString "discard", Str.ofString (toString (n1 : Int)), Str.ofString (toString (n2 : Int)), sx o] = [cs "discard", (Sg.num n1).text, (Sg.num n2).text, o].map sx by
            rw [List.map_cons, List.map_cons, List.map_cons, List.map_cons, List.map_nil, show sx (cs "discard") = Str.ofString "discard" from sx_of _, show sx (Sg.num n1).text = Str.ofString (toString (n1 : Int)) from sx_of _, show sx (Sg.num n2).text = Str.ofString (toString (n2 : Int)) from sx_of _], join_sp, joinL_sp]
          congr 1
        rw [this]
        exact q H' k
    · obtain ⟨b, c, rfl, h1, h2⟩ := map2 hp
      obtain ⟨t, rfl⟩ := isQu h1
      obtain ⟨va, rfl⟩ := isVa h2
      cases hxs with
      | cons x1 hxs =>
      cases hxs with
      | @cons v2 _ _ _ x2 hxs =>
      cases hxs
      cases x1
      have gt : t.all (fun c => isChar c || decide (c = 10)) = true ∧ t.length ≤ 40 := okp (.quo t) (by simp)
      have gv : va.good := okp (.val va) (by simp)
      have lv := vaT_len gv
      have lt := quo_len t
      have os : Str.ofString "resolve " = sx (cs "resolve" ++ [32]) := by decide +kernel
      have l6 : (cs "resolve" ++ [32]).length = 8 := by decide +kernel
      have e : sx (tW true (enS "resolve" [.quo t, .val va])) = ((Str.ofString "resolve " ++ sx (quoL t)) ++ Str.ofString " ") ++ sx (vaT va) := by
        rw [os, osp, sx_app, sx_app, sx_app, et]
        congr 1
        show cs "resolve" ++ ((32 :: tW true [.quo t]) ++ ((32 :: tW true (vaS va)) ++ [])) = _
        rw [tW1, va_text]
        simp [Sg.text]
      refine ⟨_, rfl, rfl, _, rfl, iteN (by decide +kernel) ⟨_, rfl, rfl, _, rfl, iteN (by decide +kernel) ⟨_, rfl, rfl, _, rfl, iteP rfl ?_⟩⟩⟩
      refine ⟨_, rfl, a, _, 1, _, rfl, rfl, ha, atI_nat (j := 1) rfl, t, rfl, by omega, _, _, rfl, rfl, by rw [os, sx_len, sx_len, l6]; omega, _, _, rfl, rfl, by rw [os, osp, sx_app, sx_len, sx_len, List.length_append, l6]; show 8 + _ + 1 ≤ _; omega, ?_⟩
      refine ⟨_, rfl, a, _, 2, _, rfl, rfl, ha, atI_nat (j := 2) rfl, v2, va, rfl, trivial, x2, gv, fun H2 k2 => ⟨_, _, rfl, rfl, by rw [os, osp, sx_app, sx_app, sx_len, sx_len, List.length_append, List.length_append, l6]; show 8 + _ + 1 + _ ≤ _; omega, ?_⟩⟩
      rw [← e]
      exact q H2 k2
    · obtain ⟨b, rfl, h1⟩ := map1 hp
      obtain ⟨t, rfl⟩ := isQu h1
      cases hxs with
      | cons x1 hxs =>
      cases hxs
      cases x1
      have gt : t.all (fun c => isChar c || decide (c = 10)) = true ∧ t.length ≤ 40 := okp (.quo t) (by simp)
      have lt := quo_len t
      have os : Str.ofString "replace " = sx (cs "replace" ++ [32]) := by decide +kernel
      have l6 : (cs "replace" ++ [32]).length = 8 := by decide +kernel
      have e : sx (tW true (enS "replace" [.quo t])) = Str.ofString "replace " ++ sx (quoL t) := by
        rw [os, sx_app, et]
        congr 1
        show cs "replace" ++ ((32 :: tW true [.quo t]) ++ []) = _
        rw [tW1]
        simp [Sg.text]
      refine ⟨_, rfl, rfl, _, rfl, iteN (by decide +kernel) ⟨_, rfl, rfl, _, rfl, iteN (by decide +kernel) ⟨_, rfl, rfl, _, rfl, iteN (by decide +kernel) ⟨_, rfl, rfl, _, rfl, iteP rfl ?_⟩⟩⟩⟩
      refine ⟨_, rfl, a, _, 1, _, rfl, rfl, ha, atI_nat (j := 1) rfl, t, rfl, by omega, _, _, rfl, rfl, by rw [os, sx_len, sx_len, l6]; omega, ?_⟩
      rw [← e]
      exact q H (Kb.refl H)
end
end Rw

/-! text.replace(a, b, 1) where a token has been given out. -/
namespace Gd
open PySem PySem.Spec PyProof.Rows L2 PySem.Builtin.Str
def cuts1 (x y : Str) : List Nat := occurrences x y 0 x.length 1
def rep1 (x y z : Str) : Str := if ((cuts1 x y).isEmpty || (y.length == 0 && z.length == 0)) = true then x else glued z (partsBetween x (cuts1 x y) y.length)
theorem gives_rep1 (x y z : Str) (t u v k : Tok) (h0 : (u == 0 || v == 0) = false) (huv : (u == v) = false) (hyz : (y == z) = false) (hl : tooLong (x.length + (cuts1 x y).length * z.length) = false) :
    Gives (PySem.Builtin.«str.replace» ⟨[.str x t, .str y u, .str z v, .int 1 k], []⟩) (if ((cuts1 x y).isEmpty || (y.length == 0 && z.length == 0)) = true then .val (.str x t) else .str (glued z (partsBetween x (cuts1 x y) y.length))) := by
  show Gives (if ((cuts1 x y).isEmpty || (y.length == 0 && z.length == 0)) = true then (do rule "str.replace.nothing"; ret (.str x t)) else
          (do let same ← isSame (.str y u) (.str z v)
              if same = true then (do rule "str.replace.old-is-new"; ret (.str x t)) else
              if tooLong (x.length + (cuts1 x y).length * z.length) = true then unsupported "str.replace:memory" else
              retStr (glued z (partsBetween x (cuts1 x y) y.length)))) _
  cases hc : ((cuts1 x y).isEmpty || (y.length == 0 && z.length == 0))
  · rw [isSame_str_other y z u v h0 huv hyz, hl]
    exact .of_eq rfl
  · exact .rule (.of_eq rfl)
theorem call_rep1 {prog : Program} {w : World} {A : Around} {E : Value → Shared → Prop} {s : Shared} {x y z : Str} {t u v k : Tok} {Q : Value → Shared → Prop} (hu : u ≠ 0) (hv : v ≠ 0) (huv : u ≠ v) (hyz : (y == z) = false) (hb : x.length + z.length ≤ 10000000) (hy : (rep1 x y z).length ≤ 16777216)
    (hq : ∀ t' k, Q (.str (rep1 x y z) t') { s with toks := k }) : wpAny (model prog w) A (call (.builtin "str.replace") [.str x t, .str y u, .str z v, .int 1 k]) Q E s := by
  have hl : tooLong (x.length + (cuts1 x y).length * z.length) = false := by
    have h1 : (cuts1 x y).length ≤ 1 := StrLaws.occ_length_le x y 0 x.length 1
    have h2 : (cuts1 x y).length * z.length ≤ 1 * z.length := Nat.mul_le_mul_right _ h1
    unfold tooLong sizeLine
    exact decide_eq_false (by have : (2 : Nat) ^ 24 = 16777216 := by decide
                              omega)
  refine call_gives F.slot_str_replace (typeIs_str _ _ _) F.entry_str_replace (F.args_str_replace_4 _ _ _ _) (gives_rep1 x y z t u v k (by simp [hu, hv]) (by simp [huv]) hyz hl) ?_
  unfold rep1 at hq hy
  cases hc : ((cuts1 x y).isEmpty || (y.length == 0 && z.length == 0))
  · rw [hc] at hq hy
    simp only [Bool.false_eq_true, if_false] at hq hy ⊢
    exact ⟨by rw [sizeLine_eq]; exact hy, hq _ _⟩
  · rw [hc] at hq
    simp only [if_true] at hq ⊢
    exact hq t s.toks
/-- the first blank is doubled -/
def dblSp : List Nat → List Nat
  | [] => []
  | c :: r => if c = 32 then 32 :: 32 :: r else c :: dblSp r
theorem dbl_at : ∀ (l : List Nat) (i : Nat), l[i]? = some 32 → (∀ k, k < i → l[k]? ≠ some 32) → dblSp l = l.take i ++ 32 :: 32 :: l.drop (i + 1)
  | [], i, h, _ => by cases h
  | c :: r, 0, h, _ => by
    have : c = 32 := by simpa using h
    subst this
    rfl
  | c :: r, i + 1, h, hn => by
    have hc : ¬ c = 32 := fun z => hn 0 (by omega) (by simp [z])
    show (if c = 32 then _ else c :: dblSp r) = _
    rw [if_neg hc, dbl_at r i (by simpa using h) fun k hk => by have := hn (k + 1) (by omega); simpa using this]
    rfl
theorem dbl_no : ∀ (l : List Nat), 32 ∉ l → dblSp l = l
  | [], _ => rfl
  | c :: r, h => by
    show (if c = 32 then _ else c :: dblSp r) = _
    rw [if_neg (fun z => h (by simp [z])), dbl_no r fun z => h (List.mem_cons_of_mem _ z)]
theorem rep1_sp (x : Str) : (rep1 x (Str.ofString " ") (Str.ofString "  ")).cps.toList = dblSp x.cps.toList := by
  have sub : ∀ i, subAt x (Str.ofString " ") i = true → x.cps.toList[i]? = some 32 := fun i h => by
    have h : x.cps.extract i (i + 1) = #[32] := eq_of_beq h
    have h2 := congrArg Array.toList h
    rw [Array.toList_extract] at h2
    have h3 : (x.cps.toList.drop i).take 1 = [32] := by simpa [List.extract] using h2
    have h4 := congrArg (fun l : List Nat => l[0]?) h3
    simpa using h4
  have bus : ∀ i, x.cps.toList[i]? = some 32 → StrLaws.At x (Str.ofString " ") x.length i := fun i h => by
    have hi : i < x.cps.size := by have := (List.getElem?_eq_some_iff.mp h).1; simpa using this
    refine ⟨by show i + 1 ≤ x.cps.size; omega, ?_⟩
    show (x.cps.extract i (i + 1) == #[32]) = true
    rw [beq_iff_eq]
    apply Array.ext'
    rw [Array.toList_extract]
    show List.extract x.cps.toList i (i + 1) = [32]
    have : x.cps.toList.drop i = 32 :: x.cps.toList.drop (i + 1) := by
      rw [List.drop_eq_getElem_cons (by simpa using hi)]
      congr 1
      exact (List.getElem?_eq_some_iff.mp h).2
    simp [List.extract, this]
  have hl : (cuts1 x (Str.ofString " ")).length ≤ 1 := StrLaws.occ_length_le _ _ _ _ _
  unfold rep1
  rcases StrLaws.occ_head x (Str.ofString " ") 1 (Nat.le_refl _) with ⟨h, hn⟩ | ⟨i, r, h, ha, hn⟩
  · have h : cuts1 x (Str.ofString " ") = [] := h
    rw [h, if_pos (by rfl), dbl_no]
    intro hm
    obtain ⟨i, hi, e⟩ := List.getElem_of_mem hm
    exact hn i (bus i (by rw [List.getElem?_eq_getElem hi, e]))
  · have h : cuts1 x (Str.ofString " ") = i :: r := h
    rw [h, List.length_cons] at hl
    obtain rfl : r = [] := List.length_eq_zero_iff.mp (by omega)
    rw [h, if_neg (fun z => absurd z (by rw [show ([i] : List Nat).isEmpty = false from rfl, Bool.false_or]; decide +kernel)), dbl_at _ i (sub i ha.2) fun k hk z => hn k hk (bus k z)]
    show ((strSub x 0 i).cps ++ (Str.ofString "  ").cps ++ (strSub x (i + 1) x.length).cps).toList = _
    rw [Array.toList_append, Array.toList_append]
    show (x.cps.extract 0 i).toList ++ [32, 32] ++ (x.cps.extract (i + 1) x.cps.size).toList = _
    rw [Array.toList_extract, Array.toList_extract]
    simp [List.extract]
    exact List.take_of_length_le (by simp)
def tRep1 (to : TE) (y z : Str) : TE := fun σ H Q => to σ H fun v H1 => ∃ x, v = .str x ∧ x.length + z.length ≤ 10000000 ∧ (rep1 x y z).length ≤ 16777216 ∧ Q (.str (rep1 x y z)) H1
section
variable {X : Cx} {y z : Str} {o : Expr} {to : TE} {j k : Nat} {c0 c1 c2 apos pos : Pos}
theorem pet_rep1 (ho : PE X o to) (hyz : (y == z) = false := by decide)
    (hst : starEach [.Constant (.str y) j c0, .Constant (.str z) k c1, .Constant (.int 1) 0 c2] X.env = [(false, eval (.Constant (.str y) j c0) X.env), (false, eval (.Constant (.str z) k c1) X.env), (false, eval (.Constant (.int 1) 0 c2) X.env)] := by rfl)
    (hbase : attributeBase o "replace" X.env (eval o X.env) = eval o X.env := by rfl) (hline : (apos.endLine == pos.line) = true := by rfl) :
    PET X (.Call (.Attribute o "replace" apos) [.Constant (.str y) j c0, .Constant (.str z) k c1, .Constant (.int 1) 0 c2] [] pos) (tRep1 to y z) := by
  intro pins s σ H Q h0 I h
  refine PySem.wpAny_Call_method_lateS hbase (by rw [hst]; rfl) hline ?_
  rw [hst]
  refine wpAny_mono (PySem.wpAny_toks (ho.run pins s σ H _ I h)) (fun v s1 q => ?_) fun _ _ z => z.2
  obtain ⟨hk, v', H1, I1, r1, x, e1, hb, hy, q⟩ := q
  subst e1
  obtain ⟨tx, e2⟩ := r1
  subst e2
  refine ⟨"str", _, PySem.F.plainAttrs_str, PySem.F.slot_str_replace, PySem.F.type_str_replace, typeIs_str _ _ _, (fun _ e => nomatch e), Calls.callWith_builtin rfl (Calls.evalArgs_plain (Calls.spliced_cons ?_))⟩
  refine Calls.Constant_str (k := j) (pos := c0) (Calls.spliced_cons (Calls.Constant_str (k := k) (pos := c1) (Calls.spliced_cons (wpAny_Constant_int (k := 0) (pos := c2) (Calls.spliced_nil ?_)))))
  exact call_rep1 (by show s1.toks ≠ 0; omega) (by show s1.toks + 1 ≠ 0; omega) (by show s1.toks ≠ s1.toks + 1; omega) hyz hb hy fun t' k => ⟨.str (rep1 x y z), H1, I1.tok k, ⟨t', rfl⟩, q⟩
/-- a display whose first item is a text and something added: a token is given out ahead of the rest -/
theorem pa_tok {x : Str} {f : Expr} {es : List Expr} {tf : TE} {t : TA} {r : R2} {jx : Nat} {cx p : Pos} (hop : OpR X (binaryOp .Add) r) (hf : PE X f tf) (hr : PAT X es t)
    (hs : starEach (.BinOp (.Constant (.str x) jx cx) .Add f p :: es) X.env = (false, eval (.BinOp (.Constant (.str x) jx cx) .Add f p) X.env) :: starEach es X.env := by rfl) : PA X (.BinOp (.Constant (.str x) jx cx) .Add f p :: es) (tCons (tOp r (tC (.str x)) tf) t) := by
  refine ⟨fun pos pins s σ H Q I h => ?_⟩
  rw [hs]
  refine Calls.spliced_cons ?_
  refine wpAny_BinOp (Calls.Constant_str (k := jx) (pos := cx) ?_)
  have I1 : Inv X pins σ H { s with toks := s.toks + 1 } := I.tok _
  refine wpAny_mono (PySem.wpAny_toks (hf.run pins _ σ H _ I1 h)) (fun v s1 q => ?_) fun _ _ z => z.2
  obtain ⟨hk, y, H1, I2, ry, q⟩ := q
  have hk : s.toks + 1 ≤ s1.toks := hk
  refine wpAny_mono (PySem.wpAny_toks (hop pins s1 σ H1 (.str x) y (.str x s.toks) v _ I2 ⟨_, rfl⟩ ry q)) (fun v2 s2 q => ?_) fun _ _ z => z.2
  obtain ⟨hk2, a, H2, I3, ra, q2⟩ := q
  exact thn (hr pos pins s2 σ H2 _ (by omega) I3 q2) fun us s3 ⟨xs, H3, I4, rs, q3⟩ => ⟨a :: xs, H3, I4, .cons ra rs, q3⟩
end
end Gd

/-! The line whose first blank is doubled. -/
namespace Rw
open PySem PySem.Spec PyProof.Rows L2 GxR Gx Gd Rx Rs
theorem dbl_app : ∀ (a b : List Nat), 32 ∉ a → dblSp (a ++ 32 :: b) = a ++ 32 :: 32 :: b
  | [], b, _ => rfl
  | c :: a, b, h => by
    show (if c = 32 then _ else c :: dblSp (a ++ 32 :: b)) = _
    rw [if_neg (fun z => h (by simp [z])), dbl_app a b fun z => h (List.mem_cons_of_mem _ z)]
    rfl
theorem kinds_sp : formL.all (fun f => decide (32 ∉ cs f.1)) = true := by decide +kernel
theorem wrong_dbl {w : String} {pvs : List Pv} (h : EnOk w pvs) : Wrong (dblSp (tW true (enS w pvs)) ++ [32]) := by
  have ns : 32 ∉ cs w := of_decide_eq_true (List.all_eq_true.mp kinds_sp _ h.1)
  obtain ⟨g, n⟩ := en_good h
  cases pvs with
  | nil =>
    have e : tW true (enS w []) = cs w := by rw [en_text h]; simp
    rw [dbl_no _ (by rw [e]; exact ns)]
    exact wrong_be h
  | cons p ps =>
    obtain ⟨s, r', er, ht, _⟩ := pv_row (h.2 p List.mem_cons_self)
    have eE : enS w (p :: ps) = .name (cs w) :: s :: (r' ++ ps.flatMap Pv.ss) := by
      show Sg.name (cs w) :: (p :: ps).flatMap Pv.ss = _
      rw [List.flatMap_cons, er]
      rfl
    have et : tW true (enS w (p :: ps)) = cs w ++ 32 :: (s.text ++ looseL (wr (isLeft s) (r' ++ ps.flatMap Pv.ss))) := by
      rw [eE, tW_cons, tW_cons, ht]
      show List.replicate 0 32 ++ (cs w ++ (List.replicate 1 32 ++ (s.text ++ tW (isLeft s) _))) = _
      rfl
    have gs : ∀ q ∈ (2, s) :: wr (isLeft s) (r' ++ ps.flatMap Pv.ss), q.2.good := fun q hq => by
      rcases List.mem_cons.mp hq with rfl | hq
      · exact g s (by rw [eE]; simp)
      · exact (wr_mem (ss := r' ++ ps.flatMap Pv.ss) (fun x hx => g x (by rw [eE]; exact List.mem_cons_of_mem _ (List.mem_cons_of_mem _ hx))) q hq).1
    have ap : Apart false ((0, .name (cs w)) :: (2, s) :: wr (isLeft s) (r' ++ ps.flatMap Pv.ss)) := by
      have := wr_apart true false (enS w (p :: ps)) fun z => by cases z
      rw [eE] at this
      have this : Apart false ((0, .name (cs w)) :: (1, s) :: wr (isLeft s) (r' ++ ps.flatMap Pv.ss)) := by
        have e1 : wr true (Sg.name (cs w) :: s :: (r' ++ ps.flatMap Pv.ss)) = (0, .name (cs w)) :: (1, s) :: wr (isLeft s) (r' ++ ps.flatMap Pv.ss) := by
          show (_, Sg.name (cs w)) :: (if (false || tight s) = true then 0 else 1, s) :: wr (isLeft s) _ = _
          rw [ht]
          rfl
        rw [e1] at this
        exact this
      obtain ⟨a1, a2, a3⟩ := this
      exact ⟨a1, (fun z => by simp), a3⟩
    have sp := split_loose ((0, .name (cs w)) :: (2, s) :: wr (isLeft s) (r' ++ ps.flatMap Pv.ss)) false [32] (fun q hq => by
      rcases List.mem_cons.mp hq with rfl | hq
      · exact g _ (by rw [eE]; simp)
      · exact gs q hq) ap (.inr ⟨32, [], rfl, by decide⟩)
    have el : looseL ((0, .name (cs w)) :: (2, s) :: wr (isLeft s) (r' ++ ps.flatMap Pv.ss)) = dblSp (tW true (enS w (p :: ps))) := by
      rw [et, dbl_app _ _ ns]
      show List.replicate 0 32 ++ (cs w ++ (List.replicate 2 32 ++ (s.text ++ _))) = _
      rfl
    rw [el] at sp
    refine wrong_same h ?_ ?_
    · rw [sp]
      show Out.ok ((_ : List Sg) ++ []) = _
      rw [List.append_nil, List.map_cons, List.map_cons, wr_signs, eE]
    · rw [et, dbl_app _ _ ns]
      simp
      omega
end Rw

/-! The runs of a written line are short. -/
namespace Rw
open PySem PySem.Spec PyProof.Rows L2 GxR Gx Gd Rx Rs
theorem run_hd {t : List Nat} (h : Hd t) : runOf t = [] := by
  rcases h with rfl | ⟨c, r, rfl, h⟩
  · rfl
  · unfold runOf
    rw [List.takeWhile_cons, if_neg (by rw [h]; exact Bool.false_ne_true)]
theorem run_le1 : ∀ (u : List Nat) {t : List Nat}, Hd t → (runOf (u ++ t)).length ≤ u.length
  | [], t, h => by
    show (runOf t).length ≤ 0
    rw [run_hd h]
    exact Nat.le_refl _
  | c :: u, t, h => by
    have ih := run_le1 u h
    unfold runOf at ih ⊢
    rw [List.cons_append, List.takeWhile_cons]
    split
    · rw [List.length_cons, List.length_cons]; omega
    · exact Nat.zero_le _
theorem run_le2 {v t : List Nat} {c : Nat} (h : isRun c = false) : (runOf ((v ++ [c]) ++ t)).length ≤ v.length := by
  rw [List.append_assoc]
  exact run_le1 v (.inr ⟨c, t, rfl, h⟩)
theorem text_last {s : Sg} (g : s.good) (h : s.run = false) : ∃ v c, s.text = v ++ [c] ∧ isRun c = false := by
  cases s with
  | name l => cases h
  | num n => cases h
  | quo l => exact ⟨34 :: escL l, 34, rfl, by decide⟩
  | mark c =>
    refine ⟨[], c, rfl, ?_⟩
    rcases mark_of g with h | h | h | h <;> subst h <;> decide
theorem loose_hd {r : List (Nat × Sg)} (hg : ∀ p ∈ r, p.2.good) (ha : Apart true r) : Hd (looseL r) := by
  cases r with
  | nil => exact .inl rfl
  | cons p r =>
    obtain ⟨g', s'⟩ := p
    show Hd (List.replicate g' 32 ++ (s'.text ++ looseL r))
    cases g' with
    | zero =>
      have hr : s'.run = false := by
        cases e : s'.run with
        | false => rfl
        | true => exact absurd (ha.1 rfl e) (by decide)
      obtain ⟨c, x, e1, _, h2⟩ := text_head (hg (0, s') List.mem_cons_self)
      refine .inr ⟨c, x ++ looseL r, ?_, h2 hr⟩
      show s'.text ++ looseL r = _
      rw [e1]
      rfl
    | succ g' => exact hd_32 _
theorem loose_runs : ∀ (rows : List (Nat × Sg)) (b : Bool), (∀ p ∈ rows, p.2.good) → Apart b rows → ∀ n, (runOf ((looseL rows).drop n)).length ≤ 82
  | [], b, _, _, n => by
    show (runOf (([] : List Nat).drop n)).length ≤ 82
    rw [List.drop_nil]
    exact Nat.zero_le _
  | (g, s) :: r, b, hg, ha, n => by
    have gs : s.good := hg (g, s) List.mem_cons_self
    have ih := loose_runs r s.run (fun p hp => hg p (List.mem_cons_of_mem _ hp)) ha.2
    have tl := text_len gs
    show (runOf ((List.replicate g 32 ++ (s.text ++ looseL r)).drop n)).length ≤ 82
    rw [List.drop_append, List.drop_append, List.drop_replicate, List.length_replicate]
    by_cases h1 : n < g
    · obtain ⟨k, hk⟩ : ∃ k, g - n = k + 1 := ⟨g - n - 1, by omega⟩
      rw [hk, List.replicate_succ, List.cons_append, run_hd (hd_32 _)]
      exact Nat.zero_le _
    · rw [show g - n = 0 by omega, List.replicate_zero, List.nil_append]
      by_cases h2 : n - g < s.text.length
      · rw [show n - g - s.text.length = 0 by omega, List.drop_zero]
        cases hr : s.run with
        | true =>
          have hd := loose_hd (r := r) (fun p hp => hg p (List.mem_cons_of_mem _ hp)) (by have := ha.2; rw [hr] at this; exact this)
          have := run_le1 (s.text.drop (n - g)) hd
          rw [List.length_drop] at this
          omega
        | false =>
          obtain ⟨v, c, e, hc⟩ := text_last gs hr
          have hl : s.text.length = v.length + 1 := by rw [e, List.length_append]; rfl
          have hd : s.text.drop (n - g) = v.drop (n - g) ++ [c] := by
            rw [e, List.drop_append, show n - g - v.length = 0 by omega, List.drop_zero]
          rw [hd]
          have := run_le2 (v := v.drop (n - g)) (t := looseL r) hc
          rw [List.length_drop] at this
          omega
      · rw [List.drop_eq_nil_of_le (by omega), List.nil_append]
        exact ih _
/-- a written row of signs can be read -/
theorem text_runs {ss : List Sg} (h : ∀ s ∈ ss, s.good) : ∀ n, (runOf ((tW true ss).drop n)).length ≤ 82 :=
  loose_runs (wr true ss) false (fun p hp => (wr_mem h p hp).1) (wr_apart true false ss fun z => by cases z)
end Rw

/-! How long data is when shown. -/
namespace Gd
open PySem PySem.Spec PyProof.Rows L2 GxR Gx
theorem call_reprR {X : Cx} {k : Nat} (hr : RoomG k X.A) : CallR X (.builtin "repr") (rRepr X.K) := call_repr (by have := hr.r.un; omega) hr.g
theorem from_le : ∀ (ts : List Str) (k : Nat) (acc : Str), (textFrom k acc ts).length ≤ acc.length + piled ts
  | [], k, acc => by show acc.length ≤ _; omega
  | t :: ts, k, acc => by
    have ih := from_le ts (k + 1) (acc ++ (if k > 0 then ", " else "" : String) ++ t)
    rw [Str.length_append, Str.length_append] at ih
    have h2 : (Str.ofString (if k > 0 then ", " else "" : String)).length ≤ 2 := by split <;> decide +kernel
    have e : piled (t :: ts) = t.length + 2 + piled ts := by simp [piled]
    show (textFrom (k + 1) _ ts).length ≤ _
    rw [e]
    omega
theorem list_le (ts : List Str) : (listText ts).length ≤ piled ts + 2 := by
  unfold listText
  have h := from_le ts 0 (Str.ofString "[")
  rw [Str.length_append]
  have e1 : (Str.ofString "[").length = 1 := by decide +kernel
  have e2 : (Str.ofString "]").length = 1 := by decide +kernel
  rw [e1] at h
  omega
theorem tuple_le {ts : List Str} (h : ts ≠ []) : (tupleText ts).length ≤ piled ts + 3 := by
  unfold tupleText
  have hj := join_length_add ts h
  rw [Str.length_append, Str.length_append]
  have e1 : (Str.ofString "(").length = 1 := by decide +kernel
  have e2 : (Str.ofString (if (ts.length == 1) = true then ",)" else ")" : String)).length ≤ 2 := by split <;> decide +kernel
  omega
/-- shown in at most sz signs, at most dep deep -/
structure Shw (dep sz : Nat) (d : PyData) : Prop where
  ws : d.showable = true
  wh : d.hasDict = false
  wd : d.depth ≤ dep
  wz : d.shown.length ≤ sz
theorem Shw.mono {a b a' b' : Nat} {d : PyData} (w : Shw a b d) (h1 : a ≤ a') (h2 : b ≤ b') : Shw a' b' d := ⟨w.ws, w.wh, Nat.le_trans w.wd h1, Nat.le_trans w.wz h2⟩
theorem Shw.nat {n : Nat} (hn : n ≤ 999999999) : Shw 0 9 (.int (n : Int)) := by
  refine ⟨?_, rfl, Nat.le_refl _, ?_⟩
  · show decide ((n : Int).natAbs.log2 < 1920) = true
    have : (n : Int).natAbs = n := by omega
    rw [this, decide_eq_true]
    by_cases h0 : n = 0
    · rw [h0]
      decide
    · have := (Nat.log2_lt h0).mpr (show n < 2 ^ 30 by omega)
      omega
  · have h : (TL.numL n).length ≤ 9 := TL.numL_len (by decide) (by omega)
    have e2 : (Str.ofString (toString (n : Int))).length = (TL.numL n).length := by
      show (Str.ofString (toString (n : Int))).cps.size = _
      rw [← Array.length_toList]
      exact congrArg List.length (TL.tl_num n)
    show (Str.ofString (toString (n : Int))).length ≤ 9
    omega
theorem Shw.str {x : Str} {n : Nat} (h : x.length ≤ n) (hc : ∀ c ∈ x.cps.toList, c < 1114112) : Shw 0 (10 * n + 2) (.str x) := by
  refine ⟨rfl, rfl, Nat.le_refl _, ?_⟩
  have := StrLaws.reprText_len x (fun c h => Nat.lt_of_lt_of_le (hc c h) (by decide))
  show (reprText x).length ≤ _
  omega
theorem Shw.bl {b : Bool} : Shw 0 5 (.bool b) := by cases b <;> exact ⟨rfl, rfl, Nat.le_refl _, by decide +kernel⟩
theorem Shw.non : Shw 0 4 .none := ⟨rfl, rfl, Nat.le_refl _, by decide +kernel⟩
theorem shw_all {k m : Nat} : ∀ {ds : List PyData}, (∀ d ∈ ds, Shw k m d) → PyData.showableAll ds = true ∧ PyData.hasDictAll ds = false ∧ PyData.depthAll ds ≤ k ∧ piled (PyData.shownAll ds) ≤ (m + 2) * ds.length
  | [], _ => ⟨rfl, rfl, Nat.zero_le _, Nat.zero_le _⟩
  | d :: ds, h => by
    obtain ⟨a, b, c, e⟩ := shw_all (ds := ds) fun x hx => h x (List.mem_cons_of_mem _ hx)
    have w := h d List.mem_cons_self
    refine ⟨?_, ?_, ?_, ?_⟩
    · show (d.showable && _) = true
      rw [w.ws, a]; rfl
    · show (d.hasDict || _) = false
      rw [w.wh, b]; rfl
    · show max d.depth _ ≤ k
      exact Nat.max_le.mpr ⟨w.wd, c⟩
    · show piled (d.shown :: PyData.shownAll ds) ≤ _
      have := w.wz
      rw [piled_cons, List.length_cons, Nat.mul_succ]
      omega
theorem Shw.list {k m : Nat} {ds : List PyData} (h : ∀ d ∈ ds, Shw k m d) : Shw (k + 1) ((m + 2) * ds.length + 2) (.list ds) := by
  obtain ⟨a, b, c, e⟩ := shw_all h
  refine ⟨a, b, ?_, ?_⟩
  · show PyData.depthAll ds + 1 ≤ _
    omega
  · have := list_le (PyData.shownAll ds)
    show (listText (PyData.shownAll ds)).length ≤ _
    omega
theorem Shw.tuple {k m : Nat} {ds : List PyData} (h : ∀ d ∈ ds, Shw k m d) : Shw (k + 1) ((m + 2) * ds.length + 3) (.tuple ds) := by
  obtain ⟨a, b, c, e⟩ := shw_all h
  refine ⟨a, b, ?_, ?_⟩
  · show PyData.depthAll ds + 1 ≤ _
    omega
  · show (tupleText (PyData.shownAll ds)).length ≤ _
    cases ds with
    | nil => exact Nat.le_trans (show (tupleText []).length ≤ 3 by decide +kernel) (by omega)
    | cons d ds =>
      have := tuple_le (ts := PyData.shownAll (d :: ds)) (by intro z; cases z)
      omega
/-- fit to be shown -/
def Fit (d : PyData) : Prop := d.showable = true ∧ d.hasDict = false ∧ d.depth ≤ 64 ∧ d.shown.length ≤ sizeLine
theorem Shw.fit {k m : Nat} {d : PyData} (w : Shw k m d) (h1 : k ≤ 64 := by decide) (h2 : m ≤ 16777216 := by decide) : Fit d := ⟨w.ws, w.wh, Nat.le_trans w.wd h1, Nat.le_trans w.wz h2⟩
end Gd

/-! max(xs, default=d) of a list of ints -/
namespace MxD
open PySem PyProof.Rows
theorem argsD (a d : Value) : argsOk "max" ⟨[a], [(Str.ofString "default", d)]⟩ := by unfold argsOk; kernel_rfl
theorem nm : (toString "max" ++ toString ".loop" : String) = "max.loop" := by decide
section
variable {prog : Program} {w : World} {A : Around} {R : Result → Shared → Prop} {I S : Addr} {fp wr : List Addr} {n : Nat} {P : Nat → Value → Prop} {St : Nat → Heap → Prop} {d : Value}
abbrev Lp (I S : Addr) (d : Value) : Code := .builtin "max.loop" ⟨[.ref I, .none, .ref S], [(Str.ofString "default", d)]⟩
/-- the list that holds the best so far -/
abbrev bestO (xs : Array Value) (c : Nat) : Obj := { cls := .type "list", dict := none, data := .seq xs c, slots := #[] }
theorem turn (W : Walks prog w A.in1 I fp wr n P St) (bt : Nat → Nat → Bool) (hc : CmpOf prog w A.in1 .Gt P bt) (no : S ∉ fp) : ∀ (m j : Nat) (s : Shared) (u : Value) (c : Nat),
    j + 1 + m = n → St (j + 1) s.heap → P (argBest bt j) u → s.heap.get? S = some (bestO #[u, u] c) →
    (∀ v h t, P (argBest bt (n - 1)) v → (∀ b o, b ∉ wr → b ≠ S → s.heap.get? b = some o → h.get? b = some o) → R (.ok (.ret v)) { s with heap := h, toks := t }) →
    codeAny (model prog w) A (Lp I S d) R s := by
  have nw : S ∉ wr := fun z => no (W.sub _ z)
  intro m
  induction m with
  | zero =>
    intro j s u c e x p g q
    refine codeAny_builtin F.entry_max_loop ?_
    rw [Around.under_plainId F.plain_max_loop _]
    show wpAny _ _ (seqItems? (.ref S) >>= _) _ _ _
    refine wpAny_bind (wpAny_seqItems g rfl ?_)
    show wpAny _ _ (tryCatch (pyNext (.ref I)) _ >>= _) _ _ _
    refine wpAny_bind (wpAny_tryCatch (W.done s _ _ (e ▸ x) fun h t k => ?_))
    have g' := k S _ nw g
    show wpAny _ _ (updateSeq S _ >>= _) _ _ _
    refine wpAny_bind ?_
    refine wpAny_updateSeq g' rfl (wpAny_bind (wpAny_letGo (wpAny_pure ?_)))
    exact q u _ t (by rw [← e]; exact p) fun b o z1 z2 y => (Heap.get?_update_other _ _ (Ne.symm z2)).trans (k b o z1 y)
  | succ m ih =>
    intro j s u c e x p g q
    refine codeAny_builtin F.entry_max_loop ?_
    rw [Around.under_plainId F.plain_max_loop _]
    show wpAny _ _ (seqItems? (.ref S) >>= _) _ _ _
    refine wpAny_bind (wpAny_seqItems g rfl ?_)
    show wpAny _ _ (tryCatch (pyNext (.ref I)) _ >>= _) _ _ _
    refine wpAny_bind (wpAny_tryCatch (W.item (j + 1) s _ _ (by omega) x fun v h t pv x' k => ?_))
    have g' := k S _ nw g
    show wpAny _ _ (tryCatch (holding [v, v] (richCompare .Gt v u >>= _)) _ >>= _) _ _ _
    refine wpAny_bind (wpAny_tryCatch (wpAny_holding (wpAny_bind (hc (j + 1) (argBest bt j) v u _ _ _ pv p ?_))))
    refine wpAny_bind (wpAny_holding (wpAny_truthy_bool ?_))
    refine wpAny_bind (wpAny_letGo (wpAny_pure ?_))
    by_cases hb : bt (j + 1) (argBest bt j) = true
    · rw [hb]
      simp only [if_true]
      refine wpAny_bind ?_
      refine wpAny_updateSeq g' rfl (wpAny_bind (wpAny_letGo ?_))
      rw [nm]
      have pb : P (argBest bt (j + 1)) v := by
        show P (if _ then _ else _) v
        rw [if_pos hb]
        exact pv
      refine wpAny_pure ⟨plainId_quiet F.plain_max_loop _, ih (j + 1) _ v _ (by omega) (W.frame _ _ _ x' fun b z o y => ?_) pb (Heap.get?_update_self _ g' rfl) fun v2 h2 t2 p2 k2 => ?_⟩
      · exact (Heap.get?_update_other _ _ (fun z' : S = b => no (by rw [z']; exact z))).trans y
      · exact q v2 h2 t2 p2 fun b o z1 z2 y => k2 b o z1 z2 ((Heap.get?_update_other _ _ (Ne.symm z2)).trans (k b o z1 y))
    · have hb : bt (j + 1) (argBest bt j) = false := by simpa using hb
      rw [hb]
      simp only [Bool.false_eq_true, if_false]
      refine wpAny_bind (wpAny_letGo ?_)
      rw [nm]
      have pb : P (argBest bt (j + 1)) u := by
        show P (if _ then _ else _) u
        rw [hb]
        exact p
      refine wpAny_pure ⟨plainId_quiet F.plain_max_loop _, ih (j + 1) _ u c (by omega) x' pb g' fun v2 h2 t2 p2 k2 => ?_⟩
      exact q v2 h2 t2 p2 fun b o z1 z2 y => k2 b o z1 z2 (k b o z1 y)
theorem first (W : Walks prog w A.in1 I fp wr n P St) (bt : Nat → Nat → Bool) (hc : CmpOf prog w A.in1 .Gt P bt) (no : S ∉ fp) {s : Shared} {c : Nat} (x : St 0 s.heap) (g : s.heap.get? S = some (bestO #[] c))
    (q : 0 < n → ∀ v h t, P (argBest bt (n - 1)) v → (∀ b o, b ∉ wr → b ≠ S → s.heap.get? b = some o → h.get? b = some o) → R (.ok (.ret v)) { s with heap := h, toks := t })
    (q0 : n = 0 → ∀ h t, (∀ b o, b ∉ wr → b ≠ S → s.heap.get? b = some o → h.get? b = some o) → R (.ok (.ret d)) { s with heap := h, toks := t }) :
    codeAny (model prog w) A (Lp I S d) R s := by
  have nw : S ∉ wr := fun z => no (W.sub _ z)
  refine codeAny_builtin F.entry_max_loop ?_
  rw [Around.under_plainId F.plain_max_loop _]
  show wpAny _ _ (seqItems? (.ref S) >>= _) _ _ _
  refine wpAny_bind (wpAny_seqItems g rfl ?_)
  show wpAny _ _ (tryCatch (pyNext (.ref I)) _ >>= _) _ _ _
  by_cases hn : 0 < n
  · refine wpAny_bind (wpAny_tryCatch (W.item 0 s _ _ hn x fun v h t pv x' k => ?_))
    have g' := k S _ nw g
    show wpAny _ _ (updateSeq S _ >>= _) _ _ _
    refine wpAny_bind ?_
    refine wpAny_updateSeq g' rfl ?_
    rw [nm]
    refine wpAny_pure ⟨plainId_quiet F.plain_max_loop _, turn W bt hc no (n - 1) 0 _ v _ (by omega) (W.frame _ _ _ x' fun b z o y => ?_) pv (Heap.get?_update_self _ g' rfl) fun v2 h2 t2 p2 k2 => ?_⟩
    · exact (Heap.get?_update_other _ _ (fun z' : S = b => no (by rw [z']; exact z))).trans y
    · exact q hn v2 h2 t2 p2 fun b o z1 z2 y => k2 b o z1 z2 ((Heap.get?_update_other _ _ (Ne.symm z2)).trans (k b o z1 y))
  · have hn : n = 0 := by omega
    refine wpAny_bind (wpAny_tryCatch (W.done s _ _ (hn ▸ x) fun h t k => ?_))
    show wpAny _ _ (rule _ >>= _) _ _ _
    refine wpAny_bind (wpAny_rule (wpAny_pure ?_))
    exact q0 hn h t fun b o z1 z2 y => k b o z1 y
end
section
variable {prog : Program} {w : World} {A : Around} {E : Value → Shared → Prop} {s : Shared} {l : Addr} {its : List Value} {ns : List Int} {d : Value} {Q : Value → Shared → Prop}
theorem run (hh : A.handled = none) (hl : s.heap.IsList l its.toArray) (hi : IntsAre its ns)
    (h : ∀ h' t M t', (∀ b o, s.heap.get? b = some o → h'.get? b = some o) → M ∈ ns → (∀ a, a ∈ ns → a ≤ M) → Q (.int M t') { s with heap := h', toks := t })
    (h0 : ns = [] → ∀ h' t, (∀ b o, s.heap.get? b = some o → h'.get? b = some o) → Q d { s with heap := h', toks := t }) :
    wpAny (model prog w) A (call (.builtin "max") [.ref l] [(Str.ofString "default", d)]) Q E s := by
  obtain ⟨xs, e⟩ := hi.allInts.items
  have hn : numsOf (intItems xs).toList = ns := by rw [← e]; exact hi.numsOf
  rw [nums_intItems] at hn
  subst hn
  rw [e] at hl
  refine kmk_tree F.kind_max F.plain_max F.entry_max (argsD _ _) ?_
  show wpAny _ _ (Builtin.Builtins.bindParams "max" ["key", "default"] 0 ⟨[], [(Str.ofString "default", d)]⟩ >>= _) _ _ _
  refine wpAny_bind (wpAny_of_eq (show Builtin.Builtins.bindParams "max" ["key", "default"] 0 ⟨[], [(Str.ofString "default", d)]⟩ = pure [none, some d] from rfl) ?_)
  refine wpAny_bind (wpAny_pure ?_)
  refine wpAny_bind (iter_intList hl fun s2 e2 st fp li => ?_)
  subst e2
  refine wpAny_bind (wpAny_newObj_type ?_)
  rw [nm]
  have hz := Heap.size_push s.heap { cls := .type "list_iterator", data := .fields #[.ref l, .int 0 0] }
  have W := Walks.list (prog := prog) (w := w) (A := A.in1) hh s.heap.objs.size l li (intItems xs)
  refine wpAny_pure ⟨plainId_quiet F.plain_max_loop _, first W _ (CmpOf.ints_gt (numAt xs) fun _ _ => intItems_at) (fun z => Nat.lt_irrefl _ (fp _ z)) (W.frame _ _ _ st fun b _ o y => Heap.get?_push_of_some _ y) (Heap.get?_push_size _ rfl) (fun hn v h' t pv k => ?_) fun hn h' t k => ?_⟩
  · have hp : (intItems xs)[argBest (fun i j => decide (numAt xs i > numAt xs j)) (xs.size - 1)]? = some v := by simpa [intItems] using pv
    obtain ⟨tv, rfl⟩ := intItems_at hp
    obtain ⟨h1, h2⟩ := argBest_gt (numAt xs) (xs.size - 1)
    have hx : 0 < xs.size := by simpa [intItems] using hn
    refine h h' t _ tv (old_kept fun b o hb y => k b o hb (Nat.ne_of_lt (Heap.lt_size y)) (Heap.get?_push_of_some _ y)) ?_ fun a ha => ?_
    · rw [numAt_eq]
      exact PySem.getD_mem (by rw [List.length_map, Array.length_toList]; omega)
    · obtain ⟨j, hj, rfl⟩ := mem_getD ha
      rw [List.length_map, Array.length_toList] at hj
      rw [← numAt_eq]
      exact h2 j (by omega)
  · refine h0 ?_ h' t (old_kept fun b o hb y => k b o hb (Nat.ne_of_lt (Heap.lt_size y)) (Heap.get?_push_of_some _ y))
    have hx : xs.size = 0 := by simpa [intItems] using hn
    rw [Array.eq_empty_of_size_eq_zero hx]
    rfl
end
end MxD
namespace L2
open PySem PySem.Spec PyProof.Rows
def rMaxD0 (K : PySem.W.Frag) : List V → List V → Hp → VK → Prop := fun vs zs H Q => ∃ (a : Addr) (ns : List Int) (d : V), vs = [V.ref a] ∧ zs = [d] ∧ SqL K H a (ns.map V.int) ∧
  (∀ m, m ∈ ns → (∀ y, y ∈ ns → y ≤ m) → Q (.int m) H) ∧ (ns = [] → Q d H)
theorem cr_maxDef {X : Cx} (hc : X.calm = true) : CallRK X (.builtin "max") [Str.ofString "default"] (rMaxD0 X.K) := by
  intro pins s σ H vs zs us ws Q I r rz h
  obtain ⟨a, ns, d, rfl, rfl, hs, q, q0⟩ := h
  obtain ⟨its, rv, hl, _⟩ := I.list hs
  rw [Vals.ref1 r]
  obtain ⟨w1, rfl, e1⟩ := vals1 rz
  exact MxD.run (I.ok.hd hc) hl.isList rv.ints (fun h' t m t' hk h1 h2 => ⟨.int _, H, I.kept hk, ⟨_, rfl⟩, q m h1 h2⟩) fun hn h' t hk => ⟨d, H, I.kept hk, e1, q0 hn⟩
end L2

namespace Rd
open PySem PySem.Spec PyProof.Rows L2 GxR Gx Gd
def topS (i : Nat) : Stmt := PySem.Challenge.pw_remoteviews_k40_entries_read_back.main.body.getD i (.Pass ⟨0, 0, 0, 0⟩)
end Rd

namespace Rd
open PySem PySem.Spec PyProof.Rows L2 GxR Gx Gd
/-! ### the law's draws -/
abbrev s_law_cell : Stmt := topS 94
theorem sc_law_cell : FnScope ["script", "k"] ["script", "k"] (defScope s_law_cell) := ⟨rfl, rfl, rfl, by decide +kernel, rfl, by decide +kernel, by decide +kernel⟩
abbrev s_law_draw : Stmt := topS 96
theorem sc_law_draw : FnScope ["box", "many", "at"] ["box", "many"] (defScope s_law_draw) := ⟨rfl, rfl, rfl, by decide +kernel, rfl, by decide +kernel, by decide +kernel⟩
def Box (bx d : Addr) (H : Hp) : Prop := ∃ (xs : List V) (at' : Int), H bx = some (.lst [.ref d, .int at']) ∧ 0 ≤ at' ∧ H d = some (.lst xs) ∧ ∀ v ∈ xs, ∃ i, v = .int i
theorem Box.ne {bx d : Addr} {H : Hp} (h : Box bx d H) : d ≠ bx := fun e => by
  obtain ⟨xs, a, h1, h2, h3, h4⟩ := h
  rw [e, h1] at h3
  cases h3
  obtain ⟨i, e⟩ := h4 _ List.mem_cons_self
  cases e
theorem Box.lsts {bx d : Addr} {H : Hp} (h : Box bx d H) : Lsts [bx] H := fun b hb => by
  obtain ⟨xs, a, h1, _⟩ := h
  cases hb with
  | head => exact ⟨_, h1⟩
  | tail _ h => cases h
theorem Box.kb {S : List Addr} {bx d : Addr} {H H' : Hp} (h : Box bx d H) (k : Kb S H H') (n1 : bx ∉ S) (n2 : d ∉ S) : Box bx d H' := by
  obtain ⟨xs, a, h1, h2, h3, h4⟩ := h
  exact ⟨xs, a, k.keep bx _ h1 n1 nt_lst, h2, k.keep d _ h3 n2 nt_lst, h4⟩
theorem Box.kp {bx d : Addr} {H H' : Hp} (h : Box bx d H) (k : Kp H H') : Box bx d H' := h.kb k (by simp) (by simp)
theorem Box.upd {bx d D : Addr} {H : Hp} {o : HO} (h : Box bx d H) (n1 : D ≠ bx) (n2 : D ≠ d) : Box bx d (upd H D o) := by
  obtain ⟨xs, a, h1, h2, h3, h4⟩ := h
  exact ⟨xs, a, by rw [upd_ne n1.symm]; exact h1, h2, by rw [upd_ne n2.symm]; exact h3, h4⟩
theorem Box.new {bx d D : Addr} {H : Hp} (h : Box bx d H) (n : H D = none) : D ≠ bx ∧ D ≠ d := by
  obtain ⟨xs, a, h1, h2, h3, h4⟩ := h
  exact ⟨(ne_of_none h1 n).symm, (ne_of_none h3 n).symm⟩
/-- after some draws -/
def Aft (bx d : Addr) (H H' : Hp) : Prop := Kb [bx] H H' ∧ Box bx d H'
theorem Aft.trans {bx d : Addr} {H H1 H2 : Hp} (a : Aft bx d H H1) (b : Aft bx d H1 H2) : Aft bx d H H2 := ⟨a.1.trans b.1, b.2⟩
theorem Aft.of {bx d : Addr} {H H' : Hp} (b : Box bx d H) (k : Kp H H') : Aft bx d H H' := ⟨Kb.of k, b.kp k⟩
theorem Aft.refl {bx d : Addr} {H : Hp} (b : Box bx d H) : Aft bx d H H := ⟨Kb.refl H, b⟩
theorem Aft.new {bx d D : Addr} {H : Hp} {o : HO} (b : Box bx d H) (n : H D = none) : Aft bx d H (upd H D o) := Aft.of b (Kb.new n)
theorem Aft.mut {bx d D : Addr} {H H' : Hp} {o u : HO} (k : Aft bx d H H') (n : H D = none) (b : Box bx d H) (e : H' D = some u) (t : NoTab u) : Aft bx d H (upd H' D o) :=
  ⟨k.1.mut n (no_tab e t), k.2.upd (b.new n).1 (b.new n).2⟩
theorem Aft.dt {K : PySem.W.Frag} {bx d : Addr} {H H' : Hp} {v : V} {x : PyData} (k : Aft bx d H H') (b : Box bx d H) (h : Dt K H v x) : Dt K H' v x := h.kb k.1 b.lsts
theorem Aft.lst {bx d D : Addr} {H H' : Hp} {xs : List V} (k : Aft bx d H H') (e : H D = some (.lst xs)) (n : D ≠ bx) : H' D = some (.lst xs) := k.1.keep D _ e (by simpa using n) nt_lst
def spDraw : Sp := fun vs H Q _ => ∃ bx d many, vs = [.ref bx, .int many] ∧ 0 < many ∧ Box bx d H ∧ ∀ H' r, Aft bx d H H' → 0 ≤ r → r < many → Q (.int r) H'
def spCell (K : PySem.W.Frag) : Sp := fun vs H Q _ => ∃ (a : Addr) (ns : List Int) (k : Int), vs = [.ref a, .int k] ∧ 0 ≤ k ∧ SqL K H a (ns.map V.int) ∧ ∀ i, Q (.int i) H
section
variable {P : Program} {w : World} {K : PySem.W.Frag} {mg : Str → Option Value} {base : Heap}
theorem c_law_cell (D : DefAt K mg "_law_cell" s_law_cell ["script", "k"]) (m_len : mg "len" = none) : Cal P w K mg base CX0 1 "_law_cell" ["script", "k"] (spCell K) := by
  refine D.cal (k := 0) sc_law_cell (fun vs H Q E h => ?_) fun f cdv A outer s H vs Q E hr h => ?_
  · obtain ⟨a, ns, k, rfl, _⟩ := h
    rfl
  · obtain ⟨a, ns, k, rfl, h0, h, q⟩ := h
    refine ⟨_, (pss_cons (ps_if (pt_cmpR op_lt (pv 1) (pe_callB call_len_seq (by rfl) m_len (by decide +kernel) (pa_cons (pv 0) pa_nil)) (nomark _)) (pss_one (ps_ret (pe_ix ix_list (pv 0) (pv 1) (fun _ _ => rfl)))) pss_nil)
  (pss_one (ps_ret pe_int))), ?_⟩
    refine ⟨_, rfl, _, rfl, a, _, rfl, .inl h, k, _, rfl, rfl, _, rfl, ?_⟩
    by_cases hk : k < ((ns.map V.int).length : Int)
    · rw [decide_eq_true hk]
      obtain ⟨n, rfl⟩ : ∃ n : Nat, k = n := ⟨k.toNat, by omega⟩
      have hn : n < (ns.map V.int).length := by omega
      have e : (ns.map V.int)[n]? = some (.int (ns[n]'(by simpa using hn))) := by simp
      exact iteT ⟨_, rfl, _, rfl, a, _, _, _, rfl, rfl, h, atI_nat e, q _⟩
    · rw [decide_eq_false hk]
      exact iteF (q 0)
theorem c_law_draw (D : DefAt K mg "_law_draw" s_law_draw ["box", "many"]) (m_len : mg "len" = none) (m_int : mg "int" = none) : Cal P w K mg base CX0 1 "_law_draw" ["box", "many"] spDraw := by
  refine D.cal (k := 0) sc_law_draw (fun vs H Q E h => ?_) fun f cdv A outer s H vs Q E hr h => ?_
  · obtain ⟨bx, d, many, rfl, _⟩ := h
    rfl
  · obtain ⟨bx, d, many, rfl, hm, hb, q⟩ := h
    have hne := hb.ne
    obtain ⟨xs, n, h1, h2, h3, h4⟩ := hb
    refine ⟨_, (pss_cons (ps_set (i := 2) sc_law_draw.nd rfl (Or.inl rfl) (pe_ix ix_list (pv 0) pe_int (fun _ _ => rfl)))
  (pss_cons (ps_asg (pe_op op_add (pv 2) pe_int) (pg_sub (pv 0) pe_int set_list))
  (pss_cons (ps_if (pt_cmpR op_lt (pv 2) (pe_callB call_len_seq (by rfl) m_len (by decide +kernel) (pa_cons (pe_ix ix_list (pv 0) pe_int (fun _ _ => rfl)) pa_nil)) (nomark _)) (pss_one (ps_ret (pe_op op_mod (pe_callTy call_int1 (by rfl) m_int (by decide +kernel) (pa_cons (pe_ix ix_list (pe_ix ix_list (pv 0) pe_int (fun _ _ => rfl)) (pv 2) (fun _ _ => rfl)) pa_nil)) (pv 1)))) pss_nil)
  (pss_one (ps_ret (pe_op op_mod (pe_callTy call_int1 (by rfl) m_int (by decide +kernel) (pa_cons (pe_op op_add (pe_op op_mul (pv 2) pe_int) pe_int) pa_nil)) (pv 1))))))), ?_⟩
    refine ⟨.ref bx, rfl, bx, _, 1, _, rfl, rfl, .inl (.inl h1), atI_nat (j := 1) rfl, ?_⟩
    refine ⟨.int n, rfl, n, 1, rfl, rfl, .ref bx, rfl, bx, _, 1, 1, rfl, rfl, h1, rfl, ?_⟩
    have k1 : Aft bx d H (upd H bx (.lst [.ref d, .int (n + 1)])) := ⟨Kb.put (by simp) h1 nt_lst, xs, n + 1, upd_same, by omega, by rw [upd_ne hne]; exact h3, h4⟩
    have e1 : (upd H bx (.lst [.ref d, .int (n + 1)])) bx = some (.lst [.ref d, .int (n + 1)]) := upd_same
    have e2 : (upd H bx (.lst [.ref d, .int (n + 1)])) d = some (.lst xs) := by rw [upd_ne hne]; exact h3
    refine ⟨.int n, rfl, .ref bx, rfl, bx, _, 0, .ref d, rfl, rfl, .inl (.inl e1), atI_nat (j := 0) rfl, d, xs, rfl, .inl (.inl (.inl e2)), n, _, rfl, rfl, _, rfl, ?_⟩
    by_cases hk : n < (xs.length : Int)
    · rw [decide_eq_true hk]
      obtain ⟨j, rfl⟩ : ∃ j : Nat, n = j := ⟨n.toNat, by omega⟩
      have hj : j < xs.length := by omega
      obtain ⟨i, hi⟩ := h4 xs[j] (List.getElem_mem hj)
      have e : xs[j]? = some (.int i) := by rw [List.getElem?_eq_getElem hj, hi]
      exact iteT ⟨.ref bx, rfl, bx, _, 0, .ref d, rfl, rfl, .inl (.inl e1), atI_nat (j := 0) rfl, _, rfl, d, xs, j, .int i, rfl, rfl, .inl (.inl e2), atI_nat e, .inl ⟨i, rfl, _, rfl, i, many, rfl, rfl, hm, q _ _ k1 (Int.emod_nonneg _ (by omega)) (Int.emod_lt_of_pos _ hm)⟩⟩
    · rw [decide_eq_false hk]
      exact iteF ⟨_, rfl, n, 7, rfl, rfl, .inr (by decide), _, _, rfl, rfl, .inl ⟨_, rfl, _, rfl, _, many, rfl, rfl, hm, q _ _ k1 (Int.emod_nonneg _ (by omega)) (Int.emod_lt_of_pos _ hm)⟩⟩
end
abbrev s_law_digits : Stmt := topS 95
theorem sc_law_digits : FnScope ["script", "first", "last", "digits", "k", "cell", "place", "seed"] ["script", "first", "last"] (defScope s_law_digits) := ⟨rfl, rfl, rfl, by decide +kernel, rfl, by decide +kernel, by decide +kernel⟩
def spDigits (K : PySem.W.Frag) : Sp := fun vs H Q _ => ∃ (a : Addr) (ns : List Int) (last : Nat), vs = [.ref a, .int 0, .int (last : Int)] ∧ last ≤ 200 ∧ SqL K H a (ns.map V.int) ∧ ∀ (d : Addr) (H' : Hp) (xs : List V), H d = none → Kp H H' → H' d = some (.lst xs) → (∀ v ∈ xs, ∃ i, v = .int i) → Q (.ref d) H'
/-- the list at D holds at most n ints, all else stands -/
def Dg (H0 : Hp) (D : Addr) (n : Nat) (H : Hp) : Prop := ∃ xs : List V, xs.length ≤ n ∧ (∀ v ∈ xs, ∃ i, v = .int i) ∧ Kp H0 H ∧ H D = some (.lst xs)
theorem Dg.push {H0 H : Hp} {D : Addr} {n : Nat} {xs : List V} {i : Int} (h0 : H0 D = none) (hl : xs.length ≤ n) (hi : ∀ v ∈ xs, ∃ i, v = .int i) (k : Kp H0 H) (e : H D = some (.lst xs)) : Dg H0 D (n + 1) (upd H D (.lst (xs ++ [.int i]))) :=
  ⟨xs ++ [.int i], by simp; exact hl, fun v hv => by
    rcases List.mem_append.mp hv with h | h
    · exact hi v h
    · exact ⟨i, by simpa using h⟩, k.mut h0 (no_tab e nt_lst), upd_same⟩
theorem Dg.mono {H0 H : Hp} {D : Addr} {n m : Nat} (h : Dg H0 D n H) (l : n ≤ m) : Dg H0 D m H := let ⟨xs, a, r⟩ := h; ⟨xs, Nat.le_trans a l, r⟩
theorem iteC {b : Bool} {A B : Prop} (h1 : A) (h2 : B) : if b = true then A else B := by
  cases b with
  | true => exact iteT h1
  | false => exact iteF h2
theorem cell_pos {R r k l} {b : Bool} {σ : L2.St} {H : Hp} {c : Int} (hs : σ[5]? = some (some (.int c))) (hσ : σ.set 5 (some (.int c)) = σ) (h : ∀ c', R (σ.set 5 (some (.int c'))) H) :
    if b = true then tAsg (tOp (rI0 fun i j => V.int (i - j)) (tC (V.int 1)) (tOp (rI CMul fun i j => V.int (i * j)) (tC (V.int 2)) (tVar 5))) (gName 5) ⟨R, r, k, l⟩ σ H else tNext ⟨R, r, k, l⟩ σ H := by
  cases b with
  | true => exact iteT ⟨_, hs, 2, c, rfl, rfl, .inl (by decide), 1, _, rfl, rfl, h _⟩
  | false =>
    refine iteF ?_
    have z := h c
    rw [hσ] at z
    exact z
section
variable {P : Program} {w : World} {K : PySem.W.Frag} {mg : Str → Option Value} {base : Heap}
theorem c_law_digits (D : DefAt K mg "_law_digits" s_law_digits ["script", "first", "last"]) (m_range : mg "range" = none) (m_int : mg "int" = none)
    (c__law_cell : Cal P w K mg base CX0 1 "_law_cell" ["script", "k"] (spCell K)) : Cal P w K mg base CX0 2 "_law_digits" ["script", "first", "last"] (spDigits K) := by
  refine D.cal (k := 1) sc_law_digits (fun vs H Q E h => ?_) fun f cdv A outer s H vs Q E hr h => ?_
  · obtain ⟨bx, d, last, rfl, _⟩ := h
    rfl
  · obtain ⟨a, ns, last, rfl, h200, ha, q⟩ := h
    refine ⟨_, (pss_cons (ps_set (i := 3) sc_law_digits.nd rfl (Or.inl rfl) (pe_lst pa_nil))
  (pss_cons (ps_for PassesOwn.never rfl (pi_range2 (by rfl) m_range (pa_cons (pv 1) (pa_cons (pv 2) pa_nil))) (pg_name (i := 4) sc_law_digits.nd rfl (Or.inl rfl)) (pss_cons (ps_set (i := 5) sc_law_digits.nd rfl (Or.inl rfl) (pe_cal (c__law_cell.mono (by omega)) hr (by rfl) (pa_cons (pv 0) (pa_cons (pv 4) pa_nil))))
  (pss_cons (ps_if (pt_cmpR op_lt (pv 5) pe_int (nomark _)) (pss_one (ps_set (i := 5) sc_law_digits.nd rfl (Or.inl rfl) (pe_op op_sub pe_int (pe_op op_mul pe_int (pv 5))))) pss_nil)
  (pss_one (ps_if (pt_cmpR op_ge (pv 5) (pe_op op_pow pe_int pe_int) (nomark _)) (pss_one (ps_for PassesOwn.never rfl (pi_range1 (by rfl) m_range (pa_cons pe_int pa_nil)) (pg_name (i := 6) sc_law_digits.nd rfl (Or.inl rfl)) (pss_one (ps_if (pt_cmpR op_gt (pv 5) pe_int (nomark _)) (pss_cons (ps_expr (pe_bm PySem.F.plainAttrs_list PySem.F.slot_list_append PySem.F.type_list_append mt_append (pv 3) (pa_cons (pe_op op_mod (pe_callTy call_int1 (by rfl) m_int (by decide +kernel) (pa_cons (pv 5) pa_nil)) pe_int) pa_nil)))
  (pss_one (ps_set (i := 5) sc_law_digits.nd rfl (Or.inl rfl) (pe_op op_fdiv (pv 5) pe_int)))) pss_nil)))) (pss_cons (ps_set (i := 7) sc_law_digits.nd rfl (Or.inl rfl) (pe_op op_mod (pe_callTy call_int1 (by rfl) m_int (by decide +kernel) (pa_cons (pe_op op_add (pe_op op_add (pe_op op_mul (pv 5) pe_int) (pe_op op_mul (pv 4) pe_int)) pe_int) pa_nil)) pe_int))
  (pss_one (ps_for PassesOwn.never rfl (pi_range1 (by rfl) m_range (pa_cons pe_int pa_nil)) (pg_name (i := 6) sc_law_digits.nd rfl (Or.inl rfl)) (pss_cons (ps_set (i := 7) sc_law_digits.nd rfl (Or.inl rfl) (pe_op op_mod (pe_callTy call_int1 (by rfl) m_int (by decide +kernel) (pa_cons (pe_op op_add (pe_op op_add (pe_op op_mul (pv 7) pe_int) (pe_op op_mul pe_int (pv 6))) pe_int) pa_nil)) pe_int))
  (pss_one (ps_expr (pe_bm PySem.F.plainAttrs_list PySem.F.slot_list_append PySem.F.type_list_append mt_append (pv 3) (pa_cons (pe_op op_mod (pe_callTy call_int1 (by rfl) m_int (by decide +kernel) (pa_cons (pe_op op_fdiv (pv 7) pe_int) pa_nil)) pe_int) pa_nil)))))))))))))
  (pss_one (ps_ret (pv 3))))), ?_⟩
    refine ⟨Nat.zero_le _, fun D hD => ⟨.int 0, rfl, .int (last : Int), rfl, 0, (last : Int), rfl, by omega, ?_⟩⟩
    refine ⟨fun i m σ H' => m = last - i ∧ i ≤ last ∧ (∃ o1 o2 o3 o4, σ = [some (.ref a), some (.int 0), some (.int (last : Int)), some (.ref D), o1, o2, o3, o4]) ∧ Dg H D (60 * i) H', ⟨_, rfl, Nat.zero_le _, ⟨none, none, none, none, rfl⟩, [], Nat.le_refl _, (fun _ h => by cases h), Kb.new hD, upd_same⟩, ?_⟩
    rintro i m σ H1 ⟨rfl, hi, ⟨o1, o2, o3, o4, rfl⟩, g⟩
    by_cases hl : i < last
    · refine .inr ⟨hl, fun σ' H' => (∃ o1 o2 o3 o4, σ' = [some (.ref a), some (.int 0), some (.int (last : Int)), some (.ref D), o1, o2, o3, o4]) ∧ Dg H D (60 * (i + 1)) H', fun σ' H' ⟨e1, e2⟩ => ⟨_, by omega, rfl, hl, e1, e2⟩, ?_⟩
      rintro x H2 ⟨rfl, rfl⟩
      have hsq : SqL K H2 a (ns.map V.int) := by
        obtain ⟨xs, _, _, k, e⟩ := g
        rcases ha with (ha | ⟨o, ha⟩) | ha
        · exact .inl (.inl (k.keep a _ ha (by simp) nt_lst))
        · exact .inl (.inr ⟨o, k.keep a _ ha (by simp) nt_frz⟩)
        · exact .inr ha
      refine ⟨.ref a, rfl, .int (0 + i), rfl, a, ns, _, rfl, by omega, hsq, fun c => ?_⟩
      refine ⟨_, rfl, c, 0, rfl, rfl, ?_⟩
      refine ⟨_, rfl, cell_pos rfl rfl fun c => ?_⟩
      refine ⟨_, rfl, 10, 18, rfl, rfl, ⟨by decide, by decide, by decide⟩, c, 10 ^ 18, rfl, rfl, ?_⟩
      refine ⟨_, rfl, ?_⟩
      refine iteC ?_ ?_
      · refine ⟨60, rfl, by decide, by decide, ?_⟩
        refine ⟨fun j m σ H' => m = 60 - j ∧ j ≤ 60 ∧ (∃ o1 c o3 o4, σ = [some (.ref a), some (.int 0), some (.int (last : Int)), some (.ref D), o1, some (.int c), o3, o4]) ∧ Dg H D (60 * i + j) H', ⟨_, rfl, Nat.zero_le _, ⟨_, _, _, _, rfl⟩, g⟩, ?_⟩
        rintro j m σ H3 ⟨rfl, hj, ⟨o1, c, o3, o4, rfl⟩, g⟩
        by_cases hl : j < 60
        · refine .inr ⟨hl, fun σ' H' => (∃ o1 c o3 o4, σ' = [some (.ref a), some (.int 0), some (.int (last : Int)), some (.ref D), o1, some (.int c), o3, o4]) ∧ Dg H D (60 * i + (j + 1)) H', fun σ' H' ⟨e1, e2⟩ => ⟨_, by omega, rfl, hl, e1, e2⟩, ?_⟩
          rintro x H4 ⟨rfl, rfl⟩
          refine ⟨_, rfl, c, 0, rfl, rfl, _, rfl, ?_⟩
          refine iteC ?_ ?_
          · obtain ⟨xs, h1, h2, h3, h4⟩ := g
            refine ⟨.ref D, rfl, .inl ⟨rfl, _, .inl (.inl h4)⟩, _, rfl, .inl ⟨c, rfl, c, 1000, rfl, rfl, by show (0 : Int) < 1000; decide, D, xs, _, rfl, rfl, h4, ?_, ?_⟩⟩
            · have : sizeLine = 16777216 := rfl
              omega
            · exact ⟨_, rfl, c, 1000, rfl, rfl, ⟨by decide, by decide⟩, ⟨_, _, _, _, rfl⟩, Dg.push hD h1 h2 h3 h4⟩
          · exact ⟨⟨_, _, _, _, rfl⟩, g.mono (by omega)⟩
        · exact .inl ⟨by show 60 ≤ j; omega, ⟨_, _, _, _, rfl⟩, g.mono (by omega)⟩
      · refine ⟨_, rfl, c, 48271, rfl, rfl, .inr (by decide), _, rfl, _, 69621, rfl, rfl, .inr (by decide), _, _, rfl, rfl, _, _, rfl, rfl, .inl ⟨_, rfl, _, 2147483647, rfl, rfl, by show (0 : Int) < 2147483647; decide, ?_⟩⟩
        refine ⟨12, rfl, by decide, by decide, ?_⟩
        refine ⟨fun j m σ H' => m = 12 - j ∧ j ≤ 12 ∧ (∃ o1 o2 o3 c, σ = [some (.ref a), some (.int 0), some (.int (last : Int)), some (.ref D), o1, o2, o3, some (.int c)]) ∧ Dg H D (60 * i + j) H', ⟨_, rfl, Nat.zero_le _, ⟨_, _, _, _, rfl⟩, g⟩, ?_⟩
        rintro j m σ H3 ⟨rfl, hj, ⟨o1, o2, o3, c, rfl⟩, g⟩
        by_cases hl : j < 12
        · refine .inr ⟨hl, fun σ' H' => (∃ o1 o2 o3 c, σ' = [some (.ref a), some (.int 0), some (.int (last : Int)), some (.ref D), o1, o2, o3, some (.int c)]) ∧ Dg H D (60 * i + (j + 1)) H', fun σ' H' ⟨e1, e2⟩ => ⟨_, by omega, rfl, hl, e1, e2⟩, ?_⟩
          rintro x H4 ⟨rfl, rfl⟩
          refine ⟨_, rfl, c, 16807, rfl, rfl, .inr (by decide), _, rfl, 7, _, rfl, rfl, .inl (by decide), _, _, rfl, rfl, _, _, rfl, rfl, .inl ⟨_, rfl, _, 2147483647, rfl, rfl, by show (0 : Int) < 2147483647; decide, ?_⟩⟩
          obtain ⟨xs, h1, h2, h3, h4⟩ := g
          refine ⟨.ref D, rfl, .inl ⟨rfl, _, .inl (.inl h4)⟩, _, rfl, _, 997, rfl, rfl, ⟨by decide, by decide⟩, .inl ⟨_, rfl, _, 1000, rfl, rfl, by show (0 : Int) < 1000; decide, D, xs, _, rfl, rfl, h4, ?_, ?_⟩⟩
          · have : sizeLine = 16777216 := rfl
            omega
          · exact ⟨⟨_, _, _, _, rfl⟩, Dg.push hD h1 h2 h3 h4⟩
        · exact .inl ⟨by show 12 ≤ j; omega, ⟨_, _, _, _, rfl⟩, g.mono (by omega)⟩
    · obtain ⟨xs, h1, h2, h3, h4⟩ := g
      refine .inl ⟨by show ((last : Int) - 0).toNat ≤ _; omega, ?_⟩
      exact ⟨_, rfl, q D H1 xs hD h3 h4 h2⟩
end

end Rd

/-! The law of entries. -/
namespace Rw
open PySem PySem.Spec PyProof.Rows L2 GxR Gx Gd Rx Rs
abbrev s_law : Stmt := topS 107
theorem sc_law : FnScope ["script", "box", "turn", "entry", "line", "wrong"] ["script"] (defScope s_law) := ⟨rfl, rfl, rfl, by decide +kernel, rfl, by decide +kernel, by decide +kernel⟩
def spSameE (K : PySem.W.Frag) : Sp := fun vs H Q _ => ∃ (u1 u2 : V) (d : PyData), vs = [u1, u2] ∧ Dt K H u1 d ∧ Dt K H u2 d ∧ Fit d ∧ Q (.bl true) H
theorem ch_lt {c : Nat} (h : (isChar c || decide (c = 10)) = true) : c < 1114112 := by
  rw [Bool.or_eq_true, decide_eq_true_eq] at h
  rcases h with h | h
  · unfold isChar at h
    rw [Bool.and_eq_true, rg] at h
    omega
  · omega
theorem shw_w (s : String) (h : (Str.ofString s).length ≤ 40 ∧ (Str.ofString s).cps.toList.all (fun c => decide (c < 1114112)) = true) : Shw 0 402 (.str (Str.ofString s)) := Shw.str (n := 40) h.1 fun c hc => of_decide_eq_true (List.all_eq_true.mp h.2 c hc)
theorem shw_l {l : List Nat} (h : l.all (fun c => isChar c || decide (c = 10)) = true) (hl : l.length ≤ 40) : Shw 0 402 (.str (sx l)) := Shw.str (n := 40) (by rw [sx_len]; exact hl) fun c hc => by rw [sx_tl] at hc; exact ch_lt (List.all_eq_true.mp h c hc)
theorem shw_2 {a b : PyData} {k m : Nat} (h1 : Shw k m a) (h2 : Shw k m b) : Shw (k + 1) ((m + 2) * 2 + 3) (.tuple [a, b]) := Shw.tuple (ds := [a, b]) fun d hd => by
  rcases List.mem_cons.mp hd with rfl | hd
  · exact h1
  · rw [List.mem_singleton.mp hd]; exact h2
theorem txt_shw {x : Str} (h : x.length ≤ 40) (hc : x.cps.toList.all isChar = true) : Shw 0 402 (.str x) := Shw.str (n := 40) h fun c hm => ch_lt (by rw [List.all_eq_true.mp hc c hm]; rfl)
theorem sc_shw {s : Rv.Sc} (g : s.good) : Shw 1 811 s.d := by
  cases s with
  | none => exact (Shw.tuple (ds := [.str (Str.ofString "none")]) fun d hd => by rw [List.mem_singleton.mp hd]; exact shw_w "none" (by decide +kernel)).mono (Nat.le_refl _) (by show (402 + 2) * 1 + 3 ≤ 811; omega)
  | bool b => exact shw_2 (shw_w "bool" (by decide +kernel)) (Shw.bl.mono (Nat.le_refl _) (by omega))
  | int i =>
    have g : 0 ≤ i ∧ i ≤ 999999 := g
    obtain ⟨n, rfl⟩ : ∃ n : Nat, i = n := ⟨i.toNat, by omega⟩
    exact shw_2 (shw_w "int" (by decide +kernel)) ((Shw.nat (n := n) (by omega)).mono (Nat.le_refl _) (by omega))
  | text x => exact shw_2 (shw_w "text" (by decide +kernel)) (txt_shw g.1 g.2)
theorem key_len {x : Str} (h : Rv.keyOk x) : x.length ≤ 12 ∧ x.cps.toList.all isChar = true := by
  obtain ⟨h1, h2⟩ := h
  have h1 : (decide (1 ≤ (x.length : Int)) && decide ((x.length : Int) ≤ 12) && x.cps.toList.all Rv.isChar) = true := h1
  rw [Bool.and_eq_true, Bool.and_eq_true, decide_eq_true_eq, decide_eq_true_eq] at h1
  exact ⟨by omega, h1.2⟩
theorem va_shw' {va : Va} (g : va.good) : Shw 4 30000 va.d := by
  cases va with
  | s s => exact (sc_shw (s := s) g).mono (by omega) (by omega)
  | m ps =>
    have g : Rv.Ents ps := g
    have e : ∀ d ∈ ps.map Rv.ent, Shw 2 1629 d := fun d hd => by
      obtain ⟨p, hp, rfl⟩ := List.mem_map.mp hd
      have ok := g.ok p hp
      have kl := key_len ok.1
      exact shw_2 ((txt_shw (x := p.1) (by omega) kl.2).mono (by omega) (by omega)) (sc_shw ok.2)
    have h1 := Shw.tuple e
    have h8 := g.len
    have h2 : Shw 3 13051 (.tuple (ps.map Rv.ent)) := h1.mono (Nat.le_refl _) (by rw [List.length_map]; have := Nat.mul_le_mul_left (1629 + 2) h8; omega)
    exact (shw_2 ((shw_w "map" (by decide +kernel)).mono (by omega) (by omega)) h2).mono (Nat.le_refl _) (by omega)
theorem nm_ch {l : List Nat} (h : isNameL l = true) : l.all (fun c => isChar c || decide (c = 10)) = true := by
  have hr := name_run h
  refine List.all_eq_true.mpr fun c hc => ?_
  have := List.all_eq_true.mp hr c hc
  unfold isRun isSmall isDigit at this
  rw [Bool.or_eq_true, Bool.or_eq_true, rg, rg, rg] at this
  unfold isChar
  rw [Bool.or_eq_true, Bool.and_eq_true, rg]
  left
  refine ⟨by omega, ?_⟩
  simp
  omega
theorem pv_shw : ∀ {p : Pv}, p.ok → Shw 4 30000 p.d
  | .name l, h => (shw_l (nm_ch h) (by have := name_len h; omega)).mono (by omega) (by omega)
  | .num n, h => (Shw.nat (n := n) h).mono (by omega) (by omega)
  | .quo l, h => (shw_l h.1 h.2).mono (by omega) (by omega)
  | .sc s, h => (sc_shw (s := s) h).mono (by omega) (by omega)
  | .out l, h => (shw_l (nm_ch (List.all_eq_true.mp outs_name l h)) (by have := name_len (List.all_eq_true.mp outs_name l h); omega)).mono (by omega) (by omega)
  | .val va, h => va_shw' (va := va) h
theorem en_fit {w : String} {pvs : List Pv} (h : EnOk w pvs) : Fit (enD w pvs) := by
  have hf := List.all_eq_true.mp form_small _ h.1
  rw [Bool.and_eq_true] at hf
  have l5 : pvs.length ≤ 5 := by have := of_decide_eq_true hf.1; rwa [List.length_map] at this
  have hw : Shw 0 402 (.str (Str.ofString w)) := by
    have := shw_l (nm_ch hf.2) (by have := name_len hf.2; omega)
    rwa [show sx (cs w) = Str.ofString w from sx_of _] at this
  have := Shw.tuple (k := 4) (m := 30000) (ds := .str (Str.ofString w) :: pvs.map Pv.d) fun d hd => by
    rcases List.mem_cons.mp hd with rfl | hd
    · exact hw.mono (by omega) (by omega)
    · obtain ⟨p, hp, rfl⟩ := List.mem_map.mp hd
      exact pv_shw (h.2 p hp)
  exact (this.mono (b' := 200000) (Nat.le_refl _) (by rw [List.length_cons, List.length_map]; have := Nat.mul_le_mul_left (30000 + 2) (show pvs.length + 1 ≤ 6 by omega); omega)).fit
theorem pair_len2 {p : Str × Rv.Sc} (g : Rv.keyOk p.1 ∧ p.2.good) : (pairT p).length ≤ 200 := by
  have h1 := (key_len g.1).1
  have h2 := quo_len p.1.cps.toList
  have h3 := scT_len g.2
  have h4 : p.1.cps.toList.length = p.1.length := by simp [Str.length]
  show (quoL p.1.cps.toList ++ 44 :: 32 :: scT p.2).length ≤ 200
  rw [List.length_append, List.length_cons, List.length_cons]
  omega
theorem beh_len2 : ∀ l : List (Str × Rv.Sc), (∀ p ∈ l, Rv.keyOk p.1 ∧ p.2.good) → (behL (l.map pairT)).length ≤ 202 * l.length
  | [], _ => Nat.le_refl _
  | p :: l, h => by
    have h1 := pair_len2 (h p List.mem_cons_self)
    have h2 := beh_len2 l fun q hq => h q (List.mem_cons_of_mem _ hq)
    show ((44 :: 32 :: pairT p) ++ behL (l.map pairT)).length ≤ 202 * (l.length + 1)
    rw [List.length_append, List.length_cons, List.length_cons]
    omega
theorem vaT_len2 {va : Va} (g : va.good) : (vaT va).length ≤ 2000 := by
  cases va with
  | s s => have := scT_len (s := s) g; show (scT s).length ≤ _; omega
  | m ps =>
    have g : Rv.Ents ps := g
    have h1 := beh_len2 ps g.ok
    have h2 := g.len
    have e : vaT (.m ps) = cs "map" ++ 40 :: (comL (ps.map pairT) ++ [41]) := by
      show cs "map" ++ 40 :: (comL (ps.flatMap fun p => [quoL p.1.cps.toList, scT p.2]) ++ [41]) = _
      rw [comL_pairs]
    have h3 : (comL (ps.map pairT)).length ≤ (behL (ps.map pairT)).length := by
      cases ps with
      | nil => exact Nat.le_refl _
      | cons p ps =>
        have : (behL ((p :: ps).map pairT)).length = (comL ((p :: ps).map pairT)).length + 2 := rfl
        omega
    have h4 : (cs "map").length = 3 := by decide +kernel
    rw [e, List.length_append, List.length_cons, List.length_append, h4]
    show 3 + (_ + 1 + 1) ≤ _
    omega
theorem pv_tlen : ∀ {p : Pv}, p.ok → (tW true p.ss).length ≤ 2000
  | .name l, h => by show (tW true [.name l]).length ≤ _; rw [tW1]; have := name_len h; show l.length ≤ _; omega
  | .num n, h => by
    show (tW true [.num n]).length ≤ _
    rw [tW1]
    have := dec_len (n := n) h
    show ((Str.ofString (toString (n : Int))).cps.toList).length ≤ _
    rw [Array.length_toList]
    exact Nat.le_trans this (by decide)
  | .quo l, h => by show (tW true [.quo l]).length ≤ _; rw [tW1]; have := quo_len l; have := h.2; show (quoL l).length ≤ _; omega
  | .sc s, h => by show (tW true [scS s]).length ≤ _; rw [tW1]; have := scT_len (s := s) h; show (scT s).length ≤ _; omega
  | .out l, h => by show (tW true [.name l]).length ≤ _; rw [tW1]; have := name_len (List.all_eq_true.mp outs_name l h); show l.length ≤ _; omega
  | .val va, h => by show (tW true (vaS va)).length ≤ _; rw [va_text]; exact vaT_len2 h
theorem en_tlen {w : String} {pvs : List Pv} (h : EnOk w pvs) : (tW true (enS w pvs)).length ≤ 20000 := by
  have hf := List.all_eq_true.mp form_small _ h.1
  rw [Bool.and_eq_true] at hf
  have l5 : pvs.length ≤ 5 := by have := of_decide_eq_true hf.1; rwa [List.length_map] at this
  have ln : (cs w).length ≤ 12 := name_len hf.2
  have : ∀ (l : List Pv), (∀ p ∈ l, p.ok) → (l.flatMap fun p => 32 :: tW true p.ss).length ≤ 2001 * l.length := fun l => by
    induction l with
    | nil => intro _; exact Nat.le_refl _
    | cons p l ih =>
      intro h
      have h1 := pv_tlen (h p List.mem_cons_self)
      have h2 := ih fun q hq => h q (List.mem_cons_of_mem _ hq)
      rw [List.flatMap_cons, List.length_append, List.length_cons, List.length_cons]
      omega
  have h3 := this pvs h.2
  rw [en_text h, List.length_append]
  omega
theorem lim_en {w : String} {pvs : List Pv} (h : EnOk w pvs) : Lim (tW true (enS w pvs)) := ⟨by have := en_tlen h; omega, fun n => Nat.le_trans (text_runs (en_good h).1 n) (by decide)⟩
theorem run_app (a t : List Nat) : (runOf (a ++ t)).length ≤ (runOf a).length + t.length := by
  unfold runOf
  induction a with
  | nil => rw [List.nil_append]; have := (List.takeWhile_prefix isRun (l := t)).length_le; simp; omega
  | cons c a ih =>
    rw [List.cons_append]
    by_cases h : isRun c = true
    · rw [List.takeWhile_cons_of_pos h, List.takeWhile_cons_of_pos h, List.length_cons, List.length_cons]; omega
    · rw [List.takeWhile_cons_of_neg h, List.takeWhile_cons_of_neg h]; simp
def Rn (l : List Nat) : Prop := ∀ n, (runOf (l.drop n)).length ≤ 100
theorem rn_app {a t : List Nat} (h : ∀ n, (runOf (a.drop n)).length ≤ 90) (ht : t.length ≤ 10) : Rn (a ++ t) := fun n => by
  rw [List.drop_append]
  have h1 := run_app (a.drop n) (t.drop (n - a.length))
  have h2 := h n
  have h3 : (t.drop (n - a.length)).length ≤ t.length := by rw [List.length_drop]; omega
  omega
theorem rn_cons {a : List Nat} {c : Nat} (h : ∀ n, (runOf (a.drop n)).length ≤ 90) : Rn (c :: a) := fun n => by
  cases n with
  | zero =>
    have := run_app [c] a
    show (runOf (c :: a)).length ≤ 100
    have h0 := h 0
    unfold runOf
    by_cases hc : isRun c = true
    · rw [List.takeWhile_cons_of_pos hc, List.length_cons]; have : (a.takeWhile isRun).length ≤ 90 := h0; omega
    · rw [List.takeWhile_cons_of_neg hc]; simp
  | succ n => have := h n; show (runOf (a.drop n)).length ≤ 100; omega
theorem run_dbl : ∀ l : List Nat, runOf (dblSp l) = runOf l
  | [] => rfl
  | c :: r => by
    show runOf (if c = 32 then 32 :: 32 :: r else c :: dblSp r) = _
    by_cases h : c = 32
    · subst h
      rw [if_pos rfl]
      unfold runOf
      rw [List.takeWhile_cons_of_neg (by decide), List.takeWhile_cons_of_neg (by decide)]
    · rw [if_neg h]
      unfold runOf
      by_cases hc : isRun c = true
      · rw [List.takeWhile_cons_of_pos hc, List.takeWhile_cons_of_pos hc]
        have := run_dbl r
        unfold runOf at this
        rw [this]
      · rw [List.takeWhile_cons_of_neg hc, List.takeWhile_cons_of_neg hc]
theorem rn_dbl : ∀ {l : List Nat}, (∀ n, (runOf (l.drop n)).length ≤ 90) → ∀ n, (runOf ((dblSp l).drop n)).length ≤ 90
  | [], h, n => h n
  | c :: r, h, 0 => by
    have := h 0
    show (runOf (dblSp (c :: r))).length ≤ 90
    rw [run_dbl]
    exact this
  | c :: r, h, n + 1 => by
    show (runOf ((if c = 32 then 32 :: 32 :: r else c :: dblSp r).drop (n + 1))).length ≤ 90
    by_cases hc : c = 32
    · rw [if_pos hc]
      cases n with
      | zero =>
        show (runOf (32 :: r)).length ≤ 90
        unfold runOf
        rw [List.takeWhile_cons_of_neg (by decide)]
        simp
      | succ n => exact h (n + 1)
    · rw [if_neg hc]
      exact rn_dbl (l := r) (fun m => h (m + 1)) n
theorem dbl_len : ∀ l : List Nat, (dblSp l).length ≤ l.length + 1
  | [] => by show 0 ≤ 1; omega
  | c :: r => by
    have := dbl_len r
    show (if c = 32 then 32 :: 32 :: r else c :: dblSp r).length ≤ r.length + 1 + 1
    split
    · simp
    · rw [List.length_cons]; omega
def WrL (l : List Nat) : Prop := Lim l ∧ Wrong l
theorem wrl {l : List Nat} (h : Rn l) (hl : l.length ≤ 100000) (w : Wrong l) : WrL l := ⟨⟨hl, fun n => Nat.le_trans (h n) (by decide)⟩, w⟩
/-- the law's wrong lines -/
def wrongs16 (l : List Nat) : List (List Nat) := [32 :: l, l ++ [32], l ++ [32, 55], l ++ [32, 120], dblSp l ++ [32], 120 :: l, l ++ [10]] ++ consts ++ [l ++ [41]]
theorem wrongs_all {w : String} {pvs : List Pv} (h : EnOk w pvs) : ∀ x ∈ wrongs16 (tW true (enS w pvs)), WrL x := by
  have r : ∀ n, (runOf ((tW true (enS w pvs)).drop n)).length ≤ 90 := fun n => Nat.le_trans (text_runs (en_good h).1 n) (by decide)
  have hl := en_tlen h
  have hd := dbl_len (tW true (enS w pvs))
  intro x hx
  rcases List.mem_append.mp hx with hx | hx
  · rcases List.mem_append.mp hx with hx | hx
    · simp only [List.mem_cons, List.not_mem_nil, or_false] at hx
      rcases hx with rfl | rfl | rfl | rfl | rfl | rfl | rfl
      · exact wrl (rn_cons r) (by rw [List.length_cons]; omega) (wrong_sp h)
      · exact wrl (rn_app r (by decide)) (by rw [List.length_append]; show _ + 1 ≤ _; omega) (wrong_be h)
      · exact wrl (rn_app r (by decide)) (by rw [List.length_append]; show _ + 2 ≤ _; omega) (wrong7 h)
      · exact wrl (rn_app r (by decide)) (by rw [List.length_append]; show _ + 2 ≤ _; omega) (wrongx h)
      · exact wrl (rn_app (rn_dbl r) (by decide)) (by rw [List.length_append]; show _ + 1 ≤ _; omega) (wrong_dbl h)
      · exact wrl (rn_cons r) (by rw [List.length_cons]; omega) (wrong_x h)
      · exact wrl (rn_app r (by decide)) (by rw [List.length_append]; show _ + 1 ≤ _; omega) (wrong_nl h)
    · have : consts.all (fun l => decide (l.length ≤ 1000)) = true := by decide +kernel
      exact ⟨Lim.of (of_decide_eq_true (List.all_eq_true.mp this x hx)), wrong_c hx⟩
  · rw [List.mem_singleton.mp hx]
    exact wrl (rn_app r (by decide)) (by rw [List.length_append]; show _ + 1 ≤ _; omega) (wrongp h)
section
variable {P : Program} {w : World} {K : PySem.W.Frag} {mg : Str → Option Value} {base : Heap} {ts : List Addr}
theorem c_law_sameE (D : DefAt K mg "_law_same" Rv.s_law_same ["actual", "due"]) (m_repr : mg "repr" = none) : Cal P w K mg base CX0 1 "_law_same" ["actual", "due"] (spSameE K) := by
  refine D.cal (k := 0) Rv.sc_law_same (fun vs H Q E h => ?_) fun f cdv A outer s H vs Q E hr h => ?_
  · obtain ⟨a, b, r, rfl, _⟩ := h
    rfl
  · obtain ⟨a, b, r, rfl, ha, hb, g, q⟩ := h
    refine ⟨_, (pss_one (ps_ret (pe_cmpR op_eq (pe_callB (call_reprR hr) (by rfl) m_repr (by decide +kernel) (pa_cons (pv 0) pa_nil)) (pe_callB (call_reprR hr) (by rfl) m_repr (by decide +kernel) (pa_cons (pv 1) pa_nil)) (nomark _)))), ?_⟩
    refine ⟨_, rfl, _, _, rfl, ha.dp, g.1, g.2.1, g.2.2.1, g.2.2.2, ?_⟩
    refine ⟨_, rfl, _, _, rfl, hb.dp, g.1, g.2.1, g.2.2.1, g.2.2.2, ?_⟩
    refine ⟨rfl, ?_⟩
    rw [decide_eq_true rfl]
    exact q
def spLawE (K : PySem.W.Frag) (ts : List Addr) : Sp := fun vs H Q _ => ∃ (a : Addr) (ns : List Int), vs = [.ref a] ∧ SqL K H a (ns.map V.int) ∧ (∀ T ∈ ts, TabG H T) ∧ ∀ H', Q (.bl true) H'
theorem ok_law {k kr : Nat} {f : Addr} {fd : FuncData} (hk : 10 ≤ k) (hkr : kr ≤ k) (F : Fun K "law" "law" s_law f fd) (m_range : mg "range" = none)
    (c__law_digits : Cal P w K mg base CX0 2 "_law_digits" ["script", "first", "last"] (Rd.spDigits K)) (c__law_draw : Cal P w K mg base CX0 1 "_law_draw" ["box", "many"] Rv.spDraw)
    (c__law_entry : Cal P w K mg base CX0 4 "_law_entry" ["box"] (spEk K)) (c__law_line : Cal P w K mg base CX0 4 "_law_line" ["entry"] (spLn K)) (c_write_entry : Cal P w K mg base CX0 7 "write_entry" ["entry"] (spWE K)) (c_read_entry : Cal P w K mg base CX0 kr "read_entry" ["line"] (spREn K ts))
    (c__law_same : Cal P w K mg base CX0 1 "_law_same" ["actual", "due"] (spSameE K)) : FnG P w K mg base CX0 (k + 1) f fd ["script"] (spLawE K ts) := by
  refine okG (k := k) F sc_law (fun vs H Q E h => ?_) fun cdv A outer s H vs Q E hr h => ?_
  · obtain ⟨a, ns, rfl, _⟩ := h
    rfl
  · obtain ⟨a, ns, rfl, hs, hT, q⟩ := h
    refine ⟨_, (pss_cons (ps_set (i := 1) sc_law.nd rfl (Or.inl rfl) (pe_lst (pa_cons (pe_cal (c__law_digits.mono (by omega)) hr (by rfl) (pa_cons (pv 0) (pa_cons pe_int (pa_cons pe_int pa_nil)))) (pa_cons pe_int pa_nil))))
  (pss_cons (ps_for PassesOwn.never rfl (pi_range1 (by rfl) m_range (pa_cons pe_int pa_nil)) (pg_name (i := 2) sc_law.nd rfl (Or.inl rfl)) (pss_cons (ps_set (i := 3) sc_law.nd rfl (Or.inl rfl) (pe_cal (c__law_entry.mono (by omega)) hr (by rfl) (pa_cons (pv 1) pa_nil)))
  (pss_cons (ps_set (i := 4) sc_law.nd rfl (Or.inl rfl) (pe_cal (c__law_line.mono (by omega)) hr (by rfl) (pa_cons (pv 3) pa_nil)))
  (pss_cons (ps_if (PW.pt (pw_or (pt_cmpR op_ne (pe_cal (c_write_entry.mono (by omega)) hr (by rfl) (pa_cons (pv 3) pa_nil)) (pv 4) (nomark _)) (pw_or1 (pt_not (pt_val (pe_cal (c__law_same.mono (by omega)) hr (by rfl) (pa_cons (pe_cal (c_read_entry.mono (by omega)) hr (by rfl) (pa_cons (pv 4) pa_nil)) (pa_cons (pv 3) pa_nil)))))))) (pss_one (ps_ret pe_bl)) pss_nil)
  (pss_cons (ps_set (i := 5) sc_law.nd rfl (Or.inl rfl) (pe_lst (pa_tok op_add_str (pv 4) (pat_cons (CwR.PET.of (pe_op op_add_str (pv 4) pe_str)) (pat_cons (CwR.PET.of (pe_op op_add_str (pv 4) pe_str)) (pat_cons (CwR.PET.of (pe_op op_add_str (pv 4) pe_str)) (pat_cons (CwR.pet_op op_add_str (pet_rep1 (pv 4)) (CwR.PET.of pe_str)) (pat_cons (CwR.PET.of (pe_op op_add_str pe_str (pv 4))) (pat_cons (CwR.PET.of (pe_op op_add_str (pv 4) pe_str)) (pat_cons (CwR.PET.of pe_str) (pat_cons (CwR.PET.of pe_str) (pat_cons (CwR.PET.of pe_str) pat_nil))))))))))))
  (pss_cons (ps_set (i := 5) sc_law.nd rfl (Or.inl rfl) (pe_op op_cat (pv 5) (pe_lst (pa_cons pe_str (pa_cons pe_str (pa_cons pe_str (pa_cons pe_str (pa_cons pe_str (pa_cons (pe_op op_add_str (pv 4) pe_str) pa_nil)))))))))
  (pss_one (ps_if (pt_cmpR op_notN (pe_cal (c_read_entry.mono (by omega)) hr (by rfl) (pa_cons (pe_ix ix_list (pv 5) (pe_cal (c__law_draw.mono (by omega)) hr (by rfl) (pa_cons (pv 1) (pa_cons pe_int pa_nil))) (fun _ _ => rfl)) pa_nil)) pe_non (nomark _)) (pss_one (ps_ret pe_bl)) pss_nil))))))))
  (pss_one (ps_ret pe_bl)))), ?_⟩
    have sz : sizeLine = 16777216 := rfl
    refine ⟨.ref a, rfl, a, ns, 40, rfl, by decide, hs, fun d H1 xs hd k1 e1 hi => ⟨by show 2 ≤ sizeLine; decide, fun bx hbx => ?_⟩⟩
    have k2 : Kp H1 (upd H1 bx (.lst [.ref d, .int 0])) := Kb.new hbx
    have b0 : Rv.Box bx d (upd H1 bx (.lst [.ref d, .int 0])) := ⟨xs, 0, upd_same, Int.le_refl 0, by rw [upd_ne (ne_of_none e1 hbx)]; exact e1, hi⟩
    have t0 : ∀ T ∈ ts, TabG (upd H1 bx (.lst [.ref d, .int 0])) T := fun T hm => k2.tab T (k1.tab T (hT T hm))
    generalize upd H1 bx (.lst [.ref d, .int 0]) = H2 at k2 b0 t0 ⊢
    refine gset ?_
    refine ⟨5, rfl, by decide, by decide, ?_⟩
    refine for_it walk_range (fun i σ H' => Rv.Box bx d H' ∧ (∀ T ∈ ts, TabG H' T) ∧ ∃ o2 o3 o4 o5, σ = [some (.ref a), some (.ref bx), o2, o3, o4, o5]) ⟨b0, t0, none, none, none, none, rfl⟩ (fun _ _ _ _ _ => trivial) ?_ ?_
    · rintro i x σ _ H3 hi ⟨b3, t3, o2, o3, o4, o5, rfl⟩ ⟨rfl, hx⟩
      refine gset ?_
      refine ⟨.ref bx, rfl, bx, d, rfl, b3, fun H4 v wd pvs a4 dv ok => ?_⟩
      refine gset ?_
      refine ⟨_, rfl, v, wd, pvs, rfl, ok, dv, fun H5 k5 => ?_⟩
      refine gset ?_
      have dv5 := dv.kb k5 Lsts.nil
      have bk := en_back ok
      have tl := en_tlen ok
      refine ⟨_, rfl, v, wd, pvs, rfl, ok, dv5, fun H6 k6 => ⟨_, rfl, rfl, _, rfl, iteF' (by rw [decide_eq_true rfl]; rfl) ?_⟩⟩
      have t6 : ∀ T ∈ ts, TabG H6 T := fun T hm => k6.tab T (k5.tab T (a4.1.tab T (t3 T hm)))
      have lim := lim_en ok
      have h6 := a4.2.kp (k5.trans k6)
      refine ⟨_, rfl, _, rfl, lim, bk.1, t6, .inr ⟨wd, pvs, ok, bk.2, fun _ H7 u k7 du => ?_, fun z => absurd rfl z⟩⟩
      have dv7 := dv5.kb (k6.trans k7) Lsts.nil
      refine ⟨_, rfl, u, v, _, rfl, du, dv7, en_fit ok, _, rfl, iteF' (by rfl) ?_⟩
      refine nx_gen ?_
      have b7 := h6.kp k7
      have t7 : ∀ T ∈ ts, TabG H7 T := fun T hm => k7.tab T (t6 T hm)
      have es1 : Str.ofString " " = sx [32] := by decide +kernel
      have es2 : Str.ofString " 7" = sx [32, 55] := by decide +kernel
      have es3 : Str.ofString " x" = sx [32, 120] := by decide +kernel
      have es4 : Str.ofString "x" = sx [120] := by decide +kernel
      have es5 : Str.ofString "\n" = sx [10] := by decide +kernel
      have es6 : Str.ofString ")" = sx [41] := by decide +kernel
      have er : rep1 (sx (tW true (enS wd pvs))) (Str.ofString " ") (Str.ofString "  ") = sx (dblSp (tW true (enS wd pvs))) := by
        have := rep1_sp (sx (tW true (enS wd pvs)))
        rw [sx_tl] at this
        rw [← this, sx_of]
      have wr := wrongs_all ok
      have dl := dbl_len (tW true (enS wd pvs))
      clear du dv7 dv5 dv bk lim
      generalize tW true (enS wd pvs) = l at tl er wr dl ⊢
      have ll : (sx l).length = l.length := sx_len l
      have g1 : ∀ (t : List Nat), t.length ≤ 10 → (sx l).length + (sx t).length ≤ sizeLine := fun t ht => by rw [sx_len, sx_len]; omega
      have g2 : ∀ (t : List Nat), t.length ≤ 10 → (sx t).length + (sx l).length ≤ sizeLine := fun t ht => by rw [sx_len, sx_len]; omega
      refine ⟨_, rfl, _, _, rfl, rfl, by rw [es1]; exact g2 _ (by decide), ?_⟩
      refine ⟨_, rfl, _, _, rfl, rfl, by rw [es1]; exact g1 _ (by decide), ?_⟩
      refine ⟨_, rfl, _, _, rfl, rfl, by rw [es2]; exact g1 _ (by decide), ?_⟩
      refine ⟨_, rfl, _, _, rfl, rfl, by rw [es3]; exact g1 _ (by decide), ?_⟩
      refine ⟨_, rfl, _, rfl, by rw [ll]; show l.length + 2 ≤ _; omega, by rw [er, sx_len]; omega, _, _, rfl, rfl, by rw [er, es1, sx_len]; show _ + 1 ≤ _; omega, ?_⟩
      refine ⟨_, rfl, _, _, rfl, rfl, by rw [es4]; exact g2 _ (by decide), ?_⟩
      refine ⟨_, rfl, _, _, rfl, rfl, by rw [es5]; exact g1 _ (by decide), ?_⟩
      refine ⟨by show 10 ≤ sizeLine; decide, fun p1 h1 => ?_⟩
      refine gset ?_
      have k1 : Kp H7 (upd H7 p1 (.lst [V.str (Str.ofString " " ++ sx l), V.str (sx l ++ Str.ofString " "), V.str (sx l ++ Str.ofString " 7"), V.str (sx l ++ Str.ofString " x"), V.str (rep1 (sx l) (Str.ofString " ") (Str.ofString "  ") ++ Str.ofString " "), V.str (Str.ofString "x" ++ sx l), V.str (sx l ++ Str.ofString "\n"), V.str (Str.ofString ""), V.str (Str.ofString "reject 1"), V.str (Str.ofString "connect 1")])) := Kb.new h1
      have e1 : (upd H7 p1 (.lst [V.str (Str.ofString " " ++ sx l), V.str (sx l ++ Str.ofString " "), V.str (sx l ++ Str.ofString " 7"), V.str (sx l ++ Str.ofString " x"), V.str (rep1 (sx l) (Str.ofString " ") (Str.ofString "  ") ++ Str.ofString " "), V.str (Str.ofString "x" ++ sx l), V.str (sx l ++ Str.ofString "\n"), V.str (Str.ofString ""), V.str (Str.ofString "reject 1"), V.str (Str.ofString "connect 1")])) p1 = some (.lst [V.str (Str.ofString " " ++ sx l), V.str (sx l ++ Str.ofString " "), V.str (sx l ++ Str.ofString " 7"), V.str (sx l ++ Str.ofString " x"), V.str (rep1 (sx l) (Str.ofString " ") (Str.ofString "  ") ++ Str.ofString " "), V.str (Str.ofString "x" ++ sx l), V.str (sx l ++ Str.ofString "\n"), V.str (Str.ofString ""), V.str (Str.ofString "reject 1"), V.str (Str.ofString "connect 1")]) := upd_same
      generalize upd H7 p1 (.lst [V.str (Str.ofString " " ++ sx l), V.str (sx l ++ Str.ofString " "), V.str (sx l ++ Str.ofString " 7"), V.str (sx l ++ Str.ofString " x"), V.str (rep1 (sx l) (Str.ofString " ") (Str.ofString "  ") ++ Str.ofString " "), V.str (Str.ofString "x" ++ sx l), V.str (sx l ++ Str.ofString "\n"), V.str (Str.ofString ""), V.str (Str.ofString "reject 1"), V.str (Str.ofString "connect 1")]) = H8 at k1 e1 ⊢
      refine ⟨_, rfl, _, rfl, _, _, rfl, rfl, by rw [es6]; exact g1 _ (by decide), by show 6 ≤ sizeLine; decide, fun p2 h2 => ?_⟩
      have k2' : Kp H8 (upd H8 p2 (.lst [V.str (Str.ofString "discard 1 1 lost"), V.str (Str.ofString "event 1 0 5 buy map()"), V.str (Str.ofString "event 1 00 5 buy none"), V.str (Str.ofString "resolve x none"), V.str (Str.ofString "start 9 \"\""), V.str (sx l ++ Str.ofString ")")])) := Kb.new h2
      have e1' := k2'.keep p1 _ e1 (by simp) nt_lst
      refine ⟨p1, p2, _, _, rfl, rfl, e1', upd_same, by show 10 + 6 ≤ sizeLine; decide, fun p3 h3 => ?_⟩
      refine gset ?_
      have eW : [V.str (Str.ofString " " ++ sx l), V.str (sx l ++ Str.ofString " "), V.str (sx l ++ Str.ofString " 7"), V.str (sx l ++ Str.ofString " x"), V.str (rep1 (sx l) (Str.ofString " ") (Str.ofString "  ") ++ Str.ofString " "), V.str (Str.ofString "x" ++ sx l), V.str (sx l ++ Str.ofString "\n"), V.str (Str.ofString ""), V.str (Str.ofString "reject 1"), V.str (Str.ofString "connect 1")] ++ [V.str (Str.ofString "discard 1 1 lost"), V.str (Str.ofString "event 1 0 5 buy map()"), V.str (Str.ofString "event 1 00 5 buy none"), V.str (Str.ofString "resolve x none"), V.str (Str.ofString "start 9 \"\""), V.str (sx l ++ Str.ofString ")")] = (wrongs16 l).map fun x => V.str (sx x) := by
        rw [er, es1, es2, es3, es4, es5, es6, sx_app, sx_app, sx_app, sx_app, sx_app, sx_app, sx_app, sx_app]
        show _ = [V.str (sx (32 :: l)), V.str (sx (l ++ [32])), V.str (sx (l ++ [32, 55])), V.str (sx (l ++ [32, 120])), V.str (sx (dblSp l ++ [32])), V.str (sx (120 :: l)), V.str (sx (l ++ [10])), V.str (sx (cs "")), V.str (sx (cs "reject 1")), V.str (sx (cs "connect 1")), V.str (sx (cs "discard 1 1 lost")), V.str (sx (cs "event 1 0 5 buy map()")), V.str (sx (cs "event 1 00 5 buy none")), V.str (sx (cs "resolve x none")), V.str (sx (cs "start 9 \"\"")), V.str (sx (l ++ [41]))]
        have so : ∀ z : String, sx (cs z) = Str.ofString z := fun z => sx_of _
        rw [so, so, so, so, so, so, so, so]
        rfl
      rw [eW]
      have k3 : Kp (upd H8 p2 (.lst [V.str (Str.ofString "discard 1 1 lost"), V.str (Str.ofString "event 1 0 5 buy map()"), V.str (Str.ofString "event 1 00 5 buy none"), V.str (Str.ofString "resolve x none"), V.str (Str.ofString "start 9 \"\""), V.str (sx l ++ Str.ofString ")")])) (upd (upd H8 p2 (.lst [V.str (Str.ofString "discard 1 1 lost"), V.str (Str.ofString "event 1 0 5 buy map()"), V.str (Str.ofString "event 1 00 5 buy none"), V.str (Str.ofString "resolve x none"), V.str (Str.ofString "start 9 \"\""), V.str (sx l ++ Str.ofString ")")])) p3 (.lst ((wrongs16 l).map fun x => V.str (sx x)))) := Kb.new h3
      have e3 : (upd (upd H8 p2 (.lst [V.str (Str.ofString "discard 1 1 lost"), V.str (Str.ofString "event 1 0 5 buy map()"), V.str (Str.ofString "event 1 00 5 buy none"), V.str (Str.ofString "resolve x none"), V.str (Str.ofString "start 9 \"\""), V.str (sx l ++ Str.ofString ")")])) p3 (.lst ((wrongs16 l).map fun x => V.str (sx x)))) p3 = some (.lst ((wrongs16 l).map fun x => V.str (sx x))) := upd_same
      have k9 := k1.trans (k2'.trans k3)
      have n9 : p3 ≠ bx := ((b7.kp (k1.trans k2')).new h3).1
      generalize upd (upd H8 p2 (.lst [V.str (Str.ofString "discard 1 1 lost"), V.str (Str.ofString "event 1 0 5 buy map()"), V.str (Str.ofString "event 1 00 5 buy none"), V.str (Str.ofString "resolve x none"), V.str (Str.ofString "start 9 \"\""), V.str (sx l ++ Str.ofString ")")])) p3 (.lst ((wrongs16 l).map fun x => V.str (sx x))) = H9 at k3 e3 k9 ⊢
      refine ⟨_, rfl, .ref bx, rfl, bx, d, 16, rfl, by decide, b7.kp k9, fun H10 r a10 g10 l10 => ?_⟩
      obtain ⟨j, rfl⟩ : ∃ j : Nat, r = j := ⟨r.toNat, by omega⟩
      have hj : j < (wrongs16 l).length := by show j < 16; omega
      obtain ⟨wl, wo, wc⟩ := wr _ (List.getElem_mem hj)
      have t10 : ∀ T ∈ ts, TabG H10 T := fun T hm => a10.1.tab T (k9.tab T (t7 T hm))
      refine ⟨p3, _, (j : Int), .str (sx (wrongs16 l)[j]), rfl, rfl, .inl (.inl (a10.lst e3 n9)), atI_nat (by rw [List.getElem?_map, List.getElem?_eq_getElem hj]; rfl), (wrongs16 l)[j], rfl, wl, wo, t10, ?_⟩
      have fin : ∀ H', Kp H10 H' → Rv.Box bx d H' ∧ (∀ T ∈ ts, TabG H' T) := fun H' k => ⟨a10.2.kp k, fun T hm => k.tab T (t10 T hm)⟩
      rcases wc with hn | ⟨w', pvs', ok', rd', ne'⟩
      · exact .inl ⟨hn, fun H' k => ⟨rfl, _, rfl, iteF' (by rfl) ⟨(fin H' k).1, (fin H' k).2, _, _, _, _, rfl⟩⟩⟩
      · exact .inr ⟨w', pvs', ok', rd', fun z => absurd z ne', fun _ H' k => ⟨rfl, _, rfl, iteF' (by rfl) ⟨(fin H' k).1, (fin H' k).2, _, _, _, _, rfl⟩⟩⟩
    · rintro σ H3 ⟨b3, t3, o2, o3, o4, o5, rfl⟩
      exact q H3
end
end Rw

/-! Facts of the written part for the ends of laws: texts, tuples of texts, dicts. -/
namespace Gd
open PySem PySem.Spec PyProof.Rows L2 GxR Gx
section
variable {K : PySem.W.Frag} {h : Heap} {mg : Str → Option Value} {x : Str} {a C CV : Addr}
theorem glob_z {t : Tok} {y : Str} (z : Str) (X : K.In h) (G : h.Ns mainGlobals mg) (e : PySem.W.nsIn K mainGlobals x = some (some (.str y t))) (hy : y = z) : ∃ t, mg x = some (.str z t) := ⟨t, by rw [← hy]; exact PySem.W.mg_of X G e⟩
/-- the texts of values -/
def strsB : List Value → List Str → Bool
  | [], [] => true
  | .str y _ :: r, z :: s => decide (y = z) && strsB r s
  | _, _ => false
theorem strsB_vals : ∀ {vs : List Value} {zs : List Str}, strsB vs zs = true → Vals (zs.map V.str) vs
  | [], [], _ => .nil
  | [], _ :: _, h => by cases h
  | v :: r, [], h => by cases v <;> cases h
  | v :: r, z :: s, h => by
    cases v with
    | str y t =>
      have h : (decide (y = z) && strsB r s) = true := h
      rw [Bool.and_eq_true, decide_eq_true_eq] at h
      rw [← h.1]
      exact .cons ⟨t, rfl⟩ (strsB_vals h.2)
    | _ => cases h
theorem strsB_len : ∀ {vs : List Value} {zs : List Str}, strsB vs zs = true → vs.length = zs.length := fun h => by
  have := (strsB_vals h).length
  rw [List.length_map] at this
  exact this.symm
theorem strs_k {dd : Option Addr} {n : Nat} {sl : Array (Option Value)} {vs : Array Value} (zs : List Str) (l : K.lookup a = some ⟨.type "tuple", dd, .seq vs n, sl⟩) (hv : strsB vs.toList zs = true) (hl : zs.length ≤ 1000) : ∀ H, SqT K H a (zs.map V.str) := fun H =>
  .inr ⟨_, _, n, l, rfl, rfl, by rw [← Array.length_toList, strsB_len hv]; exact Nat.le_trans hl (by decide), strsB_vals hv⟩
theorem pairs_k {dd : Option Addr} {n : Nat} {sl : Array (Option Value)} {vs : Array Value} (z1 z2 : Str) (l : K.lookup a = some ⟨.type "tuple", dd, .seq vs n, sl⟩) (hv : strsB vs.toList [z1, z2] = true) : ∀ H, Dt K H (.ref a) (.tuple [.str z1, .str z2]) := fun H =>
  .tup (strs_k [z1, z2] l hv (by show 2 ≤ 1000; decide) H) (.cons (.str _) (.cons (.str _) .nil))
/-- an int at a text key -/
def intAtB (es : List DictEntry) (x : Str) (i : Int) : Bool := match es.find? (·.key.isStr x) with
  | some e => (match e.val with | .int j _ => decide (j = i) | _ => false)
  | none => false
theorem int_kd {w : World} {n : Nat} {es : Array DictEntry} {x : Str} {i : Int} (l : K.lookup a = some ⟨.type "dict", none, .dict es n, #[]⟩) (hk : PySem.W.KeysLit w.params es.toList) (hb : intAtB es.toList x i = true) : KDct K w a x (.int i) := by
  unfold intAtB at hb
  cases e : es.toList.find? (·.key.isStr x) with
  | none => rw [e] at hb; cases hb
  | some en =>
    rw [e] at hb
    dsimp only at hb
    cases ev : en.val with
    | int j t =>
      rw [ev] at hb
      obtain rfl : j = i := of_decide_eq_true hb
      refine ⟨es, n, .int j t, l, hk, ?_, ⟨t, rfl⟩⟩
      unfold PySem.W.nsIn
      rw [l]
      dsimp only
      rw [e]
      dsimp only
      rw [ev]
    | _ => rw [ev] at hb; cases hb
/-- the class of an error without a field -/
theorem badN_k (X : K.In h) (G : h.Ns mainGlobals mg) (g : PySem.W.nsIn K mainGlobals x = some (some (.ref C))) (q : PySem.W.excIn K C [.type "ValueError", .type "Exception", .type "BaseException", .type "object"] "ValueError.__new__" = true) (kp : PySem.W.keepIn K (.ref C) = true)
    (b : PySem.W.subIn K (.ref C) (.type "BaseException") = some true) (t : PySem.W.typeIn K (.ref C) = some (.type "type")) : BadN K mg x C := ⟨q, PySem.W.mg_of X G g, kp, b, t⟩
theorem catN_k {xV : Str} (X : K.In h) (G : h.Ns mainGlobals mg) (g : PySem.W.nsIn K mainGlobals x = some (some (.ref C))) (gV : PySem.W.nsIn K mainGlobals xV = some (some (.ref CV)))
    (sV : PySem.W.subIn K (.ref CV) (.type "BaseException") = some true) (hV : PySem.W.hasDictIn K CV = true) (tV : PySem.W.typeIn K (.ref CV) = some (.type "type")) (cV : PySem.W.subIn K (.ref C) (.ref CV) = some true)
    (ga : PySem.W.findIn K (.ref C) "__getattribute__" = some (some (.builtin "BaseException.__getattribute__"))) (gg : PySem.W.findIn K (.ref C) "__getattr__" = some none) (sub : PySem.W.subIn K (.ref C) (.type "BaseException") = some true) (hd : PySem.W.hasDictIn K C = true)
    (ca : PySem.W.findIn K (.ref C) "__class__" = some (some (.builtin "object.__class__"))) (sg : PySem.W.specialIn K (.builtin "object.__class__") "__get__" = some (some (.builtin "getset_descriptor.__get__"))) (tk : PySem.W.takesIn K (.builtin "object.__class__") = some true)
    (mo : PySem.W.mroIn K C (.type "object") = some true) (vE : PySem.W.subIn K (.ref C) (.type "ValueError") = some true) : CatN K mg x xV C CV := by
  refine ⟨PySem.W.mg_of X G g, PySem.W.mg_of X G gV, PySem.W.exm_ref sV hV tV cV, ⟨ga, gg, sub, hd, ca, sg, tk, mo⟩, ?_, ?_⟩
  · unfold PySem.W.kitOne
    rw [if_pos (beq_self_eq_true _)]
  · unfold PySem.W.kitOne
    rw [if_neg (show ¬ ((Value.ref C == Value.type "ValueError") = true) by rw [show (Value.ref C == Value.type "ValueError") = false from rfl]; exact Bool.false_ne_true)]
    show (if PySem.W.kitMeta "ValueError" = true then PySem.W.subIn K (.ref C) (.type "ValueError") else none) = _
    rw [if_pos (by decide +kernel), vE]
theorem ints_kd {w : World} {n : Nat} {es : Array DictEntry} {ls : List (List Nat)} {sx' : List Nat → Str} {f : List Nat → Nat} (l : K.lookup a = some ⟨.type "dict", none, .dict es n, #[]⟩) (hk : PySem.W.KeysLit w.params es.toList) (hb : ls.all (fun x => intAtB es.toList (sx' x) (f x : Nat)) = true) :
    ∀ x ∈ ls, KDct K w a (sx' x) (.int (f x : Nat)) := fun x hx => int_kd l hk (List.all_eq_true.mp hb x hx)
theorem dict3_k {w : World} {n : Nat} {h1 h2 h3 : Int} {t1 t2 t3 u1 u2 u3 : Tok} {k1 k2 k3 v1 v2 v3 k1' k2' k3' v1' v2' v3' : Str} (l : K.lookup a = some ⟨.type "dict", none, .dict #[⟨h1, .str k1 t1, .str v1 u1⟩, ⟨h2, .str k2 t2, .str v2 u2⟩, ⟨h3, .str k3 t3, .str v3 u3⟩] n, #[]⟩)
    (e1 : h1 = PyData.keyHash w.params k1) (e2 : h2 = PyData.keyHash w.params k2) (e3 : h3 = PyData.keyHash w.params k3) (low : (a == sysModules) = false) (q1 : k1 = k1') (q2 : k2 = k2') (q3 : k3 = k3') (p1 : v1 = v1') (p2 : v2 = v2') (p3 : v3 = v3') :
    KDict K w a #[⟨h1, .str k1' t1, .str v1' u1⟩, ⟨h2, .str k2' t2, .str v2' u2⟩, ⟨h3, .str k3' t3, .str v3' u3⟩] n := by
  subst q1 q2 q3 p1 p2 p3
  exact ⟨l, ⟨⟨_, _, rfl, e1⟩, ⟨_, _, rfl, e2⟩, ⟨_, _, rfl, e3⟩, trivial⟩, low⟩
end
end Gd

/-! The forms as the world holds them. -/
namespace Gd
open PySem PySem.Spec PyProof.Rows L2 GxR Gx
section
variable {K : PySem.W.Frag} {h : Heap} {mg : Str → Option Value} {x : Str} {st : Stmt} {ps : List Str} {f c T : Addr} {od an od1 : Option Addr} {sl sl1 : Array (Option Value)} {oc kV dc pm cd ct oc1 : Value} {vs : Array Value}
theorem def_al {x y : Str} {st : Stmt} {ps : List Str} (X : K.In h) (G : h.Ns mainGlobals mg) (a : PySem.W.nsIn K mainGlobals y = some (some (.ref f))) (l : K.lookup f = some ⟨oc, od, .func (PySem.W.fnOf x x (defArgs st) (defBody st) (defScope st) .none kV dc pm an cd ct), sl⟩) (c : PySem.W.codeIn K cd x = true) (k : PySem.W.keepIn K (.ref f) = true)
    (b : ∀ (kV doc pm : Value) (an : Option Addr) (cdv ct : Value) (us : List Value), us.length = ps.length → bindArgs (PySem.W.fnOf x x (defArgs st) (defBody st) (defScope st) .none kV doc pm an cdv ct) ⟨us, []⟩ = pure (ps.zip us)) : DefAl K mg x y st ps :=
  ⟨f, _, fun_mk l c k, PySem.W.mg_of X G a, (fun_mk l c k).binds b⟩
end
end Gd
namespace Rw
open PySem PySem.Spec PyProof.Rows L2 GxR Gx Gd Rx Rs
def strAtB (es : List DictEntry) (x z : Str) : Bool := match es.find? (·.key.isStr x) with
  | some e => (match e.val with | .str y _ => decide (y = z) | _ => false)
  | none => false
def tupB (K : PySem.W.Frag) (j : Addr) (zs : List Str) : Bool := match K.lookup j with
  | some ⟨.type "tuple", _, .seq vs _, _⟩ => strsB vs.toList zs
  | _ => false
def tupAtB (K : PySem.W.Frag) (es : List DictEntry) (x : Str) (zs : List Str) : Bool := match es.find? (·.key.isStr x) with
  | some e => (match e.val with | .ref j => tupB K j zs | _ => false)
  | none => false
def keysB : List DictEntry → List Str → Bool
  | [], [] => true
  | e :: es, z :: zs => (match e.key with | .str y _ => decide (y = z) | _ => false) && keysB es zs
  | _, _ => false
section
variable {K : PySem.W.Frag} {w : World} {a : Addr} {n : Nat} {es : Array DictEntry}
theorem find_ns {x : Str} {en : DictEntry} (l : K.lookup a = some ⟨.type "dict", none, .dict es n, #[]⟩) (e : es.toList.find? (·.key.isStr x) = some en) : PySem.W.nsIn K a x = some (some en.val) := by
  unfold PySem.W.nsIn
  rw [l]
  dsimp only
  rw [e]
theorem str_kd {x z : Str} (l : K.lookup a = some ⟨.type "dict", none, .dict es n, #[]⟩) (hk : PySem.W.KeysLit w.params es.toList) (hb : strAtB es.toList x z = true) : KDct K w a x (.str z) := by
  unfold strAtB at hb
  cases e : es.toList.find? (·.key.isStr x) with
  | none => rw [e] at hb; cases hb
  | some en =>
    rw [e] at hb
    dsimp only at hb
    cases ev : en.val with
    | str j t =>
      rw [ev] at hb
      obtain rfl : j = z := of_decide_eq_true hb
      exact ⟨es, n, .str j t, l, hk, by rw [find_ns l e, ev], ⟨t, rfl⟩⟩
    | _ => rw [ev] at hb; cases hb
theorem tup_k {j : Addr} {zs : List Str} (h : tupB K j zs = true) (hl : zs.length ≤ 1000) : ∀ H, SqT K H j (zs.map V.str) := by
  unfold tupB at h
  split at h
  · rename_i l
    exact strs_k zs l h hl
  · cases h
theorem tup_kd {x : Str} {zs : List Str} (l : K.lookup a = some ⟨.type "dict", none, .dict es n, #[]⟩) (hk : PySem.W.KeysLit w.params es.toList) (hl : zs.length ≤ 1000) (hb : tupAtB K es.toList x zs = true) : ∃ aK, KDct K w a x (.ref aK) ∧ ∀ H, SqT K H aK (zs.map V.str) := by
  unfold tupAtB at hb
  cases e : es.toList.find? (·.key.isStr x) with
  | none => rw [e] at hb; cases hb
  | some en =>
    rw [e] at hb
    dsimp only at hb
    cases ev : en.val with
    | ref j =>
      rw [ev] at hb
      exact ⟨j, ⟨es, n, .ref j, l, hk, by rw [find_ns l e, ev], rfl⟩, tup_k hb hl⟩
    | _ => rw [ev] at hb; cases hb
theorem sk_kd (l : K.lookup a = some ⟨.type "dict", none, .dict es n, #[]⟩) (hk : PySem.W.KeysLit w.params es.toList) (hb : signParts.all (fun p => strAtB es.toList (Str.ofString p) (Str.ofString (kindT p))) = true) :
    ∀ p ∈ signParts, KDct K w a (Str.ofString p) (.str (Str.ofString (kindT p))) := fun p hp => str_kd l hk (List.all_eq_true.mp hb p hp)
theorem forms_at (l : K.lookup a = some ⟨.type "dict", none, .dict es n, #[]⟩) (hk : PySem.W.KeysLit w.params es.toList) (hb : formL.all (fun f => tupAtB K es.toList (Str.ofString f.1) ((f.1 :: f.2).map Str.ofString)) = true) :
    ∀ f ∈ formL, ∃ g, KDct K w a (Str.ofString f.1) (.ref g) ∧ ∀ H, SqT K H g ((f.1 :: f.2).map fun p => V.str (Str.ofString p)) := fun f hf => by
  have hl : formL.all (fun f => decide (((f.1 :: f.2).map Str.ofString).length ≤ 1000)) = true := by decide +kernel
  obtain ⟨g, h1, h2⟩ := tup_kd l hk (zs := (f.1 :: f.2).map Str.ofString) (of_decide_eq_true (List.all_eq_true.mp hl f hf)) (List.all_eq_true.mp hb f hf)
  refine ⟨g, h1, fun H => ?_⟩
  have := h2 H
  rw [List.map_map] at this
  exact this
theorem forms_kd (l : K.lookup a = some ⟨.type "dict", none, .dict es n, #[]⟩) (hk : PySem.W.KeysLit w.params es.toList) (low : (a == sysModules) = false) : KDict K w a es n := ⟨l, hk, low⟩
theorem find_keys (x : List Nat) : ∀ (es : List DictEntry) (fs : List (String × List String)), keysB es (fs.map fun f => Str.ofString f.1) = true → (es.find? (·.key.isStr (sx x))).isSome = (fs.find? fun f => decide (cs f.1 = x)).isSome := fun es => by
  induction es with
  | nil => intro fs h; cases fs with
    | nil => rfl
    | cons f fs => cases h
  | cons e es ih => intro fs h; cases fs with
    | nil => cases h
    | cons f fs =>
      simp only [List.map_cons, keysB, Bool.and_eq_true] at h
      obtain ⟨h1, h2⟩ := h
      cases ek : e.key with
      | str y t =>
        rw [ek] at h1
        obtain rfl : y = Str.ofString f.1 := of_decide_eq_true h1
        have q : e.key.isStr (sx x) = decide (cs f.1 = x) := by
          rw [ek]
          exact sx_beq (cs f.1) x
        rw [List.find?_cons, List.find?_cons, q]
        cases decide (cs f.1 = x) with
        | true => rfl
        | false => exact ih fs h2
      | _ => rw [ek] at h1; cases h1
theorem forms_in (l : K.lookup a = some ⟨.type "dict", none, .dict es n, #[]⟩) (hb : keysB es.toList (formL.map fun f => Str.ofString f.1) = true) (hr : es.toList.any (fun e => e.refKey) = false) :
    ∀ x : List Nat, ∃ r, PySem.W.nsIn K a (sx x) = some r ∧ r.isSome = (formL.find? fun f => decide (cs f.1 = x)).isSome := fun x => by
  have q := find_keys x _ _ hb
  cases e : es.toList.find? (·.key.isStr (sx x)) with
  | none =>
    rw [e] at q
    refine ⟨none, ?_, q⟩
    unfold PySem.W.nsIn
    rw [l]
    dsimp only
    rw [e]
    dsimp only
    rw [hr]
    rfl
  | some en =>
    rw [e] at q
    exact ⟨some en.val, find_ns l e, q⟩
end
end Rw

namespace Rx
open PySem PySem.Spec PyProof.Rows L2 GxR Gx Gd Rs
def clsBody : Stmt → List Stmt
  | .ClassDef (body := b) .. => b
  | _ => []
abbrev s_init : Stmt := (clsBody (topS 2)).getD 0 (.Pass ⟨0, 0, 0, 0⟩)
theorem sc_init : FnScope ["self", "offset"] ["self", "offset"] (defScope s_init) := ⟨rfl, rfl, rfl, by decide +kernel, rfl, by decide +kernel, by decide +kernel⟩
/-- what the written part says of BadSigns -/
structure ClsB (K : PySem.W.Frag) (mg : Str → Option Value) (C fI : Addr) : Prop where
  gC : mg "BadSigns" = some (.ref C)
  T : OexC K C
  no : PySem.W.findIn K (.ref C) "offset" = some none
  iC : PySem.W.findIn K (.ref C) "__init__" = some (some (.ref fI))
  tI : PySem.W.typeIn K (.ref fI) = some (.type "function")
  fI : ∃ fd, Fun K "__init__" "BadSigns.__init__" s_init fI fd
section
variable {P : Program} {w : World} {K : PySem.W.Frag} {mg : Str → Option Value} {base : Heap} {h : Heap}
theorem init_ok {f : Addr} {fd : FuncData} (F : Fun K "__init__" "BadSigns.__init__" s_init f fd) : FnOk P w K mg base CX0 1 f fd ["self", "offset"] (spInit K "offset") := by
  refine F.ok (k := 0) sc_init (fun vs H Q E h => ?_) fun cdv A outer s H vs Q E hr h => ?_
  · obtain ⟨a, C, y, rfl, _⟩ := h
    rfl
  · obtain ⟨a, C, y, rfl, T, no, ha, q⟩ := h
    refine ⟨_, pss_one (ps_ost (pv 0) (pv 1)), ?_⟩
    exact ⟨_, rfl, _, rfl, a, C, rfl, T, no, .inl ⟨ha, fun dx h1 h2 => q dx h1 h2⟩⟩
theorem ClsB.bad {C fI : Addr} (F : ClsB K mg C fI) : Bad P w K mg base C := by
  obtain ⟨fd, G⟩ := F.fI
  exact ⟨F.T, F.no, ⟨fI, fd, F.iC, F.tI, init_ok G, G.binds fun _ _ _ _ _ _ us hl => match us, hl with | [_, _], _ => rfl⟩, F.gC⟩
theorem DefAt.noX {x : Str} {st : Stmt} {N ps : List Str} {k : Nat} (D : DefAt K mg x st ps) (S : FnScope N ps (defScope st)) : CalN P w K mg base (k + 1) x ps (fun _ _ _ _ => False) := D.calN S (fun _ _ _ _ h => h.elim) fun _ _ _ _ _ _ _ _ _ _ h => h.elim
theorem DefAt.no0 {x : Str} {st : Stmt} {N ps : List Str} {k : Nat} (D : DefAt K mg x st ps) (S : FnScope N ps (defScope st)) : Cal P w K mg base CX0 (k + 1) x ps (fun _ _ _ _ => False) := D.cal S (fun _ _ _ _ h => h.elim) fun _ _ _ _ _ _ _ _ _ _ h => h.elim
theorem cls_k {C fI N : Addr} {d1 od an : Option Addr} {s1 : Array (Option Value)} {nm q : Str} {bs bm sub : List Value} {sn : List Str} {ab : Bool} {col : Option Bool} {m0 m1' m2' m3' m5 : Option Value} {oc kV dc pm cd ct : Value}
    (X : K.In h) (G : h.Ns mainGlobals mg) (gC : PySem.W.nsIn K mainGlobals "BadSigns" = some (some (.ref C))) (cls : K.lookup C = some (excClassObj nm q C N bs bm true sn sub ab col d1 m0 m1' m2' m3' m5 "ValueError.__new__")) (rf : PySem.HandSPX.refsVE bm = true)
    (sa : PySem.W.findIn K (.ref C) "__setattr__" = some (some (.builtin "object.__setattr__"))) (exC : PySem.W.subIn K (.ref C) (.type "BaseException") = some true) (tyC : PySem.W.typeIn K (.ref C) = some (.type "type")) (kC : PySem.W.keepIn K (.ref C) = true) (no : PySem.W.findIn K (.ref C) "offset" = some none)
    (iC : PySem.W.findIn K (.ref C) "__init__" = some (some (.ref fI))) (tI : PySem.W.typeIn K (.ref fI) = some (.type "function")) (lI : K.lookup fI = some ⟨oc, od, .func (PySem.W.fnOf "__init__" "BadSigns.__init__" (defArgs s_init) (defBody s_init) (defScope s_init) .none kV dc pm an cd ct), s1⟩) (cI : PySem.W.codeIn K cd "BadSigns.__init__" = true) (kI : PySem.W.keepIn K (.ref fI) = true) : ClsB K mg C fI :=
  ⟨PySem.W.mg_of X G gC, ⟨⟨nm, q, N, bs, bm, sn, sub, ab, col, d1, m0, m1', m2', m3', m5, cls, rf⟩, sa, exC, tyC, kC⟩, no, iC, tI, ⟨_, fun_mk lI cI kI⟩⟩
/-- read_expression, once its parts keep their promises -/
theorem read_all {C aL aR aC aRes aAr : Addr} {ts : List Addr} (D__read : DefAt K mg "_read" s_read ["signs", "at", "depth"]) (D__read_inject : DefAt K mg "_read_inject" s_read_inject ["signs", "at", "depth"]) (D__read_call : DefAt K mg "_read_call" s_read_call ["function", "signs", "at", "depth"])
    (D__count_calls : DefAt K mg "_count_calls" s_count_calls ["expression"]) (D__inner_ones : DefAt K mg "_inner_ones" s_inner_ones ["expression"]) (D_read_expression : DefAt K mg "read_expression" s_read_expression ["signs", "at"])
    (BN : BadN K mg "BadExpression" C) (g_LEFT : mg "LEFT" = some (.ref aL)) (g_RIGHT : mg "RIGHT" = some (.ref aR)) (g_COMMA : mg "COMMA" = some (.ref aC)) (hL : ∀ H, Dt K H (.ref aL) (Sg.mark 40).d) (hR : ∀ H, Dt K H (.ref aR) (Sg.mark 41).d) (hC : ∀ H, Dt K H (.ref aC) (Sg.mark 44).d)
    (g_RESERVED : mg "RESERVED" = some (.ref aRes)) (hRes : ∀ H, SqT K H aRes resV) (g_ARITIES : mg "ARITIES" = some (.ref aAr)) (hAr : ∀ l ∈ funs, KDct K w aAr (sx l) (.int (arity l : Nat))) (g_DEEP : ∃ t, mg "DEEPEST_CALL" = some (.int 5 t)) (g_MOST : ∃ t, mg "MOST_CALLS" = some (.int 10 t))
    (m_range : mg "range" = none) (m_tuple : mg "tuple" = none) (m_sum : mg "sum" = none)
    (c1 : CalN P w K mg base 1 "_sign_at" ["signs", "at"] (spSignAt K C)) (c2 : CalN P w K mg base 2 "behind_expressions" ["signs", "at", "sign"] (spBehind K C)) (c3 : Cal P w K mg base CX0 6 "scalar_of" ["sign"] (spScalar K ts)) (c4 : CalN P w K mg base 9 "_read_map" ["signs", "at"] (spMap K C ts)) :
    CalN P w K mg base 21 "read_expression" ["signs", "at"] (spRE K C ts) := by
  have rd : ∀ n, n ≤ 5 → CalN P w K mg base (10 + 2 * n) "_read" ["signs", "at", "depth"] (spRd K C ts n) := fun n => by
    induction n with
    | zero => exact fun hn => c_read (n := 0) (k := 9) hn (by decide) D__read BN g_RESERVED hRes g_DEEP c1 c3 c4 (DefAt.noX D__read_inject sc_read_inject) (DefAt.noX D__read_call sc_read_call)
    | succ n ih =>
      intro hn
      have r := ih (by omega)
      have i := c_read_inject (n := n) (k := 10 + 2 * n) (by omega) (by omega) D__read_inject BN g_LEFT g_RIGHT g_COMMA hL hR hC g_RESERVED hRes c1 c2 r
      have c := c_read_call (n := n) (k := 10 + 2 * n) (by omega) (by omega) D__read_call g_LEFT g_RIGHT g_COMMA hL hR hC g_ARITIES hAr m_range m_tuple c2 r
      exact c_read (n := n + 1) (k := 10 + 2 * n + 1) hn (by omega) D__read BN g_RESERVED hRes g_DEEP c1 c3 c4 i c
  have ci := c_inner_ones (P := P) (w := w) (base := base) D__inner_ones
  have ct : ∀ m, m ≤ 5 → Cal P w K mg base CX0 (2 + m) "_count_calls" ["expression"] (spCnt K m) := fun m => by
    induction m with
    | zero => exact fun _ => c_count_calls (m := 0) (k := 1) (by decide) (by decide) D__count_calls m_sum ci (DefAt.no0 D__count_calls sc_count_calls)
    | succ m ih =>
      intro hm
      have := c_count_calls (m := m + 1) (k := 2 + m) (by omega) (by omega) D__count_calls m_sum ci (ih (by omega))
      exact this
  exact c_read_expression (k := 20) D_read_expression BN g_MOST ((rd 5 (by decide)).mono (by decide)) ((ct 5 (by decide)).mono (by decide))
end
end Rx

/-! The end of the law of entries. -/
namespace Rw
open PySem PySem.Spec PyProof.Rows L2 GxR Gx Gd Rx Rs
theorem no0K {P : Program} {w : World} {K : PySem.W.Frag} {mg : Str → Option Value} {base : Heap} {x : Str} {st : Stmt} {N ps : List Str} {k : Nat} (D : DefAt K mg x st ps) (S : FnScope N ps (defScope st)) : Cal P w K mg base CX0 (k + 1) x ps (fun _ _ _ _ => False) := D.cal S (fun _ _ _ _ h => h.elim) fun _ _ _ _ _ _ _ _ _ _ h => h.elim
section
variable {h : Heap}
theorem law_fin {w : World} {K : PySem.W.Frag} {mg : Str → Option Value} {l : PySem.W.OpenLaw} {fa c1 T1 c2 T2 c3 T3 c4 T4 C fI CE CF aO aSK aF aM aE aL aR aC aRes aAr : Addr} {fd : FuncData} {nF : Nat} {esF : Array DictEntry} (X : K.In h) (Fl : Fun K "law" "law" Rw.s_law fa fd) (bl : ∀ (s : Shared) (u : Value), BindsTo s fd ⟨[u], []⟩ [("script", u)]) (nt : PySem.W.noTabs K = true)
    (C1 : DefC K mg "is_name" Rs.s_is_name ["thing"] c1) (t1 : PySem.W.CodeHd h c1 T1 ∧ h.get? T1 = some { cls := .none, data := .fields #[] })
    (C2 : DefC K mg "_is_number" Rs.s_is_number ["run"] c2) (t2 : PySem.W.CodeHd h c2 T2 ∧ h.get? T2 = some { cls := .none, data := .fields #[] })
    (C3 : DefC K mg "_is_text" Rv.s_is_text ["thing", "shortest", "longest"] c3) (t3 : PySem.W.CodeHd h c3 T3 ∧ h.get? T3 = some { cls := .none, data := .fields #[] })
    (C4 : DefC K mg "_are_entries" Rv.s_are_entries ["thing"] c4) (t4 : PySem.W.CodeHd h c4 T4 ∧ h.get? T4 = some { cls := .none, data := .fields #[] })
    (B : ClsB K mg C fI) (BN : BadN K mg "BadExpression" CE) (BF : BadN K mg "BadForm" CF) (g_BadSigns : mg "BadSigns" = some (.ref C)) (g_BadForm : mg "BadForm" = some (.ref CF)) (g_BadExpression : mg "BadExpression" = some (.ref CE))
    (hex : PySem.W.exmOne K (.ref CE) (.ref CE) = some true) (hxS : PySem.W.exmAny K (.ref C) [.ref C, .ref CF] = some true) (hxB : PySem.W.exmAny K (.ref CF) [.ref C, .ref CF] = some true)
    (g_SIGN_KINDS : mg "SIGN_KINDS" = some (.ref aSK)) (hSK : ∀ p ∈ signParts, KDct K w aSK (Str.ofString p) (.str (Str.ofString (kindT p)))) (g_OUTCOMES : mg "OUTCOMES" = some (.ref aO)) (hO : ∀ H, SqT K H aO (outs.map fun l => V.str (sx l)))
    (g_FORMS : mg "FORMS" = some (.ref aF)) (hKD : KDict K w aF esF nF) (hIn : ∀ x : List Nat, ∃ r, PySem.W.nsIn K aF (sx x) = some r ∧ r.isSome = (formL.find? fun f => decide (cs f.1 = x)).isSome)
    (hF : ∀ f ∈ formL, ∃ g, KDct K w aF (Str.ofString f.1) (.ref g) ∧ ∀ H, SqT K H g ((f.1 :: f.2).map fun p => V.str (Str.ofString p)))
    (EK : EscK K w aE) (g_MARKS : mg "MARKS" = some (.ref aM)) (hM : ∀ H, SqT K H aM marksV) (g_ESCAPES : mg "ESCAPES" = some (.ref aE))
    (g_LEFT : mg "LEFT" = some (.ref aL)) (g_RIGHT : mg "RIGHT" = some (.ref aR)) (g_COMMA : mg "COMMA" = some (.ref aC)) (hL : ∀ H, Dt K H (.ref aL) (Sg.mark 40).d) (hR : ∀ H, Dt K H (.ref aR) (Sg.mark 41).d) (hC : ∀ H, Dt K H (.ref aC) (Sg.mark 44).d)
    (g_RESERVED : mg "RESERVED" = some (.ref aRes)) (hRes : ∀ H, SqT K H aRes resV) (g_ARITIES : mg "ARITIES" = some (.ref aAr)) (hAr : ∀ l ∈ funs, KDct K w aAr (sx l) (.int (arity l : Nat)))
    (g_QUOTE : ∃ t, mg "QUOTE" = some (.str (Str.ofString "\"") t)) (g_BACKSLASH : ∃ t, mg "BACKSLASH" = some (.str (Str.ofString "\\") t))
    (D_is_character : DefAt K mg "is_character" Rv.s_is_character ["char"]) (D_is_digit : DefAt K mg "is_digit" Rs.s_is_digit ["char"]) (D_is_key : DefAt K mg "is_key" Rv.s_is_key ["thing"]) (D_is_scalar : DefAt K mg "is_scalar" Rv.s_is_scalar ["thing"]) (D_is_value : DefAt K mg "is_value" Rv.s_is_value ["thing"])
    (D__is_small : DefAt K mg "_is_small" Rs.s_is_small ["char"]) (D__is_pair : DefAt K mg "_is_pair" Rv.s_is_pair ["thing"]) (D__is_integer : DefAt K mg "_is_integer" Rv.s_is_integer ["thing"]) (D__is_entry : DefAt K mg "_is_entry" Rv.s_is_entry ["thing"])
    (D_split_line : DefAt K mg "split_line" Rs.s_split_line ["line"]) (D_scalar_of : DefAt K mg "scalar_of" Rx.s_scalar_of ["sign"]) (D_is_at : DefAt K mg "is_at" Rx.s_is_at ["signs", "at", "sign"])
    (D__read_sign : DefAt K mg "_read_sign" Rs.s_read_sign ["line", "start"]) (D__is_of_run : DefAt K mg "_is_of_run" Rs.s_is_of_run ["char"]) (D__read_run : DefAt K mg "_read_run" Rs.s_read_run ["line", "start"]) (D__read_quoted : DefAt K mg "_read_quoted" Rs.s_read_quoted ["line", "start"]) (D__meant : DefAt K mg "_meant" Rs.s_meant ["piece", "start"])
    (D__if_scalar : DefAt K mg "_if_scalar" Rx.s_if_scalar ["thing"]) (D_read_expression : DefAt K mg "read_expression" Rx.s_read_expression ["signs", "at"]) (D__inner_ones : DefAt K mg "_inner_ones" Rx.s_inner_ones ["expression"]) (D__count_calls : DefAt K mg "_count_calls" Rx.s_count_calls ["expression"])
    (D__read : DefAt K mg "_read" Rx.s_read ["signs", "at", "depth"]) (D__read_call : DefAt K mg "_read_call" Rx.s_read_call ["function", "signs", "at", "depth"]) (D__read_inject : DefAt K mg "_read_inject" Rx.s_read_inject ["signs", "at", "depth"]) (D__read_map : DefAt K mg "_read_map" Rx.s_read_map ["signs", "at"]) (D__read_entry : DefAt K mg "_read_entry" Rx.s_read_entry ["signs", "at"])
    (D__sign_at : DefAt K mg "_sign_at" Rx.s_sign_at ["signs", "at"]) (D_behind_expressions : DefAl K mg "_behind" "behind_expressions" Rx.s_behind_expressions ["signs", "at", "sign"]) (D_behind_forms : DefAl K mg "_behind" "behind_forms" Rw.s_behind_forms ["signs", "at", "sign"])
    (D_plain : DefAt K mg "plain" Rv.s_plain ["scalar"]) (D_write_signs : DefAt K mg "write_signs" Rs.s_write_signs ["signs"]) (D__is_space_between : DefAt K mg "_is_space_between" Rs.s_is_space_between ["sign", "following"]) (D__sign_text : DefAt K mg "_sign_text" Rs.s_sign_text ["sign"]) (D__escaped : DefAt K mg "_escaped" Rs.s_escaped ["text"]) (D_literal : DefAt K mg "literal" Rw.s_literal ["value"]) (D__map_signs : DefAt K mg "_map_signs" Rw.s_map_signs ["entries"]) (D__scalar_sign : DefAt K mg "_scalar_sign" Rw.s_scalar_sign ["scalar"]) (D_separated : DefAt K mg "separated" Rw.s_separated ["rows"]) (D_enclosed : DefAt K mg "enclosed" Rw.s_enclosed ["rows"]) (D_word_of : DefAt K mg "word_of" Rw.s_word_of ["signs"]) (D__sign_of : DefAt K mg "_sign_of" Rw.s_sign_of ["part"]) (D__is_right : DefAt K mg "_is_right" Rw.s_is_right ["part", "content"]) (D__scalar_of : DefAt K mg "_scalar_of" Rw.s_scalar_of ["sign"]) (D__value_of : DefAt K mg "_value_of" Rw.s_value_of ["part", "sign"]) (D__read_expression : DefAt K mg "_read_expression" Rw.s_read_expression ["signs", "at"]) (D__read_literal : DefAt K mg "_read_literal" Rw.s_read_literal ["signs", "at"]) (D__read_value : DefAt K mg "_read_value" Rw.s_read_value ["part", "signs", "at"]) (D_read_form : DefAt K mg "read_form" Rw.s_read_form ["form", "signs"]) (D__value_signs : DefAt K mg "_value_signs" Rw.s_value_signs ["part", "value"]) (D_write_form : DefAt K mg "write_form" Rw.s_write_form ["form", "values"]) (D_write_entry : DefAt K mg "write_entry" Rw.s_write_entry ["entry"]) (D__entry_of : DefAt K mg "_entry_of" Rw.s_entry_of ["line"]) (D_read_entry : DefAt K mg "read_entry" Rw.s_read_entry ["line"]) (D__law_same : DefAt K mg "_law_same" Rv.s_law_same ["actual", "due"]) (D__law_cell : DefAt K mg "_law_cell" Rd.s_law_cell ["script", "k"]) (D__law_digits : DefAt K mg "_law_digits" Rd.s_law_digits ["script", "first", "last"]) (D__law_draw : DefAt K mg "_law_draw" Rv.s_law_draw ["box", "many"]) (D__law_quoted : DefAt K mg "_law_quoted" Rw.s_law_quoted ["text"]) (D__law_text : DefAt K mg "_law_text" Rw.s_law_text ["box"]) (D__law_name : DefAt K mg "_law_name" Rw.s_law_name ["box"]) (D__law_number : DefAt K mg "_law_number" Rw.s_law_number ["box"]) (D__law_scalar : DefAt K mg "_law_scalar" Rw.s_law_scalar ["box"]) (D__law_value : DefAt K mg "_law_value" Rw.s_law_value ["box"]) (D__law_entry : DefAt K mg "_law_entry" Rw.s_law_entry ["box"]) (D__law_literal : DefAt K mg "_law_literal" Rw.s_law_literal ["value"]) (D__law_line : DefAt K mg "_law_line" Rw.s_law_line ["entry"])
    (m_isinstance : mg "isinstance" = none) (m_str : mg "str" = none) (m_tuple : mg "tuple" = none) (m_int : mg "int" = none) (m_bool : mg "bool" = none) (m_len : mg "len" = none) (m_all : mg "all" = none) (m_ord : mg "ord" = none) (m_range : mg "range" = none) (m_sum : mg "sum" = none) (m_list : mg "list" = none) (m_repr : mg "repr" = none) (m_enumerate : mg "enumerate" = none)
    (g_PERCENT : ∃ t, mg "PERCENT" = some (.int 37 t)) (g_NAME : ∃ t, mg "NAME_LENGTH" = some (.int 12 t)) (g_KEY : ∃ t, mg "KEY_LENGTH" = some (.int 12 t)) (g_TEXT : ∃ t, mg "TEXT_LENGTH" = some (.int 40 t)) (g_MAP : ∃ t, mg "MAP_SIZE" = some (.int 8 t)) (g_GREATEST : ∃ t, mg "GREATEST_INTEGER" = some (.int 999999 t)) (g_NUMBER : ∃ t, mg "NUMBER_LENGTH" = some (.int 9 t)) (g_MOST : ∃ t, mg "MOST_CALLS" = some (.int 10 t)) (g_DEEP : ∃ t, mg "DEEPEST_CALL" = some (.int 5 t)) :
    LawG l w K CX0 28 63 "script" mg fa h := by
  have inn : ∀ {p : Addr × Addr}, p ∈ [(c1, T1), (c2, T2), (c3, T3), (c4, T4)] → PySem.W.CodeHd h p.1 p.2 ∧ h.get? p.2 = some { cls := .none, data := .fields #[] } := fun {p} hp => by
    simp only [List.mem_cons, List.not_mem_nil, or_false] at hp
    rcases hp with rfl | rfl | rfl | rfl
    · exact t1
    · exact t2
    · exact t3
    · exact t4
  refine ⟨fd, [(c1, T1), (c2, T2), (c3, T3), (c4, T4)], spLawE K [T1, T2, T3, T4], fun p hp => (inn hp).2, fun p hp => no_tabs X nt (inn hp).2, fun p hp => (inn hp).1, bl, fun H a ns hlen hbits hH hS => ⟨a, ns, rfl, hS, fun T hm => ?_, fun _ => rfl⟩, fun base kin hns hB => ?_⟩
  · have : H T = some (.tbl #[]) := by
      simp only [List.mem_cons, List.not_mem_nil, or_false] at hm
      rcases hm with rfl | rfl | rfl | rfl
      · exact hH (c1, T) (by simp)
      · exact hH (c2, T) (by simp)
      · exact hH (c3, T) (by simp)
      · exact hH (c4, T) (by simp)
    exact ⟨#[], this, trivial⟩
  · have B1 := C1.tab (hB (c1, T1) (by simp))
    have B2 := C2.tab (hB (c2, T2) (by simp))
    have B3 := C3.tab (hB (c3, T3) (by simp))
    have B4 := C4.tab (hB (c4, T4) (by simp))
    have BD : Bad l.prog w K mg base C := B.bad
    have c_is_small := Rs.c_is_small (P := l.prog) (w := w) (base := base) D__is_small
    have c_is_digit := Rs.c_is_digit (P := l.prog) (w := w) (base := base) D_is_digit
    have c_is_character := Rv.c_is_character (P := l.prog) (w := w) (base := base) D_is_character g_PERCENT m_ord
    have c_is_name := Rs.c_is_name (P := l.prog) (w := w) B1 g_NAME m_isinstance m_str m_len m_all c_is_small c_is_digit
    have c_is_name := c_is_name.imp (sp' := spData K [T1, T2, T3, T4] Rs.isName) fun vs H Q E ⟨v, d, e, hd, hz, hT, q⟩ => ⟨v, d, e, hd, hz, fun T hm => hT T (by rw [List.mem_singleton.mp hm]; simp), q⟩
    have c_is_of_run := Rs.c_is_of_run (P := l.prog) (w := w) (base := base) D__is_of_run c_is_digit
    have c_is_number := Rs.c_is_number (P := l.prog) (w := w) (ts := [T1, T2, T3, T4]) B2 g_NUMBER m_len m_all (by simp) c_is_digit
    have c_meant := Rs.c_meant (P := l.prog) (w := w) (base := base) D__meant BD EK g_ESCAPES g_BACKSLASH c_is_character
    have c_read_quoted := Rs.c_read_quoted (P := l.prog) (w := w) (base := base) D__read_quoted BD g_QUOTE g_BACKSLASH m_len c_meant
    have c_read_run := Rs.c_read_run (P := l.prog) (w := w) (base := base) D__read_run BD m_len m_int c_is_of_run c_is_name c_is_number
    have c_read_sign := Rs.c_read_sign (P := l.prog) (w := w) (base := base) D__read_sign BD g_QUOTE g_MARKS hM c_is_of_run c_read_quoted c_read_run
    have c_split_line := Rs.c_split_line (P := l.prog) (w := w) (base := base) D_split_line m_len c_read_sign
    have c_is_pair := Rv.c_is_pair (P := l.prog) (w := w) (base := base) D__is_pair m_isinstance m_tuple m_len
    have c_is_text := Rv.c_is_text (P := l.prog) (w := w) B3 m_isinstance m_str m_len m_all c_is_character
    have c_is_text := c_is_text.imp (sp' := Rv.spText K [T1, T2, T3, T4]) fun vs H Q E ⟨v, d, a, b, e, hd, hz, hT, q⟩ => ⟨v, d, a, b, e, hd, hz, fun T hm => hT T (by rw [List.mem_singleton.mp hm]; simp), q⟩
    have c_is_key := Rv.c_is_key (P := l.prog) (w := w) (base := base) D_is_key g_KEY c_is_text
    have c_is_integer := Rv.c_is_integer (P := l.prog) (w := w) (base := base) D__is_integer m_isinstance m_bool m_int g_GREATEST
    have c_is_scalar := Rv.c_is_scalar (P := l.prog) (w := w) (base := base) D_is_scalar m_isinstance m_bool g_TEXT c_is_pair c_is_integer c_is_text
    have c_is_entry := Rv.c_is_entry (P := l.prog) (w := w) (base := base) D__is_entry c_is_pair c_is_key c_is_scalar
    have c_are_entries := Rv.c_are_entries (P := l.prog) (w := w) (ts := [T1, T2, T3, T4]) B4 g_MAP m_isinstance m_tuple m_len m_all c_is_entry (by simp)
    have c_is_value := Rv.c_is_value (P := l.prog) (w := w) (base := base) D_is_value c_is_pair c_is_scalar c_are_entries
    have c_is_at := Rx.c_is_at (P := l.prog) (w := w) (base := base) D_is_at m_len
    have c_if_scalar := Rx.c_if_scalar (P := l.prog) (w := w) (base := base) D__if_scalar c_is_scalar
    have c_scalar_of := Rx.c_scalar_of (P := l.prog) (w := w) (base := base) D_scalar_of c_if_scalar
    have c_sign_at := Rx.c_sign_at (P := l.prog) (w := w) (base := base) D__sign_at BN m_len
    have c_behind := Rx.c_behind (P := l.prog) (w := w) (base := base) D_behind_expressions BN c_is_at
    have c_read_entry := Rx.c_read_entry (P := l.prog) (w := w) (base := base) D__read_entry BN g_COMMA hC c_sign_at c_behind c_scalar_of
    have c_read_map := Rx.c_read_map (P := l.prog) (w := w) (base := base) D__read_map BN g_LEFT g_RIGHT g_COMMA hL hR hC m_tuple c_is_at c_behind c_read_entry c_is_value
    have c_read_expression := Rx.read_all (P := l.prog) (w := w) (base := base) D__read D__read_inject D__read_call D__count_calls D__inner_ones D_read_expression BN g_LEFT g_RIGHT g_COMMA hL hR hC g_RESERVED hRes g_ARITIES hAr g_DEEP g_MOST m_range m_tuple m_sum c_sign_at c_behind c_scalar_of c_read_map
    have c_law_cell := Rd.c_law_cell (P := l.prog) (w := w) (base := base) D__law_cell m_len
    have c_law_digits := Rd.c_law_digits (P := l.prog) (w := w) (base := base) D__law_digits m_range m_int c_law_cell
    have c_plain := Rv.c_plain (P := l.prog) (w := w) (K := K) (base := base) D_plain m_str
    have c_is_space_between := Rs.c_is_space_between (P := l.prog) (w := w) (base := base) D__is_space_between g_LEFT g_RIGHT g_COMMA hL hR hC
    have c_escaped := Rs.c_escaped (P := l.prog) (w := w) (K := K) (base := base) D__escaped
    have c_sign_text := Rs.c_sign_text (P := l.prog) (w := w) (base := base) D__sign_text g_QUOTE m_str c_escaped
    have c_write_signs := Rs.c_write_signs (P := l.prog) (w := w) (base := base) D_write_signs m_enumerate c_is_space_between c_sign_text
    have c_scalar_sign := Rw.c_scalar_sign (P := l.prog) (w := w) (base := base) D__scalar_sign c_plain
    have c_separated := Rw.c_separated (P := l.prog) (w := w) (base := base) D_separated m_enumerate g_COMMA hC
    have c_enclosed := Rw.c_enclosed (P := l.prog) (w := w) (base := base) D_enclosed g_LEFT hL g_RIGHT hR c_separated
    have c_map_signs := Rw.c_map_signs (P := l.prog) (w := w) (base := base) D__map_signs c_scalar_sign c_enclosed
    have c_literal := Rw.c_literal (P := l.prog) (w := w) (base := base) D_literal c_scalar_sign c_map_signs
    have c_word_of := Rw.c_word_of (P := l.prog) (w := w) (K := K) (base := base) D_word_of
    have c_sign_of := Rw.c_sign_of (P := l.prog) (w := w) (base := base) D__sign_of g_MARKS hM
    have c_is_atN := Rw.c_is_atN (P := l.prog) (w := w) (base := base) D_is_at m_len
    have c_behind_forms := Rw.c_behind_forms (P := l.prog) (w := w) (base := base) D_behind_forms BF c_is_atN
    have c_is_right := Rw.c_is_right (P := l.prog) (w := w) (base := base) (ts := [T1, T2, T3, T4]) D__is_right g_OUTCOMES hO c_is_scalar
    have c_scalar_of_f := Rw.c_scalar_of_f (P := l.prog) (w := w) (base := base) D__scalar_of BF c_scalar_of
    have c_value_of := Rw.c_value_of (P := l.prog) (w := w) (base := base) D__value_of BF g_SIGN_KINDS hSK c_scalar_of_f c_is_right
    have c_read_expression_f := Rw.c_read_expression_f (P := l.prog) (w := w) (base := base) D__read_expression BF g_BadExpression hex c_read_expression
    have c_read_literal := Rw.c_read_literal (P := l.prog) (w := w) (base := base) D__read_literal BF c_read_expression_f
    have c_read_value := Rw.c_read_value (P := l.prog) (w := w) (base := base) (by decide) D__read_value BF m_len m_tuple c_read_literal c_value_of
    have c_read_form := Rw.c_read_form (P := l.prog) (w := w) (base := base) (by decide) D_read_form BF m_len m_tuple c_read_value c_behind_forms c_sign_of
    have c_entry_of := Rw.c_entry_of (P := l.prog) (w := w) (base := base) (by decide) D__entry_of g_BadSigns g_BadForm g_FORMS hKD hIn hF hxS hxB c_split_line c_word_of c_read_form
    have c_value_signs := Rw.c_value_signs (P := l.prog) (w := w) (base := base) D__value_signs g_SIGN_KINDS hSK c_literal
    have c_write_form := Rw.c_write_form (P := l.prog) (w := w) (base := base) D_write_form m_list c_value_signs c_sign_of
    have c_write_entry := Rw.c_write_entry (P := l.prog) (w := w) (base := base) D_write_entry g_FORMS hF c_write_form c_write_signs
    have c_read_entry_e := Rw.c_read_entry_e (P := l.prog) (w := w) (base := base) (kw := 7) D_read_entry c_entry_of c_write_entry (by decide)
    have c_law_draw := Rv.c_law_draw (P := l.prog) (w := w) (base := base) D__law_draw m_len m_int
    have c_law_text := Rw.c_law_text (P := l.prog) (w := w) (base := base) D__law_text m_range c_law_draw
    have c_law_name := Rw.c_law_name (P := l.prog) (w := w) (base := base) D__law_name c_law_draw
    have c_law_number := Rw.c_law_number (P := l.prog) (w := w) (base := base) D__law_number c_law_draw
    have c_law_scalar := Rw.c_law_scalar_k (P := l.prog) (w := w) (K := K) (base := base) D__law_scalar c_law_draw
    have c_law_value := Rw.c_law_value_k (P := l.prog) (w := w) (K := K) (base := base) D__law_value m_range m_str m_tuple c_law_draw c_law_scalar
    have c_law_entry := Rw.c_law_entry (P := l.prog) (w := w) (K := K) (base := base) D__law_entry c_law_draw c_law_name c_law_text c_law_number c_law_scalar c_law_value
    have c_law_quoted := Rw.c_law_quoted (P := l.prog) (w := w) (base := base) D__law_quoted
    have c_lit1 := Rw.c_law_literal_k (P := l.prog) (w := w) (K := K) (base := base) (k := 1) (sp := fun _ _ _ _ => False) (okv := fun va => ∃ s, va = .s s) (by decide) D__law_literal m_int m_str c_law_quoted (Rw.no0K D__law_literal Rw.sc_law_literal) (fun ps ⟨s, e⟩ => by cases e)
    have c_lit2 := Rw.c_law_literal_k (P := l.prog) (w := w) (K := K) (base := base) (k := 2) (okv := fun _ => True) (by decide) D__law_literal m_int m_str c_law_quoted c_lit1 (fun ps _ v s H Q E ⟨h1, h2, h3⟩ => ⟨v, .s s, rfl, ⟨s, rfl⟩, h1, h2, h3⟩)
    have c_law_line := Rw.c_law_line (P := l.prog) (w := w) (K := K) (base := base) D__law_line m_str c_law_quoted c_lit2
    have c_law_same := Rw.c_law_sameE (P := l.prog) (w := w) (K := K) (base := base) D__law_same m_repr
    exact Rw.ok_law (k := 27) (kr := 27) (by decide) (by decide) Fl m_range c_law_digits c_law_draw c_law_entry c_law_line c_write_entry c_read_entry_e c_law_same
end
end Rw

open PySem PySem.W PyProof.Rows
set_option maxHeartbeats 0 in
theorem PySem.Challenge.cw_remoteviews_k40_entries_read_back_holds : PySem.Challenge.rw_remoteviews_k40_entries_read_back.Holds := by
  w_on; o_law; k_head; (case hw => w_witness2)
  k_fill
  refine Gd.walk_G2 (l := PySem.Challenge.rw_remoteviews_k40_entries_read_back) (n := 63) (k := 28) (x := "script") (CX := fun _ => L2.CX0) rfl (by decide) rfl ⟨⟨rfl, by decide, by decide⟩, rfl⟩ (fun w h Y => PySem.W.kIn_of Y) ?F (fun _ _ _ _ _ h => h)
  case F =>
    intro w mg fa h Y KX G hmg tabs
    have C_is_name := by
      refine' Gd.def_c (x := "is_name") (st := Rs.s_is_name) (ps := ["thing"]) KX G ?a ?l ?c ?k ?l1 ?hv ?b
      (case a => k_is); (case l => k_is); (case c => k_is); (case k => k_is); (case l1 => k_is); (case hv => rfl); (case b => exact fun _ _ _ _ _ _ us hl => match us, hl with | [_], _ => rfl)
    obtain ⟨C1, x1⟩ := C_is_name
    have t1 := tabs "is_name" _ _ _ (by rfl) x1
    have C__is_number := by
      refine' Gd.def_c (x := "_is_number") (st := Rs.s_is_number) (ps := ["run"]) KX G ?a ?l ?c ?k ?l1 ?hv ?b
      (case a => k_is); (case l => k_is); (case c => k_is); (case k => k_is); (case l1 => k_is); (case hv => rfl); (case b => exact fun _ _ _ _ _ _ us hl => match us, hl with | [_], _ => rfl)
    obtain ⟨C2, x2⟩ := C__is_number
    have t2 := tabs "_is_number" _ _ _ (by rfl) x2
    have C__is_text := by
      refine' Gd.def_c (x := "_is_text") (st := Rv.s_is_text) (ps := ["thing", "shortest", "longest"]) KX G ?a ?l ?c ?k ?l1 ?hv ?b
      (case a => k_is); (case l => k_is); (case c => k_is); (case k => k_is); (case l1 => k_is); (case hv => rfl); (case b => exact fun _ _ _ _ _ _ us hl => match us, hl with | [_, _, _], _ => rfl)
    obtain ⟨C3, x3⟩ := C__is_text
    have t3 := tabs "_is_text" _ _ _ (by rfl) x3
    have C__are_entries := by
      refine' Gd.def_c (x := "_are_entries") (st := Rv.s_are_entries) (ps := ["thing"]) KX G ?a ?l ?c ?k ?l1 ?hv ?b
      (case a => k_is); (case l => k_is); (case c => k_is); (case k => k_is); (case l1 => k_is); (case hv => rfl); (case b => exact fun _ _ _ _ _ _ us hl => match us, hl with | [_], _ => rfl)
    obtain ⟨C4, x4⟩ := C__are_entries
    have t4 := tabs "_are_entries" _ _ _ (by rfl) x4
    have D_is_character := by
      refine' Gd.def_k (x := "is_character") (st := Rv.s_is_character) (ps := ["char"]) KX G ?a ?l ?c ?k ?b
      (case a => k_is); (case l => k_is); (case c => k_is); (case k => k_is); (case b => exact fun _ _ _ _ _ _ us hl => match us, hl with | [_], _ => rfl)
    have D_is_digit := by
      refine' Gd.def_k (x := "is_digit") (st := Rs.s_is_digit) (ps := ["char"]) KX G ?a ?l ?c ?k ?b
      (case a => k_is); (case l => k_is); (case c => k_is); (case k => k_is); (case b => exact fun _ _ _ _ _ _ us hl => match us, hl with | [_], _ => rfl)
    have D_is_key := by
      refine' Gd.def_k (x := "is_key") (st := Rv.s_is_key) (ps := ["thing"]) KX G ?a ?l ?c ?k ?b
      (case a => k_is); (case l => k_is); (case c => k_is); (case k => k_is); (case b => exact fun _ _ _ _ _ _ us hl => match us, hl with | [_], _ => rfl)
    have D_is_scalar := by
      refine' Gd.def_k (x := "is_scalar") (st := Rv.s_is_scalar) (ps := ["thing"]) KX G ?a ?l ?c ?k ?b
      (case a => k_is); (case l => k_is); (case c => k_is); (case k => k_is); (case b => exact fun _ _ _ _ _ _ us hl => match us, hl with | [_], _ => rfl)
    have D_is_value := by
      refine' Gd.def_k (x := "is_value") (st := Rv.s_is_value) (ps := ["thing"]) KX G ?a ?l ?c ?k ?b
      (case a => k_is); (case l => k_is); (case c => k_is); (case k => k_is); (case b => exact fun _ _ _ _ _ _ us hl => match us, hl with | [_], _ => rfl)
    have D__is_small := by
      refine' Gd.def_k (x := "_is_small") (st := Rs.s_is_small) (ps := ["char"]) KX G ?a ?l ?c ?k ?b
      (case a => k_is); (case l => k_is); (case c => k_is); (case k => k_is); (case b => exact fun _ _ _ _ _ _ us hl => match us, hl with | [_], _ => rfl)
    have D__is_pair := by
      refine' Gd.def_k (x := "_is_pair") (st := Rv.s_is_pair) (ps := ["thing"]) KX G ?a ?l ?c ?k ?b
      (case a => k_is); (case l => k_is); (case c => k_is); (case k => k_is); (case b => exact fun _ _ _ _ _ _ us hl => match us, hl with | [_], _ => rfl)
    have D__is_integer := by
      refine' Gd.def_k (x := "_is_integer") (st := Rv.s_is_integer) (ps := ["thing"]) KX G ?a ?l ?c ?k ?b
      (case a => k_is); (case l => k_is); (case c => k_is); (case k => k_is); (case b => exact fun _ _ _ _ _ _ us hl => match us, hl with | [_], _ => rfl)
    have D__is_entry := by
      refine' Gd.def_k (x := "_is_entry") (st := Rv.s_is_entry) (ps := ["thing"]) KX G ?a ?l ?c ?k ?b
      (case a => k_is); (case l => k_is); (case c => k_is); (case k => k_is); (case b => exact fun _ _ _ _ _ _ us hl => match us, hl with | [_], _ => rfl)
    have D_split_line := by
      refine' Gd.def_k (x := "split_line") (st := Rs.s_split_line) (ps := ["line"]) KX G ?a ?l ?c ?k ?b
      (case a => k_is); (case l => k_is); (case c => k_is); (case k => k_is); (case b => exact fun _ _ _ _ _ _ us hl => match us, hl with | [_], _ => rfl)
    have D_scalar_of := by
      refine' Gd.def_k (x := "scalar_of") (st := Rx.s_scalar_of) (ps := ["sign"]) KX G ?a ?l ?c ?k ?b
      (case a => k_is); (case l => k_is); (case c => k_is); (case k => k_is); (case b => exact fun _ _ _ _ _ _ us hl => match us, hl with | [_], _ => rfl)
    have D_is_at := by
      refine' Gd.def_k (x := "is_at") (st := Rx.s_is_at) (ps := ["signs", "at", "sign"]) KX G ?a ?l ?c ?k ?b
      (case a => k_is); (case l => k_is); (case c => k_is); (case k => k_is); (case b => exact fun _ _ _ _ _ _ us hl => match us, hl with | [_, _, _], _ => rfl)
    have D__read_sign := by
      refine' Gd.def_k (x := "_read_sign") (st := Rs.s_read_sign) (ps := ["line", "start"]) KX G ?a ?l ?c ?k ?b
      (case a => k_is); (case l => k_is); (case c => k_is); (case k => k_is); (case b => exact fun _ _ _ _ _ _ us hl => match us, hl with | [_, _], _ => rfl)
    have D__is_of_run := by
      refine' Gd.def_k (x := "_is_of_run") (st := Rs.s_is_of_run) (ps := ["char"]) KX G ?a ?l ?c ?k ?b
      (case a => k_is); (case l => k_is); (case c => k_is); (case k => k_is); (case b => exact fun _ _ _ _ _ _ us hl => match us, hl with | [_], _ => rfl)
    have D__read_run := by
      refine' Gd.def_k (x := "_read_run") (st := Rs.s_read_run) (ps := ["line", "start"]) KX G ?a ?l ?c ?k ?b
      (case a => k_is); (case l => k_is); (case c => k_is); (case k => k_is); (case b => exact fun _ _ _ _ _ _ us hl => match us, hl with | [_, _], _ => rfl)
    have D__read_quoted := by
      refine' Gd.def_k (x := "_read_quoted") (st := Rs.s_read_quoted) (ps := ["line", "start"]) KX G ?a ?l ?c ?k ?b
      (case a => k_is); (case l => k_is); (case c => k_is); (case k => k_is); (case b => exact fun _ _ _ _ _ _ us hl => match us, hl with | [_, _], _ => rfl)
    have D__meant := by
      refine' Gd.def_k (x := "_meant") (st := Rs.s_meant) (ps := ["piece", "start"]) KX G ?a ?l ?c ?k ?b
      (case a => k_is); (case l => k_is); (case c => k_is); (case k => k_is); (case b => exact fun _ _ _ _ _ _ us hl => match us, hl with | [_, _], _ => rfl)
    have D__if_scalar := by
      refine' Gd.def_k (x := "_if_scalar") (st := Rx.s_if_scalar) (ps := ["thing"]) KX G ?a ?l ?c ?k ?b
      (case a => k_is); (case l => k_is); (case c => k_is); (case k => k_is); (case b => exact fun _ _ _ _ _ _ us hl => match us, hl with | [_], _ => rfl)
    have D_read_expression := by
      refine' Gd.def_k (x := "read_expression") (st := Rx.s_read_expression) (ps := ["signs", "at"]) KX G ?a ?l ?c ?k ?b
      (case a => k_is); (case l => k_is); (case c => k_is); (case k => k_is); (case b => exact fun _ _ _ _ _ _ us hl => match us, hl with | [_, _], _ => rfl)
    have D__inner_ones := by
      refine' Gd.def_k (x := "_inner_ones") (st := Rx.s_inner_ones) (ps := ["expression"]) KX G ?a ?l ?c ?k ?b
      (case a => k_is); (case l => k_is); (case c => k_is); (case k => k_is); (case b => exact fun _ _ _ _ _ _ us hl => match us, hl with | [_], _ => rfl)
    have D__count_calls := by
      refine' Gd.def_k (x := "_count_calls") (st := Rx.s_count_calls) (ps := ["expression"]) KX G ?a ?l ?c ?k ?b
      (case a => k_is); (case l => k_is); (case c => k_is); (case k => k_is); (case b => exact fun _ _ _ _ _ _ us hl => match us, hl with | [_], _ => rfl)
    have D__read := by
      refine' Gd.def_k (x := "_read") (st := Rx.s_read) (ps := ["signs", "at", "depth"]) KX G ?a ?l ?c ?k ?b
      (case a => k_is); (case l => k_is); (case c => k_is); (case k => k_is); (case b => exact fun _ _ _ _ _ _ us hl => match us, hl with | [_, _, _], _ => rfl)
    have D__read_call := by
      refine' Gd.def_k (x := "_read_call") (st := Rx.s_read_call) (ps := ["function", "signs", "at", "depth"]) KX G ?a ?l ?c ?k ?b
      (case a => k_is); (case l => k_is); (case c => k_is); (case k => k_is); (case b => exact fun _ _ _ _ _ _ us hl => match us, hl with | [_, _, _, _], _ => rfl)
    have D__read_inject := by
      refine' Gd.def_k (x := "_read_inject") (st := Rx.s_read_inject) (ps := ["signs", "at", "depth"]) KX G ?a ?l ?c ?k ?b
      (case a => k_is); (case l => k_is); (case c => k_is); (case k => k_is); (case b => exact fun _ _ _ _ _ _ us hl => match us, hl with | [_, _, _], _ => rfl)
    have D__read_map := by
      refine' Gd.def_k (x := "_read_map") (st := Rx.s_read_map) (ps := ["signs", "at"]) KX G ?a ?l ?c ?k ?b
      (case a => k_is); (case l => k_is); (case c => k_is); (case k => k_is); (case b => exact fun _ _ _ _ _ _ us hl => match us, hl with | [_, _], _ => rfl)
    have D__read_entry := by
      refine' Gd.def_k (x := "_read_entry") (st := Rx.s_read_entry) (ps := ["signs", "at"]) KX G ?a ?l ?c ?k ?b
      (case a => k_is); (case l => k_is); (case c => k_is); (case k => k_is); (case b => exact fun _ _ _ _ _ _ us hl => match us, hl with | [_, _], _ => rfl)
    have D__sign_at := by
      refine' Gd.def_k (x := "_sign_at") (st := Rx.s_sign_at) (ps := ["signs", "at"]) KX G ?a ?l ?c ?k ?b
      (case a => k_is); (case l => k_is); (case c => k_is); (case k => k_is); (case b => exact fun _ _ _ _ _ _ us hl => match us, hl with | [_, _], _ => rfl)
    have D_behind_expressions := by
      refine' Gd.def_al (x := "_behind") (y := "behind_expressions") (st := Rx.s_behind_expressions) (ps := ["signs", "at", "sign"]) KX G ?a ?l ?c ?k ?b
      (case a => k_is); (case l => k_is); (case c => k_is); (case k => k_is); (case b => exact fun _ _ _ _ _ _ us hl => match us, hl with | [_, _, _], _ => rfl)
    have D_behind_forms := by
      refine' Gd.def_al (x := "_behind") (y := "behind_forms") (st := Rw.s_behind_forms) (ps := ["signs", "at", "sign"]) KX G ?a ?l ?c ?k ?b
      (case a => k_is); (case l => k_is); (case c => k_is); (case k => k_is); (case b => exact fun _ _ _ _ _ _ us hl => match us, hl with | [_, _, _], _ => rfl)
    have D_plain := by
      refine' Gd.def_k (x := "plain") (st := Rv.s_plain) (ps := ["scalar"]) KX G ?a ?l ?c ?k ?b
      (case a => k_is); (case l => k_is); (case c => k_is); (case k => k_is); (case b => exact fun _ _ _ _ _ _ us hl => match us, hl with | [_], _ => rfl)
    have D_write_signs := by
      refine' Gd.def_k (x := "write_signs") (st := Rs.s_write_signs) (ps := ["signs"]) KX G ?a ?l ?c ?k ?b
      (case a => k_is); (case l => k_is); (case c => k_is); (case k => k_is); (case b => exact fun _ _ _ _ _ _ us hl => match us, hl with | [_], _ => rfl)
    have D__is_space_between := by
      refine' Gd.def_k (x := "_is_space_between") (st := Rs.s_is_space_between) (ps := ["sign", "following"]) KX G ?a ?l ?c ?k ?b
      (case a => k_is); (case l => k_is); (case c => k_is); (case k => k_is); (case b => exact fun _ _ _ _ _ _ us hl => match us, hl with | [_, _], _ => rfl)
    have D__sign_text := by
      refine' Gd.def_k (x := "_sign_text") (st := Rs.s_sign_text) (ps := ["sign"]) KX G ?a ?l ?c ?k ?b
      (case a => k_is); (case l => k_is); (case c => k_is); (case k => k_is); (case b => exact fun _ _ _ _ _ _ us hl => match us, hl with | [_], _ => rfl)
    have D__escaped := by
      refine' Gd.def_k (x := "_escaped") (st := Rs.s_escaped) (ps := ["text"]) KX G ?a ?l ?c ?k ?b
      (case a => k_is); (case l => k_is); (case c => k_is); (case k => k_is); (case b => exact fun _ _ _ _ _ _ us hl => match us, hl with | [_], _ => rfl)
    have D_literal := by
      refine' Gd.def_k (x := "literal") (st := Rw.s_literal) (ps := ["value"]) KX G ?a ?l ?c ?k ?b
      (case a => k_is); (case l => k_is); (case c => k_is); (case k => k_is); (case b => exact fun _ _ _ _ _ _ us hl => match us, hl with | [_], _ => rfl)
    have D__map_signs := by
      refine' Gd.def_k (x := "_map_signs") (st := Rw.s_map_signs) (ps := ["entries"]) KX G ?a ?l ?c ?k ?b
      (case a => k_is); (case l => k_is); (case c => k_is); (case k => k_is); (case b => exact fun _ _ _ _ _ _ us hl => match us, hl with | [_], _ => rfl)
    have D__scalar_sign := by
      refine' Gd.def_k (x := "_scalar_sign") (st := Rw.s_scalar_sign) (ps := ["scalar"]) KX G ?a ?l ?c ?k ?b
      (case a => k_is); (case l => k_is); (case c => k_is); (case k => k_is); (case b => exact fun _ _ _ _ _ _ us hl => match us, hl with | [_], _ => rfl)
    have D_separated := by
      refine' Gd.def_k (x := "separated") (st := Rw.s_separated) (ps := ["rows"]) KX G ?a ?l ?c ?k ?b
      (case a => k_is); (case l => k_is); (case c => k_is); (case k => k_is); (case b => exact fun _ _ _ _ _ _ us hl => match us, hl with | [_], _ => rfl)
    have D_enclosed := by
      refine' Gd.def_k (x := "enclosed") (st := Rw.s_enclosed) (ps := ["rows"]) KX G ?a ?l ?c ?k ?b
      (case a => k_is); (case l => k_is); (case c => k_is); (case k => k_is); (case b => exact fun _ _ _ _ _ _ us hl => match us, hl with | [_], _ => rfl)
    have D_word_of := by
      refine' Gd.def_k (x := "word_of") (st := Rw.s_word_of) (ps := ["signs"]) KX G ?a ?l ?c ?k ?b
      (case a => k_is); (case l => k_is); (case c => k_is); (case k => k_is); (case b => exact fun _ _ _ _ _ _ us hl => match us, hl with | [_], _ => rfl)
    have D__sign_of := by
      refine' Gd.def_k (x := "_sign_of") (st := Rw.s_sign_of) (ps := ["part"]) KX G ?a ?l ?c ?k ?b
      (case a => k_is); (case l => k_is); (case c => k_is); (case k => k_is); (case b => exact fun _ _ _ _ _ _ us hl => match us, hl with | [_], _ => rfl)
    have D__is_right := by
      refine' Gd.def_k (x := "_is_right") (st := Rw.s_is_right) (ps := ["part", "content"]) KX G ?a ?l ?c ?k ?b
      (case a => k_is); (case l => k_is); (case c => k_is); (case k => k_is); (case b => exact fun _ _ _ _ _ _ us hl => match us, hl with | [_, _], _ => rfl)
    have D__scalar_of := by
      refine' Gd.def_k (x := "_scalar_of") (st := Rw.s_scalar_of) (ps := ["sign"]) KX G ?a ?l ?c ?k ?b
      (case a => k_is); (case l => k_is); (case c => k_is); (case k => k_is); (case b => exact fun _ _ _ _ _ _ us hl => match us, hl with | [_], _ => rfl)
    have D__value_of := by
      refine' Gd.def_k (x := "_value_of") (st := Rw.s_value_of) (ps := ["part", "sign"]) KX G ?a ?l ?c ?k ?b
      (case a => k_is); (case l => k_is); (case c => k_is); (case k => k_is); (case b => exact fun _ _ _ _ _ _ us hl => match us, hl with | [_, _], _ => rfl)
    have D__read_expression := by
      refine' Gd.def_k (x := "_read_expression") (st := Rw.s_read_expression) (ps := ["signs", "at"]) KX G ?a ?l ?c ?k ?b
      (case a => k_is); (case l => k_is); (case c => k_is); (case k => k_is); (case b => exact fun _ _ _ _ _ _ us hl => match us, hl with | [_, _], _ => rfl)
    have D__read_literal := by
      refine' Gd.def_k (x := "_read_literal") (st := Rw.s_read_literal) (ps := ["signs", "at"]) KX G ?a ?l ?c ?k ?b
      (case a => k_is); (case l => k_is); (case c => k_is); (case k => k_is); (case b => exact fun _ _ _ _ _ _ us hl => match us, hl with | [_, _], _ => rfl)
    have D__read_value := by
      refine' Gd.def_k (x := "_read_value") (st := Rw.s_read_value) (ps := ["part", "signs", "at"]) KX G ?a ?l ?c ?k ?b
      (case a => k_is); (case l => k_is); (case c => k_is); (case k => k_is); (case b => exact fun _ _ _ _ _ _ us hl => match us, hl with | [_, _, _], _ => rfl)
    have D_read_form := by
      refine' Gd.def_k (x := "read_form") (st := Rw.s_read_form) (ps := ["form", "signs"]) KX G ?a ?l ?c ?k ?b
      (case a => k_is); (case l => k_is); (case c => k_is); (case k => k_is); (case b => exact fun _ _ _ _ _ _ us hl => match us, hl with | [_, _], _ => rfl)
    have D__value_signs := by
      refine' Gd.def_k (x := "_value_signs") (st := Rw.s_value_signs) (ps := ["part", "value"]) KX G ?a ?l ?c ?k ?b
      (case a => k_is); (case l => k_is); (case c => k_is); (case k => k_is); (case b => exact fun _ _ _ _ _ _ us hl => match us, hl with | [_, _], _ => rfl)
    have D_write_form := by
      refine' Gd.def_k (x := "write_form") (st := Rw.s_write_form) (ps := ["form", "values"]) KX G ?a ?l ?c ?k ?b
      (case a => k_is); (case l => k_is); (case c => k_is); (case k => k_is); (case b => exact fun _ _ _ _ _ _ us hl => match us, hl with | [_, _], _ => rfl)
    have D_write_entry := by
      refine' Gd.def_k (x := "write_entry") (st := Rw.s_write_entry) (ps := ["entry"]) KX G ?a ?l ?c ?k ?b
      (case a => k_is); (case l => k_is); (case c => k_is); (case k => k_is); (case b => exact fun _ _ _ _ _ _ us hl => match us, hl with | [_], _ => rfl)
    have D__entry_of := by
      refine' Gd.def_k (x := "_entry_of") (st := Rw.s_entry_of) (ps := ["line"]) KX G ?a ?l ?c ?k ?b
      (case a => k_is); (case l => k_is); (case c => k_is); (case k => k_is); (case b => exact fun _ _ _ _ _ _ us hl => match us, hl with | [_], _ => rfl)
    have D_read_entry := by
      refine' Gd.def_k (x := "read_entry") (st := Rw.s_read_entry) (ps := ["line"]) KX G ?a ?l ?c ?k ?b
      (case a => k_is); (case l => k_is); (case c => k_is); (case k => k_is); (case b => exact fun _ _ _ _ _ _ us hl => match us, hl with | [_], _ => rfl)
    have D__law_same := by
      refine' Gd.def_k (x := "_law_same") (st := Rv.s_law_same) (ps := ["actual", "due"]) KX G ?a ?l ?c ?k ?b
      (case a => k_is); (case l => k_is); (case c => k_is); (case k => k_is); (case b => exact fun _ _ _ _ _ _ us hl => match us, hl with | [_, _], _ => rfl)
    have D__law_cell := by
      refine' Gd.def_k (x := "_law_cell") (st := Rd.s_law_cell) (ps := ["script", "k"]) KX G ?a ?l ?c ?k ?b
      (case a => k_is); (case l => k_is); (case c => k_is); (case k => k_is); (case b => exact fun _ _ _ _ _ _ us hl => match us, hl with | [_, _], _ => rfl)
    have D__law_digits := by
      refine' Gd.def_k (x := "_law_digits") (st := Rd.s_law_digits) (ps := ["script", "first", "last"]) KX G ?a ?l ?c ?k ?b
      (case a => k_is); (case l => k_is); (case c => k_is); (case k => k_is); (case b => exact fun _ _ _ _ _ _ us hl => match us, hl with | [_, _, _], _ => rfl)
    have D__law_draw := by
      refine' Gd.def_k (x := "_law_draw") (st := Rv.s_law_draw) (ps := ["box", "many"]) KX G ?a ?l ?c ?k ?b
      (case a => k_is); (case l => k_is); (case c => k_is); (case k => k_is); (case b => exact fun _ _ _ _ _ _ us hl => match us, hl with | [_, _], _ => rfl)
    have D__law_quoted := by
      refine' Gd.def_k (x := "_law_quoted") (st := Rw.s_law_quoted) (ps := ["text"]) KX G ?a ?l ?c ?k ?b
      (case a => k_is); (case l => k_is); (case c => k_is); (case k => k_is); (case b => exact fun _ _ _ _ _ _ us hl => match us, hl with | [_], _ => rfl)
    have D__law_text := by
      refine' Gd.def_k (x := "_law_text") (st := Rw.s_law_text) (ps := ["box"]) KX G ?a ?l ?c ?k ?b
      (case a => k_is); (case l => k_is); (case c => k_is); (case k => k_is); (case b => exact fun _ _ _ _ _ _ us hl => match us, hl with | [_], _ => rfl)
    have D__law_name := by
      refine' Gd.def_k (x := "_law_name") (st := Rw.s_law_name) (ps := ["box"]) KX G ?a ?l ?c ?k ?b
      (case a => k_is); (case l => k_is); (case c => k_is); (case k => k_is); (case b => exact fun _ _ _ _ _ _ us hl => match us, hl with | [_], _ => rfl)
    have D__law_number := by
      refine' Gd.def_k (x := "_law_number") (st := Rw.s_law_number) (ps := ["box"]) KX G ?a ?l ?c ?k ?b
      (case a => k_is); (case l => k_is); (case c => k_is); (case k => k_is); (case b => exact fun _ _ _ _ _ _ us hl => match us, hl with | [_], _ => rfl)
    have D__law_scalar := by
      refine' Gd.def_k (x := "_law_scalar") (st := Rw.s_law_scalar) (ps := ["box"]) KX G ?a ?l ?c ?k ?b
      (case a => k_is); (case l => k_is); (case c => k_is); (case k => k_is); (case b => exact fun _ _ _ _ _ _ us hl => match us, hl with | [_], _ => rfl)
    have D__law_value := by
      refine' Gd.def_k (x := "_law_value") (st := Rw.s_law_value) (ps := ["box"]) KX G ?a ?l ?c ?k ?b
      (case a => k_is); (case l => k_is); (case c => k_is); (case k => k_is); (case b => exact fun _ _ _ _ _ _ us hl => match us, hl with | [_], _ => rfl)
    have D__law_entry := by
      refine' Gd.def_k (x := "_law_entry") (st := Rw.s_law_entry) (ps := ["box"]) KX G ?a ?l ?c ?k ?b
      (case a => k_is); (case l => k_is); (case c => k_is); (case k => k_is); (case b => exact fun _ _ _ _ _ _ us hl => match us, hl with | [_], _ => rfl)
    have D__law_literal := by
      refine' Gd.def_k (x := "_law_literal") (st := Rw.s_law_literal) (ps := ["value"]) KX G ?a ?l ?c ?k ?b
      (case a => k_is); (case l => k_is); (case c => k_is); (case k => k_is); (case b => exact fun _ _ _ _ _ _ us hl => match us, hl with | [_], _ => rfl)
    have D__law_line := by
      refine' Gd.def_k (x := "_law_line") (st := Rw.s_law_line) (ps := ["entry"]) KX G ?a ?l ?c ?k ?b
      (case a => k_is); (case l => k_is); (case c => k_is); (case k => k_is); (case b => exact fun _ _ _ _ _ _ us hl => match us, hl with | [_], _ => rfl)
    have m_isinstance := by
      refine' PySem.W.mg_none_of (n := "isinstance") KX G ?a
      (case a => k_is)
    have m_str := by
      refine' PySem.W.mg_none_of (n := "str") KX G ?a
      (case a => k_is)
    have m_tuple := by
      refine' PySem.W.mg_none_of (n := "tuple") KX G ?a
      (case a => k_is)
    have m_int := by
      refine' PySem.W.mg_none_of (n := "int") KX G ?a
      (case a => k_is)
    have m_bool := by
      refine' PySem.W.mg_none_of (n := "bool") KX G ?a
      (case a => k_is)
    have m_len := by
      refine' PySem.W.mg_none_of (n := "len") KX G ?a
      (case a => k_is)
    have m_all := by
      refine' PySem.W.mg_none_of (n := "all") KX G ?a
      (case a => k_is)
    have m_ord := by
      refine' PySem.W.mg_none_of (n := "ord") KX G ?a
      (case a => k_is)
    have m_range := by
      refine' PySem.W.mg_none_of (n := "range") KX G ?a
      (case a => k_is)
    have m_sum := by
      refine' PySem.W.mg_none_of (n := "sum") KX G ?a
      (case a => k_is)
    have m_list := by
      refine' PySem.W.mg_none_of (n := "list") KX G ?a
      (case a => k_is)
    have m_repr := by
      refine' PySem.W.mg_none_of (n := "repr") KX G ?a
      (case a => k_is)
    have m_enumerate := by
      refine' PySem.W.mg_none_of (n := "enumerate") KX G ?a
      (case a => k_is)
    have g_PERCENT := by
      refine' Gd.glob_k (x := "PERCENT") KX G ?a
      (case a => k_is)
    have g_NAME_LENGTH := by
      refine' Gd.glob_k (x := "NAME_LENGTH") KX G ?a
      (case a => k_is)
    have g_KEY_LENGTH := by
      refine' Gd.glob_k (x := "KEY_LENGTH") KX G ?a
      (case a => k_is)
    have g_TEXT_LENGTH := by
      refine' Gd.glob_k (x := "TEXT_LENGTH") KX G ?a
      (case a => k_is)
    have g_MAP_SIZE := by
      refine' Gd.glob_k (x := "MAP_SIZE") KX G ?a
      (case a => k_is)
    have g_GREATEST_INTEGER := by
      refine' Gd.glob_k (x := "GREATEST_INTEGER") KX G ?a
      (case a => k_is)
    have g_NUMBER_LENGTH := by
      refine' Gd.glob_k (x := "NUMBER_LENGTH") KX G ?a
      (case a => k_is)
    have g_MOST_CALLS := by
      refine' Gd.glob_k (x := "MOST_CALLS") KX G ?a
      (case a => k_is)
    have g_DEEPEST_CALL := by
      refine' Gd.glob_k (x := "DEEPEST_CALL") KX G ?a
      (case a => k_is)
    have g_QUOTE := by
      refine' Gd.glob_z (x := "QUOTE") (PySem.Str.ofString "\"") KX G ?a ?b
      (case a => k_is); (case b => decide +kernel)
    have g_BACKSLASH := by
      refine' Gd.glob_z (x := "BACKSLASH") (PySem.Str.ofString "\\") KX G ?a ?b
      (case a => k_is); (case b => decide +kernel)
    have g_MARKS := by
      refine' PySem.W.mg_of (n := "MARKS") KX G ?a
      (case a => k_is)
    have g_ESCAPES := by
      refine' PySem.W.mg_of (n := "ESCAPES") KX G ?a
      (case a => k_is)
    have g_LEFT := by
      refine' PySem.W.mg_of (n := "LEFT") KX G ?a
      (case a => k_is)
    have g_RIGHT := by
      refine' PySem.W.mg_of (n := "RIGHT") KX G ?a
      (case a => k_is)
    have g_COMMA := by
      refine' PySem.W.mg_of (n := "COMMA") KX G ?a
      (case a => k_is)
    have g_RESERVED := by
      refine' PySem.W.mg_of (n := "RESERVED") KX G ?a
      (case a => k_is)
    have g_ARITIES := by
      refine' PySem.W.mg_of (n := "ARITIES") KX G ?a
      (case a => k_is)
    have g_SIGN_KINDS := by
      refine' PySem.W.mg_of (n := "SIGN_KINDS") KX G ?a
      (case a => k_is)
    have g_OUTCOMES := by
      refine' PySem.W.mg_of (n := "OUTCOMES") KX G ?a
      (case a => k_is)
    have g_FORMS := by
      refine' PySem.W.mg_of (n := "FORMS") KX G ?a
      (case a => k_is)
    have B := by
      refine' Rx.cls_k KX G ?gC ?cls ?rf ?sa ?exC ?tyC ?kC ?no ?iC ?tI ?lI ?cI ?kI
      (case gC => k_is); (case cls => k_is); (case rf => decide +kernel); (case sa => k_is); (case exC => k_is); (case tyC => k_is); (case kC => k_is); (case no => k_is); (case iC => k_is); (case tI => k_is); (case lI => k_is); (case cI => k_is); (case kI => k_is)
    have BN := by
      refine' Gd.badN_k (x := "BadExpression") KX G ?bn1 ?bn2 ?bn3 ?bn4 ?bn5
      (case bn1 => k_is); (case bn2 => k_exc); (case bn3 => k_is); (case bn4 => k_is); (case bn5 => k_is)
    have BF := by
      refine' Gd.badN_k (x := "BadForm") KX G ?bf1 ?bf2 ?bf3 ?bf4 ?bf5
      (case bf1 => k_is); (case bf2 => k_exc); (case bf3 => k_is); (case bf4 => k_is); (case bf5 => k_is)
    have L := by
      refine' Gd.law_k (x := "law") (st := Rw.s_law) (p1 := "script") KX G hmg ?a ?l ?c ?k ?b
      (case a => k_is); (case l => k_is); (case c => k_is); (case k => k_is); (case b => exact fun _ _ _ _ _ _ s u => .of_eq rfl)
    obtain ⟨fd, Fl, bl⟩ := L
    refine' Rw.law_fin KX Fl bl ?nt C1 t1 C2 t2 C3 t3 C4 t4 B BN BF B.gC BF.g BN.g ?hex ?hxS ?hxB g_SIGN_KINDS ?hSK g_OUTCOMES ?hO g_FORMS ?hKD ?hIn ?hF ?EK g_MARKS ?hM g_ESCAPES g_LEFT g_RIGHT g_COMMA ?hL ?hR ?hC g_RESERVED ?hRes g_ARITIES ?hAr g_QUOTE g_BACKSLASH D_is_character D_is_digit D_is_key D_is_scalar D_is_value D__is_small D__is_pair D__is_integer D__is_entry D_split_line D_scalar_of D_is_at D__read_sign D__is_of_run D__read_run D__read_quoted D__meant D__if_scalar D_read_expression D__inner_ones D__count_calls D__read D__read_call D__read_inject D__read_map D__read_entry D__sign_at D_behind_expressions D_behind_forms D_plain D_write_signs D__is_space_between D__sign_text D__escaped D_literal D__map_signs D__scalar_sign D_separated D_enclosed D_word_of D__sign_of D__is_right D__scalar_of D__value_of D__read_expression D__read_literal D__read_value D_read_form D__value_signs D_write_form D_write_entry D__entry_of D_read_entry D__law_same D__law_cell D__law_digits D__law_draw D__law_quoted D__law_text D__law_name D__law_number D__law_scalar D__law_value D__law_entry D__law_literal D__law_line m_isinstance m_str m_tuple m_int m_bool m_len m_all m_ord m_range m_sum m_list m_repr m_enumerate g_PERCENT g_NAME_LENGTH g_KEY_LENGTH g_TEXT_LENGTH g_MAP_SIZE g_GREATEST_INTEGER g_NUMBER_LENGTH g_MOST_CALLS g_DEEPEST_CALL
    case nt => kernel_rfl
    case EK =>
      refine' ⟨_, _, _, _, _, _, _, _, _, _, Gd.dict3_k ?dk0 ?dk1 ?dk2 ?dk3 ?dk4 ?dk5 ?dk6 ?dk7 ?dk8 ?dk9 ?dk10⟩
      (case dk0 => k_is); (case dk1 => rfl); (case dk2 => rfl); (case dk3 => rfl); (case dk4 => decide); all_goals decide +kernel
    case hM =>
      refine' Gd.strs_k ["(", ")", ",", "="] ?l ?v ?n
      (case l => k_is); (case v => decide +kernel); (case n => decide)
    case hL =>
      refine' Gd.pairs_k "mark" (Rs.sx [40]) ?lL ?vL
      (case lL => k_is); (case vL => decide +kernel)
    case hR =>
      refine' Gd.pairs_k "mark" (Rs.sx [41]) ?lR ?vR
      (case lR => k_is); (case vR => decide +kernel)
    case hC =>
      refine' Gd.pairs_k "mark" (Rs.sx [44]) ?lC ?vC
      (case lC => k_is); (case vC => decide +kernel)
    case hRes =>
      refine' Gd.strs_k (["none", "true", "false", "map", "inject", "not", "size", "reverse", "add", "sub", "lt", "eq", "and", "concat", "has", "get", "remove", "take", "put", "cond", "resource"] : List PySem.Str) ?lE ?vE ?nE
      (case lE => k_is); (case vE => decide +kernel); (case nE => decide)
    case hAr =>
      refine' Gd.ints_kd ?lA ?kA ?bA
      (case lA => k_is); (case kA => repeat' first | exact trivial | exact ⟨_, _, rfl, rfl⟩ | constructor); (case bA => kernel_rfl)
    case hex => kernel_rfl
    case hxS => kernel_rfl
    case hxB => kernel_rfl
    case hSK =>
      refine' Rw.sk_kd ?lSK ?kSK ?bSK
      (case lSK => k_is); (case kSK => repeat' first | exact trivial | exact ⟨_, _, rfl, rfl⟩ | constructor); (case bSK => kernel_rfl)
    case hO =>
      refine' Gd.strs_k (Rw.outs.map Rs.sx) ?lO ?vO ?nO
      (case lO => k_is); (case vO => decide +kernel); (case nO => decide)
    case hKD =>
      refine' Rw.forms_kd ?lFo ?kFo ?sFo
      (case lFo => k_is); (case kFo => repeat' first | exact trivial | exact ⟨_, _, rfl, rfl⟩ | constructor); (case sFo => decide)
    case hIn =>
      refine' Rw.forms_in ?lI ?bI ?rI
      (case lI => k_is); (case bI => kernel_rfl); (case rI => kernel_rfl)
    case hF =>
      refine' Rw.forms_at ?lG ?kG ?bG
      (case lG => k_is); (case kG => repeat' first | exact trivial | exact ⟨_, _, rfl, rfl⟩ | constructor); (case bG => kernel_rfl)
