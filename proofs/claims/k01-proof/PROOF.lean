import PyProof.Rows.All
import Wide.All
import OpenK.AllK
import Wide.FinOn
import PyProof.EqAt
import PyProof.EqKinds
import PyProof.TupleCall
import KE.KNest
import HandS.Base
import HandS.Call
import HandS.List
import HandS.Comp
import HandS.AnyAll
import HandS.GenOver
import HandS.GenList
import HandS.ForMost
import HandS.Exc
import HandS.WordsExc
import HandS.EndTab
import HandS.IsInst
import HandS.SetBool
import HandS.SetKeys
import HandS.RaiseMore
import HandS.Text
import HandS.ExcOwn
import HandS.ExcInit
import HandS.ExcField
import KE.KExcIs
import HandS.More
import HandS.Style
import HandS.ReplaceLit
import HandS.ReplaceList
import HandS.ReplaceDef
import HandS.Iter
import PyProof.P3In
import PyProof.StrBlock2
import HandS.ExcIs
import PySem.Challenge.RW_remoteviews_k01_signs_read
set_option Elab.async false
set_option linter.all false
set_option maxRecDepth 100000
set_option maxHeartbeats 4000000
/-! all(e for x in it): the element any expression, its names the target's and captured ones. -/
namespace Gx
open PySem PySem.Spec PyProof.Rows L2 GxR
open Sem (wp)

/-- the around of a generator expression's code over a consumer's call -/
theorem over_gen {A : Around} {elt tg iter : Expr} {ifs : List Expr} {scope : Scope} {pos : Pos} {it acc : Value} {env : Env} :
    A.over (.compLoop (.GeneratorExp elt [⟨tg, iter, ifs, 0⟩] scope pos) 0 it acc env) [] = A.deeper env := by
  first
    | rfl
    | (obtain ⟨hd, d, fr, gs, u⟩ := A; simp [Around.over, Around.deeper, marksOver, frameCount, unitsOf, envsOf, guardsOf, pushEnvs, pushGuards, Code.envs, Code.env?, Code.isFrame, Code.guards, Code.isGuard, Code.weight, Code.frames, Code.isCreation, Code.isCaller, Code.cUnits])
theorem over_genS {A : Around} {elt tg iter : Expr} {ifs : List Expr} {scope : Scope} {pos : Pos} {it acc : Value} {env : Env} :
    A.over (.compStart (.GeneratorExp elt [⟨tg, iter, ifs, 0⟩] scope pos) 0 it acc env) [] = A.deeper env := by
  first
    | rfl
    | (obtain ⟨hd, d, fr, gs, u⟩ := A; simp [Around.over, Around.deeper, marksOver, frameCount, unitsOf, envsOf, guardsOf, pushEnvs, pushGuards, Code.envs, Code.env?, Code.isFrame, Code.guards, Code.isGuard, Code.weight, Code.frames, Code.isCreation, Code.isCaller, Code.cUnits])

/-- the context of a generator expression's block: begun at s; pn: its own object -/
abbrev gx (X : Cx) (N : List Str) (s : Shared) (H : Hp) (cenv : Env) (fp : List Addr) (pn : List (Addr × Obj)) : Cx :=
  { X with A := X.A.in1.in1.deeper cenv, N := N, s_0 := s, H_0 := H, env := cenv, outer := X.stack, stack := cenv :: X.stack, ex := fp, fn := fun _ => false, pn := pn, xe := fun _ _ => False }

/-- captured names: their places in the def's names -/
structure Caps (X : Cx) (scope : Scope) (caps : List (Str × Nat)) : Prop where
  ix : ∀ p ∈ caps, X.N[p.2]? = some p.1
  free : ∀ p ∈ caps, scope.names.lookup p.1 = some .free
  vis : ∀ p ∈ caps, X.env.scope.names.lookup p.1 = some .cell ∨ X.env.scope.names.lookup p.1 = some .free
theorem Caps.nil {X : Cx} {scope : Scope} : Caps X scope [] := ⟨fun _ h => (by cases h), fun _ h => (by cases h), fun _ h => (by cases h)⟩
def capV (σ : L2.St) (caps : List (Str × Nat)) : L2.St := caps.map fun p => (σ[p.2]?).join
def capN (caps : List (Str × Nat)) : List Str := caps.map (·.1)

section
variable {X : Cx} {pins : List (Addr × Obj)} {σ : L2.St} {H : Hp} {s : Shared}

theorem gen_start {scope : Scope} {x : Str} {code : Value} {caps : List (Str × Nat)} {fp : List Addr} {s5 : Shared} {go : Obj} {m : Str → Option Value} (I : Inv X pins σ H s) (S : GenS X.env scope x) (C : Caps X scope caps) (hd : X.A.handled = none)
    (hfp : ∀ b ∈ fp, FpOk X pins H b ∧ b < s.heap.objs.size)
    (hos : s5.os = s.os) (hba : AllBare s5.gens) (hk : ∀ b o, s.heap.get? b = some o → s5.heap.get? b = some o)
    (hn : s5.heap.Ns s.heap.objs.size m) (hgo : s5.heap.get? (s.heap.objs.size + 1) = some go) (hgc : ∀ v, go.data ≠ .cell v) :
    Inv (gx X (x :: capN caps) s H (genEnv scope (cloFrom X.env.cells scope.names []) s.heap.objs.size code builtinsNs X.env) fp [(s.heap.objs.size + 1, go)]) [] (none :: capV σ caps) H s5 := by
  have cm : ∀ {y c}, (y, c) ∈ cloFrom X.env.cells scope.names [] → X.env.cells.lookup y = some c ∧ c < s.heap.objs.size := fun {y c} hm => by
    rcases cloFrom_mem hm with hm | ⟨h1, rfl⟩
    · cases hm
    · obtain ⟨c, hc⟩ := S.free _ h1 rfl
      rw [hc]
      obtain ⟨w, z⟩ := I.cell _ _ hc
      exact ⟨rfl, z.lt⟩
  have lk : ∀ {y c}, (cloFrom X.env.cells scope.names []).lookup y = some c → X.env.cells.lookup y = some c ∧ c < s.heap.objs.size := fun {y c} e => cm (PySem.mem_of_lookup e)
  have look : ∀ {y}, scope.names.lookup y = some .free → ∃ c, (cloFrom X.env.cells scope.names []).lookup y = some c ∧ X.env.cells.lookup y = some c := fun {y} hl => by
    have hy : (y, NameKind.free) ∈ scope.names := PySem.mem_of_lookup hl
    obtain ⟨c', e'⟩ := mem_lookup (cloFrom_has (cells := X.env.cells) (acc := []) hy)
    exact ⟨c', e', (lk e').1⟩
  refine ⟨⟨I.ok.mod, S.kind, I.ok.glob, rfl, Nat.le_refl _, fun y z c e1 e2 => I.ok.inj y z c (lk e1).1 (lk e2).1, fun y hy => ?_, fun y c z => absurd z (by simp), fun _ => hd, ?_, .inr ⟨rfl, rfl⟩, fun b hb => ⟨?_, fun y c e z => ?_⟩, I.bs, Nat.le_trans I.ok.bsz I.sz, fun b o e hb => ?_, fun b hb z => ?_, I.stack, I.stkFree⟩,
    hos, hba, Un.kept hk, ⟨m, hn, fun i y v e1 e2 e3 => ?_⟩, fun y c e => ?_, ?_, fun y c e => ?_, fun p hp => ?_, I.hok.kept hk, ?_⟩
  · have hy : scope.names.lookup y = some .cell ∨ scope.names.lookup y = some .free := hy
    rcases hy with hy | hy
    · exact absurd rfl (S.cell _ (PySem.mem_of_lookup hy))
    · obtain ⟨c, e, _⟩ := look hy
      exact ⟨c, e⟩
  · exact Around.frames_deeper (A := X.A.in1.in1) (show X.A.in1.in1.frames = some X.stack from I.ok.frames)
  · show b ≠ s.heap.objs.size
    exact Nat.ne_of_lt (hfp b hb).2
  · exact (hfp b hb).1.2.2.2.2.1 y c (lk e).1 z
  · rcases (hfp b hb).1.2.2.2.1 with z | z
    · exact I.ok.noex b o e z
    · exact absurd (Nat.lt_of_lt_of_le (Heap.lt_size e) (Nat.le_trans I.ok.bsz z)) (Nat.lt_irrefl _)
  · rcases List.mem_cons.mp (I.stkSub b z) with z | z
    · exact (hfp b hb).1.2.1 z
    · exact (hfp b hb).1.2.2.1 z
  · cases i with
    | zero => cases e2
    | succ i =>
      have e1 : (capN caps)[i]? = some y := e1
      have e2 : (capV σ caps)[i]? = some (some v) := e2
      unfold capN at e1
      unfold capV at e2
      rw [List.getElem?_map] at e1 e2
      cases hp : caps[i]? with
      | none => rw [hp] at e1; cases e1
      | some p =>
        rw [hp] at e1 e2
        have ey : p.1 = y := Option.some.inj e1
        have ev : (σ[p.2]?).join = some v := Option.some.inj e2
        have hpm : p ∈ caps := List.mem_of_getElem? hp
        have ev2 : σ[p.2]? = some (some v) := by
          cases q : σ[p.2]? with
          | none => rw [q] at ev; cases ev
          | some w => rw [q] at ev; rw [show w = some v from ev]
        obtain ⟨m0, hn0, hl0⟩ := I.loc
        have hv := C.vis p hpm
        obtain ⟨u, r, l⟩ := hl0 p.2 p.1 v (C.ix p hpm) ev2 (.inr hv)
        subst ey
        refine ⟨u, r, .inr ⟨.inr (C.free p hpm), ?_⟩⟩
        obtain ⟨c, h1, h2⟩ := look (C.free p hpm)
        rcases l with ⟨k, _⟩ | ⟨_, c', e', z⟩
        · have k : X.env.scope.names.lookup p.1 = some .local := k
          rcases hv with k' | k' <;> rw [k'] at k <;> cases k
        · rw [h2] at e'; cases e'
          exact ⟨c, h1, z.keeps hk⟩
  · obtain ⟨w, z⟩ := I.cell y c (lk e).1
    exact ⟨w, z.keeps hk⟩
  · exact I.hok.fresh (Nat.le_refl _)
  · exact I.freeC y c (lk e).1
  · have hp : p ∈ [(s.heap.objs.size + 1, go)] ++ [] := hp
    rw [List.append_nil] at hp
    rw [List.mem_singleton.mp hp]
    exact ⟨hgo, I.hok.fresh (Nat.le_succ _), (Nat.succ_ne_self _), fun hb => by
      rcases List.mem_cons.mp (I.stkSub _ hb) with z | z
      · have h1 := I.lt
        have z' : s.heap.objs.size + 1 = X.env.locals := z
        rw [← z'] at h1
        exact absurd (Nat.lt_of_succ_lt h1) (Nat.lt_irrefl _)
      · exact I.nofs (Nat.le_succ _) z, hgc⟩
  · show (none :: capV σ caps).length = (x :: capN caps).length
    unfold capV capN
    simp
end

/-- woken again: only the generators' table turned -/
structure Woke (s s' : Shared) : Prop where
  heap : s'.heap = s.heap
  os : s'.os = s.os
  bare : AllBare s'.gens
theorem inv_woke {X : Cx} {pins : List (Addr × Obj)} {σ : L2.St} {H : Hp} {s s' : Shared} (I : Inv X pins σ H s) (z : Woke s s') : Inv X pins σ H s' :=
  I.call' (ch := []) z.os (by rw [z.heap]; exact Un.refl) (by rw [z.heap]; exact I.hok) z.bare fun b hb => by simp at hb

section
variable {X : Cx} {N : List Str} {s4 : Shared} {H4 : Hp} {cenv : Env} {fp : List Addr} {pn : List (Addr × Obj)} {J : It} {tn : Nat → Heap → Prop} {σ0 : L2.St} {W : Nat → Nat → Hp → Prop} {Ft Ff : Hp → Prop}

/-- asleep at turn i -/
def At (GX : Cx) (fp : List Addr) (tn : Nat → Heap → Prop) (σ0 : L2.St) (W : Nat → Nat → Hp → Prop) (n : Nat) (s : Shared) : Prop :=
  ∃ i m H, Inv GX [] σ0 H s ∧ tn i s.heap ∧ (∀ b ∈ fp, H b = none) ∧ W i m H ∧ m < n
/-- it has handed out v -/
def Yp (GX : Cx) (fp : List Addr) (tn : Nat → Heap → Prop) (σ0 : L2.St) (W : Nat → Nat → Hp → Prop) (Ff : Hp → Prop) : Protocol := fun n s₀ v s kap =>
  ∃ c, v = .bool c ∧ ((c = true ∧ At GX fp tn σ0 W n s ∧ ∀ s', Woke s s' → kap (.send .none) s') ∨ (c = false ∧ ∃ σ H, Inv GX [] σ H s ∧ Ff H))
def Ep (GX : Cx) (Ft : Hp → Prop) : GenEnd := fun n s₀ r s => r = .ok .next ∧ ∃ σ H, Inv GX [] σ H s ∧ Ft H

theorem stat_of {GX : Cx} {σ' : L2.St} {H' : Hp} {s' : Shared} (hex : GX.ex = fp) (hpn : ∀ p ∈ GX.pn, ∀ b ∈ fp, p.1 ≠ b) (I' : Inv GX [] σ' H' s') (hn : ∀ b ∈ fp, H' b = none) : ∀ b ∈ fp, FpOk GX [] H' b := fun b hb => by
  have hb' : b ∈ GX.ex := by rw [hex]; exact hb
  exact ⟨hn b hb, (I'.ok.exf b hb').1, I'.ok.exfs b hb', .inl hb', fun x c e => (I'.ok.exf b hb').2 x c e, fun p hp => hpn p (by rw [List.append_nil] at hp; exact hp) b hb⟩

theorem seg_loop {A : Around} {P : Program} {w : World} {K : PySem.W.Frag} {elt tg iter : Expr} {scope : Scope} {pos : Pos} {it : Addr} {GX : Cx} {g : TG} {te : TE}
    (hP : GX.prog = P) (hw : GX.w = w) (hK : GX.K = K) (hA : GX.A = A.deeper GX.env) (hcalm : GX.calm = true) (hxe : GX.xe = fun _ _ => False) (hex : GX.ex = fp) (hpn : ∀ p ∈ GX.pn, ∀ b ∈ fp, p.1 ≠ b) (hco : GX.env.scope.isCoroutine = false)
    (T : Turn P w K tg J fp it tn) (pg : PG GX tg g) (pe : PE GX elt te)
    (turn : ∀ i m H, W i m H → (J.stop i H ∧ Ft H) ∨ (J.go i H ∧ ∃ Nx : Hp → Prop, (∀ H', Nx H' → ∃ m', m' < m ∧ W (i + 1) m' H') ∧ ∀ x H', J.yld i H x H' → g x σ0 H' fun σ2 H3 => (∀ (j : Nat) v, σ0[j]? = some (some v) → σ2[j]? = some (some v)) ∧ te σ2 H3 fun y H5 => ∃ c, y = .bl c ∧ if c = true then Nx H5 else Ff H5)) :
    ∀ (n : Nat) (s₀ s : Shared), At GX fp tn σ0 W n s →
      Seg (model P w) A (Ep GX Ft) (Yp GX fp tn σ0 W Ff) n s₀ (.compLoop (.GeneratorExp elt [⟨tg, iter, [], 0⟩] scope pos) 0 (.ref it) .none GX.env)
        ((model P w).den (.compLoop (.GeneratorExp elt [⟨tg, iter, [], 0⟩] scope pos) 0 (.ref it) .none GX.env)) [] s := by
  subst hP hw hK
  have hAo : A.over (.compLoop (.GeneratorExp elt [⟨tg, iter, [], 0⟩] scope pos) 0 (.ref it) .none GX.env) [] = GX.A := over_gen.trans hA.symm
  have noE : ∀ {x : Value} {s' : Shared}, GX.xe x s' → False := fun {x s'} h => by rw [hxe] at h; exact h
  intro n
  induction n with
  | zero =>
    intro s₀ s h
    obtain ⟨i, m, H, _, _, _, _, hm⟩ := h
    exact absurd hm (Nat.not_lt_zero _)
  | succ n ih =>
    intro s₀ s h
    obtain ⟨i, m, H, I, st, nf, wi, hm⟩ := h
    show Seg _ A _ _ _ s₀ _ ((compTurn (.GeneratorExp elt [⟨tg, iter, [], 0⟩] scope pos) 0 (.ref it) .none GX.env).onRaise (leaving GX.env)) [] s
    rw [compTurn_gen, Sem.onRaise_eq_wrap]
    refine seg_bind_wrap (wpAny_standAt ?_)
    rcases turn i m H wi with ⟨stop, ft⟩ | ⟨go, Nx, hNx, step⟩
    · refine seg_bind_wrap ?_
      rw [hAo]
      refine thnF (T.done GX rfl rfl rfl hcalm i [] s _ H (fun _ _ => False) I (stat_of hex hpn I nf) st stop) fun r s1 ⟨hr, I1⟩ => ?_
      subst hr
      exact seg_end (.ok .next) ⟨rfl, _, H, I1, ft⟩
    · refine seg_bind_wrap ?_
      rw [hAo]
      refine thnF (T.item GX rfl rfl rfl hcalm i [] s _ H (fun _ _ => False) I (stat_of hex hpn I nf) st go) fun r s1 ⟨u, hr, h1⟩ => ?_
      subst hr
      refine seg_bind_wrap ?_
      rw [hAo]
      refine thnF h1 fun _ s2 ⟨x, H2, I2, r2, y2, st2, n2⟩ => ?_
      have I2' := I2.pinned (stat_of hex hpn I2 n2) (T.obj _ _ st2)
      refine seg_bind_wrap ?_
      rw [hAo]
      refine wpAny_mono (pg.run _ s2 _ H2 x u _ I2' r2 (step x H2 y2)) (fun _ s3 ⟨σ3, H3, I3, hl3, q3⟩ => ?_) fun _ _ hx => (noE hx).elim
      refine seg_bind_wrap (wpAny_tests_nil ?_)
      simp only [if_true]
      have hy : ∀ v, yieldOut GX.env v = yieldValue v := fun v => by simp only [yieldOut, hco, Bool.false_eq_true, if_false]
      simp only [hy]
      rw [Sem.bind_eq_wrap', Sem.bind_eq_wrap', Sem.wrap_wrap, Sem.wrap_wrap]
      refine seg_wrap ?_
      rw [hAo]
      refine wpAny_mono (pe.run _ s3 σ3 H3 _ I3 q3) (fun y s5 ⟨yv, H5, I5, r5, c, ey, q5⟩ => ?_) fun _ _ hx => (noE hx).elim
      subst ey
      have ev : y = Value.bool c := r5
      subst ev
      have pin' : ∀ b ∈ fp, ∀ o, s2.heap.get? b = some o → s5.heap.get? b = some o ∧ H5 b = none := fun b hb o e =>
        let z := I5.pin (b, o) (List.mem_append_right _ (List.mem_append_right _ (mem_pinsAt hb e)))
        ⟨z.1, z.2.1⟩
      have I6 : Inv GX [] σ0 H5 s5 := (I5.unpinned (pins := [])).weak (by rw [I.len, I5.len]) hl3
      have st6 : tn (i + 1) s5.heap := T.keep _ _ _ st2 fun b hb o e => (pin' b hb o e).1
      have n6 : ∀ b ∈ fp, H5 b = none := fun b hb => by
        obtain ⟨o, e, _⟩ := T.obj _ _ st2 b hb
        exact (pin' b hb o e).2
      refine seg_at (seg_yield rfl rfl rfl ⟨c, rfl, ?_⟩)
      cases c with
      | true =>
        obtain ⟨m', hm', w'⟩ := hNx H5 q5
        refine .inl ⟨rfl, ⟨i + 1, m', H5, I6, st6, n6, w', by omega⟩, fun s' z => ?_⟩
        exact seg_again rfl (ih s' s' ⟨i + 1, m', H5, inv_woke I6 z, by rw [z.heap]; exact st6, n6, w', by omega⟩)
      | false => exact .inr ⟨rfl, _, H5, I6, q5⟩
theorem seg_begin {A : Around} {P : Program} {w : World} {K : PySem.W.Frag} {elt tg iter : Expr} {scope : Scope} {pos : Pos} {it : Addr} {GX : Cx} {n : Nat} {s₀ s : Shared} {R : GenEnd} {Y : Protocol} {i : Nat}
    (T : Turn P w K tg J fp it tn) (st : tn i s.heap)
    (loop : Seg (model P w) A R Y n s₀ (.compLoop (.GeneratorExp elt [⟨tg, iter, [], 0⟩] scope pos) 0 (.ref it) .none GX.env) ((model P w).den (.compLoop (.GeneratorExp elt [⟨tg, iter, [], 0⟩] scope pos) 0 (.ref it) .none GX.env)) [] s) :
      Seg (model P w) A R Y n s₀ (.compStart (.GeneratorExp elt [⟨tg, iter, [], 0⟩] scope pos) 0 (.ref it) .none GX.env)
        ((model P w).den (.compStart (.GeneratorExp elt [⟨tg, iter, [], 0⟩] scope pos) 0 (.ref it) .none GX.env)) [] s := by
  show Seg _ A _ _ _ s₀ _ ((compStart (.GeneratorExp elt [⟨tg, iter, [], 0⟩] scope pos) 0 (.ref it) .none GX.env).onRaise (leaving GX.env)) [] s
  unfold compStart
  rw [Sem.onRaise_eq_wrap]
  show Seg _ A _ _ _ s₀ _ ((ask >>= _).wrap _ _ _ _) [] s
  refine seg_bind_wrap (wpAny_askSetting ?_)
  split
  · exact seg_again rfl loop
  · first
      | exact seg_bind_wrap (wpAny_rule (seg_bind_wrap (wpAny_standAt (seg_bind_wrap (T.self _ i s _ _ st (seg_again rfl loop))))))
      | (refine seg_bind_wrap (wpAny_rule ?_); show Seg _ A _ _ _ s₀ _ ((standAt iter.pos >>= _).wrap _ _ _ _) [] s; exact seg_bind_wrap (wpAny_standAt (seg_bind_wrap (T.self _ i s _ _ st (seg_again rfl loop)))))

theorem all_loop {A : Around} {P : Program} {w : World} {GX : Cx} {a : Addr} {g : Nat} {go : Obj} {R : Result → Shared → Prop}
    (hh : A.handled = none) (hd : A.depth < recursionLimit) (hgo : ∀ h : Heap, h.get? a = some go → h.IsGen a g) (hpn : (a, go) ∈ GX.pn)
    (hT : ∀ σ H s', Inv GX [] σ H s' → Ft H → R (.ok (.ret (.bool true))) s') (hF : ∀ σ H s', Inv GX [] σ H s' → Ff H → R (.ok (.ret (.bool false))) s') :
    ∀ (n : Nat) (s : Shared), s.heap.IsGen a g → s.heap.NoLimit →
      (∃ gs, s.gens[g]? = some gs ∧ gs.Goes (model P w) A.in1.in1 (Ep GX Ft) (Yp GX fp tn σ0 W Ff) n (.send .none) (s.setGen g .running)) →
      codeAny (model P w) A (.builtin "all.loop" ⟨[.ref a], []⟩) R s := by
  have goes : ∀ {gs : GenState} {B : Around} {n : Nat} {r : Resume} {s : Shared}, gs.Goes (model P w) B (Ep GX Ft) (Yp GX fp tn σ0 W Ff) n r s →
      gs.Goes (model P w) B (fun n s₀ r s₁ => r = .ok .next ∧ (fun (_ : Nat) (_ : Shared) s₁ => ∃ σ H, Inv GX [] σ H s₁ ∧ Ft H) n s₀ s₁) (Yp GX fp tn σ0 W Ff) n r s := fun h => h
  have pinned : ∀ {σ H s'}, Inv GX [] σ H s' → s'.heap.IsGen a g := fun {σ H s'} J => hgo _ (J.pin (a, go) (List.mem_append_left _ hpn)).1
  intro n
  induction n with
  | zero =>
    intro s hg hl ⟨gs, hgs, hgo'⟩
    refine codeAny_builtin F.entry_all_loop ?_
    rw [Around.under_plainId F.plain_all_loop _]
    show wpAny _ A.in1 (pyNext (.ref a) >>= _) _ _ s
    refine wpAny_bind (wpAny_pyNext_genexpQ (A := A.in1) hh hl hd hg hgs (goes hgo') (fun v s₁ gs' hbare hv => ?_) (fun s₁ hp h' hk => ?_))
    · obtain ⟨c, rfl, h⟩ := hv
      refine wpAny_bind (wpAny_holding (wpAny_truthy_bool ?_))
      refine wpAny_bind (wpAny_letGo ?_)
      rcases h with ⟨rfl, _, hk⟩ | ⟨rfl, σ, H, I, ff⟩
      · exact False.elim (hk s₁ ⟨rfl, rfl, (by
          obtain ⟨_, _, _, I1, _⟩ := ‹At _ _ _ _ _ _ _›
          exact I1.bare)⟩)
      · simp only [Bool.false_eq_true, if_false]
        refine wpAny_bind (wpAny_rule (wpAny_pure ?_))
        exact hF σ H _ (inv_woke I ⟨rfl, rfl, allBare_setGen I.bare hbare⟩) ff
    · obtain ⟨σ, H, I, ft⟩ := hp
      refine wpAny_bind (wpAny_rule (wpAny_pure ?_))
      have I2 : Inv GX [] σ H (s₁.setGen g .finished) := inv_woke I ⟨rfl, rfl, allBare_setGen I.bare rfl⟩
      exact hT σ H _ (I2.call' (ch := []) rfl (Un.kept hk) (I2.hok.kept hk) I2.bare fun b hb => by simp at hb) ft
  | succ n ih =>
    intro s hg hl ⟨gs, hgs, hgo'⟩
    have hgl : g < s.gens.size := (Array.getElem?_eq_some_iff.mp hgs).1
    refine codeAny_builtin F.entry_all_loop ?_
    rw [Around.under_plainId F.plain_all_loop _]
    show wpAny _ A.in1 (pyNext (.ref a) >>= _) _ _ s
    refine wpAny_bind (GenW.wpAny_gsz (n := g + 1) hgl (wpAny_pyNext_genexpQ (A := A.in1) hh hl hd hg hgs (goes hgo') (fun v s₁ gs' hbare hv => ?_) (fun s₁ hp h' hk => ?_)))
    · intro hsz
      obtain ⟨c, rfl, h⟩ := hv
      refine wpAny_bind (wpAny_holding (wpAny_truthy_bool ?_))
      refine wpAny_bind (wpAny_letGo ?_)
      rcases h with ⟨rfl, hat, hk⟩ | ⟨rfl, σ, H, I, ff⟩
      · simp only [if_true]
        obtain ⟨_, _, _, I1, _⟩ := id hat
        have hsz1 : g < s₁.gens.size := by
          have q : (s₁.setGen g gs').gens.size = s₁.gens.size := GenW.setGen_size _ _ _
          have hsz' : g + 1 ≤ (s₁.setGen g gs').gens.size := hsz
          omega
        refine wpAny_pure ⟨plainId_quiet F.plain_all_loop _, ih (s₁.setGen g gs') (show s₁.heap.IsGen a g from pinned I1) (show s₁.heap.NoLimit from I1.nolimit) ⟨gs', setGen_at hsz1, ?_⟩⟩
        exact hk _ ⟨rfl, rfl, allBare_setGen (allBare_setGen I1.bare hbare) rfl⟩
      · simp only [Bool.false_eq_true, if_false]
        refine wpAny_bind (wpAny_rule (wpAny_pure ?_))
        exact hF σ H _ (inv_woke I ⟨rfl, rfl, allBare_setGen I.bare hbare⟩) ff
    · intro _
      obtain ⟨σ, H, I, ft⟩ := hp
      refine wpAny_bind (wpAny_rule (wpAny_pure ?_))
      have I2 : Inv GX [] σ H (s₁.setGen g .finished) := inv_woke I ⟨rfl, rfl, allBare_setGen I.bare rfl⟩
      exact hT σ H _ (I2.call' (ch := []) rfl (Un.kept hk) (I2.hok.kept hk) I2.bare fun b hb => by simp at hb) ft
end

/-- all(elt for tg in iter), its element True or False; behind it the def's table may have grown.
W by the turn and a measure; a turn that gives False ends it -/
def tAllG (P : Addr) (wi : TI) (g : TG) (te : TE) (caps : List (Str × Nat)) : TE := fun σ H Q => wi σ H fun J H1 => TabG H1 P ∧ ∀ H2, Tabbed P H1 H2 →
  ∃ W : Nat → Nat → Hp → Prop, (∃ m, W 0 m H2) ∧ ∀ i m H, W i m H → (J.stop i H ∧ Q (.bl true) H) ∨
    (J.go i H ∧ ∃ Nx : Hp → Prop, (∀ H', Nx H' → ∃ m', m' < m ∧ W (i + 1) m' H') ∧ ∀ x H', J.yld i H x H' → g x (none :: capV σ caps) H' fun σ2 H3 =>
      (∀ (j : Nat) v, (none :: capV σ caps : L2.St)[j]? = some (some v) → σ2[j]? = some (some v)) ∧ te σ2 H3 fun y H5 => ∃ c, y = .bl c ∧ if c = true then Nx H5 else Q (.bl false) H5)

theorem pe_allG {X : Cx} {c P : Addr} {elt tg iter : Expr} {x : Str} {p pos gpos : Pos} {scope : Scope} {wi : TI} {g : TG} {te : TE} {k : Nat} {caps : List (Str × Nat)}
    (hr : Room (k + 1) X.A) (hg : Gl X "all") (hm : X.mg "all" = none) (TB : TabB X.base X.mg c P) (hcode : X.env.code = .ref c) (S : GenS X.env scope x) (C : Caps X scope caps) (hi : PI X tg iter wi) (hcalm : X.calm = true)
    (pg : ∀ (s : Shared) (H : Hp) (a : Addr) (code : Value) (fp : List Addr) (pn : List (Addr × Obj)), PG (gx X (x :: capN caps) s H (genEnv scope (cloFrom X.env.cells scope.names []) a code builtinsNs X.env) fp pn) tg g)
    (pe : ∀ (s : Shared) (H : Hp) (a : Addr) (code : Value) (fp : List Addr) (pn : List (Addr × Obj)), Room k (gx X (x :: capN caps) s H (genEnv scope (cloFrom X.env.cells scope.names []) a code builtinsNs X.env) fp pn).A → PE (gx X (x :: capN caps) s H (genEnv scope (cloFrom X.env.cells scope.names []) a code builtinsNs X.env) fp pn) elt te)
    (hb : bootBuiltins "all" = some (.builtin "all") := by decide +kernel)
    (hs : ∀ v, genFold iter X.env v = pure v := by intro _; rfl)
    (he : starEach [.GeneratorExp elt [⟨tg, iter, [], 0⟩] scope gpos] X.env = (false, eval (.GeneratorExp elt [⟨tg, iter, [], 0⟩] scope gpos) X.env) :: starEach [] X.env := by rfl) :
    PE X (.Call (.Name "all" p) [.GeneratorExp elt [⟨tg, iter, [], 0⟩] scope gpos] [] pos) (tAllG P wi g te caps) := by
  refine ⟨fun pins s σ H Q I h => ?_⟩
  refine wpAny_Call_Name_kw (ld_blt I hg hm hb ?_)
  refine PyProof.Rows.callWith_builtin1 ?_ he (by rfl)
  rw [he]
  show wpAny _ _ (spliced ((false, eval (.GeneratorExp elt [⟨tg, iter, [], 0⟩] scope gpos) X.env) :: backTo pos (starEach [] X.env))) _ _ s
  refine Calls.spliced_cons ?_
  refine wpAny_mono (Q := fun v s5 => wpAny (model X.prog X.w) X.A (call (.builtin "all") [v]) (EP X pins σ Q) X.xe s5) ?_ (fun v s5 hq => Calls.spliced_nil hq) fun _ _ h => h
  refine wpAny_GeneratorExp_make S.co (closure_ok S.free) S.cell S.dot S.kind (by have := hr.dp; omega) ?_ hs
  refine thn (hi.run pins s σ H _ I h) fun xv s1 h1 => thn h1 fun itv s2 h2 => ?_
  obtain ⟨it, fp, tn, J, H2, ei, I2, T, st2, f2, ⟨ps, hP, ht⟩, q⟩ := h2
  subst ei
  refine ⟨I2.nolimit, ?_⟩
  have hPs : s2.heap.get? P = some { cls := .none, data := .fields ps } := I2.hok P _ hP
  have hPlt : P < s2.heap.objs.size := Heap.lt_size hPs
  have cd : PySem.W.CodeHd s2.heap c P := TB.code.keeps fun b u e => I2.bk b u e
  have lim2 : s2.heap.NoLimit := I2.nolimit
  have fpP : ∀ b ∈ fp, b ≠ P := fun b hb z => by
    have q := (f2 b hb).1
    rw [z, hP] at q
    cases q
  have cont : ∀ (code : Value) (h3 : Heap) (tk : Nat) (ps' : Array Value), Heap.ExtBut P s2.heap h3 → s2.heap.objs.size ≤ h3.objs.size → h3.get? P = some { cls := .none, data := .fields ps' } → (∃ more, ps' = ps ++ more) → TriplesOk ps'.toList →
      wpAny (model X.prog X.w) X.A (builtinsFor X.env.globals X.env.builtins) (fun bi s₄ =>
        ∀ h', h'.Ns s₄.heap.objs.size (fun y => if y = ".0" then some (.ref it) else none) → Heap.SameBut s₄.heap.objs.size (s₄.heap.push { cls := .type "frame", data := .dict #[] }) h' →
          wpAny (model X.prog X.w) X.A (call (.builtin "all") [.ref h'.objs.size]) (EP X pins σ Q) X.xe { s₄ with
            gens := s₄.gens.push (.fresh (.compStart (.GeneratorExp elt [⟨tg, iter, [], 0⟩] scope gpos) 0 (.ref it) .none (genEnv scope (cloFrom X.env.cells scope.names []) s₄.heap.objs.size code bi X.env))),
            toks := s₄.toks + 1 + 1 + 1,
            heap := h'.push { cls := .type "generator", data := .fields #[.int s₄.gens.size 0, .str "<genexpr>" (s₄.toks + 1), .str (X.env.qual ++ "<genexpr>") (s₄.toks + 1 + 1)] } }) X.xe { s2 with heap := h3, toks := tk } := by
    intro code h3 tk ps' hx hsz hP3 hmore ht3
    obtain ⟨bm, ob, e1, e2, e3, e4, e5, e6, e7, e8⟩ := TB.bm
    obtain ⟨more, em⟩ := hmore
    have keep3 : ∀ b u, b ≠ P → s2.heap.get? b = some u → h3.get? b = some u := fun b u hb e => hx b u hb e
    refine wpAny_builtinsFor (m := X.mg) (by rw [I2.ok.glob]; exact (I2.mod.glob.keeps I2.bk).extBut hx TB.gP) e1 e2 (keep3 _ _ e4 (I2.bk _ _ e5)) e6 e7 e8 ?_
    have I4 : Inv X pins σ (upd H2 P (.tbl (ps ++ more))) { s2 with heap := h3, toks := tk } := inv_tab (g' := s2.gens) (d' := s2.drawn) I2 hP keep3 (by rw [← em]; exact hP3) I2.bare
    obtain ⟨W, ⟨m0, w0⟩, turn⟩ := q (upd H2 P (.tbl (ps ++ more))) ⟨⟨ps ++ more, upd_same, by rw [← em]; exact ht3⟩, fun b hb => upd_ne hb⟩
    generalize hs4 : ({ s2 with heap := h3, toks := tk } : Shared) = s4 at I4 ⊢
    have g4 : s4.gens = s2.gens := by rw [← hs4]
    have hh4 : s4.heap = h3 := by rw [← hs4]
    intro h' hn' hs'
    have hz' : h'.objs.size = s4.heap.objs.size + 1 := by rw [hs'.1, Heap.size_push]
    generalize hgo : ({ cls := .type "generator", data := .fields #[.int s4.gens.size 0, .str "<genexpr>" (s4.toks + 1), .str (X.env.qual ++ "<genexpr>") (s4.toks + 1 + 1)] } : Obj) = go
    have isG : ∀ h : Heap, h.get? h'.objs.size = some go → h.IsGen h'.objs.size s4.gens.size := fun h e => ⟨go, _, _, e, by rw [← hgo], by rw [← hgo], by rw [← hgo]⟩
    have keep' : ∀ b o, s4.heap.get? b = some o → h'.get? b = some o := fun b o e => hs'.extBut b o (Nat.ne_of_lt (Heap.lt_size e)) (Heap.get?_push_of_some _ e)
    have keep5 : ∀ b o, s4.heap.get? b = some o → (h'.push go).get? b = some o := fun b o e => Heap.get?_push_of_some _ (keep' b o e)
    have hpush : (h'.push go).get? h'.objs.size = some go := by
      rw [← hgo]
      exact Heap.get?_push_size _ rfl
    generalize hs5 : ({ s4 with gens := s4.gens.push (.fresh (.compStart (.GeneratorExp elt [⟨tg, iter, [], 0⟩] scope gpos) 0 (.ref it) .none (genEnv scope (cloFrom X.env.cells scope.names []) s4.heap.objs.size code builtinsNs X.env))), toks := s4.toks + 1 + 1 + 1, heap := h'.push go } : Shared) = s5
    have h5h : s5.heap = h'.push go := by rw [← hs5]
    have h5g : s5.gens = s4.gens.push (.fresh (.compStart (.GeneratorExp elt [⟨tg, iter, [], 0⟩] scope gpos) 0 (.ref it) .none (genEnv scope (cloFrom X.env.cells scope.names []) s4.heap.objs.size code builtinsNs X.env))) := by rw [← hs5]
    have b5 : AllBare s5.gens := by rw [h5g]; exact AllBare.push I4.bare rfl
    have f4 : ∀ b ∈ fp, FpOk X pins (upd H2 P (.tbl (ps ++ more))) b ∧ b < s4.heap.objs.size := fun b hb => by
      refine ⟨⟨?_, (f2 b hb).2⟩, ?_⟩
      · rw [upd_ne (fpP b hb)]
        exact (f2 b hb).1
      · obtain ⟨o, e, _⟩ := T.obj _ _ st2 b hb
        rw [hh4]
        exact Nat.lt_of_lt_of_le (Heap.lt_size e) hsz
    have I5 := gen_start (s5 := s5) (go := go) (code := code) (fp := fp) I4 S C hr.hd f4 (by rw [← hs5]) b5 (by rw [h5h]; exact keep5) (by rw [h5h]; exact hn'.push _) (by rw [h5h, ← hz']; exact hpush) (fun v z => by rw [← hgo] at z; cases z)
    have st5 : tn 0 s5.heap := T.keep _ _ _ st2 fun b hb o e => by
      rw [h5h]
      exact keep5 b o (by rw [hh4]; exact keep3 b o (fpP b hb) e)
    have n5 : ∀ b ∈ fp, upd H2 P (.tbl (ps ++ more)) b = none := fun b hb => (f4 b hb).1.1
    have hpn : ∀ p ∈ [(s4.heap.objs.size + 1, go)], ∀ b ∈ fp, p.1 ≠ b := fun p hp b hb z => by
      rw [List.mem_singleton.mp hp] at z
      have := (f4 b hb).2
      have z' : s4.heap.objs.size + 1 = b := z
      rw [← z'] at this
      exact absurd (Nat.lt_of_succ_lt this) (Nat.lt_irrefl _)
    rw [hz'] at isG hpush ⊢
    have back : ∀ {σ' : L2.St} {H' : Hp} {s' : Shared}, Inv (gx X (x :: capN caps) s4 (upd H2 P (.tbl (ps ++ more))) (genEnv scope (cloFrom X.env.cells scope.names []) s4.heap.objs.size code builtinsNs X.env) fp [(s4.heap.objs.size + 1, go)]) [] σ' H' s' → Inv X pins σ H' s' := fun {σ' H' s'} J =>
      I4.call' (ch := fp) J.os J.base J.hok J.bare fun b hb => ⟨(f4 b hb).1.2.2.2.1, (f4 b hb).1.2.1, (f4 b hb).1.2.2.2.2.1, (f4 b hb).1.2.2.2.2.2⟩
    have rmk : Room k (X.A.in1.in1.deeper (genEnv scope (cloFrom X.env.cells scope.names []) s4.heap.objs.size code builtinsNs X.env)) := ⟨hr.hd, by have := hr.dp; show X.A.depth + 1 + 3 * k + 5 < _; omega, by have := hr.un; show X.A.units + 1 + 1 + 3 + 16 * k + 200 < _; omega⟩
    have hg5 : s5.heap.IsGen (s4.heap.objs.size + 1) s4.gens.size := isG _ (by rw [h5h]; exact hpush)
    refine call_function_tree F.kind_all F.plain_all F.entry_all (F.args_all1 _) ?_
    unfold Builtin.«all»
    refine wpAny_bind (m := oneArg "all" _) (wpAny_pure ?_)
    refine wpAny_bind (wpAny_pyIter_gen hg5 ?_)
    refine wpAny_pure ⟨plainId_quiet F.plain_all_loop _, ?_⟩
    refine all_loop (GX := gx X (x :: capN caps) s4 (upd H2 P (.tbl (ps ++ more))) (genEnv scope (cloFrom X.env.cells scope.names []) s4.heap.objs.size code builtinsNs X.env) fp [(s4.heap.objs.size + 1, go)]) (fp := fp) (tn := tn) (σ0 := none :: capV σ caps) (W := W) (Ft := fun H' => Q (.bl true) H') (Ff := fun H' => Q (.bl false) H')
      (go := go) hr.hd (by have := hr.dp; omega) isG (List.mem_singleton.mpr rfl) (fun σ' H' s' J ft => ?_) (fun σ' H' s' J ff => ?_) (m0 + 1) s5 hg5 I5.nolimit ⟨.fresh (.compStart (.GeneratorExp elt [⟨tg, iter, [], 0⟩] scope gpos) 0 (.ref it) .none (genEnv scope (cloFrom X.env.cells scope.names []) s4.heap.objs.size code builtinsNs X.env)), by rw [h5g]; exact Array.getElem?_push_size .., ⟨rfl, ?_⟩⟩
    · exact ⟨.bl true, H', back J, rfl, ft⟩
    · exact ⟨.bl false, H', back J, rfl, ff⟩
    · have I5' : Inv (gx X (x :: capN caps) s4 (upd H2 P (.tbl (ps ++ more))) (genEnv scope (cloFrom X.env.cells scope.names []) s4.heap.objs.size code builtinsNs X.env) fp [(s4.heap.objs.size + 1, go)]) [] (none :: capV σ caps) (upd H2 P (.tbl (ps ++ more))) (s5.setGen s4.gens.size .running) := inv_woke I5 ⟨rfl, rfl, allBare_setGen b5 rfl⟩
      refine seg_begin (GX := gx X (x :: capN caps) s4 (upd H2 P (.tbl (ps ++ more))) (genEnv scope (cloFrom X.env.cells scope.names []) s4.heap.objs.size code builtinsNs X.env) fp [(s4.heap.objs.size + 1, go)]) T (i := 0) st5 ?_
      refine seg_loop (A := X.A.in1.in1) (GX := gx X (x :: capN caps) s4 (upd H2 P (.tbl (ps ++ more))) (genEnv scope (cloFrom X.env.cells scope.names []) s4.heap.objs.size code builtinsNs X.env) fp [(s4.heap.objs.size + 1, go)]) rfl rfl rfl rfl hcalm rfl rfl hpn S.co T (pg s4 _ _ code fp _) (pe s4 _ _ code fp _ rmk) turn (m0 + 1) _ _ ⟨0, m0, _, I5', st5, n5, w0, Nat.lt_succ_self _⟩
  cases hf : codeAmong gpos ps.toList with
  | none =>
    refine wpAny_genexprCodeX hcode (cd.code hPs ht) (cd.tab hPs) hf fun c' h' tk hx hge hlt hco' _ htab' _ => ?_
    obtain ⟨o1, vs, f1, tf, fl, tg', inF, tx, tt, op, _, _, _, _, _, _, _, _, _, htr, _⟩ := hco'
    exact cont _ h' tk _ hx (Nat.le_trans hge (Nat.le_of_lt hlt)) htab'.2 ⟨_, rfl⟩ htr
  | some cv =>
    refine wpAny_genexprCode_hit hcode (cd.code hPs ht) hf ?_
    exact cont cv s2.heap s2.toks ps (Heap.ExtBut.refl _ _) (Nat.le_refl _) hPs ⟨#[], by simp⟩ ht
end Gx

/-! Promises of defs that are called where no repr is under way: room and no guards. -/
namespace Gd
open PySem PySem.Spec PyProof.Rows L2 GxR Gx

structure RoomG (k : Nat) (A : Around) : Prop where
  r : Room k A
  g : A.guards = some []
theorem RoomG.mono {j k : Nat} {A : Around} (r : RoomG k A) (h : j ≤ k) : RoomG j A := ⟨r.r.mono h, r.g⟩
theorem RoomG.deeper {k : Nat} {A : Around} (r : RoomG (k + 1) A) (env : Env) : RoomG k (A.deeper env) := ⟨r.r.deeper env, r.g⟩

/-- a def's promise, kept wherever no guard is up -/
structure FnG (P : Program) (w : World) (K : PySem.W.Frag) (mg : Str → Option Value) (base : Heap) (CX : CXT) (k : Nat) (f : Addr) (fd : FuncData) (ps : List Str) (sp : Sp) : Prop where
  len : ∀ vs H Q E, sp vs H Q E → vs.length = ps.length
  run : ∀ (A : Around) (outer : List Env) (s : Shared) (H : Hp) (args : Args) (us : List Value) (vs : List V) (Q : VK) (E : XK), RoomG k A → Env0 P w K mg base A outer s H → BindsTo s fd args (ps.zip us) → Vals vs us → sp vs H Q E →
    codeAny (model P w) A (.call (.ref f) args) (CR CX outer P w H s Q E) s

section
variable {P : Program} {w : World} {K : PySem.W.Frag} {mg : Str → Option Value} {base : Heap} {CX : CXT} {k : Nat} {f : Addr} {fd : FuncData} {ps : List Str} {sp : Sp}

theorem FnG.mono {j : Nat} (F : FnG P w K mg base CX j f fd ps sp) (h : j ≤ k) : FnG P w K mg base CX k f fd ps sp := ⟨F.len, fun A outer s H args us vs Q E hr => F.run A outer s H args us vs Q E (hr.mono h)⟩
theorem FnG.imp {sp' : Sp} (F : FnG P w K mg base CX k f fd ps sp) (h : ∀ vs H Q E, sp' vs H Q E → sp vs H Q E) : FnG P w K mg base CX k f fd ps sp' :=
  ⟨fun vs H Q E q => F.len vs H Q E (h _ _ _ _ q), fun A outer s H args us vs Q E hr he hb hv hs => F.run A outer s H args us vs Q E hr he hb hv (h _ _ _ _ hs)⟩
/-- a promise kept everywhere -/
theorem FnG.of (F : FnOk P w K mg base CX k f fd ps sp) : FnG P w K mg base CX k f fd ps sp := ⟨F.len, fun A outer s H args us vs Q E hr => F.run A outer s H args us vs Q E hr.r⟩
/-- nothing is raised: any word for what is raised will do -/
theorem FnG.calm0 {CX' : CXT} (F : FnG P w K mg base CX0 k f fd ps sp) : FnG P w K mg base CX' k f fd ps sp := ⟨F.len, fun A outer s H args us vs Q E hr he hb hv hs => codeAny_mono (F.run A outer s H args us vs Q E hr he hb hv hs) fun r s' q => by
  cases r with
  | error e => exact False.elim q
  | ok fl => cases fl <;> exact q⟩

theorem fnG_of {name qual : Str} {params : Arguments} {body : List Stmt} {scope : Scope} {dV kV doc pm cdv ct oc : Value} {an od : Option Addr} {osl : Array (Option Value)} {N : List Str}
    (lk : K.lookup f = some ⟨oc, od, .func (PySem.W.fnOf name qual params body scope dV kV doc pm an cdv ct), osl⟩) (hcd : PySem.W.codeIn K cdv qual = true) (S : FnScope N ps scope) (len : ∀ vs H Q E, sp vs H Q E → vs.length = ps.length)
    (hbody : ∀ (A : Around) (outer : List Env) (s : Shared) (H : Hp) (vs : List V) (Q : VK) (E : XK), RoomG k (A.deeper (envOfC qual scope s.heap.objs.size f cdv)) → sp vs H Q E →
      ∃ t, PSs (cxOf CX P w K mg base N qual scope f cdv A outer s H E) body t ∧ t { nx := fun _ H' => Q .non H', rt := Q } (start N vs) H) :
    FnG P w K mg base CX (k + 1) f (PySem.W.fnOf name qual params body scope dV kV doc pm an cdv ct) ps sp := by
  refine ⟨len, fun A outer s H args us vs Q E hr e0 hb r hsp => ?_⟩
  have kin : K.In s.heap := e0.mod.kin.keeps fun b o e => (e0.bs b o e).1
  have lim : s.heap.NoLimit := e0.mod.nolimit.keeps fun b o e => (e0.bs b o e).1
  have par : ∀ y ∈ ps.zip us, scope.names.lookup y.1 = some .local ∨ (scope.names.lookup y.1 = some .cell ∧ ((cellsFrom (s.heap.objs.size + 1) scope.names []).lookup y.1).isSome = true) := fun ⟨n, v⟩ hy => by
    have hn := (List.of_mem_zip hy).1
    rcases S.par n hn with q | q
    · exact .inl q
    · exact .inr ⟨q, PySem.W.cellsFrom_some _ _ _ (.inl q)⟩
  refine codeAny_call_function hr.r.depth (kin _ _ lk) rfl S.co S.gen rfl (PySem.W.codeRec_of kin hcd) (hb _ _ _ _ ?_)
  refine wpAny_newFunctionEnv_cells S.kind par fun env he s1 x => ?_
  subst he
  refine ⟨lim.keeps x.toInCall.keep, codeAny_func ?_⟩
  obtain ⟨t, ht, hq⟩ := hbody A outer s H vs Q E (hr.deeper _) hsp
  refine wpAny_mono (ht.run [] s1 (start N vs) H _ (inv_start S hr.r.hd e0 (len _ _ _ _ hsp) r x) hq) (fun fl s' hs => ?_) fun e s' hs => hs
  cases fl with
  | ret u =>
    obtain ⟨v, σ', H', J, rv, q⟩ := hs
    exact ⟨v, H', J.os, J.bare, J.base, J.hok, rv, q⟩
  | next =>
    obtain ⟨σ', H', J, q⟩ := hs
    exact ⟨.non, H', J.os, J.bare, J.base, J.hok, rfl, q⟩
  | brk =>
    obtain ⟨_, _, _, q⟩ := hs
    exact q.elim
  | cont =>
    obtain ⟨_, _, _, q⟩ := hs
    exact q.elim
end

section
variable {P : Program} {w : World} {K : PySem.W.Frag} {mg : Str → Option Value} {base : Heap}
/-- a def that lets nothing out, by its body -/
theorem okG {x qual : Str} {st : Stmt} {f : Addr} {fd : FuncData} {N ps : List Str} {k : Nat} {sp : Sp} (F : Fun K x qual st f fd) (S : FnScope N ps (defScope st)) (len : ∀ vs H Q E, sp vs H Q E → vs.length = ps.length)
    (hbody : ∀ (cdv : Value) (A : Around) (outer : List Env) (s : Shared) (H : Hp) (vs : List V) (Q : VK) (E : XK), RoomG k (A.deeper (envOfC qual (defScope st) s.heap.objs.size f cdv)) → sp vs H Q E →
      ∃ t, PSs (cxOf CX0 P w K mg base N qual (defScope st) f cdv A outer s H E).nox (defBody st) t ∧ t { nx := fun _ H' => Q .non H', rt := Q } (start N vs) H) : FnG P w K mg base CX0 (k + 1) f fd ps sp := by
  obtain ⟨oc, od, kV, doc, pm, an, cdv, ct, osl, rfl, lk, hcd⟩ := F.ex
  refine fnG_of lk hcd S len fun A outer s H vs Q E hr hsp => ?_
  obtain ⟨t, h, q⟩ := hbody cdv A outer s H vs Q E hr hsp
  exact ⟨t, h.nox, q⟩
/-- a def whose code is at c, its table at T -/
theorem okGc {x qual : Str} {st : Stmt} {f c : Addr} {fd : FuncData} {N ps : List Str} {k : Nat} {sp : Sp} (F : Fun K x qual st f fd) (hc : fd.code = .ref c) (S : FnScope N ps (defScope st)) (len : ∀ vs H Q E, sp vs H Q E → vs.length = ps.length)
    (hbody : ∀ (A : Around) (outer : List Env) (s : Shared) (H : Hp) (vs : List V) (Q : VK) (E : XK), RoomG k (A.deeper (envOfC qual (defScope st) s.heap.objs.size f (.ref c))) → sp vs H Q E →
      ∃ t, PSs (cxOf CX0 P w K mg base N qual (defScope st) f (.ref c) A outer s H E).nox (defBody st) t ∧ t { nx := fun _ H' => Q .non H', rt := Q } (start N vs) H) : FnG P w K mg base CX0 (k + 1) f fd ps sp := by
  obtain ⟨oc, od, kV, doc, pm, an, cdv, ct, osl, rfl, lk, hcd⟩ := F.ex
  obtain rfl : cdv = .ref c := hc
  refine fnG_of lk hcd S len fun A outer s H vs Q E hr hsp => ?_
  obtain ⟨t, h, q⟩ := hbody A outer s H vs Q E hr hsp
  exact ⟨t, h.nox, q⟩
/-- a def that may raise -/
theorem okGX {x qual : Str} {st : Stmt} {f : Addr} {fd : FuncData} {N ps : List Str} {k : Nat} {sp : Sp} (F : Fun K x qual st f fd) (S : FnScope N ps (defScope st)) (len : ∀ vs H Q E, sp vs H Q E → vs.length = ps.length)
    (hbody : ∀ (cdv : Value) (A : Around) (outer : List Env) (s : Shared) (H : Hp) (vs : List V) (Q : VK) (E : XK), RoomG k (A.deeper (envOfC qual (defScope st) s.heap.objs.size f cdv)) → sp vs H Q E →
      ∃ t, PSs (cxOf (L2.CX P w) P w K mg base N qual (defScope st) f cdv A outer s H E) (defBody st) t ∧ t { nx := fun _ H' => Q .non H', rt := Q } (start N vs) H) : FnG P w K mg base (L2.CX P w) (k + 1) f fd ps sp := by
  obtain ⟨oc, od, kV, doc, pm, an, cdv, ct, osl, rfl, lk, hcd⟩ := F.ex
  exact fnG_of lk hcd S len fun A outer s H vs Q E hr hsp => hbody cdv A outer s H vs Q E hr hsp
end

section
variable {X : Cx} {CX : CXT} {k : Nat} {f : Addr} {fd : FuncData} {ps : List Str} {sp : Sp} {dvs : List V} {ds : List Value} {E : XK} {x : Str} {p pos : Pos} {e : Expr} {es : List Expr} {t : TA}
theorem run_fnG {pins : List (Addr × Obj)} {σ : L2.St} {H : Hp} {s : Shared} {Q : VK} {us : List Value} {vs : List V} (F : FnG X.prog X.w X.K X.mg X.base CX k f fd ps sp) (hr : RoomG k X.A) (hb : Binds X.K fd ps ds) (hd : Vals dvs ds) (hx : Passes CX X E)
    (I : Inv X pins σ H s) (r : Vals vs us) (h : sp (vs ++ dvs) H Q E) : wpAny (model X.prog X.w) X.A (call (.ref f) us) (EP X pins σ Q) X.xe s := by
  have r2 : Vals (vs ++ dvs) (us ++ ds) := r.append hd
  have hl : (us ++ ds).length = ps.length := r2.length ▸ F.len _ _ _ _ h
  refine wpAny_call (codeAny_mono (F.run X.A X.stack s H ⟨us, []⟩ (us ++ ds) (vs ++ dvs) Q E hr I.env0 (hb s us I.kIn hl) r2 h) fun r s' hq => ?_)
  cases r with
  | error e => exact hx pins σ H s e s' I hq
  | ok fl =>
    cases fl with
    | ret u => exact I.after hq
    | next => exact hq.elim
    | brk => exact hq.elim
    | cont => exact hq.elim
theorem pe_callG (F : FnG X.prog X.w X.K X.mg X.base CX k f fd ps sp) (hr : RoomG k X.A) (hg : Gl X x) (hm : X.mg x = some (.ref f)) (hk : PySem.W.keepIn X.K (.ref f) = true) (hb : Binds X.K fd ps ds) (hd : Vals dvs ds) (hx : Passes CX X E)
    (ha : PA X (e :: es) t) (hdb : (x == ("__debug__" : Str)) = false := by decide) (he : starEach (e :: es) X.env = (false, eval e X.env) :: starEach es X.env := by rfl) (hpl : (backTo pos (starEach es X.env)).any (·.1) = false := by rfl) :
    PE X (.Call (.Name x p) (e :: es) [] pos) (tCall sp dvs E t) := by
  refine ⟨fun pins s σ H Q I h => wpAny_Call_Name_kw (ld_glob I hg hm ?_ hdb)⟩
  refine PySem.W.callWith_K (h₀ := X.base) I.ok.mod.kin hk (thn (ha.run pos pins s σ H _ I h) fun us s1 ⟨vs, H1, I1, r, q⟩ => ⟨I1.kIn, run_fnG F hr hb hd hx I1 r q⟩) he hpl
theorem pe_call0G (F : FnG X.prog X.w X.K X.mg X.base CX k f fd ps sp) (hr : RoomG k X.A) (hg : Gl X x) (hm : X.mg x = some (.ref f)) (hk : PySem.W.keepIn X.K (.ref f) = true) (hb : Binds X.K fd ps ds) (hd : Vals dvs ds) (hx : Passes CX X E)
    (hdb : (x == ("__debug__" : Str)) = false := by decide) : PE X (.Call (.Name x p) [] [] pos) (tCall sp dvs E tNil) :=
  ⟨fun pins s σ H Q I h => wpAny_Call_Name_kw (ld_glob I hg hm (PySem.W.callWith_K0 I.kIn hk (run_fnG (us := []) F hr hb hd hx I .nil h)) hdb)⟩
end

/-! ### repr of data of any depth -/
section
variable {X : Cx}
/-- repr(x), x data: its text -/
def rRepr (K : PySem.W.Frag) : List V → Hp → VK → Prop := fun xs H Q => ∃ v d, xs = [v] ∧ Dp K H v d ∧ d.showable = true ∧ d.hasDict = false ∧ d.depth ≤ 64 ∧ d.shown.length ≤ sizeLine ∧ Q (.str d.shown) H
theorem call_repr (hu : X.A.units + 66 < cLine) (hg : X.A.guards = some []) : CallR X (.builtin "repr") (rRepr X.K) := by
  intro pins s σ H xs us Q I r h
  obtain ⟨v, d, rfl, hd, hs, hnd, hdp, hsz, q⟩ := h
  obtain ⟨u, rfl, ru⟩ := vals1 r
  obtain ⟨as, rd⟩ := Dp.reads I d v u hd ru
  cases hd with
  | non => cases ru; exact PySem.P.repr_of_none ⟨.str _, H, I.tok _, ⟨_, rfl⟩, q⟩
  | bl b => cases ru; exact PySem.P.repr_of_bool ⟨.str _, H, I.tok _, ⟨_, rfl⟩, q⟩
  | int i =>
    obtain ⟨t, rfl⟩ := ru
    exact PySem.P.repr_of_int (by simpa [PyData.showable] using hs) ⟨.str _, H, I.tok _, ⟨_, rfl⟩, q⟩
  | str x =>
    obtain ⟨t, rfl⟩ := ru
    exact PySem.P.repr_of_str ⟨.str _, H, I.tok _, ⟨_, rfl⟩, q⟩ hsz
  | lst h1 h2 =>
    cases ru
    refine repr_of_reads' rd hs (fun z => absurd (hnd.symm.trans z) (by decide)) hg (by omega) (fun _ _ e => e) (fun h' t tk k => ?_) hsz
    exact ⟨.str _, H, I.kept k, ⟨_, rfl⟩, q⟩
  | tup h1 h2 =>
    cases ru
    refine repr_of_reads' rd hs (fun z => absurd (hnd.symm.trans z) (by decide)) hg (by omega) (fun _ _ e => e) (fun h' t tk k => ?_) hsz
    exact ⟨.str _, H, I.kept k, ⟨_, rfl⟩, q⟩
end
end Gd

/-! The end of a law: the law's def keeps its promise FnG at the caller's around. -/
namespace Gd
open PySem PySem.Spec PyProof.Rows L2 GxR Gx

/-- what the law is entered with: the script, locked, and the defs' tables -/
def entryH (K : PySem.W.Frag) (a : Addr) (T : List Addr) (scr : HO) : Hp := fun b => if b ∈ T then some (.tbl #[]) else if b = a then (if (K.lookup a).isSome = true then none else some scr) else none
theorem entryH_inv {K : PySem.W.Frag} {a b : Addr} {T : List Addr} {scr u : HO} (h : entryH K a T scr b = some u) : (b ∈ T ∧ u = .tbl #[]) ∨ (b ∉ T ∧ b = a ∧ K.lookup a = none ∧ u = scr) := by
  unfold entryH at h
  by_cases h1 : b ∈ T
  · rw [if_pos h1] at h
    cases h
    exact .inl ⟨h1, rfl⟩
  · rw [if_neg h1] at h
    by_cases h2 : b = a
    · rw [if_pos h2] at h
      by_cases h3 : (K.lookup a).isSome = true
      · rw [if_pos h3] at h
        cases h
      · rw [if_neg h3] at h
        cases h
        refine .inr ⟨h1, h2, ?_, rfl⟩
        cases q : K.lookup a with
        | none => rfl
        | some o => rw [q] at h3; exact absurd rfl h3
    · rw [if_neg h2] at h
      cases h
theorem entryH_tab {K : PySem.W.Frag} {a b : Addr} {T : List Addr} {scr : HO} (h : b ∈ T) : entryH K a T scr b = some (.tbl #[]) := if_pos h
theorem entryH_scr {K : PySem.W.Frag} {a : Addr} {T : List Addr} {scr : HO} (h : a ∉ T) (hk : K.lookup a = none) : entryH K a T scr a = some scr := by
  unfold entryH
  rw [if_neg h, if_pos rfl, hk]
  rfl

section
variable {P : Program} {w : World} {K : PySem.W.Frag} {mg mb : Str → Option Value} {k : Nat} {fa a : Addr} {cs : List (Addr × Addr)} {fd : FuncData} {x : Str} {sp : Sp} {s1 : Shared} {vs : List Value} {ns : List Int} {CX : CXT}
theorem law_endG (kin : K.In s1.heap) (hns : s1.heap.Ns mainGlobals mg) (hb : s1.heap.Ns builtinsNs mb) (hbb : ∀ x : Str, x ≠ "__name__" → mb x = bootBuiltins x) (hlim : s1.heap.NoLimit) (hg : s1.gens = #[])
    (hT : ∀ p ∈ cs, s1.heap.get? p.2 = some { cls := .none, data := .fields #[] }) (nT : ∀ p ∈ cs, K.lookup p.2 = none) (C : ∀ p ∈ cs, PySem.W.CodeHd s1.heap p.1 p.2)
    (hbm : ∃ (bm : Addr) (ob : Obj), mg "__builtins__" = some (.ref bm) ∧ bm ≠ builtinsNs ∧ s1.heap.get? bm = some ob ∧ ob.cls = .type "module" ∧ ob.dict = some builtinsNs ∧ ob.data = .plain)
    (ha : s1.heap.get? a = some { cls := .type "list", data := .seq vs.toArray }) (hi : IntsAre vs ns) (hl : ns.length ≤ sizeLine) (hr : RoomG k callerA)
    (F : ∀ base : Heap, K.In base → base.Ns mainGlobals mg → (∀ p ∈ cs, TabB base mg p.1 p.2) → FnG P w K mg base CX k fa fd [x] sp) (hbind : ∀ (s : Shared) (u : Value), BindsTo s fd ⟨[u], []⟩ [(x, u)])
    (hsp : ∀ H : Hp, (∀ p ∈ cs, H p.2 = some (.tbl #[])) → SqL K H a (ns.map V.int) → sp [.ref a] H (fun v _ => v = .bl true) fun _ _ _ => False)
    (hCX : ∀ H e s', CX [] H s1 (fun _ _ _ => False) e s' → False) :
    codeAny (model P w) callerA (.call (.ref fa) ⟨[.ref a], []⟩) (fun r s' => r = .ok (.ret (.bool true)) ∧ OldK s1.heap s'.heap ∧ s'.os = s1.os ∧ AllBare s'.gens) s1 := by
  have tabAt : ∀ b ∈ cs.map (·.2), s1.heap.get? b = some { cls := .none, data := .fields #[] } := fun b hb => by
    obtain ⟨p, hp, rfl⟩ := List.mem_map.mp hb
    exact hT p hp
  have inT : ∀ p ∈ cs, p.2 ∈ cs.map (·.2) := fun p hp => List.mem_map.mpr ⟨p, hp, rfl⟩
  have aT : a ∉ cs.map (·.2) := fun z => by
    have q := (tabAt a z).symm.trans ha
    cases congrArg Obj.data (Option.some.inj q)
  let H : Hp := entryH K a (cs.map (·.2)) (.frz { cls := .type "list", data := .seq vs.toArray } (.lst (ns.map V.int)))
  have hv : ∀ {b u}, H b = some u → (b ∈ cs.map (·.2) ∧ u = .tbl #[]) ∨ (b ∉ cs.map (·.2) ∧ b = a ∧ K.lookup a = none ∧ u = .frz { cls := .type "list", data := .seq vs.toArray } (.lst (ns.map V.int))) := fun h => entryH_inv h
  have hok : HOk P w H s1.heap := fun b u h => by
    rcases hv h with ⟨h1, rfl⟩ | ⟨_, rfl, _, rfl⟩
    · exact tabAt b h1
    · exact ⟨ha, by rw [List.length_map]; exact hl, vs, _, vals_ints hi, ha⟩
  have plain : ∀ {b : Addr} {o : Obj}, s1.heap.get? b = some o → (∀ xs n, o.data ≠ .seq xs n) → o.data ≠ .fields #[] → H b = none := fun {b o} e h1 h2 => by
    cases q : H b with
    | none => rfl
    | some u =>
      rcases hv q with ⟨h3, _⟩ | ⟨_, rfl, _, _⟩
      · rw [tabAt b h3] at e
        cases e
        exact (h2 rfl).elim
      · rw [ha] at e
        cases e
        exact (h1 _ _ rfl).elim
  have nsK : ∀ {b : Addr} {m : Str → Option Value}, s1.heap.Ns b m → (hidT s1.heap H).Ns b m := fun {b m} ⟨o, es, ep, e, d, r⟩ =>
    ⟨o, es, ep, hidT_get e (plain e (fun xs n z => by rw [d] at z; cases z) fun z => by rw [d] at z; cases z), d, r⟩
  have kinB : K.In (hidT s1.heap H) := fun b o e => hidT_get (kin b o e) (by
    cases q : H b with
    | none => rfl
    | some u =>
      rcases hv q with ⟨h3, _⟩ | ⟨_, rfl, h4, _⟩
      · obtain ⟨p, hp, rfl⟩ := List.mem_map.mp h3
        rw [nT p hp] at e
        cases e
      · rw [h4] at e
        cases e)
  have md : L2.Mod K mg (hidT s1.heap H) := ⟨kinB, nsK hns, ⟨mb, nsK hb, hbb⟩, let ⟨mc, h1, h2⟩ := hlim; ⟨mc, nsK h1, h2⟩⟩
  have noG : ∀ p ∈ cs, mainGlobals ≠ p.2 := fun p hp z => by
    obtain ⟨o, es, ep, e, hd, _⟩ := hns
    rw [z, hT p hp] at e
    cases e
    cases hd
  have tabs : ∀ p ∈ cs, TabB (hidT s1.heap H) mg p.1 p.2 := fun p hp => by
    refine ⟨?_, ?_, noG p hp⟩
    · obtain ⟨o, us, file, tf, flags, tg, inF, text, tt, e1, r1, r2, r3, r4, r5, r6, r7, r8, hne⟩ := C p hp
      exact ⟨o, us, file, tf, flags, tg, inF, text, tt, hidT_get e1 (plain e1 (fun xs n z => by rw [r2] at z; cases z) fun z => by rw [r2] at z; cases z; simp at r3), r1, r2, r3, r4, r5, r6, r7, r8, hne⟩
    · obtain ⟨bm, ob, b1, b2, b3, b4, b5, b6⟩ := hbm
      refine ⟨bm, ob, b1, b2, fun q => ?_, fun q => ?_, hidT_get b3 (plain b3 (fun xs n z => by rw [b6] at z; cases z) fun z => by rw [b6] at z; cases z), b4, b5, b6⟩
      · obtain ⟨o, es, ep, e, hd, _⟩ := hns
        rw [q, e] at b3
        cases b3
        rw [hd] at b6
        cases b6
      · rw [q, hT p hp] at b3
        cases b3
        cases b6
  have seqA : SqL K H a (ns.map V.int) := by
    cases q : K.lookup a with
    | none => exact .inl (.inr ⟨_, entryH_scr aT q⟩)
    | some o =>
      have e := kin a o q
      rw [ha] at e
      cases e
      exact .inr ⟨_, vs.toArray, _, q, rfl, rfl, rfl, by rw [List.size_toArray, hi.length]; exact hl, by simpa using vals_ints hi⟩
  have e0 : Env0 P w K mg (hidT s1.heap H) callerA [] s1 H := ⟨rfl, md, fun b o e => of_hidT e, Nat.le_of_eq (hidT_size _ _), trivial, fun b z => absurd (show b ∈ ([] : List Addr) from z) (by simp), hok, .of_eq hg⟩
  refine codeAny_mono ((F _ kinB (nsK hns) tabs).run callerA [] s1 H ⟨[.ref a], []⟩ [.ref a] [.ref a] _ _ hr e0 (hbind s1 (.ref a)) (.cons rfl .nil) (hsp H (fun p hp => entryH_tab (inT p hp)) seqA)) fun r s' h => ?_
  cases r with
  | error e => exact (hCX H e s' h).elim
  | ok fl =>
    cases fl with
    | next => exact h.elim
    | brk => exact h.elim
    | cont => exact h.elim
    | ret u =>
      obtain ⟨v, H', os, bare, un, hok', r', q⟩ := h
      obtain rfl : v = .bl true := q
      obtain rfl : u = Value.bool true := r'
      have stays : ∀ b o, b ∉ cs.map (·.2) → s1.heap.get? b = some o → s'.heap.get? b = some o := fun b o nb e => by
        cases q : H b with
        | none => exact un.keep b o e q (fun z => absurd (show b ∈ ([] : List Addr) from z) (by simp)) (by simp)
        | some u =>
          rcases hv q with ⟨z, _⟩ | ⟨_, rfl, _, rfl⟩
          · exact absurd z nb
          · rw [ha] at e
            cases e
            exact (hok' b _ (un.frzs b _ _ q)).1
      refine ⟨rfl, ⟨fun b o e => ?_, fun b o e => ?_⟩, os, bare⟩
      · by_cases hm : b ∈ cs.map (·.2)
        · obtain ⟨p, hp, rfl⟩ := List.mem_map.mp hm
          obtain ⟨more, z⟩ := un.tbls p.2 #[] (entryH_tab (inT p hp))
          rw [hT p hp] at e
          cases e
          exact .inr (.inl ⟨((C p hp).tab (hT p hp)).isCodeTable, rfl, #[], more, rfl, by rw [Array.empty_append]; rw [Array.empty_append] at z; exact hok' p.2 _ z⟩)
        · exact .inl (stays b o hm e)
      · by_cases hm : b ∈ cs.map (·.2)
        · obtain ⟨p, hp, rfl⟩ := List.mem_map.mp hm
          obtain ⟨more, z⟩ := un.tbls p.2 #[] (entryH_tab (inT p hp))
          exact ⟨_, hok' p.2 _ z⟩
        · exact ⟨o, stays b o hm e⟩
end

/-- what is known of the law's promise at the head's heap h -/
def LawG (l : PySem.W.OpenLaw) (w : World) (K : PySem.W.Frag) (CX : CXT) (k n : Nat) (x : Str) (mg : Str → Option Value) (fa : Addr) (h : Heap) : Prop :=
  ∃ (fd : FuncData) (cs : List (Addr × Addr)) (sp : Sp), (∀ p ∈ cs, h.get? p.2 = some { cls := .none, data := .fields #[] }) ∧ (∀ p ∈ cs, K.lookup p.2 = none) ∧ (∀ p ∈ cs, PySem.W.CodeHd h p.1 p.2) ∧ (∀ (s : Shared) (u : Value), BindsTo s fd ⟨[u], []⟩ [(x, u)]) ∧
    (∀ (H : Hp) (a : Addr) (ns : List Int), ns.length ≤ n → (∀ z ∈ ns, Builtin.Int.intBits z ≤ 1048576) → (∀ p ∈ cs, H p.2 = some (.tbl #[])) → SqL K H a (ns.map V.int) → sp [.ref a] H (fun v _ => v = .bl true) fun _ _ _ => False) ∧
    ∀ base : Heap, K.In base → base.Ns mainGlobals mg → (∀ p ∈ cs, TabB base mg p.1 p.2) → FnG l.prog w K mg base CX k fa fd [x] sp
theorem walk_G {l : PySem.W.OpenLaw} {n k : Nat} {q : Program} {loose : List Str} {XP : (Str → Option Value) → Heap → Prop} {YP : World → Heap → Prop} {d : DefRec} {K : Params → PySem.W.Frag} {CX : World → CXT} {x : Str}
    (hn : l.most = some n) (hn2 : n ≤ sizeLine) (hdf : d.params.defaults = []) (hr : RoomG k callerA) (hY : ∀ (w : World) (h : Heap), YP w h → (K w.params).In h)
    (F : ∀ (w : World) (mg : Str → Option Value) (fa : Addr) (h : Heap), YP w h → (K w.params).In h → h.Ns mainGlobals mg → mg d.name = some (.ref fa) → LawG l w (K w.params) (CX w) k n x mg fa h)
    (hCX : ∀ (w : World) (H : Hp) (s : Shared) (e : Value) (s' : Shared), CX w [] H s (fun _ _ _ => False) e s' → False) :
    PySem.W.WalkO q loose XP YP l.row.toRowW d [] (fun f vs => PySem.call f vs) := by
  refine Att.attach_callB hn hdf fun w s0 s1 mg mb fa o pm cd doc a vs ns G Y ho hd hcd hmg hobj hints hlen hbits hg => ?_
  obtain ⟨fd, cs, sp, hT, nT, C, hb, hsp, hF⟩ := F w mg fa _ Y (hY w _ Y) G.T.g hmg
  exact law_endG (hY w _ Y) G.T.g G.T.b G.T.builtins G.T.nolimit hg hT nT C G.T.bmain hobj hints (Nat.le_trans hlen hn2) hr hF hb (fun H hH hS => hsp H a ns hlen hbits hH hS) fun H e s' => hCX w H s1 e s'
end Gd

/-! What stays through a call: all but the defs' tables and some lists; defs as they stand; data. -/
namespace Gd
open PySem PySem.Spec PyProof.Rows L2 GxR Gx

/-- no table -/
def NoTab (o : HO) : Prop := ∀ ps, o ≠ .tbl ps
/-- all stays but tables, which may grow, and the objects at S -/
structure Kb (S : List Addr) (H H' : Hp) : Prop where
  keep : ∀ b o, H b = some o → b ∉ S → NoTab o → H' b = some o
  tab : ∀ T, TabG H T → TabG H' T
  free : ∀ p, H' p = none → H p = none
abbrev Kp (H H' : Hp) : Prop := Kb [] H H'
section
variable {S : List Addr} {H H' H1 H2 : Hp} {p : Addr} {o u : HO}
theorem Kb.refl (H : Hp) : Kb S H H := ⟨fun _ _ h _ _ => h, fun _ h => h, fun _ h => h⟩
theorem Kb.trans (a : Kb S H H1) (b : Kb S H1 H2) : Kb S H H2 := ⟨fun c o h n t => b.keep c o (a.keep c o h n t) n t, fun T h => b.tab T (a.tab T h), fun q h => a.free q (b.free q h)⟩
theorem Kb.mono {S' : List Addr} (a : Kb S H H') (h : ∀ b ∈ S, b ∈ S') : Kb S' H H' := ⟨fun c o e n t => a.keep c o e (fun z => n (h c z)) t, a.tab, a.free⟩
theorem Kb.of (a : Kp H H') : Kb S H H' := a.mono fun _ h => (by cases h)
theorem tab_notab {T : Addr} (h : TabG H T) (e : H T = some o) (n : NoTab o) : False := by
  obtain ⟨ps, h1, _⟩ := h
  rw [e] at h1
  cases h1
  exact n ps rfl
theorem upd_some_of {q : Addr} (h : upd H p o q = none) : H q = none := by
  by_cases z : q = p
  · rw [z, upd_same] at h
    cases h
  · rw [upd_ne z] at h
    exact h
theorem Kb.new (h : H p = none) : Kb S H (upd H p o) :=
  ⟨fun b u e _ _ => by rw [upd_ne (ne_of_none e h)]; exact e, fun T ⟨ps, e, t⟩ => ⟨ps, by rw [upd_ne (ne_of_none e h)]; exact e, t⟩, fun q e => upd_some_of e⟩
theorem Kb.tabbed {P : Addr} (h : Tabbed P H H') (hP : TabG H P) : Kb S H H' := by
  refine ⟨fun b o e _ n => ?_, fun T hT => ?_, fun q e => ?_⟩
  · rw [h.2 b fun z => tab_notab (by rw [z]; exact hP) e n]
    exact e
  · by_cases z : T = P
    · exact z ▸ h.1
    · obtain ⟨ps, e, t⟩ := hT
      exact ⟨ps, by rw [h.2 T z]; exact e, t⟩
  · by_cases z : q = P
    · obtain ⟨ps, e', _⟩ := h.1
      rw [z, e'] at e
      cases e
    · rw [h.2 q z] at e
      exact e
/-- a known list is stored -/
theorem Kb.put (hp : p ∈ S) (e : H p = some u) (n : NoTab u) : Kb S H (upd H p o) :=
  ⟨fun b v hb nb _ => by rw [upd_ne (fun z : b = p => nb (by rw [z]; exact hp))]; exact hb, fun T hT => by
    have z : T ≠ p := fun z => tab_notab (o := u) (by rw [← z]; exact hT) e n
    obtain ⟨ps, e', t⟩ := hT
    exact ⟨ps, by rw [upd_ne z]; exact e', t⟩, fun q e => upd_some_of e⟩
/-- an object that was not there at H may change -/
theorem Kb.mut (k : Kb S H H') (hp : H p = none) (n : ¬ TabG H' p) : Kb S H (upd H' p o) :=
  ⟨fun b v hb nb t => by rw [upd_ne (ne_of_none hb hp)]; exact k.keep b v hb nb t, fun T hT => by
    have z : T ≠ p := fun z => n (z ▸ k.tab T hT)
    obtain ⟨ps, e', t⟩ := k.tab T hT
    exact ⟨ps, by rw [upd_ne z]; exact e', t⟩, fun q e => k.free q (upd_some_of e)⟩
theorem no_tab (e : H p = some o) (n : NoTab o) : ¬ TabG H p := fun h => tab_notab h e n
theorem nt_lst {xs : List V} : NoTab (.lst xs) := fun _ h => by cases h
theorem nt_tup {xs : List V} : NoTab (.tup xs) := fun _ h => by cases h
theorem nt_frz {ob : Obj} : NoTab (.frz ob u) := fun _ h => by cases h
theorem nt_ext {φ : Heap → Prop} : NoTab (.ext φ) := fun _ h => by cases h

end

/-! ### data: scalars and tuples; whatever is made of them stands for good -/
mutual
inductive Dt (K : PySem.W.Frag) (H : Hp) : V → PyData → Prop where
  | non : Dt K H .non .none
  | bl (b : Bool) : Dt K H (.bl b) (.bool b)
  | int (i : Int) : Dt K H (.int i) (.int i)
  | str (x : Str) : Dt K H (.str x) (.str x)
  | tup {a : Addr} {xs : List V} {ds : List PyData} (h : SqT K H a xs) (hs : DtAll K H xs ds) : Dt K H (.ref a) (.tuple ds)
inductive DtAll (K : PySem.W.Frag) (H : Hp) : List V → List PyData → Prop where
  | nil : DtAll K H [] []
  | cons {v : V} {vs : List V} {d : PyData} {ds : List PyData} (h : Dt K H v d) (hs : DtAll K H vs ds) : DtAll K H (v :: vs) (d :: ds)
end
/-- the lists at S are lists -/
def Lsts (S : List Addr) (H : Hp) : Prop := ∀ b ∈ S, ∃ xs, H b = some (.lst xs)
theorem Lsts.nil {H : Hp} : Lsts [] H := fun _ h => by cases h
section
variable {K : PySem.W.Frag} {S : List Addr} {H H' : Hp}
theorem Kb.sqT (k : Kb S H H') (hS : Lsts S H) {a : Addr} {xs : List V} (h : SqT K H a xs) : SqT K H' a xs := by
  rcases h with (h | ⟨o, h⟩) | h
  · exact .inl (.inl (k.keep a _ h (fun z => by obtain ⟨ys, e⟩ := hS a z; rw [h] at e; cases e) nt_tup))
  · exact .inl (.inr ⟨o, k.keep a _ h (fun z => by obtain ⟨ys, e⟩ := hS a z; rw [h] at e; cases e) nt_frz⟩)
  · exact .inr h
mutual
theorem Dt.kb (k : Kb S H H') (hS : Lsts S H) : ∀ {v : V} {d : PyData}, Dt K H v d → Dt K H' v d
  | _, _, .non => .non
  | _, _, .bl b => .bl b
  | _, _, .int i => .int i
  | _, _, .str x => .str x
  | _, _, .tup h hs => .tup (k.sqT hS h) (DtAll.kb k hS hs)
theorem DtAll.kb (k : Kb S H H') (hS : Lsts S H) : ∀ {vs : List V} {ds : List PyData}, DtAll K H vs ds → DtAll K H' vs ds
  | _, _, .nil => .nil
  | _, _, .cons h hs => .cons (h.kb k hS) (DtAll.kb k hS hs)
end
mutual
theorem Dt.dp : ∀ {v : V} {d : PyData}, Dt K H v d → Dp K H v d
  | _, _, .non => .non
  | _, _, .bl b => .bl b
  | _, _, .int i => .int i
  | _, _, .str x => .str x
  | _, _, .tup h hs => .tup h hs.dp
theorem DtAll.dp : ∀ {vs : List V} {ds : List PyData}, DtAll K H vs ds → DpAll K H vs ds
  | _, _, .nil => .nil
  | _, _, .cons h hs => .cons h.dp hs.dp
end
theorem DtAll.length : ∀ {vs : List V} {ds : List PyData}, DtAll K H vs ds → vs.length = ds.length
  | _, _, .nil => rfl
  | _, _, .cons _ hs => congrArg (· + 1) hs.length
theorem DtAll.get : ∀ {vs : List V} {ds : List PyData} {i : Nat} {v : V}, DtAll K H vs ds → vs[i]? = some v → ∃ d, ds[i]? = some d ∧ Dt K H v d
  | _, _, _, _, .nil, e => by simp at e
  | _, _, 0, _, .cons h _, e => by
    have e := Option.some.inj e
    subst e
    exact ⟨_, rfl, h⟩
  | _, _, i + 1, _, .cons _ hs, e => DtAll.get (i := i) hs e
theorem DtAll.at : ∀ {vs : List V} {ds : List PyData} {i : Nat} {d : PyData}, DtAll K H vs ds → ds[i]? = some d → ∃ v, vs[i]? = some v ∧ Dt K H v d
  | _, _, _, _, .nil, e => by simp at e
  | _, _, 0, _, .cons h _, e => by
    have e := Option.some.inj e
    subst e
    exact ⟨_, rfl, h⟩
  | _, _, i + 1, _, .cons _ hs, e => DtAll.at (i := i) hs e
end

/-! ### defs -/
section
variable {P : Program} {w : World} {K : PySem.W.Frag} {mg : Str → Option Value} {base : Heap}
/-- the def x stands as st -/
def DefAt (K : PySem.W.Frag) (mg : Str → Option Value) (x : Str) (st : Stmt) (ps : List Str) : Prop := ∃ f fd, Fun K x x st f fd ∧ mg x = some (.ref f) ∧ Binds K fd ps []
/-- .. and its code's table is at T -/
def DefTab (K : PySem.W.Frag) (mg : Str → Option Value) (base : Heap) (x : Str) (st : Stmt) (ps : List Str) (T : Addr) : Prop :=
  ∃ f fd c, Fun K x x st f fd ∧ mg x = some (.ref f) ∧ Binds K fd ps [] ∧ fd.code = .ref c ∧ TabB base mg c T
/-- what a caller needs -/
def Cal (P : Program) (w : World) (K : PySem.W.Frag) (mg : Str → Option Value) (base : Heap) (CX : CXT) (k : Nat) (x : Str) (ps : List Str) (sp : Sp) : Prop :=
  ∃ f fd, FnG P w K mg base CX k f fd ps sp ∧ mg x = some (.ref f) ∧ PySem.W.keepIn K (.ref f) = true ∧ Binds K fd ps []
theorem Cal.mono {CX : CXT} {j k : Nat} {x : Str} {ps : List Str} {sp : Sp} (c : Cal P w K mg base CX j x ps sp) (h : j ≤ k) : Cal P w K mg base CX k x ps sp :=
  let ⟨f, fd, F, r⟩ := c; ⟨f, fd, F.mono h, r⟩
theorem Cal.imp {CX : CXT} {k : Nat} {x : Str} {ps : List Str} {sp sp' : Sp} (c : Cal P w K mg base CX k x ps sp) (h : ∀ vs H Q E, sp' vs H Q E → sp vs H Q E) : Cal P w K mg base CX k x ps sp' :=
  let ⟨f, fd, F, r⟩ := c; ⟨f, fd, F.imp h, r⟩
theorem DefAt.cal {x : Str} {st : Stmt} {N ps : List Str} {k : Nat} {sp : Sp} (D : DefAt K mg x st ps) (S : FnScope N ps (defScope st)) (len : ∀ vs H Q E, sp vs H Q E → vs.length = ps.length)
    (hbody : ∀ (f : Addr) (cdv : Value) (A : Around) (outer : List Env) (s : Shared) (H : Hp) (vs : List V) (Q : VK) (E : XK), RoomG k (A.deeper (envOfC x (defScope st) s.heap.objs.size f cdv)) → sp vs H Q E →
      ∃ t, PSs (cxOf CX0 P w K mg base N x (defScope st) f cdv A outer s H E).nox (defBody st) t ∧ t { nx := fun _ H' => Q .non H', rt := Q } (start N vs) H) : Cal P w K mg base CX0 (k + 1) x ps sp := by
  obtain ⟨f, fd, F, g, b⟩ := D
  exact ⟨f, fd, okG F S len (hbody f), g, F.kp, b⟩
theorem DefTab.cal {x : Str} {st : Stmt} {N ps : List Str} {k : Nat} {sp : Sp} {T : Addr} (D : DefTab K mg base x st ps T) (S : FnScope N ps (defScope st)) (len : ∀ vs H Q E, sp vs H Q E → vs.length = ps.length)
    (hbody : ∀ (f c : Addr) (A : Around) (outer : List Env) (s : Shared) (H : Hp) (vs : List V) (Q : VK) (E : XK), TabB base mg c T → RoomG k (A.deeper (envOfC x (defScope st) s.heap.objs.size f (.ref c))) → sp vs H Q E →
      ∃ t, PSs (cxOf CX0 P w K mg base N x (defScope st) f (.ref c) A outer s H E).nox (defBody st) t ∧ t { nx := fun _ H' => Q .non H', rt := Q } (start N vs) H) : Cal P w K mg base CX0 (k + 1) x ps sp := by
  obtain ⟨f, fd, c, F, g, b, e, TB⟩ := D
  exact ⟨f, fd, okGc F e S len (fun A outer s H vs Q E => hbody f c A outer s H vs Q E TB), g, F.kp, b⟩
end
section
variable {X : Cx} {k : Nat} {ps : List Str} {sp : Sp} {x : Str} {p pos : Pos} {e : Expr} {es : List Expr} {t : TA}
theorem pe_cal (C : Cal X.prog X.w X.K X.mg X.base CX0 k x ps sp) (hr : RoomG k X.A) (hg : Gl X x) (ha : PA X (e :: es) t) (hdb : (x == ("__debug__" : Str)) = false := by decide) (he : starEach (e :: es) X.env = (false, eval e X.env) :: starEach es X.env := by rfl) (hpl : (backTo pos (starEach es X.env)).any (·.1) = false := by rfl) :
    PE X (.Call (.Name x p) (e :: es) [] pos) (tCall sp [] E0 t) := by
  obtain ⟨f, fd, F, g, kp, b⟩ := C
  exact pe_callG F hr hg g kp b .nil pass0 ha hdb he hpl
theorem pe_cal0 (C : Cal X.prog X.w X.K X.mg X.base CX0 k x ps sp) (hr : RoomG k X.A) (hg : Gl X x) (hdb : (x == ("__debug__" : Str)) = false := by decide) : PE X (.Call (.Name x p) [] [] pos) (tCall sp [] E0 tNil) := by
  obtain ⟨f, fd, F, g, kp, b⟩ := C
  exact pe_call0G F hr hg g kp b .nil pass0 hdb
end
end Gd

/-! Readings of some expressions over data. -/
namespace Gd
open PySem PySem.Spec PyProof.Rows L2 GxR Gx

/-! ### isinstance -/
def tyName : PyData → String
  | .none => "NoneType"
  | .bool _ => "bool"
  | .int _ => "int"
  | .str _ => "str"
  | .list _ => "list"
  | .tuple _ => "tuple"
  | .dict _ => "dict"
def isStrD : PyData → Bool | .str _ => true | _ => false
def isTupD : PyData → Bool | .tuple _ => true | _ => false
def isIntD : PyData → Bool | .int _ => true | .bool _ => true | _ => false
def isBoolD : PyData → Bool | .bool _ => true | _ => false
theorem kit_str (d : PyData) : kitB (tyName d) "str" = some (isStrD d) := by
  cases d with
  | none => exact (by decide +kernel : kitB "NoneType" "str" = some false)
  | bool _ => exact (by decide +kernel : kitB "bool" "str" = some false)
  | int _ => exact (by decide +kernel : kitB "int" "str" = some false)
  | str _ => exact (by decide +kernel : kitB "str" "str" = some true)
  | list _ => exact (by decide +kernel : kitB "list" "str" = some false)
  | tuple _ => exact (by decide +kernel : kitB "tuple" "str" = some false)
  | dict _ => exact (by decide +kernel : kitB "dict" "str" = some false)
theorem kit_tup (d : PyData) : kitB (tyName d) "tuple" = some (isTupD d) := by
  cases d with
  | none => exact (by decide +kernel : kitB "NoneType" "tuple" = some false)
  | bool _ => exact (by decide +kernel : kitB "bool" "tuple" = some false)
  | int _ => exact (by decide +kernel : kitB "int" "tuple" = some false)
  | str _ => exact (by decide +kernel : kitB "str" "tuple" = some false)
  | list _ => exact (by decide +kernel : kitB "list" "tuple" = some false)
  | tuple _ => exact (by decide +kernel : kitB "tuple" "tuple" = some true)
  | dict _ => exact (by decide +kernel : kitB "dict" "tuple" = some false)
theorem kit_int (d : PyData) : kitB (tyName d) "int" = some (isIntD d) := by
  cases d with
  | none => exact (by decide +kernel : kitB "NoneType" "int" = some false)
  | bool _ => exact (by decide +kernel : kitB "bool" "int" = some true)
  | int _ => exact (by decide +kernel : kitB "int" "int" = some true)
  | str _ => exact (by decide +kernel : kitB "str" "int" = some false)
  | list _ => exact (by decide +kernel : kitB "list" "int" = some false)
  | tuple _ => exact (by decide +kernel : kitB "tuple" "int" = some false)
  | dict _ => exact (by decide +kernel : kitB "dict" "int" = some false)
theorem kit_bool (d : PyData) : kitB (tyName d) "bool" = some (isBoolD d) := by
  cases d with
  | none => exact (by decide +kernel : kitB "NoneType" "bool" = some false)
  | bool _ => exact (by decide +kernel : kitB "bool" "bool" = some true)
  | int _ => exact (by decide +kernel : kitB "int" "bool" = some false)
  | str _ => exact (by decide +kernel : kitB "str" "bool" = some false)
  | list _ => exact (by decide +kernel : kitB "list" "bool" = some false)
  | tuple _ => exact (by decide +kernel : kitB "tuple" "bool" = some false)
  | dict _ => exact (by decide +kernel : kitB "dict" "bool" = some false)
section
variable {K : PySem.W.Frag} {H : Hp} {v : V} {d : PyData} {Q : VK}
theorem Dt.ty (h : Dt K H v d) : TyX K H v (.type (tyName d)) := by
  cases h with
  | non => exact .base .non
  | bl b => exact .base (.bl b)
  | int i => exact .base (.int i)
  | str x => exact .base (.str x)
  | tup h hs =>
    rcases h with (h | ⟨o, h⟩) | ⟨o, its, n, h1, h2, _⟩
    · exact .base (.tup h)
    · exact .fTuple h
    · exact .kTuple h1 h2
theorem isi_q {T : String} {b : Bool} (h : Dt K H v d) (hb : kitB (tyName d) T = some b) (q : Q (.bl b) H) : rIsi K [v, .ty T] H Q := ⟨v, .ty T, _, _, b, rfl, .ty T, h.ty, kit_ty hb, q⟩
end

/-! ### all(test for c in text), the test changes nothing -/
theorem nil_slots {σ2 : L2.St} : ∀ (j : Nat) (v : V), (none :: capV ([] : L2.St) [] : L2.St)[j]? = some (some v) → σ2[j]? = some (some v) := fun j v h => by
  cases j with
  | zero => cases h
  | succ j => simp [capV] at h
theorem all_take {p : Nat → Bool} {l : List Nat} {i c : Nat} (hc : l[i]? = some c) (h : (l.take i).all p = true) : (l.take (i + 1)).all p = p c := by
  rw [List.take_add_one, hc, List.all_append, h, Bool.true_and]
  simp
theorem all_mid {p : Nat → Bool} {l : List Nat} {i c : Nat} (hc : l[i]? = some c) (h : p c = false) : l.all p = false := by
  rw [List.all_eq_false]
  exact ⟨c, List.mem_of_getElem? hc, by rw [h]; exact Bool.false_ne_true⟩
theorem all_str {T : Addr} {x : Str} {te : TE} {p : Nat → Bool} {H1 : Hp} {Q : VK} {σ : L2.St} (hT : TabG H1 T)
    (ht : ∀ c ∈ x.cps.toList, ∀ (H : Hp) (Q' : VK), Q' (.bl (p c)) H → te [some (.str ⟨#[c]⟩)] H Q') (q : ∀ H2, Tabbed T H1 H2 → Q (.bl (x.cps.toList.all p)) H2) :
    TabG H1 T ∧ ∀ H2, Tabbed T H1 H2 → ∃ W : Nat → Nat → Hp → Prop, (∃ m, W 0 m H2) ∧ ∀ i m H, W i m H → ((Its x).stop i H ∧ Q (.bl true) H) ∨
      ((Its x).go i H ∧ ∃ Nx : Hp → Prop, (∀ H', Nx H' → ∃ m', m' < m ∧ W (i + 1) m' H') ∧ ∀ y H', (Its x).yld i H y H' → gName 0 y (none :: capV σ []) H' fun σ2 H3 =>
        (∀ (j : Nat) v, (none :: capV σ [] : L2.St)[j]? = some (some v) → σ2[j]? = some (some v)) ∧ te σ2 H3 fun y H5 => ∃ c, y = .bl c ∧ if c = true then Nx H5 else Q (.bl false) H5) := by
  refine ⟨hT, fun H2 h2 => ⟨fun i m H => H = H2 ∧ m = x.cps.size - i ∧ i ≤ x.cps.size ∧ (x.cps.toList.take i).all p = true, ⟨_, rfl, rfl, Nat.zero_le _, by simp⟩, ?_⟩⟩
  rintro i m H ⟨rfl, rfl, hi, ha⟩
  by_cases hl : i < x.cps.size
  · refine .inr ⟨hl, fun H' => H' = H ∧ (x.cps.toList.take (i + 1)).all p = true, fun H' ⟨e, a⟩ => ⟨x.cps.size - (i + 1), by omega, e, rfl, hl, a⟩, fun y H' hy => ?_⟩
    obtain ⟨rfl, c, hc, rfl⟩ := hy
    have hc' : x.cps.toList[i]? = some c := by rw [Array.getElem?_toList]; exact hc
    refine ⟨nil_slots, ht c (List.mem_of_getElem? hc') _ _ ⟨p c, rfl, ?_⟩⟩
    cases e : p c with
    | true =>
      rw [if_pos rfl]
      exact ⟨rfl, by rw [all_take hc' ha, e]⟩
    | false =>
      rw [if_neg Bool.false_ne_true, ← all_mid (p := p) hc' e]
      exact q _ h2
  · have e : i = x.cps.size := by omega
    subst e
    refine .inl ⟨Nat.le_refl _, ?_⟩
    have e2 : x.cps.toList.take x.cps.size = x.cps.toList := by
      rw [← Array.length_toList]
      exact List.take_length
    rw [e2] at ha
    rw [← ha]
    exact q _ h2
end Gd
namespace Gd
open PySem PySem.Spec PyProof.Rows L2 GxR Gx
/-- data of small texts, no deeper than n -/
def okN : Nat → PyData → Bool
  | _, .none => true
  | _, .bool _ => true
  | _, .int i => decide (i.natAbs.log2 < 1920)
  | _, .str x => decide (x.length ≤ 1000) && PyData.strOk x
  | n + 1, .tuple ds => decide (ds.length ≤ 1000) && ds.all (okN n)
  | _, _ => false
def OkD (d : PyData) : Prop := ∃ n, n ≤ 60 ∧ okN n d = true
theorem okN_int {n : Nat} {i : Int} (h : okN n (.int i) = true) : i.natAbs.log2 < 1920 := by
  cases n <;> exact of_decide_eq_true h
theorem okN_str {n : Nat} {x : Str} (h : okN n (.str x) = true) : x.length ≤ 1000 ∧ PyData.strOk x = true := by
  have h2 : (decide (x.length ≤ 1000) && PyData.strOk x) = true := by cases n <;> exact h
  rw [Bool.and_eq_true] at h2
  exact ⟨of_decide_eq_true h2.1, h2.2⟩
theorem okN_tup {n : Nat} {ds : List PyData} (h : okN n (.tuple ds) = true) : ∃ m, n = m + 1 ∧ ds.length ≤ 1000 ∧ ∀ d ∈ ds, okN m d = true := by
  cases n with
  | zero => cases h
  | succ m =>
    have h2 : (decide (ds.length ≤ 1000) && ds.all (okN m)) = true := h
    rw [Bool.and_eq_true, List.all_eq_true] at h2
    exact ⟨m, rfl, of_decide_eq_true h2.1, h2.2⟩
theorem OkD.str {x : Str} (h : OkD (.str x)) : x.length ≤ 1000 := let ⟨_, _, h⟩ := h; (okN_str h).1
theorem OkD.len {ds : List PyData} (h : OkD (.tuple ds)) : ds.length ≤ 1000 := by
  obtain ⟨_, _, h⟩ := h
  obtain ⟨m, _, h2, _⟩ := okN_tup h
  exact h2
theorem OkD.child {ds : List PyData} (h : OkD (.tuple ds)) {d : PyData} (hd : d ∈ ds) : OkD d := by
  obtain ⟨n, hn, h⟩ := h
  obtain ⟨m, rfl, _, h3⟩ := okN_tup h
  exact ⟨m, by omega, h3 d hd⟩
mutual
theorem okN_lay : ∀ (d : PyData) {n : Nat}, okN n d = true → d.canLay0 = true ∧ d.depth ≤ n
  | .none, n, _ => ⟨by simp only [PyData.canLay0], by simp only [PyData.depth]; omega⟩
  | .bool _, n, _ => ⟨by simp only [PyData.canLay0], by simp only [PyData.depth]; omega⟩
  | .int _, n, _ => ⟨by simp only [PyData.canLay0], by simp only [PyData.depth]; omega⟩
  | .str x, n, h => ⟨by simp only [PyData.canLay0]; exact (okN_str h).2, by simp only [PyData.depth]; omega⟩
  | .list xs, n, h => by cases n <;> cases h
  | .dict xs, n, h => by cases n <;> cases h
  | .tuple ds, n, h => by
    obtain ⟨m, e, _, h3⟩ := okN_tup h
    have q := okN_layAll ds h3
    simp only [PyData.canLay0, PyData.depth]
    exact ⟨q.1, by have := q.2; omega⟩
theorem okN_layAll : ∀ (ds : List PyData) {n : Nat}, (∀ d ∈ ds, okN n d = true) → PyData.canLayAll0 ds = true ∧ PyData.depthAll ds ≤ n
  | [], n, _ => ⟨by simp only [PyData.canLayAll0], by simp only [PyData.depthAll]; omega⟩
  | d :: ds, n, h => by
    have q := okN_lay d (h d List.mem_cons_self)
    have r := okN_layAll ds fun e he => h e (List.mem_cons_of_mem _ he)
    simp only [PyData.canLayAll0, PyData.depthAll, q.1, r.1, Bool.and_true]
    exact ⟨trivial, Nat.max_le.mpr ⟨q.2, r.2⟩⟩
end
theorem OkD.shaped {d : PyData} (h : OkD d) : SeqAt.shaped d = true := by
  obtain ⟨n, hn, h⟩ := h
  have q := okN_lay d h
  unfold SeqAt.shaped
  rw [q.1, Bool.true_and, decide_eq_true_eq]
  omega
theorem OkD.of {d : PyData} (h : okN 8 d = true) : OkD d := ⟨8, by decide, h⟩
theorem line1000 {n : Nat} (h : n ≤ 1000) : n ≤ sizeLine := Nat.le_of_lt (small1000 h)
/-- a test of one datum -/
def spData (K : PySem.W.Frag) (ts : List Addr) (p : PyData → Bool) : Sp := fun vs H Q _ => ∃ v d, vs = [v] ∧ Dt K H v d ∧ OkD d ∧ (∀ T ∈ ts, TabG H T) ∧ ∀ H', Kp H H' → Q (.bl (p d)) H'
end Gd
namespace Gd
open PySem PySem.Spec PyProof.Rows L2 GxR Gx
/-- a generator expression's scope without captured names -/
def genC (scope : Scope) (x : Str) : Bool := decide (scope.kind = .function) && !scope.isCoroutine && (scope.names.all fun y => !decide (y.2 = NameKind.cell) && !decide (y.2 = NameKind.free)) && decide (scope.names.lookup (".0" : Str) = some NameKind.local) && decide (scope.names.lookup x = some NameKind.local)
theorem genS_by {env : Env} {scope : Scope} {x : Str} (h : genC scope x = true) : GenS env scope x := by
  unfold genC at h
  simp only [Bool.and_eq_true, decide_eq_true_eq, Bool.not_eq_true', List.all_eq_true, decide_eq_false_iff_not] at h
  obtain ⟨⟨⟨⟨h1, h2⟩, h3⟩, h4⟩, h5⟩ := h
  exact ⟨h1, h2, fun y hy => (h3 y hy).1, h4, h5, fun y hy e => absurd e (h3 y hy).2⟩
theorem nd1 (x : Str) : (x :: capN []).Nodup := by simp [capN]
end Gd

/-! {elt for tg in iter}, its members ints or texts; len of it. -/
namespace Gd
open PySem PySem.Spec PyProof.Rows L2 GxR Gx

abbrev noKeys : Key → Bool := fun _ => false
abbrev addKey (S : Key → Bool) (k : Key) : Key → Bool := fun j => S j || decide (j = k)
theorem setK_fresh {P : Program} {w : World} {h : Heap} : (h.push { cls := .type "set", dict := none, data := .set #[] 0 (.fresh 0 0 (!w.params.followText "set-order")) }).SetOf (mixKind P w) h.objs.size noKeys 0 :=
  ⟨_, #[], 0, _, Heap.get?_push_size _ rfl, ⟨rfl, rfl, rfl⟩, rfl, (fun e he => by simp at he), (fun k => by simp), (by decide), (by rfl), rfl⟩
section
variable {X : Cx}
theorem addK_ok {pins : List (Addr × Obj)} {σ : L2.St} {H : Hp} {s : Shared} {E : Value → Shared → Prop} {D : Addr} {S : Key → Bool} {n : Nat} {k : Key} {u : Value} {Q : Value → Shared → Prop} (I : Inv X pins σ H s) (hD : H D = some (SetK X.prog X.w D S n)) (room : n + 1 < scanBound) (r : RelV (kV k) u)
    (h : ∀ s', Inv X pins σ (upd H D (SetK X.prog X.w D (addKey S k) (if S k = true then n else n + 1))) s' → Q .none s') : wpAny (model X.prog X.w) X.A (call (.builtin "set.add") [.ref D, u]) Q E s := by
  refine call_set_add (kV_is r) (key_scan r) (setK_get I hD) room fun h' sb new => ?_
  obtain ⟨ob, _, _, _, ho, _⟩ := id new
  exact h _ (I.write (e := D) (t' := s.toks + 1) (by rw [hD]; trivial) (.inl rfl) (fun b o hb q => (sb.2 b hb).trans q) ⟨ob, ho⟩ (setK_new new))

/-- the reading: D the new set; W by the turn and a measure -/
def tScK (P : Program) (w : World) (wi : TI) (g : TG) (te : TE) (vs : List Nat) : TE := fun σ H Q => wi σ H fun J H1 => ∀ D, H1 D = none → ∃ W : Nat → Nat → Hp → Prop, (∃ m, W 0 m (upd H1 D (SetK P w D noKeys 0))) ∧ ∀ i m H, W i m H →
  (J.stop i H ∧ Q (.ref D) H) ∨ (J.go i H ∧ ∃ Nx : Hp → Prop, (∀ H', Nx H' → ∃ m', m' < m ∧ W (i + 1) m' H') ∧ ∀ x H', J.yld i H x H' → g x (wipe σ vs) H' fun σ2 H2 => wipe σ2 vs = wipe σ vs ∧ te σ2 H2 fun y H4 =>
    ∃ (k : Key) (S : Key → Bool) (n : Nat), y = kV k ∧ H4 D = some (SetK P w D S n) ∧ n + 1 < scanBound ∧ Nx (upd H4 D (SetK P w D (addKey S k) (if S k = true then n else n + 1))))

theorem pe_scK {elt tg iter : Expr} {scope : Scope} {own : List (PySem.Str × Nat)} {pos : Pos} {wi : TI} {g : TG} {te : TE} (hc : X.calm = true) (hN : X.N.Nodup) (hi : PI X tg iter wi) (ok : BlkOk X.N X.env.scope scope own)
    (hg : ∀ (s : Shared) (H : Hp) (C : Addr) (cl : List (PySem.Str × Addr)) (fp : List Addr), PG (X.blk s H scope (compEnvC scope cl C X.env) fp) tg g) (_ : ∀ (s : Shared) (H : Hp) (C : Addr) (cl : List (PySem.Str × Addr)) (fp : List Addr), PTs (X.blk s H scope (compEnvC scope cl C X.env) fp) [] tYes)
    (he : ∀ (s : Shared) (H : Hp) (C : Addr) (cl : List (PySem.Str × Addr)) (fp : List Addr), PE (X.blk s H scope (compEnvC scope cl C X.env) fp) elt te) (hs : ∀ x, foldedSetIterable iter X.env x = pure x := by intro _; rfl) :
    PE X (.SetComp elt [⟨tg, iter, [], 0⟩] scope pos) (tScK X.prog X.w wi g te (own.map (·.2))) := by
  refine ⟨fun pins s σ H Q I h => ?_⟩
  rw [PpSet.eval_SetComp]
  have free : ∀ y ∈ scope.names, y.2 = .free → ∃ c, X.env.cells.lookup y.1 = some c := fun y hy e => (ok.free y hy e).elim (fun k => I.ok.has _ (.inl k)) fun k => I.ok.has _ (.inr k)
  refine wpAny_comprehension_free (use := none) rfl hs (closure_ok free) ok.kind (fun y hy e => by rw [ok.uniq y hy, e]) (thn (hi.run pins s σ H _ I h) fun xv s1 hx => thn hx fun itv s2 h2 => ?_)
  obtain ⟨it, fp, tn, J, H2, rfl, I2, T, st2, f2, q⟩ := h2
  refine PpSet.newSet_ok (newEnv_comp ?_)
  obtain ⟨W, ⟨m0, w0⟩, turn⟩ := q s2.heap.objs.size (I2.hok.fresh (Nat.le_refl _))
  -- the set
  let so : Obj := { cls := .type "set", dict := none, data := .set #[] 0 (.fresh 0 0 (!X.w.params.followText "set-order")) }
  let H3 : Hp := upd H2 s2.heap.objs.size (SetK X.prog X.w s2.heap.objs.size noKeys 0)
  let s3 : Shared := { s2 with heap := s2.heap.push so }
  have I3 : Inv X pins σ H3 s3 := I2.laid (t' := s2.toks) (fun b o e => Heap.get?_push_of_some _ e) (Nat.le_refl _) (setK_new setK_fresh)
  have f3 : ∀ b ∈ fp, FpOk X pins H3 b ∧ b < s3.heap.objs.size := fun b hb => by
    obtain ⟨o, e, _⟩ := T.obj _ _ st2 b hb
    have lt := Heap.lt_size e
    exact ⟨⟨by show upd _ _ _ b = none; rw [upd_ne (Nat.ne_of_lt lt)]; exact (f2 b hb).1, (f2 b hb).2⟩, by show b < (s2.heap.push so).objs.size; rw [Heap.size_push]; exact Nat.lt_succ_of_lt lt⟩
  have st3 : tn 0 s3.heap := T.keep _ _ _ st2 fun b _ o e => Heap.get?_push_of_some _ e
  -- the block
  have I4 := block_start I3 ok hN f3
  have pg := hg s3 H3 s3.heap.objs.size (cellsFrom (s3.heap.objs.size + 1) scope.names (cloFrom X.env.cells scope.names [])) fp
  have pe := he s3 H3 s3.heap.objs.size (cellsFrom (s3.heap.objs.size + 1) scope.names (cloFrom X.env.cells scope.names [])) fp
  let ce : Env := compEnvC scope (cellsFrom (s3.heap.objs.size + 1) scope.names (cloFrom X.env.cells scope.names [])) s3.heap.objs.size X.env
  let s4 : Shared := { s3 with heap := pushCells (s3.heap.push { cls := .type "dict", data := .dict #[] }) scope.names }
  have I4 : Inv (X.blk s3 H3 scope ce fp) [] (wipe σ (own.map (·.2))) H3 s4 := I4
  have st4 : tn 0 s4.heap := T.keep _ _ _ st3 fun b _ o e => pushCells_keeps _ _ _ _ (Heap.get?_push_of_some _ e)
  have stat : ∀ {σ' : L2.St} {H' : Hp} {s' : Shared}, Inv (X.blk s3 H3 scope ce fp) [] σ' H' s' → (∀ b ∈ fp, H' b = none) → ∀ b ∈ fp, FpOk (X.blk s3 H3 scope ce fp) [] H' b := fun {σ' H' s'} J' hn b hb =>
    ⟨hn b hb, (J'.ok.exf b hb).1, J'.ok.exfs b hb, .inl hb, fun x c e => (J'.ok.exf b hb).2 x c e, fun p hp => absurd (show p ∈ ([] : List (Addr × Obj)) ++ [] from hp) (by simp)⟩
  show codeAny _ _ (.compStart (.SetComp elt [⟨tg, iter, [], 0⟩] scope pos) 0 (.ref it) (.ref s2.heap.objs.size) ce) (compPost (model X.prog X.w) X.A X.xe none (EP X pins σ Q) (.ref s2.heap.objs.size) s3.heap.objs.size) s4
  refine PpSet.codeAny_compStart_set ?loop (T.self X.A 0 _ _ _ st4 ?loop)
  refine PpSet.compLoopS_any (fun n s' => ∃ i H', Inv (X.blk s3 H3 scope ce fp) [] (wipe σ (own.map (·.2))) H' s' ∧ tn i s'.heap ∧ (∀ b ∈ fp, H' b = none) ∧ W i n H') ?_ m0 ⟨0, H3, I4, st4, fun b hb => (f3 b hb).1.1, w0⟩
  rintro n s5 ⟨i, H5, I5, st5, n5, w5⟩
  rcases turn i n H5 w5 with ⟨stop, qq⟩ | ⟨go, Nx, hNx, step⟩
  · refine thnF (T.done (X.blk s3 H3 scope ce fp) rfl rfl rfl hc i [] s5 _ H5 (fun _ _ => False) I5 (stat I5 n5) st5 stop) fun r s6 ⟨hr, I6⟩ => ?_
    subst hr
    have I7 : Inv X pins σ H5 s6 := I3.call' (ch := fp) I6.os I6.base I6.hok I6.bare fun b hb => ⟨(f3 b hb).1.2.2.2.1, (f3 b hb).1.2.1, (f3 b hb).1.2.2.2.2.1, (f3 b hb).1.2.2.2.2.2⟩
    have fC := I3.fpOk (H' := H5) (Nat.le_refl _) (show H5 s3.heap.objs.size = none from I6.free)
    obtain ⟨m, hn, _⟩ := I6.loc
    refine ⟨m, hn, fun h'' sb => ?_⟩
    obtain ⟨f0, f1, _, f3', f4', f5'⟩ := fC
    exact ⟨.ref _, H5, I7.turned (t' := s6.toks) (fun b o hb e => (sb.2 b hb).trans e) f0 f1 f3' f4' f5', rfl, qq⟩
  · refine thnF (T.item (X.blk s3 H3 scope ce fp) rfl rfl rfl hc i [] s5 _ H5 (fun _ _ => False) I5 (stat I5 n5) st5 go) fun r s6 ⟨u, hr, h6⟩ => ?_
    subst hr
    refine thnF h6 fun _ s7 ⟨x, H7, I7, r7, y7, st7, n7⟩ => ?_
    refine thnF (pg.run _ s7 _ H7 x u _ (I7.pinned (stat I7 n7) (T.obj _ _ st7)) r7 (step x H7 y7)) fun _ s8 ⟨σ8, H8, I8, hw8, q8⟩ => ?_
    refine wpAny_tests_nil ?_
    simp only [if_true]
    refine thnF (pe.run _ s8 σ8 H8 _ I8 q8) fun z s9 ⟨yv, H9, I9, r9, k, S0, n0, ey, hD9, room, nx⟩ => ?_
    subst ey
    refine addK_ok (X := X.blk s3 H3 scope ce fp) I9 hD9 room r9 fun s10 I10 => ?_
    obtain ⟨m', hm, w'⟩ := hNx _ nx
    have still : ∀ b ∈ fp, ∀ o, s7.heap.get? b = some o → s10.heap.get? b = some o ∧ _ = none := fun b hb o e =>
      let z := I10.pin (b, o) (List.mem_append_right _ (List.mem_append_right _ (mem_pinsAt hb e)))
      ⟨z.1, z.2.1⟩
    refine ⟨m', hm, i + 1, _, (I10.unpinned (pins := [])).weak (show (wipe σ (own.map (·.2))).length = σ8.length by rw [← hw8, wipe_length]) (fun j v e => ?_), T.keep _ _ _ st7 fun b hb o e => (still b hb o e).1, fun b hb => ?_, w'⟩
    · rw [← hw8] at e
      exact (wipe_some e).1
    · obtain ⟨o, e, _⟩ := T.obj _ _ st7 b hb
      exact (still b hb o e).2

/-- len of a set of keys -/
def rLenK (P : Program) (w : World) : List V → Hp → VK → Prop := fun xs H Q => ∃ (a : Addr) (S : Key → Bool) (n : Nat), xs = [.ref a] ∧ H a = some (SetK P w a S n) ∧ Q (.int n) H
theorem call_lenK : CallR X (.builtin "len") (rLenK X.prog X.w) := by
  intro pins s σ H xs us Q I r h
  obtain ⟨a, S, n, rfl, ha, q⟩ := h
  obtain ⟨u, rfl, ru⟩ := vals1 r
  cases ru
  obtain ⟨o, es, ep, t, ho, hx, hd, he, hm, hb, hf, hn⟩ := setK_get I ha
  have h4 : scanBound = 4096 := rfl
  exact call_len_set ho hx hd hf (by omega) ⟨.int n, H, I.tok _, ⟨_, by rw [hn]⟩, q⟩

/-! ### the members of a row: as many as there are different ones -/
theorem snoc_ind {α : Type} {p : List α → Prop} (h0 : p []) (h1 : ∀ l a, p l → p (l ++ [a])) (l : List α) : p l := by
  have h : ∀ r : List α, p r.reverse := fun r => by
    induction r with
    | nil => exact h0
    | cons a r ih =>
      rw [List.reverse_cons]
      exact h1 _ _ ih
  have q := h l.reverse
  rw [List.reverse_reverse] at q
  exact q
/-- what a walk over keys leaves -/
def keysOf (ks : List Key) : (Key → Bool) × Nat := ks.foldl (fun p k => (addKey p.1 k, if p.1 k = true then p.2 else p.2 + 1)) (noKeys, 0)
theorem keysOf_snoc (ks : List Key) (k : Key) : keysOf (ks ++ [k]) = (addKey (keysOf ks).1 k, if (keysOf ks).1 k = true then (keysOf ks).2 else (keysOf ks).2 + 1) := by
  unfold keysOf
  rw [List.foldl_append]
  rfl
theorem keysOf_mem (ks : List Key) (j : Key) : (keysOf ks).1 j = true ↔ j ∈ ks := by
  refine snoc_ind (p := fun ks => (keysOf ks).1 j = true ↔ j ∈ ks) (by simp [keysOf]) (fun ks k ih => ?_) ks
  · rw [keysOf_snoc]
    show (_ || _) = true ↔ _
    rw [Bool.or_eq_true, decide_eq_true_eq, ih]
    simp
theorem keysOf_le (ks : List Key) : (keysOf ks).2 ≤ ks.length := by
  refine snoc_ind (p := fun ks => (keysOf ks).2 ≤ ks.length) (by simp [keysOf]) (fun ks k ih => ?_) ks
  · rw [keysOf_snoc, List.length_append, List.length_singleton]
    show (if (keysOf ks).1 k = true then (keysOf ks).2 else (keysOf ks).2 + 1) ≤ ks.length + 1
    have ih : (keysOf ks).2 ≤ ks.length := ih
    split <;> omega
theorem keysOf_all (ks : List Key) : (keysOf ks).2 = ks.length ↔ ks.Nodup := by
  refine snoc_ind (p := fun ks => (keysOf ks).2 = ks.length ↔ ks.Nodup) (by simp [keysOf]) (fun ks k ih => ?_) ks
  · have hle := keysOf_le ks
    rw [keysOf_snoc, List.length_append, List.length_singleton, List.nodup_append]
    show (if (keysOf ks).1 k = true then (keysOf ks).2 else (keysOf ks).2 + 1) = ks.length + 1 ↔ _
    have ih : (keysOf ks).2 = ks.length ↔ ks.Nodup := ih
    by_cases h : (keysOf ks).1 k = true
    · rw [if_pos h]
      have hm := (keysOf_mem ks k).mp h
      constructor
      · intro e
        omega
      · intro n
        exact absurd rfl (n.2.2 k hm k (List.mem_singleton.mpr rfl))
    · rw [if_neg h]
      have hm : k ∉ ks := fun z => h ((keysOf_mem ks k).mpr z)
      constructor
      · intro e
        refine ⟨ih.mp (by omega), by simp, fun a ha b hb => ?_⟩
        rw [List.mem_singleton.mp hb]
        exact fun z => hm (z ▸ ha)
      · intro n
        have := ih.mpr n.1
        omega
end
end Gd

/-! Walks over tuples of data. -/
namespace Gd
open PySem PySem.Spec PyProof.Rows L2 GxR Gx
section
variable {K : PySem.W.Frag}
theorem all_takeD {p : PyData → Bool} {l : List PyData} {i : Nat} {d : PyData} (hd : l[i]? = some d) (h : (l.take i).all p = true) : (l.take (i + 1)).all p = p d := by
  rw [List.take_add_one, hd, List.all_append, h, Bool.true_and]
  simp
theorem all_midD {p : PyData → Bool} {l : List PyData} {i : Nat} {d : PyData} (hd : l[i]? = some d) (h : p d = false) : l.all p = false := by
  rw [List.all_eq_false]
  exact ⟨d, List.mem_of_getElem? hd, by rw [h]; exact Bool.false_ne_true⟩
/-- all(test for x in tuple) -/
theorem all_tup {T a : Addr} {xs : List V} {ds : List PyData} {te : TE} {p : PyData → Bool} {H1 : Hp} {Q : VK} {σ : L2.St} (hT : TabG H1 T) (h : SqT K H1 a xs) (hs : DtAll K H1 xs ds)
    (ht : ∀ (v : V) (d : PyData) (H : Hp) (Q' : VK), d ∈ ds → Dt K H v d → Kp H1 H → (∀ H', Kp H H' → Q' (.bl (p d)) H') → te [some v] H Q') (q : ∀ H', Kp H1 H' → Q (.bl (ds.all p)) H') :
    TabG H1 T ∧ ∀ H2, Tabbed T H1 H2 → ∃ W : Nat → Nat → Hp → Prop, (∃ m, W 0 m H2) ∧ ∀ i m H, W i m H → ((Itt K a).stop i H ∧ Q (.bl true) H) ∨
      ((Itt K a).go i H ∧ ∃ Nx : Hp → Prop, (∀ H', Nx H' → ∃ m', m' < m ∧ W (i + 1) m' H') ∧ ∀ y H', (Itt K a).yld i H y H' → gName 0 y (none :: capV σ []) H' fun σ2 H3 =>
        (∀ (j : Nat) v, (none :: capV σ [] : L2.St)[j]? = some (some v) → σ2[j]? = some (some v)) ∧ te σ2 H3 fun y H5 => ∃ c, y = .bl c ∧ if c = true then Nx H5 else Q (.bl false) H5) := by
  refine ⟨hT, fun H2 h2 => ⟨fun i m H => Kp H1 H ∧ m = xs.length - i ∧ i ≤ xs.length ∧ (ds.take i).all p = true, ⟨_, Kb.tabbed h2 hT, rfl, Nat.zero_le _, by simp⟩, ?_⟩⟩
  rintro i m H ⟨k, rfl, hi, ha⟩
  have hq := k.sqT Lsts.nil h
  have hds := DtAll.kb k Lsts.nil hs
  by_cases hl : i < xs.length
  · obtain ⟨v, hv⟩ : ∃ v, xs[i]? = some v := ⟨xs[i], List.getElem?_eq_getElem hl⟩
    obtain ⟨d, hd, hvd⟩ := hds.get hv
    refine .inr ⟨⟨xs, v, hq, hv⟩, fun H' => Kp H1 H' ∧ (ds.take (i + 1)).all p = true, fun H' ⟨e, a⟩ => ⟨xs.length - (i + 1), by omega, e, rfl, hl, a⟩, fun y H' hy => ?_⟩
    obtain ⟨rfl, hy⟩ := hy
    have ey : v = y := Option.some.inj (hv.symm.trans (hy xs hq))
    subst ey
    refine ⟨nil_slots, ht v d _ _ (List.mem_of_getElem? hd) hvd k fun H5 k5 => ⟨p d, rfl, ?_⟩⟩
    cases e : p d with
    | true =>
      rw [if_pos rfl]
      exact ⟨k.trans k5, by rw [all_takeD hd ha, e]⟩
    | false =>
      rw [if_neg Bool.false_ne_true, ← all_midD (p := p) hd e]
      exact q _ (k.trans k5)
  · have e : i = xs.length := by omega
    subst e
    refine .inl ⟨⟨xs, hq, Nat.le_refl _⟩, ?_⟩
    have e2 : ds.take xs.length = ds := by
      rw [hs.length]
      exact List.take_length
    rw [e2] at ha
    rw [← ha]
    exact q _ k
/-- {e for x in tuple}, each member known -/
theorem scK_tup {P : Program} {w : World} {a : Addr} {xs : List V} {ks : List Key} {te : TE} {H1 : Hp} {Q : VK} {σ : L2.St} {j : Nat} (h : SqT K H1 a xs) (hl : ks.length = xs.length) (hn : xs.length ≤ 1000) (hj : j < σ.length)
    (ht : ∀ (i : Nat) (v : V) (k : Key) (H : Hp) (Q' : VK), xs[i]? = some v → ks[i]? = some k → Kp H1 H → Q' (kV k) H → te ((wipe σ [j]).set j (some v)) H Q')
    (q : ∀ D H', H1 D = none → Kp H1 H' → H' D = some (SetK P w D (keysOf ks).1 (keysOf ks).2) → Q (.ref D) H') :
    ∀ D, H1 D = none → ∃ W : Nat → Nat → Hp → Prop, (∃ m, W 0 m (upd H1 D (SetK P w D noKeys 0))) ∧ ∀ i m H, W i m H →
      ((Itt K a).stop i H ∧ Q (.ref D) H) ∨ ((Itt K a).go i H ∧ ∃ Nx : Hp → Prop, (∀ H', Nx H' → ∃ m', m' < m ∧ W (i + 1) m' H') ∧ ∀ x H', (Itt K a).yld i H x H' → gName j x (wipe σ [j]) H' fun σ2 H2 => wipe σ2 [j] = wipe σ [j] ∧ te σ2 H2 fun y H4 =>
        ∃ (k : Key) (S : Key → Bool) (n : Nat), y = kV k ∧ H4 D = some (SetK P w D S n) ∧ n + 1 < scanBound ∧ Nx (upd H4 D (SetK P w D (addKey S k) (if S k = true then n else n + 1)))) := by
  intro D hD
  refine ⟨fun i m H => m = xs.length - i ∧ i ≤ xs.length ∧ Kp H1 H ∧ H D = some (SetK P w D (keysOf (ks.take i)).1 (keysOf (ks.take i)).2), ⟨_, rfl, Nat.zero_le _, Kb.new hD, upd_same⟩, ?_⟩
  rintro i m H ⟨rfl, hi, k, hs⟩
  have hq := k.sqT Lsts.nil h
  by_cases hl2 : i < xs.length
  · obtain ⟨v, hv⟩ : ∃ v, xs[i]? = some v := ⟨xs[i], List.getElem?_eq_getElem hl2⟩
    obtain ⟨ky, hk⟩ : ∃ y, ks[i]? = some y := ⟨ks[i], List.getElem?_eq_getElem (by omega)⟩
    refine .inr ⟨⟨xs, v, hq, hv⟩, fun H' => Kp H1 H' ∧ H' D = some (SetK P w D (keysOf (ks.take (i + 1))).1 (keysOf (ks.take (i + 1))).2), fun H' ⟨a, b⟩ => ⟨xs.length - (i + 1), by omega, rfl, hl2, a, b⟩, fun x H' hy => ?_⟩
    obtain ⟨rfl, hy⟩ := hy
    have ey : v = x := Option.some.inj (hv.symm.trans (hy xs hq))
    subst ey
    refine ⟨?_, ht i v ky _ _ hv hk k ⟨ky, _, _, rfl, hs, ?_, ?_, ?_⟩⟩
    · show ((wipe σ [j]).set j (some v)).set j none = wipe σ [j]
      unfold wipe wipe
      rw [List.set_set, List.set_set]
    · have h1 := keysOf_le (ks.take i)
      rw [List.length_take] at h1
      show _ + 1 < 4096
      omega
    · exact k.mut hD (no_tab hs nt_ext)
    · rw [upd_same, List.take_add_one, hk]
      show some (SetK P w D _ _) = some (SetK P w D (keysOf (ks.take i ++ [ky])).1 (keysOf (ks.take i ++ [ky])).2)
      rw [keysOf_snoc]
  · have e : i = xs.length := by omega
    subst e
    refine .inl ⟨⟨xs, hq, Nat.le_refl _⟩, q D H hD k ?_⟩
    rw [← hl, List.take_length] at hs
    exact hs
end
end Gd
namespace Gd
open PySem PySem.Spec PyProof.Rows L2 GxR Gx
/-! ### rules whose reading names the written part by a letter, for the blocks of comprehensions -/
section
variable {X : Cx} {K : PySem.W.Frag}
theorem ix_tupK (h : X.K = K) : IxR X (rIxT K) := h ▸ ix_tup
theorem ix_listK (h : X.K = K) : IxR X (rIxL K) := h ▸ ix_list
theorem call_isiL (h : X.K = K) : CallR X (.builtin "isinstance") (rIsi K) := h ▸ call_isi
theorem call_len_seqK (h : X.K = K) : CallR X (.builtin "len") (fun xs H Q => ∃ p ys, xs = [.ref p] ∧ (SqL K H p ys ∨ SqT K H p ys) ∧ Q (.int ys.length) H) := h ▸ call_len_seq
theorem op_eqDK (h : X.K = K) (hu : X.A.units + 64 < cLine) : OpR X (compareOp .Eq) (rEqD K) := h ▸ op_eqD hu
theorem op_neDK (h : X.K = K) (hu : X.A.units + 64 < cLine) : OpR X (compareOp .NotEq) (rNeD K) := h ▸ op_neD hu
end
end Gd
namespace Gd
open PySem PySem.Spec PyProof.Rows L2 GxR Gx
section
variable {K : PySem.W.Frag} {T : Addr} {te : TE} {H : Hp} {Q : VK} {σ : L2.St} {i : Nat}
theorem rd_all_str {x : Str} {p : Nat → Bool} (hx : σ[i]? = some (some (.str x))) (hT : TabG H T)
    (ht : ∀ c ∈ x.cps.toList, ∀ (H : Hp) (Q' : VK), Q' (.bl (p c)) H → te [some (.str ⟨#[c]⟩)] H Q') (q : ∀ H2, Kp H H2 → Q (.bl (x.cps.toList.all p)) H2) : tAllG T (iStr (tVar i)) (gName 0) te [] σ H Q :=
  ⟨.str x, hx, x, rfl, all_str (p := p) hT ht fun H2 h2 => q H2 (Kb.tabbed h2 hT)⟩
theorem rd_all_tup {a : Addr} {xs : List V} {ds : List PyData} {p : PyData → Bool} (hx : σ[i]? = some (some (.ref a))) (hT : TabG H T) (h : SqT K H a xs) (hs : DtAll K H xs ds)
    (ht : ∀ (v : V) (d : PyData) (H' : Hp) (Q' : VK), d ∈ ds → Dt K H' v d → Kp H H' → (∀ H2, Kp H' H2 → Q' (.bl (p d)) H2) → te [some v] H' Q') (q : ∀ H', Kp H H' → Q (.bl (ds.all p)) H') : tAllG T (iTup K (tVar i)) (gName 0) te [] σ H Q :=
  ⟨.ref a, hx, a, rfl, ⟨xs, h⟩, all_tup (p := p) hT h hs ht q⟩
theorem rd_scK_tup {P : Program} {w : World} {a : Addr} {xs : List V} {ks : List Key} {j : Nat} (hx : σ[i]? = some (some (.ref a))) (h : SqT K H a xs) (hl : ks.length = xs.length) (hn : xs.length ≤ 1000) (hj : j < σ.length)
    (ht : ∀ (i : Nat) (v : V) (k : Key) (H' : Hp) (Q' : VK), xs[i]? = some v → ks[i]? = some k → Kp H H' → Q' (kV k) H' → te ((wipe σ [j]).set j (some v)) H' Q')
    (q : ∀ D H', H D = none → Kp H H' → H' D = some (SetK P w D (keysOf ks).1 (keysOf ks).2) → Q (.ref D) H') : tScK P w (iTup K (tVar i)) (gName j) te [j] σ H Q :=
  ⟨.ref a, hx, a, rfl, ⟨xs, h⟩, scK_tup h hl hn hj ht q⟩
end
end Gd

namespace Rs
open PySem PySem.Spec PyProof.Rows L2 GxR Gx Gd
def topS (i : Nat) : Stmt := PySem.Challenge.pw_remoteviews_k01_signs_read.main.body.getD i (.Pass ⟨0, 0, 0, 0⟩)
abbrev s_is_character : Stmt := topS 6
abbrev s_is_digit : Stmt := topS 7
abbrev s_is_small : Stmt := topS 9
/-! ### signs -/
def inRg (a b c : Nat) : Bool := decide (a ≤ c) && decide (c ≤ b)
def isSmall : Nat → Bool := inRg 97 122
def isDigit : Nat → Bool := inRg 48 57
def isChar (c : Nat) : Bool := inRg 32 126 c && !decide (c = 37)
theorem lt1 {a b : Nat} : decide (([a] : List Nat) < [b]) = decide (a < b) := by
  rw [Bool.eq_iff_iff, decide_eq_true_eq, decide_eq_true_eq]
  constructor
  · intro h
    cases h with
    | rel h => exact h
    | cons h => cases h
  · intro h
    exact .rel h
theorem le1 {a b : Nat} : (!decide (([b] : List Nat) < [a])) = decide (a ≤ b) := by
  rw [lt1, Bool.eq_iff_iff, Bool.not_eq_true', decide_eq_false_iff_not, decide_eq_true_eq]
  omega
def spSign (p : Nat → Bool) : Sp := fun vs H Q _ => ∃ c, vs = [.str ⟨#[c]⟩] ∧ Q (.bl (p c)) H
abbrev rLeS : R2 := fun x y H Q => ∃ i j, x = .str i ∧ y = .str j ∧ Q (.bl (!decide (j.cps.toList < i.cps.toList))) H
theorem chain_rd {a b c : Nat} {xa xb : Str} {σ : L2.St} {H : Hp} {Q : VK} {i : Nat} (ha : xa = ⟨#[a]⟩) (hb : xb = ⟨#[b]⟩) (hs : σ[i]? = some (some (.str ⟨#[c]⟩))) (q : Q (.bl (inRg a b c)) H) :
    tChain rLeS rLeS (tC (.str xa)) (tVar i) (tC (.str xb)) σ H Q := by
  subst ha hb
  refine ⟨_, hs, ⟨#[a]⟩, ⟨#[c]⟩, rfl, rfl, _, rfl, ?_⟩
  show if (!decide (([c] : List Nat) < [a])) = true then ∃ i j, V.str ⟨#[c]⟩ = .str i ∧ V.str ⟨#[b]⟩ = .str j ∧ Q (.bl (!decide (j.cps.toList < i.cps.toList))) H else Q (.bl false) H
  rw [le1]
  unfold inRg at q
  by_cases h : a ≤ c
  · rw [decide_eq_true h] at q ⊢
    rw [if_pos rfl]
    refine ⟨_, _, rfl, rfl, ?_⟩
    show Q (.bl (!decide (([b] : List Nat) < [c]))) H
    rw [le1]
    exact q
  · rw [decide_eq_false h] at q ⊢
    exact iteF q
theorem chain_and {a b c : Nat} {xa xb : Str} {σ : L2.St} {H : Hp} {Q : VK} {i : Nat} {tb : TE} (ha : xa = ⟨#[a]⟩) (hb : xb = ⟨#[b]⟩) (hs : σ[i]? = some (some (.str ⟨#[c]⟩))) (q : if inRg a b c = true then tb σ H Q else Q (.bl false) H) :
    tAndV (tChain rLeS rLeS (tC (.str xa)) (tVar i) (tC (.str xb))) tb σ H Q := chain_rd ha hb hs ⟨_, rfl, q⟩
section
variable {P : Program} {w : World} {K : PySem.W.Frag} {mg : Str → Option Value} {base : Heap}
theorem sc_is_small : FnScope ["char"] ["char"] (defScope s_is_small) := ⟨rfl, rfl, rfl, by decide +kernel, rfl, by decide +kernel, by decide +kernel⟩
theorem c_is_small (D : DefAt K mg "_is_small" s_is_small ["char"]) : Cal P w K mg base CX0 1 "_is_small" ["char"] (spSign isSmall) := by
  refine D.cal (k := 0) sc_is_small (fun vs H Q E h => ?_) fun f cdv A outer s H vs Q E hr h => ?_
  · obtain ⟨c, rfl, _⟩ := h
    rfl
  · obtain ⟨c, rfl, q⟩ := h
    refine ⟨_, pss_one (ps_ret (pe_chain op_le_str op_le_str pe_str (pv 0) pe_str)), ?_⟩
    exact chain_rd rfl rfl rfl q
theorem sc_is_digit : FnScope ["char"] ["char"] (defScope s_is_digit) := ⟨rfl, rfl, rfl, by decide +kernel, rfl, by decide +kernel, by decide +kernel⟩
theorem c_is_digit (D : DefAt K mg "is_digit" s_is_digit ["char"]) : Cal P w K mg base CX0 1 "is_digit" ["char"] (spSign isDigit) := by
  refine D.cal (k := 0) sc_is_digit (fun vs H Q E h => ?_) fun f cdv A outer s H vs Q E hr h => ?_
  · obtain ⟨c, rfl, _⟩ := h
    rfl
  · obtain ⟨c, rfl, q⟩ := h
    refine ⟨_, pss_one (ps_ret (pe_chain op_le_str op_le_str pe_str (pv 0) pe_str)), ?_⟩
    exact chain_rd rfl rfl rfl q
theorem sc_is_character : FnScope ["char"] ["char"] (defScope s_is_character) := ⟨rfl, rfl, rfl, by decide +kernel, rfl, by decide +kernel, by decide +kernel⟩
theorem c_is_character (D : DefAt K mg "is_character" s_is_character ["char"]) (gP : ∃ t, mg "PERCENT" = some (.int 37 t)) (mo : mg "ord" = none) : Cal P w K mg base CX0 1 "is_character" ["char"] (spSign isChar) := by
  refine D.cal (k := 0) sc_is_character (fun vs H Q E h => ?_) fun f cdv A outer s H vs Q E hr h => ?_
  · obtain ⟨c, rfl, _⟩ := h
    rfl
  · obtain ⟨c, rfl, q⟩ := h
    obtain ⟨t, gP⟩ := gP
    refine ⟨_, pss_one (ps_ret (pe_and (pe_chain op_le_str op_le_str pe_str (pv 0) pe_str) (pe_one (pe_cmpR op_ne (pe_callB call_ord (by rfl) mo (by decide +kernel) (pa_cons (pv 0) pa_nil)) (pe_glob (v := .int 37) rfl gP ⟨t, rfl⟩) (nomark _))))), ?_⟩
    refine chain_and (a := 32) (b := 126) (c := c) rfl rfl rfl ?_
    cases e : inRg 32 126 c with
    | false =>
      refine iteF ?_
      unfold isChar at q
      rw [e] at q
      exact q
    | true =>
      refine iteT ⟨_, rfl, _, rfl, rfl, rfl, ?_⟩
      unfold isChar at q
      rw [e] at q
      have e2 : decide (V.int (((#[c] : Array Nat).getD 0 0 : Nat) : Int) = V.int 37) = decide (c = 37) := by
        rw [Bool.eq_iff_iff, decide_eq_true_eq, decide_eq_true_eq]
        constructor
        · intro h
          have h := V.int.inj h
          have h2 : ((c : Nat) : Int) = 37 := h
          omega
        · intro h
          subst h
          rfl
      rw [e2]
      exact q
end
end Rs
namespace Rs
open PySem PySem.Spec PyProof.Rows L2 GxR Gx Gd
def isNameL (l : List Nat) : Bool := decide (1 ≤ l.length) && decide (l.length ≤ 12) && ((match l with | c :: _ => isSmall c | [] => false) && l.all (fun c => isSmall c || isDigit c))
def isName : PyData → Bool
  | .str x => isNameL x.cps.toList
  | _ => false
abbrev s_is_name : Stmt := topS 8
section
variable {P : Program} {w : World} {K : PySem.W.Frag} {mg : Str → Option Value} {base : Heap}
theorem sc_is_name : FnScope ["thing"] ["thing"] (defScope s_is_name) := ⟨rfl, rfl, rfl, by decide +kernel, rfl, by decide +kernel, by decide +kernel⟩
theorem c_is_name {T : Addr} (D : DefTab K mg base "is_name" s_is_name ["thing"] T) (gN : ∃ t, mg "NAME_LENGTH" = some (.int 12 t)) (mi : mg "isinstance" = none) (ms : mg "str" = none) (ml : mg "len" = none) (ma : mg "all" = none)
    (c1 : Cal P w K mg base CX0 1 "_is_small" ["char"] (spSign isSmall)) (c2 : Cal P w K mg base CX0 1 "is_digit" ["char"] (spSign isDigit)) : Cal P w K mg base CX0 3 "is_name" ["thing"] (spData K [T] isName) := by
  refine D.cal (k := 2) sc_is_name (fun vs H Q E h => ?_) fun f c A outer s H vs Q E TB hr h => ?_
  · obtain ⟨v, d, rfl, _⟩ := h
    rfl
  · obtain ⟨v, d, rfl, hd, hz, hT, q⟩ := h
    obtain ⟨t, gN⟩ := gN
    refine ⟨_, pss_cons (ps_if (PW.pt (pw_or (pt_not (pt_val (pe_callB call_isi (by rfl) mi (by decide +kernel) (pa_cons (pv 0) (pa_cons (pe_bltn (v := .ty "str") (by rfl) ms (by decide +kernel) rfl) pa_nil)))))
          (pw_or1 (pt_not (pt_chain op_le op_le pe_int (pe_callB call_len_str (by rfl) ml PySem.boot_len (pa_cons (pv 0) pa_nil)) (pe_glob (v := .int 12) rfl gN ⟨t, rfl⟩))))))
        (pss_one (ps_ret pe_bl)) pss_nil)
      (pss_one (ps_ret (pe_and (pe_cal (c1.mono (by decide : 1 ≤ 2)) hr (by rfl) (pa_cons (pe_ix ix_str (pv 0) pe_int (fun _ _ => rfl)) pa_nil))
        (pe_one (pe_allG hr.r (by rfl) ma TB rfl (genS_by (by decide +kernel)) Caps.nil (pi_str (pv 0)) rfl
          (fun _ _ _ _ _ _ => pg_name (i := 0) (nd1 _) rfl (Or.inl rfl))
          (fun _ _ _ _ _ _ rk => pe_or (pe_cal c1 ⟨rk, hr.g⟩ (by rfl) (pa_cons (pv 0) pa_nil)) (pe_one (pe_cal c2 ⟨rk, hr.g⟩ (by rfl) (pa_cons (pv 0) pa_nil))))))))), ?_⟩
    refine ⟨v, rfl, v, .ty "str", _, _, isStrD d, rfl, ClsV.ty "str", hd.ty, kit_ty (kit_str d), _, rfl, ?_⟩
    have qF : isName d = false → Q (.bl false) H := fun e => by
      have z := q H (Kb.refl H)
      rw [e] at z
      exact z
    by_cases hs : isStrD d = true
    · cases hd <;> first | (cases hs; done) | skip
      rename_i x
      refine iteF ?_
      have hx : x.length = x.cps.toList.length := by simp [Str.length]
      have hlen := hz.str
      refine ⟨_, rfl, x, rfl, line1000 hlen, 1, (x.length : Int), rfl, rfl, _, rfl, ?_⟩
      by_cases h1 : (1 : Int) ≤ (x.length : Int)
      · rw [decide_eq_true h1]
        refine iteT ⟨_, _, rfl, rfl, _, rfl, ?_⟩
        by_cases h2 : (x.length : Int) ≤ 12
        · rw [decide_eq_true h2]
          refine iteF ?_
          obtain ⟨l, hl⟩ : ∃ l, x.cps.toList = l := ⟨_, rfl⟩
          cases l with
          | nil =>
            rw [hx, hl] at h1
            exact absurd h1 (by decide)
          | cons c0 r =>
            have en : isName (.str x) = (isSmall c0 && x.cps.toList.all fun c => isSmall c || isDigit c) := by
              have h1' : 1 ≤ x.cps.toList.length := by omega
              have h2' : x.cps.toList.length ≤ 12 := by omega
              show isNameL x.cps.toList = _
              unfold isNameL
              rw [decide_eq_true h1', decide_eq_true h2', hl]
              rfl
            refine ⟨.str x, rfl, x, 0, c0, rfl, rfl, line1000 hlen, by rw [hl]; exact atI_nat (j := 0) rfl, c0, rfl, isSmall c0, rfl, ?_⟩
            cases e0 : isSmall c0 with
            | false =>
              refine iteF (qF ?_)
              rw [en, e0]
              rfl
            | true =>
              refine iteT ⟨.str x, rfl, x, rfl, ?_⟩
              refine all_str (p := fun c => isSmall c || isDigit c) (hT T (List.mem_singleton.mpr rfl)) (fun c _ H Q' q' => ⟨.str ⟨#[c]⟩, rfl, c, rfl, isSmall c, rfl, ?_⟩) fun H2 h2 => ?_
              · cases e1 : isSmall c with
                | true =>
                  rw [e1] at q'
                  exact iteT q'
                | false =>
                  rw [e1] at q'
                  exact iteF ⟨.str ⟨#[c]⟩, rfl, c, rfl, q'⟩
              · have z := q H2 (Kb.tabbed h2 (hT T (List.mem_singleton.mpr rfl)))
                rw [en, e0] at z
                exact z
        · rw [decide_eq_false h2]
          refine iteT ?_
          have h2' : ¬ x.cps.toList.length ≤ 12 := by omega
          refine qF ?_
          show isNameL x.cps.toList = _
          unfold isNameL
          rw [decide_eq_false h2', Bool.and_false]
          rfl
      · rw [decide_eq_false h1]
        refine iteF ⟨_, rfl, ?_⟩
        have h1' : ¬ 1 ≤ x.cps.toList.length := by omega
        refine qF ?_
        show isNameL x.cps.toList = _
        unfold isNameL
        rw [decide_eq_false h1']
        rfl
    · rw [Bool.eq_false_iff.mpr hs]
      refine iteT ?_
      refine qF ?_
      cases d <;> first | rfl | exact absurd rfl hs
end
end Rs

namespace Rs
open PySem PySem.Spec PyProof.Rows L2 GxR Gx Gd
/-! ### signs, as they are read -/
def sx (l : List Nat) : Str := ⟨l.toArray⟩
theorem sx_tl (l : List Nat) : (sx l).cps.toList = l := by simp [sx]
theorem sx_len (l : List Nat) : (sx l).length = l.length := by simp [sx, Str.length]
theorem sx_of (x : Str) : sx x.cps.toList = x := by simp [sx]
theorem sx_inj {a b : List Nat} (h : sx a = sx b) : a = b := by rw [← sx_tl a, h, sx_tl]
inductive Sg where
  | name (l : List Nat) | num (n : Nat) | quo (l : List Nat) | mark (c : Nat)
def Sg.d : Sg → PyData
  | .name l => .tuple [.str "name", .str (sx l)]
  | .num n => .tuple [.str "number", .int (n : Int)]
  | .quo l => .tuple [.str "quoted", .str (sx l)]
  | .mark c => .tuple [.str "mark", .str (sx [c])]
def isRun (c : Nat) : Bool := isSmall c || (inRg 65 90 c || isDigit c)
def isNumL (l : List Nat) : Bool := decide (l.length ≤ 9) && (l.all isDigit && (decide (l = [48]) || !decide (l.head? = some 48)))
def isMark (c : Nat) : Bool := decide (c = 40) || (decide (c = 41) || (decide (c = 44) || decide (c = 61)))
def escOf (c : Nat) : Option Nat := if c = 34 then some 34 else if c = 92 then some 92 else if c = 110 then some 10 else none
/-- what stands behind the opening quotation mark: the content and how far it goes -/
def readQ : List Nat → Option (List Nat × Nat)
  | [] => none
  | [c] => if c = 34 then some ([], 1) else none
  | c :: e :: r => if c = 34 then some ([], 1) else if c = 92 then (match escOf e with | some m => (readQ r).map fun p => (m :: p.1, p.2 + 2) | none => none) else if isChar c = true then (readQ (e :: r)).map fun p => (c :: p.1, p.2 + 1) else none
def runOf (l : List Nat) : List Nat := l.takeWhile isRun
/-- the sign that begins a row, and its length -/
def readS : List Nat → Option (Sg × Nat)
  | [] => none
  | c :: r => if isMark c = true then some (.mark c, 1) else if c = 34 then (readQ r).map fun p => (.quo p.1, p.2 + 1) else if isRun c = true then
      (if isNameL (runOf (c :: r)) = true then some (.name (runOf (c :: r)), (runOf (c :: r)).length) else if isNumL (runOf (c :: r)) = true then some (.num (NumText.digitsVal (runOf (c :: r))), (runOf (c :: r)).length) else none)
    else none
theorem readS_cons (c : Nat) (r : List Nat) : readS (c :: r) = if isMark c = true then some (.mark c, 1) else if c = 34 then (readQ r).map fun p => (.quo p.1, p.2 + 1) else if isRun c = true then
      (if isNameL (runOf (c :: r)) = true then some (.name (runOf (c :: r)), (runOf (c :: r)).length) else if isNumL (runOf (c :: r)) = true then some (.num (NumText.digitsVal (runOf (c :: r))), (runOf (c :: r)).length) else none)
    else none := rfl
/-- the signs of a row, or where none begins -/
inductive Out where | ok (ss : List Sg) | bad (o : Nat)
def Out.shift (w : Nat) (ss : List Sg) : Out → Out
  | .ok ts => .ok (ss ++ ts)
  | .bad o => .bad (w + o)
def splitF : Nat → List Nat → Out
  | _, [] => .ok []
  | 0, _ => .ok []
  | f + 1, c :: r => if c = 32 then (splitF f r).shift 1 [] else match readS (c :: r) with | none => .bad 0 | some (s, w) => (splitF f ((c :: r).drop w)).shift w [s]
theorem splitF_cons (f c : Nat) (r : List Nat) : splitF (f + 1) (c :: r) = if c = 32 then (splitF f r).shift 1 [] else match readS (c :: r) with | none => .bad 0 | some (s, w) => (splitF f ((c :: r).drop w)).shift w [s] := rfl
def splitR (l : List Nat) : Out := splitF l.length l
theorem readQ_pos : ∀ (l : List Nat) {p : List Nat × Nat}, readQ l = some p → 1 ≤ p.2 ∧ p.2 ≤ l.length
  | [], p, h => by cases h
  | [c], p, h => by
    unfold readQ at h
    split at h
    · cases h
      exact ⟨Nat.le_refl _, Nat.le_refl _⟩
    · cases h
  | c :: e :: r, p, h => by
    unfold readQ at h
    split at h
    · cases h
      exact ⟨Nat.le_refl _, by simp⟩
    · split at h
      · split at h
        · cases hq : readQ r with
          | none => rw [hq] at h; cases h
          | some p' =>
            rw [hq] at h
            cases h
            have := readQ_pos r hq
            exact ⟨by simp, by simp; omega⟩
        · cases h
      · split at h
        · cases hq : readQ (e :: r) with
          | none => rw [hq] at h; cases h
          | some p' =>
            rw [hq] at h
            cases h
            have := readQ_pos (e :: r) hq
            exact ⟨by simp, by simp at this ⊢; omega⟩
        · cases h
theorem runOf_cons {c : Nat} {r : List Nat} (h : isRun c = true) : runOf (c :: r) = c :: runOf r := by
  unfold runOf
  rw [List.takeWhile_cons, if_pos h]
theorem runOf_le (l : List Nat) : (runOf l).length ≤ l.length := (List.takeWhile_sublist _).length_le
theorem readS_pos {l : List Nat} {s : Sg} {w : Nat} (h : readS l = some (s, w)) : 1 ≤ w ∧ w ≤ l.length := by
  cases l with
  | nil => cases h
  | cons c r =>
    rw [readS_cons] at h
    split at h
    · cases h
      exact ⟨Nat.le_refl _, by simp⟩
    · split at h
      · cases hq : readQ r with
        | none => rw [hq] at h; cases h
        | some p =>
          rw [hq] at h
          cases h
          have := readQ_pos r hq
          exact ⟨by simp, by simp; omega⟩
      · split at h
        · rename_i hc
          have hl := runOf_le (c :: r)
          have hp : 1 ≤ (runOf (c :: r)).length := by rw [runOf_cons hc]; simp
          split at h
          · cases h
            exact ⟨hp, hl⟩
          · split at h
            · cases h
              exact ⟨hp, hl⟩
            · cases h
        · cases h
/-- enough steps -/
theorem splitF_more : ∀ (f g : Nat) (l : List Nat), l.length ≤ f → l.length ≤ g → splitF f l = splitF g l
  | f, g, [], _, _ => by cases f <;> cases g <;> rfl
  | 0, _, c :: r, h, _ => by simp at h
  | _, 0, c :: r, _, h => by simp at h
  | f + 1, g + 1, c :: r, h1, h2 => by
    unfold splitF
    split
    · rw [splitF_more f g r (by simp at h1; omega) (by simp at h2; omega)]
    · cases hq : readS (c :: r) with
      | none => rfl
      | some p =>
        obtain ⟨s, w⟩ := p
        have hp := readS_pos hq
        have hl : ((c :: r).drop w).length ≤ r.length := by rw [List.length_drop]; simp at hp ⊢; omega
        show (splitF f _).shift w [s] = (splitF g _).shift w [s]
        rw [splitF_more f g _ (by simp at h1; omega) (by simp at h2; omega)]
theorem splitR_nil : splitR [] = .ok [] := rfl
theorem splitR_sp (r : List Nat) : splitR (32 :: r) = (splitR r).shift 1 [] := rfl
theorem splitR_bad {c : Nat} {r : List Nat} (hc : c ≠ 32) (h : readS (c :: r) = none) : splitR (c :: r) = .bad 0 := by
  unfold splitR
  show splitF (r.length + 1) _ = _
  rw [splitF_cons, if_neg hc, h]
theorem splitR_sign {l : List Nat} {s : Sg} {w : Nat} (hc : l.head? ≠ some 32) (h : readS l = some (s, w)) : splitR l = (splitR (l.drop w)).shift w [s] := by
  cases l with
  | nil => cases h
  | cons c r =>
    have hp := readS_pos h
    unfold splitR
    show splitF (r.length + 1) _ = _
    rw [splitF_cons, if_neg (fun z => hc (by rw [z]; rfl)), h]
    show (splitF r.length _).shift w [s] = _
    rw [splitF_more r.length ((c :: r).drop w).length _ (by rw [List.length_drop]; simp at hp ⊢; omega) (Nat.le_refl _)]
theorem Out.shift_shift (o : Out) (a b : Nat) (ss ts : List Sg) : (o.shift a ss).shift b ts = o.shift (b + a) (ts ++ ss) := by
  cases o with
  | ok x => simp [Out.shift]
  | bad x => simp [Out.shift]; omega
/-! ### texts of signs -/
def escC (c : Nat) : List Nat := if c = 92 then [92, 92] else if c = 34 then [92, 34] else if c = 10 then [92, 110] else [c]
def escL (l : List Nat) : List Nat := l.flatMap escC
def quoL (l : List Nat) : List Nat := 34 :: (escL l ++ [34])
def Sg.text : Sg → List Nat
  | .name l => l
  | .num n => (Str.ofString (toString (n : Int))).cps.toList
  | .quo l => quoL l
  | .mark c => [c]
def Sg.run : Sg → Bool
  | .name _ => true
  | .num _ => true
  | _ => false
def Sg.good : Sg → Prop
  | .name l => isNameL l = true
  | .num n => n ≤ 999999999
  | .quo l => l.all (fun c => isChar c || decide (c = 10)) = true ∧ l.length ≤ 6
  | .mark c => isMark c = true
theorem readQ_esc : ∀ (l t : List Nat), l.all (fun c => isChar c || decide (c = 10)) = true → readQ (escL l ++ 34 :: t) = some (l, (escL l).length + 1)
  | [], t, _ => by
    show readQ (34 :: t) = _
    cases t <;> rfl
  | c :: l, t, h => by
    rw [List.all_cons, Bool.and_eq_true] at h
    have ih := readQ_esc l t h.2
    have e : escL (c :: l) = escC c ++ escL l := rfl
    rw [e]
    have h1 := h.1
    have two : ∀ {m e : Nat}, escOf e = some m → readQ ([92, e] ++ escL l ++ 34 :: t) = some (m :: l, ([92, e] ++ escL l).length + 1) := fun {m e} he => by
      show readQ (92 :: e :: (escL l ++ 34 :: t)) = _
      unfold readQ
      rw [if_neg (by decide), if_pos rfl, he]
      show (readQ (escL l ++ 34 :: t)).map _ = _
      rw [ih]
      simp
    unfold escC
    by_cases c1 : c = 92
    · subst c1
      rw [if_pos rfl]
      exact two rfl
    · rw [if_neg c1]
      by_cases c2 : c = 34
      · subst c2
        rw [if_pos rfl]
        exact two rfl
      · rw [if_neg c2]
        by_cases c3 : c = 10
        · subst c3
          rw [if_pos rfl]
          exact two rfl
        · rw [if_neg c3]
          have hch : isChar c = true := by
            rw [Bool.or_eq_true, decide_eq_true_eq] at h1
            rcases h1 with h1 | h1
            · exact h1
            · exact absurd h1 c3
          show readQ (c :: (escL l ++ 34 :: t)) = _
          obtain ⟨a, b, hab⟩ : ∃ a b, escL l ++ 34 :: t = a :: b := by
            cases escL l with
            | nil => exact ⟨_, _, rfl⟩
            | cons a b => exact ⟨_, _, rfl⟩
          rw [hab] at ih ⊢
          unfold readQ
          rw [if_neg c2, if_neg c1, if_pos hch]
          show (readQ (a :: b)).map _ = _
          rw [ih]
          simp
end Rs

namespace Rs
open PySem PySem.Spec PyProof.Rows L2 GxR Gx Gd
/-! ### the text of a sign is read as the sign -/
def Hd (t : List Nat) : Prop := t = [] ∨ ∃ c r, t = c :: r ∧ isRun c = false
theorem run_app {l t : List Nat} (h : l.all isRun = true) (ht : Hd t) : runOf (l ++ t) = l := by
  induction l with
  | nil =>
    rcases ht with rfl | ⟨c, r, rfl, hc⟩
    · rfl
    · show runOf (c :: r) = []
      unfold runOf
      rw [List.takeWhile_cons, if_neg (by rw [hc]; exact Bool.false_ne_true)]
  | cons c l ih =>
    rw [List.all_cons, Bool.and_eq_true] at h
    show runOf (c :: (l ++ t)) = _
    rw [runOf_cons h.1, ih h.2]
theorem rg {a b c : Nat} : inRg a b c = true ↔ a ≤ c ∧ c ≤ b := by
  unfold inRg
  rw [Bool.and_eq_true, decide_eq_true_eq, decide_eq_true_eq]
theorem run_plain {c : Nat} (h : isRun c = true) : isMark c = false ∧ c ≠ 34 ∧ c ≠ 32 := by
  unfold isRun isSmall isDigit at h
  rw [Bool.or_eq_true, Bool.or_eq_true, rg, rg, rg] at h
  refine ⟨?_, by omega, by omega⟩
  unfold isMark
  rw [decide_eq_false (by omega), decide_eq_false (by omega), decide_eq_false (by omega), decide_eq_false (by omega)]
  rfl
theorem digit_run {c : Nat} (h : isDigit c = true) : isRun c = true := by unfold isRun; rw [h]; simp
theorem small_run {c : Nat} (h : isSmall c = true) : isRun c = true := by unfold isRun; rw [h]; simp
theorem readS_run {l t : List Nat} (hl : l.all isRun = true) (hne : l ≠ []) (ht : Hd t) : readS (l ++ t) = if isNameL l = true then some (.name l, l.length) else if isNumL l = true then some (.num (NumText.digitsVal l), l.length) else none := by
  cases l with
  | nil => exact absurd rfl hne
  | cons c r =>
    have hc : isRun c = true := by rw [List.all_cons, Bool.and_eq_true] at hl; exact hl.1
    obtain ⟨h1, h2, _⟩ := run_plain hc
    have hr := run_app hl ht
    show readS (c :: (r ++ t)) = _
    rw [readS_cons, if_neg (by rw [h1]; exact Bool.false_ne_true), if_neg h2, if_pos hc]
    have hr' : runOf (c :: (r ++ t)) = c :: r := hr
    rw [hr']
theorem name_parts {l : List Nat} (h : isNameL l = true) : 1 ≤ l.length ∧ l.length ≤ 12 ∧ (∃ c r, l = c :: r ∧ isSmall c = true) ∧ l.all (fun c => isSmall c || isDigit c) = true := by
  unfold isNameL at h
  rw [Bool.and_eq_true, Bool.and_eq_true, decide_eq_true_eq, decide_eq_true_eq, Bool.and_eq_true] at h
  obtain ⟨⟨h1, h2⟩, h3, h4⟩ := h
  cases l with
  | nil => simp at h1
  | cons c r => exact ⟨h1, h2, ⟨c, r, rfl, h3⟩, h4⟩
theorem name_run {l : List Nat} (h : isNameL l = true) : l.all isRun = true := by
  obtain ⟨_, _, _, h⟩ := name_parts h
  rw [List.all_eq_true] at h ⊢
  intro c hc
  have h := h c hc
  rw [Bool.or_eq_true] at h
  rcases h with h | h
  · exact small_run h
  · exact digit_run h
theorem numL_head : ∀ (n : Nat), 0 < n → ∃ c r, TL.numL n = c :: r ∧ c ≠ 48 := by
  intro n
  induction n using Nat.strongRecOn with
  | _ n ih =>
    intro hn
    by_cases h : n < 10
    · rw [TL.numL_lt h]
      exact ⟨_, _, rfl, by omega⟩
    · rw [TL.numL_step (by omega)]
      obtain ⟨c, r, e, hc⟩ := ih (n / 10) (by omega) (by omega)
      rw [e]
      exact ⟨c, _, rfl, hc⟩
theorem numL_all (n : Nat) : (TL.numL n).all isDigit = true := by
  rw [List.all_eq_true]
  intro c hc
  exact rg.mpr (TL.numL_digits n c hc)
theorem num_isNum {n : Nat} (h : n ≤ 999999999) : isNumL (TL.numL n) = true := by
  unfold isNumL
  rw [decide_eq_true (TL.numL_len (n := n) (k := 9) (by decide) (by omega)), numL_all]
  by_cases h0 : n = 0
  · subst h0
    rfl
  · obtain ⟨c, r, e, hc⟩ := numL_head n (by omega)
    rw [e]
    have : decide ((c :: r).head? = some 48) = false := decide_eq_false (by simpa using hc)
    rw [this]
    simp
theorem num_noName (n : Nat) : isNameL (TL.numL n) = false := by
  cases e : isNameL (TL.numL n) with
  | false => rfl
  | true =>
    obtain ⟨_, _, ⟨c, r, e1, h1⟩, _⟩ := name_parts e
    have h2 := TL.numL_digits n c (by rw [e1]; exact List.mem_cons_self)
    have h3 := rg.mp h1
    omega
theorem text_num (n : Nat) : (Sg.num n).text = TL.numL n := TL.tl_num n
theorem mark_of {c : Nat} (h : isMark c = true) : c = 40 ∨ c = 41 ∨ c = 44 ∨ c = 61 := by
  unfold isMark at h
  rw [Bool.or_eq_true, Bool.or_eq_true, Bool.or_eq_true, decide_eq_true_eq, decide_eq_true_eq, decide_eq_true_eq, decide_eq_true_eq] at h
  exact h
theorem readS_text {s : Sg} (g : s.good) {t : List Nat} (ht : s.run = true → Hd t) : readS (s.text ++ t) = some (s, s.text.length) := by
  cases s with
  | name l =>
    have hne : l ≠ [] := by obtain ⟨_, _, ⟨c, r, rfl, _⟩, _⟩ := name_parts g; simp
    show readS (l ++ t) = _
    rw [readS_run (name_run g) hne (ht rfl), if_pos (show isNameL l = true from g)]
    rfl
  | num n =>
    rw [text_num]
    have hr : (TL.numL n).all isRun = true := by
      have := numL_all n
      rw [List.all_eq_true] at this ⊢
      exact fun c hc => digit_run (this c hc)
    rw [readS_run hr (TL.numL_ne n) (ht rfl), if_neg (by rw [num_noName]; exact Bool.false_ne_true), if_pos (num_isNum g), TL.numL_val]
  | quo l =>
    show readS (34 :: ((escL l ++ [34]) ++ t)) = _
    rw [readS_cons, if_neg (by decide), if_pos rfl, List.append_assoc]
    show (readQ (escL l ++ 34 :: t)).map _ = _
    rw [readQ_esc l t g.1]
    show some (Sg.quo l, _) = some (Sg.quo l, (quoL l).length)
    unfold quoL
    simp
  | mark c =>
    show readS (c :: t) = _
    rw [readS_cons, if_pos (show isMark c = true from g)]
    rfl
theorem text_head {s : Sg} (g : s.good) : ∃ c r, s.text = c :: r ∧ c ≠ 32 ∧ (s.run = false → isRun c = false) := by
  cases s with
  | name l =>
    obtain ⟨_, _, ⟨c, r, rfl, h⟩, _⟩ := name_parts g
    exact ⟨c, r, rfl, (run_plain (small_run h)).2.2, fun z => by cases z⟩
  | num n =>
    rw [text_num]
    cases e : TL.numL n with
    | nil => exact absurd e (TL.numL_ne n)
    | cons c r =>
      have h := TL.numL_digits n c (by rw [e]; exact List.mem_cons_self)
      exact ⟨c, r, rfl, by omega, fun z => by cases z⟩
  | quo l => exact ⟨34, _, rfl, by decide, fun _ => by decide⟩
  | mark c =>
    refine ⟨c, [], rfl, ?_, fun _ => ?_⟩
    · rcases mark_of g with h | h | h | h <;> omega
    · rcases mark_of g with h | h | h | h <;> subst h <;> decide
theorem escL_len : ∀ l : List Nat, (escL l).length ≤ 2 * l.length
  | [] => Nat.le_refl _
  | c :: l => by
    have e : escL (c :: l) = escC c ++ escL l := rfl
    have h : (escC c).length ≤ 2 := by
      unfold escC
      split
      · decide
      · split
        · decide
        · split
          · decide
          · simp
    have := escL_len l
    rw [e, List.length_append, List.length_cons]
    omega
theorem text_len {s : Sg} (g : s.good) : s.text.length ≤ 14 := by
  cases s with
  | name l =>
    have := (name_parts g).2.1
    show l.length ≤ 14
    omega
  | num n =>
    rw [text_num]
    have := TL.numL_len (n := n) (k := 9) (by decide) (by have : n ≤ 999999999 := g; omega)
    omega
  | quo l =>
    have h := g.2
    have := escL_len l
    show (34 :: (escL l ++ [34])).length ≤ 14
    simp
    omega
  | mark c => show 1 ≤ 14; decide
/-! ### rows of signs with gaps -/
def looseL : List (Nat × Sg) → List Nat
  | [] => []
  | (g, s) :: r => List.replicate g 32 ++ (s.text ++ looseL r)
def Apart : Bool → List (Nat × Sg) → Prop
  | _, [] => True
  | b, (g, s) :: r => (b = true → s.run = true → 1 ≤ g) ∧ Apart s.run r
theorem split_sps : ∀ (g : Nat) (r : List Nat), splitR (List.replicate g 32 ++ r) = (splitR r).shift g []
  | 0, r => by
    show splitR r = _
    cases splitR r <;> simp [Out.shift]
  | g + 1, r => by
    show splitR (32 :: (List.replicate g 32 ++ r)) = _
    rw [splitR_sp, split_sps g r, Out.shift_shift]
    simp [Nat.add_comm]
theorem hd_32 (t : List Nat) : Hd (32 :: t) := .inr ⟨32, t, rfl, by decide⟩
theorem split_loose : ∀ (rows : List (Nat × Sg)) (b : Bool) (t : List Nat), (∀ p ∈ rows, p.2.good) → Apart b rows → Hd t → splitR (looseL rows ++ t) = (splitR t).shift (looseL rows).length (rows.map (·.2))
  | [], b, t, _, _, _ => by
    show splitR t = _
    cases splitR t <;> simp [Out.shift, looseL]
  | (g, s) :: r, b, t, hg, ha, ht => by
    have gs : s.good := hg (g, s) List.mem_cons_self
    have ih := split_loose r s.run t (fun p hp => hg p (List.mem_cons_of_mem _ hp)) ha.2 ht
    have hd : s.run = true → Hd (looseL r ++ t) := fun hs => by
      cases r with
      | nil => exact ht
      | cons p r =>
        obtain ⟨g', s'⟩ := p
        show Hd ((List.replicate g' 32 ++ (s'.text ++ looseL r)) ++ t)
        cases g' with
        | zero =>
          have hr : s'.run = false := by
            cases e : s'.run with
            | false => rfl
            | true => exact absurd (ha.2.1 hs e) (by decide)
          obtain ⟨c, x, e1, _, h2⟩ := text_head (hg (0, s') (List.mem_cons_of_mem _ List.mem_cons_self))
          refine .inr ⟨c, (x ++ looseL r) ++ t, ?_, h2 hr⟩
          show (s'.text ++ looseL r) ++ t = _
          rw [e1]
          rfl
        | succ g' => exact hd_32 _
    have e : looseL ((g, s) :: r) ++ t = List.replicate g 32 ++ (s.text ++ (looseL r ++ t)) := by
      show (List.replicate g 32 ++ (s.text ++ looseL r)) ++ t = _
      rw [List.append_assoc, List.append_assoc]
    obtain ⟨c, x, e1, h1, _⟩ := text_head gs
    rw [e, split_sps, splitR_sign (by rw [e1]; simpa using h1) (readS_text gs hd), List.drop_left, ih, Out.shift_shift, Out.shift_shift]
    have el : (looseL ((g, s) :: r)).length = g + (s.text.length + (looseL r).length) := by
      show (List.replicate g 32 ++ (s.text ++ looseL r)).length = _
      simp
    rw [el, Nat.add_assoc]
    rfl
theorem loose_len : ∀ (rows : List (Nat × Sg)), (∀ p ∈ rows, p.2.good ∧ p.1 ≤ 2) → (looseL rows).length ≤ 16 * rows.length
  | [], _ => Nat.le_refl _
  | (g, s) :: r, h => by
    have h1 := h (g, s) List.mem_cons_self
    have h2 : s.text.length ≤ 14 := text_len h1.1
    have h3 : g ≤ 2 := h1.2
    have ih := loose_len r fun p hp => h p (List.mem_cons_of_mem _ hp)
    show (List.replicate g 32 ++ (s.text ++ looseL r)).length ≤ _
    simp
    omega
theorem loose_snoc : ∀ (rows : List (Nat × Sg)) (g : Nat) (s : Sg), looseL (rows ++ [(g, s)]) = looseL rows ++ (List.replicate g 32 ++ s.text)
  | [], g, s => by simp [looseL]
  | (g', s') :: r, g, s => by
    show List.replicate g' 32 ++ (s'.text ++ looseL (r ++ [(g, s)])) = _
    rw [loose_snoc r g s]
    show _ = (List.replicate g' 32 ++ (s'.text ++ looseL r)) ++ _
    simp
def lastRun : Bool → List (Nat × Sg) → Bool
  | b, [] => b
  | _, (_, s) :: r => lastRun s.run r
theorem apart_snoc : ∀ (rows : List (Nat × Sg)) (b : Bool) (g : Nat) (s : Sg), Apart b rows → (lastRun b rows = true → s.run = true → 1 ≤ g) → Apart b (rows ++ [(g, s)])
  | [], b, g, s, _, h => ⟨h, trivial⟩
  | (g', s') :: r, b, g, s, ha, h => ⟨ha.1, apart_snoc r s'.run g s ha.2 h⟩
theorem lastRun_snoc : ∀ (rows : List (Nat × Sg)) (b : Bool) (g : Nat) (s : Sg), lastRun b (rows ++ [(g, s)]) = s.run
  | [], b, g, s => rfl
  | (g', s') :: r, b, g, s => lastRun_snoc r s'.run g s
/-! ### the one written form -/
def isLeft : Sg → Bool
  | .mark c => decide (c = 40)
  | _ => false
def tight : Sg → Bool
  | .mark c => decide (c = 40) || (decide (c = 41) || decide (c = 44))
  | _ => false
def wr : Bool → List Sg → List (Nat × Sg)
  | _, [] => []
  | f, s :: r => ((if (f || tight s) = true then 0 else 1), s) :: wr (isLeft s) r
theorem wr_signs : ∀ (f : Bool) (ss : List Sg), (wr f ss).map (·.2) = ss
  | _, [] => rfl
  | f, s :: r => by
    show s :: (wr (isLeft s) r).map (·.2) = _
    rw [wr_signs]
theorem wr_apart : ∀ (f b : Bool) (ss : List Sg), (b = true → f = false) → Apart b (wr f ss)
  | _, _, [], _ => trivial
  | f, b, s :: r, h => by
    refine ⟨fun hb hs => ?_, wr_apart (isLeft s) s.run r fun hs => ?_⟩
    · rw [h hb]
      cases s with
      | name l => exact Nat.le_refl _
      | num n => exact Nat.le_refl _
      | quo l => cases hs
      | mark c => cases hs
    · cases s with
      | name l => rfl
      | num n => rfl
      | quo l => cases hs
      | mark c => cases hs
theorem wr_mem {f : Bool} {ss : List Sg} (h : ∀ s ∈ ss, s.good) : ∀ p ∈ wr f ss, p.2.good ∧ p.1 ≤ 2 := by
  induction ss generalizing f with
  | nil => exact fun p hp => by cases hp
  | cons s r ih =>
    intro p hp
    rcases List.mem_cons.mp hp with rfl | hp
    · refine ⟨h s List.mem_cons_self, ?_⟩
      show (if _ then 0 else 1) ≤ 2
      split <;> omega
    · exact ih (fun s hs => h s (List.mem_cons_of_mem _ hs)) p hp
end Rs

/-! Defs that may raise an own error with one field; the error caught. -/
namespace Gd
open PySem PySem.Spec PyProof.Rows L2 GxR Gx
/-- what a caller of a def that may raise needs -/
def CalX (P : Program) (w : World) (K : PySem.W.Frag) (mg : Str → Option Value) (base : Heap) (k : Nat) (x : Str) (ps : List Str) (sp : Sp) : Prop :=
  ∃ f fd, FnG P w K mg base (L2.CX P w) k f fd ps sp ∧ mg x = some (.ref f) ∧ PySem.W.keepIn K (.ref f) = true ∧ Binds K fd ps []
section
variable {P : Program} {w : World} {K : PySem.W.Frag} {mg : Str → Option Value} {base : Heap}
theorem DefAt.calX {x : Str} {st : Stmt} {N ps : List Str} {k : Nat} {sp : Sp} (D : DefAt K mg x st ps) (S : FnScope N ps (defScope st)) (len : ∀ vs H Q E, sp vs H Q E → vs.length = ps.length)
    (hb : ∀ (f : Addr) (cdv : Value) (A : Around) (outer : List Env) (s : Shared) (H : Hp) (vs : List V) (Q : VK) (E : XK), RoomG k (A.deeper (envOfC x (defScope st) s.heap.objs.size f cdv)) → sp vs H Q E →
      ∃ t, PSs (cxOf (L2.CX P w) P w K mg base N x (defScope st) f cdv A outer s H E) (defBody st) t ∧ t { nx := fun _ H' => Q .non H', rt := Q } (start N vs) H) : CalX P w K mg base (k + 1) x ps sp := by
  obtain ⟨f, fd, F, g, b⟩ := D
  exact ⟨f, fd, okGX F S len (hb f), g, F.kp, b⟩
end
section
variable {X : Cx} {k : Nat} {ps : List Str} {sp : Sp} {x : Str} {p pos : Pos} {e : Expr} {es : List Expr} {t : TA} {E : L2.St → XK}
theorem pe_calX (C : CalX X.prog X.w X.K X.mg X.base k x ps sp) (hr : RoomG k X.A) (hg : Gl X x) (hx : ∀ σ, PassesAt (L2.CX X.prog X.w) X σ (E σ)) (ha : PA X (e :: es) t) (hdb : (x == ("__debug__" : Str)) = false := by decide)
    (he : starEach (e :: es) X.env = (false, eval e X.env) :: starEach es X.env := by rfl) (hpl : (backTo pos (starEach es X.env)).any (·.1) = false := by rfl) : PE X (.Call (.Name x p) (e :: es) [] pos) (tCallS sp E t) := by
  obtain ⟨f, fd, F, g, kp, b⟩ := C
  refine ⟨fun pins s σ H Q I h => wpAny_Call_Name_kw (ld_glob I hg g ?_ hdb)⟩
  refine PySem.W.callWith_K (h₀ := X.base) I.ok.mod.kin kp (thn (ha.run pos pins s σ H _ I h) fun us s1 ⟨vs, H1, I1, rv, q1⟩ => ⟨I1.kIn, ?_⟩) he hpl
  have hl : us.length = ps.length := by
    rw [← rv.length]
    exact F.len _ _ _ _ q1
  have bb := b s1 us I1.kIn (by rw [List.append_nil]; exact hl)
  rw [List.append_nil] at bb
  refine wpAny_call (codeAny_mono (F.run X.A X.stack s1 H1 ⟨us, []⟩ us vs Q (E σ) hr I1.env0 bb rv q1) fun r s' hq => ?_)
  cases r with
  | error er => exact hx σ pins H1 s1 er s' I1 hq
  | ok fl =>
    cases fl with
    | ret u => exact I1.after hq
    | _ => exact hq.elim
end
/-- __init__ that stores its one argument -/
def spInit (K : PySem.W.Frag) (fld : Str) : Sp := fun vs H Q _ => ∃ (a C : Addr) (y : V), vs = [.ref a, y] ∧ OexC K C ∧ PySem.W.findIn K (.ref C) fld = some none ∧ H a = some (exo a C none) ∧
  ∀ dx, H dx = none → dx ≠ a → Q .non (upd (upd H dx (exd dx [(fld, y)])) a (exo a C (some dx)))
theorem rd_raise {K : PySem.W.Frag} {C : Addr} {fld : Str} {σ : L2.St} {H : Hp} {Q : XK} {i : Nat} {v : V} (T : OexC K C) (hno : PySem.W.findIn K (.ref C) fld = some none) (hv : σ[i]? = some (some v)) (q : ∀ d H', Kp H H' → H' d = some (.xd [(fld, v)]) → Q (.ref C) (some d) H') :
    tMkO C (spInit K fld) [] (tCons (tVar i) tNil) σ H Q := by
  refine ⟨v, hv, by show 1 ≤ 1000; decide, fun a ha => ⟨a, C, v, rfl, T, hno, upd_same, fun dx hdx hne => ?_⟩⟩
  have hd : H dx = none := by rw [upd_ne hne] at hdx; exact hdx
  refine ⟨rfl, dx, [(fld, v)], upd_same, by rw [upd_ne hne]; exact upd_same, hd, q dx _ ⟨fun b o e _ _ => ?_, fun T' hT => ?_, fun b e => ?_⟩ upd_same⟩
  · have h1 : b ≠ a := ne_of_none e ha
    have h2 : b ≠ dx := ne_of_none e hd
    rw [upd_ne h2, del_ne h1, upd_ne h1, upd_ne h2, upd_ne h1]
    exact e
  · obtain ⟨ps, e, t⟩ := hT
    have h1 : T' ≠ a := ne_of_none e ha
    have h2 : T' ≠ dx := ne_of_none e hd
    exact ⟨ps, by rw [upd_ne h2, del_ne h1, upd_ne h1, upd_ne h2, upd_ne h1]; exact e, t⟩
  · by_cases h2 : b = dx
    · rw [h2]
      exact hd
    · by_cases h1 : b = a
      · rw [h1]
        exact ha
      · rw [upd_ne h2, del_ne h1, upd_ne h1, upd_ne h2, upd_ne h1] at e
        exact e
/-- isinstance of the error that the suite holds -/
structure ExcK (K : PySem.W.Frag) (C : Addr) : Prop where
  cl : (PySem.W.clsIn K C).isSome = true
  ga : PySem.W.findIn K (.ref C) "__getattribute__" = some (some (.builtin "BaseException.__getattribute__"))
  gg : PySem.W.findIn K (.ref C) "__getattr__" = some none
  sub : PySem.W.subIn K (.ref C) (.type "BaseException") = some true
  ca : PySem.W.findIn K (.ref C) "__class__" = some (some (.builtin "object.__class__"))
  sg : PySem.W.specialIn K (.builtin "object.__class__") "__get__" = some (some (.builtin "getset_descriptor.__get__"))
  tk : PySem.W.takesIn K (.builtin "object.__class__") = some true
  mo : PySem.W.mroIn K C (.type "object") = some true
def rIsX (K : PySem.W.Frag) (C a : Addr) (cls : Value) (d : Option Addr) : List V → Hp → VK → Prop := fun xs H Q => ∃ (c : V) (cv : Value) (b : Bool) (dd : Addr) (fs : List (Str × V)), xs = [.ref a, c] ∧ cls = .ref C ∧ d = some dd ∧ H dd = some (.xd fs) ∧ (∀ u, RelV c u → u = cv) ∧ PySem.W.kitOne K (.ref C) cv = some b ∧ Q (.bl b) H
theorem call_isX {X : Cx} {a C : Addr} {oe : Obj} {cls : Value} {d : Option Addr} {pn : List (Addr × Obj)} (T : ExcK X.K C) (hz : Zc cls d oe) (hf : ∃ vs, oe.data = .fields vs) : CallR (X.suite a ((a, oe) :: pn)) (.builtin "isinstance") (rIsX X.K C a cls d) := by
  intro pins s σ H xs us Q I r h
  obtain ⟨c, cv, b, dd, fs, rfl, rfl, rfl, ed, hcv, e, q⟩ := h
  obtain ⟨vs, hv⟩ := hf
  have at_ := (I.pin (a, oe) (List.mem_append.mpr (.inl List.mem_cons_self))).1
  obtain ⟨mA, ⟨od, es, ep, ho, _⟩, _⟩ := (show ObjOk X.prog X.w H s.heap dd (.xd fs) from I.hok dd _ ed)
  have J : PySem.W.InstAt s.heap a oe C (some od) := by
    obtain ⟨oc, odc, oda, osl⟩ := oe
    obtain ⟨z1, z2⟩ := hz
    dsimp only at z1 z2 hv
    subst z1 z2 hv
    exact ⟨at_, rfl, rfl, ho⟩
  cases r with
  | cons rx rr =>
    cases rr with
    | cons rt rr =>
      cases rr
      cases rx
      cases hcv _ rt
      exact PySem.W.kia_one (PySem.W.kitx_exc T.cl T.ga T.gg T.sub T.ca T.sg T.tk T.mo) I.kIn J e (fun z => nomatch z) fun tk => ⟨.bl b, H, I.kept (t' := tk) fun _ _ z => z, rfl, q⟩
end Gd

namespace Gd
open PySem PySem.Spec PyProof.Rows L2 GxR Gx
/-- the class of the error at C -/
structure Bad (P : Program) (w : World) (K : PySem.W.Frag) (mg : Str → Option Value) (base : Heap) (C : Addr) : Prop where
  T : OexC K C
  no : PySem.W.findIn K (.ref C) "offset" = some none
  ex : ∃ (fI : Addr) (fd : FuncData), PySem.W.findIn K (.ref C) "__init__" = some (some (.ref fI)) ∧ PySem.W.typeIn K (.ref fI) = some (.type "function") ∧ FnOk P w K mg base CX0 1 fI fd ["self", "offset"] (spInit K "offset") ∧ Binds K fd ["self", "offset"] []
  g : mg "BadSigns" = some (.ref C)
theorem ps_bad {X : Cx} {C : Addr} {k : Nat} {e : Expr} {es : List Expr} {ta : TA} {W : WX} {p pos pos2 : Pos} (B : Bad X.prog X.w X.K X.mg X.base C) (hc : X.calm = true) (tk : Takes X W) (hr : RoomG (k + 2) X.A) (hg : Gl X "BadSigns") (ha : PA X (e :: es) ta)
    (he : starEach (e :: es) X.env = (false, eval e X.env) :: starEach es X.env := by rfl) (hpl : (backTo pos (starEach es X.env)).any (·.1) = false := by rfl) :
    PS X (.Raise (some (.Call (.Name "BadSigns" p) (e :: es) [] pos)) none pos2) (fun _ σ H => tMkO C (spInit X.K "offset") [] ta σ H fun cls d H' => W cls d σ H') := by
  obtain ⟨fI, fd, iC, tI, F1, b⟩ := B.ex
  exact ps_raise hc tk (pmk_oex B.T iC tI F1 (hr.r.mono (by omega : 1 + 1 ≤ k + 2)) b .nil pass0 hg B.g ha (by decide) he hpl)
theorem CalX.mono {P : Program} {w : World} {K : PySem.W.Frag} {mg : Str → Option Value} {base : Heap} {j k : Nat} {x : Str} {ps : List Str} {sp : Sp} (c : CalX P w K mg base j x ps sp) (h : j ≤ k) : CalX P w K mg base k x ps sp :=
  let ⟨f, fd, F, r⟩ := c; ⟨f, fd, F.mono h, r⟩
end Gd
namespace Rs
open PySem PySem.Spec PyProof.Rows L2 GxR Gx Gd
abbrev s_is_of_run : Stmt := topS 22
theorem sc_is_of_run : FnScope ["char"] ["char"] (defScope s_is_of_run) := ⟨rfl, rfl, rfl, by decide +kernel, rfl, by decide +kernel, by decide +kernel⟩
abbrev s_is_number : Stmt := topS 24
theorem sc_is_number : FnScope ["run"] ["run"] (defScope s_is_number) := ⟨rfl, rfl, rfl, by decide +kernel, rfl, by decide +kernel, by decide +kernel⟩
abbrev s_meant : Stmt := topS 26
theorem sc_meant : FnScope ["piece", "start"] ["piece", "start"] (defScope s_meant) := ⟨rfl, rfl, rfl, by decide +kernel, rfl, by decide +kernel, by decide +kernel⟩
theorem chain_or {a b c : Nat} {xa xb : Str} {σ : L2.St} {H : Hp} {Q : VK} {i : Nat} {tb : TE} (ha : xa = ⟨#[a]⟩) (hb : xb = ⟨#[b]⟩) (hs : σ[i]? = some (some (.str ⟨#[c]⟩))) (q : if inRg a b c = true then Q (.bl true) H else tb σ H Q) :
    tOrV (tChain rLeS rLeS (tC (.str xa)) (tVar i) (tC (.str xb))) tb σ H Q := chain_rd ha hb hs ⟨_, rfl, q⟩
theorem one_is (c : Nat) : sx [c] = ⟨#[c]⟩ := rfl
def ErrAt (C : Addr) (n : Nat) (H : Hp) (E : XK) : Prop := ∀ d H', Kp H H' → H' d = some (.xd [("offset", .int (n : Int))]) → E (.ref C) (some d) H'
def spNum (ts : List Addr) : Sp := fun vs H Q _ => ∃ l : List Nat, vs = [.str (sx l)] ∧ l ≠ [] ∧ l.length ≤ 1000 ∧ (∀ T ∈ ts, TabG H T) ∧ ∀ H', Kp H H' → Q (.bl (isNumL l)) H'
/-- a piece of a quoted text -/
def meantL : List Nat → Option Nat
  | [c] => if c = 92 then none else if isChar c = true then some c else none
  | [92, e] => escOf e
  | _ => none
def spMeant (C : Addr) : Sp := fun vs H Q E => ∃ (p : List Nat) (n : Nat), vs = [.str (sx p), .int (n : Int)] ∧ ((∃ c, p = [c]) ∨ ∃ e, p = [92, e]) ∧ (match meantL p with
  | some m => Q (.str (sx [m])) H
  | none => ErrAt C n H E)
/-- the dict of the escapes -/
structure EscK (K : PySem.W.Frag) (w : World) (d : Addr) : Prop where
  ex : ∃ (n : Nat) (h1 h2 h3 : Int) (t1 t2 t3 u1 u2 u3 : Tok), KDict K w d #[⟨h1, .str (sx [92, 34]) t1, .str (sx [34]) u1⟩, ⟨h2, .str (sx [92, 92]) t2, .str (sx [92]) u2⟩, ⟨h3, .str (sx [92, 110]) t3, .str (sx [10]) u3⟩] n
theorem sx_beq (a b : List Nat) : (sx a == sx b) = decide (a = b) := by
  rw [Bool.eq_iff_iff, beq_iff_eq, decide_eq_true_eq]
  exact ⟨sx_inj, fun h => by rw [h]⟩
theorem EscK.look {K : PySem.W.Frag} {w : World} {d : Addr} (D : EscK K w d) (p : List Nat) : ∃ (n : Nat) (es : Array DictEntry) (r : Option Value), KDict K w d es n ∧ PySem.W.nsIn K d (sx p) = some r ∧
    (match (if p = [92, 34] then some 34 else if p = [92, 92] then some 92 else if p = [92, 110] then some 10 else none : Option Nat) with | some m => ∃ u, r = some (.str (sx [m]) u) | none => r = none) := by
  obtain ⟨n, h1, h2, h3, t1, t2, t3, u1, u2, u3, KD⟩ := D.ex
  refine ⟨n, _, (if p = [92, 34] then some (.str (sx [34]) u1) else if p = [92, 92] then some (.str (sx [92]) u2) else if p = [92, 110] then some (.str (sx [10]) u3) else none), KD, ?_, ?_⟩
  · have e : ∀ (q : List Nat) (t : Tok), (Value.str (sx q) t).isStr (sx p) = decide (q = p) := fun q t => sx_beq q p
    unfold PySem.W.nsIn
    rw [KD.at_]
    dsimp only
    by_cases c1 : p = [92, 34]
    · subst c1
      simp [List.find?_cons, e]
    · by_cases c2 : p = [92, 92]
      · subst c2
        simp [List.find?_cons, e]
      · by_cases c3 : p = [92, 110]
        · subst c3
          simp [List.find?_cons, e]
        · rw [if_neg c1, if_neg c2, if_neg c3]
          have e1 : ([92, 34] = p) = False := eq_false fun z => c1 z.symm
          have e2 : ([92, 92] = p) = False := eq_false fun z => c2 z.symm
          have e3 : ([92, 110] = p) = False := eq_false fun z => c3 z.symm
          simp only [List.find?_cons, e, e1, e2, e3, decide_false, List.find?_nil]
          rfl
  · by_cases c1 : p = [92, 34]
    · rw [if_pos c1, if_pos c1]
      exact ⟨u1, rfl⟩
    · rw [if_neg c1, if_neg c1]
      by_cases c2 : p = [92, 92]
      · rw [if_pos c2, if_pos c2]
        exact ⟨u2, rfl⟩
      · rw [if_neg c2, if_neg c2]
        by_cases c3 : p = [92, 110]
        · rw [if_pos c3, if_pos c3]
          exact ⟨u3, rfl⟩
        · rw [if_neg c3, if_neg c3]
section
variable {P : Program} {w : World} {K : PySem.W.Frag} {mg : Str → Option Value} {base : Heap}
theorem c_is_of_run (D : DefAt K mg "_is_of_run" s_is_of_run ["char"]) (c_is_digit : Cal P w K mg base CX0 1 "is_digit" ["char"] (spSign isDigit)) : Cal P w K mg base CX0 2 "_is_of_run" ["char"] (spSign isRun) := by
  refine D.cal (k := 1) sc_is_of_run (fun vs H Q E h => ?_) fun f cdv A outer s H vs Q E hr h => ?_
  · obtain ⟨c, rfl, _⟩ := h
    rfl
  · obtain ⟨c, rfl, q⟩ := h
    refine ⟨_, (pss_one (ps_ret (pe_or (pe_chain op_le_str op_le_str pe_str (pv 0) pe_str) (pe_or (pe_chain op_le_str op_le_str pe_str (pv 0) pe_str) (pe_one (pe_cal (c_is_digit.mono (by decide)) hr (by rfl) (pa_cons (pv 0) pa_nil))))))), ?_⟩
    refine chain_or (a := 97) (b := 122) (c := c) rfl rfl rfl ?_
    have q : Q (.bl (inRg 97 122 c || (inRg 65 90 c || isDigit c))) H := q
    cases e1 : inRg 97 122 c with
    | true =>
      rw [e1] at q
      exact iteT q
    | false =>
      rw [e1] at q
      refine iteF (chain_or (a := 65) (b := 90) (c := c) rfl rfl rfl ?_)
      cases e2 : inRg 65 90 c with
      | true =>
        rw [e2] at q
        exact iteT q
      | false =>
        rw [e2] at q
        exact iteF ⟨_, rfl, c, rfl, q⟩
theorem c_is_number {T : Addr} {ts : List Addr} (D : DefTab K mg base "_is_number" s_is_number ["run"] T) (gN : ∃ t, mg "NUMBER_LENGTH" = some (.int 9 t)) (m_len : mg "len" = none) (m_all : mg "all" = none) (hTs : T ∈ ts)
    (c_is_digit : Cal P w K mg base CX0 1 "is_digit" ["char"] (spSign isDigit)) : Cal P w K mg base CX0 3 "_is_number" ["run"] (spNum ts) := by
  refine D.cal (k := 2) sc_is_number (fun vs H Q E h => ?_) fun f c A outer s H vs Q E TB hr h => ?_
  · obtain ⟨c, rfl, _⟩ := h
    rfl
  · obtain ⟨l, rfl, hne, hz, hT, q⟩ := h
    obtain ⟨t, g_NUMBER_LENGTH⟩ := gN
    refine ⟨_, (pss_cons (ps_if (PW.pt (pw_or (pt_cmpR op_gt (pe_callB call_len_str (by rfl) m_len (by decide +kernel) (pa_cons (pv 0) pa_nil)) (pe_glob (v := .int 9) rfl g_NUMBER_LENGTH ⟨_, rfl⟩) (nomark _)) (pw_or1 (pt_not (pt_val (pe_allG hr.r (by rfl) m_all TB rfl (genS_by (by decide +kernel)) Caps.nil (pi_str (pv 0)) rfl (fun _ _ _ _ _ _ => pg_name (i := 0) (nd1 _) rfl (Or.inl rfl)) (fun _ _ _ _ _ _ rk => (pe_cal (c_is_digit.mono (by decide)) (RoomG.mk rk hr.g) (by rfl) (pa_cons (pv 0) pa_nil))))))))) (pss_one (ps_ret pe_bl)) pss_nil)
  (pss_one (ps_ret (pe_or (pe_cmpR op_eq (pv 0) pe_str (nomark _)) (pe_one (pe_cmpR op_ne (pe_ix ix_str (pv 0) pe_int (fun _ _ => rfl)) pe_str (nomark _))))))), ?_⟩
    refine ⟨_, rfl, sx l, rfl, by rw [sx_len]; exact line1000 hz, _, 9, rfl, rfl, _, rfl, ?_⟩
    rw [sx_len]
    have e0 : isNumL l = (decide (l.length ≤ 9) && (l.all isDigit && (decide (l = [48]) || !decide (l.head? = some 48)))) := rfl
    by_cases h9 : l.length ≤ 9
    · rw [decide_eq_false (by omega : ¬ (9 : Int) < (l.length : Int))]
      refine iteF ?_
      rw [decide_eq_true h9, Bool.true_and] at e0
      dsimp only [tNot, tB]
      refine rd_all_str (i := 0) (p := isDigit) rfl (hT T hTs) (fun d _ H' Q' q' => ⟨_, rfl, d, rfl, q'⟩) fun H2 k2 => ⟨_, rfl, ?_⟩
      rw [sx_tl]
      cases ea : l.all isDigit with
      | false =>
        rw [ea] at e0
        refine iteT ?_
        have z := q H2 k2
        rw [e0] at z
        exact z
      | true =>
        rw [ea, Bool.true_and] at e0
        refine iteF ⟨_, rfl, rfl, _, rfl, ?_⟩
        have e1 : decide (V.str (sx l) = V.str (Str.ofString "0")) = decide (l = [48]) := by
          rw [Bool.eq_iff_iff, decide_eq_true_eq, decide_eq_true_eq]
          constructor
          · intro z
            exact sx_inj ((V.str.inj z).trans (by decide +kernel : Str.ofString "0" = sx [48]))
          · intro z
            rw [z]
            exact congrArg V.str (by decide +kernel : sx [48] = Str.ofString "0")
        rw [e1]
        have z := q H2 k2
        rw [e0] at z
        cases ez : decide (l = [48]) with
        | true =>
          rw [ez] at z
          exact iteT z
        | false =>
          rw [ez] at z
          obtain ⟨d, r, rfl⟩ : ∃ d r, l = d :: r := by
            cases l with
            | nil => exact absurd rfl hne
            | cons d r => exact ⟨d, r, rfl⟩
          refine iteF ⟨_, rfl, sx (d :: r), 0, d, rfl, rfl, by rw [sx_len]; exact line1000 hz, by rw [sx_tl]; exact atI_nat (j := 0) rfl, rfl, ?_⟩
          have e2 : (!decide (V.str ⟨#[d]⟩ = V.str (Str.ofString "0"))) = !decide ((d :: r).head? = some 48) := by
            congr 1
            rw [Bool.eq_iff_iff, decide_eq_true_eq, decide_eq_true_eq]
            constructor
            · intro z
              have := sx_inj (a := [d]) (b := [48]) ((V.str.inj z).trans (by decide +kernel : Str.ofString "0" = sx [48]))
              simpa using this
            · intro z
              have z : d = 48 := by simpa using z
              rw [z]
              exact congrArg V.str (by decide +kernel : (⟨#[48]⟩ : Str) = Str.ofString "0")
          rw [e2]
          exact z
    · rw [decide_eq_true (by omega : (9 : Int) < (l.length : Int))]
      refine iteT ?_
      have z := q H (Kb.refl H)
      rw [e0, decide_eq_false h9] at z
      exact z
theorem eq_sign (c d : Nat) {x : Str} (hx : x = sx [d]) : decide (V.str ⟨#[c]⟩ = V.str x) = decide (c = d) := by
  subst hx
  rw [Bool.eq_iff_iff, decide_eq_true_eq, decide_eq_true_eq]
  constructor
  · intro z
    have := sx_inj (a := [c]) (b := [d]) (V.str.inj z)
    simpa using this
  · intro z
    rw [z]
    rfl
theorem c_meant {C aE : Addr} (D : DefAt K mg "_meant" s_meant ["piece", "start"]) (BD : Bad P w K mg base C) (EK : EscK K w aE) (g_ESCAPES : mg "ESCAPES" = some (.ref aE)) (gB : ∃ t, mg "BACKSLASH" = some (.str (Str.ofString "\\") t))
    (c_is_character : Cal P w K mg base CX0 1 "is_character" ["char"] (spSign isChar)) : CalX P w K mg base 3 "_meant" ["piece", "start"] (spMeant C) := by
  refine D.calX (k := 2) sc_meant (fun vs H Q E h => ?_) fun f cdv A outer s H vs Q E hr h => ?_
  · obtain ⟨c, n, rfl, _⟩ := h
    rfl
  · obtain ⟨p, n, rfl, hp, h⟩ := h
    obtain ⟨t, g_BACKSLASH⟩ := gB
    obtain ⟨_, _, _, KD, e0, hm⟩ := EK.look p
    refine ⟨_, (pss_cons (ps_if (pt_cmpR (op_in_kd KD) (pv 0) (pe_glob (v := .ref aE) rfl g_ESCAPES rfl) (by rfl)) (pss_one (ps_ret (pe_ix ix_kdict (pe_glob (v := .ref aE) rfl g_ESCAPES rfl) (pv 0) (fun _ _ => rfl)))) pss_nil)
  (pss_cons (ps_if (PW.pt (pw_or (pt_cmpR op_eq (pe_ix ix_str (pv 0) pe_int (fun _ _ => rfl)) (pe_glob (v := .str (Str.ofString "\\")) rfl g_BACKSLASH ⟨_, rfl⟩) (nomark _)) (pw_or1 (pt_not (pt_val (pe_cal (c_is_character.mono (by decide)) hr (by rfl) (pa_cons (pv 0) pa_nil))))))) (pss_one (ps_bad BD rfl (takes_of rfl rfl rfl rfl) hr (by rfl) (pa_cons (pv 1) pa_nil))) pss_nil)
  (pss_one (ps_ret (pv 0))))), ?_⟩
    refine ⟨_, rfl, sx p, _, rfl, rfl, e0, _, rfl, ?_⟩
    have raise : ∀ H' : Hp, H' = H → ErrAt C n H E → tMkO C (spInit K "offset") [] (tCons (tVar 1) tNil) (start ["piece", "start"] [.str (sx p), .int (n : Int)]) H' fun cls d H'' => E cls d H'' := fun H' e h => by
      subst e
      exact rd_raise BD.T BD.no (i := 1) rfl h
    have hB : Str.ofString "\\" = sx [92] := by decide +kernel
    rcases hp with ⟨c, rfl⟩ | ⟨e, rfl⟩
    · rw [if_neg (by simp), if_neg (by simp), if_neg (by simp)] at hm
      subst hm
      refine iteF ⟨_, rfl, sx [c], 0, c, rfl, rfl, by rw [sx_len]; show 1 ≤ sizeLine; decide, by rw [sx_tl]; exact atI_nat (j := 0) rfl, rfl, _, rfl, ?_⟩
      rw [eq_sign c 92 hB]
      by_cases h92 : c = 92
      · subst h92
        exact iteT (iteT (raise _ rfl h))
      · rw [decide_eq_false h92]
        have em : meantL [c] = if isChar c = true then some c else none := if_neg h92
        rw [em] at h
        refine iteF ⟨_, rfl, c, rfl, isChar c, rfl, ?_⟩
        cases ec : isChar c with
        | true =>
          rw [ec] at h
          exact iteF ⟨_, rfl, h⟩
        | false =>
          rw [ec] at h
          exact iteT (raise _ rfl h)
    · have em : (if [92, e] = [92, 34] then some 34 else if [92, e] = [92, 92] then some 92 else if [92, e] = [92, 110] then some 10 else none : Option Nat) = escOf e := by
        unfold escOf
        simp
      rw [em] at hm
      have em2 : meantL [92, e] = escOf e := rfl
      rw [em2] at h
      cases ee : escOf e with
      | none =>
        rw [ee] at hm h
        have hm : _ = none := hm
        subst hm
        refine iteF ⟨_, rfl, sx [92, e], 0, 92, rfl, rfl, by rw [sx_len]; show 2 ≤ sizeLine; decide, by rw [sx_tl]; exact atI_nat (j := 0) rfl, rfl, _, rfl, ?_⟩
        rw [eq_sign 92 92 hB]
        exact iteT (iteT (raise _ rfl h))
      | some m =>
        rw [ee] at hm h
        obtain ⟨u, hm⟩ := hm
        subst hm
        exact iteT ⟨_, rfl, aE, sx [92, e], .str (sx [m]), rfl, rfl, ⟨_, _, _, KD.at_, KD.lit, e0, ⟨u, rfl⟩⟩, h⟩
end
end Rs

namespace Rs
open PySem PySem.Spec PyProof.Rows L2 GxR Gx Gd
abbrev s_read_quoted : Stmt := topS 25
theorem sc_read_quoted : FnScope ["line", "start", "parts", "at", "width"] ["line", "start"] (defScope s_read_quoted) := ⟨rfl, rfl, rfl, by decide +kernel, rfl, by decide +kernel, by decide +kernel⟩
abbrev s_read_run : Stmt := topS 23
theorem sc_read_run : FnScope ["line", "start", "end", "run"] ["line", "start"] (defScope s_read_run) := ⟨rfl, rfl, rfl, by decide +kernel, rfl, by decide +kernel, by decide +kernel⟩
abbrev s_read_sign : Stmt := topS 21
theorem sc_read_sign : FnScope ["line", "start", "char"] ["line", "start"] (defScope s_read_sign) := ⟨rfl, rfl, rfl, by decide +kernel, rfl, by decide +kernel, by decide +kernel⟩
abbrev s_split_line : Stmt := topS 19
theorem sc_split_line : FnScope ["line", "signs", "at", "sign"] ["line"] (defScope s_split_line) := ⟨rfl, rfl, rfl, by decide +kernel, rfl, by decide +kernel, by decide +kernel⟩
/-- a sign and where it ends, or the error -/
def RdS (K : PySem.W.Frag) (C : Addr) (n : Nat) (H : Hp) (Q : VK) (E : XK) : Option (Sg × Nat) → Prop
  | none => ErrAt C n H E
  | some (g, w) => ∀ H' v, Kp H H' → Dt K H' v (.tuple [g.d, .int ((n + w : Nat) : Int)]) → Q v H'
theorem ErrAt.kp {C : Addr} {n : Nat} {H H' : Hp} {E : XK} (h : ErrAt C n H E) (k : Kp H H') : ErrAt C n H' E := fun d H2 k2 e => h d H2 (k.trans k2) e
theorem RdS.kp {K : PySem.W.Frag} {C : Addr} {n : Nat} {H H' : Hp} {Q : VK} {E : XK} : ∀ {o : Option (Sg × Nat)}, RdS K C n H Q E o → Kp H H' → RdS K C n H' Q E o
  | none, h, k => ErrAt.kp h k
  | some (g, w), h, k => fun H2 v k2 hv => h H2 v (k.trans k2) hv
def readQ' : List Nat → Option (Sg × Nat)
  | [] => none
  | _ :: r => (readQ r).map fun p => (.quo p.1, p.2 + 1)
def readR (l : List Nat) : Option (Sg × Nat) := if isNameL (runOf l) = true then some (.name (runOf l), (runOf l).length) else if isNumL (runOf l) = true then some (.num (NumText.digitsVal (runOf l)), (runOf l).length) else none
def spRead (K : PySem.W.Frag) (C : Addr) (ts : List Addr) (pre : List Nat → Prop) (f : List Nat → Option (Sg × Nat)) : Sp := fun vs H Q E => ∃ (l : List Nat) (n : Nat), vs = [.str (sx l), .int (n : Int)] ∧ n < l.length ∧ l.length ≤ 1000 ∧ (∀ T ∈ ts, TabG H T) ∧ pre (l.drop n) ∧ RdS K C n H Q E (f (l.drop n))
theorem drop_cons {l : List Nat} {n : Nat} (h : n < l.length) : ∃ c, l[n]? = some c ∧ l.drop n = c :: l.drop (n + 1) := ⟨l[n], List.getElem?_eq_getElem h, List.drop_eq_getElem_cons h⟩
theorem at_sx {l : List Nat} {n : Nat} {c : Nat} (h : l[n]? = some c) : atI (sx l).cps.toList (n : Int) = some c := by
  rw [sx_tl]
  exact atI_nat h
theorem cut_sx {l : List Nat} {a b : Nat} (h1 : a ≤ b) (h2 : b ≤ l.length) : cutS (sx l) (some (a : Int)) (some (b : Int)) = sx ((l.drop a).take (b - a)) := by
  unfold cutS
  rw [sx_len, HT.sIx_nat, HT.sIx_nat, sx_tl, Nat.min_eq_left (Nat.le_trans h1 h2), Nat.min_eq_left h2]
  rfl
theorem cut_k {l : List Nat} {a k : Nat} (h : a ≤ l.length) : cutS (sx l) (some (a : Int)) (some ((a : Int) + (k : Int))) = sx ((l.drop a).take k) := by
  unfold cutS
  have e : ((a : Int) + (k : Int)) = ((a + k : Nat) : Int) := rfl
  rw [sx_len, e, HT.sIx_nat, HT.sIx_nat, sx_tl, Nat.min_eq_left h]
  unfold sx
  congr 1
  congr 1
  rw [List.take_eq_take_iff, List.length_drop]
  omega
theorem join_sx (cs : List Nat) : Txt.join (Str.ofString "") (cs.map fun c => sx [c]) = sx cs := by
  refine TL.ext_tl ?_
  have e : TL.tl (Str.ofString "") = [] := by decide +kernel
  rw [TL.join_eq, TL.tl_join, e]
  have j : ∀ l : List (List Nat), TL.joinL [] l = l.flatten := by
    intro l
    induction l with
    | nil => rfl
    | cons p l ih =>
      cases l with
      | nil => simp [TL.joinL]
      | cons q r =>
        show p ++ ([] ++ TL.joinL [] (q :: r)) = _
        rw [ih]
        rfl
  rw [j]
  show _ = (sx cs).cps.toList
  rw [sx_tl, List.map_map]
  induction cs with
  | nil => rfl
  | cons c cs ih =>
    rw [List.map_cons, List.flatten_cons, ih]
    rfl
theorem sum_sx (cs : List Nat) : ((cs.map fun c => sx [c]).map (·.length)).sum = cs.length := by
  induction cs with
  | nil => rfl
  | cons c cs ih =>
    rw [List.map_cons, List.map_cons, List.sum_cons, ih, List.length_cons]
    show 1 + _ = _
    omega
theorem sl_ok {n : Nat} (h : n ≤ 1000) : n ≤ sizeLine := line1000 h
/-- the quoted text so far: parts at D, the rest at n -/
def Qs (K : PySem.W.Frag) (H0 : Hp) (D : Addr) (l : List Nat) (s n : Nat) (H : Hp) : Prop := ∃ ps : List Nat, n ≤ l.length ∧ s + 1 ≤ n ∧ ps.length ≤ n ∧ Kp H0 H ∧ H D = some (.lst ((ps.map fun c => sx [c]).map V.str)) ∧ readQ (l.drop (s + 1)) = (readQ (l.drop n)).map fun p => (ps ++ p.1, (n - (s + 1)) + p.2)
theorem Qs.push {K : PySem.W.Frag} {H0 H : Hp} {D : Addr} {l ps : List Nat} {s n w m : Nat} (hD : H0 D = none) (h1 : n + w ≤ l.length) (h2 : s + 1 ≤ n) (h3 : ps.length ≤ n) (hw : 1 ≤ w) (k : Kp H0 H) (e : H D = some (.lst ((ps.map fun c => sx [c]).map V.str)))
    (q : readQ (l.drop (s + 1)) = (readQ (l.drop n)).map fun p => (ps ++ p.1, (n - (s + 1)) + p.2)) (r : readQ (l.drop n) = (readQ (l.drop (n + w))).map fun p => (m :: p.1, p.2 + w)) :
    Qs K H0 D l s (n + w) (upd H D (.lst (((ps.map fun c => sx [c]).map V.str) ++ [.str (sx [m])]))) := by
  refine ⟨ps ++ [m], h1, by omega, by simp; omega, k.mut hD (no_tab e nt_lst), ?_, ?_⟩
  · rw [upd_same, List.map_append, List.map_append]
    rfl
  · rw [q, r]
    cases readQ (l.drop (n + w)) with
    | none => rfl
    | some p =>
      show some (ps ++ (m :: p.1), (n - (s + 1)) + (p.2 + w)) = some ((ps ++ [m]) ++ p.1, (n + w - (s + 1)) + p.2)
      rw [List.append_assoc, show (n - (s + 1)) + (p.2 + w) = (n + w - (s + 1)) + p.2 by omega]
      rfl
theorem readQ_nil : readQ [] = none := rfl
theorem readQ_end (r : List Nat) : readQ (34 :: r) = some ([], 1) := by cases r <;> rfl
theorem readQ_bs (r : List Nat) : readQ (92 :: r) = match r with | [] => none | e :: r' => (match escOf e with | some m => (readQ r').map fun p => (m :: p.1, p.2 + 2) | none => none) := by
  cases r with
  | nil => rfl
  | cons e r' => rfl
theorem readQ_ch {c : Nat} (h1 : c ≠ 34) (h2 : c ≠ 92) (r : List Nat) : readQ (c :: r) = if isChar c = true then (readQ r).map fun p => (c :: p.1, p.2 + 1) else none := by
  cases r with
  | nil =>
    unfold readQ
    rw [if_neg h1]
    split <;> rfl
  | cons e r' =>
    show (if c = 34 then _ else if c = 92 then _ else if isChar c = true then _ else _) = _
    rw [if_neg h1, if_neg h2]
section
variable {P : Program} {w : World} {K : PySem.W.Frag} {mg : Str → Option Value} {base : Heap}
theorem c_read_quoted {C : Addr} (D : DefAt K mg "_read_quoted" s_read_quoted ["line", "start"]) (BD : Bad P w K mg base C) (gQ : ∃ t, mg "QUOTE" = some (.str (Str.ofString "\"") t)) (gB : ∃ t, mg "BACKSLASH" = some (.str (Str.ofString "\\") t)) (m_len : mg "len" = none)
    (c__meant : CalX P w K mg base 3 "_meant" ["piece", "start"] (spMeant C)) : CalX P w K mg base 4 "_read_quoted" ["line", "start"] (spRead K C [] (fun _ => True) readQ') := by
  refine D.calX (k := 3) sc_read_quoted (fun vs H Q E h => ?_) fun f cdv A outer s H vs Q E hr h => ?_
  · obtain ⟨c, n, rfl, _⟩ := h
    rfl
  · obtain ⟨l, n, rfl, hn, hz, _, _, h⟩ := h
    obtain ⟨tq, g_QUOTE⟩ := gQ
    obtain ⟨tb, g_BACKSLASH⟩ := gB
    have hB : Str.ofString "\\" = sx [92] := by decide +kernel
    have hQ : Str.ofString "\"" = sx [34] := by decide +kernel
    have lz : (sx l).length ≤ sizeLine := by rw [sx_len]; exact sl_ok hz
    refine ⟨_, (pss_cons (ps_set (i := 2) sc_read_quoted.nd rfl (Or.inl rfl) (pe_lst pa_nil))
  (pss_cons (ps_set (i := 3) sc_read_quoted.nd rfl (Or.inl rfl) (pe_op op_add (pv 1) pe_int))
  (pss_cons (ps_while (passes_of rfl) (PW.pt (pw_and (pt_cmpR op_lt (pv 3) (pe_callB call_len_str (by rfl) m_len (by decide +kernel) (pa_cons (pv 0) pa_nil)) (nomark _)) (pw_and1 (pt_cmpR op_ne (pe_ix ix_str (pv 0) (pv 3) (fun _ _ => rfl)) (pe_glob (v := .str (Str.ofString "\"")) rfl g_QUOTE ⟨_, rfl⟩) (nomark _))))) (pss_cons (ps_set (i := 4) sc_read_quoted.nd rfl (Or.inl rfl) (pe_ifExp (pt_cmpR op_eq (pe_ix ix_str (pv 0) (pv 3) (fun _ _ => rfl)) (pe_glob (v := .str (Str.ofString "\\")) rfl g_BACKSLASH ⟨_, rfl⟩) (nomark _)) pe_int pe_int))
  (pss_cons (ps_expr (pe_bm PySem.F.plainAttrs_list PySem.F.slot_list_append PySem.F.type_list_append mt_append (pv 2) (pa_cons (pe_calX (c__meant.mono (by decide)) hr (by rfl) (fun σ => passAt (takes_of rfl rfl rfl rfl) σ) (pa_cons (pe_slice sl_str (pv 0) (po_some (pv 3)) (po_some (pe_op op_add (pv 3) (pv 4)))) (pa_cons (pv 1) pa_nil))) pa_nil)))
  (pss_one (ps_aug (i := 3) sc_read_quoted.nd rfl (Or.inl rfl) (pv 4) ip_add)))))
  (pss_cons (ps_if (pt_cmpR op_eq (pv 3) (pe_callB call_len_str (by rfl) m_len (by decide +kernel) (pa_cons (pv 0) pa_nil)) (nomark _)) (pss_one (ps_bad BD rfl (takes_of rfl rfl rfl rfl) hr (by rfl) (pa_cons (pv 1) pa_nil))) pss_nil)
  (pss_one (ps_ret (pe_tup (pa_cons (pe_tup (pa_cons pe_str (pa_cons (pe_join pe_str (pv 2)) pa_nil))) (pa_cons (pe_op op_add (pv 3) pe_int) pa_nil))))))))), ?_⟩
    refine ⟨Nat.zero_le _, fun D hD => ⟨_, rfl, _, _, rfl, rfl, ?_⟩⟩
    obtain ⟨c0, e0, e1⟩ := drop_cons hn
    have eR : readQ' (l.drop n) = (readQ (l.drop (n + 1))).map fun p => (.quo p.1, p.2 + 1) := by rw [e1]; rfl
    rw [eR] at h
    refine ⟨fun m σ H' => ∃ a : Nat, m = l.length - a ∧ (∃ o4, σ = [some (.str (sx l)), some (.int (n : Int)), some (.ref D), some (.int (a : Int)), o4]) ∧ Qs K H D l n a H', ⟨_, n + 1, rfl, ⟨none, rfl⟩, [], by omega, by omega, by simp, Kb.new hD, upd_same, ?_⟩, ?_⟩
    · cases readQ (l.drop (n + 1)) with
      | none => rfl
      | some p => simp
    rintro m σ H1 ⟨a, rfl, ⟨o4, rfl⟩, hq⟩
    obtain ⟨ps, q1, q2, q3, k, eD, qr⟩ := id hq
    have lps : ((ps.map fun c => sx [c]).map V.str).length < sizeLine := by
      rw [List.length_map, List.length_map]
      have : sizeLine = 16777216 := rfl
      omega
    refine ⟨_, rfl, _, rfl, sx l, rfl, lz, _, _, rfl, rfl, _, rfl, ?_⟩
    rw [sx_len]
    by_cases ha : a < l.length
    · rw [decide_eq_true (by omega : (a : Int) < (l.length : Int))]
      obtain ⟨c, hc, ed⟩ := drop_cons ha
      refine iteT ⟨_, rfl, _, rfl, sx l, _, c, rfl, rfl, lz, at_sx hc, rfl, _, rfl, ?_⟩
      rw [eq_sign c 34 hQ]
      by_cases c34 : c = 34
      · subst c34
        refine iteF ⟨_, rfl, _, rfl, sx l, rfl, lz, rfl, _, rfl, ?_⟩
        rw [sx_len, decide_eq_false (fun z => by have := V.int.inj z; omega)]
        refine iteF ?_
        rw [ed, readQ_end] at qr
        rw [qr] at h
        refine ⟨⟨_, rfl⟩, _, rfl, _, D, ps.map fun c => sx [c], rfl, rfl, .inl (.inl (.inl eD)), ?_, ?_⟩
        · rw [sum_sx]
          show ps.length + _ * 0 ≤ _
          omega
        rw [join_sx]
        refine ⟨by show 2 ≤ sizeLine; decide, fun p hp => ⟨_, rfl, _, _, rfl, rfl, by show 2 ≤ sizeLine; decide, fun p2 hp2 => ?_⟩⟩
        have k1 : Kp H1 (upd H1 p (.tup [.str (Str.ofString "quoted"), .str (sx ps)])) := Kb.new hp
        have d1 : Dt K (upd H1 p (.tup [.str (Str.ofString "quoted"), .str (sx ps)])) (.ref p) (Sg.quo ps).d := .tup (SqT.of upd_same) (.cons (.str _) (.cons (.str _) .nil))
        generalize upd H1 p (.tup [.str (Str.ofString "quoted"), .str (sx ps)]) = H2 at k1 d1 hp2 ⊢
        have k2 : Kp H2 (upd H2 p2 (.tup [.ref p, .int ((a : Int) + 1)])) := Kb.new hp2
        refine h _ _ ((k.trans k1).trans k2) ?_
        have e1 : (n + ((a - (n + 1)) + 1 + 1) : Nat) = a + 1 := by omega
        have e2 : ps ++ [] = ps := List.append_nil ps
        show Dt K _ _ (.tuple [(Sg.quo (ps ++ [])).d, .int (((n + ((a - (n + 1)) + 1 + 1) : Nat)) : Int)])
        rw [e1, e2]
        exact .tup (SqT.of upd_same) (.cons (d1.kb k2 Lsts.nil) (.cons (.int _) .nil))
      · rw [decide_eq_false c34]
        refine iteT ⟨fun σ' H' => ∃ a' : Nat, a < a' ∧ (∃ o4, σ' = [some (.str (sx l)), some (.int (n : Int)), some (.ref D), some (.int (a' : Int)), o4]) ∧ Qs K H D l n a' H', fun σ' H' ⟨a', h1, h2, h3⟩ => ⟨_, by omega, a', rfl, h2, h3⟩, ?_⟩
        have err : readQ (l.drop a) = none → ErrAt C n H1 E := fun z => by
          rw [qr, z] at h
          exact ErrAt.kp h k
        refine ⟨_, rfl, _, rfl, sx l, _, c, rfl, rfl, lz, at_sx hc, rfl, _, rfl, ?_⟩
        rw [eq_sign c 92 hB]
        by_cases c92 : c = 92
        · subst c92
          refine iteT ⟨.ref D, rfl, .inl ⟨rfl, _, .inl (.inl eD)⟩, _, rfl, _, rfl, _, rfl, _, rfl, _, rfl, _, _, rfl, rfl, _, rfl, sx l, rfl, lz, _, rfl, (l.drop a).take 2, n, ?_, ?_, ?_⟩
          · show [V.str (cutS (sx l) (some (a : Int)) (some ((a : Int) + ((2 : Nat) : Int)))), _] = _
            rw [cut_k q1]
          · rw [ed]
            cases l.drop (a + 1) with
            | nil => exact .inl ⟨92, rfl⟩
            | cons e r => exact .inr ⟨e, rfl⟩
          · have eQ : readQ (l.drop a) = _ := (congrArg readQ ed).trans (readQ_bs _)
            rw [ed]
            cases er : l.drop (a + 1) with
            | nil =>
              rw [er] at eQ
              exact err eQ
            | cons e r =>
              rw [er] at eQ
              have eQ : readQ (l.drop a) = match escOf e with | some m => (readQ r).map fun p => (m :: p.1, p.2 + 2) | none => none := eQ
              show (match escOf e with | some m => _ | none => _)
              cases ee : escOf e with
              | none =>
                rw [ee] at eQ
                exact err eQ
              | some m =>
                rw [ee] at eQ
                have e2 : l.drop (a + 2) = r := by
                  have := congrArg (List.drop 1) er
                  rw [List.drop_drop] at this
                  exact this
                have hl2 : a + 2 ≤ l.length := by
                  have := congrArg List.length er
                  rw [List.length_drop, List.length_cons] at this
                  omega
                refine ⟨D, _, .str (sx [m]), rfl, rfl, eD, lps, _, rfl, _, rfl, _, _, rfl, rfl, a + 2, by omega, ⟨_, rfl⟩, ?_⟩
                exact Qs.push hD hl2 q2 q3 (by decide) k eD qr (by rw [e2]; exact eQ)
        · rw [decide_eq_false c92]
          refine iteF ⟨.ref D, rfl, .inl ⟨rfl, _, .inl (.inl eD)⟩, _, rfl, _, rfl, _, rfl, _, rfl, _, rfl, _, _, rfl, rfl, _, rfl, sx l, rfl, lz, _, rfl, [c], n, ?_, .inl ⟨c, rfl⟩, ?_⟩
          · show [V.str (cutS (sx l) (some (a : Int)) (some ((a : Int) + ((1 : Nat) : Int)))), _] = _
            rw [cut_k q1, ed]
            rfl
          · have eQ : readQ (l.drop a) = _ := (congrArg readQ ed).trans (readQ_ch c34 c92 _)
            have em : meantL [c] = if isChar c = true then some c else none := if_neg c92
            rw [em]
            cases ec : isChar c with
            | false =>
              rw [ec] at eQ
              exact err eQ
            | true =>
              rw [ec] at eQ
              refine ⟨D, _, .str (sx [c]), rfl, rfl, eD, lps, _, rfl, _, rfl, _, _, rfl, rfl, a + 1, by omega, ⟨_, rfl⟩, ?_⟩
              exact Qs.push hD (by omega) q2 q3 (by decide) k eD qr eQ
    · have ea : a = l.length := by omega
      rw [decide_eq_false (by omega : ¬ (a : Int) < (l.length : Int))]
      refine iteF ⟨_, rfl, _, rfl, sx l, rfl, lz, rfl, _, rfl, ?_⟩
      rw [sx_len, ea, decide_eq_true rfl]
      rw [ea, List.drop_length, readQ_nil] at qr
      rw [qr] at h
      exact iteT (rd_raise BD.T BD.no (i := 1) rfl (ErrAt.kp h k))
end
end Rs

namespace Rs
open PySem PySem.Spec PyProof.Rows L2 GxR Gx Gd
theorem run_cut {L : List Nat} {k : Nat} (h : (L.take k).all isRun = true) (ht : Hd (L.drop k)) : runOf L = L.take k := by
  have := run_app h ht
  rw [List.take_append_drop] at this
  exact this
theorem run_ok {l : List Nat} (h : l.all isRun = true) (hz : l.length ≤ 1000) : OkD (.str (sx l)) := by
  refine ⟨1, by decide, ?_⟩
  have e : (decide ((sx l).length ≤ 1000) && PyData.strOk (sx l)) = true := by
    rw [sx_len, decide_eq_true hz, Bool.true_and]
    show (sx l).cps.all _ = true
    rw [← Array.all_toList, sx_tl, List.all_eq_true]
    intro c hc
    have h1 := List.all_eq_true.mp h c hc
    unfold isRun isSmall isDigit at h1
    rw [Bool.or_eq_true, Bool.or_eq_true, rg, rg, rg] at h1
    rw [decide_eq_true_eq]
    omega
  exact e
theorem num_val {l : List Nat} (h : isNumL l = true) (hne : l ≠ []) : intText? (sx l) = some ((NumText.digitsVal l : Nat) : Int) ∧ (sx l).length ≤ 640 := by
  unfold isNumL at h
  rw [Bool.and_eq_true, decide_eq_true_eq, Bool.and_eq_true] at h
  have hd : NumText.AllDigits l := fun c hc => rg.mp (List.all_eq_true.mp h.2.1 c hc)
  refine ⟨?_, by rw [sx_len]; omega⟩
  have := PySem.intText_digits (x := sx l) (by rw [sx_tl]; exact hd) (by rw [sx_tl]; exact hne) (by rw [sx_len]; omega)
  rw [sx_tl] at this
  exact this
def marksV : List V := [.str (Str.ofString "("), .str (Str.ofString ")"), .str (Str.ofString ","), .str (Str.ofString "=")]
theorem in_marks (c : Nat) : inV (.str ⟨#[c]⟩) marksV = isMark c := by
  have e : ∀ (d : Nat) (x : Str), x = sx [d] → eqV (.str x) (.str ⟨#[c]⟩) = decide (c = d) := fun d x hx => by
    subst hx
    show (sx [d] == sx [c]) = _
    rw [sx_beq, Bool.eq_iff_iff, decide_eq_true_eq, decide_eq_true_eq]
    simp [eq_comm]
  show (eqV _ _ || (eqV _ _ || (eqV _ _ || (eqV _ _ || false)))) = _
  rw [e 40 _ (by decide +kernel), e 41 _ (by decide +kernel), e 44 _ (by decide +kernel), e 61 _ (by decide +kernel), Bool.or_false]
  rfl
/-- a pair that is made -/
theorem mk_pair {K : PySem.W.Frag} {H : Hp} {Q : VK} {v : V} {x : Str} {z : Int} {d : PyData} (hd : Dt K H v d) (q : ∀ H' u, Kp H H' → Dt K H' u (.tuple [.tuple [.str x, d], .int z]) → Q u H') :
    2 ≤ sizeLine ∧ ∀ p, H p = none → ∀ p2, upd H p (.tup [.str x, v]) p2 = none → Q (.ref p2) (upd (upd H p (.tup [.str x, v])) p2 (.tup [.ref p, .int z])) := by
  refine ⟨by decide, fun p hp p2 hp2 => ?_⟩
  have k1 : Kp H (upd H p (.tup [.str x, v])) := Kb.new hp
  have d1 : Dt K (upd H p (.tup [.str x, v])) (.ref p) (.tuple [.str x, d]) := .tup (SqT.of upd_same) (.cons (.str _) (.cons (hd.kb k1 Lsts.nil) .nil))
  generalize upd H p (.tup [.str x, v]) = H2 at k1 d1 hp2 ⊢
  have k2 : Kp H2 (upd H2 p2 (.tup [.ref p, .int z])) := Kb.new hp2
  exact q _ _ (k1.trans k2) (.tup (SqT.of upd_same) (.cons (d1.kb k2 Lsts.nil) (.cons (.int _) .nil)))
theorem mk_made {K : PySem.W.Frag} {H : Hp} {Q : VK} {v : V} {x : Str} {d : PyData} {σ : L2.St} {t : TA} {z : Int} (hd : Dt K H v d) (q : ∀ H' u, Kp H H' → Dt K H' u (.tuple [.tuple [.str x, d], .int z]) → Q u H') (ht : ∀ (H' : Hp) (R : List V → Hp → Prop) (_ : R [.int z] H'), t σ H' R := by intro _ _ h; exact ⟨_, rfl, _, _, rfl, rfl, h⟩)
    {te : TE} (he : ∀ (H' : Hp) (R : VK), R v H' → te σ H' R := by intro _ _ h; exact ⟨_, rfl, h⟩) : tTup (tCons (tTup (tCons (tC (.str x)) (tCons te tNil))) t) σ H Q := by
  obtain ⟨z1, z2⟩ := mk_pair hd q
  exact he H _ ⟨z1, fun p hp => ht _ _ ⟨z1, z2 p hp⟩⟩
def tRunEnd (K : PySem.W.Frag) (C : Addr) (ts : List Addr) (E : XK) : TS :=
  tSeq (tAsg (tSl rSlS (tVar 0) (tPart (tVar 1)) (tPart (tVar 2))) (gName 3))
    (tSeq (tIfS (tB (tCall (spData K ts isName) [] E0 (tCons (tVar 3) tNil))) (tRet (tTup (tCons (tTup (tCons (tC (.str (Str.ofString "name"))) (tCons (tVar 3) tNil))) (tCons (tVar 2) tNil)))) tNext)
      (tSeq (tIfS (tB (tCall (spNum ts) [] E0 (tCons (tVar 3) tNil))) (tRet (tTup (tCons (tTup (tCons (tC (.str (Str.ofString "number"))) (tCons (tCB (fun xs H Q => ∃ a n, xs = [.str a] ∧ intText? a = some n ∧ a.length ≤ 640 ∧ Q (.int n) H) (tCons (tVar 3) tNil)) tNil))) (tCons (tVar 2) tNil)))) tNext)
        fun _ σ H => tMkO C (spInit K (Str.ofString "offset")) [] (tCons (tVar 1) tNil) σ H fun cls d H' => E cls d H'))
theorem run_end {K : PySem.W.Frag} {C : Addr} {ts : List Addr} {E : XK} {D : Ends} {H : Hp} {l : List Nat} {n a : Nat} {o3 : Option V} (T : OexC K C) (no : PySem.W.findIn K (.ref C) "offset" = some none) (hz : l.length ≤ 1000) (hT : ∀ T ∈ ts, TabG H T) (h1 : n ≤ a) (h2 : a ≤ l.length)
    (rne : runOf (l.drop n) ≠ []) (e : (l.drop n).take (a - n) = runOf (l.drop n)) (el : (runOf (l.drop n)).length = a - n) (hr : (runOf (l.drop n)).all isRun = true) (h : RdS K C n H D.rt E (readR (l.drop n))) :
    tRunEnd K C ts E D [some (.str (sx l)), some (.int (n : Int)), some (.int (a : Int)), o3] H := by
  have lz : (sx l).length ≤ sizeLine := by rw [sx_len]; exact sl_ok hz
  refine ⟨_, rfl, _, rfl, _, rfl, _, rfl, _, rfl, sx l, rfl, lz, ?_⟩
  rw [cut_sx h1 h2, e]
  unfold readR at h
  have rz : (runOf (l.drop n)).length ≤ 1000 := by omega
  have ew : n + (runOf (l.drop n)).length = a := by omega
  rw [ew.symm] at *
  generalize runOf (l.drop n) = R at h hr rne rz
  refine ⟨_, rfl, .str (sx R), .str (sx R), rfl, .str _, run_ok hr rz, hT, fun H2 k2 => ⟨isNameL R, ?_, ?_⟩⟩
  · show V.bl (isNameL (sx R).cps.toList) = _
    rw [sx_tl]
  cases en : isNameL R with
  | true =>
    rw [en] at h
    obtain ⟨z1, z2⟩ := mk_pair (Q := D.rt) (x := Str.ofString "name") (z := ((n + R.length : Nat) : Int)) (.str (sx R)) fun H' u k hu => h H' u (k2.trans k) hu
    exact iteT ⟨_, rfl, z1, fun p hp => ⟨_, rfl, z1, z2 p hp⟩⟩
  | false =>
    rw [en] at h
    refine iteF ⟨_, rfl, R, rfl, rne, rz, fun T hm => k2.tab T (hT T hm), fun H3 k3 => ⟨isNumL R, rfl, ?_⟩⟩
    cases eu : isNumL R with
    | true =>
      rw [eu] at h
      obtain ⟨v1, v2⟩ := num_val eu rne
      obtain ⟨z1, z2⟩ := mk_pair (Q := D.rt) (x := Str.ofString "number") (z := ((n + R.length : Nat) : Int)) (.int ((NumText.digitsVal R : Nat) : Int)) fun H' u k hu => h H' u ((k2.trans k3).trans k) hu
      exact iteT ⟨_, rfl, _, _, rfl, v1, v2, z1, fun p hp => ⟨_, rfl, z1, z2 p hp⟩⟩
    | false =>
      rw [eu] at h
      exact iteF (rd_raise T no (i := 1) rfl (ErrAt.kp h (k2.trans k3)))
section
variable {P : Program} {w : World} {K : PySem.W.Frag} {mg : Str → Option Value} {base : Heap}
theorem c_read_run {C : Addr} {ts : List Addr} (D : DefAt K mg "_read_run" s_read_run ["line", "start"]) (BD : Bad P w K mg base C) (m_len : mg "len" = none) (m_int : mg "int" = none)
    (c__is_of_run : Cal P w K mg base CX0 2 "_is_of_run" ["char"] (spSign isRun)) (c_is_name : Cal P w K mg base CX0 3 "is_name" ["thing"] (spData K ts isName)) (c__is_number : Cal P w K mg base CX0 3 "_is_number" ["run"] (spNum ts)) :
    CalX P w K mg base 4 "_read_run" ["line", "start"] (spRead K C ts (fun l => ∃ c r, l = c :: r ∧ isRun c = true) readR) := by
  refine D.calX (k := 3) sc_read_run (fun vs H Q E h => ?_) fun f cdv A outer s H vs Q E hr h => ?_
  · obtain ⟨c, n, rfl, _⟩ := h
    rfl
  · obtain ⟨l, n, rfl, hn, hz, hT, ⟨c0, r0, e0, hc0⟩, h⟩ := h
    have lz : (sx l).length ≤ sizeLine := by rw [sx_len]; exact sl_ok hz
    refine ⟨_, (pss_cons (ps_set (i := 2) sc_read_run.nd rfl (Or.inl rfl) (pv 1))
  (pss_cons (ps_while (passes_of rfl) (PW.pt (pw_and (pt_cmpR op_lt (pv 2) (pe_callB call_len_str (by rfl) m_len (by decide +kernel) (pa_cons (pv 0) pa_nil)) (nomark _)) (pw_and1 (pt_val (pe_cal (c__is_of_run.mono (by decide)) hr (by rfl) (pa_cons (pe_ix ix_str (pv 0) (pv 2) (fun _ _ => rfl)) pa_nil)))))) (pss_one (ps_aug (i := 2) sc_read_run.nd rfl (Or.inl rfl) pe_int ip_add)))
  (pss_cons (ps_set (i := 3) sc_read_run.nd rfl (Or.inl rfl) (pe_slice sl_str (pv 0) (po_some (pv 1)) (po_some (pv 2))))
  (pss_cons (ps_if (pt_val (pe_cal (c_is_name.mono (by decide)) hr (by rfl) (pa_cons (pv 3) pa_nil))) (pss_one (ps_ret (pe_tup (pa_cons (pe_tup (pa_cons pe_str (pa_cons (pv 3) pa_nil))) (pa_cons (pv 2) pa_nil))))) pss_nil)
  (pss_cons (ps_if (pt_val (pe_cal (c__is_number.mono (by decide)) hr (by rfl) (pa_cons (pv 3) pa_nil))) (pss_one (ps_ret (pe_tup (pa_cons (pe_tup (pa_cons pe_str (pa_cons (pe_callTy call_int_str (by rfl) m_int (by decide +kernel) (pa_cons (pv 3) pa_nil)) pa_nil))) (pa_cons (pv 2) pa_nil))))) pss_nil)
  (pss_one (ps_bad BD rfl (takes_of rfl rfl rfl rfl) hr (by rfl) (pa_cons (pv 1) pa_nil)))))))), ?_⟩
    refine ⟨_, rfl, fun m σ H' => ∃ a : Nat, m = l.length - a ∧ (∃ o3, σ = [some (.str (sx l)), some (.int (n : Int)), some (.int (a : Int)), o3]) ∧ n ≤ a ∧ a ≤ l.length ∧ ((l.drop n).take (a - n)).all isRun = true ∧ H' = H, ⟨_, n, rfl, ⟨none, rfl⟩, Nat.le_refl _, by omega, by simp, rfl⟩, ?_⟩
    rintro m σ H1 ⟨a, rfl, ⟨o3, rfl⟩, h1, h2, h3, rfl⟩
    refine ⟨_, rfl, _, rfl, sx l, rfl, lz, _, _, rfl, rfl, _, rfl, ?_⟩
    rw [sx_len]
    -- behind the loop
    have fin : Hd (l.drop a) → (l.drop n).take (a - n) = runOf (l.drop n) ∧ (runOf (l.drop n)).length = a - n := fun hh => by
      have e : (l.drop n).drop (a - n) = l.drop a := by rw [List.drop_drop]; congr 1; omega
      have := run_cut h3 (by rw [e]; exact hh)
      refine ⟨this.symm, ?_⟩
      rw [this, List.length_take, List.length_drop]
      omega
    have rne : runOf (l.drop n) ≠ [] := by
      rw [e0, runOf_cons hc0]
      simp
    have rall : Hd (l.drop a) → (runOf (l.drop n)).all isRun = true := fun hh => by
      rw [← (fin hh).1]
      exact h3
    by_cases ha : a < l.length
    · rw [decide_eq_true (by omega : (a : Int) < (l.length : Int))]
      obtain ⟨c, hc, ed⟩ := drop_cons ha
      refine iteT ⟨_, rfl, _, rfl, sx l, _, c, rfl, rfl, lz, at_sx hc, c, rfl, isRun c, rfl, ?_⟩
      cases ec : isRun c with
      | true =>
        refine iteT ⟨fun σ' H' => (∃ o3, σ' = [some (.str (sx l)), some (.int (n : Int)), some (.int ((a + 1 : Nat) : Int)), o3]) ∧ H' = H1, fun σ' H' ⟨e1, e2⟩ => ⟨_, by omega, a + 1, rfl, e1, by omega, by omega, ?_, e2⟩, _, rfl, _, _, rfl, rfl, ⟨_, rfl⟩, rfl⟩
        have e : a + 1 - n = (a - n) + 1 := by omega
        have e2 : (l.drop n)[a - n]? = some c := by
          rw [List.getElem?_drop, show n + (a - n) = a by omega]
          exact hc
        rw [e, List.take_add_one, e2, List.all_append, h3]
        show (_ && (isRun c && true)) = true
        rw [ec]
        rfl
      | false =>
        have hh : Hd (l.drop a) := .inr ⟨c, _, ed, ec⟩
        exact iteF (run_end BD.T BD.no hz hT h1 h2 rne (fin hh).1 (fin hh).2 (rall hh) h)
    · have ea : a = l.length := by omega
      rw [decide_eq_false (by omega : ¬ (a : Int) < (l.length : Int))]
      have hh : Hd (l.drop a) := .inl (by rw [ea, List.drop_length])
      exact iteF (run_end BD.T BD.no hz hT h1 h2 rne (fin hh).1 (fin hh).2 (rall hh) h)
theorem c_read_sign {C aM : Addr} {ts : List Addr} (D : DefAt K mg "_read_sign" s_read_sign ["line", "start"]) (BD : Bad P w K mg base C) (gQ : ∃ t, mg "QUOTE" = some (.str (Str.ofString "\"") t)) (g_MARKS : mg "MARKS" = some (.ref aM)) (hM : ∀ H, SqT K H aM marksV)
    (c__is_of_run : Cal P w K mg base CX0 2 "_is_of_run" ["char"] (spSign isRun)) (c__read_quoted : CalX P w K mg base 4 "_read_quoted" ["line", "start"] (spRead K C [] (fun _ => True) readQ'))
    (c__read_run : CalX P w K mg base 4 "_read_run" ["line", "start"] (spRead K C ts (fun l => ∃ c r, l = c :: r ∧ isRun c = true) readR)) : CalX P w K mg base 5 "_read_sign" ["line", "start"] (spRead K C ts (fun _ => True) readS) := by
  refine D.calX (k := 4) sc_read_sign (fun vs H Q E h => ?_) fun f cdv A outer s H vs Q E hr h => ?_
  · obtain ⟨c, n, rfl, _⟩ := h
    rfl
  · obtain ⟨l, n, rfl, hn, hz, hT, _, h⟩ := h
    obtain ⟨tq, g_QUOTE⟩ := gQ
    have lz : (sx l).length ≤ sizeLine := by rw [sx_len]; exact sl_ok hz
    obtain ⟨c, hc, ed⟩ := drop_cons hn
    have hQ : Str.ofString "\"" = sx [34] := by decide +kernel
    rw [ed, readS_cons] at h
    refine ⟨_, (pss_cons (ps_set (i := 2) sc_read_sign.nd rfl (Or.inl rfl) (pe_ix ix_str (pv 0) (pv 1) (fun _ _ => rfl)))
  (pss_cons (ps_if (pt_cmpR op_in_seq (pv 2) (pe_glob (v := .ref aM) rfl g_MARKS rfl) (by rfl)) (pss_one (ps_ret (pe_tup (pa_cons (pe_tup (pa_cons pe_str (pa_cons (pv 2) pa_nil))) (pa_cons (pe_op op_add (pv 1) pe_int) pa_nil))))) pss_nil)
  (pss_cons (ps_if (pt_cmpR op_eq (pv 2) (pe_glob (v := .str (Str.ofString "\"")) rfl g_QUOTE ⟨_, rfl⟩) (nomark _)) (pss_one (ps_ret (pe_calX (c__read_quoted.mono (by decide)) hr (by rfl) (fun σ => passAt (takes_of rfl rfl rfl rfl) σ) (pa_cons (pv 0) (pa_cons (pv 1) pa_nil))))) pss_nil)
  (pss_cons (ps_if (pt_val (pe_cal (c__is_of_run.mono (by decide)) hr (by rfl) (pa_cons (pv 2) pa_nil))) (pss_one (ps_ret (pe_calX (c__read_run.mono (by decide)) hr (by rfl) (fun σ => passAt (takes_of rfl rfl rfl rfl) σ) (pa_cons (pv 0) (pa_cons (pv 1) pa_nil))))) pss_nil)
  (pss_one (ps_bad BD rfl (takes_of rfl rfl rfl rfl) hr (by rfl) (pa_cons (pv 1) pa_nil))))))), ?_⟩
    refine ⟨_, rfl, _, rfl, sx l, _, c, rfl, rfl, lz, at_sx hc, ?_⟩
    refine ⟨_, rfl, aM, marksV, rfl, .inr (hM H), rfl, rfl, isMark c, congrArg V.bl (in_marks c), ?_⟩
    cases em : isMark c with
    | true =>
      rw [em] at h
      exact iteT (mk_made (x := Str.ofString "mark") (.str (sx [c])) fun H' u k hu => h H' u k hu)
    | false =>
      rw [em] at h
      refine iteF ⟨_, rfl, rfl, _, rfl, ?_⟩
      rw [eq_sign c 34 hQ]
      by_cases c34 : c = 34
      · have h : RdS K C n H Q E ((readQ (l.drop (n + 1))).map fun p => (.quo p.1, p.2 + 1)) := by
          have h := h
          rw [if_neg Bool.false_ne_true, if_pos c34] at h
          exact h
        rw [decide_eq_true c34]
        refine iteT ⟨_, rfl, _, rfl, l, n, rfl, hn, hz, (fun _ h => by cases h), trivial, ?_⟩
        rw [ed]
        exact h
      · have h : RdS K C n H Q E (if isRun c = true then readR (c :: l.drop (n + 1)) else none) := by
          have h := h
          rw [if_neg Bool.false_ne_true, if_neg c34] at h
          exact h
        rw [decide_eq_false c34]
        refine iteF ⟨_, rfl, c, rfl, isRun c, rfl, ?_⟩
        cases ec : isRun c with
        | true =>
          rw [ec] at h
          refine iteT ⟨_, rfl, _, rfl, l, n, rfl, hn, hz, hT, ⟨c, _, ed, ec⟩, ?_⟩
          rw [ed]
          exact h
        | false =>
          rw [ec] at h
          exact iteF (rd_raise BD.T BD.no (i := 1) rfl h)
end
end Rs

namespace Rs
open PySem PySem.Spec PyProof.Rows L2 GxR Gx Gd
theorem DtAll.snoc {K : PySem.W.Frag} {H : Hp} {v : V} {d : PyData} : ∀ {vs : List V} {ds : List PyData}, DtAll K H vs ds → Dt K H v d → DtAll K H (vs ++ [v]) (ds ++ [d])
  | _, _, .nil, h => .cons h .nil
  | _, _, .cons h hs, h2 => .cons h (DtAll.snoc hs h2)
theorem Out.shift0 (o : Out) : o = o.shift 0 [] := by cases o <;> simp [Out.shift]
/-- the list of the signs at D, or the error -/
def RdL (K : PySem.W.Frag) (C : Addr) (H : Hp) (Q : VK) (E : XK) : Out → Prop
  | .bad n => ErrAt C n H E
  | .ok ss => ∀ H' D vs, H D = none → Kp H H' → H' D = some (.lst vs) → DtAll K H' vs (ss.map Sg.d) → Q (.ref D) H'
def spSplit (K : PySem.W.Frag) (C : Addr) (ts : List Addr) : Sp := fun vs H Q E => ∃ l : List Nat, vs = [.str (sx l)] ∧ l.length ≤ 1000 ∧ (∀ T ∈ ts, TabG H T) ∧ RdL K C H Q E (splitR l)
section
variable {P : Program} {w : World} {K : PySem.W.Frag} {mg : Str → Option Value} {base : Heap}
theorem c_split_line {C : Addr} {ts : List Addr} (D : DefAt K mg "split_line" s_split_line ["line"]) (m_len : mg "len" = none)
    (c__read_sign : CalX P w K mg base 5 "_read_sign" ["line", "start"] (spRead K C ts (fun _ => True) readS)) : CalX P w K mg base 6 "split_line" ["line"] (spSplit K C ts) := by
  refine D.calX (k := 5) sc_split_line (fun vs H Q E h => ?_) fun f cdv A outer s H vs Q E hr h => ?_
  · obtain ⟨l, rfl, _⟩ := h
    rfl
  · obtain ⟨l, rfl, hz, hT, h⟩ := h
    have lz : (sx l).length ≤ sizeLine := by rw [sx_len]; exact sl_ok hz
    have h32 : Str.ofString " " = sx [32] := by decide +kernel
    refine ⟨_, (pss_cons (ps_set (i := 1) sc_split_line.nd rfl (Or.inl rfl) (pe_lst pa_nil))
  (pss_cons (ps_set (i := 2) sc_split_line.nd rfl (Or.inl rfl) pe_int)
  (pss_cons (ps_while (passes_of rfl) (pt_cmpR op_lt (pv 2) (pe_callB call_len_str (by rfl) m_len (by decide +kernel) (pa_cons (pv 0) pa_nil)) (nomark _)) (pss_one (ps_if (pt_cmpR op_eq (pe_ix ix_str (pv 0) (pv 2) (fun _ _ => rfl)) pe_str (nomark _)) (pss_one (ps_aug (i := 2) sc_split_line.nd rfl (Or.inl rfl) pe_int ip_add)) (pss_cons (ps_asg (pe_calX (c__read_sign.mono (by decide)) hr (by rfl) (fun σ => passAt (takes_of rfl rfl rfl rfl) σ) (pa_cons (pv 0) (pa_cons (pv 2) pa_nil))) (pg_tup rfl (pgs_cons (pg_name (i := 3) sc_split_line.nd rfl (Or.inl rfl)) (pgs_cons (pg_name (i := 2) sc_split_line.nd rfl (Or.inl rfl)) pgs_nil))))
  (pss_one (ps_expr (pe_bm PySem.F.plainAttrs_list PySem.F.slot_list_append PySem.F.type_list_append mt_append (pv 1) (pa_cons (pv 3) pa_nil))))))))
  (pss_one (ps_ret (pv 1)))))), ?_⟩
    refine ⟨Nat.zero_le _, fun D hD => ?_⟩
    refine ⟨fun m σ H' => ∃ a : Nat, m = l.length - a ∧ (∃ o3, σ = [some (.str (sx l)), some (.ref D), some (.int (a : Int)), o3]) ∧ a ≤ l.length ∧ ∃ (ss : List Sg) (vs : List V), ss.length ≤ a ∧ H' D = some (.lst vs) ∧ DtAll K H' vs (ss.map Sg.d) ∧ Kp H H' ∧ splitR l = (splitR (l.drop a)).shift a ss,
      ⟨_, 0, rfl, ⟨none, rfl⟩, Nat.zero_le _, [], [], Nat.le_refl _, upd_same, .nil, Kb.new hD, Out.shift0 _⟩, ?_⟩
    rintro m σ H1 ⟨a, rfl, ⟨o3, rfl⟩, h1, ss, vs, hs, eD, ds, k, e⟩
    refine ⟨_, rfl, _, rfl, sx l, rfl, lz, _, _, rfl, rfl, _, rfl, ?_⟩
    rw [sx_len]
    by_cases ha : a < l.length
    · rw [decide_eq_true (by omega : (a : Int) < (l.length : Int))]
      obtain ⟨c, hc, ed⟩ := drop_cons ha
      refine iteT ⟨fun σ' H' => ∃ a' : Nat, a < a' ∧ (∃ o3, σ' = [some (.str (sx l)), some (.ref D), some (.int (a' : Int)), o3]) ∧ a' ≤ l.length ∧ ∃ (ss : List Sg) (vs : List V), ss.length ≤ a' ∧ H' D = some (.lst vs) ∧ DtAll K H' vs (ss.map Sg.d) ∧ Kp H H' ∧ splitR l = (splitR (l.drop a')).shift a' ss,
        fun σ' H' ⟨a', z1, z2, z3⟩ => ⟨_, by omega, a', rfl, z2, z3⟩, ?_⟩
      refine ⟨_, rfl, _, rfl, sx l, _, c, rfl, rfl, lz, at_sx hc, rfl, _, rfl, ?_⟩
      rw [eq_sign c 32 h32]
      by_cases c32 : c = 32
      · subst c32
        refine iteT ⟨_, rfl, _, _, rfl, rfl, a + 1, by omega, ⟨_, rfl⟩, by omega, ss, vs, by omega, eD, ds, k, ?_⟩
        rw [e, ed, splitR_sp, Out.shift_shift, List.append_nil]
      · rw [decide_eq_false c32]
        refine iteF ⟨_, rfl, _, rfl, l, a, rfl, ha, hz, fun T hm => k.tab T (hT T hm), trivial, ?_⟩
        have hd : (l.drop a).head? ≠ some 32 := by
          rw [ed]
          simpa using c32
        cases er : readS (l.drop a) with
        | none =>
          rw [ed] at er
          have e2 : splitR (l.drop a) = .bad 0 := by rw [ed]; exact splitR_bad c32 er
          rw [e, e2] at h
          exact ErrAt.kp h k
        | some p =>
          obtain ⟨g, wd⟩ := p
          obtain ⟨p1, p2⟩ := readS_pos er
          rw [List.length_drop] at p2
          rw [splitR_sign hd er, List.drop_drop, Out.shift_shift] at e
          intro H2 v k2 hv
          have eD2 := k2.keep D _ eD (by simp) nt_lst
          have ds2 := DtAll.kb k2 Lsts.nil ds
          cases hv with
          | @tup b ys _ hb hys =>
            cases hys with
            | @cons vg _ _ _ hg hys =>
              cases hys with
              | cons hi hys =>
                cases hys
                cases hi
                have lz2 : vs.length < sizeLine := by
                  have := ds.length
                  rw [List.length_map] at this
                  have : sizeLine = 16777216 := rfl
                  omega
                refine ⟨b, _, rfl, hb, rfl, vg, _, rfl, .int ((a + wd : Nat) : Int), _, rfl, rfl, ?_⟩
                refine ⟨_, rfl, .inl ⟨rfl, _, .inl (.inl eD2)⟩, _, rfl, D, vs, vg, rfl, rfl, eD2, lz2, ?_⟩
                refine ⟨a + wd, by omega, ⟨_, rfl⟩, by omega, ss ++ [g], vs ++ [vg], by simp; omega, upd_same, ?_, (k.trans k2).mut hD (no_tab eD2 nt_lst), e⟩
                rw [List.map_append]
                exact DtAll.kb (Kb.put (S := [D]) (by simp) eD2 nt_lst) (fun b hb => by rw [List.mem_singleton.mp hb]; exact ⟨_, eD2⟩) (DtAll.snoc ds2 hg)
    · have ea : a = l.length := by omega
      rw [decide_eq_false (by omega : ¬ (a : Int) < (l.length : Int))]
      rw [ea, List.drop_length, splitR_nil] at e
      rw [e] at h
      have h : RdL K C H Q E (.ok (ss ++ [])) := h
      rw [List.append_nil] at h
      exact iteF ⟨_, rfl, h H1 D vs hD k eD ds⟩
end
end Rs

namespace Gd
open PySem PySem.Spec PyProof.Rows L2 GxR Gx
def rNotInT (K : PySem.W.Frag) : R2 := fun x y H Q => ∃ d ds, Dp K H x d ∧ Dp K H y (.tuple ds) ∧ SeqAt.shaped d = true ∧ SeqAt.shaped (.tuple ds) = true ∧ Q (.bl (!ds.any fun z => PyData.eqv z d)) H
theorem op_notInT {X : Cx} (hu : X.A.units + 65 < cLine) : OpR X (compareOp .NotIn) (rNotInT X.K) := by
  intro pins s σ H x y v u Q I rx ry h
  obtain ⟨d, ds, h1, h2, s1, s2, q⟩ := h
  obtain ⟨as, r1⟩ := Dp.reads I d x v h1 rx
  obtain ⟨bs, r2⟩ := Dp.reads I (.tuple ds) y u h2 ry
  exact SeqAt.notIn_tuple_reads r2 r1 (SeqAt.canLay_of_shaped s2) (SeqAt.canLay_of_shaped s1) (room_in_shaped s1 hu) ⟨.bl _, H, I, rfl, q⟩
theorem hu_units {k : Nat} {A : Around} (hr : RoomG k A) : A.units + 65 < cLine := by have := hr.r.un; omega
/-- a def whose body wants a token -/
theorem DefAt.calT {P : Program} {w : World} {K : PySem.W.Frag} {mg : Str → Option Value} {base : Heap} {x : Str} {st : Stmt} {N ps : List Str} {sp : Sp} (D : DefAt K mg x st ps) (S : FnScope N ps (defScope st)) (hnc : ∀ y ∈ (defScope st).names, y.2 ≠ .cell) (hps : 1 ≤ ps.length)
    (len : ∀ vs H Q E, sp vs H Q E → vs.length = ps.length)
    (hb : ∀ (f : Addr) (cdv : Value) (A : Around) (outer : List Env) (s : Shared) (H : Hp) (vs : List V) (Q : VK) (E : XK), sp vs H Q E →
      ∃ t, PSsT (cxOf CX0 P w K mg base N x (defScope st) f cdv A outer s H E) (defBody st) t ∧ t { nx := fun _ H' => Q .non H', rt := Q } (start N vs) H) : Cal P w K mg base CX0 1 x ps sp := by
  obtain ⟨f, fd, F, g, b⟩ := D
  have kp := F.kp
  obtain ⟨oc, od, kV, doc, pm, an, cdv, ct, osl, rfl, lk, hcd⟩ := F.ex
  exact ⟨f, _, .of (fn_ofT (k := 0) lk hcd S hnc hps len fun A outer s H vs Q E _ hsp => hb f cdv A outer s H vs Q E hsp), g, kp, b⟩
end Gd
namespace Rs
open PySem PySem.Spec PyProof.Rows L2 GxR Gx Gd
abbrev s_escaped : Stmt := topS 29
theorem sc_escaped : FnScope ["text"] ["text"] (defScope s_escaped) := ⟨rfl, rfl, rfl, by decide +kernel, rfl, by decide +kernel, by decide +kernel⟩
abbrev s_is_space_between : Stmt := topS 27
theorem sc_is_space_between : FnScope ["sign", "following"] ["sign", "following"] (defScope s_is_space_between) := ⟨rfl, rfl, rfl, by decide +kernel, rfl, by decide +kernel, by decide +kernel⟩
abbrev s_sign_text : Stmt := topS 28
theorem sc_sign_text : FnScope ["sign"] ["sign"] (defScope s_sign_text) := ⟨rfl, rfl, rfl, by decide +kernel, rfl, by decide +kernel, by decide +kernel⟩
abbrev s_write_signs : Stmt := topS 20
theorem sc_write_signs : FnScope ["signs", "parts", "place", "sign"] ["signs"] (defScope s_write_signs) := ⟨rfl, rfl, rfl, by decide +kernel, rfl, by decide +kernel, by decide +kernel⟩
/-! ### escapes -/
theorem repl1 (a : Nat) (z : List Nat) : ∀ l : List Nat, StrLaws.replL [a] z l = l.flatMap fun c => if c = a then z else [c]
  | [] => StrLaws.replL_nil
  | c :: r => by
    have ih := repl1 a z r
    rw [List.flatMap_cons, ← ih]
    unfold StrLaws.replL
    rw [StrLaws.replS]
    by_cases h : c = a
    · subst h
      rw [if_pos (by simp), if_pos rfl]
      rfl
    · rw [if_neg (by simpa using h), if_neg h]
      rfl
theorem replace1 {x y z : Str} {a : Nat} (hy : y = sx [a]) : (Txt.replace x y z).cps.toList = x.cps.toList.flatMap fun c => if c = a then z.cps.toList else [c] := by
  subst hy
  rw [StrLaws.replace_list (by rw [sx_len]; exact Nat.le_refl _), sx_tl, repl1]
theorem escaped_is (l : List Nat) : Txt.replace (Txt.replace (Txt.replace (sx l) (Str.ofString "\\") (Str.ofString "\\\\")) (Str.ofString "\"") (Str.ofString "\\\"")) (Str.ofString "\n") (Str.ofString "\\n") = sx (escL l) := by
  refine TL.ext_tl ?_
  show Array.toList _ = Array.toList _
  rw [replace1 (a := 10) (by decide +kernel), replace1 (a := 34) (by decide +kernel), replace1 (a := 92) (by decide +kernel), sx_tl, sx_tl, List.flatMap_assoc, List.flatMap_assoc]
  unfold escL
  congr 1
  funext c
  have e1 : (Str.ofString "\\\\").cps.toList = [92, 92] := by decide +kernel
  have e2 : (Str.ofString "\\\"").cps.toList = [92, 34] := by decide +kernel
  have e3 : (Str.ofString "\\n").cps.toList = [92, 110] := by decide +kernel
  rw [e1, e2, e3]
  unfold escC
  by_cases h1 : c = 92
  · subst h1
    rfl
  · rw [if_neg h1, if_neg h1]
    by_cases h2 : c = 34
    · subst h2
      rfl
    · by_cases h3 : c = 10
      · subst h3
        rfl
      · rw [if_neg h2, if_neg h3]
        simp [h2, h3]
theorem esc_len1 (l : List Nat) : (Txt.replace (sx l) (Str.ofString "\\") (Str.ofString "\\\\")).length ≤ 2 * l.length := by
  have e : ∀ m : List Nat, (m.flatMap fun c => if c = 92 then (Str.ofString "\\\\").cps.toList else [c]).length ≤ 2 * m.length := by
    intro m
    have e1 : (Str.ofString "\\\\").cps.toList = [92, 92] := by decide +kernel
    rw [e1]
    induction m with
    | nil => exact Nat.le_refl _
    | cons c m ih =>
      rw [List.flatMap_cons, List.length_append, List.length_cons]
      have : (if c = 92 then [92, 92] else [c]).length ≤ 2 := by split <;> simp
      omega
  have := e l
  rw [← sx_tl l, ← replace1 (y := Str.ofString "\\") (a := 92) (by decide +kernel), Array.length_toList, sx_tl] at this
  exact this
theorem esc_len2 (l : List Nat) : (Txt.replace (Txt.replace (sx l) (Str.ofString "\\") (Str.ofString "\\\\")) (Str.ofString "\"") (Str.ofString "\\\"")).length ≤ 4 * l.length := by
  have e : ∀ m : List Nat, (m.flatMap fun c => if c = 34 then (Str.ofString "\\\"").cps.toList else [c]).length ≤ 2 * m.length := by
    intro m
    have e1 : (Str.ofString "\\\"").cps.toList = [92, 34] := by decide +kernel
    rw [e1]
    induction m with
    | nil => exact Nat.le_refl _
    | cons c m ih =>
      rw [List.flatMap_cons, List.length_append, List.length_cons]
      have : (if c = 34 then [92, 34] else [c]).length ≤ 2 := by split <;> simp
      omega
  have h1 := esc_len1 l
  have h2 := e (Txt.replace (sx l) (Str.ofString "\\") (Str.ofString "\\\\")).cps.toList
  rw [← replace1 (y := Str.ofString "\"") (a := 34) (by decide +kernel), Array.length_toList, Array.length_toList] at h2
  have h3 : (Txt.replace (sx l) (Str.ofString "\\") (Str.ofString "\\\\")).cps.size ≤ 2 * l.length := h1
  show Array.size _ ≤ _
  omega
def spEsc : Sp := fun vs H Q _ => ∃ l : List Nat, vs = [.str (sx l)] ∧ l.length ≤ 1000 ∧ Q (.str (sx (escL l))) H
theorem rd_esc {te : TE} {σ : L2.St} {H : Hp} {Q : VK} {l : List Nat} (hz : l.length ≤ 1000) (ht : ∀ R : VK, R (.str (sx l)) H → te σ H R) (q : Q (.str (sx (escL l))) H) :
    CwR.tReplC (CwR.tReplC (CwR.tReplC te (Str.ofString "\\") (Str.ofString "\\\\")) (Str.ofString "\"") (Str.ofString "\\\"")) (Str.ofString "\n") (Str.ofString "\\n") σ H Q := by
  have h1 := esc_len1 l
  have h2 := esc_len2 l
  have z1 : (Str.ofString "\\\\").length = 2 := by decide +kernel
  have z2 : (Str.ofString "\\\"").length = 2 := by decide +kernel
  have z3 : (Str.ofString "\\n").length = 2 := by decide +kernel
  refine ht _ ⟨_, rfl, by rw [z1, sx_len]; omega, _, rfl, by rw [z2]; omega, _, rfl, by rw [z3]; omega, ?_⟩
  rw [escaped_is]
  exact q
/-! ### comparing signs -/
theorem eqv_mark (s : Sg) (c : Nat) : PyData.eqv s.d (Sg.mark c).d = (match s with | .mark c' => decide (c' = c) | _ => false) := by
  have e : ∀ (a : Str) (x y : PyData), PyData.eqv (.tuple [.str a, x]) (.tuple [.str (Str.ofString "mark"), y]) = (a == Str.ofString "mark" && PyData.eqv x y) := fun a x y => by
    simp only [PyData.eqv, PyData.eqvAll, Bool.and_true]
  cases s with
  | name l => exact (e _ _ _).trans (by rw [show ((Str.ofString "name") == (Str.ofString "mark")) = false by decide +kernel]; rfl)
  | num n => exact (e _ _ _).trans (by rw [show ((Str.ofString "number") == (Str.ofString "mark")) = false by decide +kernel]; rfl)
  | quo l => exact (e _ _ _).trans (by rw [show ((Str.ofString "quoted") == (Str.ofString "mark")) = false by decide +kernel]; rfl)
  | mark c' =>
    refine (e _ _ _).trans ?_
    rw [show ((Str.ofString "mark") == (Str.ofString "mark")) = true by decide +kernel, Bool.true_and]
    simp only [PyData.eqv]
    rw [sx_beq]
    simp
theorem eqv_mark' (s : Sg) (c : Nat) : PyData.eqv (Sg.mark c).d s.d = (match s with | .mark c' => decide (c' = c) | _ => false) := by
  have e : ∀ (a : Str) (x y : PyData), PyData.eqv (.tuple [.str (Str.ofString "mark"), y]) (.tuple [.str a, x]) = (Str.ofString "mark" == a && PyData.eqv y x) := fun a x y => by
    simp only [PyData.eqv, PyData.eqvAll, Bool.and_true]
  cases s with
  | name l => exact (e _ _ _).trans (by rw [show ((Str.ofString "mark") == (Str.ofString "name")) = false by decide +kernel]; rfl)
  | num n => exact (e _ _ _).trans (by rw [show ((Str.ofString "mark") == (Str.ofString "number")) = false by decide +kernel]; rfl)
  | quo l => exact (e _ _ _).trans (by rw [show ((Str.ofString "mark") == (Str.ofString "quoted")) = false by decide +kernel]; rfl)
  | mark c' =>
    refine (e _ _ _).trans ?_
    rw [show ((Str.ofString "mark") == (Str.ofString "mark")) = true by decide +kernel, Bool.true_and]
    simp only [PyData.eqv]
    rw [sx_beq]
    simp [eq_comm]
theorem good_ok {s : Sg} (g : s.good) : OkD s.d := by
  have one : ∀ (l : List Nat), l.length ≤ 1000 → (∀ c ∈ l, c < 1114112) → okN 1 (.str (sx l)) = true := fun l h1 h2 => by
    have e : (decide ((sx l).length ≤ 1000) && PyData.strOk (sx l)) = true := by
      rw [sx_len, decide_eq_true h1, Bool.true_and]
      show (sx l).cps.all _ = true
      rw [← Array.all_toList, sx_tl, List.all_eq_true]
      exact fun c hc => decide_eq_true (h2 c hc)
    exact e
  have two : ∀ (x : Str) (d : PyData), okN 1 (.str x) = true → okN 1 d = true → OkD (.tuple [.str x, d]) := fun x d h1 h2 => ⟨2, by decide, by
    show (decide ([PyData.str x, d].length ≤ 1000) && [PyData.str x, d].all (okN 1)) = true
    rw [List.all_cons, List.all_cons, h1, h2]
    rfl⟩
  cases s with
  | name l =>
    refine two _ _ (by decide +kernel) (one l (by have := (name_parts g).2.1; omega) fun c hc => ?_)
    have h := List.all_eq_true.mp (name_run g) c hc
    unfold isRun isSmall isDigit at h
    rw [Bool.or_eq_true, Bool.or_eq_true, rg, rg, rg] at h
    omega
  | num n =>
    refine two _ _ (by decide +kernel) ?_
    have hn : n ≤ 999999999 := g
    refine decide_eq_true ?_
    have : (n : Int).natAbs = n := by omega
    rw [this]
    by_cases h0 : n = 0
    · rw [h0]
      decide
    · have := (Nat.log2_lt h0).mpr (show n < 2 ^ 30 by omega)
      omega
  | quo l =>
    refine two _ _ (by decide +kernel) (one l (by have := g.2; omega) fun c hc => ?_)
    have h := List.all_eq_true.mp g.1 c hc
    rw [Bool.or_eq_true, decide_eq_true_eq] at h
    rcases h with h | h
    · unfold isChar at h
      rw [Bool.and_eq_true, rg] at h
      omega
    · omega
  | mark c =>
    refine two _ _ (by decide +kernel) (one [c] (by simp) fun d hd => ?_)
    rw [List.mem_singleton.mp hd]
    rcases mark_of g with h | h | h | h <;> omega
end Rs

namespace Rs
open PySem PySem.Spec PyProof.Rows L2 GxR Gx Gd
def spText (K : PySem.W.Frag) : Sp := fun vs H Q _ => ∃ v s, vs = [v] ∧ Dt K H v (Sg.d s) ∧ s.good ∧ Q (.str (sx s.text)) H
def spBetween (K : PySem.W.Frag) : Sp := fun vs H Q _ => ∃ v1 v2 s1 s2, vs = [v1, v2] ∧ Dt K H v1 (Sg.d s1) ∧ Dt K H v2 (Sg.d s2) ∧ s1.good ∧ s2.good ∧ ∀ H', Kp H H' → Q (.bl (!isLeft s1 && !tight s2)) H'
def spWrite (K : PySem.W.Frag) : Sp := fun vs H Q _ => ∃ (a : Addr) (xs : List V) (ss : List Sg), vs = [.ref a] ∧ H a = some (.lst xs) ∧ DtAll K H xs (ss.map Sg.d) ∧ (∀ s ∈ ss, s.good) ∧ ss.length ≤ 20 ∧ ∀ H', Kp H H' → Q (.str (sx (looseL (wr true ss)))) H'
/-- the texts so far, one behind the other -/
def catL (ps : List Str) : List Nat := (ps.map fun p => p.cps.toList).flatten
theorem catL_snoc (ps : List Str) (p : Str) : catL (ps ++ [p]) = catL ps ++ p.cps.toList := by simp [catL]
theorem join_cat (ps : List Str) : Txt.join (Str.ofString "") ps = sx (catL ps) := by
  refine TL.ext_tl ?_
  have e : TL.tl (Str.ofString "") = [] := by decide +kernel
  rw [TL.join_eq, TL.tl_join, e]
  have j : ∀ l : List (List Nat), TL.joinL [] l = l.flatten := by
    intro l
    induction l with
    | nil => rfl
    | cons p l ih =>
      cases l with
      | nil => simp [TL.joinL]
      | cons q r =>
        show p ++ ([] ++ TL.joinL [] (q :: r)) = _
        rw [ih]
        rfl
  rw [j]
  exact (sx_tl _).symm
theorem cat_len (ps : List Str) : (ps.map (·.length)).sum = (catL ps).length := by
  induction ps with
  | nil => rfl
  | cons p ps ih =>
    have e : catL (p :: ps) = p.cps.toList ++ catL ps := rfl
    rw [List.map_cons, List.sum_cons, ih, e, List.length_append]
    simp [Str.length]
/-- is the sign ahead of the i-th one a left parenthesis, or is it the first -/
def flag (ss : List Sg) : Nat → Bool
  | 0 => true
  | i + 1 => match ss[i]? with | some s => isLeft s | none => false
theorem wr_drop {ss : List Sg} {i : Nat} {s : Sg} (h : ss[i]? = some s) : looseL (wr (flag ss i) (ss.drop i)) = List.replicate (if (flag ss i || tight s) = true then 0 else 1) 32 ++ (s.text ++ looseL (wr (flag ss (i + 1)) (ss.drop (i + 1)))) := by
  have hi : i < ss.length := (List.getElem?_eq_some_iff.mp h).1
  have e : ss.drop i = s :: ss.drop (i + 1) := by
    rw [List.drop_eq_getElem_cons hi]
    congr 1
    exact (List.getElem?_eq_some_iff.mp h).2
  have e2 : flag ss (i + 1) = isLeft s := by
    show (match ss[i]? with | some s => isLeft s | none => false) = _
    rw [h]
  rw [e, e2]
  rfl
section
variable {P : Program} {w : World} {K : PySem.W.Frag} {mg : Str → Option Value} {base : Heap}
theorem c_escaped (D : DefAt K mg "_escaped" s_escaped ["text"]) : Cal P w K mg base CX0 1 "_escaped" ["text"] spEsc := by
  refine D.calT sc_escaped (by decide +kernel) (by decide) (fun vs H Q E h => ?_) fun f cdv A outer s H vs Q E h => ?_
  · obtain ⟨l, rfl, _⟩ := h
    rfl
  · obtain ⟨l, rfl, hz, q⟩ := h
    refine ⟨_, CwR.psst_one (CwR.pst_ret (CwR.pet_replT (CwR.pet_replT (CwR.pet_replC (pv 0))))), ?_⟩
    exact rd_esc hz (fun R h => ⟨_, rfl, h⟩) q
theorem c_sign_text (D : DefAt K mg "_sign_text" s_sign_text ["sign"]) (gQ : ∃ t, mg "QUOTE" = some (.str (Str.ofString "\"") t)) (m_str : mg "str" = none) (c__escaped : Cal P w K mg base CX0 1 "_escaped" ["text"] spEsc) : Cal P w K mg base CX0 2 "_sign_text" ["sign"] (spText K) := by
  refine D.cal (k := 1) sc_sign_text (fun vs H Q E h => ?_) fun f cdv A outer s H vs Q E hr h => ?_
  · obtain ⟨v, s, rfl, _⟩ := h
    rfl
  · obtain ⟨v, sg, rfl, hd, g, q⟩ := h
    obtain ⟨tq, g_QUOTE⟩ := gQ
    refine ⟨_, (pss_cons (ps_if (pt_cmpR op_eq (pe_ix ix_tup (pv 0) pe_int (fun _ _ => rfl)) pe_str (nomark _)) (pss_one (ps_ret (pe_op op_add_str (pe_op op_add_str (pe_glob (v := .str (Str.ofString "\"")) rfl g_QUOTE ⟨_, rfl⟩) (pe_cal (c__escaped.mono (by decide)) hr (by rfl) (pa_cons (pe_ix ix_tup (pv 0) pe_int (fun _ _ => rfl)) pa_nil))) (pe_glob (v := .str (Str.ofString "\"")) rfl g_QUOTE ⟨_, rfl⟩)))) pss_nil)
  (pss_one (ps_ret (pe_callTy (call_str_int.or SkE.call_str_str) (by rfl) m_str (by decide +kernel) (pa_cons (pe_ix ix_tup (pv 0) pe_int (fun _ _ => rfl)) pa_nil))))), ?_⟩
    cases sg with
    | name l =>
      cases hd with
      | @tup a _ _ h hs =>
        cases hs with
        | cons hk hs =>
          cases hs with
          | cons hc hs =>
            cases hs
            cases hk
            cases hc
            exact ⟨.ref a, rfl, a, _, 0, _, rfl, rfl, h, atI_nat (j := 0) rfl, rfl, _, rfl, iteF ⟨.ref a, rfl, a, _, 1, _, rfl, rfl, h, atI_nat (j := 1) rfl, .inr ⟨_, rfl, q⟩⟩⟩
    | num n =>
      cases hd with
      | @tup a _ _ h hs =>
        cases hs with
        | cons hk hs =>
          cases hs with
          | cons hc hs =>
            cases hs
            cases hk
            cases hc
            have hn : n ≤ 999999999 := g
            have hl : (n : Int).natAbs.log2 < 1920 := by
              have : (n : Int).natAbs = n := by omega
              rw [this]
              by_cases h0 : n = 0
              · rw [h0]
                decide
              · have := (Nat.log2_lt h0).mpr (show n < 2 ^ 30 by omega)
                omega
            refine ⟨.ref a, rfl, a, _, 0, _, rfl, rfl, h, atI_nat (j := 0) rfl, rfl, _, rfl, iteF ⟨.ref a, rfl, a, _, 1, _, rfl, rfl, h, atI_nat (j := 1) rfl, .inl ⟨_, rfl, hl, ?_⟩⟩⟩
            have q : Q (.str (sx (Str.ofString (toString (n : Int))).cps.toList)) H := q
            rw [sx_of] at q
            exact q
    | mark c =>
      cases hd with
      | @tup a _ _ h hs =>
        cases hs with
        | cons hk hs =>
          cases hs with
          | cons hc hs =>
            cases hs
            cases hk
            cases hc
            exact ⟨.ref a, rfl, a, _, 0, _, rfl, rfl, h, atI_nat (j := 0) rfl, rfl, _, rfl, iteF ⟨.ref a, rfl, a, _, 1, _, rfl, rfl, h, atI_nat (j := 1) rfl, .inr ⟨_, rfl, q⟩⟩⟩
    | quo l =>
      cases hd with
      | @tup a _ _ h hs =>
        cases hs with
        | cons hk hs =>
          cases hs with
          | cons hc hs =>
            cases hs
            cases hk
            cases hc
            have hl := g.2
            have he := escL_len l
            have one : (Str.ofString "\"").length = 1 := by decide +kernel
            have sz : sizeLine = 16777216 := rfl
            refine ⟨.ref a, rfl, a, _, 0, _, rfl, rfl, h, atI_nat (j := 0) rfl, rfl, _, rfl, iteT ⟨.ref a, rfl, a, _, 1, _, rfl, rfl, h, atI_nat (j := 1) rfl, l, rfl, by omega, _, _, rfl, rfl, by rw [one, sx_len]; omega, _, _, rfl, rfl, ?_, ?_⟩⟩
            · show (Str.ofString "\"" ++ sx (escL l)).cps.size + (Str.ofString "\"").length ≤ sizeLine
              rw [Str.cps_append, Array.size_append]
              have e1 : (Str.ofString "\"").cps.size = 1 := one
              have e2 : (sx (escL l)).cps.size = (escL l).length := sx_len _
              rw [e1, e2, one]
              omega
            · have e : Str.ofString "\"" ++ sx (escL l) ++ Str.ofString "\"" = sx (Sg.text (.quo l)) := by
                refine TL.ext_tl ?_
                rw [TL.tl_append, TL.tl_append]
                show (Str.ofString "\"").cps.toList ++ (sx (escL l)).cps.toList ++ (Str.ofString "\"").cps.toList = (sx (quoL l)).cps.toList
                rw [sx_tl, sx_tl, show (Str.ofString "\"").cps.toList = [34] by decide +kernel]
                rfl
              rw [e]
              exact q
theorem c_is_space_between {aL aR aC : Addr} (D : DefAt K mg "_is_space_between" s_is_space_between ["sign", "following"]) (g_LEFT : mg "LEFT" = some (.ref aL)) (g_RIGHT : mg "RIGHT" = some (.ref aR)) (g_COMMA : mg "COMMA" = some (.ref aC))
    (hL : ∀ H, Dt K H (.ref aL) (Sg.mark 40).d) (hR : ∀ H, Dt K H (.ref aR) (Sg.mark 41).d) (hC : ∀ H, Dt K H (.ref aC) (Sg.mark 44).d) : Cal P w K mg base CX0 1 "_is_space_between" ["sign", "following"] (spBetween K) := by
  refine D.cal (k := 0) sc_is_space_between (fun vs H Q E h => ?_) fun f cdv A outer s H vs Q E hr h => ?_
  · obtain ⟨v1, v2, s1, s2, rfl, _⟩ := h
    rfl
  · obtain ⟨v1, v2, s1, s2, rfl, h1, h2, g1, g2, q⟩ := h
    refine ⟨_, (pss_one (ps_ret (pe_and (pe_cmpR (op_neD hr.r.units) (pv 0) (pe_glob (v := .ref aL) rfl g_LEFT rfl) (nomark _)) (pe_one (pe_cmpR (op_notInT (hu_units hr)) (pv 1) (pe_tup (pa_cons (pe_glob (v := .ref aL) rfl g_LEFT rfl) (pa_cons (pe_glob (v := .ref aR) rfl g_RIGHT rfl) (pa_cons (pe_glob (v := .ref aC) rfl g_COMMA rfl) pa_nil)))) (by rfl)))))), ?_⟩
    refine ⟨_, rfl, s1.d, (Sg.mark 40).d, h1.dp, (hL H).dp, (good_ok g1).shaped, (good_ok (s := .mark 40) rfl).shaped, !PyData.eqv s1.d (Sg.mark 40).d, rfl, ?_⟩
    have e1 : PyData.eqv s1.d (Sg.mark 40).d = isLeft s1 := eqv_mark s1 40
    rw [e1]
    cases el : isLeft s1 with
    | true =>
      rw [el] at q
      exact iteF (q H (Kb.refl H))
    | false =>
      rw [el] at q
      refine iteT ⟨_, rfl, by show 3 ≤ sizeLine; decide, fun p hp => ?_⟩
      have k1 : Kp H (upd H p (.tup [.ref aL, .ref aR, .ref aC])) := Kb.new hp
      refine ⟨s2.d, [(Sg.mark 40).d, (Sg.mark 41).d, (Sg.mark 44).d], (h2.kb k1 Lsts.nil).dp, .tup (SqT.of upd_same) (.cons (hL _).dp (.cons (hR _).dp (.cons (hC _).dp .nil))), (good_ok g2).shaped, by decide +kernel, ?_⟩
      have e2 : ([(Sg.mark 40).d, (Sg.mark 41).d, (Sg.mark 44).d].any fun z => PyData.eqv z s2.d) = tight s2 := by
        show (PyData.eqv (Sg.mark 40).d s2.d || (PyData.eqv (Sg.mark 41).d s2.d || (PyData.eqv (Sg.mark 44).d s2.d || false))) = _
        rw [eqv_mark', eqv_mark', eqv_mark', Bool.or_false]
        cases s2 <;> rfl
      rw [e2]
      exact q _ k1
theorem c_write_signs (D : DefAt K mg "write_signs" s_write_signs ["signs"]) (m_enumerate : mg "enumerate" = none) (c__is_space_between : Cal P w K mg base CX0 1 "_is_space_between" ["sign", "following"] (spBetween K)) (c__sign_text : Cal P w K mg base CX0 2 "_sign_text" ["sign"] (spText K)) :
    Cal P w K mg base CX0 3 "write_signs" ["signs"] (spWrite K) := by
  refine D.cal (k := 2) sc_write_signs (fun vs H Q E h => ?_) fun f cdv A outer s H vs Q E hr h => ?_
  · obtain ⟨a, xs, ss, rfl, _⟩ := h
    rfl
  · obtain ⟨a, xs, ss, rfl, ha, hd, hg, hz, q⟩ := h
    refine ⟨_, (pss_cons (ps_set (i := 1) sc_write_signs.nd rfl (Or.inl rfl) (pe_lst pa_nil))
  (pss_cons (ps_for PassesOwn.never rfl (pi_enum (by rfl) m_enumerate (pa_cons (pv 0) pa_nil)) (pg_tup rfl (pgs_cons (pg_name (i := 2) sc_write_signs.nd rfl (Or.inl rfl)) (pgs_cons (pg_name (i := 3) sc_write_signs.nd rfl (Or.inl rfl)) pgs_nil))) (pss_cons (ps_if (PW.pt (pw_and (pt_cmpR op_gt (pv 2) pe_int (nomark _)) (pw_and1 (pt_val (pe_cal (c__is_space_between.mono (by decide)) hr (by rfl) (pa_cons (pe_ix ix_list (pv 0) (pe_op op_sub (pv 2) pe_int) (fun _ _ => rfl)) (pa_cons (pv 3) pa_nil))))))) (pss_one (ps_expr (pe_bm PySem.F.plainAttrs_list PySem.F.slot_list_append PySem.F.type_list_append mt_append (pv 1) (pa_cons pe_str pa_nil)))) pss_nil)
  (pss_one (ps_expr (pe_bm PySem.F.plainAttrs_list PySem.F.slot_list_append PySem.F.type_list_append mt_append (pv 1) (pa_cons (pe_cal (c__sign_text.mono (by decide)) hr (by rfl) (pa_cons (pv 3) pa_nil)) pa_nil))))))
  (pss_one (ps_ret (pe_join pe_str (pv 1)))))), ?_⟩
    refine ⟨Nat.zero_le _, fun D hD => ?_⟩
    have hDa : D ≠ a := (ne_of_none ha hD).symm
    have k0 : Kp H (upd H D (.lst [])) := Kb.new hD
    have hlen := hd.length
    rw [List.length_map] at hlen
    have tot := loose_len (wr true ss) (wr_mem hg)
    have wl : (wr true ss).length = ss.length := by
      have := congrArg List.length (wr_signs true ss)
      rw [List.length_map] at this
      exact this
    rw [wl] at tot
    have ha' := k0.keep a _ ha (by simp) nt_lst
    refine ⟨_, rfl, a, xs, rfl, .inl (.inl ha'), ?_⟩
    refine ⟨fun i m σ H' => m = ss.length - i ∧ i ≤ ss.length ∧ (∃ o2 o3, σ = [some (.ref a), some (.ref D), o2, o3]) ∧ Kp H H' ∧ ∃ ps : List Str, ps.length ≤ 2 * i ∧ H' D = some (.lst (ps.map V.str)) ∧ catL ps ++ looseL (wr (flag ss i) (ss.drop i)) = looseL (wr true ss),
      ⟨_, rfl, Nat.zero_le _, ⟨none, none, rfl⟩, k0, [], Nat.le_refl _, upd_same, rfl⟩, ?_⟩
    rintro i m σ H1 ⟨rfl, hi, ⟨o2, o3, rfl⟩, k, ps, hps, eD, ec⟩
    have sz : sizeLine = 16777216 := rfl
    have ha1 := k.keep a _ ha (by simp) nt_lst
    by_cases hl : i < ss.length
    · obtain ⟨sg, hs⟩ : ∃ sg, ss[i]? = some sg := ⟨ss[i], List.getElem?_eq_getElem hl⟩
      have gs : sg.good := hg sg (List.mem_of_getElem? hs)
      obtain ⟨v, hv⟩ : ∃ v, xs[i]? = some v := ⟨xs[i]'(by omega), List.getElem?_eq_getElem (by omega)⟩
      refine .inr ⟨⟨xs, v, .inl (.inl ha1), hv⟩, fun σ' H' => (∃ o2 o3, σ' = [some (.ref a), some (.ref D), o2, o3]) ∧ Kp H H' ∧ ∃ ps : List Str, ps.length ≤ 2 * (i + 1) ∧ H' D = some (.lst (ps.map V.str)) ∧ catL ps ++ looseL (wr (flag ss (i + 1)) (ss.drop (i + 1))) = looseL (wr true ss),
        fun σ' H' ⟨z1, z2⟩ => ⟨_, by omega, rfl, hl, z1, z2⟩, ?_⟩
      rintro x H2 ⟨T, y, rfl, hTn, rfl, hy⟩
      have ey : v = y := Option.some.inj (hv.symm.trans (hy xs (.inl (.inl ha1))))
      subst ey
      have k2 : Kp H1 (upd H1 T (.tup [.int (i : Int), v])) := Kb.new hTn
      have eT : SqT K (upd H1 T (.tup [.int (i : Int), v])) T [.int (i : Int), v] := SqT.of upd_same
      generalize upd H1 T (.tup [.int (i : Int), v]) = H2 at k2 eT ⊢
      have k02 := k.trans k2
      have eD2 := k2.keep D _ eD (by simp) nt_lst
      have ha2 := k02.keep a _ ha (by simp) nt_lst
      have d2 := DtAll.kb k02 Lsts.nil hd
      have dv : Dt K H2 v sg.d := by
        obtain ⟨d', h1, h2⟩ := d2.get hv
        rw [List.getElem?_map, hs] at h1
        cases h1
        exact h2
      refine ⟨T, _, rfl, eT, rfl, _, _, rfl, _, _, rfl, rfl, ?_⟩
      rw [wr_drop hs] at ec
      -- the second part of the body
      have fin : ∀ (H3 : Hp) (g : Nat) (ps2 : List Str), Kp H H3 → Dt K H3 v sg.d → ps2.length ≤ 2 * i + 1 → H3 D = some (.lst (ps2.map V.str)) → catL ps2 = catL ps ++ List.replicate g 32 → g = (if (flag ss i || tight sg) = true then 0 else 1) →
          (∃ o2 o3, ([some (.ref a), some (.ref D), some (.int (i : Int)), some v] : L2.St) = [some (.ref a), some (.ref D), o2, o3]) ∧ Kp H (upd H3 D (.lst ((ps2.map V.str) ++ [.str (sx sg.text)]))) ∧ ∃ ps : List Str, ps.length ≤ 2 * (i + 1) ∧ (upd H3 D (.lst ((ps2.map V.str) ++ [.str (sx sg.text)]))) D = some (.lst (ps.map V.str)) ∧ catL ps ++ looseL (wr (flag ss (i + 1)) (ss.drop (i + 1))) = looseL (wr true ss) := by
        intro H3 g ps2 k3 dv3 hp2 eD3 e1 e2
        refine ⟨⟨_, _, rfl⟩, k3.mut hD (no_tab eD3 nt_lst), ps2 ++ [sx sg.text], by simp; omega, ?_, ?_⟩
        · rw [upd_same, List.map_append]
          rfl
        · rw [catL_snoc, e1, sx_tl, ← ec, e2, List.append_assoc, List.append_assoc]
      refine ⟨_, rfl, _, _, rfl, rfl, _, rfl, ?_⟩
      have two : ∀ (H3 : Hp) (g : Nat) (ps2 : List Str), Kp H H3 → Dt K H3 v sg.d → ps2.length ≤ 2 * i + 1 → ps2.length < sizeLine := fun _ _ _ _ _ h => by omega
      cases i with
      | zero =>
        rw [decide_eq_false (by simp : ¬ (0 : Int) < ((0 : Nat) : Int))]
        refine iteF (iteF ⟨.ref D, rfl, .inl ⟨rfl, _, .inl (.inl eD2)⟩, _, rfl, v, sg, rfl, dv, gs, D, _, _, rfl, rfl, eD2, by rw [List.length_map]; omega, ?_⟩)
        exact fin H2 0 ps k02 dv (by omega) eD2 (by simp) rfl
      | succ j =>
        rw [decide_eq_true (by omega : (0 : Int) < ((j + 1 : Nat) : Int))]
        obtain ⟨s', hs'⟩ : ∃ s', ss[j]? = some s' := ⟨ss[j]'(by omega), List.getElem?_eq_getElem (by omega)⟩
        have gs' : s'.good := hg s' (List.mem_of_getElem? hs')
        obtain ⟨v', hv'⟩ : ∃ v', xs[j]? = some v' := ⟨xs[j]'(by omega), List.getElem?_eq_getElem (by omega)⟩
        have dv' : Dt K H2 v' s'.d := by
          obtain ⟨d', h1, h2⟩ := d2.get hv'
          rw [List.getElem?_map, hs'] at h1
          cases h1
          exact h2
        have ef : flag ss (j + 1) = isLeft s' := by
          show (match ss[j]? with | some s => isLeft s | none => false) = _
          rw [hs']
        have eix : atI xs (((j + 1 : Nat) : Int) - 1) = some v' := by
          rw [show (((j + 1 : Nat) : Int) - 1) = (j : Int) by omega]
          exact atI_nat hv'
        refine iteT ⟨_, rfl, _, rfl, _, _, rfl, rfl, a, xs, _, v', rfl, rfl, .inl (.inl ha2), eix, v, rfl, v', v, s', sg, rfl, dv', dv, gs', gs, fun H3 k3 => ⟨_, rfl, ?_⟩⟩
        have k03 := k02.trans k3
        have eD3 := k3.keep D _ eD2 (by simp) nt_lst
        have dv3 := dv.kb k3 Lsts.nil
        cases eb : (!isLeft s' && !tight sg) with
        | true =>
          refine iteT ⟨.ref D, rfl, .inl ⟨rfl, _, .inl (.inl eD3)⟩, D, _, _, rfl, rfl, eD3, by rw [List.length_map]; omega, ?_⟩
          have eD4 : (upd H3 D (.lst (ps.map V.str ++ [.str (Str.ofString " ")]))) D = some (.lst ((ps ++ [Str.ofString " "]).map V.str)) := by
            rw [upd_same, List.map_append]
            rfl
          have k4 : Kb [D] H3 (upd H3 D (.lst (ps.map V.str ++ [.str (Str.ofString " ")]))) := Kb.put (by simp) eD3 nt_lst
          have dv4 := dv3.kb k4 (fun b hb => by rw [List.mem_singleton.mp hb]; exact ⟨_, eD3⟩)
          have k04 := k03.mut (o := .lst (ps.map V.str ++ [.str (Str.ofString " ")])) hD (no_tab eD3 nt_lst)
          refine ⟨.ref D, rfl, .inl ⟨rfl, _, .inl (.inl eD4)⟩, _, rfl, v, sg, rfl, dv4, gs, D, _, _, rfl, rfl, eD4, by rw [List.length_map, List.length_append]; simp; omega, ?_⟩
          refine fin _ 1 _ k04 dv4 (by simp; omega) eD4 ?_ ?_
          · rw [catL_snoc, show (Str.ofString " ").cps.toList = [32] by decide +kernel]
            rfl
          · rw [ef]
            have : (isLeft s' || tight sg) = false := by
              cases h1 : isLeft s' <;> cases h2 : tight sg <;> rw [h1, h2] at eb <;> first | rfl | cases eb
            rw [this]
            rfl
        | false =>
          refine iteF ⟨.ref D, rfl, .inl ⟨rfl, _, .inl (.inl eD3)⟩, _, rfl, v, sg, rfl, dv3, gs, D, _, _, rfl, rfl, eD3, by rw [List.length_map]; omega, ?_⟩
          refine fin H3 0 ps k03 dv3 (by omega) eD3 (by simp) ?_
          rw [ef]
          have : (isLeft s' || tight sg) = true := by
            cases h1 : isLeft s' <;> cases h2 : tight sg <;> rw [h1, h2] at eb <;> first | rfl | cases eb
          rw [this]
          rfl
    · have ei : i = ss.length := by omega
      subst ei
      refine .inl ⟨⟨xs, .inl (.inl ha1), by omega⟩, ?_⟩
      rw [List.drop_length] at ec
      have ec : catL ps ++ [] = _ := ec
      rw [List.append_nil] at ec
      refine ⟨⟨_, rfl⟩, _, rfl, _, D, ps, rfl, rfl, .inl (.inl (.inl eD)), ?_, ?_⟩
      · rw [cat_len, ec]
        show _ + _ * 0 ≤ _
        omega
      · rw [join_cat, ec]
        exact q H1 k
end
end Rs

namespace Rs
open PySem PySem.Spec PyProof.Rows L2 GxR Gx Gd
/-! ### the law's draws -/
abbrev s_law_cell : Stmt := topS 32
theorem sc_law_cell : FnScope ["script", "k"] ["script", "k"] (defScope s_law_cell) := ⟨rfl, rfl, rfl, by decide +kernel, rfl, by decide +kernel, by decide +kernel⟩
abbrev s_law_draw : Stmt := topS 36
theorem sc_law_draw : FnScope ["box", "many", "at"] ["box", "many"] (defScope s_law_draw) := ⟨rfl, rfl, rfl, by decide +kernel, rfl, by decide +kernel, by decide +kernel⟩
def Box (bx d : Addr) (H : Hp) : Prop := ∃ (xs : List V) (at' : Int), H bx = some (.lst [.ref d, .int at']) ∧ 0 ≤ at' ∧ H d = some (.lst xs) ∧ ∀ v ∈ xs, ∃ i, v = .int i
theorem Box.ne {bx d : Addr} {H : Hp} (h : Box bx d H) : d ≠ bx := fun e => by
  obtain ⟨xs, a, h1, h2, h3, h4⟩ := h
  rw [e, h1] at h3
  cases h3
  obtain ⟨i, e⟩ := h4 _ List.mem_cons_self
  cases e
theorem Box.lsts {bx d : Addr} {H : Hp} (h : Box bx d H) : Lsts [bx] H := fun b hb => by
  obtain ⟨xs, a, h1, _⟩ := h
  cases hb with
  | head => exact ⟨_, h1⟩
  | tail _ h => cases h
theorem Box.kb {S : List Addr} {bx d : Addr} {H H' : Hp} (h : Box bx d H) (k : Kb S H H') (n1 : bx ∉ S) (n2 : d ∉ S) : Box bx d H' := by
  obtain ⟨xs, a, h1, h2, h3, h4⟩ := h
  exact ⟨xs, a, k.keep bx _ h1 n1 nt_lst, h2, k.keep d _ h3 n2 nt_lst, h4⟩
theorem Box.kp {bx d : Addr} {H H' : Hp} (h : Box bx d H) (k : Kp H H') : Box bx d H' := h.kb k (by simp) (by simp)
theorem Box.upd {bx d D : Addr} {H : Hp} {o : HO} (h : Box bx d H) (n1 : D ≠ bx) (n2 : D ≠ d) : Box bx d (upd H D o) := by
  obtain ⟨xs, a, h1, h2, h3, h4⟩ := h
  exact ⟨xs, a, by rw [upd_ne n1.symm]; exact h1, h2, by rw [upd_ne n2.symm]; exact h3, h4⟩
theorem Box.new {bx d D : Addr} {H : Hp} (h : Box bx d H) (n : H D = none) : D ≠ bx ∧ D ≠ d := by
  obtain ⟨xs, a, h1, h2, h3, h4⟩ := h
  exact ⟨(ne_of_none h1 n).symm, (ne_of_none h3 n).symm⟩
/-- after some draws -/
def Aft (bx d : Addr) (H H' : Hp) : Prop := Kb [bx] H H' ∧ Box bx d H'
theorem Aft.trans {bx d : Addr} {H H1 H2 : Hp} (a : Aft bx d H H1) (b : Aft bx d H1 H2) : Aft bx d H H2 := ⟨a.1.trans b.1, b.2⟩
theorem Aft.of {bx d : Addr} {H H' : Hp} (b : Box bx d H) (k : Kp H H') : Aft bx d H H' := ⟨Kb.of k, b.kp k⟩
theorem Aft.refl {bx d : Addr} {H : Hp} (b : Box bx d H) : Aft bx d H H := ⟨Kb.refl H, b⟩
theorem Aft.new {bx d D : Addr} {H : Hp} {o : HO} (b : Box bx d H) (n : H D = none) : Aft bx d H (upd H D o) := Aft.of b (Kb.new n)
theorem Aft.mut {bx d D : Addr} {H H' : Hp} {o u : HO} (k : Aft bx d H H') (n : H D = none) (b : Box bx d H) (e : H' D = some u) (t : NoTab u) : Aft bx d H (upd H' D o) :=
  ⟨k.1.mut n (no_tab e t), k.2.upd (b.new n).1 (b.new n).2⟩
theorem Aft.dt {K : PySem.W.Frag} {bx d : Addr} {H H' : Hp} {v : V} {x : PyData} (k : Aft bx d H H') (b : Box bx d H) (h : Dt K H v x) : Dt K H' v x := h.kb k.1 b.lsts
theorem Aft.lst {bx d D : Addr} {H H' : Hp} {xs : List V} (k : Aft bx d H H') (e : H D = some (.lst xs)) (n : D ≠ bx) : H' D = some (.lst xs) := k.1.keep D _ e (by simpa using n) nt_lst
def spDraw : Sp := fun vs H Q _ => ∃ bx d many, vs = [.ref bx, .int many] ∧ 0 < many ∧ Box bx d H ∧ ∀ H' r, Aft bx d H H' → 0 ≤ r → r < many → Q (.int r) H'
def spCell (K : PySem.W.Frag) : Sp := fun vs H Q _ => ∃ (a : Addr) (ns : List Int) (k : Int), vs = [.ref a, .int k] ∧ 0 ≤ k ∧ SqL K H a (ns.map V.int) ∧ ∀ i, Q (.int i) H
section
variable {P : Program} {w : World} {K : PySem.W.Frag} {mg : Str → Option Value} {base : Heap}
theorem c_law_cell (D : DefAt K mg "_law_cell" s_law_cell ["script", "k"]) (m_len : mg "len" = none) : Cal P w K mg base CX0 1 "_law_cell" ["script", "k"] (spCell K) := by
  refine D.cal (k := 0) sc_law_cell (fun vs H Q E h => ?_) fun f cdv A outer s H vs Q E hr h => ?_
  · obtain ⟨a, ns, k, rfl, _⟩ := h
    rfl
  · obtain ⟨a, ns, k, rfl, h0, h, q⟩ := h
    refine ⟨_, (pss_cons (ps_if (pt_cmpR op_lt (pv 1) (pe_callB call_len_seq (by rfl) m_len (by decide +kernel) (pa_cons (pv 0) pa_nil)) (nomark _)) (pss_one (ps_ret (pe_ix ix_list (pv 0) (pv 1) (fun _ _ => rfl)))) pss_nil)
  (pss_one (ps_ret pe_int))), ?_⟩
    refine ⟨_, rfl, _, rfl, a, _, rfl, .inl h, k, _, rfl, rfl, _, rfl, ?_⟩
    by_cases hk : k < ((ns.map V.int).length : Int)
    · rw [decide_eq_true hk]
      obtain ⟨n, rfl⟩ : ∃ n : Nat, k = n := ⟨k.toNat, by omega⟩
      have hn : n < (ns.map V.int).length := by omega
      have e : (ns.map V.int)[n]? = some (.int (ns[n]'(by simpa using hn))) := by simp
      exact iteT ⟨_, rfl, _, rfl, a, _, _, _, rfl, rfl, h, atI_nat e, q _⟩
    · rw [decide_eq_false hk]
      exact iteF (q 0)
theorem c_law_draw (D : DefAt K mg "_law_draw" s_law_draw ["box", "many"]) (m_len : mg "len" = none) (m_int : mg "int" = none) : Cal P w K mg base CX0 1 "_law_draw" ["box", "many"] spDraw := by
  refine D.cal (k := 0) sc_law_draw (fun vs H Q E h => ?_) fun f cdv A outer s H vs Q E hr h => ?_
  · obtain ⟨bx, d, many, rfl, _⟩ := h
    rfl
  · obtain ⟨bx, d, many, rfl, hm, hb, q⟩ := h
    have hne := hb.ne
    obtain ⟨xs, n, h1, h2, h3, h4⟩ := hb
    refine ⟨_, (pss_cons (ps_set (i := 2) sc_law_draw.nd rfl (Or.inl rfl) (pe_ix ix_list (pv 0) pe_int (fun _ _ => rfl)))
  (pss_cons (ps_asg (pe_op op_add (pv 2) pe_int) (pg_sub (pv 0) pe_int set_list))
  (pss_cons (ps_if (pt_cmpR op_lt (pv 2) (pe_callB call_len_seq (by rfl) m_len (by decide +kernel) (pa_cons (pe_ix ix_list (pv 0) pe_int (fun _ _ => rfl)) pa_nil)) (nomark _)) (pss_one (ps_ret (pe_op op_mod (pe_callTy call_int1 (by rfl) m_int (by decide +kernel) (pa_cons (pe_ix ix_list (pe_ix ix_list (pv 0) pe_int (fun _ _ => rfl)) (pv 2) (fun _ _ => rfl)) pa_nil)) (pv 1)))) pss_nil)
  (pss_one (ps_ret (pe_op op_mod (pe_callTy call_int1 (by rfl) m_int (by decide +kernel) (pa_cons (pe_op op_add (pe_op op_mul (pv 2) pe_int) pe_int) pa_nil)) (pv 1))))))), ?_⟩
    refine ⟨.ref bx, rfl, bx, _, 1, _, rfl, rfl, .inl (.inl h1), atI_nat (j := 1) rfl, ?_⟩
    refine ⟨.int n, rfl, n, 1, rfl, rfl, .ref bx, rfl, bx, _, 1, 1, rfl, rfl, h1, rfl, ?_⟩
    have k1 : Aft bx d H (upd H bx (.lst [.ref d, .int (n + 1)])) := ⟨Kb.put (by simp) h1 nt_lst, xs, n + 1, upd_same, by omega, by rw [upd_ne hne]; exact h3, h4⟩
    have e1 : (upd H bx (.lst [.ref d, .int (n + 1)])) bx = some (.lst [.ref d, .int (n + 1)]) := upd_same
    have e2 : (upd H bx (.lst [.ref d, .int (n + 1)])) d = some (.lst xs) := by rw [upd_ne hne]; exact h3
    refine ⟨.int n, rfl, .ref bx, rfl, bx, _, 0, .ref d, rfl, rfl, .inl (.inl e1), atI_nat (j := 0) rfl, d, xs, rfl, .inl (.inl (.inl e2)), n, _, rfl, rfl, _, rfl, ?_⟩
    by_cases hk : n < (xs.length : Int)
    · rw [decide_eq_true hk]
      obtain ⟨j, rfl⟩ : ∃ j : Nat, n = j := ⟨n.toNat, by omega⟩
      have hj : j < xs.length := by omega
      obtain ⟨i, hi⟩ := h4 xs[j] (List.getElem_mem hj)
      have e : xs[j]? = some (.int i) := by rw [List.getElem?_eq_getElem hj, hi]
      exact iteT ⟨.ref bx, rfl, bx, _, 0, .ref d, rfl, rfl, .inl (.inl e1), atI_nat (j := 0) rfl, _, rfl, d, xs, j, .int i, rfl, rfl, .inl (.inl e2), atI_nat e, .inl ⟨i, rfl, _, rfl, i, many, rfl, rfl, hm, q _ _ k1 (Int.emod_nonneg _ (by omega)) (Int.emod_lt_of_pos _ hm)⟩⟩
    · rw [decide_eq_false hk]
      exact iteF ⟨_, rfl, n, 7, rfl, rfl, .inr (by decide), _, _, rfl, rfl, .inl ⟨_, rfl, _, rfl, _, many, rfl, rfl, hm, q _ _ k1 (Int.emod_nonneg _ (by omega)) (Int.emod_lt_of_pos _ hm)⟩⟩
end
abbrev s_law_digits : Stmt := topS 35
theorem sc_law_digits : FnScope ["script", "first", "last", "digits", "k", "cell", "turn", "seed"] ["script", "first", "last"] (defScope s_law_digits) := ⟨rfl, rfl, rfl, by decide +kernel, rfl, by decide +kernel, by decide +kernel⟩
def spDigits (K : PySem.W.Frag) : Sp := fun vs H Q _ => ∃ (a : Addr) (ns : List Int), vs = [.ref a, .int 0, .int 40] ∧ SqL K H a (ns.map V.int) ∧ ∀ (d : Addr) (H' : Hp) (xs : List V), H d = none → Kp H H' → H' d = some (.lst xs) → (∀ v ∈ xs, ∃ i, v = .int i) → Q (.ref d) H'
/-- the list at D holds at most n ints, all else stands -/
def Dg (H0 : Hp) (D : Addr) (n : Nat) (H : Hp) : Prop := ∃ xs : List V, xs.length ≤ n ∧ (∀ v ∈ xs, ∃ i, v = .int i) ∧ Kp H0 H ∧ H D = some (.lst xs)
theorem Dg.push {H0 H : Hp} {D : Addr} {n : Nat} {xs : List V} {i : Int} (h0 : H0 D = none) (hl : xs.length ≤ n) (hi : ∀ v ∈ xs, ∃ i, v = .int i) (k : Kp H0 H) (e : H D = some (.lst xs)) : Dg H0 D (n + 1) (upd H D (.lst (xs ++ [.int i]))) :=
  ⟨xs ++ [.int i], by simp; exact hl, fun v hv => by
    rcases List.mem_append.mp hv with h | h
    · exact hi v h
    · exact ⟨i, by simpa using h⟩, k.mut h0 (no_tab e nt_lst), upd_same⟩
theorem Dg.mono {H0 H : Hp} {D : Addr} {n m : Nat} (h : Dg H0 D n H) (l : n ≤ m) : Dg H0 D m H := let ⟨xs, a, r⟩ := h; ⟨xs, Nat.le_trans a l, r⟩
theorem iteC {b : Bool} {A B : Prop} (h1 : A) (h2 : B) : if b = true then A else B := by
  cases b with
  | true => exact iteT h1
  | false => exact iteF h2
theorem cell_pos {R r k l} {b : Bool} {σ : L2.St} {H : Hp} {c : Int} (hs : σ[5]? = some (some (.int c))) (hσ : σ.set 5 (some (.int c)) = σ) (h : ∀ c', R (σ.set 5 (some (.int c'))) H) :
    if b = true then tAsg (tOp (rI0 fun i j => V.int (i - j)) (tC (V.int 1)) (tOp (rI CMul fun i j => V.int (i * j)) (tC (V.int 2)) (tVar 5))) (gName 5) ⟨R, r, k, l⟩ σ H else tNext ⟨R, r, k, l⟩ σ H := by
  cases b with
  | true => exact iteT ⟨_, hs, 2, c, rfl, rfl, .inl (by decide), 1, _, rfl, rfl, h _⟩
  | false =>
    refine iteF ?_
    have z := h c
    rw [hσ] at z
    exact z
section
variable {P : Program} {w : World} {K : PySem.W.Frag} {mg : Str → Option Value} {base : Heap}
theorem c_law_digits (D : DefAt K mg "_law_digits" s_law_digits ["script", "first", "last"]) (m_range : mg "range" = none) (m_int : mg "int" = none)
    (c__law_cell : Cal P w K mg base CX0 1 "_law_cell" ["script", "k"] (spCell K)) : Cal P w K mg base CX0 2 "_law_digits" ["script", "first", "last"] (spDigits K) := by
  refine D.cal (k := 1) sc_law_digits (fun vs H Q E h => ?_) fun f cdv A outer s H vs Q E hr h => ?_
  · obtain ⟨bx, d, rfl, _⟩ := h
    rfl
  · obtain ⟨a, ns, rfl, ha, q⟩ := h
    refine ⟨_, (pss_cons (ps_set (i := 3) sc_law_digits.nd rfl (Or.inl rfl) (pe_lst pa_nil))
  (pss_cons (ps_for PassesOwn.never rfl (pi_range2 (by rfl) m_range (pa_cons (pv 1) (pa_cons (pv 2) pa_nil))) (pg_name (i := 4) sc_law_digits.nd rfl (Or.inl rfl)) (pss_cons (ps_set (i := 5) sc_law_digits.nd rfl (Or.inl rfl) (pe_cal (c__law_cell.mono (by decide)) hr (by rfl) (pa_cons (pv 0) (pa_cons (pv 4) pa_nil))))
  (pss_cons (ps_if (pt_cmpR op_lt (pv 5) pe_int (nomark _)) (pss_one (ps_set (i := 5) sc_law_digits.nd rfl (Or.inl rfl) (pe_op op_sub pe_int (pe_op op_mul pe_int (pv 5))))) pss_nil)
  (pss_one (ps_if (pt_cmpR op_ge (pv 5) (pe_op op_pow pe_int pe_int) (nomark _)) (pss_one (ps_for PassesOwn.never rfl (pi_range1 (by rfl) m_range (pa_cons pe_int pa_nil)) (pg_name (i := 6) sc_law_digits.nd rfl (Or.inl rfl)) (pss_one (ps_if (pt_cmpR op_gt (pv 5) pe_int (nomark _)) (pss_cons (ps_expr (pe_bm PySem.F.plainAttrs_list PySem.F.slot_list_append PySem.F.type_list_append mt_append (pv 3) (pa_cons (pe_op op_mod (pe_callTy call_int1 (by rfl) m_int (by decide +kernel) (pa_cons (pv 5) pa_nil)) pe_int) pa_nil)))
  (pss_one (ps_set (i := 5) sc_law_digits.nd rfl (Or.inl rfl) (pe_op op_fdiv (pv 5) pe_int)))) pss_nil)))) (pss_cons (ps_set (i := 7) sc_law_digits.nd rfl (Or.inl rfl) (pe_op op_mod (pe_callTy call_int1 (by rfl) m_int (by decide +kernel) (pa_cons (pe_op op_add (pe_op op_add (pe_op op_mul (pv 5) pe_int) (pe_op op_mul (pv 4) pe_int)) pe_int) pa_nil)) pe_int))
  (pss_one (ps_for PassesOwn.never rfl (pi_range1 (by rfl) m_range (pa_cons pe_int pa_nil)) (pg_name (i := 6) sc_law_digits.nd rfl (Or.inl rfl)) (pss_cons (ps_set (i := 7) sc_law_digits.nd rfl (Or.inl rfl) (pe_op op_mod (pe_callTy call_int1 (by rfl) m_int (by decide +kernel) (pa_cons (pe_op op_add (pe_op op_add (pe_op op_mul (pv 7) pe_int) (pe_op op_mul pe_int (pv 6))) pe_int) pa_nil)) pe_int))
  (pss_one (ps_expr (pe_bm PySem.F.plainAttrs_list PySem.F.slot_list_append PySem.F.type_list_append mt_append (pv 3) (pa_cons (pe_op op_mod (pe_callTy call_int1 (by rfl) m_int (by decide +kernel) (pa_cons (pe_op op_fdiv (pv 7) pe_int) pa_nil)) pe_int) pa_nil)))))))))))))
  (pss_one (ps_ret (pv 3))))), ?_⟩
    refine ⟨Nat.zero_le _, fun D hD => ⟨.int 0, rfl, .int 40, rfl, 0, 40, rfl, by decide, ?_⟩⟩
    refine ⟨fun i m σ H' => m = 40 - i ∧ i ≤ 40 ∧ (∃ o1 o2 o3 o4, σ = [some (.ref a), some (.int 0), some (.int 40), some (.ref D), o1, o2, o3, o4]) ∧ Dg H D (60 * i) H', ⟨_, rfl, Nat.zero_le _, ⟨none, none, none, none, rfl⟩, [], Nat.le_refl _, (fun _ h => by cases h), Kb.new hD, upd_same⟩, ?_⟩
    rintro i m σ H1 ⟨rfl, hi, ⟨o1, o2, o3, o4, rfl⟩, g⟩
    by_cases hl : i < 40
    · refine .inr ⟨hl, fun σ' H' => (∃ o1 o2 o3 o4, σ' = [some (.ref a), some (.int 0), some (.int 40), some (.ref D), o1, o2, o3, o4]) ∧ Dg H D (60 * (i + 1)) H', fun σ' H' ⟨e1, e2⟩ => ⟨_, by omega, rfl, hl, e1, e2⟩, ?_⟩
      rintro x H2 ⟨rfl, rfl⟩
      have hsq : SqL K H2 a (ns.map V.int) := by
        obtain ⟨xs, _, _, k, e⟩ := g
        rcases ha with (ha | ⟨o, ha⟩) | ha
        · exact .inl (.inl (k.keep a _ ha (by simp) nt_lst))
        · exact .inl (.inr ⟨o, k.keep a _ ha (by simp) nt_frz⟩)
        · exact .inr ha
      refine ⟨.ref a, rfl, .int (0 + i), rfl, a, ns, _, rfl, by omega, hsq, fun c => ?_⟩
      refine ⟨_, rfl, c, 0, rfl, rfl, ?_⟩
      refine ⟨_, rfl, cell_pos rfl rfl fun c => ?_⟩
      refine ⟨_, rfl, 10, 18, rfl, rfl, ⟨by decide, by decide, by decide⟩, c, 10 ^ 18, rfl, rfl, ?_⟩
      refine ⟨_, rfl, ?_⟩
      refine iteC ?_ ?_
      · refine ⟨60, rfl, by decide, by decide, ?_⟩
        refine ⟨fun j m σ H' => m = 60 - j ∧ j ≤ 60 ∧ (∃ o1 c o3 o4, σ = [some (.ref a), some (.int 0), some (.int 40), some (.ref D), o1, some (.int c), o3, o4]) ∧ Dg H D (60 * i + j) H', ⟨_, rfl, Nat.zero_le _, ⟨_, _, _, _, rfl⟩, g⟩, ?_⟩
        rintro j m σ H3 ⟨rfl, hj, ⟨o1, c, o3, o4, rfl⟩, g⟩
        by_cases hl : j < 60
        · refine .inr ⟨hl, fun σ' H' => (∃ o1 c o3 o4, σ' = [some (.ref a), some (.int 0), some (.int 40), some (.ref D), o1, some (.int c), o3, o4]) ∧ Dg H D (60 * i + (j + 1)) H', fun σ' H' ⟨e1, e2⟩ => ⟨_, by omega, rfl, hl, e1, e2⟩, ?_⟩
          rintro x H4 ⟨rfl, rfl⟩
          refine ⟨_, rfl, c, 0, rfl, rfl, _, rfl, ?_⟩
          refine iteC ?_ ?_
          · obtain ⟨xs, h1, h2, h3, h4⟩ := g
            refine ⟨.ref D, rfl, .inl ⟨rfl, _, .inl (.inl h4)⟩, _, rfl, .inl ⟨c, rfl, c, 1000, rfl, rfl, by show (0 : Int) < 1000; decide, D, xs, _, rfl, rfl, h4, ?_, ?_⟩⟩
            · have : sizeLine = 16777216 := rfl
              omega
            · exact ⟨_, rfl, c, 1000, rfl, rfl, ⟨by decide, by decide⟩, ⟨_, _, _, _, rfl⟩, Dg.push hD h1 h2 h3 h4⟩
          · exact ⟨⟨_, _, _, _, rfl⟩, g.mono (by omega)⟩
        · exact .inl ⟨by show 60 ≤ j; omega, ⟨_, _, _, _, rfl⟩, g.mono (by omega)⟩
      · refine ⟨_, rfl, c, 48271, rfl, rfl, .inr (by decide), _, rfl, _, 69621, rfl, rfl, .inr (by decide), _, _, rfl, rfl, _, _, rfl, rfl, .inl ⟨_, rfl, _, 2147483647, rfl, rfl, by show (0 : Int) < 2147483647; decide, ?_⟩⟩
        refine ⟨12, rfl, by decide, by decide, ?_⟩
        refine ⟨fun j m σ H' => m = 12 - j ∧ j ≤ 12 ∧ (∃ o1 o2 o3 c, σ = [some (.ref a), some (.int 0), some (.int 40), some (.ref D), o1, o2, o3, some (.int c)]) ∧ Dg H D (60 * i + j) H', ⟨_, rfl, Nat.zero_le _, ⟨_, _, _, _, rfl⟩, g⟩, ?_⟩
        rintro j m σ H3 ⟨rfl, hj, ⟨o1, o2, o3, c, rfl⟩, g⟩
        by_cases hl : j < 12
        · refine .inr ⟨hl, fun σ' H' => (∃ o1 o2 o3 c, σ' = [some (.ref a), some (.int 0), some (.int 40), some (.ref D), o1, o2, o3, some (.int c)]) ∧ Dg H D (60 * i + (j + 1)) H', fun σ' H' ⟨e1, e2⟩ => ⟨_, by omega, rfl, hl, e1, e2⟩, ?_⟩
          rintro x H4 ⟨rfl, rfl⟩
          refine ⟨_, rfl, c, 16807, rfl, rfl, .inr (by decide), _, rfl, 7, _, rfl, rfl, .inl (by decide), _, _, rfl, rfl, _, _, rfl, rfl, .inl ⟨_, rfl, _, 2147483647, rfl, rfl, by show (0 : Int) < 2147483647; decide, ?_⟩⟩
          obtain ⟨xs, h1, h2, h3, h4⟩ := g
          refine ⟨.ref D, rfl, .inl ⟨rfl, _, .inl (.inl h4)⟩, _, rfl, _, 997, rfl, rfl, ⟨by decide, by decide⟩, .inl ⟨_, rfl, _, 1000, rfl, rfl, by show (0 : Int) < 1000; decide, D, xs, _, rfl, rfl, h4, ?_, ?_⟩⟩
          · have : sizeLine = 16777216 := rfl
            omega
          · exact ⟨⟨_, _, _, _, rfl⟩, Dg.push hD h1 h2 h3 h4⟩
        · exact .inl ⟨by show 12 ≤ j; omega, ⟨_, _, _, _, rfl⟩, g.mono (by omega)⟩
    · obtain ⟨xs, h1, h2, h3, h4⟩ := g
      refine .inl ⟨by show 40 - 0 ≤ _; omega, ?_⟩
      exact ⟨_, rfl, q D H1 xs hD h3 h4 h2⟩
end

end Rs

namespace Gd
open PySem PySem.Spec PyProof.Rows L2 GxR Gx
def rMulS : R2 := fun x y H Q => ∃ a n, x = .str a ∧ y = .int n ∧ MulOk a n ∧ Q (.str (Txt.mul a n)) H
theorem op_mul_str {X : Cx} : OpR X (binaryOp .Mult) rMulS := by
  intro pins s σ H x y v u Q I rx ry h
  obtain ⟨a, n, rfl, rfl, hok, q⟩ := h
  obtain ⟨t, rfl⟩ := rx
  obtain ⟨t', rfl⟩ := ry
  exact SB.mul hok fun t2 k => ⟨.str _, H, I.tok _, ⟨_, rfl⟩, q⟩
end Gd
namespace Rs
open PySem PySem.Spec PyProof.Rows L2 GxR Gx Gd
abbrev s_law_quoted : Stmt := topS 37
theorem sc_law_quoted : FnScope ["text"] ["text"] (defScope s_law_quoted) := ⟨rfl, rfl, rfl, by decide +kernel, rfl, by decide +kernel, by decide +kernel⟩
abbrev s_law_text : Stmt := topS 41
theorem sc_law_text : FnScope ["sign"] ["sign"] (defScope s_law_text) := ⟨rfl, rfl, rfl, by decide +kernel, rfl, by decide +kernel, by decide +kernel⟩
abbrev s_law_sign : Stmt := topS 40
theorem sc_law_sign : FnScope ["box", "kind", "k"] ["box"] (defScope s_law_sign) := ⟨rfl, rfl, rfl, by decide +kernel, rfl, by decide +kernel, by decide +kernel⟩
def spQuote : Sp := fun vs H Q _ => ∃ l : List Nat, vs = [.str (sx l)] ∧ l.length ≤ 1000 ∧ Q (.str (sx (quoL l))) H
def mulB (x : Str) (n : Int) : Bool := !(decide (n < -(2 ^ 63 : Int)) || decide (n ≥ 2 ^ 63)) && (!decide ((x.length : Int) > (2 ^ 63 - 1) / n) && !Builtin.Str.tooLong (x.length * n.toNat))
theorem mulB_ok {x : Str} {n : Int} (h : mulB x n = true) : MulOk x n := by
  unfold mulB at h
  rw [Bool.and_eq_true, Bool.and_eq_true, Bool.not_eq_true', Bool.not_eq_true', Bool.not_eq_true', decide_eq_false_iff_not] at h
  exact ⟨h.1, fun _ _ => h.2.1, fun _ _ => h.2.2⟩
def nameStr (c : Nat) (n m : Nat) : Str := (⟨#[c]⟩ : Str) ++ Txt.mul (cutS (Str.ofString "x9y0") none (some (n : Int))) (1 + (m : Int))
def nameChk (r n m : Nat) : Bool := match atI (Str.ofString "abz").cps.toList (r : Int) with
  | some c => isNameL (nameStr c n m).cps.toList && (mulB (cutS (Str.ofString "x9y0") none (some (n : Int))) (1 + (m : Int)) && decide ((⟨#[c]⟩ : Str).length + (Txt.mul (cutS (Str.ofString "x9y0") none (some (n : Int))) (1 + (m : Int))).length ≤ 1000))
  | none => false
theorem name_all : ((List.range 3).all fun r => (List.range 5).all fun n => (List.range 2).all fun m => nameChk r n m) = true := by decide +kernel
theorem name_drawn {r n m : Int} (h1 : 0 ≤ r) (h2 : r < 3) (h3 : 0 ≤ n) (h4 : n < 5) (h5 : 0 ≤ m) (h6 : m < 2) : ∃ c, atI (Str.ofString "abz").cps.toList r = some c ∧ MulOk (cutS (Str.ofString "x9y0") none (some n)) (1 + m) ∧
    (⟨#[c]⟩ : Str).length + (Txt.mul (cutS (Str.ofString "x9y0") none (some n)) (1 + m)).length ≤ sizeLine ∧ ∃ l, (⟨#[c]⟩ : Str) ++ Txt.mul (cutS (Str.ofString "x9y0") none (some n)) (1 + m) = sx l ∧ isNameL l = true := by
  obtain ⟨r, rfl⟩ : ∃ k : Nat, r = k := ⟨r.toNat, by omega⟩
  obtain ⟨n, rfl⟩ : ∃ k : Nat, n = k := ⟨n.toNat, by omega⟩
  obtain ⟨m, rfl⟩ : ∃ k : Nat, m = k := ⟨m.toNat, by omega⟩
  have h := List.all_eq_true.mp (List.all_eq_true.mp (List.all_eq_true.mp name_all r (List.mem_range.mpr (by omega))) n (List.mem_range.mpr (by omega))) m (List.mem_range.mpr (by omega))
  unfold nameChk at h
  cases e : atI (Str.ofString "abz").cps.toList (r : Int) with
  | none => rw [e] at h; cases h
  | some c =>
    rw [e] at h
    have h : (_ && (_ && _)) = true := h
    rw [Bool.and_eq_true, Bool.and_eq_true, decide_eq_true_eq] at h
    exact ⟨c, rfl, mulB_ok h.2.1, Nat.le_trans h.2.2 (by decide), _, (sx_of _).symm, h.1⟩
def quoStr : Str := Str.ofString "a\"\\\n (,n"
theorem quo_chars : ∀ (i c : Nat), quoStr.cps.toList[i]? = some c → (isChar c || decide (c = 10)) = true := fun i c h => by
  have e : quoStr.cps.toList.all (fun c => isChar c || decide (c = 10)) = true := by decide +kernel
  exact List.all_eq_true.mp e c (List.mem_of_getElem? h)
theorem quo_len : quoStr.length = 8 := by decide +kernel
theorem quo_tl : quoStr.cps.toList.length = 8 := by decide +kernel
def tQuo (K : PySem.W.Frag) : TE := tM1 (fun x xs H Q => ∃ a p, ∃ ys : List Str, x = .str a ∧ xs = [.ref p] ∧ (SqL K H p (ys.map V.str) ∨ SqT K H p (ys.map V.str)) ∧ (ys.map (·.length)).sum + ys.length * a.length ≤ 16777216 ∧ Q (.str (Txt.join a ys)) H) (tC (.str (Str.ofString "")))
  (tLc (iRng1 (tCons (tCall spDraw [] E0 (tCons (tVar 0) (tCons (tC (.int 7)) tNil))) tNil)) (gName 2) tYes (tOp rIxS (tC (.str quoStr)) (tCall spDraw [] E0 (tCons (tVar 0) (tCons (tC (.int 8)) tNil)))) [2])
theorem quo_end {K : PySem.W.Frag} {bx d : Addr} {H : Hp} {Q : VK} {o1 : Option V} (hb : Box bx d H) (q : ∀ H' l, Aft bx d H H' → l.length ≤ 6 → l.all (fun c => isChar c || decide (c = 10)) = true → Q (.str (sx l)) H') :
    tQuo K [some (.ref bx), o1, none] H Q := by
  refine ⟨⟨_, rfl⟩, .ref bx, rfl, bx, d, 7, rfl, by decide, hb, fun H0 sz a0 g0 l0 => ⟨sz, rfl, by omega, by omega, fun D hD => ?_⟩⟩
  have hb0 := a0.2
  refine ⟨fun i m H' => ∃ cs : List Nat, cs.length = i ∧ m = sz.toNat - i ∧ i ≤ sz.toNat ∧ cs.all (fun c => isChar c || decide (c = 10)) = true ∧ Aft bx d H0 H' ∧ H' D = some (.lst ((cs.map fun c => sx [c]).map V.str)), ⟨_, [], rfl, rfl, Nat.zero_le _, rfl, .new hb0 hD, upd_same⟩, ?_⟩
  rintro i m H' ⟨cs, rfl, rfl, hi, hc, a, e⟩
  by_cases hl : cs.length < sz.toNat
  · refine .inr ⟨hl, fun H'' => ∃ cs' : List Nat, cs'.length = cs.length + 1 ∧ cs'.all (fun c => isChar c || decide (c = 10)) = true ∧ Aft bx d H0 H'' ∧ H'' D = some (.lst ((cs'.map fun c => sx [c]).map V.str)), fun H'' ⟨cs', e1, e2, e3, e4⟩ => ⟨_, by omega, cs', e1, rfl, hl, e2, e3, e4⟩, ?_⟩
    rintro x Hy ⟨rfl, rfl⟩
    refine ⟨rfl, ?_⟩
    refine iteT (B := ∃ cs' : List Nat, cs'.length = cs.length + 1 ∧ cs'.all (fun c => isChar c || decide (c = 10)) = true ∧ Aft bx d H0 Hy ∧ Hy D = some (.lst ((cs'.map fun c => sx [c]).map V.str))) ⟨.ref bx, rfl, bx, d, 8, rfl, by decide, a.2, fun H4 r a4 g l => ?_⟩
    obtain ⟨j, rfl⟩ : ∃ j : Nat, r = j := ⟨r.toNat, by omega⟩
    have hj : j < quoStr.cps.toList.length := by rw [quo_tl]; omega
    have ec : quoStr.cps.toList[j]? = some (quoStr.cps.toList[j]) := List.getElem?_eq_getElem hj
    have e4 := a4.lst e (hb0.new hD).1
    have hc' := quo_chars _ _ ec
    refine ⟨quoStr, j, _, rfl, rfl, by rw [quo_len]; decide, atI_nat ec, _, e4, ?_, cs ++ [quoStr.cps.toList[j]], by simp, ?_, (a.trans a4).mut hD hb0 e4 nt_lst, ?_⟩
    · rw [List.length_map, List.length_map]
      have : sizeLine = 16777216 := rfl
      omega
    · rw [List.all_append, hc, Bool.true_and]
      show ((isChar _ || decide _) && true) = true
      rw [hc']
      rfl
    · rw [upd_same, List.map_append, List.map_append]
      rfl
  · refine .inl ⟨by show sz.toNat ≤ _; omega, Str.ofString "", D, cs.map fun c => sx [c], rfl, rfl, .inl (.inl (.inl e)), ?_, ?_⟩
    · rw [sum_sx]
      show cs.length + _ * 0 ≤ _
      omega
    · rw [join_sx]
      exact q H' cs (a0.trans a) (by omega) hc
def spSg (K : PySem.W.Frag) : Sp := fun vs H Q _ => ∃ bx d, vs = [.ref bx] ∧ Box bx d H ∧ ∀ H' v (s : Sg), Aft bx d H H' → Dt K H' v s.d → s.good → Q v H'
section
variable {P : Program} {w : World} {K : PySem.W.Frag} {mg : Str → Option Value} {base : Heap}
theorem c_law_quoted (D : DefAt K mg "_law_quoted" s_law_quoted ["text"]) : Cal P w K mg base CX0 1 "_law_quoted" ["text"] spQuote := by
  refine D.calT sc_law_quoted (by decide +kernel) (by decide) (fun vs H Q E h => ?_) fun f cdv A outer s H vs Q E h => ?_
  · obtain ⟨l, rfl, _⟩ := h
    rfl
  · obtain ⟨l, rfl, hz, q⟩ := h
    refine ⟨_, CwR.psst_one (CwR.pst_ret (CwR.pet_op op_add_str (CwR.pet_op op_add_str (CwR.PET.of pe_str) (CwR.pet_replT (CwR.pet_replT (CwR.pet_replC (pv 0))))) (CwR.PET.of pe_str))), ?_⟩
    have he := escL_len l
    have one : (Str.ofString "\"").length = 1 := by decide +kernel
    have sz : sizeLine = 16777216 := rfl
    dsimp only [tRet, tOp, tC]
    refine rd_esc hz (fun R h => ⟨_, rfl, h⟩) ⟨_, _, rfl, rfl, by rw [one, sx_len]; omega, _, _, rfl, rfl, ?_, ?_⟩
    · show (Str.ofString "\"" ++ sx (escL l)).cps.size + (Str.ofString "\"").length ≤ sizeLine
      rw [Str.cps_append, Array.size_append]
      have e1 : (Str.ofString "\"").cps.size = 1 := one
      have e2 : (sx (escL l)).cps.size = (escL l).length := sx_len _
      rw [e1, e2, one]
      omega
    · have e : Str.ofString "\"" ++ sx (escL l) ++ Str.ofString "\"" = sx (quoL l) := by
        refine TL.ext_tl ?_
        rw [TL.tl_append, TL.tl_append]
        show (Str.ofString "\"").cps.toList ++ (sx (escL l)).cps.toList ++ (Str.ofString "\"").cps.toList = (sx (quoL l)).cps.toList
        rw [sx_tl, sx_tl, show (Str.ofString "\"").cps.toList = [34] by decide +kernel]
        rfl
      rw [e]
      exact q
theorem c_law_text (D : DefAt K mg "_law_text" s_law_text ["sign"]) (m_str : mg "str" = none) (c__law_quoted : Cal P w K mg base CX0 1 "_law_quoted" ["text"] spQuote) : Cal P w K mg base CX0 2 "_law_text" ["sign"] (spText K) := by
  refine D.cal (k := 1) sc_law_text (fun vs H Q E h => ?_) fun f cdv A outer s H vs Q E hr h => ?_
  · obtain ⟨v, s, rfl, _⟩ := h
    rfl
  · obtain ⟨v, sg, rfl, hd, g, q⟩ := h
    refine ⟨_, (pss_cons (ps_if (pt_cmpR op_eq (pe_ix ix_tup (pv 0) pe_int (fun _ _ => rfl)) pe_str (nomark _)) (pss_one (ps_ret (pe_cal (c__law_quoted.mono (by decide)) hr (by rfl) (pa_cons (pe_ix ix_tup (pv 0) pe_int (fun _ _ => rfl)) pa_nil)))) pss_nil)
  (pss_one (ps_ret (pe_callTy (call_str_int.or SkE.call_str_str) (by rfl) m_str (by decide +kernel) (pa_cons (pe_ix ix_tup (pv 0) pe_int (fun _ _ => rfl)) pa_nil))))), ?_⟩
    cases sg with
    | name l =>
      cases hd with
      | @tup a _ _ h hs =>
        cases hs with
        | cons hk hs =>
          cases hs with
          | cons hc hs =>
            cases hs
            cases hk
            cases hc
            exact ⟨.ref a, rfl, a, _, 0, _, rfl, rfl, h, atI_nat (j := 0) rfl, rfl, _, rfl, iteF ⟨.ref a, rfl, a, _, 1, _, rfl, rfl, h, atI_nat (j := 1) rfl, .inr ⟨_, rfl, q⟩⟩⟩
    | num n =>
      cases hd with
      | @tup a _ _ h hs =>
        cases hs with
        | cons hk hs =>
          cases hs with
          | cons hc hs =>
            cases hs
            cases hk
            cases hc
            have hn : n ≤ 999999999 := g
            have hl : (n : Int).natAbs.log2 < 1920 := by
              have : (n : Int).natAbs = n := by omega
              rw [this]
              by_cases h0 : n = 0
              · rw [h0]
                decide
              · have := (Nat.log2_lt h0).mpr (show n < 2 ^ 30 by omega)
                omega
            refine ⟨.ref a, rfl, a, _, 0, _, rfl, rfl, h, atI_nat (j := 0) rfl, rfl, _, rfl, iteF ⟨.ref a, rfl, a, _, 1, _, rfl, rfl, h, atI_nat (j := 1) rfl, .inl ⟨_, rfl, hl, ?_⟩⟩⟩
            have q : Q (.str (sx (Str.ofString (toString (n : Int))).cps.toList)) H := q
            rw [sx_of] at q
            exact q
    | mark c =>
      cases hd with
      | @tup a _ _ h hs =>
        cases hs with
        | cons hk hs =>
          cases hs with
          | cons hc hs =>
            cases hs
            cases hk
            cases hc
            exact ⟨.ref a, rfl, a, _, 0, _, rfl, rfl, h, atI_nat (j := 0) rfl, rfl, _, rfl, iteF ⟨.ref a, rfl, a, _, 1, _, rfl, rfl, h, atI_nat (j := 1) rfl, .inr ⟨_, rfl, q⟩⟩⟩
    | quo l =>
      cases hd with
      | @tup a _ _ h hs =>
        cases hs with
        | cons hk hs =>
          cases hs with
          | cons hc hs =>
            cases hs
            cases hk
            cases hc
            exact ⟨.ref a, rfl, a, _, 0, _, rfl, rfl, h, atI_nat (j := 0) rfl, rfl, _, rfl, iteT ⟨.ref a, rfl, a, _, 1, _, rfl, rfl, h, atI_nat (j := 1) rfl, l, rfl, by have := g.2; omega, q⟩⟩
theorem c_law_sign (D : DefAt K mg "_law_sign" s_law_sign ["box"]) (m_range : mg "range" = none) (c__law_draw : Cal P w K mg base CX0 1 "_law_draw" ["box", "many"] spDraw) : Cal P w K mg base CX0 2 "_law_sign" ["box"] (spSg K) := by
  refine D.cal (k := 1) sc_law_sign (fun vs H Q E h => ?_) fun f cdv A outer s H vs Q E hr h => ?_
  · obtain ⟨bx, d, rfl, _⟩ := h
    rfl
  · obtain ⟨bx, d, rfl, hb, q⟩ := h
    refine ⟨_, (pss_cons (ps_set (i := 1) sc_law_sign.nd rfl (Or.inl rfl) (pe_cal (c__law_draw.mono (by decide)) hr (by rfl) (pa_cons (pv 0) (pa_cons pe_int pa_nil))))
  (pss_cons (ps_if (pt_cmpR op_eq (pv 1) pe_int (nomark _)) (pss_one (ps_ret (pe_tup (pa_cons pe_str (pa_cons (pe_op op_add_str (pe_ix ix_str pe_str (pe_cal (c__law_draw.mono (by decide)) hr (by rfl) (pa_cons (pv 0) (pa_cons pe_int pa_nil))) (fun _ _ => rfl)) (pe_op op_mul_str (pe_slice sl_str pe_str po_none (po_some (pe_cal (c__law_draw.mono (by decide)) hr (by rfl) (pa_cons (pv 0) (pa_cons pe_int pa_nil))))) (pe_op op_add pe_int (pe_cal (c__law_draw.mono (by decide)) hr (by rfl) (pa_cons (pv 0) (pa_cons pe_int pa_nil)))))) pa_nil))))) pss_nil)
  (pss_cons (ps_if (pt_cmpR op_eq (pv 1) pe_int (nomark _)) (pss_one (ps_ret (pe_tup (pa_cons pe_str (pa_cons (pe_ix ix_list (pe_lst (pa_cons (pe_cal (c__law_draw.mono (by decide)) hr (by rfl) (pa_cons (pv 0) (pa_cons pe_int pa_nil))) (pa_cons (pe_op op_sub pe_int (pe_cal (c__law_draw.mono (by decide)) hr (by rfl) (pa_cons (pv 0) (pa_cons pe_int pa_nil)))) (pa_cons (pe_op op_mul (pe_cal (c__law_draw.mono (by decide)) hr (by rfl) (pa_cons (pv 0) (pa_cons pe_int pa_nil))) pe_int) pa_nil)))) (pe_cal (c__law_draw.mono (by decide)) hr (by rfl) (pa_cons (pv 0) (pa_cons pe_int pa_nil))) (fun _ _ => rfl)) pa_nil))))) pss_nil)
  (pss_cons (ps_if (pt_cmpR op_eq (pv 1) pe_int (nomark _)) (pss_one (ps_ret (pe_tup (pa_cons pe_str (pa_cons (pe_join pe_str (pe_lc rfl sc_law_sign.nd (pi_range1 (by rfl) m_range (pa_cons (pe_cal (c__law_draw.mono (by decide)) hr (by rfl) (pa_cons (pv 0) (pa_cons pe_int pa_nil))) pa_nil)) (blkOk_by (own := [("k", 2)]) (N := ["box", "kind", "k"]) (sc := defScope s_law_sign) (by decide +kernel)) (fun _ _ _ _ _ => (pg_name (i := 2) sc_law_sign.nd rfl (Or.inl rfl))) (fun _ _ _ _ _ => pts_nil) (fun _ _ _ _ _ => (pe_ix ix_str pe_str (pe_cal (c__law_draw.mono (by decide)) hr (by rfl) (pa_cons (pv 0) (pa_cons pe_int pa_nil))) (fun _ _ => rfl))))) pa_nil))))) pss_nil)
  (pss_one (ps_ret (pe_tup (pa_cons pe_str (pa_cons (pe_ix ix_str pe_str (pe_cal (c__law_draw.mono (by decide)) hr (by rfl) (pa_cons (pv 0) (pa_cons pe_int pa_nil))) (fun _ _ => rfl)) pa_nil))))))))), ?_⟩
    have sz : ∀ n : Nat, n ≤ 8 → n ≤ sizeLine := fun n h => Nat.le_trans h (by decide)
    have fin : ∀ (H' : Hp) (vs : List V) (s : Sg) (ds : List PyData), s.d = .tuple ds → Aft bx d H H' → DtAll K H' vs ds → s.good → ∀ p, H' p = none → Q (.ref p) (upd H' p (.tup vs)) := fun H' vs s ds e a h g p hp => by
      have a2 := a.trans (Aft.new (o := .tup vs) a.2 hp)
      refine q _ _ s a2 ?_ g
      rw [e]
      exact .tup (SqT.of upd_same) (DtAll.kb (Kb.new (S := []) hp) Lsts.nil h)
    refine ⟨.ref bx, rfl, bx, d, 5, rfl, by decide, hb, fun H1 r1 a1 g1 l1 => ?_⟩
    refine ⟨_, rfl, rfl, _, rfl, ?_⟩
    refine iteC ?_ ?_
    · refine ⟨.ref bx, rfl, bx, d, 3, rfl, by decide, a1.2, fun H2 r2 a2 g2 l2 => ?_⟩
      obtain ⟨_, e1, _⟩ := name_drawn g2 l2 (Int.le_refl 0) (by decide) (Int.le_refl 0) (by decide)
      refine ⟨_, _, _, rfl, rfl, by decide +kernel, e1, ?_⟩
      refine ⟨.ref bx, rfl, bx, d, 5, rfl, by decide, a2.2, fun H3 r3 a3 g3 l3 => ⟨_, rfl, _, rfl, by decide +kernel, ?_⟩⟩
      refine ⟨.ref bx, rfl, bx, d, 2, rfl, by decide, a3.2, fun H4 r4 a4 g4 l4 => ⟨_, _, rfl, rfl, ?_⟩⟩
      obtain ⟨c, e2, h1, h2, l, h3, h4⟩ := name_drawn g2 l2 g3 l3 g4 l4
      rw [e1] at e2
      cases e2
      refine ⟨_, _, rfl, rfl, h1, _, _, rfl, rfl, h2, sz _ (by simp), ?_⟩
      have all := ((a1.trans a2).trans a3).trans a4
      intro p hp
      have z := fin H4 [.str (Str.ofString "name"), .str (sx l)] (.name l) _ rfl all (.cons (.str _) (.cons (.str _) .nil)) h4 p hp
      rw [← h3] at z
      exact z
    refine ⟨_, rfl, rfl, _, rfl, ?_⟩
    refine iteC ?_ ?_
    · refine ⟨.ref bx, rfl, bx, d, 12, rfl, by decide, a1.2, fun H2 r2 a2 g2 l2 => ?_⟩
      refine ⟨.ref bx, rfl, bx, d, 3, rfl, by decide, a2.2, fun H3 r3 a3 g3 l3 => ⟨_, r3, rfl, rfl, ?_⟩⟩
      refine ⟨.ref bx, rfl, bx, d, 1000, rfl, by decide, a3.2, fun H4 r4 a4 g4 l4 => ⟨r4, _, rfl, rfl, .inl ⟨by omega, by omega⟩, sz _ (by simp), fun L hL => ?_⟩⟩
      have aL := Aft.new (o := .lst [.int r2, .int (999999999 - r3), .int (r4 * 977)]) a4.2 hL
      refine ⟨.ref bx, rfl, bx, d, 3, rfl, by decide, aL.2, fun H5 r5 a5 g5 l5 => ?_⟩
      have eL := a5.lst upd_same (a4.2.new hL).1
      have all := (((a1.trans a2).trans a3).trans a4).trans (aL.trans a5)
      obtain ⟨i, e, h⟩ : ∃ i : Int, atI [V.int r2, .int (999999999 - r3), .int (r4 * 977)] r5 = some (.int i) ∧ (0 ≤ i ∧ i ≤ 999999999) := by
        obtain h | h | h : r5 = 0 ∨ r5 = 1 ∨ r5 = 2 := by omega
        · subst h
          exact ⟨_, atI_nat (j := 0) rfl, by omega, by omega⟩
        · subst h
          exact ⟨_, atI_nat (j := 1) rfl, by omega, by omega⟩
        · subst h
          exact ⟨_, atI_nat (j := 2) rfl, by omega, by omega⟩
      refine ⟨L, _, r5, _, rfl, rfl, .inl (.inl eL), e, sz _ (by simp), ?_⟩
      obtain ⟨n, rfl⟩ : ∃ n : Nat, i = n := ⟨i.toNat, by omega⟩
      exact fin _ _ (.num n) _ rfl all (.cons (.str _) (.cons (.int _) .nil)) (by show n ≤ 999999999; omega)
    refine ⟨_, rfl, rfl, _, rfl, ?_⟩
    refine iteC ?_ ?_
    · dsimp only [tRet, tTup, tCons, tC]
      refine quo_end (K := K) (o1 := some (.int r1)) a1.2 fun H2 l a2 h1 h2 => ⟨sz _ (by simp), fin H2 _ (.quo l) _ rfl (a1.trans a2) (.cons (.str _) (.cons (.str _) .nil)) ⟨h2, h1⟩⟩
    · refine ⟨.ref bx, rfl, bx, d, 4, rfl, by decide, a1.2, fun H2 r2 a2 g2 l2 => ?_⟩
      obtain ⟨c, e, h⟩ : ∃ c, atI (Str.ofString "(),=").cps.toList r2 = some c ∧ isMark c = true := by
        obtain h | h | h | h : r2 = 0 ∨ r2 = 1 ∨ r2 = 2 ∨ r2 = 3 := by omega
        · subst h; exact ⟨40, by decide +kernel, rfl⟩
        · subst h; exact ⟨41, by decide +kernel, rfl⟩
        · subst h; exact ⟨44, by decide +kernel, rfl⟩
        · subst h; exact ⟨61, by decide +kernel, rfl⟩
      exact ⟨_, _, _, rfl, rfl, by decide +kernel, e, sz _ (by simp), fin H2 _ (.mark c) _ rfl (a1.trans a2) (.cons (.str _) (.cons (.str _) .nil)) h⟩
end
end Rs

namespace Rs
open PySem PySem.Spec PyProof.Rows L2 GxR Gx Gd
abbrev s_law_written : Stmt := topS 42
theorem sc_law_written : FnScope ["signs", "text", "last", "sign", "own"] ["signs"] (defScope s_law_written) := ⟨rfl, rfl, rfl, by decide +kernel, rfl, by decide +kernel, by decide +kernel⟩
abbrev s_law_loose : Stmt := topS 43
theorem sc_law_loose : FnScope ["box", "signs", "text", "last", "sign", "gap"] ["box", "signs"] (defScope s_law_loose) := ⟨rfl, rfl, rfl, by decide +kernel, rfl, by decide +kernel, by decide +kernel⟩
def spWritten (K : PySem.W.Frag) : Sp := fun vs H Q _ => ∃ (a : Addr) (xs : List V) (ss : List Sg), vs = [.ref a] ∧ H a = some (.lst xs) ∧ DtAll K H xs (ss.map Sg.d) ∧ (∀ s ∈ ss, s.good) ∧ ss.length ≤ 20 ∧ ∀ H', Kp H H' → Q (.str (sx (looseL (wr true ss)))) H'
theorem sx_app (a b : List Nat) : sx a ++ sx b = sx (a ++ b) := by
  refine TL.ext_tl ?_
  rw [TL.tl_append]
  show (sx a).cps.toList ++ (sx b).cps.toList = (sx (a ++ b)).cps.toList
  rw [sx_tl, sx_tl, sx_tl]
theorem eqV_sx (a b : List Nat) : eqV (.str (sx a)) (.str (sx b)) = decide (a = b) := sx_beq a b
theorem text_tight {s : Sg} (g : s.good) : inV (.str (sx s.text)) [.str (Str.ofString "("), .str (Str.ofString ")"), .str (Str.ofString ",")] = tight s := by
  rw [show Str.ofString "(" = sx [40] by decide +kernel, show Str.ofString ")" = sx [41] by decide +kernel, show Str.ofString "," = sx [44] by decide +kernel]
  show (eqV _ _ || (eqV _ _ || (eqV _ _ || false))) = _
  rw [eqV_sx, eqV_sx, eqV_sx, Bool.or_false]
  have no : ∀ (c : Nat), (∀ x r, s.text = x :: r → x ≠ c) → decide ([c] = s.text) = false := fun c h => decide_eq_false fun z => h c [] z.symm rfl
  cases s with
  | name l =>
    obtain ⟨_, _, ⟨c, r, rfl, h⟩, _⟩ := name_parts g
    have h := rg.mp h
    rw [no 40 (fun x r' e => by cases e; omega), no 41 (fun x r' e => by cases e; omega), no 44 (fun x r' e => by cases e; omega)]
    rfl
  | num n =>
    have h := TL.numL_digits n
    have e := text_num n
    rw [no 40 (fun x r' e' => by rw [e] at e'; have := h x (by rw [e']; exact List.mem_cons_self); omega), no 41 (fun x r' e' => by rw [e] at e'; have := h x (by rw [e']; exact List.mem_cons_self); omega), no 44 (fun x r' e' => by rw [e] at e'; have := h x (by rw [e']; exact List.mem_cons_self); omega)]
    rfl
  | quo l =>
    rw [no 40 (fun x r' e => by cases e; decide), no 41 (fun x r' e => by cases e; decide), no 44 (fun x r' e => by cases e; decide)]
    rfl
  | mark c =>
    show (decide ([40] = [c]) || (decide ([41] = [c]) || decide ([44] = [c]))) = (decide (c = 40) || (decide (c = 41) || decide (c = 44)))
    have e : ∀ d : Nat, decide ([d] = [c]) = decide (c = d) := fun d => by
      rw [Bool.eq_iff_iff, decide_eq_true_eq, decide_eq_true_eq]
      simp [eq_comm]
    rw [e, e, e]
section
variable {P : Program} {w : World} {K : PySem.W.Frag} {mg : Str → Option Value} {base : Heap}
theorem c_law_written (D : DefAt K mg "_law_written" s_law_written ["signs"]) (c__law_text : Cal P w K mg base CX0 2 "_law_text" ["sign"] (spText K)) : Cal P w K mg base CX0 3 "_law_written" ["signs"] (spWritten K) := by
  refine D.cal (k := 2) sc_law_written (fun vs H Q E h => ?_) fun f cdv A outer s H vs Q E hr h => ?_
  · obtain ⟨a, xs, ss, rfl, _⟩ := h
    rfl
  · obtain ⟨a, xs, ss, rfl, ha, hd, hg, hz, q⟩ := h
    refine ⟨_, (pss_cons (ps_set (i := 1) sc_law_written.nd rfl (Or.inl rfl) pe_str)
  (pss_cons (ps_set (i := 2) sc_law_written.nd rfl (Or.inl rfl) pe_str)
  (pss_cons (ps_for PassesOwn.never rfl (pi_list (pv 0)) (pg_name (i := 3) sc_law_written.nd rfl (Or.inl rfl)) (pss_cons (ps_set (i := 4) sc_law_written.nd rfl (Or.inl rfl) (pe_cal (c__law_text.mono (by decide)) hr (by rfl) (pa_cons (pv 3) pa_nil)))
  (pss_cons (ps_if (PW.pt (pw_and (pt_cmpR op_ne (pv 2) pe_str (nomark _)) (pw_and1 (pt_cmpR op_notIn_seq (pv 4) (pe_tup (pa_cons pe_str (pa_cons pe_str (pa_cons pe_str pa_nil)))) (by rfl))))) (pss_one (ps_set (i := 1) sc_law_written.nd rfl (Or.inl rfl) (pe_op op_add_str (pv 1) pe_str))) pss_nil)
  (pss_cons (ps_set (i := 1) sc_law_written.nd rfl (Or.inl rfl) (pe_op op_add_str (pv 1) (pv 4)))
  (pss_cons (ps_set (i := 2) sc_law_written.nd rfl (Or.inl rfl) pe_str)
  (pss_one (ps_if (pt_cmpR (op_eqD hr.r.units) (pv 3) (pe_tup (pa_cons pe_str (pa_cons pe_str pa_nil))) (nomark _)) (pss_one (ps_set (i := 2) sc_law_written.nd rfl (Or.inl rfl) pe_str)) pss_nil)))))))
  (pss_one (ps_ret (pv 1)))))), ?_⟩
    have hlen := hd.length
    rw [List.length_map] at hlen
    have tot := loose_len (wr true ss) (wr_mem hg)
    have wl : (wr true ss).length = ss.length := by
      have := congrArg List.length (wr_signs true ss)
      rw [List.length_map] at this
      exact this
    rw [wl] at tot
    have sz : sizeLine = 16777216 := rfl
    refine ⟨_, rfl, a, rfl, ⟨xs, .inl (.inl ha)⟩, ?_⟩
    refine ⟨fun i m σ H' => m = ss.length - i ∧ i ≤ ss.length ∧ (∃ (t : List Nat) (last : Str) (o3 o4 : Option V), σ = [some (.ref a), some (.str (sx t)), some (.str last), o3, o4] ∧ decide (V.str last = V.str (Str.ofString "(")) = flag ss i ∧ t ++ looseL (wr (flag ss i) (ss.drop i)) = looseL (wr true ss)) ∧ Kp H H',
      ⟨_, rfl, Nat.zero_le _, ⟨[], Str.ofString "(", none, none, rfl, decide_eq_true rfl, rfl⟩, Kb.refl H⟩, ?_⟩
    rintro i m σ H1 ⟨rfl, hi, ⟨t, last, o3, o4, rfl, el, ec⟩, k⟩
    have ha1 := k.keep a _ ha (by simp) nt_lst
    have tl : t.length ≤ 16 * ss.length := by
      have := congrArg List.length ec
      rw [List.length_append] at this
      omega
    by_cases hl : i < ss.length
    · obtain ⟨sg, hs⟩ : ∃ sg, ss[i]? = some sg := ⟨ss[i], List.getElem?_eq_getElem hl⟩
      have gs : sg.good := hg sg (List.mem_of_getElem? hs)
      have tz := text_len gs
      obtain ⟨v, hv⟩ : ∃ v, xs[i]? = some v := ⟨xs[i]'(by omega), List.getElem?_eq_getElem (by omega)⟩
      refine .inr ⟨⟨xs, v, .inl (.inl ha1), hv⟩, fun σ' H' => (∃ (t : List Nat) (last : Str) (o3 o4 : Option V), σ' = [some (.ref a), some (.str (sx t)), some (.str last), o3, o4] ∧ decide (V.str last = V.str (Str.ofString "(")) = flag ss (i + 1) ∧ t ++ looseL (wr (flag ss (i + 1)) (ss.drop (i + 1))) = looseL (wr true ss)) ∧ Kp H H',
        fun σ' H' ⟨z1, z2⟩ => ⟨_, by omega, rfl, hl, z1, z2⟩, ?_⟩
      rintro x H2 ⟨rfl, hy⟩
      have ey : v = x := Option.some.inj (hv.symm.trans (hy xs (.inl (.inl ha1))))
      subst ey
      have dv : Dt K H2 v sg.d := by
        obtain ⟨d', h1, h2⟩ := (DtAll.kb k Lsts.nil hd).get hv
        rw [List.getElem?_map, hs] at h1
        cases h1
        exact h2
      rw [wr_drop hs] at ec
      have ef : flag ss (i + 1) = isLeft sg := by
        show (match ss[i]? with | some s => isLeft s | none => false) = _
        rw [hs]
      -- the last part of the body: last = "x", then perhaps "("
      have fin : ∀ (H3 : Hp) (t2 : List Nat) (o2 o4 : Option V) (R : Ends), Kp H H3 → Dt K H3 v sg.d → t2 ++ looseL (wr (flag ss (i + 1)) (ss.drop (i + 1))) = looseL (wr true ss) →
          (∀ σ' H', ((∃ (t : List Nat) (last : Str) (o3 o4 : Option V), σ' = [some (.ref a), some (.str (sx t)), some (.str last), o3, o4] ∧ decide (V.str last = V.str (Str.ofString "(")) = flag ss (i + 1) ∧ t ++ looseL (wr (flag ss (i + 1)) (ss.drop (i + 1))) = looseL (wr true ss)) ∧ Kp H H') → R.nx σ' H') →
          tSeq (tAsg (tC (.str (Str.ofString "x"))) (gName 2)) (tIfS (tTest (tOp (rEqD K) (tVar 3) (tTup (tCons (tC (.str (Str.ofString "mark"))) (tCons (tC (.str (Str.ofString "("))) tNil))))) (tAsg (tC (.str (Str.ofString "("))) (gName 2)) tNext) R
            [some (.ref a), some (.str (sx t2)), o2, some v, o4] H3 := by
        intro H3 t2 o2 o4 R k3 dv3 e3 hR
        refine ⟨_, rfl, by show 2 ≤ sizeLine; decide, fun p hp => ?_⟩
        have k4 : Kp H3 (upd H3 p (.tup [.str (Str.ofString "mark"), .str (Str.ofString "(")])) := Kb.new hp
        refine ⟨sg.d, (Sg.mark 40).d, (dv3.kb k4 Lsts.nil).dp, .tup (SqT.of upd_same) (.cons (.str _) (.cons (.str _) .nil)), (good_ok gs).shaped, by decide +kernel, _, rfl, ?_⟩
        rw [show PyData.eqv sg.d (Sg.mark 40).d = isLeft sg from eqv_mark sg 40, ← ef]
        cases e : flag ss (i + 1) with
        | true => exact iteT (hR _ _ ⟨⟨t2, _, _, _, rfl, by rw [e]; decide +kernel, e3⟩, k3.trans k4⟩)
        | false => exact iteF (hR _ _ ⟨⟨t2, _, _, _, rfl, by rw [e]; decide +kernel, e3⟩, k3.trans k4⟩)
      refine ⟨_, rfl, v, sg, rfl, dv, gs, ?_⟩
      refine ⟨_, rfl, rfl, _, rfl, ?_⟩
      rw [el]
      have lt : (sx t).length + (sx sg.text).length ≤ sizeLine := by rw [sx_len, sx_len]; omega
      have more : ∀ (g : Nat), g = (if (flag ss i || tight sg) = true then 0 else 1) → (t ++ (List.replicate g 32 ++ sg.text)) ++ looseL (wr (flag ss (i + 1)) (ss.drop (i + 1))) = looseL (wr true ss) := fun g hg' => by
        rw [← ec, hg', List.append_assoc, List.append_assoc]
      cases e1 : flag ss i with
      | true =>
        refine iteF (iteF ⟨_, rfl, _, rfl, _, _, rfl, rfl, lt, ?_⟩)
        rw [sx_app]
        exact fin H2 _ _ _ _ k dv (more 0 (by rw [e1]; rfl)) fun σ' H' z => z
      | false =>
        refine iteT ⟨_, rfl, by show 3 ≤ sizeLine; decide, fun p hp => ?_⟩
        have k3 : Kp H2 (upd H2 p (.tup [.str (Str.ofString "("), .str (Str.ofString ")"), .str (Str.ofString ",")])) := Kb.new hp
        have dv3 := dv.kb k3 Lsts.nil
        refine ⟨p, _, rfl, .inr (SqT.of upd_same), rfl, rfl, !tight sg, ?_, ?_⟩
        · show V.bl (!inV _ _) = _
          rw [text_tight gs]
        cases e2 : tight sg with
        | true =>
          refine iteF ⟨_, rfl, _, rfl, _, _, rfl, rfl, lt, ?_⟩
          rw [sx_app]
          exact fin _ _ _ _ _ (k.trans k3) dv3 (more 0 (by rw [e1, e2]; rfl)) fun σ' H' z => z
        | false =>
          have e32 : Str.ofString " " = sx [32] := by decide +kernel
          refine iteT ⟨_, rfl, _, _, rfl, rfl, by rw [sx_len, e32, sx_len]; show t.length + 1 ≤ _; omega, ?_⟩
          rw [e32, sx_app]
          refine ⟨_, rfl, _, rfl, _, _, rfl, rfl, by rw [sx_len, sx_len, List.length_append]; show t.length + 1 + _ ≤ _; omega, ?_⟩
          rw [sx_app]
          exact fin _ _ _ _ _ (k.trans k3) dv3 (by have := more 1 (by rw [e1, e2]; rfl); simpa using this) fun σ' H' z => z
    · have ei : i = ss.length := by omega
      subst ei
      refine .inl ⟨⟨xs, .inl (.inl ha1), by omega⟩, ?_⟩
      rw [List.drop_length] at ec
      have ec : t ++ [] = _ := ec
      rw [List.append_nil] at ec
      refine ⟨_, rfl, ?_⟩
      rw [ec]
      exact q H1 k
end
theorem mul_sp {n : Int} (h0 : 0 ≤ n) (h3 : n < 3) : MulOk (Str.ofString " ") n ∧ Txt.mul (Str.ofString " ") n = sx (List.replicate n.toNat 32) := by
  obtain h | h | h : n = 0 ∨ n = 1 ∨ n = 2 := by omega
  · subst h
    exact ⟨⟨by decide, fun h => absurd (by decide) h, fun h => absurd (by decide) h⟩, by decide +kernel⟩
  · subst h
    exact ⟨mulB_ok (by decide +kernel), by decide +kernel⟩
  · subst h
    exact ⟨mulB_ok (by decide +kernel), by decide +kernel⟩
def kindsV : List V := [.str (Str.ofString "name"), .str (Str.ofString "number")]
theorem kind_of {K : PySem.W.Frag} {H : Hp} {v : V} : ∀ {s : Sg}, Dt K H v s.d → ∃ p xs x, v = .ref p ∧ SqT K H p xs ∧ atI xs 0 = some (.str x) ∧ inV (.str x) kindsV = s.run
  | .name l, h => by
    cases h with
    | @tup a _ _ h hs =>
      cases hs with
      | cons hk hs =>
        cases hk
        exact ⟨a, _, _, rfl, h, atI_nat (j := 0) rfl, (show inV _ _ = true by decide +kernel)⟩
  | .num n, h => by
    cases h with
    | @tup a _ _ h hs =>
      cases hs with
      | cons hk hs =>
        cases hk
        exact ⟨a, _, _, rfl, h, atI_nat (j := 0) rfl, (show inV _ _ = true by decide +kernel)⟩
  | .quo l, h => by
    cases h with
    | @tup a _ _ h hs =>
      cases hs with
      | cons hk hs =>
        cases hk
        exact ⟨a, _, _, rfl, h, atI_nat (j := 0) rfl, (show inV _ _ = false by decide +kernel)⟩
  | .mark c, h => by
    cases h with
    | @tup a _ _ h hs =>
      cases hs with
      | cons hk hs =>
        cases hk
        exact ⟨a, _, _, rfl, h, atI_nat (j := 0) rfl, (show inV _ _ = false by decide +kernel)⟩
def spLoose (K : PySem.W.Frag) : Sp := fun vs H Q _ => ∃ (bx d a : Addr) (xs : List V) (ss : List Sg), vs = [.ref bx, .ref a] ∧ Box bx d H ∧ H a = some (.lst xs) ∧ a ≠ bx ∧ DtAll K H xs (ss.map Sg.d) ∧ (∀ s ∈ ss, s.good) ∧ ss.length ≤ 20 ∧
  ∀ H' rows g0 g1, Aft bx d H H' → rows.map (·.2) = ss → Apart false rows → (∀ p ∈ rows, p.1 ≤ 2) → g0 ≤ 2 → g1 ≤ 2 → Q (.str (sx (List.replicate g0 32 ++ (looseL rows ++ List.replicate g1 32)))) H'
/-- what holds behind i signs -/
def Lz (K : PySem.W.Frag) (bx d a : Addr) (H0 : Hp) (ss : List Sg) (i : Nat) (σ : L2.St) (H : Hp) : Prop := ∃ (t : List Nat) (last : V) (s0 : Sg) (rows : List (Nat × Sg)) (g0 : Nat) (o4 o5 : Option V), σ = [some (.ref bx), some (.ref a), some (.str (sx t)), some last, o4, o5] ∧
  Dt K H last s0.d ∧ s0.run = lastRun false rows ∧ t = List.replicate g0 32 ++ looseL rows ∧ rows.map (·.2) = ss.take i ∧ Apart false rows ∧ (∀ p ∈ rows, p.1 ≤ 2) ∧ g0 ≤ 2 ∧ Aft bx d H0 H
section
variable {P : Program} {w : World} {K : PySem.W.Frag} {mg : Str → Option Value} {base : Heap}
theorem c_law_loose (D : DefAt K mg "_law_loose" s_law_loose ["box", "signs"]) (c__law_draw : Cal P w K mg base CX0 1 "_law_draw" ["box", "many"] spDraw) (c__law_text : Cal P w K mg base CX0 2 "_law_text" ["sign"] (spText K)) :
    Cal P w K mg base CX0 3 "_law_loose" ["box", "signs"] (spLoose K) := by
  refine D.cal (k := 2) sc_law_loose (fun vs H Q E h => ?_) fun f cdv A outer s H vs Q E hr h => ?_
  · obtain ⟨bx, d, a, xs, ss, rfl, _⟩ := h
    rfl
  · obtain ⟨bx, d, a, xs, ss, rfl, hb, ha, hne, hd, hg, hz, q⟩ := h
    refine ⟨_, (pss_cons (ps_set (i := 2) sc_law_loose.nd rfl (Or.inl rfl) (pe_op op_mul_str pe_str (pe_cal (c__law_draw.mono (by decide)) hr (by rfl) (pa_cons (pv 0) (pa_cons pe_int pa_nil)))))
  (pss_cons (ps_set (i := 3) sc_law_loose.nd rfl (Or.inl rfl) (pe_tup (pa_cons pe_str (pa_cons pe_str pa_nil))))
  (pss_cons (ps_for PassesOwn.never rfl (pi_list (pv 1)) (pg_name (i := 4) sc_law_loose.nd rfl (Or.inl rfl)) (pss_cons (ps_set (i := 5) sc_law_loose.nd rfl (Or.inl rfl) (pe_op op_mul_str pe_str (pe_cal (c__law_draw.mono (by decide)) hr (by rfl) (pa_cons (pv 0) (pa_cons pe_int pa_nil)))))
  (pss_cons (ps_if (PW.pt (pw_and (pt_cmpR op_eq (pv 5) pe_str (nomark _)) (pw_and (pt_cmpR op_in_seq (pe_ix ix_tup (pv 3) pe_int (fun _ _ => rfl)) (pe_tup (pa_cons pe_str (pa_cons pe_str pa_nil))) (by rfl)) (pw_and1 (pt_cmpR op_in_seq (pe_ix ix_tup (pv 4) pe_int (fun _ _ => rfl)) (pe_tup (pa_cons pe_str (pa_cons pe_str pa_nil))) (by rfl)))))) (pss_one (ps_set (i := 5) sc_law_loose.nd rfl (Or.inl rfl) pe_str)) pss_nil)
  (pss_cons (ps_set (i := 2) sc_law_loose.nd rfl (Or.inl rfl) (pe_op op_add_str (pe_op op_add_str (pv 2) (pv 5)) (pe_cal (c__law_text.mono (by decide)) hr (by rfl) (pa_cons (pv 4) pa_nil))))
  (pss_one (ps_set (i := 3) sc_law_loose.nd rfl (Or.inl rfl) (pv 4)))))))
  (pss_one (ps_ret (pe_op op_add_str (pv 2) (pe_op op_mul_str pe_str (pe_cal (c__law_draw.mono (by decide)) hr (by rfl) (pa_cons (pv 0) (pa_cons pe_int pa_nil)))))))))), ?_⟩
    have hlen := hd.length
    rw [List.length_map] at hlen
    have sz : sizeLine = 16777216 := rfl
    refine ⟨.ref bx, rfl, bx, d, 3, rfl, by decide, hb, fun H1 r1 a1 g1 l1 => ?_⟩
    obtain ⟨m1, m2⟩ := mul_sp g1 l1
    refine ⟨_, _, rfl, rfl, m1, ?_⟩
    rw [m2]
    refine ⟨by show 2 ≤ sizeLine; decide, fun p0 hp0 => ?_⟩
    have aL := Aft.new (o := .tup [.str (Str.ofString "mark"), .str (Str.ofString "(")]) a1.2 hp0
    have d0 : Dt K (upd H1 p0 (.tup [.str (Str.ofString "mark"), .str (Str.ofString "(")])) (.ref p0) (Sg.mark 40).d := .tup (SqT.of upd_same) (.cons (.str _) (.cons (.str _) .nil))
    have a01 := a1.trans aL
    have ha1 := a01.lst ha hne
    refine ⟨_, rfl, a, rfl, ⟨xs, .inl (.inl ha1)⟩, ?_⟩
    refine ⟨fun i m σ H' => m = ss.length - i ∧ i ≤ ss.length ∧ Lz K bx d a H ss i σ H', ⟨_, rfl, Nat.zero_le _, _, .ref p0, .mark 40, [], r1.toNat, none, none, rfl, d0, rfl, by simp [looseL], rfl, trivial, (fun p hp => by cases hp), by omega, a01⟩, ?_⟩
    rintro i m σ H2 ⟨rfl, hi, t, last, s0, rows, g0, o4, o5, rfl, dl, er, et, em, hap, hgp, hg0, a2⟩
    have ha2 := a2.lst ha hne
    have rl : rows.length = i := by
      have := congrArg List.length em
      rw [List.length_map, List.length_take] at this
      omega
    have hrg : ∀ p ∈ rows, p.2.good ∧ p.1 ≤ 2 := fun p hp => ⟨hg _ (List.mem_of_mem_take (em ▸ List.mem_map_of_mem (f := fun p : Nat × Sg => p.2) hp)), hgp p hp⟩
    have tl : t.length ≤ 2 + 16 * ss.length := by
      have := loose_len rows hrg
      rw [et, List.length_append, List.length_replicate]
      omega
    by_cases hl : i < ss.length
    · obtain ⟨sg, hs⟩ : ∃ sg, ss[i]? = some sg := ⟨ss[i], List.getElem?_eq_getElem hl⟩
      have gs : sg.good := hg sg (List.mem_of_getElem? hs)
      have tz := text_len gs
      obtain ⟨v, hv⟩ : ∃ v, xs[i]? = some v := ⟨xs[i]'(by omega), List.getElem?_eq_getElem (by omega)⟩
      refine .inr ⟨⟨xs, v, .inl (.inl ha2), hv⟩, Lz K bx d a H ss (i + 1), fun σ' H' z => ⟨_, by omega, rfl, hl, z⟩, ?_⟩
      rintro x Hy ⟨rfl, hy⟩
      have ey : v = x := Option.some.inj (hv.symm.trans (hy xs (.inl (.inl ha2))))
      subst ey
      have dv : Dt K Hy v sg.d := by
        obtain ⟨d', h1, h2⟩ := (DtAll.kb a2.1 hb.lsts hd).get hv
        rw [List.getElem?_map, hs] at h1
        cases h1
        exact h2
      -- text = text + gap + ..; last = sign
      have fin : ∀ (H3 : Hp) (g : Nat) (R : Ends) (o3 : Option V), Aft bx d H H3 → Dt K H3 v sg.d → g ≤ 2 → (s0.run = true → sg.run = true → 1 ≤ g) → (∀ σ' H', Lz K bx d a H ss (i + 1) σ' H' → R.nx σ' H') →
          tSeq (tAsg (tOp (fun x y H Q => ∃ i j, x = V.str i ∧ y = V.str j ∧ i.length + j.length ≤ sizeLine ∧ Q (.str (i ++ j)) H) (tOp (fun x y H Q => ∃ i j, x = V.str i ∧ y = V.str j ∧ i.length + j.length ≤ sizeLine ∧ Q (.str (i ++ j)) H) (tVar 2) (tVar 5)) (tCall (spText K) [] E0 (tCons (tVar 4) tNil))) (gName 2)) (tAsg (tVar 4) (gName 3)) R
            [some (.ref bx), some (.ref a), some (.str (sx t)), o3, some v, some (.str (sx (List.replicate g 32)))] H3 := by
        intro H3 g R o3 a3 dv3 hg2 hap2 hR
        refine ⟨_, rfl, _, rfl, _, _, rfl, rfl, by rw [sx_len, sx_len, List.length_replicate]; omega, ?_⟩
        rw [sx_app]
        refine ⟨_, rfl, v, sg, rfl, dv3, gs, _, _, rfl, rfl, by rw [sx_len, sx_len, List.length_append, List.length_replicate]; omega, ?_⟩
        rw [sx_app]
        refine ⟨_, rfl, hR _ _ ⟨_, v, sg, rows ++ [(g, sg)], g0, _, _, rfl, dv3, (lastRun_snoc rows false g sg).symm, ?_, ?_, apart_snoc rows false g sg hap (fun h => hap2 (er.trans h)), ?_, hg0, a3⟩⟩
        · rw [loose_snoc, et]
          simp
        · rw [List.map_append, em, List.take_add_one, hs]
          rfl
        · intro p hp
          rcases List.mem_append.mp hp with h | h
          · exact hgp p h
          · rw [List.mem_singleton.mp h]
            exact hg2
      refine ⟨.ref bx, rfl, bx, d, 3, rfl, by decide, a2.2, fun H3 r3 a3 g3 l3 => ?_⟩
      obtain ⟨m3, m4⟩ := mul_sp g3 l3
      refine ⟨_, _, rfl, rfl, m3, ?_⟩
      rw [m4]
      have a13 := a2.trans a3
      have dv3 := a3.dt a2.2 dv
      have dl3 := a3.dt a2.2 dl
      refine ⟨_, rfl, rfl, _, rfl, ?_⟩
      have eq0 : decide (V.str (sx (List.replicate r3.toNat 32)) = V.str (Str.ofString "")) = decide (r3.toNat = 0) := by
        rw [Bool.eq_iff_iff, decide_eq_true_eq, decide_eq_true_eq, show Str.ofString "" = sx [] by decide +kernel]
        constructor
        · intro z
          have := congrArg List.length (sx_inj (V.str.inj z))
          rw [List.length_replicate] at this
          exact this
        · intro z
          rw [z]
          rfl
      rw [eq0]
      by_cases h0 : r3.toNat = 0
      · rw [decide_eq_true h0]
        obtain ⟨p1, ys1, x1, e1, q1, i1, k1⟩ := kind_of dl3
        refine iteT ⟨last, rfl, p1, ys1, 0, .str x1, e1, rfl, q1, i1, by show 2 ≤ sizeLine; decide, fun p hp => ?_⟩
        have a4 := Aft.new (o := .tup kindsV) a13.2 hp
        have dv4 := a4.dt a13.2 dv3
        refine ⟨p, kindsV, rfl, .inr (SqT.of upd_same), rfl, rfl, s0.run, congrArg V.bl k1, ?_⟩
        have a14 := a13.trans a4
        cases er0 : s0.run with
        | false =>
          refine iteF (iteF ?_)
          exact fin _ _ _ _ a14 dv4 (by omega) (fun z => by rw [er0] at z; cases z) fun σ' H' z => z
        | true =>
          obtain ⟨p2, ys2, x2, e2, q2, i2, k2⟩ := kind_of dv4
          refine iteT ⟨v, rfl, p2, ys2, 0, .str x2, e2, rfl, q2, i2, by show 2 ≤ sizeLine; decide, fun p3 hp3 => ?_⟩
          have a5 := Aft.new (o := .tup kindsV) a14.2 hp3
          have dv5 := a5.dt a14.2 dv4
          refine ⟨p3, kindsV, rfl, .inr (SqT.of upd_same), rfl, rfl, sg.run, congrArg V.bl k2, ?_⟩
          have a15 := a14.trans a5
          cases er1 : sg.run with
          | false =>
            refine iteF ?_
            exact fin _ _ _ _ a15 dv5 (by omega) (fun _ z => by rw [er1] at z; cases z) fun σ' H' z => z
          | true =>
            refine iteT ?_
            exact fin _ 1 _ _ a15 dv5 (by decide) (fun _ _ => Nat.le_refl _) fun σ' H' z => z
      · rw [decide_eq_false h0]
        refine iteF (iteF ?_)
        exact fin _ _ _ _ a13 dv3 (by omega) (fun _ _ => by omega) fun σ' H' z => z
    · have ei : i = ss.length := by omega
      subst ei
      refine .inl ⟨⟨xs, .inl (.inl ha2), by omega⟩, ?_⟩
      rw [List.take_length] at em
      refine ⟨_, rfl, .ref bx, rfl, bx, d, 3, rfl, by decide, a2.2, fun H3 r3 a3 g3 l3 => ?_⟩
      obtain ⟨m3, m4⟩ := mul_sp g3 l3
      refine ⟨_, _, rfl, rfl, m3, ?_⟩
      rw [m4]
      refine ⟨_, _, rfl, rfl, by rw [sx_len, sx_len, List.length_replicate]; omega, ?_⟩
      rw [sx_app, et, List.append_assoc]
      exact q H3 rows g0 r3.toNat (a2.trans a3) em hap hgp hg0 (by omega)
end
end Rs

namespace Gd
open PySem PySem.Spec PyProof.Rows L2 GxR Gx
theorem call_reprR {X : Cx} {k : Nat} (hr : RoomG k X.A) : CallR X (.builtin "repr") (rRepr X.K) := call_repr (by have := hr.r.un; omega) hr.g
theorem from_le : ∀ (ts : List Str) (k : Nat) (acc : Str), (textFrom k acc ts).length ≤ acc.length + piled ts
  | [], k, acc => by show acc.length ≤ _; omega
  | t :: ts, k, acc => by
    have ih := from_le ts (k + 1) (acc ++ (if k > 0 then ", " else "" : String) ++ t)
    rw [Str.length_append, Str.length_append] at ih
    have h2 : (Str.ofString (if k > 0 then ", " else "" : String)).length ≤ 2 := by split <;> decide +kernel
    have e : piled (t :: ts) = t.length + 2 + piled ts := by simp [piled]
    show (textFrom (k + 1) _ ts).length ≤ _
    rw [e]
    omega
theorem list_le (ts : List Str) : (listText ts).length ≤ piled ts + 2 := by
  unfold listText
  have h := from_le ts 0 (Str.ofString "[")
  rw [Str.length_append]
  have e1 : (Str.ofString "[").length = 1 := by decide +kernel
  have e2 : (Str.ofString "]").length = 1 := by decide +kernel
  rw [e1] at h
  omega
end Gd
namespace Rs
open PySem PySem.Spec PyProof.Rows L2 GxR Gx Gd
abbrev s_law_list_is : Stmt := topS 33
theorem sc_law_list_is : FnScope ["actual", "due"] ["actual", "due"] (defScope s_law_list_is) := ⟨rfl, rfl, rfl, by decide +kernel, rfl, by decide +kernel, by decide +kernel⟩
abbrev s_law_place : Stmt := topS 44
theorem sc_law_place : FnScope ["line", "e"] ["line"] (defScope s_law_place) := ⟨rfl, rfl, rfl, by decide +kernel, rfl, by decide +kernel, by decide +kernel⟩
/-! ### how long a list of signs is when shown -/
theorem tuple_le {ts : List Str} (h : ts ≠ []) : (tupleText ts).length ≤ piled ts + 3 := by
  unfold tupleText
  have hj := join_length_add ts h
  rw [Str.length_append, Str.length_append]
  have e1 : (Str.ofString "(").length = 1 := by decide +kernel
  have e2 : (Str.ofString (if (ts.length == 1) = true then ",)" else ")" : String)).length ≤ 2 := by split <;> decide +kernel
  omega
theorem repr_le {l : List Nat} (h : ∀ c ∈ l, c < 1114112) : (reprText (sx l)).length ≤ 10 * l.length + 2 := by
  have := StrLaws.reprText_len (sx l) (by rw [sx_tl]; exact fun c hc => Nat.lt_of_lt_of_le (h c hc) (by decide))
  rw [sx_len] at this
  exact this
theorem run_small {l : List Nat} (h : l.all isRun = true) : ∀ c ∈ l, c < 1114112 := fun c hc => by
  have h1 := List.all_eq_true.mp h c hc
  unfold isRun isSmall isDigit at h1
  rw [Bool.or_eq_true, Bool.or_eq_true, rg, rg, rg] at h1
  omega
theorem sign_le {s : Sg} (g : s.good) : s.d.shown.length ≤ 300 := by
  have pair : ∀ (a b : Str), a.length ≤ 20 → b.length ≤ 200 → (tupleText [a, b]).length ≤ 300 := fun a b h1 h2 => by
    have := tuple_le (ts := [a, b]) (by simp)
    rw [piled_cons, piled_cons, piled_nil] at this
    omega
  cases s with
  | name l => exact pair _ _ (by decide +kernel) (by have := repr_le (run_small (name_run g)); have := (name_parts g).2.1; show (reprText (sx l)).length ≤ 200; omega)
  | num n =>
    refine pair _ _ (by decide +kernel) ?_
    have e : (PyData.int (n : Int)).shown = Str.ofString (toString (n : Int)) := rfl
    have h : (TL.numL n).length ≤ 9 := TL.numL_len (by decide) (by have : n ≤ 999999999 := g; omega)
    have e2 : (Str.ofString (toString (n : Int))).length = (TL.numL n).length := by
      show (Str.ofString (toString (n : Int))).cps.size = _
      rw [← Array.length_toList]
      exact congrArg List.length (TL.tl_num n)
    rw [e, e2]
    omega
  | quo l =>
    refine pair _ _ (by decide +kernel) ?_
    have := repr_le (l := l) fun c hc => by
      have h := List.all_eq_true.mp g.1 c hc
      rw [Bool.or_eq_true, decide_eq_true_eq] at h
      rcases h with h | h
      · unfold isChar at h
        rw [Bool.and_eq_true, rg] at h
        omega
      · omega
    have := g.2
    show (reprText (sx l)).length ≤ 200
    omega
  | mark c =>
    refine pair _ _ (by decide +kernel) ?_
    have := repr_le (l := [c]) fun x hx => by
      rw [List.mem_singleton.mp hx]
      rcases mark_of g with h | h | h | h <;> omega
    show (reprText (sx [c])).length ≤ 200
    simp at this
    omega
theorem all_le : ∀ (ss : List Sg), (∀ s ∈ ss, s.good) → piled (PyData.shownAll (ss.map Sg.d)) ≤ 302 * ss.length
  | [], _ => Nat.le_refl _
  | s :: r, h => by
    have h1 := sign_le (h s List.mem_cons_self)
    have ih := all_le r fun s hs => h s (List.mem_cons_of_mem _ hs)
    show piled (s.d.shown :: PyData.shownAll (r.map Sg.d)) ≤ _
    rw [piled_cons, List.length_cons]
    omega
theorem signs_shown {ss : List Sg} (h : ∀ s ∈ ss, s.good) (hz : ss.length ≤ 20) : (PyData.list (ss.map Sg.d)).showable = true ∧ (PyData.list (ss.map Sg.d)).hasDict = false ∧ (PyData.list (ss.map Sg.d)).depth ≤ 64 ∧ (PyData.list (ss.map Sg.d)).shown.length ≤ sizeLine := by
  refine ⟨?_, ?_, ?_, ?_⟩
  · show PyData.showableAll (ss.map Sg.d) = true
    clear hz
    induction ss with
    | nil => rfl
    | cons s r ih =>
      show (s.d.showable && PyData.showableAll (r.map Sg.d)) = true
      rw [ih fun s hs => h s (List.mem_cons_of_mem _ hs), Bool.and_true]
      cases s with
      | name l => rfl
      | num n =>
        have hn : n ≤ 999999999 := h (.num n) List.mem_cons_self
        show (true && (decide ((n : Int).natAbs.log2 < 1920) && true)) = true
        have : (n : Int).natAbs = n := by omega
        rw [this, decide_eq_true]
        · rfl
        · by_cases h0 : n = 0
          · rw [h0]
            decide
          · have := (Nat.log2_lt h0).mpr (show n < 2 ^ 30 by omega)
            omega
      | quo l => rfl
      | mark c => rfl
  · show PyData.hasDictAll (ss.map Sg.d) = false
    clear hz h
    induction ss with
    | nil => rfl
    | cons s r ih =>
      show (s.d.hasDict || PyData.hasDictAll (r.map Sg.d)) = false
      rw [ih]
      cases s <;> rfl
  · show PyData.depthAll (ss.map Sg.d) + 1 ≤ 64
    have : PyData.depthAll (ss.map Sg.d) ≤ 1 := by
      clear hz h
      induction ss with
      | nil => exact Nat.zero_le _
      | cons s r ih =>
        show max s.d.depth (PyData.depthAll (r.map Sg.d)) ≤ 1
        refine Nat.max_le.mpr ⟨?_, ih⟩
        cases s <;> exact Nat.le_refl _
    omega
  · have h1 := list_le (PyData.shownAll (ss.map Sg.d))
    have h2 := all_le ss h
    have : sizeLine = 16777216 := rfl
    show (listText (PyData.shownAll (ss.map Sg.d))).length ≤ _
    omega
def spListIs (K : PySem.W.Frag) : Sp := fun vs H Q _ => ∃ (p a : Addr) (xs ys : List V) (ss : List Sg), vs = [.ref p, .ref a] ∧ H p = some (.lst xs) ∧ H a = some (.lst ys) ∧ DtAll K H xs (ss.map Sg.d) ∧ DtAll K H ys (ss.map Sg.d) ∧ (∀ s ∈ ss, s.good) ∧ ss.length ≤ 20 ∧ ∀ H', Kp H H' → Q (.bl true) H'
def spPlace (ts : List Addr) : Sp := fun vs H Q _ => ∃ (l : List Nat) (n : Nat), vs = [.str (sx l)] ∧ l.length ≤ 1000 ∧ (∀ T ∈ ts, TabG H T) ∧ splitR l = .bad n ∧ ∀ H', Kp H H' → Q (.int (n : Int)) H'
section
variable {P : Program} {w : World} {K : PySem.W.Frag} {mg : Str → Option Value} {base : Heap}
theorem c_law_list_is (D : DefAt K mg "_law_list_is" s_law_list_is ["actual", "due"]) (m_isinstance : mg "isinstance" = none) (m_list : mg "list" = none) (m_repr : mg "repr" = none) : Cal P w K mg base CX0 1 "_law_list_is" ["actual", "due"] (spListIs K) := by
  refine D.cal (k := 0) sc_law_list_is (fun vs H Q E h => ?_) fun f cdv A outer s H vs Q E hr h => ?_
  · obtain ⟨p, a, xs, ys, ss, rfl, _⟩ := h
    rfl
  · obtain ⟨p, a, xs, ys, ss, rfl, hp, ha, hx, hy, hg, hz, q⟩ := h
    refine ⟨_, (pss_one (ps_ret (pe_and (pe_callB call_isi (by rfl) m_isinstance (by decide +kernel) (pa_cons (pv 0) (pa_cons (pe_bltn (v := .ty "list") (by rfl) m_list (by decide +kernel) rfl) pa_nil))) (pe_one (pe_cmpR op_eq (pe_callB (call_reprR hr) (by rfl) m_repr (by decide +kernel) (pa_cons (pv 0) pa_nil)) (pe_callB (call_reprR hr) (by rfl) m_repr (by decide +kernel) (pa_cons (pe_callTy call_list_of (by rfl) m_list (by decide +kernel) (pa_cons (pv 1) pa_nil)) pa_nil)) (nomark _)))))), ?_⟩
    obtain ⟨s1, s2, s3, s4⟩ := signs_shown hg hz
    refine ⟨_, rfl, .ref p, .ty "list", _, _, true, rfl, ClsV.ty "list", .base (.lst hp), kit_ty (by decide +kernel), true, rfl, iteT ?_⟩
    refine ⟨_, rfl, .ref p, .list (ss.map Sg.d), rfl, .lst (.inl (.inl hp)) hx.dp, s1, s2, s3, s4, ?_⟩
    refine ⟨_, rfl, a, ys, rfl, .inl (.inl (.inl ha)), fun L hL => ?_⟩
    have k1 : Kp H (upd H L (.lst ys)) := Kb.new hL
    refine ⟨.ref L, .list (ss.map Sg.d), rfl, .lst (.inl (.inl upd_same)) (DtAll.kb k1 Lsts.nil hy).dp, s1, s2, s3, s4, rfl, ?_⟩
    rw [decide_eq_true rfl]
    exact q _ k1
/-- the classes of the error -/
structure BadX (K : PySem.W.Frag) (mg : Str → Option Value) (C CV : Addr) : Prop where
  g : mg "BadSigns" = some (.ref C)
  gV : mg "ViewError" = some (.ref CV)
  ex : PySem.W.exmOne K (.ref C) (.ref CV) = some true
  is : ExcK K C
  k1 : PySem.W.kitOne K (.ref C) (.ref C) = some true
  k2 : PySem.W.kitOne K (.ref C) (.type "ValueError") = some true
  xf : XfC K C
  no : PySem.W.findIn K (.ref C) "offset" = some none
theorem c_law_place {C CV : Addr} {ts : List Addr} (D : DefAt K mg "_law_place" s_law_place ["line"]) (B : BadX K mg C CV) (m_isinstance : mg "isinstance" = none) (m_ValueError : mg "ValueError" = none)
    (c_split_line : CalX P w K mg base 6 "split_line" ["line"] (spSplit K C ts)) : Cal P w K mg base CX0 7 "_law_place" ["line"] (spPlace ts) := by
  refine D.cal (k := 6) sc_law_place (fun vs H Q E h => ?_) fun f cdv A outer s H vs Q E hr h => ?_
  · obtain ⟨l, n, rfl, _⟩ := h
    rfl
  · obtain ⟨l, n, rfl, hz, hT, e, q⟩ := h
    have g_BadSigns := B.g
    refine ⟨_, pss_cons (ps_try_as (i := 1) (tb := fun W => tDrop (tCallS (spSplit K C ts) (WE W) (tCons (tVar 0) tNil))) (Wout := fun _ _ _ _ => False) rfl rfl sc_law_place.nd rfl rfl ⟨rfl, by decide, Or.inl B.gV⟩ takes0
        (fun W pn xe tk _ => pss_one (ps_expr (by exact (pe_calX c_split_line hr (by rfl) (fun σ => passAt tk σ) (by exact (pa_cons (pv 0) pa_nil))))))
        (fun a oe cls d pn hz hf => pss_cons (ps_if (PW.pt (pw_and (pt_val (pe_callB (call_isX B.is hz hf) (by rfl) m_isinstance (by decide +kernel) (pa_cons (pv 1) (pa_cons (pe_glob (v := .ref C) rfl g_BadSigns rfl) pa_nil))))
            (pw_and1 (pt_val (pe_callB (call_isX B.is hz hf) (by rfl) m_isinstance (by decide +kernel) (pa_cons (pv 1) (pa_cons (pe_bltn (v := .ty "ValueError") (by rfl) m_ValueError (by decide +kernel) rfl) pa_nil)))))))
          (pss_one (ps_ret (pe_xf B.xf B.no hz hf (pv 1)))) pss_nil) (pss_one (ps_ret (pe_un un_neg pe_int)))))
      (pss_one (ps_ret (pe_un un_neg pe_int))), ?_⟩
    refine ⟨_, rfl, l, rfl, hz, hT, ?_⟩
    rw [e]
    intro d H' k hx
    refine ⟨true, B.ex, fun _ a ha => ?_, fun z => by cases z⟩
    exact ⟨_, rfl, .ref C, .ref C, true, d, _, rfl, rfl, rfl, hx, (fun u hu => hu), B.k1, true, rfl, iteT ⟨_, rfl, .ty "ValueError", .type "ValueError", true, d, _, rfl, rfl, rfl, hx, (fun u hu => hu), B.k2, true, rfl, iteT ⟨_, rfl, rfl, rfl, d, _, .int (n : Int), rfl, hx, rfl, q H' k⟩⟩⟩
end
end Rs

namespace Rs
open PySem PySem.Spec PyProof.Rows L2 GxR Gx Gd
abbrev s_law : Stmt := topS 45
theorem sc_law : FnScope ["script", "box", "signs", "line", "written", "bads", "at", "offsets", "head", "tail", "k"] ["script"] (defScope s_law) := ⟨rfl, rfl, rfl, by decide +kernel, rfl, by decide +kernel, by decide +kernel⟩
def badsS : List Str := [Str.ofString "!", Str.ofString "a_", Str.ofString "Row", Str.ofString "12a", Str.ofString "007", Str.ofString "abcdefghijklm", Str.ofString "1234567890", Str.ofString "\"a", Str.ofString "\"a\\t\"", Str.ofString "\"\\", Str.ofString "\t", Str.ofString "\"a\tb\"", Str.ofString "-", Str.ofString "_a", Str.ofString "aB", Str.ofString "00"]
def offsL : List Int := [0, 1, 0, 0, 0, 0, 0, 0, 0, 0, 0, 0, 0, 0, 0, 0]
def tailsS : List Str := [Str.ofString "", Str.ofString " x"]
def isBad : Out → Nat → Bool
  | .bad o, n => o == n
  | _, _ => false
theorem isBad_eq {o : Out} {n : Nat} (h : isBad o n = true) : o = .bad n := by
  cases o with
  | ok ss => cases h
  | bad x => rw [show x = n from eq_of_beq h]
def badChk (i j : Nat) : Bool := (decide (i = 7 ∨ i = 9) && decide (j = 1)) || (match badsS[i]?, tailsS[j]?, offsL[i]? with
  | some b, some t, some o => isBad (splitR (b.cps.toList ++ t.cps.toList)) o.toNat && (decide (0 ≤ o) && decide (b.cps.toList.length + t.cps.toList.length ≤ 20))
  | _, _, _ => false)
theorem bads_ok : ((List.range 16).all fun i => (List.range 2).all fun j => badChk i j) = true := by decide +kernel
theorem bad_at {i j : Nat} (hi : i < 16) (hj : j < 2) (hn : ¬ ((i = 7 ∨ i = 9) ∧ j = 1)) : ∃ (b t : List Nat) (o : Nat), badsS[i]? = some (sx b) ∧ tailsS[j]? = some (sx t) ∧ offsL[i]? = some (o : Int) ∧ splitR (b ++ t) = .bad o ∧ b.length + t.length ≤ 20 := by
  have h := List.all_eq_true.mp (List.all_eq_true.mp bads_ok i (List.mem_range.mpr hi)) j (List.mem_range.mpr hj)
  unfold badChk at h
  have h1 : (decide (i = 7 ∨ i = 9) && decide (j = 1)) = false := by
    rw [Bool.and_eq_false_iff, decide_eq_false_iff_not, decide_eq_false_iff_not]
    by_cases z : i = 7 ∨ i = 9
    · exact .inr fun z2 => hn ⟨z, z2⟩
    · exact .inl z
  rw [h1, Bool.false_or] at h
  obtain ⟨b, eb⟩ : ∃ b, badsS[i]? = some b := ⟨badsS[i]'hi, List.getElem?_eq_getElem hi⟩
  obtain ⟨t, et⟩ : ∃ t, tailsS[j]? = some t := ⟨tailsS[j]'hj, List.getElem?_eq_getElem hj⟩
  obtain ⟨o, eo⟩ : ∃ o, offsL[i]? = some o := ⟨offsL[i]'hi, List.getElem?_eq_getElem hi⟩
  rw [eb, et, eo] at h
  have h : (_ && (_ && _)) = true := h
  rw [Bool.and_eq_true, Bool.and_eq_true, decide_eq_true_eq, decide_eq_true_eq] at h
  obtain ⟨h2, h3, h4⟩ := h
  exact ⟨b.cps.toList, t.cps.toList, o.toNat, by rw [eb, sx_of], by rw [et, sx_of], by rw [eo]; congr 1; omega, isBad_eq h2, h4⟩
theorem sps_end (g : Nat) : splitR (List.replicate g 32) = .ok [] := by
  have := split_sps g []
  rw [List.append_nil] at this
  rw [this]
  rfl
theorem hd_sps (g : Nat) : Hd (List.replicate g 32) := by
  cases g with
  | zero => exact .inl rfl
  | succ g => exact hd_32 _
theorem loose_ok {rows : List (Nat × Sg)} {g0 g1 : Nat} (hg : ∀ p ∈ rows, p.2.good) (ha : Apart false rows) : splitR (List.replicate g0 32 ++ (looseL rows ++ List.replicate g1 32)) = .ok (rows.map (·.2)) := by
  rw [split_sps, split_loose rows false _ hg ha (hd_sps g1), sps_end]
  simp [Out.shift]
theorem loose_bad {rows : List (Nat × Sg)} {g0 g1 o : Nat} {b : List Nat} (hg : ∀ p ∈ rows, p.2.good) (ha : Apart false rows) (hb : splitR b = .bad o) :
    splitR ((List.replicate g0 32 ++ (looseL rows ++ List.replicate g1 32)) ++ (32 :: b)) = .bad ((List.replicate g0 32 ++ (looseL rows ++ List.replicate g1 32)).length + 1 + o) := by
  have e : (List.replicate g0 32 ++ (looseL rows ++ List.replicate g1 32)) ++ (32 :: b) = List.replicate g0 32 ++ (looseL rows ++ (List.replicate g1 32 ++ (32 :: b))) := by simp
  have hd : Hd (List.replicate g1 32 ++ (32 :: b)) := by
    cases g1 with
    | zero => exact hd_32 _
    | succ g => exact hd_32 _
  rw [e, split_sps, split_loose rows false _ hg ha hd, split_sps, splitR_sp, hb]
  simp [Out.shift]
  omega
theorem wr_ok {ss : List Sg} (hg : ∀ s ∈ ss, s.good) : splitR (looseL (wr true ss)) = .ok ss := by
  have := split_loose (wr true ss) false [] (fun p hp => (wr_mem hg p hp).1) (wr_apart true false ss (fun z => by cases z)) (.inl rfl)
  rw [List.append_nil, wr_signs, splitR_nil] at this
  rw [this]
  simp [Out.shift]
def spLaw (K : PySem.W.Frag) (ts : List Addr) : Sp := fun vs H Q _ => ∃ (a : Addr) (ns : List Int), vs = [.ref a] ∧ SqL K H a (ns.map V.int) ∧ (∀ T ∈ ts, TabG H T) ∧ ∀ H', Q (.bl true) H'
section
variable {P : Program} {w : World} {K : PySem.W.Frag} {mg : Str → Option Value} {base : Heap}
theorem ok_law {C : Addr} {ts : List Addr} {f : Addr} {fd : FuncData} (F : Fun K "law" "law" s_law f fd) (m_range : mg "range" = none) (m_len : mg "len" = none) (m_int : mg "int" = none)
    (c__law_digits : Cal P w K mg base CX0 2 "_law_digits" ["script", "first", "last"] (spDigits K)) (c__law_draw : Cal P w K mg base CX0 1 "_law_draw" ["box", "many"] spDraw) (c__law_sign : Cal P w K mg base CX0 2 "_law_sign" ["box"] (spSg K)) (c__law_loose : Cal P w K mg base CX0 3 "_law_loose" ["box", "signs"] (spLoose K))
    (c__law_list_is : Cal P w K mg base CX0 1 "_law_list_is" ["actual", "due"] (spListIs K)) (c__law_written : Cal P w K mg base CX0 3 "_law_written" ["signs"] (spWritten K)) (c_write_signs : Cal P w K mg base CX0 3 "write_signs" ["signs"] (spWrite K))
    (c__law_place : Cal P w K mg base CX0 7 "_law_place" ["line"] (spPlace ts)) (c_split_line : CalX P w K mg base 6 "split_line" ["line"] (spSplit K C ts)) : FnG P w K mg base CX0 8 f fd ["script"] (spLaw K ts) := by
  refine okG (k := 7) F sc_law (fun vs H Q E h => ?_) fun cdv A outer s H vs Q E hr h => ?_
  · obtain ⟨a, ns, rfl, _⟩ := h
    rfl
  · obtain ⟨a, ns, rfl, hs, hT, q⟩ := h
    refine ⟨_, (pss_cons (ps_set (i := 1) sc_law.nd rfl (Or.inr rfl) (pe_lst (pa_cons (pe_cal (c__law_digits.mono (by decide)) hr (by rfl) (pa_cons (pv 0) (pa_cons pe_int (pa_cons pe_int pa_nil)))) (pa_cons pe_int pa_nil))))
  (pss_cons (ps_setLc (i := 2) rfl sc_law.nd rfl rfl (sw_true rfl rfl rfl (by decide +kernel)) (pi_range1 (by rfl) m_range (pa_cons (pe_cal (c__law_draw.mono (by decide)) hr (by rfl) (pa_cons (pv 1) (pa_cons pe_int pa_nil))) pa_nil)) (blkOk_by (own := [("k", 10)]) (N := ["script", "box", "signs", "line", "written", "bads", "at", "offsets", "head", "tail", "k"]) (sc := defScope s_law) (by decide +kernel)) (fun _ _ _ _ _ => (pg_name (i := 10) sc_law.nd rfl (Or.inl rfl))) (fun _ _ _ _ _ => pts_nil) (fun _ _ _ _ _ => (pe_cal (c__law_sign.mono (by decide)) hr (by rfl) (pa_cons (pv 1) pa_nil))))
  (pss_cons (ps_set (i := 3) sc_law.nd rfl (Or.inl rfl) (pe_cal (c__law_loose.mono (by decide)) hr (by rfl) (pa_cons (pv 1) (pa_cons (pv 2) pa_nil))))
  (pss_cons (ps_if (pt_not (pt_val (pe_cal (c__law_list_is.mono (by decide)) hr (by rfl) (pa_cons (pe_calX (c_split_line.mono (by decide)) hr (by rfl) (fun σ => passAt takes0 σ) (pa_cons (pv 3) pa_nil)) (pa_cons (pv 2) pa_nil))))) (pss_one (ps_ret pe_bl)) pss_nil)
  (pss_cons (ps_set (i := 4) sc_law.nd rfl (Or.inl rfl) (pe_cal (c__law_written.mono (by decide)) hr (by rfl) (pa_cons (pv 2) pa_nil)))
  (pss_cons (ps_if (PW.pt (pw_or (pt_cmpR op_ne (pe_cal (c_write_signs.mono (by decide)) hr (by rfl) (pa_cons (pv 2) pa_nil)) (pv 4) (nomark _)) (pw_or1 (pt_not (pt_val (pe_cal (c__law_list_is.mono (by decide)) hr (by rfl) (pa_cons (pe_calX (c_split_line.mono (by decide)) hr (by rfl) (fun σ => passAt takes0 σ) (pa_cons (pv 4) pa_nil)) (pa_cons (pv 2) pa_nil)))))))) (pss_one (ps_ret pe_bl)) pss_nil)
  (pss_cons (ps_set (i := 5) sc_law.nd rfl (Or.inl rfl) (pe_lst (pa_cons pe_str (pa_cons pe_str (pa_cons pe_str (pa_cons pe_str (pa_cons pe_str (pa_cons pe_str (pa_cons pe_str (pa_cons pe_str (pa_cons pe_str (pa_cons pe_str (pa_cons pe_str (pa_cons pe_str (pa_cons pe_str (pa_cons pe_str (pa_cons pe_str (pa_cons pe_str pa_nil))))))))))))))))))
  (pss_cons (ps_set (i := 6) sc_law.nd rfl (Or.inl rfl) (pe_op op_mod (pe_callTy call_int1 (by rfl) m_int (by decide +kernel) (pa_cons (pe_cal (c__law_draw.mono (by decide)) hr (by rfl) (pa_cons (pv 1) (pa_cons pe_int pa_nil))) pa_nil)) (pe_callB call_len_seq (by rfl) m_len (by decide +kernel) (pa_cons (pv 5) pa_nil))))
  (pss_cons (ps_set (i := 7) sc_law.nd rfl (Or.inl rfl) (pe_lst (pa_cons pe_int (pa_cons pe_int (pa_cons pe_int (pa_cons pe_int (pa_cons pe_int (pa_cons pe_int (pa_cons pe_int (pa_cons pe_int (pa_cons pe_int (pa_cons pe_int (pa_cons pe_int (pa_cons pe_int (pa_cons pe_int (pa_cons pe_int (pa_cons pe_int (pa_cons pe_int pa_nil))))))))))))))))))
  (pss_cons (ps_set (i := 8) sc_law.nd rfl (Or.inl rfl) (pe_op op_add_str (pv 3) pe_str))
  (pss_cons (ps_set (i := 9) sc_law.nd rfl (Or.inl rfl) (pe_ix ix_list (pe_lst (pa_cons pe_str (pa_cons pe_str pa_nil))) (pe_op op_mul (pe_cal (c__law_draw.mono (by decide)) hr (by rfl) (pa_cons (pv 1) (pa_cons pe_int pa_nil))) (pe_callTy call_int1 (by rfl) m_int (by decide +kernel) (pa_cons (pe_cmpR op_notIn_seq (pv 6) (pe_tup (pa_cons pe_int (pa_cons pe_int pa_nil))) (by rfl)) pa_nil))) (fun _ _ => rfl)))
  (pss_one (ps_ret (pe_cmpR op_eq (pe_cal (c__law_place.mono (by decide)) hr (by rfl) (pa_cons (pe_op op_add_str (pe_op op_add_str (pv 8) (pe_ix ix_list (pv 5) (pv 6) (fun _ _ => rfl))) (pv 9)) pa_nil)) (pe_op op_add (pe_callB call_len_str (by rfl) m_len (by decide +kernel) (pa_cons (pv 8) pa_nil)) (pe_ix ix_list (pv 7) (pv 6) (fun _ _ => rfl))) (nomark _))))))))))))))), ?_⟩
    refine ⟨.ref a, rfl, a, ns, rfl, hs, fun d H1 xs hd k1 e1 hi => ⟨by show 2 ≤ sizeLine; decide, fun bx hbx => ?_⟩⟩
    have k2 : Kp H1 (upd H1 bx (.lst [.ref d, .int 0])) := Kb.new hbx
    have b0 : Box bx d (upd H1 bx (.lst [.ref d, .int 0])) := ⟨xs, 0, upd_same, Int.le_refl 0, by rw [upd_ne (ne_of_none e1 hbx)]; exact e1, hi⟩
    have t0 : ∀ T ∈ ts, TabG (upd H1 bx (.lst [.ref d, .int 0])) T := fun T hm => k2.tab T (k1.tab T (hT T hm))
    generalize upd H1 bx (.lst [.ref d, .int 0]) = H2 at k2 b0 t0 ⊢
    have sz : sizeLine = 16777216 := rfl
    -- the signs
    refine ⟨.ref bx, rfl, bx, d, 15, rfl, by decide, b0, fun H3 r3 a3 g3 l3 => ⟨r3, rfl, by omega, by omega, fun D hD => ?_⟩⟩
    have hb3 := a3.2
    have hDb := (hb3.new hD).1
    refine ⟨fun i m H' => m = r3.toNat - i ∧ i ≤ r3.toNat ∧ ∃ (ss : List Sg) (vs : List V), ss.length = i ∧ (∀ s ∈ ss, s.good) ∧ H' D = some (.lst vs) ∧ DtAll K H' vs (ss.map Sg.d) ∧ Aft bx d H3 H', ⟨_, rfl, Nat.zero_le _, [], [], rfl, (fun _ h => by cases h), upd_same, .nil, .new hb3 hD⟩, ?_⟩
    rintro i m H4 ⟨rfl, hi4, ss, vs, hlen, hg, eD, ds, a4⟩
    by_cases hl : i < r3.toNat
    · refine .inr ⟨hl, fun H' => ∃ (ss : List Sg) (vs : List V), ss.length = i + 1 ∧ (∀ s ∈ ss, s.good) ∧ H' D = some (.lst vs) ∧ DtAll K H' vs (ss.map Sg.d) ∧ Aft bx d H3 H', fun H' z => ⟨_, by omega, rfl, hl, z⟩, ?_⟩
      rintro x Hy ⟨rfl, rfl⟩
      refine ⟨rfl, iteT (B := ∃ (ss : List Sg) (vs : List V), ss.length = i + 1 ∧ (∀ s ∈ ss, s.good) ∧ Hy D = some (.lst vs) ∧ DtAll K Hy vs (ss.map Sg.d) ∧ Aft bx d H3 Hy) ⟨.ref bx, rfl, bx, d, rfl, a4.2, fun H5 v sg a5 hv gs => ?_⟩⟩
      have eD5 := a5.lst eD hDb
      have ds5 := DtAll.kb a5.1 a4.2.lsts ds
      have hl5 := ds.length
      rw [List.length_map] at hl5
      refine ⟨vs, eD5, by omega, ss ++ [sg], vs ++ [v], by simp; omega, ?_, upd_same, ?_, (a4.trans a5).mut hD hb3 eD5 nt_lst⟩
      · intro s' hs'
        rcases List.mem_append.mp hs' with h | h
        · exact hg s' h
        · rw [List.mem_singleton.mp h]
          exact gs
      · rw [List.map_append]
        exact DtAll.kb (Kb.put (S := [D]) (by simp) eD5 nt_lst) (fun b hb => by rw [List.mem_singleton.mp hb]; exact ⟨_, eD5⟩) (DtAll.snoc ds5 hv)
    · refine .inl ⟨by show r3.toNat ≤ i; omega, ?_⟩
      have hz : ss.length ≤ 14 := by omega
      have t4 : ∀ T ∈ ts, TabG H4 T := fun T hm => a4.1.tab T (a3.1.tab T (t0 T hm))
      -- the line
      refine ⟨.ref bx, rfl, .ref D, rfl, bx, d, D, vs, ss, rfl, a4.2, eD, hDb, ds, hg, by omega, fun H5 rows g0 g1 a5 em hap hgp h0 h1 => ?_⟩
      have hrg : ∀ p ∈ rows, p.2.good := fun p hp => hg _ (em ▸ List.mem_map_of_mem (f := fun p : Nat × Sg => p.2) hp)
      have rl : rows.length ≤ 14 := by
        have := congrArg List.length em
        rw [List.length_map] at this
        omega
      have lz := loose_len rows fun p hp => ⟨hrg p hp, hgp p hp⟩
      have el : splitR (List.replicate g0 32 ++ (looseL rows ++ List.replicate g1 32)) = .ok ss := by rw [loose_ok hrg hap, em]
      have bad := fun (b : List Nat) (o : Nat) (hb : splitR b = .bad o) => loose_bad (g0 := g0) (g1 := g1) hrg hap hb
      have len : (List.replicate g0 32 ++ (looseL rows ++ List.replicate g1 32)).length ≤ 228 := by
        rw [List.length_append, List.length_append, List.length_replicate, List.length_replicate]
        omega
      generalize List.replicate g0 32 ++ (looseL rows ++ List.replicate g1 32) = L at el bad len ⊢
      have t5 : ∀ T ∈ ts, TabG H5 T := fun T hm => a5.1.tab T (t4 T hm)
      have eD5 := a5.lst eD hDb
      have ds5 := DtAll.kb a5.1 a4.2.lsts ds
      refine ⟨_, rfl, L, rfl, by omega, t5, ?_⟩
      rw [el]
      intro H6 p6 vs6 n6 k6 e6 d6
      have eD6 := k6.keep D _ eD5 (by simp) nt_lst
      have ds6 := DtAll.kb k6 Lsts.nil ds5
      refine ⟨_, rfl, p6, D, vs6, vs, ss, rfl, e6, eD6, d6, ds6, hg, by omega, fun H7 k7 => ⟨true, rfl, iteF ?_⟩⟩
      have k57 := k6.trans k7
      have b7 := a5.2.kp k57
      have t7 : ∀ T ∈ ts, TabG H7 T := fun T hm => k57.tab T (t5 T hm)
      have eD7 := k7.keep D _ eD6 (by simp) nt_lst
      have ds7 := DtAll.kb k7 Lsts.nil ds6
      -- the written form
      refine ⟨_, rfl, D, vs, ss, rfl, eD7, ds7, hg, by omega, fun H8 k8 => ?_⟩
      have eD8 := k8.keep D _ eD7 (by simp) nt_lst
      have ds8 := DtAll.kb k8 Lsts.nil ds7
      have b8 := b7.kp k8
      have t8 : ∀ T ∈ ts, TabG H8 T := fun T hm => k8.tab T (t7 T hm)
      refine ⟨_, rfl, D, vs, ss, rfl, eD8, ds8, hg, by omega, fun H9 k9 => ⟨_, rfl, rfl, _, rfl, ?_⟩⟩
      rw [decide_eq_true rfl]
      have eD9 := k9.keep D _ eD8 (by simp) nt_lst
      have ds9 := DtAll.kb k9 Lsts.nil ds8
      have b9 := b8.kp k9
      have t9 : ∀ T ∈ ts, TabG H9 T := fun T hm => k9.tab T (t8 T hm)
      have wz := loose_len (wr true ss) (wr_mem hg)
      have wl : (wr true ss).length = ss.length := by
        have := congrArg List.length (wr_signs true ss)
        rw [List.length_map] at this
        exact this
      rw [wl] at wz
      refine iteF ⟨_, rfl, looseL (wr true ss), rfl, by omega, t9, ?_⟩
      rw [wr_ok hg]
      intro H10 p10 vs10 n10 k10 e10 d10
      have eD10 := k10.keep D _ eD9 (by simp) nt_lst
      have ds10 := DtAll.kb k10 Lsts.nil ds9
      refine ⟨_, rfl, p10, D, vs10, vs, ss, rfl, e10, eD10, d10, ds10, hg, by omega, fun H11 k11 => ⟨true, rfl, iteF ?_⟩⟩
      have b11 := b9.kp (k10.trans k11)
      have t11 : ∀ T ∈ ts, TabG H11 T := fun T hm => (k10.trans k11).tab T (t9 T hm)
      -- the bad ones
      refine ⟨by show 16 ≤ sizeLine; decide, fun pB nB => ?_⟩
      have aB : Aft bx d H11 (upd H11 pB (.lst (badsS.map V.str))) := Aft.new b11 nB
      have hBb := (b11.new nB).1
      have eB : (upd H11 pB (.lst (badsS.map V.str))) pB = some (.lst (badsS.map V.str)) := upd_same
      have t12 : ∀ T ∈ ts, TabG (upd H11 pB (.lst (badsS.map V.str))) T := fun T hm => aB.1.tab T (t11 T hm)
      refine ⟨.ref bx, rfl, bx, d, 900, rfl, by decide, aB.2, fun H13 r13 a13 g13 l13 => .inl ⟨r13, rfl, ?_⟩⟩
      have eB13 := a13.lst eB hBb
      have t13 : ∀ T ∈ ts, TabG H13 T := fun T hm => a13.1.tab T (t12 T hm)
      refine ⟨_, rfl, pB, badsS.map V.str, rfl, .inl (.inl (.inl eB13)), r13, 16, rfl, rfl, by show (0 : Int) < 16; decide, ?_⟩
      obtain ⟨i, ei, hi⟩ : ∃ i : Nat, r13 % 16 = (i : Int) ∧ i < 16 := ⟨(r13 % 16).toNat, by omega, by omega⟩
      dsimp only
      rw [ei]
      -- the offsets
      refine ⟨by show 16 ≤ sizeLine; decide, fun pO nO => ?_⟩
      have aO : Aft bx d H13 (upd H13 pO (.lst (offsL.map V.int))) := Aft.new a13.2 nO
      have hOb := (a13.2.new nO).1
      have eO : (upd H13 pO (.lst (offsL.map V.int))) pO = some (.lst (offsL.map V.int)) := upd_same
      have eB14 := aO.lst eB13 hBb
      have e32 : Str.ofString " " = sx [32] := by decide +kernel
      refine ⟨_, rfl, _, _, rfl, rfl, by rw [sx_len, e32, sx_len]; show L.length + 1 ≤ _; omega, ?_⟩
      rw [e32, sx_app]
      -- the tail
      refine ⟨by show 2 ≤ sizeLine; decide, fun pT nT => ?_⟩
      have aT : Aft bx d (upd H13 pO (.lst (offsL.map V.int))) (upd (upd H13 pO (.lst (offsL.map V.int))) pT (.lst (tailsS.map V.str))) := Aft.new aO.2 nT
      have hTb := (aO.2.new nT).1
      have eT : (upd (upd H13 pO (.lst (offsL.map V.int))) pT (.lst (tailsS.map V.str))) pT = some (.lst (tailsS.map V.str)) := upd_same
      refine ⟨.ref bx, rfl, bx, d, 2, rfl, by decide, aT.2, fun H16 r16 a16 g16 l16 => ⟨_, rfl, by show 2 ≤ sizeLine; decide, fun pU nU => ?_⟩⟩
      have aU : Aft bx d H16 (upd H16 pU (.tup [.int 7, .int 9])) := Aft.new a16.2 nU
      have eU : SqT K (upd H16 pU (.tup [.int 7, .int 9])) pU [.int 7, .int 9] := SqT.of upd_same
      have a1317 := aO.trans (aT.trans (a16.trans aU))
      have eT17 := (a16.trans aU).lst eT hTb
      have eO17 := (aT.trans (a16.trans aU)).lst eO hOb
      have eB17 := a1317.lst eB13 hBb
      have b17 := a1317.2
      have t17 : ∀ T ∈ ts, TabG (upd H16 pU (.tup [.int 7, .int 9])) T := fun T hm => a1317.1.tab T (t13 T hm)
      generalize upd H16 pU (.tup [.int 7, .int 9]) = H17 at aU eU eT17 eO17 eB17 b17 t17 ⊢
      refine ⟨pU, _, rfl, .inr eU, rfl, rfl, .inr ⟨!inV (.int (i : Int)) [.int 7, .int 9], rfl, ?_⟩⟩
      have e79 : inV (.int (i : Int)) [.int 7, .int 9] = decide (i = 7 ∨ i = 9) := by
        show (((7 : Int) == (i : Int)) || (((9 : Int) == (i : Int)) || false)) = _
        rw [Bool.or_false, Bool.eq_iff_iff, Bool.or_eq_true, beq_iff_eq, beq_iff_eq, decide_eq_true_eq]
        omega
      rw [e79]
      obtain ⟨j, ej, hj, hn⟩ : ∃ j : Nat, r16 * (if (!decide (i = 7 ∨ i = 9)) = true then (1 : Int) else 0) = (j : Int) ∧ j < 2 ∧ ¬ ((i = 7 ∨ i = 9) ∧ j = 1) := by
        by_cases z : i = 7 ∨ i = 9
        · exact ⟨0, by rw [decide_eq_true z]; simp, by decide, fun h => by omega⟩
        · exact ⟨r16.toNat, by rw [decide_eq_false z]; simp; omega, by omega, fun h => z h.1⟩
      obtain ⟨b, t, o, f1, f2, f3, f4, f5⟩ := bad_at hi hj hn
      refine ⟨r16, _, rfl, rfl, .inl ⟨by omega, by omega⟩, ?_⟩
      dsimp only
      rw [ej]
      have g1' : (badsS.map V.str)[i]? = some (.str (sx b)) := by rw [List.getElem?_map, f1]; rfl
      have g2' : (tailsS.map V.str)[j]? = some (.str (sx t)) := by rw [List.getElem?_map, f2]; rfl
      have g3' : (offsL.map V.int)[i]? = some (.int (o : Int)) := by rw [List.getElem?_map, f3]; rfl
      refine ⟨pT, _, j, _, rfl, rfl, .inl (.inl eT17), atI_nat g2', ?_⟩
      -- _law_place(..) == ..
      refine ⟨_, rfl, _, rfl, _, rfl, pB, _, i, _, rfl, rfl, .inl (.inl eB17), atI_nat g1', _, _, rfl, rfl, by rw [sx_len, sx_len, List.length_append]; show L.length + 1 + b.length ≤ _; omega, ?_⟩
      rw [sx_app]
      refine ⟨_, rfl, _, _, rfl, rfl, by rw [sx_len, sx_len, List.length_append, List.length_append]; show L.length + 1 + b.length + t.length ≤ _; omega, ?_⟩
      rw [sx_app]
      have el2 : L ++ [32] ++ b ++ t = L ++ (32 :: (b ++ t)) := by simp
      rw [el2]
      refine ⟨L ++ (32 :: (b ++ t)), _, rfl, by rw [List.length_append, List.length_cons, List.length_append]; omega, t17, bad _ _ f4, fun H18 k18 => ?_⟩
      have eO18 := k18.keep pO _ eO17 (by simp) nt_lst
      refine ⟨_, rfl, _, rfl, by rw [sx_len, List.length_append]; show L.length + 1 ≤ _; omega, _, rfl, _, rfl, pO, _, i, _, rfl, rfl, .inl (.inl eO18), atI_nat g3', _, _, rfl, rfl, rfl, ?_⟩
      have ee : V.int ((L.length + 1 + o : Nat) : Int) = V.int (((sx (L ++ [32])).length : Int) + (o : Int)) := by
        rw [sx_len, List.length_append]
        show V.int _ = V.int _
        congr 1
      rw [decide_eq_true ee]
      exact q _
end
end Rs

/-! The end: the facts of the top, with the tables of code objects that the head leaves. -/
namespace Gd
open PySem PySem.Spec PyProof.Rows L2 GxR Gx
theorem walk_G2 {l : PySem.W.OpenLaw} {n k : Nat} {q : Program} {loose : List Str} {XP : (Str → Option Value) → Heap → Prop} {YP : World → Heap → Prop} {d : DefRec} {K : Params → PySem.W.Frag} {CX : World → CXT} {x : Str}
    (hn : l.most = some n) (hn2 : n ≤ sizeLine) (hdf : d.params.defaults = []) (hr : RoomG k callerA) (hY : ∀ (w : World) (h : Heap), YP w h → (K w.params).In h)
    (F : ∀ (w : World) (mg : Str → Option Value) (fa : Addr) (h : Heap), YP w h → (K w.params).In h → h.Ns mainGlobals mg → mg d.name = some (.ref fa) →
      (∀ (y : Str) (d' : DefRec) (c P : Addr), (recsOf q).find? (fun e => e.name == y) = some d' → PySem.W.tabIn (K w.params) y = some (c, P) → PySem.W.CodeHd h c P ∧ h.get? P = some { cls := .none, data := .fields #[] }) → LawG l w (K w.params) (CX w) k n x mg fa h)
    (hCX : ∀ (w : World) (H : Hp) (s : Shared) (e : Value) (s' : Shared), CX w [] H s (fun _ _ _ => False) e s' → False) :
    PySem.W.WalkO q loose XP YP l.row.toRowW d [] (fun f vs => PySem.call f vs) := by
  refine Att.attach_callB hn hdf fun w s0 s1 mg mb fa o pm cd doc a vs ns G Y ho hd hcd hmg hobj hints hlen hbits hg => ?_
  obtain ⟨fd, cs, sp, hT, nT, C, hb, hsp, hF⟩ := F w mg fa _ Y (hY w _ Y) G.T.g hmg fun y d' c P hr ht => PySem.W.tab_of G.T (hY w _ Y) hr ht
  exact law_endG (hY w _ Y) G.T.g G.T.b G.T.builtins G.T.nolimit hg hT nT C G.T.bmain hobj hints (Nat.le_trans hlen hn2) hr hF hb (fun H hH hS => hsp H a ns hlen hbits hH hS) fun H e s' => hCX w H s1 e s'
/-- the def x, its code object at c -/
def DefC (K : PySem.W.Frag) (mg : Str → Option Value) (x : Str) (st : Stmt) (ps : List Str) (c : Addr) : Prop := ∃ f fd, Fun K x x st f fd ∧ mg x = some (.ref f) ∧ Binds K fd ps [] ∧ fd.code = .ref c
theorem DefC.tab {K : PySem.W.Frag} {mg : Str → Option Value} {base : Heap} {x : Str} {st : Stmt} {ps : List Str} {c T : Addr} (D : DefC K mg x st ps c) (B : TabB base mg c T) : DefTab K mg base x st ps T :=
  let ⟨f, fd, F, g, b, e⟩ := D; ⟨f, fd, c, F, g, b, e, B⟩
section
variable {K : PySem.W.Frag} {h : Heap} {mg : Str → Option Value} {x : Str} {st : Stmt} {ps : List Str} {f c T : Addr} {od an od1 : Option Addr} {sl sl1 : Array (Option Value)} {oc kV dc pm cd ct oc1 : Value} {vs : Array Value}
theorem def_k (X : K.In h) (G : h.Ns mainGlobals mg) (a : PySem.W.nsIn K mainGlobals x = some (some (.ref f))) (l : K.lookup f = some ⟨oc, od, .func (PySem.W.fnOf x x (defArgs st) (defBody st) (defScope st) .none kV dc pm an cd ct), sl⟩) (c : PySem.W.codeIn K cd x = true) (k : PySem.W.keepIn K (.ref f) = true)
    (b : ∀ (kV doc pm : Value) (an : Option Addr) (cdv ct : Value) (us : List Value), us.length = ps.length → bindArgs (PySem.W.fnOf x x (defArgs st) (defBody st) (defScope st) .none kV doc pm an cdv ct) ⟨us, []⟩ = pure (ps.zip us)) : DefAt K mg x st ps :=
  ⟨f, _, fun_mk l c k, PySem.W.mg_of X G a, (fun_mk l c k).binds b⟩
theorem def_c (X : K.In h) (G : h.Ns mainGlobals mg) (a : PySem.W.nsIn K mainGlobals x = some (some (.ref f))) (l : K.lookup f = some ⟨oc, od, .func (PySem.W.fnOf x x (defArgs st) (defBody st) (defScope st) .none kV dc pm an (.ref c) ct), sl⟩) (cc : PySem.W.codeIn K (.ref c) x = true) (k : PySem.W.keepIn K (.ref f) = true)
    (l1 : K.lookup c = some ⟨oc1, od1, .fields vs, sl1⟩) (hv : vs[11]? = some (.ref T))
    (b : ∀ (kV doc pm : Value) (an : Option Addr) (cdv ct : Value) (us : List Value), us.length = ps.length → bindArgs (PySem.W.fnOf x x (defArgs st) (defBody st) (defScope st) .none kV doc pm an cdv ct) ⟨us, []⟩ = pure (ps.zip us)) : DefC K mg x st ps c ∧ PySem.W.tabIn K x = some (c, T) := by
  refine ⟨⟨f, _, fun_mk l cc k, PySem.W.mg_of X G a, (fun_mk l cc k).binds b, rfl⟩, ?_⟩
  unfold PySem.W.tabIn
  rw [a]
  show (match K.lookup f with
    | some ⟨_, _, .func fd, _⟩ => _
    | _ => none) = _
  rw [l]
  show (match K.lookup c with
    | some ⟨_, _, .fields vs, _⟩ => _
    | _ => none) = _
  rw [l1]
  show (match (vs[11]? : Option Value) with
    | some (.ref P) => some (c, P)
    | _ => none) = _
  rw [hv]
theorem law_k {fa : Addr} {p1 : Str} (X : K.In h) (G : h.Ns mainGlobals mg) (hfa : mg x = some (.ref fa)) (a : PySem.W.nsIn K mainGlobals x = some (some (.ref f))) (l : K.lookup f = some ⟨oc, od, .func (PySem.W.fnOf x x (defArgs st) (defBody st) (defScope st) .none kV dc pm an cd ct), sl⟩) (c : PySem.W.codeIn K cd x = true) (k : PySem.W.keepIn K (.ref f) = true)
    (b : ∀ (kV doc pm : Value) (an : Option Addr) (cdv ct : Value) (s : Shared) (u : Value), BindsTo s (PySem.W.fnOf x x (defArgs st) (defBody st) (defScope st) .none kV doc pm an cdv ct) ⟨[u], []⟩ [(p1, u)]) : ∃ fd, Fun K x x st fa fd ∧ ∀ (s : Shared) (u : Value), BindsTo s fd ⟨[u], []⟩ [(p1, u)] := by
  have e := hfa.symm.trans (PySem.W.mg_of X G a)
  cases e
  exact ⟨_, fun_mk l c k, b _ _ _ _ _ _⟩
theorem glob_k {t : Tok} {i : Int} (X : K.In h) (G : h.Ns mainGlobals mg) (a : PySem.W.nsIn K mainGlobals x = some (some (.int i t))) : ∃ t, mg x = some (.int i t) := ⟨t, PySem.W.mg_of X G a⟩
theorem no_tabs (X : K.In h) (hK : PySem.W.noTabs K = true) (hT : h.get? T = some { cls := .none, data := .fields #[] }) : K.lookup T = none := by
  cases e : K.lookup T with
  | none => rfl
  | some o =>
    have h1 := X T o e
    rw [hT] at h1
    cases h1
    have h2 := List.all_eq_true.mp hK _ (PySem.W.mem_of_lookupK e)
    exact absurd (show false = true from h2) Bool.false_ne_true
end
end Gd

namespace Gd
open PySem PySem.Spec PyProof.Rows L2 GxR Gx
section
variable {K : PySem.W.Frag} {h : Heap} {mg : Str → Option Value} {x : Str} {a : Addr}
theorem glob_s {t : Tok} {y z : Str} (X : K.In h) (G : h.Ns mainGlobals mg) (e : PySem.W.nsIn K mainGlobals x = some (some (.str y t))) (hy : y = z) : ∃ t, mg x = some (.str z t) := ⟨t, by rw [← hy]; exact PySem.W.mg_of X G e⟩
theorem pair_k {dd : Option Addr} {n : Nat} {sl : Array (Option Value)} {t1 t2 : Tok} {y1 y2 z1 z2 : Str} (l : K.lookup a = some ⟨.type "tuple", dd, .seq #[.str y1 t1, .str y2 t2] n, sl⟩) (h1 : y1 = z1) (h2 : y2 = z2) : ∀ H, Dt K H (.ref a) (.tuple [.str z1, .str z2]) := fun H => by
  subst h1 h2
  exact .tup (xs := [.str y1, .str y2]) (.inr ⟨_, _, n, l, rfl, rfl, by show 2 ≤ sizeLine; decide, .cons ⟨_, rfl⟩ (.cons ⟨_, rfl⟩ .nil)⟩) (.cons (.str _) (.cons (.str _) .nil))
theorem four_k {dd : Option Addr} {n : Nat} {sl : Array (Option Value)} {t1 t2 t3 t4 : Tok} {y1 y2 y3 y4 z1 z2 z3 z4 : Str} (l : K.lookup a = some ⟨.type "tuple", dd, .seq #[.str y1 t1, .str y2 t2, .str y3 t3, .str y4 t4] n, sl⟩) (h1 : y1 = z1) (h2 : y2 = z2) (h3 : y3 = z3) (h4 : y4 = z4) :
    ∀ H, SqT K H a [.str z1, .str z2, .str z3, .str z4] := fun H => by
  subst h1 h2 h3 h4
  exact .inr ⟨_, _, n, l, rfl, rfl, by show 4 ≤ sizeLine; decide, .cons ⟨_, rfl⟩ (.cons ⟨_, rfl⟩ (.cons ⟨_, rfl⟩ (.cons ⟨_, rfl⟩ .nil)))⟩
theorem dict3_k {w : World} {n : Nat} {h1 h2 h3 : Int} {t1 t2 t3 u1 u2 u3 : Tok} {k1 k2 k3 v1 v2 v3 k1' k2' k3' v1' v2' v3' : Str} (l : K.lookup a = some ⟨.type "dict", none, .dict #[⟨h1, .str k1 t1, .str v1 u1⟩, ⟨h2, .str k2 t2, .str v2 u2⟩, ⟨h3, .str k3 t3, .str v3 u3⟩] n, #[]⟩)
    (e1 : h1 = PyData.keyHash w.params k1) (e2 : h2 = PyData.keyHash w.params k2) (e3 : h3 = PyData.keyHash w.params k3) (low : (a == sysModules) = false) (q1 : k1 = k1') (q2 : k2 = k2') (q3 : k3 = k3') (p1 : v1 = v1') (p2 : v2 = v2') (p3 : v3 = v3') :
    KDict K w a #[⟨h1, .str k1' t1, .str v1' u1⟩, ⟨h2, .str k2' t2, .str v2' u2⟩, ⟨h3, .str k3' t3, .str v3' u3⟩] n := by
  subst q1 q2 q3 p1 p2 p3
  exact ⟨l, ⟨⟨_, _, rfl, e1⟩, ⟨_, _, rfl, e2⟩, ⟨_, _, rfl, e3⟩, trivial⟩, low⟩
end
end Gd
namespace Rs
open PySem PySem.Spec PyProof.Rows L2 GxR Gx Gd
def clsBody : Stmt → List Stmt
  | .ClassDef (body := b) .. => b
  | _ => []
abbrev s_init : Stmt := (clsBody (topS 2)).getD 0 (.Pass ⟨0, 0, 0, 0⟩)
theorem sc_init : FnScope ["self", "offset"] ["self", "offset"] (defScope s_init) := ⟨rfl, rfl, rfl, by decide +kernel, rfl, by decide +kernel, by decide +kernel⟩
section
variable {P : Program} {w : World} {K : PySem.W.Frag} {mg : Str → Option Value} {base : Heap} {h : Heap}
theorem init_ok {f : Addr} {fd : FuncData} (F : Fun K "__init__" "BadSigns.__init__" s_init f fd) : FnOk P w K mg base CX0 1 f fd ["self", "offset"] (spInit K "offset") := by
  refine F.ok (k := 0) sc_init (fun vs H Q E h => ?_) fun cdv A outer s H vs Q E hr h => ?_
  · obtain ⟨a, C, y, rfl, _⟩ := h
    rfl
  · obtain ⟨a, C, y, rfl, T, no, ha, q⟩ := h
    refine ⟨_, pss_one (ps_ost (pv 0) (pv 1)), ?_⟩
    exact ⟨_, rfl, _, rfl, a, C, rfl, T, no, .inl ⟨ha, fun dx h1 h2 => q dx h1 h2⟩⟩
/-- what the written part says of the classes -/
structure ClsF (K : PySem.W.Frag) (mg : Str → Option Value) (C CV fI : Addr) : Prop where
  gC : mg "BadSigns" = some (.ref C)
  gV : mg "ViewError" = some (.ref CV)
  T : OexC K C
  no : PySem.W.findIn K (.ref C) "offset" = some none
  iC : PySem.W.findIn K (.ref C) "__init__" = some (some (.ref fI))
  tI : PySem.W.typeIn K (.ref fI) = some (.type "function")
  fI : ∃ fd, Fun K "__init__" "BadSigns.__init__" s_init fI fd
  ga : PySem.W.findIn K (.ref C) "__getattribute__" = some (some (.builtin "BaseException.__getattribute__"))
  gg : PySem.W.findIn K (.ref C) "__getattr__" = some none
  hd : PySem.W.hasDictIn K C = true
  ca : PySem.W.findIn K (.ref C) "__class__" = some (some (.builtin "object.__class__"))
  sg : PySem.W.specialIn K (.builtin "object.__class__") "__get__" = some (some (.builtin "getset_descriptor.__get__"))
  tk : PySem.W.takesIn K (.builtin "object.__class__") = some true
  mo : PySem.W.mroIn K C (.type "object") = some true
  sV : PySem.W.subIn K (.ref CV) (.type "BaseException") = some true
  hV : PySem.W.hasDictIn K CV = true
  tV : PySem.W.typeIn K (.ref CV) = some (.type "type")
  cV : PySem.W.subIn K (.ref C) (.ref CV) = some true
  vE : PySem.W.subIn K (.ref C) (.type "ValueError") = some true
theorem ClsF.cl {C CV fI : Addr} (F : ClsF K mg C CV fI) : (PySem.W.clsIn K C).isSome = true := by
  obtain ⟨nm, q, N, bs, bm, sn, sub, ab, col, dd, k0, k1, k2, k3, k5, hC, hbm⟩ := F.T.cls
  unfold PySem.W.clsIn
  rw [hC]
  rfl
theorem ClsF.bad {C CV fI : Addr} (F : ClsF K mg C CV fI) : Bad P w K mg base C := by
  obtain ⟨fd, G⟩ := F.fI
  exact ⟨F.T, F.no, ⟨fI, fd, F.iC, F.tI, init_ok G, G.binds fun _ _ _ _ _ _ us hl => match us, hl with | [_, _], _ => rfl⟩, F.gC⟩
theorem ClsF.badX {C CV fI : Addr} (F : ClsF K mg C CV fI) : BadX K mg C CV := by
  refine ⟨F.gC, F.gV, PySem.W.exm_ref F.sV F.hV F.tV F.cV, ⟨F.cl, F.ga, F.gg, F.T.exC, F.ca, F.sg, F.tk, F.mo⟩, ?_, ?_, ⟨F.ga, F.gg, F.T.exC, F.hd⟩, F.no⟩
  · unfold PySem.W.kitOne
    rw [if_pos (beq_self_eq_true _)]
  · unfold PySem.W.kitOne
    rw [if_neg (show ¬ ((Value.ref C == Value.type "ValueError") = true) by rw [show (Value.ref C == Value.type "ValueError") = false from rfl]; exact Bool.false_ne_true)]
    show (if PySem.W.kitMeta "ValueError" = true then PySem.W.subIn K (.ref C) (.type "ValueError") else none) = _
    rw [if_pos (by decide +kernel), F.vE]
theorem law_fin {l : PySem.W.OpenLaw} {fa c1 T1 c2 T2 C CV fI aM aE aL aR aC : Addr} {fd : FuncData} (X : K.In h) (Fl : Fun K "law" "law" s_law fa fd) (bl : ∀ (s : Shared) (u : Value), BindsTo s fd ⟨[u], []⟩ [("script", u)]) (nt : PySem.W.noTabs K = true)
    (C1 : DefC K mg "is_name" s_is_name ["thing"] c1) (t1 : PySem.W.CodeHd h c1 T1 ∧ h.get? T1 = some { cls := .none, data := .fields #[] })
    (C2 : DefC K mg "_is_number" s_is_number ["run"] c2) (t2 : PySem.W.CodeHd h c2 T2 ∧ h.get? T2 = some { cls := .none, data := .fields #[] })
    (B : ClsF K mg C CV fI) (EK : EscK K w aE) (g_MARKS : mg "MARKS" = some (.ref aM)) (hM : ∀ H, SqT K H aM marksV) (g_ESCAPES : mg "ESCAPES" = some (.ref aE)) (g_LEFT : mg "LEFT" = some (.ref aL)) (g_RIGHT : mg "RIGHT" = some (.ref aR)) (g_COMMA : mg "COMMA" = some (.ref aC))
    (hL : ∀ H, Dt K H (.ref aL) (Sg.mark 40).d) (hR : ∀ H, Dt K H (.ref aR) (Sg.mark 41).d) (hC : ∀ H, Dt K H (.ref aC) (Sg.mark 44).d) (g_QUOTE : ∃ t, mg "QUOTE" = some (.str (Str.ofString "\"") t)) (g_BACKSLASH : ∃ t, mg "BACKSLASH" = some (.str (Str.ofString "\\") t))
    (D_is_character : DefAt K mg "is_character" s_is_character ["char"]) (D_is_digit : DefAt K mg "is_digit" s_is_digit ["char"]) (D__is_small : DefAt K mg "_is_small" s_is_small ["char"]) (D_split_line : DefAt K mg "split_line" s_split_line ["line"]) (D_write_signs : DefAt K mg "write_signs" s_write_signs ["signs"])
    (D__read_sign : DefAt K mg "_read_sign" s_read_sign ["line", "start"]) (D__is_of_run : DefAt K mg "_is_of_run" s_is_of_run ["char"]) (D__read_run : DefAt K mg "_read_run" s_read_run ["line", "start"]) (D__read_quoted : DefAt K mg "_read_quoted" s_read_quoted ["line", "start"])
    (D__meant : DefAt K mg "_meant" s_meant ["piece", "start"]) (D__is_space_between : DefAt K mg "_is_space_between" s_is_space_between ["sign", "following"]) (D__sign_text : DefAt K mg "_sign_text" s_sign_text ["sign"]) (D__escaped : DefAt K mg "_escaped" s_escaped ["text"])
    (D__law_cell : DefAt K mg "_law_cell" s_law_cell ["script", "k"]) (D__law_list_is : DefAt K mg "_law_list_is" s_law_list_is ["actual", "due"]) (D__law_digits : DefAt K mg "_law_digits" s_law_digits ["script", "first", "last"]) (D__law_draw : DefAt K mg "_law_draw" s_law_draw ["box", "many"])
    (D__law_quoted : DefAt K mg "_law_quoted" s_law_quoted ["text"]) (D__law_sign : DefAt K mg "_law_sign" s_law_sign ["box"]) (D__law_text : DefAt K mg "_law_text" s_law_text ["sign"]) (D__law_written : DefAt K mg "_law_written" s_law_written ["signs"]) (D__law_loose : DefAt K mg "_law_loose" s_law_loose ["box", "signs"]) (D__law_place : DefAt K mg "_law_place" s_law_place ["line"])
    (m_isinstance : mg "isinstance" = none) (m_str : mg "str" = none) (m_int : mg "int" = none) (m_len : mg "len" = none) (m_all : mg "all" = none) (m_ord : mg "ord" = none) (m_range : mg "range" = none) (m_repr : mg "repr" = none) (m_list : mg "list" = none) (m_enumerate : mg "enumerate" = none) (m_ValueError : mg "ValueError" = none)
    (g_PERCENT : ∃ t, mg "PERCENT" = some (.int 37 t)) (g_NAME : ∃ t, mg "NAME_LENGTH" = some (.int 12 t)) (g_NUMBER : ∃ t, mg "NUMBER_LENGTH" = some (.int 9 t)) :
    LawG l w K CX0 8 63 "script" mg fa h := by
  have inn : ∀ {p : Addr × Addr}, p ∈ [(c1, T1), (c2, T2)] → PySem.W.CodeHd h p.1 p.2 ∧ h.get? p.2 = some { cls := .none, data := .fields #[] } := fun {p} hp => by
    rcases List.mem_cons.mp hp with rfl | hp
    · exact t1
    · rw [List.mem_singleton.mp hp]
      exact t2
  refine ⟨fd, [(c1, T1), (c2, T2)], spLaw K [T1, T2], fun p hp => (inn hp).2, fun p hp => no_tabs X nt (inn hp).2, fun p hp => (inn hp).1, bl, fun H a ns hlen hbits hH hS => ⟨a, ns, rfl, hS, fun T hm => ?_, fun _ => rfl⟩, fun base kin hns hB => ?_⟩
  · have : ∀ T ∈ [T1, T2], H T = some (.tbl #[]) := fun T hm => by
      rcases List.mem_cons.mp hm with rfl | hm
      · exact hH (c1, T) (by simp)
      · rw [List.mem_singleton.mp hm]
        exact hH (c2, T2) (by simp)
    exact ⟨#[], this T hm, trivial⟩
  · have B1 := C1.tab (hB (c1, T1) (by simp))
    have B2 := C2.tab (hB (c2, T2) (by simp))
    have BD : Bad l.prog w K mg base C := B.bad
    have c_is_small := c_is_small (P := l.prog) (w := w) (base := base) D__is_small
    have c_is_digit := c_is_digit (P := l.prog) (w := w) (base := base) D_is_digit
    have c_is_character := c_is_character (P := l.prog) (w := w) (base := base) D_is_character g_PERCENT m_ord
    have c_is_name := c_is_name (P := l.prog) (w := w) B1 g_NAME m_isinstance m_str m_len m_all c_is_small c_is_digit
    have c_is_name := c_is_name.imp (sp' := spData K [T1, T2] isName) fun vs H Q E ⟨v, d, e, hd, hz, hT, q⟩ => ⟨v, d, e, hd, hz, fun T hm => hT T (by rw [List.mem_singleton.mp hm]; simp), q⟩
    have c_is_of_run := c_is_of_run (P := l.prog) (w := w) (base := base) D__is_of_run c_is_digit
    have c_is_number := c_is_number (P := l.prog) (w := w) (ts := [T1, T2]) B2 g_NUMBER m_len m_all (by simp) c_is_digit
    have c_meant := c_meant (P := l.prog) (w := w) (base := base) D__meant BD EK g_ESCAPES g_BACKSLASH c_is_character
    have c_read_quoted := c_read_quoted (P := l.prog) (w := w) (base := base) D__read_quoted BD g_QUOTE g_BACKSLASH m_len c_meant
    have c_read_run := c_read_run (P := l.prog) (w := w) (base := base) D__read_run BD m_len m_int c_is_of_run c_is_name c_is_number
    have c_read_sign := c_read_sign (P := l.prog) (w := w) (base := base) D__read_sign BD g_QUOTE g_MARKS hM c_is_of_run c_read_quoted c_read_run
    have c_split_line := c_split_line (P := l.prog) (w := w) (base := base) D_split_line m_len c_read_sign
    have c_is_space_between := c_is_space_between (P := l.prog) (w := w) (base := base) D__is_space_between g_LEFT g_RIGHT g_COMMA hL hR hC
    have c_escaped := c_escaped (P := l.prog) (w := w) (K := K) (base := base) D__escaped
    have c_sign_text := c_sign_text (P := l.prog) (w := w) (base := base) D__sign_text g_QUOTE m_str c_escaped
    have c_write_signs := c_write_signs (P := l.prog) (w := w) (base := base) D_write_signs m_enumerate c_is_space_between c_sign_text
    have c_law_cell := c_law_cell (P := l.prog) (w := w) (base := base) D__law_cell m_len
    have c_law_digits := c_law_digits (P := l.prog) (w := w) (base := base) D__law_digits m_range m_int c_law_cell
    have c_law_draw := c_law_draw (P := l.prog) (w := w) (base := base) D__law_draw m_len m_int
    have c_law_quoted := c_law_quoted (P := l.prog) (w := w) (K := K) (base := base) D__law_quoted
    have c_law_text := c_law_text (P := l.prog) (w := w) (base := base) D__law_text m_str c_law_quoted
    have c_law_sign := c_law_sign (P := l.prog) (w := w) (base := base) D__law_sign m_range c_law_draw
    have c_law_written := c_law_written (P := l.prog) (w := w) (base := base) D__law_written c_law_text
    have c_law_loose := c_law_loose (P := l.prog) (w := w) (base := base) D__law_loose c_law_draw c_law_text
    have c_law_list_is := c_law_list_is (P := l.prog) (w := w) (base := base) D__law_list_is m_isinstance m_list m_repr
    have c_law_place := c_law_place (P := l.prog) (w := w) (base := base) D__law_place B.badX m_isinstance m_ValueError c_split_line
    exact ok_law (C := C) Fl m_range m_len m_int c_law_digits c_law_draw c_law_sign c_law_loose c_law_list_is c_law_written c_write_signs c_law_place c_split_line
end
end Rs

namespace Rs
open PySem PySem.Spec PyProof.Rows L2 GxR Gx Gd
section
variable {w : World} {K : PySem.W.Frag} {mg : Str → Option Value} {h : Heap} {C CV fI aM aE aL aR aC N : Addr} {d1 d2 d3 d4 d5 od an : Option Addr} {n1 n2 n3 n4 n5 : Nat} {s1 s2 s3 s4 s5 : Array (Option Value)} {y1 y2 y3 y4 x1 x2 x3 x4 x5 x6 k1 k2 k3 v1 v2 v3 nm q : Str} {t1 t2 t3 t4 t5 t6 t7 t8 t9 t10 u1 u2 u3 u4 u5 u6 : Tok}
  {h1 h2 h3 : Int} {bs bm sub : List Value} {sn : List Str} {ab : Bool} {col : Option Bool} {m0 m1' m2' m3' m5 : Option Value} {oc kV dc pm cd ct : Value}
theorem cls_k (X : K.In h) (G : h.Ns mainGlobals mg) (gC : PySem.W.nsIn K mainGlobals "BadSigns" = some (some (.ref C))) (cls : K.lookup C = some (excClassObj nm q C N bs bm true sn sub ab col d1 m0 m1' m2' m3' m5 "ValueError.__new__")) (rf : PySem.HandSPX.refsVE bm = true)
    (sa : PySem.W.findIn K (.ref C) "__setattr__" = some (some (.builtin "object.__setattr__"))) (exC : PySem.W.subIn K (.ref C) (.type "BaseException") = some true) (tyC : PySem.W.typeIn K (.ref C) = some (.type "type")) (kC : PySem.W.keepIn K (.ref C) = true) (no : PySem.W.findIn K (.ref C) "offset" = some none)
    (iC : PySem.W.findIn K (.ref C) "__init__" = some (some (.ref fI))) (tI : PySem.W.typeIn K (.ref fI) = some (.type "function")) (lI : K.lookup fI = some ⟨oc, od, .func (PySem.W.fnOf "__init__" "BadSigns.__init__" (defArgs s_init) (defBody s_init) (defScope s_init) .none kV dc pm an cd ct), s1⟩) (cI : PySem.W.codeIn K cd "BadSigns.__init__" = true) (kI : PySem.W.keepIn K (.ref fI) = true)
    (ga : PySem.W.findIn K (.ref C) "__getattribute__" = some (some (.builtin "BaseException.__getattribute__"))) (gg : PySem.W.findIn K (.ref C) "__getattr__" = some none) (hd : PySem.W.hasDictIn K C = true) (ca : PySem.W.findIn K (.ref C) "__class__" = some (some (.builtin "object.__class__")))
    (sg : PySem.W.specialIn K (.builtin "object.__class__") "__get__" = some (some (.builtin "getset_descriptor.__get__"))) (tk : PySem.W.takesIn K (.builtin "object.__class__") = some true) (mo : PySem.W.mroIn K C (.type "object") = some true)
    (gV : PySem.W.nsIn K mainGlobals "ViewError" = some (some (.ref CV))) (sV : PySem.W.subIn K (.ref CV) (.type "BaseException") = some true) (hV : PySem.W.hasDictIn K CV = true) (tV : PySem.W.typeIn K (.ref CV) = some (.type "type")) (cV : PySem.W.subIn K (.ref C) (.ref CV) = some true) (vE : PySem.W.subIn K (.ref C) (.type "ValueError") = some true) : ClsF K mg C CV fI :=
  ⟨PySem.W.mg_of X G gC, PySem.W.mg_of X G gV, ⟨⟨nm, q, N, bs, bm, sn, sub, ab, col, d1, m0, m1', m2', m3', m5, cls, rf⟩, sa, exC, tyC, kC⟩, no, iC, tI, ⟨_, fun_mk lI cI kI⟩, ga, gg, hd, ca, sg, tk, mo, sV, hV, tV, cV, vE⟩
end
end Rs

open PySem PySem.W PyProof.Rows
set_option maxHeartbeats 0 in
theorem PySem.Challenge.cw_remoteviews_k01_signs_read_holds : PySem.Challenge.rw_remoteviews_k01_signs_read.Holds := by
  w_on; o_law; k_head; (case hw => w_witness2)
  k_fill
  refine Gd.walk_G2 (l := PySem.Challenge.rw_remoteviews_k01_signs_read) (n := 63) (k := 8) (x := "script") (CX := fun _ => L2.CX0) rfl (by decide) rfl ⟨⟨rfl, by decide, by decide⟩, rfl⟩ (fun w h Y => PySem.W.kIn_of Y) ?F (fun _ _ _ _ _ h => h)
  case F =>
    intro w mg fa h Y KX G hmg tabs
    have C_is_name := by
      refine' Gd.def_c (x := "is_name") (st := Rs.s_is_name) (ps := ["thing"]) KX G ?a ?l ?c ?k ?l1 ?hv ?b
      (case a => k_is); (case l => k_is); (case c => k_is); (case k => k_is); (case l1 => k_is); (case hv => rfl); (case b => exact fun _ _ _ _ _ _ us hl => match us, hl with | [_], _ => rfl)
    have C__is_number := by
      refine' Gd.def_c (x := "_is_number") (st := Rs.s_is_number) (ps := ["run"]) KX G ?a ?l ?c ?k ?l1 ?hv ?b
      (case a => k_is); (case l => k_is); (case c => k_is); (case k => k_is); (case l1 => k_is); (case hv => rfl); (case b => exact fun _ _ _ _ _ _ us hl => match us, hl with | [_], _ => rfl)
    have D_is_character := by
      refine' Gd.def_k (x := "is_character") (st := Rs.s_is_character) (ps := ["char"]) KX G ?a ?l ?c ?k ?b
      (case a => k_is); (case l => k_is); (case c => k_is); (case k => k_is); (case b => exact fun _ _ _ _ _ _ us hl => match us, hl with | [_], _ => rfl)
    have D_is_digit := by
      refine' Gd.def_k (x := "is_digit") (st := Rs.s_is_digit) (ps := ["char"]) KX G ?a ?l ?c ?k ?b
      (case a => k_is); (case l => k_is); (case c => k_is); (case k => k_is); (case b => exact fun _ _ _ _ _ _ us hl => match us, hl with | [_], _ => rfl)
    have D__is_small := by
      refine' Gd.def_k (x := "_is_small") (st := Rs.s_is_small) (ps := ["char"]) KX G ?a ?l ?c ?k ?b
      (case a => k_is); (case l => k_is); (case c => k_is); (case k => k_is); (case b => exact fun _ _ _ _ _ _ us hl => match us, hl with | [_], _ => rfl)
    have D_split_line := by
      refine' Gd.def_k (x := "split_line") (st := Rs.s_split_line) (ps := ["line"]) KX G ?a ?l ?c ?k ?b
      (case a => k_is); (case l => k_is); (case c => k_is); (case k => k_is); (case b => exact fun _ _ _ _ _ _ us hl => match us, hl with | [_], _ => rfl)
    have D_write_signs := by
      refine' Gd.def_k (x := "write_signs") (st := Rs.s_write_signs) (ps := ["signs"]) KX G ?a ?l ?c ?k ?b
      (case a => k_is); (case l => k_is); (case c => k_is); (case k => k_is); (case b => exact fun _ _ _ _ _ _ us hl => match us, hl with | [_], _ => rfl)
    have D__read_sign := by
      refine' Gd.def_k (x := "_read_sign") (st := Rs.s_read_sign) (ps := ["line", "start"]) KX G ?a ?l ?c ?k ?b
      (case a => k_is); (case l => k_is); (case c => k_is); (case k => k_is); (case b => exact fun _ _ _ _ _ _ us hl => match us, hl with | [_, _], _ => rfl)
    have D__is_of_run := by
      refine' Gd.def_k (x := "_is_of_run") (st := Rs.s_is_of_run) (ps := ["char"]) KX G ?a ?l ?c ?k ?b
      (case a => k_is); (case l => k_is); (case c => k_is); (case k => k_is); (case b => exact fun _ _ _ _ _ _ us hl => match us, hl with | [_], _ => rfl)
    have D__read_run := by
      refine' Gd.def_k (x := "_read_run") (st := Rs.s_read_run) (ps := ["line", "start"]) KX G ?a ?l ?c ?k ?b
      (case a => k_is); (case l => k_is); (case c => k_is); (case k => k_is); (case b => exact fun _ _ _ _ _ _ us hl => match us, hl with | [_, _], _ => rfl)
    have D__read_quoted := by
      refine' Gd.def_k (x := "_read_quoted") (st := Rs.s_read_quoted) (ps := ["line", "start"]) KX G ?a ?l ?c ?k ?b
      (case a => k_is); (case l => k_is); (case c => k_is); (case k => k_is); (case b => exact fun _ _ _ _ _ _ us hl => match us, hl with | [_, _], _ => rfl)
    have D__meant := by
      refine' Gd.def_k (x := "_meant") (st := Rs.s_meant) (ps := ["piece", "start"]) KX G ?a ?l ?c ?k ?b
      (case a => k_is); (case l => k_is); (case c => k_is); (case k => k_is); (case b => exact fun _ _ _ _ _ _ us hl => match us, hl with | [_, _], _ => rfl)
    have D__is_space_between := by
      refine' Gd.def_k (x := "_is_space_between") (st := Rs.s_is_space_between) (ps := ["sign", "following"]) KX G ?a ?l ?c ?k ?b
      (case a => k_is); (case l => k_is); (case c => k_is); (case k => k_is); (case b => exact fun _ _ _ _ _ _ us hl => match us, hl with | [_, _], _ => rfl)
    have D__sign_text := by
      refine' Gd.def_k (x := "_sign_text") (st := Rs.s_sign_text) (ps := ["sign"]) KX G ?a ?l ?c ?k ?b
      (case a => k_is); (case l => k_is); (case c => k_is); (case k => k_is); (case b => exact fun _ _ _ _ _ _ us hl => match us, hl with | [_], _ => rfl)
    have D__escaped := by
      refine' Gd.def_k (x := "_escaped") (st := Rs.s_escaped) (ps := ["text"]) KX G ?a ?l ?c ?k ?b
      (case a => k_is); (case l => k_is); (case c => k_is); (case k => k_is); (case b => exact fun _ _ _ _ _ _ us hl => match us, hl with | [_], _ => rfl)
    have D__law_cell := by
      refine' Gd.def_k (x := "_law_cell") (st := Rs.s_law_cell) (ps := ["script", "k"]) KX G ?a ?l ?c ?k ?b
      (case a => k_is); (case l => k_is); (case c => k_is); (case k => k_is); (case b => exact fun _ _ _ _ _ _ us hl => match us, hl with | [_, _], _ => rfl)
    have D__law_list_is := by
      refine' Gd.def_k (x := "_law_list_is") (st := Rs.s_law_list_is) (ps := ["actual", "due"]) KX G ?a ?l ?c ?k ?b
      (case a => k_is); (case l => k_is); (case c => k_is); (case k => k_is); (case b => exact fun _ _ _ _ _ _ us hl => match us, hl with | [_, _], _ => rfl)
    have D__law_digits := by
      refine' Gd.def_k (x := "_law_digits") (st := Rs.s_law_digits) (ps := ["script", "first", "last"]) KX G ?a ?l ?c ?k ?b
      (case a => k_is); (case l => k_is); (case c => k_is); (case k => k_is); (case b => exact fun _ _ _ _ _ _ us hl => match us, hl with | [_, _, _], _ => rfl)
    have D__law_draw := by
      refine' Gd.def_k (x := "_law_draw") (st := Rs.s_law_draw) (ps := ["box", "many"]) KX G ?a ?l ?c ?k ?b
      (case a => k_is); (case l => k_is); (case c => k_is); (case k => k_is); (case b => exact fun _ _ _ _ _ _ us hl => match us, hl with | [_, _], _ => rfl)
    have D__law_quoted := by
      refine' Gd.def_k (x := "_law_quoted") (st := Rs.s_law_quoted) (ps := ["text"]) KX G ?a ?l ?c ?k ?b
      (case a => k_is); (case l => k_is); (case c => k_is); (case k => k_is); (case b => exact fun _ _ _ _ _ _ us hl => match us, hl with | [_], _ => rfl)
    have D__law_sign := by
      refine' Gd.def_k (x := "_law_sign") (st := Rs.s_law_sign) (ps := ["box"]) KX G ?a ?l ?c ?k ?b
      (case a => k_is); (case l => k_is); (case c => k_is); (case k => k_is); (case b => exact fun _ _ _ _ _ _ us hl => match us, hl with | [_], _ => rfl)
    have D__law_text := by
      refine' Gd.def_k (x := "_law_text") (st := Rs.s_law_text) (ps := ["sign"]) KX G ?a ?l ?c ?k ?b
      (case a => k_is); (case l => k_is); (case c => k_is); (case k => k_is); (case b => exact fun _ _ _ _ _ _ us hl => match us, hl with | [_], _ => rfl)
    have D__law_written := by
      refine' Gd.def_k (x := "_law_written") (st := Rs.s_law_written) (ps := ["signs"]) KX G ?a ?l ?c ?k ?b
      (case a => k_is); (case l => k_is); (case c => k_is); (case k => k_is); (case b => exact fun _ _ _ _ _ _ us hl => match us, hl with | [_], _ => rfl)
    have D__law_loose := by
      refine' Gd.def_k (x := "_law_loose") (st := Rs.s_law_loose) (ps := ["box", "signs"]) KX G ?a ?l ?c ?k ?b
      (case a => k_is); (case l => k_is); (case c => k_is); (case k => k_is); (case b => exact fun _ _ _ _ _ _ us hl => match us, hl with | [_, _], _ => rfl)
    have D__law_place := by
      refine' Gd.def_k (x := "_law_place") (st := Rs.s_law_place) (ps := ["line"]) KX G ?a ?l ?c ?k ?b
      (case a => k_is); (case l => k_is); (case c => k_is); (case k => k_is); (case b => exact fun _ _ _ _ _ _ us hl => match us, hl with | [_], _ => rfl)
    have m_isinstance := by
      refine' PySem.W.mg_none_of (n := "isinstance") KX G ?a
      (case a => k_is)
    have m_str := by
      refine' PySem.W.mg_none_of (n := "str") KX G ?a
      (case a => k_is)
    have m_int := by
      refine' PySem.W.mg_none_of (n := "int") KX G ?a
      (case a => k_is)
    have m_len := by
      refine' PySem.W.mg_none_of (n := "len") KX G ?a
      (case a => k_is)
    have m_all := by
      refine' PySem.W.mg_none_of (n := "all") KX G ?a
      (case a => k_is)
    have m_ord := by
      refine' PySem.W.mg_none_of (n := "ord") KX G ?a
      (case a => k_is)
    have m_range := by
      refine' PySem.W.mg_none_of (n := "range") KX G ?a
      (case a => k_is)
    have m_repr := by
      refine' PySem.W.mg_none_of (n := "repr") KX G ?a
      (case a => k_is)
    have m_list := by
      refine' PySem.W.mg_none_of (n := "list") KX G ?a
      (case a => k_is)
    have m_enumerate := by
      refine' PySem.W.mg_none_of (n := "enumerate") KX G ?a
      (case a => k_is)
    have m_ValueError := by
      refine' PySem.W.mg_none_of (n := "ValueError") KX G ?a
      (case a => k_is)
    have g_PERCENT := by
      refine' Gd.glob_k (x := "PERCENT") KX G ?a
      (case a => k_is)
    have g_NAME_LENGTH := by
      refine' Gd.glob_k (x := "NAME_LENGTH") KX G ?a
      (case a => k_is)
    have g_NUMBER_LENGTH := by
      refine' Gd.glob_k (x := "NUMBER_LENGTH") KX G ?a
      (case a => k_is)
    obtain ⟨C1, x1⟩ := C_is_name
    obtain ⟨C2, x2⟩ := C__is_number
    have t1 := tabs "is_name" _ _ _ (by rfl) x1
    have t2 := tabs "_is_number" _ _ _ (by rfl) x2
    have g_QUOTE := by
      refine' Gd.glob_s (x := "QUOTE") (z := PySem.Str.ofString "\"") KX G ?a ?b
      (case a => k_is); (case b => decide +kernel)
    have g_BACKSLASH := by
      refine' Gd.glob_s (x := "BACKSLASH") (z := PySem.Str.ofString "\\") KX G ?a ?b
      (case a => k_is); (case b => decide +kernel)
    have L := by
      refine' Gd.law_k (x := "law") (st := Rs.s_law) (p1 := "script") KX G hmg ?a ?l ?c ?k ?b
      (case a => k_is); (case l => k_is); (case c => k_is); (case k => k_is); (case b => exact fun _ _ _ _ _ _ s u => .of_eq rfl)
    obtain ⟨fd, Fl, bl⟩ := L
    have F := by
      refine' Rs.cls_k KX G ?gC ?cls ?rf ?sa ?exC ?tyC ?kC ?no ?iC ?tI ?lI ?cI ?kI ?ga ?gg ?hd ?ca ?sg ?tk ?mo ?gV ?sV ?hV ?tV ?cV ?vE
      (case gC => k_is); (case cls => k_is); (case rf => decide +kernel); (case sa => k_is); (case exC => k_is); (case tyC => k_is); (case kC => k_is); (case no => k_is); (case iC => k_is); (case tI => k_is); (case lI => k_is); (case cI => k_is); (case kI => k_is); (case ga => k_is); (case gg => k_is); (case hd => k_is); (case ca => k_is); (case sg => k_is); (case tk => k_is); (case mo => k_is); (case gV => k_is); (case sV => k_is); (case hV => k_is); (case tV => k_is); (case cV => k_is); (case vE => k_is)
    have g_MARKS := by
      refine' PySem.W.mg_of (n := "MARKS") KX G ?a
      (case a => k_is)
    have g_ESCAPES := by
      refine' PySem.W.mg_of (n := "ESCAPES") KX G ?a
      (case a => k_is)
    have g_LEFT := by
      refine' PySem.W.mg_of (n := "LEFT") KX G ?a
      (case a => k_is)
    have g_RIGHT := by
      refine' PySem.W.mg_of (n := "RIGHT") KX G ?a
      (case a => k_is)
    have g_COMMA := by
      refine' PySem.W.mg_of (n := "COMMA") KX G ?a
      (case a => k_is)
    refine' Rs.law_fin KX Fl bl ?nt C1 t1 C2 t2 F ?EK g_MARKS ?hM g_ESCAPES g_LEFT g_RIGHT g_COMMA ?hL ?hR ?hC g_QUOTE g_BACKSLASH D_is_character D_is_digit D__is_small D_split_line D_write_signs D__read_sign D__is_of_run D__read_run D__read_quoted D__meant D__is_space_between D__sign_text D__escaped D__law_cell D__law_list_is D__law_digits D__law_draw D__law_quoted D__law_sign D__law_text D__law_written D__law_loose D__law_place m_isinstance m_str m_int m_len m_all m_ord m_range m_repr m_list m_enumerate m_ValueError g_PERCENT g_NAME_LENGTH g_NUMBER_LENGTH
    case nt => kernel_rfl
    case EK =>
      refine' ⟨_, _, _, _, _, _, _, _, _, _, Gd.dict3_k ?l ?e1 ?e2 ?e3 ?low ?q1 ?q2 ?q3 ?p1 ?p2 ?p3⟩
      (case l => k_is); (case e1 => rfl); (case e2 => rfl); (case e3 => rfl); (case low => decide); all_goals decide +kernel
    case hM =>
      refine' Gd.four_k ?l ?h1 ?h2 ?h3 ?h4
      (case l => k_is); all_goals decide +kernel
    case hL =>
      refine' Gd.pair_k ?lhL ?xhL ?yhL
      (case lhL => k_is); all_goals decide +kernel
    case hR =>
      refine' Gd.pair_k ?lhR ?xhR ?yhR
      (case lhR => k_is); all_goals decide +kernel
    case hC =>
      refine' Gd.pair_k ?lhC ?xhC ?yhC
      (case lhC => k_is); all_goals decide +kernel
