import PyProof.Rows.All
import Wide.All
import OpenK.AllK
import Wide.FinOn
import PyProof.EqAt
import PyProof.EqKinds
import PyProof.TupleCall
import KE.KNest
import HandS.Base
import HandS.Call
import HandS.List
import HandS.Comp
import HandS.AnyAll
import HandS.GenOver
import HandS.GenList
import HandS.ForMost
import HandS.Exc
import HandS.WordsExc
import HandS.EndTab
import HandS.IsInst
import HandS.SetBool
import HandS.SetKeys
import HandS.RaiseMore
import HandS.Style
import HandS.Text
import PyProof.StrBlock2
import PySem.Challenge.RW_remoteviews_k00_values_told
set_option Elab.async false
set_option linter.all false
set_option maxRecDepth 100000
set_option maxHeartbeats 4000000
/-! all(e for x in it): the element any expression, its names the target's and captured ones. -/
namespace Gx
open PySem PySem.Spec PyProof.Rows L2 GxR
open Sem (wp)

/-- the around of a generator expression's code over a consumer's call -/
theorem over_gen {A : Around} {elt tg iter : Expr} {ifs : List Expr} {scope : Scope} {pos : Pos} {it acc : Value} {env : Env} :
    A.over (.compLoop (.GeneratorExp elt [⟨tg, iter, ifs, 0⟩] scope pos) 0 it acc env) [] = A.deeper env := by
  first
    | rfl
    | (obtain ⟨hd, d, fr, gs, u⟩ := A; simp [Around.over, Around.deeper, marksOver, frameCount, unitsOf, envsOf, guardsOf, pushEnvs, pushGuards, Code.envs, Code.env?, Code.isFrame, Code.guards, Code.isGuard, Code.weight, Code.frames, Code.isCreation, Code.isCaller, Code.cUnits])
theorem over_genS {A : Around} {elt tg iter : Expr} {ifs : List Expr} {scope : Scope} {pos : Pos} {it acc : Value} {env : Env} :
    A.over (.compStart (.GeneratorExp elt [⟨tg, iter, ifs, 0⟩] scope pos) 0 it acc env) [] = A.deeper env := by
  first
    | rfl
    | (obtain ⟨hd, d, fr, gs, u⟩ := A; simp [Around.over, Around.deeper, marksOver, frameCount, unitsOf, envsOf, guardsOf, pushEnvs, pushGuards, Code.envs, Code.env?, Code.isFrame, Code.guards, Code.isGuard, Code.weight, Code.frames, Code.isCreation, Code.isCaller, Code.cUnits])

/-- the context of a generator expression's block: begun at s; pn: its own object -/
abbrev gx (X : Cx) (N : List Str) (s : Shared) (H : Hp) (cenv : Env) (fp : List Addr) (pn : List (Addr × Obj)) : Cx :=
  { X with A := X.A.in1.in1.deeper cenv, N := N, s_0 := s, H_0 := H, env := cenv, outer := X.stack, stack := cenv :: X.stack, ex := fp, fn := fun _ => false, pn := pn, xe := fun _ _ => False }

/-- captured names: their places in the def's names -/
structure Caps (X : Cx) (scope : Scope) (caps : List (Str × Nat)) : Prop where
  ix : ∀ p ∈ caps, X.N[p.2]? = some p.1
  free : ∀ p ∈ caps, scope.names.lookup p.1 = some .free
  vis : ∀ p ∈ caps, X.env.scope.names.lookup p.1 = some .cell ∨ X.env.scope.names.lookup p.1 = some .free
theorem Caps.nil {X : Cx} {scope : Scope} : Caps X scope [] := ⟨fun _ h => (by cases h), fun _ h => (by cases h), fun _ h => (by cases h)⟩
def capV (σ : L2.St) (caps : List (Str × Nat)) : L2.St := caps.map fun p => (σ[p.2]?).join
def capN (caps : List (Str × Nat)) : List Str := caps.map (·.1)

section
variable {X : Cx} {pins : List (Addr × Obj)} {σ : L2.St} {H : Hp} {s : Shared}

theorem gen_start {scope : Scope} {x : Str} {code : Value} {caps : List (Str × Nat)} {fp : List Addr} {s5 : Shared} {go : Obj} {m : Str → Option Value} (I : Inv X pins σ H s) (S : GenS X.env scope x) (C : Caps X scope caps) (hd : X.A.handled = none)
    (hfp : ∀ b ∈ fp, FpOk X pins H b ∧ b < s.heap.objs.size)
    (hos : s5.os = s.os) (hba : AllBare s5.gens) (hk : ∀ b o, s.heap.get? b = some o → s5.heap.get? b = some o)
    (hn : s5.heap.Ns s.heap.objs.size m) (hgo : s5.heap.get? (s.heap.objs.size + 1) = some go) (hgc : ∀ v, go.data ≠ .cell v) :
    Inv (gx X (x :: capN caps) s H (genEnv scope (cloFrom X.env.cells scope.names []) s.heap.objs.size code builtinsNs X.env) fp [(s.heap.objs.size + 1, go)]) [] (none :: capV σ caps) H s5 := by
  have cm : ∀ {y c}, (y, c) ∈ cloFrom X.env.cells scope.names [] → X.env.cells.lookup y = some c ∧ c < s.heap.objs.size := fun {y c} hm => by
    rcases cloFrom_mem hm with hm | ⟨h1, rfl⟩
    · cases hm
    · obtain ⟨c, hc⟩ := S.free _ h1 rfl
      rw [hc]
      obtain ⟨w, z⟩ := I.cell _ _ hc
      exact ⟨rfl, z.lt⟩
  have lk : ∀ {y c}, (cloFrom X.env.cells scope.names []).lookup y = some c → X.env.cells.lookup y = some c ∧ c < s.heap.objs.size := fun {y c} e => cm (PySem.mem_of_lookup e)
  have look : ∀ {y}, scope.names.lookup y = some .free → ∃ c, (cloFrom X.env.cells scope.names []).lookup y = some c ∧ X.env.cells.lookup y = some c := fun {y} hl => by
    have hy : (y, NameKind.free) ∈ scope.names := PySem.mem_of_lookup hl
    obtain ⟨c', e'⟩ := mem_lookup (cloFrom_has (cells := X.env.cells) (acc := []) hy)
    exact ⟨c', e', (lk e').1⟩
  refine ⟨⟨I.ok.mod, S.kind, I.ok.glob, rfl, Nat.le_refl _, fun y z c e1 e2 => I.ok.inj y z c (lk e1).1 (lk e2).1, fun y hy => ?_, fun y c z => absurd z (by simp), fun _ => hd, ?_, .inr ⟨rfl, rfl⟩, fun b hb => ⟨?_, fun y c e z => ?_⟩, I.bs, Nat.le_trans I.ok.bsz I.sz, fun b o e hb => ?_, fun b hb z => ?_, I.stack, I.stkFree⟩,
    hos, hba, Un.kept hk, ⟨m, hn, fun i y v e1 e2 e3 => ?_⟩, fun y c e => ?_, ?_, fun y c e => ?_, fun p hp => ?_, I.hok.kept hk, ?_⟩
  · have hy : scope.names.lookup y = some .cell ∨ scope.names.lookup y = some .free := hy
    rcases hy with hy | hy
    · exact absurd rfl (S.cell _ (PySem.mem_of_lookup hy))
    · obtain ⟨c, e, _⟩ := look hy
      exact ⟨c, e⟩
  · exact Around.frames_deeper (A := X.A.in1.in1) (show X.A.in1.in1.frames = some X.stack from I.ok.frames)
  · show b ≠ s.heap.objs.size
    exact Nat.ne_of_lt (hfp b hb).2
  · exact (hfp b hb).1.2.2.2.2.1 y c (lk e).1 z
  · rcases (hfp b hb).1.2.2.2.1 with z | z
    · exact I.ok.noex b o e z
    · exact absurd (Nat.lt_of_lt_of_le (Heap.lt_size e) (Nat.le_trans I.ok.bsz z)) (Nat.lt_irrefl _)
  · rcases List.mem_cons.mp (I.stkSub b z) with z | z
    · exact (hfp b hb).1.2.1 z
    · exact (hfp b hb).1.2.2.1 z
  · cases i with
    | zero => cases e2
    | succ i =>
      have e1 : (capN caps)[i]? = some y := e1
      have e2 : (capV σ caps)[i]? = some (some v) := e2
      unfold capN at e1
      unfold capV at e2
      rw [List.getElem?_map] at e1 e2
      cases hp : caps[i]? with
      | none => rw [hp] at e1; cases e1
      | some p =>
        rw [hp] at e1 e2
        have ey : p.1 = y := Option.some.inj e1
        have ev : (σ[p.2]?).join = some v := Option.some.inj e2
        have hpm : p ∈ caps := List.mem_of_getElem? hp
        have ev2 : σ[p.2]? = some (some v) := by
          cases q : σ[p.2]? with
          | none => rw [q] at ev; cases ev
          | some w => rw [q] at ev; rw [show w = some v from ev]
        obtain ⟨m0, hn0, hl0⟩ := I.loc
        have hv := C.vis p hpm
        obtain ⟨u, r, l⟩ := hl0 p.2 p.1 v (C.ix p hpm) ev2 (.inr hv)
        subst ey
        refine ⟨u, r, .inr ⟨.inr (C.free p hpm), ?_⟩⟩
        obtain ⟨c, h1, h2⟩ := look (C.free p hpm)
        rcases l with ⟨k, _⟩ | ⟨_, c', e', z⟩
        · have k : X.env.scope.names.lookup p.1 = some .local := k
          rcases hv with k' | k' <;> rw [k'] at k <;> cases k
        · rw [h2] at e'; cases e'
          exact ⟨c, h1, z.keeps hk⟩
  · obtain ⟨w, z⟩ := I.cell y c (lk e).1
    exact ⟨w, z.keeps hk⟩
  · exact I.hok.fresh (Nat.le_refl _)
  · exact I.freeC y c (lk e).1
  · have hp : p ∈ [(s.heap.objs.size + 1, go)] ++ [] := hp
    rw [List.append_nil] at hp
    rw [List.mem_singleton.mp hp]
    exact ⟨hgo, I.hok.fresh (Nat.le_succ _), (Nat.succ_ne_self _), fun hb => by
      rcases List.mem_cons.mp (I.stkSub _ hb) with z | z
      · have h1 := I.lt
        have z' : s.heap.objs.size + 1 = X.env.locals := z
        rw [← z'] at h1
        exact absurd (Nat.lt_of_succ_lt h1) (Nat.lt_irrefl _)
      · exact I.nofs (Nat.le_succ _) z, hgc⟩
  · show (none :: capV σ caps).length = (x :: capN caps).length
    unfold capV capN
    simp
end

/-- woken again: only the generators' table turned -/
structure Woke (s s' : Shared) : Prop where
  heap : s'.heap = s.heap
  os : s'.os = s.os
  bare : AllBare s'.gens
theorem inv_woke {X : Cx} {pins : List (Addr × Obj)} {σ : L2.St} {H : Hp} {s s' : Shared} (I : Inv X pins σ H s) (z : Woke s s') : Inv X pins σ H s' :=
  I.call' (ch := []) z.os (by rw [z.heap]; exact Un.refl) (by rw [z.heap]; exact I.hok) z.bare fun b hb => by simp at hb

section
variable {X : Cx} {N : List Str} {s4 : Shared} {H4 : Hp} {cenv : Env} {fp : List Addr} {pn : List (Addr × Obj)} {J : It} {tn : Nat → Heap → Prop} {σ0 : L2.St} {W : Nat → Nat → Hp → Prop} {Ft Ff : Hp → Prop}

/-- asleep at turn i -/
def At (GX : Cx) (fp : List Addr) (tn : Nat → Heap → Prop) (σ0 : L2.St) (W : Nat → Nat → Hp → Prop) (n : Nat) (s : Shared) : Prop :=
  ∃ i m H, Inv GX [] σ0 H s ∧ tn i s.heap ∧ (∀ b ∈ fp, H b = none) ∧ W i m H ∧ m < n
/-- it has handed out v -/
def Yp (GX : Cx) (fp : List Addr) (tn : Nat → Heap → Prop) (σ0 : L2.St) (W : Nat → Nat → Hp → Prop) (Ff : Hp → Prop) : Protocol := fun n s₀ v s kap =>
  ∃ c, v = .bool c ∧ ((c = true ∧ At GX fp tn σ0 W n s ∧ ∀ s', Woke s s' → kap (.send .none) s') ∨ (c = false ∧ ∃ σ H, Inv GX [] σ H s ∧ Ff H))
def Ep (GX : Cx) (Ft : Hp → Prop) : GenEnd := fun n s₀ r s => r = .ok .next ∧ ∃ σ H, Inv GX [] σ H s ∧ Ft H

theorem stat_of {GX : Cx} {σ' : L2.St} {H' : Hp} {s' : Shared} (hex : GX.ex = fp) (hpn : ∀ p ∈ GX.pn, ∀ b ∈ fp, p.1 ≠ b) (I' : Inv GX [] σ' H' s') (hn : ∀ b ∈ fp, H' b = none) : ∀ b ∈ fp, FpOk GX [] H' b := fun b hb => by
  have hb' : b ∈ GX.ex := by rw [hex]; exact hb
  exact ⟨hn b hb, (I'.ok.exf b hb').1, I'.ok.exfs b hb', .inl hb', fun x c e => (I'.ok.exf b hb').2 x c e, fun p hp => hpn p (by rw [List.append_nil] at hp; exact hp) b hb⟩

theorem seg_loop {A : Around} {P : Program} {w : World} {K : PySem.W.Frag} {elt tg iter : Expr} {scope : Scope} {pos : Pos} {it : Addr} {GX : Cx} {g : TG} {te : TE}
    (hP : GX.prog = P) (hw : GX.w = w) (hK : GX.K = K) (hA : GX.A = A.deeper GX.env) (hcalm : GX.calm = true) (hxe : GX.xe = fun _ _ => False) (hex : GX.ex = fp) (hpn : ∀ p ∈ GX.pn, ∀ b ∈ fp, p.1 ≠ b) (hco : GX.env.scope.isCoroutine = false)
    (T : Turn P w K tg J fp it tn) (pg : PG GX tg g) (pe : PE GX elt te)
    (turn : ∀ i m H, W i m H → (J.stop i H ∧ Ft H) ∨ (J.go i H ∧ ∃ Nx : Hp → Prop, (∀ H', Nx H' → ∃ m', m' < m ∧ W (i + 1) m' H') ∧ ∀ x H', J.yld i H x H' → g x σ0 H' fun σ2 H3 => (∀ (j : Nat) v, σ0[j]? = some (some v) → σ2[j]? = some (some v)) ∧ te σ2 H3 fun y H5 => ∃ c, y = .bl c ∧ if c = true then Nx H5 else Ff H5)) :
    ∀ (n : Nat) (s₀ s : Shared), At GX fp tn σ0 W n s →
      Seg (model P w) A (Ep GX Ft) (Yp GX fp tn σ0 W Ff) n s₀ (.compLoop (.GeneratorExp elt [⟨tg, iter, [], 0⟩] scope pos) 0 (.ref it) .none GX.env)
        ((model P w).den (.compLoop (.GeneratorExp elt [⟨tg, iter, [], 0⟩] scope pos) 0 (.ref it) .none GX.env)) [] s := by
  subst hP hw hK
  have hAo : A.over (.compLoop (.GeneratorExp elt [⟨tg, iter, [], 0⟩] scope pos) 0 (.ref it) .none GX.env) [] = GX.A := over_gen.trans hA.symm
  have noE : ∀ {x : Value} {s' : Shared}, GX.xe x s' → False := fun {x s'} h => by rw [hxe] at h; exact h
  intro n
  induction n with
  | zero =>
    intro s₀ s h
    obtain ⟨i, m, H, _, _, _, _, hm⟩ := h
    exact absurd hm (Nat.not_lt_zero _)
  | succ n ih =>
    intro s₀ s h
    obtain ⟨i, m, H, I, st, nf, wi, hm⟩ := h
    show Seg _ A _ _ _ s₀ _ ((compTurn (.GeneratorExp elt [⟨tg, iter, [], 0⟩] scope pos) 0 (.ref it) .none GX.env).onRaise (leaving GX.env)) [] s
    rw [compTurn_gen, Sem.onRaise_eq_wrap]
    refine seg_bind_wrap (wpAny_standAt ?_)
    rcases turn i m H wi with ⟨stop, ft⟩ | ⟨go, Nx, hNx, step⟩
    · refine seg_bind_wrap ?_
      rw [hAo]
      refine thnF (T.done GX rfl rfl rfl hcalm i [] s _ H (fun _ _ => False) I (stat_of hex hpn I nf) st stop) fun r s1 ⟨hr, I1⟩ => ?_
      subst hr
      exact seg_end (.ok .next) ⟨rfl, _, H, I1, ft⟩
    · refine seg_bind_wrap ?_
      rw [hAo]
      refine thnF (T.item GX rfl rfl rfl hcalm i [] s _ H (fun _ _ => False) I (stat_of hex hpn I nf) st go) fun r s1 ⟨u, hr, h1⟩ => ?_
      subst hr
      refine seg_bind_wrap ?_
      rw [hAo]
      refine thnF h1 fun _ s2 ⟨x, H2, I2, r2, y2, st2, n2⟩ => ?_
      have I2' := I2.pinned (stat_of hex hpn I2 n2) (T.obj _ _ st2)
      refine seg_bind_wrap ?_
      rw [hAo]
      refine wpAny_mono (pg.run _ s2 _ H2 x u _ I2' r2 (step x H2 y2)) (fun _ s3 ⟨σ3, H3, I3, hl3, q3⟩ => ?_) fun _ _ hx => (noE hx).elim
      refine seg_bind_wrap (wpAny_tests_nil ?_)
      simp only [if_true]
      have hy : ∀ v, yieldOut GX.env v = yieldValue v := fun v => by simp only [yieldOut, hco, Bool.false_eq_true, if_false]
      simp only [hy]
      rw [Sem.bind_eq_wrap', Sem.bind_eq_wrap', Sem.wrap_wrap, Sem.wrap_wrap]
      refine seg_wrap ?_
      rw [hAo]
      refine wpAny_mono (pe.run _ s3 σ3 H3 _ I3 q3) (fun y s5 ⟨yv, H5, I5, r5, c, ey, q5⟩ => ?_) fun _ _ hx => (noE hx).elim
      subst ey
      have ev : y = Value.bool c := r5
      subst ev
      have pin' : ∀ b ∈ fp, ∀ o, s2.heap.get? b = some o → s5.heap.get? b = some o ∧ H5 b = none := fun b hb o e =>
        let z := I5.pin (b, o) (List.mem_append_right _ (List.mem_append_right _ (mem_pinsAt hb e)))
        ⟨z.1, z.2.1⟩
      have I6 : Inv GX [] σ0 H5 s5 := (I5.unpinned (pins := [])).weak (by rw [I.len, I5.len]) hl3
      have st6 : tn (i + 1) s5.heap := T.keep _ _ _ st2 fun b hb o e => (pin' b hb o e).1
      have n6 : ∀ b ∈ fp, H5 b = none := fun b hb => by
        obtain ⟨o, e, _⟩ := T.obj _ _ st2 b hb
        exact (pin' b hb o e).2
      refine seg_at (seg_yield rfl rfl rfl ⟨c, rfl, ?_⟩)
      cases c with
      | true =>
        obtain ⟨m', hm', w'⟩ := hNx H5 q5
        refine .inl ⟨rfl, ⟨i + 1, m', H5, I6, st6, n6, w', by omega⟩, fun s' z => ?_⟩
        exact seg_again rfl (ih s' s' ⟨i + 1, m', H5, inv_woke I6 z, by rw [z.heap]; exact st6, n6, w', by omega⟩)
      | false => exact .inr ⟨rfl, _, H5, I6, q5⟩
theorem seg_begin {A : Around} {P : Program} {w : World} {K : PySem.W.Frag} {elt tg iter : Expr} {scope : Scope} {pos : Pos} {it : Addr} {GX : Cx} {n : Nat} {s₀ s : Shared} {R : GenEnd} {Y : Protocol} {i : Nat}
    (T : Turn P w K tg J fp it tn) (st : tn i s.heap)
    (loop : Seg (model P w) A R Y n s₀ (.compLoop (.GeneratorExp elt [⟨tg, iter, [], 0⟩] scope pos) 0 (.ref it) .none GX.env) ((model P w).den (.compLoop (.GeneratorExp elt [⟨tg, iter, [], 0⟩] scope pos) 0 (.ref it) .none GX.env)) [] s) :
      Seg (model P w) A R Y n s₀ (.compStart (.GeneratorExp elt [⟨tg, iter, [], 0⟩] scope pos) 0 (.ref it) .none GX.env)
        ((model P w).den (.compStart (.GeneratorExp elt [⟨tg, iter, [], 0⟩] scope pos) 0 (.ref it) .none GX.env)) [] s := by
  show Seg _ A _ _ _ s₀ _ ((compStart (.GeneratorExp elt [⟨tg, iter, [], 0⟩] scope pos) 0 (.ref it) .none GX.env).onRaise (leaving GX.env)) [] s
  unfold compStart
  rw [Sem.onRaise_eq_wrap]
  show Seg _ A _ _ _ s₀ _ ((ask >>= _).wrap _ _ _ _) [] s
  refine seg_bind_wrap (wpAny_askSetting ?_)
  split
  · exact seg_again rfl loop
  · first
      | exact seg_bind_wrap (wpAny_rule (seg_bind_wrap (wpAny_standAt (seg_bind_wrap (T.self _ i s _ _ st (seg_again rfl loop))))))
      | (refine seg_bind_wrap (wpAny_rule ?_); show Seg _ A _ _ _ s₀ _ ((standAt iter.pos >>= _).wrap _ _ _ _) [] s; exact seg_bind_wrap (wpAny_standAt (seg_bind_wrap (T.self _ i s _ _ st (seg_again rfl loop)))))

theorem all_loop {A : Around} {P : Program} {w : World} {GX : Cx} {a : Addr} {g : Nat} {go : Obj} {R : Result → Shared → Prop}
    (hh : A.handled = none) (hd : A.depth < recursionLimit) (hgo : ∀ h : Heap, h.get? a = some go → h.IsGen a g) (hpn : (a, go) ∈ GX.pn)
    (hT : ∀ σ H s', Inv GX [] σ H s' → Ft H → R (.ok (.ret (.bool true))) s') (hF : ∀ σ H s', Inv GX [] σ H s' → Ff H → R (.ok (.ret (.bool false))) s') :
    ∀ (n : Nat) (s : Shared), s.heap.IsGen a g → s.heap.NoLimit →
      (∃ gs, s.gens[g]? = some gs ∧ gs.Goes (model P w) A.in1.in1 (Ep GX Ft) (Yp GX fp tn σ0 W Ff) n (.send .none) (s.setGen g .running)) →
      codeAny (model P w) A (.builtin "all.loop" ⟨[.ref a], []⟩) R s := by
  have goes : ∀ {gs : GenState} {B : Around} {n : Nat} {r : Resume} {s : Shared}, gs.Goes (model P w) B (Ep GX Ft) (Yp GX fp tn σ0 W Ff) n r s →
      gs.Goes (model P w) B (fun n s₀ r s₁ => r = .ok .next ∧ (fun (_ : Nat) (_ : Shared) s₁ => ∃ σ H, Inv GX [] σ H s₁ ∧ Ft H) n s₀ s₁) (Yp GX fp tn σ0 W Ff) n r s := fun h => h
  have pinned : ∀ {σ H s'}, Inv GX [] σ H s' → s'.heap.IsGen a g := fun {σ H s'} J => hgo _ (J.pin (a, go) (List.mem_append_left _ hpn)).1
  intro n
  induction n with
  | zero =>
    intro s hg hl ⟨gs, hgs, hgo'⟩
    refine codeAny_builtin F.entry_all_loop ?_
    rw [Around.under_plainId F.plain_all_loop _]
    show wpAny _ A.in1 (pyNext (.ref a) >>= _) _ _ s
    refine wpAny_bind (wpAny_pyNext_genexpQ (A := A.in1) hh hl hd hg hgs (goes hgo') (fun v s₁ gs' hbare hv => ?_) (fun s₁ hp h' hk => ?_))
    · obtain ⟨c, rfl, h⟩ := hv
      refine wpAny_bind (wpAny_holding (wpAny_truthy_bool ?_))
      refine wpAny_bind (wpAny_letGo ?_)
      rcases h with ⟨rfl, _, hk⟩ | ⟨rfl, σ, H, I, ff⟩
      · exact False.elim (hk s₁ ⟨rfl, rfl, (by
          obtain ⟨_, _, _, I1, _⟩ := ‹At _ _ _ _ _ _ _›
          exact I1.bare)⟩)
      · simp only [Bool.false_eq_true, if_false]
        refine wpAny_bind (wpAny_rule (wpAny_pure ?_))
        exact hF σ H _ (inv_woke I ⟨rfl, rfl, allBare_setGen I.bare hbare⟩) ff
    · obtain ⟨σ, H, I, ft⟩ := hp
      refine wpAny_bind (wpAny_rule (wpAny_pure ?_))
      have I2 : Inv GX [] σ H (s₁.setGen g .finished) := inv_woke I ⟨rfl, rfl, allBare_setGen I.bare rfl⟩
      exact hT σ H _ (I2.call' (ch := []) rfl (Un.kept hk) (I2.hok.kept hk) I2.bare fun b hb => by simp at hb) ft
  | succ n ih =>
    intro s hg hl ⟨gs, hgs, hgo'⟩
    have hgl : g < s.gens.size := (Array.getElem?_eq_some_iff.mp hgs).1
    refine codeAny_builtin F.entry_all_loop ?_
    rw [Around.under_plainId F.plain_all_loop _]
    show wpAny _ A.in1 (pyNext (.ref a) >>= _) _ _ s
    refine wpAny_bind (GenW.wpAny_gsz (n := g + 1) hgl (wpAny_pyNext_genexpQ (A := A.in1) hh hl hd hg hgs (goes hgo') (fun v s₁ gs' hbare hv => ?_) (fun s₁ hp h' hk => ?_)))
    · intro hsz
      obtain ⟨c, rfl, h⟩ := hv
      refine wpAny_bind (wpAny_holding (wpAny_truthy_bool ?_))
      refine wpAny_bind (wpAny_letGo ?_)
      rcases h with ⟨rfl, hat, hk⟩ | ⟨rfl, σ, H, I, ff⟩
      · simp only [if_true]
        obtain ⟨_, _, _, I1, _⟩ := id hat
        have hsz1 : g < s₁.gens.size := by
          have q : (s₁.setGen g gs').gens.size = s₁.gens.size := GenW.setGen_size _ _ _
          have hsz' : g + 1 ≤ (s₁.setGen g gs').gens.size := hsz
          omega
        refine wpAny_pure ⟨plainId_quiet F.plain_all_loop _, ih (s₁.setGen g gs') (show s₁.heap.IsGen a g from pinned I1) (show s₁.heap.NoLimit from I1.nolimit) ⟨gs', setGen_at hsz1, ?_⟩⟩
        exact hk _ ⟨rfl, rfl, allBare_setGen (allBare_setGen I1.bare hbare) rfl⟩
      · simp only [Bool.false_eq_true, if_false]
        refine wpAny_bind (wpAny_rule (wpAny_pure ?_))
        exact hF σ H _ (inv_woke I ⟨rfl, rfl, allBare_setGen I.bare hbare⟩) ff
    · intro _
      obtain ⟨σ, H, I, ft⟩ := hp
      refine wpAny_bind (wpAny_rule (wpAny_pure ?_))
      have I2 : Inv GX [] σ H (s₁.setGen g .finished) := inv_woke I ⟨rfl, rfl, allBare_setGen I.bare rfl⟩
      exact hT σ H _ (I2.call' (ch := []) rfl (Un.kept hk) (I2.hok.kept hk) I2.bare fun b hb => by simp at hb) ft
end

/-- all(elt for tg in iter), its element True or False; behind it the def's table may have grown.
W by the turn and a measure; a turn that gives False ends it -/
def tAllG (P : Addr) (wi : TI) (g : TG) (te : TE) (caps : List (Str × Nat)) : TE := fun σ H Q => wi σ H fun J H1 => TabG H1 P ∧ ∀ H2, Tabbed P H1 H2 →
  ∃ W : Nat → Nat → Hp → Prop, (∃ m, W 0 m H2) ∧ ∀ i m H, W i m H → (J.stop i H ∧ Q (.bl true) H) ∨
    (J.go i H ∧ ∃ Nx : Hp → Prop, (∀ H', Nx H' → ∃ m', m' < m ∧ W (i + 1) m' H') ∧ ∀ x H', J.yld i H x H' → g x (none :: capV σ caps) H' fun σ2 H3 =>
      (∀ (j : Nat) v, (none :: capV σ caps : L2.St)[j]? = some (some v) → σ2[j]? = some (some v)) ∧ te σ2 H3 fun y H5 => ∃ c, y = .bl c ∧ if c = true then Nx H5 else Q (.bl false) H5)

theorem pe_allG {X : Cx} {c P : Addr} {elt tg iter : Expr} {x : Str} {p pos gpos : Pos} {scope : Scope} {wi : TI} {g : TG} {te : TE} {k : Nat} {caps : List (Str × Nat)}
    (hr : Room (k + 1) X.A) (hg : Gl X "all") (hm : X.mg "all" = none) (TB : TabB X.base X.mg c P) (hcode : X.env.code = .ref c) (S : GenS X.env scope x) (C : Caps X scope caps) (hi : PI X tg iter wi) (hcalm : X.calm = true)
    (pg : ∀ (s : Shared) (H : Hp) (a : Addr) (code : Value) (fp : List Addr) (pn : List (Addr × Obj)), PG (gx X (x :: capN caps) s H (genEnv scope (cloFrom X.env.cells scope.names []) a code builtinsNs X.env) fp pn) tg g)
    (pe : ∀ (s : Shared) (H : Hp) (a : Addr) (code : Value) (fp : List Addr) (pn : List (Addr × Obj)), Room k (gx X (x :: capN caps) s H (genEnv scope (cloFrom X.env.cells scope.names []) a code builtinsNs X.env) fp pn).A → PE (gx X (x :: capN caps) s H (genEnv scope (cloFrom X.env.cells scope.names []) a code builtinsNs X.env) fp pn) elt te)
    (hb : bootBuiltins "all" = some (.builtin "all") := by decide +kernel)
    (hs : ∀ v, genFold iter X.env v = pure v := by intro _; rfl)
    (he : starEach [.GeneratorExp elt [⟨tg, iter, [], 0⟩] scope gpos] X.env = (false, eval (.GeneratorExp elt [⟨tg, iter, [], 0⟩] scope gpos) X.env) :: starEach [] X.env := by rfl) :
    PE X (.Call (.Name "all" p) [.GeneratorExp elt [⟨tg, iter, [], 0⟩] scope gpos] [] pos) (tAllG P wi g te caps) := by
  refine ⟨fun pins s σ H Q I h => ?_⟩
  refine wpAny_Call_Name_kw (ld_blt I hg hm hb ?_)
  refine PyProof.Rows.callWith_builtin1 ?_ he (by rfl)
  rw [he]
  show wpAny _ _ (spliced ((false, eval (.GeneratorExp elt [⟨tg, iter, [], 0⟩] scope gpos) X.env) :: backTo pos (starEach [] X.env))) _ _ s
  refine Calls.spliced_cons ?_
  refine wpAny_mono (Q := fun v s5 => wpAny (model X.prog X.w) X.A (call (.builtin "all") [v]) (EP X pins σ Q) X.xe s5) ?_ (fun v s5 hq => Calls.spliced_nil hq) fun _ _ h => h
  refine wpAny_GeneratorExp_make S.co (closure_ok S.free) S.cell S.dot S.kind (by have := hr.dp; omega) ?_ hs
  refine thn (hi.run pins s σ H _ I h) fun xv s1 h1 => thn h1 fun itv s2 h2 => ?_
  obtain ⟨it, fp, tn, J, H2, ei, I2, T, st2, f2, ⟨ps, hP, ht⟩, q⟩ := h2
  subst ei
  refine ⟨I2.nolimit, ?_⟩
  have hPs : s2.heap.get? P = some { cls := .none, data := .fields ps } := I2.hok P _ hP
  have hPlt : P < s2.heap.objs.size := Heap.lt_size hPs
  have cd : PySem.W.CodeHd s2.heap c P := TB.code.keeps fun b u e => I2.bk b u e
  have lim2 : s2.heap.NoLimit := I2.nolimit
  have fpP : ∀ b ∈ fp, b ≠ P := fun b hb z => by
    have q := (f2 b hb).1
    rw [z, hP] at q
    cases q
  have cont : ∀ (code : Value) (h3 : Heap) (tk : Nat) (ps' : Array Value), Heap.ExtBut P s2.heap h3 → s2.heap.objs.size ≤ h3.objs.size → h3.get? P = some { cls := .none, data := .fields ps' } → (∃ more, ps' = ps ++ more) → TriplesOk ps'.toList →
      wpAny (model X.prog X.w) X.A (builtinsFor X.env.globals X.env.builtins) (fun bi s₄ =>
        ∀ h', h'.Ns s₄.heap.objs.size (fun y => if y = ".0" then some (.ref it) else none) → Heap.SameBut s₄.heap.objs.size (s₄.heap.push { cls := .type "frame", data := .dict #[] }) h' →
          wpAny (model X.prog X.w) X.A (call (.builtin "all") [.ref h'.objs.size]) (EP X pins σ Q) X.xe { s₄ with
            gens := s₄.gens.push (.fresh (.compStart (.GeneratorExp elt [⟨tg, iter, [], 0⟩] scope gpos) 0 (.ref it) .none (genEnv scope (cloFrom X.env.cells scope.names []) s₄.heap.objs.size code bi X.env))),
            toks := s₄.toks + 1 + 1 + 1,
            heap := h'.push { cls := .type "generator", data := .fields #[.int s₄.gens.size 0, .str "<genexpr>" (s₄.toks + 1), .str (X.env.qual ++ "<genexpr>") (s₄.toks + 1 + 1)] } }) X.xe { s2 with heap := h3, toks := tk } := by
    intro code h3 tk ps' hx hsz hP3 hmore ht3
    obtain ⟨bm, ob, e1, e2, e3, e4, e5, e6, e7, e8⟩ := TB.bm
    obtain ⟨more, em⟩ := hmore
    have keep3 : ∀ b u, b ≠ P → s2.heap.get? b = some u → h3.get? b = some u := fun b u hb e => hx b u hb e
    refine wpAny_builtinsFor (m := X.mg) (by rw [I2.ok.glob]; exact (I2.mod.glob.keeps I2.bk).extBut hx TB.gP) e1 e2 (keep3 _ _ e4 (I2.bk _ _ e5)) e6 e7 e8 ?_
    have I4 : Inv X pins σ (upd H2 P (.tbl (ps ++ more))) { s2 with heap := h3, toks := tk } := inv_tab (g' := s2.gens) (d' := s2.drawn) I2 hP keep3 (by rw [← em]; exact hP3) I2.bare
    obtain ⟨W, ⟨m0, w0⟩, turn⟩ := q (upd H2 P (.tbl (ps ++ more))) ⟨⟨ps ++ more, upd_same, by rw [← em]; exact ht3⟩, fun b hb => upd_ne hb⟩
    generalize hs4 : ({ s2 with heap := h3, toks := tk } : Shared) = s4 at I4 ⊢
    have g4 : s4.gens = s2.gens := by rw [← hs4]
    have hh4 : s4.heap = h3 := by rw [← hs4]
    intro h' hn' hs'
    have hz' : h'.objs.size = s4.heap.objs.size + 1 := by rw [hs'.1, Heap.size_push]
    generalize hgo : ({ cls := .type "generator", data := .fields #[.int s4.gens.size 0, .str "<genexpr>" (s4.toks + 1), .str (X.env.qual ++ "<genexpr>") (s4.toks + 1 + 1)] } : Obj) = go
    have isG : ∀ h : Heap, h.get? h'.objs.size = some go → h.IsGen h'.objs.size s4.gens.size := fun h e => ⟨go, _, _, e, by rw [← hgo], by rw [← hgo], by rw [← hgo]⟩
    have keep' : ∀ b o, s4.heap.get? b = some o → h'.get? b = some o := fun b o e => hs'.extBut b o (Nat.ne_of_lt (Heap.lt_size e)) (Heap.get?_push_of_some _ e)
    have keep5 : ∀ b o, s4.heap.get? b = some o → (h'.push go).get? b = some o := fun b o e => Heap.get?_push_of_some _ (keep' b o e)
    have hpush : (h'.push go).get? h'.objs.size = some go := by
      rw [← hgo]
      exact Heap.get?_push_size _ rfl
    generalize hs5 : ({ s4 with gens := s4.gens.push (.fresh (.compStart (.GeneratorExp elt [⟨tg, iter, [], 0⟩] scope gpos) 0 (.ref it) .none (genEnv scope (cloFrom X.env.cells scope.names []) s4.heap.objs.size code builtinsNs X.env))), toks := s4.toks + 1 + 1 + 1, heap := h'.push go } : Shared) = s5
    have h5h : s5.heap = h'.push go := by rw [← hs5]
    have h5g : s5.gens = s4.gens.push (.fresh (.compStart (.GeneratorExp elt [⟨tg, iter, [], 0⟩] scope gpos) 0 (.ref it) .none (genEnv scope (cloFrom X.env.cells scope.names []) s4.heap.objs.size code builtinsNs X.env))) := by rw [← hs5]
    have b5 : AllBare s5.gens := by rw [h5g]; exact AllBare.push I4.bare rfl
    have f4 : ∀ b ∈ fp, FpOk X pins (upd H2 P (.tbl (ps ++ more))) b ∧ b < s4.heap.objs.size := fun b hb => by
      refine ⟨⟨?_, (f2 b hb).2⟩, ?_⟩
      · rw [upd_ne (fpP b hb)]
        exact (f2 b hb).1
      · obtain ⟨o, e, _⟩ := T.obj _ _ st2 b hb
        rw [hh4]
        exact Nat.lt_of_lt_of_le (Heap.lt_size e) hsz
    have I5 := gen_start (s5 := s5) (go := go) (code := code) (fp := fp) I4 S C hr.hd f4 (by rw [← hs5]) b5 (by rw [h5h]; exact keep5) (by rw [h5h]; exact hn'.push _) (by rw [h5h, ← hz']; exact hpush) (fun v z => by rw [← hgo] at z; cases z)
    have st5 : tn 0 s5.heap := T.keep _ _ _ st2 fun b hb o e => by
      rw [h5h]
      exact keep5 b o (by rw [hh4]; exact keep3 b o (fpP b hb) e)
    have n5 : ∀ b ∈ fp, upd H2 P (.tbl (ps ++ more)) b = none := fun b hb => (f4 b hb).1.1
    have hpn : ∀ p ∈ [(s4.heap.objs.size + 1, go)], ∀ b ∈ fp, p.1 ≠ b := fun p hp b hb z => by
      rw [List.mem_singleton.mp hp] at z
      have := (f4 b hb).2
      have z' : s4.heap.objs.size + 1 = b := z
      rw [← z'] at this
      exact absurd (Nat.lt_of_succ_lt this) (Nat.lt_irrefl _)
    rw [hz'] at isG hpush ⊢
    have back : ∀ {σ' : L2.St} {H' : Hp} {s' : Shared}, Inv (gx X (x :: capN caps) s4 (upd H2 P (.tbl (ps ++ more))) (genEnv scope (cloFrom X.env.cells scope.names []) s4.heap.objs.size code builtinsNs X.env) fp [(s4.heap.objs.size + 1, go)]) [] σ' H' s' → Inv X pins σ H' s' := fun {σ' H' s'} J =>
      I4.call' (ch := fp) J.os J.base J.hok J.bare fun b hb => ⟨(f4 b hb).1.2.2.2.1, (f4 b hb).1.2.1, (f4 b hb).1.2.2.2.2.1, (f4 b hb).1.2.2.2.2.2⟩
    have rmk : Room k (X.A.in1.in1.deeper (genEnv scope (cloFrom X.env.cells scope.names []) s4.heap.objs.size code builtinsNs X.env)) := ⟨hr.hd, by have := hr.dp; show X.A.depth + 1 + 3 * k + 5 < _; omega, by have := hr.un; show X.A.units + 1 + 1 + 3 + 16 * k + 200 < _; omega⟩
    have hg5 : s5.heap.IsGen (s4.heap.objs.size + 1) s4.gens.size := isG _ (by rw [h5h]; exact hpush)
    refine call_function_tree F.kind_all F.plain_all F.entry_all (F.args_all1 _) ?_
    unfold Builtin.«all»
    refine wpAny_bind (m := oneArg "all" _) (wpAny_pure ?_)
    refine wpAny_bind (wpAny_pyIter_gen hg5 ?_)
    refine wpAny_pure ⟨plainId_quiet F.plain_all_loop _, ?_⟩
    refine all_loop (GX := gx X (x :: capN caps) s4 (upd H2 P (.tbl (ps ++ more))) (genEnv scope (cloFrom X.env.cells scope.names []) s4.heap.objs.size code builtinsNs X.env) fp [(s4.heap.objs.size + 1, go)]) (fp := fp) (tn := tn) (σ0 := none :: capV σ caps) (W := W) (Ft := fun H' => Q (.bl true) H') (Ff := fun H' => Q (.bl false) H')
      (go := go) hr.hd (by have := hr.dp; omega) isG (List.mem_singleton.mpr rfl) (fun σ' H' s' J ft => ?_) (fun σ' H' s' J ff => ?_) (m0 + 1) s5 hg5 I5.nolimit ⟨.fresh (.compStart (.GeneratorExp elt [⟨tg, iter, [], 0⟩] scope gpos) 0 (.ref it) .none (genEnv scope (cloFrom X.env.cells scope.names []) s4.heap.objs.size code builtinsNs X.env)), by rw [h5g]; exact Array.getElem?_push_size .., ⟨rfl, ?_⟩⟩
    · exact ⟨.bl true, H', back J, rfl, ft⟩
    · exact ⟨.bl false, H', back J, rfl, ff⟩
    · have I5' : Inv (gx X (x :: capN caps) s4 (upd H2 P (.tbl (ps ++ more))) (genEnv scope (cloFrom X.env.cells scope.names []) s4.heap.objs.size code builtinsNs X.env) fp [(s4.heap.objs.size + 1, go)]) [] (none :: capV σ caps) (upd H2 P (.tbl (ps ++ more))) (s5.setGen s4.gens.size .running) := inv_woke I5 ⟨rfl, rfl, allBare_setGen b5 rfl⟩
      refine seg_begin (GX := gx X (x :: capN caps) s4 (upd H2 P (.tbl (ps ++ more))) (genEnv scope (cloFrom X.env.cells scope.names []) s4.heap.objs.size code builtinsNs X.env) fp [(s4.heap.objs.size + 1, go)]) T (i := 0) st5 ?_
      refine seg_loop (A := X.A.in1.in1) (GX := gx X (x :: capN caps) s4 (upd H2 P (.tbl (ps ++ more))) (genEnv scope (cloFrom X.env.cells scope.names []) s4.heap.objs.size code builtinsNs X.env) fp [(s4.heap.objs.size + 1, go)]) rfl rfl rfl rfl hcalm rfl rfl hpn S.co T (pg s4 _ _ code fp _) (pe s4 _ _ code fp _ rmk) turn (m0 + 1) _ _ ⟨0, m0, _, I5', st5, n5, w0, Nat.lt_succ_self _⟩
  cases hf : codeAmong gpos ps.toList with
  | none =>
    refine wpAny_genexprCodeX hcode (cd.code hPs ht) (cd.tab hPs) hf fun c' h' tk hx hge hlt hco' _ htab' _ => ?_
    obtain ⟨o1, vs, f1, tf, fl, tg', inF, tx, tt, op, _, _, _, _, _, _, _, _, _, htr, _⟩ := hco'
    exact cont _ h' tk _ hx (Nat.le_trans hge (Nat.le_of_lt hlt)) htab'.2 ⟨_, rfl⟩ htr
  | some cv =>
    refine wpAny_genexprCode_hit hcode (cd.code hPs ht) hf ?_
    exact cont cv s2.heap s2.toks ps (Heap.ExtBut.refl _ _) (Nat.le_refl _) hPs ⟨#[], by simp⟩ ht
end Gx

/-! Promises of defs that are called where no repr is under way: room and no guards. -/
namespace Gd
open PySem PySem.Spec PyProof.Rows L2 GxR Gx

structure RoomG (k : Nat) (A : Around) : Prop where
  r : Room k A
  g : A.guards = some []
theorem RoomG.mono {j k : Nat} {A : Around} (r : RoomG k A) (h : j ≤ k) : RoomG j A := ⟨r.r.mono h, r.g⟩
theorem RoomG.deeper {k : Nat} {A : Around} (r : RoomG (k + 1) A) (env : Env) : RoomG k (A.deeper env) := ⟨r.r.deeper env, r.g⟩

/-- a def's promise, kept wherever no guard is up -/
structure FnG (P : Program) (w : World) (K : PySem.W.Frag) (mg : Str → Option Value) (base : Heap) (CX : CXT) (k : Nat) (f : Addr) (fd : FuncData) (ps : List Str) (sp : Sp) : Prop where
  len : ∀ vs H Q E, sp vs H Q E → vs.length = ps.length
  run : ∀ (A : Around) (outer : List Env) (s : Shared) (H : Hp) (args : Args) (us : List Value) (vs : List V) (Q : VK) (E : XK), RoomG k A → Env0 P w K mg base A outer s H → BindsTo s fd args (ps.zip us) → Vals vs us → sp vs H Q E →
    codeAny (model P w) A (.call (.ref f) args) (CR CX outer P w H s Q E) s

section
variable {P : Program} {w : World} {K : PySem.W.Frag} {mg : Str → Option Value} {base : Heap} {CX : CXT} {k : Nat} {f : Addr} {fd : FuncData} {ps : List Str} {sp : Sp}

theorem FnG.mono {j : Nat} (F : FnG P w K mg base CX j f fd ps sp) (h : j ≤ k) : FnG P w K mg base CX k f fd ps sp := ⟨F.len, fun A outer s H args us vs Q E hr => F.run A outer s H args us vs Q E (hr.mono h)⟩
theorem FnG.imp {sp' : Sp} (F : FnG P w K mg base CX k f fd ps sp) (h : ∀ vs H Q E, sp' vs H Q E → sp vs H Q E) : FnG P w K mg base CX k f fd ps sp' :=
  ⟨fun vs H Q E q => F.len vs H Q E (h _ _ _ _ q), fun A outer s H args us vs Q E hr he hb hv hs => F.run A outer s H args us vs Q E hr he hb hv (h _ _ _ _ hs)⟩
/-- a promise kept everywhere -/
theorem FnG.of (F : FnOk P w K mg base CX k f fd ps sp) : FnG P w K mg base CX k f fd ps sp := ⟨F.len, fun A outer s H args us vs Q E hr => F.run A outer s H args us vs Q E hr.r⟩
/-- nothing is raised: any word for what is raised will do -/
theorem FnG.calm0 {CX' : CXT} (F : FnG P w K mg base CX0 k f fd ps sp) : FnG P w K mg base CX' k f fd ps sp := ⟨F.len, fun A outer s H args us vs Q E hr he hb hv hs => codeAny_mono (F.run A outer s H args us vs Q E hr he hb hv hs) fun r s' q => by
  cases r with
  | error e => exact False.elim q
  | ok fl => cases fl <;> exact q⟩

theorem fnG_of {name qual : Str} {params : Arguments} {body : List Stmt} {scope : Scope} {dV kV doc pm cdv ct oc : Value} {an od : Option Addr} {osl : Array (Option Value)} {N : List Str}
    (lk : K.lookup f = some ⟨oc, od, .func (PySem.W.fnOf name qual params body scope dV kV doc pm an cdv ct), osl⟩) (hcd : PySem.W.codeIn K cdv qual = true) (S : FnScope N ps scope) (len : ∀ vs H Q E, sp vs H Q E → vs.length = ps.length)
    (hbody : ∀ (A : Around) (outer : List Env) (s : Shared) (H : Hp) (vs : List V) (Q : VK) (E : XK), RoomG k (A.deeper (envOfC qual scope s.heap.objs.size f cdv)) → sp vs H Q E →
      ∃ t, PSs (cxOf CX P w K mg base N qual scope f cdv A outer s H E) body t ∧ t { nx := fun _ H' => Q .non H', rt := Q } (start N vs) H) :
    FnG P w K mg base CX (k + 1) f (PySem.W.fnOf name qual params body scope dV kV doc pm an cdv ct) ps sp := by
  refine ⟨len, fun A outer s H args us vs Q E hr e0 hb r hsp => ?_⟩
  have kin : K.In s.heap := e0.mod.kin.keeps fun b o e => (e0.bs b o e).1
  have lim : s.heap.NoLimit := e0.mod.nolimit.keeps fun b o e => (e0.bs b o e).1
  have par : ∀ y ∈ ps.zip us, scope.names.lookup y.1 = some .local ∨ (scope.names.lookup y.1 = some .cell ∧ ((cellsFrom (s.heap.objs.size + 1) scope.names []).lookup y.1).isSome = true) := fun ⟨n, v⟩ hy => by
    have hn := (List.of_mem_zip hy).1
    rcases S.par n hn with q | q
    · exact .inl q
    · exact .inr ⟨q, PySem.W.cellsFrom_some _ _ _ (.inl q)⟩
  refine codeAny_call_function hr.r.depth (kin _ _ lk) rfl S.co S.gen rfl (PySem.W.codeRec_of kin hcd) (hb _ _ _ _ ?_)
  refine wpAny_newFunctionEnv_cells S.kind par fun env he s1 x => ?_
  subst he
  refine ⟨lim.keeps x.toInCall.keep, codeAny_func ?_⟩
  obtain ⟨t, ht, hq⟩ := hbody A outer s H vs Q E (hr.deeper _) hsp
  refine wpAny_mono (ht.run [] s1 (start N vs) H _ (inv_start S hr.r.hd e0 (len _ _ _ _ hsp) r x) hq) (fun fl s' hs => ?_) fun e s' hs => hs
  cases fl with
  | ret u =>
    obtain ⟨v, σ', H', J, rv, q⟩ := hs
    exact ⟨v, H', J.os, J.bare, J.base, J.hok, rv, q⟩
  | next =>
    obtain ⟨σ', H', J, q⟩ := hs
    exact ⟨.non, H', J.os, J.bare, J.base, J.hok, rfl, q⟩
  | brk =>
    obtain ⟨_, _, _, q⟩ := hs
    exact q.elim
  | cont =>
    obtain ⟨_, _, _, q⟩ := hs
    exact q.elim
end

section
variable {P : Program} {w : World} {K : PySem.W.Frag} {mg : Str → Option Value} {base : Heap}
/-- a def that lets nothing out, by its body -/
theorem okG {x qual : Str} {st : Stmt} {f : Addr} {fd : FuncData} {N ps : List Str} {k : Nat} {sp : Sp} (F : Fun K x qual st f fd) (S : FnScope N ps (defScope st)) (len : ∀ vs H Q E, sp vs H Q E → vs.length = ps.length)
    (hbody : ∀ (cdv : Value) (A : Around) (outer : List Env) (s : Shared) (H : Hp) (vs : List V) (Q : VK) (E : XK), RoomG k (A.deeper (envOfC qual (defScope st) s.heap.objs.size f cdv)) → sp vs H Q E →
      ∃ t, PSs (cxOf CX0 P w K mg base N qual (defScope st) f cdv A outer s H E).nox (defBody st) t ∧ t { nx := fun _ H' => Q .non H', rt := Q } (start N vs) H) : FnG P w K mg base CX0 (k + 1) f fd ps sp := by
  obtain ⟨oc, od, kV, doc, pm, an, cdv, ct, osl, rfl, lk, hcd⟩ := F.ex
  refine fnG_of lk hcd S len fun A outer s H vs Q E hr hsp => ?_
  obtain ⟨t, h, q⟩ := hbody cdv A outer s H vs Q E hr hsp
  exact ⟨t, h.nox, q⟩
/-- a def whose code is at c, its table at T -/
theorem okGc {x qual : Str} {st : Stmt} {f c : Addr} {fd : FuncData} {N ps : List Str} {k : Nat} {sp : Sp} (F : Fun K x qual st f fd) (hc : fd.code = .ref c) (S : FnScope N ps (defScope st)) (len : ∀ vs H Q E, sp vs H Q E → vs.length = ps.length)
    (hbody : ∀ (A : Around) (outer : List Env) (s : Shared) (H : Hp) (vs : List V) (Q : VK) (E : XK), RoomG k (A.deeper (envOfC qual (defScope st) s.heap.objs.size f (.ref c))) → sp vs H Q E →
      ∃ t, PSs (cxOf CX0 P w K mg base N qual (defScope st) f (.ref c) A outer s H E).nox (defBody st) t ∧ t { nx := fun _ H' => Q .non H', rt := Q } (start N vs) H) : FnG P w K mg base CX0 (k + 1) f fd ps sp := by
  obtain ⟨oc, od, kV, doc, pm, an, cdv, ct, osl, rfl, lk, hcd⟩ := F.ex
  obtain rfl : cdv = .ref c := hc
  refine fnG_of lk hcd S len fun A outer s H vs Q E hr hsp => ?_
  obtain ⟨t, h, q⟩ := hbody A outer s H vs Q E hr hsp
  exact ⟨t, h.nox, q⟩
/-- a def that may raise -/
theorem okGX {x qual : Str} {st : Stmt} {f : Addr} {fd : FuncData} {N ps : List Str} {k : Nat} {sp : Sp} (F : Fun K x qual st f fd) (S : FnScope N ps (defScope st)) (len : ∀ vs H Q E, sp vs H Q E → vs.length = ps.length)
    (hbody : ∀ (cdv : Value) (A : Around) (outer : List Env) (s : Shared) (H : Hp) (vs : List V) (Q : VK) (E : XK), RoomG k (A.deeper (envOfC qual (defScope st) s.heap.objs.size f cdv)) → sp vs H Q E →
      ∃ t, PSs (cxOf (L2.CX P w) P w K mg base N qual (defScope st) f cdv A outer s H E) (defBody st) t ∧ t { nx := fun _ H' => Q .non H', rt := Q } (start N vs) H) : FnG P w K mg base (L2.CX P w) (k + 1) f fd ps sp := by
  obtain ⟨oc, od, kV, doc, pm, an, cdv, ct, osl, rfl, lk, hcd⟩ := F.ex
  exact fnG_of lk hcd S len fun A outer s H vs Q E hr hsp => hbody cdv A outer s H vs Q E hr hsp
end

section
variable {X : Cx} {CX : CXT} {k : Nat} {f : Addr} {fd : FuncData} {ps : List Str} {sp : Sp} {dvs : List V} {ds : List Value} {E : XK} {x : Str} {p pos : Pos} {e : Expr} {es : List Expr} {t : TA}
theorem run_fnG {pins : List (Addr × Obj)} {σ : L2.St} {H : Hp} {s : Shared} {Q : VK} {us : List Value} {vs : List V} (F : FnG X.prog X.w X.K X.mg X.base CX k f fd ps sp) (hr : RoomG k X.A) (hb : Binds X.K fd ps ds) (hd : Vals dvs ds) (hx : Passes CX X E)
    (I : Inv X pins σ H s) (r : Vals vs us) (h : sp (vs ++ dvs) H Q E) : wpAny (model X.prog X.w) X.A (call (.ref f) us) (EP X pins σ Q) X.xe s := by
  have r2 : Vals (vs ++ dvs) (us ++ ds) := r.append hd
  have hl : (us ++ ds).length = ps.length := r2.length ▸ F.len _ _ _ _ h
  refine wpAny_call (codeAny_mono (F.run X.A X.stack s H ⟨us, []⟩ (us ++ ds) (vs ++ dvs) Q E hr I.env0 (hb s us I.kIn hl) r2 h) fun r s' hq => ?_)
  cases r with
  | error e => exact hx pins σ H s e s' I hq
  | ok fl =>
    cases fl with
    | ret u => exact I.after hq
    | next => exact hq.elim
    | brk => exact hq.elim
    | cont => exact hq.elim
theorem pe_callG (F : FnG X.prog X.w X.K X.mg X.base CX k f fd ps sp) (hr : RoomG k X.A) (hg : Gl X x) (hm : X.mg x = some (.ref f)) (hk : PySem.W.keepIn X.K (.ref f) = true) (hb : Binds X.K fd ps ds) (hd : Vals dvs ds) (hx : Passes CX X E)
    (ha : PA X (e :: es) t) (hdb : (x == ("__debug__" : Str)) = false := by decide) (he : starEach (e :: es) X.env = (false, eval e X.env) :: starEach es X.env := by rfl) (hpl : (backTo pos (starEach es X.env)).any (·.1) = false := by rfl) :
    PE X (.Call (.Name x p) (e :: es) [] pos) (tCall sp dvs E t) := by
  refine ⟨fun pins s σ H Q I h => wpAny_Call_Name_kw (ld_glob I hg hm ?_ hdb)⟩
  refine PySem.W.callWith_K (h₀ := X.base) I.ok.mod.kin hk (thn (ha.run pos pins s σ H _ I h) fun us s1 ⟨vs, H1, I1, r, q⟩ => ⟨I1.kIn, run_fnG F hr hb hd hx I1 r q⟩) he hpl
theorem pe_call0G (F : FnG X.prog X.w X.K X.mg X.base CX k f fd ps sp) (hr : RoomG k X.A) (hg : Gl X x) (hm : X.mg x = some (.ref f)) (hk : PySem.W.keepIn X.K (.ref f) = true) (hb : Binds X.K fd ps ds) (hd : Vals dvs ds) (hx : Passes CX X E)
    (hdb : (x == ("__debug__" : Str)) = false := by decide) : PE X (.Call (.Name x p) [] [] pos) (tCall sp dvs E tNil) :=
  ⟨fun pins s σ H Q I h => wpAny_Call_Name_kw (ld_glob I hg hm (PySem.W.callWith_K0 I.kIn hk (run_fnG (us := []) F hr hb hd hx I .nil h)) hdb)⟩
end

/-! ### repr of data of any depth -/
section
variable {X : Cx}
/-- repr(x), x data: its text -/
def rRepr (K : PySem.W.Frag) : List V → Hp → VK → Prop := fun xs H Q => ∃ v d, xs = [v] ∧ Dp K H v d ∧ d.showable = true ∧ d.hasDict = false ∧ d.depth ≤ 64 ∧ d.shown.length ≤ sizeLine ∧ Q (.str d.shown) H
theorem call_repr (hu : X.A.units + 66 < cLine) (hg : X.A.guards = some []) : CallR X (.builtin "repr") (rRepr X.K) := by
  intro pins s σ H xs us Q I r h
  obtain ⟨v, d, rfl, hd, hs, hnd, hdp, hsz, q⟩ := h
  obtain ⟨u, rfl, ru⟩ := vals1 r
  obtain ⟨as, rd⟩ := Dp.reads I d v u hd ru
  cases hd with
  | non => cases ru; exact PySem.P.repr_of_none ⟨.str _, H, I.tok _, ⟨_, rfl⟩, q⟩
  | bl b => cases ru; exact PySem.P.repr_of_bool ⟨.str _, H, I.tok _, ⟨_, rfl⟩, q⟩
  | int i =>
    obtain ⟨t, rfl⟩ := ru
    exact PySem.P.repr_of_int (by simpa [PyData.showable] using hs) ⟨.str _, H, I.tok _, ⟨_, rfl⟩, q⟩
  | str x =>
    obtain ⟨t, rfl⟩ := ru
    exact PySem.P.repr_of_str ⟨.str _, H, I.tok _, ⟨_, rfl⟩, q⟩ hsz
  | lst h1 h2 =>
    cases ru
    refine repr_of_reads' rd hs (fun z => absurd (hnd.symm.trans z) (by decide)) hg (by omega) (fun _ _ e => e) (fun h' t tk k => ?_) hsz
    exact ⟨.str _, H, I.kept k, ⟨_, rfl⟩, q⟩
  | tup h1 h2 =>
    cases ru
    refine repr_of_reads' rd hs (fun z => absurd (hnd.symm.trans z) (by decide)) hg (by omega) (fun _ _ e => e) (fun h' t tk k => ?_) hsz
    exact ⟨.str _, H, I.kept k, ⟨_, rfl⟩, q⟩
end
end Gd

/-! The end of a law: the law's def keeps its promise FnG at the caller's around. -/
namespace Gd
open PySem PySem.Spec PyProof.Rows L2 GxR Gx

/-- what the law is entered with: the script, locked, and the defs' tables -/
def entryH (K : PySem.W.Frag) (a : Addr) (T : List Addr) (scr : HO) : Hp := fun b => if b ∈ T then some (.tbl #[]) else if b = a then (if (K.lookup a).isSome = true then none else some scr) else none
theorem entryH_inv {K : PySem.W.Frag} {a b : Addr} {T : List Addr} {scr u : HO} (h : entryH K a T scr b = some u) : (b ∈ T ∧ u = .tbl #[]) ∨ (b ∉ T ∧ b = a ∧ K.lookup a = none ∧ u = scr) := by
  unfold entryH at h
  by_cases h1 : b ∈ T
  · rw [if_pos h1] at h
    cases h
    exact .inl ⟨h1, rfl⟩
  · rw [if_neg h1] at h
    by_cases h2 : b = a
    · rw [if_pos h2] at h
      by_cases h3 : (K.lookup a).isSome = true
      · rw [if_pos h3] at h
        cases h
      · rw [if_neg h3] at h
        cases h
        refine .inr ⟨h1, h2, ?_, rfl⟩
        cases q : K.lookup a with
        | none => rfl
        | some o => rw [q] at h3; exact absurd rfl h3
    · rw [if_neg h2] at h
      cases h
theorem entryH_tab {K : PySem.W.Frag} {a b : Addr} {T : List Addr} {scr : HO} (h : b ∈ T) : entryH K a T scr b = some (.tbl #[]) := if_pos h
theorem entryH_scr {K : PySem.W.Frag} {a : Addr} {T : List Addr} {scr : HO} (h : a ∉ T) (hk : K.lookup a = none) : entryH K a T scr a = some scr := by
  unfold entryH
  rw [if_neg h, if_pos rfl, hk]
  rfl

section
variable {P : Program} {w : World} {K : PySem.W.Frag} {mg mb : Str → Option Value} {k : Nat} {fa a : Addr} {cs : List (Addr × Addr)} {fd : FuncData} {x : Str} {sp : Sp} {s1 : Shared} {vs : List Value} {ns : List Int} {CX : CXT}
theorem law_endG (kin : K.In s1.heap) (hns : s1.heap.Ns mainGlobals mg) (hb : s1.heap.Ns builtinsNs mb) (hbb : ∀ x : Str, x ≠ "__name__" → mb x = bootBuiltins x) (hlim : s1.heap.NoLimit) (hg : s1.gens = #[])
    (hT : ∀ p ∈ cs, s1.heap.get? p.2 = some { cls := .none, data := .fields #[] }) (nT : ∀ p ∈ cs, K.lookup p.2 = none) (C : ∀ p ∈ cs, PySem.W.CodeHd s1.heap p.1 p.2)
    (hbm : ∃ (bm : Addr) (ob : Obj), mg "__builtins__" = some (.ref bm) ∧ bm ≠ builtinsNs ∧ s1.heap.get? bm = some ob ∧ ob.cls = .type "module" ∧ ob.dict = some builtinsNs ∧ ob.data = .plain)
    (ha : s1.heap.get? a = some { cls := .type "list", data := .seq vs.toArray }) (hi : IntsAre vs ns) (hl : ns.length ≤ sizeLine) (hr : RoomG k callerA)
    (F : ∀ base : Heap, K.In base → base.Ns mainGlobals mg → (∀ p ∈ cs, TabB base mg p.1 p.2) → FnG P w K mg base CX k fa fd [x] sp) (hbind : ∀ (s : Shared) (u : Value), BindsTo s fd ⟨[u], []⟩ [(x, u)])
    (hsp : ∀ H : Hp, (∀ p ∈ cs, H p.2 = some (.tbl #[])) → SqL K H a (ns.map V.int) → sp [.ref a] H (fun v _ => v = .bl true) fun _ _ _ => False)
    (hCX : ∀ H e s', CX [] H s1 (fun _ _ _ => False) e s' → False) :
    codeAny (model P w) callerA (.call (.ref fa) ⟨[.ref a], []⟩) (fun r s' => r = .ok (.ret (.bool true)) ∧ OldK s1.heap s'.heap ∧ s'.os = s1.os ∧ AllBare s'.gens) s1 := by
  have tabAt : ∀ b ∈ cs.map (·.2), s1.heap.get? b = some { cls := .none, data := .fields #[] } := fun b hb => by
    obtain ⟨p, hp, rfl⟩ := List.mem_map.mp hb
    exact hT p hp
  have inT : ∀ p ∈ cs, p.2 ∈ cs.map (·.2) := fun p hp => List.mem_map.mpr ⟨p, hp, rfl⟩
  have aT : a ∉ cs.map (·.2) := fun z => by
    have q := (tabAt a z).symm.trans ha
    cases congrArg Obj.data (Option.some.inj q)
  let H : Hp := entryH K a (cs.map (·.2)) (.frz { cls := .type "list", data := .seq vs.toArray } (.lst (ns.map V.int)))
  have hv : ∀ {b u}, H b = some u → (b ∈ cs.map (·.2) ∧ u = .tbl #[]) ∨ (b ∉ cs.map (·.2) ∧ b = a ∧ K.lookup a = none ∧ u = .frz { cls := .type "list", data := .seq vs.toArray } (.lst (ns.map V.int))) := fun h => entryH_inv h
  have hok : HOk P w H s1.heap := fun b u h => by
    rcases hv h with ⟨h1, rfl⟩ | ⟨_, rfl, _, rfl⟩
    · exact tabAt b h1
    · exact ⟨ha, by rw [List.length_map]; exact hl, vs, _, vals_ints hi, ha⟩
  have plain : ∀ {b : Addr} {o : Obj}, s1.heap.get? b = some o → (∀ xs n, o.data ≠ .seq xs n) → o.data ≠ .fields #[] → H b = none := fun {b o} e h1 h2 => by
    cases q : H b with
    | none => rfl
    | some u =>
      rcases hv q with ⟨h3, _⟩ | ⟨_, rfl, _, _⟩
      · rw [tabAt b h3] at e
        cases e
        exact (h2 rfl).elim
      · rw [ha] at e
        cases e
        exact (h1 _ _ rfl).elim
  have nsK : ∀ {b : Addr} {m : Str → Option Value}, s1.heap.Ns b m → (hidT s1.heap H).Ns b m := fun {b m} ⟨o, es, ep, e, d, r⟩ =>
    ⟨o, es, ep, hidT_get e (plain e (fun xs n z => by rw [d] at z; cases z) fun z => by rw [d] at z; cases z), d, r⟩
  have kinB : K.In (hidT s1.heap H) := fun b o e => hidT_get (kin b o e) (by
    cases q : H b with
    | none => rfl
    | some u =>
      rcases hv q with ⟨h3, _⟩ | ⟨_, rfl, h4, _⟩
      · obtain ⟨p, hp, rfl⟩ := List.mem_map.mp h3
        rw [nT p hp] at e
        cases e
      · rw [h4] at e
        cases e)
  have md : L2.Mod K mg (hidT s1.heap H) := ⟨kinB, nsK hns, ⟨mb, nsK hb, hbb⟩, let ⟨mc, h1, h2⟩ := hlim; ⟨mc, nsK h1, h2⟩⟩
  have noG : ∀ p ∈ cs, mainGlobals ≠ p.2 := fun p hp z => by
    obtain ⟨o, es, ep, e, hd, _⟩ := hns
    rw [z, hT p hp] at e
    cases e
    cases hd
  have tabs : ∀ p ∈ cs, TabB (hidT s1.heap H) mg p.1 p.2 := fun p hp => by
    refine ⟨?_, ?_, noG p hp⟩
    · obtain ⟨o, us, file, tf, flags, tg, inF, text, tt, e1, r1, r2, r3, r4, r5, r6, r7, r8, hne⟩ := C p hp
      exact ⟨o, us, file, tf, flags, tg, inF, text, tt, hidT_get e1 (plain e1 (fun xs n z => by rw [r2] at z; cases z) fun z => by rw [r2] at z; cases z; simp at r3), r1, r2, r3, r4, r5, r6, r7, r8, hne⟩
    · obtain ⟨bm, ob, b1, b2, b3, b4, b5, b6⟩ := hbm
      refine ⟨bm, ob, b1, b2, fun q => ?_, fun q => ?_, hidT_get b3 (plain b3 (fun xs n z => by rw [b6] at z; cases z) fun z => by rw [b6] at z; cases z), b4, b5, b6⟩
      · obtain ⟨o, es, ep, e, hd, _⟩ := hns
        rw [q, e] at b3
        cases b3
        rw [hd] at b6
        cases b6
      · rw [q, hT p hp] at b3
        cases b3
        cases b6
  have seqA : SqL K H a (ns.map V.int) := by
    cases q : K.lookup a with
    | none => exact .inl (.inr ⟨_, entryH_scr aT q⟩)
    | some o =>
      have e := kin a o q
      rw [ha] at e
      cases e
      exact .inr ⟨_, vs.toArray, _, q, rfl, rfl, rfl, by rw [List.size_toArray, hi.length]; exact hl, by simpa using vals_ints hi⟩
  have e0 : Env0 P w K mg (hidT s1.heap H) callerA [] s1 H := ⟨rfl, md, fun b o e => of_hidT e, Nat.le_of_eq (hidT_size _ _), trivial, fun b z => absurd (show b ∈ ([] : List Addr) from z) (by simp), hok, .of_eq hg⟩
  refine codeAny_mono ((F _ kinB (nsK hns) tabs).run callerA [] s1 H ⟨[.ref a], []⟩ [.ref a] [.ref a] _ _ hr e0 (hbind s1 (.ref a)) (.cons rfl .nil) (hsp H (fun p hp => entryH_tab (inT p hp)) seqA)) fun r s' h => ?_
  cases r with
  | error e => exact (hCX H e s' h).elim
  | ok fl =>
    cases fl with
    | next => exact h.elim
    | brk => exact h.elim
    | cont => exact h.elim
    | ret u =>
      obtain ⟨v, H', os, bare, un, hok', r', q⟩ := h
      obtain rfl : v = .bl true := q
      obtain rfl : u = Value.bool true := r'
      have stays : ∀ b o, b ∉ cs.map (·.2) → s1.heap.get? b = some o → s'.heap.get? b = some o := fun b o nb e => by
        cases q : H b with
        | none => exact un.keep b o e q (fun z => absurd (show b ∈ ([] : List Addr) from z) (by simp)) (by simp)
        | some u =>
          rcases hv q with ⟨z, _⟩ | ⟨_, rfl, _, rfl⟩
          · exact absurd z nb
          · rw [ha] at e
            cases e
            exact (hok' b _ (un.frzs b _ _ q)).1
      refine ⟨rfl, ⟨fun b o e => ?_, fun b o e => ?_⟩, os, bare⟩
      · by_cases hm : b ∈ cs.map (·.2)
        · obtain ⟨p, hp, rfl⟩ := List.mem_map.mp hm
          obtain ⟨more, z⟩ := un.tbls p.2 #[] (entryH_tab (inT p hp))
          rw [hT p hp] at e
          cases e
          exact .inr (.inl ⟨((C p hp).tab (hT p hp)).isCodeTable, rfl, #[], more, rfl, by rw [Array.empty_append]; rw [Array.empty_append] at z; exact hok' p.2 _ z⟩)
        · exact .inl (stays b o hm e)
      · by_cases hm : b ∈ cs.map (·.2)
        · obtain ⟨p, hp, rfl⟩ := List.mem_map.mp hm
          obtain ⟨more, z⟩ := un.tbls p.2 #[] (entryH_tab (inT p hp))
          exact ⟨_, hok' p.2 _ z⟩
        · exact ⟨o, stays b o hm e⟩
end

/-- what is known of the law's promise at the head's heap h -/
def LawG (l : PySem.W.OpenLaw) (w : World) (K : PySem.W.Frag) (CX : CXT) (k n : Nat) (x : Str) (mg : Str → Option Value) (fa : Addr) (h : Heap) : Prop :=
  ∃ (fd : FuncData) (cs : List (Addr × Addr)) (sp : Sp), (∀ p ∈ cs, h.get? p.2 = some { cls := .none, data := .fields #[] }) ∧ (∀ p ∈ cs, K.lookup p.2 = none) ∧ (∀ p ∈ cs, PySem.W.CodeHd h p.1 p.2) ∧ (∀ (s : Shared) (u : Value), BindsTo s fd ⟨[u], []⟩ [(x, u)]) ∧
    (∀ (H : Hp) (a : Addr) (ns : List Int), ns.length ≤ n → (∀ z ∈ ns, Builtin.Int.intBits z ≤ 1048576) → (∀ p ∈ cs, H p.2 = some (.tbl #[])) → SqL K H a (ns.map V.int) → sp [.ref a] H (fun v _ => v = .bl true) fun _ _ _ => False) ∧
    ∀ base : Heap, K.In base → base.Ns mainGlobals mg → (∀ p ∈ cs, TabB base mg p.1 p.2) → FnG l.prog w K mg base CX k fa fd [x] sp
theorem walk_G {l : PySem.W.OpenLaw} {n k : Nat} {q : Program} {loose : List Str} {XP : (Str → Option Value) → Heap → Prop} {YP : World → Heap → Prop} {d : DefRec} {K : Params → PySem.W.Frag} {CX : World → CXT} {x : Str}
    (hn : l.most = some n) (hn2 : n ≤ sizeLine) (hdf : d.params.defaults = []) (hr : RoomG k callerA) (hY : ∀ (w : World) (h : Heap), YP w h → (K w.params).In h)
    (F : ∀ (w : World) (mg : Str → Option Value) (fa : Addr) (h : Heap), YP w h → (K w.params).In h → h.Ns mainGlobals mg → mg d.name = some (.ref fa) → LawG l w (K w.params) (CX w) k n x mg fa h)
    (hCX : ∀ (w : World) (H : Hp) (s : Shared) (e : Value) (s' : Shared), CX w [] H s (fun _ _ _ => False) e s' → False) :
    PySem.W.WalkO q loose XP YP l.row.toRowW d [] (fun f vs => PySem.call f vs) := by
  refine Att.attach_callB hn hdf fun w s0 s1 mg mb fa o pm cd doc a vs ns G Y ho hd hcd hmg hobj hints hlen hbits hg => ?_
  obtain ⟨fd, cs, sp, hT, nT, C, hb, hsp, hF⟩ := F w mg fa _ Y (hY w _ Y) G.T.g hmg
  exact law_endG (hY w _ Y) G.T.g G.T.b G.T.builtins G.T.nolimit hg hT nT C G.T.bmain hobj hints (Nat.le_trans hlen hn2) hr hF hb (fun H hH hS => hsp H a ns hlen hbits hH hS) fun H e s' => hCX w H s1 e s'
end Gd

/-! What stays through a call: all but the defs' tables and some lists; defs as they stand; data. -/
namespace Gd
open PySem PySem.Spec PyProof.Rows L2 GxR Gx

/-- no table -/
def NoTab (o : HO) : Prop := ∀ ps, o ≠ .tbl ps
/-- all stays but tables, which may grow, and the objects at S -/
structure Kb (S : List Addr) (H H' : Hp) : Prop where
  keep : ∀ b o, H b = some o → b ∉ S → NoTab o → H' b = some o
  tab : ∀ T, TabG H T → TabG H' T
  free : ∀ p, H' p = none → H p = none
abbrev Kp (H H' : Hp) : Prop := Kb [] H H'
section
variable {S : List Addr} {H H' H1 H2 : Hp} {p : Addr} {o u : HO}
theorem Kb.refl (H : Hp) : Kb S H H := ⟨fun _ _ h _ _ => h, fun _ h => h, fun _ h => h⟩
theorem Kb.trans (a : Kb S H H1) (b : Kb S H1 H2) : Kb S H H2 := ⟨fun c o h n t => b.keep c o (a.keep c o h n t) n t, fun T h => b.tab T (a.tab T h), fun q h => a.free q (b.free q h)⟩
theorem Kb.mono {S' : List Addr} (a : Kb S H H') (h : ∀ b ∈ S, b ∈ S') : Kb S' H H' := ⟨fun c o e n t => a.keep c o e (fun z => n (h c z)) t, a.tab, a.free⟩
theorem Kb.of (a : Kp H H') : Kb S H H' := a.mono fun _ h => (by cases h)
theorem tab_notab {T : Addr} (h : TabG H T) (e : H T = some o) (n : NoTab o) : False := by
  obtain ⟨ps, h1, _⟩ := h
  rw [e] at h1
  cases h1
  exact n ps rfl
theorem upd_some_of {q : Addr} (h : upd H p o q = none) : H q = none := by
  by_cases z : q = p
  · rw [z, upd_same] at h
    cases h
  · rw [upd_ne z] at h
    exact h
theorem Kb.new (h : H p = none) : Kb S H (upd H p o) :=
  ⟨fun b u e _ _ => by rw [upd_ne (ne_of_none e h)]; exact e, fun T ⟨ps, e, t⟩ => ⟨ps, by rw [upd_ne (ne_of_none e h)]; exact e, t⟩, fun q e => upd_some_of e⟩
theorem Kb.tabbed {P : Addr} (h : Tabbed P H H') (hP : TabG H P) : Kb S H H' := by
  refine ⟨fun b o e _ n => ?_, fun T hT => ?_, fun q e => ?_⟩
  · rw [h.2 b fun z => tab_notab (by rw [z]; exact hP) e n]
    exact e
  · by_cases z : T = P
    · exact z ▸ h.1
    · obtain ⟨ps, e, t⟩ := hT
      exact ⟨ps, by rw [h.2 T z]; exact e, t⟩
  · by_cases z : q = P
    · obtain ⟨ps, e', _⟩ := h.1
      rw [z, e'] at e
      cases e
    · rw [h.2 q z] at e
      exact e
/-- a known list is stored -/
theorem Kb.put (hp : p ∈ S) (e : H p = some u) (n : NoTab u) : Kb S H (upd H p o) :=
  ⟨fun b v hb nb _ => by rw [upd_ne (fun z : b = p => nb (by rw [z]; exact hp))]; exact hb, fun T hT => by
    have z : T ≠ p := fun z => tab_notab (o := u) (by rw [← z]; exact hT) e n
    obtain ⟨ps, e', t⟩ := hT
    exact ⟨ps, by rw [upd_ne z]; exact e', t⟩, fun q e => upd_some_of e⟩
/-- an object that was not there at H may change -/
theorem Kb.mut (k : Kb S H H') (hp : H p = none) (n : ¬ TabG H' p) : Kb S H (upd H' p o) :=
  ⟨fun b v hb nb t => by rw [upd_ne (ne_of_none hb hp)]; exact k.keep b v hb nb t, fun T hT => by
    have z : T ≠ p := fun z => n (z ▸ k.tab T hT)
    obtain ⟨ps, e', t⟩ := k.tab T hT
    exact ⟨ps, by rw [upd_ne z]; exact e', t⟩, fun q e => k.free q (upd_some_of e)⟩
theorem no_tab (e : H p = some o) (n : NoTab o) : ¬ TabG H p := fun h => tab_notab h e n
theorem nt_lst {xs : List V} : NoTab (.lst xs) := fun _ h => by cases h
theorem nt_tup {xs : List V} : NoTab (.tup xs) := fun _ h => by cases h
theorem nt_frz {ob : Obj} : NoTab (.frz ob u) := fun _ h => by cases h
theorem nt_ext {φ : Heap → Prop} : NoTab (.ext φ) := fun _ h => by cases h

end

/-! ### data: scalars and tuples; whatever is made of them stands for good -/
mutual
inductive Dt (K : PySem.W.Frag) (H : Hp) : V → PyData → Prop where
  | non : Dt K H .non .none
  | bl (b : Bool) : Dt K H (.bl b) (.bool b)
  | int (i : Int) : Dt K H (.int i) (.int i)
  | str (x : Str) : Dt K H (.str x) (.str x)
  | tup {a : Addr} {xs : List V} {ds : List PyData} (h : SqT K H a xs) (hs : DtAll K H xs ds) : Dt K H (.ref a) (.tuple ds)
inductive DtAll (K : PySem.W.Frag) (H : Hp) : List V → List PyData → Prop where
  | nil : DtAll K H [] []
  | cons {v : V} {vs : List V} {d : PyData} {ds : List PyData} (h : Dt K H v d) (hs : DtAll K H vs ds) : DtAll K H (v :: vs) (d :: ds)
end
/-- the lists at S are lists -/
def Lsts (S : List Addr) (H : Hp) : Prop := ∀ b ∈ S, ∃ xs, H b = some (.lst xs)
theorem Lsts.nil {H : Hp} : Lsts [] H := fun _ h => by cases h
section
variable {K : PySem.W.Frag} {S : List Addr} {H H' : Hp}
theorem Kb.sqT (k : Kb S H H') (hS : Lsts S H) {a : Addr} {xs : List V} (h : SqT K H a xs) : SqT K H' a xs := by
  rcases h with (h | ⟨o, h⟩) | h
  · exact .inl (.inl (k.keep a _ h (fun z => by obtain ⟨ys, e⟩ := hS a z; rw [h] at e; cases e) nt_tup))
  · exact .inl (.inr ⟨o, k.keep a _ h (fun z => by obtain ⟨ys, e⟩ := hS a z; rw [h] at e; cases e) nt_frz⟩)
  · exact .inr h
mutual
theorem Dt.kb (k : Kb S H H') (hS : Lsts S H) : ∀ {v : V} {d : PyData}, Dt K H v d → Dt K H' v d
  | _, _, .non => .non
  | _, _, .bl b => .bl b
  | _, _, .int i => .int i
  | _, _, .str x => .str x
  | _, _, .tup h hs => .tup (k.sqT hS h) (DtAll.kb k hS hs)
theorem DtAll.kb (k : Kb S H H') (hS : Lsts S H) : ∀ {vs : List V} {ds : List PyData}, DtAll K H vs ds → DtAll K H' vs ds
  | _, _, .nil => .nil
  | _, _, .cons h hs => .cons (h.kb k hS) (DtAll.kb k hS hs)
end
mutual
theorem Dt.dp : ∀ {v : V} {d : PyData}, Dt K H v d → Dp K H v d
  | _, _, .non => .non
  | _, _, .bl b => .bl b
  | _, _, .int i => .int i
  | _, _, .str x => .str x
  | _, _, .tup h hs => .tup h hs.dp
theorem DtAll.dp : ∀ {vs : List V} {ds : List PyData}, DtAll K H vs ds → DpAll K H vs ds
  | _, _, .nil => .nil
  | _, _, .cons h hs => .cons h.dp hs.dp
end
theorem DtAll.length : ∀ {vs : List V} {ds : List PyData}, DtAll K H vs ds → vs.length = ds.length
  | _, _, .nil => rfl
  | _, _, .cons _ hs => congrArg (· + 1) hs.length
theorem DtAll.get : ∀ {vs : List V} {ds : List PyData} {i : Nat} {v : V}, DtAll K H vs ds → vs[i]? = some v → ∃ d, ds[i]? = some d ∧ Dt K H v d
  | _, _, _, _, .nil, e => by simp at e
  | _, _, 0, _, .cons h _, e => by
    have e := Option.some.inj e
    subst e
    exact ⟨_, rfl, h⟩
  | _, _, i + 1, _, .cons _ hs, e => DtAll.get (i := i) hs e
theorem DtAll.at : ∀ {vs : List V} {ds : List PyData} {i : Nat} {d : PyData}, DtAll K H vs ds → ds[i]? = some d → ∃ v, vs[i]? = some v ∧ Dt K H v d
  | _, _, _, _, .nil, e => by simp at e
  | _, _, 0, _, .cons h _, e => by
    have e := Option.some.inj e
    subst e
    exact ⟨_, rfl, h⟩
  | _, _, i + 1, _, .cons _ hs, e => DtAll.at (i := i) hs e
end

/-! ### defs -/
section
variable {P : Program} {w : World} {K : PySem.W.Frag} {mg : Str → Option Value} {base : Heap}
/-- the def x stands as st -/
def DefAt (K : PySem.W.Frag) (mg : Str → Option Value) (x : Str) (st : Stmt) (ps : List Str) : Prop := ∃ f fd, Fun K x x st f fd ∧ mg x = some (.ref f) ∧ Binds K fd ps []
/-- .. and its code's table is at T -/
def DefTab (K : PySem.W.Frag) (mg : Str → Option Value) (base : Heap) (x : Str) (st : Stmt) (ps : List Str) (T : Addr) : Prop :=
  ∃ f fd c, Fun K x x st f fd ∧ mg x = some (.ref f) ∧ Binds K fd ps [] ∧ fd.code = .ref c ∧ TabB base mg c T
/-- what a caller needs -/
def Cal (P : Program) (w : World) (K : PySem.W.Frag) (mg : Str → Option Value) (base : Heap) (CX : CXT) (k : Nat) (x : Str) (ps : List Str) (sp : Sp) : Prop :=
  ∃ f fd, FnG P w K mg base CX k f fd ps sp ∧ mg x = some (.ref f) ∧ PySem.W.keepIn K (.ref f) = true ∧ Binds K fd ps []
theorem Cal.mono {CX : CXT} {j k : Nat} {x : Str} {ps : List Str} {sp : Sp} (c : Cal P w K mg base CX j x ps sp) (h : j ≤ k) : Cal P w K mg base CX k x ps sp :=
  let ⟨f, fd, F, r⟩ := c; ⟨f, fd, F.mono h, r⟩
theorem Cal.imp {CX : CXT} {k : Nat} {x : Str} {ps : List Str} {sp sp' : Sp} (c : Cal P w K mg base CX k x ps sp) (h : ∀ vs H Q E, sp' vs H Q E → sp vs H Q E) : Cal P w K mg base CX k x ps sp' :=
  let ⟨f, fd, F, r⟩ := c; ⟨f, fd, F.imp h, r⟩
theorem DefAt.cal {x : Str} {st : Stmt} {N ps : List Str} {k : Nat} {sp : Sp} (D : DefAt K mg x st ps) (S : FnScope N ps (defScope st)) (len : ∀ vs H Q E, sp vs H Q E → vs.length = ps.length)
    (hbody : ∀ (f : Addr) (cdv : Value) (A : Around) (outer : List Env) (s : Shared) (H : Hp) (vs : List V) (Q : VK) (E : XK), RoomG k (A.deeper (envOfC x (defScope st) s.heap.objs.size f cdv)) → sp vs H Q E →
      ∃ t, PSs (cxOf CX0 P w K mg base N x (defScope st) f cdv A outer s H E).nox (defBody st) t ∧ t { nx := fun _ H' => Q .non H', rt := Q } (start N vs) H) : Cal P w K mg base CX0 (k + 1) x ps sp := by
  obtain ⟨f, fd, F, g, b⟩ := D
  exact ⟨f, fd, okG F S len (hbody f), g, F.kp, b⟩
theorem DefTab.cal {x : Str} {st : Stmt} {N ps : List Str} {k : Nat} {sp : Sp} {T : Addr} (D : DefTab K mg base x st ps T) (S : FnScope N ps (defScope st)) (len : ∀ vs H Q E, sp vs H Q E → vs.length = ps.length)
    (hbody : ∀ (f c : Addr) (A : Around) (outer : List Env) (s : Shared) (H : Hp) (vs : List V) (Q : VK) (E : XK), TabB base mg c T → RoomG k (A.deeper (envOfC x (defScope st) s.heap.objs.size f (.ref c))) → sp vs H Q E →
      ∃ t, PSs (cxOf CX0 P w K mg base N x (defScope st) f (.ref c) A outer s H E).nox (defBody st) t ∧ t { nx := fun _ H' => Q .non H', rt := Q } (start N vs) H) : Cal P w K mg base CX0 (k + 1) x ps sp := by
  obtain ⟨f, fd, c, F, g, b, e, TB⟩ := D
  exact ⟨f, fd, okGc F e S len (fun A outer s H vs Q E => hbody f c A outer s H vs Q E TB), g, F.kp, b⟩
end
section
variable {X : Cx} {k : Nat} {ps : List Str} {sp : Sp} {x : Str} {p pos : Pos} {e : Expr} {es : List Expr} {t : TA}
theorem pe_cal (C : Cal X.prog X.w X.K X.mg X.base CX0 k x ps sp) (hr : RoomG k X.A) (hg : Gl X x) (ha : PA X (e :: es) t) (hdb : (x == ("__debug__" : Str)) = false := by decide) (he : starEach (e :: es) X.env = (false, eval e X.env) :: starEach es X.env := by rfl) (hpl : (backTo pos (starEach es X.env)).any (·.1) = false := by rfl) :
    PE X (.Call (.Name x p) (e :: es) [] pos) (tCall sp [] E0 t) := by
  obtain ⟨f, fd, F, g, kp, b⟩ := C
  exact pe_callG F hr hg g kp b .nil pass0 ha hdb he hpl
theorem pe_cal0 (C : Cal X.prog X.w X.K X.mg X.base CX0 k x ps sp) (hr : RoomG k X.A) (hg : Gl X x) (hdb : (x == ("__debug__" : Str)) = false := by decide) : PE X (.Call (.Name x p) [] [] pos) (tCall sp [] E0 tNil) := by
  obtain ⟨f, fd, F, g, kp, b⟩ := C
  exact pe_call0G F hr hg g kp b .nil pass0 hdb
end
end Gd

/-! Readings of some expressions over data. -/
namespace Gd
open PySem PySem.Spec PyProof.Rows L2 GxR Gx

/-! ### isinstance -/
def tyName : PyData → String
  | .none => "NoneType"
  | .bool _ => "bool"
  | .int _ => "int"
  | .str _ => "str"
  | .list _ => "list"
  | .tuple _ => "tuple"
  | .dict _ => "dict"
def isStrD : PyData → Bool | .str _ => true | _ => false
def isTupD : PyData → Bool | .tuple _ => true | _ => false
def isIntD : PyData → Bool | .int _ => true | .bool _ => true | _ => false
def isBoolD : PyData → Bool | .bool _ => true | _ => false
theorem kit_str (d : PyData) : kitB (tyName d) "str" = some (isStrD d) := by
  cases d with
  | none => exact (by decide +kernel : kitB "NoneType" "str" = some false)
  | bool _ => exact (by decide +kernel : kitB "bool" "str" = some false)
  | int _ => exact (by decide +kernel : kitB "int" "str" = some false)
  | str _ => exact (by decide +kernel : kitB "str" "str" = some true)
  | list _ => exact (by decide +kernel : kitB "list" "str" = some false)
  | tuple _ => exact (by decide +kernel : kitB "tuple" "str" = some false)
  | dict _ => exact (by decide +kernel : kitB "dict" "str" = some false)
theorem kit_tup (d : PyData) : kitB (tyName d) "tuple" = some (isTupD d) := by
  cases d with
  | none => exact (by decide +kernel : kitB "NoneType" "tuple" = some false)
  | bool _ => exact (by decide +kernel : kitB "bool" "tuple" = some false)
  | int _ => exact (by decide +kernel : kitB "int" "tuple" = some false)
  | str _ => exact (by decide +kernel : kitB "str" "tuple" = some false)
  | list _ => exact (by decide +kernel : kitB "list" "tuple" = some false)
  | tuple _ => exact (by decide +kernel : kitB "tuple" "tuple" = some true)
  | dict _ => exact (by decide +kernel : kitB "dict" "tuple" = some false)
theorem kit_int (d : PyData) : kitB (tyName d) "int" = some (isIntD d) := by
  cases d with
  | none => exact (by decide +kernel : kitB "NoneType" "int" = some false)
  | bool _ => exact (by decide +kernel : kitB "bool" "int" = some true)
  | int _ => exact (by decide +kernel : kitB "int" "int" = some true)
  | str _ => exact (by decide +kernel : kitB "str" "int" = some false)
  | list _ => exact (by decide +kernel : kitB "list" "int" = some false)
  | tuple _ => exact (by decide +kernel : kitB "tuple" "int" = some false)
  | dict _ => exact (by decide +kernel : kitB "dict" "int" = some false)
theorem kit_bool (d : PyData) : kitB (tyName d) "bool" = some (isBoolD d) := by
  cases d with
  | none => exact (by decide +kernel : kitB "NoneType" "bool" = some false)
  | bool _ => exact (by decide +kernel : kitB "bool" "bool" = some true)
  | int _ => exact (by decide +kernel : kitB "int" "bool" = some false)
  | str _ => exact (by decide +kernel : kitB "str" "bool" = some false)
  | list _ => exact (by decide +kernel : kitB "list" "bool" = some false)
  | tuple _ => exact (by decide +kernel : kitB "tuple" "bool" = some false)
  | dict _ => exact (by decide +kernel : kitB "dict" "bool" = some false)
section
variable {K : PySem.W.Frag} {H : Hp} {v : V} {d : PyData} {Q : VK}
theorem Dt.ty (h : Dt K H v d) : TyX K H v (.type (tyName d)) := by
  cases h with
  | non => exact .base .non
  | bl b => exact .base (.bl b)
  | int i => exact .base (.int i)
  | str x => exact .base (.str x)
  | tup h hs =>
    rcases h with (h | ⟨o, h⟩) | ⟨o, its, n, h1, h2, _⟩
    · exact .base (.tup h)
    · exact .fTuple h
    · exact .kTuple h1 h2
theorem isi_q {T : String} {b : Bool} (h : Dt K H v d) (hb : kitB (tyName d) T = some b) (q : Q (.bl b) H) : rIsi K [v, .ty T] H Q := ⟨v, .ty T, _, _, b, rfl, .ty T, h.ty, kit_ty hb, q⟩
end

/-! ### all(test for c in text), the test changes nothing -/
theorem nil_slots {σ2 : L2.St} : ∀ (j : Nat) (v : V), (none :: capV ([] : L2.St) [] : L2.St)[j]? = some (some v) → σ2[j]? = some (some v) := fun j v h => by
  cases j with
  | zero => cases h
  | succ j => simp [capV] at h
theorem all_take {p : Nat → Bool} {l : List Nat} {i c : Nat} (hc : l[i]? = some c) (h : (l.take i).all p = true) : (l.take (i + 1)).all p = p c := by
  rw [List.take_add_one, hc, List.all_append, h, Bool.true_and]
  simp
theorem all_mid {p : Nat → Bool} {l : List Nat} {i c : Nat} (hc : l[i]? = some c) (h : p c = false) : l.all p = false := by
  rw [List.all_eq_false]
  exact ⟨c, List.mem_of_getElem? hc, by rw [h]; exact Bool.false_ne_true⟩
theorem all_str {T : Addr} {x : Str} {te : TE} {p : Nat → Bool} {H1 : Hp} {Q : VK} {σ : L2.St} (hT : TabG H1 T)
    (ht : ∀ c ∈ x.cps.toList, ∀ (H : Hp) (Q' : VK), Q' (.bl (p c)) H → te [some (.str ⟨#[c]⟩)] H Q') (q : ∀ H2, Tabbed T H1 H2 → Q (.bl (x.cps.toList.all p)) H2) :
    TabG H1 T ∧ ∀ H2, Tabbed T H1 H2 → ∃ W : Nat → Nat → Hp → Prop, (∃ m, W 0 m H2) ∧ ∀ i m H, W i m H → ((Its x).stop i H ∧ Q (.bl true) H) ∨
      ((Its x).go i H ∧ ∃ Nx : Hp → Prop, (∀ H', Nx H' → ∃ m', m' < m ∧ W (i + 1) m' H') ∧ ∀ y H', (Its x).yld i H y H' → gName 0 y (none :: capV σ []) H' fun σ2 H3 =>
        (∀ (j : Nat) v, (none :: capV σ [] : L2.St)[j]? = some (some v) → σ2[j]? = some (some v)) ∧ te σ2 H3 fun y H5 => ∃ c, y = .bl c ∧ if c = true then Nx H5 else Q (.bl false) H5) := by
  refine ⟨hT, fun H2 h2 => ⟨fun i m H => H = H2 ∧ m = x.cps.size - i ∧ i ≤ x.cps.size ∧ (x.cps.toList.take i).all p = true, ⟨_, rfl, rfl, Nat.zero_le _, by simp⟩, ?_⟩⟩
  rintro i m H ⟨rfl, rfl, hi, ha⟩
  by_cases hl : i < x.cps.size
  · refine .inr ⟨hl, fun H' => H' = H ∧ (x.cps.toList.take (i + 1)).all p = true, fun H' ⟨e, a⟩ => ⟨x.cps.size - (i + 1), by omega, e, rfl, hl, a⟩, fun y H' hy => ?_⟩
    obtain ⟨rfl, c, hc, rfl⟩ := hy
    have hc' : x.cps.toList[i]? = some c := by rw [Array.getElem?_toList]; exact hc
    refine ⟨nil_slots, ht c (List.mem_of_getElem? hc') _ _ ⟨p c, rfl, ?_⟩⟩
    cases e : p c with
    | true =>
      rw [if_pos rfl]
      exact ⟨rfl, by rw [all_take hc' ha, e]⟩
    | false =>
      rw [if_neg Bool.false_ne_true, ← all_mid (p := p) hc' e]
      exact q _ h2
  · have e : i = x.cps.size := by omega
    subst e
    refine .inl ⟨Nat.le_refl _, ?_⟩
    have e2 : x.cps.toList.take x.cps.size = x.cps.toList := by
      rw [← Array.length_toList]
      exact List.take_length
    rw [e2] at ha
    rw [← ha]
    exact q _ h2
end Gd
namespace Gd
open PySem PySem.Spec PyProof.Rows L2 GxR Gx
/-- data of small texts, no deeper than n -/
def okN : Nat → PyData → Bool
  | _, .none => true
  | _, .bool _ => true
  | _, .int i => decide (i.natAbs.log2 < 1920)
  | _, .str x => decide (x.length ≤ 1000) && PyData.strOk x
  | n + 1, .tuple ds => decide (ds.length ≤ 1000) && ds.all (okN n)
  | _, _ => false
def OkD (d : PyData) : Prop := ∃ n, n ≤ 60 ∧ okN n d = true
theorem okN_int {n : Nat} {i : Int} (h : okN n (.int i) = true) : i.natAbs.log2 < 1920 := by
  cases n <;> exact of_decide_eq_true h
theorem okN_str {n : Nat} {x : Str} (h : okN n (.str x) = true) : x.length ≤ 1000 ∧ PyData.strOk x = true := by
  have h2 : (decide (x.length ≤ 1000) && PyData.strOk x) = true := by cases n <;> exact h
  rw [Bool.and_eq_true] at h2
  exact ⟨of_decide_eq_true h2.1, h2.2⟩
theorem okN_tup {n : Nat} {ds : List PyData} (h : okN n (.tuple ds) = true) : ∃ m, n = m + 1 ∧ ds.length ≤ 1000 ∧ ∀ d ∈ ds, okN m d = true := by
  cases n with
  | zero => cases h
  | succ m =>
    have h2 : (decide (ds.length ≤ 1000) && ds.all (okN m)) = true := h
    rw [Bool.and_eq_true, List.all_eq_true] at h2
    exact ⟨m, rfl, of_decide_eq_true h2.1, h2.2⟩
theorem OkD.str {x : Str} (h : OkD (.str x)) : x.length ≤ 1000 := let ⟨_, _, h⟩ := h; (okN_str h).1
theorem OkD.len {ds : List PyData} (h : OkD (.tuple ds)) : ds.length ≤ 1000 := by
  obtain ⟨_, _, h⟩ := h
  obtain ⟨m, _, h2, _⟩ := okN_tup h
  exact h2
theorem OkD.child {ds : List PyData} (h : OkD (.tuple ds)) {d : PyData} (hd : d ∈ ds) : OkD d := by
  obtain ⟨n, hn, h⟩ := h
  obtain ⟨m, rfl, _, h3⟩ := okN_tup h
  exact ⟨m, by omega, h3 d hd⟩
mutual
theorem okN_lay : ∀ (d : PyData) {n : Nat}, okN n d = true → d.canLay0 = true ∧ d.depth ≤ n
  | .none, n, _ => ⟨by simp only [PyData.canLay0], by simp only [PyData.depth]; omega⟩
  | .bool _, n, _ => ⟨by simp only [PyData.canLay0], by simp only [PyData.depth]; omega⟩
  | .int _, n, _ => ⟨by simp only [PyData.canLay0], by simp only [PyData.depth]; omega⟩
  | .str x, n, h => ⟨by simp only [PyData.canLay0]; exact (okN_str h).2, by simp only [PyData.depth]; omega⟩
  | .list xs, n, h => by cases n <;> cases h
  | .dict xs, n, h => by cases n <;> cases h
  | .tuple ds, n, h => by
    obtain ⟨m, e, _, h3⟩ := okN_tup h
    have q := okN_layAll ds h3
    simp only [PyData.canLay0, PyData.depth]
    exact ⟨q.1, by have := q.2; omega⟩
theorem okN_layAll : ∀ (ds : List PyData) {n : Nat}, (∀ d ∈ ds, okN n d = true) → PyData.canLayAll0 ds = true ∧ PyData.depthAll ds ≤ n
  | [], n, _ => ⟨by simp only [PyData.canLayAll0], by simp only [PyData.depthAll]; omega⟩
  | d :: ds, n, h => by
    have q := okN_lay d (h d List.mem_cons_self)
    have r := okN_layAll ds fun e he => h e (List.mem_cons_of_mem _ he)
    simp only [PyData.canLayAll0, PyData.depthAll, q.1, r.1, Bool.and_true]
    exact ⟨trivial, Nat.max_le.mpr ⟨q.2, r.2⟩⟩
end
theorem OkD.shaped {d : PyData} (h : OkD d) : SeqAt.shaped d = true := by
  obtain ⟨n, hn, h⟩ := h
  have q := okN_lay d h
  unfold SeqAt.shaped
  rw [q.1, Bool.true_and, decide_eq_true_eq]
  omega
theorem OkD.of {d : PyData} (h : okN 8 d = true) : OkD d := ⟨8, by decide, h⟩
theorem line1000 {n : Nat} (h : n ≤ 1000) : n ≤ sizeLine := Nat.le_of_lt (small1000 h)
/-- a test of one datum -/
def spData (K : PySem.W.Frag) (ts : List Addr) (p : PyData → Bool) : Sp := fun vs H Q _ => ∃ v d, vs = [v] ∧ Dt K H v d ∧ OkD d ∧ (∀ T ∈ ts, TabG H T) ∧ ∀ H', Kp H H' → Q (.bl (p d)) H'
end Gd
namespace Gd
open PySem PySem.Spec PyProof.Rows L2 GxR Gx
/-- a generator expression's scope without captured names -/
def genC (scope : Scope) (x : Str) : Bool := decide (scope.kind = .function) && !scope.isCoroutine && (scope.names.all fun y => !decide (y.2 = NameKind.cell) && !decide (y.2 = NameKind.free)) && decide (scope.names.lookup (".0" : Str) = some NameKind.local) && decide (scope.names.lookup x = some NameKind.local)
theorem genS_by {env : Env} {scope : Scope} {x : Str} (h : genC scope x = true) : GenS env scope x := by
  unfold genC at h
  simp only [Bool.and_eq_true, decide_eq_true_eq, Bool.not_eq_true', List.all_eq_true, decide_eq_false_iff_not] at h
  obtain ⟨⟨⟨⟨h1, h2⟩, h3⟩, h4⟩, h5⟩ := h
  exact ⟨h1, h2, fun y hy => (h3 y hy).1, h4, h5, fun y hy e => absurd e (h3 y hy).2⟩
theorem nd1 (x : Str) : (x :: capN []).Nodup := by simp [capN]
end Gd

/-! {elt for tg in iter}, its members ints or texts; len of it. -/
namespace Gd
open PySem PySem.Spec PyProof.Rows L2 GxR Gx

abbrev noKeys : Key → Bool := fun _ => false
abbrev addKey (S : Key → Bool) (k : Key) : Key → Bool := fun j => S j || decide (j = k)
theorem setK_fresh {P : Program} {w : World} {h : Heap} : (h.push { cls := .type "set", dict := none, data := .set #[] 0 (.fresh 0 0 (!w.params.followText "set-order")) }).SetOf (mixKind P w) h.objs.size noKeys 0 :=
  ⟨_, #[], 0, _, Heap.get?_push_size _ rfl, ⟨rfl, rfl, rfl⟩, rfl, (fun e he => by simp at he), (fun k => by simp), (by decide), (by rfl), rfl⟩
section
variable {X : Cx}
theorem addK_ok {pins : List (Addr × Obj)} {σ : L2.St} {H : Hp} {s : Shared} {E : Value → Shared → Prop} {D : Addr} {S : Key → Bool} {n : Nat} {k : Key} {u : Value} {Q : Value → Shared → Prop} (I : Inv X pins σ H s) (hD : H D = some (SetK X.prog X.w D S n)) (room : n + 1 < scanBound) (r : RelV (kV k) u)
    (h : ∀ s', Inv X pins σ (upd H D (SetK X.prog X.w D (addKey S k) (if S k = true then n else n + 1))) s' → Q .none s') : wpAny (model X.prog X.w) X.A (call (.builtin "set.add") [.ref D, u]) Q E s := by
  refine call_set_add (kV_is r) (key_scan r) (setK_get I hD) room fun h' sb new => ?_
  obtain ⟨ob, _, _, _, ho, _⟩ := id new
  exact h _ (I.write (e := D) (t' := s.toks + 1) (by rw [hD]; trivial) (.inl rfl) (fun b o hb q => (sb.2 b hb).trans q) ⟨ob, ho⟩ (setK_new new))

/-- the reading: D the new set; W by the turn and a measure -/
def tScK (P : Program) (w : World) (wi : TI) (g : TG) (te : TE) (vs : List Nat) : TE := fun σ H Q => wi σ H fun J H1 => ∀ D, H1 D = none → ∃ W : Nat → Nat → Hp → Prop, (∃ m, W 0 m (upd H1 D (SetK P w D noKeys 0))) ∧ ∀ i m H, W i m H →
  (J.stop i H ∧ Q (.ref D) H) ∨ (J.go i H ∧ ∃ Nx : Hp → Prop, (∀ H', Nx H' → ∃ m', m' < m ∧ W (i + 1) m' H') ∧ ∀ x H', J.yld i H x H' → g x (wipe σ vs) H' fun σ2 H2 => wipe σ2 vs = wipe σ vs ∧ te σ2 H2 fun y H4 =>
    ∃ (k : Key) (S : Key → Bool) (n : Nat), y = kV k ∧ H4 D = some (SetK P w D S n) ∧ n + 1 < scanBound ∧ Nx (upd H4 D (SetK P w D (addKey S k) (if S k = true then n else n + 1))))

theorem pe_scK {elt tg iter : Expr} {scope : Scope} {own : List (PySem.Str × Nat)} {pos : Pos} {wi : TI} {g : TG} {te : TE} (hc : X.calm = true) (hN : X.N.Nodup) (hi : PI X tg iter wi) (ok : BlkOk X.N X.env.scope scope own)
    (hg : ∀ (s : Shared) (H : Hp) (C : Addr) (cl : List (PySem.Str × Addr)) (fp : List Addr), PG (X.blk s H scope (compEnvC scope cl C X.env) fp) tg g) (_ : ∀ (s : Shared) (H : Hp) (C : Addr) (cl : List (PySem.Str × Addr)) (fp : List Addr), PTs (X.blk s H scope (compEnvC scope cl C X.env) fp) [] tYes)
    (he : ∀ (s : Shared) (H : Hp) (C : Addr) (cl : List (PySem.Str × Addr)) (fp : List Addr), PE (X.blk s H scope (compEnvC scope cl C X.env) fp) elt te) (hs : ∀ x, foldedSetIterable iter X.env x = pure x := by intro _; rfl) :
    PE X (.SetComp elt [⟨tg, iter, [], 0⟩] scope pos) (tScK X.prog X.w wi g te (own.map (·.2))) := by
  refine ⟨fun pins s σ H Q I h => ?_⟩
  rw [PpSet.eval_SetComp]
  have free : ∀ y ∈ scope.names, y.2 = .free → ∃ c, X.env.cells.lookup y.1 = some c := fun y hy e => (ok.free y hy e).elim (fun k => I.ok.has _ (.inl k)) fun k => I.ok.has _ (.inr k)
  refine wpAny_comprehension_free (use := none) rfl hs (closure_ok free) ok.kind (fun y hy e => by rw [ok.uniq y hy, e]) (thn (hi.run pins s σ H _ I h) fun xv s1 hx => thn hx fun itv s2 h2 => ?_)
  obtain ⟨it, fp, tn, J, H2, rfl, I2, T, st2, f2, q⟩ := h2
  refine PpSet.newSet_ok (newEnv_comp ?_)
  obtain ⟨W, ⟨m0, w0⟩, turn⟩ := q s2.heap.objs.size (I2.hok.fresh (Nat.le_refl _))
  -- the set
  let so : Obj := { cls := .type "set", dict := none, data := .set #[] 0 (.fresh 0 0 (!X.w.params.followText "set-order")) }
  let H3 : Hp := upd H2 s2.heap.objs.size (SetK X.prog X.w s2.heap.objs.size noKeys 0)
  let s3 : Shared := { s2 with heap := s2.heap.push so }
  have I3 : Inv X pins σ H3 s3 := I2.laid (t' := s2.toks) (fun b o e => Heap.get?_push_of_some _ e) (Nat.le_refl _) (setK_new setK_fresh)
  have f3 : ∀ b ∈ fp, FpOk X pins H3 b ∧ b < s3.heap.objs.size := fun b hb => by
    obtain ⟨o, e, _⟩ := T.obj _ _ st2 b hb
    have lt := Heap.lt_size e
    exact ⟨⟨by show upd _ _ _ b = none; rw [upd_ne (Nat.ne_of_lt lt)]; exact (f2 b hb).1, (f2 b hb).2⟩, by show b < (s2.heap.push so).objs.size; rw [Heap.size_push]; exact Nat.lt_succ_of_lt lt⟩
  have st3 : tn 0 s3.heap := T.keep _ _ _ st2 fun b _ o e => Heap.get?_push_of_some _ e
  -- the block
  have I4 := block_start I3 ok hN f3
  have pg := hg s3 H3 s3.heap.objs.size (cellsFrom (s3.heap.objs.size + 1) scope.names (cloFrom X.env.cells scope.names [])) fp
  have pe := he s3 H3 s3.heap.objs.size (cellsFrom (s3.heap.objs.size + 1) scope.names (cloFrom X.env.cells scope.names [])) fp
  let ce : Env := compEnvC scope (cellsFrom (s3.heap.objs.size + 1) scope.names (cloFrom X.env.cells scope.names [])) s3.heap.objs.size X.env
  let s4 : Shared := { s3 with heap := pushCells (s3.heap.push { cls := .type "dict", data := .dict #[] }) scope.names }
  have I4 : Inv (X.blk s3 H3 scope ce fp) [] (wipe σ (own.map (·.2))) H3 s4 := I4
  have st4 : tn 0 s4.heap := T.keep _ _ _ st3 fun b _ o e => pushCells_keeps _ _ _ _ (Heap.get?_push_of_some _ e)
  have stat : ∀ {σ' : L2.St} {H' : Hp} {s' : Shared}, Inv (X.blk s3 H3 scope ce fp) [] σ' H' s' → (∀ b ∈ fp, H' b = none) → ∀ b ∈ fp, FpOk (X.blk s3 H3 scope ce fp) [] H' b := fun {σ' H' s'} J' hn b hb =>
    ⟨hn b hb, (J'.ok.exf b hb).1, J'.ok.exfs b hb, .inl hb, fun x c e => (J'.ok.exf b hb).2 x c e, fun p hp => absurd (show p ∈ ([] : List (Addr × Obj)) ++ [] from hp) (by simp)⟩
  show codeAny _ _ (.compStart (.SetComp elt [⟨tg, iter, [], 0⟩] scope pos) 0 (.ref it) (.ref s2.heap.objs.size) ce) (compPost (model X.prog X.w) X.A X.xe none (EP X pins σ Q) (.ref s2.heap.objs.size) s3.heap.objs.size) s4
  refine PpSet.codeAny_compStart_set ?loop (T.self X.A 0 _ _ _ st4 ?loop)
  refine PpSet.compLoopS_any (fun n s' => ∃ i H', Inv (X.blk s3 H3 scope ce fp) [] (wipe σ (own.map (·.2))) H' s' ∧ tn i s'.heap ∧ (∀ b ∈ fp, H' b = none) ∧ W i n H') ?_ m0 ⟨0, H3, I4, st4, fun b hb => (f3 b hb).1.1, w0⟩
  rintro n s5 ⟨i, H5, I5, st5, n5, w5⟩
  rcases turn i n H5 w5 with ⟨stop, qq⟩ | ⟨go, Nx, hNx, step⟩
  · refine thnF (T.done (X.blk s3 H3 scope ce fp) rfl rfl rfl hc i [] s5 _ H5 (fun _ _ => False) I5 (stat I5 n5) st5 stop) fun r s6 ⟨hr, I6⟩ => ?_
    subst hr
    have I7 : Inv X pins σ H5 s6 := I3.call' (ch := fp) I6.os I6.base I6.hok I6.bare fun b hb => ⟨(f3 b hb).1.2.2.2.1, (f3 b hb).1.2.1, (f3 b hb).1.2.2.2.2.1, (f3 b hb).1.2.2.2.2.2⟩
    have fC := I3.fpOk (H' := H5) (Nat.le_refl _) (show H5 s3.heap.objs.size = none from I6.free)
    obtain ⟨m, hn, _⟩ := I6.loc
    refine ⟨m, hn, fun h'' sb => ?_⟩
    obtain ⟨f0, f1, _, f3', f4', f5'⟩ := fC
    exact ⟨.ref _, H5, I7.turned (t' := s6.toks) (fun b o hb e => (sb.2 b hb).trans e) f0 f1 f3' f4' f5', rfl, qq⟩
  · refine thnF (T.item (X.blk s3 H3 scope ce fp) rfl rfl rfl hc i [] s5 _ H5 (fun _ _ => False) I5 (stat I5 n5) st5 go) fun r s6 ⟨u, hr, h6⟩ => ?_
    subst hr
    refine thnF h6 fun _ s7 ⟨x, H7, I7, r7, y7, st7, n7⟩ => ?_
    refine thnF (pg.run _ s7 _ H7 x u _ (I7.pinned (stat I7 n7) (T.obj _ _ st7)) r7 (step x H7 y7)) fun _ s8 ⟨σ8, H8, I8, hw8, q8⟩ => ?_
    refine wpAny_tests_nil ?_
    simp only [if_true]
    refine thnF (pe.run _ s8 σ8 H8 _ I8 q8) fun z s9 ⟨yv, H9, I9, r9, k, S0, n0, ey, hD9, room, nx⟩ => ?_
    subst ey
    refine addK_ok (X := X.blk s3 H3 scope ce fp) I9 hD9 room r9 fun s10 I10 => ?_
    obtain ⟨m', hm, w'⟩ := hNx _ nx
    have still : ∀ b ∈ fp, ∀ o, s7.heap.get? b = some o → s10.heap.get? b = some o ∧ _ = none := fun b hb o e =>
      let z := I10.pin (b, o) (List.mem_append_right _ (List.mem_append_right _ (mem_pinsAt hb e)))
      ⟨z.1, z.2.1⟩
    refine ⟨m', hm, i + 1, _, (I10.unpinned (pins := [])).weak (show (wipe σ (own.map (·.2))).length = σ8.length by rw [← hw8, wipe_length]) (fun j v e => ?_), T.keep _ _ _ st7 fun b hb o e => (still b hb o e).1, fun b hb => ?_, w'⟩
    · rw [← hw8] at e
      exact (wipe_some e).1
    · obtain ⟨o, e, _⟩ := T.obj _ _ st7 b hb
      exact (still b hb o e).2

/-- len of a set of keys -/
def rLenK (P : Program) (w : World) : List V → Hp → VK → Prop := fun xs H Q => ∃ (a : Addr) (S : Key → Bool) (n : Nat), xs = [.ref a] ∧ H a = some (SetK P w a S n) ∧ Q (.int n) H
theorem call_lenK : CallR X (.builtin "len") (rLenK X.prog X.w) := by
  intro pins s σ H xs us Q I r h
  obtain ⟨a, S, n, rfl, ha, q⟩ := h
  obtain ⟨u, rfl, ru⟩ := vals1 r
  cases ru
  obtain ⟨o, es, ep, t, ho, hx, hd, he, hm, hb, hf, hn⟩ := setK_get I ha
  have h4 : scanBound = 4096 := rfl
  exact call_len_set ho hx hd hf (by omega) ⟨.int n, H, I.tok _, ⟨_, by rw [hn]⟩, q⟩

/-! ### the members of a row: as many as there are different ones -/
theorem snoc_ind {α : Type} {p : List α → Prop} (h0 : p []) (h1 : ∀ l a, p l → p (l ++ [a])) (l : List α) : p l := by
  have h : ∀ r : List α, p r.reverse := fun r => by
    induction r with
    | nil => exact h0
    | cons a r ih =>
      rw [List.reverse_cons]
      exact h1 _ _ ih
  have q := h l.reverse
  rw [List.reverse_reverse] at q
  exact q
/-- what a walk over keys leaves -/
def keysOf (ks : List Key) : (Key → Bool) × Nat := ks.foldl (fun p k => (addKey p.1 k, if p.1 k = true then p.2 else p.2 + 1)) (noKeys, 0)
theorem keysOf_snoc (ks : List Key) (k : Key) : keysOf (ks ++ [k]) = (addKey (keysOf ks).1 k, if (keysOf ks).1 k = true then (keysOf ks).2 else (keysOf ks).2 + 1) := by
  unfold keysOf
  rw [List.foldl_append]
  rfl
theorem keysOf_mem (ks : List Key) (j : Key) : (keysOf ks).1 j = true ↔ j ∈ ks := by
  refine snoc_ind (p := fun ks => (keysOf ks).1 j = true ↔ j ∈ ks) (by simp [keysOf]) (fun ks k ih => ?_) ks
  · rw [keysOf_snoc]
    show (_ || _) = true ↔ _
    rw [Bool.or_eq_true, decide_eq_true_eq, ih]
    simp
theorem keysOf_le (ks : List Key) : (keysOf ks).2 ≤ ks.length := by
  refine snoc_ind (p := fun ks => (keysOf ks).2 ≤ ks.length) (by simp [keysOf]) (fun ks k ih => ?_) ks
  · rw [keysOf_snoc, List.length_append, List.length_singleton]
    show (if (keysOf ks).1 k = true then (keysOf ks).2 else (keysOf ks).2 + 1) ≤ ks.length + 1
    have ih : (keysOf ks).2 ≤ ks.length := ih
    split <;> omega
theorem keysOf_all (ks : List Key) : (keysOf ks).2 = ks.length ↔ ks.Nodup := by
  refine snoc_ind (p := fun ks => (keysOf ks).2 = ks.length ↔ ks.Nodup) (by simp [keysOf]) (fun ks k ih => ?_) ks
  · have hle := keysOf_le ks
    rw [keysOf_snoc, List.length_append, List.length_singleton, List.nodup_append]
    show (if (keysOf ks).1 k = true then (keysOf ks).2 else (keysOf ks).2 + 1) = ks.length + 1 ↔ _
    have ih : (keysOf ks).2 = ks.length ↔ ks.Nodup := ih
    by_cases h : (keysOf ks).1 k = true
    · rw [if_pos h]
      have hm := (keysOf_mem ks k).mp h
      constructor
      · intro e
        omega
      · intro n
        exact absurd rfl (n.2.2 k hm k (List.mem_singleton.mpr rfl))
    · rw [if_neg h]
      have hm : k ∉ ks := fun z => h ((keysOf_mem ks k).mpr z)
      constructor
      · intro e
        refine ⟨ih.mp (by omega), by simp, fun a ha b hb => ?_⟩
        rw [List.mem_singleton.mp hb]
        exact fun z => hm (z ▸ ha)
      · intro n
        have := ih.mpr n.1
        omega
end
end Gd

/-! Walks over tuples of data. -/
namespace Gd
open PySem PySem.Spec PyProof.Rows L2 GxR Gx
section
variable {K : PySem.W.Frag}
theorem all_takeD {p : PyData → Bool} {l : List PyData} {i : Nat} {d : PyData} (hd : l[i]? = some d) (h : (l.take i).all p = true) : (l.take (i + 1)).all p = p d := by
  rw [List.take_add_one, hd, List.all_append, h, Bool.true_and]
  simp
theorem all_midD {p : PyData → Bool} {l : List PyData} {i : Nat} {d : PyData} (hd : l[i]? = some d) (h : p d = false) : l.all p = false := by
  rw [List.all_eq_false]
  exact ⟨d, List.mem_of_getElem? hd, by rw [h]; exact Bool.false_ne_true⟩
/-- all(test for x in tuple) -/
theorem all_tup {T a : Addr} {xs : List V} {ds : List PyData} {te : TE} {p : PyData → Bool} {H1 : Hp} {Q : VK} {σ : L2.St} (hT : TabG H1 T) (h : SqT K H1 a xs) (hs : DtAll K H1 xs ds)
    (ht : ∀ (v : V) (d : PyData) (H : Hp) (Q' : VK), d ∈ ds → Dt K H v d → Kp H1 H → (∀ H', Kp H H' → Q' (.bl (p d)) H') → te [some v] H Q') (q : ∀ H', Kp H1 H' → Q (.bl (ds.all p)) H') :
    TabG H1 T ∧ ∀ H2, Tabbed T H1 H2 → ∃ W : Nat → Nat → Hp → Prop, (∃ m, W 0 m H2) ∧ ∀ i m H, W i m H → ((Itt K a).stop i H ∧ Q (.bl true) H) ∨
      ((Itt K a).go i H ∧ ∃ Nx : Hp → Prop, (∀ H', Nx H' → ∃ m', m' < m ∧ W (i + 1) m' H') ∧ ∀ y H', (Itt K a).yld i H y H' → gName 0 y (none :: capV σ []) H' fun σ2 H3 =>
        (∀ (j : Nat) v, (none :: capV σ [] : L2.St)[j]? = some (some v) → σ2[j]? = some (some v)) ∧ te σ2 H3 fun y H5 => ∃ c, y = .bl c ∧ if c = true then Nx H5 else Q (.bl false) H5) := by
  refine ⟨hT, fun H2 h2 => ⟨fun i m H => Kp H1 H ∧ m = xs.length - i ∧ i ≤ xs.length ∧ (ds.take i).all p = true, ⟨_, Kb.tabbed h2 hT, rfl, Nat.zero_le _, by simp⟩, ?_⟩⟩
  rintro i m H ⟨k, rfl, hi, ha⟩
  have hq := k.sqT Lsts.nil h
  have hds := DtAll.kb k Lsts.nil hs
  by_cases hl : i < xs.length
  · obtain ⟨v, hv⟩ : ∃ v, xs[i]? = some v := ⟨xs[i], List.getElem?_eq_getElem hl⟩
    obtain ⟨d, hd, hvd⟩ := hds.get hv
    refine .inr ⟨⟨xs, v, hq, hv⟩, fun H' => Kp H1 H' ∧ (ds.take (i + 1)).all p = true, fun H' ⟨e, a⟩ => ⟨xs.length - (i + 1), by omega, e, rfl, hl, a⟩, fun y H' hy => ?_⟩
    obtain ⟨rfl, hy⟩ := hy
    have ey : v = y := Option.some.inj (hv.symm.trans (hy xs hq))
    subst ey
    refine ⟨nil_slots, ht v d _ _ (List.mem_of_getElem? hd) hvd k fun H5 k5 => ⟨p d, rfl, ?_⟩⟩
    cases e : p d with
    | true =>
      rw [if_pos rfl]
      exact ⟨k.trans k5, by rw [all_takeD hd ha, e]⟩
    | false =>
      rw [if_neg Bool.false_ne_true, ← all_midD (p := p) hd e]
      exact q _ (k.trans k5)
  · have e : i = xs.length := by omega
    subst e
    refine .inl ⟨⟨xs, hq, Nat.le_refl _⟩, ?_⟩
    have e2 : ds.take xs.length = ds := by
      rw [hs.length]
      exact List.take_length
    rw [e2] at ha
    rw [← ha]
    exact q _ k
/-- {e for x in tuple}, each member known -/
theorem scK_tup {P : Program} {w : World} {a : Addr} {xs : List V} {ks : List Key} {te : TE} {H1 : Hp} {Q : VK} {σ : L2.St} {j : Nat} (h : SqT K H1 a xs) (hl : ks.length = xs.length) (hn : xs.length ≤ 1000) (hj : j < σ.length)
    (ht : ∀ (i : Nat) (v : V) (k : Key) (H : Hp) (Q' : VK), xs[i]? = some v → ks[i]? = some k → Kp H1 H → Q' (kV k) H → te ((wipe σ [j]).set j (some v)) H Q')
    (q : ∀ D H', H1 D = none → Kp H1 H' → H' D = some (SetK P w D (keysOf ks).1 (keysOf ks).2) → Q (.ref D) H') :
    ∀ D, H1 D = none → ∃ W : Nat → Nat → Hp → Prop, (∃ m, W 0 m (upd H1 D (SetK P w D noKeys 0))) ∧ ∀ i m H, W i m H →
      ((Itt K a).stop i H ∧ Q (.ref D) H) ∨ ((Itt K a).go i H ∧ ∃ Nx : Hp → Prop, (∀ H', Nx H' → ∃ m', m' < m ∧ W (i + 1) m' H') ∧ ∀ x H', (Itt K a).yld i H x H' → gName j x (wipe σ [j]) H' fun σ2 H2 => wipe σ2 [j] = wipe σ [j] ∧ te σ2 H2 fun y H4 =>
        ∃ (k : Key) (S : Key → Bool) (n : Nat), y = kV k ∧ H4 D = some (SetK P w D S n) ∧ n + 1 < scanBound ∧ Nx (upd H4 D (SetK P w D (addKey S k) (if S k = true then n else n + 1)))) := by
  intro D hD
  refine ⟨fun i m H => m = xs.length - i ∧ i ≤ xs.length ∧ Kp H1 H ∧ H D = some (SetK P w D (keysOf (ks.take i)).1 (keysOf (ks.take i)).2), ⟨_, rfl, Nat.zero_le _, Kb.new hD, upd_same⟩, ?_⟩
  rintro i m H ⟨rfl, hi, k, hs⟩
  have hq := k.sqT Lsts.nil h
  by_cases hl2 : i < xs.length
  · obtain ⟨v, hv⟩ : ∃ v, xs[i]? = some v := ⟨xs[i], List.getElem?_eq_getElem hl2⟩
    obtain ⟨ky, hk⟩ : ∃ y, ks[i]? = some y := ⟨ks[i], List.getElem?_eq_getElem (by omega)⟩
    refine .inr ⟨⟨xs, v, hq, hv⟩, fun H' => Kp H1 H' ∧ H' D = some (SetK P w D (keysOf (ks.take (i + 1))).1 (keysOf (ks.take (i + 1))).2), fun H' ⟨a, b⟩ => ⟨xs.length - (i + 1), by omega, rfl, hl2, a, b⟩, fun x H' hy => ?_⟩
    obtain ⟨rfl, hy⟩ := hy
    have ey : v = x := Option.some.inj (hv.symm.trans (hy xs hq))
    subst ey
    refine ⟨?_, ht i v ky _ _ hv hk k ⟨ky, _, _, rfl, hs, ?_, ?_, ?_⟩⟩
    · show ((wipe σ [j]).set j (some v)).set j none = wipe σ [j]
      unfold wipe wipe
      rw [List.set_set, List.set_set]
    · have h1 := keysOf_le (ks.take i)
      rw [List.length_take] at h1
      show _ + 1 < 4096
      omega
    · exact k.mut hD (no_tab hs nt_ext)
    · rw [upd_same, List.take_add_one, hk]
      show some (SetK P w D _ _) = some (SetK P w D (keysOf (ks.take i ++ [ky])).1 (keysOf (ks.take i ++ [ky])).2)
      rw [keysOf_snoc]
  · have e : i = xs.length := by omega
    subst e
    refine .inl ⟨⟨xs, hq, Nat.le_refl _⟩, q D H hD k ?_⟩
    rw [← hl, List.take_length] at hs
    exact hs
end
end Gd
namespace Gd
open PySem PySem.Spec PyProof.Rows L2 GxR Gx
/-! ### rules whose reading names the written part by a letter, for the blocks of comprehensions -/
section
variable {X : Cx} {K : PySem.W.Frag}
theorem ix_tupK (h : X.K = K) : IxR X (rIxT K) := h ▸ ix_tup
theorem ix_listK (h : X.K = K) : IxR X (rIxL K) := h ▸ ix_list
theorem call_isiL (h : X.K = K) : CallR X (.builtin "isinstance") (rIsi K) := h ▸ call_isi
theorem call_len_seqK (h : X.K = K) : CallR X (.builtin "len") (fun xs H Q => ∃ p ys, xs = [.ref p] ∧ (SqL K H p ys ∨ SqT K H p ys) ∧ Q (.int ys.length) H) := h ▸ call_len_seq
theorem op_eqDK (h : X.K = K) (hu : X.A.units + 64 < cLine) : OpR X (compareOp .Eq) (rEqD K) := h ▸ op_eqD hu
theorem op_neDK (h : X.K = K) (hu : X.A.units + 64 < cLine) : OpR X (compareOp .NotEq) (rNeD K) := h ▸ op_neD hu
end
end Gd
namespace Gd
open PySem PySem.Spec PyProof.Rows L2 GxR Gx
section
variable {K : PySem.W.Frag} {T : Addr} {te : TE} {H : Hp} {Q : VK} {σ : L2.St} {i : Nat}
theorem rd_all_str {x : Str} {p : Nat → Bool} (hx : σ[i]? = some (some (.str x))) (hT : TabG H T)
    (ht : ∀ c ∈ x.cps.toList, ∀ (H : Hp) (Q' : VK), Q' (.bl (p c)) H → te [some (.str ⟨#[c]⟩)] H Q') (q : ∀ H2, Kp H H2 → Q (.bl (x.cps.toList.all p)) H2) : tAllG T (iStr (tVar i)) (gName 0) te [] σ H Q :=
  ⟨.str x, hx, x, rfl, all_str (p := p) hT ht fun H2 h2 => q H2 (Kb.tabbed h2 hT)⟩
theorem rd_all_tup {a : Addr} {xs : List V} {ds : List PyData} {p : PyData → Bool} (hx : σ[i]? = some (some (.ref a))) (hT : TabG H T) (h : SqT K H a xs) (hs : DtAll K H xs ds)
    (ht : ∀ (v : V) (d : PyData) (H' : Hp) (Q' : VK), d ∈ ds → Dt K H' v d → Kp H H' → (∀ H2, Kp H' H2 → Q' (.bl (p d)) H2) → te [some v] H' Q') (q : ∀ H', Kp H H' → Q (.bl (ds.all p)) H') : tAllG T (iTup K (tVar i)) (gName 0) te [] σ H Q :=
  ⟨.ref a, hx, a, rfl, ⟨xs, h⟩, all_tup (p := p) hT h hs ht q⟩
theorem rd_scK_tup {P : Program} {w : World} {a : Addr} {xs : List V} {ks : List Key} {j : Nat} (hx : σ[i]? = some (some (.ref a))) (h : SqT K H a xs) (hl : ks.length = xs.length) (hn : xs.length ≤ 1000) (hj : j < σ.length)
    (ht : ∀ (i : Nat) (v : V) (k : Key) (H' : Hp) (Q' : VK), xs[i]? = some v → ks[i]? = some k → Kp H H' → Q' (kV k) H' → te ((wipe σ [j]).set j (some v)) H' Q')
    (q : ∀ D H', H D = none → Kp H H' → H' D = some (SetK P w D (keysOf ks).1 (keysOf ks).2) → Q (.ref D) H') : tScK P w (iTup K (tVar i)) (gName j) te [j] σ H Q :=
  ⟨.ref a, hx, a, rfl, ⟨xs, h⟩, scK_tup h hl hn hj ht q⟩
end
end Gd

namespace Rv
open PySem PySem.Spec PyProof.Rows L2 GxR Gx Gd
def topS (i : Nat) : Stmt := PySem.Challenge.pw_remoteviews_k00_values_told.main.body.getD i (.Pass ⟨0, 0, 0, 0⟩)
abbrev s_is_character : Stmt := topS 7
abbrev s_is_digit : Stmt := topS 8
abbrev s_is_small : Stmt := topS 14
/-! ### signs -/
def inRg (a b c : Nat) : Bool := decide (a ≤ c) && decide (c ≤ b)
def isSmall : Nat → Bool := inRg 97 122
def isDigit : Nat → Bool := inRg 48 57
def isChar (c : Nat) : Bool := inRg 32 126 c && !decide (c = 37)
theorem lt1 {a b : Nat} : decide (([a] : List Nat) < [b]) = decide (a < b) := by
  rw [Bool.eq_iff_iff, decide_eq_true_eq, decide_eq_true_eq]
  constructor
  · intro h
    cases h with
    | rel h => exact h
    | cons h => cases h
  · intro h
    exact .rel h
theorem le1 {a b : Nat} : (!decide (([b] : List Nat) < [a])) = decide (a ≤ b) := by
  rw [lt1, Bool.eq_iff_iff, Bool.not_eq_true', decide_eq_false_iff_not, decide_eq_true_eq]
  omega
def spSign (p : Nat → Bool) : Sp := fun vs H Q _ => ∃ c, vs = [.str ⟨#[c]⟩] ∧ Q (.bl (p c)) H
abbrev rLeS : R2 := fun x y H Q => ∃ i j, x = .str i ∧ y = .str j ∧ Q (.bl (!decide (j.cps.toList < i.cps.toList))) H
theorem chain_rd {a b c : Nat} {xa xb : Str} {σ : L2.St} {H : Hp} {Q : VK} {i : Nat} (ha : xa = ⟨#[a]⟩) (hb : xb = ⟨#[b]⟩) (hs : σ[i]? = some (some (.str ⟨#[c]⟩))) (q : Q (.bl (inRg a b c)) H) :
    tChain rLeS rLeS (tC (.str xa)) (tVar i) (tC (.str xb)) σ H Q := by
  subst ha hb
  refine ⟨_, hs, ⟨#[a]⟩, ⟨#[c]⟩, rfl, rfl, _, rfl, ?_⟩
  show if (!decide (([c] : List Nat) < [a])) = true then ∃ i j, V.str ⟨#[c]⟩ = .str i ∧ V.str ⟨#[b]⟩ = .str j ∧ Q (.bl (!decide (j.cps.toList < i.cps.toList))) H else Q (.bl false) H
  rw [le1]
  unfold inRg at q
  by_cases h : a ≤ c
  · rw [decide_eq_true h] at q ⊢
    rw [if_pos rfl]
    refine ⟨_, _, rfl, rfl, ?_⟩
    show Q (.bl (!decide (([b] : List Nat) < [c]))) H
    rw [le1]
    exact q
  · rw [decide_eq_false h] at q ⊢
    exact iteF q
theorem chain_and {a b c : Nat} {xa xb : Str} {σ : L2.St} {H : Hp} {Q : VK} {i : Nat} {tb : TE} (ha : xa = ⟨#[a]⟩) (hb : xb = ⟨#[b]⟩) (hs : σ[i]? = some (some (.str ⟨#[c]⟩))) (q : if inRg a b c = true then tb σ H Q else Q (.bl false) H) :
    tAndV (tChain rLeS rLeS (tC (.str xa)) (tVar i) (tC (.str xb))) tb σ H Q := chain_rd ha hb hs ⟨_, rfl, q⟩
section
variable {P : Program} {w : World} {K : PySem.W.Frag} {mg : Str → Option Value} {base : Heap}
theorem sc_is_small : FnScope ["char"] ["char"] (defScope s_is_small) := ⟨rfl, rfl, rfl, by decide +kernel, rfl, by decide +kernel, by decide +kernel⟩
theorem c_is_small (D : DefAt K mg "_is_small" s_is_small ["char"]) : Cal P w K mg base CX0 1 "_is_small" ["char"] (spSign isSmall) := by
  refine D.cal (k := 0) sc_is_small (fun vs H Q E h => ?_) fun f cdv A outer s H vs Q E hr h => ?_
  · obtain ⟨c, rfl, _⟩ := h
    rfl
  · obtain ⟨c, rfl, q⟩ := h
    refine ⟨_, pss_one (ps_ret (pe_chain op_le_str op_le_str pe_str (pv 0) pe_str)), ?_⟩
    exact chain_rd rfl rfl rfl q
theorem sc_is_digit : FnScope ["char"] ["char"] (defScope s_is_digit) := ⟨rfl, rfl, rfl, by decide +kernel, rfl, by decide +kernel, by decide +kernel⟩
theorem c_is_digit (D : DefAt K mg "is_digit" s_is_digit ["char"]) : Cal P w K mg base CX0 1 "is_digit" ["char"] (spSign isDigit) := by
  refine D.cal (k := 0) sc_is_digit (fun vs H Q E h => ?_) fun f cdv A outer s H vs Q E hr h => ?_
  · obtain ⟨c, rfl, _⟩ := h
    rfl
  · obtain ⟨c, rfl, q⟩ := h
    refine ⟨_, pss_one (ps_ret (pe_chain op_le_str op_le_str pe_str (pv 0) pe_str)), ?_⟩
    exact chain_rd rfl rfl rfl q
theorem sc_is_character : FnScope ["char"] ["char"] (defScope s_is_character) := ⟨rfl, rfl, rfl, by decide +kernel, rfl, by decide +kernel, by decide +kernel⟩
theorem c_is_character (D : DefAt K mg "is_character" s_is_character ["char"]) (gP : ∃ t, mg "PERCENT" = some (.int 37 t)) (mo : mg "ord" = none) : Cal P w K mg base CX0 1 "is_character" ["char"] (spSign isChar) := by
  refine D.cal (k := 0) sc_is_character (fun vs H Q E h => ?_) fun f cdv A outer s H vs Q E hr h => ?_
  · obtain ⟨c, rfl, _⟩ := h
    rfl
  · obtain ⟨c, rfl, q⟩ := h
    obtain ⟨t, gP⟩ := gP
    refine ⟨_, pss_one (ps_ret (pe_and (pe_chain op_le_str op_le_str pe_str (pv 0) pe_str) (pe_one (pe_cmpR op_ne (pe_callB call_ord (by rfl) mo (by decide +kernel) (pa_cons (pv 0) pa_nil)) (pe_glob (v := .int 37) rfl gP ⟨t, rfl⟩) (nomark _))))), ?_⟩
    refine chain_and (a := 32) (b := 126) (c := c) rfl rfl rfl ?_
    cases e : inRg 32 126 c with
    | false =>
      refine iteF ?_
      unfold isChar at q
      rw [e] at q
      exact q
    | true =>
      refine iteT ⟨_, rfl, _, rfl, rfl, rfl, ?_⟩
      unfold isChar at q
      rw [e] at q
      have e2 : decide (V.int (((#[c] : Array Nat).getD 0 0 : Nat) : Int) = V.int 37) = decide (c = 37) := by
        rw [Bool.eq_iff_iff, decide_eq_true_eq, decide_eq_true_eq]
        constructor
        · intro h
          have h := V.int.inj h
          have h2 : ((c : Nat) : Int) = 37 := h
          omega
        · intro h
          subst h
          rfl
      rw [e2]
      exact q
end
end Rv
namespace Rv
open PySem PySem.Spec PyProof.Rows L2 GxR Gx Gd
def isNameL (l : List Nat) : Bool := decide (1 ≤ l.length) && decide (l.length ≤ 12) && ((match l with | c :: _ => isSmall c | [] => false) && l.all (fun c => isSmall c || isDigit c))
def isName : PyData → Bool
  | .str x => isNameL x.cps.toList
  | _ => false
abbrev s_is_name : Stmt := topS 9
section
variable {P : Program} {w : World} {K : PySem.W.Frag} {mg : Str → Option Value} {base : Heap}
theorem sc_is_name : FnScope ["thing"] ["thing"] (defScope s_is_name) := ⟨rfl, rfl, rfl, by decide +kernel, rfl, by decide +kernel, by decide +kernel⟩
theorem c_is_name {T : Addr} (D : DefTab K mg base "is_name" s_is_name ["thing"] T) (gN : ∃ t, mg "NAME_LENGTH" = some (.int 12 t)) (mi : mg "isinstance" = none) (ms : mg "str" = none) (ml : mg "len" = none) (ma : mg "all" = none)
    (c1 : Cal P w K mg base CX0 1 "_is_small" ["char"] (spSign isSmall)) (c2 : Cal P w K mg base CX0 1 "is_digit" ["char"] (spSign isDigit)) : Cal P w K mg base CX0 3 "is_name" ["thing"] (spData K [T] isName) := by
  refine D.cal (k := 2) sc_is_name (fun vs H Q E h => ?_) fun f c A outer s H vs Q E TB hr h => ?_
  · obtain ⟨v, d, rfl, _⟩ := h
    rfl
  · obtain ⟨v, d, rfl, hd, hz, hT, q⟩ := h
    obtain ⟨t, gN⟩ := gN
    refine ⟨_, pss_cons (ps_if (PW.pt (pw_or (pt_not (pt_val (pe_callB call_isi (by rfl) mi (by decide +kernel) (pa_cons (pv 0) (pa_cons (pe_bltn (v := .ty "str") (by rfl) ms (by decide +kernel) rfl) pa_nil)))))
          (pw_or1 (pt_not (pt_chain op_le op_le pe_int (pe_callB call_len_str (by rfl) ml PySem.boot_len (pa_cons (pv 0) pa_nil)) (pe_glob (v := .int 12) rfl gN ⟨t, rfl⟩))))))
        (pss_one (ps_ret pe_bl)) pss_nil)
      (pss_one (ps_ret (pe_and (pe_cal (c1.mono (by decide : 1 ≤ 2)) hr (by rfl) (pa_cons (pe_ix ix_str (pv 0) pe_int (fun _ _ => rfl)) pa_nil))
        (pe_one (pe_allG hr.r (by rfl) ma TB rfl (genS_by (by decide +kernel)) Caps.nil (pi_str (pv 0)) rfl
          (fun _ _ _ _ _ _ => pg_name (i := 0) (nd1 _) rfl (Or.inl rfl))
          (fun _ _ _ _ _ _ rk => pe_or (pe_cal c1 ⟨rk, hr.g⟩ (by rfl) (pa_cons (pv 0) pa_nil)) (pe_one (pe_cal c2 ⟨rk, hr.g⟩ (by rfl) (pa_cons (pv 0) pa_nil))))))))), ?_⟩
    refine ⟨v, rfl, v, .ty "str", _, _, isStrD d, rfl, ClsV.ty "str", hd.ty, kit_ty (kit_str d), _, rfl, ?_⟩
    have qF : isName d = false → Q (.bl false) H := fun e => by
      have z := q H (Kb.refl H)
      rw [e] at z
      exact z
    by_cases hs : isStrD d = true
    · cases hd <;> first | (cases hs; done) | skip
      rename_i x
      refine iteF ?_
      have hx : x.length = x.cps.toList.length := by simp [Str.length]
      have hlen := hz.str
      refine ⟨_, rfl, x, rfl, line1000 hlen, 1, (x.length : Int), rfl, rfl, _, rfl, ?_⟩
      by_cases h1 : (1 : Int) ≤ (x.length : Int)
      · rw [decide_eq_true h1]
        refine iteT ⟨_, _, rfl, rfl, _, rfl, ?_⟩
        by_cases h2 : (x.length : Int) ≤ 12
        · rw [decide_eq_true h2]
          refine iteF ?_
          obtain ⟨l, hl⟩ : ∃ l, x.cps.toList = l := ⟨_, rfl⟩
          cases l with
          | nil =>
            rw [hx, hl] at h1
            exact absurd h1 (by decide)
          | cons c0 r =>
            have en : isName (.str x) = (isSmall c0 && x.cps.toList.all fun c => isSmall c || isDigit c) := by
              have h1' : 1 ≤ x.cps.toList.length := by omega
              have h2' : x.cps.toList.length ≤ 12 := by omega
              show isNameL x.cps.toList = _
              unfold isNameL
              rw [decide_eq_true h1', decide_eq_true h2', hl]
              rfl
            refine ⟨.str x, rfl, x, 0, c0, rfl, rfl, line1000 hlen, by rw [hl]; exact atI_nat (j := 0) rfl, c0, rfl, isSmall c0, rfl, ?_⟩
            cases e0 : isSmall c0 with
            | false =>
              refine iteF (qF ?_)
              rw [en, e0]
              rfl
            | true =>
              refine iteT ⟨.str x, rfl, x, rfl, ?_⟩
              refine all_str (p := fun c => isSmall c || isDigit c) (hT T (List.mem_singleton.mpr rfl)) (fun c _ H Q' q' => ⟨.str ⟨#[c]⟩, rfl, c, rfl, isSmall c, rfl, ?_⟩) fun H2 h2 => ?_
              · cases e1 : isSmall c with
                | true =>
                  rw [e1] at q'
                  exact iteT q'
                | false =>
                  rw [e1] at q'
                  exact iteF ⟨.str ⟨#[c]⟩, rfl, c, rfl, q'⟩
              · have z := q H2 (Kb.tabbed h2 (hT T (List.mem_singleton.mpr rfl)))
                rw [en, e0] at z
                exact z
        · rw [decide_eq_false h2]
          refine iteT ?_
          have h2' : ¬ x.cps.toList.length ≤ 12 := by omega
          refine qF ?_
          show isNameL x.cps.toList = _
          unfold isNameL
          rw [decide_eq_false h2', Bool.and_false]
          rfl
      · rw [decide_eq_false h1]
        refine iteF ⟨_, rfl, ?_⟩
        have h1' : ¬ 1 ≤ x.cps.toList.length := by omega
        refine qF ?_
        show isNameL x.cps.toList = _
        unfold isNameL
        rw [decide_eq_false h1']
        rfl
    · rw [Bool.eq_false_iff.mpr hs]
      refine iteT ?_
      refine qF ?_
      cases d <;> first | rfl | exact absurd rfl hs
end
end Rv

namespace Rv
open PySem PySem.Spec PyProof.Rows L2 GxR Gx Gd
/-! ### pairs, texts, keys, integers -/
def isPairD : PyData → Bool
  | .tuple ds => decide (ds.length = 2)
  | _ => false
def isTextD (a b : Int) : PyData → Bool
  | .str x => decide (a ≤ (x.length : Int)) && decide ((x.length : Int) ≤ b) && x.cps.toList.all isChar
  | _ => false
abbrev isKeyD : PyData → Bool := isTextD 1 12
def isIntegerD : PyData → Bool
  | .int i => decide (0 ≤ i) && decide (i ≤ 999999)
  | _ => false
abbrev s_is_pair : Stmt := topS 15
abbrev s_is_text : Stmt := topS 16
abbrev s_is_key : Stmt := topS 10
abbrev s_is_integer : Stmt := topS 17
def spText (K : PySem.W.Frag) (ts : List Addr) : Sp := fun vs H Q _ => ∃ v d a b, vs = [v, .int a, .int b] ∧ Dt K H v d ∧ OkD d ∧ (∀ T ∈ ts, TabG H T) ∧ ∀ H', Kp H H' → Q (.bl (isTextD a b d)) H'
section
variable {P : Program} {w : World} {K : PySem.W.Frag} {mg : Str → Option Value} {base : Heap}
theorem sc_is_pair : FnScope ["thing"] ["thing"] (defScope s_is_pair) := ⟨rfl, rfl, rfl, by decide +kernel, rfl, by decide +kernel, by decide +kernel⟩
theorem c_is_pair (D : DefAt K mg "_is_pair" s_is_pair ["thing"]) (mi : mg "isinstance" = none) (mt : mg "tuple" = none) (ml : mg "len" = none) : Cal P w K mg base CX0 1 "_is_pair" ["thing"] (spData K [] isPairD) := by
  refine D.cal (k := 0) sc_is_pair (fun vs H Q E h => ?_) fun f cdv A outer s H vs Q E hr h => ?_
  · obtain ⟨v, d, rfl, _⟩ := h
    rfl
  · obtain ⟨v, d, rfl, hd, hz, hT, q⟩ := h
    refine ⟨_, pss_one (ps_ret (pe_and (pe_callB call_isi (by rfl) mi (by decide +kernel) (pa_cons (pv 0) (pa_cons (pe_bltn (v := .ty "tuple") (by rfl) mt (by decide +kernel) rfl) pa_nil)))
      (pe_one (pe_cmpR op_eq (pe_callB call_len_seq (by rfl) ml PySem.boot_len (pa_cons (pv 0) pa_nil)) pe_int (nomark _))))), ?_⟩
    have z := q H (Kb.refl H)
    refine ⟨v, rfl, v, .ty "tuple", _, _, isTupD d, rfl, ClsV.ty "tuple", hd.ty, kit_ty (kit_tup d), isTupD d, rfl, ?_⟩
    cases hd with
    | @tup a xs ds h hs =>
      refine iteT ⟨_, rfl, _, _, rfl, .inr h, rfl, ?_⟩
      have e : decide (V.int (xs.length : Int) = V.int 2) = isPairD (.tuple ds) := by
        show _ = decide _
        rw [← hs.length, Bool.eq_iff_iff, decide_eq_true_eq, decide_eq_true_eq]
        constructor
        · intro q
          have q := V.int.inj q
          omega
        · intro q
          rw [q]
          rfl
      rw [e]
      exact z
    | _ => exact iteF z
theorem sc_is_text : FnScope ["thing", "shortest", "longest"] ["thing", "shortest", "longest"] (defScope s_is_text) := ⟨rfl, rfl, rfl, by decide +kernel, rfl, by decide +kernel, by decide +kernel⟩
theorem c_is_text {T : Addr} (D : DefTab K mg base "_is_text" s_is_text ["thing", "shortest", "longest"] T) (mi : mg "isinstance" = none) (ms : mg "str" = none) (ml : mg "len" = none) (ma : mg "all" = none)
    (c1 : Cal P w K mg base CX0 1 "is_character" ["char"] (spSign isChar)) : Cal P w K mg base CX0 3 "_is_text" ["thing", "shortest", "longest"] (spText K [T]) := by
  refine D.cal (k := 2) sc_is_text (fun vs H Q E h => ?_) fun f c A outer s H vs Q E TB hr h => ?_
  · obtain ⟨v, d, a, b, rfl, _⟩ := h
    rfl
  · obtain ⟨v, d, a, b, rfl, hd, hz, hT, q⟩ := h
    refine ⟨_, pss_cons (ps_if (PW.pt (pw_or (pt_not (pt_val (pe_callB call_isi (by rfl) mi (by decide +kernel) (pa_cons (pv 0) (pa_cons (pe_bltn (v := .ty "str") (by rfl) ms (by decide +kernel) rfl) pa_nil)))))
          (pw_or1 (pt_not (pt_chain op_le op_le (pv 1) (pe_callB call_len_str (by rfl) ml PySem.boot_len (pa_cons (pv 0) pa_nil)) (pv 2))))))
        (pss_one (ps_ret pe_bl)) pss_nil)
      (pss_one (ps_ret (pe_allG hr.r (by rfl) ma TB rfl (genS_by (by decide +kernel)) Caps.nil (pi_str (pv 0)) rfl
          (fun _ _ _ _ _ _ => pg_name (i := 0) (nd1 _) rfl (Or.inl rfl)) (fun _ _ _ _ _ _ rk => pe_cal c1 ⟨rk, hr.g⟩ (by rfl) (pa_cons (pv 0) pa_nil))))), ?_⟩
    have qF : isTextD a b d = false → Q (.bl false) H := fun e => by
      have z := q H (Kb.refl H)
      rw [e] at z
      exact z
    refine ⟨v, rfl, v, .ty "str", _, _, isStrD d, rfl, ClsV.ty "str", hd.ty, kit_ty (kit_str d), _, rfl, ?_⟩
    cases hd with
    | str x =>
      refine iteF ⟨_, rfl, .str x, rfl, x, rfl, line1000 hz.str, a, (x.length : Int), rfl, rfl, _, rfl, ?_⟩
      by_cases h1 : a ≤ (x.length : Int)
      · rw [decide_eq_true h1]
        refine iteT ⟨_, rfl, _, _, rfl, rfl, _, rfl, ?_⟩
        by_cases h2 : (x.length : Int) ≤ b
        · rw [decide_eq_true h2]
          refine iteF ⟨.str x, rfl, x, rfl, ?_⟩
          refine all_str (p := isChar) (hT T (List.mem_singleton.mpr rfl)) (fun c _ H Q' q' => ⟨.str ⟨#[c]⟩, rfl, c, rfl, q'⟩) fun H2 h2' => ?_
          have z := q H2 (Kb.tabbed h2' (hT T (List.mem_singleton.mpr rfl)))
          have e : isTextD a b (.str x) = x.cps.toList.all isChar := by
            show (decide _ && decide _ && _) = _
            rw [decide_eq_true h1, decide_eq_true h2]
            rfl
          rw [e] at z
          exact z
        · rw [decide_eq_false h2]
          refine iteT (qF ?_)
          show (decide _ && decide _ && _) = _
          rw [decide_eq_false h2, Bool.and_false]
          rfl
      · rw [decide_eq_false h1]
        refine iteF ⟨_, rfl, ?_⟩
        refine iteT (qF ?_)
        show (decide _ && decide _ && _) = _
        rw [decide_eq_false h1]
        rfl
    | _ => exact iteT (qF rfl)
theorem sc_is_key : FnScope ["thing"] ["thing"] (defScope s_is_key) := ⟨rfl, rfl, rfl, by decide +kernel, rfl, by decide +kernel, by decide +kernel⟩
theorem c_is_key {ts : List Addr} (D : DefAt K mg "is_key" s_is_key ["thing"]) (gK : ∃ t, mg "KEY_LENGTH" = some (.int 12 t)) (c1 : Cal P w K mg base CX0 3 "_is_text" ["thing", "shortest", "longest"] (spText K ts)) :
    Cal P w K mg base CX0 4 "is_key" ["thing"] (spData K ts isKeyD) := by
  refine D.cal (k := 3) sc_is_key (fun vs H Q E h => ?_) fun f cdv A outer s H vs Q E hr h => ?_
  · obtain ⟨v, d, rfl, _⟩ := h
    rfl
  · obtain ⟨v, d, rfl, hd, hz, hT, q⟩ := h
    obtain ⟨t, gK⟩ := gK
    refine ⟨_, pss_one (ps_ret (pe_cal c1 hr (by rfl) (pa_cons (pv 0) (pa_cons pe_int (pa_cons (pe_glob (v := .int 12) rfl gK ⟨t, rfl⟩) pa_nil))))), ?_⟩
    exact ⟨v, rfl, v, d, 1, 12, rfl, hd, hz, hT, q⟩
theorem sc_is_integer : FnScope ["thing"] ["thing"] (defScope s_is_integer) := ⟨rfl, rfl, rfl, by decide +kernel, rfl, by decide +kernel, by decide +kernel⟩
theorem c_is_integer (D : DefAt K mg "_is_integer" s_is_integer ["thing"]) (mi : mg "isinstance" = none) (mb : mg "bool" = none) (mn : mg "int" = none) (gG : ∃ t, mg "GREATEST_INTEGER" = some (.int 999999 t)) : Cal P w K mg base CX0 1 "_is_integer" ["thing"] (spData K [] isIntegerD) := by
  refine D.cal (k := 0) sc_is_integer (fun vs H Q E h => ?_) fun f cdv A outer s H vs Q E hr h => ?_
  · obtain ⟨v, d, rfl, _⟩ := h
    rfl
  · obtain ⟨v, d, rfl, hd, hz, hT, q⟩ := h
    obtain ⟨t, gG⟩ := gG
    refine ⟨_, pss_cons (ps_if (PW.pt (pw_or (pt_val (pe_callB call_isi (by rfl) mi (by decide +kernel) (pa_cons (pv 0) (pa_cons (pe_bltn (v := .ty "bool") (by rfl) mb (by decide +kernel) rfl) pa_nil))))
          (pw_or1 (pt_not (pt_val (pe_callB call_isi (by rfl) mi (by decide +kernel) (pa_cons (pv 0) (pa_cons (pe_bltn (v := .ty "int") (by rfl) mn (by decide +kernel) rfl) pa_nil))))))))
        (pss_one (ps_ret pe_bl)) pss_nil)
      (pss_one (ps_ret (pe_chain op_le op_le pe_int (pv 0) (pe_glob (v := .int 999999) rfl gG ⟨t, rfl⟩)))), ?_⟩
    have z := q H (Kb.refl H)
    refine ⟨v, rfl, v, .ty "bool", _, _, isBoolD d, rfl, ClsV.ty "bool", hd.ty, kit_ty (kit_bool d), _, rfl, ?_⟩
    cases hd with
    | bl b => exact iteT z
    | int i =>
      refine iteF ⟨_, rfl, .int i, .ty "int", _, _, true, rfl, ClsV.ty "int", (Dt.int (K := K) (H := H) i).ty, kit_ty (kit_int (.int i)), _, rfl, ?_⟩
      refine iteF ⟨_, rfl, 0, i, rfl, rfl, _, rfl, ?_⟩
      have z : Q (.bl (decide (0 ≤ i) && decide (i ≤ 999999))) H := z
      by_cases h : 0 ≤ i
      · rw [decide_eq_true h] at z ⊢
        exact iteT ⟨i, 999999, rfl, rfl, z⟩
      · rw [decide_eq_false h] at z ⊢
        exact iteF z
    | non => exact iteF ⟨_, rfl, .non, .ty "int", _, _, false, rfl, ClsV.ty "int", (Dt.non (K := K) (H := H)).ty, kit_ty (kit_int .none), _, rfl, iteT z⟩
    | str x => exact iteF ⟨_, rfl, .str x, .ty "int", _, _, false, rfl, ClsV.ty "int", (Dt.str (K := K) (H := H) x).ty, kit_ty (kit_int (.str x)), _, rfl, iteT z⟩
    | tup h hs => exact iteF ⟨_, rfl, .ref _, .ty "int", _, _, false, rfl, ClsV.ty "int", (Dt.tup h hs).ty, kit_ty (kit_int (.tuple _)), _, rfl, iteT z⟩
end
end Rv

namespace Rv
open PySem PySem.Spec PyProof.Rows L2 GxR Gx Gd
/-! ### scalars -/
def scalOf (k c : PyData) : Bool := if PyData.eqv k (.str "bool") = true then isBoolD c else if PyData.eqv k (.str "int") = true then isIntegerD c else PyData.eqv k (.str "text") && isTextD 0 40 c
def pairScal : PyData → Bool
  | .tuple [k, c] => scalOf k c
  | _ => false
def isScalarD (d : PyData) : Bool := PyData.eqv d (.tuple [.str "none"]) || pairScal d
abbrev s_is_scalar : Stmt := topS 11
theorem sc_is_scalar : FnScope ["thing", "kind", "content"] ["thing"] (defScope s_is_scalar) := ⟨rfl, rfl, rfl, by decide +kernel, rfl, by decide +kernel, by decide +kernel⟩
section
variable {P : Program} {w : World} {K : PySem.W.Frag} {mg : Str → Option Value} {base : Heap}
theorem c_is_scalar {ts : List Addr} (D : DefAt K mg "is_scalar" s_is_scalar ["thing"]) (m_isinstance : mg "isinstance" = none) (m_bool : mg "bool" = none) (gT : ∃ t, mg "TEXT_LENGTH" = some (.int 40 t))
    (c__is_pair : Cal P w K mg base CX0 1 "_is_pair" ["thing"] (spData K [] isPairD)) (c__is_integer : Cal P w K mg base CX0 1 "_is_integer" ["thing"] (spData K [] isIntegerD)) (c__is_text : Cal P w K mg base CX0 3 "_is_text" ["thing", "shortest", "longest"] (spText K ts)) :
    Cal P w K mg base CX0 4 "is_scalar" ["thing"] (spData K ts isScalarD) := by
  refine D.cal (k := 3) sc_is_scalar (fun vs H Q E h => ?_) fun f cdv A outer s H vs Q E hr h => ?_
  · obtain ⟨v, d, rfl, _⟩ := h
    rfl
  · obtain ⟨v, d, rfl, hd, hz, hT, q⟩ := h
    obtain ⟨t, g_TEXT_LENGTH⟩ := gT
    refine ⟨_, (pss_cons (ps_if (pt_cmpR (op_eqD hr.r.units) (pv 0) (pe_tup (pa_cons pe_str pa_nil)) (nomark _)) (pss_one (ps_ret pe_bl)) pss_nil)
  (pss_cons (ps_if (pt_not (pt_val (pe_cal (c__is_pair.mono (by decide)) hr (by rfl) (pa_cons (pv 0) pa_nil)))) (pss_one (ps_ret pe_bl)) pss_nil)
  (pss_cons (ps_asg (pv 0) (pg_tup rfl (pgs_cons (pg_name (i := 1) sc_is_scalar.nd rfl (Or.inl rfl)) (pgs_cons (pg_name (i := 2) sc_is_scalar.nd rfl (Or.inl rfl)) pgs_nil))))
  (pss_cons (ps_if (pt_cmpR (op_eqD hr.r.units) (pv 1) pe_str (nomark _)) (pss_one (ps_ret (pe_callB call_isi (by rfl) m_isinstance (by decide +kernel) (pa_cons (pv 2) (pa_cons (pe_bltn (v := .ty "bool") (by rfl) m_bool (by decide +kernel) rfl) pa_nil))))) pss_nil)
  (pss_cons (ps_if (pt_cmpR (op_eqD hr.r.units) (pv 1) pe_str (nomark _)) (pss_one (ps_ret (pe_cal (c__is_integer.mono (by decide)) hr (by rfl) (pa_cons (pv 2) pa_nil)))) pss_nil)
  (pss_one (ps_ret (pe_and (pe_cmpR (op_eqD hr.r.units) (pv 1) pe_str (nomark _)) (pe_one (pe_cal (c__is_text.mono (by decide)) hr (by rfl) (pa_cons (pv 2) (pa_cons pe_int (pa_cons (pe_glob (v := .int 40) rfl g_TEXT_LENGTH ⟨_, rfl⟩) pa_nil))))))))))))), ?_⟩
    refine ⟨v, rfl, by show 1 ≤ sizeLine; decide, fun p hp => ?_⟩
    have k1 : Kp H (upd H p (.tup [.str "none"])) := Kb.new hp
    generalize hH1 : upd H p (.tup [.str "none"]) = H1 at k1 ⊢
    have e1 : SqT K H1 p [.str "none"] := by rw [← hH1]; exact SqT.of upd_same
    have hd1 := hd.kb k1 Lsts.nil
    refine ⟨d, .tuple [.str "none"], hd1.dp, .tup e1 (.cons (.str _) .nil), hz.shaped, by decide +kernel, _, rfl, ?_⟩
    cases e0 : PyData.eqv d (.tuple [.str "none"]) with
    | true =>
      have z := q H1 k1
      unfold isScalarD at z
      rw [e0] at z
      exact iteT z
    | false =>
      have q2 : ∀ (b : Bool) (H' : Hp), pairScal d = b → Kp H H' → Q (.bl b) H' := fun b H' e k => by
        have z := q H' k
        unfold isScalarD at z
        rw [e0, Bool.false_or, e] at z
        exact z
      refine iteF ⟨v, rfl, v, d, rfl, hd1, hz, (fun _ h => by cases h), fun H2 k2 => ⟨isPairD d, rfl, ?_⟩⟩
      have k12 := k1.trans k2
      have hd2 := hd1.kb k2 Lsts.nil
      cases hd2 with
      | @tup a xs ds h hs =>
        by_cases hl : ds.length = 2
        · obtain ⟨dk, dc, rfl⟩ : ∃ x y, ds = [x, y] := by
            match ds, hl with
            | [x, y], _ => exact ⟨x, y, rfl⟩
          cases hs with
          | @cons vk _ _ _ hk hs =>
            cases hs with
            | @cons vc _ _ _ hc hs =>
              cases hs
              have okk : OkD dk := hz.child (by simp)
              have okc : OkD dc := hz.child (by simp)
              refine iteF ⟨.ref a, rfl, a, [vk, vc], rfl, h, rfl, vk, [vc], rfl, vc, [], rfl, rfl, ?_⟩
              refine ⟨vk, rfl, dk, .str "bool", hk.dp, .str _, okk.shaped, by decide +kernel, _, rfl, ?_⟩
              have z : ∀ H', Kp H H' → Q (.bl (scalOf dk dc)) H' := fun H' k => q2 _ H' rfl k
              unfold scalOf at z
              cases eb : PyData.eqv dk (.str "bool") with
              | true =>
                rw [eb] at z
                exact iteT ⟨vc, rfl, vc, .ty "bool", _, _, isBoolD dc, rfl, ClsV.ty "bool", hc.ty, kit_ty (kit_bool dc), z H2 k12⟩
              | false =>
                rw [eb] at z
                refine iteF ⟨vk, rfl, dk, .str "int", hk.dp, .str _, okk.shaped, by decide +kernel, _, rfl, ?_⟩
                cases ei : PyData.eqv dk (.str "int") with
                | true =>
                  rw [ei] at z
                  exact iteT ⟨vc, rfl, vc, dc, rfl, hc, okc, (fun _ h => by cases h), fun H3 k3 => z H3 (k12.trans k3)⟩
                | false =>
                  rw [ei] at z
                  refine iteF ⟨vk, rfl, dk, .str "text", hk.dp, .str _, okk.shaped, by decide +kernel, _, rfl, ?_⟩
                  cases et : PyData.eqv dk (.str "text") with
                  | true =>
                    rw [et] at z
                    exact iteT ⟨vc, rfl, vc, dc, 0, 40, rfl, hc, okc, fun T hm => k12.tab T (hT T hm), fun H3 k3 => z H3 (k12.trans k3)⟩
                  | false =>
                    rw [et] at z
                    exact iteF (z H2 k12)
        · have e : isPairD (.tuple ds) = false := decide_eq_false hl
          rw [e]
          refine iteT (q2 false H2 ?_ k12)
          match ds, hl with
          | [], _ => rfl
          | [_], _ => rfl
          | [_, _], hl => exact absurd rfl hl
          | _ :: _ :: _ :: _, _ => rfl
      | _ => exact iteT (q2 false H2 rfl k12)
end
end Rv

namespace Rv
open PySem PySem.Spec PyProof.Rows L2 GxR Gx Gd
/-! ### right scalars, their plain texts -/
inductive Sc where
  | none | bool (b : Bool) | int (i : Int) | text (x : Str)
def Sc.d : Sc → PyData
  | .none => .tuple [.str "none"]
  | .bool b => .tuple [.str "bool", .bool b]
  | .int i => .tuple [.str "int", .int i]
  | .text x => .tuple [.str "text", .str x]
def Sc.plain : Sc → Str
  | .none => ""
  | .bool b => if b = true then "true" else "false"
  | .int i => toString i
  | .text x => x
def Sc.ok : Sc → Prop
  | .int i => 0 ≤ i ∧ i ≤ 999999
  | _ => True
theorem log_of {i : Int} (h : 0 ≤ i ∧ i ≤ 999999) : i.natAbs.log2 < 1920 := by
  have h1 : i.natAbs < 2 ^ 20 := by omega
  by_cases h0 : i.natAbs = 0
  · rw [h0]
    decide
  · have := (Nat.log2_lt h0).mpr h1
    omega
def spPlain (K : PySem.W.Frag) : Sp := fun vs H Q _ => ∃ v s, vs = [v] ∧ Dt K H v (Sc.d s) ∧ s.ok ∧ Q (.str s.plain) H
abbrev s_plain : Stmt := topS 13
theorem sc_plain : FnScope ["scalar"] ["scalar"] (defScope s_plain) := ⟨rfl, rfl, rfl, by decide +kernel, rfl, by decide +kernel, by decide +kernel⟩
abbrev s_is_entry : Stmt := topS 19
theorem sc_is_entry : FnScope ["thing"] ["thing"] (defScope s_is_entry) := ⟨rfl, rfl, rfl, by decide +kernel, rfl, by decide +kernel, by decide +kernel⟩
abbrev s_are_entries : Stmt := topS 18
theorem sc_are_entries : FnScope ["thing", "entry"] ["thing"] (defScope s_are_entries) := ⟨rfl, rfl, rfl, by decide +kernel, rfl, by decide +kernel, by decide +kernel⟩
abbrev s_is_value : Stmt := topS 12
theorem sc_is_value : FnScope ["thing"] ["thing"] (defScope s_is_value) := ⟨rfl, rfl, rfl, by decide +kernel, rfl, by decide +kernel, by decide +kernel⟩
def isEntryD : PyData → Bool
  | .tuple [k, s] => isKeyD k && isScalarD s
  | _ => false
def keyOfD : PyData → Key
  | .tuple (.str x :: _) => .inr x
  | _ => .inl 0
def areEntriesD : PyData → Bool
  | .tuple ds => decide (ds.length ≤ 8) && (ds.all isEntryD && decide ((ds.map keyOfD).Nodup))
  | _ => false
def pairMap : PyData → Bool
  | .tuple [k, m] => PyData.eqv k (.str "map") && areEntriesD m
  | _ => false
def isValueD (d : PyData) : Bool := isScalarD d || pairMap d
section
variable {P : Program} {w : World} {K : PySem.W.Frag} {mg : Str → Option Value} {base : Heap}
theorem c_plain (D : DefAt K mg "plain" s_plain ["scalar"]) (m_str : mg "str" = none) : Cal P w K mg base CX0 1 "plain" ["scalar"] (spPlain K) := by
  refine D.cal (k := 0) sc_plain (fun vs H Q E h => ?_) fun f cdv A outer s H vs Q E hr h => ?_
  · obtain ⟨v, s, rfl, _⟩ := h
    rfl
  · obtain ⟨v, sc, rfl, hd, ok, q⟩ := h
    refine ⟨_, (pss_cons (ps_if (pt_cmpR op_eq (pe_ix ix_tup (pv 0) pe_int (fun _ _ => rfl)) pe_str (nomark _)) (pss_one (ps_ret pe_str)) pss_nil)
  (pss_cons (ps_if (pt_cmpR op_eq (pe_ix ix_tup (pv 0) pe_int (fun _ _ => rfl)) pe_str (nomark _)) (pss_one (ps_ret (pe_ifExp (pt_val (pe_ix ix_tup (pv 0) pe_int (fun _ _ => rfl))) pe_str pe_str))) pss_nil)
  (pss_one (ps_ret (pe_callTy (call_str_int.or SkE.call_str_str) (by rfl) m_str (by decide +kernel) (pa_cons (pe_ix ix_tup (pv 0) pe_int (fun _ _ => rfl)) pa_nil)))))), ?_⟩
    cases sc with
    | none =>
      cases hd with
      | @tup a _ _ h hs =>
        cases hs with
        | cons hk hs =>
          cases hs
          cases hk
          exact ⟨.ref a, rfl, a, _, 0, _, rfl, rfl, h, atI_nat (j := 0) rfl, rfl, _, rfl, iteT q⟩
    | bool b =>
      cases hd with
      | @tup a _ _ h hs =>
        cases hs with
        | cons hk hs =>
          cases hs with
          | cons hc hs =>
            cases hs
            cases hk
            cases hc
            refine ⟨.ref a, rfl, a, _, 0, _, rfl, rfl, h, atI_nat (j := 0) rfl, rfl, _, rfl, iteF ?_⟩
            refine ⟨.ref a, rfl, a, _, 0, _, rfl, rfl, h, atI_nat (j := 0) rfl, rfl, _, rfl, iteT ?_⟩
            refine ⟨.ref a, rfl, a, _, 1, _, rfl, rfl, h, atI_nat (j := 1) rfl, b, rfl, ?_⟩
            cases b with
            | true => exact iteT q
            | false => exact iteF q
    | int i =>
      cases hd with
      | @tup a _ _ h hs =>
        cases hs with
        | cons hk hs =>
          cases hs with
          | cons hc hs =>
            cases hs
            cases hk
            cases hc
            refine ⟨.ref a, rfl, a, _, 0, _, rfl, rfl, h, atI_nat (j := 0) rfl, rfl, _, rfl, iteF ?_⟩
            refine ⟨.ref a, rfl, a, _, 0, _, rfl, rfl, h, atI_nat (j := 0) rfl, rfl, _, rfl, iteF ?_⟩
            exact ⟨.ref a, rfl, a, _, 1, _, rfl, rfl, h, atI_nat (j := 1) rfl, .inl ⟨i, rfl, log_of ok, q⟩⟩
    | text x =>
      cases hd with
      | @tup a _ _ h hs =>
        cases hs with
        | cons hk hs =>
          cases hs with
          | cons hc hs =>
            cases hs
            cases hk
            cases hc
            refine ⟨.ref a, rfl, a, _, 0, _, rfl, rfl, h, atI_nat (j := 0) rfl, rfl, _, rfl, iteF ?_⟩
            refine ⟨.ref a, rfl, a, _, 0, _, rfl, rfl, h, atI_nat (j := 0) rfl, rfl, _, rfl, iteF ?_⟩
            exact ⟨.ref a, rfl, a, _, 1, _, rfl, rfl, h, atI_nat (j := 1) rfl, .inr ⟨x, rfl, q⟩⟩
theorem c_is_entry {ts : List Addr} (D : DefAt K mg "_is_entry" s_is_entry ["thing"]) (c__is_pair : Cal P w K mg base CX0 1 "_is_pair" ["thing"] (spData K [] isPairD)) (c_is_key : Cal P w K mg base CX0 4 "is_key" ["thing"] (spData K ts isKeyD))
    (c_is_scalar : Cal P w K mg base CX0 4 "is_scalar" ["thing"] (spData K ts isScalarD)) : Cal P w K mg base CX0 5 "_is_entry" ["thing"] (spData K ts isEntryD) := by
  refine D.cal (k := 4) sc_is_entry (fun vs H Q E h => ?_) fun f cdv A outer s H vs Q E hr h => ?_
  · obtain ⟨v, s, rfl, _⟩ := h
    rfl
  · obtain ⟨v, d, rfl, hd, hz, hT, q⟩ := h
    refine ⟨_, (pss_one (ps_ret (pe_and (pe_cal (c__is_pair.mono (by decide)) hr (by rfl) (pa_cons (pv 0) pa_nil)) (pe_and (pe_cal (c_is_key.mono (by decide)) hr (by rfl) (pa_cons (pe_ix ix_tup (pv 0) pe_int (fun _ _ => rfl)) pa_nil)) (pe_one (pe_cal (c_is_scalar.mono (by decide)) hr (by rfl) (pa_cons (pe_ix ix_tup (pv 0) pe_int (fun _ _ => rfl)) pa_nil))))))), ?_⟩
    refine ⟨v, rfl, v, d, rfl, hd, hz, (fun _ h => by cases h), fun H1 k1 => ⟨isPairD d, rfl, ?_⟩⟩
    have hd1 := hd.kb k1 Lsts.nil
    cases hd1 with
    | @tup a xs ds h hs =>
      by_cases hl : ds.length = 2
      · obtain ⟨dk, dc, rfl⟩ : ∃ x y, ds = [x, y] := by
          match ds, hl with
          | [x, y], _ => exact ⟨x, y, rfl⟩
        cases hs with
        | @cons vk _ _ _ hk hs =>
          cases hs with
          | @cons vc _ _ _ hc hs =>
            cases hs
            have okk : OkD dk := hz.child (by simp)
            have okc : OkD dc := hz.child (by simp)
            have z : ∀ H', Kp H H' → Q (.bl (isKeyD dk && isScalarD dc)) H' := q
            refine iteT ⟨.ref a, rfl, a, _, 0, _, rfl, rfl, h, atI_nat (j := 0) rfl, vk, dk, rfl, hk, okk, fun T hm => k1.tab T (hT T hm), fun H2 k2 => ⟨isKeyD dk, rfl, ?_⟩⟩
            cases e : isKeyD dk with
            | false =>
              rw [e] at z
              exact iteF (z H2 (k1.trans k2))
            | true =>
              rw [e] at z
              exact iteT ⟨.ref a, rfl, a, _, 1, _, rfl, rfl, k2.sqT Lsts.nil h, atI_nat (j := 1) rfl, vc, dc, rfl, hc.kb k2 Lsts.nil, okc, fun T hm => k2.tab T (k1.tab T (hT T hm)), fun H3 k3 => z H3 ((k1.trans k2).trans k3)⟩
      · have e : isPairD (.tuple ds) = false := decide_eq_false hl
        have e2 : isEntryD (.tuple ds) = false := by
          match ds, hl with
          | [], _ => rfl
          | [_], _ => rfl
          | [_, _], hl => exact absurd rfl hl
          | _ :: _ :: _ :: _, _ => rfl
        have z := q H1 k1
        rw [e2] at z
        rw [e]
        exact iteF z
    | _ => exact iteF (q H1 k1)
theorem c_is_value {ts : List Addr} (D : DefAt K mg "is_value" s_is_value ["thing"]) (c__is_pair : Cal P w K mg base CX0 1 "_is_pair" ["thing"] (spData K [] isPairD))
    (c_is_scalar : Cal P w K mg base CX0 4 "is_scalar" ["thing"] (spData K ts isScalarD)) (c__are_entries : Cal P w K mg base CX0 7 "_are_entries" ["thing"] (spData K ts areEntriesD)) : Cal P w K mg base CX0 8 "is_value" ["thing"] (spData K ts isValueD) := by
  refine D.cal (k := 7) sc_is_value (fun vs H Q E h => ?_) fun f cdv A outer s H vs Q E hr h => ?_
  · obtain ⟨v, s, rfl, _⟩ := h
    rfl
  · obtain ⟨v, d, rfl, hd, hz, hT, q⟩ := h
    refine ⟨_, (pss_cons (ps_if (pt_val (pe_cal (c_is_scalar.mono (by decide)) hr (by rfl) (pa_cons (pv 0) pa_nil))) (pss_one (ps_ret pe_bl)) pss_nil)
  (pss_one (ps_ret (pe_and (pe_cal (c__is_pair.mono (by decide)) hr (by rfl) (pa_cons (pv 0) pa_nil)) (pe_and (pe_cmpR (op_eqD hr.r.units) (pe_ix ix_tup (pv 0) pe_int (fun _ _ => rfl)) pe_str (nomark _)) (pe_one (pe_cal (c__are_entries.mono (by decide)) hr (by rfl) (pa_cons (pe_ix ix_tup (pv 0) pe_int (fun _ _ => rfl)) pa_nil)))))))), ?_⟩
    refine ⟨v, rfl, v, d, rfl, hd, hz, hT, fun H1 k1 => ⟨isScalarD d, rfl, ?_⟩⟩
    have z : ∀ H', Kp H H' → Q (.bl (isScalarD d || pairMap d)) H' := q
    cases es : isScalarD d with
    | true =>
      rw [es] at z
      exact iteT (z H1 k1)
    | false =>
      rw [es] at z
      have hd1 := hd.kb k1 Lsts.nil
      refine iteF ⟨v, rfl, v, d, rfl, hd1, hz, (fun _ h => by cases h), fun H2 k2 => ⟨isPairD d, rfl, ?_⟩⟩
      have k12 := k1.trans k2
      have hd2 := hd1.kb k2 Lsts.nil
      cases hd2 with
      | @tup a xs ds h hs =>
        by_cases hl : ds.length = 2
        · obtain ⟨dk, dc, rfl⟩ : ∃ x y, ds = [x, y] := by
            match ds, hl with
            | [x, y], _ => exact ⟨x, y, rfl⟩
          cases hs with
          | @cons vk _ _ _ hk hs =>
            cases hs with
            | @cons vc _ _ _ hc hs =>
              cases hs
              have okk : OkD dk := hz.child (by simp)
              have okc : OkD dc := hz.child (by simp)
              have z : ∀ H', Kp H H' → Q (.bl (PyData.eqv dk (.str "map") && areEntriesD dc)) H' := z
              refine iteT ⟨.ref a, rfl, a, _, 0, _, rfl, rfl, h, atI_nat (j := 0) rfl, dk, .str "map", hk.dp, .str _, okk.shaped, by decide +kernel, _, rfl, ?_⟩
              cases e : PyData.eqv dk (.str "map") with
              | false =>
                rw [e] at z
                exact iteF (z H2 k12)
              | true =>
                rw [e] at z
                exact iteT ⟨.ref a, rfl, a, _, 1, _, rfl, rfl, h, atI_nat (j := 1) rfl, vc, dc, rfl, hc, okc, fun T hm => k12.tab T (hT T hm), fun H3 k3 => z H3 (k12.trans k3)⟩
        · have e : isPairD (.tuple ds) = false := decide_eq_false hl
          have e2 : pairMap (.tuple ds) = false := by
            match ds, hl with
            | [], _ => rfl
            | [_], _ => rfl
            | [_, _], hl => exact absurd rfl hl
            | _ :: _ :: _ :: _, _ => rfl
          have z := z H2 k12
          rw [e2] at z
          rw [e]
          exact iteF z
      | _ => exact iteF (z H2 k12)
end
end Rv

namespace Rv
open PySem PySem.Spec PyProof.Rows L2 GxR Gx Gd
theorem sp_more {K : PySem.W.Frag} {ts ts' : List Addr} {p : PyData → Bool} (h : ∀ T ∈ ts, T ∈ ts') : ∀ (vs : List V) (H : Hp) (Q : VK) (E : XK), spData K ts' p vs H Q E → spData K ts p vs H Q E :=
  fun _ _ _ _ ⟨v, d, e, hd, hz, hT, q⟩ => ⟨v, d, e, hd, hz, fun T hm => hT T (h T hm), q⟩
theorem entry_shape {d : PyData} (h : isEntryD d = true) : ∃ x s, d = .tuple [.str x, s] := by
  unfold isEntryD at h
  split at h
  · rename_i k s
    rw [Bool.and_eq_true] at h
    have h1 := h.1
    cases k with
    | str x => exact ⟨x, s, rfl⟩
    | _ => cases h1
  · cases h
section
variable {P : Program} {w : World} {K : PySem.W.Frag} {mg : Str → Option Value} {base : Heap}
theorem c_are_entries {T : Addr} {ts : List Addr} (D : DefTab K mg base "_are_entries" s_are_entries ["thing"] T) (gM : ∃ t, mg "MAP_SIZE" = some (.int 8 t)) (m_isinstance : mg "isinstance" = none) (m_tuple : mg "tuple" = none) (m_len : mg "len" = none) (m_all : mg "all" = none)
    (c__is_entry : Cal P w K mg base CX0 5 "_is_entry" ["thing"] (spData K ts isEntryD)) (hTs : T ∈ ts) : Cal P w K mg base CX0 7 "_are_entries" ["thing"] (spData K ts areEntriesD) := by
  refine D.cal (k := 6) sc_are_entries (fun vs H Q E h => ?_) fun f c A outer s H vs Q E TB hr h => ?_
  · obtain ⟨v, s, rfl, _⟩ := h
    rfl
  · obtain ⟨v, d, rfl, hd, hz, hT, q⟩ := h
    obtain ⟨t, g_MAP_SIZE⟩ := gM
    refine ⟨_, (pss_cons (ps_if (PW.pt (pw_or (pt_not (pt_val (pe_callB call_isi (by rfl) m_isinstance (by decide +kernel) (pa_cons (pv 0) (pa_cons (pe_bltn (v := .ty "tuple") (by rfl) m_tuple (by decide +kernel) rfl) pa_nil))))) (pw_or1 (pt_cmpR op_gt (pe_callB call_len_seq (by rfl) m_len (by decide +kernel) (pa_cons (pv 0) pa_nil)) (pe_glob (v := .int 8) rfl g_MAP_SIZE ⟨_, rfl⟩) (nomark _))))) (pss_one (ps_ret pe_bl)) pss_nil)
  (pss_cons (ps_if (pt_not (pt_val (pe_allG hr.r (by rfl) m_all TB rfl (genS_by (by decide +kernel)) Caps.nil (pi_tup (pv 0)) rfl (fun _ _ _ _ _ _ => pg_name (i := 0) (nd1 _) rfl (Or.inl rfl)) (fun _ _ _ _ _ _ rk => (pe_cal (c__is_entry.mono (by decide)) (RoomG.mk rk hr.g) (by rfl) (pa_cons (pv 0) pa_nil)))))) (pss_one (ps_ret pe_bl)) pss_nil)
  (pss_one (ps_ret (pe_cmpR op_eq (pe_callB call_lenK (by rfl) m_len (by decide +kernel) (pa_cons (pe_scK rfl sc_are_entries.nd (pi_tup (pv 0)) (blkOk_by (own := [("entry", 1)]) (N := ["thing", "entry"]) (sc := defScope s_are_entries) (by decide +kernel)) (fun _ _ _ _ _ => (pg_name (i := 1) sc_are_entries.nd rfl (Or.inl rfl))) (fun _ _ _ _ _ => pts_nil) (fun _ _ _ _ _ => (pe_ix (ix_tupK (K := K) rfl) (pv 1) pe_int (fun _ _ => rfl)))) pa_nil)) (pe_callB call_len_seq (by rfl) m_len (by decide +kernel) (pa_cons (pv 0) pa_nil)) (nomark _)))))), ?_⟩
    refine ⟨v, rfl, v, .ty "tuple", _, _, isTupD d, rfl, ClsV.ty "tuple", hd.ty, kit_ty (kit_tup d), _, rfl, ?_⟩
    cases hd with
    | @tup a xs ds h hs =>
      have hlen := hs.length
      refine iteF ⟨.ref a, rfl, a, xs, rfl, .inr h, (xs.length : Int), 8, rfl, rfl, _, rfl, ?_⟩
      by_cases h8 : ds.length ≤ 8
      · have e8 : decide ((8 : Int) < (xs.length : Int)) = false := decide_eq_false (by omega)
        rw [e8]
        refine iteF ?_
        have z : ∀ (b : Bool) H', (ds.all isEntryD && decide ((ds.map keyOfD).Nodup)) = b → Kp H H' → Q (.bl b) H' := fun b H' e k => by
          have z := q H' k
          have e1 : areEntriesD (.tuple ds) = (decide (ds.length ≤ 8) && (ds.all isEntryD && decide ((ds.map keyOfD).Nodup))) := rfl
          rw [e1, decide_eq_true h8, Bool.true_and, e] at z
          exact z
        dsimp only [tNext, tSeq, tIfS, tNot, tB]
        refine rd_all_tup (i := 0) (p := isEntryD) rfl (hT T hTs) h hs (fun v' d' H' Q' hm hv k q' => ?_) fun H1 k1 => ⟨ds.all isEntryD, rfl, ?_⟩
        · exact ⟨v', rfl, v', d', rfl, hv, hz.child hm, fun T' hm' => k.tab T' (hT T' hm'), q'⟩
        · cases ea : ds.all isEntryD with
          | false => exact iteT (z false H1 (by rw [ea]; rfl) k1)
          | true =>
            have h1 := k1.sqT Lsts.nil h
            have hs1 := DtAll.kb k1 Lsts.nil hs
            have shape : ∀ d' ∈ ds, ∃ x s, d' = .tuple [.str x, s] := fun d' hm => entry_shape (List.all_eq_true.mp ea d' hm)
            refine iteF ?_
            dsimp only [tNext, tSeq, tIfS, tNot, tB, tRet, tOp, tCB, tCons, tNil]
            refine rd_scK_tup (i := 0) (j := 1) rfl (ks := ds.map keyOfD) h1 (by rw [List.length_map, hlen]) (by rw [hlen]; exact hz.len) (by show 1 < 2; decide) (fun i v' ky H' Q' hv hk k q' => ?_) fun D H2 hD k2 hset => ?_
            · obtain ⟨d', hd', hvd⟩ := hs1.get hv
              obtain ⟨x, s', rfl⟩ := shape d' (List.mem_of_getElem? hd')
              rw [List.getElem?_map, hd'] at hk
              have ek : Sum.inr x = ky := Option.some.inj hk
              subst ek
              have hvd := hvd.kb k Lsts.nil
              cases hvd with
              | @tup b ys _ hb hys =>
                cases hys with
                | cons hx hys =>
                  cases hx
                  exact ⟨.ref b, rfl, b, _, 0, _, rfl, rfl, hb, atI_nat (j := 0) rfl, q'⟩
            · have k12 := k1.trans k2
              refine ⟨D, _, _, rfl, hset, .ref a, rfl, a, xs, rfl, .inr (k2.sqT Lsts.nil h1), rfl, ?_⟩
              refine z _ H2 ?_ k12
              rw [ea, Bool.true_and, Bool.eq_iff_iff, decide_eq_true_eq, decide_eq_true_eq]
              have hall := keysOf_all (ds.map keyOfD)
              rw [List.length_map] at hall
              constructor
              · intro n
                rw [hall.mpr n, hlen]
              · intro e
                have e := V.int.inj e
                exact hall.mp (by omega)
      · have e8 : decide ((8 : Int) < (xs.length : Int)) = true := decide_eq_true (by omega)
        rw [e8]
        refine iteT ?_
        have z := q H (Kb.refl H)
        have e1 : areEntriesD (.tuple ds) = (decide (ds.length ≤ 8) && (ds.all isEntryD && decide ((ds.map keyOfD).Nodup))) := rfl
        rw [e1, decide_eq_false h8] at z
        exact z
    | _ => exact iteT (q H (Kb.refl H))
end
end Rv

namespace Rv
open PySem PySem.Spec PyProof.Rows L2 GxR Gx Gd
/-! ### the law's draws -/
abbrev s_law_cell : Stmt := topS 22
theorem sc_law_cell : FnScope ["script", "k"] ["script", "k"] (defScope s_law_cell) := ⟨rfl, rfl, rfl, by decide +kernel, rfl, by decide +kernel, by decide +kernel⟩
abbrev s_law_draw : Stmt := topS 26
theorem sc_law_draw : FnScope ["box", "many", "at"] ["box", "many"] (defScope s_law_draw) := ⟨rfl, rfl, rfl, by decide +kernel, rfl, by decide +kernel, by decide +kernel⟩
abbrev s_law_chars : Stmt := topS 27
theorem sc_law_chars : FnScope [] [] (defScope s_law_chars) := ⟨rfl, rfl, rfl, by decide +kernel, rfl, by decide +kernel, by decide +kernel⟩
abbrev s_law_string : Stmt := topS 28
theorem sc_law_string : FnScope ["box", "most", "signs", "size", "k"] ["box", "most"] (defScope s_law_string) := ⟨rfl, rfl, rfl, by decide +kernel, rfl, by decide +kernel, by decide +kernel⟩
def Box (bx d : Addr) (H : Hp) : Prop := ∃ (xs : List V) (at' : Int), H bx = some (.lst [.ref d, .int at']) ∧ 0 ≤ at' ∧ H d = some (.lst xs) ∧ ∀ v ∈ xs, ∃ i, v = .int i
theorem Box.ne {bx d : Addr} {H : Hp} (h : Box bx d H) : d ≠ bx := fun e => by
  obtain ⟨xs, a, h1, h2, h3, h4⟩ := h
  rw [e, h1] at h3
  cases h3
  obtain ⟨i, e⟩ := h4 _ List.mem_cons_self
  cases e
theorem Box.lsts {bx d : Addr} {H : Hp} (h : Box bx d H) : Lsts [bx] H := fun b hb => by
  obtain ⟨xs, a, h1, _⟩ := h
  cases hb with
  | head => exact ⟨_, h1⟩
  | tail _ h => cases h
theorem Box.kb {S : List Addr} {bx d : Addr} {H H' : Hp} (h : Box bx d H) (k : Kb S H H') (n1 : bx ∉ S) (n2 : d ∉ S) : Box bx d H' := by
  obtain ⟨xs, a, h1, h2, h3, h4⟩ := h
  exact ⟨xs, a, k.keep bx _ h1 n1 nt_lst, h2, k.keep d _ h3 n2 nt_lst, h4⟩
theorem Box.kp {bx d : Addr} {H H' : Hp} (h : Box bx d H) (k : Kp H H') : Box bx d H' := h.kb k (by simp) (by simp)
theorem Box.upd {bx d D : Addr} {H : Hp} {o : HO} (h : Box bx d H) (n1 : D ≠ bx) (n2 : D ≠ d) : Box bx d (upd H D o) := by
  obtain ⟨xs, a, h1, h2, h3, h4⟩ := h
  exact ⟨xs, a, by rw [upd_ne n1.symm]; exact h1, h2, by rw [upd_ne n2.symm]; exact h3, h4⟩
theorem Box.new {bx d D : Addr} {H : Hp} (h : Box bx d H) (n : H D = none) : D ≠ bx ∧ D ≠ d := by
  obtain ⟨xs, a, h1, h2, h3, h4⟩ := h
  exact ⟨(ne_of_none h1 n).symm, (ne_of_none h3 n).symm⟩
/-- after some draws -/
def Aft (bx d : Addr) (H H' : Hp) : Prop := Kb [bx] H H' ∧ Box bx d H'
theorem Aft.trans {bx d : Addr} {H H1 H2 : Hp} (a : Aft bx d H H1) (b : Aft bx d H1 H2) : Aft bx d H H2 := ⟨a.1.trans b.1, b.2⟩
theorem Aft.of {bx d : Addr} {H H' : Hp} (b : Box bx d H) (k : Kp H H') : Aft bx d H H' := ⟨Kb.of k, b.kp k⟩
theorem Aft.refl {bx d : Addr} {H : Hp} (b : Box bx d H) : Aft bx d H H := ⟨Kb.refl H, b⟩
theorem Aft.new {bx d D : Addr} {H : Hp} {o : HO} (b : Box bx d H) (n : H D = none) : Aft bx d H (upd H D o) := Aft.of b (Kb.new n)
theorem Aft.mut {bx d D : Addr} {H H' : Hp} {o u : HO} (k : Aft bx d H H') (n : H D = none) (b : Box bx d H) (e : H' D = some u) (t : NoTab u) : Aft bx d H (upd H' D o) :=
  ⟨k.1.mut n (no_tab e t), k.2.upd (b.new n).1 (b.new n).2⟩
theorem Aft.dt {K : PySem.W.Frag} {bx d : Addr} {H H' : Hp} {v : V} {x : PyData} (k : Aft bx d H H') (b : Box bx d H) (h : Dt K H v x) : Dt K H' v x := h.kb k.1 b.lsts
theorem Aft.lst {bx d D : Addr} {H H' : Hp} {xs : List V} (k : Aft bx d H H') (e : H D = some (.lst xs)) (n : D ≠ bx) : H' D = some (.lst xs) := k.1.keep D _ e (by simpa using n) nt_lst
def spDraw : Sp := fun vs H Q _ => ∃ bx d many, vs = [.ref bx, .int many] ∧ 0 < many ∧ Box bx d H ∧ ∀ H' r, Aft bx d H H' → 0 ≤ r → r < many → Q (.int r) H'
def lawChars : Str := Str.ofString " !\"#$&'()*+,-./09:;<=>?@AZ[\\]^_`az{|}~"
def spChars : Sp := fun vs H Q _ => vs = [] ∧ Q (.str lawChars) H
def spCell (K : PySem.W.Frag) : Sp := fun vs H Q _ => ∃ (a : Addr) (ns : List Int) (k : Int), vs = [.ref a, .int k] ∧ 0 ≤ k ∧ SqL K H a (ns.map V.int) ∧ ∀ i, Q (.int i) H
section
variable {P : Program} {w : World} {K : PySem.W.Frag} {mg : Str → Option Value} {base : Heap}
theorem c_law_chars (D : DefAt K mg "_law_chars" s_law_chars []) : Cal P w K mg base CX0 1 "_law_chars" [] spChars := by
  refine D.cal (k := 0) sc_law_chars (fun vs H Q E h => ?_) fun f cdv A outer s H vs Q E hr h => ?_
  · obtain ⟨rfl, _⟩ := h
    rfl
  · obtain ⟨rfl, q⟩ := h
    refine ⟨_, (pss_one (ps_ret pe_str)), ?_⟩
    exact q
theorem c_law_cell (D : DefAt K mg "_law_cell" s_law_cell ["script", "k"]) (m_len : mg "len" = none) : Cal P w K mg base CX0 1 "_law_cell" ["script", "k"] (spCell K) := by
  refine D.cal (k := 0) sc_law_cell (fun vs H Q E h => ?_) fun f cdv A outer s H vs Q E hr h => ?_
  · obtain ⟨a, ns, k, rfl, _⟩ := h
    rfl
  · obtain ⟨a, ns, k, rfl, h0, h, q⟩ := h
    refine ⟨_, (pss_cons (ps_if (pt_cmpR op_lt (pv 1) (pe_callB call_len_seq (by rfl) m_len (by decide +kernel) (pa_cons (pv 0) pa_nil)) (nomark _)) (pss_one (ps_ret (pe_ix ix_list (pv 0) (pv 1) (fun _ _ => rfl)))) pss_nil)
  (pss_one (ps_ret pe_int))), ?_⟩
    refine ⟨_, rfl, _, rfl, a, _, rfl, .inl h, k, _, rfl, rfl, _, rfl, ?_⟩
    by_cases hk : k < ((ns.map V.int).length : Int)
    · rw [decide_eq_true hk]
      obtain ⟨n, rfl⟩ : ∃ n : Nat, k = n := ⟨k.toNat, by omega⟩
      have hn : n < (ns.map V.int).length := by omega
      have e : (ns.map V.int)[n]? = some (.int (ns[n]'(by simpa using hn))) := by simp
      exact iteT ⟨_, rfl, _, rfl, a, _, _, _, rfl, rfl, h, atI_nat e, q _⟩
    · rw [decide_eq_false hk]
      exact iteF (q 0)
theorem c_law_draw (D : DefAt K mg "_law_draw" s_law_draw ["box", "many"]) (m_len : mg "len" = none) (m_int : mg "int" = none) : Cal P w K mg base CX0 1 "_law_draw" ["box", "many"] spDraw := by
  refine D.cal (k := 0) sc_law_draw (fun vs H Q E h => ?_) fun f cdv A outer s H vs Q E hr h => ?_
  · obtain ⟨bx, d, many, rfl, _⟩ := h
    rfl
  · obtain ⟨bx, d, many, rfl, hm, hb, q⟩ := h
    have hne := hb.ne
    obtain ⟨xs, n, h1, h2, h3, h4⟩ := hb
    refine ⟨_, (pss_cons (ps_set (i := 2) sc_law_draw.nd rfl (Or.inl rfl) (pe_ix ix_list (pv 0) pe_int (fun _ _ => rfl)))
  (pss_cons (ps_asg (pe_op op_add (pv 2) pe_int) (pg_sub (pv 0) pe_int set_list))
  (pss_cons (ps_if (pt_cmpR op_lt (pv 2) (pe_callB call_len_seq (by rfl) m_len (by decide +kernel) (pa_cons (pe_ix ix_list (pv 0) pe_int (fun _ _ => rfl)) pa_nil)) (nomark _)) (pss_one (ps_ret (pe_op op_mod (pe_callTy call_int1 (by rfl) m_int (by decide +kernel) (pa_cons (pe_ix ix_list (pe_ix ix_list (pv 0) pe_int (fun _ _ => rfl)) (pv 2) (fun _ _ => rfl)) pa_nil)) (pv 1)))) pss_nil)
  (pss_one (ps_ret (pe_op op_mod (pe_callTy call_int1 (by rfl) m_int (by decide +kernel) (pa_cons (pe_op op_add (pe_op op_mul (pv 2) pe_int) pe_int) pa_nil)) (pv 1))))))), ?_⟩
    refine ⟨.ref bx, rfl, bx, _, 1, _, rfl, rfl, .inl (.inl h1), atI_nat (j := 1) rfl, ?_⟩
    refine ⟨.int n, rfl, n, 1, rfl, rfl, .ref bx, rfl, bx, _, 1, 1, rfl, rfl, h1, rfl, ?_⟩
    have k1 : Aft bx d H (upd H bx (.lst [.ref d, .int (n + 1)])) := ⟨Kb.put (by simp) h1 nt_lst, xs, n + 1, upd_same, by omega, by rw [upd_ne hne]; exact h3, h4⟩
    have e1 : (upd H bx (.lst [.ref d, .int (n + 1)])) bx = some (.lst [.ref d, .int (n + 1)]) := upd_same
    have e2 : (upd H bx (.lst [.ref d, .int (n + 1)])) d = some (.lst xs) := by rw [upd_ne hne]; exact h3
    refine ⟨.int n, rfl, .ref bx, rfl, bx, _, 0, .ref d, rfl, rfl, .inl (.inl e1), atI_nat (j := 0) rfl, d, xs, rfl, .inl (.inl (.inl e2)), n, _, rfl, rfl, _, rfl, ?_⟩
    by_cases hk : n < (xs.length : Int)
    · rw [decide_eq_true hk]
      obtain ⟨j, rfl⟩ : ∃ j : Nat, n = j := ⟨n.toNat, by omega⟩
      have hj : j < xs.length := by omega
      obtain ⟨i, hi⟩ := h4 xs[j] (List.getElem_mem hj)
      have e : xs[j]? = some (.int i) := by rw [List.getElem?_eq_getElem hj, hi]
      exact iteT ⟨.ref bx, rfl, bx, _, 0, .ref d, rfl, rfl, .inl (.inl e1), atI_nat (j := 0) rfl, _, rfl, d, xs, j, .int i, rfl, rfl, .inl (.inl e2), atI_nat e, .inl ⟨i, rfl, _, rfl, i, many, rfl, rfl, hm, q _ _ k1 (Int.emod_nonneg _ (by omega)) (Int.emod_lt_of_pos _ hm)⟩⟩
    · rw [decide_eq_false hk]
      exact iteF ⟨_, rfl, n, 7, rfl, rfl, .inr (by decide), _, _, rfl, rfl, .inl ⟨_, rfl, _, rfl, _, many, rfl, rfl, hm, q _ _ k1 (Int.emod_nonneg _ (by omega)) (Int.emod_lt_of_pos _ hm)⟩⟩
end
end Rv

namespace Rv
open PySem PySem.Spec PyProof.Rows L2 GxR Gx Gd
def spString : Sp := fun vs H Q _ => ∃ bx d, vs = [.ref bx, .int 40] ∧ Box bx d H ∧ ∀ H' x, Aft bx d H H' → x.length ≤ 40 → x.cps.toList.all isChar = true → Q (.str x) H'
def tStr (K : PySem.W.Frag) : TE := tM1 (fun x xs H Q => ∃ a p, ∃ ys : List Str, x = .str a ∧ xs = [.ref p] ∧ (SqL K H p (ys.map V.str) ∨ SqT K H p (ys.map V.str)) ∧ (ys.map (·.length)).sum + ys.length * a.length ≤ 16777216 ∧ Q (.str (Txt.join a ys)) H) (tC (.str (Str.ofString "")))
  (tLc (iRng1 (tCons (tVar 3) tNil)) (gName 4) tYes (tOp rIxS (tVar 2) (tCall spDraw [] E0 (tCons (tVar 0) (tCons (tCB (fun xs H Q => ∃ z, xs = [V.str z] ∧ z.length ≤ sizeLine ∧ Q (.int z.length) H) (tCons (tVar 2) tNil)) tNil)))) [4])
theorem joinL_nil : ∀ l : List (List Nat), TL.joinL [] l = l.flatten
  | [] => rfl
  | [p] => by simp [TL.joinL]
  | p :: q :: r => by
    have := joinL_nil (q :: r)
    show p ++ ([] ++ TL.joinL [] (q :: r)) = _
    rw [this]
    simp
def one (c : Nat) : Str := ⟨#[c]⟩
theorem join_ones (cs : List Nat) : (Txt.join (Str.ofString "") (cs.map one)).cps.toList = cs := by
  have h := TL.tl_join (Str.ofString "") (cs.map one)
  rw [← TL.join_eq] at h
  have e : TL.tl (Str.ofString "") = [] := by decide +kernel
  rw [e, joinL_nil] at h
  refine h.trans ?_
  clear h
  induction cs with
  | nil => rfl
  | cons c cs ih =>
    show [c] ++ _ = c :: cs
    rw [ih]
    rfl
theorem sum_ones (cs : List Nat) : ((cs.map one).map (·.length)).sum = cs.length := by
  induction cs with
  | nil => rfl
  | cons c cs ih =>
    rw [List.map_cons, List.map_cons, List.sum_cons, ih, List.length_cons]
    show 1 + _ = _
    omega
theorem chars_ok : ∀ (i c : Nat), lawChars.cps.toList[i]? = some c → isChar c = true := fun i c h => by
  have e : lawChars.cps.toList.all isChar = true := by decide +kernel
  exact List.all_eq_true.mp e c (List.mem_of_getElem? h)
theorem chars_len : lawChars.length = 38 := by decide +kernel
theorem str_end {K : PySem.W.Frag} {bx d : Addr} {H : Hp} {Q : VK} {sz : Int} (hb : Box bx d H) (h0 : 0 ≤ sz) (h1 : sz ≤ 40) (q : ∀ H' x, Aft bx d H H' → x.length ≤ 40 → x.cps.toList.all isChar = true → Q (.str x) H') :
    tStr K [some (.ref bx), some (.int 40), some (.str lawChars), some (.int sz), none] H Q := by
  refine ⟨⟨_, rfl⟩, .int sz, rfl, sz, rfl, by omega, by omega, fun D hD => ?_⟩
  refine ⟨fun i m H' => ∃ cs : List Nat, cs.length = i ∧ m = sz.toNat - i ∧ i ≤ sz.toNat ∧ cs.all isChar = true ∧ Aft bx d H H' ∧ H' D = some (.lst ((cs.map one).map V.str)), ⟨_, [], rfl, rfl, Nat.zero_le _, rfl, .new hb hD, upd_same⟩, ?_⟩
  rintro i m H' ⟨cs, rfl, rfl, hi, hc, a, e⟩
  by_cases hl : cs.length < sz.toNat
  · refine .inr ⟨hl, fun H'' => ∃ cs' : List Nat, cs'.length = cs.length + 1 ∧ cs'.all isChar = true ∧ Aft bx d H H'' ∧ H'' D = some (.lst ((cs'.map one).map V.str)), fun H'' ⟨cs', e1, e2, e3, e4⟩ => ⟨_, by omega, cs', e1, rfl, hl, e2, e3, e4⟩, ?_⟩
    rintro x Hy ⟨rfl, rfl⟩
    refine ⟨rfl, ?_⟩
    refine iteT (B := ∃ cs' : List Nat, cs'.length = cs.length + 1 ∧ cs'.all isChar = true ∧ Aft bx d H Hy ∧ Hy D = some (.lst ((cs'.map one).map V.str))) ⟨.str lawChars, rfl, .ref bx, rfl, .str lawChars, rfl, lawChars, rfl, by rw [chars_len]; decide, bx, d, _, rfl, by rw [chars_len]; decide, a.2, fun H4 r a4 g l => ?_⟩
    obtain ⟨j, rfl⟩ : ∃ j : Nat, r = j := ⟨r.toNat, by omega⟩
    have hj : j < lawChars.cps.toList.length := by
      have : lawChars.cps.toList.length = lawChars.length := by simp [Str.length]
      omega
    have ec : lawChars.cps.toList[j]? = some (lawChars.cps.toList[j]) := List.getElem?_eq_getElem hj
    have e4 := a4.lst e (hb.new hD).1
    have hc' := chars_ok _ _ ec
    refine ⟨lawChars, j, _, rfl, rfl, by rw [chars_len]; decide, atI_nat ec, _, e4, ?_, cs ++ [lawChars.cps.toList[j]], by simp, by rw [List.all_append, hc, Bool.true_and]; show (_ && _) = true; rw [hc']; rfl, (a.trans a4).mut hD hb e4 nt_lst, ?_⟩
    · rw [List.length_map, List.length_map]
      have : sizeLine = 16777216 := rfl
      omega
    · rw [upd_same, List.map_append, List.map_append]
      rfl
  · refine .inl ⟨by show sz.toNat ≤ _; omega, Str.ofString "", D, cs.map one, rfl, rfl, .inl (.inl (.inl e)), ?_, ?_⟩
    · rw [sum_ones]
      show cs.length + _ * 0 ≤ _
      omega
    · refine q H' _ a ?_ ?_
      · have := congrArg List.length (join_ones cs)
        show (Txt.join _ _).cps.size ≤ 40
        rw [← Array.length_toList, this]
        omega
      · rw [join_ones]
        exact hc
section
variable {P : Program} {w : World} {K : PySem.W.Frag} {mg : Str → Option Value} {base : Heap}
theorem c_law_string (D : DefAt K mg "_law_string" s_law_string ["box", "most"]) (m_len : mg "len" = none) (m_range : mg "range" = none) (c__law_chars : Cal P w K mg base CX0 1 "_law_chars" [] spChars)
    (c__law_draw : Cal P w K mg base CX0 1 "_law_draw" ["box", "many"] spDraw) : Cal P w K mg base CX0 2 "_law_string" ["box", "most"] spString := by
  refine D.cal (k := 1) sc_law_string (fun vs H Q E h => ?_) fun f cdv A outer s H vs Q E hr h => ?_
  · obtain ⟨bx, d, rfl, _⟩ := h
    rfl
  · obtain ⟨bx, d, rfl, hb, q⟩ := h
    refine ⟨_, (pss_cons (ps_set (i := 2) sc_law_string.nd rfl (Or.inr rfl) (pe_cal0 (c__law_chars.mono (by decide)) hr (by rfl)))
  (pss_cons (ps_set (i := 3) sc_law_string.nd rfl (Or.inl rfl) (pe_cal (c__law_draw.mono (by decide)) hr (by rfl) (pa_cons (pv 0) (pa_cons pe_int pa_nil))))
  (pss_cons (ps_if (pt_cmpR op_eq (pe_cal (c__law_draw.mono (by decide)) hr (by rfl) (pa_cons (pv 0) (pa_cons pe_int pa_nil))) pe_int (nomark _)) (pss_one (ps_set (i := 3) sc_law_string.nd rfl (Or.inl rfl) (pe_op op_sub (pv 1) (pe_cal (c__law_draw.mono (by decide)) hr (by rfl) (pa_cons (pv 0) (pa_cons pe_int pa_nil)))))) pss_nil)
  (pss_one (ps_ret (pe_join pe_str (pe_lc rfl sc_law_string.nd (pi_range1 (by rfl) m_range (pa_cons (pv 3) pa_nil)) (blkOk_by (own := [("k", 4)]) (N := ["box", "most", "signs", "size", "k"]) (sc := defScope s_law_string) (by decide +kernel)) (fun _ _ _ _ _ => (pg_name (i := 4) sc_law_string.nd rfl (Or.inl rfl))) (fun _ _ _ _ _ => pts_nil) (fun _ _ _ _ _ => (pe_ix ix_str (pv 2) (pe_cal (c__law_draw.mono (by decide)) hr (by rfl) (pa_cons (pv 0) (pa_cons (pe_callB call_len_str (by rfl) m_len (by decide +kernel) (pa_cons (pv 2) pa_nil)) pa_nil))) (fun _ _ => rfl)))))))))), ?_⟩
    refine ⟨rfl, .ref bx, rfl, bx, d, 5, rfl, by decide, hb, fun H1 r1 a1 g1 l1 => ?_⟩
    refine ⟨.ref bx, rfl, bx, d, 8, rfl, by decide, a1.2, fun H2 r2 a2 _ _ => ⟨rfl, _, rfl, ?_⟩⟩
    have fin := fun (H3 : Hp) (sz : Int) (a3 : Aft bx d H H3) (h0 : 0 ≤ sz) (h1 : sz ≤ 40) => str_end (K := K) (Q := Q) a3.2 h0 h1 fun H' x a h2 h3 => q H' x (a3.trans a) h2 h3
    by_cases h : V.int r2 = V.int 0
    · rw [decide_eq_true h]
      refine iteT ⟨.int 40, rfl, .ref bx, rfl, bx, d, 2, rfl, by decide, a2.2, fun H3 r3 a3 g3 l3 => ⟨40, r3, rfl, rfl, ?_⟩⟩
      exact fin H3 (40 - r3) ((a1.trans a2).trans a3) (by omega) (by omega)
    · rw [decide_eq_false h]
      refine iteF ?_
      exact fin H2 r1 (a1.trans a2) g1 (by omega)
end
end Rv

namespace Rv
open PySem PySem.Spec PyProof.Rows L2 GxR Gx Gd
abbrev s_law_digits : Stmt := topS 25
theorem sc_law_digits : FnScope ["script", "first", "last", "digits", "k", "cell", "turn", "seed"] ["script", "first", "last"] (defScope s_law_digits) := ⟨rfl, rfl, rfl, by decide +kernel, rfl, by decide +kernel, by decide +kernel⟩
def spDigits (K : PySem.W.Frag) : Sp := fun vs H Q _ => ∃ (a : Addr) (ns : List Int), vs = [.ref a, .int 0, .int 30] ∧ SqL K H a (ns.map V.int) ∧ ∀ (d : Addr) (H' : Hp) (xs : List V), H d = none → Kp H H' → H' d = some (.lst xs) → (∀ v ∈ xs, ∃ i, v = .int i) → Q (.ref d) H'
/-- the list at D holds at most n ints, all else stands -/
def Dg (H0 : Hp) (D : Addr) (n : Nat) (H : Hp) : Prop := ∃ xs : List V, xs.length ≤ n ∧ (∀ v ∈ xs, ∃ i, v = .int i) ∧ Kp H0 H ∧ H D = some (.lst xs)
theorem Dg.push {H0 H : Hp} {D : Addr} {n : Nat} {xs : List V} {i : Int} (h0 : H0 D = none) (hl : xs.length ≤ n) (hi : ∀ v ∈ xs, ∃ i, v = .int i) (k : Kp H0 H) (e : H D = some (.lst xs)) : Dg H0 D (n + 1) (upd H D (.lst (xs ++ [.int i]))) :=
  ⟨xs ++ [.int i], by simp; exact hl, fun v hv => by
    rcases List.mem_append.mp hv with h | h
    · exact hi v h
    · exact ⟨i, by simpa using h⟩, k.mut h0 (no_tab e nt_lst), upd_same⟩
theorem Dg.mono {H0 H : Hp} {D : Addr} {n m : Nat} (h : Dg H0 D n H) (l : n ≤ m) : Dg H0 D m H := let ⟨xs, a, r⟩ := h; ⟨xs, Nat.le_trans a l, r⟩
theorem iteC {b : Bool} {A B : Prop} (h1 : A) (h2 : B) : if b = true then A else B := by
  cases b with
  | true => exact iteT h1
  | false => exact iteF h2
theorem cell_pos {R r k l} {b : Bool} {σ : L2.St} {H : Hp} {c : Int} (hs : σ[5]? = some (some (.int c))) (hσ : σ.set 5 (some (.int c)) = σ) (h : ∀ c', R (σ.set 5 (some (.int c'))) H) :
    if b = true then tAsg (tOp (rI0 fun i j => V.int (i - j)) (tC (V.int 1)) (tOp (rI CMul fun i j => V.int (i * j)) (tC (V.int 2)) (tVar 5))) (gName 5) ⟨R, r, k, l⟩ σ H else tNext ⟨R, r, k, l⟩ σ H := by
  cases b with
  | true => exact iteT ⟨_, hs, 2, c, rfl, rfl, .inl (by decide), 1, _, rfl, rfl, h _⟩
  | false =>
    refine iteF ?_
    have z := h c
    rw [hσ] at z
    exact z
section
variable {P : Program} {w : World} {K : PySem.W.Frag} {mg : Str → Option Value} {base : Heap}
theorem c_law_digits (D : DefAt K mg "_law_digits" s_law_digits ["script", "first", "last"]) (m_range : mg "range" = none) (m_int : mg "int" = none)
    (c__law_cell : Cal P w K mg base CX0 1 "_law_cell" ["script", "k"] (spCell K)) : Cal P w K mg base CX0 2 "_law_digits" ["script", "first", "last"] (spDigits K) := by
  refine D.cal (k := 1) sc_law_digits (fun vs H Q E h => ?_) fun f cdv A outer s H vs Q E hr h => ?_
  · obtain ⟨bx, d, rfl, _⟩ := h
    rfl
  · obtain ⟨a, ns, rfl, ha, q⟩ := h
    refine ⟨_, (pss_cons (ps_set (i := 3) sc_law_digits.nd rfl (Or.inl rfl) (pe_lst pa_nil))
  (pss_cons (ps_for PassesOwn.never rfl (pi_range2 (by rfl) m_range (pa_cons (pv 1) (pa_cons (pv 2) pa_nil))) (pg_name (i := 4) sc_law_digits.nd rfl (Or.inl rfl)) (pss_cons (ps_set (i := 5) sc_law_digits.nd rfl (Or.inl rfl) (pe_cal (c__law_cell.mono (by decide)) hr (by rfl) (pa_cons (pv 0) (pa_cons (pv 4) pa_nil))))
  (pss_cons (ps_if (pt_cmpR op_lt (pv 5) pe_int (nomark _)) (pss_one (ps_set (i := 5) sc_law_digits.nd rfl (Or.inl rfl) (pe_op op_sub pe_int (pe_op op_mul pe_int (pv 5))))) pss_nil)
  (pss_one (ps_if (pt_cmpR op_ge (pv 5) (pe_op op_pow pe_int pe_int) (nomark _)) (pss_one (ps_for PassesOwn.never rfl (pi_range1 (by rfl) m_range (pa_cons pe_int pa_nil)) (pg_name (i := 6) sc_law_digits.nd rfl (Or.inl rfl)) (pss_one (ps_if (pt_cmpR op_gt (pv 5) pe_int (nomark _)) (pss_cons (ps_expr (pe_bm PySem.F.plainAttrs_list PySem.F.slot_list_append PySem.F.type_list_append mt_append (pv 3) (pa_cons (pe_op op_mod (pe_callTy call_int1 (by rfl) m_int (by decide +kernel) (pa_cons (pv 5) pa_nil)) pe_int) pa_nil)))
  (pss_one (ps_set (i := 5) sc_law_digits.nd rfl (Or.inl rfl) (pe_op op_fdiv (pv 5) pe_int)))) pss_nil)))) (pss_cons (ps_set (i := 7) sc_law_digits.nd rfl (Or.inl rfl) (pe_op op_mod (pe_callTy call_int1 (by rfl) m_int (by decide +kernel) (pa_cons (pe_op op_add (pe_op op_add (pe_op op_mul (pv 5) pe_int) (pe_op op_mul (pv 4) pe_int)) pe_int) pa_nil)) pe_int))
  (pss_one (ps_for PassesOwn.never rfl (pi_range1 (by rfl) m_range (pa_cons pe_int pa_nil)) (pg_name (i := 6) sc_law_digits.nd rfl (Or.inl rfl)) (pss_cons (ps_set (i := 7) sc_law_digits.nd rfl (Or.inl rfl) (pe_op op_mod (pe_callTy call_int1 (by rfl) m_int (by decide +kernel) (pa_cons (pe_op op_add (pe_op op_add (pe_op op_mul (pv 7) pe_int) (pe_op op_mul pe_int (pv 6))) pe_int) pa_nil)) pe_int))
  (pss_one (ps_expr (pe_bm PySem.F.plainAttrs_list PySem.F.slot_list_append PySem.F.type_list_append mt_append (pv 3) (pa_cons (pe_op op_mod (pe_callTy call_int1 (by rfl) m_int (by decide +kernel) (pa_cons (pe_op op_fdiv (pv 7) pe_int) pa_nil)) pe_int) pa_nil)))))))))))))
  (pss_one (ps_ret (pv 3))))), ?_⟩
    refine ⟨Nat.zero_le _, fun D hD => ⟨.int 0, rfl, .int 30, rfl, 0, 30, rfl, by decide, ?_⟩⟩
    refine ⟨fun i m σ H' => m = 30 - i ∧ i ≤ 30 ∧ (∃ o1 o2 o3 o4, σ = [some (.ref a), some (.int 0), some (.int 30), some (.ref D), o1, o2, o3, o4]) ∧ Dg H D (60 * i) H', ⟨_, rfl, Nat.zero_le _, ⟨none, none, none, none, rfl⟩, [], Nat.le_refl _, (fun _ h => by cases h), Kb.new hD, upd_same⟩, ?_⟩
    rintro i m σ H1 ⟨rfl, hi, ⟨o1, o2, o3, o4, rfl⟩, g⟩
    by_cases hl : i < 30
    · refine .inr ⟨hl, fun σ' H' => (∃ o1 o2 o3 o4, σ' = [some (.ref a), some (.int 0), some (.int 30), some (.ref D), o1, o2, o3, o4]) ∧ Dg H D (60 * (i + 1)) H', fun σ' H' ⟨e1, e2⟩ => ⟨_, by omega, rfl, hl, e1, e2⟩, ?_⟩
      rintro x H2 ⟨rfl, rfl⟩
      have hsq : SqL K H2 a (ns.map V.int) := by
        obtain ⟨xs, _, _, k, e⟩ := g
        rcases ha with (ha | ⟨o, ha⟩) | ha
        · exact .inl (.inl (k.keep a _ ha (by simp) nt_lst))
        · exact .inl (.inr ⟨o, k.keep a _ ha (by simp) nt_frz⟩)
        · exact .inr ha
      refine ⟨.ref a, rfl, .int (0 + i), rfl, a, ns, _, rfl, by omega, hsq, fun c => ?_⟩
      refine ⟨_, rfl, c, 0, rfl, rfl, ?_⟩
      refine ⟨_, rfl, cell_pos rfl rfl fun c => ?_⟩
      refine ⟨_, rfl, 10, 18, rfl, rfl, ⟨by decide, by decide, by decide⟩, c, 10 ^ 18, rfl, rfl, ?_⟩
      refine ⟨_, rfl, ?_⟩
      refine iteC ?_ ?_
      · refine ⟨60, rfl, by decide, by decide, ?_⟩
        refine ⟨fun j m σ H' => m = 60 - j ∧ j ≤ 60 ∧ (∃ o1 c o3 o4, σ = [some (.ref a), some (.int 0), some (.int 30), some (.ref D), o1, some (.int c), o3, o4]) ∧ Dg H D (60 * i + j) H', ⟨_, rfl, Nat.zero_le _, ⟨_, _, _, _, rfl⟩, g⟩, ?_⟩
        rintro j m σ H3 ⟨rfl, hj, ⟨o1, c, o3, o4, rfl⟩, g⟩
        by_cases hl : j < 60
        · refine .inr ⟨hl, fun σ' H' => (∃ o1 c o3 o4, σ' = [some (.ref a), some (.int 0), some (.int 30), some (.ref D), o1, some (.int c), o3, o4]) ∧ Dg H D (60 * i + (j + 1)) H', fun σ' H' ⟨e1, e2⟩ => ⟨_, by omega, rfl, hl, e1, e2⟩, ?_⟩
          rintro x H4 ⟨rfl, rfl⟩
          refine ⟨_, rfl, c, 0, rfl, rfl, _, rfl, ?_⟩
          refine iteC ?_ ?_
          · obtain ⟨xs, h1, h2, h3, h4⟩ := g
            refine ⟨.ref D, rfl, .inl ⟨rfl, _, .inl (.inl h4)⟩, _, rfl, .inl ⟨c, rfl, c, 1000, rfl, rfl, by show (0 : Int) < 1000; decide, D, xs, _, rfl, rfl, h4, ?_, ?_⟩⟩
            · have : sizeLine = 16777216 := rfl
              omega
            · exact ⟨_, rfl, c, 1000, rfl, rfl, ⟨by decide, by decide⟩, ⟨_, _, _, _, rfl⟩, Dg.push hD h1 h2 h3 h4⟩
          · exact ⟨⟨_, _, _, _, rfl⟩, g.mono (by omega)⟩
        · exact .inl ⟨by show 60 ≤ j; omega, ⟨_, _, _, _, rfl⟩, g.mono (by omega)⟩
      · refine ⟨_, rfl, c, 48271, rfl, rfl, .inr (by decide), _, rfl, _, 69621, rfl, rfl, .inr (by decide), _, _, rfl, rfl, _, _, rfl, rfl, .inl ⟨_, rfl, _, 2147483647, rfl, rfl, by show (0 : Int) < 2147483647; decide, ?_⟩⟩
        refine ⟨12, rfl, by decide, by decide, ?_⟩
        refine ⟨fun j m σ H' => m = 12 - j ∧ j ≤ 12 ∧ (∃ o1 o2 o3 c, σ = [some (.ref a), some (.int 0), some (.int 30), some (.ref D), o1, o2, o3, some (.int c)]) ∧ Dg H D (60 * i + j) H', ⟨_, rfl, Nat.zero_le _, ⟨_, _, _, _, rfl⟩, g⟩, ?_⟩
        rintro j m σ H3 ⟨rfl, hj, ⟨o1, o2, o3, c, rfl⟩, g⟩
        by_cases hl : j < 12
        · refine .inr ⟨hl, fun σ' H' => (∃ o1 o2 o3 c, σ' = [some (.ref a), some (.int 0), some (.int 30), some (.ref D), o1, o2, o3, some (.int c)]) ∧ Dg H D (60 * i + (j + 1)) H', fun σ' H' ⟨e1, e2⟩ => ⟨_, by omega, rfl, hl, e1, e2⟩, ?_⟩
          rintro x H4 ⟨rfl, rfl⟩
          refine ⟨_, rfl, c, 16807, rfl, rfl, .inr (by decide), _, rfl, 7, _, rfl, rfl, .inl (by decide), _, _, rfl, rfl, _, _, rfl, rfl, .inl ⟨_, rfl, _, 2147483647, rfl, rfl, by show (0 : Int) < 2147483647; decide, ?_⟩⟩
          obtain ⟨xs, h1, h2, h3, h4⟩ := g
          refine ⟨.ref D, rfl, .inl ⟨rfl, _, .inl (.inl h4)⟩, _, rfl, _, 997, rfl, rfl, ⟨by decide, by decide⟩, .inl ⟨_, rfl, _, 1000, rfl, rfl, by show (0 : Int) < 1000; decide, D, xs, _, rfl, rfl, h4, ?_, ?_⟩⟩
          · have : sizeLine = 16777216 := rfl
            omega
          · exact ⟨⟨_, _, _, _, rfl⟩, Dg.push hD h1 h2 h3 h4⟩
        · exact .inl ⟨by show 12 ≤ j; omega, ⟨_, _, _, _, rfl⟩, g.mono (by omega)⟩
    · obtain ⟨xs, h1, h2, h3, h4⟩ := g
      refine .inl ⟨by show 30 - 0 ≤ _; omega, ?_⟩
      exact ⟨_, rfl, q D H1 xs hD h3 h4 h2⟩
end
end Rv

namespace Rv
open PySem PySem.Spec PyProof.Rows L2 GxR Gx Gd
abbrev s_law_scalar : Stmt := topS 29
theorem sc_law_scalar : FnScope ["box", "kind"] ["box"] (defScope s_law_scalar) := ⟨rfl, rfl, rfl, by decide +kernel, rfl, by decide +kernel, by decide +kernel⟩
abbrev s_law_map : Stmt := topS 30
theorem sc_law_map : FnScope ["box", "entries", "k", "key", "entry"] ["box"] (defScope s_law_map) := ⟨rfl, rfl, rfl, by decide +kernel, rfl, by decide +kernel, by decide +kernel⟩
abbrev s_law_value : Stmt := topS 31
theorem sc_law_value : FnScope ["box"] ["box"] (defScope s_law_value) := ⟨rfl, rfl, rfl, by decide +kernel, rfl, by decide +kernel, by decide +kernel⟩
/-! ### right values -/
def textOk (x : Str) : Prop := x.length ≤ 40 ∧ x.cps.toList.all isChar = true
def Sc.good : Sc → Prop
  | .int i => 0 ≤ i ∧ i ≤ 999999
  | .text x => textOk x
  | _ => True
theorem Sc.good.ok : ∀ {s : Sc}, s.good → s.ok
  | .none, _ => trivial
  | .bool _, _ => trivial
  | .int _, h => h
  | .text _, _ => trivial
theorem str_ok {x : Str} (h : x.cps.toList.all isChar = true) : PyData.strOk x = true := by
  show x.cps.all _ = true
  rw [← Array.all_toList, List.all_eq_true]
  intro c hc
  have h1 := List.all_eq_true.mp h c hc
  unfold isChar inRg at h1
  rw [Bool.and_eq_true, Bool.and_eq_true, decide_eq_true_eq, decide_eq_true_eq] at h1
  rw [decide_eq_true_eq]
  omega
theorem okN_str' {n : Nat} {x : Str} (h1 : x.length ≤ 1000) (h2 : PyData.strOk x = true) : okN n (.str x) = true := by
  have e : (decide (x.length ≤ 1000) && PyData.strOk x) = true := by rw [decide_eq_true h1, h2]; rfl
  cases n <;> exact e
theorem okN_tup' {n : Nat} {ds : List PyData} (h1 : ds.length ≤ 1000) (h2 : ∀ d ∈ ds, okN n d = true) : okN (n + 1) (.tuple ds) = true := by
  show (decide _ && _) = true
  rw [decide_eq_true h1, List.all_eq_true.mpr h2]
  rfl
theorem good_okN : ∀ {s : Sc}, s.good → okN 1 s.d = true
  | .none, _ => by decide +kernel
  | .bool b, _ => by cases b <;> decide +kernel
  | .int i, h => okN_tup' (by simp) fun d hd => by
    rcases List.mem_cons.mp hd with rfl | hd
    · decide +kernel
    · rw [List.mem_singleton.mp hd]
      exact decide_eq_true (log_of h)
  | .text x, h => okN_tup' (by simp) fun d hd => by
    rcases List.mem_cons.mp hd with rfl | hd
    · decide +kernel
    · rw [List.mem_singleton.mp hd]
      have := h.1
      exact okN_str' (by omega) (str_ok h.2)
theorem text_is {x : Str} {a b : Int} (h1 : a ≤ (x.length : Int)) (h2 : (x.length : Int) ≤ b) (h : x.cps.toList.all isChar = true) : isTextD a b (.str x) = true := by
  show (decide _ && decide _ && _) = true
  rw [decide_eq_true h1, decide_eq_true h2, h]
  rfl
theorem scal_bool (c : PyData) : scalOf (.str "bool") c = isBoolD c := by
  unfold scalOf
  rw [if_pos (by decide +kernel)]
theorem scal_int (c : PyData) : scalOf (.str "int") c = isIntegerD c := by
  unfold scalOf
  rw [if_neg (by decide +kernel), if_pos (by decide +kernel)]
theorem scal_text (c : PyData) : scalOf (.str "text") c = isTextD 0 40 c := by
  unfold scalOf
  rw [if_neg (by decide +kernel), if_neg (by decide +kernel), show PyData.eqv (.str "text") (.str "text") = true by decide +kernel, Bool.true_and]
theorem scal_pair {k c : PyData} (h : scalOf k c = true) : isScalarD (.tuple [k, c]) = true := by
  show (_ || scalOf k c) = true
  rw [h, Bool.or_true]
theorem good_scalar : ∀ {s : Sc}, s.good → isScalarD s.d = true
  | .none, _ => by decide +kernel
  | .bool b, _ => scal_pair ((scal_bool _).trans rfl)
  | .int i, h => scal_pair ((scal_int _).trans (by show (decide _ && decide _) = true; rw [decide_eq_true h.1, decide_eq_true h.2]; rfl))
  | .text x, h => scal_pair ((scal_text _).trans (text_is (by omega) (by have := h.1; omega) h.2))
def spScalar (K : PySem.W.Frag) : Sp := fun vs H Q _ => ∃ bx d, vs = [.ref bx] ∧ Box bx d H ∧ ∀ H' v (s : Sc), Aft bx d H H' → Dt K H' v s.d → s.good → Q v H'
theorem mul_small {a b : Int} (h1 : 0 ≤ a) (h2 : a < 1000) (h3 : 0 ≤ b) (h4 : b < 1000) : 0 ≤ a * b ∧ a * b ≤ 999999 := by
  constructor
  · exact Int.mul_nonneg h1 h3
  · have := Int.mul_le_mul (show a ≤ 999 by omega) (show b ≤ 999 by omega) h3 (by omega)
    omega
section
variable {P : Program} {w : World} {K : PySem.W.Frag} {mg : Str → Option Value} {base : Heap}
theorem c_law_scalar (D : DefAt K mg "_law_scalar" s_law_scalar ["box"]) (c__law_draw : Cal P w K mg base CX0 1 "_law_draw" ["box", "many"] spDraw) (c__law_string : Cal P w K mg base CX0 2 "_law_string" ["box", "most"] spString) :
    Cal P w K mg base CX0 3 "_law_scalar" ["box"] (spScalar K) := by
  refine D.cal (k := 2) sc_law_scalar (fun vs H Q E h => ?_) fun f cdv A outer s H vs Q E hr h => ?_
  · obtain ⟨bx, d, rfl, _⟩ := h
    rfl
  · obtain ⟨bx, d, rfl, hb, q⟩ := h
    refine ⟨_, (pss_cons (ps_set (i := 1) sc_law_scalar.nd rfl (Or.inl rfl) (pe_cal (c__law_draw.mono (by decide)) hr (by rfl) (pa_cons (pv 0) (pa_cons pe_int pa_nil))))
  (pss_cons (ps_if (pt_cmpR op_eq (pv 1) pe_int (nomark _)) (pss_one (ps_ret (pe_tup (pa_cons pe_str pa_nil)))) pss_nil)
  (pss_cons (ps_if (pt_cmpR op_eq (pv 1) pe_int (nomark _)) (pss_one (ps_ret (pe_tup (pa_cons pe_str (pa_cons (pe_cmpR op_eq (pe_cal (c__law_draw.mono (by decide)) hr (by rfl) (pa_cons (pv 0) (pa_cons pe_int pa_nil))) pe_int (nomark _)) pa_nil))))) pss_nil)
  (pss_cons (ps_if (pt_cmpR op_lt (pv 1) pe_int (nomark _)) (pss_one (ps_ret (pe_tup (pa_cons pe_str (pa_cons (pe_ix ix_list (pe_lst (pa_cons (pe_cal (c__law_draw.mono (by decide)) hr (by rfl) (pa_cons (pv 0) (pa_cons pe_int pa_nil))) (pa_cons (pe_op op_mul (pe_cal (c__law_draw.mono (by decide)) hr (by rfl) (pa_cons (pv 0) (pa_cons pe_int pa_nil))) (pe_cal (c__law_draw.mono (by decide)) hr (by rfl) (pa_cons (pv 0) (pa_cons pe_int pa_nil)))) (pa_cons (pe_op op_sub pe_int (pe_cal (c__law_draw.mono (by decide)) hr (by rfl) (pa_cons (pv 0) (pa_cons pe_int pa_nil)))) pa_nil)))) (pe_cal (c__law_draw.mono (by decide)) hr (by rfl) (pa_cons (pv 0) (pa_cons pe_int pa_nil))) (fun _ _ => rfl)) pa_nil))))) pss_nil)
  (pss_one (ps_ret (pe_tup (pa_cons pe_str (pa_cons (pe_cal (c__law_string.mono (by decide)) hr (by rfl) (pa_cons (pv 0) (pa_cons pe_int pa_nil))) pa_nil))))))))), ?_⟩
    have sz : ∀ n : Nat, n ≤ 8 → n ≤ sizeLine := fun n h => Nat.le_trans h (by decide)
    have fin : ∀ (H' : Hp) (vs : List V) (s : Sc) (ds : List PyData), s.d = .tuple ds → Aft bx d H H' → DtAll K H' vs ds → s.good → ∀ p, H' p = none → Q (.ref p) (upd H' p (.tup vs)) := fun H' vs s ds e a h g p hp => by
      have a2 := a.trans (Aft.new (o := .tup vs) a.2 hp)
      refine q _ _ s a2 ?_ g
      rw [e]
      exact .tup (SqT.of upd_same) (DtAll.kb (Kb.new (S := []) hp) Lsts.nil h)
    refine ⟨.ref bx, rfl, bx, d, 6, rfl, by decide, hb, fun H1 r1 a1 g1 l1 => ?_⟩
    refine ⟨_, rfl, rfl, _, rfl, ?_⟩
    refine iteC ⟨sz _ (by simp), fin _ _ .none _ rfl a1 (.cons (.str _) .nil) trivial⟩ ?_
    refine ⟨_, rfl, rfl, _, rfl, ?_⟩
    refine iteC ⟨.ref bx, rfl, bx, d, 2, rfl, by decide, a1.2, fun H2 r2 a2 g2 l2 => ⟨rfl, sz _ (by simp), fin _ _ (.bool _) _ rfl (a1.trans a2) (.cons (.str _) (.cons (.bl _) .nil)) trivial⟩⟩ ?_
    refine ⟨_, rfl, _, _, rfl, rfl, _, rfl, ?_⟩
    refine iteC ?_ ⟨.ref bx, rfl, bx, d, rfl, a1.2, fun H2 x a2 h1 h2 => ⟨sz _ (by simp), fin _ _ (.text x) _ rfl (a1.trans a2) (.cons (.str _) (.cons (.str _) .nil)) ⟨h1, h2⟩⟩⟩
    refine ⟨.ref bx, rfl, bx, d, 10, rfl, by decide, a1.2, fun H2 r2 a2 g2 l2 => ?_⟩
    refine ⟨.ref bx, rfl, bx, d, 1000, rfl, by decide, a2.2, fun H3 r3 a3 g3 l3 => ?_⟩
    refine ⟨.ref bx, rfl, bx, d, 1000, rfl, by decide, a3.2, fun H4 r4 a4 g4 l4 => ⟨r3, r4, rfl, rfl, .inl ⟨by omega, by omega⟩, ?_⟩⟩
    refine ⟨.ref bx, rfl, bx, d, 2, rfl, by decide, a4.2, fun H5 r5 a5 g5 l5 => ⟨_, r5, rfl, rfl, sz _ (by simp), fun L hL => ?_⟩⟩
    have aL := Aft.new (o := .lst [.int r2, .int (r3 * r4), .int (999999 - r5)]) a5.2 hL
    refine ⟨.ref bx, rfl, bx, d, 3, rfl, by decide, aL.2, fun H6 r6 a6 g6 l6 => ?_⟩
    have eL := a6.lst upd_same (a5.2.new hL).1
    have all := ((((a1.trans a2).trans a3).trans a4).trans a5).trans (aL.trans a6)
    have m := mul_small g3 l3 g4 l4
    obtain ⟨i, e, h⟩ : ∃ i, atI [V.int r2, .int (r3 * r4), .int (999999 - r5)] r6 = some (.int i) ∧ (0 ≤ i ∧ i ≤ 999999) := by
      obtain h | h | h : r6 = 0 ∨ r6 = 1 ∨ r6 = 2 := by omega
      · subst h
        exact ⟨_, atI_nat (j := 0) rfl, by omega, by omega⟩
      · subst h
        exact ⟨_, atI_nat (j := 1) rfl, m⟩
      · subst h
        exact ⟨_, atI_nat (j := 2) rfl, by omega, by omega⟩
    exact ⟨L, _, r6, _, rfl, rfl, .inl (.inl eL), e, sz _ (by simp), fin _ _ (.int i) _ rfl all (.cons (.str _) (.cons (.int _) .nil)) h⟩
theorem eqStr {x y : Str} : eqV (.str x) (.str y) = true → x = y := fun h => eq_of_beq h
end
/-! ### maps -/
def ent (p : Str × Sc) : PyData := .tuple [.str p.1, p.2.d]
def keyOk (x : Str) : Prop := isKeyD (.str x) = true ∧ okN 1 (.str x) = true
structure Ents (ps : List (Str × Sc)) : Prop where
  len : ps.length ≤ 8
  nd : (ps.map (·.1)).Nodup
  ok : ∀ p ∈ ps, keyOk p.1 ∧ p.2.good
def mapD (ps : List (Str × Sc)) : PyData := .tuple [.str "map", .tuple (ps.map ent)]
theorem Ents.entries {ps : List (Str × Sc)} (h : Ents ps) : areEntriesD (.tuple (ps.map ent)) = true := by
  have e1 : (ps.map ent).length ≤ 8 := by rw [List.length_map]; exact h.len
  have e2 : (ps.map ent).all isEntryD = true := by
    rw [List.all_eq_true]
    intro d hd
    obtain ⟨p, hp, rfl⟩ := List.mem_map.mp hd
    obtain ⟨h1, h2⟩ := h.ok p hp
    show (isKeyD _ && isScalarD _) = true
    rw [h1.1, good_scalar h2]
    rfl
  have e3 : ((ps.map ent).map keyOfD).Nodup := by
    have e : (ps.map ent).map keyOfD = (ps.map (·.1)).map Sum.inr := by
      rw [List.map_map, List.map_map]
      rfl
    rw [e]
    exact List.Pairwise.map _ (fun a b n z => n (Sum.inr.inj z)) h.nd
  show (decide _ && (_ && decide _)) = true
  rw [decide_eq_true e1, e2, decide_eq_true e3]
  rfl
theorem Ents.okN {ps : List (Str × Sc)} (h : Ents ps) : okN 4 (mapD ps) = true := by
  refine okN_tup' (by simp) fun d hd => ?_
  rcases List.mem_cons.mp hd with rfl | hd
  · decide +kernel
  · rw [List.mem_singleton.mp hd]
    refine okN_tup' (by rw [List.length_map]; have := h.len; omega) fun d hd => ?_
    obtain ⟨p, hp, rfl⟩ := List.mem_map.mp hd
    obtain ⟨h1, h2⟩ := h.ok p hp
    refine okN_tup' (by simp) fun d hd => ?_
    rcases List.mem_cons.mp hd with rfl | hd
    · exact h1.2
    · rw [List.mem_singleton.mp hd]
      exact good_okN h2
def spMap (K : PySem.W.Frag) : Sp := fun vs H Q _ => ∃ bx d, vs = [.ref bx] ∧ Box bx d H ∧ ∀ H' v ps, Aft bx d H H' → Dt K H' v (mapD ps) → Ents ps → Q v H'
theorem keyK : ∀ k : Nat, k < 8 → keyOk ((Str.ofString "k") ++ (Str.ofString (toString (0 + (k : Int))))) ∧ (Str.ofString "k").length + (Str.ofString (toString (0 + (k : Int)))).length ≤ sizeLine
  | 0, _ => ⟨⟨by decide +kernel, by decide +kernel⟩, by decide +kernel⟩
  | 1, _ => ⟨⟨by decide +kernel, by decide +kernel⟩, by decide +kernel⟩
  | 2, _ => ⟨⟨by decide +kernel, by decide +kernel⟩, by decide +kernel⟩
  | 3, _ => ⟨⟨by decide +kernel, by decide +kernel⟩, by decide +kernel⟩
  | 4, _ => ⟨⟨by decide +kernel, by decide +kernel⟩, by decide +kernel⟩
  | 5, _ => ⟨⟨by decide +kernel, by decide +kernel⟩, by decide +kernel⟩
  | 6, _ => ⟨⟨by decide +kernel, by decide +kernel⟩, by decide +kernel⟩
  | 7, _ => ⟨⟨by decide +kernel, by decide +kernel⟩, by decide +kernel⟩
  | n + 8, h => by omega
theorem eight {x : Str} (hx : keyOk x) {r : Int} (h0 : 0 ≤ r) (h8 : r < 8) : ∃ y, keyOk y ∧ atI [V.str (Str.ofString "a"), .str (Str.ofString "b"), .str (Str.ofString "c"), .str (Str.ofString "tea"), .str (Str.ofString "x y"), .str x, .str (Str.ofString "\"q\\"), .str (Str.ofString "abcdefghijkl")] r = some (.str y) := by
  obtain h | h | h | h | h | h | h | h : r = 0 ∨ r = 1 ∨ r = 2 ∨ r = 3 ∨ r = 4 ∨ r = 5 ∨ r = 6 ∨ r = 7 := by omega
  · subst h
    exact ⟨_, ⟨by decide +kernel, by decide +kernel⟩, atI_nat (j := 0) rfl⟩
  · subst h
    exact ⟨_, ⟨by decide +kernel, by decide +kernel⟩, atI_nat (j := 1) rfl⟩
  · subst h
    exact ⟨_, ⟨by decide +kernel, by decide +kernel⟩, atI_nat (j := 2) rfl⟩
  · subst h
    exact ⟨_, ⟨by decide +kernel, by decide +kernel⟩, atI_nat (j := 3) rfl⟩
  · subst h
    exact ⟨_, ⟨by decide +kernel, by decide +kernel⟩, atI_nat (j := 4) rfl⟩
  · subst h
    exact ⟨_, hx, atI_nat (j := 5) rfl⟩
  · subst h
    exact ⟨_, ⟨by decide +kernel, by decide +kernel⟩, atI_nat (j := 6) rfl⟩
  · subst h
    exact ⟨_, ⟨by decide +kernel, by decide +kernel⟩, atI_nat (j := 7) rfl⟩
/-- the entries so far -/
def Mp (K : PySem.W.Frag) (bx d D : Addr) (H0 : Hp) (n : Nat) (H : Hp) : Prop := ∃ (ps : List (Str × Sc)) (evs : List V), ps.length ≤ n ∧ (ps.map (·.1)).Nodup ∧ (∀ p ∈ ps, keyOk p.1 ∧ p.2.good) ∧ DtAll K H evs (ps.map ent) ∧ H D = some (.lst evs) ∧ Aft bx d H0 H
theorem Mp.mono {K : PySem.W.Frag} {bx d D : Addr} {H0 H : Hp} {n m : Nat} (h : Mp K bx d D H0 n H) (l : n ≤ m) : Mp K bx d D H0 m H := let ⟨ps, evs, a, r⟩ := h; ⟨ps, evs, Nat.le_trans a l, r⟩
theorem DtAll.snoc {K : PySem.W.Frag} {H : Hp} {v : V} {d : PyData} : ∀ {vs : List V} {ds : List PyData}, DtAll K H vs ds → Dt K H v d → DtAll K H (vs ++ [v]) (ds ++ [d])
  | _, _, .nil, h => .cons h .nil
  | _, _, .cons h hs, h2 => .cons h (DtAll.snoc hs h2)
theorem all_flat (l : List Str) : (l.map V.str).all flatV = true := by
  rw [List.all_eq_true]
  intro v hv
  obtain ⟨x, _, rfl⟩ := List.mem_map.mp hv
  rfl
theorem not_inV {x : Str} {l : List Str} (h : inV (.str x) (l.map V.str) = false) : x ∉ l := fun hm => by
  unfold inV at h
  rw [List.any_eq_false] at h
  exact h _ (List.mem_map_of_mem (f := V.str) hm) (beq_self_eq_true x)
section
variable {P : Program} {w : World} {K : PySem.W.Frag} {mg : Str → Option Value} {base : Heap}
theorem c_law_map (D : DefAt K mg "_law_map" s_law_map ["box"]) (m_range : mg "range" = none) (m_int : mg "int" = none) (m_str : mg "str" = none) (m_tuple : mg "tuple" = none) (c__law_draw : Cal P w K mg base CX0 1 "_law_draw" ["box", "many"] spDraw)
    (c__law_scalar : Cal P w K mg base CX0 3 "_law_scalar" ["box"] (spScalar K)) : Cal P w K mg base CX0 4 "_law_map" ["box"] (spMap K) := by
  refine D.cal (k := 3) sc_law_map (fun vs H Q E h => ?_) fun f cdv A outer s H vs Q E hr h => ?_
  · obtain ⟨bx, d, rfl, _⟩ := h
    rfl
  · obtain ⟨bx, d, rfl, hb, q⟩ := h
    refine ⟨_, (pss_cons (ps_set (i := 1) sc_law_map.nd rfl (Or.inl rfl) (pe_lst pa_nil))
  (pss_cons (ps_for PassesOwn.never rfl (pi_range1 (by rfl) m_range (pa_cons (pe_op op_add (pe_cal (c__law_draw.mono (by decide)) hr (by rfl) (pa_cons (pv 0) (pa_cons pe_int pa_nil))) (pe_op op_mul pe_int (pe_callTy call_int1 (by rfl) m_int (by decide +kernel) (pa_cons (pe_cmpR op_eq (pe_cal (c__law_draw.mono (by decide)) hr (by rfl) (pa_cons (pv 0) (pa_cons pe_int pa_nil))) pe_int (nomark _)) pa_nil)))) pa_nil)) (pg_name (i := 2) sc_law_map.nd rfl (Or.inl rfl)) (pss_cons (ps_set (i := 3) sc_law_map.nd rfl (Or.inl rfl) (pe_ix ix_list (pe_lst (pa_cons pe_str (pa_cons pe_str (pa_cons pe_str (pa_cons pe_str (pa_cons pe_str (pa_cons (pe_op op_add_str pe_str (pe_callTy call_str_int (by rfl) m_str (by decide +kernel) (pa_cons (pv 2) pa_nil))) (pa_cons pe_str (pa_cons pe_str pa_nil))))))))) (pe_cal (c__law_draw.mono (by decide)) hr (by rfl) (pa_cons (pv 0) (pa_cons pe_int pa_nil))) (fun _ _ => rfl)))
  (pss_one (ps_if (pt_cmpR op_notIn_seq (pv 3) (pe_lc rfl sc_law_map.nd (pi_list (pv 1)) (blkOk_by (own := [("entry", 4)]) (N := ["box", "entries", "k", "key", "entry"]) (sc := defScope s_law_map) (by decide +kernel)) (fun _ _ _ _ _ => (pg_name (i := 4) sc_law_map.nd rfl (Or.inl rfl))) (fun _ _ _ _ _ => pts_nil) (fun _ _ _ _ _ => (pe_ix (ix_tupK (K := K) rfl) (pv 4) pe_int (fun _ _ => rfl)))) (by rfl)) (pss_one (ps_expr (pe_bm PySem.F.plainAttrs_list PySem.F.slot_list_append PySem.F.type_list_append mt_append (pv 1) (pa_cons (pe_tup (pa_cons (pv 3) (pa_cons (pe_cal (c__law_scalar.mono (by decide)) hr (by rfl) (pa_cons (pv 0) pa_nil)) pa_nil))) pa_nil)))) pss_nil))))
  (pss_one (ps_ret (pe_tup (pa_cons pe_str (pa_cons (pe_callTy call_tuple_of (by rfl) m_tuple (by decide +kernel) (pa_cons (pv 1) pa_nil)) pa_nil))))))), ?_⟩
    refine ⟨Nat.zero_le _, fun D hD => ?_⟩
    have a0 := Aft.new (o := .lst []) hb hD
    refine ⟨.ref bx, rfl, bx, d, 5, rfl, by decide, a0.2, fun H1 r1 a1 g1 l1 => ?_⟩
    refine ⟨.ref bx, rfl, bx, d, 6, rfl, by decide, a1.2, fun H2 r2 a2 g2 l2 => ⟨rfl, .inr ⟨_, rfl, 4, _, rfl, rfl, .inl (by decide), r1, _, rfl, rfl, ?_⟩⟩⟩
    have nb : ∀ b : Bool, 0 ≤ r1 + 4 * (if b = true then (1 : Int) else 0) ∧ r1 + 4 * (if b = true then (1 : Int) else 0) ≤ 8 := by
      intro b
      cases b <;> simp <;> omega
    obtain ⟨N, hN, n0, n8⟩ : ∃ N : Int, r1 + 4 * (if decide (V.int r2 = V.int 0) = true then (1 : Int) else 0) = N ∧ 0 ≤ N ∧ N ≤ 8 := ⟨_, rfl, nb _⟩
    have a12 := (a0.trans a1).trans a2
    have eD := a2.lst (a1.lst upd_same (hb.new hD).1) (hb.new hD).1
    have hDb := (hb.new hD).1
    refine ⟨N, congrArg (fun z => [V.int z]) hN, by omega, by omega, ?_⟩
    refine ⟨fun i m σ H' => m = N.toNat - i ∧ i ≤ N.toNat ∧ (∃ o2 o3 o4, σ = [some (.ref bx), some (.ref D), o2, o3, o4]) ∧ Mp K bx d D H i H', ⟨_, rfl, Nat.zero_le _, ⟨none, none, none, rfl⟩, [], [], Nat.le_refl _, .nil, (fun _ h => by cases h), .nil, eD, a12⟩, ?_⟩
    rintro i m σ H3 ⟨rfl, hi, ⟨o2, o3, o4, rfl⟩, g⟩
    by_cases hl : i < N.toNat
    · refine .inr ⟨hl, fun σ' H' => (∃ o2 o3 o4, σ' = [some (.ref bx), some (.ref D), o2, o3, o4]) ∧ Mp K bx d D H (i + 1) H', fun σ' H' ⟨e1, e2⟩ => ⟨_, by omega, rfl, hl, e1, e2⟩, ?_⟩
      rintro x H4 ⟨rfl, rfl⟩
      obtain ⟨ps, evs, p1, p2, p3, p4, p5, p6⟩ := g
      have hk := keyK i (by omega)
      refine ⟨_, rfl, _, rfl, log_of ⟨by omega, by omega⟩, _, _, rfl, rfl, hk.2, by show 8 ≤ sizeLine; decide, fun L hL => ?_⟩
      have aL := Aft.new (o := .lst [V.str (Str.ofString "a"), .str (Str.ofString "b"), .str (Str.ofString "c"), .str (Str.ofString "tea"), .str (Str.ofString "x y"), .str ((Str.ofString "k") ++ (Str.ofString (toString (0 + (i : Int))))), .str (Str.ofString "\"q\\"), .str (Str.ofString "abcdefghijkl")]) p6.2 hL
      refine ⟨.ref bx, rfl, bx, d, 8, rfl, by decide, aL.2, fun H5 r5 a5 g5 l5 => ?_⟩
      have eL := a5.lst upd_same (p6.2.new hL).1
      obtain ⟨x, hx, ex⟩ := eight hk.1 g5 l5
      refine ⟨L, _, r5, _, rfl, rfl, .inl (.inl eL), ex, ?_⟩
      have a45 := aL.trans a5
      have e5 := a45.lst p5 hDb
      have d5 := DtAll.kb a45.1 p6.2.lsts p4
      have a5' := p6.trans a45
      refine ⟨.str x, rfl, .ref D, rfl, D, rfl, ⟨evs, .inl (.inl e5)⟩, fun L2 hL2 => ?_⟩
      have hlen := d5.length
      rw [List.length_map] at hlen
      refine ⟨fun j m H' => m = ps.length - j ∧ j ≤ ps.length ∧ Kp H5 H' ∧ H' L2 = some (.lst (((ps.take j).map (·.1)).map V.str)), ⟨_, rfl, Nat.zero_le _, Kb.new hL2, upd_same⟩, ?_⟩
      rintro j m H6 ⟨rfl, hj, k6, e6⟩
      have e6D := k6.keep D _ e5 (by simp) nt_lst
      by_cases hl2 : j < ps.length
      · have hj2 : j < evs.length := by omega
        have hv : evs[j]? = some evs[j] := List.getElem?_eq_getElem hj2
        have hp : ps[j]? = some ps[j] := List.getElem?_eq_getElem hl2
        refine .inr ⟨⟨evs, _, .inl (.inl e6D), hv⟩, fun H' => Kp H5 H' ∧ H' L2 = some (.lst (((ps.take (j + 1)).map (·.1)).map V.str)), fun H' ⟨z1, z2⟩ => ⟨_, by omega, rfl, hl2, z1, z2⟩, fun y H7 hy => ?_⟩
        obtain ⟨rfl, hy⟩ := hy
        have ey : evs[j] = y := Option.some.inj (hv.symm.trans (hy evs (.inl (.inl e6D))))
        obtain ⟨dd, hdd, hvd⟩ := (DtAll.kb k6 Lsts.nil d5).get hv
        rw [List.getElem?_map, hp] at hdd
        have edd : ent ps[j] = dd := Option.some.inj hdd
        subst edd
        rw [ey] at hvd
        refine ⟨rfl, iteT (B := Kp H5 H7 ∧ H7 L2 = some (.lst (((ps.take (j + 1)).map (·.1)).map V.str))) ⟨y, rfl, ?_⟩⟩
        cases hvd with
        | @tup b ys _ hb hys =>
          cases hys with
          | cons hx hys =>
            cases hx
            refine ⟨b, _, 0, _, rfl, rfl, hb, atI_nat (j := 0) rfl, _, e6, ?_, k6.mut hL2 (no_tab e6 nt_lst), ?_⟩
            · rw [List.length_map, List.length_map, List.length_take]
              have : sizeLine = 16777216 := rfl
              omega
            · rw [upd_same, List.take_add_one, hp, List.map_append, List.map_append]
              rfl
      · have ej : j = ps.length := by omega
        subst ej
        refine .inl ⟨⟨evs, .inl (.inl e6D), by omega⟩, ?_⟩
        rw [List.take_length] at e6
        refine ⟨L2, _, rfl, .inl (.inl (.inl e6)), rfl, all_flat _, _, rfl, ?_⟩
        have a6 := a5'.trans (Aft.of a5'.2 k6)
        have d6 := DtAll.kb k6 Lsts.nil d5
        cases ein : inV (.str x) ((ps.map (·.1)).map V.str) with
        | true => exact iteF ⟨⟨_, _, _, rfl⟩, ps, evs, by omega, p2, p3, d6, e6D, a6⟩
        | false =>
          have hni := not_inV ein
          refine iteT ⟨.ref D, rfl, .inl ⟨rfl, _, .inl (.inl e6D)⟩, .str x, rfl, .ref bx, rfl, bx, d, rfl, a6.2, fun H7 v s a7 hv gs => ⟨by show 2 ≤ sizeLine; decide, fun p hp => ?_⟩⟩
          have e7 := a7.lst e6D hDb
          have e8 : (upd H7 p (.tup [.str x, v])) D = some (.lst evs) := by rw [upd_ne (ne_of_none e7 hp)]; exact e7
          have d7 := DtAll.kb (Kb.new (S := []) (o := .tup [.str x, v]) hp) Lsts.nil (DtAll.kb a7.1 a6.2.lsts d6)
          have kp : Kp H7 (upd H7 p (.tup [.str x, v])) := Kb.new hp
          have dn : Dt K (upd H7 p (.tup [.str x, v])) (.ref p) (ent (x, s)) := .tup (SqT.of upd_same) (.cons (.str _) (.cons (hv.kb kp Lsts.nil) .nil))
          have a8 := (a6.trans a7).trans (Aft.new (o := .tup [.str x, v]) a7.2 hp)
          have hlz : evs.length < sizeLine := by
            have : sizeLine = 16777216 := rfl
            omega
          refine ⟨D, evs, .ref p, rfl, rfl, e8, hlz, ⟨_, _, _, rfl⟩, ps ++ [(x, s)], evs ++ [.ref p], by simp; omega, ?_, ?_, ?_, upd_same, ?_⟩
          · rw [List.map_append, List.nodup_append]
            refine ⟨p2, by simp, fun a ha b hb => ?_⟩
            rw [List.mem_singleton.mp hb]
            intro z
            have z : a = x := z
            subst z
            exact hni ha
          · intro p' hp'
            rcases List.mem_append.mp hp' with h | h
            · exact p3 _ h
            · rw [List.mem_singleton.mp h]
              exact ⟨hx, gs⟩
          · rw [List.map_append]
            exact DtAll.kb (Kb.put (S := [D]) (o := .lst (evs ++ [.ref p])) (by simp) e8 nt_lst) (fun b hb => by rw [List.mem_singleton.mp hb]; exact ⟨_, e8⟩) (DtAll.snoc d7 dn)
          · exact a8.mut hD hb e8 nt_lst
    · obtain ⟨ps, evs, p1, p2, p3, p4, p5, p6⟩ := g
      refine .inl ⟨by show N.toNat ≤ i; omega, ?_⟩
      refine ⟨_, rfl, D, evs, rfl, .inl ⟨.inl (.inl p5), fun l hl => ⟨by show 2 ≤ sizeLine; decide, fun p hp => ?_⟩⟩⟩
      have k1 : Kp H3 (upd H3 l (.tup evs)) := Kb.new hl
      have k2 : Kp (upd H3 l (.tup evs)) (upd (upd H3 l (.tup evs)) p (.tup [.str (Str.ofString "map"), .ref l])) := Kb.new hp
      have d1 : Dt K (upd H3 l (.tup evs)) (.ref l) (.tuple (ps.map ent)) := .tup (SqT.of upd_same) (DtAll.kb k1 Lsts.nil p4)
      exact q _ _ ps ((p6.trans (Aft.of p6.2 k1)).trans (Aft.of (p6.2.kp k1) k2)) (.tup (SqT.of upd_same) (.cons (.str _) (.cons (d1.kb k2 Lsts.nil) .nil))) ⟨by omega, p2, p3⟩
end
end Rv

namespace Gd
open PySem PySem.Spec PyProof.Rows L2 GxR Gx
def rMulS : R2 := fun x y H Q => ∃ a n, x = .str a ∧ y = .int n ∧ MulOk a n ∧ Q (.str (Txt.mul a n)) H
theorem op_mul_str {X : Cx} : OpR X (binaryOp .Mult) rMulS := by
  intro pins s σ H x y v u Q I rx ry h
  obtain ⟨a, n, rfl, rfl, hok, q⟩ := h
  obtain ⟨t, rfl⟩ := rx
  obtain ⟨t', rfl⟩ := ry
  exact SB.mul hok fun t2 k => ⟨.str _, H, I.tok _, ⟨_, rfl⟩, q⟩
/-! ### displays of data -/
theorem o_asg {te : TE} {i : Nat} {u : TS} {D : Ends} {σ : L2.St} {H : Hp} (h : te σ H fun x H1 => u D (σ.set i (some x)) H1) : tSeq (tAsg te (gName i)) u D σ H := h
def MkD (K : PySem.W.Frag) (te : TE) (σ : L2.St) (d : PyData) : Prop := ∀ (H : Hp) (Q : VK), (∀ v H', Kp H H' → Dt K H' v d → Q v H') → te σ H Q
def MkDs (K : PySem.W.Frag) (ta : TA) (σ : L2.St) (ds : List PyData) : Prop := ∀ (H : Hp) (Q : List V → Hp → Prop), (∀ vs H', Kp H H' → DtAll K H' vs ds → Q vs H') → ta σ H Q
section
variable {K : PySem.W.Frag} {σ : L2.St} {te : TE} {ta : TA} {d : PyData} {ds : List PyData}
theorem mk_non : MkD K (tC .non) σ .none := fun H Q q => q _ H (Kb.refl H) .non
theorem mk_str {x : Str} : MkD K (tC (.str x)) σ (.str x) := fun H Q q => q _ H (Kb.refl H) (.str x)
theorem mk_int {i : Int} : MkD K (tC (.int i)) σ (.int i) := fun H Q q => q _ H (Kb.refl H) (.int i)
theorem mk_bl {b : Bool} : MkD K (tC (.bl b)) σ (.bool b) := fun H Q q => q _ H (Kb.refl H) (.bl b)
theorem mk_neg {i : Int} : MkD K (tUn (rU fun i => .int (-i)) (tC (.int i))) σ (.int (-i)) := fun H Q q => ⟨i, rfl, q _ H (Kb.refl H) (.int (-i))⟩
theorem mk_mul {x : Str} {n : Int} (h : MulOk x n) : MkD K (tOp rMulS (tC (.str x)) (tC (.int n))) σ (.str (Txt.mul x n)) := fun H Q q => ⟨x, n, rfl, rfl, h, q _ H (Kb.refl H) (.str _)⟩
theorem mk_nil : MkDs K tNil σ [] := fun H Q q => q _ H (Kb.refl H) .nil
theorem mk_cons (h : MkD K te σ d) (hs : MkDs K ta σ ds) : MkDs K (tCons te ta) σ (d :: ds) := fun H Q q => h H _ fun v H1 k1 hd => hs H1 _ fun vs H2 k2 hds => q _ H2 (k1.trans k2) (.cons (hd.kb k2 Lsts.nil) hds)
theorem mk_tup (hs : MkDs K ta σ ds) (hl : ds.length ≤ 64) : MkD K (tTup ta) σ (.tuple ds) := fun H Q q => hs H _ fun vs H1 k1 hds => ⟨by rw [hds.length]; exact Nat.le_trans hl (by decide), fun p hp => by
  have k2 : Kp H1 (upd H1 p (.tup vs)) := Kb.new hp
  exact q _ _ (k1.trans k2) (.tup (SqT.of upd_same) (DtAll.kb k2 Lsts.nil hds))⟩
theorem mk_lst {H : Hp} {Q : VK} (hs : MkDs K ta σ ds) (hl : ds.length ≤ 64) (q : ∀ vs p H', Kp H H' → H p = none → H' p = some (.lst vs) → DtAll K H' vs ds → Q (.ref p) H') : tLst ta σ H Q := hs H _ fun vs H1 k1 hds => ⟨by rw [hds.length]; exact Nat.le_trans hl (by decide), fun p hp => by
  have k2 : Kp H1 (upd H1 p (.lst vs)) := Kb.new hp
  exact q _ _ _ (k1.trans k2) (k1.free p hp) upd_same (DtAll.kb k2 Lsts.nil hds)⟩
theorem DtAll.app {H : Hp} : ∀ {vs ws : List V} {ds es : List PyData}, DtAll K H vs ds → DtAll K H ws es → DtAll K H (vs ++ ws) (ds ++ es)
  | _, _, _, _, .nil, h => h
  | _, _, _, _, .cons h hs, h2 => .cons h (DtAll.app hs h2)
end
end Gd
namespace Rv
open PySem PySem.Spec PyProof.Rows L2 GxR Gx Gd
abbrev s_law_wrong : Stmt := topS 32
theorem sc_law_wrong : FnScope ["box", "rows", "k"] ["box"] (defScope s_law_wrong) := ⟨rfl, rfl, rfl, by decide +kernel, rfl, by decide +kernel, by decide +kernel⟩
abbrev s_law_plain : Stmt := topS 33
theorem sc_law_plain : FnScope ["scalar"] ["scalar"] (defScope s_law_plain) := ⟨rfl, rfl, rfl, by decide +kernel, rfl, by decide +kernel, by decide +kernel⟩
abbrev s_law_same : Stmt := topS 24
theorem sc_law_same : FnScope ["actual", "due"] ["actual", "due"] (defScope s_law_same) := ⟨rfl, rfl, rfl, by decide +kernel, rfl, by decide +kernel, by decide +kernel⟩
/-! ### wrong rows -/
def none1 : PyData := .tuple [.str "none"]
def map1 (es : List PyData) : PyData := .tuple [.str "map", .tuple es]
def nineD : List PyData := (List.range 9).map fun k : Nat => .tuple [.str (Str.ofString "k" ++ Str.ofString (toString (0 + (k : Int)))), none1]
def wrong1 : List PyData := [.tuple [.str "int", .int (-1)], .tuple [.str "int", .int 1000000], .tuple [.str "int", .bool true], .tuple [.str "bool", .int 1], .tuple [.str "text", .str (Txt.mul "a" 41)], .tuple [.str "text", .str "a\n"], .tuple [.str "text", .int 5], .tuple [.str "none", .int 0], .tuple [.str "nil"]]
def wrong2 : List PyData := [map1 [.tuple [.str "a", .tuple [.str "int", .int 1]], .tuple [.str "a", .tuple [.str "int", .int 2]]], map1 [.tuple [.str "", none1]], map1 [.tuple [.str "abcdefghijklm", none1]]]
def wrong3 : List PyData := [map1 nineD, map1 [.tuple [.str "a", map1 []]], map1 [.tuple [.str "a"]]]
def wrong4 : List PyData := [.tuple [.str "map", .tuple [.str "a", none1]], .tuple [], .tuple [.str "int"], .int 7, .str "text", .none, .tuple [.str "map"], .tuple [.str "text", .str "\t"]]
def wrongs : List PyData := ((wrong1 ++ wrong2) ++ wrong3) ++ wrong4
theorem wrongs_ok : wrongs.all (fun d => okN 8 d && (!isValueD d && !isScalarD d)) = true := by decide +kernel

/-- a value drawn -/
def GV (dt : PyData) : Prop := (∃ s : Sc, s.good ∧ dt = s.d) ∨ ∃ ps, Ents ps ∧ dt = mapD ps
theorem GV.okd {dt : PyData} (h : GV dt) : OkD dt := by
  rcases h with ⟨s, g, rfl⟩ | ⟨ps, g, rfl⟩
  · exact ⟨1, by decide, good_okN g⟩
  · exact ⟨4, by decide, g.okN⟩
theorem GV.value {dt : PyData} (h : GV dt) : isValueD dt = true := by
  rcases h with ⟨s, g, rfl⟩ | ⟨ps, g, rfl⟩
  · show (_ || _) = true
    rw [good_scalar g, Bool.true_or]
  · show (_ || (PyData.eqv (.str "map") (.str "map") && _)) = true
    rw [g.entries, show PyData.eqv (.str "map") (.str "map") = true by decide +kernel]
    simp
theorem map_noScalar {ps : List (Str × Sc)} : isScalarD (mapD ps) = false := by
  show (PyData.eqv (.tuple [.str "map", .tuple (ps.map ent)]) (.tuple [.str "none"]) || scalOf (.str "map") _) = false
  unfold scalOf
  rw [if_neg (by decide +kernel), if_neg (by decide +kernel)]
  simp only [PyData.eqv, PyData.eqvAll, Bool.and_false, Bool.false_or]
  rw [show ((Str.ofString "map") == (Str.ofString "text")) = false by decide +kernel, Bool.false_and]
def spValue (K : PySem.W.Frag) : Sp := fun vs H Q _ => ∃ bx d, vs = [.ref bx] ∧ Box bx d H ∧ ∀ H' v dt, Aft bx d H H' → Dt K H' v dt → GV dt → Q v H'
def spWrong (K : PySem.W.Frag) : Sp := fun vs H Q _ => ∃ bx d, vs = [.ref bx] ∧ Box bx d H ∧ ∀ H' v dt, Aft bx d H H' → Dt K H' v dt → OkD dt → isValueD dt = false → isScalarD dt = false → Q v H'
section
variable {P : Program} {w : World} {K : PySem.W.Frag} {mg : Str → Option Value} {base : Heap}
theorem c_law_value (D : DefAt K mg "_law_value" s_law_value ["box"]) (c__law_draw : Cal P w K mg base CX0 1 "_law_draw" ["box", "many"] spDraw) (c__law_scalar : Cal P w K mg base CX0 3 "_law_scalar" ["box"] (spScalar K)) (c__law_map : Cal P w K mg base CX0 4 "_law_map" ["box"] (spMap K)) :
    Cal P w K mg base CX0 5 "_law_value" ["box"] (spValue K) := by
  refine D.cal (k := 4) sc_law_value (fun vs H Q E h => ?_) fun f cdv A outer s H vs Q E hr h => ?_
  · obtain ⟨bx, d, rfl, _⟩ := h
    rfl
  · obtain ⟨bx, d, rfl, hb, q⟩ := h
    refine ⟨_, (pss_cons (ps_if (pt_cmpR op_eq (pe_cal (c__law_draw.mono (by decide)) hr (by rfl) (pa_cons (pv 0) (pa_cons pe_int pa_nil))) pe_int (nomark _)) (pss_one (ps_ret (pe_cal (c__law_map.mono (by decide)) hr (by rfl) (pa_cons (pv 0) pa_nil)))) pss_nil)
  (pss_one (ps_ret (pe_cal (c__law_scalar.mono (by decide)) hr (by rfl) (pa_cons (pv 0) pa_nil))))), ?_⟩
    refine ⟨.ref bx, rfl, bx, d, 3, rfl, by decide, hb, fun H1 r1 a1 g1 l1 => ⟨rfl, _, rfl, ?_⟩⟩
    refine iteC ?_ ?_
    · exact ⟨.ref bx, rfl, bx, d, rfl, a1.2, fun H2 v ps a2 hv g => q H2 v _ (a1.trans a2) hv (.inr ⟨ps, g, rfl⟩)⟩
    · exact ⟨.ref bx, rfl, bx, d, rfl, a1.2, fun H2 v s a2 hv g => q H2 v _ (a1.trans a2) hv (.inl ⟨s, g, rfl⟩)⟩
/-- the tuple of nine entries -/
theorem mk_nine {σ : L2.St} (hσ : 2 < σ.length) : MkD K (tCB (fun xs H Q => ∃ p ys, xs = [.ref p] ∧ ((SqL K H p ys ∧ ∀ l, H l = none → Q (.ref l) (upd H l (.tup ys))) ∨ (SqT K H p ys ∧ Q (.ref p) H)))
    (tCons (tLc (iRng1 (tCons (tC (.int 9)) tNil)) (gName 2) tYes (tTup (tCons (tOp (fun x y H Q => ∃ i j, x = .str i ∧ y = .str j ∧ i.length + j.length ≤ sizeLine ∧ Q (.str (i ++ j)) H) (tC (.str (Str.ofString "k")))
      (tCB (fun xs H Q => ∃ i, xs = [.int i] ∧ i.natAbs.log2 < 1920 ∧ Q (.str (Str.ofString (toString i))) H) (tCons (tVar 2) tNil))) (tCons (tTup (tCons (tC (.str (Str.ofString "none"))) tNil)) tNil))) [2]) tNil)) σ (.tuple nineD) := by
  intro H Q q
  refine ⟨9, rfl, by decide, by decide, fun D hD => ?_⟩
  refine ⟨fun i m H' => m = 9 - i ∧ i ≤ 9 ∧ Kp H H' ∧ ∃ vs, H' D = some (.lst vs) ∧ DtAll K H' vs (nineD.take i), ⟨_, rfl, Nat.zero_le _, Kb.new hD, [], upd_same, .nil⟩, ?_⟩
  rintro i m H1 ⟨rfl, hi, k, vs, e, hs⟩
  have hlen := hs.length
  have h9 : nineD.length = 9 := rfl
  by_cases hl : i < 9
  · refine .inr ⟨hl, fun H' => Kp H H' ∧ ∃ vs, H' D = some (.lst vs) ∧ DtAll K H' vs (nineD.take (i + 1)), fun H' ⟨z1, z2⟩ => ⟨_, by omega, rfl, hl, z1, z2⟩, ?_⟩
    rintro x H2 ⟨rfl, rfl⟩
    have hk : ∀ i : Nat, i < 9 → (Str.ofString "k").length + (Str.ofString (toString (0 + (i : Int)))).length ≤ sizeLine := by
      intro i h
      rcases Nat.lt_or_ge i 8 with h | h
      · exact (keyK i h).2
      · obtain rfl : i = 8 := by omega
        decide +kernel
    refine ⟨by show ((σ.set 2 none).set 2 (some _)).set 2 none = σ.set 2 none; rw [List.set_set, List.set_set], iteT (B := Kp H H2 ∧ ∃ vs, H2 D = some (.lst vs) ∧ DtAll K H2 vs (nineD.take (i + 1))) ?_⟩
    refine ⟨.int (0 + i), by show ((σ.set 2 none).set 2 (some _))[2]? = _; rw [List.set_set]; exact List.getElem?_set_self hσ, _, rfl, log_of ⟨by omega, by omega⟩, _, _, rfl, rfl, hk i hl, ?_⟩
    refine ⟨by show 1 ≤ sizeLine; decide, fun p hp => ⟨by show 2 ≤ sizeLine; decide, fun p2 hp2 => ?_⟩⟩
    have k1 : Kp H2 (upd H2 p (.tup [.str (Str.ofString "none")])) := Kb.new hp
    have d1 : Dt K (upd H2 p (.tup [.str (Str.ofString "none")])) (.ref p) none1 := .tup (SqT.of upd_same) (.cons (.str _) .nil)
    have e1 := k1.keep D _ e (by simp) nt_lst
    have hs1 := DtAll.kb k1 Lsts.nil hs
    generalize upd H2 p (.tup [.str (Str.ofString "none")]) = H3 at k1 d1 e1 hs1 hp2 ⊢
    have k2 : Kp H3 (upd H3 p2 (.tup [.str (Str.ofString "k" ++ Str.ofString (toString (0 + (i : Int)))), .ref p])) := Kb.new hp2
    have d2 : Dt K (upd H3 p2 (.tup [.str (Str.ofString "k" ++ Str.ofString (toString (0 + (i : Int)))), .ref p])) (.ref p2) (.tuple [.str (Str.ofString "k" ++ Str.ofString (toString (0 + (i : Int)))), none1]) := .tup (SqT.of upd_same) (.cons (.str _) (.cons (d1.kb k2 Lsts.nil) .nil))
    have e2 := k2.keep D _ e1 (by simp) nt_lst
    have hs2 := DtAll.kb k2 Lsts.nil hs1
    refine ⟨vs, e2, ?_, (((k.trans k1).trans k2).mut hD (no_tab e2 nt_lst)), _, upd_same, ?_⟩
    · rw [hlen, List.length_take]
      have : sizeLine = 16777216 := rfl
      omega
    · have e9 : nineD[i]? = some (.tuple [.str (Str.ofString "k" ++ Str.ofString (toString (0 + (i : Int)))), none1]) := by
        unfold nineD
        rw [List.getElem?_map, List.getElem?_range hl]
        rfl
      rw [List.take_add_one, e9]
      exact DtAll.kb (Kb.put (S := [D]) (by simp) e2 nt_lst) (fun b hb => by rw [List.mem_singleton.mp hb]; exact ⟨_, e2⟩) (DtAll.snoc hs2 d2)
  · obtain rfl : i = 9 := by omega
    refine .inl ⟨Nat.le_refl 9, ?_⟩
    refine ⟨D, vs, rfl, .inl ⟨.inl (.inl e), fun l hl => ?_⟩⟩
    have k1 : Kp H1 (upd H1 l (.tup vs)) := Kb.new hl
    exact q _ _ (k.trans k1) (.tup (SqT.of upd_same) (DtAll.kb k1 Lsts.nil hs))
theorem c_law_wrong (D : DefAt K mg "_law_wrong" s_law_wrong ["box"]) (m_len : mg "len" = none) (m_range : mg "range" = none) (m_str : mg "str" = none) (m_tuple : mg "tuple" = none) (c__law_draw : Cal P w K mg base CX0 1 "_law_draw" ["box", "many"] spDraw) :
    Cal P w K mg base CX0 2 "_law_wrong" ["box"] (spWrong K) := by
  refine D.cal (k := 1) sc_law_wrong (fun vs H Q E h => ?_) fun f cdv A outer s H vs Q E hr h => ?_
  · obtain ⟨bx, d, rfl, _⟩ := h
    rfl
  · obtain ⟨bx, d, rfl, hb, q⟩ := h
    refine ⟨_, (pss_cons (ps_set (i := 1) sc_law_wrong.nd rfl (Or.inl rfl) (pe_lst (pa_cons (pe_tup (pa_cons pe_str (pa_cons (pe_un un_neg pe_int) pa_nil))) (pa_cons (pe_tup (pa_cons pe_str (pa_cons pe_int pa_nil))) (pa_cons (pe_tup (pa_cons pe_str (pa_cons pe_bl pa_nil))) (pa_cons (pe_tup (pa_cons pe_str (pa_cons pe_int pa_nil))) (pa_cons (pe_tup (pa_cons pe_str (pa_cons (pe_op op_mul_str pe_str pe_int) pa_nil))) (pa_cons (pe_tup (pa_cons pe_str (pa_cons pe_str pa_nil))) (pa_cons (pe_tup (pa_cons pe_str (pa_cons pe_int pa_nil))) (pa_cons (pe_tup (pa_cons pe_str (pa_cons pe_int pa_nil))) (pa_cons (pe_tup (pa_cons pe_str pa_nil)) pa_nil)))))))))))
  (pss_cons (ps_set (i := 1) sc_law_wrong.nd rfl (Or.inl rfl) (pe_op op_cat (pv 1) (pe_lst (pa_cons (pe_tup (pa_cons pe_str (pa_cons (pe_tup (pa_cons (pe_tup (pa_cons pe_str (pa_cons (pe_tup (pa_cons pe_str (pa_cons pe_int pa_nil))) pa_nil))) (pa_cons (pe_tup (pa_cons pe_str (pa_cons (pe_tup (pa_cons pe_str (pa_cons pe_int pa_nil))) pa_nil))) pa_nil))) pa_nil))) (pa_cons (pe_tup (pa_cons pe_str (pa_cons (pe_tup (pa_cons (pe_tup (pa_cons pe_str (pa_cons (pe_tup (pa_cons pe_str pa_nil)) pa_nil))) pa_nil)) pa_nil))) (pa_cons (pe_tup (pa_cons pe_str (pa_cons (pe_tup (pa_cons (pe_tup (pa_cons pe_str (pa_cons (pe_tup (pa_cons pe_str pa_nil)) pa_nil))) pa_nil)) pa_nil))) pa_nil))))))
  (pss_cons (ps_set (i := 1) sc_law_wrong.nd rfl (Or.inl rfl) (pe_op op_cat (pv 1) (pe_lst (pa_cons (pe_tup (pa_cons pe_str (pa_cons (pe_callTy call_tuple_of (by rfl) m_tuple (by decide +kernel) (pa_cons (pe_lc rfl sc_law_wrong.nd (pi_range1 (by rfl) m_range (pa_cons pe_int pa_nil)) (blkOk_by (own := [("k", 2)]) (N := ["box", "rows", "k"]) (sc := defScope s_law_wrong) (by decide +kernel)) (fun _ _ _ _ _ => (pg_name (i := 2) sc_law_wrong.nd rfl (Or.inl rfl))) (fun _ _ _ _ _ => pts_nil) (fun _ _ _ _ _ => (pe_tup (pa_cons (pe_op op_add_str pe_str (pe_callTy call_str_int (by rfl) m_str (by decide +kernel) (pa_cons (pv 2) pa_nil))) (pa_cons (pe_tup (pa_cons pe_str pa_nil)) pa_nil))))) pa_nil)) pa_nil))) (pa_cons (pe_tup (pa_cons pe_str (pa_cons (pe_tup (pa_cons (pe_tup (pa_cons pe_str (pa_cons (pe_tup (pa_cons pe_str (pa_cons (pe_tup pa_nil) pa_nil))) pa_nil))) pa_nil)) pa_nil))) (pa_cons (pe_tup (pa_cons pe_str (pa_cons (pe_tup (pa_cons (pe_tup (pa_cons pe_str pa_nil)) pa_nil)) pa_nil))) pa_nil))))))
  (pss_cons (ps_set (i := 1) sc_law_wrong.nd rfl (Or.inl rfl) (pe_op op_cat (pv 1) (pe_lst (pa_cons (pe_tup (pa_cons pe_str (pa_cons (pe_tup (pa_cons pe_str (pa_cons (pe_tup (pa_cons pe_str pa_nil)) pa_nil))) pa_nil))) (pa_cons (pe_tup pa_nil) (pa_cons (pe_tup (pa_cons pe_str pa_nil)) (pa_cons pe_int (pa_cons pe_str (pa_cons pe_non (pa_cons (pe_tup (pa_cons pe_str pa_nil)) (pa_cons (pe_tup (pa_cons pe_str (pa_cons pe_str pa_nil))) pa_nil)))))))))))
  (pss_one (ps_ret (pe_ix ix_list (pv 1) (pe_cal (c__law_draw.mono (by decide)) hr (by rfl) (pa_cons (pv 0) (pa_cons (pe_callB call_len_seq (by rfl) m_len (by decide +kernel) (pa_cons (pv 1) pa_nil)) pa_nil))) (fun _ _ => rfl)))))))), ?_⟩
    refine o_asg (mk_lst (K := K) (ds := wrong1) ?_ (by decide) fun vs1 p1 H1 k1 n1 e1 d1 => ?_)
    · repeat first | exact mk_nil | exact mk_str | exact mk_int | exact mk_bl | exact mk_neg | exact mk_mul ⟨by decide +kernel, fun _ _ => by decide +kernel, fun _ _ => by decide +kernel⟩ | refine mk_cons ?_ ?_ | refine mk_tup ?_ (by decide)
    refine ⟨.ref p1, rfl, mk_lst (K := K) (ds := wrong2) ?_ (by decide) fun vs2 p2 H2 k2 n2 e2 d2 => ?_⟩
    · repeat first | exact mk_nil | exact mk_str | exact mk_int | exact mk_bl | exact mk_neg | exact mk_mul ⟨by decide +kernel, fun _ _ => by decide +kernel, fun _ _ => by decide +kernel⟩ | refine mk_cons ?_ ?_ | refine mk_tup ?_ (by decide)
    have hz : ∀ {n m : Nat}, n ≤ 64 → m ≤ 64 → n + m ≤ sizeLine := fun {n m} a b => by
      have : sizeLine = 16777216 := rfl
      omega
    have l1 : vs1.length = 9 := d1.length
    have l2 : vs2.length = 3 := d2.length
    refine ⟨p1, p2, vs1, vs2, rfl, rfl, k2.keep _ _ e1 (by simp) nt_lst, e2, hz (by omega) (by omega), fun p3 n3 => ?_⟩
    have k3 : Kp H2 (upd H2 p3 (.lst (vs1 ++ vs2))) := Kb.new n3
    have d3 := DtAll.kb k3 Lsts.nil ((DtAll.kb k2 Lsts.nil d1).app d2)
    have e3 : (upd H2 p3 (.lst (vs1 ++ vs2))) p3 = some (.lst (vs1 ++ vs2)) := upd_same
    have k03 := (k1.trans k2).trans k3
    refine ⟨.ref p3, rfl, mk_lst (K := K) (ds := wrong3) ?_ (by decide) fun vs4 p4 H4 k4 n4 e4 d4 => ?_⟩
    · refine mk_cons (mk_tup (mk_cons mk_str (mk_cons (mk_nine ?_) mk_nil)) (by decide)) ?_
      · show 2 < 3
        decide
      · repeat first | exact mk_nil | exact mk_str | exact mk_int | exact mk_bl | exact mk_neg | exact mk_mul ⟨by decide +kernel, fun _ _ => by decide +kernel, fun _ _ => by decide +kernel⟩ | refine mk_cons ?_ ?_ | refine mk_tup ?_ (by decide)
    have l4 : vs4.length = 3 := d4.length
    have l3 : (vs1 ++ vs2).length = 12 := by rw [List.length_append]; omega
    refine ⟨p3, p4, _, vs4, rfl, rfl, k4.keep _ _ e3 (by simp) nt_lst, e4, hz (by omega) (by omega), fun p5 n5 => ?_⟩
    have k5 : Kp H4 (upd H4 p5 (.lst ((vs1 ++ vs2) ++ vs4))) := Kb.new n5
    have d5 := DtAll.kb k5 Lsts.nil ((DtAll.kb k4 Lsts.nil d3).app d4)
    have e5 : (upd H4 p5 (.lst ((vs1 ++ vs2) ++ vs4))) p5 = some (.lst ((vs1 ++ vs2) ++ vs4)) := upd_same
    have k05 := (k03.trans k4).trans k5
    refine ⟨.ref p5, rfl, mk_lst (K := K) (ds := wrong4) ?_ (by decide) fun vs6 p6 H6 k6 n6 e6 d6 => ?_⟩
    · repeat first | exact mk_nil | exact mk_str | exact mk_int | exact mk_bl | exact mk_non | exact mk_neg | exact mk_mul ⟨by decide +kernel, fun _ _ => by decide +kernel, fun _ _ => by decide +kernel⟩ | refine mk_cons ?_ ?_ | refine mk_tup ?_ (by decide)
    have l6 : vs6.length = 8 := d6.length
    have l5 : ((vs1 ++ vs2) ++ vs4).length = 15 := by rw [List.length_append]; omega
    refine ⟨p5, p6, _, vs6, rfl, rfl, k6.keep _ _ e5 (by simp) nt_lst, e6, hz (by omega) (by omega), fun p7 n7 => ?_⟩
    have k7 : Kp H6 (upd H6 p7 (.lst (((vs1 ++ vs2) ++ vs4) ++ vs6))) := Kb.new n7
    have d7 : DtAll K _ _ wrongs := DtAll.kb k7 Lsts.nil ((DtAll.kb k6 Lsts.nil d5).app d6)
    have e7 : (upd H6 p7 (.lst (((vs1 ++ vs2) ++ vs4) ++ vs6))) p7 = some (.lst (((vs1 ++ vs2) ++ vs4) ++ vs6)) := upd_same
    have k07 := (k05.trans k6).trans k7
    have l7 : (((vs1 ++ vs2) ++ vs4) ++ vs6).length = 23 := by rw [List.length_append]; omega
    have a7 := Aft.of hb k07
    have hn7 : p7 ≠ bx := by
      have := (hb.kp ((k05.trans k6))).new n7
      exact this.1
    refine ⟨.ref p7, rfl, .ref bx, rfl, .ref p7, rfl, p7, _, rfl, .inl (.inl (.inl e7)), bx, d, _, rfl, by omega, a7.2, fun H8 r a8 g l => ?_⟩
    have e8 := a8.lst e7 hn7
    have d8 := DtAll.kb a8.1 a7.2.lsts d7
    obtain ⟨j, rfl⟩ : ∃ j : Nat, r = j := ⟨r.toNat, by omega⟩
    have hj : j < (((vs1 ++ vs2) ++ vs4) ++ vs6).length := by omega
    have hv := List.getElem?_eq_getElem hj
    obtain ⟨dt, hdt, hvd⟩ := d8.get hv
    have hok := List.all_eq_true.mp wrongs_ok dt (List.mem_of_getElem? hdt)
    rw [Bool.and_eq_true, Bool.and_eq_true, Bool.not_eq_true', Bool.not_eq_true'] at hok
    exact ⟨p7, _, j, _, rfl, rfl, .inl (.inl e8), atI_nat hv, q H8 _ dt (a7.trans a8) hvd ⟨8, by decide, hok.1⟩ hok.2.1 hok.2.2⟩
end
end Rv

namespace Gd
open PySem PySem.Spec PyProof.Rows L2 GxR Gx
theorem call_reprR {X : Cx} {k : Nat} (hr : RoomG k X.A) : CallR X (.builtin "repr") (rRepr X.K) := call_repr (by have := hr.r.un; omega) hr.g
end Gd
namespace Rv
open PySem PySem.Spec PyProof.Rows L2 GxR Gx Gd
abbrev s_law : Stmt := topS 34
theorem sc_law : FnScope ["script", "box", "turn", "value", "wrong", "name"] ["script"] (defScope s_law) := ⟨rfl, rfl, rfl, by decide +kernel, rfl, by decide +kernel, by decide +kernel⟩
def spPlain2 (K : PySem.W.Frag) : Sp := fun vs H Q _ => ∃ v s, vs = [v] ∧ Dt K H v (Sc.d s) ∧ s.ok ∧ ∀ H', Kp H H' → Q (.str s.plain) H'
def spSame : Sp := fun vs H Q _ => ∃ a, vs = [.bl a, .bl a] ∧ Q (.bl true) H
section
variable {P : Program} {w : World} {K : PySem.W.Frag} {mg : Str → Option Value} {base : Heap}
theorem c_law_same (D : DefAt K mg "_law_same" s_law_same ["actual", "due"]) (m_repr : mg "repr" = none) : Cal P w K mg base CX0 1 "_law_same" ["actual", "due"] spSame := by
  refine D.cal (k := 0) sc_law_same (fun vs H Q E h => ?_) fun f cdv A outer s H vs Q E hr h => ?_
  · obtain ⟨a, rfl, _⟩ := h
    rfl
  · obtain ⟨a, rfl, q⟩ := h
    refine ⟨_, (pss_one (ps_ret (pe_cmpR op_eq (pe_callB (call_reprR hr) (by rfl) m_repr (by decide +kernel) (pa_cons (pv 0) pa_nil)) (pe_callB (call_reprR hr) (by rfl) m_repr (by decide +kernel) (pa_cons (pv 1) pa_nil)) (nomark _)))), ?_⟩
    have sz : (PyData.bool a).shown.length ≤ sizeLine := by cases a <;> decide +kernel
    refine ⟨_, rfl, _, .bool a, rfl, .bl a, by cases a <;> decide +kernel, by cases a <;> decide +kernel, by cases a <;> decide +kernel, sz, ?_⟩
    refine ⟨_, rfl, _, .bool a, rfl, .bl a, by cases a <;> decide +kernel, by cases a <;> decide +kernel, by cases a <;> decide +kernel, sz, ?_⟩
    refine ⟨rfl, ?_⟩
    rw [decide_eq_true rfl]
    exact q
theorem c_law_plain (D : DefAt K mg "_law_plain" s_law_plain ["scalar"]) (m_str : mg "str" = none) (m_int : mg "int" = none) : Cal P w K mg base CX0 1 "_law_plain" ["scalar"] (spPlain2 K) := by
  refine D.cal (k := 0) sc_law_plain (fun vs H Q E h => ?_) fun f cdv A outer s H vs Q E hr h => ?_
  · obtain ⟨v, s, rfl, _⟩ := h
    rfl
  · obtain ⟨v, sc, rfl, hd, ok, q⟩ := h
    have q0 := q H (Kb.refl H)
    refine ⟨_, (pss_cons (ps_if (pt_cmpR op_eq (pe_ix ix_tup (pv 0) pe_int (fun _ _ => rfl)) pe_str (nomark _)) (pss_one (ps_ret pe_str)) pss_nil)
  (pss_cons (ps_if (pt_cmpR op_eq (pe_ix ix_tup (pv 0) pe_int (fun _ _ => rfl)) pe_str (nomark _)) (pss_one (ps_ret (pe_ix ix_list (pe_lst (pa_cons pe_str (pa_cons pe_str pa_nil))) (pe_callTy call_int1 (by rfl) m_int (by decide +kernel) (pa_cons (pe_ix ix_tup (pv 0) pe_int (fun _ _ => rfl)) pa_nil)) (fun _ _ => rfl)))) pss_nil)
  (pss_one (ps_ret (pe_callTy (call_str_int.or SkE.call_str_str) (by rfl) m_str (by decide +kernel) (pa_cons (pe_ix ix_tup (pv 0) pe_int (fun _ _ => rfl)) pa_nil)))))), ?_⟩
    cases sc with
    | none =>
      cases hd with
      | @tup a _ _ h hs =>
        cases hs with
        | cons hk hs =>
          cases hs
          cases hk
          exact ⟨.ref a, rfl, a, _, 0, _, rfl, rfl, h, atI_nat (j := 0) rfl, rfl, _, rfl, iteT q0⟩
    | bool b =>
      cases hd with
      | @tup a _ _ h hs =>
        cases hs with
        | cons hk hs =>
          cases hs with
          | cons hc hs =>
            cases hs
            cases hk
            cases hc
            refine ⟨.ref a, rfl, a, _, 0, _, rfl, rfl, h, atI_nat (j := 0) rfl, rfl, _, rfl, iteF ?_⟩
            refine ⟨.ref a, rfl, a, _, 0, _, rfl, rfl, h, atI_nat (j := 0) rfl, rfl, _, rfl, iteT ?_⟩
            refine ⟨by show 2 ≤ sizeLine; decide, fun p hp => ?_⟩
            have k1 : Kp H (upd H p (.lst [.str (Str.ofString "false"), .str (Str.ofString "true")])) := Kb.new hp
            refine ⟨.ref a, rfl, a, _, 1, _, rfl, rfl, k1.sqT Lsts.nil h, atI_nat (j := 1) rfl, .inr ⟨b, rfl, ?_⟩⟩
            cases b with
            | true => exact ⟨p, _, 1, _, rfl, rfl, .inl (.inl upd_same), atI_nat (j := 1) rfl, q _ k1⟩
            | false => exact ⟨p, _, 0, _, rfl, rfl, .inl (.inl upd_same), atI_nat (j := 0) rfl, q _ k1⟩
    | int i =>
      cases hd with
      | @tup a _ _ h hs =>
        cases hs with
        | cons hk hs =>
          cases hs with
          | cons hc hs =>
            cases hs
            cases hk
            cases hc
            refine ⟨.ref a, rfl, a, _, 0, _, rfl, rfl, h, atI_nat (j := 0) rfl, rfl, _, rfl, iteF ?_⟩
            refine ⟨.ref a, rfl, a, _, 0, _, rfl, rfl, h, atI_nat (j := 0) rfl, rfl, _, rfl, iteF ?_⟩
            exact ⟨.ref a, rfl, a, _, 1, _, rfl, rfl, h, atI_nat (j := 1) rfl, .inl ⟨i, rfl, log_of ok, q0⟩⟩
    | text x =>
      cases hd with
      | @tup a _ _ h hs =>
        cases hs with
        | cons hk hs =>
          cases hs with
          | cons hc hs =>
            cases hs
            cases hk
            cases hc
            refine ⟨.ref a, rfl, a, _, 0, _, rfl, rfl, h, atI_nat (j := 0) rfl, rfl, _, rfl, iteF ?_⟩
            refine ⟨.ref a, rfl, a, _, 0, _, rfl, rfl, h, atI_nat (j := 0) rfl, rfl, _, rfl, iteF ?_⟩
            exact ⟨.ref a, rfl, a, _, 1, _, rfl, rfl, h, atI_nat (j := 1) rfl, .inr ⟨x, rfl, q0⟩⟩
/-- the kind of a value drawn -/
theorem GV.first {H : Hp} {v : V} {dt : PyData} (g : GV dt) (h : Dt K H v dt) : ∃ p xs x, v = .ref p ∧ SqT K H p xs ∧ atI xs 0 = some (.str x) ∧ (isScalarD dt = !decide (V.str x = V.str (Str.ofString "map"))) ∧ (decide (V.str x = V.str (Str.ofString "map")) = false → ∃ s : Sc, s.good ∧ dt = s.d) := by
  rcases g with ⟨s, g, rfl⟩ | ⟨ps, g, rfl⟩
  · have e1 := good_scalar g
    cases s with
    | none =>
      cases h with
      | @tup a _ _ h hs =>
        cases hs with
        | cons hk hs =>
          cases hk
          exact ⟨a, _, _, rfl, h, atI_nat (j := 0) rfl, by rw [e1]; decide +kernel, fun _ => ⟨.none, g, rfl⟩⟩
    | bool b =>
      cases h with
      | @tup a _ _ h hs =>
        cases hs with
        | cons hk hs =>
          cases hk
          exact ⟨a, _, _, rfl, h, atI_nat (j := 0) rfl, by rw [e1]; decide +kernel, fun _ => ⟨.bool b, g, rfl⟩⟩
    | int b =>
      cases h with
      | @tup a _ _ h hs =>
        cases hs with
        | cons hk hs =>
          cases hk
          exact ⟨a, _, _, rfl, h, atI_nat (j := 0) rfl, by rw [e1]; decide +kernel, fun _ => ⟨.int b, g, rfl⟩⟩
    | text b =>
      cases h with
      | @tup a _ _ h hs =>
        cases hs with
        | cons hk hs =>
          cases hk
          exact ⟨a, _, _, rfl, h, atI_nat (j := 0) rfl, by rw [e1]; decide +kernel, fun _ => ⟨.text b, g, rfl⟩⟩
  · cases h with
    | @tup a _ _ h hs =>
      cases hs with
      | cons hk hs =>
        cases hk
        exact ⟨a, _, _, rfl, h, atI_nat (j := 0) rfl, by rw [map_noScalar]; decide +kernel, fun z => absurd z (by decide +kernel)⟩
def nameL : List V := [.str (Str.ofString "a"), .str (Str.ofString "ab9"), .str (Txt.mul (Str.ofString "a") 12), .str (Str.ofString "z0z0")]
theorem ten {r : Int} (h0 : 0 ≤ r) (h8 : r < 10) : ∃ y, atI [V.str (Str.ofString "a"), .str (Str.ofString "ab9"), .str (Txt.mul (Str.ofString "a") 12), .str (Str.ofString "z0z0"), .str (Txt.mul (Str.ofString "a") 13), .str (Str.ofString ""), .str (Str.ofString "9a"), .str (Str.ofString "Ab"), .str (Str.ofString "a_b"), .str (Str.ofString "a b")] r = some (.str y) ∧
    okN 1 (.str y) = true ∧ isName (.str y) = inV (.str y) nameL ∧ isKeyD (.str y) = (decide ((1 : Int) ≤ (y.length : Int)) && decide ((y.length : Int) ≤ 12)) := by
  obtain h | h | h | h | h | h | h | h | h | h : r = 0 ∨ r = 1 ∨ r = 2 ∨ r = 3 ∨ r = 4 ∨ r = 5 ∨ r = 6 ∨ r = 7 ∨ r = 8 ∨ r = 9 := by omega
  · subst h; exact ⟨_, atI_nat (j := 0) rfl, by decide +kernel, by decide +kernel, by decide +kernel⟩
  · subst h; exact ⟨_, atI_nat (j := 1) rfl, by decide +kernel, by decide +kernel, by decide +kernel⟩
  · subst h; exact ⟨_, atI_nat (j := 2) rfl, by decide +kernel, by decide +kernel, by decide +kernel⟩
  · subst h; exact ⟨_, atI_nat (j := 3) rfl, by decide +kernel, by decide +kernel, by decide +kernel⟩
  · subst h; exact ⟨_, atI_nat (j := 4) rfl, by decide +kernel, by decide +kernel, by decide +kernel⟩
  · subst h; exact ⟨_, atI_nat (j := 5) rfl, by decide +kernel, by decide +kernel, by decide +kernel⟩
  · subst h; exact ⟨_, atI_nat (j := 6) rfl, by decide +kernel, by decide +kernel, by decide +kernel⟩
  · subst h; exact ⟨_, atI_nat (j := 7) rfl, by decide +kernel, by decide +kernel, by decide +kernel⟩
  · subst h; exact ⟨_, atI_nat (j := 8) rfl, by decide +kernel, by decide +kernel, by decide +kernel⟩
  · subst h; exact ⟨_, atI_nat (j := 9) rfl, by decide +kernel, by decide +kernel, by decide +kernel⟩
end
end Rv

namespace Rv
open PySem PySem.Spec PyProof.Rows L2 GxR Gx Gd
def spLaw (K : PySem.W.Frag) (ts : List Addr) : Sp := fun vs H Q _ => ∃ (a : Addr) (ns : List Int), vs = [.ref a] ∧ SqL K H a (ns.map V.int) ∧ (∀ T ∈ ts, TabG H T) ∧ ∀ H', Q (.bl true) H'
theorem chain_len {x : Str} {σ : L2.St} {H : Hp} {Q : VK} (hs : σ[5]? = some (some (.str x))) (lx : x.length ≤ sizeLine) (q : Q (.bl (decide ((1 : Int) ≤ (x.length : Int)) && decide ((x.length : Int) ≤ 12))) H) :
    tChain (rI0 fun i j => V.bl (decide (i ≤ j))) (rI0 fun i j => V.bl (decide (i ≤ j))) (tC (.int 1)) (tCB (fun xs H Q => ∃ z, xs = [V.str z] ∧ z.length ≤ sizeLine ∧ Q (V.int z.length) H) (tCons (tVar 5) tNil)) (tC (.int 12)) σ H Q := by
  refine ⟨.str x, hs, x, rfl, lx, 1, _, rfl, rfl, _, rfl, ?_⟩
  by_cases h : (1 : Int) ≤ (x.length : Int)
  · rw [decide_eq_true h] at q ⊢
    exact iteT ⟨_, _, rfl, rfl, q⟩
  · rw [decide_eq_false h] at q ⊢
    exact iteF q
theorem and_no {c : Bool} {u : TT} {σ : L2.St} {H : Hp} {A B : Hp → Prop} (hu : c = true → ∀ R : Bool → Hp → Prop, (∀ H', Kp H H' → R false H') → u σ H R) (hb : ∀ H', Kp H H' → B H') : if c = true then u σ H (fun b H1 => if b = true then A H1 else B H1) else (if false = true then A H else B H) := by
  cases c with
  | true => exact iteT (hu rfl _ fun H' k => iteF (hb H' k))
  | false => exact iteF (iteF (hb H (Kb.refl H)))
section
variable {P : Program} {w : World} {K : PySem.W.Frag} {mg : Str → Option Value} {base : Heap}
theorem ok_law {ts : List Addr} {f : Addr} {fd : FuncData} (F : Fun K "law" "law" s_law f fd) (m_range : mg "range" = none) (m_len : mg "len" = none)
    (c__law_digits : Cal P w K mg base CX0 2 "_law_digits" ["script", "first", "last"] (spDigits K)) (c__law_draw : Cal P w K mg base CX0 1 "_law_draw" ["box", "many"] spDraw) (c__law_value : Cal P w K mg base CX0 5 "_law_value" ["box"] (spValue K))
    (c__law_wrong : Cal P w K mg base CX0 2 "_law_wrong" ["box"] (spWrong K)) (c__law_same : Cal P w K mg base CX0 1 "_law_same" ["actual", "due"] spSame) (c__law_plain : Cal P w K mg base CX0 1 "_law_plain" ["scalar"] (spPlain2 K)) (c_plain : Cal P w K mg base CX0 1 "plain" ["scalar"] (spPlain K))
    (c_is_value : Cal P w K mg base CX0 8 "is_value" ["thing"] (spData K ts isValueD)) (c_is_scalar : Cal P w K mg base CX0 4 "is_scalar" ["thing"] (spData K ts isScalarD)) (c_is_key : Cal P w K mg base CX0 4 "is_key" ["thing"] (spData K ts isKeyD)) (c_is_name : Cal P w K mg base CX0 3 "is_name" ["thing"] (spData K ts isName)) :
    FnG P w K mg base CX0 9 f fd ["script"] (spLaw K ts) := by
  refine okG (k := 8) F sc_law (fun vs H Q E h => ?_) fun cdv A outer s H vs Q E hr h => ?_
  · obtain ⟨a, ns, rfl, _⟩ := h
    rfl
  · obtain ⟨a, ns, rfl, hs, hT, q⟩ := h
    refine ⟨_, (pss_cons (ps_set (i := 1) sc_law.nd rfl (Or.inl rfl) (pe_lst (pa_cons (pe_cal (c__law_digits.mono (by decide)) hr (by rfl) (pa_cons (pv 0) (pa_cons pe_int (pa_cons pe_int pa_nil)))) (pa_cons pe_int pa_nil))))
  (pss_cons (ps_for PassesOwn.never rfl (pi_range1 (by rfl) m_range (pa_cons pe_int pa_nil)) (pg_name (i := 2) sc_law.nd rfl (Or.inl rfl)) (pss_cons (ps_set (i := 3) sc_law.nd rfl (Or.inl rfl) (pe_cal (c__law_value.mono (by decide)) hr (by rfl) (pa_cons (pv 1) pa_nil)))
  (pss_cons (ps_if (PW.pt (pw_or (pt_cmpR op_notBl (pe_cal (c_is_value.mono (by decide)) hr (by rfl) (pa_cons (pv 3) pa_nil)) pe_bl (nomark _)) (pw_or1 (pt_not (pt_val (pe_cal (c__law_same.mono (by decide)) hr (by rfl) (pa_cons (pe_cal (c_is_scalar.mono (by decide)) hr (by rfl) (pa_cons (pv 3) pa_nil)) (pa_cons (pe_cmpR op_ne (pe_ix ix_tup (pv 3) pe_int (fun _ _ => rfl)) pe_str (nomark _)) pa_nil)))))))) (pss_one (ps_ret pe_bl)) pss_nil)
  (pss_cons (ps_if (PW.pt (pw_and (pt_cmpR op_ne (pe_ix ix_tup (pv 3) pe_int (fun _ _ => rfl)) pe_str (nomark _)) (pw_and1 (pt_cmpR op_ne (pe_cal (c_plain.mono (by decide)) hr (by rfl) (pa_cons (pv 3) pa_nil)) (pe_cal (c__law_plain.mono (by decide)) hr (by rfl) (pa_cons (pv 3) pa_nil)) (nomark _))))) (pss_one (ps_ret pe_bl)) pss_nil)
  (pss_cons (ps_set (i := 4) sc_law.nd rfl (Or.inl rfl) (pe_cal (c__law_wrong.mono (by decide)) hr (by rfl) (pa_cons (pv 1) pa_nil)))
  (pss_cons (ps_if (PW.pt (pw_or (pt_cmpR op_notBl (pe_cal (c_is_value.mono (by decide)) hr (by rfl) (pa_cons (pv 4) pa_nil)) pe_bl (nomark _)) (pw_or1 (pt_cmpR op_notBl (pe_cal (c_is_scalar.mono (by decide)) hr (by rfl) (pa_cons (pv 4) pa_nil)) pe_bl (nomark _))))) (pss_one (ps_ret pe_bl)) pss_nil)
  (pss_cons (ps_set (i := 5) sc_law.nd rfl (Or.inl rfl) (pe_ix ix_list (pe_lst (pa_cons pe_str (pa_cons pe_str (pa_cons (pe_op op_mul_str pe_str pe_int) (pa_cons pe_str (pa_cons (pe_op op_mul_str pe_str pe_int) (pa_cons pe_str (pa_cons pe_str (pa_cons pe_str (pa_cons pe_str (pa_cons pe_str pa_nil))))))))))) (pe_cal (c__law_draw.mono (by decide)) hr (by rfl) (pa_cons (pv 1) (pa_cons pe_int pa_nil))) (fun _ _ => rfl)))
  (pss_cons (ps_if (pt_not (pt_val (pe_cal (c__law_same.mono (by decide)) hr (by rfl) (pa_cons (pe_cal (c_is_name.mono (by decide)) hr (by rfl) (pa_cons (pv 5) pa_nil)) (pa_cons (pe_cmpR op_in_seq (pv 5) (pe_lst (pa_cons pe_str (pa_cons pe_str (pa_cons (pe_op op_mul_str pe_str pe_int) (pa_cons pe_str pa_nil))))) (by rfl)) pa_nil))))) (pss_one (ps_ret pe_bl)) pss_nil)
  (pss_one (ps_if (PW.pt (pw_or (pt_not (pt_val (pe_cal (c__law_same.mono (by decide)) hr (by rfl) (pa_cons (pe_cal (c_is_key.mono (by decide)) hr (by rfl) (pa_cons (pv 5) pa_nil)) (pa_cons (pe_chain op_le op_le pe_int (pe_callB call_len_str (by rfl) m_len (by decide +kernel) (pa_cons (pv 5) pa_nil)) pe_int) pa_nil))))) (pw_or1 (pt_cmpR op_notBl (pe_cal (c_is_key.mono (by decide)) hr (by rfl) (pa_cons pe_str pa_nil)) pe_bl (nomark _))))) (pss_one (ps_ret pe_bl)) pss_nil))))))))))
  (pss_one (ps_ret pe_bl)))), ?_⟩
    refine ⟨.ref a, rfl, a, ns, rfl, hs, fun d H1 xs hd k1 e1 hi => ⟨by show 2 ≤ sizeLine; decide, fun bx hbx => ?_⟩⟩
    have k2 : Kp H1 (upd H1 bx (.lst [.ref d, .int 0])) := Kb.new hbx
    have b0 : Box bx d (upd H1 bx (.lst [.ref d, .int 0])) := ⟨xs, 0, upd_same, Int.le_refl 0, by rw [upd_ne (ne_of_none e1 hbx)]; exact e1, hi⟩
    have t0 : ∀ T ∈ ts, TabG (upd H1 bx (.lst [.ref d, .int 0])) T := fun T hm => k2.tab T (k1.tab T (hT T hm))
    refine ⟨5, rfl, by decide, by decide, ?_⟩
    refine ⟨fun i m σ H' => m = 5 - i ∧ i ≤ 5 ∧ (∃ o2 o3 o4 o5, σ = [some (.ref a), some (.ref bx), o2, o3, o4, o5]) ∧ Box bx d H' ∧ ∀ T ∈ ts, TabG H' T, ⟨_, rfl, Nat.zero_le _, ⟨none, none, none, none, rfl⟩, b0, t0⟩, ?_⟩
    rintro i m σ H2 ⟨rfl, hi, ⟨o2, o3, o4, o5, rfl⟩, hb, hT⟩
    by_cases hl : i < 5
    · refine .inr ⟨hl, fun σ' H' => (∃ o2 o3 o4 o5, σ' = [some (.ref a), some (.ref bx), o2, o3, o4, o5]) ∧ Box bx d H' ∧ ∀ T ∈ ts, TabG H' T, fun σ' H' ⟨z1, z2, z3⟩ => ⟨_, by omega, rfl, hl, z1, z2, z3⟩, ?_⟩
      rintro x H3 ⟨rfl, rfl⟩
      refine ⟨.ref bx, rfl, bx, d, rfl, hb, fun H4 v dt a4 hv g => ?_⟩
      have T4 : ∀ T ∈ ts, TabG H4 T := fun T hm => a4.1.tab T (hT T hm)
      -- is_value(value)
      refine ⟨v, rfl, v, dt, rfl, hv, g.okd, T4, fun H5 k5 => ⟨isValueD dt, true, rfl, rfl, _, rfl, ?_⟩⟩
      rw [g.value]
      refine iteF ?_
      have b5 := a4.2.kp k5
      have v5 := hv.kb k5 Lsts.nil
      have T5 : ∀ T ∈ ts, TabG H5 T := fun T hm => k5.tab T (T4 T hm)
      -- is_scalar(value)
      refine ⟨v, rfl, v, dt, rfl, v5, g.okd, T5, fun H6 k6 => ?_⟩
      have b6 := b5.kp k6
      have v6 := v5.kb k6 Lsts.nil
      have T6 : ∀ T ∈ ts, TabG H6 T := fun T hm => k6.tab T (T5 T hm)
      obtain ⟨p, ys, y, ev, sq, ey, es, sc⟩ := g.first v6
      refine ⟨v, rfl, p, ys, 0, .str y, ev, rfl, sq, ey, rfl, ?_⟩
      rw [es]
      refine ⟨_, rfl, true, rfl, iteF ?_⟩
      -- value[0] != "map" and plain(value) != _law_plain(value)
      refine ⟨v, rfl, p, ys, 0, .str y, ev, rfl, sq, ey, rfl, _, rfl, ?_⟩
      refine and_no (fun hc R hR => ?_) fun H7 k7 => ?_
      · obtain ⟨s, gs, rfl⟩ := sc (by rw [Bool.not_eq_true'] at hc; exact hc)
        refine ⟨v, rfl, v, s, rfl, v6, gs.ok, v, rfl, v, s, rfl, v6, gs.ok, fun H7 k7 => ⟨rfl, _, rfl, ?_⟩⟩
        rw [decide_eq_true rfl]
        exact hR H7 k7
      have b7 := b6.kp k7
      have T7 : ∀ T ∈ ts, TabG H7 T := fun T hm => k7.tab T (T6 T hm)
      refine ⟨.ref bx, rfl, bx, d, rfl, b7, fun H8 u du a8 hu oku i1 i2 => ?_⟩
      have T8 : ∀ T ∈ ts, TabG H8 T := fun T hm => a8.1.tab T (T7 T hm)
      refine ⟨u, rfl, u, du, rfl, hu, oku, T8, fun H9 k9 => ⟨isValueD du, false, rfl, rfl, _, rfl, ?_⟩⟩
      rw [i1]
      have b9 := a8.2.kp k9
      have u9 := hu.kb k9 Lsts.nil
      have T9 : ∀ T ∈ ts, TabG H9 T := fun T hm => k9.tab T (T8 T hm)
      refine iteF ⟨u, rfl, u, du, rfl, u9, oku, T9, fun H10 k10 => ⟨isScalarD du, false, rfl, rfl, _, rfl, ?_⟩⟩
      rw [i2]
      have b10 := b9.kp k10
      have T10 : ∀ T ∈ ts, TabG H10 T := fun T hm => k10.tab T (T9 T hm)
      refine iteF ?_
      -- name
      refine ⟨_, _, rfl, rfl, ⟨by decide +kernel, fun _ _ => by decide +kernel, fun _ _ => by decide +kernel⟩, _, _, rfl, rfl, ⟨by decide +kernel, fun _ _ => by decide +kernel, fun _ _ => by decide +kernel⟩, by show 10 ≤ sizeLine; decide, fun L hL => ?_⟩
      have aL := Aft.new (o := .lst [V.str (Str.ofString "a"), .str (Str.ofString "ab9"), .str (Txt.mul (Str.ofString "a") 12), .str (Str.ofString "z0z0"), .str (Txt.mul (Str.ofString "a") 13), .str (Str.ofString ""), .str (Str.ofString "9a"), .str (Str.ofString "Ab"), .str (Str.ofString "a_b"), .str (Str.ofString "a b")]) b10 hL
      refine ⟨.ref bx, rfl, bx, d, 10, rfl, by decide, aL.2, fun H11 r a11 g11 l11 => ?_⟩
      have eL := a11.lst upd_same (b10.new hL).1
      obtain ⟨x, ex, okx, nx, kx⟩ := ten g11 l11
      refine ⟨L, _, r, _, rfl, rfl, .inl (.inl eL), ex, ?_⟩
      have a10 := aL.trans a11
      have T11 : ∀ T ∈ ts, TabG H11 T := fun T hm => a10.1.tab T (T10 T hm)
      have okx' : OkD (.str x) := ⟨1, by decide, okx⟩
      refine ⟨.str x, rfl, .str x, .str x, rfl, .str x, okx', T11, fun H12 k12 => ?_⟩
      have b12 := a10.2.kp k12
      have T12 : ∀ T ∈ ts, TabG H12 T := fun T hm => k12.tab T (T11 T hm)
      refine ⟨.str x, rfl, _, _, rfl, rfl, ⟨by decide +kernel, fun _ _ => by decide +kernel, fun _ _ => by decide +kernel⟩, by show 4 ≤ sizeLine; decide, fun L2 hL2 => ?_⟩
      have k13 : Kp H12 (upd H12 L2 (.lst nameL)) := Kb.new hL2
      have b13 := b12.kp k13
      have T13 : ∀ T ∈ ts, TabG (upd H12 L2 (.lst nameL)) T := fun T hm => k13.tab T (T12 T hm)
      refine ⟨L2, nameL, rfl, .inl (.inl (.inl upd_same)), rfl, rfl, isName (.str x), by rw [nx]; rfl, true, rfl, iteF ?_⟩
      refine ⟨.str x, rfl, .str x, .str x, rfl, .str x, okx', T13, fun H14 k14 => ?_⟩
      have b14 := b13.kp k14
      have T14 : ∀ T ∈ ts, TabG H14 T := fun T hm => k14.tab T (T13 T hm)
      have lx : x.length ≤ sizeLine := line1000 okx'.str
      refine chain_len rfl lx ⟨isKeyD (.str x), ?_, true, rfl, iteF ?_⟩
      · show [V.bl _, V.bl _] = [V.bl _, V.bl _]
        rw [kx]
      have okn : OkD (.str (Str.ofString "a\nb")) := ⟨1, by decide, by decide +kernel⟩
      refine ⟨_, .str (Str.ofString "a\nb"), rfl, .str _, okn, T14, fun H15 k15 => ⟨_, false, rfl, rfl, _, rfl, ?_⟩⟩
      rw [show isKeyD (.str (Str.ofString "a\nb")) = false by decide +kernel]
      exact iteF ⟨⟨_, _, _, _, rfl⟩, b14.kp k15, fun T hm => k15.tab T (T14 T hm)⟩
    · exact .inl ⟨by show (5 : Int).toNat ≤ i; omega, q _⟩
end
end Rv

/-! The end: the facts of the top, with the tables of code objects that the head leaves. -/
namespace Gd
open PySem PySem.Spec PyProof.Rows L2 GxR Gx
theorem walk_G2 {l : PySem.W.OpenLaw} {n k : Nat} {q : Program} {loose : List Str} {XP : (Str → Option Value) → Heap → Prop} {YP : World → Heap → Prop} {d : DefRec} {K : Params → PySem.W.Frag} {CX : World → CXT} {x : Str}
    (hn : l.most = some n) (hn2 : n ≤ sizeLine) (hdf : d.params.defaults = []) (hr : RoomG k callerA) (hY : ∀ (w : World) (h : Heap), YP w h → (K w.params).In h)
    (F : ∀ (w : World) (mg : Str → Option Value) (fa : Addr) (h : Heap), YP w h → (K w.params).In h → h.Ns mainGlobals mg → mg d.name = some (.ref fa) →
      (∀ (y : Str) (d' : DefRec) (c P : Addr), (recsOf q).find? (fun e => e.name == y) = some d' → PySem.W.tabIn (K w.params) y = some (c, P) → PySem.W.CodeHd h c P ∧ h.get? P = some { cls := .none, data := .fields #[] }) → LawG l w (K w.params) (CX w) k n x mg fa h)
    (hCX : ∀ (w : World) (H : Hp) (s : Shared) (e : Value) (s' : Shared), CX w [] H s (fun _ _ _ => False) e s' → False) :
    PySem.W.WalkO q loose XP YP l.row.toRowW d [] (fun f vs => PySem.call f vs) := by
  refine Att.attach_callB hn hdf fun w s0 s1 mg mb fa o pm cd doc a vs ns G Y ho hd hcd hmg hobj hints hlen hbits hg => ?_
  obtain ⟨fd, cs, sp, hT, nT, C, hb, hsp, hF⟩ := F w mg fa _ Y (hY w _ Y) G.T.g hmg fun y d' c P hr ht => PySem.W.tab_of G.T (hY w _ Y) hr ht
  exact law_endG (hY w _ Y) G.T.g G.T.b G.T.builtins G.T.nolimit hg hT nT C G.T.bmain hobj hints (Nat.le_trans hlen hn2) hr hF hb (fun H hH hS => hsp H a ns hlen hbits hH hS) fun H e s' => hCX w H s1 e s'
/-- the def x, its code object at c -/
def DefC (K : PySem.W.Frag) (mg : Str → Option Value) (x : Str) (st : Stmt) (ps : List Str) (c : Addr) : Prop := ∃ f fd, Fun K x x st f fd ∧ mg x = some (.ref f) ∧ Binds K fd ps [] ∧ fd.code = .ref c
theorem DefC.tab {K : PySem.W.Frag} {mg : Str → Option Value} {base : Heap} {x : Str} {st : Stmt} {ps : List Str} {c T : Addr} (D : DefC K mg x st ps c) (B : TabB base mg c T) : DefTab K mg base x st ps T :=
  let ⟨f, fd, F, g, b, e⟩ := D; ⟨f, fd, c, F, g, b, e, B⟩
section
variable {K : PySem.W.Frag} {h : Heap} {mg : Str → Option Value} {x : Str} {st : Stmt} {ps : List Str} {f c T : Addr} {od an od1 : Option Addr} {sl sl1 : Array (Option Value)} {oc kV dc pm cd ct oc1 : Value} {vs : Array Value}
theorem def_k (X : K.In h) (G : h.Ns mainGlobals mg) (a : PySem.W.nsIn K mainGlobals x = some (some (.ref f))) (l : K.lookup f = some ⟨oc, od, .func (PySem.W.fnOf x x (defArgs st) (defBody st) (defScope st) .none kV dc pm an cd ct), sl⟩) (c : PySem.W.codeIn K cd x = true) (k : PySem.W.keepIn K (.ref f) = true)
    (b : ∀ (kV doc pm : Value) (an : Option Addr) (cdv ct : Value) (us : List Value), us.length = ps.length → bindArgs (PySem.W.fnOf x x (defArgs st) (defBody st) (defScope st) .none kV doc pm an cdv ct) ⟨us, []⟩ = pure (ps.zip us)) : DefAt K mg x st ps :=
  ⟨f, _, fun_mk l c k, PySem.W.mg_of X G a, (fun_mk l c k).binds b⟩
theorem def_c (X : K.In h) (G : h.Ns mainGlobals mg) (a : PySem.W.nsIn K mainGlobals x = some (some (.ref f))) (l : K.lookup f = some ⟨oc, od, .func (PySem.W.fnOf x x (defArgs st) (defBody st) (defScope st) .none kV dc pm an (.ref c) ct), sl⟩) (cc : PySem.W.codeIn K (.ref c) x = true) (k : PySem.W.keepIn K (.ref f) = true)
    (l1 : K.lookup c = some ⟨oc1, od1, .fields vs, sl1⟩) (hv : vs[11]? = some (.ref T))
    (b : ∀ (kV doc pm : Value) (an : Option Addr) (cdv ct : Value) (us : List Value), us.length = ps.length → bindArgs (PySem.W.fnOf x x (defArgs st) (defBody st) (defScope st) .none kV doc pm an cdv ct) ⟨us, []⟩ = pure (ps.zip us)) : DefC K mg x st ps c ∧ PySem.W.tabIn K x = some (c, T) := by
  refine ⟨⟨f, _, fun_mk l cc k, PySem.W.mg_of X G a, (fun_mk l cc k).binds b, rfl⟩, ?_⟩
  unfold PySem.W.tabIn
  rw [a]
  show (match K.lookup f with
    | some ⟨_, _, .func fd, _⟩ => _
    | _ => none) = _
  rw [l]
  show (match K.lookup c with
    | some ⟨_, _, .fields vs, _⟩ => _
    | _ => none) = _
  rw [l1]
  show (match (vs[11]? : Option Value) with
    | some (.ref P) => some (c, P)
    | _ => none) = _
  rw [hv]
theorem law_k {fa : Addr} {p1 : Str} (X : K.In h) (G : h.Ns mainGlobals mg) (hfa : mg x = some (.ref fa)) (a : PySem.W.nsIn K mainGlobals x = some (some (.ref f))) (l : K.lookup f = some ⟨oc, od, .func (PySem.W.fnOf x x (defArgs st) (defBody st) (defScope st) .none kV dc pm an cd ct), sl⟩) (c : PySem.W.codeIn K cd x = true) (k : PySem.W.keepIn K (.ref f) = true)
    (b : ∀ (kV doc pm : Value) (an : Option Addr) (cdv ct : Value) (s : Shared) (u : Value), BindsTo s (PySem.W.fnOf x x (defArgs st) (defBody st) (defScope st) .none kV doc pm an cdv ct) ⟨[u], []⟩ [(p1, u)]) : ∃ fd, Fun K x x st fa fd ∧ ∀ (s : Shared) (u : Value), BindsTo s fd ⟨[u], []⟩ [(p1, u)] := by
  have e := hfa.symm.trans (PySem.W.mg_of X G a)
  cases e
  exact ⟨_, fun_mk l c k, b _ _ _ _ _ _⟩
theorem glob_k {t : Tok} {i : Int} (X : K.In h) (G : h.Ns mainGlobals mg) (a : PySem.W.nsIn K mainGlobals x = some (some (.int i t))) : ∃ t, mg x = some (.int i t) := ⟨t, PySem.W.mg_of X G a⟩
theorem no_tabs (X : K.In h) (hK : PySem.W.noTabs K = true) (hT : h.get? T = some { cls := .none, data := .fields #[] }) : K.lookup T = none := by
  cases e : K.lookup T with
  | none => rfl
  | some o =>
    have h1 := X T o e
    rw [hT] at h1
    cases h1
    have h2 := List.all_eq_true.mp hK _ (PySem.W.mem_of_lookupK e)
    exact absurd (show false = true from h2) Bool.false_ne_true
end
end Gd

namespace Rv
open PySem PySem.Spec PyProof.Rows L2 GxR Gx Gd
theorem law_fin {l : PySem.W.OpenLaw} {w : World} {K : PySem.W.Frag} {h : Heap} {mg : Str → Option Value} {fa c1 T1 c2 T2 c3 T3 : Addr} {fd : FuncData} (X : K.In h) (Fl : Fun K "law" "law" s_law fa fd) (bl : ∀ (s : Shared) (u : Value), BindsTo s fd ⟨[u], []⟩ [("script", u)]) (nt : PySem.W.noTabs K = true)
    (C1 : DefC K mg "is_name" s_is_name ["thing"] c1) (t1 : PySem.W.CodeHd h c1 T1 ∧ h.get? T1 = some { cls := .none, data := .fields #[] })
    (C2 : DefC K mg "_is_text" s_is_text ["thing", "shortest", "longest"] c2) (t2 : PySem.W.CodeHd h c2 T2 ∧ h.get? T2 = some { cls := .none, data := .fields #[] })
    (C3 : DefC K mg "_are_entries" s_are_entries ["thing"] c3) (t3 : PySem.W.CodeHd h c3 T3 ∧ h.get? T3 = some { cls := .none, data := .fields #[] })
    (D_is_character : DefAt K mg "is_character" s_is_character ["char"]) (D_is_digit : DefAt K mg "is_digit" s_is_digit ["char"]) (D_is_key : DefAt K mg "is_key" s_is_key ["thing"]) (D_is_scalar : DefAt K mg "is_scalar" s_is_scalar ["thing"])
    (D_is_value : DefAt K mg "is_value" s_is_value ["thing"]) (D_plain : DefAt K mg "plain" s_plain ["scalar"]) (D__is_small : DefAt K mg "_is_small" s_is_small ["char"]) (D__is_pair : DefAt K mg "_is_pair" s_is_pair ["thing"])
    (D__is_integer : DefAt K mg "_is_integer" s_is_integer ["thing"]) (D__is_entry : DefAt K mg "_is_entry" s_is_entry ["thing"]) (D__law_cell : DefAt K mg "_law_cell" s_law_cell ["script", "k"]) (D__law_same : DefAt K mg "_law_same" s_law_same ["actual", "due"])
    (D__law_digits : DefAt K mg "_law_digits" s_law_digits ["script", "first", "last"]) (D__law_draw : DefAt K mg "_law_draw" s_law_draw ["box", "many"]) (D__law_chars : DefAt K mg "_law_chars" s_law_chars []) (D__law_string : DefAt K mg "_law_string" s_law_string ["box", "most"])
    (D__law_scalar : DefAt K mg "_law_scalar" s_law_scalar ["box"]) (D__law_map : DefAt K mg "_law_map" s_law_map ["box"]) (D__law_value : DefAt K mg "_law_value" s_law_value ["box"]) (D__law_wrong : DefAt K mg "_law_wrong" s_law_wrong ["box"]) (D__law_plain : DefAt K mg "_law_plain" s_law_plain ["scalar"])
    (m_isinstance : mg "isinstance" = none) (m_str : mg "str" = none) (m_tuple : mg "tuple" = none) (m_int : mg "int" = none) (m_bool : mg "bool" = none) (m_len : mg "len" = none) (m_all : mg "all" = none) (m_ord : mg "ord" = none) (m_range : mg "range" = none) (m_repr : mg "repr" = none)
    (g_PERCENT : ∃ t, mg "PERCENT" = some (.int 37 t)) (g_NAME : ∃ t, mg "NAME_LENGTH" = some (.int 12 t)) (g_KEY : ∃ t, mg "KEY_LENGTH" = some (.int 12 t)) (g_TEXT : ∃ t, mg "TEXT_LENGTH" = some (.int 40 t)) (g_GREATEST : ∃ t, mg "GREATEST_INTEGER" = some (.int 999999 t)) (g_MAP : ∃ t, mg "MAP_SIZE" = some (.int 8 t)) :
    LawG l w K CX0 9 63 "script" mg fa h := by
  have inn : ∀ {p : Addr × Addr}, p ∈ [(c1, T1), (c2, T2), (c3, T3)] → PySem.W.CodeHd h p.1 p.2 ∧ h.get? p.2 = some { cls := .none, data := .fields #[] } := fun {p} hp => by
    rcases List.mem_cons.mp hp with rfl | hp
    · exact t1
    · rcases List.mem_cons.mp hp with rfl | hp
      · exact t2
      · rw [List.mem_singleton.mp hp]
        exact t3
  refine ⟨fd, [(c1, T1), (c2, T2), (c3, T3)], spLaw K [T1, T2, T3], fun p hp => (inn hp).2, fun p hp => no_tabs X nt (inn hp).2, fun p hp => (inn hp).1, bl, fun H a ns hlen hbits hH hS => ⟨a, ns, rfl, hS, fun T hm => ?_, fun _ => rfl⟩, fun base kin hns hB => ?_⟩
  · have : ∀ T ∈ [T1, T2, T3], H T = some (.tbl #[]) := fun T hm => by
      rcases List.mem_cons.mp hm with rfl | hm
      · exact hH (c1, T) (by simp)
      · rcases List.mem_cons.mp hm with rfl | hm
        · exact hH (c2, T) (by simp)
        · rw [List.mem_singleton.mp hm]
          exact hH (c3, T3) (by simp)
    exact ⟨#[], this T hm, trivial⟩
  · have B1 := C1.tab (hB (c1, T1) (by simp))
    have B2 := C2.tab (hB (c2, T2) (by simp))
    have B3 := C3.tab (hB (c3, T3) (by simp))
    have c_is_small := c_is_small (P := l.prog) (w := w) (base := base) D__is_small
    have c_is_digit := c_is_digit (P := l.prog) (w := w) (base := base) D_is_digit
    have c_is_character := c_is_character (P := l.prog) (w := w) (base := base) D_is_character g_PERCENT m_ord
    have c_is_name := c_is_name (P := l.prog) (w := w) B1 g_NAME m_isinstance m_str m_len m_all c_is_small c_is_digit
    have c_is_pair := c_is_pair (P := l.prog) (w := w) (base := base) D__is_pair m_isinstance m_tuple m_len
    have c_is_text := c_is_text (P := l.prog) (w := w) B2 m_isinstance m_str m_len m_all c_is_character
    have c_is_text := c_is_text.imp (sp' := spText K [T1, T2, T3]) fun vs H Q E ⟨v, d, a, b, e, hd, hz, hT, q⟩ => ⟨v, d, a, b, e, hd, hz, fun T hm => hT T (by rw [List.mem_singleton.mp hm]; simp), q⟩
    have c_is_key := c_is_key (P := l.prog) (w := w) (base := base) D_is_key g_KEY c_is_text
    have c_is_integer := c_is_integer (P := l.prog) (w := w) (base := base) D__is_integer m_isinstance m_bool m_int g_GREATEST
    have c_is_scalar := c_is_scalar (P := l.prog) (w := w) (base := base) D_is_scalar m_isinstance m_bool g_TEXT c_is_pair c_is_integer c_is_text
    have c_plain := c_plain (P := l.prog) (w := w) (base := base) D_plain m_str
    have c_is_entry := c_is_entry (P := l.prog) (w := w) (base := base) D__is_entry c_is_pair c_is_key c_is_scalar
    have c_are_entries := c_are_entries (P := l.prog) (w := w) B3 g_MAP m_isinstance m_tuple m_len m_all c_is_entry (by simp)
    have c_is_value := c_is_value (P := l.prog) (w := w) (base := base) D_is_value c_is_pair c_is_scalar c_are_entries
    have c_is_name := c_is_name.imp (sp' := spData K [T1, T2, T3] isName) (sp_more fun T hm => by rw [List.mem_singleton.mp hm]; simp)
    have c_law_cell := c_law_cell (P := l.prog) (w := w) (base := base) D__law_cell m_len
    have c_law_same := c_law_same (P := l.prog) (w := w) (K := K) (base := base) D__law_same m_repr
    have c_law_digits := c_law_digits (P := l.prog) (w := w) (base := base) D__law_digits m_range m_int c_law_cell
    have c_law_draw := c_law_draw (P := l.prog) (w := w) (base := base) D__law_draw m_len m_int
    have c_law_chars := c_law_chars (P := l.prog) (w := w) (base := base) D__law_chars
    have c_law_string := c_law_string (P := l.prog) (w := w) (base := base) D__law_string m_len m_range c_law_chars c_law_draw
    have c_law_scalar := c_law_scalar (P := l.prog) (w := w) (base := base) D__law_scalar c_law_draw c_law_string
    have c_law_map := c_law_map (P := l.prog) (w := w) (base := base) D__law_map m_range m_int m_str m_tuple c_law_draw c_law_scalar
    have c_law_value := c_law_value (P := l.prog) (w := w) (base := base) D__law_value c_law_draw c_law_scalar c_law_map
    have c_law_wrong := c_law_wrong (P := l.prog) (w := w) (base := base) D__law_wrong m_len m_range m_str m_tuple c_law_draw
    have c_law_plain := c_law_plain (P := l.prog) (w := w) (base := base) D__law_plain m_str m_int
    exact ok_law Fl m_range m_len c_law_digits c_law_draw c_law_value c_law_wrong c_law_same c_law_plain c_plain c_is_value c_is_scalar c_is_key c_is_name
end Rv

open PySem PySem.W PyProof.Rows
set_option maxHeartbeats 0 in
theorem PySem.Challenge.cw_remoteviews_k00_values_told_holds : PySem.Challenge.rw_remoteviews_k00_values_told.Holds := by
  w_on; o_law; k_head; (case hw => w_witness2)
  k_fill
  refine Gd.walk_G2 (l := PySem.Challenge.rw_remoteviews_k00_values_told) (n := 63) (k := 9) (x := "script") (CX := fun _ => L2.CX0) rfl (by decide) rfl ⟨⟨rfl, by decide, by decide⟩, rfl⟩ (fun w h Y => PySem.W.kIn_of Y) ?F (fun _ _ _ _ _ h => h)
  case F =>
    intro w mg fa h Y KX G hmg tabs
    have C_is_name := by
      refine' Gd.def_c (x := "is_name") (st := Rv.s_is_name) (ps := ["thing"]) KX G ?a ?l ?c ?k ?l1 ?hv ?b
      (case a => k_is); (case l => k_is); (case c => k_is); (case k => k_is); (case l1 => k_is); (case hv => rfl); (case b => exact fun _ _ _ _ _ _ us hl => match us, hl with | [_], _ => rfl)
    have C__is_text := by
      refine' Gd.def_c (x := "_is_text") (st := Rv.s_is_text) (ps := ["thing", "shortest", "longest"]) KX G ?a ?l ?c ?k ?l1 ?hv ?b
      (case a => k_is); (case l => k_is); (case c => k_is); (case k => k_is); (case l1 => k_is); (case hv => rfl); (case b => exact fun _ _ _ _ _ _ us hl => match us, hl with | [_, _, _], _ => rfl)
    have C__are_entries := by
      refine' Gd.def_c (x := "_are_entries") (st := Rv.s_are_entries) (ps := ["thing"]) KX G ?a ?l ?c ?k ?l1 ?hv ?b
      (case a => k_is); (case l => k_is); (case c => k_is); (case k => k_is); (case l1 => k_is); (case hv => rfl); (case b => exact fun _ _ _ _ _ _ us hl => match us, hl with | [_], _ => rfl)
    have D_is_character := by
      refine' Gd.def_k (x := "is_character") (st := Rv.s_is_character) (ps := ["char"]) KX G ?a ?l ?c ?k ?b
      (case a => k_is); (case l => k_is); (case c => k_is); (case k => k_is); (case b => exact fun _ _ _ _ _ _ us hl => match us, hl with | [_], _ => rfl)
    have D_is_digit := by
      refine' Gd.def_k (x := "is_digit") (st := Rv.s_is_digit) (ps := ["char"]) KX G ?a ?l ?c ?k ?b
      (case a => k_is); (case l => k_is); (case c => k_is); (case k => k_is); (case b => exact fun _ _ _ _ _ _ us hl => match us, hl with | [_], _ => rfl)
    have D_is_key := by
      refine' Gd.def_k (x := "is_key") (st := Rv.s_is_key) (ps := ["thing"]) KX G ?a ?l ?c ?k ?b
      (case a => k_is); (case l => k_is); (case c => k_is); (case k => k_is); (case b => exact fun _ _ _ _ _ _ us hl => match us, hl with | [_], _ => rfl)
    have D_is_scalar := by
      refine' Gd.def_k (x := "is_scalar") (st := Rv.s_is_scalar) (ps := ["thing"]) KX G ?a ?l ?c ?k ?b
      (case a => k_is); (case l => k_is); (case c => k_is); (case k => k_is); (case b => exact fun _ _ _ _ _ _ us hl => match us, hl with | [_], _ => rfl)
    have D_is_value := by
      refine' Gd.def_k (x := "is_value") (st := Rv.s_is_value) (ps := ["thing"]) KX G ?a ?l ?c ?k ?b
      (case a => k_is); (case l => k_is); (case c => k_is); (case k => k_is); (case b => exact fun _ _ _ _ _ _ us hl => match us, hl with | [_], _ => rfl)
    have D_plain := by
      refine' Gd.def_k (x := "plain") (st := Rv.s_plain) (ps := ["scalar"]) KX G ?a ?l ?c ?k ?b
      (case a => k_is); (case l => k_is); (case c => k_is); (case k => k_is); (case b => exact fun _ _ _ _ _ _ us hl => match us, hl with | [_], _ => rfl)
    have D__is_small := by
      refine' Gd.def_k (x := "_is_small") (st := Rv.s_is_small) (ps := ["char"]) KX G ?a ?l ?c ?k ?b
      (case a => k_is); (case l => k_is); (case c => k_is); (case k => k_is); (case b => exact fun _ _ _ _ _ _ us hl => match us, hl with | [_], _ => rfl)
    have D__is_pair := by
      refine' Gd.def_k (x := "_is_pair") (st := Rv.s_is_pair) (ps := ["thing"]) KX G ?a ?l ?c ?k ?b
      (case a => k_is); (case l => k_is); (case c => k_is); (case k => k_is); (case b => exact fun _ _ _ _ _ _ us hl => match us, hl with | [_], _ => rfl)
    have D__is_integer := by
      refine' Gd.def_k (x := "_is_integer") (st := Rv.s_is_integer) (ps := ["thing"]) KX G ?a ?l ?c ?k ?b
      (case a => k_is); (case l => k_is); (case c => k_is); (case k => k_is); (case b => exact fun _ _ _ _ _ _ us hl => match us, hl with | [_], _ => rfl)
    have D__is_entry := by
      refine' Gd.def_k (x := "_is_entry") (st := Rv.s_is_entry) (ps := ["thing"]) KX G ?a ?l ?c ?k ?b
      (case a => k_is); (case l => k_is); (case c => k_is); (case k => k_is); (case b => exact fun _ _ _ _ _ _ us hl => match us, hl with | [_], _ => rfl)
    have D__law_cell := by
      refine' Gd.def_k (x := "_law_cell") (st := Rv.s_law_cell) (ps := ["script", "k"]) KX G ?a ?l ?c ?k ?b
      (case a => k_is); (case l => k_is); (case c => k_is); (case k => k_is); (case b => exact fun _ _ _ _ _ _ us hl => match us, hl with | [_, _], _ => rfl)
    have D__law_same := by
      refine' Gd.def_k (x := "_law_same") (st := Rv.s_law_same) (ps := ["actual", "due"]) KX G ?a ?l ?c ?k ?b
      (case a => k_is); (case l => k_is); (case c => k_is); (case k => k_is); (case b => exact fun _ _ _ _ _ _ us hl => match us, hl with | [_, _], _ => rfl)
    have D__law_digits := by
      refine' Gd.def_k (x := "_law_digits") (st := Rv.s_law_digits) (ps := ["script", "first", "last"]) KX G ?a ?l ?c ?k ?b
      (case a => k_is); (case l => k_is); (case c => k_is); (case k => k_is); (case b => exact fun _ _ _ _ _ _ us hl => match us, hl with | [_, _, _], _ => rfl)
    have D__law_draw := by
      refine' Gd.def_k (x := "_law_draw") (st := Rv.s_law_draw) (ps := ["box", "many"]) KX G ?a ?l ?c ?k ?b
      (case a => k_is); (case l => k_is); (case c => k_is); (case k => k_is); (case b => exact fun _ _ _ _ _ _ us hl => match us, hl with | [_, _], _ => rfl)
    have D__law_chars := by
      refine' Gd.def_k (x := "_law_chars") (st := Rv.s_law_chars) (ps := []) KX G ?a ?l ?c ?k ?b
      (case a => k_is); (case l => k_is); (case c => k_is); (case k => k_is); (case b => exact fun _ _ _ _ _ _ us hl => match us, hl with | [], _ => rfl)
    have D__law_string := by
      refine' Gd.def_k (x := "_law_string") (st := Rv.s_law_string) (ps := ["box", "most"]) KX G ?a ?l ?c ?k ?b
      (case a => k_is); (case l => k_is); (case c => k_is); (case k => k_is); (case b => exact fun _ _ _ _ _ _ us hl => match us, hl with | [_, _], _ => rfl)
    have D__law_scalar := by
      refine' Gd.def_k (x := "_law_scalar") (st := Rv.s_law_scalar) (ps := ["box"]) KX G ?a ?l ?c ?k ?b
      (case a => k_is); (case l => k_is); (case c => k_is); (case k => k_is); (case b => exact fun _ _ _ _ _ _ us hl => match us, hl with | [_], _ => rfl)
    have D__law_map := by
      refine' Gd.def_k (x := "_law_map") (st := Rv.s_law_map) (ps := ["box"]) KX G ?a ?l ?c ?k ?b
      (case a => k_is); (case l => k_is); (case c => k_is); (case k => k_is); (case b => exact fun _ _ _ _ _ _ us hl => match us, hl with | [_], _ => rfl)
    have D__law_value := by
      refine' Gd.def_k (x := "_law_value") (st := Rv.s_law_value) (ps := ["box"]) KX G ?a ?l ?c ?k ?b
      (case a => k_is); (case l => k_is); (case c => k_is); (case k => k_is); (case b => exact fun _ _ _ _ _ _ us hl => match us, hl with | [_], _ => rfl)
    have D__law_wrong := by
      refine' Gd.def_k (x := "_law_wrong") (st := Rv.s_law_wrong) (ps := ["box"]) KX G ?a ?l ?c ?k ?b
      (case a => k_is); (case l => k_is); (case c => k_is); (case k => k_is); (case b => exact fun _ _ _ _ _ _ us hl => match us, hl with | [_], _ => rfl)
    have D__law_plain := by
      refine' Gd.def_k (x := "_law_plain") (st := Rv.s_law_plain) (ps := ["scalar"]) KX G ?a ?l ?c ?k ?b
      (case a => k_is); (case l => k_is); (case c => k_is); (case k => k_is); (case b => exact fun _ _ _ _ _ _ us hl => match us, hl with | [_], _ => rfl)
    have m_isinstance := by
      refine' PySem.W.mg_none_of (n := "isinstance") KX G ?a
      (case a => k_is)
    have m_str := by
      refine' PySem.W.mg_none_of (n := "str") KX G ?a
      (case a => k_is)
    have m_tuple := by
      refine' PySem.W.mg_none_of (n := "tuple") KX G ?a
      (case a => k_is)
    have m_int := by
      refine' PySem.W.mg_none_of (n := "int") KX G ?a
      (case a => k_is)
    have m_bool := by
      refine' PySem.W.mg_none_of (n := "bool") KX G ?a
      (case a => k_is)
    have m_len := by
      refine' PySem.W.mg_none_of (n := "len") KX G ?a
      (case a => k_is)
    have m_all := by
      refine' PySem.W.mg_none_of (n := "all") KX G ?a
      (case a => k_is)
    have m_ord := by
      refine' PySem.W.mg_none_of (n := "ord") KX G ?a
      (case a => k_is)
    have m_range := by
      refine' PySem.W.mg_none_of (n := "range") KX G ?a
      (case a => k_is)
    have m_repr := by
      refine' PySem.W.mg_none_of (n := "repr") KX G ?a
      (case a => k_is)
    have g_PERCENT := by
      refine' Gd.glob_k (x := "PERCENT") KX G ?a
      (case a => k_is)
    have g_NAME_LENGTH := by
      refine' Gd.glob_k (x := "NAME_LENGTH") KX G ?a
      (case a => k_is)
    have g_KEY_LENGTH := by
      refine' Gd.glob_k (x := "KEY_LENGTH") KX G ?a
      (case a => k_is)
    have g_TEXT_LENGTH := by
      refine' Gd.glob_k (x := "TEXT_LENGTH") KX G ?a
      (case a => k_is)
    have g_GREATEST_INTEGER := by
      refine' Gd.glob_k (x := "GREATEST_INTEGER") KX G ?a
      (case a => k_is)
    have g_MAP_SIZE := by
      refine' Gd.glob_k (x := "MAP_SIZE") KX G ?a
      (case a => k_is)
    obtain ⟨C1, x1⟩ := C_is_name
    obtain ⟨C2, x2⟩ := C__is_text
    obtain ⟨C3, x3⟩ := C__are_entries
    have t1 := tabs "is_name" _ _ _ (by rfl) x1
    have t2 := tabs "_is_text" _ _ _ (by rfl) x2
    have t3 := tabs "_are_entries" _ _ _ (by rfl) x3
    have L := by
      refine' Gd.law_k (x := "law") (st := Rv.s_law) (p1 := "script") KX G hmg ?a ?l ?c ?k ?b
      (case a => k_is); (case l => k_is); (case c => k_is); (case k => k_is); (case b => exact fun _ _ _ _ _ _ s u => .of_eq rfl)
    obtain ⟨fd, Fl, bl⟩ := L
    refine' Rv.law_fin KX Fl bl ?nt C1 t1 C2 t2 C3 t3 D_is_character D_is_digit D_is_key D_is_scalar D_is_value D_plain D__is_small D__is_pair D__is_integer D__is_entry D__law_cell D__law_same D__law_digits D__law_draw D__law_chars D__law_string D__law_scalar D__law_map D__law_value D__law_wrong D__law_plain m_isinstance m_str m_tuple m_int m_bool m_len m_all m_ord m_range m_repr g_PERCENT g_NAME_LENGTH g_KEY_LENGTH g_TEXT_LENGTH g_GREATEST_INTEGER g_MAP_SIZE
    kernel_rfl
