import PyProof.Rows.All
import Wide.All
import OpenK.AllK
import Wide.FinOn
import PyProof.EqAt
import PyProof.EqKinds
import PyProof.TupleCall
import KE.KNest
import HandS.Base
import HandS.Call
import HandS.List
import HandS.Comp
import HandS.AnyAll
import HandS.GenOver
import HandS.GenList
import HandS.ForMost
import HandS.Exc
import HandS.WordsExc
import HandS.EndTab
import HandS.IsInst
import HandS.SetBool
import HandS.SetKeys
import HandS.RaiseMore
import HandS.ExcOwn
import HandS.ExcInit
import HandS.ExcField
import KE.KExcIs
import HandS.SortKw
import HandS.RevRange
import KE.KMinKey
import HandS.Style
import HandS.Text
import HandS.DictComp
import HandS.Walk
import HandS.More
import HandS.Small
import HandS.ExcIs
import KE.KDictPairs
import KE.KRevSl
import HandS.Star
import HandS.TupAny
import HandS.CallLocal
import HandS.Dict
import HandS.ListItems
import PySem.Challenge.RW_remoteviews_k36_handler_outwards
set_option Elab.async false
set_option linter.all false
set_option maxRecDepth 100000
set_option maxHeartbeats 4000000
/-! all(e for x in it): the element any expression, its names the target's and captured ones. -/
namespace Gx
open PySem PySem.Spec PyProof.Rows L2 GxR
open Sem (wp)

/-- the around of a generator expression's code over a consumer's call -/
theorem over_gen {A : Around} {elt tg iter : Expr} {ifs : List Expr} {scope : Scope} {pos : Pos} {it acc : Value} {env : Env} :
    A.over (.compLoop (.GeneratorExp elt [⟨tg, iter, ifs, 0⟩] scope pos) 0 it acc env) [] = A.deeper env := by
  first
    | rfl
    | (obtain ⟨hd, d, fr, gs, u⟩ := A; simp [Around.over, Around.deeper, marksOver, frameCount, unitsOf, envsOf, guardsOf, pushEnvs, pushGuards, Code.envs, Code.env?, Code.isFrame, Code.guards, Code.isGuard, Code.weight, Code.frames, Code.isCreation, Code.isCaller, Code.cUnits])
theorem over_genS {A : Around} {elt tg iter : Expr} {ifs : List Expr} {scope : Scope} {pos : Pos} {it acc : Value} {env : Env} :
    A.over (.compStart (.GeneratorExp elt [⟨tg, iter, ifs, 0⟩] scope pos) 0 it acc env) [] = A.deeper env := by
  first
    | rfl
    | (obtain ⟨hd, d, fr, gs, u⟩ := A; simp [Around.over, Around.deeper, marksOver, frameCount, unitsOf, envsOf, guardsOf, pushEnvs, pushGuards, Code.envs, Code.env?, Code.isFrame, Code.guards, Code.isGuard, Code.weight, Code.frames, Code.isCreation, Code.isCaller, Code.cUnits])

/-- the context of a generator expression's block: begun at s; pn: its own object -/
abbrev gx (X : Cx) (N : List Str) (s : Shared) (H : Hp) (cenv : Env) (fp : List Addr) (pn : List (Addr × Obj)) : Cx :=
  { X with A := X.A.in1.in1.deeper cenv, N := N, s_0 := s, H_0 := H, env := cenv, outer := X.stack, stack := cenv :: X.stack, ex := fp, fn := fun _ => false, pn := pn, xe := fun _ _ => False }

/-- captured names: their places in the def's names -/
structure Caps (X : Cx) (scope : Scope) (caps : List (Str × Nat)) : Prop where
  ix : ∀ p ∈ caps, X.N[p.2]? = some p.1
  free : ∀ p ∈ caps, scope.names.lookup p.1 = some .free
  vis : ∀ p ∈ caps, X.env.scope.names.lookup p.1 = some .cell ∨ X.env.scope.names.lookup p.1 = some .free
theorem Caps.nil {X : Cx} {scope : Scope} : Caps X scope [] := ⟨fun _ h => (by cases h), fun _ h => (by cases h), fun _ h => (by cases h)⟩
def capV (σ : L2.St) (caps : List (Str × Nat)) : L2.St := caps.map fun p => (σ[p.2]?).join
def capN (caps : List (Str × Nat)) : List Str := caps.map (·.1)

section
variable {X : Cx} {pins : List (Addr × Obj)} {σ : L2.St} {H : Hp} {s : Shared}

theorem gen_start {scope : Scope} {x : Str} {code : Value} {caps : List (Str × Nat)} {fp : List Addr} {s5 : Shared} {go : Obj} {m : Str → Option Value} (I : Inv X pins σ H s) (S : GenS X.env scope x) (C : Caps X scope caps) (hd : X.A.handled = none)
    (hfp : ∀ b ∈ fp, FpOk X pins H b ∧ b < s.heap.objs.size)
    (hos : s5.os = s.os) (hba : AllBare s5.gens) (hk : ∀ b o, s.heap.get? b = some o → s5.heap.get? b = some o)
    (hn : s5.heap.Ns s.heap.objs.size m) (hgo : s5.heap.get? (s.heap.objs.size + 1) = some go) (hgc : ∀ v, go.data ≠ .cell v) :
    Inv (gx X (x :: capN caps) s H (genEnv scope (cloFrom X.env.cells scope.names []) s.heap.objs.size code builtinsNs X.env) fp [(s.heap.objs.size + 1, go)]) [] (none :: capV σ caps) H s5 := by
  have cm : ∀ {y c}, (y, c) ∈ cloFrom X.env.cells scope.names [] → X.env.cells.lookup y = some c ∧ c < s.heap.objs.size := fun {y c} hm => by
    rcases cloFrom_mem hm with hm | ⟨h1, rfl⟩
    · cases hm
    · obtain ⟨c, hc⟩ := S.free _ h1 rfl
      rw [hc]
      obtain ⟨w, z⟩ := I.cell _ _ hc
      exact ⟨rfl, z.lt⟩
  have lk : ∀ {y c}, (cloFrom X.env.cells scope.names []).lookup y = some c → X.env.cells.lookup y = some c ∧ c < s.heap.objs.size := fun {y c} e => cm (PySem.mem_of_lookup e)
  have look : ∀ {y}, scope.names.lookup y = some .free → ∃ c, (cloFrom X.env.cells scope.names []).lookup y = some c ∧ X.env.cells.lookup y = some c := fun {y} hl => by
    have hy : (y, NameKind.free) ∈ scope.names := PySem.mem_of_lookup hl
    obtain ⟨c', e'⟩ := mem_lookup (cloFrom_has (cells := X.env.cells) (acc := []) hy)
    exact ⟨c', e', (lk e').1⟩
  refine ⟨⟨I.ok.mod, S.kind, I.ok.glob, rfl, Nat.le_refl _, fun y z c e1 e2 => I.ok.inj y z c (lk e1).1 (lk e2).1, fun y hy => ?_, fun y c z => absurd z (by simp), fun _ => hd, ?_, .inr ⟨rfl, rfl⟩, fun b hb => ⟨?_, fun y c e z => ?_⟩, I.bs, Nat.le_trans I.ok.bsz I.sz, fun b o e hb => ?_, fun b hb z => ?_, I.stack, I.stkFree⟩,
    hos, hba, Un.kept hk, ⟨m, hn, fun i y v e1 e2 e3 => ?_⟩, fun y c e => ?_, ?_, fun y c e => ?_, fun p hp => ?_, I.hok.kept hk, ?_⟩
  · have hy : scope.names.lookup y = some .cell ∨ scope.names.lookup y = some .free := hy
    rcases hy with hy | hy
    · exact absurd rfl (S.cell _ (PySem.mem_of_lookup hy))
    · obtain ⟨c, e, _⟩ := look hy
      exact ⟨c, e⟩
  · exact Around.frames_deeper (A := X.A.in1.in1) (show X.A.in1.in1.frames = some X.stack from I.ok.frames)
  · show b ≠ s.heap.objs.size
    exact Nat.ne_of_lt (hfp b hb).2
  · exact (hfp b hb).1.2.2.2.2.1 y c (lk e).1 z
  · rcases (hfp b hb).1.2.2.2.1 with z | z
    · exact I.ok.noex b o e z
    · exact absurd (Nat.lt_of_lt_of_le (Heap.lt_size e) (Nat.le_trans I.ok.bsz z)) (Nat.lt_irrefl _)
  · rcases List.mem_cons.mp (I.stkSub b z) with z | z
    · exact (hfp b hb).1.2.1 z
    · exact (hfp b hb).1.2.2.1 z
  · cases i with
    | zero => cases e2
    | succ i =>
      have e1 : (capN caps)[i]? = some y := e1
      have e2 : (capV σ caps)[i]? = some (some v) := e2
      unfold capN at e1
      unfold capV at e2
      rw [List.getElem?_map] at e1 e2
      cases hp : caps[i]? with
      | none => rw [hp] at e1; cases e1
      | some p =>
        rw [hp] at e1 e2
        have ey : p.1 = y := Option.some.inj e1
        have ev : (σ[p.2]?).join = some v := Option.some.inj e2
        have hpm : p ∈ caps := List.mem_of_getElem? hp
        have ev2 : σ[p.2]? = some (some v) := by
          cases q : σ[p.2]? with
          | none => rw [q] at ev; cases ev
          | some w => rw [q] at ev; rw [show w = some v from ev]
        obtain ⟨m0, hn0, hl0⟩ := I.loc
        have hv := C.vis p hpm
        obtain ⟨u, r, l⟩ := hl0 p.2 p.1 v (C.ix p hpm) ev2 (.inr hv)
        subst ey
        refine ⟨u, r, .inr ⟨.inr (C.free p hpm), ?_⟩⟩
        obtain ⟨c, h1, h2⟩ := look (C.free p hpm)
        rcases l with ⟨k, _⟩ | ⟨_, c', e', z⟩
        · have k : X.env.scope.names.lookup p.1 = some .local := k
          rcases hv with k' | k' <;> rw [k'] at k <;> cases k
        · rw [h2] at e'; cases e'
          exact ⟨c, h1, z.keeps hk⟩
  · obtain ⟨w, z⟩ := I.cell y c (lk e).1
    exact ⟨w, z.keeps hk⟩
  · exact I.hok.fresh (Nat.le_refl _)
  · exact I.freeC y c (lk e).1
  · have hp : p ∈ [(s.heap.objs.size + 1, go)] ++ [] := hp
    rw [List.append_nil] at hp
    rw [List.mem_singleton.mp hp]
    exact ⟨hgo, I.hok.fresh (Nat.le_succ _), (Nat.succ_ne_self _), fun hb => by
      rcases List.mem_cons.mp (I.stkSub _ hb) with z | z
      · have h1 := I.lt
        have z' : s.heap.objs.size + 1 = X.env.locals := z
        rw [← z'] at h1
        exact absurd (Nat.lt_of_succ_lt h1) (Nat.lt_irrefl _)
      · exact I.nofs (Nat.le_succ _) z, hgc⟩
  · show (none :: capV σ caps).length = (x :: capN caps).length
    unfold capV capN
    simp
end

/-- woken again: only the generators' table turned -/
structure Woke (s s' : Shared) : Prop where
  heap : s'.heap = s.heap
  os : s'.os = s.os
  bare : AllBare s'.gens
theorem inv_woke {X : Cx} {pins : List (Addr × Obj)} {σ : L2.St} {H : Hp} {s s' : Shared} (I : Inv X pins σ H s) (z : Woke s s') : Inv X pins σ H s' :=
  I.call' (ch := []) z.os (by rw [z.heap]; exact Un.refl) (by rw [z.heap]; exact I.hok) z.bare fun b hb => by simp at hb

section
variable {X : Cx} {N : List Str} {s4 : Shared} {H4 : Hp} {cenv : Env} {fp : List Addr} {pn : List (Addr × Obj)} {J : It} {tn : Nat → Heap → Prop} {σ0 : L2.St} {W : Nat → Nat → Hp → Prop} {Ft Ff : Hp → Prop}

/-- asleep at turn i -/
def At (GX : Cx) (fp : List Addr) (tn : Nat → Heap → Prop) (σ0 : L2.St) (W : Nat → Nat → Hp → Prop) (n : Nat) (s : Shared) : Prop :=
  ∃ i m H, Inv GX [] σ0 H s ∧ tn i s.heap ∧ (∀ b ∈ fp, H b = none) ∧ W i m H ∧ m < n
/-- it has handed out v -/
def Yp (GX : Cx) (fp : List Addr) (tn : Nat → Heap → Prop) (σ0 : L2.St) (W : Nat → Nat → Hp → Prop) (Ff : Hp → Prop) : Protocol := fun n s₀ v s kap =>
  ∃ c, v = .bool c ∧ ((c = true ∧ At GX fp tn σ0 W n s ∧ ∀ s', Woke s s' → kap (.send .none) s') ∨ (c = false ∧ ∃ σ H, Inv GX [] σ H s ∧ Ff H))
def Ep (GX : Cx) (Ft : Hp → Prop) : GenEnd := fun n s₀ r s => r = .ok .next ∧ ∃ σ H, Inv GX [] σ H s ∧ Ft H

theorem stat_of {GX : Cx} {σ' : L2.St} {H' : Hp} {s' : Shared} (hex : GX.ex = fp) (hpn : ∀ p ∈ GX.pn, ∀ b ∈ fp, p.1 ≠ b) (I' : Inv GX [] σ' H' s') (hn : ∀ b ∈ fp, H' b = none) : ∀ b ∈ fp, FpOk GX [] H' b := fun b hb => by
  have hb' : b ∈ GX.ex := by rw [hex]; exact hb
  exact ⟨hn b hb, (I'.ok.exf b hb').1, I'.ok.exfs b hb', .inl hb', fun x c e => (I'.ok.exf b hb').2 x c e, fun p hp => hpn p (by rw [List.append_nil] at hp; exact hp) b hb⟩

theorem seg_loop {A : Around} {P : Program} {w : World} {K : PySem.W.Frag} {elt tg iter : Expr} {scope : Scope} {pos : Pos} {it : Addr} {GX : Cx} {g : TG} {te : TE}
    (hP : GX.prog = P) (hw : GX.w = w) (hK : GX.K = K) (hA : GX.A = A.deeper GX.env) (hcalm : GX.calm = true) (hxe : GX.xe = fun _ _ => False) (hex : GX.ex = fp) (hpn : ∀ p ∈ GX.pn, ∀ b ∈ fp, p.1 ≠ b) (hco : GX.env.scope.isCoroutine = false)
    (T : Turn P w K tg J fp it tn) (pg : PG GX tg g) (pe : PE GX elt te)
    (turn : ∀ i m H, W i m H → (J.stop i H ∧ Ft H) ∨ (J.go i H ∧ ∃ Nx : Hp → Prop, (∀ H', Nx H' → ∃ m', m' < m ∧ W (i + 1) m' H') ∧ ∀ x H', J.yld i H x H' → g x σ0 H' fun σ2 H3 => (∀ (j : Nat) v, σ0[j]? = some (some v) → σ2[j]? = some (some v)) ∧ te σ2 H3 fun y H5 => ∃ c, y = .bl c ∧ if c = true then Nx H5 else Ff H5)) :
    ∀ (n : Nat) (s₀ s : Shared), At GX fp tn σ0 W n s →
      Seg (model P w) A (Ep GX Ft) (Yp GX fp tn σ0 W Ff) n s₀ (.compLoop (.GeneratorExp elt [⟨tg, iter, [], 0⟩] scope pos) 0 (.ref it) .none GX.env)
        ((model P w).den (.compLoop (.GeneratorExp elt [⟨tg, iter, [], 0⟩] scope pos) 0 (.ref it) .none GX.env)) [] s := by
  subst hP hw hK
  have hAo : A.over (.compLoop (.GeneratorExp elt [⟨tg, iter, [], 0⟩] scope pos) 0 (.ref it) .none GX.env) [] = GX.A := over_gen.trans hA.symm
  have noE : ∀ {x : Value} {s' : Shared}, GX.xe x s' → False := fun {x s'} h => by rw [hxe] at h; exact h
  intro n
  induction n with
  | zero =>
    intro s₀ s h
    obtain ⟨i, m, H, _, _, _, _, hm⟩ := h
    exact absurd hm (Nat.not_lt_zero _)
  | succ n ih =>
    intro s₀ s h
    obtain ⟨i, m, H, I, st, nf, wi, hm⟩ := h
    show Seg _ A _ _ _ s₀ _ ((compTurn (.GeneratorExp elt [⟨tg, iter, [], 0⟩] scope pos) 0 (.ref it) .none GX.env).onRaise (leaving GX.env)) [] s
    rw [compTurn_gen, Sem.onRaise_eq_wrap]
    refine seg_bind_wrap (wpAny_standAt ?_)
    rcases turn i m H wi with ⟨stop, ft⟩ | ⟨go, Nx, hNx, step⟩
    · refine seg_bind_wrap ?_
      rw [hAo]
      refine thnF (T.done GX rfl rfl rfl hcalm i [] s _ H (fun _ _ => False) I (stat_of hex hpn I nf) st stop) fun r s1 ⟨hr, I1⟩ => ?_
      subst hr
      exact seg_end (.ok .next) ⟨rfl, _, H, I1, ft⟩
    · refine seg_bind_wrap ?_
      rw [hAo]
      refine thnF (T.item GX rfl rfl rfl hcalm i [] s _ H (fun _ _ => False) I (stat_of hex hpn I nf) st go) fun r s1 ⟨u, hr, h1⟩ => ?_
      subst hr
      refine seg_bind_wrap ?_
      rw [hAo]
      refine thnF h1 fun _ s2 ⟨x, H2, I2, r2, y2, st2, n2⟩ => ?_
      have I2' := I2.pinned (stat_of hex hpn I2 n2) (T.obj _ _ st2)
      refine seg_bind_wrap ?_
      rw [hAo]
      refine wpAny_mono (pg.run _ s2 _ H2 x u _ I2' r2 (step x H2 y2)) (fun _ s3 ⟨σ3, H3, I3, hl3, q3⟩ => ?_) fun _ _ hx => (noE hx).elim
      refine seg_bind_wrap (wpAny_tests_nil ?_)
      simp only [if_true]
      have hy : ∀ v, yieldOut GX.env v = yieldValue v := fun v => by simp only [yieldOut, hco, Bool.false_eq_true, if_false]
      simp only [hy]
      rw [Sem.bind_eq_wrap', Sem.bind_eq_wrap', Sem.wrap_wrap, Sem.wrap_wrap]
      refine seg_wrap ?_
      rw [hAo]
      refine wpAny_mono (pe.run _ s3 σ3 H3 _ I3 q3) (fun y s5 ⟨yv, H5, I5, r5, c, ey, q5⟩ => ?_) fun _ _ hx => (noE hx).elim
      subst ey
      have ev : y = Value.bool c := r5
      subst ev
      have pin' : ∀ b ∈ fp, ∀ o, s2.heap.get? b = some o → s5.heap.get? b = some o ∧ H5 b = none := fun b hb o e =>
        let z := I5.pin (b, o) (List.mem_append_right _ (List.mem_append_right _ (mem_pinsAt hb e)))
        ⟨z.1, z.2.1⟩
      have I6 : Inv GX [] σ0 H5 s5 := (I5.unpinned (pins := [])).weak (by rw [I.len, I5.len]) hl3
      have st6 : tn (i + 1) s5.heap := T.keep _ _ _ st2 fun b hb o e => (pin' b hb o e).1
      have n6 : ∀ b ∈ fp, H5 b = none := fun b hb => by
        obtain ⟨o, e, _⟩ := T.obj _ _ st2 b hb
        exact (pin' b hb o e).2
      refine seg_at (seg_yield rfl rfl rfl ⟨c, rfl, ?_⟩)
      cases c with
      | true =>
        obtain ⟨m', hm', w'⟩ := hNx H5 q5
        refine .inl ⟨rfl, ⟨i + 1, m', H5, I6, st6, n6, w', by omega⟩, fun s' z => ?_⟩
        exact seg_again rfl (ih s' s' ⟨i + 1, m', H5, inv_woke I6 z, by rw [z.heap]; exact st6, n6, w', by omega⟩)
      | false => exact .inr ⟨rfl, _, H5, I6, q5⟩
theorem seg_begin {A : Around} {P : Program} {w : World} {K : PySem.W.Frag} {elt tg iter : Expr} {scope : Scope} {pos : Pos} {it : Addr} {GX : Cx} {n : Nat} {s₀ s : Shared} {R : GenEnd} {Y : Protocol} {i : Nat}
    (T : Turn P w K tg J fp it tn) (st : tn i s.heap)
    (loop : Seg (model P w) A R Y n s₀ (.compLoop (.GeneratorExp elt [⟨tg, iter, [], 0⟩] scope pos) 0 (.ref it) .none GX.env) ((model P w).den (.compLoop (.GeneratorExp elt [⟨tg, iter, [], 0⟩] scope pos) 0 (.ref it) .none GX.env)) [] s) :
      Seg (model P w) A R Y n s₀ (.compStart (.GeneratorExp elt [⟨tg, iter, [], 0⟩] scope pos) 0 (.ref it) .none GX.env)
        ((model P w).den (.compStart (.GeneratorExp elt [⟨tg, iter, [], 0⟩] scope pos) 0 (.ref it) .none GX.env)) [] s := by
  show Seg _ A _ _ _ s₀ _ ((compStart (.GeneratorExp elt [⟨tg, iter, [], 0⟩] scope pos) 0 (.ref it) .none GX.env).onRaise (leaving GX.env)) [] s
  unfold compStart
  rw [Sem.onRaise_eq_wrap]
  show Seg _ A _ _ _ s₀ _ ((ask >>= _).wrap _ _ _ _) [] s
  refine seg_bind_wrap (wpAny_askSetting ?_)
  split
  · exact seg_again rfl loop
  · first
      | exact seg_bind_wrap (wpAny_rule (seg_bind_wrap (wpAny_standAt (seg_bind_wrap (T.self _ i s _ _ st (seg_again rfl loop))))))
      | (refine seg_bind_wrap (wpAny_rule ?_); show Seg _ A _ _ _ s₀ _ ((standAt iter.pos >>= _).wrap _ _ _ _) [] s; exact seg_bind_wrap (wpAny_standAt (seg_bind_wrap (T.self _ i s _ _ st (seg_again rfl loop)))))

theorem all_loop {A : Around} {P : Program} {w : World} {GX : Cx} {a : Addr} {g : Nat} {go : Obj} {R : Result → Shared → Prop}
    (hh : A.handled = none) (hd : A.depth < recursionLimit) (hgo : ∀ h : Heap, h.get? a = some go → h.IsGen a g) (hpn : (a, go) ∈ GX.pn)
    (hT : ∀ σ H s', Inv GX [] σ H s' → Ft H → R (.ok (.ret (.bool true))) s') (hF : ∀ σ H s', Inv GX [] σ H s' → Ff H → R (.ok (.ret (.bool false))) s') :
    ∀ (n : Nat) (s : Shared), s.heap.IsGen a g → s.heap.NoLimit →
      (∃ gs, s.gens[g]? = some gs ∧ gs.Goes (model P w) A.in1.in1 (Ep GX Ft) (Yp GX fp tn σ0 W Ff) n (.send .none) (s.setGen g .running)) →
      codeAny (model P w) A (.builtin "all.loop" ⟨[.ref a], []⟩) R s := by
  have goes : ∀ {gs : GenState} {B : Around} {n : Nat} {r : Resume} {s : Shared}, gs.Goes (model P w) B (Ep GX Ft) (Yp GX fp tn σ0 W Ff) n r s →
      gs.Goes (model P w) B (fun n s₀ r s₁ => r = .ok .next ∧ (fun (_ : Nat) (_ : Shared) s₁ => ∃ σ H, Inv GX [] σ H s₁ ∧ Ft H) n s₀ s₁) (Yp GX fp tn σ0 W Ff) n r s := fun h => h
  have pinned : ∀ {σ H s'}, Inv GX [] σ H s' → s'.heap.IsGen a g := fun {σ H s'} J => hgo _ (J.pin (a, go) (List.mem_append_left _ hpn)).1
  intro n
  induction n with
  | zero =>
    intro s hg hl ⟨gs, hgs, hgo'⟩
    refine codeAny_builtin F.entry_all_loop ?_
    rw [Around.under_plainId F.plain_all_loop _]
    show wpAny _ A.in1 (pyNext (.ref a) >>= _) _ _ s
    refine wpAny_bind (wpAny_pyNext_genexpQ (A := A.in1) hh hl hd hg hgs (goes hgo') (fun v s₁ gs' hbare hv => ?_) (fun s₁ hp h' hk => ?_))
    · obtain ⟨c, rfl, h⟩ := hv
      refine wpAny_bind (wpAny_holding (wpAny_truthy_bool ?_))
      refine wpAny_bind (wpAny_letGo ?_)
      rcases h with ⟨rfl, _, hk⟩ | ⟨rfl, σ, H, I, ff⟩
      · exact False.elim (hk s₁ ⟨rfl, rfl, (by
          obtain ⟨_, _, _, I1, _⟩ := ‹At _ _ _ _ _ _ _›
          exact I1.bare)⟩)
      · simp only [Bool.false_eq_true, if_false]
        refine wpAny_bind (wpAny_rule (wpAny_pure ?_))
        exact hF σ H _ (inv_woke I ⟨rfl, rfl, allBare_setGen I.bare hbare⟩) ff
    · obtain ⟨σ, H, I, ft⟩ := hp
      refine wpAny_bind (wpAny_rule (wpAny_pure ?_))
      have I2 : Inv GX [] σ H (s₁.setGen g .finished) := inv_woke I ⟨rfl, rfl, allBare_setGen I.bare rfl⟩
      exact hT σ H _ (I2.call' (ch := []) rfl (Un.kept hk) (I2.hok.kept hk) I2.bare fun b hb => by simp at hb) ft
  | succ n ih =>
    intro s hg hl ⟨gs, hgs, hgo'⟩
    have hgl : g < s.gens.size := (Array.getElem?_eq_some_iff.mp hgs).1
    refine codeAny_builtin F.entry_all_loop ?_
    rw [Around.under_plainId F.plain_all_loop _]
    show wpAny _ A.in1 (pyNext (.ref a) >>= _) _ _ s
    refine wpAny_bind (GenW.wpAny_gsz (n := g + 1) hgl (wpAny_pyNext_genexpQ (A := A.in1) hh hl hd hg hgs (goes hgo') (fun v s₁ gs' hbare hv => ?_) (fun s₁ hp h' hk => ?_)))
    · intro hsz
      obtain ⟨c, rfl, h⟩ := hv
      refine wpAny_bind (wpAny_holding (wpAny_truthy_bool ?_))
      refine wpAny_bind (wpAny_letGo ?_)
      rcases h with ⟨rfl, hat, hk⟩ | ⟨rfl, σ, H, I, ff⟩
      · simp only [if_true]
        obtain ⟨_, _, _, I1, _⟩ := id hat
        have hsz1 : g < s₁.gens.size := by
          have q : (s₁.setGen g gs').gens.size = s₁.gens.size := GenW.setGen_size _ _ _
          have hsz' : g + 1 ≤ (s₁.setGen g gs').gens.size := hsz
          omega
        refine wpAny_pure ⟨plainId_quiet F.plain_all_loop _, ih (s₁.setGen g gs') (show s₁.heap.IsGen a g from pinned I1) (show s₁.heap.NoLimit from I1.nolimit) ⟨gs', setGen_at hsz1, ?_⟩⟩
        exact hk _ ⟨rfl, rfl, allBare_setGen (allBare_setGen I1.bare hbare) rfl⟩
      · simp only [Bool.false_eq_true, if_false]
        refine wpAny_bind (wpAny_rule (wpAny_pure ?_))
        exact hF σ H _ (inv_woke I ⟨rfl, rfl, allBare_setGen I.bare hbare⟩) ff
    · intro _
      obtain ⟨σ, H, I, ft⟩ := hp
      refine wpAny_bind (wpAny_rule (wpAny_pure ?_))
      have I2 : Inv GX [] σ H (s₁.setGen g .finished) := inv_woke I ⟨rfl, rfl, allBare_setGen I.bare rfl⟩
      exact hT σ H _ (I2.call' (ch := []) rfl (Un.kept hk) (I2.hok.kept hk) I2.bare fun b hb => by simp at hb) ft
end

/-- all(elt for tg in iter), its element True or False; behind it the def's table may have grown.
W by the turn and a measure; a turn that gives False ends it -/
def tAllG (P : Addr) (wi : TI) (g : TG) (te : TE) (caps : List (Str × Nat)) : TE := fun σ H Q => wi σ H fun J H1 => TabG H1 P ∧ ∀ H2, Tabbed P H1 H2 →
  ∃ W : Nat → Nat → Hp → Prop, (∃ m, W 0 m H2) ∧ ∀ i m H, W i m H → (J.stop i H ∧ Q (.bl true) H) ∨
    (J.go i H ∧ ∃ Nx : Hp → Prop, (∀ H', Nx H' → ∃ m', m' < m ∧ W (i + 1) m' H') ∧ ∀ x H', J.yld i H x H' → g x (none :: capV σ caps) H' fun σ2 H3 =>
      (∀ (j : Nat) v, (none :: capV σ caps : L2.St)[j]? = some (some v) → σ2[j]? = some (some v)) ∧ te σ2 H3 fun y H5 => ∃ c, y = .bl c ∧ if c = true then Nx H5 else Q (.bl false) H5)

theorem pe_allG {X : Cx} {c P : Addr} {elt tg iter : Expr} {x : Str} {p pos gpos : Pos} {scope : Scope} {wi : TI} {g : TG} {te : TE} {k : Nat} {caps : List (Str × Nat)}
    (hr : Room (k + 1) X.A) (hg : Gl X "all") (hm : X.mg "all" = none) (TB : TabB X.base X.mg c P) (hcode : X.env.code = .ref c) (S : GenS X.env scope x) (C : Caps X scope caps) (hi : PI X tg iter wi) (hcalm : X.calm = true)
    (pg : ∀ (s : Shared) (H : Hp) (a : Addr) (code : Value) (fp : List Addr) (pn : List (Addr × Obj)), PG (gx X (x :: capN caps) s H (genEnv scope (cloFrom X.env.cells scope.names []) a code builtinsNs X.env) fp pn) tg g)
    (pe : ∀ (s : Shared) (H : Hp) (a : Addr) (code : Value) (fp : List Addr) (pn : List (Addr × Obj)), Room k (gx X (x :: capN caps) s H (genEnv scope (cloFrom X.env.cells scope.names []) a code builtinsNs X.env) fp pn).A → PE (gx X (x :: capN caps) s H (genEnv scope (cloFrom X.env.cells scope.names []) a code builtinsNs X.env) fp pn) elt te)
    (hb : bootBuiltins "all" = some (.builtin "all") := by decide +kernel)
    (hs : ∀ v, genFold iter X.env v = pure v := by intro _; rfl)
    (he : starEach [.GeneratorExp elt [⟨tg, iter, [], 0⟩] scope gpos] X.env = (false, eval (.GeneratorExp elt [⟨tg, iter, [], 0⟩] scope gpos) X.env) :: starEach [] X.env := by rfl) :
    PE X (.Call (.Name "all" p) [.GeneratorExp elt [⟨tg, iter, [], 0⟩] scope gpos] [] pos) (tAllG P wi g te caps) := by
  refine ⟨fun pins s σ H Q I h => ?_⟩
  refine wpAny_Call_Name_kw (ld_blt I hg hm hb ?_)
  refine PyProof.Rows.callWith_builtin1 ?_ he (by rfl)
  rw [he]
  show wpAny _ _ (spliced ((false, eval (.GeneratorExp elt [⟨tg, iter, [], 0⟩] scope gpos) X.env) :: backTo pos (starEach [] X.env))) _ _ s
  refine Calls.spliced_cons ?_
  refine wpAny_mono (Q := fun v s5 => wpAny (model X.prog X.w) X.A (call (.builtin "all") [v]) (EP X pins σ Q) X.xe s5) ?_ (fun v s5 hq => Calls.spliced_nil hq) fun _ _ h => h
  refine wpAny_GeneratorExp_make S.co (closure_ok S.free) S.cell S.dot S.kind (by have := hr.dp; omega) ?_ hs
  refine thn (hi.run pins s σ H _ I h) fun xv s1 h1 => thn h1 fun itv s2 h2 => ?_
  obtain ⟨it, fp, tn, J, H2, ei, I2, T, st2, f2, ⟨ps, hP, ht⟩, q⟩ := h2
  subst ei
  refine ⟨I2.nolimit, ?_⟩
  have hPs : s2.heap.get? P = some { cls := .none, data := .fields ps } := I2.hok P _ hP
  have hPlt : P < s2.heap.objs.size := Heap.lt_size hPs
  have cd : PySem.W.CodeHd s2.heap c P := TB.code.keeps fun b u e => I2.bk b u e
  have lim2 : s2.heap.NoLimit := I2.nolimit
  have fpP : ∀ b ∈ fp, b ≠ P := fun b hb z => by
    have q := (f2 b hb).1
    rw [z, hP] at q
    cases q
  have cont : ∀ (code : Value) (h3 : Heap) (tk : Nat) (ps' : Array Value), Heap.ExtBut P s2.heap h3 → s2.heap.objs.size ≤ h3.objs.size → h3.get? P = some { cls := .none, data := .fields ps' } → (∃ more, ps' = ps ++ more) → TriplesOk ps'.toList →
      wpAny (model X.prog X.w) X.A (builtinsFor X.env.globals X.env.builtins) (fun bi s₄ =>
        ∀ h', h'.Ns s₄.heap.objs.size (fun y => if y = ".0" then some (.ref it) else none) → Heap.SameBut s₄.heap.objs.size (s₄.heap.push { cls := .type "frame", data := .dict #[] }) h' →
          wpAny (model X.prog X.w) X.A (call (.builtin "all") [.ref h'.objs.size]) (EP X pins σ Q) X.xe { s₄ with
            gens := s₄.gens.push (.fresh (.compStart (.GeneratorExp elt [⟨tg, iter, [], 0⟩] scope gpos) 0 (.ref it) .none (genEnv scope (cloFrom X.env.cells scope.names []) s₄.heap.objs.size code bi X.env))),
            toks := s₄.toks + 1 + 1 + 1,
            heap := h'.push { cls := .type "generator", data := .fields #[.int s₄.gens.size 0, .str "<genexpr>" (s₄.toks + 1), .str (X.env.qual ++ "<genexpr>") (s₄.toks + 1 + 1)] } }) X.xe { s2 with heap := h3, toks := tk } := by
    intro code h3 tk ps' hx hsz hP3 hmore ht3
    obtain ⟨bm, ob, e1, e2, e3, e4, e5, e6, e7, e8⟩ := TB.bm
    obtain ⟨more, em⟩ := hmore
    have keep3 : ∀ b u, b ≠ P → s2.heap.get? b = some u → h3.get? b = some u := fun b u hb e => hx b u hb e
    refine wpAny_builtinsFor (m := X.mg) (by rw [I2.ok.glob]; exact (I2.mod.glob.keeps I2.bk).extBut hx TB.gP) e1 e2 (keep3 _ _ e4 (I2.bk _ _ e5)) e6 e7 e8 ?_
    have I4 : Inv X pins σ (upd H2 P (.tbl (ps ++ more))) { s2 with heap := h3, toks := tk } := inv_tab (g' := s2.gens) (d' := s2.drawn) I2 hP keep3 (by rw [← em]; exact hP3) I2.bare
    obtain ⟨W, ⟨m0, w0⟩, turn⟩ := q (upd H2 P (.tbl (ps ++ more))) ⟨⟨ps ++ more, upd_same, by rw [← em]; exact ht3⟩, fun b hb => upd_ne hb⟩
    generalize hs4 : ({ s2 with heap := h3, toks := tk } : Shared) = s4 at I4 ⊢
    have g4 : s4.gens = s2.gens := by rw [← hs4]
    have hh4 : s4.heap = h3 := by rw [← hs4]
    intro h' hn' hs'
    have hz' : h'.objs.size = s4.heap.objs.size + 1 := by rw [hs'.1, Heap.size_push]
    generalize hgo : ({ cls := .type "generator", data := .fields #[.int s4.gens.size 0, .str "<genexpr>" (s4.toks + 1), .str (X.env.qual ++ "<genexpr>") (s4.toks + 1 + 1)] } : Obj) = go
    have isG : ∀ h : Heap, h.get? h'.objs.size = some go → h.IsGen h'.objs.size s4.gens.size := fun h e => ⟨go, _, _, e, by rw [← hgo], by rw [← hgo], by rw [← hgo]⟩
    have keep' : ∀ b o, s4.heap.get? b = some o → h'.get? b = some o := fun b o e => hs'.extBut b o (Nat.ne_of_lt (Heap.lt_size e)) (Heap.get?_push_of_some _ e)
    have keep5 : ∀ b o, s4.heap.get? b = some o → (h'.push go).get? b = some o := fun b o e => Heap.get?_push_of_some _ (keep' b o e)
    have hpush : (h'.push go).get? h'.objs.size = some go := by
      rw [← hgo]
      exact Heap.get?_push_size _ rfl
    generalize hs5 : ({ s4 with gens := s4.gens.push (.fresh (.compStart (.GeneratorExp elt [⟨tg, iter, [], 0⟩] scope gpos) 0 (.ref it) .none (genEnv scope (cloFrom X.env.cells scope.names []) s4.heap.objs.size code builtinsNs X.env))), toks := s4.toks + 1 + 1 + 1, heap := h'.push go } : Shared) = s5
    have h5h : s5.heap = h'.push go := by rw [← hs5]
    have h5g : s5.gens = s4.gens.push (.fresh (.compStart (.GeneratorExp elt [⟨tg, iter, [], 0⟩] scope gpos) 0 (.ref it) .none (genEnv scope (cloFrom X.env.cells scope.names []) s4.heap.objs.size code builtinsNs X.env))) := by rw [← hs5]
    have b5 : AllBare s5.gens := by rw [h5g]; exact AllBare.push I4.bare rfl
    have f4 : ∀ b ∈ fp, FpOk X pins (upd H2 P (.tbl (ps ++ more))) b ∧ b < s4.heap.objs.size := fun b hb => by
      refine ⟨⟨?_, (f2 b hb).2⟩, ?_⟩
      · rw [upd_ne (fpP b hb)]
        exact (f2 b hb).1
      · obtain ⟨o, e, _⟩ := T.obj _ _ st2 b hb
        rw [hh4]
        exact Nat.lt_of_lt_of_le (Heap.lt_size e) hsz
    have I5 := gen_start (s5 := s5) (go := go) (code := code) (fp := fp) I4 S C hr.hd f4 (by rw [← hs5]) b5 (by rw [h5h]; exact keep5) (by rw [h5h]; exact hn'.push _) (by rw [h5h, ← hz']; exact hpush) (fun v z => by rw [← hgo] at z; cases z)
    have st5 : tn 0 s5.heap := T.keep _ _ _ st2 fun b hb o e => by
      rw [h5h]
      exact keep5 b o (by rw [hh4]; exact keep3 b o (fpP b hb) e)
    have n5 : ∀ b ∈ fp, upd H2 P (.tbl (ps ++ more)) b = none := fun b hb => (f4 b hb).1.1
    have hpn : ∀ p ∈ [(s4.heap.objs.size + 1, go)], ∀ b ∈ fp, p.1 ≠ b := fun p hp b hb z => by
      rw [List.mem_singleton.mp hp] at z
      have := (f4 b hb).2
      have z' : s4.heap.objs.size + 1 = b := z
      rw [← z'] at this
      exact absurd (Nat.lt_of_succ_lt this) (Nat.lt_irrefl _)
    rw [hz'] at isG hpush ⊢
    have back : ∀ {σ' : L2.St} {H' : Hp} {s' : Shared}, Inv (gx X (x :: capN caps) s4 (upd H2 P (.tbl (ps ++ more))) (genEnv scope (cloFrom X.env.cells scope.names []) s4.heap.objs.size code builtinsNs X.env) fp [(s4.heap.objs.size + 1, go)]) [] σ' H' s' → Inv X pins σ H' s' := fun {σ' H' s'} J =>
      I4.call' (ch := fp) J.os J.base J.hok J.bare fun b hb => ⟨(f4 b hb).1.2.2.2.1, (f4 b hb).1.2.1, (f4 b hb).1.2.2.2.2.1, (f4 b hb).1.2.2.2.2.2⟩
    have rmk : Room k (X.A.in1.in1.deeper (genEnv scope (cloFrom X.env.cells scope.names []) s4.heap.objs.size code builtinsNs X.env)) := ⟨hr.hd, by have := hr.dp; show X.A.depth + 1 + 3 * k + 5 < _; omega, by have := hr.un; show X.A.units + 1 + 1 + 3 + 16 * k + 200 < _; omega⟩
    have hg5 : s5.heap.IsGen (s4.heap.objs.size + 1) s4.gens.size := isG _ (by rw [h5h]; exact hpush)
    refine call_function_tree F.kind_all F.plain_all F.entry_all (F.args_all1 _) ?_
    unfold Builtin.«all»
    refine wpAny_bind (m := oneArg "all" _) (wpAny_pure ?_)
    refine wpAny_bind (wpAny_pyIter_gen hg5 ?_)
    refine wpAny_pure ⟨plainId_quiet F.plain_all_loop _, ?_⟩
    refine all_loop (GX := gx X (x :: capN caps) s4 (upd H2 P (.tbl (ps ++ more))) (genEnv scope (cloFrom X.env.cells scope.names []) s4.heap.objs.size code builtinsNs X.env) fp [(s4.heap.objs.size + 1, go)]) (fp := fp) (tn := tn) (σ0 := none :: capV σ caps) (W := W) (Ft := fun H' => Q (.bl true) H') (Ff := fun H' => Q (.bl false) H')
      (go := go) hr.hd (by have := hr.dp; omega) isG (List.mem_singleton.mpr rfl) (fun σ' H' s' J ft => ?_) (fun σ' H' s' J ff => ?_) (m0 + 1) s5 hg5 I5.nolimit ⟨.fresh (.compStart (.GeneratorExp elt [⟨tg, iter, [], 0⟩] scope gpos) 0 (.ref it) .none (genEnv scope (cloFrom X.env.cells scope.names []) s4.heap.objs.size code builtinsNs X.env)), by rw [h5g]; exact Array.getElem?_push_size .., ⟨rfl, ?_⟩⟩
    · exact ⟨.bl true, H', back J, rfl, ft⟩
    · exact ⟨.bl false, H', back J, rfl, ff⟩
    · have I5' : Inv (gx X (x :: capN caps) s4 (upd H2 P (.tbl (ps ++ more))) (genEnv scope (cloFrom X.env.cells scope.names []) s4.heap.objs.size code builtinsNs X.env) fp [(s4.heap.objs.size + 1, go)]) [] (none :: capV σ caps) (upd H2 P (.tbl (ps ++ more))) (s5.setGen s4.gens.size .running) := inv_woke I5 ⟨rfl, rfl, allBare_setGen b5 rfl⟩
      refine seg_begin (GX := gx X (x :: capN caps) s4 (upd H2 P (.tbl (ps ++ more))) (genEnv scope (cloFrom X.env.cells scope.names []) s4.heap.objs.size code builtinsNs X.env) fp [(s4.heap.objs.size + 1, go)]) T (i := 0) st5 ?_
      refine seg_loop (A := X.A.in1.in1) (GX := gx X (x :: capN caps) s4 (upd H2 P (.tbl (ps ++ more))) (genEnv scope (cloFrom X.env.cells scope.names []) s4.heap.objs.size code builtinsNs X.env) fp [(s4.heap.objs.size + 1, go)]) rfl rfl rfl rfl hcalm rfl rfl hpn S.co T (pg s4 _ _ code fp _) (pe s4 _ _ code fp _ rmk) turn (m0 + 1) _ _ ⟨0, m0, _, I5', st5, n5, w0, Nat.lt_succ_self _⟩
  cases hf : codeAmong gpos ps.toList with
  | none =>
    refine wpAny_genexprCodeX hcode (cd.code hPs ht) (cd.tab hPs) hf fun c' h' tk hx hge hlt hco' _ htab' _ => ?_
    obtain ⟨o1, vs, f1, tf, fl, tg', inF, tx, tt, op, _, _, _, _, _, _, _, _, _, htr, _⟩ := hco'
    exact cont _ h' tk _ hx (Nat.le_trans hge (Nat.le_of_lt hlt)) htab'.2 ⟨_, rfl⟩ htr
  | some cv =>
    refine wpAny_genexprCode_hit hcode (cd.code hPs ht) hf ?_
    exact cont cv s2.heap s2.toks ps (Heap.ExtBut.refl _ _) (Nat.le_refl _) hPs ⟨#[], by simp⟩ ht
end Gx

/-! Promises of defs that are called where no repr is under way: room and no guards. -/
namespace Gd
open PySem PySem.Spec PyProof.Rows L2 GxR Gx

structure RoomG (k : Nat) (A : Around) : Prop where
  r : Room k A
  g : A.guards = some []
theorem RoomG.mono {j k : Nat} {A : Around} (r : RoomG k A) (h : j ≤ k) : RoomG j A := ⟨r.r.mono h, r.g⟩
theorem RoomG.deeper {k : Nat} {A : Around} (r : RoomG (k + 1) A) (env : Env) : RoomG k (A.deeper env) := ⟨r.r.deeper env, r.g⟩

/-- a def's promise, kept wherever no guard is up -/
structure FnG (P : Program) (w : World) (K : PySem.W.Frag) (mg : Str → Option Value) (base : Heap) (CX : CXT) (k : Nat) (f : Addr) (fd : FuncData) (ps : List Str) (sp : Sp) : Prop where
  len : ∀ vs H Q E, sp vs H Q E → vs.length = ps.length
  run : ∀ (A : Around) (outer : List Env) (s : Shared) (H : Hp) (args : Args) (us : List Value) (vs : List V) (Q : VK) (E : XK), RoomG k A → Env0 P w K mg base A outer s H → BindsTo s fd args (ps.zip us) → Vals vs us → sp vs H Q E →
    codeAny (model P w) A (.call (.ref f) args) (CR CX outer P w H s Q E) s

section
variable {P : Program} {w : World} {K : PySem.W.Frag} {mg : Str → Option Value} {base : Heap} {CX : CXT} {k : Nat} {f : Addr} {fd : FuncData} {ps : List Str} {sp : Sp}

theorem FnG.mono {j : Nat} (F : FnG P w K mg base CX j f fd ps sp) (h : j ≤ k) : FnG P w K mg base CX k f fd ps sp := ⟨F.len, fun A outer s H args us vs Q E hr => F.run A outer s H args us vs Q E (hr.mono h)⟩
theorem FnG.imp {sp' : Sp} (F : FnG P w K mg base CX k f fd ps sp) (h : ∀ vs H Q E, sp' vs H Q E → sp vs H Q E) : FnG P w K mg base CX k f fd ps sp' :=
  ⟨fun vs H Q E q => F.len vs H Q E (h _ _ _ _ q), fun A outer s H args us vs Q E hr he hb hv hs => F.run A outer s H args us vs Q E hr he hb hv (h _ _ _ _ hs)⟩
/-- a promise kept everywhere -/
theorem FnG.of (F : FnOk P w K mg base CX k f fd ps sp) : FnG P w K mg base CX k f fd ps sp := ⟨F.len, fun A outer s H args us vs Q E hr => F.run A outer s H args us vs Q E hr.r⟩
/-- nothing is raised: any word for what is raised will do -/
theorem FnG.calm0 {CX' : CXT} (F : FnG P w K mg base CX0 k f fd ps sp) : FnG P w K mg base CX' k f fd ps sp := ⟨F.len, fun A outer s H args us vs Q E hr he hb hv hs => codeAny_mono (F.run A outer s H args us vs Q E hr he hb hv hs) fun r s' q => by
  cases r with
  | error e => exact False.elim q
  | ok fl => cases fl <;> exact q⟩

theorem fnG_of {name qual : Str} {params : Arguments} {body : List Stmt} {scope : Scope} {dV kV doc pm cdv ct oc : Value} {an od : Option Addr} {osl : Array (Option Value)} {N : List Str}
    (lk : K.lookup f = some ⟨oc, od, .func (PySem.W.fnOf name qual params body scope dV kV doc pm an cdv ct), osl⟩) (hcd : PySem.W.codeIn K cdv qual = true) (S : FnScope N ps scope) (len : ∀ vs H Q E, sp vs H Q E → vs.length = ps.length)
    (hbody : ∀ (A : Around) (outer : List Env) (s : Shared) (H : Hp) (vs : List V) (Q : VK) (E : XK), RoomG k (A.deeper (envOfC qual scope s.heap.objs.size f cdv)) → sp vs H Q E →
      ∃ t, PSs (cxOf CX P w K mg base N qual scope f cdv A outer s H E) body t ∧ t { nx := fun _ H' => Q .non H', rt := Q } (start N vs) H) :
    FnG P w K mg base CX (k + 1) f (PySem.W.fnOf name qual params body scope dV kV doc pm an cdv ct) ps sp := by
  refine ⟨len, fun A outer s H args us vs Q E hr e0 hb r hsp => ?_⟩
  have kin : K.In s.heap := e0.mod.kin.keeps fun b o e => (e0.bs b o e).1
  have lim : s.heap.NoLimit := e0.mod.nolimit.keeps fun b o e => (e0.bs b o e).1
  have par : ∀ y ∈ ps.zip us, scope.names.lookup y.1 = some .local ∨ (scope.names.lookup y.1 = some .cell ∧ ((cellsFrom (s.heap.objs.size + 1) scope.names []).lookup y.1).isSome = true) := fun ⟨n, v⟩ hy => by
    have hn := (List.of_mem_zip hy).1
    rcases S.par n hn with q | q
    · exact .inl q
    · exact .inr ⟨q, PySem.W.cellsFrom_some _ _ _ (.inl q)⟩
  refine codeAny_call_function hr.r.depth (kin _ _ lk) rfl S.co S.gen rfl (PySem.W.codeRec_of kin hcd) (hb _ _ _ _ ?_)
  refine wpAny_newFunctionEnv_cells S.kind par fun env he s1 x => ?_
  subst he
  refine ⟨lim.keeps x.toInCall.keep, codeAny_func ?_⟩
  obtain ⟨t, ht, hq⟩ := hbody A outer s H vs Q E (hr.deeper _) hsp
  refine wpAny_mono (ht.run [] s1 (start N vs) H _ (inv_start S hr.r.hd e0 (len _ _ _ _ hsp) r x) hq) (fun fl s' hs => ?_) fun e s' hs => hs
  cases fl with
  | ret u =>
    obtain ⟨v, σ', H', J, rv, q⟩ := hs
    exact ⟨v, H', J.os, J.bare, J.base, J.hok, rv, q⟩
  | next =>
    obtain ⟨σ', H', J, q⟩ := hs
    exact ⟨.non, H', J.os, J.bare, J.base, J.hok, rfl, q⟩
  | brk =>
    obtain ⟨_, _, _, q⟩ := hs
    exact q.elim
  | cont =>
    obtain ⟨_, _, _, q⟩ := hs
    exact q.elim
end

section
variable {P : Program} {w : World} {K : PySem.W.Frag} {mg : Str → Option Value} {base : Heap}
/-- a def that lets nothing out, by its body -/
theorem okG {x qual : Str} {st : Stmt} {f : Addr} {fd : FuncData} {N ps : List Str} {k : Nat} {sp : Sp} (F : Fun K x qual st f fd) (S : FnScope N ps (defScope st)) (len : ∀ vs H Q E, sp vs H Q E → vs.length = ps.length)
    (hbody : ∀ (cdv : Value) (A : Around) (outer : List Env) (s : Shared) (H : Hp) (vs : List V) (Q : VK) (E : XK), RoomG k (A.deeper (envOfC qual (defScope st) s.heap.objs.size f cdv)) → sp vs H Q E →
      ∃ t, PSs (cxOf CX0 P w K mg base N qual (defScope st) f cdv A outer s H E).nox (defBody st) t ∧ t { nx := fun _ H' => Q .non H', rt := Q } (start N vs) H) : FnG P w K mg base CX0 (k + 1) f fd ps sp := by
  obtain ⟨oc, od, kV, doc, pm, an, cdv, ct, osl, rfl, lk, hcd⟩ := F.ex
  refine fnG_of lk hcd S len fun A outer s H vs Q E hr hsp => ?_
  obtain ⟨t, h, q⟩ := hbody cdv A outer s H vs Q E hr hsp
  exact ⟨t, h.nox, q⟩
/-- a def whose code is at c, its table at T -/
theorem okGc {x qual : Str} {st : Stmt} {f c : Addr} {fd : FuncData} {N ps : List Str} {k : Nat} {sp : Sp} (F : Fun K x qual st f fd) (hc : fd.code = .ref c) (S : FnScope N ps (defScope st)) (len : ∀ vs H Q E, sp vs H Q E → vs.length = ps.length)
    (hbody : ∀ (A : Around) (outer : List Env) (s : Shared) (H : Hp) (vs : List V) (Q : VK) (E : XK), RoomG k (A.deeper (envOfC qual (defScope st) s.heap.objs.size f (.ref c))) → sp vs H Q E →
      ∃ t, PSs (cxOf CX0 P w K mg base N qual (defScope st) f (.ref c) A outer s H E).nox (defBody st) t ∧ t { nx := fun _ H' => Q .non H', rt := Q } (start N vs) H) : FnG P w K mg base CX0 (k + 1) f fd ps sp := by
  obtain ⟨oc, od, kV, doc, pm, an, cdv, ct, osl, rfl, lk, hcd⟩ := F.ex
  obtain rfl : cdv = .ref c := hc
  refine fnG_of lk hcd S len fun A outer s H vs Q E hr hsp => ?_
  obtain ⟨t, h, q⟩ := hbody A outer s H vs Q E hr hsp
  exact ⟨t, h.nox, q⟩
/-- a def that may raise -/
theorem okGX {x qual : Str} {st : Stmt} {f : Addr} {fd : FuncData} {N ps : List Str} {k : Nat} {sp : Sp} (F : Fun K x qual st f fd) (S : FnScope N ps (defScope st)) (len : ∀ vs H Q E, sp vs H Q E → vs.length = ps.length)
    (hbody : ∀ (cdv : Value) (A : Around) (outer : List Env) (s : Shared) (H : Hp) (vs : List V) (Q : VK) (E : XK), RoomG k (A.deeper (envOfC qual (defScope st) s.heap.objs.size f cdv)) → sp vs H Q E →
      ∃ t, PSs (cxOf (L2.CX P w) P w K mg base N qual (defScope st) f cdv A outer s H E) (defBody st) t ∧ t { nx := fun _ H' => Q .non H', rt := Q } (start N vs) H) : FnG P w K mg base (L2.CX P w) (k + 1) f fd ps sp := by
  obtain ⟨oc, od, kV, doc, pm, an, cdv, ct, osl, rfl, lk, hcd⟩ := F.ex
  exact fnG_of lk hcd S len fun A outer s H vs Q E hr hsp => hbody cdv A outer s H vs Q E hr hsp
end

section
variable {X : Cx} {CX : CXT} {k : Nat} {f : Addr} {fd : FuncData} {ps : List Str} {sp : Sp} {dvs : List V} {ds : List Value} {E : XK} {x : Str} {p pos : Pos} {e : Expr} {es : List Expr} {t : TA}
theorem run_fnG {pins : List (Addr × Obj)} {σ : L2.St} {H : Hp} {s : Shared} {Q : VK} {us : List Value} {vs : List V} (F : FnG X.prog X.w X.K X.mg X.base CX k f fd ps sp) (hr : RoomG k X.A) (hb : Binds X.K fd ps ds) (hd : Vals dvs ds) (hx : Passes CX X E)
    (I : Inv X pins σ H s) (r : Vals vs us) (h : sp (vs ++ dvs) H Q E) : wpAny (model X.prog X.w) X.A (call (.ref f) us) (EP X pins σ Q) X.xe s := by
  have r2 : Vals (vs ++ dvs) (us ++ ds) := r.append hd
  have hl : (us ++ ds).length = ps.length := r2.length ▸ F.len _ _ _ _ h
  refine wpAny_call (codeAny_mono (F.run X.A X.stack s H ⟨us, []⟩ (us ++ ds) (vs ++ dvs) Q E hr I.env0 (hb s us I.kIn hl) r2 h) fun r s' hq => ?_)
  cases r with
  | error e => exact hx pins σ H s e s' I hq
  | ok fl =>
    cases fl with
    | ret u => exact I.after hq
    | next => exact hq.elim
    | brk => exact hq.elim
    | cont => exact hq.elim
theorem pe_callG (F : FnG X.prog X.w X.K X.mg X.base CX k f fd ps sp) (hr : RoomG k X.A) (hg : Gl X x) (hm : X.mg x = some (.ref f)) (hk : PySem.W.keepIn X.K (.ref f) = true) (hb : Binds X.K fd ps ds) (hd : Vals dvs ds) (hx : Passes CX X E)
    (ha : PA X (e :: es) t) (hdb : (x == ("__debug__" : Str)) = false := by decide) (he : starEach (e :: es) X.env = (false, eval e X.env) :: starEach es X.env := by rfl) (hpl : (backTo pos (starEach es X.env)).any (·.1) = false := by rfl) :
    PE X (.Call (.Name x p) (e :: es) [] pos) (tCall sp dvs E t) := by
  refine ⟨fun pins s σ H Q I h => wpAny_Call_Name_kw (ld_glob I hg hm ?_ hdb)⟩
  refine PySem.W.callWith_K (h₀ := X.base) I.ok.mod.kin hk (thn (ha.run pos pins s σ H _ I h) fun us s1 ⟨vs, H1, I1, r, q⟩ => ⟨I1.kIn, run_fnG F hr hb hd hx I1 r q⟩) he hpl
theorem pe_call0G (F : FnG X.prog X.w X.K X.mg X.base CX k f fd ps sp) (hr : RoomG k X.A) (hg : Gl X x) (hm : X.mg x = some (.ref f)) (hk : PySem.W.keepIn X.K (.ref f) = true) (hb : Binds X.K fd ps ds) (hd : Vals dvs ds) (hx : Passes CX X E)
    (hdb : (x == ("__debug__" : Str)) = false := by decide) : PE X (.Call (.Name x p) [] [] pos) (tCall sp dvs E tNil) :=
  ⟨fun pins s σ H Q I h => wpAny_Call_Name_kw (ld_glob I hg hm (PySem.W.callWith_K0 I.kIn hk (run_fnG (us := []) F hr hb hd hx I .nil h)) hdb)⟩
end

/-! ### repr of data of any depth -/
section
variable {X : Cx}
/-- repr(x), x data: its text -/
def rRepr (K : PySem.W.Frag) : List V → Hp → VK → Prop := fun xs H Q => ∃ v d, xs = [v] ∧ Dp K H v d ∧ d.showable = true ∧ d.hasDict = false ∧ d.depth ≤ 64 ∧ d.shown.length ≤ sizeLine ∧ Q (.str d.shown) H
theorem call_repr (hu : X.A.units + 66 < cLine) (hg : X.A.guards = some []) : CallR X (.builtin "repr") (rRepr X.K) := by
  intro pins s σ H xs us Q I r h
  obtain ⟨v, d, rfl, hd, hs, hnd, hdp, hsz, q⟩ := h
  obtain ⟨u, rfl, ru⟩ := vals1 r
  obtain ⟨as, rd⟩ := Dp.reads I d v u hd ru
  cases hd with
  | non => cases ru; exact PySem.P.repr_of_none ⟨.str _, H, I.tok _, ⟨_, rfl⟩, q⟩
  | bl b => cases ru; exact PySem.P.repr_of_bool ⟨.str _, H, I.tok _, ⟨_, rfl⟩, q⟩
  | int i =>
    obtain ⟨t, rfl⟩ := ru
    exact PySem.P.repr_of_int (by simpa [PyData.showable] using hs) ⟨.str _, H, I.tok _, ⟨_, rfl⟩, q⟩
  | str x =>
    obtain ⟨t, rfl⟩ := ru
    exact PySem.P.repr_of_str ⟨.str _, H, I.tok _, ⟨_, rfl⟩, q⟩ hsz
  | lst h1 h2 =>
    cases ru
    refine repr_of_reads' rd hs (fun z => absurd (hnd.symm.trans z) (by decide)) hg (by omega) (fun _ _ e => e) (fun h' t tk k => ?_) hsz
    exact ⟨.str _, H, I.kept k, ⟨_, rfl⟩, q⟩
  | tup h1 h2 =>
    cases ru
    refine repr_of_reads' rd hs (fun z => absurd (hnd.symm.trans z) (by decide)) hg (by omega) (fun _ _ e => e) (fun h' t tk k => ?_) hsz
    exact ⟨.str _, H, I.kept k, ⟨_, rfl⟩, q⟩
end
end Gd

/-! The end of a law: the law's def keeps its promise FnG at the caller's around. -/
namespace Gd
open PySem PySem.Spec PyProof.Rows L2 GxR Gx

/-- what the law is entered with: the script, locked, and the defs' tables -/
def entryH (K : PySem.W.Frag) (a : Addr) (T : List Addr) (scr : HO) : Hp := fun b => if b ∈ T then some (.tbl #[]) else if b = a then (if (K.lookup a).isSome = true then none else some scr) else none
theorem entryH_inv {K : PySem.W.Frag} {a b : Addr} {T : List Addr} {scr u : HO} (h : entryH K a T scr b = some u) : (b ∈ T ∧ u = .tbl #[]) ∨ (b ∉ T ∧ b = a ∧ K.lookup a = none ∧ u = scr) := by
  unfold entryH at h
  by_cases h1 : b ∈ T
  · rw [if_pos h1] at h
    cases h
    exact .inl ⟨h1, rfl⟩
  · rw [if_neg h1] at h
    by_cases h2 : b = a
    · rw [if_pos h2] at h
      by_cases h3 : (K.lookup a).isSome = true
      · rw [if_pos h3] at h
        cases h
      · rw [if_neg h3] at h
        cases h
        refine .inr ⟨h1, h2, ?_, rfl⟩
        cases q : K.lookup a with
        | none => rfl
        | some o => rw [q] at h3; exact absurd rfl h3
    · rw [if_neg h2] at h
      cases h
theorem entryH_tab {K : PySem.W.Frag} {a b : Addr} {T : List Addr} {scr : HO} (h : b ∈ T) : entryH K a T scr b = some (.tbl #[]) := if_pos h
theorem entryH_scr {K : PySem.W.Frag} {a : Addr} {T : List Addr} {scr : HO} (h : a ∉ T) (hk : K.lookup a = none) : entryH K a T scr a = some scr := by
  unfold entryH
  rw [if_neg h, if_pos rfl, hk]
  rfl

section
variable {P : Program} {w : World} {K : PySem.W.Frag} {mg mb : Str → Option Value} {k : Nat} {fa a : Addr} {cs : List (Addr × Addr)} {fd : FuncData} {x : Str} {sp : Sp} {s1 : Shared} {vs : List Value} {ns : List Int} {CX : CXT}
theorem law_endG (kin : K.In s1.heap) (hns : s1.heap.Ns mainGlobals mg) (hb : s1.heap.Ns builtinsNs mb) (hbb : ∀ x : Str, x ≠ "__name__" → mb x = bootBuiltins x) (hlim : s1.heap.NoLimit) (hg : s1.gens = #[])
    (hT : ∀ p ∈ cs, s1.heap.get? p.2 = some { cls := .none, data := .fields #[] }) (nT : ∀ p ∈ cs, K.lookup p.2 = none) (C : ∀ p ∈ cs, PySem.W.CodeHd s1.heap p.1 p.2)
    (hbm : ∃ (bm : Addr) (ob : Obj), mg "__builtins__" = some (.ref bm) ∧ bm ≠ builtinsNs ∧ s1.heap.get? bm = some ob ∧ ob.cls = .type "module" ∧ ob.dict = some builtinsNs ∧ ob.data = .plain)
    (ha : s1.heap.get? a = some { cls := .type "list", data := .seq vs.toArray }) (hi : IntsAre vs ns) (hl : ns.length ≤ sizeLine) (hr : RoomG k callerA)
    (F : ∀ base : Heap, K.In base → base.Ns mainGlobals mg → (∀ p ∈ cs, TabB base mg p.1 p.2) → FnG P w K mg base CX k fa fd [x] sp) (hbind : ∀ (s : Shared) (u : Value), BindsTo s fd ⟨[u], []⟩ [(x, u)])
    (hsp : ∀ H : Hp, (∀ p ∈ cs, H p.2 = some (.tbl #[])) → SqL K H a (ns.map V.int) → sp [.ref a] H (fun v _ => v = .bl true) fun _ _ _ => False)
    (hCX : ∀ H e s', CX [] H s1 (fun _ _ _ => False) e s' → False) :
    codeAny (model P w) callerA (.call (.ref fa) ⟨[.ref a], []⟩) (fun r s' => r = .ok (.ret (.bool true)) ∧ OldK s1.heap s'.heap ∧ s'.os = s1.os ∧ AllBare s'.gens) s1 := by
  have tabAt : ∀ b ∈ cs.map (·.2), s1.heap.get? b = some { cls := .none, data := .fields #[] } := fun b hb => by
    obtain ⟨p, hp, rfl⟩ := List.mem_map.mp hb
    exact hT p hp
  have inT : ∀ p ∈ cs, p.2 ∈ cs.map (·.2) := fun p hp => List.mem_map.mpr ⟨p, hp, rfl⟩
  have aT : a ∉ cs.map (·.2) := fun z => by
    have q := (tabAt a z).symm.trans ha
    cases congrArg Obj.data (Option.some.inj q)
  let H : Hp := entryH K a (cs.map (·.2)) (.frz { cls := .type "list", data := .seq vs.toArray } (.lst (ns.map V.int)))
  have hv : ∀ {b u}, H b = some u → (b ∈ cs.map (·.2) ∧ u = .tbl #[]) ∨ (b ∉ cs.map (·.2) ∧ b = a ∧ K.lookup a = none ∧ u = .frz { cls := .type "list", data := .seq vs.toArray } (.lst (ns.map V.int))) := fun h => entryH_inv h
  have hok : HOk P w H s1.heap := fun b u h => by
    rcases hv h with ⟨h1, rfl⟩ | ⟨_, rfl, _, rfl⟩
    · exact tabAt b h1
    · exact ⟨ha, by rw [List.length_map]; exact hl, vs, _, vals_ints hi, ha⟩
  have plain : ∀ {b : Addr} {o : Obj}, s1.heap.get? b = some o → (∀ xs n, o.data ≠ .seq xs n) → o.data ≠ .fields #[] → H b = none := fun {b o} e h1 h2 => by
    cases q : H b with
    | none => rfl
    | some u =>
      rcases hv q with ⟨h3, _⟩ | ⟨_, rfl, _, _⟩
      · rw [tabAt b h3] at e
        cases e
        exact (h2 rfl).elim
      · rw [ha] at e
        cases e
        exact (h1 _ _ rfl).elim
  have nsK : ∀ {b : Addr} {m : Str → Option Value}, s1.heap.Ns b m → (hidT s1.heap H).Ns b m := fun {b m} ⟨o, es, ep, e, d, r⟩ =>
    ⟨o, es, ep, hidT_get e (plain e (fun xs n z => by rw [d] at z; cases z) fun z => by rw [d] at z; cases z), d, r⟩
  have kinB : K.In (hidT s1.heap H) := fun b o e => hidT_get (kin b o e) (by
    cases q : H b with
    | none => rfl
    | some u =>
      rcases hv q with ⟨h3, _⟩ | ⟨_, rfl, h4, _⟩
      · obtain ⟨p, hp, rfl⟩ := List.mem_map.mp h3
        rw [nT p hp] at e
        cases e
      · rw [h4] at e
        cases e)
  have md : L2.Mod K mg (hidT s1.heap H) := ⟨kinB, nsK hns, ⟨mb, nsK hb, hbb⟩, let ⟨mc, h1, h2⟩ := hlim; ⟨mc, nsK h1, h2⟩⟩
  have noG : ∀ p ∈ cs, mainGlobals ≠ p.2 := fun p hp z => by
    obtain ⟨o, es, ep, e, hd, _⟩ := hns
    rw [z, hT p hp] at e
    cases e
    cases hd
  have tabs : ∀ p ∈ cs, TabB (hidT s1.heap H) mg p.1 p.2 := fun p hp => by
    refine ⟨?_, ?_, noG p hp⟩
    · obtain ⟨o, us, file, tf, flags, tg, inF, text, tt, e1, r1, r2, r3, r4, r5, r6, r7, r8, hne⟩ := C p hp
      exact ⟨o, us, file, tf, flags, tg, inF, text, tt, hidT_get e1 (plain e1 (fun xs n z => by rw [r2] at z; cases z) fun z => by rw [r2] at z; cases z; simp at r3), r1, r2, r3, r4, r5, r6, r7, r8, hne⟩
    · obtain ⟨bm, ob, b1, b2, b3, b4, b5, b6⟩ := hbm
      refine ⟨bm, ob, b1, b2, fun q => ?_, fun q => ?_, hidT_get b3 (plain b3 (fun xs n z => by rw [b6] at z; cases z) fun z => by rw [b6] at z; cases z), b4, b5, b6⟩
      · obtain ⟨o, es, ep, e, hd, _⟩ := hns
        rw [q, e] at b3
        cases b3
        rw [hd] at b6
        cases b6
      · rw [q, hT p hp] at b3
        cases b3
        cases b6
  have seqA : SqL K H a (ns.map V.int) := by
    cases q : K.lookup a with
    | none => exact .inl (.inr ⟨_, entryH_scr aT q⟩)
    | some o =>
      have e := kin a o q
      rw [ha] at e
      cases e
      exact .inr ⟨_, vs.toArray, _, q, rfl, rfl, rfl, by rw [List.size_toArray, hi.length]; exact hl, by simpa using vals_ints hi⟩
  have e0 : Env0 P w K mg (hidT s1.heap H) callerA [] s1 H := ⟨rfl, md, fun b o e => of_hidT e, Nat.le_of_eq (hidT_size _ _), trivial, fun b z => absurd (show b ∈ ([] : List Addr) from z) (by simp), hok, .of_eq hg⟩
  refine codeAny_mono ((F _ kinB (nsK hns) tabs).run callerA [] s1 H ⟨[.ref a], []⟩ [.ref a] [.ref a] _ _ hr e0 (hbind s1 (.ref a)) (.cons rfl .nil) (hsp H (fun p hp => entryH_tab (inT p hp)) seqA)) fun r s' h => ?_
  cases r with
  | error e => exact (hCX H e s' h).elim
  | ok fl =>
    cases fl with
    | next => exact h.elim
    | brk => exact h.elim
    | cont => exact h.elim
    | ret u =>
      obtain ⟨v, H', os, bare, un, hok', r', q⟩ := h
      obtain rfl : v = .bl true := q
      obtain rfl : u = Value.bool true := r'
      have stays : ∀ b o, b ∉ cs.map (·.2) → s1.heap.get? b = some o → s'.heap.get? b = some o := fun b o nb e => by
        cases q : H b with
        | none => exact un.keep b o e q (fun z => absurd (show b ∈ ([] : List Addr) from z) (by simp)) (by simp)
        | some u =>
          rcases hv q with ⟨z, _⟩ | ⟨_, rfl, _, rfl⟩
          · exact absurd z nb
          · rw [ha] at e
            cases e
            exact (hok' b _ (un.frzs b _ _ q)).1
      refine ⟨rfl, ⟨fun b o e => ?_, fun b o e => ?_⟩, os, bare⟩
      · by_cases hm : b ∈ cs.map (·.2)
        · obtain ⟨p, hp, rfl⟩ := List.mem_map.mp hm
          obtain ⟨more, z⟩ := un.tbls p.2 #[] (entryH_tab (inT p hp))
          rw [hT p hp] at e
          cases e
          exact .inr (.inl ⟨((C p hp).tab (hT p hp)).isCodeTable, rfl, #[], more, rfl, by rw [Array.empty_append]; rw [Array.empty_append] at z; exact hok' p.2 _ z⟩)
        · exact .inl (stays b o hm e)
      · by_cases hm : b ∈ cs.map (·.2)
        · obtain ⟨p, hp, rfl⟩ := List.mem_map.mp hm
          obtain ⟨more, z⟩ := un.tbls p.2 #[] (entryH_tab (inT p hp))
          exact ⟨_, hok' p.2 _ z⟩
        · exact ⟨o, stays b o hm e⟩
end

/-- what is known of the law's promise at the head's heap h -/
def LawG (l : PySem.W.OpenLaw) (w : World) (K : PySem.W.Frag) (CX : CXT) (k n : Nat) (x : Str) (mg : Str → Option Value) (fa : Addr) (h : Heap) : Prop :=
  ∃ (fd : FuncData) (cs : List (Addr × Addr)) (sp : Sp), (∀ p ∈ cs, h.get? p.2 = some { cls := .none, data := .fields #[] }) ∧ (∀ p ∈ cs, K.lookup p.2 = none) ∧ (∀ p ∈ cs, PySem.W.CodeHd h p.1 p.2) ∧ (∀ (s : Shared) (u : Value), BindsTo s fd ⟨[u], []⟩ [(x, u)]) ∧
    (∀ (H : Hp) (a : Addr) (ns : List Int), ns.length ≤ n → (∀ z ∈ ns, Builtin.Int.intBits z ≤ 1048576) → (∀ p ∈ cs, H p.2 = some (.tbl #[])) → SqL K H a (ns.map V.int) → sp [.ref a] H (fun v _ => v = .bl true) fun _ _ _ => False) ∧
    ∀ base : Heap, K.In base → base.Ns mainGlobals mg → (∀ p ∈ cs, TabB base mg p.1 p.2) → FnG l.prog w K mg base CX k fa fd [x] sp
theorem walk_G {l : PySem.W.OpenLaw} {n k : Nat} {q : Program} {loose : List Str} {XP : (Str → Option Value) → Heap → Prop} {YP : World → Heap → Prop} {d : DefRec} {K : Params → PySem.W.Frag} {CX : World → CXT} {x : Str}
    (hn : l.most = some n) (hn2 : n ≤ sizeLine) (hdf : d.params.defaults = []) (hr : RoomG k callerA) (hY : ∀ (w : World) (h : Heap), YP w h → (K w.params).In h)
    (F : ∀ (w : World) (mg : Str → Option Value) (fa : Addr) (h : Heap), YP w h → (K w.params).In h → h.Ns mainGlobals mg → mg d.name = some (.ref fa) → LawG l w (K w.params) (CX w) k n x mg fa h)
    (hCX : ∀ (w : World) (H : Hp) (s : Shared) (e : Value) (s' : Shared), CX w [] H s (fun _ _ _ => False) e s' → False) :
    PySem.W.WalkO q loose XP YP l.row.toRowW d [] (fun f vs => PySem.call f vs) := by
  refine Att.attach_callB hn hdf fun w s0 s1 mg mb fa o pm cd doc a vs ns G Y ho hd hcd hmg hobj hints hlen hbits hg => ?_
  obtain ⟨fd, cs, sp, hT, nT, C, hb, hsp, hF⟩ := F w mg fa _ Y (hY w _ Y) G.T.g hmg
  exact law_endG (hY w _ Y) G.T.g G.T.b G.T.builtins G.T.nolimit hg hT nT C G.T.bmain hobj hints (Nat.le_trans hlen hn2) hr hF hb (fun H hH hS => hsp H a ns hlen hbits hH hS) fun H e s' => hCX w H s1 e s'
end Gd

/-! What stays through a call: all but the defs' tables and some lists; defs as they stand; data. -/
namespace Gd
open PySem PySem.Spec PyProof.Rows L2 GxR Gx

/-- no table -/
def NoTab (o : HO) : Prop := ∀ ps, o ≠ .tbl ps
/-- all stays but tables, which may grow, and the objects at S -/
structure Kb (S : List Addr) (H H' : Hp) : Prop where
  keep : ∀ b o, H b = some o → b ∉ S → NoTab o → H' b = some o
  tab : ∀ T, TabG H T → TabG H' T
  free : ∀ p, H' p = none → H p = none
abbrev Kp (H H' : Hp) : Prop := Kb [] H H'
section
variable {S : List Addr} {H H' H1 H2 : Hp} {p : Addr} {o u : HO}
theorem Kb.refl (H : Hp) : Kb S H H := ⟨fun _ _ h _ _ => h, fun _ h => h, fun _ h => h⟩
theorem Kb.trans (a : Kb S H H1) (b : Kb S H1 H2) : Kb S H H2 := ⟨fun c o h n t => b.keep c o (a.keep c o h n t) n t, fun T h => b.tab T (a.tab T h), fun q h => a.free q (b.free q h)⟩
theorem Kb.mono {S' : List Addr} (a : Kb S H H') (h : ∀ b ∈ S, b ∈ S') : Kb S' H H' := ⟨fun c o e n t => a.keep c o e (fun z => n (h c z)) t, a.tab, a.free⟩
theorem Kb.of (a : Kp H H') : Kb S H H' := a.mono fun _ h => (by cases h)
theorem tab_notab {T : Addr} (h : TabG H T) (e : H T = some o) (n : NoTab o) : False := by
  obtain ⟨ps, h1, _⟩ := h
  rw [e] at h1
  cases h1
  exact n ps rfl
theorem upd_some_of {q : Addr} (h : upd H p o q = none) : H q = none := by
  by_cases z : q = p
  · rw [z, upd_same] at h
    cases h
  · rw [upd_ne z] at h
    exact h
theorem Kb.new (h : H p = none) : Kb S H (upd H p o) :=
  ⟨fun b u e _ _ => by rw [upd_ne (ne_of_none e h)]; exact e, fun T ⟨ps, e, t⟩ => ⟨ps, by rw [upd_ne (ne_of_none e h)]; exact e, t⟩, fun q e => upd_some_of e⟩
theorem Kb.tabbed {P : Addr} (h : Tabbed P H H') (hP : TabG H P) : Kb S H H' := by
  refine ⟨fun b o e _ n => ?_, fun T hT => ?_, fun q e => ?_⟩
  · rw [h.2 b fun z => tab_notab (by rw [z]; exact hP) e n]
    exact e
  · by_cases z : T = P
    · exact z ▸ h.1
    · obtain ⟨ps, e, t⟩ := hT
      exact ⟨ps, by rw [h.2 T z]; exact e, t⟩
  · by_cases z : q = P
    · obtain ⟨ps, e', _⟩ := h.1
      rw [z, e'] at e
      cases e
    · rw [h.2 q z] at e
      exact e
/-- a known list is stored -/
theorem Kb.put (hp : p ∈ S) (e : H p = some u) (n : NoTab u) : Kb S H (upd H p o) :=
  ⟨fun b v hb nb _ => by rw [upd_ne (fun z : b = p => nb (by rw [z]; exact hp))]; exact hb, fun T hT => by
    have z : T ≠ p := fun z => tab_notab (o := u) (by rw [← z]; exact hT) e n
    obtain ⟨ps, e', t⟩ := hT
    exact ⟨ps, by rw [upd_ne z]; exact e', t⟩, fun q e => upd_some_of e⟩
/-- an object that was not there at H may change -/
theorem Kb.mut (k : Kb S H H') (hp : H p = none) (n : ¬ TabG H' p) : Kb S H (upd H' p o) :=
  ⟨fun b v hb nb t => by rw [upd_ne (ne_of_none hb hp)]; exact k.keep b v hb nb t, fun T hT => by
    have z : T ≠ p := fun z => n (z ▸ k.tab T hT)
    obtain ⟨ps, e', t⟩ := k.tab T hT
    exact ⟨ps, by rw [upd_ne z]; exact e', t⟩, fun q e => k.free q (upd_some_of e)⟩
theorem no_tab (e : H p = some o) (n : NoTab o) : ¬ TabG H p := fun h => tab_notab h e n
theorem nt_lst {xs : List V} : NoTab (.lst xs) := fun _ h => by cases h
theorem nt_tup {xs : List V} : NoTab (.tup xs) := fun _ h => by cases h
theorem nt_frz {ob : Obj} : NoTab (.frz ob u) := fun _ h => by cases h
theorem nt_ext {φ : Heap → Prop} : NoTab (.ext φ) := fun _ h => by cases h

end

/-! ### data: scalars and tuples; whatever is made of them stands for good -/
mutual
inductive Dt (K : PySem.W.Frag) (H : Hp) : V → PyData → Prop where
  | non : Dt K H .non .none
  | bl (b : Bool) : Dt K H (.bl b) (.bool b)
  | int (i : Int) : Dt K H (.int i) (.int i)
  | str (x : Str) : Dt K H (.str x) (.str x)
  | tup {a : Addr} {xs : List V} {ds : List PyData} (h : SqT K H a xs) (hs : DtAll K H xs ds) : Dt K H (.ref a) (.tuple ds)
inductive DtAll (K : PySem.W.Frag) (H : Hp) : List V → List PyData → Prop where
  | nil : DtAll K H [] []
  | cons {v : V} {vs : List V} {d : PyData} {ds : List PyData} (h : Dt K H v d) (hs : DtAll K H vs ds) : DtAll K H (v :: vs) (d :: ds)
end
/-- the lists at S are lists -/
def Lsts (S : List Addr) (H : Hp) : Prop := ∀ b ∈ S, ∃ xs, H b = some (.lst xs)
theorem Lsts.nil {H : Hp} : Lsts [] H := fun _ h => by cases h
section
variable {K : PySem.W.Frag} {S : List Addr} {H H' : Hp}
theorem Kb.sqT (k : Kb S H H') (hS : Lsts S H) {a : Addr} {xs : List V} (h : SqT K H a xs) : SqT K H' a xs := by
  rcases h with (h | ⟨o, h⟩) | h
  · exact .inl (.inl (k.keep a _ h (fun z => by obtain ⟨ys, e⟩ := hS a z; rw [h] at e; cases e) nt_tup))
  · exact .inl (.inr ⟨o, k.keep a _ h (fun z => by obtain ⟨ys, e⟩ := hS a z; rw [h] at e; cases e) nt_frz⟩)
  · exact .inr h
mutual
theorem Dt.kb (k : Kb S H H') (hS : Lsts S H) : ∀ {v : V} {d : PyData}, Dt K H v d → Dt K H' v d
  | _, _, .non => .non
  | _, _, .bl b => .bl b
  | _, _, .int i => .int i
  | _, _, .str x => .str x
  | _, _, .tup h hs => .tup (k.sqT hS h) (DtAll.kb k hS hs)
theorem DtAll.kb (k : Kb S H H') (hS : Lsts S H) : ∀ {vs : List V} {ds : List PyData}, DtAll K H vs ds → DtAll K H' vs ds
  | _, _, .nil => .nil
  | _, _, .cons h hs => .cons (h.kb k hS) (DtAll.kb k hS hs)
end
mutual
theorem Dt.dp : ∀ {v : V} {d : PyData}, Dt K H v d → Dp K H v d
  | _, _, .non => .non
  | _, _, .bl b => .bl b
  | _, _, .int i => .int i
  | _, _, .str x => .str x
  | _, _, .tup h hs => .tup h hs.dp
theorem DtAll.dp : ∀ {vs : List V} {ds : List PyData}, DtAll K H vs ds → DpAll K H vs ds
  | _, _, .nil => .nil
  | _, _, .cons h hs => .cons h.dp hs.dp
end
theorem DtAll.length : ∀ {vs : List V} {ds : List PyData}, DtAll K H vs ds → vs.length = ds.length
  | _, _, .nil => rfl
  | _, _, .cons _ hs => congrArg (· + 1) hs.length
theorem DtAll.get : ∀ {vs : List V} {ds : List PyData} {i : Nat} {v : V}, DtAll K H vs ds → vs[i]? = some v → ∃ d, ds[i]? = some d ∧ Dt K H v d
  | _, _, _, _, .nil, e => by simp at e
  | _, _, 0, _, .cons h _, e => by
    have e := Option.some.inj e
    subst e
    exact ⟨_, rfl, h⟩
  | _, _, i + 1, _, .cons _ hs, e => DtAll.get (i := i) hs e
theorem DtAll.at : ∀ {vs : List V} {ds : List PyData} {i : Nat} {d : PyData}, DtAll K H vs ds → ds[i]? = some d → ∃ v, vs[i]? = some v ∧ Dt K H v d
  | _, _, _, _, .nil, e => by simp at e
  | _, _, 0, _, .cons h _, e => by
    have e := Option.some.inj e
    subst e
    exact ⟨_, rfl, h⟩
  | _, _, i + 1, _, .cons _ hs, e => DtAll.at (i := i) hs e
end

/-! ### defs -/
section
variable {P : Program} {w : World} {K : PySem.W.Frag} {mg : Str → Option Value} {base : Heap}
/-- the def x stands as st -/
def DefAt (K : PySem.W.Frag) (mg : Str → Option Value) (x : Str) (st : Stmt) (ps : List Str) : Prop := ∃ f fd, Fun K x x st f fd ∧ mg x = some (.ref f) ∧ Binds K fd ps []
/-- .. and its code's table is at T -/
def DefTab (K : PySem.W.Frag) (mg : Str → Option Value) (base : Heap) (x : Str) (st : Stmt) (ps : List Str) (T : Addr) : Prop :=
  ∃ f fd c, Fun K x x st f fd ∧ mg x = some (.ref f) ∧ Binds K fd ps [] ∧ fd.code = .ref c ∧ TabB base mg c T
/-- what a caller needs -/
def Cal (P : Program) (w : World) (K : PySem.W.Frag) (mg : Str → Option Value) (base : Heap) (CX : CXT) (k : Nat) (x : Str) (ps : List Str) (sp : Sp) : Prop :=
  ∃ f fd, FnG P w K mg base CX k f fd ps sp ∧ mg x = some (.ref f) ∧ PySem.W.keepIn K (.ref f) = true ∧ Binds K fd ps []
theorem Cal.mono {CX : CXT} {j k : Nat} {x : Str} {ps : List Str} {sp : Sp} (c : Cal P w K mg base CX j x ps sp) (h : j ≤ k) : Cal P w K mg base CX k x ps sp :=
  let ⟨f, fd, F, r⟩ := c; ⟨f, fd, F.mono h, r⟩
theorem Cal.imp {CX : CXT} {k : Nat} {x : Str} {ps : List Str} {sp sp' : Sp} (c : Cal P w K mg base CX k x ps sp) (h : ∀ vs H Q E, sp' vs H Q E → sp vs H Q E) : Cal P w K mg base CX k x ps sp' :=
  let ⟨f, fd, F, r⟩ := c; ⟨f, fd, F.imp h, r⟩
theorem DefAt.cal {x : Str} {st : Stmt} {N ps : List Str} {k : Nat} {sp : Sp} (D : DefAt K mg x st ps) (S : FnScope N ps (defScope st)) (len : ∀ vs H Q E, sp vs H Q E → vs.length = ps.length)
    (hbody : ∀ (f : Addr) (cdv : Value) (A : Around) (outer : List Env) (s : Shared) (H : Hp) (vs : List V) (Q : VK) (E : XK), RoomG k (A.deeper (envOfC x (defScope st) s.heap.objs.size f cdv)) → sp vs H Q E →
      ∃ t, PSs (cxOf CX0 P w K mg base N x (defScope st) f cdv A outer s H E).nox (defBody st) t ∧ t { nx := fun _ H' => Q .non H', rt := Q } (start N vs) H) : Cal P w K mg base CX0 (k + 1) x ps sp := by
  obtain ⟨f, fd, F, g, b⟩ := D
  exact ⟨f, fd, okG F S len (hbody f), g, F.kp, b⟩
theorem DefTab.cal {x : Str} {st : Stmt} {N ps : List Str} {k : Nat} {sp : Sp} {T : Addr} (D : DefTab K mg base x st ps T) (S : FnScope N ps (defScope st)) (len : ∀ vs H Q E, sp vs H Q E → vs.length = ps.length)
    (hbody : ∀ (f c : Addr) (A : Around) (outer : List Env) (s : Shared) (H : Hp) (vs : List V) (Q : VK) (E : XK), TabB base mg c T → RoomG k (A.deeper (envOfC x (defScope st) s.heap.objs.size f (.ref c))) → sp vs H Q E →
      ∃ t, PSs (cxOf CX0 P w K mg base N x (defScope st) f (.ref c) A outer s H E).nox (defBody st) t ∧ t { nx := fun _ H' => Q .non H', rt := Q } (start N vs) H) : Cal P w K mg base CX0 (k + 1) x ps sp := by
  obtain ⟨f, fd, c, F, g, b, e, TB⟩ := D
  exact ⟨f, fd, okGc F e S len (fun A outer s H vs Q E => hbody f c A outer s H vs Q E TB), g, F.kp, b⟩
end
section
variable {X : Cx} {k : Nat} {ps : List Str} {sp : Sp} {x : Str} {p pos : Pos} {e : Expr} {es : List Expr} {t : TA}
theorem pe_cal (C : Cal X.prog X.w X.K X.mg X.base CX0 k x ps sp) (hr : RoomG k X.A) (hg : Gl X x) (ha : PA X (e :: es) t) (hdb : (x == ("__debug__" : Str)) = false := by decide) (he : starEach (e :: es) X.env = (false, eval e X.env) :: starEach es X.env := by rfl) (hpl : (backTo pos (starEach es X.env)).any (·.1) = false := by rfl) :
    PE X (.Call (.Name x p) (e :: es) [] pos) (tCall sp [] E0 t) := by
  obtain ⟨f, fd, F, g, kp, b⟩ := C
  exact pe_callG F hr hg g kp b .nil pass0 ha hdb he hpl
theorem pe_cal0 (C : Cal X.prog X.w X.K X.mg X.base CX0 k x ps sp) (hr : RoomG k X.A) (hg : Gl X x) (hdb : (x == ("__debug__" : Str)) = false := by decide) : PE X (.Call (.Name x p) [] [] pos) (tCall sp [] E0 tNil) := by
  obtain ⟨f, fd, F, g, kp, b⟩ := C
  exact pe_call0G F hr hg g kp b .nil pass0 hdb
end
end Gd

/-! Readings of some expressions over data. -/
namespace Gd
open PySem PySem.Spec PyProof.Rows L2 GxR Gx

/-! ### isinstance -/
def tyName : PyData → String
  | .none => "NoneType"
  | .bool _ => "bool"
  | .int _ => "int"
  | .str _ => "str"
  | .list _ => "list"
  | .tuple _ => "tuple"
  | .dict _ => "dict"
def isStrD : PyData → Bool | .str _ => true | _ => false
def isTupD : PyData → Bool | .tuple _ => true | _ => false
def isIntD : PyData → Bool | .int _ => true | .bool _ => true | _ => false
def isBoolD : PyData → Bool | .bool _ => true | _ => false
theorem kit_str (d : PyData) : kitB (tyName d) "str" = some (isStrD d) := by
  cases d with
  | none => exact (by decide +kernel : kitB "NoneType" "str" = some false)
  | bool _ => exact (by decide +kernel : kitB "bool" "str" = some false)
  | int _ => exact (by decide +kernel : kitB "int" "str" = some false)
  | str _ => exact (by decide +kernel : kitB "str" "str" = some true)
  | list _ => exact (by decide +kernel : kitB "list" "str" = some false)
  | tuple _ => exact (by decide +kernel : kitB "tuple" "str" = some false)
  | dict _ => exact (by decide +kernel : kitB "dict" "str" = some false)
theorem kit_tup (d : PyData) : kitB (tyName d) "tuple" = some (isTupD d) := by
  cases d with
  | none => exact (by decide +kernel : kitB "NoneType" "tuple" = some false)
  | bool _ => exact (by decide +kernel : kitB "bool" "tuple" = some false)
  | int _ => exact (by decide +kernel : kitB "int" "tuple" = some false)
  | str _ => exact (by decide +kernel : kitB "str" "tuple" = some false)
  | list _ => exact (by decide +kernel : kitB "list" "tuple" = some false)
  | tuple _ => exact (by decide +kernel : kitB "tuple" "tuple" = some true)
  | dict _ => exact (by decide +kernel : kitB "dict" "tuple" = some false)
theorem kit_int (d : PyData) : kitB (tyName d) "int" = some (isIntD d) := by
  cases d with
  | none => exact (by decide +kernel : kitB "NoneType" "int" = some false)
  | bool _ => exact (by decide +kernel : kitB "bool" "int" = some true)
  | int _ => exact (by decide +kernel : kitB "int" "int" = some true)
  | str _ => exact (by decide +kernel : kitB "str" "int" = some false)
  | list _ => exact (by decide +kernel : kitB "list" "int" = some false)
  | tuple _ => exact (by decide +kernel : kitB "tuple" "int" = some false)
  | dict _ => exact (by decide +kernel : kitB "dict" "int" = some false)
theorem kit_bool (d : PyData) : kitB (tyName d) "bool" = some (isBoolD d) := by
  cases d with
  | none => exact (by decide +kernel : kitB "NoneType" "bool" = some false)
  | bool _ => exact (by decide +kernel : kitB "bool" "bool" = some true)
  | int _ => exact (by decide +kernel : kitB "int" "bool" = some false)
  | str _ => exact (by decide +kernel : kitB "str" "bool" = some false)
  | list _ => exact (by decide +kernel : kitB "list" "bool" = some false)
  | tuple _ => exact (by decide +kernel : kitB "tuple" "bool" = some false)
  | dict _ => exact (by decide +kernel : kitB "dict" "bool" = some false)
section
variable {K : PySem.W.Frag} {H : Hp} {v : V} {d : PyData} {Q : VK}
theorem Dt.ty (h : Dt K H v d) : TyX K H v (.type (tyName d)) := by
  cases h with
  | non => exact .base .non
  | bl b => exact .base (.bl b)
  | int i => exact .base (.int i)
  | str x => exact .base (.str x)
  | tup h hs =>
    rcases h with (h | ⟨o, h⟩) | ⟨o, its, n, h1, h2, _⟩
    · exact .base (.tup h)
    · exact .fTuple h
    · exact .kTuple h1 h2
theorem isi_q {T : String} {b : Bool} (h : Dt K H v d) (hb : kitB (tyName d) T = some b) (q : Q (.bl b) H) : rIsi K [v, .ty T] H Q := ⟨v, .ty T, _, _, b, rfl, .ty T, h.ty, kit_ty hb, q⟩
end

/-! ### all(test for c in text), the test changes nothing -/
theorem nil_slots {σ2 : L2.St} : ∀ (j : Nat) (v : V), (none :: capV ([] : L2.St) [] : L2.St)[j]? = some (some v) → σ2[j]? = some (some v) := fun j v h => by
  cases j with
  | zero => cases h
  | succ j => simp [capV] at h
theorem all_take {p : Nat → Bool} {l : List Nat} {i c : Nat} (hc : l[i]? = some c) (h : (l.take i).all p = true) : (l.take (i + 1)).all p = p c := by
  rw [List.take_add_one, hc, List.all_append, h, Bool.true_and]
  simp
theorem all_mid {p : Nat → Bool} {l : List Nat} {i c : Nat} (hc : l[i]? = some c) (h : p c = false) : l.all p = false := by
  rw [List.all_eq_false]
  exact ⟨c, List.mem_of_getElem? hc, by rw [h]; exact Bool.false_ne_true⟩
theorem all_str {T : Addr} {x : Str} {te : TE} {p : Nat → Bool} {H1 : Hp} {Q : VK} {σ : L2.St} (hT : TabG H1 T)
    (ht : ∀ c ∈ x.cps.toList, ∀ (H : Hp) (Q' : VK), Q' (.bl (p c)) H → te [some (.str ⟨#[c]⟩)] H Q') (q : ∀ H2, Tabbed T H1 H2 → Q (.bl (x.cps.toList.all p)) H2) :
    TabG H1 T ∧ ∀ H2, Tabbed T H1 H2 → ∃ W : Nat → Nat → Hp → Prop, (∃ m, W 0 m H2) ∧ ∀ i m H, W i m H → ((Its x).stop i H ∧ Q (.bl true) H) ∨
      ((Its x).go i H ∧ ∃ Nx : Hp → Prop, (∀ H', Nx H' → ∃ m', m' < m ∧ W (i + 1) m' H') ∧ ∀ y H', (Its x).yld i H y H' → gName 0 y (none :: capV σ []) H' fun σ2 H3 =>
        (∀ (j : Nat) v, (none :: capV σ [] : L2.St)[j]? = some (some v) → σ2[j]? = some (some v)) ∧ te σ2 H3 fun y H5 => ∃ c, y = .bl c ∧ if c = true then Nx H5 else Q (.bl false) H5) := by
  refine ⟨hT, fun H2 h2 => ⟨fun i m H => H = H2 ∧ m = x.cps.size - i ∧ i ≤ x.cps.size ∧ (x.cps.toList.take i).all p = true, ⟨_, rfl, rfl, Nat.zero_le _, by simp⟩, ?_⟩⟩
  rintro i m H ⟨rfl, rfl, hi, ha⟩
  by_cases hl : i < x.cps.size
  · refine .inr ⟨hl, fun H' => H' = H ∧ (x.cps.toList.take (i + 1)).all p = true, fun H' ⟨e, a⟩ => ⟨x.cps.size - (i + 1), by omega, e, rfl, hl, a⟩, fun y H' hy => ?_⟩
    obtain ⟨rfl, c, hc, rfl⟩ := hy
    have hc' : x.cps.toList[i]? = some c := by rw [Array.getElem?_toList]; exact hc
    refine ⟨nil_slots, ht c (List.mem_of_getElem? hc') _ _ ⟨p c, rfl, ?_⟩⟩
    cases e : p c with
    | true =>
      rw [if_pos rfl]
      exact ⟨rfl, by rw [all_take hc' ha, e]⟩
    | false =>
      rw [if_neg Bool.false_ne_true, ← all_mid (p := p) hc' e]
      exact q _ h2
  · have e : i = x.cps.size := by omega
    subst e
    refine .inl ⟨Nat.le_refl _, ?_⟩
    have e2 : x.cps.toList.take x.cps.size = x.cps.toList := by
      rw [← Array.length_toList]
      exact List.take_length
    rw [e2] at ha
    rw [← ha]
    exact q _ h2
end Gd
namespace Gd
open PySem PySem.Spec PyProof.Rows L2 GxR Gx
/-- data of small texts, no deeper than n -/
def okN : Nat → PyData → Bool
  | _, .none => true
  | _, .bool _ => true
  | _, .int i => decide (i.natAbs.log2 < 1920)
  | _, .str x => decide (x.length ≤ 1000) && PyData.strOk x
  | n + 1, .tuple ds => decide (ds.length ≤ 1000) && ds.all (okN n)
  | _, _ => false
def OkD (d : PyData) : Prop := ∃ n, n ≤ 60 ∧ okN n d = true
theorem okN_int {n : Nat} {i : Int} (h : okN n (.int i) = true) : i.natAbs.log2 < 1920 := by
  cases n <;> exact of_decide_eq_true h
theorem okN_str {n : Nat} {x : Str} (h : okN n (.str x) = true) : x.length ≤ 1000 ∧ PyData.strOk x = true := by
  have h2 : (decide (x.length ≤ 1000) && PyData.strOk x) = true := by cases n <;> exact h
  rw [Bool.and_eq_true] at h2
  exact ⟨of_decide_eq_true h2.1, h2.2⟩
theorem okN_tup {n : Nat} {ds : List PyData} (h : okN n (.tuple ds) = true) : ∃ m, n = m + 1 ∧ ds.length ≤ 1000 ∧ ∀ d ∈ ds, okN m d = true := by
  cases n with
  | zero => cases h
  | succ m =>
    have h2 : (decide (ds.length ≤ 1000) && ds.all (okN m)) = true := h
    rw [Bool.and_eq_true, List.all_eq_true] at h2
    exact ⟨m, rfl, of_decide_eq_true h2.1, h2.2⟩
theorem OkD.str {x : Str} (h : OkD (.str x)) : x.length ≤ 1000 := let ⟨_, _, h⟩ := h; (okN_str h).1
theorem OkD.len {ds : List PyData} (h : OkD (.tuple ds)) : ds.length ≤ 1000 := by
  obtain ⟨_, _, h⟩ := h
  obtain ⟨m, _, h2, _⟩ := okN_tup h
  exact h2
theorem OkD.child {ds : List PyData} (h : OkD (.tuple ds)) {d : PyData} (hd : d ∈ ds) : OkD d := by
  obtain ⟨n, hn, h⟩ := h
  obtain ⟨m, rfl, _, h3⟩ := okN_tup h
  exact ⟨m, by omega, h3 d hd⟩
mutual
theorem okN_lay : ∀ (d : PyData) {n : Nat}, okN n d = true → d.canLay0 = true ∧ d.depth ≤ n
  | .none, n, _ => ⟨by simp only [PyData.canLay0], by simp only [PyData.depth]; omega⟩
  | .bool _, n, _ => ⟨by simp only [PyData.canLay0], by simp only [PyData.depth]; omega⟩
  | .int _, n, _ => ⟨by simp only [PyData.canLay0], by simp only [PyData.depth]; omega⟩
  | .str x, n, h => ⟨by simp only [PyData.canLay0]; exact (okN_str h).2, by simp only [PyData.depth]; omega⟩
  | .list xs, n, h => by cases n <;> cases h
  | .dict xs, n, h => by cases n <;> cases h
  | .tuple ds, n, h => by
    obtain ⟨m, e, _, h3⟩ := okN_tup h
    have q := okN_layAll ds h3
    simp only [PyData.canLay0, PyData.depth]
    exact ⟨q.1, by have := q.2; omega⟩
theorem okN_layAll : ∀ (ds : List PyData) {n : Nat}, (∀ d ∈ ds, okN n d = true) → PyData.canLayAll0 ds = true ∧ PyData.depthAll ds ≤ n
  | [], n, _ => ⟨by simp only [PyData.canLayAll0], by simp only [PyData.depthAll]; omega⟩
  | d :: ds, n, h => by
    have q := okN_lay d (h d List.mem_cons_self)
    have r := okN_layAll ds fun e he => h e (List.mem_cons_of_mem _ he)
    simp only [PyData.canLayAll0, PyData.depthAll, q.1, r.1, Bool.and_true]
    exact ⟨trivial, Nat.max_le.mpr ⟨q.2, r.2⟩⟩
end
theorem OkD.shaped {d : PyData} (h : OkD d) : SeqAt.shaped d = true := by
  obtain ⟨n, hn, h⟩ := h
  have q := okN_lay d h
  unfold SeqAt.shaped
  rw [q.1, Bool.true_and, decide_eq_true_eq]
  omega
theorem OkD.of {d : PyData} (h : okN 8 d = true) : OkD d := ⟨8, by decide, h⟩
theorem line1000 {n : Nat} (h : n ≤ 1000) : n ≤ sizeLine := Nat.le_of_lt (small1000 h)
/-- a test of one datum -/
def spData (K : PySem.W.Frag) (ts : List Addr) (p : PyData → Bool) : Sp := fun vs H Q _ => ∃ v d, vs = [v] ∧ Dt K H v d ∧ OkD d ∧ (∀ T ∈ ts, TabG H T) ∧ ∀ H', Kp H H' → Q (.bl (p d)) H'
end Gd
namespace Gd
open PySem PySem.Spec PyProof.Rows L2 GxR Gx
/-- a generator expression's scope without captured names -/
def genC (scope : Scope) (x : Str) : Bool := decide (scope.kind = .function) && !scope.isCoroutine && (scope.names.all fun y => !decide (y.2 = NameKind.cell) && !decide (y.2 = NameKind.free)) && decide (scope.names.lookup (".0" : Str) = some NameKind.local) && decide (scope.names.lookup x = some NameKind.local)
theorem genS_by {env : Env} {scope : Scope} {x : Str} (h : genC scope x = true) : GenS env scope x := by
  unfold genC at h
  simp only [Bool.and_eq_true, decide_eq_true_eq, Bool.not_eq_true', List.all_eq_true, decide_eq_false_iff_not] at h
  obtain ⟨⟨⟨⟨h1, h2⟩, h3⟩, h4⟩, h5⟩ := h
  exact ⟨h1, h2, fun y hy => (h3 y hy).1, h4, h5, fun y hy e => absurd e (h3 y hy).2⟩
theorem nd1 (x : Str) : (x :: capN []).Nodup := by simp [capN]
end Gd

/-! {elt for tg in iter}, its members ints or texts; len of it. -/
namespace Gd
open PySem PySem.Spec PyProof.Rows L2 GxR Gx

abbrev noKeys : Key → Bool := fun _ => false
abbrev addKey (S : Key → Bool) (k : Key) : Key → Bool := fun j => S j || decide (j = k)
theorem setK_fresh {P : Program} {w : World} {h : Heap} : (h.push { cls := .type "set", dict := none, data := .set #[] 0 (.fresh 0 0 (!w.params.followText "set-order")) }).SetOf (mixKind P w) h.objs.size noKeys 0 :=
  ⟨_, #[], 0, _, Heap.get?_push_size _ rfl, ⟨rfl, rfl, rfl⟩, rfl, (fun e he => by simp at he), (fun k => by simp), (by decide), (by rfl), rfl⟩
section
variable {X : Cx}
theorem addK_ok {pins : List (Addr × Obj)} {σ : L2.St} {H : Hp} {s : Shared} {E : Value → Shared → Prop} {D : Addr} {S : Key → Bool} {n : Nat} {k : Key} {u : Value} {Q : Value → Shared → Prop} (I : Inv X pins σ H s) (hD : H D = some (SetK X.prog X.w D S n)) (room : n + 1 < scanBound) (r : RelV (kV k) u)
    (h : ∀ s', Inv X pins σ (upd H D (SetK X.prog X.w D (addKey S k) (if S k = true then n else n + 1))) s' → Q .none s') : wpAny (model X.prog X.w) X.A (call (.builtin "set.add") [.ref D, u]) Q E s := by
  refine call_set_add (kV_is r) (key_scan r) (setK_get I hD) room fun h' sb new => ?_
  obtain ⟨ob, _, _, _, ho, _⟩ := id new
  exact h _ (I.write (e := D) (t' := s.toks + 1) (by rw [hD]; trivial) (.inl rfl) (fun b o hb q => (sb.2 b hb).trans q) ⟨ob, ho⟩ (setK_new new))

/-- the reading: D the new set; W by the turn and a measure -/
def tScK (P : Program) (w : World) (wi : TI) (g : TG) (te : TE) (vs : List Nat) : TE := fun σ H Q => wi σ H fun J H1 => ∀ D, H1 D = none → ∃ W : Nat → Nat → Hp → Prop, (∃ m, W 0 m (upd H1 D (SetK P w D noKeys 0))) ∧ ∀ i m H, W i m H →
  (J.stop i H ∧ Q (.ref D) H) ∨ (J.go i H ∧ ∃ Nx : Hp → Prop, (∀ H', Nx H' → ∃ m', m' < m ∧ W (i + 1) m' H') ∧ ∀ x H', J.yld i H x H' → g x (wipe σ vs) H' fun σ2 H2 => wipe σ2 vs = wipe σ vs ∧ te σ2 H2 fun y H4 =>
    ∃ (k : Key) (S : Key → Bool) (n : Nat), y = kV k ∧ H4 D = some (SetK P w D S n) ∧ n + 1 < scanBound ∧ Nx (upd H4 D (SetK P w D (addKey S k) (if S k = true then n else n + 1))))

theorem pe_scK {elt tg iter : Expr} {scope : Scope} {own : List (PySem.Str × Nat)} {pos : Pos} {wi : TI} {g : TG} {te : TE} (hc : X.calm = true) (hN : X.N.Nodup) (hi : PI X tg iter wi) (ok : BlkOk X.N X.env.scope scope own)
    (hg : ∀ (s : Shared) (H : Hp) (C : Addr) (cl : List (PySem.Str × Addr)) (fp : List Addr), PG (X.blk s H scope (compEnvC scope cl C X.env) fp) tg g) (_ : ∀ (s : Shared) (H : Hp) (C : Addr) (cl : List (PySem.Str × Addr)) (fp : List Addr), PTs (X.blk s H scope (compEnvC scope cl C X.env) fp) [] tYes)
    (he : ∀ (s : Shared) (H : Hp) (C : Addr) (cl : List (PySem.Str × Addr)) (fp : List Addr), PE (X.blk s H scope (compEnvC scope cl C X.env) fp) elt te) (hs : ∀ x, foldedSetIterable iter X.env x = pure x := by intro _; rfl) :
    PE X (.SetComp elt [⟨tg, iter, [], 0⟩] scope pos) (tScK X.prog X.w wi g te (own.map (·.2))) := by
  refine ⟨fun pins s σ H Q I h => ?_⟩
  rw [PpSet.eval_SetComp]
  have free : ∀ y ∈ scope.names, y.2 = .free → ∃ c, X.env.cells.lookup y.1 = some c := fun y hy e => (ok.free y hy e).elim (fun k => I.ok.has _ (.inl k)) fun k => I.ok.has _ (.inr k)
  refine wpAny_comprehension_free (use := none) rfl hs (closure_ok free) ok.kind (fun y hy e => by rw [ok.uniq y hy, e]) (thn (hi.run pins s σ H _ I h) fun xv s1 hx => thn hx fun itv s2 h2 => ?_)
  obtain ⟨it, fp, tn, J, H2, rfl, I2, T, st2, f2, q⟩ := h2
  refine PpSet.newSet_ok (newEnv_comp ?_)
  obtain ⟨W, ⟨m0, w0⟩, turn⟩ := q s2.heap.objs.size (I2.hok.fresh (Nat.le_refl _))
  -- the set
  let so : Obj := { cls := .type "set", dict := none, data := .set #[] 0 (.fresh 0 0 (!X.w.params.followText "set-order")) }
  let H3 : Hp := upd H2 s2.heap.objs.size (SetK X.prog X.w s2.heap.objs.size noKeys 0)
  let s3 : Shared := { s2 with heap := s2.heap.push so }
  have I3 : Inv X pins σ H3 s3 := I2.laid (t' := s2.toks) (fun b o e => Heap.get?_push_of_some _ e) (Nat.le_refl _) (setK_new setK_fresh)
  have f3 : ∀ b ∈ fp, FpOk X pins H3 b ∧ b < s3.heap.objs.size := fun b hb => by
    obtain ⟨o, e, _⟩ := T.obj _ _ st2 b hb
    have lt := Heap.lt_size e
    exact ⟨⟨by show upd _ _ _ b = none; rw [upd_ne (Nat.ne_of_lt lt)]; exact (f2 b hb).1, (f2 b hb).2⟩, by show b < (s2.heap.push so).objs.size; rw [Heap.size_push]; exact Nat.lt_succ_of_lt lt⟩
  have st3 : tn 0 s3.heap := T.keep _ _ _ st2 fun b _ o e => Heap.get?_push_of_some _ e
  -- the block
  have I4 := block_start I3 ok hN f3
  have pg := hg s3 H3 s3.heap.objs.size (cellsFrom (s3.heap.objs.size + 1) scope.names (cloFrom X.env.cells scope.names [])) fp
  have pe := he s3 H3 s3.heap.objs.size (cellsFrom (s3.heap.objs.size + 1) scope.names (cloFrom X.env.cells scope.names [])) fp
  let ce : Env := compEnvC scope (cellsFrom (s3.heap.objs.size + 1) scope.names (cloFrom X.env.cells scope.names [])) s3.heap.objs.size X.env
  let s4 : Shared := { s3 with heap := pushCells (s3.heap.push { cls := .type "dict", data := .dict #[] }) scope.names }
  have I4 : Inv (X.blk s3 H3 scope ce fp) [] (wipe σ (own.map (·.2))) H3 s4 := I4
  have st4 : tn 0 s4.heap := T.keep _ _ _ st3 fun b _ o e => pushCells_keeps _ _ _ _ (Heap.get?_push_of_some _ e)
  have stat : ∀ {σ' : L2.St} {H' : Hp} {s' : Shared}, Inv (X.blk s3 H3 scope ce fp) [] σ' H' s' → (∀ b ∈ fp, H' b = none) → ∀ b ∈ fp, FpOk (X.blk s3 H3 scope ce fp) [] H' b := fun {σ' H' s'} J' hn b hb =>
    ⟨hn b hb, (J'.ok.exf b hb).1, J'.ok.exfs b hb, .inl hb, fun x c e => (J'.ok.exf b hb).2 x c e, fun p hp => absurd (show p ∈ ([] : List (Addr × Obj)) ++ [] from hp) (by simp)⟩
  show codeAny _ _ (.compStart (.SetComp elt [⟨tg, iter, [], 0⟩] scope pos) 0 (.ref it) (.ref s2.heap.objs.size) ce) (compPost (model X.prog X.w) X.A X.xe none (EP X pins σ Q) (.ref s2.heap.objs.size) s3.heap.objs.size) s4
  refine PpSet.codeAny_compStart_set ?loop (T.self X.A 0 _ _ _ st4 ?loop)
  refine PpSet.compLoopS_any (fun n s' => ∃ i H', Inv (X.blk s3 H3 scope ce fp) [] (wipe σ (own.map (·.2))) H' s' ∧ tn i s'.heap ∧ (∀ b ∈ fp, H' b = none) ∧ W i n H') ?_ m0 ⟨0, H3, I4, st4, fun b hb => (f3 b hb).1.1, w0⟩
  rintro n s5 ⟨i, H5, I5, st5, n5, w5⟩
  rcases turn i n H5 w5 with ⟨stop, qq⟩ | ⟨go, Nx, hNx, step⟩
  · refine thnF (T.done (X.blk s3 H3 scope ce fp) rfl rfl rfl hc i [] s5 _ H5 (fun _ _ => False) I5 (stat I5 n5) st5 stop) fun r s6 ⟨hr, I6⟩ => ?_
    subst hr
    have I7 : Inv X pins σ H5 s6 := I3.call' (ch := fp) I6.os I6.base I6.hok I6.bare fun b hb => ⟨(f3 b hb).1.2.2.2.1, (f3 b hb).1.2.1, (f3 b hb).1.2.2.2.2.1, (f3 b hb).1.2.2.2.2.2⟩
    have fC := I3.fpOk (H' := H5) (Nat.le_refl _) (show H5 s3.heap.objs.size = none from I6.free)
    obtain ⟨m, hn, _⟩ := I6.loc
    refine ⟨m, hn, fun h'' sb => ?_⟩
    obtain ⟨f0, f1, _, f3', f4', f5'⟩ := fC
    exact ⟨.ref _, H5, I7.turned (t' := s6.toks) (fun b o hb e => (sb.2 b hb).trans e) f0 f1 f3' f4' f5', rfl, qq⟩
  · refine thnF (T.item (X.blk s3 H3 scope ce fp) rfl rfl rfl hc i [] s5 _ H5 (fun _ _ => False) I5 (stat I5 n5) st5 go) fun r s6 ⟨u, hr, h6⟩ => ?_
    subst hr
    refine thnF h6 fun _ s7 ⟨x, H7, I7, r7, y7, st7, n7⟩ => ?_
    refine thnF (pg.run _ s7 _ H7 x u _ (I7.pinned (stat I7 n7) (T.obj _ _ st7)) r7 (step x H7 y7)) fun _ s8 ⟨σ8, H8, I8, hw8, q8⟩ => ?_
    refine wpAny_tests_nil ?_
    simp only [if_true]
    refine thnF (pe.run _ s8 σ8 H8 _ I8 q8) fun z s9 ⟨yv, H9, I9, r9, k, S0, n0, ey, hD9, room, nx⟩ => ?_
    subst ey
    refine addK_ok (X := X.blk s3 H3 scope ce fp) I9 hD9 room r9 fun s10 I10 => ?_
    obtain ⟨m', hm, w'⟩ := hNx _ nx
    have still : ∀ b ∈ fp, ∀ o, s7.heap.get? b = some o → s10.heap.get? b = some o ∧ _ = none := fun b hb o e =>
      let z := I10.pin (b, o) (List.mem_append_right _ (List.mem_append_right _ (mem_pinsAt hb e)))
      ⟨z.1, z.2.1⟩
    refine ⟨m', hm, i + 1, _, (I10.unpinned (pins := [])).weak (show (wipe σ (own.map (·.2))).length = σ8.length by rw [← hw8, wipe_length]) (fun j v e => ?_), T.keep _ _ _ st7 fun b hb o e => (still b hb o e).1, fun b hb => ?_, w'⟩
    · rw [← hw8] at e
      exact (wipe_some e).1
    · obtain ⟨o, e, _⟩ := T.obj _ _ st7 b hb
      exact (still b hb o e).2

/-- len of a set of keys -/
def rLenK (P : Program) (w : World) : List V → Hp → VK → Prop := fun xs H Q => ∃ (a : Addr) (S : Key → Bool) (n : Nat), xs = [.ref a] ∧ H a = some (SetK P w a S n) ∧ Q (.int n) H
theorem call_lenK : CallR X (.builtin "len") (rLenK X.prog X.w) := by
  intro pins s σ H xs us Q I r h
  obtain ⟨a, S, n, rfl, ha, q⟩ := h
  obtain ⟨u, rfl, ru⟩ := vals1 r
  cases ru
  obtain ⟨o, es, ep, t, ho, hx, hd, he, hm, hb, hf, hn⟩ := setK_get I ha
  have h4 : scanBound = 4096 := rfl
  exact call_len_set ho hx hd hf (by omega) ⟨.int n, H, I.tok _, ⟨_, by rw [hn]⟩, q⟩

/-! ### the members of a row: as many as there are different ones -/
theorem snoc_ind {α : Type} {p : List α → Prop} (h0 : p []) (h1 : ∀ l a, p l → p (l ++ [a])) (l : List α) : p l := by
  have h : ∀ r : List α, p r.reverse := fun r => by
    induction r with
    | nil => exact h0
    | cons a r ih =>
      rw [List.reverse_cons]
      exact h1 _ _ ih
  have q := h l.reverse
  rw [List.reverse_reverse] at q
  exact q
/-- what a walk over keys leaves -/
def keysOf (ks : List Key) : (Key → Bool) × Nat := ks.foldl (fun p k => (addKey p.1 k, if p.1 k = true then p.2 else p.2 + 1)) (noKeys, 0)
theorem keysOf_snoc (ks : List Key) (k : Key) : keysOf (ks ++ [k]) = (addKey (keysOf ks).1 k, if (keysOf ks).1 k = true then (keysOf ks).2 else (keysOf ks).2 + 1) := by
  unfold keysOf
  rw [List.foldl_append]
  rfl
theorem keysOf_mem (ks : List Key) (j : Key) : (keysOf ks).1 j = true ↔ j ∈ ks := by
  refine snoc_ind (p := fun ks => (keysOf ks).1 j = true ↔ j ∈ ks) (by simp [keysOf]) (fun ks k ih => ?_) ks
  · rw [keysOf_snoc]
    show (_ || _) = true ↔ _
    rw [Bool.or_eq_true, decide_eq_true_eq, ih]
    simp
theorem keysOf_le (ks : List Key) : (keysOf ks).2 ≤ ks.length := by
  refine snoc_ind (p := fun ks => (keysOf ks).2 ≤ ks.length) (by simp [keysOf]) (fun ks k ih => ?_) ks
  · rw [keysOf_snoc, List.length_append, List.length_singleton]
    show (if (keysOf ks).1 k = true then (keysOf ks).2 else (keysOf ks).2 + 1) ≤ ks.length + 1
    have ih : (keysOf ks).2 ≤ ks.length := ih
    split <;> omega
theorem keysOf_all (ks : List Key) : (keysOf ks).2 = ks.length ↔ ks.Nodup := by
  refine snoc_ind (p := fun ks => (keysOf ks).2 = ks.length ↔ ks.Nodup) (by simp [keysOf]) (fun ks k ih => ?_) ks
  · have hle := keysOf_le ks
    rw [keysOf_snoc, List.length_append, List.length_singleton, List.nodup_append]
    show (if (keysOf ks).1 k = true then (keysOf ks).2 else (keysOf ks).2 + 1) = ks.length + 1 ↔ _
    have ih : (keysOf ks).2 = ks.length ↔ ks.Nodup := ih
    by_cases h : (keysOf ks).1 k = true
    · rw [if_pos h]
      have hm := (keysOf_mem ks k).mp h
      constructor
      · intro e
        omega
      · intro n
        exact absurd rfl (n.2.2 k hm k (List.mem_singleton.mpr rfl))
    · rw [if_neg h]
      have hm : k ∉ ks := fun z => h ((keysOf_mem ks k).mpr z)
      constructor
      · intro e
        refine ⟨ih.mp (by omega), by simp, fun a ha b hb => ?_⟩
        rw [List.mem_singleton.mp hb]
        exact fun z => hm (z ▸ ha)
      · intro n
        have := ih.mpr n.1
        omega
end
end Gd

/-! Walks over tuples of data. -/
namespace Gd
open PySem PySem.Spec PyProof.Rows L2 GxR Gx
section
variable {K : PySem.W.Frag}
theorem all_takeD {p : PyData → Bool} {l : List PyData} {i : Nat} {d : PyData} (hd : l[i]? = some d) (h : (l.take i).all p = true) : (l.take (i + 1)).all p = p d := by
  rw [List.take_add_one, hd, List.all_append, h, Bool.true_and]
  simp
theorem all_midD {p : PyData → Bool} {l : List PyData} {i : Nat} {d : PyData} (hd : l[i]? = some d) (h : p d = false) : l.all p = false := by
  rw [List.all_eq_false]
  exact ⟨d, List.mem_of_getElem? hd, by rw [h]; exact Bool.false_ne_true⟩
/-- all(test for x in tuple) -/
theorem all_tup {T a : Addr} {xs : List V} {ds : List PyData} {te : TE} {p : PyData → Bool} {H1 : Hp} {Q : VK} {σ : L2.St} (hT : TabG H1 T) (h : SqT K H1 a xs) (hs : DtAll K H1 xs ds)
    (ht : ∀ (v : V) (d : PyData) (H : Hp) (Q' : VK), d ∈ ds → Dt K H v d → Kp H1 H → (∀ H', Kp H H' → Q' (.bl (p d)) H') → te [some v] H Q') (q : ∀ H', Kp H1 H' → Q (.bl (ds.all p)) H') :
    TabG H1 T ∧ ∀ H2, Tabbed T H1 H2 → ∃ W : Nat → Nat → Hp → Prop, (∃ m, W 0 m H2) ∧ ∀ i m H, W i m H → ((Itt K a).stop i H ∧ Q (.bl true) H) ∨
      ((Itt K a).go i H ∧ ∃ Nx : Hp → Prop, (∀ H', Nx H' → ∃ m', m' < m ∧ W (i + 1) m' H') ∧ ∀ y H', (Itt K a).yld i H y H' → gName 0 y (none :: capV σ []) H' fun σ2 H3 =>
        (∀ (j : Nat) v, (none :: capV σ [] : L2.St)[j]? = some (some v) → σ2[j]? = some (some v)) ∧ te σ2 H3 fun y H5 => ∃ c, y = .bl c ∧ if c = true then Nx H5 else Q (.bl false) H5) := by
  refine ⟨hT, fun H2 h2 => ⟨fun i m H => Kp H1 H ∧ m = xs.length - i ∧ i ≤ xs.length ∧ (ds.take i).all p = true, ⟨_, Kb.tabbed h2 hT, rfl, Nat.zero_le _, by simp⟩, ?_⟩⟩
  rintro i m H ⟨k, rfl, hi, ha⟩
  have hq := k.sqT Lsts.nil h
  have hds := DtAll.kb k Lsts.nil hs
  by_cases hl : i < xs.length
  · obtain ⟨v, hv⟩ : ∃ v, xs[i]? = some v := ⟨xs[i], List.getElem?_eq_getElem hl⟩
    obtain ⟨d, hd, hvd⟩ := hds.get hv
    refine .inr ⟨⟨xs, v, hq, hv⟩, fun H' => Kp H1 H' ∧ (ds.take (i + 1)).all p = true, fun H' ⟨e, a⟩ => ⟨xs.length - (i + 1), by omega, e, rfl, hl, a⟩, fun y H' hy => ?_⟩
    obtain ⟨rfl, hy⟩ := hy
    have ey : v = y := Option.some.inj (hv.symm.trans (hy xs hq))
    subst ey
    refine ⟨nil_slots, ht v d _ _ (List.mem_of_getElem? hd) hvd k fun H5 k5 => ⟨p d, rfl, ?_⟩⟩
    cases e : p d with
    | true =>
      rw [if_pos rfl]
      exact ⟨k.trans k5, by rw [all_takeD hd ha, e]⟩
    | false =>
      rw [if_neg Bool.false_ne_true, ← all_midD (p := p) hd e]
      exact q _ (k.trans k5)
  · have e : i = xs.length := by omega
    subst e
    refine .inl ⟨⟨xs, hq, Nat.le_refl _⟩, ?_⟩
    have e2 : ds.take xs.length = ds := by
      rw [hs.length]
      exact List.take_length
    rw [e2] at ha
    rw [← ha]
    exact q _ k
/-- {e for x in tuple}, each member known -/
theorem scK_tup {P : Program} {w : World} {a : Addr} {xs : List V} {ks : List Key} {te : TE} {H1 : Hp} {Q : VK} {σ : L2.St} {j : Nat} (h : SqT K H1 a xs) (hl : ks.length = xs.length) (hn : xs.length ≤ 1000) (hj : j < σ.length)
    (ht : ∀ (i : Nat) (v : V) (k : Key) (H : Hp) (Q' : VK), xs[i]? = some v → ks[i]? = some k → Kp H1 H → Q' (kV k) H → te ((wipe σ [j]).set j (some v)) H Q')
    (q : ∀ D H', H1 D = none → Kp H1 H' → H' D = some (SetK P w D (keysOf ks).1 (keysOf ks).2) → Q (.ref D) H') :
    ∀ D, H1 D = none → ∃ W : Nat → Nat → Hp → Prop, (∃ m, W 0 m (upd H1 D (SetK P w D noKeys 0))) ∧ ∀ i m H, W i m H →
      ((Itt K a).stop i H ∧ Q (.ref D) H) ∨ ((Itt K a).go i H ∧ ∃ Nx : Hp → Prop, (∀ H', Nx H' → ∃ m', m' < m ∧ W (i + 1) m' H') ∧ ∀ x H', (Itt K a).yld i H x H' → gName j x (wipe σ [j]) H' fun σ2 H2 => wipe σ2 [j] = wipe σ [j] ∧ te σ2 H2 fun y H4 =>
        ∃ (k : Key) (S : Key → Bool) (n : Nat), y = kV k ∧ H4 D = some (SetK P w D S n) ∧ n + 1 < scanBound ∧ Nx (upd H4 D (SetK P w D (addKey S k) (if S k = true then n else n + 1)))) := by
  intro D hD
  refine ⟨fun i m H => m = xs.length - i ∧ i ≤ xs.length ∧ Kp H1 H ∧ H D = some (SetK P w D (keysOf (ks.take i)).1 (keysOf (ks.take i)).2), ⟨_, rfl, Nat.zero_le _, Kb.new hD, upd_same⟩, ?_⟩
  rintro i m H ⟨rfl, hi, k, hs⟩
  have hq := k.sqT Lsts.nil h
  by_cases hl2 : i < xs.length
  · obtain ⟨v, hv⟩ : ∃ v, xs[i]? = some v := ⟨xs[i], List.getElem?_eq_getElem hl2⟩
    obtain ⟨ky, hk⟩ : ∃ y, ks[i]? = some y := ⟨ks[i], List.getElem?_eq_getElem (by omega)⟩
    refine .inr ⟨⟨xs, v, hq, hv⟩, fun H' => Kp H1 H' ∧ H' D = some (SetK P w D (keysOf (ks.take (i + 1))).1 (keysOf (ks.take (i + 1))).2), fun H' ⟨a, b⟩ => ⟨xs.length - (i + 1), by omega, rfl, hl2, a, b⟩, fun x H' hy => ?_⟩
    obtain ⟨rfl, hy⟩ := hy
    have ey : v = x := Option.some.inj (hv.symm.trans (hy xs hq))
    subst ey
    refine ⟨?_, ht i v ky _ _ hv hk k ⟨ky, _, _, rfl, hs, ?_, ?_, ?_⟩⟩
    · show ((wipe σ [j]).set j (some v)).set j none = wipe σ [j]
      unfold wipe wipe
      rw [List.set_set, List.set_set]
    · have h1 := keysOf_le (ks.take i)
      rw [List.length_take] at h1
      show _ + 1 < 4096
      omega
    · exact k.mut hD (no_tab hs nt_ext)
    · rw [upd_same, List.take_add_one, hk]
      show some (SetK P w D _ _) = some (SetK P w D (keysOf (ks.take i ++ [ky])).1 (keysOf (ks.take i ++ [ky])).2)
      rw [keysOf_snoc]
  · have e : i = xs.length := by omega
    subst e
    refine .inl ⟨⟨xs, hq, Nat.le_refl _⟩, q D H hD k ?_⟩
    rw [← hl, List.take_length] at hs
    exact hs
end
end Gd
namespace Gd
open PySem PySem.Spec PyProof.Rows L2 GxR Gx
/-! ### rules whose reading names the written part by a letter, for the blocks of comprehensions -/
section
variable {X : Cx} {K : PySem.W.Frag}
theorem ix_tupK (h : X.K = K) : IxR X (rIxT K) := h ▸ ix_tup
theorem ix_listK (h : X.K = K) : IxR X (rIxL K) := h ▸ ix_list
theorem call_isiL (h : X.K = K) : CallR X (.builtin "isinstance") (rIsi K) := h ▸ call_isi
theorem call_len_seqK (h : X.K = K) : CallR X (.builtin "len") (fun xs H Q => ∃ p ys, xs = [.ref p] ∧ (SqL K H p ys ∨ SqT K H p ys) ∧ Q (.int ys.length) H) := h ▸ call_len_seq
theorem op_eqDK (h : X.K = K) (hu : X.A.units + 64 < cLine) : OpR X (compareOp .Eq) (rEqD K) := h ▸ op_eqD hu
theorem op_neDK (h : X.K = K) (hu : X.A.units + 64 < cLine) : OpR X (compareOp .NotEq) (rNeD K) := h ▸ op_neD hu
end
end Gd
namespace Gd
open PySem PySem.Spec PyProof.Rows L2 GxR Gx
section
variable {K : PySem.W.Frag} {T : Addr} {te : TE} {H : Hp} {Q : VK} {σ : L2.St} {i : Nat}
theorem rd_all_str {x : Str} {p : Nat → Bool} (hx : σ[i]? = some (some (.str x))) (hT : TabG H T)
    (ht : ∀ c ∈ x.cps.toList, ∀ (H : Hp) (Q' : VK), Q' (.bl (p c)) H → te [some (.str ⟨#[c]⟩)] H Q') (q : ∀ H2, Kp H H2 → Q (.bl (x.cps.toList.all p)) H2) : tAllG T (iStr (tVar i)) (gName 0) te [] σ H Q :=
  ⟨.str x, hx, x, rfl, all_str (p := p) hT ht fun H2 h2 => q H2 (Kb.tabbed h2 hT)⟩
theorem rd_all_tup {a : Addr} {xs : List V} {ds : List PyData} {p : PyData → Bool} (hx : σ[i]? = some (some (.ref a))) (hT : TabG H T) (h : SqT K H a xs) (hs : DtAll K H xs ds)
    (ht : ∀ (v : V) (d : PyData) (H' : Hp) (Q' : VK), d ∈ ds → Dt K H' v d → Kp H H' → (∀ H2, Kp H' H2 → Q' (.bl (p d)) H2) → te [some v] H' Q') (q : ∀ H', Kp H H' → Q (.bl (ds.all p)) H') : tAllG T (iTup K (tVar i)) (gName 0) te [] σ H Q :=
  ⟨.ref a, hx, a, rfl, ⟨xs, h⟩, all_tup (p := p) hT h hs ht q⟩
theorem rd_scK_tup {P : Program} {w : World} {a : Addr} {xs : List V} {ks : List Key} {j : Nat} (hx : σ[i]? = some (some (.ref a))) (h : SqT K H a xs) (hl : ks.length = xs.length) (hn : xs.length ≤ 1000) (hj : j < σ.length)
    (ht : ∀ (i : Nat) (v : V) (k : Key) (H' : Hp) (Q' : VK), xs[i]? = some v → ks[i]? = some k → Kp H H' → Q' (kV k) H' → te ((wipe σ [j]).set j (some v)) H' Q')
    (q : ∀ D H', H D = none → Kp H H' → H' D = some (SetK P w D (keysOf ks).1 (keysOf ks).2) → Q (.ref D) H') : tScK P w (iTup K (tVar i)) (gName j) te [j] σ H Q :=
  ⟨.ref a, hx, a, rfl, ⟨xs, h⟩, scK_tup h hl hn hj ht q⟩
end
end Gd

/-! Defs that may raise an own error with one field; the error caught. -/
namespace Gd
open PySem PySem.Spec PyProof.Rows L2 GxR Gx
/-- what a caller of a def that may raise needs -/
def CalX (P : Program) (w : World) (K : PySem.W.Frag) (mg : Str → Option Value) (base : Heap) (k : Nat) (x : Str) (ps : List Str) (sp : Sp) : Prop :=
  ∃ f fd, FnG P w K mg base (L2.CX P w) k f fd ps sp ∧ mg x = some (.ref f) ∧ PySem.W.keepIn K (.ref f) = true ∧ Binds K fd ps []
section
variable {P : Program} {w : World} {K : PySem.W.Frag} {mg : Str → Option Value} {base : Heap}
theorem DefAt.calX {x : Str} {st : Stmt} {N ps : List Str} {k : Nat} {sp : Sp} (D : DefAt K mg x st ps) (S : FnScope N ps (defScope st)) (len : ∀ vs H Q E, sp vs H Q E → vs.length = ps.length)
    (hb : ∀ (f : Addr) (cdv : Value) (A : Around) (outer : List Env) (s : Shared) (H : Hp) (vs : List V) (Q : VK) (E : XK), RoomG k (A.deeper (envOfC x (defScope st) s.heap.objs.size f cdv)) → sp vs H Q E →
      ∃ t, PSs (cxOf (L2.CX P w) P w K mg base N x (defScope st) f cdv A outer s H E) (defBody st) t ∧ t { nx := fun _ H' => Q .non H', rt := Q } (start N vs) H) : CalX P w K mg base (k + 1) x ps sp := by
  obtain ⟨f, fd, F, g, b⟩ := D
  exact ⟨f, fd, okGX F S len (hb f), g, F.kp, b⟩
end
section
variable {X : Cx} {k : Nat} {ps : List Str} {sp : Sp} {x : Str} {p pos : Pos} {e : Expr} {es : List Expr} {t : TA} {E : L2.St → XK}
theorem pe_calX (C : CalX X.prog X.w X.K X.mg X.base k x ps sp) (hr : RoomG k X.A) (hg : Gl X x) (hx : ∀ σ, PassesAt (L2.CX X.prog X.w) X σ (E σ)) (ha : PA X (e :: es) t) (hdb : (x == ("__debug__" : Str)) = false := by decide)
    (he : starEach (e :: es) X.env = (false, eval e X.env) :: starEach es X.env := by rfl) (hpl : (backTo pos (starEach es X.env)).any (·.1) = false := by rfl) : PE X (.Call (.Name x p) (e :: es) [] pos) (tCallS sp E t) := by
  obtain ⟨f, fd, F, g, kp, b⟩ := C
  refine ⟨fun pins s σ H Q I h => wpAny_Call_Name_kw (ld_glob I hg g ?_ hdb)⟩
  refine PySem.W.callWith_K (h₀ := X.base) I.ok.mod.kin kp (thn (ha.run pos pins s σ H _ I h) fun us s1 ⟨vs, H1, I1, rv, q1⟩ => ⟨I1.kIn, ?_⟩) he hpl
  have hl : us.length = ps.length := by
    rw [← rv.length]
    exact F.len _ _ _ _ q1
  have bb := b s1 us I1.kIn (by rw [List.append_nil]; exact hl)
  rw [List.append_nil] at bb
  refine wpAny_call (codeAny_mono (F.run X.A X.stack s1 H1 ⟨us, []⟩ us vs Q (E σ) hr I1.env0 bb rv q1) fun r s' hq => ?_)
  cases r with
  | error er => exact hx σ pins H1 s1 er s' I1 hq
  | ok fl =>
    cases fl with
    | ret u => exact I1.after hq
    | _ => exact hq.elim
end
/-- __init__ that stores its one argument -/
def spInit (K : PySem.W.Frag) (fld : Str) : Sp := fun vs H Q _ => ∃ (a C : Addr) (y : V), vs = [.ref a, y] ∧ OexC K C ∧ PySem.W.findIn K (.ref C) fld = some none ∧ H a = some (exo a C none) ∧
  ∀ dx, H dx = none → dx ≠ a → Q .non (upd (upd H dx (exd dx [(fld, y)])) a (exo a C (some dx)))
theorem rd_raise {K : PySem.W.Frag} {C : Addr} {fld : Str} {σ : L2.St} {H : Hp} {Q : XK} {i : Nat} {v : V} (T : OexC K C) (hno : PySem.W.findIn K (.ref C) fld = some none) (hv : σ[i]? = some (some v)) (q : ∀ d H', Kp H H' → H' d = some (.xd [(fld, v)]) → Q (.ref C) (some d) H') :
    tMkO C (spInit K fld) [] (tCons (tVar i) tNil) σ H Q := by
  refine ⟨v, hv, by show 1 ≤ 1000; decide, fun a ha => ⟨a, C, v, rfl, T, hno, upd_same, fun dx hdx hne => ?_⟩⟩
  have hd : H dx = none := by rw [upd_ne hne] at hdx; exact hdx
  refine ⟨rfl, dx, [(fld, v)], upd_same, by rw [upd_ne hne]; exact upd_same, hd, q dx _ ⟨fun b o e _ _ => ?_, fun T' hT => ?_, fun b e => ?_⟩ upd_same⟩
  · have h1 : b ≠ a := ne_of_none e ha
    have h2 : b ≠ dx := ne_of_none e hd
    rw [upd_ne h2, del_ne h1, upd_ne h1, upd_ne h2, upd_ne h1]
    exact e
  · obtain ⟨ps, e, t⟩ := hT
    have h1 : T' ≠ a := ne_of_none e ha
    have h2 : T' ≠ dx := ne_of_none e hd
    exact ⟨ps, by rw [upd_ne h2, del_ne h1, upd_ne h1, upd_ne h2, upd_ne h1]; exact e, t⟩
  · by_cases h2 : b = dx
    · rw [h2]
      exact hd
    · by_cases h1 : b = a
      · rw [h1]
        exact ha
      · rw [upd_ne h2, del_ne h1, upd_ne h1, upd_ne h2, upd_ne h1] at e
        exact e
/-- isinstance of the error that the suite holds -/
structure ExcK (K : PySem.W.Frag) (C : Addr) : Prop where
  cl : (PySem.W.clsIn K C).isSome = true
  ga : PySem.W.findIn K (.ref C) "__getattribute__" = some (some (.builtin "BaseException.__getattribute__"))
  gg : PySem.W.findIn K (.ref C) "__getattr__" = some none
  sub : PySem.W.subIn K (.ref C) (.type "BaseException") = some true
  ca : PySem.W.findIn K (.ref C) "__class__" = some (some (.builtin "object.__class__"))
  sg : PySem.W.specialIn K (.builtin "object.__class__") "__get__" = some (some (.builtin "getset_descriptor.__get__"))
  tk : PySem.W.takesIn K (.builtin "object.__class__") = some true
  mo : PySem.W.mroIn K C (.type "object") = some true
def rIsX (K : PySem.W.Frag) (C a : Addr) (cls : Value) (d : Option Addr) : List V → Hp → VK → Prop := fun xs H Q => ∃ (c : V) (cv : Value) (b : Bool) (dd : Addr) (fs : List (Str × V)), xs = [.ref a, c] ∧ cls = .ref C ∧ d = some dd ∧ H dd = some (.xd fs) ∧ (∀ u, RelV c u → u = cv) ∧ PySem.W.kitOne K (.ref C) cv = some b ∧ Q (.bl b) H
theorem call_isX {X : Cx} {a C : Addr} {oe : Obj} {cls : Value} {d : Option Addr} {pn : List (Addr × Obj)} (T : ExcK X.K C) (hz : Zc cls d oe) (hf : ∃ vs, oe.data = .fields vs) : CallR (X.suite a ((a, oe) :: pn)) (.builtin "isinstance") (rIsX X.K C a cls d) := by
  intro pins s σ H xs us Q I r h
  obtain ⟨c, cv, b, dd, fs, rfl, rfl, rfl, ed, hcv, e, q⟩ := h
  obtain ⟨vs, hv⟩ := hf
  have at_ := (I.pin (a, oe) (List.mem_append.mpr (.inl List.mem_cons_self))).1
  obtain ⟨mA, ⟨od, es, ep, ho, _⟩, _⟩ := (show ObjOk X.prog X.w H s.heap dd (.xd fs) from I.hok dd _ ed)
  have J : PySem.W.InstAt s.heap a oe C (some od) := by
    obtain ⟨oc, odc, oda, osl⟩ := oe
    obtain ⟨z1, z2⟩ := hz
    dsimp only at z1 z2 hv
    subst z1 z2 hv
    exact ⟨at_, rfl, rfl, ho⟩
  cases r with
  | cons rx rr =>
    cases rr with
    | cons rt rr =>
      cases rr
      cases rx
      cases hcv _ rt
      exact PySem.W.kia_one (PySem.W.kitx_exc T.cl T.ga T.gg T.sub T.ca T.sg T.tk T.mo) I.kIn J e (fun z => nomatch z) fun tk => ⟨.bl b, H, I.kept (t' := tk) fun _ _ z => z, rfl, q⟩
end Gd

/-! max(xs, default=d) of a list of ints -/
namespace MxD
open PySem PyProof.Rows
theorem argsD (a d : Value) : argsOk "max" ⟨[a], [(Str.ofString "default", d)]⟩ := by unfold argsOk; kernel_rfl
theorem nm : (toString "max" ++ toString ".loop" : String) = "max.loop" := by decide
section
variable {prog : Program} {w : World} {A : Around} {R : Result → Shared → Prop} {I S : Addr} {fp wr : List Addr} {n : Nat} {P : Nat → Value → Prop} {St : Nat → Heap → Prop} {d : Value}
abbrev Lp (I S : Addr) (d : Value) : Code := .builtin "max.loop" ⟨[.ref I, .none, .ref S], [(Str.ofString "default", d)]⟩
/-- the list that holds the best so far -/
abbrev bestO (xs : Array Value) (c : Nat) : Obj := { cls := .type "list", dict := none, data := .seq xs c, slots := #[] }
theorem turn (W : Walks prog w A.in1 I fp wr n P St) (bt : Nat → Nat → Bool) (hc : CmpOf prog w A.in1 .Gt P bt) (no : S ∉ fp) : ∀ (m j : Nat) (s : Shared) (u : Value) (c : Nat),
    j + 1 + m = n → St (j + 1) s.heap → P (argBest bt j) u → s.heap.get? S = some (bestO #[u, u] c) →
    (∀ v h t, P (argBest bt (n - 1)) v → (∀ b o, b ∉ wr → b ≠ S → s.heap.get? b = some o → h.get? b = some o) → R (.ok (.ret v)) { s with heap := h, toks := t }) →
    codeAny (model prog w) A (Lp I S d) R s := by
  have nw : S ∉ wr := fun z => no (W.sub _ z)
  intro m
  induction m with
  | zero =>
    intro j s u c e x p g q
    refine codeAny_builtin F.entry_max_loop ?_
    rw [Around.under_plainId F.plain_max_loop _]
    show wpAny _ _ (seqItems? (.ref S) >>= _) _ _ _
    refine wpAny_bind (wpAny_seqItems g rfl ?_)
    show wpAny _ _ (tryCatch (pyNext (.ref I)) _ >>= _) _ _ _
    refine wpAny_bind (wpAny_tryCatch (W.done s _ _ (e ▸ x) fun h t k => ?_))
    have g' := k S _ nw g
    show wpAny _ _ (updateSeq S _ >>= _) _ _ _
    refine wpAny_bind ?_
    refine wpAny_updateSeq g' rfl (wpAny_bind (wpAny_letGo (wpAny_pure ?_)))
    exact q u _ t (by rw [← e]; exact p) fun b o z1 z2 y => (Heap.get?_update_other _ _ (Ne.symm z2)).trans (k b o z1 y)
  | succ m ih =>
    intro j s u c e x p g q
    refine codeAny_builtin F.entry_max_loop ?_
    rw [Around.under_plainId F.plain_max_loop _]
    show wpAny _ _ (seqItems? (.ref S) >>= _) _ _ _
    refine wpAny_bind (wpAny_seqItems g rfl ?_)
    show wpAny _ _ (tryCatch (pyNext (.ref I)) _ >>= _) _ _ _
    refine wpAny_bind (wpAny_tryCatch (W.item (j + 1) s _ _ (by omega) x fun v h t pv x' k => ?_))
    have g' := k S _ nw g
    show wpAny _ _ (tryCatch (holding [v, v] (richCompare .Gt v u >>= _)) _ >>= _) _ _ _
    refine wpAny_bind (wpAny_tryCatch (wpAny_holding (wpAny_bind (hc (j + 1) (argBest bt j) v u _ _ _ pv p ?_))))
    refine wpAny_bind (wpAny_holding (wpAny_truthy_bool ?_))
    refine wpAny_bind (wpAny_letGo (wpAny_pure ?_))
    by_cases hb : bt (j + 1) (argBest bt j) = true
    · rw [hb]
      simp only [if_true]
      refine wpAny_bind ?_
      refine wpAny_updateSeq g' rfl (wpAny_bind (wpAny_letGo ?_))
      rw [nm]
      have pb : P (argBest bt (j + 1)) v := by
        show P (if _ then _ else _) v
        rw [if_pos hb]
        exact pv
      refine wpAny_pure ⟨plainId_quiet F.plain_max_loop _, ih (j + 1) _ v _ (by omega) (W.frame _ _ _ x' fun b z o y => ?_) pb (Heap.get?_update_self _ g' rfl) fun v2 h2 t2 p2 k2 => ?_⟩
      · exact (Heap.get?_update_other _ _ (fun z' : S = b => no (by rw [z']; exact z))).trans y
      · exact q v2 h2 t2 p2 fun b o z1 z2 y => k2 b o z1 z2 ((Heap.get?_update_other _ _ (Ne.symm z2)).trans (k b o z1 y))
    · have hb : bt (j + 1) (argBest bt j) = false := by simpa using hb
      rw [hb]
      simp only [Bool.false_eq_true, if_false]
      refine wpAny_bind (wpAny_letGo ?_)
      rw [nm]
      have pb : P (argBest bt (j + 1)) u := by
        show P (if _ then _ else _) u
        rw [hb]
        exact p
      refine wpAny_pure ⟨plainId_quiet F.plain_max_loop _, ih (j + 1) _ u c (by omega) x' pb g' fun v2 h2 t2 p2 k2 => ?_⟩
      exact q v2 h2 t2 p2 fun b o z1 z2 y => k2 b o z1 z2 (k b o z1 y)
theorem first (W : Walks prog w A.in1 I fp wr n P St) (bt : Nat → Nat → Bool) (hc : CmpOf prog w A.in1 .Gt P bt) (no : S ∉ fp) {s : Shared} {c : Nat} (x : St 0 s.heap) (g : s.heap.get? S = some (bestO #[] c))
    (q : 0 < n → ∀ v h t, P (argBest bt (n - 1)) v → (∀ b o, b ∉ wr → b ≠ S → s.heap.get? b = some o → h.get? b = some o) → R (.ok (.ret v)) { s with heap := h, toks := t })
    (q0 : n = 0 → ∀ h t, (∀ b o, b ∉ wr → b ≠ S → s.heap.get? b = some o → h.get? b = some o) → R (.ok (.ret d)) { s with heap := h, toks := t }) :
    codeAny (model prog w) A (Lp I S d) R s := by
  have nw : S ∉ wr := fun z => no (W.sub _ z)
  refine codeAny_builtin F.entry_max_loop ?_
  rw [Around.under_plainId F.plain_max_loop _]
  show wpAny _ _ (seqItems? (.ref S) >>= _) _ _ _
  refine wpAny_bind (wpAny_seqItems g rfl ?_)
  show wpAny _ _ (tryCatch (pyNext (.ref I)) _ >>= _) _ _ _
  by_cases hn : 0 < n
  · refine wpAny_bind (wpAny_tryCatch (W.item 0 s _ _ hn x fun v h t pv x' k => ?_))
    have g' := k S _ nw g
    show wpAny _ _ (updateSeq S _ >>= _) _ _ _
    refine wpAny_bind ?_
    refine wpAny_updateSeq g' rfl ?_
    rw [nm]
    refine wpAny_pure ⟨plainId_quiet F.plain_max_loop _, turn W bt hc no (n - 1) 0 _ v _ (by omega) (W.frame _ _ _ x' fun b z o y => ?_) pv (Heap.get?_update_self _ g' rfl) fun v2 h2 t2 p2 k2 => ?_⟩
    · exact (Heap.get?_update_other _ _ (fun z' : S = b => no (by rw [z']; exact z))).trans y
    · exact q hn v2 h2 t2 p2 fun b o z1 z2 y => k2 b o z1 z2 ((Heap.get?_update_other _ _ (Ne.symm z2)).trans (k b o z1 y))
  · have hn : n = 0 := by omega
    refine wpAny_bind (wpAny_tryCatch (W.done s _ _ (hn ▸ x) fun h t k => ?_))
    show wpAny _ _ (rule _ >>= _) _ _ _
    refine wpAny_bind (wpAny_rule (wpAny_pure ?_))
    exact q0 hn h t fun b o z1 z2 y => k b o z1 y
end
section
variable {prog : Program} {w : World} {A : Around} {E : Value → Shared → Prop} {s : Shared} {l : Addr} {its : List Value} {ns : List Int} {d : Value} {Q : Value → Shared → Prop}
theorem run (hh : A.handled = none) (hl : s.heap.IsList l its.toArray) (hi : IntsAre its ns)
    (h : ∀ h' t M t', (∀ b o, s.heap.get? b = some o → h'.get? b = some o) → M ∈ ns → (∀ a, a ∈ ns → a ≤ M) → Q (.int M t') { s with heap := h', toks := t })
    (h0 : ns = [] → ∀ h' t, (∀ b o, s.heap.get? b = some o → h'.get? b = some o) → Q d { s with heap := h', toks := t }) :
    wpAny (model prog w) A (call (.builtin "max") [.ref l] [(Str.ofString "default", d)]) Q E s := by
  obtain ⟨xs, e⟩ := hi.allInts.items
  have hn : numsOf (intItems xs).toList = ns := by rw [← e]; exact hi.numsOf
  rw [nums_intItems] at hn
  subst hn
  rw [e] at hl
  refine kmk_tree F.kind_max F.plain_max F.entry_max (argsD _ _) ?_
  show wpAny _ _ (Builtin.Builtins.bindParams "max" ["key", "default"] 0 ⟨[], [(Str.ofString "default", d)]⟩ >>= _) _ _ _
  refine wpAny_bind (wpAny_of_eq (show Builtin.Builtins.bindParams "max" ["key", "default"] 0 ⟨[], [(Str.ofString "default", d)]⟩ = pure [none, some d] from rfl) ?_)
  refine wpAny_bind (wpAny_pure ?_)
  refine wpAny_bind (iter_intList hl fun s2 e2 st fp li => ?_)
  subst e2
  refine wpAny_bind (wpAny_newObj_type ?_)
  rw [nm]
  have hz := Heap.size_push s.heap { cls := .type "list_iterator", data := .fields #[.ref l, .int 0 0] }
  have W := Walks.list (prog := prog) (w := w) (A := A.in1) hh s.heap.objs.size l li (intItems xs)
  refine wpAny_pure ⟨plainId_quiet F.plain_max_loop _, first W _ (CmpOf.ints_gt (numAt xs) fun _ _ => intItems_at) (fun z => Nat.lt_irrefl _ (fp _ z)) (W.frame _ _ _ st fun b _ o y => Heap.get?_push_of_some _ y) (Heap.get?_push_size _ rfl) (fun hn v h' t pv k => ?_) fun hn h' t k => ?_⟩
  · have hp : (intItems xs)[argBest (fun i j => decide (numAt xs i > numAt xs j)) (xs.size - 1)]? = some v := by simpa [intItems] using pv
    obtain ⟨tv, rfl⟩ := intItems_at hp
    obtain ⟨h1, h2⟩ := argBest_gt (numAt xs) (xs.size - 1)
    have hx : 0 < xs.size := by simpa [intItems] using hn
    refine h h' t _ tv (old_kept fun b o hb y => k b o hb (Nat.ne_of_lt (Heap.lt_size y)) (Heap.get?_push_of_some _ y)) ?_ fun a ha => ?_
    · rw [numAt_eq]
      exact PySem.getD_mem (by rw [List.length_map, Array.length_toList]; omega)
    · obtain ⟨j, hj, rfl⟩ := mem_getD ha
      rw [List.length_map, Array.length_toList] at hj
      rw [← numAt_eq]
      exact h2 j (by omega)
  · refine h0 ?_ h' t (old_kept fun b o hb y => k b o hb (Nat.ne_of_lt (Heap.lt_size y)) (Heap.get?_push_of_some _ y))
    have hx : xs.size = 0 := by simpa [intItems] using hn
    rw [Array.eq_empty_of_size_eq_zero hx]
    rfl
end
end MxD
namespace L2
open PySem PySem.Spec PyProof.Rows
def rMaxD0 (K : PySem.W.Frag) : List V → List V → Hp → VK → Prop := fun vs zs H Q => ∃ (a : Addr) (ns : List Int) (d : V), vs = [V.ref a] ∧ zs = [d] ∧ SqL K H a (ns.map V.int) ∧
  (∀ m, m ∈ ns → (∀ y, y ∈ ns → y ≤ m) → Q (.int m) H) ∧ (ns = [] → Q d H)
theorem cr_maxDef {X : Cx} (hc : X.calm = true) : CallRK X (.builtin "max") [Str.ofString "default"] (rMaxD0 X.K) := by
  intro pins s σ H vs zs us ws Q I r rz h
  obtain ⟨a, ns, d, rfl, rfl, hs, q, q0⟩ := h
  obtain ⟨its, rv, hl, _⟩ := I.list hs
  rw [Vals.ref1 r]
  obtain ⟨w1, rfl, e1⟩ := vals1 rz
  exact MxD.run (I.ok.hd hc) hl.isList rv.ints (fun h' t m t' hk h1 h2 => ⟨.int _, H, I.kept hk, ⟨_, rfl⟩, q m h1 h2⟩) fun hn h' t hk => ⟨d, H, I.kept hk, e1, q0 hn⟩
end L2

namespace Rd
open PySem PySem.Spec PyProof.Rows L2 GxR Gx Gd
def topS (i : Nat) : Stmt := PySem.Challenge.pw_remoteviews_k36_handler_outwards.main.body.getD i (.Pass ⟨0, 0, 0, 0⟩)
end Rd

namespace Rd
open PySem PySem.Spec PyProof.Rows L2 GxR Gx Gd
/-! ### the law's draws -/
abbrev s_law_cell : Stmt := topS 3
theorem sc_law_cell : FnScope ["script", "k"] ["script", "k"] (defScope s_law_cell) := ⟨rfl, rfl, rfl, by decide +kernel, rfl, by decide +kernel, by decide +kernel⟩
abbrev s_law_draw : Stmt := topS 5
theorem sc_law_draw : FnScope ["box", "many", "at"] ["box", "many"] (defScope s_law_draw) := ⟨rfl, rfl, rfl, by decide +kernel, rfl, by decide +kernel, by decide +kernel⟩
def Box (bx d : Addr) (H : Hp) : Prop := ∃ (xs : List V) (at' : Int), H bx = some (.lst [.ref d, .int at']) ∧ 0 ≤ at' ∧ H d = some (.lst xs) ∧ ∀ v ∈ xs, ∃ i, v = .int i
theorem Box.ne {bx d : Addr} {H : Hp} (h : Box bx d H) : d ≠ bx := fun e => by
  obtain ⟨xs, a, h1, h2, h3, h4⟩ := h
  rw [e, h1] at h3
  cases h3
  obtain ⟨i, e⟩ := h4 _ List.mem_cons_self
  cases e
theorem Box.lsts {bx d : Addr} {H : Hp} (h : Box bx d H) : Lsts [bx] H := fun b hb => by
  obtain ⟨xs, a, h1, _⟩ := h
  cases hb with
  | head => exact ⟨_, h1⟩
  | tail _ h => cases h
theorem Box.kb {S : List Addr} {bx d : Addr} {H H' : Hp} (h : Box bx d H) (k : Kb S H H') (n1 : bx ∉ S) (n2 : d ∉ S) : Box bx d H' := by
  obtain ⟨xs, a, h1, h2, h3, h4⟩ := h
  exact ⟨xs, a, k.keep bx _ h1 n1 nt_lst, h2, k.keep d _ h3 n2 nt_lst, h4⟩
theorem Box.kp {bx d : Addr} {H H' : Hp} (h : Box bx d H) (k : Kp H H') : Box bx d H' := h.kb k (by simp) (by simp)
theorem Box.upd {bx d D : Addr} {H : Hp} {o : HO} (h : Box bx d H) (n1 : D ≠ bx) (n2 : D ≠ d) : Box bx d (upd H D o) := by
  obtain ⟨xs, a, h1, h2, h3, h4⟩ := h
  exact ⟨xs, a, by rw [upd_ne n1.symm]; exact h1, h2, by rw [upd_ne n2.symm]; exact h3, h4⟩
theorem Box.new {bx d D : Addr} {H : Hp} (h : Box bx d H) (n : H D = none) : D ≠ bx ∧ D ≠ d := by
  obtain ⟨xs, a, h1, h2, h3, h4⟩ := h
  exact ⟨(ne_of_none h1 n).symm, (ne_of_none h3 n).symm⟩
/-- after some draws -/
def Aft (bx d : Addr) (H H' : Hp) : Prop := Kb [bx] H H' ∧ Box bx d H'
theorem Aft.trans {bx d : Addr} {H H1 H2 : Hp} (a : Aft bx d H H1) (b : Aft bx d H1 H2) : Aft bx d H H2 := ⟨a.1.trans b.1, b.2⟩
theorem Aft.of {bx d : Addr} {H H' : Hp} (b : Box bx d H) (k : Kp H H') : Aft bx d H H' := ⟨Kb.of k, b.kp k⟩
theorem Aft.refl {bx d : Addr} {H : Hp} (b : Box bx d H) : Aft bx d H H := ⟨Kb.refl H, b⟩
theorem Aft.new {bx d D : Addr} {H : Hp} {o : HO} (b : Box bx d H) (n : H D = none) : Aft bx d H (upd H D o) := Aft.of b (Kb.new n)
theorem Aft.mut {bx d D : Addr} {H H' : Hp} {o u : HO} (k : Aft bx d H H') (n : H D = none) (b : Box bx d H) (e : H' D = some u) (t : NoTab u) : Aft bx d H (upd H' D o) :=
  ⟨k.1.mut n (no_tab e t), k.2.upd (b.new n).1 (b.new n).2⟩
theorem Aft.dt {K : PySem.W.Frag} {bx d : Addr} {H H' : Hp} {v : V} {x : PyData} (k : Aft bx d H H') (b : Box bx d H) (h : Dt K H v x) : Dt K H' v x := h.kb k.1 b.lsts
theorem Aft.lst {bx d D : Addr} {H H' : Hp} {xs : List V} (k : Aft bx d H H') (e : H D = some (.lst xs)) (n : D ≠ bx) : H' D = some (.lst xs) := k.1.keep D _ e (by simpa using n) nt_lst
def spDraw : Sp := fun vs H Q _ => ∃ bx d many, vs = [.ref bx, .int many] ∧ 0 < many ∧ Box bx d H ∧ ∀ H' r, Aft bx d H H' → 0 ≤ r → r < many → Q (.int r) H'
def spCell (K : PySem.W.Frag) : Sp := fun vs H Q _ => ∃ (a : Addr) (ns : List Int) (k : Int), vs = [.ref a, .int k] ∧ 0 ≤ k ∧ SqL K H a (ns.map V.int) ∧ ∀ i, Q (.int i) H
section
variable {P : Program} {w : World} {K : PySem.W.Frag} {mg : Str → Option Value} {base : Heap}
theorem c_law_cell (D : DefAt K mg "_law_cell" s_law_cell ["script", "k"]) (m_len : mg "len" = none) : Cal P w K mg base CX0 1 "_law_cell" ["script", "k"] (spCell K) := by
  refine D.cal (k := 0) sc_law_cell (fun vs H Q E h => ?_) fun f cdv A outer s H vs Q E hr h => ?_
  · obtain ⟨a, ns, k, rfl, _⟩ := h
    rfl
  · obtain ⟨a, ns, k, rfl, h0, h, q⟩ := h
    refine ⟨_, (pss_cons (ps_if (pt_cmpR op_lt (pv 1) (pe_callB call_len_seq (by rfl) m_len (by decide +kernel) (pa_cons (pv 0) pa_nil)) (nomark _)) (pss_one (ps_ret (pe_ix ix_list (pv 0) (pv 1) (fun _ _ => rfl)))) pss_nil)
  (pss_one (ps_ret pe_int))), ?_⟩
    refine ⟨_, rfl, _, rfl, a, _, rfl, .inl h, k, _, rfl, rfl, _, rfl, ?_⟩
    by_cases hk : k < ((ns.map V.int).length : Int)
    · rw [decide_eq_true hk]
      obtain ⟨n, rfl⟩ : ∃ n : Nat, k = n := ⟨k.toNat, by omega⟩
      have hn : n < (ns.map V.int).length := by omega
      have e : (ns.map V.int)[n]? = some (.int (ns[n]'(by simpa using hn))) := by simp
      exact iteT ⟨_, rfl, _, rfl, a, _, _, _, rfl, rfl, h, atI_nat e, q _⟩
    · rw [decide_eq_false hk]
      exact iteF (q 0)
theorem c_law_draw (D : DefAt K mg "_law_draw" s_law_draw ["box", "many"]) (m_len : mg "len" = none) (m_int : mg "int" = none) : Cal P w K mg base CX0 1 "_law_draw" ["box", "many"] spDraw := by
  refine D.cal (k := 0) sc_law_draw (fun vs H Q E h => ?_) fun f cdv A outer s H vs Q E hr h => ?_
  · obtain ⟨bx, d, many, rfl, _⟩ := h
    rfl
  · obtain ⟨bx, d, many, rfl, hm, hb, q⟩ := h
    have hne := hb.ne
    obtain ⟨xs, n, h1, h2, h3, h4⟩ := hb
    refine ⟨_, (pss_cons (ps_set (i := 2) sc_law_draw.nd rfl (Or.inl rfl) (pe_ix ix_list (pv 0) pe_int (fun _ _ => rfl)))
  (pss_cons (ps_asg (pe_op op_add (pv 2) pe_int) (pg_sub (pv 0) pe_int set_list))
  (pss_cons (ps_if (pt_cmpR op_lt (pv 2) (pe_callB call_len_seq (by rfl) m_len (by decide +kernel) (pa_cons (pe_ix ix_list (pv 0) pe_int (fun _ _ => rfl)) pa_nil)) (nomark _)) (pss_one (ps_ret (pe_op op_mod (pe_callTy call_int1 (by rfl) m_int (by decide +kernel) (pa_cons (pe_ix ix_list (pe_ix ix_list (pv 0) pe_int (fun _ _ => rfl)) (pv 2) (fun _ _ => rfl)) pa_nil)) (pv 1)))) pss_nil)
  (pss_one (ps_ret (pe_op op_mod (pe_callTy call_int1 (by rfl) m_int (by decide +kernel) (pa_cons (pe_op op_add (pe_op op_mul (pv 2) pe_int) pe_int) pa_nil)) (pv 1))))))), ?_⟩
    refine ⟨.ref bx, rfl, bx, _, 1, _, rfl, rfl, .inl (.inl h1), atI_nat (j := 1) rfl, ?_⟩
    refine ⟨.int n, rfl, n, 1, rfl, rfl, .ref bx, rfl, bx, _, 1, 1, rfl, rfl, h1, rfl, ?_⟩
    have k1 : Aft bx d H (upd H bx (.lst [.ref d, .int (n + 1)])) := ⟨Kb.put (by simp) h1 nt_lst, xs, n + 1, upd_same, by omega, by rw [upd_ne hne]; exact h3, h4⟩
    have e1 : (upd H bx (.lst [.ref d, .int (n + 1)])) bx = some (.lst [.ref d, .int (n + 1)]) := upd_same
    have e2 : (upd H bx (.lst [.ref d, .int (n + 1)])) d = some (.lst xs) := by rw [upd_ne hne]; exact h3
    refine ⟨.int n, rfl, .ref bx, rfl, bx, _, 0, .ref d, rfl, rfl, .inl (.inl e1), atI_nat (j := 0) rfl, d, xs, rfl, .inl (.inl (.inl e2)), n, _, rfl, rfl, _, rfl, ?_⟩
    by_cases hk : n < (xs.length : Int)
    · rw [decide_eq_true hk]
      obtain ⟨j, rfl⟩ : ∃ j : Nat, n = j := ⟨n.toNat, by omega⟩
      have hj : j < xs.length := by omega
      obtain ⟨i, hi⟩ := h4 xs[j] (List.getElem_mem hj)
      have e : xs[j]? = some (.int i) := by rw [List.getElem?_eq_getElem hj, hi]
      exact iteT ⟨.ref bx, rfl, bx, _, 0, .ref d, rfl, rfl, .inl (.inl e1), atI_nat (j := 0) rfl, _, rfl, d, xs, j, .int i, rfl, rfl, .inl (.inl e2), atI_nat e, .inl ⟨i, rfl, _, rfl, i, many, rfl, rfl, hm, q _ _ k1 (Int.emod_nonneg _ (by omega)) (Int.emod_lt_of_pos _ hm)⟩⟩
    · rw [decide_eq_false hk]
      exact iteF ⟨_, rfl, n, 7, rfl, rfl, .inr (by decide), _, _, rfl, rfl, .inl ⟨_, rfl, _, rfl, _, many, rfl, rfl, hm, q _ _ k1 (Int.emod_nonneg _ (by omega)) (Int.emod_lt_of_pos _ hm)⟩⟩
end
abbrev s_law_digits : Stmt := topS 4
theorem sc_law_digits : FnScope ["script", "first", "last", "digits", "k", "cell", "turn", "seed"] ["script", "first", "last"] (defScope s_law_digits) := ⟨rfl, rfl, rfl, by decide +kernel, rfl, by decide +kernel, by decide +kernel⟩
def spDigits (K : PySem.W.Frag) : Sp := fun vs H Q _ => ∃ (a : Addr) (ns : List Int) (last : Nat), vs = [.ref a, .int 0, .int (last : Int)] ∧ last ≤ 200 ∧ SqL K H a (ns.map V.int) ∧ ∀ (d : Addr) (H' : Hp) (xs : List V), H d = none → Kp H H' → H' d = some (.lst xs) → (∀ v ∈ xs, ∃ i, v = .int i) → Q (.ref d) H'
/-- the list at D holds at most n ints, all else stands -/
def Dg (H0 : Hp) (D : Addr) (n : Nat) (H : Hp) : Prop := ∃ xs : List V, xs.length ≤ n ∧ (∀ v ∈ xs, ∃ i, v = .int i) ∧ Kp H0 H ∧ H D = some (.lst xs)
theorem Dg.push {H0 H : Hp} {D : Addr} {n : Nat} {xs : List V} {i : Int} (h0 : H0 D = none) (hl : xs.length ≤ n) (hi : ∀ v ∈ xs, ∃ i, v = .int i) (k : Kp H0 H) (e : H D = some (.lst xs)) : Dg H0 D (n + 1) (upd H D (.lst (xs ++ [.int i]))) :=
  ⟨xs ++ [.int i], by simp; exact hl, fun v hv => by
    rcases List.mem_append.mp hv with h | h
    · exact hi v h
    · exact ⟨i, by simpa using h⟩, k.mut h0 (no_tab e nt_lst), upd_same⟩
theorem Dg.mono {H0 H : Hp} {D : Addr} {n m : Nat} (h : Dg H0 D n H) (l : n ≤ m) : Dg H0 D m H := let ⟨xs, a, r⟩ := h; ⟨xs, Nat.le_trans a l, r⟩
theorem iteC {b : Bool} {A B : Prop} (h1 : A) (h2 : B) : if b = true then A else B := by
  cases b with
  | true => exact iteT h1
  | false => exact iteF h2
theorem cell_pos {R r k l} {b : Bool} {σ : L2.St} {H : Hp} {c : Int} (hs : σ[5]? = some (some (.int c))) (hσ : σ.set 5 (some (.int c)) = σ) (h : ∀ c', R (σ.set 5 (some (.int c'))) H) :
    if b = true then tAsg (tOp (rI0 fun i j => V.int (i - j)) (tC (V.int 1)) (tOp (rI CMul fun i j => V.int (i * j)) (tC (V.int 2)) (tVar 5))) (gName 5) ⟨R, r, k, l⟩ σ H else tNext ⟨R, r, k, l⟩ σ H := by
  cases b with
  | true => exact iteT ⟨_, hs, 2, c, rfl, rfl, .inl (by decide), 1, _, rfl, rfl, h _⟩
  | false =>
    refine iteF ?_
    have z := h c
    rw [hσ] at z
    exact z
section
variable {P : Program} {w : World} {K : PySem.W.Frag} {mg : Str → Option Value} {base : Heap}
theorem c_law_digits (D : DefAt K mg "_law_digits" s_law_digits ["script", "first", "last"]) (m_range : mg "range" = none) (m_int : mg "int" = none)
    (c__law_cell : Cal P w K mg base CX0 1 "_law_cell" ["script", "k"] (spCell K)) : Cal P w K mg base CX0 2 "_law_digits" ["script", "first", "last"] (spDigits K) := by
  refine D.cal (k := 1) sc_law_digits (fun vs H Q E h => ?_) fun f cdv A outer s H vs Q E hr h => ?_
  · obtain ⟨bx, d, last, rfl, _⟩ := h
    rfl
  · obtain ⟨a, ns, last, rfl, h200, ha, q⟩ := h
    refine ⟨_, (pss_cons (ps_set (i := 3) sc_law_digits.nd rfl (Or.inl rfl) (pe_lst pa_nil))
  (pss_cons (ps_for PassesOwn.never rfl (pi_range2 (by rfl) m_range (pa_cons (pv 1) (pa_cons (pv 2) pa_nil))) (pg_name (i := 4) sc_law_digits.nd rfl (Or.inl rfl)) (pss_cons (ps_set (i := 5) sc_law_digits.nd rfl (Or.inl rfl) (pe_cal (c__law_cell.mono (by omega)) hr (by rfl) (pa_cons (pv 0) (pa_cons (pv 4) pa_nil))))
  (pss_cons (ps_if (pt_cmpR op_lt (pv 5) pe_int (nomark _)) (pss_one (ps_set (i := 5) sc_law_digits.nd rfl (Or.inl rfl) (pe_op op_sub pe_int (pe_op op_mul pe_int (pv 5))))) pss_nil)
  (pss_one (ps_if (pt_cmpR op_ge (pv 5) (pe_op op_pow pe_int pe_int) (nomark _)) (pss_one (ps_for PassesOwn.never rfl (pi_range1 (by rfl) m_range (pa_cons pe_int pa_nil)) (pg_name (i := 6) sc_law_digits.nd rfl (Or.inl rfl)) (pss_one (ps_if (pt_cmpR op_gt (pv 5) pe_int (nomark _)) (pss_cons (ps_expr (pe_bm PySem.F.plainAttrs_list PySem.F.slot_list_append PySem.F.type_list_append mt_append (pv 3) (pa_cons (pe_op op_mod (pe_callTy call_int1 (by rfl) m_int (by decide +kernel) (pa_cons (pv 5) pa_nil)) pe_int) pa_nil)))
  (pss_one (ps_set (i := 5) sc_law_digits.nd rfl (Or.inl rfl) (pe_op op_fdiv (pv 5) pe_int)))) pss_nil)))) (pss_cons (ps_set (i := 7) sc_law_digits.nd rfl (Or.inl rfl) (pe_op op_mod (pe_callTy call_int1 (by rfl) m_int (by decide +kernel) (pa_cons (pe_op op_add (pe_op op_add (pe_op op_mul (pv 5) pe_int) (pe_op op_mul (pv 4) pe_int)) pe_int) pa_nil)) pe_int))
  (pss_one (ps_for PassesOwn.never rfl (pi_range1 (by rfl) m_range (pa_cons pe_int pa_nil)) (pg_name (i := 6) sc_law_digits.nd rfl (Or.inl rfl)) (pss_cons (ps_set (i := 7) sc_law_digits.nd rfl (Or.inl rfl) (pe_op op_mod (pe_callTy call_int1 (by rfl) m_int (by decide +kernel) (pa_cons (pe_op op_add (pe_op op_add (pe_op op_mul (pv 7) pe_int) (pe_op op_mul pe_int (pv 6))) pe_int) pa_nil)) pe_int))
  (pss_one (ps_expr (pe_bm PySem.F.plainAttrs_list PySem.F.slot_list_append PySem.F.type_list_append mt_append (pv 3) (pa_cons (pe_op op_mod (pe_callTy call_int1 (by rfl) m_int (by decide +kernel) (pa_cons (pe_op op_fdiv (pv 7) pe_int) pa_nil)) pe_int) pa_nil)))))))))))))
  (pss_one (ps_ret (pv 3))))), ?_⟩
    refine ⟨Nat.zero_le _, fun D hD => ⟨.int 0, rfl, .int (last : Int), rfl, 0, (last : Int), rfl, by omega, ?_⟩⟩
    refine ⟨fun i m σ H' => m = last - i ∧ i ≤ last ∧ (∃ o1 o2 o3 o4, σ = [some (.ref a), some (.int 0), some (.int (last : Int)), some (.ref D), o1, o2, o3, o4]) ∧ Dg H D (60 * i) H', ⟨_, rfl, Nat.zero_le _, ⟨none, none, none, none, rfl⟩, [], Nat.le_refl _, (fun _ h => by cases h), Kb.new hD, upd_same⟩, ?_⟩
    rintro i m σ H1 ⟨rfl, hi, ⟨o1, o2, o3, o4, rfl⟩, g⟩
    by_cases hl : i < last
    · refine .inr ⟨hl, fun σ' H' => (∃ o1 o2 o3 o4, σ' = [some (.ref a), some (.int 0), some (.int (last : Int)), some (.ref D), o1, o2, o3, o4]) ∧ Dg H D (60 * (i + 1)) H', fun σ' H' ⟨e1, e2⟩ => ⟨_, by omega, rfl, hl, e1, e2⟩, ?_⟩
      rintro x H2 ⟨rfl, rfl⟩
      have hsq : SqL K H2 a (ns.map V.int) := by
        obtain ⟨xs, _, _, k, e⟩ := g
        rcases ha with (ha | ⟨o, ha⟩) | ha
        · exact .inl (.inl (k.keep a _ ha (by simp) nt_lst))
        · exact .inl (.inr ⟨o, k.keep a _ ha (by simp) nt_frz⟩)
        · exact .inr ha
      refine ⟨.ref a, rfl, .int (0 + i), rfl, a, ns, _, rfl, by omega, hsq, fun c => ?_⟩
      refine ⟨_, rfl, c, 0, rfl, rfl, ?_⟩
      refine ⟨_, rfl, cell_pos rfl rfl fun c => ?_⟩
      refine ⟨_, rfl, 10, 18, rfl, rfl, ⟨by decide, by decide, by decide⟩, c, 10 ^ 18, rfl, rfl, ?_⟩
      refine ⟨_, rfl, ?_⟩
      refine iteC ?_ ?_
      · refine ⟨60, rfl, by decide, by decide, ?_⟩
        refine ⟨fun j m σ H' => m = 60 - j ∧ j ≤ 60 ∧ (∃ o1 c o3 o4, σ = [some (.ref a), some (.int 0), some (.int (last : Int)), some (.ref D), o1, some (.int c), o3, o4]) ∧ Dg H D (60 * i + j) H', ⟨_, rfl, Nat.zero_le _, ⟨_, _, _, _, rfl⟩, g⟩, ?_⟩
        rintro j m σ H3 ⟨rfl, hj, ⟨o1, c, o3, o4, rfl⟩, g⟩
        by_cases hl : j < 60
        · refine .inr ⟨hl, fun σ' H' => (∃ o1 c o3 o4, σ' = [some (.ref a), some (.int 0), some (.int (last : Int)), some (.ref D), o1, some (.int c), o3, o4]) ∧ Dg H D (60 * i + (j + 1)) H', fun σ' H' ⟨e1, e2⟩ => ⟨_, by omega, rfl, hl, e1, e2⟩, ?_⟩
          rintro x H4 ⟨rfl, rfl⟩
          refine ⟨_, rfl, c, 0, rfl, rfl, _, rfl, ?_⟩
          refine iteC ?_ ?_
          · obtain ⟨xs, h1, h2, h3, h4⟩ := g
            refine ⟨.ref D, rfl, .inl ⟨rfl, _, .inl (.inl h4)⟩, _, rfl, .inl ⟨c, rfl, c, 1000, rfl, rfl, by show (0 : Int) < 1000; decide, D, xs, _, rfl, rfl, h4, ?_, ?_⟩⟩
            · have : sizeLine = 16777216 := rfl
              omega
            · exact ⟨_, rfl, c, 1000, rfl, rfl, ⟨by decide, by decide⟩, ⟨_, _, _, _, rfl⟩, Dg.push hD h1 h2 h3 h4⟩
          · exact ⟨⟨_, _, _, _, rfl⟩, g.mono (by omega)⟩
        · exact .inl ⟨by show 60 ≤ j; omega, ⟨_, _, _, _, rfl⟩, g.mono (by omega)⟩
      · refine ⟨_, rfl, c, 48271, rfl, rfl, .inr (by decide), _, rfl, _, 69621, rfl, rfl, .inr (by decide), _, _, rfl, rfl, _, _, rfl, rfl, .inl ⟨_, rfl, _, 2147483647, rfl, rfl, by show (0 : Int) < 2147483647; decide, ?_⟩⟩
        refine ⟨12, rfl, by decide, by decide, ?_⟩
        refine ⟨fun j m σ H' => m = 12 - j ∧ j ≤ 12 ∧ (∃ o1 o2 o3 c, σ = [some (.ref a), some (.int 0), some (.int (last : Int)), some (.ref D), o1, o2, o3, some (.int c)]) ∧ Dg H D (60 * i + j) H', ⟨_, rfl, Nat.zero_le _, ⟨_, _, _, _, rfl⟩, g⟩, ?_⟩
        rintro j m σ H3 ⟨rfl, hj, ⟨o1, o2, o3, c, rfl⟩, g⟩
        by_cases hl : j < 12
        · refine .inr ⟨hl, fun σ' H' => (∃ o1 o2 o3 c, σ' = [some (.ref a), some (.int 0), some (.int (last : Int)), some (.ref D), o1, o2, o3, some (.int c)]) ∧ Dg H D (60 * i + (j + 1)) H', fun σ' H' ⟨e1, e2⟩ => ⟨_, by omega, rfl, hl, e1, e2⟩, ?_⟩
          rintro x H4 ⟨rfl, rfl⟩
          refine ⟨_, rfl, c, 16807, rfl, rfl, .inr (by decide), _, rfl, 7, _, rfl, rfl, .inl (by decide), _, _, rfl, rfl, _, _, rfl, rfl, .inl ⟨_, rfl, _, 2147483647, rfl, rfl, by show (0 : Int) < 2147483647; decide, ?_⟩⟩
          obtain ⟨xs, h1, h2, h3, h4⟩ := g
          refine ⟨.ref D, rfl, .inl ⟨rfl, _, .inl (.inl h4)⟩, _, rfl, _, 997, rfl, rfl, ⟨by decide, by decide⟩, .inl ⟨_, rfl, _, 1000, rfl, rfl, by show (0 : Int) < 1000; decide, D, xs, _, rfl, rfl, h4, ?_, ?_⟩⟩
          · have : sizeLine = 16777216 := rfl
            omega
          · exact ⟨⟨_, _, _, _, rfl⟩, Dg.push hD h1 h2 h3 h4⟩
        · exact .inl ⟨by show 12 ≤ j; omega, ⟨_, _, _, _, rfl⟩, g.mono (by omega)⟩
    · obtain ⟨xs, h1, h2, h3, h4⟩ := g
      refine .inl ⟨by show ((last : Int) - 0).toNat ≤ _; omega, ?_⟩
      exact ⟨_, rfl, q D H1 xs hD h3 h4 h2⟩
end

end Rd

/-! How long data is when shown. -/
namespace Gd
open PySem PySem.Spec PyProof.Rows L2 GxR Gx
theorem call_reprR {X : Cx} {k : Nat} (hr : RoomG k X.A) : CallR X (.builtin "repr") (rRepr X.K) := call_repr (by have := hr.r.un; omega) hr.g
theorem from_le : ∀ (ts : List Str) (k : Nat) (acc : Str), (textFrom k acc ts).length ≤ acc.length + piled ts
  | [], k, acc => by show acc.length ≤ _; omega
  | t :: ts, k, acc => by
    have ih := from_le ts (k + 1) (acc ++ (if k > 0 then ", " else "" : String) ++ t)
    rw [Str.length_append, Str.length_append] at ih
    have h2 : (Str.ofString (if k > 0 then ", " else "" : String)).length ≤ 2 := by split <;> decide +kernel
    have e : piled (t :: ts) = t.length + 2 + piled ts := by simp [piled]
    show (textFrom (k + 1) _ ts).length ≤ _
    rw [e]
    omega
theorem list_le (ts : List Str) : (listText ts).length ≤ piled ts + 2 := by
  unfold listText
  have h := from_le ts 0 (Str.ofString "[")
  rw [Str.length_append]
  have e1 : (Str.ofString "[").length = 1 := by decide +kernel
  have e2 : (Str.ofString "]").length = 1 := by decide +kernel
  rw [e1] at h
  omega
theorem tuple_le {ts : List Str} (h : ts ≠ []) : (tupleText ts).length ≤ piled ts + 3 := by
  unfold tupleText
  have hj := join_length_add ts h
  rw [Str.length_append, Str.length_append]
  have e1 : (Str.ofString "(").length = 1 := by decide +kernel
  have e2 : (Str.ofString (if (ts.length == 1) = true then ",)" else ")" : String)).length ≤ 2 := by split <;> decide +kernel
  omega
/-- shown in at most sz signs, at most dep deep -/
structure Shw (dep sz : Nat) (d : PyData) : Prop where
  ws : d.showable = true
  wh : d.hasDict = false
  wd : d.depth ≤ dep
  wz : d.shown.length ≤ sz
theorem Shw.mono {a b a' b' : Nat} {d : PyData} (w : Shw a b d) (h1 : a ≤ a') (h2 : b ≤ b') : Shw a' b' d := ⟨w.ws, w.wh, Nat.le_trans w.wd h1, Nat.le_trans w.wz h2⟩
theorem Shw.nat {n : Nat} (hn : n ≤ 999999999) : Shw 0 9 (.int (n : Int)) := by
  refine ⟨?_, rfl, Nat.le_refl _, ?_⟩
  · show decide ((n : Int).natAbs.log2 < 1920) = true
    have : (n : Int).natAbs = n := by omega
    rw [this, decide_eq_true]
    by_cases h0 : n = 0
    · rw [h0]
      decide
    · have := (Nat.log2_lt h0).mpr (show n < 2 ^ 30 by omega)
      omega
  · have h : (TL.numL n).length ≤ 9 := TL.numL_len (by decide) (by omega)
    have e2 : (Str.ofString (toString (n : Int))).length = (TL.numL n).length := by
      show (Str.ofString (toString (n : Int))).cps.size = _
      rw [← Array.length_toList]
      exact congrArg List.length (TL.tl_num n)
    show (Str.ofString (toString (n : Int))).length ≤ 9
    omega
theorem Shw.str {x : Str} {n : Nat} (h : x.length ≤ n) (hc : ∀ c ∈ x.cps.toList, c < 1114112) : Shw 0 (10 * n + 2) (.str x) := by
  refine ⟨rfl, rfl, Nat.le_refl _, ?_⟩
  have := StrLaws.reprText_len x (fun c h => Nat.lt_of_lt_of_le (hc c h) (by decide))
  show (reprText x).length ≤ _
  omega
theorem Shw.bl {b : Bool} : Shw 0 5 (.bool b) := by cases b <;> exact ⟨rfl, rfl, Nat.le_refl _, by decide +kernel⟩
theorem Shw.non : Shw 0 4 .none := ⟨rfl, rfl, Nat.le_refl _, by decide +kernel⟩
theorem shw_all {k m : Nat} : ∀ {ds : List PyData}, (∀ d ∈ ds, Shw k m d) → PyData.showableAll ds = true ∧ PyData.hasDictAll ds = false ∧ PyData.depthAll ds ≤ k ∧ piled (PyData.shownAll ds) ≤ (m + 2) * ds.length
  | [], _ => ⟨rfl, rfl, Nat.zero_le _, Nat.zero_le _⟩
  | d :: ds, h => by
    obtain ⟨a, b, c, e⟩ := shw_all (ds := ds) fun x hx => h x (List.mem_cons_of_mem _ hx)
    have w := h d List.mem_cons_self
    refine ⟨?_, ?_, ?_, ?_⟩
    · show (d.showable && _) = true
      rw [w.ws, a]; rfl
    · show (d.hasDict || _) = false
      rw [w.wh, b]; rfl
    · show max d.depth _ ≤ k
      exact Nat.max_le.mpr ⟨w.wd, c⟩
    · show piled (d.shown :: PyData.shownAll ds) ≤ _
      have := w.wz
      rw [piled_cons, List.length_cons, Nat.mul_succ]
      omega
theorem Shw.list {k m : Nat} {ds : List PyData} (h : ∀ d ∈ ds, Shw k m d) : Shw (k + 1) ((m + 2) * ds.length + 2) (.list ds) := by
  obtain ⟨a, b, c, e⟩ := shw_all h
  refine ⟨a, b, ?_, ?_⟩
  · show PyData.depthAll ds + 1 ≤ _
    omega
  · have := list_le (PyData.shownAll ds)
    show (listText (PyData.shownAll ds)).length ≤ _
    omega
theorem Shw.tuple {k m : Nat} {ds : List PyData} (h : ∀ d ∈ ds, Shw k m d) : Shw (k + 1) ((m + 2) * ds.length + 3) (.tuple ds) := by
  obtain ⟨a, b, c, e⟩ := shw_all h
  refine ⟨a, b, ?_, ?_⟩
  · show PyData.depthAll ds + 1 ≤ _
    omega
  · show (tupleText (PyData.shownAll ds)).length ≤ _
    cases ds with
    | nil => exact Nat.le_trans (show (tupleText []).length ≤ 3 by decide +kernel) (by omega)
    | cons d ds =>
      have := tuple_le (ts := PyData.shownAll (d :: ds)) (by intro z; cases z)
      omega
/-- fit to be shown -/
def Fit (d : PyData) : Prop := d.showable = true ∧ d.hasDict = false ∧ d.depth ≤ 64 ∧ d.shown.length ≤ sizeLine
theorem Shw.fit {k m : Nat} {d : PyData} (w : Shw k m d) (h1 : k ≤ 64 := by decide) (h2 : m ≤ 16777216 := by decide) : Fit d := ⟨w.ws, w.wh, Nat.le_trans w.wd h1, Nat.le_trans w.wz h2⟩
end Gd

/-! Longest ascending rows, as plain functions. -/
namespace Lis
def best (x : Int) : List Int → List Int → Int → Int
  | y :: ys, l :: ls, b => best x ys ls (if x < y then (if l + 1 > b then l + 1 else b) else b)
  | _, _, b => b
def lens : List Int → List Int
  | [] => []
  | x :: xs => best x xs (lens xs) 1 :: lens xs
theorem length_lens : ∀ xs : List Int, (lens xs).length = xs.length
  | [] => rfl
  | x :: xs => by
    show _ + 1 = _ + 1
    rw [length_lens xs]
theorem best_cons {x y l b : Int} {ys ls : List Int} : best x (y :: ys) (l :: ls) b = best x ys ls (if x < y then (if l + 1 > b then l + 1 else b) else b) := rfl
theorem best_nil {x b : Int} {l : List Int} : best x [] l b = b := by unfold best; rfl
/-- the row that stays: at: the number of the next item, left: how many are wanted, last: the item taken last -/
def pick : List Int → List Int → Nat → Int → Option Int → List Int
  | x :: xs, l :: ls, at', left, last =>
    if l = left ∧ (∀ y, last = some y → y < x) then (at' : Int) :: pick xs ls (at' + 1) (left - 1) (some x) else pick xs ls (at' + 1) left last
  | _, _, _, _, _ => []
def top (ls : List Int) : Int := ls.foldl (fun a b => if b > a then b else a) 0
def stay (ns : List Int) : List Int := pick ns (lens ns) 0 (top (lens ns)) none
theorem best_ge : ∀ (ys ls : List Int) (x b : Int), b ≤ best x ys ls b
  | [], ls, x, b => by rw [best_nil]; exact Int.le_refl b
  | y :: ys, [], x, b => by unfold best; exact Int.le_refl b
  | y :: ys, l :: ls, x, b => by
    unfold best
    refine Int.le_trans ?_ (best_ge ys ls x _)
    split
    · split <;> omega
    · omega
theorem lens_pos : ∀ (xs : List Int) (l : Int), l ∈ lens xs → 1 ≤ l
  | x :: xs, l, h => by
    rcases List.mem_cons.mp h with rfl | h
    · exact best_ge _ _ _ _
    · exact lens_pos xs l h
theorem foldl_top : ∀ (ls : List Int) (a : Int), (a ≤ ls.foldl (fun a b => if b > a then b else a) a) ∧ (∀ l ∈ ls, l ≤ ls.foldl (fun a b => if b > a then b else a) a) ∧ (ls.foldl (fun a b => if b > a then b else a) a = a ∨ ls.foldl (fun a b => if b > a then b else a) a ∈ ls)
  | [], a => ⟨Int.le_refl a, (fun _ h => by cases h), .inl rfl⟩
  | l :: ls, a => by
    obtain ⟨h1, h2, h3⟩ := foldl_top ls (if l > a then l else a)
    simp only [List.foldl_cons]
    refine ⟨?_, ?_, ?_⟩
    · refine Int.le_trans ?_ h1
      split <;> omega
    · intro z hz
      rcases List.mem_cons.mp hz with rfl | hz
      · refine Int.le_trans ?_ h1
        split <;> omega
      · exact h2 z hz
    · rcases h3 with h3 | h3
      · rw [h3]
        by_cases q : l > a
        · rw [if_pos q]; exact .inr List.mem_cons_self
        · rw [if_neg q]; exact .inl rfl
      · exact .inr (List.mem_cons_of_mem _ h3)
/-- the greatest, as max tells it -/
theorem top_eq {ls : List Int} {m : Int} (hp : ∀ l ∈ ls, 1 ≤ l) (h1 : m ∈ ls) (h2 : ∀ l ∈ ls, l ≤ m) : m = top ls := by
  obtain ⟨a, b, c⟩ := foldl_top ls 0
  have h3 := b m h1
  rcases c with c | c
  · have := hp m h1
    unfold top
    omega
  · have := h2 _ c
    unfold top
    omega
theorem top_eq0 {ls : List Int} {m : Int} (h1 : m ∈ (0 :: ls)) (h2 : ∀ l ∈ (0 :: ls), l ≤ m) : m = top ls := by
  obtain ⟨a, b, c⟩ := foldl_top ls 0
  have q : top ls = ls.foldl (fun a b => if b > a then b else a) 0 := rfl
  have h4 := h2 0 List.mem_cons_self
  rcases List.mem_cons.mp h1 with h1 | h1
  · rcases c with c | c
    · omega
    · have := h2 _ (List.mem_cons_of_mem _ c)
      omega
  · have := b m h1
    rcases c with c | c
    · omega
    · have := h2 _ (List.mem_cons_of_mem _ c)
      omega
theorem top_nonneg (ls : List Int) : 0 ≤ top ls := (foldl_top ls 0).1
end Lis
namespace Lis
/-- what is taken before item i -/
structure Pk (ns : List Int) (i : Nat) (taken : List Int) (left : Int) (last : Option Int) : Prop where
  eq : taken ++ pick (ns.drop i) ((lens ns).drop i) i left last = stay ns
  no : last = none → taken = []
  yes : ∀ y, last = some y → ∃ (pre : List Int) (t : Nat), taken = pre ++ [(t : Int)] ∧ ns[t]? = some y
  len : taken.length ≤ i
theorem Pk.start (ns : List Int) : Pk ns 0 [] (top (lens ns)) none := ⟨rfl, fun _ => rfl, (fun _ h => by cases h), Nat.le_refl _⟩
theorem drop_cons {α : Type} {xs : List α} {i : Nat} {x : α} (h : xs[i]? = some x) : xs.drop i = x :: xs.drop (i + 1) := by
  have hi : i < xs.length := by
    cases Nat.lt_or_ge i xs.length with
    | inl h => exact h
    | inr h' => rw [List.getElem?_eq_none h'] at h; cases h
  rw [List.drop_eq_getElem_cons hi]
  rw [List.getElem?_eq_getElem hi] at h
  rw [Option.some.inj h]
theorem Pk.take {ns taken : List Int} {i : Nat} {left x l : Int} {last : Option Int} (p : Pk ns i taken left last) (hx : ns[i]? = some x) (hl : (lens ns)[i]? = some l) (e : l = left) (h : ∀ y, last = some y → y < x) : Pk ns (i + 1) (taken ++ [(i : Int)]) (left - 1) (some x) := by
  obtain ⟨h1, h2, h3, h4⟩ := p
  refine ⟨?_, (fun z => by cases z), fun y z => ⟨taken, i, rfl, ?_⟩, by simp; omega⟩
  · rw [drop_cons hx, drop_cons hl] at h1
    unfold pick at h1
    rw [if_pos ⟨e, h⟩] at h1
    rw [← h1, List.append_assoc]
    rfl
  · cases z
    exact hx
theorem Pk.skip {ns taken : List Int} {i : Nat} {left x l : Int} {last : Option Int} (p : Pk ns i taken left last) (hx : ns[i]? = some x) (hl : (lens ns)[i]? = some l) (h : ¬ (l = left ∧ ∀ y, last = some y → y < x)) : Pk ns (i + 1) taken left last := by
  obtain ⟨h1, h2, h3, h4⟩ := p
  refine ⟨?_, h2, h3, by omega⟩
  rw [drop_cons hx, drop_cons hl] at h1
  unfold pick at h1
  rw [if_neg h] at h1
  exact h1
theorem Pk.done {ns taken : List Int} {left : Int} {last : Option Int} (p : Pk ns ns.length taken left last) : taken = stay ns := by
  have h1 := p.eq
  rw [List.drop_length] at h1
  unfold pick at h1
  rw [List.append_nil] at h1
  exact h1
end Lis

/-! Events that go outwards: rows of nodes, as plain functions. -/
namespace Ev
open PySem PySem.Spec PyProof.Rows L2 GxR Gx Gd
structure ERow where
  id : Nat
  ar : Nat
  hs : List (PySem.Str × PyData)
def look (hs : List (PySem.Str × PyData)) (ev : PySem.Str) : Option PyData := (hs.find? fun h => decide (h.1 = ev)).map (·.2)
def orL (n : Nat) (o : Option PyData) (r : Option (Nat × PyData)) : Option (Nat × PyData) := match o with | some e => some (n, e) | none => r
/-- the rows from the last one on -/
def hand : List ERow → Nat → PySem.Str → Option (Nat × PyData)
  | [], _, _ => none
  | r :: rs, node, ev => if r.id = node then orL node (look r.hs ev) (hand rs r.ar ev) else hand rs node ev
structure Wf (rows : List ERow) : Prop where
  asc : rows.Pairwise fun a b => a.id < b.id
  par : ∀ r ∈ rows, r.ar < r.id
theorem hand_skip : ∀ {L M : List ERow} {node : Nat} {ev : PySem.Str}, (∀ r ∈ L, r.id ≠ node) → hand (L ++ M) node ev = hand M node ev
  | [], _, _, _, _ => rfl
  | r :: L, M, node, ev, h => by
    show (if r.id = node then _ else hand (L ++ M) node ev) = _
    rw [if_neg (h r List.mem_cons_self)]
    exact hand_skip fun x hx => h x (List.mem_cons_of_mem _ hx)
theorem hand_none {rows : List ERow} {node : Nat} {ev : PySem.Str} (h : ∀ r ∈ rows, r.id ≠ node) : hand rows.reverse node ev = none := by
  have := hand_skip (L := rows.reverse) (M := []) (node := node) (ev := ev) fun r hr => h r (List.mem_reverse.mp hr)
  rw [List.append_nil] at this
  exact this
theorem hand_at {rows : List ERow} (w : Wf rows) {r : ERow} (hr : r ∈ rows) (ev : PySem.Str) : hand rows.reverse r.id ev = orL r.id (look r.hs ev) (hand rows.reverse r.ar ev) := by
  obtain ⟨pre, post, rfl⟩ := List.append_of_mem hr
  have hp : ∀ x ∈ post, r.id < x.id := by
    have h1 := (List.pairwise_append.mp w.asc).2.1
    exact (List.pairwise_cons.mp h1).1
  have ha := w.par r hr
  have e : ∀ n, n ≤ r.id → hand (pre ++ r :: post).reverse n ev = hand (r :: pre.reverse) n ev := fun n hn => by
    rw [List.reverse_append, List.reverse_cons, List.append_assoc]
    exact hand_skip fun x hx => by
      have := hp x (List.mem_reverse.mp hx)
      omega
  rw [e r.id (Nat.le_refl _), e r.ar (Nat.le_of_lt ha)]
  show (if r.id = r.id then _ else _) = _
  rw [if_pos rfl]
  have e2 : hand (r :: pre.reverse) r.ar ev = hand pre.reverse r.ar ev := by
    show (if r.id = r.ar then _ else _) = _
    rw [if_neg (by omega)]
  rw [e2]
theorem Wf.uniq {rows : List ERow} (w : Wf rows) {i j : Nat} {r s : ERow} (hi : rows[i]? = some r) (hj : rows[j]? = some s) (e : r.id = s.id) : i = j := by
  have h := List.pairwise_iff_getElem.mp w.asc
  rcases Nat.lt_trichotomy i j with q | q | q
  · obtain ⟨hi', rfl⟩ := List.getElem?_eq_some_iff.mp hi
    obtain ⟨hj', rfl⟩ := List.getElem?_eq_some_iff.mp hj
    have := h i j hi' hj' q
    omega
  · exact q
  · obtain ⟨hi', rfl⟩ := List.getElem?_eq_some_iff.mp hi
    obtain ⟨hj', rfl⟩ := List.getElem?_eq_some_iff.mp hj
    have := h j i hj' hi' q
    omega
/-! ### as data -/
def hD (h : PySem.Str × PyData) : PyData := .tuple [.str h.1, h.2]
def rowD (r : ERow) : PyData := .tuple [.int r.id, .int r.ar, .tuple (r.hs.map hD)]
def rowsD (rows : List ERow) : PyData := .tuple (rows.map rowD)
def resD : Option (Nat × PyData) → PyData
  | none => .none
  | some (n, e) => .tuple [.int n, e]
/-! ### rows by their ids -/
def kvs (rows : List ERow) (xs : List V) : List (Key × V) := (rows.zip xs).map fun p => (Sum.inl (p.1.id : Int), p.2)
theorem putK_new {l : List (Key × V)} {k : Key} {v : V} (h : ∀ p ∈ l, p.1 ≠ k) : putK l k v = l ++ [(k, v)] := by
  unfold putK
  rw [if_neg]
  intro z
  obtain ⟨p, hp, e⟩ := List.any_eq_true.mp z
  exact h p hp (of_decide_eq_true e)
theorem kvs_take {rows : List ERow} {xs : List V} (w : Wf rows) {i : Nat} {r : ERow} {x : V} (hr : rows[i]? = some r) (hx : xs[i]? = some x) (hl : rows.length = xs.length) :
    putK (kvs (rows.take i) (xs.take i)) (Sum.inl (r.id : Int)) x = kvs (rows.take (i + 1)) (xs.take (i + 1)) := by
  have hi : i < rows.length := (List.getElem?_eq_some_iff.mp hr).1
  rw [putK_new]
  · unfold kvs
    rw [List.take_add_one, List.take_add_one, hr, hx, List.zip_append (by rw [List.length_take, List.length_take, hl]), List.map_append]
    rfl
  · intro p hp e
    obtain ⟨q, hq, rfl⟩ := List.mem_map.mp hp
    obtain ⟨j, hj, e2⟩ := List.mem_iff_getElem.mp (List.of_mem_zip hq).1
    have hj' : j < i := by rw [List.length_take] at hj; omega
    have h2 : rows[j]? = some q.1 := by
      rw [← e2, List.getElem_take]
      exact List.getElem?_eq_getElem (by omega)
    have e3 : q.1.id = r.id := by
      have e := Sum.inl.inj e
      omega
    have := w.uniq h2 hr e3
    omega
theorem valV_kvs : ∀ {rows : List ERow} {xs : List V} {n : Nat}, rows.length = xs.length →
    (valV (kvs rows xs) (Sum.inl (n : Int) : Key) = none ∧ ∀ r ∈ rows, r.id ≠ n) ∨ ∃ (i : Nat) (r : ERow) (x : V), rows[i]? = some r ∧ xs[i]? = some x ∧ r.id = n ∧ valV (kvs rows xs) (Sum.inl (n : Int) : Key) = some x
  | [], [], n, _ => .inl ⟨rfl, fun _ h => by cases h⟩
  | [], _ :: _, n, h => by cases h
  | _ :: _, [], n, h => by cases h
  | r :: rows, x :: xs, n, h => by
    by_cases e : r.id = n
    · exact .inr ⟨0, r, x, rfl, rfl, e, valV_pos (by show (Sum.inl (r.id : Int) : Key) = _; rw [e])⟩
    · have e2 : valV (kvs (r :: rows) (x :: xs)) (Sum.inl (n : Int) : Key) = valV (kvs rows xs) (Sum.inl (n : Int) : Key) := valV_neg fun z => e (by have : (r.id : Int) = (n : Int) := Sum.inl.inj z; omega)
      rw [e2]
      rcases valV_kvs (rows := rows) (xs := xs) (n := n) (Nat.succ.inj h) with ⟨h1, h2⟩ | ⟨i, s, y, h1, h2, h3, h4⟩
      · refine .inl ⟨h1, fun s hs => ?_⟩
        rcases List.mem_cons.mp hs with rfl | hs
        · exact e
        · exact h2 s hs
      · exact .inr ⟨i + 1, s, y, h1, h2, h3, h4⟩
theorem kvs_len {rows : List ERow} {xs : List V} : (kvs rows xs).length ≤ rows.length := by
  unfold kvs
  rw [List.length_map, List.length_zip]
  omega
end Ev

/-! y = {k: v for tg in iter}: a statement of its own. -/
namespace Gd
open PySem PySem.Spec PyProof.Rows L2 GxR Gx
section
variable {X : Cx}
theorem sw_trueD {kx vx : Expr} {gs : List Comprehension} {scope : Scope} {pos py : Pos} {y : PySem.Str} {l : Nat} {env : Env} (hk : env.scope.kind = .function) (hy : env.scope.names.lookup y = some .local) (hl : (py.line == pos.line) = true)
    (ha : (scope.names.any fun (n, k) => n == y && (k == .local || k == .cell)) = false) : swapsWith (.DictComp kx vx gs scope pos) (some (.Name y py)) l env = pure true := by
  have ky : env.kindOf y = some .local := hy
  have hb : env.blockKind = .function := by unfold Env.blockKind; rw [hk]; rfl
  unfold swapsWith
  simp only [hb, ky, ha, Expr.pos, hl]
  rfl
theorem ps_setDc {i : Nat} {y : PySem.Str} {py : Pos} {kx vx tg iter : Expr} {ifs : List Expr} {scope : Scope} {own : List (PySem.Str × Nat)} {pos spos : Pos} {wi : TI} {g : TG} {tt : TT} {tk tv : TE} (hc : X.calm = true) (hN : X.N.Nodup) (hy : X.N[i]? = some y) (hyl : X.env.scope.names.lookup y = some .local)
    (hsw : swapsWith (.DictComp kx vx [⟨tg, iter, ifs, 0⟩] scope pos) (some (.Name y py)) spos.line X.env = pure true) (hi : PI X tg iter wi) (ok : BlkOk X.N X.env.scope scope own)
    (hg : ∀ (s : Shared) (H : Hp) (C : Addr) (cl : List (PySem.Str × Addr)) (fp : List Addr), PG (X.blk s H scope (compEnvC scope cl C X.env) fp) tg g) (ht : ∀ (s : Shared) (H : Hp) (C : Addr) (cl : List (PySem.Str × Addr)) (fp : List Addr), PTs (X.blk s H scope (compEnvC scope cl C X.env) fp) ifs tt)
    (hk : ∀ (s : Shared) (H : Hp) (C : Addr) (cl : List (PySem.Str × Addr)) (fp : List Addr), PE (X.blk s H scope (compEnvC scope cl C X.env) fp) kx tk)
    (he : ∀ (s : Shared) (H : Hp) (C : Addr) (cl : List (PySem.Str × Addr)) (fp : List Addr), PE (X.blk s H scope (compEnvC scope cl C X.env) fp) vx tv) (hs : ∀ x, foldedSetIterable iter X.env x = pure x := by intro _; rfl) :
    PS X (.Assign [.Name y py] (.DictComp kx vx [⟨tg, iter, ifs, 0⟩] scope pos) spos) (tAsg (tDc wi g tt tk tv (own.map (·.2))) (gName i)) := by
  refine ⟨fun pins s σ H D I h => ?_⟩
  rw [exec_Assign_Name_used _ _ _ _ hsw]
  refine wpAny_bind (wpAny_standAt (wpAny_bind ?_))
  show wpAny _ X.A (do let _ ← comprehension (.DictComp kx vx [⟨tg, iter, ifs, 0⟩] scope pos) scope X.env (firstIterPos [⟨tg, iter, ifs, 0⟩] pos) newDict false (eval iter X.env) (some (assign (.Name y py) X.env))) _ _ s
  have h : tDc wi g tt tk tv (own.map (·.2)) σ H (fun x H1 => gName i x σ H1 D.nx) := h
  refine wpAny_bind (thn (dc_core (Qf := fun _ s' => SP X pins D .next s') hc hN I hi ok hg ht hk he hs h fun L C s' m H' I' q hn f => ?_) fun _ s' hq => wpAny_pure (wpAny_pure hq))
  show wpAny _ _ (assign (.Name y py) X.env (.ref L)) _ _ _
  refine wpAny_assign_Name (store_ok2 (v := V.ref L) I' hN hy (.inl hyl) rfl (fun s2 I2 ⟨a, sb, ha⟩ => ?_) (.inr hyl))
  obtain ⟨f0, f1, f2, f3, f4, f5⟩ := f
  have haC : C ≠ a := by
    rcases ha with z | z
    · rw [z]; exact f1
    · exact fun e => f4 y a z e.symm
  refine ⟨m, hn.sameBut sb haC, fun h3 sb3 => ?_⟩
  exact ⟨_, H', I2.turned (t' := s2.toks) (fun b o hb e => (sb3.2 b hb).trans e) f0 f1 f3 f4 f5, q⟩
/-- over whatever walks -/
theorem dc_it {J : It} {n : Nat} {G : Hp → Prop} {Y : Nat → Hp → V → Hp → Prop} (w : Walk J n G Y) {g : TG} {tt : TT} {tk tv : TE} {vs : List Nat} {σ : L2.St} {H1 : Hp} {D : Addr} {Qd : Hp → Prop} (Pv : Nat → Hp → Prop) (h0 : Pv 0 (upd H1 D (.dK []))) (hG : ∀ i H, i ≤ n → Pv i H → G H)
    (hs : ∀ i x H H', i < n → Pv i H → Y i H x H' → g x (wipe σ vs) H' fun σ2 H2 => wipe σ2 vs = wipe σ vs ∧ tt σ2 H2 fun b H3 =>
      if b = true then tk σ2 H3 fun y H4 => tv σ2 H4 fun z H5 => ∃ kvs k, y = kV k ∧ H5 D = some (.dK kvs) ∧ kvs.length < sizeLine ∧ Pv (i + 1) (upd H5 D (.dK (putK kvs k z))) else Pv (i + 1) H3) (hd : ∀ H, Pv n H → Qd H) :
    ∃ W : Nat → Nat → Hp → Prop, (∃ m, W 0 m (upd H1 D (.dK []))) ∧ ∀ i m H, W i m H →
      (J.stop i H ∧ Qd H) ∨ (J.go i H ∧ ∃ Nx : Hp → Prop, (∀ H', Nx H' → ∃ m', m' < m ∧ W (i + 1) m' H') ∧ ∀ x H', J.yld i H x H' → g x (wipe σ vs) H' fun σ2 H2 => wipe σ2 vs = wipe σ vs ∧ tt σ2 H2 fun b H3 =>
        if b = true then tk σ2 H3 fun y H4 => tv σ2 H4 fun z H5 => ∃ kvs k, y = kV k ∧ H5 D = some (.dK kvs) ∧ kvs.length < sizeLine ∧ Nx (upd H5 D (.dK (putK kvs k z))) else Nx H3) := by
  refine ⟨fun i m H => m = n - i ∧ i ≤ n ∧ Pv i H, ⟨n, by simp, Nat.zero_le _, h0⟩, ?_⟩
  rintro i m H ⟨rfl, hi, p⟩
  have q := hG i H hi p
  by_cases hlt : i < n
  · refine .inr ⟨w.goes i H hlt q, Pv (i + 1), fun H' p' => ⟨n - (i + 1), by omega, rfl, hlt, p'⟩, fun x H' y => hs i x H H' hlt p (w.yields i H x H' hlt q y)⟩
  · have e : i = n := by omega
    subst e
    exact .inl ⟨w.stops H q, hd H p⟩
theorem hu1 {k : Nat} {A : Around} (hr : RoomG k A) : A.units + 1 < cLine := by have := hr.r.un; omega
theorem nt_dK {l : List (Key × V)} : NoTab (.dK l) := fun _ h => by cases h
end
end Gd

/-! An own error without a field: raised, caught. -/
namespace Gd
open PySem PySem.Spec PyProof.Rows L2 GxR Gx
/-- the class of the error x at C -/
structure BadN (K : PySem.W.Frag) (mg : Str → Option Value) (x : Str) (C : Addr) : Prop where
  q : PySem.W.excIn K C [.type "ValueError", .type "Exception", .type "BaseException", .type "object"] "ValueError.__new__" = true
  g : mg x = some (.ref C)
  kp : PySem.W.keepIn K (.ref C) = true
  b : PySem.W.subIn K (.ref C) (.type "BaseException") = some true
  t : PySem.W.typeIn K (.ref C) = some (.type "type")
section
variable {X : Cx} {C : Addr} {x : Str} {p pos pos2 : Pos} {W : WX}
theorem pmk_own0 (B : BadN X.K X.mg x C) (hg : Gl X x) (hdb : (x == ("__debug__" : Str)) = false := by decide) : PMk X (.Call (.Name x p) [] [] pos) (fun _ H Q => Q (.ref C) none H) := by
  intro pins s σ H Q I h
  refine wpAny_Call_Name_kw (ld_glob I hg B.g (PySem.W.callWith_K0 I.kIn B.kp ?_) hdb)
  show wpAny _ _ (call (.ref C) []) _ _ _
  obtain ⟨bm, N, nm, qn, bs, hdct, sn, sub, ab, col, dd, k0, k1, k2, k3, k5, mN, hC, hN, hni, T⟩ := exc_obj I.kIn B.q
  refine wpAny_call_exc_subT PySem.F.excBase_ValueError T hC hN hni (fun h' e hm => ?_) (Nat.zero_le _)
  exact mk_of I hm (raises_own B.b B.t) h (I.hok.gone hm.new)
theorem ps_bad0 (B : BadN X.K X.mg x C) (hc : X.calm = true) (tk : Takes X W) (hg : Gl X x) (hdb : (x == ("__debug__" : Str)) = false := by decide) : PS X (.Raise (some (.Call (.Name x p) [] [] pos)) none pos2) (fun _ σ H => W (.ref C) none σ H) :=
  ps_raise hc tk (pmk_own0 B hg hdb)
end
/-- isinstance(e, c), e an own error without a field that the suite holds -/
def rIsN (K : PySem.W.Frag) (C a : Addr) (cls : Value) (d : Option Addr) : List V → Hp → VK → Prop := fun xs H Q => ∃ (c : V) (cv : Value) (b : Bool), xs = [.ref a, c] ∧ cls = .ref C ∧ d = none ∧ (∀ u, RelV c u → u = cv) ∧ PySem.W.kitOne K (.ref C) cv = some b ∧ Q (.bl b) H
theorem call_isN {X : Cx} {a C : Addr} {oe : Obj} {cls : Value} {d : Option Addr} {pn : List (Addr × Obj)} (T : ExcC X.K C) (hz : Zc cls d oe) (hf : ∃ vs, oe.data = .fields vs) : CallR (X.suite a ((a, oe) :: pn)) (.builtin "isinstance") (rIsN X.K C a cls d) := by
  intro pins s σ H xs us Q I r h
  obtain ⟨c, cv, b, rfl, rfl, rfl, hcv, e, q⟩ := h
  exact call_isE T hz hf pins s σ H _ us Q I r ⟨c, cv, b, rfl, hcv, e, q⟩
/-- the error x at C is caught by xV at CV -/
structure CatN (K : PySem.W.Frag) (mg : Str → Option Value) (x xV : Str) (C CV : Addr) : Prop where
  g : mg x = some (.ref C)
  gV : mg xV = some (.ref CV)
  ex : PySem.W.exmOne K (.ref C) (.ref CV) = some true
  is : ExcC K C
  k1 : PySem.W.kitOne K (.ref C) (.ref C) = some true
  k2 : PySem.W.kitOne K (.ref C) (.type "ValueError") = some true
end Gd

namespace HT
open PySem PySem.Spec PySem.Calls PyProof.Rows L2
section
variable {prog : Program} {w : World} {A : Around} {E : Value → Shared → Prop} {s : Shared}
theorem adjust_rev (n : Nat) : Builtin.Slice.sliceAdjust none none (-1) (n : Int) = ((n : Int) - 1, -1) := rfl
theorem places_rev (n : Nat) : Builtin.Slice.slicePlaces ((n : Int) - 1) (-1) (-1) = n := by
  unfold Builtin.Slice.slicePlaces
  have h1 : ¬ ((-1 : Int) > 0) := by omega
  simp only [h1, if_false]
  by_cases h : (n : Int) - 1 > -1
  · rw [if_pos h, show (- -1 : Int) = 1 by decide, Int.ediv_one]
    omega
  · rw [if_neg h]
    omega
theorem sliceApplied_rev {sl : Addr} {vs : Value} {n : Nat} {Q : Int × Int × Nat → Shared → Prop} (hs : s.heap.IsSliceOf sl .none .none vs) (ps : IsPart vs (some (-1)))
    (h : Q ((n : Int) - 1, -1, n) s) : wpAny (model prog w) A (Builtin.Slice.sliceApplied (.ref sl) (pure (n : Int))) Q E s := by
  obtain ⟨os, hos, hcs, hds⟩ := id hs
  unfold Builtin.Slice.sliceApplied Builtin.Slice.sliceFields
  refine wpAny_bind (wpAny_bind (wpAny_field hos hds (x := .none) rfl (wpAny_bind (wpAny_field hos hds (x := .none) rfl (wpAny_bind (wpAny_field hos hds (x := vs) rfl (wpAny_pure ?_)))))))
  refine wpAny_bind (slicePart_ ps ?_)
  show wpAny _ _ (if ((-1 : Int) == 0) = true then _ else _) _ _ s
  rw [if_neg (by decide)]
  refine wpAny_bind (slicePart_none (wpAny_bind (slicePart_none (wpAny_bind (wpAny_pure ?_)))))
  show wpAny _ _ (match Builtin.Slice.sliceAdjust none none (-1) (n : Int) with | (lo, hi) => pure (lo, (-1 : Int), Builtin.Slice.slicePlaces lo hi (-1))) _ _ s
  rw [adjust_rev n]
  show wpAny _ _ (pure ((n : Int) - 1, (-1 : Int), Builtin.Slice.slicePlaces ((n : Int) - 1) (-1) (-1))) _ _ s
  rw [places_rev]
  exact wpAny_pure h
theorem fm_congr {α β : Type} {f g : α → Option β} : ∀ {l : List α}, (∀ m ∈ l, f m = g m) → l.filterMap f = l.filterMap g
  | [], _ => rfl
  | a :: l, h => by rw [List.filterMap_cons, List.filterMap_cons, h a List.mem_cons_self, fm_congr fun m hm => h m (List.mem_cons_of_mem _ hm)]
theorem pick_rev (xs : Array Value) : ((List.range xs.size).filterMap fun (m : Nat) => xs[(((xs.size : Int) - 1) + (m : Int) * (-1)).toNat]?).toArray = xs.toList.reverse.toArray := by
  have e : ((List.range xs.size).filterMap fun (m : Nat) => xs[(((xs.size : Int) - 1) + (m : Int) * (-1)).toNat]?) = ((List.range xs.size).map fun k => xs.size - 1 - k).filterMap (xs[·]?) := by
    rw [List.filterMap_map]
    refine fm_congr fun m hm => ?_
    have := List.mem_range.mp hm
    show xs[(((xs.size : Int) - 1) + (m : Int) * (-1)).toNat]? = xs[xs.size - 1 - m]?
    rw [show (((xs.size : Int) - 1) + (m : Int) * (-1)).toNat = xs.size - 1 - m by omega]
  rw [e, PySem.W.krv_range, List.filterMap_reverse, PySem.W.krv_all]
theorem getItem_tuple_rev {t sl : Addr} {items : Array Value} {vs : Value} {Q : Value → Shared → Prop} (ht : IsTup s.heap t items) (hs : s.heap.IsSliceOf sl .none .none vs) (ps : IsPart vs (some (-1)))
    (h : Q (.ref s.heap.objs.size) { s with heap := s.heap.push { cls := .type "tuple", data := .seq items.toList.reverse.toArray } })
    (hsz : items.size ≤ sizeLine) : wpAny (model prog w) A (getItem (.ref t) (.ref sl)) Q E s := by
  have htake : sizeOk (.seq items.toList.reverse.toArray) := by
    show items.toList.reverse.toArray.size ≤ sizeLine
    rw [List.size_toArray, List.length_reverse, Array.length_toList]
    exact hsz
  obtain ⟨os, hos, hcs, hds⟩ := id hs
  have hTs : s.TypeIs (.ref sl) "slice" := ⟨os, hos, hcs⟩
  unfold getItem
  try with_reducible refine wpAny_holding ?_
  first | refine wpAny_bind (wpAny_pure ?_) | skip
  refine wpAny_bind (wpAny_sequenceKey ht.typeIs (by decide) ?_)
  refine wpAny_bind (wpAny_callSpecial?_slot (name := Str.ofString "__getitem__") ht.typeIs PyProof.Rows.slot_tuple_getitem
    (wpAny_call_entry PyProof.Rows.slot_tuple_getitem ht.typeIs entry_tuple_getitem ?_ (args_tuple_getitem _ _)))
  show wpAny _ _ (Builtin.Tuple.tupleItemsOf (.ref t) >>= _) _ _ s
  refine wpAny_bind (tupleItemsOf_ ht ?_)
  refine wpAny_bind (wpAny_typeOf hTs ?_)
  rw [if_pos (by decide)]
  refine wpAny_bind (sliceApplied_rev hs ps ?_)
  have hno : ¬ (((((items.size : Nat) : Int) - 1) == 0 && (-1 : Int) == 1 && items.size == items.size) = true) := by
    intro q
    rw [Bool.and_eq_true, Bool.and_eq_true] at q
    exact absurd q.1.2 (by decide)
  show wpAny _ _ (if ((((items.size : Nat) : Int) - 1) == 0 && (-1 : Int) == 1 && items.size == items.size) = true then _ else _) _ _ s
  rw [if_neg hno, pick_rev]
  first
    | exact wpAny_bind (m := Builtin.Tuple.tupleExact _) (wpAny_newObj_type (wpAny_pure ⟨_, rfl, wpAny_pure h⟩) htake)
    | exact wpAny_bind (m := Builtin.Tuple.tupleExact _) (wpAny_newObj_type (wpAny_bind (wpAny_pure (wpAny_pure ⟨_, rfl, wpAny_pure h⟩))) htake)
    | exact wpAny_bind (wpAny_bind (m := Builtin.Tuple.tupleExact _) (wpAny_newObj_type (wpAny_pure (wpAny_pure ⟨_, rfl, wpAny_pure h⟩)) htake))
    | exact wpAny_bind (wpAny_bind (m := Builtin.Tuple.tupleExact _) (wpAny_newObj_type (wpAny_pure ⟨_, rfl, wpAny_pure h⟩) htake))
end
end HT
namespace Gd
open PySem PySem.Spec PyProof.Rows L2 GxR Gx
/-- a tuple without a dict of its own -/
def NoD (K : PySem.W.Frag) (H : Hp) (a : Addr) : Prop := (∃ o u, H a = some (.frz o u) ∧ o.dict = none) ∨ ∃ o, K.lookup a = some o ∧ o.dict = none
theorem NoD.kb {K : PySem.W.Frag} {S : List Addr} {H H' : Hp} {a : Addr} (k : Kb S H H') (hS : Lsts S H) (h : NoD K H a) : NoD K H' a := by
  rcases h with ⟨o, u, e, d⟩ | h
  · exact .inl ⟨o, u, k.keep a _ e (fun z => by obtain ⟨ys, e2⟩ := hS a z; rw [e] at e2; cases e2) nt_frz, d⟩
  · exact .inr h
abbrev frzT (o : Obj) (xs : List V) : HO := .frz o (.tup xs)
section
variable {X : Cx}
theorem SqT.frz {K : PySem.W.Frag} {H : Hp} {p : Addr} {o : Obj} {xs : List V} (e : H p = some (frzT o xs)) : SqT K H p xs := .inl (.inr ⟨o, e⟩)
theorem NoD.frz {K : PySem.W.Frag} {H : Hp} {p : Addr} {o : Obj} {u : HO} (e : H p = some (.frz o u)) (d : o.dict = none) : NoD K H p := .inl ⟨o, u, e, d⟩
/-- tuple(x): a new tuple of a list's items, without a dict; a tuple itself -/
theorem call_tuple_ofF : CallR X (.type "tuple") (fun xs H Q => ∃ p ys, xs = [.ref p] ∧ ((SqL X.K H p ys ∧ ∀ l o, H l = none → o.dict = none → Q (.ref l) (upd H l (frzT o ys))) ∨ (SqT X.K H p ys ∧ Q (.ref p) H))) := by
  intro pins s σ H xs us Q I r h
  obtain ⟨p, ys, rfl, h⟩ := h
  obtain ⟨u, rfl, rx⟩ := vals1 r
  cases rx
  rcases h with ⟨hq, q⟩ | ⟨hq, q⟩
  · obtain ⟨its, r', pl, hz⟩ := I.list hq
    have hlen := r'.length
    refine call_tuple_list pl.isList (fun h' kp => ?_) (by simp only [List.size_toArray] <;> omega)
    have I1 : Inv X pins σ H { s with heap := h' } := I.kept (t' := s.toks) kp
    have I2 : Inv X pins σ (upd H h'.objs.size (frzT { cls := .type "tuple", data := .seq its.toArray } ys)) { s with heap := h'.push { cls := .type "tuple", data := .seq its.toArray } } :=
      I1.laid (t' := s.toks) (fun b o e => Heap.get?_push_of_some _ e) (Nat.le_refl _) (show ObjOk X.prog X.w _ _ _ (frzT _ ys) from ⟨Heap.get?_push_size _ rfl, hz, its, r', IsTup.new _ _⟩)
    exact ⟨.ref h'.objs.size, _, I2, rfl, q _ _ (I1.hok.fresh (Nat.le_refl _)) rfl⟩
  · obtain ⟨its, r', pl, hz⟩ := I.tuple hq
    exact call_tuple_same pl ⟨.ref p, H, I, rfl, q⟩
/-- t[lo:hi], new tuples without a dict -/
def rSlF (K : PySem.W.Frag) : V → Option Int → Option Int → Hp → VK → Prop := fun x lo hi H Q => ∃ a xs, x = .ref a ∧ SqT K H a xs ∧
  (HT.sIx xs.length 0 lo = 0 ∧ HT.sIx xs.length xs.length hi = xs.length → Q (.ref a) H) ∧ (¬ (HT.sIx xs.length 0 lo = 0 ∧ HT.sIx xs.length xs.length hi = xs.length) → ∀ p o, H p = none → o.dict = none → Q (.ref p) (upd H p (frzT o (cutV xs lo hi))))
theorem sl_tupF : SlR X (rSlF X.K) := by
  intro pins s σ H x v vl vu lo hi sl Q I rx hs pl pu h
  obtain ⟨a, xs, rfl, hx, q1, q2⟩ := h
  cases rx
  obtain ⟨its, r, ht, hz⟩ := I.tuple hx
  have hlen : its.toArray.size = xs.length := by rw [List.size_toArray]; exact r.length.symm
  refine ⟨"tuple", _, PyProof.Rows.slot_tuple_getitem.lookup, ht.typeIs, ?_⟩
  by_cases hw : HT.sIx xs.length 0 lo = 0 ∧ HT.sIx xs.length xs.length hi = xs.length
  · exact getItem_tuple_whole ht hs pl pu (by rw [hlen]; exact hw) ⟨.ref a, H, I, rfl, q1 hw⟩
  · refine HT.getItem_tuple_cut ht hs pl pu (by rw [hlen]; exact hw) ?_ (by rw [hlen]; exact hz)
    rw [hlen]
    refine ⟨.ref s.heap.objs.size, _, I.laid (t' := s.toks) (o := frzT { cls := .type "tuple", data := .seq ((its.toArray.toList.drop (HT.sIx xs.length 0 lo)).take (HT.sIx xs.length xs.length hi - HT.sIx xs.length 0 lo)).toArray } (cutV xs lo hi)) (fun b ob q => Heap.get?_push_of_some _ q) (Nat.le_refl _) ?_, rfl, q2 hw _ _ (I.hok.fresh (Nat.le_refl _)) rfl⟩
    exact ⟨Heap.get?_push_size _ rfl, Nat.le_trans (cutV_length xs lo hi) hz, _, (r.drop (HT.sIx xs.length 0 lo)).take (HT.sIx xs.length xs.length hi - HT.sIx xs.length 0 lo), IsTup.new _ _⟩
/-- t[::-1] of a tuple -/
def tRevT (K : PySem.W.Frag) (te : TE) : TE := fun σ H Q => te σ H fun x H1 => ∃ a xs, x = .ref a ∧ SqT K H1 a xs ∧ ∀ p o, H1 p = none → o.dict = none → Q (.ref p) (upd H1 p (frzT o xs.reverse))
theorem pe_revT {e : Expr} {te : TE} {k : Nat} {p1 p2 p3 pos : Pos} (he : PE X e te) : PE X (.Subscript e (.Slice none none (some (.UnaryOp .USub (.Constant (.int 1) k p1) p2)) p3) pos) (tRevT X.K te) := by
  refine ⟨fun pins s σ H Q I h => ?_⟩
  refine Subscript_ (thn (he.run pins s σ H _ I h) fun v s1 ⟨x, H1, I1, r1, q1⟩ => ?_)
  obtain ⟨a, xs, ex, hx, q⟩ := q1
  subst ex
  cases r1
  have hst : PO X (some (.UnaryOp .USub (.Constant (.int 1) k p1) p2)) (tPart (tUn (rU fun i => .int (-i)) (tC (.int 1)))) := po_some (pe_un un_neg pe_int)
  refine wpAny_Slice (thn (po_none.run pins s1 σ H1 (fun o H2 => o = none ∧ H2 = H1) I1 ⟨rfl, rfl⟩) fun vl s2 ⟨l, H2, I2, pl, el, e2⟩ => ?_)
  subst el e2
  refine thn (po_none.run pins s2 σ H2 (fun o H3 => o = none ∧ H3 = H2) I2 ⟨rfl, rfl⟩) fun vu s3 ⟨u, H3, I3, pu, eu, e3⟩ => ?_
  subst eu e3
  refine thn (hst.run pins s3 σ H3 (fun o H4 => o = some (-1) ∧ H4 = H3) I3 ⟨1, rfl, -1, rfl, rfl, rfl⟩) fun vs s4 ⟨o, H4, I4, ps, eo, e4⟩ => ?_
  subst eo e4
  cases pl
  cases pu
  have I5 : Inv X pins σ H4 { s4 with heap := s4.heap.push { cls := .type "slice", data := .fields #[.none, .none, vs] } } := I4.kept (t' := s4.toks) fun b ob q => Heap.get?_push_of_some _ q
  obtain ⟨its, r, ht, hz⟩ := I5.tuple hx
  have hlen := r.length
  show wpAny (model X.prog X.w) X.A (subscriptTail e (.Slice none none (some (.UnaryOp .USub (.Constant (.int 1) k p1) p2)) p3) (.ref a) (.ref s4.heap.objs.size)) (EP X pins σ Q) X.xe { s4 with heap := s4.heap.push { cls := .type "slice", data := .fields #[.none, .none, vs] } }
  refine tail_any (ops := [.ref a, .ref s4.heap.objs.size]) ht.typeIs (PyProof.Rows.slot_tuple_getitem.lookup) ?_ (by with_unfolding_all rfl)
  refine HT.getItem_tuple_rev ht (Heap.IsSliceOf.new _ .none .none vs) ps ?_ (by rw [List.size_toArray]; omega)
  refine ⟨.ref _, _, I5.laid (t' := s4.toks) (o := frzT { cls := .type "tuple", data := .seq its.toArray.toList.reverse.toArray } xs.reverse) (fun b ob q => Heap.get?_push_of_some _ q) (Nat.le_refl _) ?_, rfl, q _ _ (I5.hok.fresh (Nat.le_refl _)) rfl⟩
  exact ⟨Heap.get?_push_size _ rfl, by rw [List.length_reverse]; exact hz, _, r.reverse, IsTup.new _ _⟩
/-- dict(t) of a tuple of pairs -/
theorem call_dictT (hcalm : X.calm = true) : CallR X (.type "dict") (fun xs H Q => ∃ (a : Addr) (ps : List Addr) (kvs : List (Key × V)), xs = [.ref a] ∧ SqT X.K H a (ps.map V.ref) ∧ NoD X.K H a ∧ Paired (fun p kv => SqT X.K H p [kV kv.1, kv.2]) ps kvs ∧
    ∀ p, H p = none → Q (.ref p) (upd H p (.dK (mergeK [] kvs)))) := by
  intro pins s σ H xs us Q I r q
  obtain ⟨a, ps, kvs, ex, hq, hnd, hp, q⟩ := q
  subst ex
  obtain ⟨u, eu, rx⟩ := vals1 r
  subst eu
  cases rx
  obtain ⟨its, rv, pl, hz⟩ := I.tuple hq
  have ei := refs_at rv
  subst ei
  rw [List.length_map] at hz
  obtain ⟨prs, rel, hl, hpr⟩ := pairs_of I hp
  obtain ⟨o, ho, hc, n, hdat⟩ := pl
  have hd : o.dict = none := by
    rcases hnd with ⟨o2, u, e, d⟩ | ⟨o2, e, d⟩
    · have := (I.hok a _ e).1
      rw [ho] at this
      cases this
      exact d
    · have := I.kIn a o2 e
      rw [ho] at this
      cases this
      exact d
  -- the pairs as the library tells them
  have key : ∀ j : Nat, ∃ v : Value, ∀ q' : Key × Value, prs[j]? = some q' → ∃ b : Addr, ps[j]? = some b ∧ IsTup s.heap b #[v, q'.2] ∧ keyIs q'.1 v = true := fun j => by
    cases e : prs[j]? with
    | none => exact ⟨.none, fun q' h => by cases h⟩
    | some q' =>
      obtain ⟨b, u, e1, e2, e3⟩ := hpr j q' e
      exact ⟨u, fun q'' h => by cases h; exact ⟨b, e1, e2, e3⟩⟩
  let kf : Nat → Value := fun j => Classical.choose (key j)
  have hkf : ∀ (j : Nat) (q' : Key × Value), prs[j]? = some q' → ∃ b : Addr, ps[j]? = some b ∧ IsTup s.heap b #[kf j, q'.2] ∧ keyIs q'.1 (kf j) = true := fun j => Classical.choose_spec (key j)
  let pvs : List (Value × Value) := (List.range prs.length).map fun j => (kf j, (prs.getD j (.inl 0, .none)).2)
  have hpv : ∀ j, j < prs.length → pvs[j]? = some (kf j, (prs.getD j (.inl 0, .none)).2) := fun j hj => by
    show ((List.range prs.length).map _)[j]? = _
    rw [List.getElem?_map, List.getElem?_range hj]
    rfl
  have hpl : pvs.length = prs.length := by show ((List.range prs.length).map _).length = _; rw [List.length_map, List.length_range]
  have hgd : ∀ (j : Nat) (q' : Key × Value), prs[j]? = some q' → prs.getD j (.inl 0, .none) = q' := fun j q' e => by rw [List.getD_eq_getElem?_getD, e]; rfl
  have ok : PySem.PlainSeq "tuple" s.heap a (ps.map Value.ref).toArray ∧ PySem.PairItems s.heap (ps.map Value.ref).toArray (fun j => ps.getD j 0) pvs := by
    refine ⟨⟨o, n, ho, hc, hd, hdat⟩, by rw [List.size_toArray, List.length_map, hpl, hl], fun j k v hj => ?_⟩
    have hj2 : j < prs.length := by have := (List.getElem?_eq_some_iff.mp hj).1; omega
    rw [hpv j hj2] at hj
    cases hj
    obtain ⟨q', hq'⟩ : ∃ q', prs[j]? = some q' := ⟨prs[j], List.getElem?_eq_getElem hj2⟩
    rw [hgd j q' hq']
    obtain ⟨b, e1, e2, e3⟩ := hkf j q' hq'
    have eb : ps.getD j 0 = b := by rw [List.getD_eq_getElem?_getD, e1]; rfl
    show (ps.map Value.ref).toArray[j]? = some (Value.ref (ps.getD j 0)) ∧ PySem.PairAt s.heap (ps.getD j 0) (kf j) q'.2
    rw [eb]
    exact ⟨by simp [e1], .inl e2⟩
  have hm : (s.heap.objs.size == sysModules) = false := beq_eq_false_iff_ne.mpr (Nat.ne_of_gt I.big)
  refine PySem.call_dict_pairs (knd := mixKind X.prog X.w) (kvs := prs) (PySem.PairArg.tuple a _ _ pvs) (I.ok.hd hcalm) ok ⟨by rw [hpl], fun i k v hr => ?_⟩ (by rw [hpl, hl]; exact hz) fun h' tk hd' k => ?_
  · have hr : pvs[i]? = some (k, v) := hr
    have hi : i < prs.length := by have := (List.getElem?_eq_some_iff.mp hr).1; omega
    rw [hpv i hi] at hr
    cases hr
    obtain ⟨q', hq'⟩ : ∃ q', prs[i]? = some q' := ⟨prs[i], List.getElem?_eq_getElem hi⟩
    rw [hgd i q' hq']
    obtain ⟨b, e1, e2, e3⟩ := hkf i q' hq'
    exact ⟨q'.1, hq', e3⟩
  · have hlen : (mergeK [] kvs).length ≤ sizeLine := by
      refine Nat.le_trans (length_mergeK kvs []) ?_
      rw [List.length_nil, Nat.zero_add, rel.length, hl]
      exact hz
    exact ⟨.ref s.heap.objs.size, upd H s.heap.objs.size (.dK (mergeK [] kvs)), I.laid (t' := tk) (fun b o e => k b o (by simp) e) (Nat.le_refl _) (show ObjOk X.prog X.w _ _ _ (.dK (mergeK [] kvs)) from ⟨hlen, hm, merged [] prs, KV.merge rel .nil, hd'⟩), rfl, q _ (I.hok.fresh (Nat.le_refl _))⟩
end
/-! ### calls with a star -/
section
variable {X : Cx} {k i : Nat} {ps : List Str} {sp : Sp} {x : Str} {p pos sp_ : Pos} {e : Expr} {es : List Expr} {t : TA} {te : TE}
theorem run_cal {CX : CXT} {E : XK} {f : Addr} {fd : FuncData} {pins : List (Addr × Obj)} {σ : L2.St} {H : Hp} {s : Shared} {Q : VK} {us : List Value} {vs : List V} (F : FnG X.prog X.w X.K X.mg X.base CX k f fd ps sp) (b : Binds X.K fd ps []) (hr : RoomG k X.A) (hx : Passes CX X E)
    (I : Inv X pins σ H s) (r : Vals vs us) (h : sp vs H Q E) : codeAny (model X.prog X.w) X.A (.call (.ref f) ⟨us, []⟩) (fun r s' => match r with | .ok (.ret v) => EP X pins σ Q v s' | .ok _ => False | .error e => X.xe e s') s := by
  have hl : us.length = ps.length := by rw [← r.length]; exact F.len _ _ _ _ h
  have bb := b s us I.kIn (by rw [List.append_nil]; exact hl)
  rw [List.append_nil] at bb
  refine codeAny_mono (F.run X.A X.stack s H ⟨us, []⟩ us vs Q E hr I.env0 bb r h) fun r s' hq => ?_
  cases r with
  | error e => exact hx pins σ H s e s' I hq
  | ok fl =>
    cases fl with
    | ret u => exact I.after hq
    | next => exact hq.elim
    | brk => exact hq.elim
    | cont => exact hq.elim
/-- x(e, .., *y) -/
theorem pe_calS2 (C : Cal X.prog X.w X.K X.mg X.base CX0 k x ps sp) (hr : RoomG k X.A) (hg : Gl X x) (ha : PA X (e :: es) t) (hd : (x == ("__debug__" : Str)) = false := by decide)
    (he : starEach (e :: es) X.env = (false, eval e X.env) :: starEach es X.env := by rfl) (hst : (backTo pos (starEach es X.env)).any (·.1) = true := by rfl) :
    PE X (.Call (.Name x p) (e :: es) [] pos) (fun σ H Q => t σ H fun vs H1 => sp vs H1 Q E0) := by
  obtain ⟨f, fd, F, g, kp, b⟩ := C
  refine ⟨fun pins s σ H Q I h => ?_⟩
  refine wpAny_Call_Name_kw (ld_glob I hg g ?_ hd)
  refine PySem.W.callWith_S2 (h₀ := X.base) I.ok.mod.kin kp (thn (ha.run pos pins s σ H _ I h) fun us s1 ⟨vs, H1, I1, r, q⟩ => ⟨I1.kIn, ?_⟩) he hst
  exact wpAny_call (run_cal F b hr pass0 I1 r q)
/-- y(*z), y a local name that holds one of several defs -/
theorem pe_calLS (hN : X.N[i]? = some x) (hv : Vis X.env.scope x) (hr : RoomG k X.A) (he : PE X e te) (hdb : (x == ("__debug__" : Str)) = false := by decide) (hcd : (x == ("__classdict__" : Str)) = false := by decide)
    (hst : starEach [.Starred e sp_] X.env = [(true, eval e X.env)] := by rfl) :
    PE X (.Call (.Name x p) [.Starred e sp_] [] pos) (fun σ H Q => ∃ (f : Addr) (fd : FuncData) (ps : List Str) (sp : Sp), σ[i]? = some (some (.ref f)) ∧ FnG X.prog X.w X.K X.mg X.base CX0 k f fd ps sp ∧ PySem.W.keepIn X.K (.ref f) = true ∧ Binds X.K fd ps [] ∧
      te σ H fun y H1 => ∃ a xs, y = V.ref a ∧ (SqT X.K H1 a xs ∨ SqL X.K H1 a xs) ∧ sp xs H1 Q E0) := by
  refine ⟨fun pins s σ H Q I h => ?_⟩
  obtain ⟨f, fd, ps, sp, hs, F, kp, b, ht⟩ := h
  refine wpAny_Call_Name_kw (thn ((pe_var (pos := p) hN hv hdb hcd).run pins s σ H (fun v H1 => v = .ref f ∧ H1 = H) I ⟨.ref f, hs, rfl, rfl⟩) fun u s1 ⟨v, H1, I1, r1, q1⟩ => ?_)
  obtain ⟨rfl, rfl⟩ := q1
  cases r1
  refine PySem.W.callWith_S (h₀ := X.base) I.ok.mod.kin kp (thn (he.run pins s1 σ _ _ I1 ht) fun v s2 ⟨y, H2, I2, ry, a, xs, ey, hxs, q⟩ => ?_) hst
  subst ey
  obtain rfl : v = Value.ref a := ry
  exact StX.star_any I2 hxs fun us s3 I3 rv => ⟨I3.kIn, wpAny_call (run_cal F b hr pass0 I3 rv q)⟩
end
end Gd

/-! Data that stands while a list or a dict is filled. -/
namespace Gd
open PySem PySem.Spec PyProof.Rows L2 GxR Gx
section
variable {K : PySem.W.Frag} {H : Hp} {p : Addr} {v : V} {d : PyData} {vs xs ys : List V} {ds : List PyData}
theorem lsts_one (e : H p = some (.lst xs)) : Lsts [p] H := fun b hb => by
  cases hb with
  | head => exact ⟨_, e⟩
  | tail _ h => cases h
theorem dt_lst (e : H p = some (.lst xs)) (h : Dt K H v d) {o : HO} : Dt K (upd H p o) v d := h.kb (Kb.put (by simp) e nt_lst : Kb [p] H _) (lsts_one e)
theorem dts_lst (e : H p = some (.lst xs)) (h : DtAll K H vs ds) {o : HO} : DtAll K (upd H p o) vs ds := DtAll.kb (Kb.put (by simp) e nt_lst : Kb [p] H _) (lsts_one e) h
theorem DtAll.snoc : ∀ {vs : List V} {ds : List PyData}, DtAll K H vs ds → Dt K H v d → DtAll K H (vs ++ [v]) (ds ++ [d])
  | _, _, .nil, h => .cons h .nil
  | _, _, .cons h1 h2, h => .cons h1 (h2.snoc h)
theorem DtAll.cat : ∀ {vs ws : List V} {ds es : List PyData}, DtAll K H vs ds → DtAll K H ws es → DtAll K H (vs ++ ws) (ds ++ es)
  | _, _, _, _, .nil, h => h
  | _, _, _, _, .cons h1 h2, h => .cons h1 (h2.cat h)
/-- a part of the list goes on at another address -/
theorem tup_inv {ds : List PyData} (h : Dt K H v (.tuple ds)) : ∃ a xs, v = .ref a ∧ SqT K H a xs ∧ DtAll K H xs ds := by
  cases h with
  | tup h hs => exact ⟨_, _, rfl, h, hs⟩
end
/-! ### cuts: what holds between two statements -/
theorem seq_gen {a b : TS} {D : Ends} {σ : L2.St} {H : Hp} (C : L2.St → Hp → Prop) (h : ∀ N : L2.St → Hp → Prop, (∀ σ' H', C σ' H' → N σ' H') → a { D with nx := N } σ H) (rest : ∀ σ' H', C σ' H' → b D σ' H') : tSeq a b D σ H := h _ rest
theorem asg_gen {te : TE} {g : TG} {D : Ends} {σ : L2.St} {H : Hp} (C : V → Hp → Prop) (h : ∀ N : VK, (∀ v H', C v H' → N v H') → te σ H N) (rest : ∀ v H', C v H' → g v σ H' D.nx) : tAsg te g D σ H := h _ rest
theorem gset {i : Nat} {v : V} {σ : L2.St} {H : Hp} {Q : L2.St → Hp → Prop} (h : Q (σ.set i (some v)) H) : gName i v σ H Q := h
/-- x = constant -/
theorem seq_c {c : V} {i : Nat} {b : TS} {D : Ends} {σ : L2.St} {H : Hp} (h : b D (σ.set i (some c)) H) : tSeq (tAsg (tC c) (gName i)) b D σ H := h
theorem ret_gen {te : TE} {D : Ends} {σ : L2.St} {H : Hp} (C : V → Hp → Prop) (h : ∀ N : VK, (∀ v H', C v H' → N v H') → te σ H N) (rest : ∀ v H', C v H' → D.rt v H') : tRet te D σ H := h _ rest
end Gd

namespace Rd
open PySem PySem.Spec PyProof.Rows L2 GxR Gx Gd Ev
abbrev s_handler_at : Stmt := topS 1
theorem sc_handler_at : FnScope ["rows", "node", "event", "known", "_", "around", "handlers", "name", "expected", "row"] ["rows", "node", "event"] (defScope s_handler_at) := ⟨rfl, rfl, rfl, by decide +kernel, rfl, by decide +kernel, by decide +kernel⟩
abbrev s_law_handler : Stmt := topS 8
theorem sc_law_handler : FnScope ["rows", "node", "event", "row", "found", "handler"] ["rows", "node", "event"] (defScope s_law_handler) := ⟨rfl, rfl, rfl, by decide +kernel, rfl, by decide +kernel, by decide +kernel⟩
/-! data taken apart -/
section
variable {K : PySem.W.Frag} {H H' : Hp} {v : V} {a : Addr}
theorem h_inv {h : PySem.Str × PyData} (q : Dt K H v (hD h)) : ∃ p x, v = .ref p ∧ SqT K H p [.str h.1, x] ∧ Dt K H x h.2 := by
  obtain ⟨p, xs, rfl, sq, da⟩ := tup_inv q
  cases da with
  | cons h1 h2 =>
    cases h1
    cases h2 with
    | cons h3 h4 =>
      cases h4
      exact ⟨p, _, rfl, sq, h3⟩
theorem row_inv {r : ERow} (q : Dt K H v (rowD r)) : ∃ p t ys, v = .ref p ∧ SqT K H p [.int (r.id : Int), .int (r.ar : Int), .ref t] ∧ SqT K H t ys ∧ DtAll K H ys (r.hs.map hD) := by
  obtain ⟨p, xs, rfl, sq, da⟩ := tup_inv q
  cases da with
  | cons h1 h2 =>
    cases h1
    cases h2 with
    | cons h3 h4 =>
      cases h3
      cases h4 with
      | cons h5 h6 =>
        cases h6
        obtain ⟨t, ys, rfl, h7, h8⟩ := tup_inv h5
        exact ⟨p, t, ys, rfl, sq, h7, h8⟩
end
theorem look_some {hs : List (PySem.Str × PyData)} {ev : PySem.Str} {j : Nat} {h : PySem.Str × PyData} (hj : hs[j]? = some h) (e : h.1 = ev) (no : ∀ x ∈ hs.take j, x.1 ≠ ev) : look hs ev = some h.2 := by
  have e1 : hs = hs.take j ++ h :: hs.drop (j + 1) := by
    rw [← Lis.drop_cons hj, List.take_append_drop]
  unfold look
  rw [e1, List.find?_append, List.find?_eq_none.mpr fun x hx => by simpa using no x hx]
  simp [e]
theorem look_none {hs : List (PySem.Str × PyData)} {ev : PySem.Str} (no : ∀ x ∈ hs, x.1 ≠ ev) : look hs ev = none := by
  unfold look
  rw [List.find?_eq_none.mpr fun x hx => by simpa using no x hx]
  rfl
def spHand (K : PySem.W.Frag) : Sp := fun vs H Q _ => ∃ (a : Addr) (rows : List ERow) (node : Nat) (ev : PySem.Str), vs = [.ref a, .int (node : Int), .str ev] ∧ Dt K H (.ref a) (rowsD rows) ∧ Wf rows ∧ rows.length ≤ 1000 ∧ (∀ r ∈ rows, r.hs.length ≤ 1000) ∧ ∀ v H', Kp H H' → Dt K H' v (resD (hand rows.reverse node ev)) → Q v H'
def slotN (σ : L2.St) (i : Nat) : Nat := match σ[i]? with | some (some (V.int n)) => n.toNat | _ => 0
section
variable {P : Program} {w : World} {K : PySem.W.Frag} {mg : PySem.Str → Option Value} {base : Heap}
theorem c_handler_at (D : DefAt K mg "handler_at" s_handler_at ["rows", "node", "event"]) : Cal P w K mg base CX0 1 "handler_at" ["rows", "node", "event"] (spHand K) := by
  refine D.cal (k := 0) sc_handler_at (fun vs H Q E h => ?_) fun f cdv A outer s H vs Q E hr h => ?_
  · obtain ⟨a, rows, node, ev, rfl, _⟩ := h
    rfl
  · obtain ⟨a, rows, node, ev, rfl, hd, wf, hl, hh9, q⟩ := h
    obtain ⟨_, xs, e, hx, hxs⟩ := tup_inv hd
    cases e
    have hlen : rows.length = xs.length := by have := hxs.length; rw [List.length_map] at this; exact this.symm
    refine ⟨_, (pss_cons (ps_setDc (i := 3) rfl sc_handler_at.nd rfl rfl (sw_trueD rfl rfl rfl (by decide +kernel)) (pi_tup (pv 0)) (blkOk_by (own := [("row", 9)]) (N := ["rows", "node", "event", "known", "_", "around", "handlers", "name", "expected", "row"]) (sc := defScope s_handler_at) (by decide +kernel)) (fun _ _ _ _ _ => (pg_name (i := 9) sc_handler_at.nd rfl (Or.inl rfl))) (fun _ _ _ _ _ => pts_nil) (fun _ _ _ _ _ => (pe_ix (ix_tupK (K := K) rfl) (pv 9) pe_int (fun _ _ => rfl))) (fun _ _ _ _ _ => (pv 9)))
  (pss_cons (ps_while PassesOwn.never (pt_cmp (pc_din (hu1 hr) (pv 1) (pv 3))) (pss_cons (ps_asg (pe_dget (hu1 hr) (pv 3) (pv 1) (fun _ _ => rfl)) (pg_tup rfl (pgs_cons (pg_name (i := 4) sc_handler_at.nd rfl (Or.inl rfl)) (pgs_cons (pg_name (i := 5) sc_handler_at.nd rfl (Or.inl rfl)) (pgs_cons (pg_name (i := 6) sc_handler_at.nd rfl (Or.inl rfl)) pgs_nil)))))
  (pss_cons (ps_for PassesOwn.never rfl (pi_tup (pv 6)) (pg_tup rfl (pgs_cons (pg_name (i := 7) sc_handler_at.nd rfl (Or.inl rfl)) (pgs_cons (pg_name (i := 8) sc_handler_at.nd rfl (Or.inl rfl)) pgs_nil))) (pss_one (ps_if (pt_cmpR op_eq (pv 7) (pv 2) (nomark _)) (pss_one (ps_ret (pe_tup (pa_cons (pv 1) (pa_cons (pv 8) pa_nil))))) pss_nil)))
  (pss_one (ps_set (i := 1) sc_handler_at.nd rfl (Or.inl rfl) (pv 5))))))
  (pss_one (ps_ret pe_non)))), ?_⟩
    have sz : sizeLine = 16777216 := rfl
    refine ⟨.ref a, rfl, a, rfl, ⟨xs, hx⟩, fun D hD => dc_it walk_tup (fun i H' => Kp H H' ∧ H' D = some (.dK (kvs (rows.take i) (xs.take i)))) ⟨Kb.new hD, upd_same⟩ (fun i H' _ h => h.1.sqT .nil hx) ?_ ?_⟩
    · rintro i x _ H2 hi ⟨k, e⟩ ⟨rfl, hxi⟩
      obtain ⟨r, hr⟩ : ∃ r, rows[i]? = some r := ⟨rows[i], List.getElem?_eq_getElem (by omega)⟩
      obtain ⟨d, hd1, hd2⟩ := hxs.get hxi
      rw [List.getElem?_map, hr] at hd1
      cases hd1
      obtain ⟨p, t, ys, rfl, hp, ht, hy⟩ := row_inv (hd2.kb k .nil)
      have hsz := kvs_len (rows := rows.take i) (xs := xs.take i)
      rw [List.length_take] at hsz
      refine ⟨rfl, iteT (B := Kp H H2 ∧ H2 D = some (.dK (kvs (rows.take (i + 1)) (xs.take (i + 1))))) ⟨_, rfl, p, _, 0, _, rfl, rfl, hp, atI_nat (j := 0) rfl, _, rfl, _, Sum.inl (r.id : Int), rfl, e, by omega, k.mut hD (no_tab e nt_dK), ?_⟩⟩
      rw [upd_same, kvs_take wf hr hxi hlen]
    · rintro H2 ⟨k2, e2⟩
      rw [← hlen, List.take_length, hlen, List.take_length] at e2
      have hDH := hD
      refine while_by (fun σ H' => ∃ (n : Nat) (o4 o5 o6 o7 o8 : Option V), σ = [some (.ref a), some (.int (n : Int)), some (.str ev), some (.ref D), o4, o5, o6, o7, o8, none] ∧ Kp H H' ∧ H' D = some (.dK (kvs rows xs)) ∧ hand rows.reverse n ev = hand rows.reverse node ev)
        (fun σ _ => slotN σ 1) ⟨node, none, none, none, none, none, rfl, k2, e2, rfl⟩ ?_ ?_
      · rintro σ H3 ⟨n, o4, o5, o6, o7, o8, rfl, k3, e3, eh⟩
        rcases valV_kvs (rows := rows) (xs := xs) (n := n) hlen with ⟨h1, h2⟩ | ⟨i, r, x, h1, h2, h3, h4⟩
        · refine ⟨_, rfl, _, rfl, D, none, rfl, by rw [← h1]; exact DGet.k (k := Sum.inl (n : Int)) e3, _, rfl, iteF ?_⟩
          refine q _ H3 k3 ?_
          rw [← eh, hand_none h2]
          exact .non
        · refine ⟨_, rfl, _, rfl, D, some x, rfl, by rw [← h4]; exact DGet.k (k := Sum.inl (n : Int)) e3, _, rfl, iteT ?_⟩
          obtain ⟨d, hd1, hd2⟩ := hxs.get h2
          rw [List.getElem?_map, h1] at hd1
          cases hd1
          obtain ⟨p, t, ys, rfl, hp, ht, hy⟩ := row_inv (hd2.kb k3 .nil)
          have hra := wf.par r (List.mem_of_getElem? h1)
          have hat := hand_at wf (List.mem_of_getElem? h1) ev
          rw [h3] at hat
          refine ⟨_, rfl, _, rfl, D, .ref p, rfl, by rw [← h4]; exact DGet.k (k := Sum.inl (n : Int)) e3, p, _, rfl, hp, rfl, _, _, rfl, _, _, rfl, _, _, rfl, rfl, ?_⟩
          have hyl : ys.length = r.hs.length := by have := hy.length; rw [List.length_map] at this; exact this
          refine ⟨.ref t, rfl, t, rfl, ⟨ys, ht⟩, for_it walk_tup (fun j σ H' => ∃ o7 o8 : Option V, σ = [some (.ref a), some (.int (n : Int)), some (.str ev), some (.ref D), some (.int (r.id : Int)), some (.int (r.ar : Int)), some (.ref t), o7, o8, none] ∧ Kp H3 H' ∧ H' D = some (.dK (kvs rows xs)) ∧ ∀ h ∈ r.hs.take j, h.1 ≠ ev) ⟨_, _, rfl, Kb.refl _, e3, fun h hh => by simp at hh⟩ (fun i σ H' _ ⟨_, _, _, k, _⟩ => k.sqT .nil ht) ?_ ?_⟩
          · rintro j y σ _ H4 hj ⟨o7, o8, rfl, k4, e4, no⟩ ⟨rfl, hyj⟩
            obtain ⟨h, hh⟩ : ∃ h, r.hs[j]? = some h := ⟨r.hs[j], List.getElem?_eq_getElem (by omega)⟩
            obtain ⟨d, hd1, hd2⟩ := hy.get hyj
            rw [List.getElem?_map, hh] at hd1
            cases hd1
            obtain ⟨p', z, rfl, hp', hz⟩ := h_inv (hd2.kb k4 .nil)
            refine ⟨p', _, rfl, hp', rfl, _, _, rfl, _, _, rfl, rfl, _, rfl, _, rfl, rfl, _, rfl, ?_⟩
            by_cases he : V.str h.1 = V.str ev
            · rw [decide_eq_true he]
              refine iteT ⟨_, rfl, _, rfl, by show 2 ≤ sizeLine; decide, fun T hT => ?_⟩
              have kT : Kp H4 (upd H4 T (.tup [.int (n : Int), z])) := Kb.new hT
              refine q _ _ ((k3.trans k4).trans kT) ?_
              rw [← eh, hat, look_some hh (V.str.inj he) no]
              exact .tup (.inl (.inl upd_same)) (.cons (.int _) (.cons (hz.kb kT .nil) .nil))
            · rw [decide_eq_false he]
              refine iteF ⟨_, _, rfl, k4, e4, fun x hx => ?_⟩
              rw [List.take_add_one, hh] at hx
              rcases List.mem_append.mp hx with hx | hx
              · exact no x hx
              · cases List.mem_singleton.mp hx
                exact fun z => he (congrArg V.str z)
          · rintro σ H4 ⟨o7, o8, rfl, k4, e4, no⟩
            rw [hyl, List.take_length] at no
            refine ⟨_, rfl, ⟨r.ar, _, _, _, _, _, rfl, k3.trans k4, e4, ?_⟩, ?_⟩
            · rw [← eh, hat, look_none no]
              rfl
            · show ((r.ar : Int)).toNat < ((n : Int)).toNat
              omega
      · rintro σ H3 Q1 Q2 h ⟨x, e1, y, e2, d, o, e3, g, b, e4, q⟩
        exact ⟨x, e1, y, e2, d, o, e3, g, b, e4, h _ _ q⟩
theorem iteP {p : Prop} [Decidable p] {A B : Prop} (h : p) (q : A) : if decide p = true then A else B := by rw [if_pos (decide_eq_true h)]; exact q
theorem iteN {p : Prop} [Decidable p] {A B : Prop} (h : ¬ p) (q : B) : if decide p = true then A else B := by rw [if_neg (by simpa using h)]; exact q
/-- what is found among handlers -/
theorem flt_look (hs : List (PySem.Str × PyData)) (ev : PySem.Str) : look hs ev = ((hs.filter fun h => decide (h.1 = ev)).map (·.2)).head? := by
  induction hs with
  | nil => rfl
  | cons h hs ih =>
    unfold look at ih ⊢
    by_cases e : h.1 = ev
    · simp [e]
    · simpa [e] using ih
theorem c_law_handler (D : DefAt K mg "_law_handler" s_law_handler ["rows", "node", "event"]) (m_len : mg "len" = none) : Cal P w K mg base CX0 1 "_law_handler" ["rows", "node", "event"] (spHand K) := by
  refine D.cal (k := 0) sc_law_handler (fun vs H Q E h => ?_) fun f cdv A outer s H vs Q E hr h => ?_
  · obtain ⟨a, rows, node, ev, rfl, _⟩ := h
    rfl
  · obtain ⟨a, rows, node, ev, rfl, hd, wf, hl, hh9, q⟩ := h
    obtain ⟨_, xs, e, hx, hxs⟩ := tup_inv hd
    cases e
    have hlen : rows.length = xs.length := by have := hxs.length; rw [List.length_map] at this; exact this.symm
    refine ⟨_, (pss_cons (ps_for PassesOwn.never rfl (pi_tup (pe_revT (pv 0))) (pg_name (i := 3) sc_law_handler.nd rfl (Or.inl rfl)) (pss_one (ps_if (pt_cmpR op_eq (pe_ix ix_tup (pv 3) pe_int (fun _ _ => rfl)) (pv 1) (nomark _)) (pss_cons (ps_setLc (i := 4) rfl sc_law_handler.nd rfl rfl (sw_true rfl rfl rfl (by decide +kernel)) (pi_tup (pe_ix ix_tup (pv 3) pe_int (fun _ _ => rfl))) (blkOk_by (own := [("handler", 5)]) (N := ["rows", "node", "event", "row", "found", "handler"]) (sc := defScope s_law_handler) (by decide +kernel)) (fun _ _ _ _ _ => (pg_name (i := 5) sc_law_handler.nd rfl (Or.inl rfl))) (fun _ _ _ _ _ => (pts_one (pt_cmpR op_eq (pe_ix (ix_tupK (K := K) rfl) (pv 5) pe_int (fun _ _ => rfl)) (pv 2) (nomark _)))) (fun _ _ _ _ _ => (pe_ix (ix_tupK (K := K) rfl) (pv 5) pe_int (fun _ _ => rfl))))
  (pss_cons (ps_if (pt_cmpR op_gt (pe_callB call_len_seq (by rfl) m_len (by decide +kernel) (pa_cons (pv 4) pa_nil)) pe_int (nomark _)) (pss_one (ps_ret (pe_tup (pa_cons (pv 1) (pa_cons (pe_ix ix_list (pv 4) pe_int (fun _ _ => rfl)) pa_nil))))) pss_nil)
  (pss_one (ps_set (i := 1) sc_law_handler.nd rfl (Or.inl rfl) (pe_ix ix_tup (pv 3) pe_int (fun _ _ => rfl)))))) pss_nil)))
  (pss_one (ps_ret pe_non))), ?_⟩
    have sz : sizeLine = 16777216 := rfl
    refine ⟨.ref a, rfl, a, xs, rfl, hx, fun R o hR ho => ?_⟩
    have k1 : Kp H (upd H R (frzT o xs.reverse)) := Kb.new hR
    have hR1 : SqT K (upd H R (frzT o xs.reverse)) R xs.reverse := SqT.frz upd_same
    generalize upd H R (frzT o xs.reverse) = H1 at k1 hR1 ⊢
    refine ⟨R, rfl, ⟨_, hR1⟩, for_it walk_tup (fun i σ H' => ∃ (n : Nat) (o3 o4 : Option V), σ = [some (.ref a), some (.int (n : Int)), some (.str ev), o3, o4, none] ∧ Kp H1 H' ∧ hand (rows.reverse.drop i) n ev = hand rows.reverse node ev) ⟨node, _, _, rfl, Kb.refl _, rfl⟩ (fun i σ H' _ ⟨_, _, _, _, k, _⟩ => k.sqT .nil hR1) ?_ ?_⟩
    · rintro i x σ _ H2 hi ⟨n, o3, o4, rfl, k2, eh⟩ ⟨rfl, hxi⟩
      rw [List.length_reverse] at hi
      obtain ⟨r, hrr⟩ : ∃ r, rows.reverse[i]? = some r := ⟨rows.reverse[i]'(by rw [List.length_reverse]; omega), List.getElem?_eq_getElem _⟩
      have hix : xs[xs.length - 1 - i]? = some x := by rw [← hxi, List.getElem?_reverse (by omega)]
      have hir : rows[xs.length - 1 - i]? = some r := by rw [← hrr, List.getElem?_reverse (by omega), hlen]
      obtain ⟨d, hd1, hd2⟩ := hxs.get hix
      rw [List.getElem?_map, hir] at hd1
      cases hd1
      obtain ⟨p, t, ys, rfl, hp, ht, hy⟩ := row_inv (hd2.kb (k1.trans k2) .nil)
      rw [Lis.drop_cons hrr] at eh
      refine ⟨_, rfl, p, _, 0, _, rfl, rfl, hp, atI_nat (j := 0) rfl, _, rfl, rfl, _, rfl, ?_⟩
      by_cases he : V.int (r.id : Int) = V.int (n : Int)
      · rw [decide_eq_true he]
        have hen : r.id = n := by have := V.int.inj he; omega
        have eh2 : hand rows.reverse node ev = orL n (look r.hs ev) (hand (rows.reverse.drop (i + 1)) r.ar ev) := by
          rw [← eh]
          show (if r.id = n then _ else _) = _
          rw [if_pos hen]
        have hyl : ys.length = r.hs.length := by have := hy.length; rw [List.length_map] at this; exact this
        refine iteT ⟨.ref p, rfl, p, _, 2, _, rfl, rfl, hp, atI_nat (j := 2) rfl, t, rfl, ⟨ys, ht⟩, fun E hE => ?_⟩
        refine lc_it walk_tup (fun j H' => Kp H2 H' ∧ ∃ fs, H' E = some (.lst fs) ∧ DtAll K H' fs (((r.hs.take j).filter fun h => decide (h.1 = ev)).map (·.2)) ∧ fs.length ≤ j) ⟨Kb.new hE, [], upd_same, .nil, Nat.le_refl _⟩ (fun j H' _ h => h.1.sqT .nil ht) ?_ ?_
        · rintro j y _ H3 hj ⟨k3, fs, e3, d3, l3⟩ ⟨rfl, hyj⟩
          obtain ⟨h, hh⟩ : ∃ h, r.hs[j]? = some h := ⟨r.hs[j], List.getElem?_eq_getElem (by omega)⟩
          obtain ⟨d, hd1, hd3⟩ := hy.get hyj
          rw [List.getElem?_map, hh] at hd1
          cases hd1
          obtain ⟨p', z, rfl, hp', hz⟩ := h_inv (hd3.kb k3 .nil)
          have tk : r.hs.take (j + 1) = r.hs.take j ++ [h] := by rw [List.take_add_one, hh]; rfl
          rw [tk, List.filter_append, List.map_append]
          refine ⟨rfl, _, rfl, p', _, 0, _, rfl, rfl, hp', atI_nat (j := 0) rfl, _, rfl, rfl, _, rfl, ?_⟩
          have hyz := ht
          have hb := hx
          by_cases he2 : V.str h.1 = V.str ev
          · rw [decide_eq_true he2]
            have e5 := V.str.inj he2
            refine iteT ⟨_, rfl, p', _, 1, _, rfl, rfl, hp', atI_nat (j := 1) rfl, fs, e3, by have := hh9 r (List.mem_of_getElem? hir); omega, k3.mut hE (no_tab e3 nt_lst), fs ++ [z], upd_same, ?_, by simp; exact l3⟩
            rw [show ([h].filter fun h => decide (h.1 = ev)) = [h] by simp [e5]]
            exact (dts_lst e3 d3).snoc (dt_lst e3 hz)
          · rw [decide_eq_false he2]
            refine iteF ⟨k3, fs, e3, ?_, by omega⟩
            rw [show ([h].filter fun h => decide (h.1 = ev)) = [] by simp [show h.1 ≠ ev from fun z => he2 (congrArg V.str z)], List.map_nil, List.append_nil]
            exact d3
        · rintro H3 ⟨k3, fs, e3, d3, l3⟩
          rw [hyl, List.take_length] at d3
          refine ⟨_, rfl, E, fs, rfl, .inl (.inl (.inl e3)), _, 0, rfl, rfl, _, rfl, ?_⟩
          rw [flt_look] at eh2
          have k03 := (k1.trans k2).trans k3
          generalize ((r.hs.filter fun h => decide (h.1 = ev)).map (·.2)) = L at d3 eh2
          cases d3 with
          | nil => exact iteN (by simp) ⟨_, rfl, p, _, 1, _, rfl, rfl, k3.sqT .nil hp, atI_nat (j := 1) rfl, r.ar, _, _, rfl, k2.trans k3, eh2.symm⟩
          | @cons x1 r1 y1 s1 d4 d5 =>
            refine iteP (by simp) ⟨_, rfl, _, rfl, E, _, 0, _, rfl, rfl, .inl (.inl e3), atI_nat (j := 0) rfl, by show 2 ≤ sizeLine; decide, fun T hT => ?_⟩
            have kT : Kp H3 (upd H3 T (.tup [.int (n : Int), x1])) := Kb.new hT
            refine q _ _ (k03.trans kT) ?_
            rw [eh2]
            exact .tup (.inl (.inl upd_same)) (.cons (.int _) (.cons (d4.kb kT .nil) .nil))
      · rw [decide_eq_false he]
        refine iteF ⟨n, _, _, rfl, k2, ?_⟩
        rw [← eh]
        show _ = if r.id = n then _ else _
        rw [if_neg (fun z => he (by rw [z]))]
    · rintro σ H2 ⟨n, o3, o4, rfl, k2, eh⟩
      refine q _ H2 (k1.trans k2) ?_
      rw [← eh, List.drop_eq_nil_of_le (by rw [List.length_reverse, List.length_reverse]; omega)]
      exact .non
end
end Rd

namespace Rd
open PySem PySem.Spec PyProof.Rows L2 GxR Gx Gd Ev
abbrev s_law_same : Stmt := topS 6
theorem sc_law_same : FnScope ["actual", "due"] ["actual", "due"] (defScope s_law_same) := ⟨rfl, rfl, rfl, by decide +kernel, rfl, by decide +kernel, by decide +kernel⟩
abbrev s_law_rows : Stmt := topS 7
theorem sc_law_rows : FnScope ["box", "rows", "last", "k", "around", "handlers", "name", "value"] ["box"] (defScope s_law_rows) := ⟨rfl, rfl, rfl, by decide +kernel, rfl, by decide +kernel, by decide +kernel⟩
def spSame (K : PySem.W.Frag) : Sp := fun vs H Q _ => ∃ (x y : V) (d : PyData), vs = [x, y] ∧ Dt K H x d ∧ Dt K H y d ∧ Fit d ∧ ∀ H', Kp H H' → Q (.bl true) H'
def valD (k r : Nat) : PyData := match k with
  | 0 => .tuple [.str "int", .int r]
  | 1 => .tuple [.str "none"]
  | _ => .tuple [.str "map", .tuple [.tuple [.str "a", .tuple [.str "bool", .bool true]]]]
def shwB (k m : Nat) (d : PyData) : Bool := d.showable && !d.hasDict && decide (d.depth ≤ k) && decide (d.shown.length ≤ m)
theorem shw_of {k m : Nat} {d : PyData} (h : shwB k m d = true) : Shw k m d := by
  unfold shwB at h
  rw [Bool.and_eq_true, Bool.and_eq_true, Bool.and_eq_true, decide_eq_true_eq, decide_eq_true_eq, Bool.not_eq_true'] at h
  exact ⟨h.1.1.1, h.1.1.2, h.1.2, h.2⟩
theorem shw_val {k r : Nat} (h : r < 9) : Shw 6 200 (valD k r) := by
  match k with
  | 0 => exact shw_of ((by decide +kernel : ∀ r : Fin 9, shwB 6 200 (valD 0 r.val) = true) ⟨r, h⟩)
  | 1 => exact shw_of (d := .tuple [.str "none"]) (by decide +kernel)
  | _ + 2 => exact shw_of (d := .tuple [.str "map", .tuple [.tuple [.str "a", .tuple [.str "bool", .bool true]]]]) (by decide +kernel)
structure OkR (r : ERow) : Prop where
  id : r.id ≤ 1000
  ar : r.ar ≤ 1000
  len : r.hs.length ≤ 3
  hs : ∀ h ∈ r.hs, Shw 0 42 (.str h.1) ∧ Shw 8 400 h.2
theorem shw_pair {k m : Nat} {a b : PyData} (h1 : Shw k m a) (h2 : Shw k m b) : Shw (k + 1) ((m + 2) * 2 + 3) (.tuple [a, b]) := Shw.tuple fun x hx => by
  rcases List.mem_cons.mp hx with rfl | hx
  · exact h1
  · rw [List.mem_singleton.mp hx]; exact h2
theorem shw_row {r : ERow} (o : OkR r) : Shw 11 10000 (rowD r) := by
  have hh : ∀ d ∈ r.hs.map hD, Shw 9 1000 d := fun d hd => by
    obtain ⟨h, hm, rfl⟩ := List.mem_map.mp hd
    obtain ⟨h1, h2⟩ := o.hs h hm
    exact (shw_pair (h1.mono (by decide) (by decide)) h2).mono (by decide) (by decide)
  have h3 : Shw 10 3100 (.tuple (r.hs.map hD)) := (Shw.tuple hh).mono (Nat.le_refl _) (by rw [List.length_map]; have := o.len; omega)
  refine (Shw.tuple (k := 10) (m := 3100) (ds := [.int r.id, .int r.ar, .tuple (r.hs.map hD)]) fun x hx => ?_).mono (Nat.le_refl _) (show 3102 * 3 + 3 ≤ 10000 by decide)
  rcases List.mem_cons.mp hx with rfl | hx
  · exact (Shw.nat (by have := o.id; omega)).mono (by decide) (by decide)
  rcases List.mem_cons.mp hx with rfl | hx
  · exact (Shw.nat (by have := o.ar; omega)).mono (by decide) (by decide)
  · rw [List.mem_singleton.mp hx]; exact h3
theorem fit_rows {rows : List ERow} (h : ∀ r ∈ rows, OkR r) (hl : rows.length ≤ 13) : Fit (rowsD rows) := by
  refine ((Shw.tuple (k := 11) (m := 10000) (ds := rows.map rowD) fun x hx => ?_).mono (Nat.le_refl _) (show _ ≤ 200000 by rw [List.length_map]; omega)).fit
  obtain ⟨r, hr, rfl⟩ := List.mem_map.mp hx
  exact shw_row (h r hr)
theorem hand_of : ∀ {rows : List ERow} {n : Nat} {ev : PySem.Str} {m : Nat} {e : PyData}, hand rows n ev = some (m, e) → ∃ r ∈ rows, r.id = m ∧ ∃ h ∈ r.hs, e = h.2
  | [], _, _, _, _, h => by cases h
  | r :: rows, n, ev, m, e, h => by
    have h : (if r.id = n then orL n (look r.hs ev) (hand rows r.ar ev) else hand rows n ev) = some (m, e) := h
    split at h
    · rename_i q
      cases hk : look r.hs ev with
      | some z =>
        rw [hk] at h
        cases h
        unfold look at hk
        obtain ⟨x, hx, rfl⟩ := Option.map_eq_some_iff.mp hk
        exact ⟨r, List.mem_cons_self, q, x, List.mem_of_find?_eq_some hx, rfl⟩
      | none =>
        rw [hk] at h
        obtain ⟨s, hs, t⟩ := hand_of (rows := rows) (show hand rows r.ar ev = some (m, e) from h)
        exact ⟨s, List.mem_cons_of_mem _ hs, t⟩
    · obtain ⟨s, hs, t⟩ := hand_of h
      exact ⟨s, List.mem_cons_of_mem _ hs, t⟩
theorem fit_res {rows : List ERow} (h : ∀ r ∈ rows, OkR r) (n : Nat) (ev : PySem.Str) : Fit (resD (hand rows.reverse n ev)) := by
  cases e : hand rows.reverse n ev with
  | none => exact Shw.non.fit
  | some p =>
    obtain ⟨m, x⟩ := p
    obtain ⟨r, hr, rfl, z, hz, rfl⟩ := hand_of e
    have o := h r (List.mem_reverse.mp hr)
    exact (shw_pair ((Shw.nat (by have := o.id; omega)).mono (show 0 ≤ 8 by decide) (show 9 ≤ 400 by decide)) (o.hs z hz).2).fit
/-- what stands while a row is made -/
structure Mid (K : PySem.W.Frag) (bx d : Addr) (H : Hp) (R G Ln : Addr) (vs ws ls : List V) (ds es : List PyData) (H' : Hp) : Prop where
  a : Aft bx d H H'
  r : H' R = some (.lst vs)
  dr : DtAll K H' vs ds
  g : H' G = some (.lst ws)
  dg : DtAll K H' ws es
  l : H' Ln = some (.lst ls)
theorem Mid.aft {K : PySem.W.Frag} {bx d : Addr} {H H' H2 : Hp} {R G Ln : Addr} {vs ws ls : List V} {ds es : List PyData} (m : Mid K bx d H R G Ln vs ws ls ds es H') (n : R ≠ bx ∧ G ≠ bx ∧ Ln ≠ bx) (k : Aft bx d H' H2) : Mid K bx d H R G Ln vs ws ls ds es H2 :=
  ⟨m.a.trans k, k.lst m.r n.1, DtAll.kb k.1 m.a.2.lsts m.dr, k.lst m.g n.2.1, DtAll.kb k.1 m.a.2.lsts m.dg, k.lst m.l n.2.2⟩
theorem Mid.put {K : PySem.W.Frag} {bx d : Addr} {H H' : Hp} {R G Ln : Addr} {vs ws ls : List V} {ds es : List PyData} {v : V} {e : PyData} (m : Mid K bx d H R G Ln vs ws ls ds es H') (b : Box bx d H) (hG : H G = none) (hr : R ≠ G) (hl : Ln ≠ G) (h : Dt K H' v e) :
    Mid K bx d H R G Ln vs (ws ++ [v]) ls ds (es ++ [e]) (upd H' G (.lst (ws ++ [v]))) :=
  ⟨m.a.mut hG b m.g nt_lst, by rw [upd_ne hr]; exact m.r, dts_lst m.g m.dr, upd_same, (dts_lst m.g m.dg).snoc (dt_lst m.g h), by rw [upd_ne hl]; exact m.l⟩
def OkH (h : PySem.Str × PyData) : Prop := Shw 0 42 (.str h.1) ∧ Shw 8 400 h.2
def spRows (K : PySem.W.Frag) : Sp := fun vs H Q _ => ∃ (bx d : Addr), vs = [.ref bx] ∧ Box bx d H ∧ ∀ a H' rows, Aft bx d H H' → Dt K H' (.ref a) (rowsD rows) → Wf rows → rows.length ≤ 12 → (∀ r ∈ rows, OkR r) → Q (.ref a) H'
section
variable {P : Program} {w : World} {K : PySem.W.Frag} {mg : PySem.Str → Option Value} {base : Heap}
theorem c_law_same (D : DefAt K mg "_law_same" s_law_same ["actual", "due"]) (m_repr : mg "repr" = none) : Cal P w K mg base CX0 1 "_law_same" ["actual", "due"] (spSame K) := by
  refine D.cal (k := 0) sc_law_same (fun vs H Q E h => ?_) fun f cdv A outer s H vs Q E hr h => ?_
  · obtain ⟨x, y, d, rfl, _⟩ := h
    rfl
  · obtain ⟨x, y, d, rfl, hx, hy, ⟨s1, s2, s3, s4⟩, q⟩ := h
    refine ⟨_, (pss_one (ps_ret (pe_cmpR op_eq (pe_callB (call_reprR hr) (by rfl) m_repr (by decide +kernel) (pa_cons (pv 0) pa_nil)) (pe_callB (call_reprR hr) (by rfl) m_repr (by decide +kernel) (pa_cons (pv 1) pa_nil)) (nomark _)))), ?_⟩
    refine ⟨_, rfl, x, d, rfl, hx.dp, s1, s2, s3, s4, _, rfl, y, d, rfl, hy.dp, s1, s2, s3, s4, rfl, ?_⟩
    rw [decide_eq_true rfl]
    exact q _ (Kb.refl _)
theorem c_law_rows (D : DefAt K mg "_law_rows" s_law_rows ["box"]) (m_range : mg "range" = none) (m_len : mg "len" = none) (m_int : mg "int" = none) (m_tuple : mg "tuple" = none)
    (c__law_draw : Cal P w K mg base CX0 1 "_law_draw" ["box", "many"] spDraw) : Cal P w K mg base CX0 2 "_law_rows" ["box"] (spRows K) := by
  refine D.cal (k := 1) sc_law_rows (fun vs H Q E h => ?_) fun f cdv A outer s H vs Q E hr h => ?_
  · obtain ⟨bx, d, rfl, _⟩ := h
    rfl
  · obtain ⟨bx, d, rfl, b, q⟩ := h
    refine ⟨_, (pss_cons (ps_set (i := 1) sc_law_rows.nd rfl (Or.inl rfl) (pe_lst pa_nil))
  (pss_cons (ps_set (i := 2) sc_law_rows.nd rfl (Or.inl rfl) pe_int)
  (pss_cons (ps_for PassesOwn.never rfl (pi_range1 (by rfl) m_range (pa_cons (pe_cal (c__law_draw.mono (by omega)) hr (by rfl) (pa_cons (pv 0) (pa_cons pe_int pa_nil))) pa_nil)) (pg_name (i := 3) sc_law_rows.nd rfl (Or.inl rfl)) (pss_cons (ps_set (i := 2) sc_law_rows.nd rfl (Or.inl rfl) (pe_op op_add (pe_op op_add (pv 2) pe_int) (pe_cal (c__law_draw.mono (by omega)) hr (by rfl) (pa_cons (pv 0) (pa_cons pe_int pa_nil)))))
  (pss_cons (ps_set (i := 4) sc_law_rows.nd rfl (Or.inl rfl) pe_int)
  (pss_cons (ps_if (PW.pt (pw_and (pt_cmpR op_gt (pe_callB call_len_seq (by rfl) m_len (by decide +kernel) (pa_cons (pv 1) pa_nil)) pe_int (nomark _)) (pw_and1 (pt_cmpR op_gt (pe_cal (c__law_draw.mono (by omega)) hr (by rfl) (pa_cons (pv 0) (pa_cons pe_int pa_nil))) pe_int (nomark _))))) (pss_one (ps_set (i := 4) sc_law_rows.nd rfl (Or.inl rfl) (pe_ix ix_tup (pe_ix ix_list (pv 1) (pe_op op_mod (pe_callTy call_int1 (by rfl) m_int (by decide +kernel) (pa_cons (pe_cal (c__law_draw.mono (by omega)) hr (by rfl) (pa_cons (pv 0) (pa_cons pe_int pa_nil))) pa_nil)) (pe_callB call_len_seq (by rfl) m_len (by decide +kernel) (pa_cons (pv 1) pa_nil))) (fun _ _ => rfl)) pe_int (fun _ _ => rfl)))) pss_nil)
  (pss_cons (ps_set (i := 5) sc_law_rows.nd rfl (Or.inl rfl) (pe_lst pa_nil))
  (pss_cons (ps_for PassesOwn.never rfl (pi_list (pe_lst (pa_cons pe_str (pa_cons pe_str (pa_cons pe_str pa_nil))))) (pg_name (i := 6) sc_law_rows.nd rfl (Or.inl rfl)) (pss_one (ps_if (pt_cmpR op_eq (pe_cal (c__law_draw.mono (by omega)) hr (by rfl) (pa_cons (pv 0) (pa_cons pe_int pa_nil))) pe_int (nomark _)) (pss_cons (ps_set (i := 7) sc_law_rows.nd rfl (Or.inl rfl) (pe_ix ix_list (pe_lst (pa_cons (pe_tup (pa_cons pe_str (pa_cons (pe_cal (c__law_draw.mono (by omega)) hr (by rfl) (pa_cons (pv 0) (pa_cons pe_int pa_nil))) pa_nil))) (pa_cons (pe_tup (pa_cons pe_str pa_nil)) (pa_cons (pe_tup (pa_cons pe_str (pa_cons (pe_tup (pa_cons (pe_tup (pa_cons pe_str (pa_cons (pe_tup (pa_cons pe_str (pa_cons pe_bl pa_nil))) pa_nil))) pa_nil)) pa_nil))) pa_nil)))) (pe_cal (c__law_draw.mono (by omega)) hr (by rfl) (pa_cons (pv 0) (pa_cons pe_int pa_nil))) (fun _ _ => rfl)))
  (pss_one (ps_expr (pe_bm PySem.F.plainAttrs_list PySem.F.slot_list_append PySem.F.type_list_append mt_append (pv 5) (pa_cons (pe_tup (pa_cons (pv 6) (pa_cons (pe_slice sl_tupF (pe_tup (pa_cons (pv 7) pa_nil)) po_none (po_some (pe_cal (c__law_draw.mono (by omega)) hr (by rfl) (pa_cons (pv 0) (pa_cons pe_int pa_nil))))) pa_nil))) pa_nil))))) pss_nil)))
  (pss_one (ps_expr (pe_bm PySem.F.plainAttrs_list PySem.F.slot_list_append PySem.F.type_list_append mt_append (pv 1) (pa_cons (pe_tup (pa_cons (pv 2) (pa_cons (pv 4) (pa_cons (pe_callTy call_tuple_of (by rfl) m_tuple (by decide +kernel) (pa_cons (pv 5) pa_nil)) pa_nil)))) pa_nil))))))))))
  (pss_one (ps_ret (pe_callTy call_tuple_of (by rfl) m_tuple (by decide +kernel) (pa_cons (pv 1) pa_nil))))))), ?_⟩
    have sz : sizeLine = 16777216 := rfl
    refine ⟨by show 0 ≤ sizeLine; decide, fun R hR => ?_⟩
    have a1 : Aft bx d H (upd H R (.lst [])) := .new b hR
    have e1 : (upd H R (.lst [])) R = some (.lst []) := upd_same
    have nR := b.new hR
    generalize upd H R (.lst []) = H1 at a1 e1 ⊢
    refine ⟨.ref bx, rfl, bx, d, 13, rfl, by decide, a1.2, fun H2 r2 a2 g2 l2 => ⟨r2, rfl, by omega, by omega, ?_⟩⟩
    obtain ⟨n2, rfl⟩ : ∃ n : Nat, r2 = n := ⟨r2.toNat, by omega⟩
    have e2 := a2.lst e1 nR.1
    refine for_it walk_range (fun i σ H' => ∃ (vs : List V) (rs : List ERow) (last : Nat) (o3 o4 o5 o6 o7 : Option V), σ = [some (.ref bx), some (.ref R), some (.int (last : Int)), o3, o4, o5, o6, o7] ∧ Aft bx d H H' ∧ H' R = some (.lst vs) ∧ DtAll K H' vs (rs.map rowD) ∧ Wf rs ∧ (∀ r ∈ rs, r.id ≤ last) ∧ last ≤ 4 + 3 * i ∧ rs.length ≤ i ∧ (∀ r ∈ rs, OkR r)) ⟨[], [], 4, none, none, none, none, none, rfl, a1.trans a2, e2, .nil, ⟨.nil, fun _ h => by cases h⟩, (fun _ h => by cases h), by omega, by simp, fun _ h => by cases h⟩ (fun _ _ _ _ _ => trivial) ?_ ?_
    · rintro i x σ _ H3 hi ⟨vs, rs, last, o3, o4, o5, o6, o7, rfl, a3, e3, d3, wf, hle, hla, hln, ok⟩ ⟨rfl, hx⟩
      have hi' : i < 13 := by omega
      refine asg_gen (fun v H' => ∃ last' : Nat, v = .int (last' : Int) ∧ last < last' ∧ last' ≤ 4 + 3 * (i + 1) ∧ Aft bx d H H' ∧ H' R = some (.lst vs) ∧ DtAll K H' vs (rs.map rowD)) (fun N hN => ?_) ?_
      · refine ⟨_, rfl, _, _, rfl, rfl, .ref bx, rfl, bx, d, 3, rfl, by decide, a3.2, fun H4 r4 a4 g4 l4 => ⟨_, _, rfl, rfl, ?_⟩⟩
        obtain ⟨n4, rfl⟩ : ∃ n : Nat, r4 = n := ⟨r4.toNat, by omega⟩
        exact hN _ _ ⟨last + 1 + n4, by show V.int _ = V.int _; congr 1, by omega, by omega, a3.trans a4, a4.lst e3 nR.1, DtAll.kb a4.1 a3.2.lsts d3⟩
      rintro v H4 ⟨last', rfl, hlt, hl2, a4, e4, d4⟩
      refine seq_c (seq_c ?_)
      refine seq_gen (fun σ' H' => ∃ ar : Nat, ar ≤ last ∧ σ' = [some (.ref bx), some (.ref R), some (.int (last' : Int)), some x, some (.int (ar : Int)), o5, o6, o7] ∧ Aft bx d H H' ∧ H' R = some (.lst vs) ∧ DtAll K H' vs (rs.map rowD)) (fun N hN => ?_) ?_
      · have vl := d4.length
        rw [List.length_map] at vl
        refine ⟨_, rfl, R, vs, rfl, .inl (.inl (.inl e4)), _, 0, rfl, rfl, _, rfl, ?_⟩
        by_cases hc : ((vs.length : Nat) : Int) > 0
        · refine iteP hc ⟨.ref bx, rfl, bx, d, 5, rfl, by decide, a4.2, fun H5 r5 a5 g5 l5 => ⟨_, _, rfl, rfl, _, rfl, ?_⟩⟩
          have e5 := a5.lst e4 nR.1
          have d5 := DtAll.kb a5.1 a4.2.lsts d4
          have a5 := a4.trans a5
          by_cases hc2 : r5 > 0
          · refine iteP hc2 ⟨_, rfl, .ref bx, rfl, bx, d, 90, rfl, by decide, a5.2, fun H6 r6 a6 g6 l6 => .inl ⟨_, rfl, _, rfl, R, vs, rfl, ?_⟩⟩
            have e6 := a6.lst e5 nR.1
            have d6 := DtAll.kb a6.1 a5.2.lsts d5
            have a6 := a5.trans a6
            refine ⟨.inl (.inl (.inl e6)), _, _, rfl, rfl, by omega, ?_⟩
            dsimp only
            have g1 := Int.emod_nonneg r6 (show (vs.length : Int) ≠ 0 by omega)
            have g2 := Int.emod_lt_of_pos r6 (show (0 : Int) < (vs.length : Int) by omega)
            generalize r6 % (vs.length : Int) = o at g1 g2 ⊢
            obtain ⟨k, rfl⟩ : ∃ k : Nat, o = k := ⟨o.toNat, by omega⟩
            obtain ⟨r, hr⟩ : ∃ r, rs[k]? = some r := ⟨rs[k], List.getElem?_eq_getElem (by omega)⟩
            obtain ⟨v, hv, dv⟩ := d6.at (i := k) (d := rowD r) (by rw [List.getElem?_map, hr]; rfl)
            obtain ⟨p, t, ys, rfl, hp, _⟩ := row_inv dv
            exact ⟨R, vs, k, .ref p, rfl, rfl, .inl (.inl e6), atI_nat hv, p, _, 0, _, rfl, rfl, hp, atI_nat (j := 0) rfl, hN _ _ ⟨r.id, hle r (List.mem_of_getElem? hr), rfl, a6, e6, d6⟩⟩
          · exact iteN hc2 (hN _ _ ⟨0, by omega, rfl, a5, e5, d5⟩)
        · exact iteN hc (hN _ _ ⟨0, by omega, rfl, a4, e4, d4⟩)
      · rintro σ' H5 ⟨ar, har, rfl, a5, e5, d5⟩
        refine ⟨by show 0 ≤ sizeLine; decide, fun G hG => ?_⟩
        have nG := a5.2.new hG
        have hG0 := a5.1.free G hG
        have hRG : R ≠ G := ne_of_none e5 hG
        have kG : Kp H5 (upd H5 G (.lst [])) := Kb.new hG
        have a6 : Aft bx d H (upd H5 G (.lst [])) := a5.trans (.new a5.2 hG)
        have e6 : (upd H5 G (.lst [])) R = some (.lst vs) := by rw [upd_ne hRG]; exact e5
        have g6 : (upd H5 G (.lst [])) G = some (.lst []) := upd_same
        have d6 := DtAll.kb kG .nil d5
        generalize upd H5 G (.lst []) = H6 at a6 e6 g6 d6 ⊢
        refine gset ?_
        with_reducible refine seq_gen (fun σ' H' => ∃ (Ln : Addr) (ws ls : List V) (hs : List (PySem.Str × PyData)) (o6 o7 : Option V), σ' = [some (.ref bx), some (.ref R), some (.int (last' : Int)), some x, some (.int (ar : Int)), some (.ref G), o6, o7] ∧ Mid K bx d H R G Ln vs ws ls (rs.map rowD) (hs.map hD) H' ∧ hs.length ≤ 3 ∧ ∀ h ∈ hs, OkH h) (fun N hN => ?_) ?_
        · refine ⟨by show 3 ≤ sizeLine; decide, fun Ln hLn => ?_⟩
          have nL := a6.2.new hLn
          have hGL : Ln ≠ G := (ne_of_none g6 hLn).symm
          have kL : Kp H6 (upd H6 Ln (.lst [.str (Str.ofString "go"), .str (Str.ofString "buy"), .str (Str.ofString "end")])) := Kb.new hLn
          have m7 : Mid K bx d H R G Ln vs [] [.str (Str.ofString "go"), .str (Str.ofString "buy"), .str (Str.ofString "end")] (rs.map rowD) [] (upd H6 Ln (.lst [.str (Str.ofString "go"), .str (Str.ofString "buy"), .str (Str.ofString "end")])) :=
            ⟨a6.trans (.new a6.2 hLn), by rw [upd_ne (ne_of_none e6 hLn)]; exact e6, DtAll.kb kL .nil d6, by rw [upd_ne (ne_of_none g6 hLn)]; exact g6, .nil, upd_same⟩
          generalize upd H6 Ln (.lst [.str (Str.ofString "go"), .str (Str.ofString "buy"), .str (Str.ofString "end")]) = H7 at m7 ⊢
          have nn : R ≠ bx ∧ G ≠ bx ∧ Ln ≠ bx := ⟨nR.1, nG.1, nL.1⟩
          refine ⟨Ln, rfl, ⟨_, .inl (.inl m7.l)⟩, for_it walk_list (fun j σ' H' => ∃ (ws : List V) (hs : List (PySem.Str × PyData)) (o6 o7 : Option V), σ' = [some (.ref bx), some (.ref R), some (.int (last' : Int)), some x, some (.int (ar : Int)), some (.ref G), o6, o7] ∧ Mid K bx d H R G Ln vs ws [.str (Str.ofString "go"), .str (Str.ofString "buy"), .str (Str.ofString "end")] (rs.map rowD) (hs.map hD) H' ∧ hs.length ≤ j ∧ ∀ h ∈ hs, OkH h)
            ⟨[], [], _, _, rfl, m7, Nat.le_refl _, fun _ h => by cases h⟩ (fun _ _ _ _ ⟨_, _, _, _, _, m, _⟩ => .inl (.inl m.l)) ?_ ?_⟩
          · rintro j y σ' _ H8 hj ⟨ws, hs, o6, o7, rfl, m8, l8, ok8⟩ ⟨rfl, hy⟩
            obtain ⟨nm, rfl, hnm⟩ : ∃ nm, y = .str nm ∧ Shw 0 42 (.str nm) := by
              match j, hj with
              | 0, _ => cases hy; exact ⟨_, rfl, shw_of (by decide +kernel)⟩
              | 1, _ => cases hy; exact ⟨_, rfl, shw_of (by decide +kernel)⟩
              | 2, _ => cases hy; exact ⟨_, rfl, shw_of (by decide +kernel)⟩
            refine ⟨.ref bx, rfl, bx, d, 4, rfl, by decide, m8.a.2, fun H9 r9 a9 g9 l9 => ⟨rfl, _, rfl, ?_⟩⟩
            have m9 := m8.aft nn a9
            by_cases hc : V.int r9 = V.int 0
            · refine iteP hc ?_
              refine asg_gen (fun v H' => ∃ k r, r < 9 ∧ Dt K H' v (valD k r) ∧ Mid K bx d H R G Ln vs ws [.str (Str.ofString "go"), .str (Str.ofString "buy"), .str (Str.ofString "end")] (rs.map rowD) (hs.map hD) H') (fun N hN => ?_) ?_
              · refine ⟨.ref bx, rfl, bx, d, 9, rfl, by decide, m9.a.2, fun H10 r10 a10 g10 l10 => ⟨by show 2 ≤ sizeLine; decide, fun p1 h1 => ?_⟩⟩
                have m10 := m9.aft nn a10
                obtain ⟨n10, rfl⟩ : ∃ n : Nat, r10 = n := ⟨r10.toNat, by omega⟩
                have x1 : Aft bx d H10 (upd H10 p1 (.tup [.str (Str.ofString "int"), .int (n10 : Int)])) := .new m10.a.2 h1
                have t1 : Dt K (upd H10 p1 (.tup [.str (Str.ofString "int"), .int (n10 : Int)])) (.ref p1) (valD 0 n10) := .tup (.inl (.inl upd_same)) (.cons (.str _) (.cons (.int _) .nil))
                have m11 := m10.aft nn x1
                generalize upd H10 p1 (.tup [.str (Str.ofString "int"), .int (n10 : Int)]) = H11 at m11 t1 ⊢
                refine ⟨by show 1 ≤ sizeLine; decide, fun p2 h2 => ?_⟩
                have x2 : Aft bx d H11 (upd H11 p2 (.tup [.str (Str.ofString "none")])) := .new m11.a.2 h2
                have t2 : Dt K (upd H11 p2 (.tup [.str (Str.ofString "none")])) (.ref p2) (valD 1 n10) := .tup (.inl (.inl upd_same)) (.cons (.str _) .nil)
                have m12 := m11.aft nn x2
                have t1 := x2.dt m11.a.2 t1
                generalize upd H11 p2 (.tup [.str (Str.ofString "none")]) = H12 at m12 t1 t2 ⊢
                refine ⟨by show 2 ≤ sizeLine; decide, fun p3 h3 => ?_⟩
                have x3 : Aft bx d H12 (upd H12 p3 (.tup [.str (Str.ofString "bool"), .bl true])) := .new m12.a.2 h3
                have t3 : Dt K (upd H12 p3 (.tup [.str (Str.ofString "bool"), .bl true])) (.ref p3) (.tuple [.str (Str.ofString "bool"), .bool true]) := .tup (.inl (.inl upd_same)) (.cons (.str _) (.cons (.bl _) .nil))
                have m13 := m12.aft nn x3
                have t1 := x3.dt m12.a.2 t1
                have t2 := x3.dt m12.a.2 t2
                generalize upd H12 p3 (.tup [.str (Str.ofString "bool"), .bl true]) = H13 at m13 t1 t2 t3 ⊢
                refine ⟨by show 2 ≤ sizeLine; decide, fun p4 h4 => ?_⟩
                have x4 : Aft bx d H13 (upd H13 p4 (.tup [.str (Str.ofString "a"), .ref p3])) := .new m13.a.2 h4
                have t3 := x4.dt m13.a.2 t3
                have t4 : Dt K (upd H13 p4 (.tup [.str (Str.ofString "a"), .ref p3])) (.ref p4) (.tuple [.str (Str.ofString "a"), .tuple [.str (Str.ofString "bool"), .bool true]]) := .tup (.inl (.inl upd_same)) (.cons (.str _) (.cons t3 .nil))
                have m14 := m13.aft nn x4
                have t1 := x4.dt m13.a.2 t1
                have t2 := x4.dt m13.a.2 t2
                generalize upd H13 p4 (.tup [.str (Str.ofString "a"), .ref p3]) = H14 at m14 t1 t2 t4 ⊢
                refine ⟨by show 1 ≤ sizeLine; decide, fun p5 h5 => ?_⟩
                have x5 : Aft bx d H14 (upd H14 p5 (.tup [.ref p4])) := .new m14.a.2 h5
                have t4 := x5.dt m14.a.2 t4
                have t5 : Dt K (upd H14 p5 (.tup [.ref p4])) (.ref p5) (.tuple [.tuple [.str (Str.ofString "a"), .tuple [.str (Str.ofString "bool"), .bool true]]]) := .tup (.inl (.inl upd_same)) (.cons t4 .nil)
                have m15 := m14.aft nn x5
                have t1 := x5.dt m14.a.2 t1
                have t2 := x5.dt m14.a.2 t2
                generalize upd H14 p5 (.tup [.ref p4]) = H15 at m15 t1 t2 t5 ⊢
                refine ⟨by show 2 ≤ sizeLine; decide, fun p6 h6 => ?_⟩
                have x6 : Aft bx d H15 (upd H15 p6 (.tup [.str (Str.ofString "map"), .ref p5])) := .new m15.a.2 h6
                have t5 := x6.dt m15.a.2 t5
                have t6 : Dt K (upd H15 p6 (.tup [.str (Str.ofString "map"), .ref p5])) (.ref p6) (valD 2 n10) := .tup (.inl (.inl upd_same)) (.cons (.str _) (.cons t5 .nil))
                have m16 := m15.aft nn x6
                have t1 := x6.dt m15.a.2 t1
                have t2 := x6.dt m15.a.2 t2
                generalize upd H15 p6 (.tup [.str (Str.ofString "map"), .ref p5]) = H16 at m16 t1 t2 t6 ⊢
                refine ⟨by show 3 ≤ sizeLine; decide, fun p7 h7 => ?_⟩
                have n7 := m16.a.2.new h7
                have x7 : Aft bx d H16 (upd H16 p7 (.lst [.ref p1, .ref p2, .ref p6])) := .new m16.a.2 h7
                have q7 : (upd H16 p7 (.lst [.ref p1, .ref p2, .ref p6])) p7 = some (.lst [.ref p1, .ref p2, .ref p6]) := upd_same
                have m17 := m16.aft nn x7
                have t1 := x7.dt m16.a.2 t1
                have t2 := x7.dt m16.a.2 t2
                have t6 := x7.dt m16.a.2 t6
                generalize upd H16 p7 (.lst [.ref p1, .ref p2, .ref p6]) = H17 at m17 t1 t2 t6 q7 ⊢
                refine ⟨.ref bx, rfl, bx, d, 3, rfl, by decide, m17.a.2, fun H18 r18 a18 g18 l18 => ?_⟩
                have m18 := m17.aft nn a18
                have t1 := a18.dt m17.a.2 t1
                have t2 := a18.dt m17.a.2 t2
                have t6 := a18.dt m17.a.2 t6
                have q8 := a18.lst q7 n7.1
                have : r18 = 0 ∨ r18 = 1 ∨ r18 = 2 := by omega
                rcases this with rfl | rfl | rfl
                · exact ⟨p7, _, 0, _, rfl, rfl, .inl (.inl q8), atI_nat (j := 0) rfl, hN _ _ ⟨0, n10, by omega, t1, m18⟩⟩
                · exact ⟨p7, _, 1, _, rfl, rfl, .inl (.inl q8), atI_nat (j := 1) rfl, hN _ _ ⟨1, n10, by omega, t2, m18⟩⟩
                · exact ⟨p7, _, 2, _, rfl, rfl, .inl (.inl q8), atI_nat (j := 2) rfl, hN _ _ ⟨2, n10, by omega, t6, m18⟩⟩
              · rintro v H10 ⟨k, r, hr9, tv, m10⟩
                refine ⟨.ref G, rfl, .inl ⟨rfl, _, .inl (.inl m10.g)⟩, _, rfl, _, rfl, by show 1 ≤ sizeLine; decide, fun p1 h1 => ?_⟩
                have x1 : Aft bx d H10 (upd H10 p1 (.tup [v])) := .new m10.a.2 h1
                have t1 : SqT K (upd H10 p1 (.tup [v])) p1 [v] := .inl (.inl upd_same)
                have m11 := m10.aft nn x1
                have tv := x1.dt m10.a.2 tv
                generalize upd H10 p1 (.tup [v]) = H11 at m11 t1 tv ⊢
                refine ⟨.ref bx, rfl, bx, d, 2, rfl, by decide, m11.a.2, fun H12 r12 a12 g12 l12 => ?_⟩
                have m12 := m11.aft nn a12
                have tv := a12.dt m11.a.2 tv
                have t1 := a12.1.sqT m11.a.2.lsts t1
                have done : ∀ (u : V) (e : PyData) (H' : Hp) (T : Addr), Dt K H' u e → Mid K bx d H R G Ln vs ws [.str (Str.ofString "go"), .str (Str.ofString "buy"), .str (Str.ofString "end")] (rs.map rowD) (hs.map hD) H' → H' T = none →
                    (upd H' T (.tup [.str nm, u])) G = some (.lst ws) ∧ ws.length < sizeLine ∧ Mid K bx d H R G Ln vs (ws ++ [.ref T]) [.str (Str.ofString "go"), .str (Str.ofString "buy"), .str (Str.ofString "end")] (rs.map rowD) ((hs ++ [(nm, e)]).map hD) (upd (upd H' T (.tup [.str nm, u])) G (.lst (ws ++ [.ref T]))) := fun u e H' T hu m hT => by
                  have kT : Kp H' (upd H' T (.tup [.str nm, u])) := Kb.new hT
                  have mT := m.aft nn (Aft.of m.a.2 kT)
                  have wl := m.dg.length
                  rw [List.length_map] at wl
                  have hj3 : j < 3 := hj
                  refine ⟨mT.g, by omega, ?_⟩
                  rw [List.map_append]
                  exact mT.put b hG0 hRG hGL (.tup (.inl (.inl upd_same)) (.cons (.str _) (.cons (hu.kb kT .nil) .nil)))
                have okn : ∀ e, Shw 8 400 e → (hs ++ [(nm, e)]).length ≤ j + 1 ∧ ∀ h ∈ hs ++ [(nm, e)], OkH h := fun e he => ⟨by rw [List.length_append]; simp; exact l8, fun h hh => by
                  rcases List.mem_append.mp hh with hh | hh
                  · exact ok8 h hh
                  · rw [List.mem_singleton.mp hh]; exact ⟨hnm, he⟩⟩
                have : r12 = 0 ∨ r12 = 1 := by omega
                rcases this with rfl | rfl
                · refine ⟨_, rfl, p1, [v], rfl, t1, fun z => absurd z.2 (show ¬ HT.sIx 1 1 (some 0) = 1 by decide), fun _ p o hp ho => ⟨by show 2 ≤ sizeLine; decide, fun T hT => ?_⟩⟩
                  have x13 : Aft bx d H12 (upd H12 p (frzT o [])) := .new m12.a.2 hp
                  have t13 : Dt K (upd H12 p (frzT o [])) (.ref p) (.tuple []) := .tup (SqT.frz upd_same) .nil
                  obtain ⟨q1, q2, q3⟩ := done (.ref p) (.tuple []) _ T t13 (m12.aft nn x13) hT
                  exact ⟨G, ws, _, rfl, rfl, q1, q2, ws ++ [.ref T], _, _, _, rfl, q3, (okn _ (shw_of (by decide +kernel))).1, (okn _ (shw_of (by decide +kernel))).2⟩
                · refine ⟨_, rfl, p1, [v], rfl, t1, fun _ => ⟨by show 2 ≤ sizeLine; decide, fun T hT => ?_⟩, fun z => absurd ⟨rfl, rfl⟩ z⟩
                  obtain ⟨q1, q2, q3⟩ := done (.ref p1) (.tuple [valD k r]) _ T (.tup t1 (.cons tv .nil)) m12 hT
                  have he : Shw 8 400 (.tuple [valD k r]) := (Shw.tuple (k := 6) (m := 200) fun x hx => by rw [List.mem_singleton.mp hx]; exact shw_val hr9).mono (by decide) (show 202 * 1 + 3 ≤ 400 by decide)
                  exact ⟨G, ws, _, rfl, rfl, q1, q2, ws ++ [.ref T], _, _, _, rfl, q3, (okn _ he).1, (okn _ he).2⟩
            · exact iteN hc ⟨ws, hs, _, _, rfl, m9, by omega, ok8⟩
          · rintro σ' H8 ⟨ws, hs, o6, o7, rfl, m8, l8, ok8⟩
            exact hN _ _ ⟨Ln, ws, _, hs, _, _, rfl, m8, l8, ok8⟩
        · rintro σ' H7 ⟨Ln, ws, ls, hs, o6, o7, rfl, m7, l7, ok7⟩
          refine ⟨.ref R, rfl, .inl ⟨rfl, _, .inl (.inl m7.r)⟩, _, rfl, _, rfl, _, rfl, G, ws, rfl, .inl ⟨.inl (.inl m7.g), fun T hT => ⟨by show 3 ≤ sizeLine; decide, fun T2 hT2 => ?_⟩⟩⟩
          have k1 : Kp H7 (upd H7 T (.tup ws)) := Kb.new hT
          have t1 : Dt K (upd H7 T (.tup ws)) (.ref T) (.tuple (hs.map hD)) := .tup (.inl (.inl upd_same)) (DtAll.kb k1 .nil m7.dg)
          have k2 : Kp (upd H7 T (.tup ws)) (upd (upd H7 T (.tup ws)) T2 (.tup [.int (last' : Int), .int (ar : Int), .ref T])) := Kb.new hT2
          have t2 : Dt K (upd (upd H7 T (.tup ws)) T2 (.tup [.int (last' : Int), .int (ar : Int), .ref T])) (.ref T2) (rowD ⟨last', ar, hs⟩) := .tup (.inl (.inl upd_same)) (.cons (.int _) (.cons (.int _) (.cons (t1.kb k2 .nil) .nil)))
          have k3 := k1.trans k2
          generalize upd (upd H7 T (.tup ws)) T2 (.tup [.int (last' : Int), .int (ar : Int), .ref T]) = H8 at t2 k3 ⊢
          have a8 := m7.a.trans (Aft.of m7.a.2 k3)
          have e8 := (Aft.of m7.a.2 k3).lst m7.r nR.1
          have d8 := DtAll.kb k3 .nil m7.dr
          have vl := d8.length
          rw [List.length_map] at vl
          refine ⟨R, vs, _, rfl, rfl, e8, by omega, vs ++ [.ref T2], rs ++ [⟨last', ar, hs⟩], last', _, _, _, _, _, rfl, a8.mut hR b e8 nt_lst, upd_same, ?_, ⟨?_, ?_⟩, ?_, hl2, by rw [List.length_append]; simp; exact hln, ?_⟩
          · rw [List.map_append]
            exact (dts_lst e8 d8).snoc (dt_lst e8 t2)
          · exact List.pairwise_append.mpr ⟨wf.asc, List.pairwise_singleton .., fun r hr s hs => by rw [List.mem_singleton.mp hs]; have := hle r hr; show r.id < last'; omega⟩
          · intro r hr
            rcases List.mem_append.mp hr with hr | hr
            · exact wf.par r hr
            · rw [List.mem_singleton.mp hr]; show ar < last'; omega
          · intro r hr
            rcases List.mem_append.mp hr with hr | hr
            · have := hle r hr; omega
            · rw [List.mem_singleton.mp hr]; exact Nat.le_refl _
          · intro r hr
            rcases List.mem_append.mp hr with hr | hr
            · exact ok r hr
            · rw [List.mem_singleton.mp hr]; exact ⟨by show last' ≤ 1000; omega, by show ar ≤ 1000; omega, l7, ok7⟩
    · rintro σ H3 ⟨vs, rs, last, o3, o4, o5, o6, o7, rfl, a3, e3, d3, wf, hle, hla, hln, ok⟩
      refine ⟨_, rfl, R, vs, rfl, .inl ⟨.inl (.inl e3), fun T hT => ?_⟩⟩
      have kT : Kp H3 (upd H3 T (.tup vs)) := Kb.new hT
      exact q T _ rs (a3.trans (Aft.of a3.2 kT)) (.tup (.inl (.inl upd_same)) (DtAll.kb kT .nil d3)) wf (by omega) ok
end
end Rd

/-! The end: the facts of the top, with the tables of code objects that the head leaves. -/
namespace Gd
open PySem PySem.Spec PyProof.Rows L2 GxR Gx
theorem walk_G2 {l : PySem.W.OpenLaw} {n k : Nat} {q : Program} {loose : List Str} {XP : (Str → Option Value) → Heap → Prop} {YP : World → Heap → Prop} {d : DefRec} {K : Params → PySem.W.Frag} {CX : World → CXT} {x : Str}
    (hn : l.most = some n) (hn2 : n ≤ sizeLine) (hdf : d.params.defaults = []) (hr : RoomG k callerA) (hY : ∀ (w : World) (h : Heap), YP w h → (K w.params).In h)
    (F : ∀ (w : World) (mg : Str → Option Value) (fa : Addr) (h : Heap), YP w h → (K w.params).In h → h.Ns mainGlobals mg → mg d.name = some (.ref fa) →
      (∀ (y : Str) (d' : DefRec) (c P : Addr), (recsOf q).find? (fun e => e.name == y) = some d' → PySem.W.tabIn (K w.params) y = some (c, P) → PySem.W.CodeHd h c P ∧ h.get? P = some { cls := .none, data := .fields #[] }) → LawG l w (K w.params) (CX w) k n x mg fa h)
    (hCX : ∀ (w : World) (H : Hp) (s : Shared) (e : Value) (s' : Shared), CX w [] H s (fun _ _ _ => False) e s' → False) :
    PySem.W.WalkO q loose XP YP l.row.toRowW d [] (fun f vs => PySem.call f vs) := by
  refine Att.attach_callB hn hdf fun w s0 s1 mg mb fa o pm cd doc a vs ns G Y ho hd hcd hmg hobj hints hlen hbits hg => ?_
  obtain ⟨fd, cs, sp, hT, nT, C, hb, hsp, hF⟩ := F w mg fa _ Y (hY w _ Y) G.T.g hmg fun y d' c P hr ht => PySem.W.tab_of G.T (hY w _ Y) hr ht
  exact law_endG (hY w _ Y) G.T.g G.T.b G.T.builtins G.T.nolimit hg hT nT C G.T.bmain hobj hints (Nat.le_trans hlen hn2) hr hF hb (fun H hH hS => hsp H a ns hlen hbits hH hS) fun H e s' => hCX w H s1 e s'
/-- the def x, its code object at c -/
def DefC (K : PySem.W.Frag) (mg : Str → Option Value) (x : Str) (st : Stmt) (ps : List Str) (c : Addr) : Prop := ∃ f fd, Fun K x x st f fd ∧ mg x = some (.ref f) ∧ Binds K fd ps [] ∧ fd.code = .ref c
theorem DefC.tab {K : PySem.W.Frag} {mg : Str → Option Value} {base : Heap} {x : Str} {st : Stmt} {ps : List Str} {c T : Addr} (D : DefC K mg x st ps c) (B : TabB base mg c T) : DefTab K mg base x st ps T :=
  let ⟨f, fd, F, g, b, e⟩ := D; ⟨f, fd, c, F, g, b, e, B⟩
section
variable {K : PySem.W.Frag} {h : Heap} {mg : Str → Option Value} {x : Str} {st : Stmt} {ps : List Str} {f c T : Addr} {od an od1 : Option Addr} {sl sl1 : Array (Option Value)} {oc kV dc pm cd ct oc1 : Value} {vs : Array Value}
theorem def_k (X : K.In h) (G : h.Ns mainGlobals mg) (a : PySem.W.nsIn K mainGlobals x = some (some (.ref f))) (l : K.lookup f = some ⟨oc, od, .func (PySem.W.fnOf x x (defArgs st) (defBody st) (defScope st) .none kV dc pm an cd ct), sl⟩) (c : PySem.W.codeIn K cd x = true) (k : PySem.W.keepIn K (.ref f) = true)
    (b : ∀ (kV doc pm : Value) (an : Option Addr) (cdv ct : Value) (us : List Value), us.length = ps.length → bindArgs (PySem.W.fnOf x x (defArgs st) (defBody st) (defScope st) .none kV doc pm an cdv ct) ⟨us, []⟩ = pure (ps.zip us)) : DefAt K mg x st ps :=
  ⟨f, _, fun_mk l c k, PySem.W.mg_of X G a, (fun_mk l c k).binds b⟩
theorem def_c (X : K.In h) (G : h.Ns mainGlobals mg) (a : PySem.W.nsIn K mainGlobals x = some (some (.ref f))) (l : K.lookup f = some ⟨oc, od, .func (PySem.W.fnOf x x (defArgs st) (defBody st) (defScope st) .none kV dc pm an (.ref c) ct), sl⟩) (cc : PySem.W.codeIn K (.ref c) x = true) (k : PySem.W.keepIn K (.ref f) = true)
    (l1 : K.lookup c = some ⟨oc1, od1, .fields vs, sl1⟩) (hv : vs[11]? = some (.ref T))
    (b : ∀ (kV doc pm : Value) (an : Option Addr) (cdv ct : Value) (us : List Value), us.length = ps.length → bindArgs (PySem.W.fnOf x x (defArgs st) (defBody st) (defScope st) .none kV doc pm an cdv ct) ⟨us, []⟩ = pure (ps.zip us)) : DefC K mg x st ps c ∧ PySem.W.tabIn K x = some (c, T) := by
  refine ⟨⟨f, _, fun_mk l cc k, PySem.W.mg_of X G a, (fun_mk l cc k).binds b, rfl⟩, ?_⟩
  unfold PySem.W.tabIn
  rw [a]
  show (match K.lookup f with
    | some ⟨_, _, .func fd, _⟩ => _
    | _ => none) = _
  rw [l]
  show (match K.lookup c with
    | some ⟨_, _, .fields vs, _⟩ => _
    | _ => none) = _
  rw [l1]
  show (match (vs[11]? : Option Value) with
    | some (.ref P) => some (c, P)
    | _ => none) = _
  rw [hv]
theorem law_k {fa : Addr} {p1 : Str} (X : K.In h) (G : h.Ns mainGlobals mg) (hfa : mg x = some (.ref fa)) (a : PySem.W.nsIn K mainGlobals x = some (some (.ref f))) (l : K.lookup f = some ⟨oc, od, .func (PySem.W.fnOf x x (defArgs st) (defBody st) (defScope st) .none kV dc pm an cd ct), sl⟩) (c : PySem.W.codeIn K cd x = true) (k : PySem.W.keepIn K (.ref f) = true)
    (b : ∀ (kV doc pm : Value) (an : Option Addr) (cdv ct : Value) (s : Shared) (u : Value), BindsTo s (PySem.W.fnOf x x (defArgs st) (defBody st) (defScope st) .none kV doc pm an cdv ct) ⟨[u], []⟩ [(p1, u)]) : ∃ fd, Fun K x x st fa fd ∧ ∀ (s : Shared) (u : Value), BindsTo s fd ⟨[u], []⟩ [(p1, u)] := by
  have e := hfa.symm.trans (PySem.W.mg_of X G a)
  cases e
  exact ⟨_, fun_mk l c k, b _ _ _ _ _ _⟩
theorem glob_k {t : Tok} {i : Int} (X : K.In h) (G : h.Ns mainGlobals mg) (a : PySem.W.nsIn K mainGlobals x = some (some (.int i t))) : ∃ t, mg x = some (.int i t) := ⟨t, PySem.W.mg_of X G a⟩
theorem no_tabs (X : K.In h) (hK : PySem.W.noTabs K = true) (hT : h.get? T = some { cls := .none, data := .fields #[] }) : K.lookup T = none := by
  cases e : K.lookup T with
  | none => rfl
  | some o =>
    have h1 := X T o e
    rw [hT] at h1
    cases h1
    have h2 := List.all_eq_true.mp hK _ (PySem.W.mem_of_lookupK e)
    exact absurd (show false = true from h2) Bool.false_ne_true
end
end Gd

namespace Rd
open PySem PySem.Spec PyProof.Rows L2 GxR Gx Gd Ev
abbrev s_law : Stmt := topS 9
theorem sc_law : FnScope ["script", "box", "turn", "rows", "kept", "node", "event", "row"] ["script"] (defScope s_law) := ⟨rfl, rfl, rfl, by decide +kernel, rfl, by decide +kernel, by decide +kernel⟩
def spLaw (K : PySem.W.Frag) : Sp := fun vs H Q _ => ∃ (a : Addr) (ns : List Int), vs = [.ref a] ∧ SqL K H a (ns.map V.int) ∧ ∀ H', Q (.bl true) H'
section
variable {P : Program} {w : World} {K : PySem.W.Frag} {mg : PySem.Str → Option Value} {base : Heap}
theorem iteF' {b : Bool} {A B : Prop} (h : b = false) (q : B) : if b = true then A else B := by subst h; exact iteF q
theorem ok_law {f : Addr} {fd : FuncData} (F : Fun K "law" "law" s_law f fd) (m_range : mg "range" = none) (m_repr : mg "repr" = none)
    (c__law_digits : Cal P w K mg base CX0 2 "_law_digits" ["script", "first", "last"] (spDigits K)) (c__law_rows : Cal P w K mg base CX0 2 "_law_rows" ["box"] (spRows K))
    (c_handler_at : Cal P w K mg base CX0 1 "handler_at" ["rows", "node", "event"] (spHand K)) (c__law_handler : Cal P w K mg base CX0 1 "_law_handler" ["rows", "node", "event"] (spHand K)) (c__law_same : Cal P w K mg base CX0 1 "_law_same" ["actual", "due"] (spSame K)) :
    FnG P w K mg base CX0 3 f fd ["script"] (spLaw K) := by
  refine okG (k := 2) F sc_law (fun vs H Q E h => ?_) fun cdv A outer s H vs Q E hr h => ?_
  · obtain ⟨a, ns, rfl, _⟩ := h
    rfl
  · obtain ⟨a, ns, rfl, hs, q⟩ := h
    refine ⟨_, (pss_cons (ps_set (i := 1) sc_law.nd rfl (Or.inl rfl) (pe_lst (pa_cons (pe_cal (c__law_digits.mono (by omega)) hr (by rfl) (pa_cons (pv 0) (pa_cons pe_int (pa_cons pe_int pa_nil)))) (pa_cons pe_int pa_nil))))
  (pss_cons (ps_for PassesOwn.never rfl (pi_range1 (by rfl) m_range (pa_cons pe_int pa_nil)) (pg_name (i := 2) sc_law.nd rfl (Or.inl rfl)) (pss_cons (ps_set (i := 3) sc_law.nd rfl (Or.inl rfl) (pe_cal (c__law_rows.mono (by omega)) hr (by rfl) (pa_cons (pv 1) pa_nil)))
  (pss_cons (ps_set (i := 4) sc_law.nd rfl (Or.inl rfl) (pe_callB (call_reprR hr) (by rfl) m_repr (by decide +kernel) (pa_cons (pv 3) pa_nil)))
  (pss_cons (ps_for PassesOwn.never rfl (pi_list (pe_op op_cat (pe_lc rfl sc_law.nd (pi_tup (pv 3)) (blkOk_by (own := [("row", 7)]) (N := ["script", "box", "turn", "rows", "kept", "node", "event", "row"]) (sc := defScope s_law) (by decide +kernel)) (fun _ _ _ _ _ => (pg_name (i := 7) sc_law.nd rfl (Or.inl rfl))) (fun _ _ _ _ _ => pts_nil) (fun _ _ _ _ _ => (pe_ix (ix_tupK (K := K) rfl) (pv 7) pe_int (fun _ _ => rfl)))) (pe_lst (pa_cons pe_int (pa_cons pe_int (pa_cons pe_int (pa_cons pe_int (pa_cons pe_int (pa_cons pe_int pa_nil))))))))) (pg_name (i := 5) sc_law.nd rfl (Or.inl rfl)) (pss_one (ps_for PassesOwn.never rfl (pi_list (pe_lst (pa_cons pe_str (pa_cons pe_str (pa_cons pe_str (pa_cons pe_str pa_nil)))))) (pg_name (i := 6) sc_law.nd rfl (Or.inl rfl)) (pss_one (ps_if (pt_not (pt_val (pe_cal (c__law_same.mono (by omega)) hr (by rfl) (pa_cons (pe_cal (c_handler_at.mono (by omega)) hr (by rfl) (pa_cons (pv 3) (pa_cons (pv 5) (pa_cons (pv 6) pa_nil)))) (pa_cons (pe_cal (c__law_handler.mono (by omega)) hr (by rfl) (pa_cons (pv 3) (pa_cons (pv 5) (pa_cons (pv 6) pa_nil)))) pa_nil))))) (pss_one (ps_ret pe_bl)) pss_nil)))))
  (pss_one (ps_if (pt_cmpR op_ne (pe_callB (call_reprR hr) (by rfl) m_repr (by decide +kernel) (pa_cons (pv 3) pa_nil)) (pv 4) (nomark _)) (pss_one (ps_ret pe_bl)) pss_nil))))))
  (pss_one (ps_ret pe_bl)))), ?_⟩
    have sz : sizeLine = 16777216 := rfl
    refine ⟨.ref a, rfl, a, ns, 24, rfl, by decide, hs, fun d H1 xs hd k1 e1 hi => ⟨by show 2 ≤ sizeLine; decide, fun bx hbx => ?_⟩⟩
    have b0 : Box bx d (upd H1 bx (.lst [.ref d, .int 0])) := ⟨xs, 0, upd_same, Int.le_refl 0, by rw [upd_ne (ne_of_none e1 hbx)]; exact e1, hi⟩
    generalize upd H1 bx (.lst [.ref d, .int 0]) = H2 at b0 ⊢
    refine ⟨2, rfl, by decide, by decide, for_it walk_range (fun i σ H' => (∃ o2 o3 o4 o5 o6 : Option V, σ = [some (.ref a), some (.ref bx), o2, o3, o4, o5, o6, none]) ∧ Box bx d H') ⟨⟨_, _, _, _, _, rfl⟩, b0⟩ (fun _ _ _ _ _ => trivial) ?_ ?_⟩
    · rintro i x σ _ H3 hi ⟨⟨o2, o3, o4, o5, o6, rfl⟩, b3⟩ ⟨rfl, hx⟩
      refine ⟨.ref bx, rfl, bx, d, rfl, b3, fun r H4 rows a4 dr wf hl ok => ?_⟩
      have ft := fit_rows ok (by omega : rows.length ≤ 13)
      refine ⟨_, rfl, .ref r, _, rfl, dr.dp, ft.1, ft.2.1, ft.2.2.1, ft.2.2.2, ?_⟩
      have b4 := a4.2
      obtain ⟨_, ys, e, hq, hds⟩ := tup_inv dr
      cases e
      have hyl := hds.length
      rw [List.length_map] at hyl
      refine gset ?_
      with_reducible refine seq_gen (fun σ' H' => (∃ o5 o6 : Option V, σ' = [some (.ref a), some (.ref bx), some x, some (.ref r), some (.str (rowsD rows).shown), o5, o6, none]) ∧ Kp H4 H') (fun N hN => ?_) ?_
      · refine ⟨.ref r, rfl, r, rfl, ⟨ys, hq⟩, fun G hG => ?_⟩
        refine lc_it walk_tup (fun j H' => Kp H4 H' ∧ H' G = some (.lst (((rows.take j).map ERow.id).map fun n : Nat => V.int (n : Int)))) ⟨Kb.new hG, upd_same⟩ (fun j H' _ h => h.1.sqT .nil hq) ?_ ?_
        · rintro j y _ H5 hj ⟨k5, e5⟩ ⟨rfl, hy⟩
          obtain ⟨rw_, hrw⟩ : ∃ r, rows[j]? = some r := ⟨rows[j], List.getElem?_eq_getElem (by omega)⟩
          obtain ⟨dd, hd1, hd2⟩ := hds.get hy
          rw [List.getElem?_map, hrw] at hd1
          cases hd1
          obtain ⟨p, t, zs, rfl, hp, _⟩ := row_inv (hd2.kb k5 .nil)
          refine ⟨rfl, iteT (B := Kp H4 H5 ∧ H5 G = some (.lst (((rows.take (j + 1)).map ERow.id).map fun n : Nat => V.int (n : Int)))) ⟨_, rfl, p, _, 0, _, rfl, rfl, hp, atI_nat (j := 0) rfl, _, e5, by rw [List.length_map, List.length_map, List.length_take]; omega, k5.mut hG (no_tab e5 nt_lst), ?_⟩⟩
          rw [upd_same, List.take_add_one, hrw, List.map_append, List.map_append]
          rfl
        · rintro H5 ⟨k5, e5⟩
          rw [hyl, List.take_length] at e5
          refine ⟨by show 6 ≤ sizeLine; decide, fun L hL => ?_⟩
          have kL : Kp H5 (upd H5 L (.lst [.int 1, .int 2, .int 3, .int 4, .int 999, .int 999999999])) := Kb.new hL
          have e6 : (upd H5 L (.lst [.int 1, .int 2, .int 3, .int 4, .int 999, .int 999999999])) G = some (.lst ((rows.map ERow.id).map fun n : Nat => V.int (n : Int))) := by rw [upd_ne (ne_of_none e5 hL)]; exact e5
          have l6 : (upd H5 L (.lst [.int 1, .int 2, .int 3, .int 4, .int 999, .int 999999999])) L = some (.lst ([1, 2, 3, 4, 999, 999999999].map fun n : Nat => V.int (n : Int))) := upd_same
          have k6 := k5.trans kL
          generalize upd H5 L (.lst [.int 1, .int 2, .int 3, .int 4, .int 999, .int 999999999]) = H6 at e6 l6 k6 ⊢
          refine ⟨G, L, _, _, rfl, rfl, e6, l6, by rw [List.length_map, List.length_map, List.length_map]; show rows.length + 6 ≤ _; omega, fun M hM => ?_⟩
          have k7 : Kp H6 (upd H6 M (.lst ((rows.map ERow.id).map (fun n : Nat => V.int (n : Int)) ++ [1, 2, 3, 4, 999, 999999999].map fun n : Nat => V.int (n : Int)))) := Kb.new hM
          have m7 : (upd H6 M (.lst ((rows.map ERow.id).map (fun n : Nat => V.int (n : Int)) ++ [1, 2, 3, 4, 999, 999999999].map fun n : Nat => V.int (n : Int)))) M = some (.lst ((rows.map ERow.id ++ [1, 2, 3, 4, 999, 999999999]).map fun n : Nat => V.int (n : Int))) := by
            rw [upd_same, List.map_append]
          have k7 := k6.trans k7
          generalize (rows.map ERow.id ++ [1, 2, 3, 4, 999, 999999999]) = nodes at m7
          generalize upd H6 M _ = H7 at k7 m7 ⊢
          refine ⟨M, rfl, ⟨_, .inl (.inl m7)⟩, for_it walk_list (fun j σ' H' => (∃ o5 o6 : Option V, σ' = [some (.ref a), some (.ref bx), some x, some (.ref r), some (.str (rowsD rows).shown), o5, o6, none]) ∧ Kp H7 H') ⟨⟨_, _, rfl⟩, Kb.refl _⟩ (fun j σ' H' _ h => .inl (.inl (h.2.keep M _ m7 (by simp) nt_lst))) ?_ ?_⟩
          · rintro j y σ' _ H8 hj ⟨⟨o5, o6, rfl⟩, k8⟩ ⟨rfl, hy⟩
            obtain ⟨n, hn⟩ : ∃ n, nodes[j]? = some n := ⟨nodes[j]'(by rw [List.length_map] at hj; exact hj), List.getElem?_eq_getElem _⟩
            rw [List.getElem?_map, hn] at hy
            cases hy
            refine ⟨by show 4 ≤ sizeLine; decide, fun E hE => ?_⟩
            have kE : Kp H8 (upd H8 E (.lst [.str (Str.ofString "go"), .str (Str.ofString "buy"), .str (Str.ofString "end"), .str (Str.ofString "none")])) := Kb.new hE
            have eE : (upd H8 E (.lst [.str (Str.ofString "go"), .str (Str.ofString "buy"), .str (Str.ofString "end"), .str (Str.ofString "none")])) E = some (.lst ([Str.ofString "go", Str.ofString "buy", Str.ofString "end", Str.ofString "none"].map V.str)) := upd_same
            generalize upd H8 E (.lst [.str (Str.ofString "go"), .str (Str.ofString "buy"), .str (Str.ofString "end"), .str (Str.ofString "none")]) = H9 at kE eE ⊢
            generalize [Str.ofString "go", Str.ofString "buy", Str.ofString "end", Str.ofString "none"] = evs at eE ⊢
            refine ⟨E, rfl, ⟨_, .inl (.inl eE)⟩, for_it walk_list (fun l σ' H' => (∃ o6 : Option V, σ' = [some (.ref a), some (.ref bx), some x, some (.ref r), some (.str (rowsD rows).shown), some (.int (n : Int)), o6, none]) ∧ Kp H9 H') ⟨⟨_, rfl⟩, Kb.refl _⟩ (fun j σ' H' _ h => .inl (.inl (h.2.keep E _ eE (by simp) nt_lst))) ?_ ?_⟩
            · rintro l y σ' _ H10 hl10 ⟨⟨o6, rfl⟩, k10⟩ ⟨rfl, hy⟩
              obtain ⟨ev, hev⟩ : ∃ n, evs[l]? = some n := ⟨evs[l]'(by rw [List.length_map] at hl10; exact hl10), List.getElem?_eq_getElem _⟩
              rw [List.getElem?_map, hev] at hy
              cases hy
              have k410 := ((k7.trans k8).trans kE).trans k10
              have h9 : ∀ r ∈ rows, r.hs.length ≤ 1000 := fun r hr => Nat.le_trans (ok r hr).len (by decide)
              refine ⟨_, rfl, _, rfl, _, rfl, r, rows, n, ev, rfl, dr.kb k410 .nil, wf, by omega, h9, fun v1 H11 k11 d1 => ?_⟩
              refine ⟨_, rfl, _, rfl, _, rfl, r, rows, n, ev, rfl, dr.kb (k410.trans k11) .nil, wf, by omega, h9, fun v2 H12 k12 d2 => ?_⟩
              refine ⟨v1, v2, _, rfl, d1.kb k12 .nil, d2, fit_res ok n ev, fun H13 k13 => ⟨_, rfl, ?_⟩⟩
              exact iteF ⟨⟨_, rfl⟩, ((k10.trans k11).trans k12).trans k13⟩
            · rintro σ' H10 ⟨⟨o6, rfl⟩, k10⟩
              exact ⟨⟨_, _, rfl⟩, (k8.trans kE).trans k10⟩
          · rintro σ' H8 ⟨⟨o5, o6, rfl⟩, k8⟩
            exact hN _ _ ⟨⟨_, _, rfl⟩, k7.trans k8⟩
      · rintro σ' H5 ⟨⟨o5, o6, rfl⟩, k5⟩
        refine ⟨_, rfl, .ref r, _, rfl, (dr.kb k5 .nil).dp, ft.1, ft.2.1, ft.2.2.1, ft.2.2.2, _, rfl, rfl, _, rfl, ?_⟩
        refine iteF' (by simp) ?_
        exact ⟨⟨_, _, _, _, _, rfl⟩, b4.kp k5⟩
    · rintro σ H3 ⟨⟨o2, o3, o4, o5, o6, rfl⟩, b3⟩
      exact q H3
end
theorem law_fin {l : PySem.W.OpenLaw} {w : World} {K : PySem.W.Frag} {mg : PySem.Str → Option Value} {h : Heap} {fa : Addr} {fd : FuncData} (Fl : Fun K "law" "law" s_law fa fd) (bl : ∀ (s : Shared) (u : Value), BindsTo s fd ⟨[u], []⟩ [("script", u)])
    (D_handler_at : DefAt K mg "handler_at" s_handler_at ["rows", "node", "event"]) (D__law_cell : DefAt K mg "_law_cell" s_law_cell ["script", "k"]) (D__law_digits : DefAt K mg "_law_digits" s_law_digits ["script", "first", "last"]) (D__law_draw : DefAt K mg "_law_draw" s_law_draw ["box", "many"])
    (D__law_same : DefAt K mg "_law_same" s_law_same ["actual", "due"]) (D__law_rows : DefAt K mg "_law_rows" s_law_rows ["box"]) (D__law_handler : DefAt K mg "_law_handler" s_law_handler ["rows", "node", "event"])
    (m_int : mg "int" = none) (m_len : mg "len" = none) (m_range : mg "range" = none) (m_repr : mg "repr" = none) (m_tuple : mg "tuple" = none) :
    LawG l w K CX0 3 63 "script" mg fa h := by
  refine ⟨fd, [], spLaw K, (fun p hp => by cases hp), (fun p hp => by cases hp), (fun p hp => by cases hp), bl, fun H a ns hlen hbits hH hS => ⟨a, ns, rfl, hS, fun _ => rfl⟩, fun base kin hns hB => ?_⟩
  have c_law_cell := c_law_cell (P := l.prog) (w := w) (base := base) D__law_cell m_len
  have c_law_digits := c_law_digits (P := l.prog) (w := w) (base := base) D__law_digits m_range m_int c_law_cell
  have c_law_draw := c_law_draw (P := l.prog) (w := w) (base := base) D__law_draw m_len m_int
  have c1 := c_handler_at (P := l.prog) (w := w) (base := base) D_handler_at
  have c2 := c_law_handler (P := l.prog) (w := w) (base := base) D__law_handler m_len
  have c3 := c_law_same (P := l.prog) (w := w) (base := base) D__law_same m_repr
  have c4 := c_law_rows (P := l.prog) (w := w) (base := base) D__law_rows m_range m_len m_int m_tuple c_law_draw
  exact ok_law Fl m_range m_repr c_law_digits c4 c1 c2 c3
end Rd

open PySem PySem.W PyProof.Rows
set_option maxHeartbeats 0 in
theorem PySem.Challenge.cw_remoteviews_k36_handler_outwards_holds : PySem.Challenge.rw_remoteviews_k36_handler_outwards.Holds := by
  w_on; o_law; k_head; (case hw => w_witness2)
  k_fill
  refine Gd.walk_G2 (l := PySem.Challenge.rw_remoteviews_k36_handler_outwards) (n := 63) (k := 3) (x := "script") (CX := fun _ => L2.CX0) rfl (by decide) rfl ⟨⟨rfl, by decide, by decide⟩, rfl⟩ (fun w h Y => PySem.W.kIn_of Y) ?F (fun _ _ _ _ _ h => h)
  case F =>
    intro w mg fa h Y KX G hmg tabs
    have D_handler_at := by
      refine' Gd.def_k (x := "handler_at") (st := Rd.s_handler_at) (ps := ["rows", "node", "event"]) KX G ?a ?l ?c ?k ?b
      (case a => k_is); (case l => k_is); (case c => k_is); (case k => k_is); (case b => exact fun _ _ _ _ _ _ us hl => match us, hl with | [_, _, _], _ => rfl)
    have D__law_cell := by
      refine' Gd.def_k (x := "_law_cell") (st := Rd.s_law_cell) (ps := ["script", "k"]) KX G ?a ?l ?c ?k ?b
      (case a => k_is); (case l => k_is); (case c => k_is); (case k => k_is); (case b => exact fun _ _ _ _ _ _ us hl => match us, hl with | [_, _], _ => rfl)
    have D__law_digits := by
      refine' Gd.def_k (x := "_law_digits") (st := Rd.s_law_digits) (ps := ["script", "first", "last"]) KX G ?a ?l ?c ?k ?b
      (case a => k_is); (case l => k_is); (case c => k_is); (case k => k_is); (case b => exact fun _ _ _ _ _ _ us hl => match us, hl with | [_, _, _], _ => rfl)
    have D__law_draw := by
      refine' Gd.def_k (x := "_law_draw") (st := Rd.s_law_draw) (ps := ["box", "many"]) KX G ?a ?l ?c ?k ?b
      (case a => k_is); (case l => k_is); (case c => k_is); (case k => k_is); (case b => exact fun _ _ _ _ _ _ us hl => match us, hl with | [_, _], _ => rfl)
    have D__law_same := by
      refine' Gd.def_k (x := "_law_same") (st := Rd.s_law_same) (ps := ["actual", "due"]) KX G ?a ?l ?c ?k ?b
      (case a => k_is); (case l => k_is); (case c => k_is); (case k => k_is); (case b => exact fun _ _ _ _ _ _ us hl => match us, hl with | [_, _], _ => rfl)
    have D__law_rows := by
      refine' Gd.def_k (x := "_law_rows") (st := Rd.s_law_rows) (ps := ["box"]) KX G ?a ?l ?c ?k ?b
      (case a => k_is); (case l => k_is); (case c => k_is); (case k => k_is); (case b => exact fun _ _ _ _ _ _ us hl => match us, hl with | [_], _ => rfl)
    have D__law_handler := by
      refine' Gd.def_k (x := "_law_handler") (st := Rd.s_law_handler) (ps := ["rows", "node", "event"]) KX G ?a ?l ?c ?k ?b
      (case a => k_is); (case l => k_is); (case c => k_is); (case k => k_is); (case b => exact fun _ _ _ _ _ _ us hl => match us, hl with | [_, _, _], _ => rfl)
    have m_int := by
      refine' PySem.W.mg_none_of (n := "int") KX G ?a
      (case a => k_is)
    have m_len := by
      refine' PySem.W.mg_none_of (n := "len") KX G ?a
      (case a => k_is)
    have m_range := by
      refine' PySem.W.mg_none_of (n := "range") KX G ?a
      (case a => k_is)
    have m_repr := by
      refine' PySem.W.mg_none_of (n := "repr") KX G ?a
      (case a => k_is)
    have m_tuple := by
      refine' PySem.W.mg_none_of (n := "tuple") KX G ?a
      (case a => k_is)
    have L := by
      refine' Gd.law_k (x := "law") (st := Rd.s_law) (p1 := "script") KX G hmg ?a ?l ?c ?k ?b
      (case a => k_is); (case l => k_is); (case c => k_is); (case k => k_is); (case b => exact fun _ _ _ _ _ _ s u => .of_eq rfl)
    obtain ⟨fd, Fl, bl⟩ := L
    refine' Rd.law_fin Fl bl D_handler_at D__law_cell D__law_digits D__law_draw D__law_same D__law_rows D__law_handler m_int m_len m_range m_repr m_tuple
