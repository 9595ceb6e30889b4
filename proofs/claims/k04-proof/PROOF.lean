import PyProof.Rows.All
import Wide.All
import OpenK.AllK
import Wide.FinOn
import PyProof.EqAt
import PyProof.EqKinds
import PyProof.TupleCall
import KE.KNest
import HandS.Base
import HandS.Call
import HandS.List
import HandS.Comp
import HandS.AnyAll
import HandS.GenOver
import HandS.GenList
import HandS.ForMost
import HandS.Exc
import HandS.WordsExc
import HandS.EndTab
import HandS.IsInst
import HandS.SetBool
import HandS.SetKeys
import HandS.RaiseMore
import HandS.Text
import HandS.ExcOwn
import HandS.ExcInit
import HandS.ExcField
import KE.KExcIs
import HandS.More
import HandS.Style
import HandS.ReplaceLit
import HandS.ReplaceList
import HandS.ReplaceDef
import HandS.Iter
import PyProof.P3In
import HandS.Small
import HandS.ExcIs
import HandS.Walk
import PyProof.StrBlock2
import KE.KDictPairs
import KE.KRevSl
import HandS.Star
import HandS.TupAny
import HandS.CallLocal
import HandS.Dict
import HandS.ListItems
import HandS.Conv
import HandS.Zip
import KE.GoesZip
import KE.GoesMore
import HandS.SortKw
import HandS.RevRange
import KE.KMinKey
import PySem.Challenge.RW_remoteviews_k04_evaluation_exact
set_option Elab.async false
set_option linter.all false
set_option maxRecDepth 100000
set_option maxHeartbeats 4000000
/-! all(e for x in it): the element any expression, its names the target's and captured ones. -/
namespace Gx
open PySem PySem.Spec PyProof.Rows L2 GxR
open Sem (wp)

/-- the around of a generator expression's code over a consumer's call -/
theorem over_gen {A : Around} {elt tg iter : Expr} {ifs : List Expr} {scope : Scope} {pos : Pos} {it acc : Value} {env : Env} :
    A.over (.compLoop (.GeneratorExp elt [⟨tg, iter, ifs, 0⟩] scope pos) 0 it acc env) [] = A.deeper env := by
  first
    | rfl
    | (obtain ⟨hd, d, fr, gs, u⟩ := A; simp [Around.over, Around.deeper, marksOver, frameCount, unitsOf, envsOf, guardsOf, pushEnvs, pushGuards, Code.envs, Code.env?, Code.isFrame, Code.guards, Code.isGuard, Code.weight, Code.frames, Code.isCreation, Code.isCaller, Code.cUnits])
theorem over_genS {A : Around} {elt tg iter : Expr} {ifs : List Expr} {scope : Scope} {pos : Pos} {it acc : Value} {env : Env} :
    A.over (.compStart (.GeneratorExp elt [⟨tg, iter, ifs, 0⟩] scope pos) 0 it acc env) [] = A.deeper env := by
  first
    | rfl
    | (obtain ⟨hd, d, fr, gs, u⟩ := A; simp [Around.over, Around.deeper, marksOver, frameCount, unitsOf, envsOf, guardsOf, pushEnvs, pushGuards, Code.envs, Code.env?, Code.isFrame, Code.guards, Code.isGuard, Code.weight, Code.frames, Code.isCreation, Code.isCaller, Code.cUnits])

/-- the context of a generator expression's block: begun at s; pn: its own object -/
abbrev gx (X : Cx) (N : List Str) (s : Shared) (H : Hp) (cenv : Env) (fp : List Addr) (pn : List (Addr × Obj)) : Cx :=
  { X with A := X.A.in1.in1.deeper cenv, N := N, s_0 := s, H_0 := H, env := cenv, outer := X.stack, stack := cenv :: X.stack, ex := fp, fn := fun _ => false, pn := pn, xe := fun _ _ => False }

/-- captured names: their places in the def's names -/
structure Caps (X : Cx) (scope : Scope) (caps : List (Str × Nat)) : Prop where
  ix : ∀ p ∈ caps, X.N[p.2]? = some p.1
  free : ∀ p ∈ caps, scope.names.lookup p.1 = some .free
  vis : ∀ p ∈ caps, X.env.scope.names.lookup p.1 = some .cell ∨ X.env.scope.names.lookup p.1 = some .free
theorem Caps.nil {X : Cx} {scope : Scope} : Caps X scope [] := ⟨fun _ h => (by cases h), fun _ h => (by cases h), fun _ h => (by cases h)⟩
def capV (σ : L2.St) (caps : List (Str × Nat)) : L2.St := caps.map fun p => (σ[p.2]?).join
def capN (caps : List (Str × Nat)) : List Str := caps.map (·.1)

section
variable {X : Cx} {pins : List (Addr × Obj)} {σ : L2.St} {H : Hp} {s : Shared}

theorem gen_start {scope : Scope} {x : Str} {code : Value} {caps : List (Str × Nat)} {fp : List Addr} {s5 : Shared} {go : Obj} {m : Str → Option Value} (I : Inv X pins σ H s) (S : GenS X.env scope x) (C : Caps X scope caps) (hd : X.A.handled = none)
    (hfp : ∀ b ∈ fp, FpOk X pins H b ∧ b < s.heap.objs.size)
    (hos : s5.os = s.os) (hba : AllBare s5.gens) (hk : ∀ b o, s.heap.get? b = some o → s5.heap.get? b = some o)
    (hn : s5.heap.Ns s.heap.objs.size m) (hgo : s5.heap.get? (s.heap.objs.size + 1) = some go) (hgc : ∀ v, go.data ≠ .cell v) :
    Inv (gx X (x :: capN caps) s H (genEnv scope (cloFrom X.env.cells scope.names []) s.heap.objs.size code builtinsNs X.env) fp [(s.heap.objs.size + 1, go)]) [] (none :: capV σ caps) H s5 := by
  have cm : ∀ {y c}, (y, c) ∈ cloFrom X.env.cells scope.names [] → X.env.cells.lookup y = some c ∧ c < s.heap.objs.size := fun {y c} hm => by
    rcases cloFrom_mem hm with hm | ⟨h1, rfl⟩
    · cases hm
    · obtain ⟨c, hc⟩ := S.free _ h1 rfl
      rw [hc]
      obtain ⟨w, z⟩ := I.cell _ _ hc
      exact ⟨rfl, z.lt⟩
  have lk : ∀ {y c}, (cloFrom X.env.cells scope.names []).lookup y = some c → X.env.cells.lookup y = some c ∧ c < s.heap.objs.size := fun {y c} e => cm (PySem.mem_of_lookup e)
  have look : ∀ {y}, scope.names.lookup y = some .free → ∃ c, (cloFrom X.env.cells scope.names []).lookup y = some c ∧ X.env.cells.lookup y = some c := fun {y} hl => by
    have hy : (y, NameKind.free) ∈ scope.names := PySem.mem_of_lookup hl
    obtain ⟨c', e'⟩ := mem_lookup (cloFrom_has (cells := X.env.cells) (acc := []) hy)
    exact ⟨c', e', (lk e').1⟩
  refine ⟨⟨I.ok.mod, S.kind, I.ok.glob, rfl, Nat.le_refl _, fun y z c e1 e2 => I.ok.inj y z c (lk e1).1 (lk e2).1, fun y hy => ?_, fun y c z => absurd z (by simp), fun _ => hd, ?_, .inr ⟨rfl, rfl⟩, fun b hb => ⟨?_, fun y c e z => ?_⟩, I.bs, Nat.le_trans I.ok.bsz I.sz, fun b o e hb => ?_, fun b hb z => ?_, I.stack, I.stkFree⟩,
    hos, hba, Un.kept hk, ⟨m, hn, fun i y v e1 e2 e3 => ?_⟩, fun y c e => ?_, ?_, fun y c e => ?_, fun p hp => ?_, I.hok.kept hk, ?_⟩
  · have hy : scope.names.lookup y = some .cell ∨ scope.names.lookup y = some .free := hy
    rcases hy with hy | hy
    · exact absurd rfl (S.cell _ (PySem.mem_of_lookup hy))
    · obtain ⟨c, e, _⟩ := look hy
      exact ⟨c, e⟩
  · exact Around.frames_deeper (A := X.A.in1.in1) (show X.A.in1.in1.frames = some X.stack from I.ok.frames)
  · show b ≠ s.heap.objs.size
    exact Nat.ne_of_lt (hfp b hb).2
  · exact (hfp b hb).1.2.2.2.2.1 y c (lk e).1 z
  · rcases (hfp b hb).1.2.2.2.1 with z | z
    · exact I.ok.noex b o e z
    · exact absurd (Nat.lt_of_lt_of_le (Heap.lt_size e) (Nat.le_trans I.ok.bsz z)) (Nat.lt_irrefl _)
  · rcases List.mem_cons.mp (I.stkSub b z) with z | z
    · exact (hfp b hb).1.2.1 z
    · exact (hfp b hb).1.2.2.1 z
  · cases i with
    | zero => cases e2
    | succ i =>
      have e1 : (capN caps)[i]? = some y := e1
      have e2 : (capV σ caps)[i]? = some (some v) := e2
      unfold capN at e1
      unfold capV at e2
      rw [List.getElem?_map] at e1 e2
      cases hp : caps[i]? with
      | none => rw [hp] at e1; cases e1
      | some p =>
        rw [hp] at e1 e2
        have ey : p.1 = y := Option.some.inj e1
        have ev : (σ[p.2]?).join = some v := Option.some.inj e2
        have hpm : p ∈ caps := List.mem_of_getElem? hp
        have ev2 : σ[p.2]? = some (some v) := by
          cases q : σ[p.2]? with
          | none => rw [q] at ev; cases ev
          | some w => rw [q] at ev; rw [show w = some v from ev]
        obtain ⟨m0, hn0, hl0⟩ := I.loc
        have hv := C.vis p hpm
        obtain ⟨u, r, l⟩ := hl0 p.2 p.1 v (C.ix p hpm) ev2 (.inr hv)
        subst ey
        refine ⟨u, r, .inr ⟨.inr (C.free p hpm), ?_⟩⟩
        obtain ⟨c, h1, h2⟩ := look (C.free p hpm)
        rcases l with ⟨k, _⟩ | ⟨_, c', e', z⟩
        · have k : X.env.scope.names.lookup p.1 = some .local := k
          rcases hv with k' | k' <;> rw [k'] at k <;> cases k
        · rw [h2] at e'; cases e'
          exact ⟨c, h1, z.keeps hk⟩
  · obtain ⟨w, z⟩ := I.cell y c (lk e).1
    exact ⟨w, z.keeps hk⟩
  · exact I.hok.fresh (Nat.le_refl _)
  · exact I.freeC y c (lk e).1
  · have hp : p ∈ [(s.heap.objs.size + 1, go)] ++ [] := hp
    rw [List.append_nil] at hp
    rw [List.mem_singleton.mp hp]
    exact ⟨hgo, I.hok.fresh (Nat.le_succ _), (Nat.succ_ne_self _), fun hb => by
      rcases List.mem_cons.mp (I.stkSub _ hb) with z | z
      · have h1 := I.lt
        have z' : s.heap.objs.size + 1 = X.env.locals := z
        rw [← z'] at h1
        exact absurd (Nat.lt_of_succ_lt h1) (Nat.lt_irrefl _)
      · exact I.nofs (Nat.le_succ _) z, hgc⟩
  · show (none :: capV σ caps).length = (x :: capN caps).length
    unfold capV capN
    simp
end

/-- woken again: only the generators' table turned -/
structure Woke (s s' : Shared) : Prop where
  heap : s'.heap = s.heap
  os : s'.os = s.os
  bare : AllBare s'.gens
theorem inv_woke {X : Cx} {pins : List (Addr × Obj)} {σ : L2.St} {H : Hp} {s s' : Shared} (I : Inv X pins σ H s) (z : Woke s s') : Inv X pins σ H s' :=
  I.call' (ch := []) z.os (by rw [z.heap]; exact Un.refl) (by rw [z.heap]; exact I.hok) z.bare fun b hb => by simp at hb

section
variable {X : Cx} {N : List Str} {s4 : Shared} {H4 : Hp} {cenv : Env} {fp : List Addr} {pn : List (Addr × Obj)} {J : It} {tn : Nat → Heap → Prop} {σ0 : L2.St} {W : Nat → Nat → Hp → Prop} {Ft Ff : Hp → Prop}

/-- asleep at turn i -/
def At (GX : Cx) (fp : List Addr) (tn : Nat → Heap → Prop) (σ0 : L2.St) (W : Nat → Nat → Hp → Prop) (n : Nat) (s : Shared) : Prop :=
  ∃ i m H, Inv GX [] σ0 H s ∧ tn i s.heap ∧ (∀ b ∈ fp, H b = none) ∧ W i m H ∧ m < n
/-- it has handed out v -/
def Yp (GX : Cx) (fp : List Addr) (tn : Nat → Heap → Prop) (σ0 : L2.St) (W : Nat → Nat → Hp → Prop) (Ff : Hp → Prop) : Protocol := fun n s₀ v s kap =>
  ∃ c, v = .bool c ∧ ((c = true ∧ At GX fp tn σ0 W n s ∧ ∀ s', Woke s s' → kap (.send .none) s') ∨ (c = false ∧ ∃ σ H, Inv GX [] σ H s ∧ Ff H))
def Ep (GX : Cx) (Ft : Hp → Prop) : GenEnd := fun n s₀ r s => r = .ok .next ∧ ∃ σ H, Inv GX [] σ H s ∧ Ft H

theorem stat_of {GX : Cx} {σ' : L2.St} {H' : Hp} {s' : Shared} (hex : GX.ex = fp) (hpn : ∀ p ∈ GX.pn, ∀ b ∈ fp, p.1 ≠ b) (I' : Inv GX [] σ' H' s') (hn : ∀ b ∈ fp, H' b = none) : ∀ b ∈ fp, FpOk GX [] H' b := fun b hb => by
  have hb' : b ∈ GX.ex := by rw [hex]; exact hb
  exact ⟨hn b hb, (I'.ok.exf b hb').1, I'.ok.exfs b hb', .inl hb', fun x c e => (I'.ok.exf b hb').2 x c e, fun p hp => hpn p (by rw [List.append_nil] at hp; exact hp) b hb⟩

theorem seg_loop {A : Around} {P : Program} {w : World} {K : PySem.W.Frag} {elt tg iter : Expr} {scope : Scope} {pos : Pos} {it : Addr} {GX : Cx} {g : TG} {te : TE}
    (hP : GX.prog = P) (hw : GX.w = w) (hK : GX.K = K) (hA : GX.A = A.deeper GX.env) (hcalm : GX.calm = true) (hxe : GX.xe = fun _ _ => False) (hex : GX.ex = fp) (hpn : ∀ p ∈ GX.pn, ∀ b ∈ fp, p.1 ≠ b) (hco : GX.env.scope.isCoroutine = false)
    (T : Turn P w K tg J fp it tn) (pg : PG GX tg g) (pe : PE GX elt te)
    (turn : ∀ i m H, W i m H → (J.stop i H ∧ Ft H) ∨ (J.go i H ∧ ∃ Nx : Hp → Prop, (∀ H', Nx H' → ∃ m', m' < m ∧ W (i + 1) m' H') ∧ ∀ x H', J.yld i H x H' → g x σ0 H' fun σ2 H3 => (∀ (j : Nat) v, σ0[j]? = some (some v) → σ2[j]? = some (some v)) ∧ te σ2 H3 fun y H5 => ∃ c, y = .bl c ∧ if c = true then Nx H5 else Ff H5)) :
    ∀ (n : Nat) (s₀ s : Shared), At GX fp tn σ0 W n s →
      Seg (model P w) A (Ep GX Ft) (Yp GX fp tn σ0 W Ff) n s₀ (.compLoop (.GeneratorExp elt [⟨tg, iter, [], 0⟩] scope pos) 0 (.ref it) .none GX.env)
        ((model P w).den (.compLoop (.GeneratorExp elt [⟨tg, iter, [], 0⟩] scope pos) 0 (.ref it) .none GX.env)) [] s := by
  subst hP hw hK
  have hAo : A.over (.compLoop (.GeneratorExp elt [⟨tg, iter, [], 0⟩] scope pos) 0 (.ref it) .none GX.env) [] = GX.A := over_gen.trans hA.symm
  have noE : ∀ {x : Value} {s' : Shared}, GX.xe x s' → False := fun {x s'} h => by rw [hxe] at h; exact h
  intro n
  induction n with
  | zero =>
    intro s₀ s h
    obtain ⟨i, m, H, _, _, _, _, hm⟩ := h
    exact absurd hm (Nat.not_lt_zero _)
  | succ n ih =>
    intro s₀ s h
    obtain ⟨i, m, H, I, st, nf, wi, hm⟩ := h
    show Seg _ A _ _ _ s₀ _ ((compTurn (.GeneratorExp elt [⟨tg, iter, [], 0⟩] scope pos) 0 (.ref it) .none GX.env).onRaise (leaving GX.env)) [] s
    rw [compTurn_gen, Sem.onRaise_eq_wrap]
    refine seg_bind_wrap (wpAny_standAt ?_)
    rcases turn i m H wi with ⟨stop, ft⟩ | ⟨go, Nx, hNx, step⟩
    · refine seg_bind_wrap ?_
      rw [hAo]
      refine thnF (T.done GX rfl rfl rfl hcalm i [] s _ H (fun _ _ => False) I (stat_of hex hpn I nf) st stop) fun r s1 ⟨hr, I1⟩ => ?_
      subst hr
      exact seg_end (.ok .next) ⟨rfl, _, H, I1, ft⟩
    · refine seg_bind_wrap ?_
      rw [hAo]
      refine thnF (T.item GX rfl rfl rfl hcalm i [] s _ H (fun _ _ => False) I (stat_of hex hpn I nf) st go) fun r s1 ⟨u, hr, h1⟩ => ?_
      subst hr
      refine seg_bind_wrap ?_
      rw [hAo]
      refine thnF h1 fun _ s2 ⟨x, H2, I2, r2, y2, st2, n2⟩ => ?_
      have I2' := I2.pinned (stat_of hex hpn I2 n2) (T.obj _ _ st2)
      refine seg_bind_wrap ?_
      rw [hAo]
      refine wpAny_mono (pg.run _ s2 _ H2 x u _ I2' r2 (step x H2 y2)) (fun _ s3 ⟨σ3, H3, I3, hl3, q3⟩ => ?_) fun _ _ hx => (noE hx).elim
      refine seg_bind_wrap (wpAny_tests_nil ?_)
      simp only [if_true]
      have hy : ∀ v, yieldOut GX.env v = yieldValue v := fun v => by simp only [yieldOut, hco, Bool.false_eq_true, if_false]
      simp only [hy]
      rw [Sem.bind_eq_wrap', Sem.bind_eq_wrap', Sem.wrap_wrap, Sem.wrap_wrap]
      refine seg_wrap ?_
      rw [hAo]
      refine wpAny_mono (pe.run _ s3 σ3 H3 _ I3 q3) (fun y s5 ⟨yv, H5, I5, r5, c, ey, q5⟩ => ?_) fun _ _ hx => (noE hx).elim
      subst ey
      have ev : y = Value.bool c := r5
      subst ev
      have pin' : ∀ b ∈ fp, ∀ o, s2.heap.get? b = some o → s5.heap.get? b = some o ∧ H5 b = none := fun b hb o e =>
        let z := I5.pin (b, o) (List.mem_append_right _ (List.mem_append_right _ (mem_pinsAt hb e)))
        ⟨z.1, z.2.1⟩
      have I6 : Inv GX [] σ0 H5 s5 := (I5.unpinned (pins := [])).weak (by rw [I.len, I5.len]) hl3
      have st6 : tn (i + 1) s5.heap := T.keep _ _ _ st2 fun b hb o e => (pin' b hb o e).1
      have n6 : ∀ b ∈ fp, H5 b = none := fun b hb => by
        obtain ⟨o, e, _⟩ := T.obj _ _ st2 b hb
        exact (pin' b hb o e).2
      refine seg_at (seg_yield rfl rfl rfl ⟨c, rfl, ?_⟩)
      cases c with
      | true =>
        obtain ⟨m', hm', w'⟩ := hNx H5 q5
        refine .inl ⟨rfl, ⟨i + 1, m', H5, I6, st6, n6, w', by omega⟩, fun s' z => ?_⟩
        exact seg_again rfl (ih s' s' ⟨i + 1, m', H5, inv_woke I6 z, by rw [z.heap]; exact st6, n6, w', by omega⟩)
      | false => exact .inr ⟨rfl, _, H5, I6, q5⟩
theorem seg_begin {A : Around} {P : Program} {w : World} {K : PySem.W.Frag} {elt tg iter : Expr} {scope : Scope} {pos : Pos} {it : Addr} {GX : Cx} {n : Nat} {s₀ s : Shared} {R : GenEnd} {Y : Protocol} {i : Nat}
    (T : Turn P w K tg J fp it tn) (st : tn i s.heap)
    (loop : Seg (model P w) A R Y n s₀ (.compLoop (.GeneratorExp elt [⟨tg, iter, [], 0⟩] scope pos) 0 (.ref it) .none GX.env) ((model P w).den (.compLoop (.GeneratorExp elt [⟨tg, iter, [], 0⟩] scope pos) 0 (.ref it) .none GX.env)) [] s) :
      Seg (model P w) A R Y n s₀ (.compStart (.GeneratorExp elt [⟨tg, iter, [], 0⟩] scope pos) 0 (.ref it) .none GX.env)
        ((model P w).den (.compStart (.GeneratorExp elt [⟨tg, iter, [], 0⟩] scope pos) 0 (.ref it) .none GX.env)) [] s := by
  show Seg _ A _ _ _ s₀ _ ((compStart (.GeneratorExp elt [⟨tg, iter, [], 0⟩] scope pos) 0 (.ref it) .none GX.env).onRaise (leaving GX.env)) [] s
  unfold compStart
  rw [Sem.onRaise_eq_wrap]
  show Seg _ A _ _ _ s₀ _ ((ask >>= _).wrap _ _ _ _) [] s
  refine seg_bind_wrap (wpAny_askSetting ?_)
  split
  · exact seg_again rfl loop
  · first
      | exact seg_bind_wrap (wpAny_rule (seg_bind_wrap (wpAny_standAt (seg_bind_wrap (T.self _ i s _ _ st (seg_again rfl loop))))))
      | (refine seg_bind_wrap (wpAny_rule ?_); show Seg _ A _ _ _ s₀ _ ((standAt iter.pos >>= _).wrap _ _ _ _) [] s; exact seg_bind_wrap (wpAny_standAt (seg_bind_wrap (T.self _ i s _ _ st (seg_again rfl loop)))))

theorem all_loop {A : Around} {P : Program} {w : World} {GX : Cx} {a : Addr} {g : Nat} {go : Obj} {R : Result → Shared → Prop}
    (hh : A.handled = none) (hd : A.depth < recursionLimit) (hgo : ∀ h : Heap, h.get? a = some go → h.IsGen a g) (hpn : (a, go) ∈ GX.pn)
    (hT : ∀ σ H s', Inv GX [] σ H s' → Ft H → R (.ok (.ret (.bool true))) s') (hF : ∀ σ H s', Inv GX [] σ H s' → Ff H → R (.ok (.ret (.bool false))) s') :
    ∀ (n : Nat) (s : Shared), s.heap.IsGen a g → s.heap.NoLimit →
      (∃ gs, s.gens[g]? = some gs ∧ gs.Goes (model P w) A.in1.in1 (Ep GX Ft) (Yp GX fp tn σ0 W Ff) n (.send .none) (s.setGen g .running)) →
      codeAny (model P w) A (.builtin "all.loop" ⟨[.ref a], []⟩) R s := by
  have goes : ∀ {gs : GenState} {B : Around} {n : Nat} {r : Resume} {s : Shared}, gs.Goes (model P w) B (Ep GX Ft) (Yp GX fp tn σ0 W Ff) n r s →
      gs.Goes (model P w) B (fun n s₀ r s₁ => r = .ok .next ∧ (fun (_ : Nat) (_ : Shared) s₁ => ∃ σ H, Inv GX [] σ H s₁ ∧ Ft H) n s₀ s₁) (Yp GX fp tn σ0 W Ff) n r s := fun h => h
  have pinned : ∀ {σ H s'}, Inv GX [] σ H s' → s'.heap.IsGen a g := fun {σ H s'} J => hgo _ (J.pin (a, go) (List.mem_append_left _ hpn)).1
  intro n
  induction n with
  | zero =>
    intro s hg hl ⟨gs, hgs, hgo'⟩
    refine codeAny_builtin F.entry_all_loop ?_
    rw [Around.under_plainId F.plain_all_loop _]
    show wpAny _ A.in1 (pyNext (.ref a) >>= _) _ _ s
    refine wpAny_bind (wpAny_pyNext_genexpQ (A := A.in1) hh hl hd hg hgs (goes hgo') (fun v s₁ gs' hbare hv => ?_) (fun s₁ hp h' hk => ?_))
    · obtain ⟨c, rfl, h⟩ := hv
      refine wpAny_bind (wpAny_holding (wpAny_truthy_bool ?_))
      refine wpAny_bind (wpAny_letGo ?_)
      rcases h with ⟨rfl, _, hk⟩ | ⟨rfl, σ, H, I, ff⟩
      · exact False.elim (hk s₁ ⟨rfl, rfl, (by
          obtain ⟨_, _, _, I1, _⟩ := ‹At _ _ _ _ _ _ _›
          exact I1.bare)⟩)
      · simp only [Bool.false_eq_true, if_false]
        refine wpAny_bind (wpAny_rule (wpAny_pure ?_))
        exact hF σ H _ (inv_woke I ⟨rfl, rfl, allBare_setGen I.bare hbare⟩) ff
    · obtain ⟨σ, H, I, ft⟩ := hp
      refine wpAny_bind (wpAny_rule (wpAny_pure ?_))
      have I2 : Inv GX [] σ H (s₁.setGen g .finished) := inv_woke I ⟨rfl, rfl, allBare_setGen I.bare rfl⟩
      exact hT σ H _ (I2.call' (ch := []) rfl (Un.kept hk) (I2.hok.kept hk) I2.bare fun b hb => by simp at hb) ft
  | succ n ih =>
    intro s hg hl ⟨gs, hgs, hgo'⟩
    have hgl : g < s.gens.size := (Array.getElem?_eq_some_iff.mp hgs).1
    refine codeAny_builtin F.entry_all_loop ?_
    rw [Around.under_plainId F.plain_all_loop _]
    show wpAny _ A.in1 (pyNext (.ref a) >>= _) _ _ s
    refine wpAny_bind (GenW.wpAny_gsz (n := g + 1) hgl (wpAny_pyNext_genexpQ (A := A.in1) hh hl hd hg hgs (goes hgo') (fun v s₁ gs' hbare hv => ?_) (fun s₁ hp h' hk => ?_)))
    · intro hsz
      obtain ⟨c, rfl, h⟩ := hv
      refine wpAny_bind (wpAny_holding (wpAny_truthy_bool ?_))
      refine wpAny_bind (wpAny_letGo ?_)
      rcases h with ⟨rfl, hat, hk⟩ | ⟨rfl, σ, H, I, ff⟩
      · simp only [if_true]
        obtain ⟨_, _, _, I1, _⟩ := id hat
        have hsz1 : g < s₁.gens.size := by
          have q : (s₁.setGen g gs').gens.size = s₁.gens.size := GenW.setGen_size _ _ _
          have hsz' : g + 1 ≤ (s₁.setGen g gs').gens.size := hsz
          omega
        refine wpAny_pure ⟨plainId_quiet F.plain_all_loop _, ih (s₁.setGen g gs') (show s₁.heap.IsGen a g from pinned I1) (show s₁.heap.NoLimit from I1.nolimit) ⟨gs', setGen_at hsz1, ?_⟩⟩
        exact hk _ ⟨rfl, rfl, allBare_setGen (allBare_setGen I1.bare hbare) rfl⟩
      · simp only [Bool.false_eq_true, if_false]
        refine wpAny_bind (wpAny_rule (wpAny_pure ?_))
        exact hF σ H _ (inv_woke I ⟨rfl, rfl, allBare_setGen I.bare hbare⟩) ff
    · intro _
      obtain ⟨σ, H, I, ft⟩ := hp
      refine wpAny_bind (wpAny_rule (wpAny_pure ?_))
      have I2 : Inv GX [] σ H (s₁.setGen g .finished) := inv_woke I ⟨rfl, rfl, allBare_setGen I.bare rfl⟩
      exact hT σ H _ (I2.call' (ch := []) rfl (Un.kept hk) (I2.hok.kept hk) I2.bare fun b hb => by simp at hb) ft
end

/-- all(elt for tg in iter), its element True or False; behind it the def's table may have grown.
W by the turn and a measure; a turn that gives False ends it -/
def tAllG (P : Addr) (wi : TI) (g : TG) (te : TE) (caps : List (Str × Nat)) : TE := fun σ H Q => wi σ H fun J H1 => TabG H1 P ∧ ∀ H2, Tabbed P H1 H2 →
  ∃ W : Nat → Nat → Hp → Prop, (∃ m, W 0 m H2) ∧ ∀ i m H, W i m H → (J.stop i H ∧ Q (.bl true) H) ∨
    (J.go i H ∧ ∃ Nx : Hp → Prop, (∀ H', Nx H' → ∃ m', m' < m ∧ W (i + 1) m' H') ∧ ∀ x H', J.yld i H x H' → g x (none :: capV σ caps) H' fun σ2 H3 =>
      (∀ (j : Nat) v, (none :: capV σ caps : L2.St)[j]? = some (some v) → σ2[j]? = some (some v)) ∧ te σ2 H3 fun y H5 => ∃ c, y = .bl c ∧ if c = true then Nx H5 else Q (.bl false) H5)

theorem pe_allG {X : Cx} {c P : Addr} {elt tg iter : Expr} {x : Str} {p pos gpos : Pos} {scope : Scope} {wi : TI} {g : TG} {te : TE} {k : Nat} {caps : List (Str × Nat)}
    (hr : Room (k + 1) X.A) (hg : Gl X "all") (hm : X.mg "all" = none) (TB : TabB X.base X.mg c P) (hcode : X.env.code = .ref c) (S : GenS X.env scope x) (C : Caps X scope caps) (hi : PI X tg iter wi) (hcalm : X.calm = true)
    (pg : ∀ (s : Shared) (H : Hp) (a : Addr) (code : Value) (fp : List Addr) (pn : List (Addr × Obj)), PG (gx X (x :: capN caps) s H (genEnv scope (cloFrom X.env.cells scope.names []) a code builtinsNs X.env) fp pn) tg g)
    (pe : ∀ (s : Shared) (H : Hp) (a : Addr) (code : Value) (fp : List Addr) (pn : List (Addr × Obj)), Room k (gx X (x :: capN caps) s H (genEnv scope (cloFrom X.env.cells scope.names []) a code builtinsNs X.env) fp pn).A → PE (gx X (x :: capN caps) s H (genEnv scope (cloFrom X.env.cells scope.names []) a code builtinsNs X.env) fp pn) elt te)
    (hb : bootBuiltins "all" = some (.builtin "all") := by decide +kernel)
    (hs : ∀ v, genFold iter X.env v = pure v := by intro _; rfl)
    (he : starEach [.GeneratorExp elt [⟨tg, iter, [], 0⟩] scope gpos] X.env = (false, eval (.GeneratorExp elt [⟨tg, iter, [], 0⟩] scope gpos) X.env) :: starEach [] X.env := by rfl) :
    PE X (.Call (.Name "all" p) [.GeneratorExp elt [⟨tg, iter, [], 0⟩] scope gpos] [] pos) (tAllG P wi g te caps) := by
  refine ⟨fun pins s σ H Q I h => ?_⟩
  refine wpAny_Call_Name_kw (ld_blt I hg hm hb ?_)
  refine PyProof.Rows.callWith_builtin1 ?_ he (by rfl)
  rw [he]
  show wpAny _ _ (spliced ((false, eval (.GeneratorExp elt [⟨tg, iter, [], 0⟩] scope gpos) X.env) :: backTo pos (starEach [] X.env))) _ _ s
  refine Calls.spliced_cons ?_
  refine wpAny_mono (Q := fun v s5 => wpAny (model X.prog X.w) X.A (call (.builtin "all") [v]) (EP X pins σ Q) X.xe s5) ?_ (fun v s5 hq => Calls.spliced_nil hq) fun _ _ h => h
  refine wpAny_GeneratorExp_make S.co (closure_ok S.free) S.cell S.dot S.kind (by have := hr.dp; omega) ?_ hs
  refine thn (hi.run pins s σ H _ I h) fun xv s1 h1 => thn h1 fun itv s2 h2 => ?_
  obtain ⟨it, fp, tn, J, H2, ei, I2, T, st2, f2, ⟨ps, hP, ht⟩, q⟩ := h2
  subst ei
  refine ⟨I2.nolimit, ?_⟩
  have hPs : s2.heap.get? P = some { cls := .none, data := .fields ps } := I2.hok P _ hP
  have hPlt : P < s2.heap.objs.size := Heap.lt_size hPs
  have cd : PySem.W.CodeHd s2.heap c P := TB.code.keeps fun b u e => I2.bk b u e
  have lim2 : s2.heap.NoLimit := I2.nolimit
  have fpP : ∀ b ∈ fp, b ≠ P := fun b hb z => by
    have q := (f2 b hb).1
    rw [z, hP] at q
    cases q
  have cont : ∀ (code : Value) (h3 : Heap) (tk : Nat) (ps' : Array Value), Heap.ExtBut P s2.heap h3 → s2.heap.objs.size ≤ h3.objs.size → h3.get? P = some { cls := .none, data := .fields ps' } → (∃ more, ps' = ps ++ more) → TriplesOk ps'.toList →
      wpAny (model X.prog X.w) X.A (builtinsFor X.env.globals X.env.builtins) (fun bi s₄ =>
        ∀ h', h'.Ns s₄.heap.objs.size (fun y => if y = ".0" then some (.ref it) else none) → Heap.SameBut s₄.heap.objs.size (s₄.heap.push { cls := .type "frame", data := .dict #[] }) h' →
          wpAny (model X.prog X.w) X.A (call (.builtin "all") [.ref h'.objs.size]) (EP X pins σ Q) X.xe { s₄ with
            gens := s₄.gens.push (.fresh (.compStart (.GeneratorExp elt [⟨tg, iter, [], 0⟩] scope gpos) 0 (.ref it) .none (genEnv scope (cloFrom X.env.cells scope.names []) s₄.heap.objs.size code bi X.env))),
            toks := s₄.toks + 1 + 1 + 1,
            heap := h'.push { cls := .type "generator", data := .fields #[.int s₄.gens.size 0, .str "<genexpr>" (s₄.toks + 1), .str (X.env.qual ++ "<genexpr>") (s₄.toks + 1 + 1)] } }) X.xe { s2 with heap := h3, toks := tk } := by
    intro code h3 tk ps' hx hsz hP3 hmore ht3
    obtain ⟨bm, ob, e1, e2, e3, e4, e5, e6, e7, e8⟩ := TB.bm
    obtain ⟨more, em⟩ := hmore
    have keep3 : ∀ b u, b ≠ P → s2.heap.get? b = some u → h3.get? b = some u := fun b u hb e => hx b u hb e
    refine wpAny_builtinsFor (m := X.mg) (by rw [I2.ok.glob]; exact (I2.mod.glob.keeps I2.bk).extBut hx TB.gP) e1 e2 (keep3 _ _ e4 (I2.bk _ _ e5)) e6 e7 e8 ?_
    have I4 : Inv X pins σ (upd H2 P (.tbl (ps ++ more))) { s2 with heap := h3, toks := tk } := inv_tab (g' := s2.gens) (d' := s2.drawn) I2 hP keep3 (by rw [← em]; exact hP3) I2.bare
    obtain ⟨W, ⟨m0, w0⟩, turn⟩ := q (upd H2 P (.tbl (ps ++ more))) ⟨⟨ps ++ more, upd_same, by rw [← em]; exact ht3⟩, fun b hb => upd_ne hb⟩
    generalize hs4 : ({ s2 with heap := h3, toks := tk } : Shared) = s4 at I4 ⊢
    have g4 : s4.gens = s2.gens := by rw [← hs4]
    have hh4 : s4.heap = h3 := by rw [← hs4]
    intro h' hn' hs'
    have hz' : h'.objs.size = s4.heap.objs.size + 1 := by rw [hs'.1, Heap.size_push]
    generalize hgo : ({ cls := .type "generator", data := .fields #[.int s4.gens.size 0, .str "<genexpr>" (s4.toks + 1), .str (X.env.qual ++ "<genexpr>") (s4.toks + 1 + 1)] } : Obj) = go
    have isG : ∀ h : Heap, h.get? h'.objs.size = some go → h.IsGen h'.objs.size s4.gens.size := fun h e => ⟨go, _, _, e, by rw [← hgo], by rw [← hgo], by rw [← hgo]⟩
    have keep' : ∀ b o, s4.heap.get? b = some o → h'.get? b = some o := fun b o e => hs'.extBut b o (Nat.ne_of_lt (Heap.lt_size e)) (Heap.get?_push_of_some _ e)
    have keep5 : ∀ b o, s4.heap.get? b = some o → (h'.push go).get? b = some o := fun b o e => Heap.get?_push_of_some _ (keep' b o e)
    have hpush : (h'.push go).get? h'.objs.size = some go := by
      rw [← hgo]
      exact Heap.get?_push_size _ rfl
    generalize hs5 : ({ s4 with gens := s4.gens.push (.fresh (.compStart (.GeneratorExp elt [⟨tg, iter, [], 0⟩] scope gpos) 0 (.ref it) .none (genEnv scope (cloFrom X.env.cells scope.names []) s4.heap.objs.size code builtinsNs X.env))), toks := s4.toks + 1 + 1 + 1, heap := h'.push go } : Shared) = s5
    have h5h : s5.heap = h'.push go := by rw [← hs5]
    have h5g : s5.gens = s4.gens.push (.fresh (.compStart (.GeneratorExp elt [⟨tg, iter, [], 0⟩] scope gpos) 0 (.ref it) .none (genEnv scope (cloFrom X.env.cells scope.names []) s4.heap.objs.size code builtinsNs X.env))) := by rw [← hs5]
    have b5 : AllBare s5.gens := by rw [h5g]; exact AllBare.push I4.bare rfl
    have f4 : ∀ b ∈ fp, FpOk X pins (upd H2 P (.tbl (ps ++ more))) b ∧ b < s4.heap.objs.size := fun b hb => by
      refine ⟨⟨?_, (f2 b hb).2⟩, ?_⟩
      · rw [upd_ne (fpP b hb)]
        exact (f2 b hb).1
      · obtain ⟨o, e, _⟩ := T.obj _ _ st2 b hb
        rw [hh4]
        exact Nat.lt_of_lt_of_le (Heap.lt_size e) hsz
    have I5 := gen_start (s5 := s5) (go := go) (code := code) (fp := fp) I4 S C hr.hd f4 (by rw [← hs5]) b5 (by rw [h5h]; exact keep5) (by rw [h5h]; exact hn'.push _) (by rw [h5h, ← hz']; exact hpush) (fun v z => by rw [← hgo] at z; cases z)
    have st5 : tn 0 s5.heap := T.keep _ _ _ st2 fun b hb o e => by
      rw [h5h]
      exact keep5 b o (by rw [hh4]; exact keep3 b o (fpP b hb) e)
    have n5 : ∀ b ∈ fp, upd H2 P (.tbl (ps ++ more)) b = none := fun b hb => (f4 b hb).1.1
    have hpn : ∀ p ∈ [(s4.heap.objs.size + 1, go)], ∀ b ∈ fp, p.1 ≠ b := fun p hp b hb z => by
      rw [List.mem_singleton.mp hp] at z
      have := (f4 b hb).2
      have z' : s4.heap.objs.size + 1 = b := z
      rw [← z'] at this
      exact absurd (Nat.lt_of_succ_lt this) (Nat.lt_irrefl _)
    rw [hz'] at isG hpush ⊢
    have back : ∀ {σ' : L2.St} {H' : Hp} {s' : Shared}, Inv (gx X (x :: capN caps) s4 (upd H2 P (.tbl (ps ++ more))) (genEnv scope (cloFrom X.env.cells scope.names []) s4.heap.objs.size code builtinsNs X.env) fp [(s4.heap.objs.size + 1, go)]) [] σ' H' s' → Inv X pins σ H' s' := fun {σ' H' s'} J =>
      I4.call' (ch := fp) J.os J.base J.hok J.bare fun b hb => ⟨(f4 b hb).1.2.2.2.1, (f4 b hb).1.2.1, (f4 b hb).1.2.2.2.2.1, (f4 b hb).1.2.2.2.2.2⟩
    have rmk : Room k (X.A.in1.in1.deeper (genEnv scope (cloFrom X.env.cells scope.names []) s4.heap.objs.size code builtinsNs X.env)) := ⟨hr.hd, by have := hr.dp; show X.A.depth + 1 + 3 * k + 5 < _; omega, by have := hr.un; show X.A.units + 1 + 1 + 3 + 16 * k + 200 < _; omega⟩
    have hg5 : s5.heap.IsGen (s4.heap.objs.size + 1) s4.gens.size := isG _ (by rw [h5h]; exact hpush)
    refine call_function_tree F.kind_all F.plain_all F.entry_all (F.args_all1 _) ?_
    unfold Builtin.«all»
    refine wpAny_bind (m := oneArg "all" _) (wpAny_pure ?_)
    refine wpAny_bind (wpAny_pyIter_gen hg5 ?_)
    refine wpAny_pure ⟨plainId_quiet F.plain_all_loop _, ?_⟩
    refine all_loop (GX := gx X (x :: capN caps) s4 (upd H2 P (.tbl (ps ++ more))) (genEnv scope (cloFrom X.env.cells scope.names []) s4.heap.objs.size code builtinsNs X.env) fp [(s4.heap.objs.size + 1, go)]) (fp := fp) (tn := tn) (σ0 := none :: capV σ caps) (W := W) (Ft := fun H' => Q (.bl true) H') (Ff := fun H' => Q (.bl false) H')
      (go := go) hr.hd (by have := hr.dp; omega) isG (List.mem_singleton.mpr rfl) (fun σ' H' s' J ft => ?_) (fun σ' H' s' J ff => ?_) (m0 + 1) s5 hg5 I5.nolimit ⟨.fresh (.compStart (.GeneratorExp elt [⟨tg, iter, [], 0⟩] scope gpos) 0 (.ref it) .none (genEnv scope (cloFrom X.env.cells scope.names []) s4.heap.objs.size code builtinsNs X.env)), by rw [h5g]; exact Array.getElem?_push_size .., ⟨rfl, ?_⟩⟩
    · exact ⟨.bl true, H', back J, rfl, ft⟩
    · exact ⟨.bl false, H', back J, rfl, ff⟩
    · have I5' : Inv (gx X (x :: capN caps) s4 (upd H2 P (.tbl (ps ++ more))) (genEnv scope (cloFrom X.env.cells scope.names []) s4.heap.objs.size code builtinsNs X.env) fp [(s4.heap.objs.size + 1, go)]) [] (none :: capV σ caps) (upd H2 P (.tbl (ps ++ more))) (s5.setGen s4.gens.size .running) := inv_woke I5 ⟨rfl, rfl, allBare_setGen b5 rfl⟩
      refine seg_begin (GX := gx X (x :: capN caps) s4 (upd H2 P (.tbl (ps ++ more))) (genEnv scope (cloFrom X.env.cells scope.names []) s4.heap.objs.size code builtinsNs X.env) fp [(s4.heap.objs.size + 1, go)]) T (i := 0) st5 ?_
      refine seg_loop (A := X.A.in1.in1) (GX := gx X (x :: capN caps) s4 (upd H2 P (.tbl (ps ++ more))) (genEnv scope (cloFrom X.env.cells scope.names []) s4.heap.objs.size code builtinsNs X.env) fp [(s4.heap.objs.size + 1, go)]) rfl rfl rfl rfl hcalm rfl rfl hpn S.co T (pg s4 _ _ code fp _) (pe s4 _ _ code fp _ rmk) turn (m0 + 1) _ _ ⟨0, m0, _, I5', st5, n5, w0, Nat.lt_succ_self _⟩
  cases hf : codeAmong gpos ps.toList with
  | none =>
    refine wpAny_genexprCodeX hcode (cd.code hPs ht) (cd.tab hPs) hf fun c' h' tk hx hge hlt hco' _ htab' _ => ?_
    obtain ⟨o1, vs, f1, tf, fl, tg', inF, tx, tt, op, _, _, _, _, _, _, _, _, _, htr, _⟩ := hco'
    exact cont _ h' tk _ hx (Nat.le_trans hge (Nat.le_of_lt hlt)) htab'.2 ⟨_, rfl⟩ htr
  | some cv =>
    refine wpAny_genexprCode_hit hcode (cd.code hPs ht) hf ?_
    exact cont cv s2.heap s2.toks ps (Heap.ExtBut.refl _ _) (Nat.le_refl _) hPs ⟨#[], by simp⟩ ht
end Gx

/-! Promises of defs that are called where no repr is under way: room and no guards. -/
namespace Gd
open PySem PySem.Spec PyProof.Rows L2 GxR Gx

structure RoomG (k : Nat) (A : Around) : Prop where
  r : Room k A
  g : A.guards = some []
theorem RoomG.mono {j k : Nat} {A : Around} (r : RoomG k A) (h : j ≤ k) : RoomG j A := ⟨r.r.mono h, r.g⟩
theorem RoomG.deeper {k : Nat} {A : Around} (r : RoomG (k + 1) A) (env : Env) : RoomG k (A.deeper env) := ⟨r.r.deeper env, r.g⟩

/-- a def's promise, kept wherever no guard is up -/
structure FnG (P : Program) (w : World) (K : PySem.W.Frag) (mg : Str → Option Value) (base : Heap) (CX : CXT) (k : Nat) (f : Addr) (fd : FuncData) (ps : List Str) (sp : Sp) : Prop where
  len : ∀ vs H Q E, sp vs H Q E → vs.length = ps.length
  run : ∀ (A : Around) (outer : List Env) (s : Shared) (H : Hp) (args : Args) (us : List Value) (vs : List V) (Q : VK) (E : XK), RoomG k A → Env0 P w K mg base A outer s H → BindsTo s fd args (ps.zip us) → Vals vs us → sp vs H Q E →
    codeAny (model P w) A (.call (.ref f) args) (CR CX outer P w H s Q E) s

section
variable {P : Program} {w : World} {K : PySem.W.Frag} {mg : Str → Option Value} {base : Heap} {CX : CXT} {k : Nat} {f : Addr} {fd : FuncData} {ps : List Str} {sp : Sp}

theorem FnG.mono {j : Nat} (F : FnG P w K mg base CX j f fd ps sp) (h : j ≤ k) : FnG P w K mg base CX k f fd ps sp := ⟨F.len, fun A outer s H args us vs Q E hr => F.run A outer s H args us vs Q E (hr.mono h)⟩
theorem FnG.imp {sp' : Sp} (F : FnG P w K mg base CX k f fd ps sp) (h : ∀ vs H Q E, sp' vs H Q E → sp vs H Q E) : FnG P w K mg base CX k f fd ps sp' :=
  ⟨fun vs H Q E q => F.len vs H Q E (h _ _ _ _ q), fun A outer s H args us vs Q E hr he hb hv hs => F.run A outer s H args us vs Q E hr he hb hv (h _ _ _ _ hs)⟩
/-- a promise kept everywhere -/
theorem FnG.of (F : FnOk P w K mg base CX k f fd ps sp) : FnG P w K mg base CX k f fd ps sp := ⟨F.len, fun A outer s H args us vs Q E hr => F.run A outer s H args us vs Q E hr.r⟩
/-- nothing is raised: any word for what is raised will do -/
theorem FnG.calm0 {CX' : CXT} (F : FnG P w K mg base CX0 k f fd ps sp) : FnG P w K mg base CX' k f fd ps sp := ⟨F.len, fun A outer s H args us vs Q E hr he hb hv hs => codeAny_mono (F.run A outer s H args us vs Q E hr he hb hv hs) fun r s' q => by
  cases r with
  | error e => exact False.elim q
  | ok fl => cases fl <;> exact q⟩

theorem fnG_of {name qual : Str} {params : Arguments} {body : List Stmt} {scope : Scope} {dV kV doc pm cdv ct oc : Value} {an od : Option Addr} {osl : Array (Option Value)} {N : List Str}
    (lk : K.lookup f = some ⟨oc, od, .func (PySem.W.fnOf name qual params body scope dV kV doc pm an cdv ct), osl⟩) (hcd : PySem.W.codeIn K cdv qual = true) (S : FnScope N ps scope) (len : ∀ vs H Q E, sp vs H Q E → vs.length = ps.length)
    (hbody : ∀ (A : Around) (outer : List Env) (s : Shared) (H : Hp) (vs : List V) (Q : VK) (E : XK), RoomG k (A.deeper (envOfC qual scope s.heap.objs.size f cdv)) → sp vs H Q E →
      ∃ t, PSs (cxOf CX P w K mg base N qual scope f cdv A outer s H E) body t ∧ t { nx := fun _ H' => Q .non H', rt := Q } (start N vs) H) :
    FnG P w K mg base CX (k + 1) f (PySem.W.fnOf name qual params body scope dV kV doc pm an cdv ct) ps sp := by
  refine ⟨len, fun A outer s H args us vs Q E hr e0 hb r hsp => ?_⟩
  have kin : K.In s.heap := e0.mod.kin.keeps fun b o e => (e0.bs b o e).1
  have lim : s.heap.NoLimit := e0.mod.nolimit.keeps fun b o e => (e0.bs b o e).1
  have par : ∀ y ∈ ps.zip us, scope.names.lookup y.1 = some .local ∨ (scope.names.lookup y.1 = some .cell ∧ ((cellsFrom (s.heap.objs.size + 1) scope.names []).lookup y.1).isSome = true) := fun ⟨n, v⟩ hy => by
    have hn := (List.of_mem_zip hy).1
    rcases S.par n hn with q | q
    · exact .inl q
    · exact .inr ⟨q, PySem.W.cellsFrom_some _ _ _ (.inl q)⟩
  refine codeAny_call_function hr.r.depth (kin _ _ lk) rfl S.co S.gen rfl (PySem.W.codeRec_of kin hcd) (hb _ _ _ _ ?_)
  refine wpAny_newFunctionEnv_cells S.kind par fun env he s1 x => ?_
  subst he
  refine ⟨lim.keeps x.toInCall.keep, codeAny_func ?_⟩
  obtain ⟨t, ht, hq⟩ := hbody A outer s H vs Q E (hr.deeper _) hsp
  refine wpAny_mono (ht.run [] s1 (start N vs) H _ (inv_start S hr.r.hd e0 (len _ _ _ _ hsp) r x) hq) (fun fl s' hs => ?_) fun e s' hs => hs
  cases fl with
  | ret u =>
    obtain ⟨v, σ', H', J, rv, q⟩ := hs
    exact ⟨v, H', J.os, J.bare, J.base, J.hok, rv, q⟩
  | next =>
    obtain ⟨σ', H', J, q⟩ := hs
    exact ⟨.non, H', J.os, J.bare, J.base, J.hok, rfl, q⟩
  | brk =>
    obtain ⟨_, _, _, q⟩ := hs
    exact q.elim
  | cont =>
    obtain ⟨_, _, _, q⟩ := hs
    exact q.elim
end

section
variable {P : Program} {w : World} {K : PySem.W.Frag} {mg : Str → Option Value} {base : Heap}
/-- a def that lets nothing out, by its body -/
theorem okG {x qual : Str} {st : Stmt} {f : Addr} {fd : FuncData} {N ps : List Str} {k : Nat} {sp : Sp} (F : Fun K x qual st f fd) (S : FnScope N ps (defScope st)) (len : ∀ vs H Q E, sp vs H Q E → vs.length = ps.length)
    (hbody : ∀ (cdv : Value) (A : Around) (outer : List Env) (s : Shared) (H : Hp) (vs : List V) (Q : VK) (E : XK), RoomG k (A.deeper (envOfC qual (defScope st) s.heap.objs.size f cdv)) → sp vs H Q E →
      ∃ t, PSs (cxOf CX0 P w K mg base N qual (defScope st) f cdv A outer s H E).nox (defBody st) t ∧ t { nx := fun _ H' => Q .non H', rt := Q } (start N vs) H) : FnG P w K mg base CX0 (k + 1) f fd ps sp := by
  obtain ⟨oc, od, kV, doc, pm, an, cdv, ct, osl, rfl, lk, hcd⟩ := F.ex
  refine fnG_of lk hcd S len fun A outer s H vs Q E hr hsp => ?_
  obtain ⟨t, h, q⟩ := hbody cdv A outer s H vs Q E hr hsp
  exact ⟨t, h.nox, q⟩
/-- a def whose code is at c, its table at T -/
theorem okGc {x qual : Str} {st : Stmt} {f c : Addr} {fd : FuncData} {N ps : List Str} {k : Nat} {sp : Sp} (F : Fun K x qual st f fd) (hc : fd.code = .ref c) (S : FnScope N ps (defScope st)) (len : ∀ vs H Q E, sp vs H Q E → vs.length = ps.length)
    (hbody : ∀ (A : Around) (outer : List Env) (s : Shared) (H : Hp) (vs : List V) (Q : VK) (E : XK), RoomG k (A.deeper (envOfC qual (defScope st) s.heap.objs.size f (.ref c))) → sp vs H Q E →
      ∃ t, PSs (cxOf CX0 P w K mg base N qual (defScope st) f (.ref c) A outer s H E).nox (defBody st) t ∧ t { nx := fun _ H' => Q .non H', rt := Q } (start N vs) H) : FnG P w K mg base CX0 (k + 1) f fd ps sp := by
  obtain ⟨oc, od, kV, doc, pm, an, cdv, ct, osl, rfl, lk, hcd⟩ := F.ex
  obtain rfl : cdv = .ref c := hc
  refine fnG_of lk hcd S len fun A outer s H vs Q E hr hsp => ?_
  obtain ⟨t, h, q⟩ := hbody A outer s H vs Q E hr hsp
  exact ⟨t, h.nox, q⟩
/-- a def that may raise -/
theorem okGX {x qual : Str} {st : Stmt} {f : Addr} {fd : FuncData} {N ps : List Str} {k : Nat} {sp : Sp} (F : Fun K x qual st f fd) (S : FnScope N ps (defScope st)) (len : ∀ vs H Q E, sp vs H Q E → vs.length = ps.length)
    (hbody : ∀ (cdv : Value) (A : Around) (outer : List Env) (s : Shared) (H : Hp) (vs : List V) (Q : VK) (E : XK), RoomG k (A.deeper (envOfC qual (defScope st) s.heap.objs.size f cdv)) → sp vs H Q E →
      ∃ t, PSs (cxOf (L2.CX P w) P w K mg base N qual (defScope st) f cdv A outer s H E) (defBody st) t ∧ t { nx := fun _ H' => Q .non H', rt := Q } (start N vs) H) : FnG P w K mg base (L2.CX P w) (k + 1) f fd ps sp := by
  obtain ⟨oc, od, kV, doc, pm, an, cdv, ct, osl, rfl, lk, hcd⟩ := F.ex
  exact fnG_of lk hcd S len fun A outer s H vs Q E hr hsp => hbody cdv A outer s H vs Q E hr hsp
end

section
variable {X : Cx} {CX : CXT} {k : Nat} {f : Addr} {fd : FuncData} {ps : List Str} {sp : Sp} {dvs : List V} {ds : List Value} {E : XK} {x : Str} {p pos : Pos} {e : Expr} {es : List Expr} {t : TA}
theorem run_fnG {pins : List (Addr × Obj)} {σ : L2.St} {H : Hp} {s : Shared} {Q : VK} {us : List Value} {vs : List V} (F : FnG X.prog X.w X.K X.mg X.base CX k f fd ps sp) (hr : RoomG k X.A) (hb : Binds X.K fd ps ds) (hd : Vals dvs ds) (hx : Passes CX X E)
    (I : Inv X pins σ H s) (r : Vals vs us) (h : sp (vs ++ dvs) H Q E) : wpAny (model X.prog X.w) X.A (call (.ref f) us) (EP X pins σ Q) X.xe s := by
  have r2 : Vals (vs ++ dvs) (us ++ ds) := r.append hd
  have hl : (us ++ ds).length = ps.length := r2.length ▸ F.len _ _ _ _ h
  refine wpAny_call (codeAny_mono (F.run X.A X.stack s H ⟨us, []⟩ (us ++ ds) (vs ++ dvs) Q E hr I.env0 (hb s us I.kIn hl) r2 h) fun r s' hq => ?_)
  cases r with
  | error e => exact hx pins σ H s e s' I hq
  | ok fl =>
    cases fl with
    | ret u => exact I.after hq
    | next => exact hq.elim
    | brk => exact hq.elim
    | cont => exact hq.elim
theorem pe_callG (F : FnG X.prog X.w X.K X.mg X.base CX k f fd ps sp) (hr : RoomG k X.A) (hg : Gl X x) (hm : X.mg x = some (.ref f)) (hk : PySem.W.keepIn X.K (.ref f) = true) (hb : Binds X.K fd ps ds) (hd : Vals dvs ds) (hx : Passes CX X E)
    (ha : PA X (e :: es) t) (hdb : (x == ("__debug__" : Str)) = false := by decide) (he : starEach (e :: es) X.env = (false, eval e X.env) :: starEach es X.env := by rfl) (hpl : (backTo pos (starEach es X.env)).any (·.1) = false := by rfl) :
    PE X (.Call (.Name x p) (e :: es) [] pos) (tCall sp dvs E t) := by
  refine ⟨fun pins s σ H Q I h => wpAny_Call_Name_kw (ld_glob I hg hm ?_ hdb)⟩
  refine PySem.W.callWith_K (h₀ := X.base) I.ok.mod.kin hk (thn (ha.run pos pins s σ H _ I h) fun us s1 ⟨vs, H1, I1, r, q⟩ => ⟨I1.kIn, run_fnG F hr hb hd hx I1 r q⟩) he hpl
theorem pe_call0G (F : FnG X.prog X.w X.K X.mg X.base CX k f fd ps sp) (hr : RoomG k X.A) (hg : Gl X x) (hm : X.mg x = some (.ref f)) (hk : PySem.W.keepIn X.K (.ref f) = true) (hb : Binds X.K fd ps ds) (hd : Vals dvs ds) (hx : Passes CX X E)
    (hdb : (x == ("__debug__" : Str)) = false := by decide) : PE X (.Call (.Name x p) [] [] pos) (tCall sp dvs E tNil) :=
  ⟨fun pins s σ H Q I h => wpAny_Call_Name_kw (ld_glob I hg hm (PySem.W.callWith_K0 I.kIn hk (run_fnG (us := []) F hr hb hd hx I .nil h)) hdb)⟩
end

/-! ### repr of data of any depth -/
section
variable {X : Cx}
/-- repr(x), x data: its text -/
def rRepr (K : PySem.W.Frag) : List V → Hp → VK → Prop := fun xs H Q => ∃ v d, xs = [v] ∧ Dp K H v d ∧ d.showable = true ∧ d.hasDict = false ∧ d.depth ≤ 64 ∧ d.shown.length ≤ sizeLine ∧ Q (.str d.shown) H
theorem call_repr (hu : X.A.units + 66 < cLine) (hg : X.A.guards = some []) : CallR X (.builtin "repr") (rRepr X.K) := by
  intro pins s σ H xs us Q I r h
  obtain ⟨v, d, rfl, hd, hs, hnd, hdp, hsz, q⟩ := h
  obtain ⟨u, rfl, ru⟩ := vals1 r
  obtain ⟨as, rd⟩ := Dp.reads I d v u hd ru
  cases hd with
  | non => cases ru; exact PySem.P.repr_of_none ⟨.str _, H, I.tok _, ⟨_, rfl⟩, q⟩
  | bl b => cases ru; exact PySem.P.repr_of_bool ⟨.str _, H, I.tok _, ⟨_, rfl⟩, q⟩
  | int i =>
    obtain ⟨t, rfl⟩ := ru
    exact PySem.P.repr_of_int (by simpa [PyData.showable] using hs) ⟨.str _, H, I.tok _, ⟨_, rfl⟩, q⟩
  | str x =>
    obtain ⟨t, rfl⟩ := ru
    exact PySem.P.repr_of_str ⟨.str _, H, I.tok _, ⟨_, rfl⟩, q⟩ hsz
  | lst h1 h2 =>
    cases ru
    refine repr_of_reads' rd hs (fun z => absurd (hnd.symm.trans z) (by decide)) hg (by omega) (fun _ _ e => e) (fun h' t tk k => ?_) hsz
    exact ⟨.str _, H, I.kept k, ⟨_, rfl⟩, q⟩
  | tup h1 h2 =>
    cases ru
    refine repr_of_reads' rd hs (fun z => absurd (hnd.symm.trans z) (by decide)) hg (by omega) (fun _ _ e => e) (fun h' t tk k => ?_) hsz
    exact ⟨.str _, H, I.kept k, ⟨_, rfl⟩, q⟩
end
end Gd

/-! The end of a law: the law's def keeps its promise FnG at the caller's around. -/
namespace Gd
open PySem PySem.Spec PyProof.Rows L2 GxR Gx

/-- what the law is entered with: the script, locked, and the defs' tables -/
def entryH (K : PySem.W.Frag) (a : Addr) (T : List Addr) (scr : HO) : Hp := fun b => if b ∈ T then some (.tbl #[]) else if b = a then (if (K.lookup a).isSome = true then none else some scr) else none
theorem entryH_inv {K : PySem.W.Frag} {a b : Addr} {T : List Addr} {scr u : HO} (h : entryH K a T scr b = some u) : (b ∈ T ∧ u = .tbl #[]) ∨ (b ∉ T ∧ b = a ∧ K.lookup a = none ∧ u = scr) := by
  unfold entryH at h
  by_cases h1 : b ∈ T
  · rw [if_pos h1] at h
    cases h
    exact .inl ⟨h1, rfl⟩
  · rw [if_neg h1] at h
    by_cases h2 : b = a
    · rw [if_pos h2] at h
      by_cases h3 : (K.lookup a).isSome = true
      · rw [if_pos h3] at h
        cases h
      · rw [if_neg h3] at h
        cases h
        refine .inr ⟨h1, h2, ?_, rfl⟩
        cases q : K.lookup a with
        | none => rfl
        | some o => rw [q] at h3; exact absurd rfl h3
    · rw [if_neg h2] at h
      cases h
theorem entryH_tab {K : PySem.W.Frag} {a b : Addr} {T : List Addr} {scr : HO} (h : b ∈ T) : entryH K a T scr b = some (.tbl #[]) := if_pos h
theorem entryH_scr {K : PySem.W.Frag} {a : Addr} {T : List Addr} {scr : HO} (h : a ∉ T) (hk : K.lookup a = none) : entryH K a T scr a = some scr := by
  unfold entryH
  rw [if_neg h, if_pos rfl, hk]
  rfl

section
variable {P : Program} {w : World} {K : PySem.W.Frag} {mg mb : Str → Option Value} {k : Nat} {fa a : Addr} {cs : List (Addr × Addr)} {fd : FuncData} {x : Str} {sp : Sp} {s1 : Shared} {vs : List Value} {ns : List Int} {CX : CXT}
theorem law_endG (kin : K.In s1.heap) (hns : s1.heap.Ns mainGlobals mg) (hb : s1.heap.Ns builtinsNs mb) (hbb : ∀ x : Str, x ≠ "__name__" → mb x = bootBuiltins x) (hlim : s1.heap.NoLimit) (hg : s1.gens = #[])
    (hT : ∀ p ∈ cs, s1.heap.get? p.2 = some { cls := .none, data := .fields #[] }) (nT : ∀ p ∈ cs, K.lookup p.2 = none) (C : ∀ p ∈ cs, PySem.W.CodeHd s1.heap p.1 p.2)
    (hbm : ∃ (bm : Addr) (ob : Obj), mg "__builtins__" = some (.ref bm) ∧ bm ≠ builtinsNs ∧ s1.heap.get? bm = some ob ∧ ob.cls = .type "module" ∧ ob.dict = some builtinsNs ∧ ob.data = .plain)
    (ha : s1.heap.get? a = some { cls := .type "list", data := .seq vs.toArray }) (hi : IntsAre vs ns) (hl : ns.length ≤ sizeLine) (hr : RoomG k callerA)
    (F : ∀ base : Heap, K.In base → base.Ns mainGlobals mg → (∀ p ∈ cs, TabB base mg p.1 p.2) → FnG P w K mg base CX k fa fd [x] sp) (hbind : ∀ (s : Shared) (u : Value), BindsTo s fd ⟨[u], []⟩ [(x, u)])
    (hsp : ∀ H : Hp, (∀ p ∈ cs, H p.2 = some (.tbl #[])) → SqL K H a (ns.map V.int) → sp [.ref a] H (fun v _ => v = .bl true) fun _ _ _ => False)
    (hCX : ∀ H e s', CX [] H s1 (fun _ _ _ => False) e s' → False) :
    codeAny (model P w) callerA (.call (.ref fa) ⟨[.ref a], []⟩) (fun r s' => r = .ok (.ret (.bool true)) ∧ OldK s1.heap s'.heap ∧ s'.os = s1.os ∧ AllBare s'.gens) s1 := by
  have tabAt : ∀ b ∈ cs.map (·.2), s1.heap.get? b = some { cls := .none, data := .fields #[] } := fun b hb => by
    obtain ⟨p, hp, rfl⟩ := List.mem_map.mp hb
    exact hT p hp
  have inT : ∀ p ∈ cs, p.2 ∈ cs.map (·.2) := fun p hp => List.mem_map.mpr ⟨p, hp, rfl⟩
  have aT : a ∉ cs.map (·.2) := fun z => by
    have q := (tabAt a z).symm.trans ha
    cases congrArg Obj.data (Option.some.inj q)
  let H : Hp := entryH K a (cs.map (·.2)) (.frz { cls := .type "list", data := .seq vs.toArray } (.lst (ns.map V.int)))
  have hv : ∀ {b u}, H b = some u → (b ∈ cs.map (·.2) ∧ u = .tbl #[]) ∨ (b ∉ cs.map (·.2) ∧ b = a ∧ K.lookup a = none ∧ u = .frz { cls := .type "list", data := .seq vs.toArray } (.lst (ns.map V.int))) := fun h => entryH_inv h
  have hok : HOk P w H s1.heap := fun b u h => by
    rcases hv h with ⟨h1, rfl⟩ | ⟨_, rfl, _, rfl⟩
    · exact tabAt b h1
    · exact ⟨ha, by rw [List.length_map]; exact hl, vs, _, vals_ints hi, ha⟩
  have plain : ∀ {b : Addr} {o : Obj}, s1.heap.get? b = some o → (∀ xs n, o.data ≠ .seq xs n) → o.data ≠ .fields #[] → H b = none := fun {b o} e h1 h2 => by
    cases q : H b with
    | none => rfl
    | some u =>
      rcases hv q with ⟨h3, _⟩ | ⟨_, rfl, _, _⟩
      · rw [tabAt b h3] at e
        cases e
        exact (h2 rfl).elim
      · rw [ha] at e
        cases e
        exact (h1 _ _ rfl).elim
  have nsK : ∀ {b : Addr} {m : Str → Option Value}, s1.heap.Ns b m → (hidT s1.heap H).Ns b m := fun {b m} ⟨o, es, ep, e, d, r⟩ =>
    ⟨o, es, ep, hidT_get e (plain e (fun xs n z => by rw [d] at z; cases z) fun z => by rw [d] at z; cases z), d, r⟩
  have kinB : K.In (hidT s1.heap H) := fun b o e => hidT_get (kin b o e) (by
    cases q : H b with
    | none => rfl
    | some u =>
      rcases hv q with ⟨h3, _⟩ | ⟨_, rfl, h4, _⟩
      · obtain ⟨p, hp, rfl⟩ := List.mem_map.mp h3
        rw [nT p hp] at e
        cases e
      · rw [h4] at e
        cases e)
  have md : L2.Mod K mg (hidT s1.heap H) := ⟨kinB, nsK hns, ⟨mb, nsK hb, hbb⟩, let ⟨mc, h1, h2⟩ := hlim; ⟨mc, nsK h1, h2⟩⟩
  have noG : ∀ p ∈ cs, mainGlobals ≠ p.2 := fun p hp z => by
    obtain ⟨o, es, ep, e, hd, _⟩ := hns
    rw [z, hT p hp] at e
    cases e
    cases hd
  have tabs : ∀ p ∈ cs, TabB (hidT s1.heap H) mg p.1 p.2 := fun p hp => by
    refine ⟨?_, ?_, noG p hp⟩
    · obtain ⟨o, us, file, tf, flags, tg, inF, text, tt, e1, r1, r2, r3, r4, r5, r6, r7, r8, hne⟩ := C p hp
      exact ⟨o, us, file, tf, flags, tg, inF, text, tt, hidT_get e1 (plain e1 (fun xs n z => by rw [r2] at z; cases z) fun z => by rw [r2] at z; cases z; simp at r3), r1, r2, r3, r4, r5, r6, r7, r8, hne⟩
    · obtain ⟨bm, ob, b1, b2, b3, b4, b5, b6⟩ := hbm
      refine ⟨bm, ob, b1, b2, fun q => ?_, fun q => ?_, hidT_get b3 (plain b3 (fun xs n z => by rw [b6] at z; cases z) fun z => by rw [b6] at z; cases z), b4, b5, b6⟩
      · obtain ⟨o, es, ep, e, hd, _⟩ := hns
        rw [q, e] at b3
        cases b3
        rw [hd] at b6
        cases b6
      · rw [q, hT p hp] at b3
        cases b3
        cases b6
  have seqA : SqL K H a (ns.map V.int) := by
    cases q : K.lookup a with
    | none => exact .inl (.inr ⟨_, entryH_scr aT q⟩)
    | some o =>
      have e := kin a o q
      rw [ha] at e
      cases e
      exact .inr ⟨_, vs.toArray, _, q, rfl, rfl, rfl, by rw [List.size_toArray, hi.length]; exact hl, by simpa using vals_ints hi⟩
  have e0 : Env0 P w K mg (hidT s1.heap H) callerA [] s1 H := ⟨rfl, md, fun b o e => of_hidT e, Nat.le_of_eq (hidT_size _ _), trivial, fun b z => absurd (show b ∈ ([] : List Addr) from z) (by simp), hok, .of_eq hg⟩
  refine codeAny_mono ((F _ kinB (nsK hns) tabs).run callerA [] s1 H ⟨[.ref a], []⟩ [.ref a] [.ref a] _ _ hr e0 (hbind s1 (.ref a)) (.cons rfl .nil) (hsp H (fun p hp => entryH_tab (inT p hp)) seqA)) fun r s' h => ?_
  cases r with
  | error e => exact (hCX H e s' h).elim
  | ok fl =>
    cases fl with
    | next => exact h.elim
    | brk => exact h.elim
    | cont => exact h.elim
    | ret u =>
      obtain ⟨v, H', os, bare, un, hok', r', q⟩ := h
      obtain rfl : v = .bl true := q
      obtain rfl : u = Value.bool true := r'
      have stays : ∀ b o, b ∉ cs.map (·.2) → s1.heap.get? b = some o → s'.heap.get? b = some o := fun b o nb e => by
        cases q : H b with
        | none => exact un.keep b o e q (fun z => absurd (show b ∈ ([] : List Addr) from z) (by simp)) (by simp)
        | some u =>
          rcases hv q with ⟨z, _⟩ | ⟨_, rfl, _, rfl⟩
          · exact absurd z nb
          · rw [ha] at e
            cases e
            exact (hok' b _ (un.frzs b _ _ q)).1
      refine ⟨rfl, ⟨fun b o e => ?_, fun b o e => ?_⟩, os, bare⟩
      · by_cases hm : b ∈ cs.map (·.2)
        · obtain ⟨p, hp, rfl⟩ := List.mem_map.mp hm
          obtain ⟨more, z⟩ := un.tbls p.2 #[] (entryH_tab (inT p hp))
          rw [hT p hp] at e
          cases e
          exact .inr (.inl ⟨((C p hp).tab (hT p hp)).isCodeTable, rfl, #[], more, rfl, by rw [Array.empty_append]; rw [Array.empty_append] at z; exact hok' p.2 _ z⟩)
        · exact .inl (stays b o hm e)
      · by_cases hm : b ∈ cs.map (·.2)
        · obtain ⟨p, hp, rfl⟩ := List.mem_map.mp hm
          obtain ⟨more, z⟩ := un.tbls p.2 #[] (entryH_tab (inT p hp))
          exact ⟨_, hok' p.2 _ z⟩
        · exact ⟨o, stays b o hm e⟩
end

/-- what is known of the law's promise at the head's heap h -/
def LawG (l : PySem.W.OpenLaw) (w : World) (K : PySem.W.Frag) (CX : CXT) (k n : Nat) (x : Str) (mg : Str → Option Value) (fa : Addr) (h : Heap) : Prop :=
  ∃ (fd : FuncData) (cs : List (Addr × Addr)) (sp : Sp), (∀ p ∈ cs, h.get? p.2 = some { cls := .none, data := .fields #[] }) ∧ (∀ p ∈ cs, K.lookup p.2 = none) ∧ (∀ p ∈ cs, PySem.W.CodeHd h p.1 p.2) ∧ (∀ (s : Shared) (u : Value), BindsTo s fd ⟨[u], []⟩ [(x, u)]) ∧
    (∀ (H : Hp) (a : Addr) (ns : List Int), ns.length ≤ n → (∀ z ∈ ns, Builtin.Int.intBits z ≤ 1048576) → (∀ p ∈ cs, H p.2 = some (.tbl #[])) → SqL K H a (ns.map V.int) → sp [.ref a] H (fun v _ => v = .bl true) fun _ _ _ => False) ∧
    ∀ base : Heap, K.In base → base.Ns mainGlobals mg → (∀ p ∈ cs, TabB base mg p.1 p.2) → FnG l.prog w K mg base CX k fa fd [x] sp
theorem walk_G {l : PySem.W.OpenLaw} {n k : Nat} {q : Program} {loose : List Str} {XP : (Str → Option Value) → Heap → Prop} {YP : World → Heap → Prop} {d : DefRec} {K : Params → PySem.W.Frag} {CX : World → CXT} {x : Str}
    (hn : l.most = some n) (hn2 : n ≤ sizeLine) (hdf : d.params.defaults = []) (hr : RoomG k callerA) (hY : ∀ (w : World) (h : Heap), YP w h → (K w.params).In h)
    (F : ∀ (w : World) (mg : Str → Option Value) (fa : Addr) (h : Heap), YP w h → (K w.params).In h → h.Ns mainGlobals mg → mg d.name = some (.ref fa) → LawG l w (K w.params) (CX w) k n x mg fa h)
    (hCX : ∀ (w : World) (H : Hp) (s : Shared) (e : Value) (s' : Shared), CX w [] H s (fun _ _ _ => False) e s' → False) :
    PySem.W.WalkO q loose XP YP l.row.toRowW d [] (fun f vs => PySem.call f vs) := by
  refine Att.attach_callB hn hdf fun w s0 s1 mg mb fa o pm cd doc a vs ns G Y ho hd hcd hmg hobj hints hlen hbits hg => ?_
  obtain ⟨fd, cs, sp, hT, nT, C, hb, hsp, hF⟩ := F w mg fa _ Y (hY w _ Y) G.T.g hmg
  exact law_endG (hY w _ Y) G.T.g G.T.b G.T.builtins G.T.nolimit hg hT nT C G.T.bmain hobj hints (Nat.le_trans hlen hn2) hr hF hb (fun H hH hS => hsp H a ns hlen hbits hH hS) fun H e s' => hCX w H s1 e s'
end Gd

/-! What stays through a call: all but the defs' tables and some lists; defs as they stand; data. -/
namespace Gd
open PySem PySem.Spec PyProof.Rows L2 GxR Gx

/-- no table -/
def NoTab (o : HO) : Prop := ∀ ps, o ≠ .tbl ps
/-- all stays but tables, which may grow, and the objects at S -/
structure Kb (S : List Addr) (H H' : Hp) : Prop where
  keep : ∀ b o, H b = some o → b ∉ S → NoTab o → H' b = some o
  tab : ∀ T, TabG H T → TabG H' T
  free : ∀ p, H' p = none → H p = none
abbrev Kp (H H' : Hp) : Prop := Kb [] H H'
section
variable {S : List Addr} {H H' H1 H2 : Hp} {p : Addr} {o u : HO}
theorem Kb.refl (H : Hp) : Kb S H H := ⟨fun _ _ h _ _ => h, fun _ h => h, fun _ h => h⟩
theorem Kb.trans (a : Kb S H H1) (b : Kb S H1 H2) : Kb S H H2 := ⟨fun c o h n t => b.keep c o (a.keep c o h n t) n t, fun T h => b.tab T (a.tab T h), fun q h => a.free q (b.free q h)⟩
theorem Kb.mono {S' : List Addr} (a : Kb S H H') (h : ∀ b ∈ S, b ∈ S') : Kb S' H H' := ⟨fun c o e n t => a.keep c o e (fun z => n (h c z)) t, a.tab, a.free⟩
theorem Kb.of (a : Kp H H') : Kb S H H' := a.mono fun _ h => (by cases h)
theorem tab_notab {T : Addr} (h : TabG H T) (e : H T = some o) (n : NoTab o) : False := by
  obtain ⟨ps, h1, _⟩ := h
  rw [e] at h1
  cases h1
  exact n ps rfl
theorem upd_some_of {q : Addr} (h : upd H p o q = none) : H q = none := by
  by_cases z : q = p
  · rw [z, upd_same] at h
    cases h
  · rw [upd_ne z] at h
    exact h
theorem Kb.new (h : H p = none) : Kb S H (upd H p o) :=
  ⟨fun b u e _ _ => by rw [upd_ne (ne_of_none e h)]; exact e, fun T ⟨ps, e, t⟩ => ⟨ps, by rw [upd_ne (ne_of_none e h)]; exact e, t⟩, fun q e => upd_some_of e⟩
theorem Kb.tabbed {P : Addr} (h : Tabbed P H H') (hP : TabG H P) : Kb S H H' := by
  refine ⟨fun b o e _ n => ?_, fun T hT => ?_, fun q e => ?_⟩
  · rw [h.2 b fun z => tab_notab (by rw [z]; exact hP) e n]
    exact e
  · by_cases z : T = P
    · exact z ▸ h.1
    · obtain ⟨ps, e, t⟩ := hT
      exact ⟨ps, by rw [h.2 T z]; exact e, t⟩
  · by_cases z : q = P
    · obtain ⟨ps, e', _⟩ := h.1
      rw [z, e'] at e
      cases e
    · rw [h.2 q z] at e
      exact e
/-- a known list is stored -/
theorem Kb.put (hp : p ∈ S) (e : H p = some u) (n : NoTab u) : Kb S H (upd H p o) :=
  ⟨fun b v hb nb _ => by rw [upd_ne (fun z : b = p => nb (by rw [z]; exact hp))]; exact hb, fun T hT => by
    have z : T ≠ p := fun z => tab_notab (o := u) (by rw [← z]; exact hT) e n
    obtain ⟨ps, e', t⟩ := hT
    exact ⟨ps, by rw [upd_ne z]; exact e', t⟩, fun q e => upd_some_of e⟩
/-- an object that was not there at H may change -/
theorem Kb.mut (k : Kb S H H') (hp : H p = none) (n : ¬ TabG H' p) : Kb S H (upd H' p o) :=
  ⟨fun b v hb nb t => by rw [upd_ne (ne_of_none hb hp)]; exact k.keep b v hb nb t, fun T hT => by
    have z : T ≠ p := fun z => n (z ▸ k.tab T hT)
    obtain ⟨ps, e', t⟩ := k.tab T hT
    exact ⟨ps, by rw [upd_ne z]; exact e', t⟩, fun q e => k.free q (upd_some_of e)⟩
theorem no_tab (e : H p = some o) (n : NoTab o) : ¬ TabG H p := fun h => tab_notab h e n
theorem nt_lst {xs : List V} : NoTab (.lst xs) := fun _ h => by cases h
theorem nt_tup {xs : List V} : NoTab (.tup xs) := fun _ h => by cases h
theorem nt_frz {ob : Obj} : NoTab (.frz ob u) := fun _ h => by cases h
theorem nt_ext {φ : Heap → Prop} : NoTab (.ext φ) := fun _ h => by cases h

end

/-! ### data: scalars and tuples; whatever is made of them stands for good -/
mutual
inductive Dt (K : PySem.W.Frag) (H : Hp) : V → PyData → Prop where
  | non : Dt K H .non .none
  | bl (b : Bool) : Dt K H (.bl b) (.bool b)
  | int (i : Int) : Dt K H (.int i) (.int i)
  | str (x : Str) : Dt K H (.str x) (.str x)
  | tup {a : Addr} {xs : List V} {ds : List PyData} (h : SqT K H a xs) (hs : DtAll K H xs ds) : Dt K H (.ref a) (.tuple ds)
inductive DtAll (K : PySem.W.Frag) (H : Hp) : List V → List PyData → Prop where
  | nil : DtAll K H [] []
  | cons {v : V} {vs : List V} {d : PyData} {ds : List PyData} (h : Dt K H v d) (hs : DtAll K H vs ds) : DtAll K H (v :: vs) (d :: ds)
end
/-- the lists at S are lists -/
def Lsts (S : List Addr) (H : Hp) : Prop := ∀ b ∈ S, ∃ xs, H b = some (.lst xs)
theorem Lsts.nil {H : Hp} : Lsts [] H := fun _ h => by cases h
section
variable {K : PySem.W.Frag} {S : List Addr} {H H' : Hp}
theorem Kb.sqT (k : Kb S H H') (hS : Lsts S H) {a : Addr} {xs : List V} (h : SqT K H a xs) : SqT K H' a xs := by
  rcases h with (h | ⟨o, h⟩) | h
  · exact .inl (.inl (k.keep a _ h (fun z => by obtain ⟨ys, e⟩ := hS a z; rw [h] at e; cases e) nt_tup))
  · exact .inl (.inr ⟨o, k.keep a _ h (fun z => by obtain ⟨ys, e⟩ := hS a z; rw [h] at e; cases e) nt_frz⟩)
  · exact .inr h
mutual
theorem Dt.kb (k : Kb S H H') (hS : Lsts S H) : ∀ {v : V} {d : PyData}, Dt K H v d → Dt K H' v d
  | _, _, .non => .non
  | _, _, .bl b => .bl b
  | _, _, .int i => .int i
  | _, _, .str x => .str x
  | _, _, .tup h hs => .tup (k.sqT hS h) (DtAll.kb k hS hs)
theorem DtAll.kb (k : Kb S H H') (hS : Lsts S H) : ∀ {vs : List V} {ds : List PyData}, DtAll K H vs ds → DtAll K H' vs ds
  | _, _, .nil => .nil
  | _, _, .cons h hs => .cons (h.kb k hS) (DtAll.kb k hS hs)
end
mutual
theorem Dt.dp : ∀ {v : V} {d : PyData}, Dt K H v d → Dp K H v d
  | _, _, .non => .non
  | _, _, .bl b => .bl b
  | _, _, .int i => .int i
  | _, _, .str x => .str x
  | _, _, .tup h hs => .tup h hs.dp
theorem DtAll.dp : ∀ {vs : List V} {ds : List PyData}, DtAll K H vs ds → DpAll K H vs ds
  | _, _, .nil => .nil
  | _, _, .cons h hs => .cons h.dp hs.dp
end
theorem DtAll.length : ∀ {vs : List V} {ds : List PyData}, DtAll K H vs ds → vs.length = ds.length
  | _, _, .nil => rfl
  | _, _, .cons _ hs => congrArg (· + 1) hs.length
theorem DtAll.get : ∀ {vs : List V} {ds : List PyData} {i : Nat} {v : V}, DtAll K H vs ds → vs[i]? = some v → ∃ d, ds[i]? = some d ∧ Dt K H v d
  | _, _, _, _, .nil, e => by simp at e
  | _, _, 0, _, .cons h _, e => by
    have e := Option.some.inj e
    subst e
    exact ⟨_, rfl, h⟩
  | _, _, i + 1, _, .cons _ hs, e => DtAll.get (i := i) hs e
theorem DtAll.at : ∀ {vs : List V} {ds : List PyData} {i : Nat} {d : PyData}, DtAll K H vs ds → ds[i]? = some d → ∃ v, vs[i]? = some v ∧ Dt K H v d
  | _, _, _, _, .nil, e => by simp at e
  | _, _, 0, _, .cons h _, e => by
    have e := Option.some.inj e
    subst e
    exact ⟨_, rfl, h⟩
  | _, _, i + 1, _, .cons _ hs, e => DtAll.at (i := i) hs e
end

/-! ### defs -/
section
variable {P : Program} {w : World} {K : PySem.W.Frag} {mg : Str → Option Value} {base : Heap}
/-- the def x stands as st -/
def DefAt (K : PySem.W.Frag) (mg : Str → Option Value) (x : Str) (st : Stmt) (ps : List Str) : Prop := ∃ f fd, Fun K x x st f fd ∧ mg x = some (.ref f) ∧ Binds K fd ps []
/-- .. and its code's table is at T -/
def DefTab (K : PySem.W.Frag) (mg : Str → Option Value) (base : Heap) (x : Str) (st : Stmt) (ps : List Str) (T : Addr) : Prop :=
  ∃ f fd c, Fun K x x st f fd ∧ mg x = some (.ref f) ∧ Binds K fd ps [] ∧ fd.code = .ref c ∧ TabB base mg c T
/-- what a caller needs -/
def Cal (P : Program) (w : World) (K : PySem.W.Frag) (mg : Str → Option Value) (base : Heap) (CX : CXT) (k : Nat) (x : Str) (ps : List Str) (sp : Sp) : Prop :=
  ∃ f fd, FnG P w K mg base CX k f fd ps sp ∧ mg x = some (.ref f) ∧ PySem.W.keepIn K (.ref f) = true ∧ Binds K fd ps []
theorem Cal.mono {CX : CXT} {j k : Nat} {x : Str} {ps : List Str} {sp : Sp} (c : Cal P w K mg base CX j x ps sp) (h : j ≤ k) : Cal P w K mg base CX k x ps sp :=
  let ⟨f, fd, F, r⟩ := c; ⟨f, fd, F.mono h, r⟩
theorem Cal.imp {CX : CXT} {k : Nat} {x : Str} {ps : List Str} {sp sp' : Sp} (c : Cal P w K mg base CX k x ps sp) (h : ∀ vs H Q E, sp' vs H Q E → sp vs H Q E) : Cal P w K mg base CX k x ps sp' :=
  let ⟨f, fd, F, r⟩ := c; ⟨f, fd, F.imp h, r⟩
theorem DefAt.cal {x : Str} {st : Stmt} {N ps : List Str} {k : Nat} {sp : Sp} (D : DefAt K mg x st ps) (S : FnScope N ps (defScope st)) (len : ∀ vs H Q E, sp vs H Q E → vs.length = ps.length)
    (hbody : ∀ (f : Addr) (cdv : Value) (A : Around) (outer : List Env) (s : Shared) (H : Hp) (vs : List V) (Q : VK) (E : XK), RoomG k (A.deeper (envOfC x (defScope st) s.heap.objs.size f cdv)) → sp vs H Q E →
      ∃ t, PSs (cxOf CX0 P w K mg base N x (defScope st) f cdv A outer s H E).nox (defBody st) t ∧ t { nx := fun _ H' => Q .non H', rt := Q } (start N vs) H) : Cal P w K mg base CX0 (k + 1) x ps sp := by
  obtain ⟨f, fd, F, g, b⟩ := D
  exact ⟨f, fd, okG F S len (hbody f), g, F.kp, b⟩
theorem DefTab.cal {x : Str} {st : Stmt} {N ps : List Str} {k : Nat} {sp : Sp} {T : Addr} (D : DefTab K mg base x st ps T) (S : FnScope N ps (defScope st)) (len : ∀ vs H Q E, sp vs H Q E → vs.length = ps.length)
    (hbody : ∀ (f c : Addr) (A : Around) (outer : List Env) (s : Shared) (H : Hp) (vs : List V) (Q : VK) (E : XK), TabB base mg c T → RoomG k (A.deeper (envOfC x (defScope st) s.heap.objs.size f (.ref c))) → sp vs H Q E →
      ∃ t, PSs (cxOf CX0 P w K mg base N x (defScope st) f (.ref c) A outer s H E).nox (defBody st) t ∧ t { nx := fun _ H' => Q .non H', rt := Q } (start N vs) H) : Cal P w K mg base CX0 (k + 1) x ps sp := by
  obtain ⟨f, fd, c, F, g, b, e, TB⟩ := D
  exact ⟨f, fd, okGc F e S len (fun A outer s H vs Q E => hbody f c A outer s H vs Q E TB), g, F.kp, b⟩
end
section
variable {X : Cx} {k : Nat} {ps : List Str} {sp : Sp} {x : Str} {p pos : Pos} {e : Expr} {es : List Expr} {t : TA}
theorem pe_cal (C : Cal X.prog X.w X.K X.mg X.base CX0 k x ps sp) (hr : RoomG k X.A) (hg : Gl X x) (ha : PA X (e :: es) t) (hdb : (x == ("__debug__" : Str)) = false := by decide) (he : starEach (e :: es) X.env = (false, eval e X.env) :: starEach es X.env := by rfl) (hpl : (backTo pos (starEach es X.env)).any (·.1) = false := by rfl) :
    PE X (.Call (.Name x p) (e :: es) [] pos) (tCall sp [] E0 t) := by
  obtain ⟨f, fd, F, g, kp, b⟩ := C
  exact pe_callG F hr hg g kp b .nil pass0 ha hdb he hpl
theorem pe_cal0 (C : Cal X.prog X.w X.K X.mg X.base CX0 k x ps sp) (hr : RoomG k X.A) (hg : Gl X x) (hdb : (x == ("__debug__" : Str)) = false := by decide) : PE X (.Call (.Name x p) [] [] pos) (tCall sp [] E0 tNil) := by
  obtain ⟨f, fd, F, g, kp, b⟩ := C
  exact pe_call0G F hr hg g kp b .nil pass0 hdb
end
end Gd

/-! Readings of some expressions over data. -/
namespace Gd
open PySem PySem.Spec PyProof.Rows L2 GxR Gx

/-! ### isinstance -/
def tyName : PyData → String
  | .none => "NoneType"
  | .bool _ => "bool"
  | .int _ => "int"
  | .str _ => "str"
  | .list _ => "list"
  | .tuple _ => "tuple"
  | .dict _ => "dict"
def isStrD : PyData → Bool | .str _ => true | _ => false
def isTupD : PyData → Bool | .tuple _ => true | _ => false
def isIntD : PyData → Bool | .int _ => true | .bool _ => true | _ => false
def isBoolD : PyData → Bool | .bool _ => true | _ => false
theorem kit_str (d : PyData) : kitB (tyName d) "str" = some (isStrD d) := by
  cases d with
  | none => exact (by decide +kernel : kitB "NoneType" "str" = some false)
  | bool _ => exact (by decide +kernel : kitB "bool" "str" = some false)
  | int _ => exact (by decide +kernel : kitB "int" "str" = some false)
  | str _ => exact (by decide +kernel : kitB "str" "str" = some true)
  | list _ => exact (by decide +kernel : kitB "list" "str" = some false)
  | tuple _ => exact (by decide +kernel : kitB "tuple" "str" = some false)
  | dict _ => exact (by decide +kernel : kitB "dict" "str" = some false)
theorem kit_tup (d : PyData) : kitB (tyName d) "tuple" = some (isTupD d) := by
  cases d with
  | none => exact (by decide +kernel : kitB "NoneType" "tuple" = some false)
  | bool _ => exact (by decide +kernel : kitB "bool" "tuple" = some false)
  | int _ => exact (by decide +kernel : kitB "int" "tuple" = some false)
  | str _ => exact (by decide +kernel : kitB "str" "tuple" = some false)
  | list _ => exact (by decide +kernel : kitB "list" "tuple" = some false)
  | tuple _ => exact (by decide +kernel : kitB "tuple" "tuple" = some true)
  | dict _ => exact (by decide +kernel : kitB "dict" "tuple" = some false)
theorem kit_int (d : PyData) : kitB (tyName d) "int" = some (isIntD d) := by
  cases d with
  | none => exact (by decide +kernel : kitB "NoneType" "int" = some false)
  | bool _ => exact (by decide +kernel : kitB "bool" "int" = some true)
  | int _ => exact (by decide +kernel : kitB "int" "int" = some true)
  | str _ => exact (by decide +kernel : kitB "str" "int" = some false)
  | list _ => exact (by decide +kernel : kitB "list" "int" = some false)
  | tuple _ => exact (by decide +kernel : kitB "tuple" "int" = some false)
  | dict _ => exact (by decide +kernel : kitB "dict" "int" = some false)
theorem kit_bool (d : PyData) : kitB (tyName d) "bool" = some (isBoolD d) := by
  cases d with
  | none => exact (by decide +kernel : kitB "NoneType" "bool" = some false)
  | bool _ => exact (by decide +kernel : kitB "bool" "bool" = some true)
  | int _ => exact (by decide +kernel : kitB "int" "bool" = some false)
  | str _ => exact (by decide +kernel : kitB "str" "bool" = some false)
  | list _ => exact (by decide +kernel : kitB "list" "bool" = some false)
  | tuple _ => exact (by decide +kernel : kitB "tuple" "bool" = some false)
  | dict _ => exact (by decide +kernel : kitB "dict" "bool" = some false)
section
variable {K : PySem.W.Frag} {H : Hp} {v : V} {d : PyData} {Q : VK}
theorem Dt.ty (h : Dt K H v d) : TyX K H v (.type (tyName d)) := by
  cases h with
  | non => exact .base .non
  | bl b => exact .base (.bl b)
  | int i => exact .base (.int i)
  | str x => exact .base (.str x)
  | tup h hs =>
    rcases h with (h | ⟨o, h⟩) | ⟨o, its, n, h1, h2, _⟩
    · exact .base (.tup h)
    · exact .fTuple h
    · exact .kTuple h1 h2
theorem isi_q {T : String} {b : Bool} (h : Dt K H v d) (hb : kitB (tyName d) T = some b) (q : Q (.bl b) H) : rIsi K [v, .ty T] H Q := ⟨v, .ty T, _, _, b, rfl, .ty T, h.ty, kit_ty hb, q⟩
end

/-! ### all(test for c in text), the test changes nothing -/
theorem nil_slots {σ2 : L2.St} : ∀ (j : Nat) (v : V), (none :: capV ([] : L2.St) [] : L2.St)[j]? = some (some v) → σ2[j]? = some (some v) := fun j v h => by
  cases j with
  | zero => cases h
  | succ j => simp [capV] at h
theorem all_take {p : Nat → Bool} {l : List Nat} {i c : Nat} (hc : l[i]? = some c) (h : (l.take i).all p = true) : (l.take (i + 1)).all p = p c := by
  rw [List.take_add_one, hc, List.all_append, h, Bool.true_and]
  simp
theorem all_mid {p : Nat → Bool} {l : List Nat} {i c : Nat} (hc : l[i]? = some c) (h : p c = false) : l.all p = false := by
  rw [List.all_eq_false]
  exact ⟨c, List.mem_of_getElem? hc, by rw [h]; exact Bool.false_ne_true⟩
theorem all_str {T : Addr} {x : Str} {te : TE} {p : Nat → Bool} {H1 : Hp} {Q : VK} {σ : L2.St} (hT : TabG H1 T)
    (ht : ∀ c ∈ x.cps.toList, ∀ (H : Hp) (Q' : VK), Q' (.bl (p c)) H → te [some (.str ⟨#[c]⟩)] H Q') (q : ∀ H2, Tabbed T H1 H2 → Q (.bl (x.cps.toList.all p)) H2) :
    TabG H1 T ∧ ∀ H2, Tabbed T H1 H2 → ∃ W : Nat → Nat → Hp → Prop, (∃ m, W 0 m H2) ∧ ∀ i m H, W i m H → ((Its x).stop i H ∧ Q (.bl true) H) ∨
      ((Its x).go i H ∧ ∃ Nx : Hp → Prop, (∀ H', Nx H' → ∃ m', m' < m ∧ W (i + 1) m' H') ∧ ∀ y H', (Its x).yld i H y H' → gName 0 y (none :: capV σ []) H' fun σ2 H3 =>
        (∀ (j : Nat) v, (none :: capV σ [] : L2.St)[j]? = some (some v) → σ2[j]? = some (some v)) ∧ te σ2 H3 fun y H5 => ∃ c, y = .bl c ∧ if c = true then Nx H5 else Q (.bl false) H5) := by
  refine ⟨hT, fun H2 h2 => ⟨fun i m H => H = H2 ∧ m = x.cps.size - i ∧ i ≤ x.cps.size ∧ (x.cps.toList.take i).all p = true, ⟨_, rfl, rfl, Nat.zero_le _, by simp⟩, ?_⟩⟩
  rintro i m H ⟨rfl, rfl, hi, ha⟩
  by_cases hl : i < x.cps.size
  · refine .inr ⟨hl, fun H' => H' = H ∧ (x.cps.toList.take (i + 1)).all p = true, fun H' ⟨e, a⟩ => ⟨x.cps.size - (i + 1), by omega, e, rfl, hl, a⟩, fun y H' hy => ?_⟩
    obtain ⟨rfl, c, hc, rfl⟩ := hy
    have hc' : x.cps.toList[i]? = some c := by rw [Array.getElem?_toList]; exact hc
    refine ⟨nil_slots, ht c (List.mem_of_getElem? hc') _ _ ⟨p c, rfl, ?_⟩⟩
    cases e : p c with
    | true =>
      rw [if_pos rfl]
      exact ⟨rfl, by rw [all_take hc' ha, e]⟩
    | false =>
      rw [if_neg Bool.false_ne_true, ← all_mid (p := p) hc' e]
      exact q _ h2
  · have e : i = x.cps.size := by omega
    subst e
    refine .inl ⟨Nat.le_refl _, ?_⟩
    have e2 : x.cps.toList.take x.cps.size = x.cps.toList := by
      rw [← Array.length_toList]
      exact List.take_length
    rw [e2] at ha
    rw [← ha]
    exact q _ h2
end Gd
namespace Gd
open PySem PySem.Spec PyProof.Rows L2 GxR Gx
/-- data of small texts, no deeper than n -/
def okN : Nat → PyData → Bool
  | _, .none => true
  | _, .bool _ => true
  | _, .int i => decide (i.natAbs.log2 < 1920)
  | _, .str x => decide (x.length ≤ 1000) && PyData.strOk x
  | n + 1, .tuple ds => decide (ds.length ≤ 1000) && ds.all (okN n)
  | _, _ => false
def OkD (d : PyData) : Prop := ∃ n, n ≤ 60 ∧ okN n d = true
theorem okN_int {n : Nat} {i : Int} (h : okN n (.int i) = true) : i.natAbs.log2 < 1920 := by
  cases n <;> exact of_decide_eq_true h
theorem okN_str {n : Nat} {x : Str} (h : okN n (.str x) = true) : x.length ≤ 1000 ∧ PyData.strOk x = true := by
  have h2 : (decide (x.length ≤ 1000) && PyData.strOk x) = true := by cases n <;> exact h
  rw [Bool.and_eq_true] at h2
  exact ⟨of_decide_eq_true h2.1, h2.2⟩
theorem okN_tup {n : Nat} {ds : List PyData} (h : okN n (.tuple ds) = true) : ∃ m, n = m + 1 ∧ ds.length ≤ 1000 ∧ ∀ d ∈ ds, okN m d = true := by
  cases n with
  | zero => cases h
  | succ m =>
    have h2 : (decide (ds.length ≤ 1000) && ds.all (okN m)) = true := h
    rw [Bool.and_eq_true, List.all_eq_true] at h2
    exact ⟨m, rfl, of_decide_eq_true h2.1, h2.2⟩
theorem OkD.str {x : Str} (h : OkD (.str x)) : x.length ≤ 1000 := let ⟨_, _, h⟩ := h; (okN_str h).1
theorem OkD.len {ds : List PyData} (h : OkD (.tuple ds)) : ds.length ≤ 1000 := by
  obtain ⟨_, _, h⟩ := h
  obtain ⟨m, _, h2, _⟩ := okN_tup h
  exact h2
theorem OkD.child {ds : List PyData} (h : OkD (.tuple ds)) {d : PyData} (hd : d ∈ ds) : OkD d := by
  obtain ⟨n, hn, h⟩ := h
  obtain ⟨m, rfl, _, h3⟩ := okN_tup h
  exact ⟨m, by omega, h3 d hd⟩
mutual
theorem okN_lay : ∀ (d : PyData) {n : Nat}, okN n d = true → d.canLay0 = true ∧ d.depth ≤ n
  | .none, n, _ => ⟨by simp only [PyData.canLay0], by simp only [PyData.depth]; omega⟩
  | .bool _, n, _ => ⟨by simp only [PyData.canLay0], by simp only [PyData.depth]; omega⟩
  | .int _, n, _ => ⟨by simp only [PyData.canLay0], by simp only [PyData.depth]; omega⟩
  | .str x, n, h => ⟨by simp only [PyData.canLay0]; exact (okN_str h).2, by simp only [PyData.depth]; omega⟩
  | .list xs, n, h => by cases n <;> cases h
  | .dict xs, n, h => by cases n <;> cases h
  | .tuple ds, n, h => by
    obtain ⟨m, e, _, h3⟩ := okN_tup h
    have q := okN_layAll ds h3
    simp only [PyData.canLay0, PyData.depth]
    exact ⟨q.1, by have := q.2; omega⟩
theorem okN_layAll : ∀ (ds : List PyData) {n : Nat}, (∀ d ∈ ds, okN n d = true) → PyData.canLayAll0 ds = true ∧ PyData.depthAll ds ≤ n
  | [], n, _ => ⟨by simp only [PyData.canLayAll0], by simp only [PyData.depthAll]; omega⟩
  | d :: ds, n, h => by
    have q := okN_lay d (h d List.mem_cons_self)
    have r := okN_layAll ds fun e he => h e (List.mem_cons_of_mem _ he)
    simp only [PyData.canLayAll0, PyData.depthAll, q.1, r.1, Bool.and_true]
    exact ⟨trivial, Nat.max_le.mpr ⟨q.2, r.2⟩⟩
end
theorem OkD.shaped {d : PyData} (h : OkD d) : SeqAt.shaped d = true := by
  obtain ⟨n, hn, h⟩ := h
  have q := okN_lay d h
  unfold SeqAt.shaped
  rw [q.1, Bool.true_and, decide_eq_true_eq]
  omega
theorem OkD.of {d : PyData} (h : okN 8 d = true) : OkD d := ⟨8, by decide, h⟩
theorem line1000 {n : Nat} (h : n ≤ 1000) : n ≤ sizeLine := Nat.le_of_lt (small1000 h)
/-- a test of one datum -/
def spData (K : PySem.W.Frag) (ts : List Addr) (p : PyData → Bool) : Sp := fun vs H Q _ => ∃ v d, vs = [v] ∧ Dt K H v d ∧ OkD d ∧ (∀ T ∈ ts, TabG H T) ∧ ∀ H', Kp H H' → Q (.bl (p d)) H'
end Gd
namespace Gd
open PySem PySem.Spec PyProof.Rows L2 GxR Gx
/-- a generator expression's scope without captured names -/
def genC (scope : Scope) (x : Str) : Bool := decide (scope.kind = .function) && !scope.isCoroutine && (scope.names.all fun y => !decide (y.2 = NameKind.cell) && !decide (y.2 = NameKind.free)) && decide (scope.names.lookup (".0" : Str) = some NameKind.local) && decide (scope.names.lookup x = some NameKind.local)
theorem genS_by {env : Env} {scope : Scope} {x : Str} (h : genC scope x = true) : GenS env scope x := by
  unfold genC at h
  simp only [Bool.and_eq_true, decide_eq_true_eq, Bool.not_eq_true', List.all_eq_true, decide_eq_false_iff_not] at h
  obtain ⟨⟨⟨⟨h1, h2⟩, h3⟩, h4⟩, h5⟩ := h
  exact ⟨h1, h2, fun y hy => (h3 y hy).1, h4, h5, fun y hy e => absurd e (h3 y hy).2⟩
theorem nd1 (x : Str) : (x :: capN []).Nodup := by simp [capN]
end Gd

namespace Rv
open PySem PySem.Spec PyProof.Rows L2 GxR Gx Gd
def topS (i : Nat) : Stmt := PySem.Challenge.pw_remoteviews_k04_evaluation_exact.main.body.getD i (.Pass ⟨0, 0, 0, 0⟩)
abbrev s_is_character : Stmt := topS 6


/-! ### signs -/
def inRg (a b c : Nat) : Bool := decide (a ≤ c) && decide (c ≤ b)
def isSmall : Nat → Bool := inRg 97 122
def isDigit : Nat → Bool := inRg 48 57
def isChar (c : Nat) : Bool := inRg 32 126 c && !decide (c = 37)
theorem lt1 {a b : Nat} : decide (([a] : List Nat) < [b]) = decide (a < b) := by
  rw [Bool.eq_iff_iff, decide_eq_true_eq, decide_eq_true_eq]
  constructor
  · intro h
    cases h with
    | rel h => exact h
    | cons h => cases h
  · intro h
    exact .rel h
theorem le1 {a b : Nat} : (!decide (([b] : List Nat) < [a])) = decide (a ≤ b) := by
  rw [lt1, Bool.eq_iff_iff, Bool.not_eq_true', decide_eq_false_iff_not, decide_eq_true_eq]
  omega
def spSign (p : Nat → Bool) : Sp := fun vs H Q _ => ∃ c, vs = [.str ⟨#[c]⟩] ∧ Q (.bl (p c)) H
abbrev rLeS : R2 := fun x y H Q => ∃ i j, x = .str i ∧ y = .str j ∧ Q (.bl (!decide (j.cps.toList < i.cps.toList))) H
theorem chain_rd {a b c : Nat} {xa xb : Str} {σ : L2.St} {H : Hp} {Q : VK} {i : Nat} (ha : xa = ⟨#[a]⟩) (hb : xb = ⟨#[b]⟩) (hs : σ[i]? = some (some (.str ⟨#[c]⟩))) (q : Q (.bl (inRg a b c)) H) :
    tChain rLeS rLeS (tC (.str xa)) (tVar i) (tC (.str xb)) σ H Q := by
  subst ha hb
  refine ⟨_, hs, ⟨#[a]⟩, ⟨#[c]⟩, rfl, rfl, _, rfl, ?_⟩
  show if (!decide (([c] : List Nat) < [a])) = true then ∃ i j, V.str ⟨#[c]⟩ = .str i ∧ V.str ⟨#[b]⟩ = .str j ∧ Q (.bl (!decide (j.cps.toList < i.cps.toList))) H else Q (.bl false) H
  rw [le1]
  unfold inRg at q
  by_cases h : a ≤ c
  · rw [decide_eq_true h] at q ⊢
    rw [if_pos rfl]
    refine ⟨_, _, rfl, rfl, ?_⟩
    show Q (.bl (!decide (([b] : List Nat) < [c]))) H
    rw [le1]
    exact q
  · rw [decide_eq_false h] at q ⊢
    exact iteF q
theorem chain_and {a b c : Nat} {xa xb : Str} {σ : L2.St} {H : Hp} {Q : VK} {i : Nat} {tb : TE} (ha : xa = ⟨#[a]⟩) (hb : xb = ⟨#[b]⟩) (hs : σ[i]? = some (some (.str ⟨#[c]⟩))) (q : if inRg a b c = true then tb σ H Q else Q (.bl false) H) :
    tAndV (tChain rLeS rLeS (tC (.str xa)) (tVar i) (tC (.str xb))) tb σ H Q := chain_rd ha hb hs ⟨_, rfl, q⟩
section
variable {P : Program} {w : World} {K : PySem.W.Frag} {mg : Str → Option Value} {base : Heap}
theorem sc_is_character : FnScope ["char"] ["char"] (defScope s_is_character) := ⟨rfl, rfl, rfl, by decide +kernel, rfl, by decide +kernel, by decide +kernel⟩
theorem c_is_character (D : DefAt K mg "is_character" s_is_character ["char"]) (gP : ∃ t, mg "PERCENT" = some (.int 37 t)) (mo : mg "ord" = none) : Cal P w K mg base CX0 1 "is_character" ["char"] (spSign isChar) := by
  refine D.cal (k := 0) sc_is_character (fun vs H Q E h => ?_) fun f cdv A outer s H vs Q E hr h => ?_
  · obtain ⟨c, rfl, _⟩ := h
    rfl
  · obtain ⟨c, rfl, q⟩ := h
    obtain ⟨t, gP⟩ := gP
    refine ⟨_, pss_one (ps_ret (pe_and (pe_chain op_le_str op_le_str pe_str (pv 0) pe_str) (pe_one (pe_cmpR op_ne (pe_callB call_ord (by rfl) mo (by decide +kernel) (pa_cons (pv 0) pa_nil)) (pe_glob (v := .int 37) rfl gP ⟨t, rfl⟩) (nomark _))))), ?_⟩
    refine chain_and (a := 32) (b := 126) (c := c) rfl rfl rfl ?_
    cases e : inRg 32 126 c with
    | false =>
      refine iteF ?_
      unfold isChar at q
      rw [e] at q
      exact q
    | true =>
      refine iteT ⟨_, rfl, _, rfl, rfl, rfl, ?_⟩
      unfold isChar at q
      rw [e] at q
      have e2 : decide (V.int (((#[c] : Array Nat).getD 0 0 : Nat) : Int) = V.int 37) = decide (c = 37) := by
        rw [Bool.eq_iff_iff, decide_eq_true_eq, decide_eq_true_eq]
        constructor
        · intro h
          have h := V.int.inj h
          have h2 : ((c : Nat) : Int) = 37 := h
          omega
        · intro h
          subst h
          rfl
      rw [e2]
      exact q
end
end Rv
namespace Rv
open PySem PySem.Spec PyProof.Rows L2 GxR Gx Gd
def isNameL (l : List Nat) : Bool := decide (1 ≤ l.length) && decide (l.length ≤ 12) && ((match l with | c :: _ => isSmall c | [] => false) && l.all (fun c => isSmall c || isDigit c))
def isName : PyData → Bool
  | .str x => isNameL x.cps.toList
  | _ => false

section
variable {P : Program} {w : World} {K : PySem.W.Frag} {mg : Str → Option Value} {base : Heap}
end
end Rv

namespace Rv
open PySem PySem.Spec PyProof.Rows L2 GxR Gx Gd
/-! ### pairs, texts, keys, integers -/
def isPairD : PyData → Bool
  | .tuple ds => decide (ds.length = 2)
  | _ => false
def isTextD (a b : Int) : PyData → Bool
  | .str x => decide (a ≤ (x.length : Int)) && decide ((x.length : Int) ≤ b) && x.cps.toList.all isChar
  | _ => false
abbrev isKeyD : PyData → Bool := isTextD 1 12
def isIntegerD : PyData → Bool
  | .int i => decide (0 ≤ i) && decide (i ≤ 999999)
  | _ => false

abbrev s_is_text : Stmt := topS 9
abbrev s_is_key : Stmt := topS 7

def spText (K : PySem.W.Frag) (ts : List Addr) : Sp := fun vs H Q _ => ∃ v d a b, vs = [v, .int a, .int b] ∧ Dt K H v d ∧ OkD d ∧ (∀ T ∈ ts, TabG H T) ∧ ∀ H', Kp H H' → Q (.bl (isTextD a b d)) H'
section
variable {P : Program} {w : World} {K : PySem.W.Frag} {mg : Str → Option Value} {base : Heap}
theorem sc_is_text : FnScope ["thing", "shortest", "longest"] ["thing", "shortest", "longest"] (defScope s_is_text) := ⟨rfl, rfl, rfl, by decide +kernel, rfl, by decide +kernel, by decide +kernel⟩
theorem c_is_text {T : Addr} (D : DefTab K mg base "_is_text" s_is_text ["thing", "shortest", "longest"] T) (mi : mg "isinstance" = none) (ms : mg "str" = none) (ml : mg "len" = none) (ma : mg "all" = none)
    (c1 : Cal P w K mg base CX0 1 "is_character" ["char"] (spSign isChar)) : Cal P w K mg base CX0 3 "_is_text" ["thing", "shortest", "longest"] (spText K [T]) := by
  refine D.cal (k := 2) sc_is_text (fun vs H Q E h => ?_) fun f c A outer s H vs Q E TB hr h => ?_
  · obtain ⟨v, d, a, b, rfl, _⟩ := h
    rfl
  · obtain ⟨v, d, a, b, rfl, hd, hz, hT, q⟩ := h
    refine ⟨_, pss_cons (ps_if (PW.pt (pw_or (pt_not (pt_val (pe_callB call_isi (by rfl) mi (by decide +kernel) (pa_cons (pv 0) (pa_cons (pe_bltn (v := .ty "str") (by rfl) ms (by decide +kernel) rfl) pa_nil)))))
          (pw_or1 (pt_not (pt_chain op_le op_le (pv 1) (pe_callB call_len_str (by rfl) ml PySem.boot_len (pa_cons (pv 0) pa_nil)) (pv 2))))))
        (pss_one (ps_ret pe_bl)) pss_nil)
      (pss_one (ps_ret (pe_allG hr.r (by rfl) ma TB rfl (genS_by (by decide +kernel)) Caps.nil (pi_str (pv 0)) rfl
          (fun _ _ _ _ _ _ => pg_name (i := 0) (nd1 _) rfl (Or.inl rfl)) (fun _ _ _ _ _ _ rk => pe_cal c1 ⟨rk, hr.g⟩ (by rfl) (pa_cons (pv 0) pa_nil))))), ?_⟩
    have qF : isTextD a b d = false → Q (.bl false) H := fun e => by
      have z := q H (Kb.refl H)
      rw [e] at z
      exact z
    refine ⟨v, rfl, v, .ty "str", _, _, isStrD d, rfl, ClsV.ty "str", hd.ty, kit_ty (kit_str d), _, rfl, ?_⟩
    cases hd with
    | str x =>
      refine iteF ⟨_, rfl, .str x, rfl, x, rfl, line1000 hz.str, a, (x.length : Int), rfl, rfl, _, rfl, ?_⟩
      by_cases h1 : a ≤ (x.length : Int)
      · rw [decide_eq_true h1]
        refine iteT ⟨_, rfl, _, _, rfl, rfl, _, rfl, ?_⟩
        by_cases h2 : (x.length : Int) ≤ b
        · rw [decide_eq_true h2]
          refine iteF ⟨.str x, rfl, x, rfl, ?_⟩
          refine all_str (p := isChar) (hT T (List.mem_singleton.mpr rfl)) (fun c _ H Q' q' => ⟨.str ⟨#[c]⟩, rfl, c, rfl, q'⟩) fun H2 h2' => ?_
          have z := q H2 (Kb.tabbed h2' (hT T (List.mem_singleton.mpr rfl)))
          have e : isTextD a b (.str x) = x.cps.toList.all isChar := by
            show (decide _ && decide _ && _) = _
            rw [decide_eq_true h1, decide_eq_true h2]
            rfl
          rw [e] at z
          exact z
        · rw [decide_eq_false h2]
          refine iteT (qF ?_)
          show (decide _ && decide _ && _) = _
          rw [decide_eq_false h2, Bool.and_false]
          rfl
      · rw [decide_eq_false h1]
        refine iteF ⟨_, rfl, ?_⟩
        refine iteT (qF ?_)
        show (decide _ && decide _ && _) = _
        rw [decide_eq_false h1]
        rfl
    | _ => exact iteT (qF rfl)
theorem sc_is_key : FnScope ["thing"] ["thing"] (defScope s_is_key) := ⟨rfl, rfl, rfl, by decide +kernel, rfl, by decide +kernel, by decide +kernel⟩
theorem c_is_key {ts : List Addr} (D : DefAt K mg "is_key" s_is_key ["thing"]) (gK : ∃ t, mg "KEY_LENGTH" = some (.int 12 t)) (c1 : Cal P w K mg base CX0 3 "_is_text" ["thing", "shortest", "longest"] (spText K ts)) :
    Cal P w K mg base CX0 4 "is_key" ["thing"] (spData K ts isKeyD) := by
  refine D.cal (k := 3) sc_is_key (fun vs H Q E h => ?_) fun f cdv A outer s H vs Q E hr h => ?_
  · obtain ⟨v, d, rfl, _⟩ := h
    rfl
  · obtain ⟨v, d, rfl, hd, hz, hT, q⟩ := h
    obtain ⟨t, gK⟩ := gK
    refine ⟨_, pss_one (ps_ret (pe_cal c1 hr (by rfl) (pa_cons (pv 0) (pa_cons pe_int (pa_cons (pe_glob (v := .int 12) rfl gK ⟨t, rfl⟩) pa_nil))))), ?_⟩
    exact ⟨v, rfl, v, d, 1, 12, rfl, hd, hz, hT, q⟩
end
end Rv

namespace Rv
open PySem PySem.Spec PyProof.Rows L2 GxR Gx Gd
/-! ### scalars -/
def scalOf (k c : PyData) : Bool := if PyData.eqv k (.str "bool") = true then isBoolD c else if PyData.eqv k (.str "int") = true then isIntegerD c else PyData.eqv k (.str "text") && isTextD 0 40 c
def pairScal : PyData → Bool
  | .tuple [k, c] => scalOf k c
  | _ => false
def isScalarD (d : PyData) : Bool := PyData.eqv d (.tuple [.str "none"]) || pairScal d
section
variable {P : Program} {w : World} {K : PySem.W.Frag} {mg : Str → Option Value} {base : Heap}
end
end Rv

/-! {elt for tg in iter}, its members ints or texts; len of it. -/
namespace Gd
open PySem PySem.Spec PyProof.Rows L2 GxR Gx

abbrev noKeys : Key → Bool := fun _ => false
abbrev addKey (S : Key → Bool) (k : Key) : Key → Bool := fun j => S j || decide (j = k)
theorem setK_fresh {P : Program} {w : World} {h : Heap} : (h.push { cls := .type "set", dict := none, data := .set #[] 0 (.fresh 0 0 (!w.params.followText "set-order")) }).SetOf (mixKind P w) h.objs.size noKeys 0 :=
  ⟨_, #[], 0, _, Heap.get?_push_size _ rfl, ⟨rfl, rfl, rfl⟩, rfl, (fun e he => by simp at he), (fun k => by simp), (by decide), (by rfl), rfl⟩
section
variable {X : Cx}
theorem addK_ok {pins : List (Addr × Obj)} {σ : L2.St} {H : Hp} {s : Shared} {E : Value → Shared → Prop} {D : Addr} {S : Key → Bool} {n : Nat} {k : Key} {u : Value} {Q : Value → Shared → Prop} (I : Inv X pins σ H s) (hD : H D = some (SetK X.prog X.w D S n)) (room : n + 1 < scanBound) (r : RelV (kV k) u)
    (h : ∀ s', Inv X pins σ (upd H D (SetK X.prog X.w D (addKey S k) (if S k = true then n else n + 1))) s' → Q .none s') : wpAny (model X.prog X.w) X.A (call (.builtin "set.add") [.ref D, u]) Q E s := by
  refine call_set_add (kV_is r) (key_scan r) (setK_get I hD) room fun h' sb new => ?_
  obtain ⟨ob, _, _, _, ho, _⟩ := id new
  exact h _ (I.write (e := D) (t' := s.toks + 1) (by rw [hD]; trivial) (.inl rfl) (fun b o hb q => (sb.2 b hb).trans q) ⟨ob, ho⟩ (setK_new new))

/-- the reading: D the new set; W by the turn and a measure -/
def tScK (P : Program) (w : World) (wi : TI) (g : TG) (te : TE) (vs : List Nat) : TE := fun σ H Q => wi σ H fun J H1 => ∀ D, H1 D = none → ∃ W : Nat → Nat → Hp → Prop, (∃ m, W 0 m (upd H1 D (SetK P w D noKeys 0))) ∧ ∀ i m H, W i m H →
  (J.stop i H ∧ Q (.ref D) H) ∨ (J.go i H ∧ ∃ Nx : Hp → Prop, (∀ H', Nx H' → ∃ m', m' < m ∧ W (i + 1) m' H') ∧ ∀ x H', J.yld i H x H' → g x (wipe σ vs) H' fun σ2 H2 => wipe σ2 vs = wipe σ vs ∧ te σ2 H2 fun y H4 =>
    ∃ (k : Key) (S : Key → Bool) (n : Nat), y = kV k ∧ H4 D = some (SetK P w D S n) ∧ n + 1 < scanBound ∧ Nx (upd H4 D (SetK P w D (addKey S k) (if S k = true then n else n + 1))))

theorem pe_scK {elt tg iter : Expr} {scope : Scope} {own : List (PySem.Str × Nat)} {pos : Pos} {wi : TI} {g : TG} {te : TE} (hc : X.calm = true) (hN : X.N.Nodup) (hi : PI X tg iter wi) (ok : BlkOk X.N X.env.scope scope own)
    (hg : ∀ (s : Shared) (H : Hp) (C : Addr) (cl : List (PySem.Str × Addr)) (fp : List Addr), PG (X.blk s H scope (compEnvC scope cl C X.env) fp) tg g) (_ : ∀ (s : Shared) (H : Hp) (C : Addr) (cl : List (PySem.Str × Addr)) (fp : List Addr), PTs (X.blk s H scope (compEnvC scope cl C X.env) fp) [] tYes)
    (he : ∀ (s : Shared) (H : Hp) (C : Addr) (cl : List (PySem.Str × Addr)) (fp : List Addr), PE (X.blk s H scope (compEnvC scope cl C X.env) fp) elt te) (hs : ∀ x, foldedSetIterable iter X.env x = pure x := by intro _; rfl) :
    PE X (.SetComp elt [⟨tg, iter, [], 0⟩] scope pos) (tScK X.prog X.w wi g te (own.map (·.2))) := by
  refine ⟨fun pins s σ H Q I h => ?_⟩
  rw [PpSet.eval_SetComp]
  have free : ∀ y ∈ scope.names, y.2 = .free → ∃ c, X.env.cells.lookup y.1 = some c := fun y hy e => (ok.free y hy e).elim (fun k => I.ok.has _ (.inl k)) fun k => I.ok.has _ (.inr k)
  refine wpAny_comprehension_free (use := none) rfl hs (closure_ok free) ok.kind (fun y hy e => by rw [ok.uniq y hy, e]) (thn (hi.run pins s σ H _ I h) fun xv s1 hx => thn hx fun itv s2 h2 => ?_)
  obtain ⟨it, fp, tn, J, H2, rfl, I2, T, st2, f2, q⟩ := h2
  refine PpSet.newSet_ok (newEnv_comp ?_)
  obtain ⟨W, ⟨m0, w0⟩, turn⟩ := q s2.heap.objs.size (I2.hok.fresh (Nat.le_refl _))
  -- the set
  let so : Obj := { cls := .type "set", dict := none, data := .set #[] 0 (.fresh 0 0 (!X.w.params.followText "set-order")) }
  let H3 : Hp := upd H2 s2.heap.objs.size (SetK X.prog X.w s2.heap.objs.size noKeys 0)
  let s3 : Shared := { s2 with heap := s2.heap.push so }
  have I3 : Inv X pins σ H3 s3 := I2.laid (t' := s2.toks) (fun b o e => Heap.get?_push_of_some _ e) (Nat.le_refl _) (setK_new setK_fresh)
  have f3 : ∀ b ∈ fp, FpOk X pins H3 b ∧ b < s3.heap.objs.size := fun b hb => by
    obtain ⟨o, e, _⟩ := T.obj _ _ st2 b hb
    have lt := Heap.lt_size e
    exact ⟨⟨by show upd _ _ _ b = none; rw [upd_ne (Nat.ne_of_lt lt)]; exact (f2 b hb).1, (f2 b hb).2⟩, by show b < (s2.heap.push so).objs.size; rw [Heap.size_push]; exact Nat.lt_succ_of_lt lt⟩
  have st3 : tn 0 s3.heap := T.keep _ _ _ st2 fun b _ o e => Heap.get?_push_of_some _ e
  -- the block
  have I4 := block_start I3 ok hN f3
  have pg := hg s3 H3 s3.heap.objs.size (cellsFrom (s3.heap.objs.size + 1) scope.names (cloFrom X.env.cells scope.names [])) fp
  have pe := he s3 H3 s3.heap.objs.size (cellsFrom (s3.heap.objs.size + 1) scope.names (cloFrom X.env.cells scope.names [])) fp
  let ce : Env := compEnvC scope (cellsFrom (s3.heap.objs.size + 1) scope.names (cloFrom X.env.cells scope.names [])) s3.heap.objs.size X.env
  let s4 : Shared := { s3 with heap := pushCells (s3.heap.push { cls := .type "dict", data := .dict #[] }) scope.names }
  have I4 : Inv (X.blk s3 H3 scope ce fp) [] (wipe σ (own.map (·.2))) H3 s4 := I4
  have st4 : tn 0 s4.heap := T.keep _ _ _ st3 fun b _ o e => pushCells_keeps _ _ _ _ (Heap.get?_push_of_some _ e)
  have stat : ∀ {σ' : L2.St} {H' : Hp} {s' : Shared}, Inv (X.blk s3 H3 scope ce fp) [] σ' H' s' → (∀ b ∈ fp, H' b = none) → ∀ b ∈ fp, FpOk (X.blk s3 H3 scope ce fp) [] H' b := fun {σ' H' s'} J' hn b hb =>
    ⟨hn b hb, (J'.ok.exf b hb).1, J'.ok.exfs b hb, .inl hb, fun x c e => (J'.ok.exf b hb).2 x c e, fun p hp => absurd (show p ∈ ([] : List (Addr × Obj)) ++ [] from hp) (by simp)⟩
  show codeAny _ _ (.compStart (.SetComp elt [⟨tg, iter, [], 0⟩] scope pos) 0 (.ref it) (.ref s2.heap.objs.size) ce) (compPost (model X.prog X.w) X.A X.xe none (EP X pins σ Q) (.ref s2.heap.objs.size) s3.heap.objs.size) s4
  refine PpSet.codeAny_compStart_set ?loop (T.self X.A 0 _ _ _ st4 ?loop)
  refine PpSet.compLoopS_any (fun n s' => ∃ i H', Inv (X.blk s3 H3 scope ce fp) [] (wipe σ (own.map (·.2))) H' s' ∧ tn i s'.heap ∧ (∀ b ∈ fp, H' b = none) ∧ W i n H') ?_ m0 ⟨0, H3, I4, st4, fun b hb => (f3 b hb).1.1, w0⟩
  rintro n s5 ⟨i, H5, I5, st5, n5, w5⟩
  rcases turn i n H5 w5 with ⟨stop, qq⟩ | ⟨go, Nx, hNx, step⟩
  · refine thnF (T.done (X.blk s3 H3 scope ce fp) rfl rfl rfl hc i [] s5 _ H5 (fun _ _ => False) I5 (stat I5 n5) st5 stop) fun r s6 ⟨hr, I6⟩ => ?_
    subst hr
    have I7 : Inv X pins σ H5 s6 := I3.call' (ch := fp) I6.os I6.base I6.hok I6.bare fun b hb => ⟨(f3 b hb).1.2.2.2.1, (f3 b hb).1.2.1, (f3 b hb).1.2.2.2.2.1, (f3 b hb).1.2.2.2.2.2⟩
    have fC := I3.fpOk (H' := H5) (Nat.le_refl _) (show H5 s3.heap.objs.size = none from I6.free)
    obtain ⟨m, hn, _⟩ := I6.loc
    refine ⟨m, hn, fun h'' sb => ?_⟩
    obtain ⟨f0, f1, _, f3', f4', f5'⟩ := fC
    exact ⟨.ref _, H5, I7.turned (t' := s6.toks) (fun b o hb e => (sb.2 b hb).trans e) f0 f1 f3' f4' f5', rfl, qq⟩
  · refine thnF (T.item (X.blk s3 H3 scope ce fp) rfl rfl rfl hc i [] s5 _ H5 (fun _ _ => False) I5 (stat I5 n5) st5 go) fun r s6 ⟨u, hr, h6⟩ => ?_
    subst hr
    refine thnF h6 fun _ s7 ⟨x, H7, I7, r7, y7, st7, n7⟩ => ?_
    refine thnF (pg.run _ s7 _ H7 x u _ (I7.pinned (stat I7 n7) (T.obj _ _ st7)) r7 (step x H7 y7)) fun _ s8 ⟨σ8, H8, I8, hw8, q8⟩ => ?_
    refine wpAny_tests_nil ?_
    simp only [if_true]
    refine thnF (pe.run _ s8 σ8 H8 _ I8 q8) fun z s9 ⟨yv, H9, I9, r9, k, S0, n0, ey, hD9, room, nx⟩ => ?_
    subst ey
    refine addK_ok (X := X.blk s3 H3 scope ce fp) I9 hD9 room r9 fun s10 I10 => ?_
    obtain ⟨m', hm, w'⟩ := hNx _ nx
    have still : ∀ b ∈ fp, ∀ o, s7.heap.get? b = some o → s10.heap.get? b = some o ∧ _ = none := fun b hb o e =>
      let z := I10.pin (b, o) (List.mem_append_right _ (List.mem_append_right _ (mem_pinsAt hb e)))
      ⟨z.1, z.2.1⟩
    refine ⟨m', hm, i + 1, _, (I10.unpinned (pins := [])).weak (show (wipe σ (own.map (·.2))).length = σ8.length by rw [← hw8, wipe_length]) (fun j v e => ?_), T.keep _ _ _ st7 fun b hb o e => (still b hb o e).1, fun b hb => ?_, w'⟩
    · rw [← hw8] at e
      exact (wipe_some e).1
    · obtain ⟨o, e, _⟩ := T.obj _ _ st7 b hb
      exact (still b hb o e).2

/-- len of a set of keys -/
def rLenK (P : Program) (w : World) : List V → Hp → VK → Prop := fun xs H Q => ∃ (a : Addr) (S : Key → Bool) (n : Nat), xs = [.ref a] ∧ H a = some (SetK P w a S n) ∧ Q (.int n) H
theorem call_lenK : CallR X (.builtin "len") (rLenK X.prog X.w) := by
  intro pins s σ H xs us Q I r h
  obtain ⟨a, S, n, rfl, ha, q⟩ := h
  obtain ⟨u, rfl, ru⟩ := vals1 r
  cases ru
  obtain ⟨o, es, ep, t, ho, hx, hd, he, hm, hb, hf, hn⟩ := setK_get I ha
  have h4 : scanBound = 4096 := rfl
  exact call_len_set ho hx hd hf (by omega) ⟨.int n, H, I.tok _, ⟨_, by rw [hn]⟩, q⟩

/-! ### the members of a row: as many as there are different ones -/
theorem snoc_ind {α : Type} {p : List α → Prop} (h0 : p []) (h1 : ∀ l a, p l → p (l ++ [a])) (l : List α) : p l := by
  have h : ∀ r : List α, p r.reverse := fun r => by
    induction r with
    | nil => exact h0
    | cons a r ih =>
      rw [List.reverse_cons]
      exact h1 _ _ ih
  have q := h l.reverse
  rw [List.reverse_reverse] at q
  exact q
/-- what a walk over keys leaves -/
def keysOf (ks : List Key) : (Key → Bool) × Nat := ks.foldl (fun p k => (addKey p.1 k, if p.1 k = true then p.2 else p.2 + 1)) (noKeys, 0)
theorem keysOf_snoc (ks : List Key) (k : Key) : keysOf (ks ++ [k]) = (addKey (keysOf ks).1 k, if (keysOf ks).1 k = true then (keysOf ks).2 else (keysOf ks).2 + 1) := by
  unfold keysOf
  rw [List.foldl_append]
  rfl
theorem keysOf_mem (ks : List Key) (j : Key) : (keysOf ks).1 j = true ↔ j ∈ ks := by
  refine snoc_ind (p := fun ks => (keysOf ks).1 j = true ↔ j ∈ ks) (by simp [keysOf]) (fun ks k ih => ?_) ks
  · rw [keysOf_snoc]
    show (_ || _) = true ↔ _
    rw [Bool.or_eq_true, decide_eq_true_eq, ih]
    simp
theorem keysOf_le (ks : List Key) : (keysOf ks).2 ≤ ks.length := by
  refine snoc_ind (p := fun ks => (keysOf ks).2 ≤ ks.length) (by simp [keysOf]) (fun ks k ih => ?_) ks
  · rw [keysOf_snoc, List.length_append, List.length_singleton]
    show (if (keysOf ks).1 k = true then (keysOf ks).2 else (keysOf ks).2 + 1) ≤ ks.length + 1
    have ih : (keysOf ks).2 ≤ ks.length := ih
    split <;> omega
theorem keysOf_all (ks : List Key) : (keysOf ks).2 = ks.length ↔ ks.Nodup := by
  refine snoc_ind (p := fun ks => (keysOf ks).2 = ks.length ↔ ks.Nodup) (by simp [keysOf]) (fun ks k ih => ?_) ks
  · have hle := keysOf_le ks
    rw [keysOf_snoc, List.length_append, List.length_singleton, List.nodup_append]
    show (if (keysOf ks).1 k = true then (keysOf ks).2 else (keysOf ks).2 + 1) = ks.length + 1 ↔ _
    have ih : (keysOf ks).2 = ks.length ↔ ks.Nodup := ih
    by_cases h : (keysOf ks).1 k = true
    · rw [if_pos h]
      have hm := (keysOf_mem ks k).mp h
      constructor
      · intro e
        omega
      · intro n
        exact absurd rfl (n.2.2 k hm k (List.mem_singleton.mpr rfl))
    · rw [if_neg h]
      have hm : k ∉ ks := fun z => h ((keysOf_mem ks k).mpr z)
      constructor
      · intro e
        refine ⟨ih.mp (by omega), by simp, fun a ha b hb => ?_⟩
        rw [List.mem_singleton.mp hb]
        exact fun z => hm (z ▸ ha)
      · intro n
        have := ih.mpr n.1
        omega
end
end Gd

/-! Walks over tuples of data. -/
namespace Gd
open PySem PySem.Spec PyProof.Rows L2 GxR Gx
section
variable {K : PySem.W.Frag}
theorem all_takeD {p : PyData → Bool} {l : List PyData} {i : Nat} {d : PyData} (hd : l[i]? = some d) (h : (l.take i).all p = true) : (l.take (i + 1)).all p = p d := by
  rw [List.take_add_one, hd, List.all_append, h, Bool.true_and]
  simp
theorem all_midD {p : PyData → Bool} {l : List PyData} {i : Nat} {d : PyData} (hd : l[i]? = some d) (h : p d = false) : l.all p = false := by
  rw [List.all_eq_false]
  exact ⟨d, List.mem_of_getElem? hd, by rw [h]; exact Bool.false_ne_true⟩
/-- all(test for x in tuple) -/
theorem all_tup {T a : Addr} {xs : List V} {ds : List PyData} {te : TE} {p : PyData → Bool} {H1 : Hp} {Q : VK} {σ : L2.St} (hT : TabG H1 T) (h : SqT K H1 a xs) (hs : DtAll K H1 xs ds)
    (ht : ∀ (v : V) (d : PyData) (H : Hp) (Q' : VK), d ∈ ds → Dt K H v d → Kp H1 H → (∀ H', Kp H H' → Q' (.bl (p d)) H') → te [some v] H Q') (q : ∀ H', Kp H1 H' → Q (.bl (ds.all p)) H') :
    TabG H1 T ∧ ∀ H2, Tabbed T H1 H2 → ∃ W : Nat → Nat → Hp → Prop, (∃ m, W 0 m H2) ∧ ∀ i m H, W i m H → ((Itt K a).stop i H ∧ Q (.bl true) H) ∨
      ((Itt K a).go i H ∧ ∃ Nx : Hp → Prop, (∀ H', Nx H' → ∃ m', m' < m ∧ W (i + 1) m' H') ∧ ∀ y H', (Itt K a).yld i H y H' → gName 0 y (none :: capV σ []) H' fun σ2 H3 =>
        (∀ (j : Nat) v, (none :: capV σ [] : L2.St)[j]? = some (some v) → σ2[j]? = some (some v)) ∧ te σ2 H3 fun y H5 => ∃ c, y = .bl c ∧ if c = true then Nx H5 else Q (.bl false) H5) := by
  refine ⟨hT, fun H2 h2 => ⟨fun i m H => Kp H1 H ∧ m = xs.length - i ∧ i ≤ xs.length ∧ (ds.take i).all p = true, ⟨_, Kb.tabbed h2 hT, rfl, Nat.zero_le _, by simp⟩, ?_⟩⟩
  rintro i m H ⟨k, rfl, hi, ha⟩
  have hq := k.sqT Lsts.nil h
  have hds := DtAll.kb k Lsts.nil hs
  by_cases hl : i < xs.length
  · obtain ⟨v, hv⟩ : ∃ v, xs[i]? = some v := ⟨xs[i], List.getElem?_eq_getElem hl⟩
    obtain ⟨d, hd, hvd⟩ := hds.get hv
    refine .inr ⟨⟨xs, v, hq, hv⟩, fun H' => Kp H1 H' ∧ (ds.take (i + 1)).all p = true, fun H' ⟨e, a⟩ => ⟨xs.length - (i + 1), by omega, e, rfl, hl, a⟩, fun y H' hy => ?_⟩
    obtain ⟨rfl, hy⟩ := hy
    have ey : v = y := Option.some.inj (hv.symm.trans (hy xs hq))
    subst ey
    refine ⟨nil_slots, ht v d _ _ (List.mem_of_getElem? hd) hvd k fun H5 k5 => ⟨p d, rfl, ?_⟩⟩
    cases e : p d with
    | true =>
      rw [if_pos rfl]
      exact ⟨k.trans k5, by rw [all_takeD hd ha, e]⟩
    | false =>
      rw [if_neg Bool.false_ne_true, ← all_midD (p := p) hd e]
      exact q _ (k.trans k5)
  · have e : i = xs.length := by omega
    subst e
    refine .inl ⟨⟨xs, hq, Nat.le_refl _⟩, ?_⟩
    have e2 : ds.take xs.length = ds := by
      rw [hs.length]
      exact List.take_length
    rw [e2] at ha
    rw [← ha]
    exact q _ k
/-- {e for x in tuple}, each member known -/
theorem scK_tup {P : Program} {w : World} {a : Addr} {xs : List V} {ks : List Key} {te : TE} {H1 : Hp} {Q : VK} {σ : L2.St} {j : Nat} (h : SqT K H1 a xs) (hl : ks.length = xs.length) (hn : xs.length ≤ 1000) (hj : j < σ.length)
    (ht : ∀ (i : Nat) (v : V) (k : Key) (H : Hp) (Q' : VK), xs[i]? = some v → ks[i]? = some k → Kp H1 H → Q' (kV k) H → te ((wipe σ [j]).set j (some v)) H Q')
    (q : ∀ D H', H1 D = none → Kp H1 H' → H' D = some (SetK P w D (keysOf ks).1 (keysOf ks).2) → Q (.ref D) H') :
    ∀ D, H1 D = none → ∃ W : Nat → Nat → Hp → Prop, (∃ m, W 0 m (upd H1 D (SetK P w D noKeys 0))) ∧ ∀ i m H, W i m H →
      ((Itt K a).stop i H ∧ Q (.ref D) H) ∨ ((Itt K a).go i H ∧ ∃ Nx : Hp → Prop, (∀ H', Nx H' → ∃ m', m' < m ∧ W (i + 1) m' H') ∧ ∀ x H', (Itt K a).yld i H x H' → gName j x (wipe σ [j]) H' fun σ2 H2 => wipe σ2 [j] = wipe σ [j] ∧ te σ2 H2 fun y H4 =>
        ∃ (k : Key) (S : Key → Bool) (n : Nat), y = kV k ∧ H4 D = some (SetK P w D S n) ∧ n + 1 < scanBound ∧ Nx (upd H4 D (SetK P w D (addKey S k) (if S k = true then n else n + 1)))) := by
  intro D hD
  refine ⟨fun i m H => m = xs.length - i ∧ i ≤ xs.length ∧ Kp H1 H ∧ H D = some (SetK P w D (keysOf (ks.take i)).1 (keysOf (ks.take i)).2), ⟨_, rfl, Nat.zero_le _, Kb.new hD, upd_same⟩, ?_⟩
  rintro i m H ⟨rfl, hi, k, hs⟩
  have hq := k.sqT Lsts.nil h
  by_cases hl2 : i < xs.length
  · obtain ⟨v, hv⟩ : ∃ v, xs[i]? = some v := ⟨xs[i], List.getElem?_eq_getElem hl2⟩
    obtain ⟨ky, hk⟩ : ∃ y, ks[i]? = some y := ⟨ks[i], List.getElem?_eq_getElem (by omega)⟩
    refine .inr ⟨⟨xs, v, hq, hv⟩, fun H' => Kp H1 H' ∧ H' D = some (SetK P w D (keysOf (ks.take (i + 1))).1 (keysOf (ks.take (i + 1))).2), fun H' ⟨a, b⟩ => ⟨xs.length - (i + 1), by omega, rfl, hl2, a, b⟩, fun x H' hy => ?_⟩
    obtain ⟨rfl, hy⟩ := hy
    have ey : v = x := Option.some.inj (hv.symm.trans (hy xs hq))
    subst ey
    refine ⟨?_, ht i v ky _ _ hv hk k ⟨ky, _, _, rfl, hs, ?_, ?_, ?_⟩⟩
    · show ((wipe σ [j]).set j (some v)).set j none = wipe σ [j]
      unfold wipe wipe
      rw [List.set_set, List.set_set]
    · have h1 := keysOf_le (ks.take i)
      rw [List.length_take] at h1
      show _ + 1 < 4096
      omega
    · exact k.mut hD (no_tab hs nt_ext)
    · rw [upd_same, List.take_add_one, hk]
      show some (SetK P w D _ _) = some (SetK P w D (keysOf (ks.take i ++ [ky])).1 (keysOf (ks.take i ++ [ky])).2)
      rw [keysOf_snoc]
  · have e : i = xs.length := by omega
    subst e
    refine .inl ⟨⟨xs, hq, Nat.le_refl _⟩, q D H hD k ?_⟩
    rw [← hl, List.take_length] at hs
    exact hs
end
end Gd
namespace Gd
open PySem PySem.Spec PyProof.Rows L2 GxR Gx
/-! ### rules whose reading names the written part by a letter, for the blocks of comprehensions -/
section
variable {X : Cx} {K : PySem.W.Frag}
theorem ix_tupK (h : X.K = K) : IxR X (rIxT K) := h ▸ ix_tup
theorem ix_listK (h : X.K = K) : IxR X (rIxL K) := h ▸ ix_list
theorem call_isiL (h : X.K = K) : CallR X (.builtin "isinstance") (rIsi K) := h ▸ call_isi
theorem call_len_seqK (h : X.K = K) : CallR X (.builtin "len") (fun xs H Q => ∃ p ys, xs = [.ref p] ∧ (SqL K H p ys ∨ SqT K H p ys) ∧ Q (.int ys.length) H) := h ▸ call_len_seq
theorem op_eqDK (h : X.K = K) (hu : X.A.units + 64 < cLine) : OpR X (compareOp .Eq) (rEqD K) := h ▸ op_eqD hu
theorem op_neDK (h : X.K = K) (hu : X.A.units + 64 < cLine) : OpR X (compareOp .NotEq) (rNeD K) := h ▸ op_neD hu
end
end Gd
namespace Gd
open PySem PySem.Spec PyProof.Rows L2 GxR Gx
section
variable {K : PySem.W.Frag} {T : Addr} {te : TE} {H : Hp} {Q : VK} {σ : L2.St} {i : Nat}
theorem rd_all_str {x : Str} {p : Nat → Bool} (hx : σ[i]? = some (some (.str x))) (hT : TabG H T)
    (ht : ∀ c ∈ x.cps.toList, ∀ (H : Hp) (Q' : VK), Q' (.bl (p c)) H → te [some (.str ⟨#[c]⟩)] H Q') (q : ∀ H2, Kp H H2 → Q (.bl (x.cps.toList.all p)) H2) : tAllG T (iStr (tVar i)) (gName 0) te [] σ H Q :=
  ⟨.str x, hx, x, rfl, all_str (p := p) hT ht fun H2 h2 => q H2 (Kb.tabbed h2 hT)⟩
theorem rd_all_tup {a : Addr} {xs : List V} {ds : List PyData} {p : PyData → Bool} (hx : σ[i]? = some (some (.ref a))) (hT : TabG H T) (h : SqT K H a xs) (hs : DtAll K H xs ds)
    (ht : ∀ (v : V) (d : PyData) (H' : Hp) (Q' : VK), d ∈ ds → Dt K H' v d → Kp H H' → (∀ H2, Kp H' H2 → Q' (.bl (p d)) H2) → te [some v] H' Q') (q : ∀ H', Kp H H' → Q (.bl (ds.all p)) H') : tAllG T (iTup K (tVar i)) (gName 0) te [] σ H Q :=
  ⟨.ref a, hx, a, rfl, ⟨xs, h⟩, all_tup (p := p) hT h hs ht q⟩
theorem rd_scK_tup {P : Program} {w : World} {a : Addr} {xs : List V} {ks : List Key} {j : Nat} (hx : σ[i]? = some (some (.ref a))) (h : SqT K H a xs) (hl : ks.length = xs.length) (hn : xs.length ≤ 1000) (hj : j < σ.length)
    (ht : ∀ (i : Nat) (v : V) (k : Key) (H' : Hp) (Q' : VK), xs[i]? = some v → ks[i]? = some k → Kp H H' → Q' (kV k) H' → te ((wipe σ [j]).set j (some v)) H' Q')
    (q : ∀ D H', H D = none → Kp H H' → H' D = some (SetK P w D (keysOf ks).1 (keysOf ks).2) → Q (.ref D) H') : tScK P w (iTup K (tVar i)) (gName j) te [j] σ H Q :=
  ⟨.ref a, hx, a, rfl, ⟨xs, h⟩, scK_tup h hl hn hj ht q⟩
end
end Gd

namespace Rv
open PySem PySem.Spec PyProof.Rows L2 GxR Gx Gd
/-! ### right scalars, their plain texts -/
inductive Sc where
  | none | bool (b : Bool) | int (i : Int) | text (x : Str)
def Sc.d : Sc → PyData
  | .none => .tuple [.str "none"]
  | .bool b => .tuple [.str "bool", .bool b]
  | .int i => .tuple [.str "int", .int i]
  | .text x => .tuple [.str "text", .str x]
def Sc.plain : Sc → Str
  | .none => ""
  | .bool b => if b = true then "true" else "false"
  | .int i => toString i
  | .text x => x
def Sc.ok : Sc → Prop
  | .int i => 0 ≤ i ∧ i ≤ 999999
  | _ => True
theorem log_of {i : Int} (h : 0 ≤ i ∧ i ≤ 999999) : i.natAbs.log2 < 1920 := by
  have h1 : i.natAbs < 2 ^ 20 := by omega
  by_cases h0 : i.natAbs = 0
  · rw [h0]
    decide
  · have := (Nat.log2_lt h0).mpr h1
    omega
def spPlain (K : PySem.W.Frag) : Sp := fun vs H Q _ => ∃ v s, vs = [v] ∧ Dt K H v (Sc.d s) ∧ s.ok ∧ Q (.str s.plain) H
abbrev s_plain : Stmt := topS 8
theorem sc_plain : FnScope ["scalar"] ["scalar"] (defScope s_plain) := ⟨rfl, rfl, rfl, by decide +kernel, rfl, by decide +kernel, by decide +kernel⟩
def isEntryD : PyData → Bool
  | .tuple [k, s] => isKeyD k && isScalarD s
  | _ => false
def keyOfD : PyData → Key
  | .tuple (.str x :: _) => .inr x
  | _ => .inl 0
def areEntriesD : PyData → Bool
  | .tuple ds => decide (ds.length ≤ 8) && (ds.all isEntryD && decide ((ds.map keyOfD).Nodup))
  | _ => false
def pairMap : PyData → Bool
  | .tuple [k, m] => PyData.eqv k (.str "map") && areEntriesD m
  | _ => false
def isValueD (d : PyData) : Bool := isScalarD d || pairMap d
section
variable {P : Program} {w : World} {K : PySem.W.Frag} {mg : Str → Option Value} {base : Heap}
theorem c_plain (D : DefAt K mg "plain" s_plain ["scalar"]) (m_str : mg "str" = none) : Cal P w K mg base CX0 1 "plain" ["scalar"] (spPlain K) := by
  refine D.cal (k := 0) sc_plain (fun vs H Q E h => ?_) fun f cdv A outer s H vs Q E hr h => ?_
  · obtain ⟨v, s, rfl, _⟩ := h
    rfl
  · obtain ⟨v, sc, rfl, hd, ok, q⟩ := h
    refine ⟨_, (pss_cons (ps_if (pt_cmpR op_eq (pe_ix ix_tup (pv 0) pe_int (fun _ _ => rfl)) pe_str (nomark _)) (pss_one (ps_ret pe_str)) pss_nil)
  (pss_cons (ps_if (pt_cmpR op_eq (pe_ix ix_tup (pv 0) pe_int (fun _ _ => rfl)) pe_str (nomark _)) (pss_one (ps_ret (pe_ifExp (pt_val (pe_ix ix_tup (pv 0) pe_int (fun _ _ => rfl))) pe_str pe_str))) pss_nil)
  (pss_one (ps_ret (pe_callTy (call_str_int.or SkE.call_str_str) (by rfl) m_str (by decide +kernel) (pa_cons (pe_ix ix_tup (pv 0) pe_int (fun _ _ => rfl)) pa_nil)))))), ?_⟩
    cases sc with
    | none =>
      cases hd with
      | @tup a _ _ h hs =>
        cases hs with
        | cons hk hs =>
          cases hs
          cases hk
          exact ⟨.ref a, rfl, a, _, 0, _, rfl, rfl, h, atI_nat (j := 0) rfl, rfl, _, rfl, iteT q⟩
    | bool b =>
      cases hd with
      | @tup a _ _ h hs =>
        cases hs with
        | cons hk hs =>
          cases hs with
          | cons hc hs =>
            cases hs
            cases hk
            cases hc
            refine ⟨.ref a, rfl, a, _, 0, _, rfl, rfl, h, atI_nat (j := 0) rfl, rfl, _, rfl, iteF ?_⟩
            refine ⟨.ref a, rfl, a, _, 0, _, rfl, rfl, h, atI_nat (j := 0) rfl, rfl, _, rfl, iteT ?_⟩
            refine ⟨.ref a, rfl, a, _, 1, _, rfl, rfl, h, atI_nat (j := 1) rfl, b, rfl, ?_⟩
            cases b with
            | true => exact iteT q
            | false => exact iteF q
    | int i =>
      cases hd with
      | @tup a _ _ h hs =>
        cases hs with
        | cons hk hs =>
          cases hs with
          | cons hc hs =>
            cases hs
            cases hk
            cases hc
            refine ⟨.ref a, rfl, a, _, 0, _, rfl, rfl, h, atI_nat (j := 0) rfl, rfl, _, rfl, iteF ?_⟩
            refine ⟨.ref a, rfl, a, _, 0, _, rfl, rfl, h, atI_nat (j := 0) rfl, rfl, _, rfl, iteF ?_⟩
            exact ⟨.ref a, rfl, a, _, 1, _, rfl, rfl, h, atI_nat (j := 1) rfl, .inl ⟨i, rfl, log_of ok, q⟩⟩
    | text x =>
      cases hd with
      | @tup a _ _ h hs =>
        cases hs with
        | cons hk hs =>
          cases hs with
          | cons hc hs =>
            cases hs
            cases hk
            cases hc
            refine ⟨.ref a, rfl, a, _, 0, _, rfl, rfl, h, atI_nat (j := 0) rfl, rfl, _, rfl, iteF ?_⟩
            refine ⟨.ref a, rfl, a, _, 0, _, rfl, rfl, h, atI_nat (j := 0) rfl, rfl, _, rfl, iteF ?_⟩
            exact ⟨.ref a, rfl, a, _, 1, _, rfl, rfl, h, atI_nat (j := 1) rfl, .inr ⟨x, rfl, q⟩⟩
end
end Rv

namespace Rv
open PySem PySem.Spec PyProof.Rows L2 GxR Gx Gd
theorem sp_more {K : PySem.W.Frag} {ts ts' : List Addr} {p : PyData → Bool} (h : ∀ T ∈ ts, T ∈ ts') : ∀ (vs : List V) (H : Hp) (Q : VK) (E : XK), spData K ts' p vs H Q E → spData K ts p vs H Q E :=
  fun _ _ _ _ ⟨v, d, e, hd, hz, hT, q⟩ => ⟨v, d, e, hd, hz, fun T hm => hT T (h T hm), q⟩
theorem entry_shape {d : PyData} (h : isEntryD d = true) : ∃ x s, d = .tuple [.str x, s] := by
  unfold isEntryD at h
  split at h
  · rename_i k s
    rw [Bool.and_eq_true] at h
    have h1 := h.1
    cases k with
    | str x => exact ⟨x, s, rfl⟩
    | _ => cases h1
  · cases h
section
variable {P : Program} {w : World} {K : PySem.W.Frag} {mg : Str → Option Value} {base : Heap}
end
end Rv

namespace Rs
open PySem PySem.Spec PyProof.Rows L2 GxR Gx Gd
def topS (i : Nat) : Stmt := PySem.Challenge.pw_remoteviews_k04_evaluation_exact.main.body.getD i (.Pass ⟨0, 0, 0, 0⟩)
abbrev s_is_character : Stmt := topS 6


/-! ### signs -/
def inRg (a b c : Nat) : Bool := decide (a ≤ c) && decide (c ≤ b)
def isSmall : Nat → Bool := inRg 97 122
def isDigit : Nat → Bool := inRg 48 57
def isChar (c : Nat) : Bool := inRg 32 126 c && !decide (c = 37)
theorem lt1 {a b : Nat} : decide (([a] : List Nat) < [b]) = decide (a < b) := by
  rw [Bool.eq_iff_iff, decide_eq_true_eq, decide_eq_true_eq]
  constructor
  · intro h
    cases h with
    | rel h => exact h
    | cons h => cases h
  · intro h
    exact .rel h
theorem le1 {a b : Nat} : (!decide (([b] : List Nat) < [a])) = decide (a ≤ b) := by
  rw [lt1, Bool.eq_iff_iff, Bool.not_eq_true', decide_eq_false_iff_not, decide_eq_true_eq]
  omega
def spSign (p : Nat → Bool) : Sp := fun vs H Q _ => ∃ c, vs = [.str ⟨#[c]⟩] ∧ Q (.bl (p c)) H
abbrev rLeS : R2 := fun x y H Q => ∃ i j, x = .str i ∧ y = .str j ∧ Q (.bl (!decide (j.cps.toList < i.cps.toList))) H
theorem chain_rd {a b c : Nat} {xa xb : Str} {σ : L2.St} {H : Hp} {Q : VK} {i : Nat} (ha : xa = ⟨#[a]⟩) (hb : xb = ⟨#[b]⟩) (hs : σ[i]? = some (some (.str ⟨#[c]⟩))) (q : Q (.bl (inRg a b c)) H) :
    tChain rLeS rLeS (tC (.str xa)) (tVar i) (tC (.str xb)) σ H Q := by
  subst ha hb
  refine ⟨_, hs, ⟨#[a]⟩, ⟨#[c]⟩, rfl, rfl, _, rfl, ?_⟩
  show if (!decide (([c] : List Nat) < [a])) = true then ∃ i j, V.str ⟨#[c]⟩ = .str i ∧ V.str ⟨#[b]⟩ = .str j ∧ Q (.bl (!decide (j.cps.toList < i.cps.toList))) H else Q (.bl false) H
  rw [le1]
  unfold inRg at q
  by_cases h : a ≤ c
  · rw [decide_eq_true h] at q ⊢
    rw [if_pos rfl]
    refine ⟨_, _, rfl, rfl, ?_⟩
    show Q (.bl (!decide (([b] : List Nat) < [c]))) H
    rw [le1]
    exact q
  · rw [decide_eq_false h] at q ⊢
    exact iteF q
theorem chain_and {a b c : Nat} {xa xb : Str} {σ : L2.St} {H : Hp} {Q : VK} {i : Nat} {tb : TE} (ha : xa = ⟨#[a]⟩) (hb : xb = ⟨#[b]⟩) (hs : σ[i]? = some (some (.str ⟨#[c]⟩))) (q : if inRg a b c = true then tb σ H Q else Q (.bl false) H) :
    tAndV (tChain rLeS rLeS (tC (.str xa)) (tVar i) (tC (.str xb))) tb σ H Q := chain_rd ha hb hs ⟨_, rfl, q⟩
section
variable {P : Program} {w : World} {K : PySem.W.Frag} {mg : Str → Option Value} {base : Heap}
theorem sc_is_character : FnScope ["char"] ["char"] (defScope s_is_character) := ⟨rfl, rfl, rfl, by decide +kernel, rfl, by decide +kernel, by decide +kernel⟩
theorem c_is_character (D : DefAt K mg "is_character" s_is_character ["char"]) (gP : ∃ t, mg "PERCENT" = some (.int 37 t)) (mo : mg "ord" = none) : Cal P w K mg base CX0 1 "is_character" ["char"] (spSign isChar) := by
  refine D.cal (k := 0) sc_is_character (fun vs H Q E h => ?_) fun f cdv A outer s H vs Q E hr h => ?_
  · obtain ⟨c, rfl, _⟩ := h
    rfl
  · obtain ⟨c, rfl, q⟩ := h
    obtain ⟨t, gP⟩ := gP
    refine ⟨_, pss_one (ps_ret (pe_and (pe_chain op_le_str op_le_str pe_str (pv 0) pe_str) (pe_one (pe_cmpR op_ne (pe_callB call_ord (by rfl) mo (by decide +kernel) (pa_cons (pv 0) pa_nil)) (pe_glob (v := .int 37) rfl gP ⟨t, rfl⟩) (nomark _))))), ?_⟩
    refine chain_and (a := 32) (b := 126) (c := c) rfl rfl rfl ?_
    cases e : inRg 32 126 c with
    | false =>
      refine iteF ?_
      unfold isChar at q
      rw [e] at q
      exact q
    | true =>
      refine iteT ⟨_, rfl, _, rfl, rfl, rfl, ?_⟩
      unfold isChar at q
      rw [e] at q
      have e2 : decide (V.int (((#[c] : Array Nat).getD 0 0 : Nat) : Int) = V.int 37) = decide (c = 37) := by
        rw [Bool.eq_iff_iff, decide_eq_true_eq, decide_eq_true_eq]
        constructor
        · intro h
          have h := V.int.inj h
          have h2 : ((c : Nat) : Int) = 37 := h
          omega
        · intro h
          subst h
          rfl
      rw [e2]
      exact q
end
end Rs
namespace Rs
open PySem PySem.Spec PyProof.Rows L2 GxR Gx Gd
def isNameL (l : List Nat) : Bool := decide (1 ≤ l.length) && decide (l.length ≤ 12) && ((match l with | c :: _ => isSmall c | [] => false) && l.all (fun c => isSmall c || isDigit c))
def isName : PyData → Bool
  | .str x => isNameL x.cps.toList
  | _ => false

section
variable {P : Program} {w : World} {K : PySem.W.Frag} {mg : Str → Option Value} {base : Heap}
end
end Rs

namespace Rs
open PySem PySem.Spec PyProof.Rows L2 GxR Gx Gd
/-! ### signs, as they are read -/
def sx (l : List Nat) : Str := ⟨l.toArray⟩
theorem sx_tl (l : List Nat) : (sx l).cps.toList = l := by simp [sx]
theorem sx_len (l : List Nat) : (sx l).length = l.length := by simp [sx, Str.length]
theorem sx_of (x : Str) : sx x.cps.toList = x := by simp [sx]
theorem sx_inj {a b : List Nat} (h : sx a = sx b) : a = b := by rw [← sx_tl a, h, sx_tl]
inductive Sg where
  | name (l : List Nat) | num (n : Nat) | quo (l : List Nat) | mark (c : Nat)
def Sg.d : Sg → PyData
  | .name l => .tuple [.str "name", .str (sx l)]
  | .num n => .tuple [.str "number", .int (n : Int)]
  | .quo l => .tuple [.str "quoted", .str (sx l)]
  | .mark c => .tuple [.str "mark", .str (sx [c])]
def isRun (c : Nat) : Bool := isSmall c || (inRg 65 90 c || isDigit c)
def isNumL (l : List Nat) : Bool := decide (l.length ≤ 9) && (l.all isDigit && (decide (l = [48]) || !decide (l.head? = some 48)))
def isMark (c : Nat) : Bool := decide (c = 40) || (decide (c = 41) || (decide (c = 44) || decide (c = 61)))
def escOf (c : Nat) : Option Nat := if c = 34 then some 34 else if c = 92 then some 92 else if c = 110 then some 10 else none
/-- what stands behind the opening quotation mark: the content and how far it goes -/
def readQ : List Nat → Option (List Nat × Nat)
  | [] => none
  | [c] => if c = 34 then some ([], 1) else none
  | c :: e :: r => if c = 34 then some ([], 1) else if c = 92 then (match escOf e with | some m => (readQ r).map fun p => (m :: p.1, p.2 + 2) | none => none) else if isChar c = true then (readQ (e :: r)).map fun p => (c :: p.1, p.2 + 1) else none
def runOf (l : List Nat) : List Nat := l.takeWhile isRun
/-- the sign that begins a row, and its length -/
def readS : List Nat → Option (Sg × Nat)
  | [] => none
  | c :: r => if isMark c = true then some (.mark c, 1) else if c = 34 then (readQ r).map fun p => (.quo p.1, p.2 + 1) else if isRun c = true then
      (if isNameL (runOf (c :: r)) = true then some (.name (runOf (c :: r)), (runOf (c :: r)).length) else if isNumL (runOf (c :: r)) = true then some (.num (NumText.digitsVal (runOf (c :: r))), (runOf (c :: r)).length) else none)
    else none
theorem readS_cons (c : Nat) (r : List Nat) : readS (c :: r) = if isMark c = true then some (.mark c, 1) else if c = 34 then (readQ r).map fun p => (.quo p.1, p.2 + 1) else if isRun c = true then
      (if isNameL (runOf (c :: r)) = true then some (.name (runOf (c :: r)), (runOf (c :: r)).length) else if isNumL (runOf (c :: r)) = true then some (.num (NumText.digitsVal (runOf (c :: r))), (runOf (c :: r)).length) else none)
    else none := rfl
/-- the signs of a row, or where none begins -/
inductive Out where | ok (ss : List Sg) | bad (o : Nat)
def Out.shift (w : Nat) (ss : List Sg) : Out → Out
  | .ok ts => .ok (ss ++ ts)
  | .bad o => .bad (w + o)
def splitF : Nat → List Nat → Out
  | _, [] => .ok []
  | 0, _ => .ok []
  | f + 1, c :: r => if c = 32 then (splitF f r).shift 1 [] else match readS (c :: r) with | none => .bad 0 | some (s, w) => (splitF f ((c :: r).drop w)).shift w [s]
theorem splitF_cons (f c : Nat) (r : List Nat) : splitF (f + 1) (c :: r) = if c = 32 then (splitF f r).shift 1 [] else match readS (c :: r) with | none => .bad 0 | some (s, w) => (splitF f ((c :: r).drop w)).shift w [s] := rfl
def splitR (l : List Nat) : Out := splitF l.length l
theorem readQ_pos : ∀ (l : List Nat) {p : List Nat × Nat}, readQ l = some p → 1 ≤ p.2 ∧ p.2 ≤ l.length
  | [], p, h => by cases h
  | [c], p, h => by
    unfold readQ at h
    split at h
    · cases h
      exact ⟨Nat.le_refl _, Nat.le_refl _⟩
    · cases h
  | c :: e :: r, p, h => by
    unfold readQ at h
    split at h
    · cases h
      exact ⟨Nat.le_refl _, by simp⟩
    · split at h
      · split at h
        · cases hq : readQ r with
          | none => rw [hq] at h; cases h
          | some p' =>
            rw [hq] at h
            cases h
            have := readQ_pos r hq
            exact ⟨by simp, by simp; omega⟩
        · cases h
      · split at h
        · cases hq : readQ (e :: r) with
          | none => rw [hq] at h; cases h
          | some p' =>
            rw [hq] at h
            cases h
            have := readQ_pos (e :: r) hq
            exact ⟨by simp, by simp at this ⊢; omega⟩
        · cases h
theorem runOf_cons {c : Nat} {r : List Nat} (h : isRun c = true) : runOf (c :: r) = c :: runOf r := by
  unfold runOf
  rw [List.takeWhile_cons, if_pos h]
theorem runOf_le (l : List Nat) : (runOf l).length ≤ l.length := (List.takeWhile_sublist _).length_le
theorem readS_pos {l : List Nat} {s : Sg} {w : Nat} (h : readS l = some (s, w)) : 1 ≤ w ∧ w ≤ l.length := by
  cases l with
  | nil => cases h
  | cons c r =>
    rw [readS_cons] at h
    split at h
    · cases h
      exact ⟨Nat.le_refl _, by simp⟩
    · split at h
      · cases hq : readQ r with
        | none => rw [hq] at h; cases h
        | some p =>
          rw [hq] at h
          cases h
          have := readQ_pos r hq
          exact ⟨by simp, by simp; omega⟩
      · split at h
        · rename_i hc
          have hl := runOf_le (c :: r)
          have hp : 1 ≤ (runOf (c :: r)).length := by rw [runOf_cons hc]; simp
          split at h
          · cases h
            exact ⟨hp, hl⟩
          · split at h
            · cases h
              exact ⟨hp, hl⟩
            · cases h
        · cases h
/-- enough steps -/
theorem splitF_more : ∀ (f g : Nat) (l : List Nat), l.length ≤ f → l.length ≤ g → splitF f l = splitF g l
  | f, g, [], _, _ => by cases f <;> cases g <;> rfl
  | 0, _, c :: r, h, _ => by simp at h
  | _, 0, c :: r, _, h => by simp at h
  | f + 1, g + 1, c :: r, h1, h2 => by
    unfold splitF
    split
    · rw [splitF_more f g r (by simp at h1; omega) (by simp at h2; omega)]
    · cases hq : readS (c :: r) with
      | none => rfl
      | some p =>
        obtain ⟨s, w⟩ := p
        have hp := readS_pos hq
        have hl : ((c :: r).drop w).length ≤ r.length := by rw [List.length_drop]; simp at hp ⊢; omega
        show (splitF f _).shift w [s] = (splitF g _).shift w [s]
        rw [splitF_more f g _ (by simp at h1; omega) (by simp at h2; omega)]
theorem splitR_nil : splitR [] = .ok [] := rfl
theorem splitR_sp (r : List Nat) : splitR (32 :: r) = (splitR r).shift 1 [] := rfl
theorem splitR_bad {c : Nat} {r : List Nat} (hc : c ≠ 32) (h : readS (c :: r) = none) : splitR (c :: r) = .bad 0 := by
  unfold splitR
  show splitF (r.length + 1) _ = _
  rw [splitF_cons, if_neg hc, h]
theorem splitR_sign {l : List Nat} {s : Sg} {w : Nat} (hc : l.head? ≠ some 32) (h : readS l = some (s, w)) : splitR l = (splitR (l.drop w)).shift w [s] := by
  cases l with
  | nil => cases h
  | cons c r =>
    have hp := readS_pos h
    unfold splitR
    show splitF (r.length + 1) _ = _
    rw [splitF_cons, if_neg (fun z => hc (by rw [z]; rfl)), h]
    show (splitF r.length _).shift w [s] = _
    rw [splitF_more r.length ((c :: r).drop w).length _ (by rw [List.length_drop]; simp at hp ⊢; omega) (Nat.le_refl _)]
theorem Out.shift_shift (o : Out) (a b : Nat) (ss ts : List Sg) : (o.shift a ss).shift b ts = o.shift (b + a) (ts ++ ss) := by
  cases o with
  | ok x => simp [Out.shift]
  | bad x => simp [Out.shift]; omega
/-! ### texts of signs -/
def escC (c : Nat) : List Nat := if c = 92 then [92, 92] else if c = 34 then [92, 34] else if c = 10 then [92, 110] else [c]
def escL (l : List Nat) : List Nat := l.flatMap escC
def quoL (l : List Nat) : List Nat := 34 :: (escL l ++ [34])
def Sg.text : Sg → List Nat
  | .name l => l
  | .num n => (Str.ofString (toString (n : Int))).cps.toList
  | .quo l => quoL l
  | .mark c => [c]
def Sg.run : Sg → Bool
  | .name _ => true
  | .num _ => true
  | _ => false
def Sg.good : Sg → Prop
  | .name l => isNameL l = true
  | .num n => n ≤ 999999999
  | .quo l => l.all (fun c => isChar c || decide (c = 10)) = true ∧ l.length ≤ 40
  | .mark c => isMark c = true
theorem readQ_esc : ∀ (l t : List Nat), l.all (fun c => isChar c || decide (c = 10)) = true → readQ (escL l ++ 34 :: t) = some (l, (escL l).length + 1)
  | [], t, _ => by
    show readQ (34 :: t) = _
    cases t <;> rfl
  | c :: l, t, h => by
    rw [List.all_cons, Bool.and_eq_true] at h
    have ih := readQ_esc l t h.2
    have e : escL (c :: l) = escC c ++ escL l := rfl
    rw [e]
    have h1 := h.1
    have two : ∀ {m e : Nat}, escOf e = some m → readQ ([92, e] ++ escL l ++ 34 :: t) = some (m :: l, ([92, e] ++ escL l).length + 1) := fun {m e} he => by
      show readQ (92 :: e :: (escL l ++ 34 :: t)) = _
      unfold readQ
      rw [if_neg (by decide), if_pos rfl, he]
      show (readQ (escL l ++ 34 :: t)).map _ = _
      rw [ih]
      simp
    unfold escC
    by_cases c1 : c = 92
    · subst c1
      rw [if_pos rfl]
      exact two rfl
    · rw [if_neg c1]
      by_cases c2 : c = 34
      · subst c2
        rw [if_pos rfl]
        exact two rfl
      · rw [if_neg c2]
        by_cases c3 : c = 10
        · subst c3
          rw [if_pos rfl]
          exact two rfl
        · rw [if_neg c3]
          have hch : isChar c = true := by
            rw [Bool.or_eq_true, decide_eq_true_eq] at h1
            rcases h1 with h1 | h1
            · exact h1
            · exact absurd h1 c3
          show readQ (c :: (escL l ++ 34 :: t)) = _
          obtain ⟨a, b, hab⟩ : ∃ a b, escL l ++ 34 :: t = a :: b := by
            cases escL l with
            | nil => exact ⟨_, _, rfl⟩
            | cons a b => exact ⟨_, _, rfl⟩
          rw [hab] at ih ⊢
          unfold readQ
          rw [if_neg c2, if_neg c1, if_pos hch]
          show (readQ (a :: b)).map _ = _
          rw [ih]
          simp
end Rs

namespace Rs
open PySem PySem.Spec PyProof.Rows L2 GxR Gx Gd
/-! ### the text of a sign is read as the sign -/
def Hd (t : List Nat) : Prop := t = [] ∨ ∃ c r, t = c :: r ∧ isRun c = false
theorem run_app {l t : List Nat} (h : l.all isRun = true) (ht : Hd t) : runOf (l ++ t) = l := by
  induction l with
  | nil =>
    rcases ht with rfl | ⟨c, r, rfl, hc⟩
    · rfl
    · show runOf (c :: r) = []
      unfold runOf
      rw [List.takeWhile_cons, if_neg (by rw [hc]; exact Bool.false_ne_true)]
  | cons c l ih =>
    rw [List.all_cons, Bool.and_eq_true] at h
    show runOf (c :: (l ++ t)) = _
    rw [runOf_cons h.1, ih h.2]
theorem rg {a b c : Nat} : inRg a b c = true ↔ a ≤ c ∧ c ≤ b := by
  unfold inRg
  rw [Bool.and_eq_true, decide_eq_true_eq, decide_eq_true_eq]
theorem run_plain {c : Nat} (h : isRun c = true) : isMark c = false ∧ c ≠ 34 ∧ c ≠ 32 := by
  unfold isRun isSmall isDigit at h
  rw [Bool.or_eq_true, Bool.or_eq_true, rg, rg, rg] at h
  refine ⟨?_, by omega, by omega⟩
  unfold isMark
  rw [decide_eq_false (by omega), decide_eq_false (by omega), decide_eq_false (by omega), decide_eq_false (by omega)]
  rfl
theorem digit_run {c : Nat} (h : isDigit c = true) : isRun c = true := by unfold isRun; rw [h]; simp
theorem small_run {c : Nat} (h : isSmall c = true) : isRun c = true := by unfold isRun; rw [h]; simp
theorem readS_run {l t : List Nat} (hl : l.all isRun = true) (hne : l ≠ []) (ht : Hd t) : readS (l ++ t) = if isNameL l = true then some (.name l, l.length) else if isNumL l = true then some (.num (NumText.digitsVal l), l.length) else none := by
  cases l with
  | nil => exact absurd rfl hne
  | cons c r =>
    have hc : isRun c = true := by rw [List.all_cons, Bool.and_eq_true] at hl; exact hl.1
    obtain ⟨h1, h2, _⟩ := run_plain hc
    have hr := run_app hl ht
    show readS (c :: (r ++ t)) = _
    rw [readS_cons, if_neg (by rw [h1]; exact Bool.false_ne_true), if_neg h2, if_pos hc]
    have hr' : runOf (c :: (r ++ t)) = c :: r := hr
    rw [hr']
theorem name_parts {l : List Nat} (h : isNameL l = true) : 1 ≤ l.length ∧ l.length ≤ 12 ∧ (∃ c r, l = c :: r ∧ isSmall c = true) ∧ l.all (fun c => isSmall c || isDigit c) = true := by
  unfold isNameL at h
  rw [Bool.and_eq_true, Bool.and_eq_true, decide_eq_true_eq, decide_eq_true_eq, Bool.and_eq_true] at h
  obtain ⟨⟨h1, h2⟩, h3, h4⟩ := h
  cases l with
  | nil => simp at h1
  | cons c r => exact ⟨h1, h2, ⟨c, r, rfl, h3⟩, h4⟩
theorem name_run {l : List Nat} (h : isNameL l = true) : l.all isRun = true := by
  obtain ⟨_, _, _, h⟩ := name_parts h
  rw [List.all_eq_true] at h ⊢
  intro c hc
  have h := h c hc
  rw [Bool.or_eq_true] at h
  rcases h with h | h
  · exact small_run h
  · exact digit_run h
theorem numL_head : ∀ (n : Nat), 0 < n → ∃ c r, TL.numL n = c :: r ∧ c ≠ 48 := by
  intro n
  induction n using Nat.strongRecOn with
  | _ n ih =>
    intro hn
    by_cases h : n < 10
    · rw [TL.numL_lt h]
      exact ⟨_, _, rfl, by omega⟩
    · rw [TL.numL_step (by omega)]
      obtain ⟨c, r, e, hc⟩ := ih (n / 10) (by omega) (by omega)
      rw [e]
      exact ⟨c, _, rfl, hc⟩
theorem numL_all (n : Nat) : (TL.numL n).all isDigit = true := by
  rw [List.all_eq_true]
  intro c hc
  exact rg.mpr (TL.numL_digits n c hc)
theorem num_isNum {n : Nat} (h : n ≤ 999999999) : isNumL (TL.numL n) = true := by
  unfold isNumL
  rw [decide_eq_true (TL.numL_len (n := n) (k := 9) (by decide) (by omega)), numL_all]
  by_cases h0 : n = 0
  · subst h0
    rfl
  · obtain ⟨c, r, e, hc⟩ := numL_head n (by omega)
    rw [e]
    have : decide ((c :: r).head? = some 48) = false := decide_eq_false (by simpa using hc)
    rw [this]
    simp
theorem num_noName (n : Nat) : isNameL (TL.numL n) = false := by
  cases e : isNameL (TL.numL n) with
  | false => rfl
  | true =>
    obtain ⟨_, _, ⟨c, r, e1, h1⟩, _⟩ := name_parts e
    have h2 := TL.numL_digits n c (by rw [e1]; exact List.mem_cons_self)
    have h3 := rg.mp h1
    omega
theorem text_num (n : Nat) : (Sg.num n).text = TL.numL n := TL.tl_num n
theorem mark_of {c : Nat} (h : isMark c = true) : c = 40 ∨ c = 41 ∨ c = 44 ∨ c = 61 := by
  unfold isMark at h
  rw [Bool.or_eq_true, Bool.or_eq_true, Bool.or_eq_true, decide_eq_true_eq, decide_eq_true_eq, decide_eq_true_eq, decide_eq_true_eq] at h
  exact h
theorem readS_text {s : Sg} (g : s.good) {t : List Nat} (ht : s.run = true → Hd t) : readS (s.text ++ t) = some (s, s.text.length) := by
  cases s with
  | name l =>
    have hne : l ≠ [] := by obtain ⟨_, _, ⟨c, r, rfl, _⟩, _⟩ := name_parts g; simp
    show readS (l ++ t) = _
    rw [readS_run (name_run g) hne (ht rfl), if_pos (show isNameL l = true from g)]
    rfl
  | num n =>
    rw [text_num]
    have hr : (TL.numL n).all isRun = true := by
      have := numL_all n
      rw [List.all_eq_true] at this ⊢
      exact fun c hc => digit_run (this c hc)
    rw [readS_run hr (TL.numL_ne n) (ht rfl), if_neg (by rw [num_noName]; exact Bool.false_ne_true), if_pos (num_isNum g), TL.numL_val]
  | quo l =>
    show readS (34 :: ((escL l ++ [34]) ++ t)) = _
    rw [readS_cons, if_neg (by decide), if_pos rfl, List.append_assoc]
    show (readQ (escL l ++ 34 :: t)).map _ = _
    rw [readQ_esc l t g.1]
    show some (Sg.quo l, _) = some (Sg.quo l, (quoL l).length)
    unfold quoL
    simp
  | mark c =>
    show readS (c :: t) = _
    rw [readS_cons, if_pos (show isMark c = true from g)]
    rfl
theorem text_head {s : Sg} (g : s.good) : ∃ c r, s.text = c :: r ∧ c ≠ 32 ∧ (s.run = false → isRun c = false) := by
  cases s with
  | name l =>
    obtain ⟨_, _, ⟨c, r, rfl, h⟩, _⟩ := name_parts g
    exact ⟨c, r, rfl, (run_plain (small_run h)).2.2, fun z => by cases z⟩
  | num n =>
    rw [text_num]
    cases e : TL.numL n with
    | nil => exact absurd e (TL.numL_ne n)
    | cons c r =>
      have h := TL.numL_digits n c (by rw [e]; exact List.mem_cons_self)
      exact ⟨c, r, rfl, by omega, fun z => by cases z⟩
  | quo l => exact ⟨34, _, rfl, by decide, fun _ => by decide⟩
  | mark c =>
    refine ⟨c, [], rfl, ?_, fun _ => ?_⟩
    · rcases mark_of g with h | h | h | h <;> omega
    · rcases mark_of g with h | h | h | h <;> subst h <;> decide
theorem escL_len : ∀ l : List Nat, (escL l).length ≤ 2 * l.length
  | [] => Nat.le_refl _
  | c :: l => by
    have e : escL (c :: l) = escC c ++ escL l := rfl
    have h : (escC c).length ≤ 2 := by
      unfold escC
      split
      · decide
      · split
        · decide
        · split
          · decide
          · simp
    have := escL_len l
    rw [e, List.length_append, List.length_cons]
    omega
theorem text_len {s : Sg} (g : s.good) : s.text.length ≤ 82 := by
  cases s with
  | name l =>
    have := (name_parts g).2.1
    show l.length ≤ 82
    omega
  | num n =>
    rw [text_num]
    have := TL.numL_len (n := n) (k := 9) (by decide) (by have : n ≤ 999999999 := g; omega)
    omega
  | quo l =>
    have h := g.2
    have := escL_len l
    show (34 :: (escL l ++ [34])).length ≤ 82
    simp
    omega
  | mark c => show 1 ≤ 82; decide
/-! ### rows of signs with gaps -/
def looseL : List (Nat × Sg) → List Nat
  | [] => []
  | (g, s) :: r => List.replicate g 32 ++ (s.text ++ looseL r)
def Apart : Bool → List (Nat × Sg) → Prop
  | _, [] => True
  | b, (g, s) :: r => (b = true → s.run = true → 1 ≤ g) ∧ Apart s.run r
theorem split_sps : ∀ (g : Nat) (r : List Nat), splitR (List.replicate g 32 ++ r) = (splitR r).shift g []
  | 0, r => by
    show splitR r = _
    cases splitR r <;> simp [Out.shift]
  | g + 1, r => by
    show splitR (32 :: (List.replicate g 32 ++ r)) = _
    rw [splitR_sp, split_sps g r, Out.shift_shift]
    simp [Nat.add_comm]
theorem hd_32 (t : List Nat) : Hd (32 :: t) := .inr ⟨32, t, rfl, by decide⟩
theorem split_loose : ∀ (rows : List (Nat × Sg)) (b : Bool) (t : List Nat), (∀ p ∈ rows, p.2.good) → Apart b rows → Hd t → splitR (looseL rows ++ t) = (splitR t).shift (looseL rows).length (rows.map (·.2))
  | [], b, t, _, _, _ => by
    show splitR t = _
    cases splitR t <;> simp [Out.shift, looseL]
  | (g, s) :: r, b, t, hg, ha, ht => by
    have gs : s.good := hg (g, s) List.mem_cons_self
    have ih := split_loose r s.run t (fun p hp => hg p (List.mem_cons_of_mem _ hp)) ha.2 ht
    have hd : s.run = true → Hd (looseL r ++ t) := fun hs => by
      cases r with
      | nil => exact ht
      | cons p r =>
        obtain ⟨g', s'⟩ := p
        show Hd ((List.replicate g' 32 ++ (s'.text ++ looseL r)) ++ t)
        cases g' with
        | zero =>
          have hr : s'.run = false := by
            cases e : s'.run with
            | false => rfl
            | true => exact absurd (ha.2.1 hs e) (by decide)
          obtain ⟨c, x, e1, _, h2⟩ := text_head (hg (0, s') (List.mem_cons_of_mem _ List.mem_cons_self))
          refine .inr ⟨c, (x ++ looseL r) ++ t, ?_, h2 hr⟩
          show (s'.text ++ looseL r) ++ t = _
          rw [e1]
          rfl
        | succ g' => exact hd_32 _
    have e : looseL ((g, s) :: r) ++ t = List.replicate g 32 ++ (s.text ++ (looseL r ++ t)) := by
      show (List.replicate g 32 ++ (s.text ++ looseL r)) ++ t = _
      rw [List.append_assoc, List.append_assoc]
    obtain ⟨c, x, e1, h1, _⟩ := text_head gs
    rw [e, split_sps, splitR_sign (by rw [e1]; simpa using h1) (readS_text gs hd), List.drop_left, ih, Out.shift_shift, Out.shift_shift]
    have el : (looseL ((g, s) :: r)).length = g + (s.text.length + (looseL r).length) := by
      show (List.replicate g 32 ++ (s.text ++ looseL r)).length = _
      simp
    rw [el, Nat.add_assoc]
    rfl
theorem loose_len : ∀ (rows : List (Nat × Sg)), (∀ p ∈ rows, p.2.good ∧ p.1 ≤ 2) → (looseL rows).length ≤ 84 * rows.length
  | [], _ => Nat.le_refl _
  | (g, s) :: r, h => by
    have h1 := h (g, s) List.mem_cons_self
    have h2 : s.text.length ≤ 82 := text_len h1.1
    have h3 : g ≤ 2 := h1.2
    have ih := loose_len r fun p hp => h p (List.mem_cons_of_mem _ hp)
    show (List.replicate g 32 ++ (s.text ++ looseL r)).length ≤ _
    simp
    omega
theorem loose_snoc : ∀ (rows : List (Nat × Sg)) (g : Nat) (s : Sg), looseL (rows ++ [(g, s)]) = looseL rows ++ (List.replicate g 32 ++ s.text)
  | [], g, s => by simp [looseL]
  | (g', s') :: r, g, s => by
    show List.replicate g' 32 ++ (s'.text ++ looseL (r ++ [(g, s)])) = _
    rw [loose_snoc r g s]
    show _ = (List.replicate g' 32 ++ (s'.text ++ looseL r)) ++ _
    simp
def lastRun : Bool → List (Nat × Sg) → Bool
  | b, [] => b
  | _, (_, s) :: r => lastRun s.run r
theorem apart_snoc : ∀ (rows : List (Nat × Sg)) (b : Bool) (g : Nat) (s : Sg), Apart b rows → (lastRun b rows = true → s.run = true → 1 ≤ g) → Apart b (rows ++ [(g, s)])
  | [], b, g, s, _, h => ⟨h, trivial⟩
  | (g', s') :: r, b, g, s, ha, h => ⟨ha.1, apart_snoc r s'.run g s ha.2 h⟩
theorem lastRun_snoc : ∀ (rows : List (Nat × Sg)) (b : Bool) (g : Nat) (s : Sg), lastRun b (rows ++ [(g, s)]) = s.run
  | [], b, g, s => rfl
  | (g', s') :: r, b, g, s => lastRun_snoc r s'.run g s
/-! ### the one written form -/
def isLeft : Sg → Bool
  | .mark c => decide (c = 40)
  | _ => false
def tight : Sg → Bool
  | .mark c => decide (c = 40) || (decide (c = 41) || decide (c = 44))
  | _ => false
def wr : Bool → List Sg → List (Nat × Sg)
  | _, [] => []
  | f, s :: r => ((if (f || tight s) = true then 0 else 1), s) :: wr (isLeft s) r
theorem wr_signs : ∀ (f : Bool) (ss : List Sg), (wr f ss).map (·.2) = ss
  | _, [] => rfl
  | f, s :: r => by
    show s :: (wr (isLeft s) r).map (·.2) = _
    rw [wr_signs]
theorem wr_apart : ∀ (f b : Bool) (ss : List Sg), (b = true → f = false) → Apart b (wr f ss)
  | _, _, [], _ => trivial
  | f, b, s :: r, h => by
    refine ⟨fun hb hs => ?_, wr_apart (isLeft s) s.run r fun hs => ?_⟩
    · rw [h hb]
      cases s with
      | name l => exact Nat.le_refl _
      | num n => exact Nat.le_refl _
      | quo l => cases hs
      | mark c => cases hs
    · cases s with
      | name l => rfl
      | num n => rfl
      | quo l => cases hs
      | mark c => cases hs
theorem wr_mem {f : Bool} {ss : List Sg} (h : ∀ s ∈ ss, s.good) : ∀ p ∈ wr f ss, p.2.good ∧ p.1 ≤ 2 := by
  induction ss generalizing f with
  | nil => exact fun p hp => by cases hp
  | cons s r ih =>
    intro p hp
    rcases List.mem_cons.mp hp with rfl | hp
    · refine ⟨h s List.mem_cons_self, ?_⟩
      show (if _ then 0 else 1) ≤ 2
      split <;> omega
    · exact ih (fun s hs => h s (List.mem_cons_of_mem _ hs)) p hp
end Rs

/-! Defs that may raise an own error with one field; the error caught. -/
namespace Gd
open PySem PySem.Spec PyProof.Rows L2 GxR Gx
/-- what a caller of a def that may raise needs -/
def CalX (P : Program) (w : World) (K : PySem.W.Frag) (mg : Str → Option Value) (base : Heap) (k : Nat) (x : Str) (ps : List Str) (sp : Sp) : Prop :=
  ∃ f fd, FnG P w K mg base (L2.CX P w) k f fd ps sp ∧ mg x = some (.ref f) ∧ PySem.W.keepIn K (.ref f) = true ∧ Binds K fd ps []
section
variable {P : Program} {w : World} {K : PySem.W.Frag} {mg : Str → Option Value} {base : Heap}
theorem DefAt.calX {x : Str} {st : Stmt} {N ps : List Str} {k : Nat} {sp : Sp} (D : DefAt K mg x st ps) (S : FnScope N ps (defScope st)) (len : ∀ vs H Q E, sp vs H Q E → vs.length = ps.length)
    (hb : ∀ (f : Addr) (cdv : Value) (A : Around) (outer : List Env) (s : Shared) (H : Hp) (vs : List V) (Q : VK) (E : XK), RoomG k (A.deeper (envOfC x (defScope st) s.heap.objs.size f cdv)) → sp vs H Q E →
      ∃ t, PSs (cxOf (L2.CX P w) P w K mg base N x (defScope st) f cdv A outer s H E) (defBody st) t ∧ t { nx := fun _ H' => Q .non H', rt := Q } (start N vs) H) : CalX P w K mg base (k + 1) x ps sp := by
  obtain ⟨f, fd, F, g, b⟩ := D
  exact ⟨f, fd, okGX F S len (hb f), g, F.kp, b⟩
end
section
variable {X : Cx} {k : Nat} {ps : List Str} {sp : Sp} {x : Str} {p pos : Pos} {e : Expr} {es : List Expr} {t : TA} {E : L2.St → XK}
theorem pe_calX (C : CalX X.prog X.w X.K X.mg X.base k x ps sp) (hr : RoomG k X.A) (hg : Gl X x) (hx : ∀ σ, PassesAt (L2.CX X.prog X.w) X σ (E σ)) (ha : PA X (e :: es) t) (hdb : (x == ("__debug__" : Str)) = false := by decide)
    (he : starEach (e :: es) X.env = (false, eval e X.env) :: starEach es X.env := by rfl) (hpl : (backTo pos (starEach es X.env)).any (·.1) = false := by rfl) : PE X (.Call (.Name x p) (e :: es) [] pos) (tCallS sp E t) := by
  obtain ⟨f, fd, F, g, kp, b⟩ := C
  refine ⟨fun pins s σ H Q I h => wpAny_Call_Name_kw (ld_glob I hg g ?_ hdb)⟩
  refine PySem.W.callWith_K (h₀ := X.base) I.ok.mod.kin kp (thn (ha.run pos pins s σ H _ I h) fun us s1 ⟨vs, H1, I1, rv, q1⟩ => ⟨I1.kIn, ?_⟩) he hpl
  have hl : us.length = ps.length := by
    rw [← rv.length]
    exact F.len _ _ _ _ q1
  have bb := b s1 us I1.kIn (by rw [List.append_nil]; exact hl)
  rw [List.append_nil] at bb
  refine wpAny_call (codeAny_mono (F.run X.A X.stack s1 H1 ⟨us, []⟩ us vs Q (E σ) hr I1.env0 bb rv q1) fun r s' hq => ?_)
  cases r with
  | error er => exact hx σ pins H1 s1 er s' I1 hq
  | ok fl =>
    cases fl with
    | ret u => exact I1.after hq
    | _ => exact hq.elim
end
/-- __init__ that stores its one argument -/
def spInit (K : PySem.W.Frag) (fld : Str) : Sp := fun vs H Q _ => ∃ (a C : Addr) (y : V), vs = [.ref a, y] ∧ OexC K C ∧ PySem.W.findIn K (.ref C) fld = some none ∧ H a = some (exo a C none) ∧
  ∀ dx, H dx = none → dx ≠ a → Q .non (upd (upd H dx (exd dx [(fld, y)])) a (exo a C (some dx)))
theorem rd_raise {K : PySem.W.Frag} {C : Addr} {fld : Str} {σ : L2.St} {H : Hp} {Q : XK} {i : Nat} {v : V} (T : OexC K C) (hno : PySem.W.findIn K (.ref C) fld = some none) (hv : σ[i]? = some (some v)) (q : ∀ d H', Kp H H' → H' d = some (.xd [(fld, v)]) → Q (.ref C) (some d) H') :
    tMkO C (spInit K fld) [] (tCons (tVar i) tNil) σ H Q := by
  refine ⟨v, hv, by show 1 ≤ 1000; decide, fun a ha => ⟨a, C, v, rfl, T, hno, upd_same, fun dx hdx hne => ?_⟩⟩
  have hd : H dx = none := by rw [upd_ne hne] at hdx; exact hdx
  refine ⟨rfl, dx, [(fld, v)], upd_same, by rw [upd_ne hne]; exact upd_same, hd, q dx _ ⟨fun b o e _ _ => ?_, fun T' hT => ?_, fun b e => ?_⟩ upd_same⟩
  · have h1 : b ≠ a := ne_of_none e ha
    have h2 : b ≠ dx := ne_of_none e hd
    rw [upd_ne h2, del_ne h1, upd_ne h1, upd_ne h2, upd_ne h1]
    exact e
  · obtain ⟨ps, e, t⟩ := hT
    have h1 : T' ≠ a := ne_of_none e ha
    have h2 : T' ≠ dx := ne_of_none e hd
    exact ⟨ps, by rw [upd_ne h2, del_ne h1, upd_ne h1, upd_ne h2, upd_ne h1]; exact e, t⟩
  · by_cases h2 : b = dx
    · rw [h2]
      exact hd
    · by_cases h1 : b = a
      · rw [h1]
        exact ha
      · rw [upd_ne h2, del_ne h1, upd_ne h1, upd_ne h2, upd_ne h1] at e
        exact e
/-- isinstance of the error that the suite holds -/
structure ExcK (K : PySem.W.Frag) (C : Addr) : Prop where
  cl : (PySem.W.clsIn K C).isSome = true
  ga : PySem.W.findIn K (.ref C) "__getattribute__" = some (some (.builtin "BaseException.__getattribute__"))
  gg : PySem.W.findIn K (.ref C) "__getattr__" = some none
  sub : PySem.W.subIn K (.ref C) (.type "BaseException") = some true
  ca : PySem.W.findIn K (.ref C) "__class__" = some (some (.builtin "object.__class__"))
  sg : PySem.W.specialIn K (.builtin "object.__class__") "__get__" = some (some (.builtin "getset_descriptor.__get__"))
  tk : PySem.W.takesIn K (.builtin "object.__class__") = some true
  mo : PySem.W.mroIn K C (.type "object") = some true
def rIsX (K : PySem.W.Frag) (C a : Addr) (cls : Value) (d : Option Addr) : List V → Hp → VK → Prop := fun xs H Q => ∃ (c : V) (cv : Value) (b : Bool) (dd : Addr) (fs : List (Str × V)), xs = [.ref a, c] ∧ cls = .ref C ∧ d = some dd ∧ H dd = some (.xd fs) ∧ (∀ u, RelV c u → u = cv) ∧ PySem.W.kitOne K (.ref C) cv = some b ∧ Q (.bl b) H
theorem call_isX {X : Cx} {a C : Addr} {oe : Obj} {cls : Value} {d : Option Addr} {pn : List (Addr × Obj)} (T : ExcK X.K C) (hz : Zc cls d oe) (hf : ∃ vs, oe.data = .fields vs) : CallR (X.suite a ((a, oe) :: pn)) (.builtin "isinstance") (rIsX X.K C a cls d) := by
  intro pins s σ H xs us Q I r h
  obtain ⟨c, cv, b, dd, fs, rfl, rfl, rfl, ed, hcv, e, q⟩ := h
  obtain ⟨vs, hv⟩ := hf
  have at_ := (I.pin (a, oe) (List.mem_append.mpr (.inl List.mem_cons_self))).1
  obtain ⟨mA, ⟨od, es, ep, ho, _⟩, _⟩ := (show ObjOk X.prog X.w H s.heap dd (.xd fs) from I.hok dd _ ed)
  have J : PySem.W.InstAt s.heap a oe C (some od) := by
    obtain ⟨oc, odc, oda, osl⟩ := oe
    obtain ⟨z1, z2⟩ := hz
    dsimp only at z1 z2 hv
    subst z1 z2 hv
    exact ⟨at_, rfl, rfl, ho⟩
  cases r with
  | cons rx rr =>
    cases rr with
    | cons rt rr =>
      cases rr
      cases rx
      cases hcv _ rt
      exact PySem.W.kia_one (PySem.W.kitx_exc T.cl T.ga T.gg T.sub T.ca T.sg T.tk T.mo) I.kIn J e (fun z => nomatch z) fun tk => ⟨.bl b, H, I.kept (t' := tk) fun _ _ z => z, rfl, q⟩
end Gd

namespace Gd
open PySem PySem.Spec PyProof.Rows L2 GxR Gx
/-- the class of the error at C -/
structure Bad (P : Program) (w : World) (K : PySem.W.Frag) (mg : Str → Option Value) (base : Heap) (C : Addr) : Prop where
  T : OexC K C
  no : PySem.W.findIn K (.ref C) "offset" = some none
  ex : ∃ (fI : Addr) (fd : FuncData), PySem.W.findIn K (.ref C) "__init__" = some (some (.ref fI)) ∧ PySem.W.typeIn K (.ref fI) = some (.type "function") ∧ FnOk P w K mg base CX0 1 fI fd ["self", "offset"] (spInit K "offset") ∧ Binds K fd ["self", "offset"] []
  g : mg "BadSigns" = some (.ref C)
theorem ps_bad {X : Cx} {C : Addr} {k : Nat} {e : Expr} {es : List Expr} {ta : TA} {W : WX} {p pos pos2 : Pos} (B : Bad X.prog X.w X.K X.mg X.base C) (hc : X.calm = true) (tk : Takes X W) (hr : RoomG (k + 2) X.A) (hg : Gl X "BadSigns") (ha : PA X (e :: es) ta)
    (he : starEach (e :: es) X.env = (false, eval e X.env) :: starEach es X.env := by rfl) (hpl : (backTo pos (starEach es X.env)).any (·.1) = false := by rfl) :
    PS X (.Raise (some (.Call (.Name "BadSigns" p) (e :: es) [] pos)) none pos2) (fun _ σ H => tMkO C (spInit X.K "offset") [] ta σ H fun cls d H' => W cls d σ H') := by
  obtain ⟨fI, fd, iC, tI, F1, b⟩ := B.ex
  exact ps_raise hc tk (pmk_oex B.T iC tI F1 (hr.r.mono (by omega : 1 + 1 ≤ k + 2)) b .nil pass0 hg B.g ha (by decide) he hpl)
theorem CalX.mono {P : Program} {w : World} {K : PySem.W.Frag} {mg : Str → Option Value} {base : Heap} {j k : Nat} {x : Str} {ps : List Str} {sp : Sp} (c : CalX P w K mg base j x ps sp) (h : j ≤ k) : CalX P w K mg base k x ps sp :=
  let ⟨f, fd, F, r⟩ := c; ⟨f, fd, F.mono h, r⟩
end Gd
namespace Rs
open PySem PySem.Spec PyProof.Rows L2 GxR Gx Gd
theorem chain_or {a b c : Nat} {xa xb : Str} {σ : L2.St} {H : Hp} {Q : VK} {i : Nat} {tb : TE} (ha : xa = ⟨#[a]⟩) (hb : xb = ⟨#[b]⟩) (hs : σ[i]? = some (some (.str ⟨#[c]⟩))) (q : if inRg a b c = true then Q (.bl true) H else tb σ H Q) :
    tOrV (tChain rLeS rLeS (tC (.str xa)) (tVar i) (tC (.str xb))) tb σ H Q := chain_rd ha hb hs ⟨_, rfl, q⟩
theorem one_is (c : Nat) : sx [c] = ⟨#[c]⟩ := rfl
def ErrAt (C : Addr) (n : Nat) (H : Hp) (E : XK) : Prop := ∀ d H', Kp H H' → H' d = some (.xd [("offset", .int (n : Int))]) → E (.ref C) (some d) H'
def spNum (ts : List Addr) : Sp := fun vs H Q _ => ∃ l : List Nat, vs = [.str (sx l)] ∧ l ≠ [] ∧ l.length ≤ 1000 ∧ (∀ T ∈ ts, TabG H T) ∧ ∀ H', Kp H H' → Q (.bl (isNumL l)) H'
/-- a piece of a quoted text -/
def meantL : List Nat → Option Nat
  | [c] => if c = 92 then none else if isChar c = true then some c else none
  | [92, e] => escOf e
  | _ => none
def spMeant (C : Addr) : Sp := fun vs H Q E => ∃ (p : List Nat) (n : Nat), vs = [.str (sx p), .int (n : Int)] ∧ ((∃ c, p = [c]) ∨ ∃ e, p = [92, e]) ∧ (match meantL p with
  | some m => Q (.str (sx [m])) H
  | none => ErrAt C n H E)
/-- the dict of the escapes -/
structure EscK (K : PySem.W.Frag) (w : World) (d : Addr) : Prop where
  ex : ∃ (n : Nat) (h1 h2 h3 : Int) (t1 t2 t3 u1 u2 u3 : Tok), KDict K w d #[⟨h1, .str (sx [92, 34]) t1, .str (sx [34]) u1⟩, ⟨h2, .str (sx [92, 92]) t2, .str (sx [92]) u2⟩, ⟨h3, .str (sx [92, 110]) t3, .str (sx [10]) u3⟩] n
theorem sx_beq (a b : List Nat) : (sx a == sx b) = decide (a = b) := by
  rw [Bool.eq_iff_iff, beq_iff_eq, decide_eq_true_eq]
  exact ⟨sx_inj, fun h => by rw [h]⟩
theorem EscK.look {K : PySem.W.Frag} {w : World} {d : Addr} (D : EscK K w d) (p : List Nat) : ∃ (n : Nat) (es : Array DictEntry) (r : Option Value), KDict K w d es n ∧ PySem.W.nsIn K d (sx p) = some r ∧
    (match (if p = [92, 34] then some 34 else if p = [92, 92] then some 92 else if p = [92, 110] then some 10 else none : Option Nat) with | some m => ∃ u, r = some (.str (sx [m]) u) | none => r = none) := by
  obtain ⟨n, h1, h2, h3, t1, t2, t3, u1, u2, u3, KD⟩ := D.ex
  refine ⟨n, _, (if p = [92, 34] then some (.str (sx [34]) u1) else if p = [92, 92] then some (.str (sx [92]) u2) else if p = [92, 110] then some (.str (sx [10]) u3) else none), KD, ?_, ?_⟩
  · have e : ∀ (q : List Nat) (t : Tok), (Value.str (sx q) t).isStr (sx p) = decide (q = p) := fun q t => sx_beq q p
    unfold PySem.W.nsIn
    rw [KD.at_]
    dsimp only
    by_cases c1 : p = [92, 34]
    · subst c1
      simp [List.find?_cons, e]
    · by_cases c2 : p = [92, 92]
      · subst c2
        simp [List.find?_cons, e]
      · by_cases c3 : p = [92, 110]
        · subst c3
          simp [List.find?_cons, e]
        · rw [if_neg c1, if_neg c2, if_neg c3]
          have e1 : ([92, 34] = p) = False := eq_false fun z => c1 z.symm
          have e2 : ([92, 92] = p) = False := eq_false fun z => c2 z.symm
          have e3 : ([92, 110] = p) = False := eq_false fun z => c3 z.symm
          simp only [List.find?_cons, e, e1, e2, e3, decide_false, List.find?_nil]
          rfl
  · by_cases c1 : p = [92, 34]
    · rw [if_pos c1, if_pos c1]
      exact ⟨u1, rfl⟩
    · rw [if_neg c1, if_neg c1]
      by_cases c2 : p = [92, 92]
      · rw [if_pos c2, if_pos c2]
        exact ⟨u2, rfl⟩
      · rw [if_neg c2, if_neg c2]
        by_cases c3 : p = [92, 110]
        · rw [if_pos c3, if_pos c3]
          exact ⟨u3, rfl⟩
        · rw [if_neg c3, if_neg c3]
section
variable {P : Program} {w : World} {K : PySem.W.Frag} {mg : Str → Option Value} {base : Heap}
theorem eq_sign (c d : Nat) {x : Str} (hx : x = sx [d]) : decide (V.str ⟨#[c]⟩ = V.str x) = decide (c = d) := by
  subst hx
  rw [Bool.eq_iff_iff, decide_eq_true_eq, decide_eq_true_eq]
  constructor
  · intro z
    have := sx_inj (a := [c]) (b := [d]) (V.str.inj z)
    simpa using this
  · intro z
    rw [z]
    rfl
end
end Rs

namespace Rs
open PySem PySem.Spec PyProof.Rows L2 GxR Gx Gd
/-- a sign and where it ends, or the error -/
def RdS (K : PySem.W.Frag) (C : Addr) (n : Nat) (H : Hp) (Q : VK) (E : XK) : Option (Sg × Nat) → Prop
  | none => ErrAt C n H E
  | some (g, w) => ∀ H' v, Kp H H' → Dt K H' v (.tuple [g.d, .int ((n + w : Nat) : Int)]) → Q v H'
theorem ErrAt.kp {C : Addr} {n : Nat} {H H' : Hp} {E : XK} (h : ErrAt C n H E) (k : Kp H H') : ErrAt C n H' E := fun d H2 k2 e => h d H2 (k.trans k2) e
theorem RdS.kp {K : PySem.W.Frag} {C : Addr} {n : Nat} {H H' : Hp} {Q : VK} {E : XK} : ∀ {o : Option (Sg × Nat)}, RdS K C n H Q E o → Kp H H' → RdS K C n H' Q E o
  | none, h, k => ErrAt.kp h k
  | some (g, w), h, k => fun H2 v k2 hv => h H2 v (k.trans k2) hv
def readQ' : List Nat → Option (Sg × Nat)
  | [] => none
  | _ :: r => (readQ r).map fun p => (.quo p.1, p.2 + 1)
def readR (l : List Nat) : Option (Sg × Nat) := if isNameL (runOf l) = true then some (.name (runOf l), (runOf l).length) else if isNumL (runOf l) = true then some (.num (NumText.digitsVal (runOf l)), (runOf l).length) else none
def spRead (K : PySem.W.Frag) (C : Addr) (ts : List Addr) (pre : List Nat → Prop) (f : List Nat → Option (Sg × Nat)) : Sp := fun vs H Q E => ∃ (l : List Nat) (n : Nat), vs = [.str (sx l), .int (n : Int)] ∧ n < l.length ∧ l.length ≤ 1000 ∧ (∀ T ∈ ts, TabG H T) ∧ pre (l.drop n) ∧ RdS K C n H Q E (f (l.drop n))
theorem drop_cons {l : List Nat} {n : Nat} (h : n < l.length) : ∃ c, l[n]? = some c ∧ l.drop n = c :: l.drop (n + 1) := ⟨l[n], List.getElem?_eq_getElem h, List.drop_eq_getElem_cons h⟩
theorem at_sx {l : List Nat} {n : Nat} {c : Nat} (h : l[n]? = some c) : atI (sx l).cps.toList (n : Int) = some c := by
  rw [sx_tl]
  exact atI_nat h
theorem cut_sx {l : List Nat} {a b : Nat} (h1 : a ≤ b) (h2 : b ≤ l.length) : cutS (sx l) (some (a : Int)) (some (b : Int)) = sx ((l.drop a).take (b - a)) := by
  unfold cutS
  rw [sx_len, HT.sIx_nat, HT.sIx_nat, sx_tl, Nat.min_eq_left (Nat.le_trans h1 h2), Nat.min_eq_left h2]
  rfl
theorem cut_k {l : List Nat} {a k : Nat} (h : a ≤ l.length) : cutS (sx l) (some (a : Int)) (some ((a : Int) + (k : Int))) = sx ((l.drop a).take k) := by
  unfold cutS
  have e : ((a : Int) + (k : Int)) = ((a + k : Nat) : Int) := rfl
  rw [sx_len, e, HT.sIx_nat, HT.sIx_nat, sx_tl, Nat.min_eq_left h]
  unfold sx
  congr 1
  congr 1
  rw [List.take_eq_take_iff, List.length_drop]
  omega
theorem join_sx (cs : List Nat) : Txt.join (Str.ofString "") (cs.map fun c => sx [c]) = sx cs := by
  refine TL.ext_tl ?_
  have e : TL.tl (Str.ofString "") = [] := by decide +kernel
  rw [TL.join_eq, TL.tl_join, e]
  have j : ∀ l : List (List Nat), TL.joinL [] l = l.flatten := by
    intro l
    induction l with
    | nil => rfl
    | cons p l ih =>
      cases l with
      | nil => simp [TL.joinL]
      | cons q r =>
        show p ++ ([] ++ TL.joinL [] (q :: r)) = _
        rw [ih]
        rfl
  rw [j]
  show _ = (sx cs).cps.toList
  rw [sx_tl, List.map_map]
  induction cs with
  | nil => rfl
  | cons c cs ih =>
    rw [List.map_cons, List.flatten_cons, ih]
    rfl
theorem sum_sx (cs : List Nat) : ((cs.map fun c => sx [c]).map (·.length)).sum = cs.length := by
  induction cs with
  | nil => rfl
  | cons c cs ih =>
    rw [List.map_cons, List.map_cons, List.sum_cons, ih, List.length_cons]
    show 1 + _ = _
    omega
theorem sl_ok {n : Nat} (h : n ≤ 1000) : n ≤ sizeLine := line1000 h
/-- the quoted text so far: parts at D, the rest at n -/
def Qs (K : PySem.W.Frag) (H0 : Hp) (D : Addr) (l : List Nat) (s n : Nat) (H : Hp) : Prop := ∃ ps : List Nat, n ≤ l.length ∧ s + 1 ≤ n ∧ ps.length ≤ n ∧ Kp H0 H ∧ H D = some (.lst ((ps.map fun c => sx [c]).map V.str)) ∧ readQ (l.drop (s + 1)) = (readQ (l.drop n)).map fun p => (ps ++ p.1, (n - (s + 1)) + p.2)
theorem Qs.push {K : PySem.W.Frag} {H0 H : Hp} {D : Addr} {l ps : List Nat} {s n w m : Nat} (hD : H0 D = none) (h1 : n + w ≤ l.length) (h2 : s + 1 ≤ n) (h3 : ps.length ≤ n) (hw : 1 ≤ w) (k : Kp H0 H) (e : H D = some (.lst ((ps.map fun c => sx [c]).map V.str)))
    (q : readQ (l.drop (s + 1)) = (readQ (l.drop n)).map fun p => (ps ++ p.1, (n - (s + 1)) + p.2)) (r : readQ (l.drop n) = (readQ (l.drop (n + w))).map fun p => (m :: p.1, p.2 + w)) :
    Qs K H0 D l s (n + w) (upd H D (.lst (((ps.map fun c => sx [c]).map V.str) ++ [.str (sx [m])]))) := by
  refine ⟨ps ++ [m], h1, by omega, by simp; omega, k.mut hD (no_tab e nt_lst), ?_, ?_⟩
  · rw [upd_same, List.map_append, List.map_append]
    rfl
  · rw [q, r]
    cases readQ (l.drop (n + w)) with
    | none => rfl
    | some p =>
      show some (ps ++ (m :: p.1), (n - (s + 1)) + (p.2 + w)) = some ((ps ++ [m]) ++ p.1, (n + w - (s + 1)) + p.2)
      rw [List.append_assoc, show (n - (s + 1)) + (p.2 + w) = (n + w - (s + 1)) + p.2 by omega]
      rfl
theorem readQ_nil : readQ [] = none := rfl
theorem readQ_end (r : List Nat) : readQ (34 :: r) = some ([], 1) := by cases r <;> rfl
theorem readQ_bs (r : List Nat) : readQ (92 :: r) = match r with | [] => none | e :: r' => (match escOf e with | some m => (readQ r').map fun p => (m :: p.1, p.2 + 2) | none => none) := by
  cases r with
  | nil => rfl
  | cons e r' => rfl
theorem readQ_ch {c : Nat} (h1 : c ≠ 34) (h2 : c ≠ 92) (r : List Nat) : readQ (c :: r) = if isChar c = true then (readQ r).map fun p => (c :: p.1, p.2 + 1) else none := by
  cases r with
  | nil =>
    unfold readQ
    rw [if_neg h1]
    split <;> rfl
  | cons e r' =>
    show (if c = 34 then _ else if c = 92 then _ else if isChar c = true then _ else _) = _
    rw [if_neg h1, if_neg h2]
section
variable {P : Program} {w : World} {K : PySem.W.Frag} {mg : Str → Option Value} {base : Heap}
end
end Rs

namespace Rs
open PySem PySem.Spec PyProof.Rows L2 GxR Gx Gd
theorem run_cut {L : List Nat} {k : Nat} (h : (L.take k).all isRun = true) (ht : Hd (L.drop k)) : runOf L = L.take k := by
  have := run_app h ht
  rw [List.take_append_drop] at this
  exact this
theorem run_ok {l : List Nat} (h : l.all isRun = true) (hz : l.length ≤ 1000) : OkD (.str (sx l)) := by
  refine ⟨1, by decide, ?_⟩
  have e : (decide ((sx l).length ≤ 1000) && PyData.strOk (sx l)) = true := by
    rw [sx_len, decide_eq_true hz, Bool.true_and]
    show (sx l).cps.all _ = true
    rw [← Array.all_toList, sx_tl, List.all_eq_true]
    intro c hc
    have h1 := List.all_eq_true.mp h c hc
    unfold isRun isSmall isDigit at h1
    rw [Bool.or_eq_true, Bool.or_eq_true, rg, rg, rg] at h1
    rw [decide_eq_true_eq]
    omega
  exact e
theorem num_val {l : List Nat} (h : isNumL l = true) (hne : l ≠ []) : intText? (sx l) = some ((NumText.digitsVal l : Nat) : Int) ∧ (sx l).length ≤ 640 := by
  unfold isNumL at h
  rw [Bool.and_eq_true, decide_eq_true_eq, Bool.and_eq_true] at h
  have hd : NumText.AllDigits l := fun c hc => rg.mp (List.all_eq_true.mp h.2.1 c hc)
  refine ⟨?_, by rw [sx_len]; omega⟩
  have := PySem.intText_digits (x := sx l) (by rw [sx_tl]; exact hd) (by rw [sx_tl]; exact hne) (by rw [sx_len]; omega)
  rw [sx_tl] at this
  exact this
def marksV : List V := [.str (Str.ofString "("), .str (Str.ofString ")"), .str (Str.ofString ","), .str (Str.ofString "=")]
theorem in_marks (c : Nat) : inV (.str ⟨#[c]⟩) marksV = isMark c := by
  have e : ∀ (d : Nat) (x : Str), x = sx [d] → eqV (.str x) (.str ⟨#[c]⟩) = decide (c = d) := fun d x hx => by
    subst hx
    show (sx [d] == sx [c]) = _
    rw [sx_beq, Bool.eq_iff_iff, decide_eq_true_eq, decide_eq_true_eq]
    simp [eq_comm]
  show (eqV _ _ || (eqV _ _ || (eqV _ _ || (eqV _ _ || false)))) = _
  rw [e 40 _ (by decide +kernel), e 41 _ (by decide +kernel), e 44 _ (by decide +kernel), e 61 _ (by decide +kernel), Bool.or_false]
  rfl
/-- a pair that is made -/
theorem mk_pair {K : PySem.W.Frag} {H : Hp} {Q : VK} {v : V} {x : Str} {z : Int} {d : PyData} (hd : Dt K H v d) (q : ∀ H' u, Kp H H' → Dt K H' u (.tuple [.tuple [.str x, d], .int z]) → Q u H') :
    2 ≤ sizeLine ∧ ∀ p, H p = none → ∀ p2, upd H p (.tup [.str x, v]) p2 = none → Q (.ref p2) (upd (upd H p (.tup [.str x, v])) p2 (.tup [.ref p, .int z])) := by
  refine ⟨by decide, fun p hp p2 hp2 => ?_⟩
  have k1 : Kp H (upd H p (.tup [.str x, v])) := Kb.new hp
  have d1 : Dt K (upd H p (.tup [.str x, v])) (.ref p) (.tuple [.str x, d]) := .tup (SqT.of upd_same) (.cons (.str _) (.cons (hd.kb k1 Lsts.nil) .nil))
  generalize upd H p (.tup [.str x, v]) = H2 at k1 d1 hp2 ⊢
  have k2 : Kp H2 (upd H2 p2 (.tup [.ref p, .int z])) := Kb.new hp2
  exact q _ _ (k1.trans k2) (.tup (SqT.of upd_same) (.cons (d1.kb k2 Lsts.nil) (.cons (.int _) .nil)))
theorem mk_made {K : PySem.W.Frag} {H : Hp} {Q : VK} {v : V} {x : Str} {d : PyData} {σ : L2.St} {t : TA} {z : Int} (hd : Dt K H v d) (q : ∀ H' u, Kp H H' → Dt K H' u (.tuple [.tuple [.str x, d], .int z]) → Q u H') (ht : ∀ (H' : Hp) (R : List V → Hp → Prop) (_ : R [.int z] H'), t σ H' R := by intro _ _ h; exact ⟨_, rfl, _, _, rfl, rfl, h⟩)
    {te : TE} (he : ∀ (H' : Hp) (R : VK), R v H' → te σ H' R := by intro _ _ h; exact ⟨_, rfl, h⟩) : tTup (tCons (tTup (tCons (tC (.str x)) (tCons te tNil))) t) σ H Q := by
  obtain ⟨z1, z2⟩ := mk_pair hd q
  exact he H _ ⟨z1, fun p hp => ht _ _ ⟨z1, z2 p hp⟩⟩
def tRunEnd (K : PySem.W.Frag) (C : Addr) (ts : List Addr) (E : XK) : TS :=
  tSeq (tAsg (tSl rSlS (tVar 0) (tPart (tVar 1)) (tPart (tVar 2))) (gName 3))
    (tSeq (tIfS (tB (tCall (spData K ts isName) [] E0 (tCons (tVar 3) tNil))) (tRet (tTup (tCons (tTup (tCons (tC (.str (Str.ofString "name"))) (tCons (tVar 3) tNil))) (tCons (tVar 2) tNil)))) tNext)
      (tSeq (tIfS (tB (tCall (spNum ts) [] E0 (tCons (tVar 3) tNil))) (tRet (tTup (tCons (tTup (tCons (tC (.str (Str.ofString "number"))) (tCons (tCB (fun xs H Q => ∃ a n, xs = [.str a] ∧ intText? a = some n ∧ a.length ≤ 640 ∧ Q (.int n) H) (tCons (tVar 3) tNil)) tNil))) (tCons (tVar 2) tNil)))) tNext)
        fun _ σ H => tMkO C (spInit K (Str.ofString "offset")) [] (tCons (tVar 1) tNil) σ H fun cls d H' => E cls d H'))
theorem run_end {K : PySem.W.Frag} {C : Addr} {ts : List Addr} {E : XK} {D : Ends} {H : Hp} {l : List Nat} {n a : Nat} {o3 : Option V} (T : OexC K C) (no : PySem.W.findIn K (.ref C) "offset" = some none) (hz : l.length ≤ 1000) (hT : ∀ T ∈ ts, TabG H T) (h1 : n ≤ a) (h2 : a ≤ l.length)
    (rne : runOf (l.drop n) ≠ []) (e : (l.drop n).take (a - n) = runOf (l.drop n)) (el : (runOf (l.drop n)).length = a - n) (hr : (runOf (l.drop n)).all isRun = true) (h : RdS K C n H D.rt E (readR (l.drop n))) :
    tRunEnd K C ts E D [some (.str (sx l)), some (.int (n : Int)), some (.int (a : Int)), o3] H := by
  have lz : (sx l).length ≤ sizeLine := by rw [sx_len]; exact sl_ok hz
  refine ⟨_, rfl, _, rfl, _, rfl, _, rfl, _, rfl, sx l, rfl, lz, ?_⟩
  rw [cut_sx h1 h2, e]
  unfold readR at h
  have rz : (runOf (l.drop n)).length ≤ 1000 := by omega
  have ew : n + (runOf (l.drop n)).length = a := by omega
  rw [ew.symm] at *
  generalize runOf (l.drop n) = R at h hr rne rz
  refine ⟨_, rfl, .str (sx R), .str (sx R), rfl, .str _, run_ok hr rz, hT, fun H2 k2 => ⟨isNameL R, ?_, ?_⟩⟩
  · show V.bl (isNameL (sx R).cps.toList) = _
    rw [sx_tl]
  cases en : isNameL R with
  | true =>
    rw [en] at h
    obtain ⟨z1, z2⟩ := mk_pair (Q := D.rt) (x := Str.ofString "name") (z := ((n + R.length : Nat) : Int)) (.str (sx R)) fun H' u k hu => h H' u (k2.trans k) hu
    exact iteT ⟨_, rfl, z1, fun p hp => ⟨_, rfl, z1, z2 p hp⟩⟩
  | false =>
    rw [en] at h
    refine iteF ⟨_, rfl, R, rfl, rne, rz, fun T hm => k2.tab T (hT T hm), fun H3 k3 => ⟨isNumL R, rfl, ?_⟩⟩
    cases eu : isNumL R with
    | true =>
      rw [eu] at h
      obtain ⟨v1, v2⟩ := num_val eu rne
      obtain ⟨z1, z2⟩ := mk_pair (Q := D.rt) (x := Str.ofString "number") (z := ((n + R.length : Nat) : Int)) (.int ((NumText.digitsVal R : Nat) : Int)) fun H' u k hu => h H' u ((k2.trans k3).trans k) hu
      exact iteT ⟨_, rfl, _, _, rfl, v1, v2, z1, fun p hp => ⟨_, rfl, z1, z2 p hp⟩⟩
    | false =>
      rw [eu] at h
      exact iteF (rd_raise T no (i := 1) rfl (ErrAt.kp h (k2.trans k3)))
section
variable {P : Program} {w : World} {K : PySem.W.Frag} {mg : Str → Option Value} {base : Heap}
end
end Rs

namespace Rs
open PySem PySem.Spec PyProof.Rows L2 GxR Gx Gd
theorem DtAll.snoc {K : PySem.W.Frag} {H : Hp} {v : V} {d : PyData} : ∀ {vs : List V} {ds : List PyData}, DtAll K H vs ds → Dt K H v d → DtAll K H (vs ++ [v]) (ds ++ [d])
  | _, _, .nil, h => .cons h .nil
  | _, _, .cons h hs, h2 => .cons h (DtAll.snoc hs h2)
theorem Out.shift0 (o : Out) : o = o.shift 0 [] := by cases o <;> simp [Out.shift]
/-- the list of the signs at D, or the error -/
def RdL (K : PySem.W.Frag) (C : Addr) (H : Hp) (Q : VK) (E : XK) : Out → Prop
  | .bad n => ErrAt C n H E
  | .ok ss => ∀ H' D vs, H D = none → Kp H H' → H' D = some (.lst vs) → DtAll K H' vs (ss.map Sg.d) → Q (.ref D) H'
def spSplit (K : PySem.W.Frag) (C : Addr) (ts : List Addr) : Sp := fun vs H Q E => ∃ l : List Nat, vs = [.str (sx l)] ∧ l.length ≤ 1000 ∧ (∀ T ∈ ts, TabG H T) ∧ RdL K C H Q E (splitR l)
section
variable {P : Program} {w : World} {K : PySem.W.Frag} {mg : Str → Option Value} {base : Heap}
end
end Rs

namespace Gd
open PySem PySem.Spec PyProof.Rows L2 GxR Gx
def rNotInT (K : PySem.W.Frag) : R2 := fun x y H Q => ∃ d ds, Dp K H x d ∧ Dp K H y (.tuple ds) ∧ SeqAt.shaped d = true ∧ SeqAt.shaped (.tuple ds) = true ∧ Q (.bl (!ds.any fun z => PyData.eqv z d)) H
theorem op_notInT {X : Cx} (hu : X.A.units + 65 < cLine) : OpR X (compareOp .NotIn) (rNotInT X.K) := by
  intro pins s σ H x y v u Q I rx ry h
  obtain ⟨d, ds, h1, h2, s1, s2, q⟩ := h
  obtain ⟨as, r1⟩ := Dp.reads I d x v h1 rx
  obtain ⟨bs, r2⟩ := Dp.reads I (.tuple ds) y u h2 ry
  exact SeqAt.notIn_tuple_reads r2 r1 (SeqAt.canLay_of_shaped s2) (SeqAt.canLay_of_shaped s1) (room_in_shaped s1 hu) ⟨.bl _, H, I, rfl, q⟩
theorem hu_units {k : Nat} {A : Around} (hr : RoomG k A) : A.units + 65 < cLine := by have := hr.r.un; omega
/-- a def whose body wants a token -/
theorem DefAt.calT {P : Program} {w : World} {K : PySem.W.Frag} {mg : Str → Option Value} {base : Heap} {x : Str} {st : Stmt} {N ps : List Str} {sp : Sp} (D : DefAt K mg x st ps) (S : FnScope N ps (defScope st)) (hnc : ∀ y ∈ (defScope st).names, y.2 ≠ .cell) (hps : 1 ≤ ps.length)
    (len : ∀ vs H Q E, sp vs H Q E → vs.length = ps.length)
    (hb : ∀ (f : Addr) (cdv : Value) (A : Around) (outer : List Env) (s : Shared) (H : Hp) (vs : List V) (Q : VK) (E : XK), sp vs H Q E →
      ∃ t, PSsT (cxOf CX0 P w K mg base N x (defScope st) f cdv A outer s H E) (defBody st) t ∧ t { nx := fun _ H' => Q .non H', rt := Q } (start N vs) H) : Cal P w K mg base CX0 1 x ps sp := by
  obtain ⟨f, fd, F, g, b⟩ := D
  have kp := F.kp
  obtain ⟨oc, od, kV, doc, pm, an, cdv, ct, osl, rfl, lk, hcd⟩ := F.ex
  exact ⟨f, _, .of (fn_ofT (k := 0) lk hcd S hnc hps len fun A outer s H vs Q E _ hsp => hb f cdv A outer s H vs Q E hsp), g, kp, b⟩
end Gd
namespace Rs
open PySem PySem.Spec PyProof.Rows L2 GxR Gx Gd
/-! ### escapes -/
theorem repl1 (a : Nat) (z : List Nat) : ∀ l : List Nat, StrLaws.replL [a] z l = l.flatMap fun c => if c = a then z else [c]
  | [] => StrLaws.replL_nil
  | c :: r => by
    have ih := repl1 a z r
    rw [List.flatMap_cons, ← ih]
    unfold StrLaws.replL
    rw [StrLaws.replS]
    by_cases h : c = a
    · subst h
      rw [if_pos (by simp), if_pos rfl]
      rfl
    · rw [if_neg (by simpa using h), if_neg h]
      rfl
theorem replace1 {x y z : Str} {a : Nat} (hy : y = sx [a]) : (Txt.replace x y z).cps.toList = x.cps.toList.flatMap fun c => if c = a then z.cps.toList else [c] := by
  subst hy
  rw [StrLaws.replace_list (by rw [sx_len]; exact Nat.le_refl _), sx_tl, repl1]
theorem escaped_is (l : List Nat) : Txt.replace (Txt.replace (Txt.replace (sx l) (Str.ofString "\\") (Str.ofString "\\\\")) (Str.ofString "\"") (Str.ofString "\\\"")) (Str.ofString "\n") (Str.ofString "\\n") = sx (escL l) := by
  refine TL.ext_tl ?_
  show Array.toList _ = Array.toList _
  rw [replace1 (a := 10) (by decide +kernel), replace1 (a := 34) (by decide +kernel), replace1 (a := 92) (by decide +kernel), sx_tl, sx_tl, List.flatMap_assoc, List.flatMap_assoc]
  unfold escL
  congr 1
  funext c
  have e1 : (Str.ofString "\\\\").cps.toList = [92, 92] := by decide +kernel
  have e2 : (Str.ofString "\\\"").cps.toList = [92, 34] := by decide +kernel
  have e3 : (Str.ofString "\\n").cps.toList = [92, 110] := by decide +kernel
  rw [e1, e2, e3]
  unfold escC
  by_cases h1 : c = 92
  · subst h1
    rfl
  · rw [if_neg h1, if_neg h1]
    by_cases h2 : c = 34
    · subst h2
      rfl
    · by_cases h3 : c = 10
      · subst h3
        rfl
      · rw [if_neg h2, if_neg h3]
        simp [h2, h3]
theorem esc_len1 (l : List Nat) : (Txt.replace (sx l) (Str.ofString "\\") (Str.ofString "\\\\")).length ≤ 2 * l.length := by
  have e : ∀ m : List Nat, (m.flatMap fun c => if c = 92 then (Str.ofString "\\\\").cps.toList else [c]).length ≤ 2 * m.length := by
    intro m
    have e1 : (Str.ofString "\\\\").cps.toList = [92, 92] := by decide +kernel
    rw [e1]
    induction m with
    | nil => exact Nat.le_refl _
    | cons c m ih =>
      rw [List.flatMap_cons, List.length_append, List.length_cons]
      have : (if c = 92 then [92, 92] else [c]).length ≤ 2 := by split <;> simp
      omega
  have := e l
  rw [← sx_tl l, ← replace1 (y := Str.ofString "\\") (a := 92) (by decide +kernel), Array.length_toList, sx_tl] at this
  exact this
theorem esc_len2 (l : List Nat) : (Txt.replace (Txt.replace (sx l) (Str.ofString "\\") (Str.ofString "\\\\")) (Str.ofString "\"") (Str.ofString "\\\"")).length ≤ 4 * l.length := by
  have e : ∀ m : List Nat, (m.flatMap fun c => if c = 34 then (Str.ofString "\\\"").cps.toList else [c]).length ≤ 2 * m.length := by
    intro m
    have e1 : (Str.ofString "\\\"").cps.toList = [92, 34] := by decide +kernel
    rw [e1]
    induction m with
    | nil => exact Nat.le_refl _
    | cons c m ih =>
      rw [List.flatMap_cons, List.length_append, List.length_cons]
      have : (if c = 34 then [92, 34] else [c]).length ≤ 2 := by split <;> simp
      omega
  have h1 := esc_len1 l
  have h2 := e (Txt.replace (sx l) (Str.ofString "\\") (Str.ofString "\\\\")).cps.toList
  rw [← replace1 (y := Str.ofString "\"") (a := 34) (by decide +kernel), Array.length_toList, Array.length_toList] at h2
  have h3 : (Txt.replace (sx l) (Str.ofString "\\") (Str.ofString "\\\\")).cps.size ≤ 2 * l.length := h1
  show Array.size _ ≤ _
  omega
def spEsc : Sp := fun vs H Q _ => ∃ l : List Nat, vs = [.str (sx l)] ∧ l.length ≤ 1000 ∧ Q (.str (sx (escL l))) H
theorem rd_esc {te : TE} {σ : L2.St} {H : Hp} {Q : VK} {l : List Nat} (hz : l.length ≤ 1000) (ht : ∀ R : VK, R (.str (sx l)) H → te σ H R) (q : Q (.str (sx (escL l))) H) :
    CwR.tReplC (CwR.tReplC (CwR.tReplC te (Str.ofString "\\") (Str.ofString "\\\\")) (Str.ofString "\"") (Str.ofString "\\\"")) (Str.ofString "\n") (Str.ofString "\\n") σ H Q := by
  have h1 := esc_len1 l
  have h2 := esc_len2 l
  have z1 : (Str.ofString "\\\\").length = 2 := by decide +kernel
  have z2 : (Str.ofString "\\\"").length = 2 := by decide +kernel
  have z3 : (Str.ofString "\\n").length = 2 := by decide +kernel
  refine ht _ ⟨_, rfl, by rw [z1, sx_len]; omega, _, rfl, by rw [z2]; omega, _, rfl, by rw [z3]; omega, ?_⟩
  rw [escaped_is]
  exact q
/-! ### comparing signs -/
theorem eqv_mark (s : Sg) (c : Nat) : PyData.eqv s.d (Sg.mark c).d = (match s with | .mark c' => decide (c' = c) | _ => false) := by
  have e : ∀ (a : Str) (x y : PyData), PyData.eqv (.tuple [.str a, x]) (.tuple [.str (Str.ofString "mark"), y]) = (a == Str.ofString "mark" && PyData.eqv x y) := fun a x y => by
    simp only [PyData.eqv, PyData.eqvAll, Bool.and_true]
  cases s with
  | name l => exact (e _ _ _).trans (by rw [show ((Str.ofString "name") == (Str.ofString "mark")) = false by decide +kernel]; rfl)
  | num n => exact (e _ _ _).trans (by rw [show ((Str.ofString "number") == (Str.ofString "mark")) = false by decide +kernel]; rfl)
  | quo l => exact (e _ _ _).trans (by rw [show ((Str.ofString "quoted") == (Str.ofString "mark")) = false by decide +kernel]; rfl)
  | mark c' =>
    refine (e _ _ _).trans ?_
    rw [show ((Str.ofString "mark") == (Str.ofString "mark")) = true by decide +kernel, Bool.true_and]
    simp only [PyData.eqv]
    rw [sx_beq]
    simp
theorem eqv_mark' (s : Sg) (c : Nat) : PyData.eqv (Sg.mark c).d s.d = (match s with | .mark c' => decide (c' = c) | _ => false) := by
  have e : ∀ (a : Str) (x y : PyData), PyData.eqv (.tuple [.str (Str.ofString "mark"), y]) (.tuple [.str a, x]) = (Str.ofString "mark" == a && PyData.eqv y x) := fun a x y => by
    simp only [PyData.eqv, PyData.eqvAll, Bool.and_true]
  cases s with
  | name l => exact (e _ _ _).trans (by rw [show ((Str.ofString "mark") == (Str.ofString "name")) = false by decide +kernel]; rfl)
  | num n => exact (e _ _ _).trans (by rw [show ((Str.ofString "mark") == (Str.ofString "number")) = false by decide +kernel]; rfl)
  | quo l => exact (e _ _ _).trans (by rw [show ((Str.ofString "mark") == (Str.ofString "quoted")) = false by decide +kernel]; rfl)
  | mark c' =>
    refine (e _ _ _).trans ?_
    rw [show ((Str.ofString "mark") == (Str.ofString "mark")) = true by decide +kernel, Bool.true_and]
    simp only [PyData.eqv]
    rw [sx_beq]
    simp [eq_comm]
theorem good_ok {s : Sg} (g : s.good) : OkD s.d := by
  have one : ∀ (l : List Nat), l.length ≤ 1000 → (∀ c ∈ l, c < 1114112) → okN 1 (.str (sx l)) = true := fun l h1 h2 => by
    have e : (decide ((sx l).length ≤ 1000) && PyData.strOk (sx l)) = true := by
      rw [sx_len, decide_eq_true h1, Bool.true_and]
      show (sx l).cps.all _ = true
      rw [← Array.all_toList, sx_tl, List.all_eq_true]
      exact fun c hc => decide_eq_true (h2 c hc)
    exact e
  have two : ∀ (x : Str) (d : PyData), okN 1 (.str x) = true → okN 1 d = true → OkD (.tuple [.str x, d]) := fun x d h1 h2 => ⟨2, by decide, by
    show (decide ([PyData.str x, d].length ≤ 1000) && [PyData.str x, d].all (okN 1)) = true
    rw [List.all_cons, List.all_cons, h1, h2]
    rfl⟩
  cases s with
  | name l =>
    refine two _ _ (by decide +kernel) (one l (by have := (name_parts g).2.1; omega) fun c hc => ?_)
    have h := List.all_eq_true.mp (name_run g) c hc
    unfold isRun isSmall isDigit at h
    rw [Bool.or_eq_true, Bool.or_eq_true, rg, rg, rg] at h
    omega
  | num n =>
    refine two _ _ (by decide +kernel) ?_
    have hn : n ≤ 999999999 := g
    refine decide_eq_true ?_
    have : (n : Int).natAbs = n := by omega
    rw [this]
    by_cases h0 : n = 0
    · rw [h0]
      decide
    · have := (Nat.log2_lt h0).mpr (show n < 2 ^ 30 by omega)
      omega
  | quo l =>
    refine two _ _ (by decide +kernel) (one l (by have := g.2; omega) fun c hc => ?_)
    have h := List.all_eq_true.mp g.1 c hc
    rw [Bool.or_eq_true, decide_eq_true_eq] at h
    rcases h with h | h
    · unfold isChar at h
      rw [Bool.and_eq_true, rg] at h
      omega
    · omega
  | mark c =>
    refine two _ _ (by decide +kernel) (one [c] (by simp) fun d hd => ?_)
    rw [List.mem_singleton.mp hd]
    rcases mark_of g with h | h | h | h <;> omega
end Rs

/-! Expressions, as they are read: pure. -/
namespace Rx
open PySem PySem.Spec PyProof.Rows L2 GxR Gx Gd Rs
def cs (s : String) : List Nat := (Str.ofString s).cps.toList
def noneS : PyData := .tuple [.str "none"]
/-- the scalar of a sign -/
def scalarOf : Sg → Option PyData
  | .quo l => if Rv.isScalarD (.tuple [.str "text", .str (sx l)]) = true then some (.tuple [.str "text", .str (sx l)]) else none
  | .num n => if Rv.isScalarD (.tuple [.str "int", .int (n : Int)]) = true then some (.tuple [.str "int", .int (n : Int)]) else none
  | .name l => if l = cs "none" then some noneS else if l = cs "true" then some (.tuple [.str "bool", .bool true]) else if l = cs "false" then some (.tuple [.str "bool", .bool false]) else none
  | .mark _ => none
theorem scalar_name (l : List Nat) : scalarOf (.name l) = if l = cs "none" then some noneS else if l = cs "true" then some (.tuple [.str "bool", .bool true]) else if l = cs "false" then some (.tuple [.str "bool", .bool false]) else none := rfl
theorem scalar_num (n : Nat) : scalarOf (.num n) = if Rv.isScalarD (.tuple [.str "int", .int (n : Int)]) = true then some (.tuple [.str "int", .int (n : Int)]) else none := rfl
theorem scalar_quo (l : List Nat) : scalarOf (.quo l) = if Rv.isScalarD (.tuple [.str "text", .str (sx l)]) = true then some (.tuple [.str "text", .str (sx l)]) else none := rfl
inductive Ex where
  | lit (v : PyData) | var (l : List Nat) | call (f : List Nat) (es : List Ex) | inj (l : List Nat) (e : Ex)
mutual
def Ex.d : Ex → PyData
  | .lit v => .tuple [.str "literal", v]
  | .var l => .tuple [.str "variable", .str (sx l)]
  | .call f es => .tuple [.str "call", .str (sx f), .tuple (Ex.ds es)]
  | .inj l e => .tuple [.str "inject", .str (sx l), e.d]
def Ex.ds : List Ex → List PyData
  | [] => []
  | e :: es => e.d :: Ex.ds es
end
mutual
def Ex.calls : Ex → Nat
  | .lit _ => 0
  | .var _ => 0
  | .call _ es => 1 + Ex.callsAll es
  | .inj _ e => 1 + e.calls
def Ex.callsAll : List Ex → Nat
  | [] => 0
  | e :: es => e.calls + Ex.callsAll es
end
-- how deep the calls stand in one another; a call with more than three arguments counts as deeper
mutual
def Ex.deep : Ex → Nat
  | .lit _ => 0
  | .var _ => 0
  | .call _ es => 1 + Ex.deepAll es + (es.length - 3)
  | .inj _ e => 1 + e.deep
def Ex.deepAll : List Ex → Nat
  | [] => 0
  | e :: es => max e.deep (Ex.deepAll es)
end
def arity : List Nat → Nat := fun l => if l ∈ [cs "not", cs "size", cs "reverse", cs "resource"] then 1 else if l ∈ [cs "put", cs "cond"] then 3 else 2
def reserved : List (List Nat) := ["none", "true", "false", "map", "inject", "not", "size", "reverse", "add", "sub", "lt", "eq", "and", "concat", "has", "get", "remove", "take", "put", "cond", "resource"].map cs
/-- a mark stands first -/
def atMark (c : Nat) : List Sg → Bool
  | .mark c' :: _ => decide (c' = c)
  | _ => false
/-- what stands behind a mark -/
def expect (c : Nat) (r : List Sg) : Option (List Sg) := if atMark c r = true then some r.tail else none
def rdArgs (f : List Sg → Option (Ex × List Sg)) : Nat → Nat → List Sg → Option (List Ex × List Sg)
  | 0, _, r => some ([], r)
  | k + 1, c, r => match expect c r with
    | none => none
    | some r1 => match f r1 with
      | none => none
      | some (e, r2) => match rdArgs f k 44 r2 with
        | none => none
        | some (es, r3) => some (e :: es, r3)
def kindOf : Sg → Str
  | .name _ => Str.ofString "name"
  | .num _ => Str.ofString "number"
  | .quo _ => Str.ofString "quoted"
  | .mark _ => Str.ofString "mark"
def contOf : Sg → PyData
  | .name l => .str (sx l)
  | .num n => .int (n : Int)
  | .quo l => .str (sx l)
  | .mark c => .str (sx [c])
theorem d_eq (s : Sg) : s.d = .tuple [.str (kindOf s), contOf s] := by cases s <;> rfl
def isQuo : Sg → Bool
  | .quo _ => true
  | _ => false
/-- an entry of a map -/
def rdEnt : List Sg → Option (PyData × List Sg)
  | [] => none
  | s :: r => if atMark 44 r = true then (match r.tail with
    | [] => none
    | s2 :: r2 => match scalarOf s2 with
      | none => none
      | some v => if isQuo s = true then some (.tuple [contOf s, v], r2) else none) else none
theorem rdEnt_cons (s : Sg) (r : List Sg) : rdEnt (s :: r) = if atMark 44 r = true then (match r.tail with
    | [] => none
    | s2 :: r2 => match scalarOf s2 with
      | none => none
      | some v => if isQuo s = true then some (.tuple [contOf s, v], r2) else none) else none := rfl
def rdEnts : Nat → Bool → List Sg → Option (List PyData × List Sg)
  | 0, _, _ => none
  | n + 1, first, r => if atMark 41 r = true then some ([], r.tail) else
    match (if first = true then some r else expect 44 r) with
    | none => none
    | some r1 => match rdEnt r1 with
      | none => none
      | some (e, r2) => match rdEnts n false r2 with
        | none => none
        | some (es, r3) => some (e :: es, r3)
def rdMap (r : List Sg) : Option (Ex × List Sg) := match expect 40 r with
  | none => none
  | some r1 => match rdEnts (r1.length + 1) true r1 with
    | none => none
    | some (es, r2) => if Rv.isValueD (.tuple [.str "map", .tuple es]) = true then some (.lit (.tuple [.str "map", .tuple es]), r2) else none
def rdInj (f : List Sg → Option (Ex × List Sg)) (r : List Sg) : Option (Ex × List Sg) := match expect 40 r with
  | none => none
  | some [] => none
  | some (s :: r1) => match s with
    | .name l => if l ∈ reserved then none else match expect 44 r1 with
      | none => none
      | some r2 => match f r2 with
        | none => none
        | some (e, r3) => match expect 41 r3 with
          | none => none
          | some r4 => some (.inj l e, r4)
    | _ => none
def rdCall (f : List Sg → Option (Ex × List Sg)) (l : List Nat) (r : List Sg) : Option (Ex × List Sg) := match rdArgs f (arity l) 40 r with
  | none => none
  | some (es, r1) => match expect 41 r1 with
    | none => none
    | some r2 => some (.call l es, r2)
def rdBody (f : Option (List Sg → Option (Ex × List Sg))) : List Sg → Option (Ex × List Sg)
  | [] => none
  | s :: r => match scalarOf s with
    | some v => some (.lit v, r)
    | none => match s with
      | .name l => if l = cs "map" then rdMap r else if l ∉ reserved then some (.var l, r) else match f with
        | none => none
        | some f => if l = cs "inject" then rdInj f r else rdCall f l r
      | _ => none
/-- an expression with at most n calls in one another -/
def rd : Nat → List Sg → Option (Ex × List Sg)
  | 0 => rdBody none
  | n + 1 => rdBody (some (rd n))
def readE (L : List Sg) : Option (Ex × List Sg) := match rd 5 L with
  | none => none
  | some (e, r) => if 10 < e.calls then none else some (e, r)
/-! ### the law's rows -/
def ofS (s : Str) : List Nat := s.cps.toList
def wrongs : List (List Nat) :=
  (["", "(a)", ")", ",", "=", "add(a)", "add(a, b,)", "add(a, b, c)", "add(, b)", "add a", "add", "not", "not()", "not(a", "size()",
    "1000000", "999999999", "map", "map(", "map(a, 1)", "map(\"a\")", "map(\"a\", 1", "map(\"a\", 1,)", "map(\"a\" 1)", "map(\"\", 1)",
    "map(\"a\", 1, \"a\", 2)", "map(\"a\", n)", "map(\"a\", map())", "map(\"abcdefghijklm\", 1)", "map(\"a\\n\", 1)"].map cs) ++ [34 :: List.replicate 41 97 ++ [34]] ++ (["\"a\\n\"",
    "inject", "inject(a)", "inject(none, 1)", "inject(add, 1)", "inject(a, )", "inject(\"a\", 1)", "inject(a 1)", "cond(a, b)", "resource()",
    "inject(inject, 1)", "put(m, k)", "map(\"a\", 1000000)", "map(\"k0\", 1, \"k1\", 1, \"k2\", 1, \"k3\", 1, \"k4\", 1, \"k5\", 1, \"k6\", 1, \"k7\", 1, \"k8\", 1)"].map cs) ++
  ((List.replicate 6 (cs "not(")).flatten ++ cs "a" ++ List.replicate 6 41) :: ((List.replicate 6 (cs "inject(a, ")).flatten ++ cs "a" ++ List.replicate 6 41) :: ["and(a)", "eq(a, add)"].map cs
def nears : List (List Nat) :=
  (["a", "n1", "none", "true", "false", "0", "999999", "\"\""].map cs) ++ [34 :: List.replicate 40 97 ++ [34]] ++ (["map()", "map(\"a\", 1)", "map(\"a\", 1, \"b\", none)", "true",
    "add(a, b)", "not(a)", "inject(a, 1)", "cond(a, b, c)", "resource(a)", "take(m, 2)", "mapx", "adds", "nones", "injects"].map cs) ++
  [(List.replicate 5 (cs "not(")).flatten ++ cs "a" ++ List.replicate 5 41, cs "map(\"k0\", 1, \"k1\", 1, \"k2\", 1, \"k3\", 1, \"k4\", 1, \"k5\", 1, \"k6\", 1, \"k7\", 1)"]
def inner : List Nat := cs "cond(a, add(1, 2), put(m, k, 1))"
def calls10 : List Nat := cs "and(eq(" ++ inner ++ cs ", " ++ inner ++ cs "), and(not(a), b))"
def calls11 : List Nat := cs "and(eq(" ++ inner ++ cs ", " ++ inner ++ cs "), and(not(a), not(b)))"
end Rx

/-! An own error without a field: raised, caught. -/
namespace Gd
open PySem PySem.Spec PyProof.Rows L2 GxR Gx
/-- the class of the error x at C -/
structure BadN (K : PySem.W.Frag) (mg : Str → Option Value) (x : Str) (C : Addr) : Prop where
  q : PySem.W.excIn K C [.type "ValueError", .type "Exception", .type "BaseException", .type "object"] "ValueError.__new__" = true
  g : mg x = some (.ref C)
  kp : PySem.W.keepIn K (.ref C) = true
  b : PySem.W.subIn K (.ref C) (.type "BaseException") = some true
  t : PySem.W.typeIn K (.ref C) = some (.type "type")
section
variable {X : Cx} {C : Addr} {x : Str} {p pos pos2 : Pos} {W : WX}
theorem pmk_own0 (B : BadN X.K X.mg x C) (hg : Gl X x) (hdb : (x == ("__debug__" : Str)) = false := by decide) : PMk X (.Call (.Name x p) [] [] pos) (fun _ H Q => Q (.ref C) none H) := by
  intro pins s σ H Q I h
  refine wpAny_Call_Name_kw (ld_glob I hg B.g (PySem.W.callWith_K0 I.kIn B.kp ?_) hdb)
  show wpAny _ _ (call (.ref C) []) _ _ _
  obtain ⟨bm, N, nm, qn, bs, hdct, sn, sub, ab, col, dd, k0, k1, k2, k3, k5, mN, hC, hN, hni, T⟩ := exc_obj I.kIn B.q
  refine wpAny_call_exc_subT PySem.F.excBase_ValueError T hC hN hni (fun h' e hm => ?_) (Nat.zero_le _)
  exact mk_of I hm (raises_own B.b B.t) h (I.hok.gone hm.new)
theorem ps_bad0 (B : BadN X.K X.mg x C) (hc : X.calm = true) (tk : Takes X W) (hg : Gl X x) (hdb : (x == ("__debug__" : Str)) = false := by decide) : PS X (.Raise (some (.Call (.Name x p) [] [] pos)) none pos2) (fun _ σ H => W (.ref C) none σ H) :=
  ps_raise hc tk (pmk_own0 B hg hdb)
end
/-- isinstance(e, c), e an own error without a field that the suite holds -/
def rIsN (K : PySem.W.Frag) (C a : Addr) (cls : Value) (d : Option Addr) : List V → Hp → VK → Prop := fun xs H Q => ∃ (c : V) (cv : Value) (b : Bool), xs = [.ref a, c] ∧ cls = .ref C ∧ d = none ∧ (∀ u, RelV c u → u = cv) ∧ PySem.W.kitOne K (.ref C) cv = some b ∧ Q (.bl b) H
theorem call_isN {X : Cx} {a C : Addr} {oe : Obj} {cls : Value} {d : Option Addr} {pn : List (Addr × Obj)} (T : ExcC X.K C) (hz : Zc cls d oe) (hf : ∃ vs, oe.data = .fields vs) : CallR (X.suite a ((a, oe) :: pn)) (.builtin "isinstance") (rIsN X.K C a cls d) := by
  intro pins s σ H xs us Q I r h
  obtain ⟨c, cv, b, rfl, rfl, rfl, hcv, e, q⟩ := h
  exact call_isE T hz hf pins s σ H _ us Q I r ⟨c, cv, b, rfl, hcv, e, q⟩
/-- the error x at C is caught by xV at CV -/
structure CatN (K : PySem.W.Frag) (mg : Str → Option Value) (x xV : Str) (C CV : Addr) : Prop where
  g : mg x = some (.ref C)
  gV : mg xV = some (.ref CV)
  ex : PySem.W.exmOne K (.ref C) (.ref CV) = some true
  is : ExcC K C
  k1 : PySem.W.kitOne K (.ref C) (.ref C) = some true
  k2 : PySem.W.kitOne K (.ref C) (.type "ValueError") = some true
end Gd

namespace Gd
open PySem PySem.Spec PyProof.Rows L2 GxR Gx
def rInT (K : PySem.W.Frag) : R2 := fun x y H Q => ∃ d ds, Dp K H x d ∧ Dp K H y (.tuple ds) ∧ SeqAt.shaped d = true ∧ SeqAt.shaped (.tuple ds) = true ∧ Q (.bl (ds.any fun z => PyData.eqv z d)) H
theorem op_inT {X : Cx} (hu : X.A.units + 65 < cLine) : OpR X (compareOp .In) (rInT X.K) := by
  intro pins s σ H x y v u Q I rx ry h
  obtain ⟨d, ds, h1, h2, s1, s2, q⟩ := h
  obtain ⟨as, r1⟩ := Dp.reads I d x v h1 rx
  obtain ⟨bs, r2⟩ := Dp.reads I (.tuple ds) y u h2 ry
  exact SeqAt.in_tuple_reads r2 r1 (SeqAt.canLay_of_shaped s2) (SeqAt.canLay_of_shaped s1) (room_in_shaped s1 hu) ⟨.bl _, H, I, rfl, q⟩
theorem iteP {p : Prop} [Decidable p] {A B : Prop} (h : p) (q : A) : if decide p = true then A else B := by rw [if_pos (decide_eq_true h)]; exact q
theorem iteN {p : Prop} [Decidable p] {A B : Prop} (h : ¬ p) (q : B) : if decide p = true then A else B := by rw [if_neg (by simpa using h)]; exact q
theorem iteN' {p : Prop} [Decidable p] {A B : Prop} (h : ¬ p) (q : B) : if decide p = true then A else B := iteN h q
end Gd
namespace Rx
open PySem PySem.Spec PyProof.Rows L2 GxR Gx Gd Rs
abbrev topS := Rs.topS
/-- a sign of right size -/
def fit : Sg → Bool
  | .name l => decide (l.length ≤ 1000) && l.all fun c => decide (c < 1114112)
  | .num n => decide (n ≤ 999999999)
  | .quo l => decide (l.length ≤ 1000) && l.all fun c => decide (c < 1114112)
  | .mark c => decide (c < 1114112)
theorem okS {l : List Nat} (h : (decide (l.length ≤ 1000) && l.all fun c => decide (c < 1114112)) = true) (n : Nat) : okN n (.str (sx l)) = true := by
  rw [Bool.and_eq_true, List.all_eq_true] at h
  have e : (decide ((sx l).length ≤ 1000) && PyData.strOk (sx l)) = true := by
    rw [sx_len, h.1, Bool.true_and]
    show (sx l).cps.all _ = true
    rw [← Array.all_toList, sx_tl, List.all_eq_true]
    exact h.2
  cases n <;> exact e
theorem okI {m : Nat} (h : m ≤ 999999999) (n : Nat) : okN n (.int (m : Int)) = true := by
  have : decide ((m : Int).natAbs.log2 < 1920) = true := by
    have : (m : Int).natAbs = m := by omega
    rw [this, decide_eq_true]
    by_cases h0 : m = 0
    · rw [h0]; decide
    · have := (Nat.log2_lt h0).mpr (show m < 2 ^ 30 by omega)
      omega
  cases n <;> exact this
theorem okPair {a b : PyData} (ha : okN 1 a = true) (hb : okN 1 b = true) : OkD (.tuple [a, b]) := ⟨2, by decide, by
  show (decide ((2 : Nat) ≤ 1000) && (okN 1 a && (okN 1 b && true))) = true
  rw [ha, hb]; rfl⟩
theorem fit_ok {s : Sg} (h : fit s = true) : OkD s.d := by
  cases s with
  | name l => exact okPair (by decide +kernel) (okS h 1)
  | num n => exact okPair (by decide +kernel) (okI (of_decide_eq_true h) 1)
  | quo l => exact okPair (by decide +kernel) (okS h 1)
  | mark c => exact okPair (by decide +kernel) (okS (by
      have h : decide (c < 1114112) = true := h
      show (decide ((1 : Nat) ≤ 1000) && (decide (c < 1114112) && true)) = true
      rw [h]; rfl) 1)
/-- the signs L stand at S -/
def Sgs (K : PySem.W.Frag) (H : Hp) (S : Addr) (L : List Sg) : Prop := ∃ vs, H S = some (.lst vs) ∧ DtAll K H vs (L.map Sg.d)
theorem Sgs.kp {K : PySem.W.Frag} {H H' : Hp} {S : Addr} {L : List Sg} (h : Sgs K H S L) (k : Kp H H') : Sgs K H' S L := let ⟨vs, a, b⟩ := h; ⟨vs, k.keep S _ a (by simp) nt_lst, DtAll.kb k Lsts.nil b⟩
theorem Sgs.len {K : PySem.W.Frag} {H : Hp} {S : Addr} {L : List Sg} (h : Sgs K H S L) : ∃ vs, H S = some (.lst vs) ∧ vs.length = L.length ∧ DtAll K H vs (L.map Sg.d) := by
  obtain ⟨vs, a, b⟩ := h
  have := b.length
  rw [List.length_map] at this
  exact ⟨vs, a, this, b⟩
theorem dropC {α : Type} {L : List α} {i : Nat} (h : i < L.length) : ∃ s, L[i]? = some s ∧ L.drop i = s :: L.drop (i + 1) := ⟨L[i], List.getElem?_eq_getElem h, List.drop_eq_getElem_cons h⟩
def spIsAt (K : PySem.W.Frag) : Sp := fun vs H Q _ => ∃ (S : Addr) (at' : Nat) (v : V) (L : List Sg) (c : Nat), vs = [.ref S, .int (at' : Int), v] ∧ Sgs K H S L ∧ (∀ s ∈ L, fit s = true) ∧ Dt K H v (Sg.mark c).d ∧ c < 1114112 ∧ Q (.bl (atMark c (L.drop at'))) H
def spIf (K : PySem.W.Frag) (ts : List Addr) : Sp := fun vs H Q _ => ∃ v d, vs = [v] ∧ Dt K H v d ∧ OkD d ∧ (∀ T ∈ ts, TabG H T) ∧ ∀ H', Kp H H' → Q (if Rv.isScalarD d = true then v else .non) H'
def spScalar (K : PySem.W.Frag) (ts : List Addr) : Sp := fun vs H Q _ => ∃ v s, vs = [v] ∧ Dt K H v (Sg.d s) ∧ fit s = true ∧ (∀ T ∈ ts, TabG H T) ∧ ∀ H' u, Kp H H' → (match scalarOf s with | none => u = .non | some d => u ≠ .non ∧ Dt K H' u d) → Q u H'
def spSignAt (K : PySem.W.Frag) (C : Addr) : Sp := fun vs H Q E => ∃ (S : Addr) (at' : Nat) (L : List Sg), vs = [.ref S, .int (at' : Int)] ∧ Sgs K H S L ∧ (match L.drop at' with | [] => E (.ref C) none H | s :: _ => ∀ v, Dt K H v s.d → Q v H)
def spBehind (K : PySem.W.Frag) (C : Addr) : Sp := fun vs H Q E => ∃ (S : Addr) (at' : Nat) (v : V) (L : List Sg) (c : Nat), vs = [.ref S, .int (at' : Int), v] ∧ Sgs K H S L ∧ (∀ s ∈ L, fit s = true) ∧ Dt K H v (Sg.mark c).d ∧ c < 1114112 ∧ (if atMark c (L.drop at') = true then Q (.int ((at' : Int) + 1)) H else E (.ref C) none H)
section
variable {P : Program} {w : World} {K : PySem.W.Frag} {mg : Str → Option Value} {base : Heap}
end
end Rx

namespace Rx
open PySem PySem.Spec PyProof.Rows L2 GxR Gx Gd Rs
theorem eqv_pair (a b : Str) (x y : PyData) : PyData.eqv (.tuple [.str a, x]) (.tuple [.str b, y]) = (a == b && PyData.eqv x y) := by
  simp only [PyData.eqv, PyData.eqvAll, Bool.and_true]
theorem eqv_str (a b : Str) : PyData.eqv (.str a) (.str b) = (a == b) := by simp only [PyData.eqv]
theorem sx_is (l : List Nat) (s : String) : (sx l == Str.ofString s) = decide (l = cs s) := by
  have e : Str.ofString s = sx (cs s) := (sx_of _).symm
  rw [e, sx_beq]
theorem dec_sx (l : List Nat) (s : String) : decide (V.str (sx l) = V.str (Str.ofString s)) = decide (l = cs s) := by
  have e : Str.ofString s = sx (cs s) := (sx_of _).symm
  rw [e, Bool.eq_iff_iff, decide_eq_true_eq, decide_eq_true_eq]
  exact ⟨fun h => sx_inj (V.str.inj h), fun h => by rw [h]⟩
/-- a pair of a word and something -/
theorem dt_pair {K : PySem.W.Frag} {H : Hp} {v : V} {a b : PyData} (h : Dt K H v (.tuple [a, b])) : ∃ p x y, v = .ref p ∧ SqT K H p [x, y] ∧ Dt K H x a ∧ Dt K H y b := by
  cases h with
  | tup h hs =>
    cases hs with
    | cons h1 hs =>
      cases hs with
      | cons h2 hs =>
        cases hs
        exact ⟨_, _, _, rfl, h, h1, h2⟩
theorem new_pair {K : PySem.W.Frag} {H : Hp} {p : Addr} {x y : V} {a b : PyData} (hp : H p = none) (hx : Dt K H x a) (hy : Dt K H y b) : Kp H (upd H p (.tup [x, y])) ∧ Dt K (upd H p (.tup [x, y])) (.ref p) (.tuple [a, b]) :=
  ⟨Kb.new hp, .tup (SqT.of upd_same) (.cons (hx.kb (Kb.new hp) Lsts.nil) (.cons (hy.kb (Kb.new hp) Lsts.nil) .nil))⟩
theorem rd_tail {K : PySem.W.Frag} {H : Hp} {Q : VK} {p : Addr} {wd : String} {l : List Nat} {nm : Bool} {d : PyData} (hp : SqT K H p [.str (Str.ofString wd), .str (sx l)]) (hv : Dt K H (.ref p) d) (hd : d = .tuple [.str (Str.ofString wd), .str (sx l)]) (e : (Str.ofString wd == Str.ofString "name") = nm) (ok : OkD d)
    (qn : nm = true → l = cs "none" → ∀ H' u, Kp H H' → Dt K H' u noneS → Q u H') (qt : nm = true → l = cs "true" → ∀ H' u, Kp H H' → Dt K H' u (.tuple [.str "bool", .bool true]) → Q u H')
    (qf : nm = true → l = cs "false" → ∀ H' u, Kp H H' → Dt K H' u (.tuple [.str "bool", .bool false]) → Q u H') (qo : ¬ (nm = true ∧ (l = cs "none" ∨ l = cs "true" ∨ l = cs "false")) → ∀ H', Kp H H' → Q .non H') :
    (tSeq (tIfS (tTest (tOp (rEqD K) (tVar 0) (tTup (tCons (tC (.str (Str.ofString "name"))) (tCons (tC (.str (Str.ofString "none"))) tNil))))) (tRet (tTup (tCons (tC (.str (Str.ofString "none"))) tNil))) tNext)
      (tSeq (tIfS (tTest (tOp (rInT K) (tVar 0) (tTup (tCons (tTup (tCons (tC (.str (Str.ofString "name"))) (tCons (tC (.str (Str.ofString "true"))) tNil))) (tCons (tTup (tCons (tC (.str (Str.ofString "name"))) (tCons (tC (.str (Str.ofString "false"))) tNil))) tNil))))) (tRet (tTup (tCons (tC (.str (Str.ofString "bool"))) (tCons (tOp rEq (tVar 2) (tC (.str (Str.ofString "true")))) tNil)))) tNext)
        (tRet (tC .non)))) { nx := fun _ H' => Q .non H', rt := Q } [some (.ref p), some (.str (Str.ofString wd)), some (.str (sx l))] H := by
  have e' : (Str.ofString "name" == Str.ofString wd) = nm := by rw [← e, Bool.eq_iff_iff, beq_iff_eq, beq_iff_eq, eq_comm]
  have sx_is' : ∀ s : String, (Str.ofString s == sx l) = decide (l = cs s) := fun s => by rw [← sx_is, Bool.eq_iff_iff, beq_iff_eq, beq_iff_eq, eq_comm]
  refine ⟨_, rfl, by show 2 ≤ sizeLine; decide, fun t ht => ?_⟩
  obtain ⟨k1, d1⟩ := new_pair (K := K) ht (.str (Str.ofString "name")) (.str (Str.ofString "none"))
  generalize upd H t (.tup [.str (Str.ofString "name"), .str (Str.ofString "none")]) = H1 at k1 d1 ⊢
  have v1 := hv.kb k1 Lsts.nil
  refine ⟨d, _, v1.dp, d1.dp, ok.shaped, by decide +kernel, _, rfl, ?_⟩
  rw [hd, eqv_pair, eqv_str, e, sx_is]
  by_cases hn : nm = true ∧ l = cs "none"
  · rw [hn.1, decide_eq_true hn.2]
    refine iteT ⟨by show 1 ≤ sizeLine; decide, fun t2 ht2 => qn hn.1 hn.2 _ _ (k1.trans (Kb.new ht2)) (.tup (SqT.of upd_same) (.cons (.str _) .nil))⟩
  · have e0 : (nm && decide (l = cs "none")) = false := by
      cases nm with
      | false => rfl
      | true => exact decide_eq_false fun z => hn ⟨rfl, z⟩
    rw [e0]
    refine iteF ?_
    refine ⟨_, rfl, by show 2 ≤ sizeLine; decide, fun t2 ht2 => ⟨by show 2 ≤ sizeLine; decide, fun t3 ht3 => ⟨by show 2 ≤ sizeLine; decide, fun t4 ht4 => ?_⟩⟩⟩
    obtain ⟨k2, d2⟩ := new_pair (K := K) ht2 (.str (Str.ofString "name")) (.str (Str.ofString "true"))
    generalize upd H1 t2 (.tup [.str (Str.ofString "name"), .str (Str.ofString "true")]) = H2 at k2 d2 ht3 ht4 ⊢
    obtain ⟨k3, d3⟩ := new_pair (K := K) ht3 (.str (Str.ofString "name")) (.str (Str.ofString "false"))
    generalize upd H2 t3 (.tup [.str (Str.ofString "name"), .str (Str.ofString "false")]) = H3 at k3 d3 ht4 ⊢
    have d2' := d2.kb k3 Lsts.nil
    have k4 : Kp H3 (upd H3 t4 (.tup [.ref t2, .ref t3])) := Kb.new ht4
    have d4 : Dt K (upd H3 t4 (.tup [.ref t2, .ref t3])) (.ref t4) (.tuple [.tuple [.str (Str.ofString "name"), .str (Str.ofString "true")], .tuple [.str (Str.ofString "name"), .str (Str.ofString "false")]]) :=
      .tup (SqT.of upd_same) (.cons (d2'.kb k4 Lsts.nil) (.cons (d3.kb k4 Lsts.nil) .nil))
    generalize upd H3 t4 (.tup [.ref t2, .ref t3]) = H4 at k4 d4 ⊢
    have k14 := ((k1.trans k2).trans k3).trans k4
    have v4 := hv.kb k14 Lsts.nil
    refine ⟨d, _, v4.dp, d4.dp, ok.shaped, by decide +kernel, _, rfl, ?_⟩
    have ea : ([PyData.tuple [.str (Str.ofString "name"), .str (Str.ofString "true")], .tuple [.str (Str.ofString "name"), .str (Str.ofString "false")]].any fun z => PyData.eqv z d) = (nm && (decide (l = cs "true") || decide (l = cs "false"))) := by
      show (PyData.eqv _ d || (PyData.eqv _ d || false)) = _
      rw [hd, eqv_pair, eqv_pair, eqv_str, eqv_str, e', sx_is', sx_is', Bool.or_false]
      cases nm <;> rfl
    rw [ea]
    by_cases ht : nm = true ∧ (l = cs "true" ∨ l = cs "false")
    · rw [ht.1, show (decide (l = cs "true") || decide (l = cs "false")) = true by rcases ht.2 with z | z <;> simp [z]]
      refine iteT ⟨_, rfl, rfl, by show 2 ≤ sizeLine; decide, fun t5 ht5 => ?_⟩
      rw [dec_sx]
      obtain ⟨k5, d5⟩ := new_pair (K := K) ht5 (.str (Str.ofString "bool")) (.bl (decide (l = cs "true")))
      rcases ht.2 with z | z
      · rw [decide_eq_true z] at k5 d5 ⊢
        exact qt ht.1 z _ _ (k14.trans k5) d5
      · have nz : ¬ l = cs "true" := by rw [z]; decide +kernel
        rw [decide_eq_false nz] at k5 d5 ⊢
        exact qf ht.1 z _ _ (k14.trans k5) d5
    · have e0 : (nm && (decide (l = cs "true") || decide (l = cs "false"))) = false := by
        cases nm with
        | false => rfl
        | true =>
          have a1 : ¬ l = cs "true" := fun z => ht ⟨rfl, .inl z⟩
          have a2 : ¬ l = cs "false" := fun z => ht ⟨rfl, .inr z⟩
          rw [decide_eq_false a1, decide_eq_false a2]
          rfl
      rw [e0]
      refine iteF (qo (fun z => ?_) H4 k14)
      rcases z.2 with y | y | y
      · exact hn ⟨z.1, y⟩
      · exact ht ⟨z.1, .inl y⟩
      · exact ht ⟨z.1, .inr y⟩
section
variable {P : Program} {w : World} {K : PySem.W.Frag} {mg : Str → Option Value} {base : Heap}
end
end Rx

namespace Rx
open PySem PySem.Spec PyProof.Rows L2 GxR Gx Gd Rs
theorem kind_quo (s : Sg) : decide (V.str (kindOf s) = V.str (Str.ofString "quoted")) = isQuo s := by
  cases s
  · exact decide_eq_false (show ¬ V.str (Str.ofString "name") = V.str (Str.ofString "quoted") by decide +kernel)
  · exact decide_eq_false (show ¬ V.str (Str.ofString "number") = V.str (Str.ofString "quoted") by decide +kernel)
  · exact decide_eq_true rfl
  · exact decide_eq_false (show ¬ V.str (Str.ofString "mark") = V.str (Str.ofString "quoted") by decide +kernel)
theorem ok_scalar {s : Sg} {d : PyData} (hf : fit s = true) (h : scalarOf s = some d) : okN 2 d = true := by
  cases s with
  | name l =>
    rw [scalar_name] at h
    split at h
    · cases h; decide +kernel
    · split at h
      · cases h; decide +kernel
      · split at h
        · cases h; decide +kernel
        · cases h
  | num n =>
    rw [scalar_num] at h
    split at h
    · cases h
      show (decide ((2 : Nat) ≤ 1000) && (okN 1 _ && (okN 1 _ && true))) = true
      rw [okI (of_decide_eq_true hf) 1, show okN 1 (PyData.str (Str.ofString "int")) = true by decide +kernel]; rfl
    · cases h
  | quo l =>
    rw [scalar_quo] at h
    split at h
    · cases h
      show (decide ((2 : Nat) ≤ 1000) && (okN 1 _ && (okN 1 _ && true))) = true
      rw [okS hf 1, show okN 1 (PyData.str (Str.ofString "text")) = true by decide +kernel]; rfl
    · cases h
  | mark c => cases h
def ErrN (C : Addr) (H : Hp) (E : XK) : Prop := ∀ H', Kp H H' → E (.ref C) none H'
/-- a pair of what is read and the index behind it, or the error -/
def Res (K : PySem.W.Frag) (C : Addr) (L : List Sg) (H : Hp) (Q : VK) (E : XK) : Option (PyData × List Sg) → Prop
  | none => ErrN C H E
  | some (d, r) => ∀ H' u (a : Nat), Kp H H' → L.drop a = r → a ≤ L.length → Dt K H' u (.tuple [d, .int (a : Int)]) → Q u H'
theorem Res.kp {K : PySem.W.Frag} {C : Addr} {L : List Sg} {H H1 : Hp} {Q : VK} {E : XK} {o : Option (PyData × List Sg)} (h : Res K C L H Q E o) (k : Kp H H1) : Res K C L H1 Q E o := by
  cases o with
  | none => exact fun H' k' => h H' (k.trans k')
  | some p => exact fun H' u a k' => h H' u a (k.trans k')
def spEnt (K : PySem.W.Frag) (C : Addr) (ts : List Addr) : Sp := fun vs H Q E => ∃ (S : Addr) (at' : Nat) (L : List Sg), vs = [.ref S, .int (at' : Int)] ∧ Sgs K H S L ∧ (∀ s ∈ L, fit s = true) ∧ (∀ T ∈ ts, TabG H T) ∧ Res K C L H Q E (rdEnt (L.drop at'))
theorem drop_tail {α : Type} (L : List α) (a : Nat) : (L.drop a).tail = L.drop (a + 1) := by rw [List.tail_drop]
theorem drop_some {α : Type} {L : List α} {a : Nat} {s : α} {r : List α} (h : L.drop a = s :: r) : a < L.length ∧ L.drop (a + 1) = r ∧ s ∈ L := by
  have h1 : a < L.length := by
    cases Nat.lt_or_ge a L.length with
    | inl h => exact h
    | inr z => rw [List.drop_eq_nil_of_le z] at h; cases h
  refine ⟨h1, ?_, ?_⟩
  · rw [← drop_tail, h]; rfl
  · exact List.mem_of_mem_drop (by rw [h]; exact List.mem_cons_self)
section
variable {P : Program} {w : World} {K : PySem.W.Frag} {mg : Str → Option Value} {base : Heap}
end
end Rx

namespace Rx
open PySem PySem.Spec PyProof.Rows L2 GxR Gx Gd Rs
def addE (es : List PyData) : Option (List PyData × List Sg) → Option (List PyData × List Sg)
  | none => none
  | some (xs, r) => some (es ++ xs, r)
theorem rdEnts_cons (n : Nat) (first : Bool) (r : List Sg) : rdEnts (n + 1) first r = if atMark 41 r = true then some ([], r.tail) else
    match (if first = true then some r else expect 44 r) with
    | none => none
    | some r1 => match rdEnt r1 with
      | none => none
      | some (e, r2) => match rdEnts n false r2 with
        | none => none
        | some (es, r3) => some (e :: es, r3) := rfl
theorem addE_addE (es : List PyData) (e : PyData) (o : Option (List PyData × List Sg)) : addE es (match o with | none => none | some (xs, r3) => some (e :: xs, r3)) = addE (es ++ [e]) o := by
  cases o with
  | none => rfl
  | some p => show some (es ++ (e :: p.1), p.2) = some ((es ++ [e]) ++ p.1, p.2); rw [List.append_assoc]; rfl
/-- what the entries give -/
def mapOf : Option (List PyData × List Sg) → Option (PyData × List Sg)
  | none => none
  | some (es, r) => if Rv.isValueD (.tuple [.str "map", .tuple es]) = true then some (.tuple [.str "literal", .tuple [.str "map", .tuple es]], r) else none
def toD (o : Option (Ex × List Sg)) : Option (PyData × List Sg) := match o with | none => none | some (e, r) => some (e.d, r)
theorem map_is (r : List Sg) : toD (rdMap r) = if atMark 40 r = true then mapOf (rdEnts (r.tail.length + 1) true r.tail) else none := by
  unfold rdMap expect
  cases atMark 40 r with
  | false => rfl
  | true =>
    show toD (match rdEnts (r.tail.length + 1) true r.tail with | none => none | some (es, r2) => _) = mapOf (rdEnts (r.tail.length + 1) true r.tail)
    cases rdEnts (r.tail.length + 1) true r.tail with
    | none => rfl
    | some p =>
      show toD (if Rv.isValueD (.tuple [.str "map", .tuple p.1]) = true then some (.lit (.tuple [.str "map", .tuple p.1]), p.2) else none) = if _ then _ else _
      split <;> rfl
theorem rdEnt_len {r r2 : List Sg} {e : PyData} (h : rdEnt r = some (e, r2)) : r2.length < r.length := by
  cases r with
  | nil => cases h
  | cons s r =>
    rw [rdEnt_cons] at h
    split at h
    · cases ht : r.tail with
      | nil => rw [ht] at h; cases h
      | cons s2 r3 =>
        rw [ht] at h
        have h : (match scalarOf s2 with | none => none | some v => if isQuo s = true then some (PyData.tuple [contOf s, v], r3) else none) = some (e, r2) := h
        cases hs : scalarOf s2 with
        | none => rw [hs] at h; cases h
        | some v =>
          rw [hs] at h
          have h : (if isQuo s = true then some (PyData.tuple [contOf s, v], r3) else none) = some (e, r2) := h
          split at h
          · cases h
            have := congrArg List.length ht
            rw [List.length_tail, List.length_cons] at this
            rw [List.length_cons]
            omega
          · cases h
    · cases h
theorem rdEnt_ok {r r2 : List Sg} {e : PyData} (hf : ∀ s ∈ r, fit s = true) (h : rdEnt r = some (e, r2)) : okN 3 e = true := by
  cases r with
  | nil => cases h
  | cons s r =>
    rw [rdEnt_cons] at h
    split at h
    · cases ht : r.tail with
      | nil => rw [ht] at h; cases h
      | cons s2 r3 =>
        rw [ht] at h
        have h : (match scalarOf s2 with | none => none | some v => if isQuo s = true then some (PyData.tuple [contOf s, v], r3) else none) = some (e, r2) := h
        cases hs : scalarOf s2 with
        | none => rw [hs] at h; cases h
        | some v =>
          rw [hs] at h
          have h : (if isQuo s = true then some (PyData.tuple [contOf s, v], r3) else none) = some (e, r2) := h
          have f2 : fit s2 = true := hf s2 (List.mem_cons_of_mem _ (List.mem_of_mem_tail (by rw [ht]; exact List.mem_cons_self)))
          have f1 := hf s List.mem_cons_self
          split at h
          · cases h
            have ok1 : okN 2 (contOf s) = true := by
              cases s with
              | quo l => exact okS f1 2
              | name l => exact okS f1 2
              | num n => exact okI (of_decide_eq_true f1) 2
              | mark c => exact okS (by
                  have h : decide (c < 1114112) = true := f1
                  show (decide ((1 : Nat) ≤ 1000) && (decide (c < 1114112) && true)) = true
                  rw [h]; rfl) 2
            show (decide ((2 : Nat) ≤ 1000) && (okN 2 (contOf s) && (okN 2 v && true))) = true
            rw [ok1, ok_scalar f2 hs]; rfl
          · cases h
    · cases h
theorem iteF' {b : Bool} {A B : Prop} (h : b = false) (q : B) : if b = true then A else B := by subst h; exact iteF q
theorem iteT' {b : Bool} {A B : Prop} (h : b = true) (q : A) : if b = true then A else B := by subst h; exact iteT q
theorem Res.imp {K : PySem.W.Frag} {C : Addr} {L : List Sg} {H : Hp} {Q Q' : VK} {E : XK} {o : Option (PyData × List Sg)} (q : ∀ u H', Q u H' → Q' u H') (h : Res K C L H Q E o) : Res K C L H Q' E o := by
  cases o with
  | none => exact h
  | some p => exact fun H' u a k e l d => q _ _ (h H' u a k e l d)
def spMap (K : PySem.W.Frag) (C : Addr) (ts : List Addr) : Sp := fun vs H Q E => ∃ (S : Addr) (at' : Nat) (L : List Sg), vs = [.ref S, .int (at' : Int)] ∧ Sgs K H S L ∧ (∀ s ∈ L, fit s = true) ∧ L.length ≤ 1000 ∧ (∀ T ∈ ts, TabG H T) ∧ Res K C L H Q E (toD (rdMap (L.drop at')))
section
variable {P : Program} {w : World} {K : PySem.W.Frag} {mg : Str → Option Value} {base : Heap}
end
end Rx

namespace Rx
open PySem PySem.Spec PyProof.Rows L2 GxR Gx Gd Rs
def funs : List (List Nat) := ["not", "size", "reverse", "add", "sub", "lt", "eq", "and", "concat", "has", "get", "remove", "take", "put", "cond", "resource"].map cs
def resV : List V := (["none", "true", "false", "map", "inject", "not", "size", "reverse", "add", "sub", "lt", "eq", "and", "concat", "has", "get", "remove", "take", "put", "cond", "resource"] : List String).map fun s => V.str (Str.ofString s)
theorem in_strs (l : List Nat) : ∀ ss : List String, inV (.str (sx l)) (ss.map fun s => V.str (Str.ofString s)) = decide (l ∈ ss.map cs)
  | [] => rfl
  | s :: ss => by
    have ih := in_strs l ss
    have e : eqV (.str (Str.ofString s)) (.str (sx l)) = decide (l = cs s) := by
      show (Str.ofString s == sx l) = _
      rw [← sx_is, Bool.eq_iff_iff, beq_iff_eq, beq_iff_eq, eq_comm]
    show (eqV (.str (Str.ofString s)) (.str (sx l)) || inV (.str (sx l)) (ss.map fun s => V.str (Str.ofString s))) = _
    rw [e, ih, Bool.eq_iff_iff, Bool.or_eq_true, decide_eq_true_eq, decide_eq_true_eq, decide_eq_true_eq, List.map_cons, List.mem_cons]
theorem in_res (l : List Nat) : inV (.str (sx l)) resV = decide (l ∈ reserved) := in_strs l _
theorem all_flatS : ∀ ss : List String, (ss.map fun s => V.str (Str.ofString s)).all flatV = true
  | [] => rfl
  | s :: ss => by show (true && _) = true; rw [all_flatS ss]; rfl
theorem fun_of {l : List Nat} (h : l ∈ reserved) (h1 : scalarOf (.name l) = none) (h2 : l ≠ cs "map") (h3 : l ≠ cs "inject") : l ∈ funs := by
  rw [scalar_name] at h1
  have n1 : l ≠ cs "none" := fun z => by rw [if_pos z] at h1; cases h1
  rw [if_neg n1] at h1
  have n2 : l ≠ cs "true" := fun z => by rw [if_pos z] at h1; cases h1
  rw [if_neg n2] at h1
  have n3 : l ≠ cs "false" := fun z => by rw [if_pos z] at h1; cases h1
  have e : reserved = cs "none" :: cs "true" :: cs "false" :: cs "map" :: cs "inject" :: funs := rfl
  rw [e] at h
  simp only [List.mem_cons, n1, n2, n3, h2, h3, false_or] at h
  exact h
theorem kind_name (s : Sg) : decide (V.str (kindOf s) = V.str (Str.ofString "name")) = (match s with | .name _ => true | _ => false) := by
  cases s
  · exact decide_eq_true rfl
  · exact decide_eq_false (show ¬ V.str (Str.ofString "number") = V.str (Str.ofString "name") by decide +kernel)
  · exact decide_eq_false (show ¬ V.str (Str.ofString "quoted") = V.str (Str.ofString "name") by decide +kernel)
  · exact decide_eq_false (show ¬ V.str (Str.ofString "mark") = V.str (Str.ofString "name") by decide +kernel)
def spRd (K : PySem.W.Frag) (C : Addr) (ts : List Addr) (n : Nat) : Sp := fun vs H Q E => ∃ (S : Addr) (at' : Nat) (L : List Sg) (dp : Int), vs = [.ref S, .int (at' : Int), .int dp] ∧ dp = 6 - (n : Int) ∧ Sgs K H S L ∧ (∀ s ∈ L, fit s = true) ∧ L.length ≤ 1000 ∧ (∀ T ∈ ts, TabG H T) ∧ Res K C L H Q E (toD (rd n (L.drop at')))
def spInj (K : PySem.W.Frag) (C : Addr) (ts : List Addr) (n : Nat) : Sp := fun vs H Q E => ∃ (S : Addr) (at' : Nat) (L : List Sg) (dp : Int), vs = [.ref S, .int (at' : Int), .int dp] ∧ dp = 5 - (n : Int) ∧ Sgs K H S L ∧ (∀ s ∈ L, fit s = true) ∧ L.length ≤ 1000 ∧ (∀ T ∈ ts, TabG H T) ∧ Res K C L H Q E (toD (rdInj (rd n) (L.drop at')))
def spCl (K : PySem.W.Frag) (C : Addr) (ts : List Addr) (n : Nat) : Sp := fun vs H Q E => ∃ (S : Addr) (at' : Nat) (L : List Sg) (dp : Int) (l : List Nat), vs = [.str (sx l), .ref S, .int (at' : Int), .int dp] ∧ l ∈ funs ∧ dp = 5 - (n : Int) ∧ Sgs K H S L ∧ (∀ s ∈ L, fit s = true) ∧ L.length ≤ 1000 ∧ (∀ T ∈ ts, TabG H T) ∧ Res K C L H Q E (toD (rdCall (rd n) l (L.drop at')))
def prevI (K : PySem.W.Frag) (C : Addr) (ts : List Addr) : Nat → Sp
  | 0 => fun _ _ _ _ => False
  | n + 1 => spInj K C ts n
def prevC (K : PySem.W.Frag) (C : Addr) (ts : List Addr) : Nat → Sp
  | 0 => fun _ _ _ _ => False
  | n + 1 => spCl K C ts n
def prevF : Nat → Option (List Sg → Option (Ex × List Sg))
  | 0 => none
  | n + 1 => some (rd n)
theorem rd_cons (n : Nat) (s : Sg) (r : List Sg) : rd n (s :: r) = (match scalarOf s with
    | some v => some (.lit v, r)
    | none => match s with
      | .name l => if l = cs "map" then rdMap r else if l ∉ reserved then some (.var l, r) else match prevF n with
        | none => none
        | some f => if l = cs "inject" then rdInj f r else rdCall f l r
      | _ => none) := by cases n <;> rfl
theorem rd_nil (n : Nat) : rd n [] = none := by cases n <;> rfl
section
variable {P : Program} {w : World} {K : PySem.W.Frag} {mg : Str → Option Value} {base : Heap}
end
end Rx

namespace Rx
open PySem PySem.Spec PyProof.Rows L2 GxR Gx Gd Rs
theorem ds_snoc : ∀ (es : List Ex) (e : Ex), Ex.ds (es ++ [e]) = Ex.ds es ++ [e.d]
  | [], e => rfl
  | x :: es, e => by show x.d :: Ex.ds (es ++ [e]) = _; rw [ds_snoc es e]; rfl
theorem ds_len : ∀ es : List Ex, (Ex.ds es).length = es.length
  | [] => rfl
  | e :: es => by show (Ex.ds es).length + 1 = es.length + 1; rw [ds_len es]
def addA (es : List Ex) : Option (List Ex × List Sg) → Option (List Ex × List Sg)
  | none => none
  | some (xs, r) => some (es ++ xs, r)
theorem addA_add (es : List Ex) (e : Ex) (o : Option (List Ex × List Sg)) : addA es (match o with | none => none | some (xs, r3) => some (e :: xs, r3)) = addA (es ++ [e]) o := by
  cases o with
  | none => rfl
  | some p => show some (es ++ (e :: p.1), p.2) = some ((es ++ [e]) ++ p.1, p.2); rw [List.append_assoc]; rfl
/-- a triple -/
theorem new_three {K : PySem.W.Frag} {H : Hp} {p : Addr} {x y z : V} {a b c : PyData} (hp : H p = none) (hx : Dt K H x a) (hy : Dt K H y b) (hz : Dt K H z c) : Kp H (upd H p (.tup [x, y, z])) ∧ Dt K (upd H p (.tup [x, y, z])) (.ref p) (.tuple [a, b, c]) :=
  ⟨Kb.new hp, .tup (SqT.of upd_same) (.cons (hx.kb (Kb.new hp) Lsts.nil) (.cons (hy.kb (Kb.new hp) Lsts.nil) (.cons (hz.kb (Kb.new hp) Lsts.nil) .nil)))⟩
theorem inj_is (f : List Sg → Option (Ex × List Sg)) (r : List Sg) : rdInj f r = if atMark 40 r = true then (match r.tail with
    | [] => none
    | s :: r1 => match s with
      | .name l => if l ∈ reserved then none else if atMark 44 r1 = true then (match f r1.tail with
        | none => none
        | some (e, r3) => if atMark 41 r3 = true then some (.inj l e, r3.tail) else none) else none
      | _ => none) else none := by
  unfold rdInj expect
  cases atMark 40 r with
  | false => rfl
  | true =>
    show (match some r.tail with | none => none | some [] => none | some (s :: r1) => _) = (match r.tail with | [] => none | s :: r1 => _)
    cases r.tail with
    | nil => rfl
    | cons s r1 =>
      cases s with
      | name l =>
        show (if l ∈ reserved then none else _) = (if l ∈ reserved then none else _)
        by_cases hl : l ∈ reserved
        · rw [if_pos hl, if_pos hl]
        · rw [if_neg hl, if_neg hl]
          cases atMark 44 r1 with
          | false => rfl
          | true =>
            show (match f r1.tail with | none => none | some (e, r3) => _) = (match f r1.tail with | none => none | some (e, r3) => _)
            cases f r1.tail with
            | none => rfl
            | some p =>
              obtain ⟨e, r3⟩ := p
              show (match (if atMark 41 r3 = true then some r3.tail else none) with | none => none | some r4 => _) = if atMark 41 r3 = true then _ else _
              cases atMark 41 r3 <;> rfl
      | _ => rfl
theorem atMark_lt {c : Nat} {L : List Sg} {a : Nat} (h : atMark c (L.drop a) = true) : a < L.length := by
  cases Nat.lt_or_ge a L.length with
  | inl z => exact z
  | inr z => rw [List.drop_eq_nil_of_le z] at h; cases h
section
variable {P : Program} {w : World} {K : PySem.W.Frag} {mg : Str → Option Value} {base : Heap}
end
end Rx

namespace Rx
open PySem PySem.Spec PyProof.Rows L2 GxR Gx Gd Rs
def innerOf : Ex → List Ex
  | .call _ es => es
  | .inj _ e => [e]
  | _ => []
theorem callsAll_sum : ∀ es : List Ex, Ex.callsAll es = (es.map Ex.calls).sum
  | [] => rfl
  | e :: es => by show e.calls + Ex.callsAll es = _; rw [callsAll_sum es]; rfl
theorem deepAll_le : ∀ (es : List Ex) (m : Nat), Ex.deepAll es ≤ m ↔ ∀ e ∈ es, e.deep ≤ m
  | [], m => ⟨fun _ e h => (by cases h), fun _ => Nat.zero_le _⟩
  | e :: es, m => by
    show max e.deep (Ex.deepAll es) ≤ m ↔ _
    rw [Nat.max_le, deepAll_le es m]
    exact ⟨fun h x hx => by rcases List.mem_cons.mp hx with rfl | hx; exact h.1; exact h.2 x hx, fun h => ⟨h e List.mem_cons_self, fun x hx => h x (List.mem_cons_of_mem _ hx)⟩⟩
def own : Ex → Nat
  | .call _ _ => 1
  | .inj _ _ => 1
  | _ => 0
theorem calls_eq (e : Ex) : e.calls = own e + ((innerOf e).map Ex.calls).sum := by
  cases e with
  | lit v => rfl
  | var l => rfl
  | call f es => show 1 + Ex.callsAll es = 1 + _; rw [callsAll_sum]; rfl
  | inj l e => show 1 + e.calls = 1 + (e.calls + 0); rw [Nat.add_zero]
theorem inner_deep {e x : Ex} {m : Nat} (h : e.deep ≤ m + 1) (hx : x ∈ innerOf e) : x.deep ≤ m := by
  cases e with
  | lit v => cases hx
  | var l => cases hx
  | call f es =>
    have h : 1 + Ex.deepAll es + (es.length - 3) ≤ m + 1 := h
    exact (deepAll_le es m).mp (by omega) x hx
  | inj l e =>
    have h : 1 + e.deep ≤ m + 1 := h
    rw [List.mem_singleton.mp hx]
    omega
theorem inner_zero {e : Ex} (h : e.deep ≤ 0) : innerOf e = [] := by
  cases e with
  | lit v => rfl
  | var l => rfl
  | call f es =>
    have h : 1 + Ex.deepAll es + (es.length - 3) ≤ 0 := h
    omega
  | inj l e =>
    have h : 1 + e.deep ≤ 0 := h
    omega
theorem args_deep {f : List Sg → Option (Ex × List Sg)} {m : Nat} (hf : ∀ L e r, f L = some (e, r) → e.deep ≤ m) : ∀ (k c : Nat) (L : List Sg) (es : List Ex) (r : List Sg), rdArgs f k c L = some (es, r) → Ex.deepAll es ≤ m
  | 0, c, L, es, r, h => by cases h; exact Nat.zero_le _
  | k + 1, c, L, es, r, h => by
    have h : (match expect c L with | none => none | some r1 => match f r1 with | none => none | some (e, r2) => match rdArgs f k 44 r2 with | none => none | some (es, r3) => some (e :: es, r3)) = some (es, r) := h
    cases h1 : expect c L with
    | none => rw [h1] at h; cases h
    | some r1 =>
      rw [h1] at h
      have h : (match f r1 with | none => none | some (e, r2) => match rdArgs f k 44 r2 with | none => none | some (es, r3) => some (e :: es, r3)) = some (es, r) := h
      cases h2 : f r1 with
      | none => rw [h2] at h; cases h
      | some p =>
        obtain ⟨e, r2⟩ := p
        rw [h2] at h
        have h : (match rdArgs f k 44 r2 with | none => none | some (es, r3) => some (e :: es, r3)) = some (es, r) := h
        cases h3 : rdArgs f k 44 r2 with
        | none => rw [h3] at h; cases h
        | some p3 =>
          obtain ⟨es3, r3⟩ := p3
          rw [h3] at h
          cases h
          exact Nat.max_le.mpr ⟨hf _ _ _ h2, args_deep hf k 44 r2 es3 _ h3⟩
theorem args_len : ∀ (f : List Sg → Option (Ex × List Sg)) (k c : Nat) (L : List Sg) (es : List Ex) (r : List Sg), rdArgs f k c L = some (es, r) → es.length = k
  | f, 0, c, L, es, r, h => by cases h; rfl
  | f, k + 1, c, L, es, r, h => by
    have h : (match expect c L with | none => none | some r1 => match f r1 with | none => none | some (e, r2) => match rdArgs f k 44 r2 with | none => none | some (es, r3) => some (e :: es, r3)) = some (es, r) := h
    cases h1 : expect c L with
    | none => rw [h1] at h; cases h
    | some r1 =>
      rw [h1] at h
      have h : (match f r1 with | none => none | some (e, r2) => match rdArgs f k 44 r2 with | none => none | some (es, r3) => some (e :: es, r3)) = some (es, r) := h
      cases h2 : f r1 with
      | none => rw [h2] at h; cases h
      | some p =>
        obtain ⟨e, r2⟩ := p
        rw [h2] at h
        have h : (match rdArgs f k 44 r2 with | none => none | some (es, r3) => some (e :: es, r3)) = some (es, r) := h
        cases h3 : rdArgs f k 44 r2 with
        | none => rw [h3] at h; cases h
        | some p3 =>
          obtain ⟨es3, r3⟩ := p3
          rw [h3] at h
          cases h
          show es3.length + 1 = k + 1
          rw [args_len f k 44 r2 es3 _ h3]
theorem inner_len {e : Ex} {m : Nat} (h : e.deep ≤ m) : (innerOf e).length ≤ m + 3 := by
  cases e with
  | lit v => exact Nat.zero_le _
  | var l => exact Nat.zero_le _
  | call f es =>
    have h : 1 + Ex.deepAll es + (es.length - 3) ≤ m := h
    show es.length ≤ m + 3
    omega
  | inj l e => show 1 ≤ m + 3; omega
theorem map_deep {L r : List Sg} {e : Ex} (h : rdMap L = some (e, r)) : e.deep = 0 := by
  unfold rdMap at h
  cases h1 : expect 40 L with
  | none => rw [h1] at h; cases h
  | some r1 =>
    rw [h1] at h
    have h : (match rdEnts (r1.length + 1) true r1 with | none => none | some (es, r2) => if Rv.isValueD (.tuple [.str "map", .tuple es]) = true then some (Ex.lit (.tuple [.str "map", .tuple es]), r2) else none) = some (e, r) := h
    cases h2 : rdEnts (r1.length + 1) true r1 with
    | none => rw [h2] at h; cases h
    | some p =>
      rw [h2] at h
      have h : (if Rv.isValueD (.tuple [.str "map", .tuple p.1]) = true then some (Ex.lit (.tuple [.str "map", .tuple p.1]), p.2) else none) = some (e, r) := h
      split at h
      · cases h; rfl
      · cases h
theorem rd_deep : ∀ (n : Nat) (L r : List Sg) (e : Ex), rd n L = some (e, r) → e.deep ≤ n
  | n, [], r, e, h => by rw [rd_nil] at h; cases h
  | n, s :: L, r, e, h => by
    rw [rd_cons] at h
    cases h1 : scalarOf s with
    | some v => rw [h1] at h; cases h; exact Nat.zero_le _
    | none =>
      rw [h1] at h
      cases s with
      | num m => cases h
      | quo m => cases h
      | mark m => cases h
      | name l =>
        have h : (if l = cs "map" then rdMap L else if l ∉ reserved then some (Ex.var l, L) else match prevF n with
          | none => none
          | some f => if l = cs "inject" then rdInj f L else rdCall f l L) = some (e, r) := h
        by_cases hm : l = cs "map"
        · rw [if_pos hm] at h
          rw [map_deep h]
          exact Nat.zero_le _
        · rw [if_neg hm] at h
          by_cases hr : l ∉ reserved
          · rw [if_pos hr] at h; cases h; exact Nat.zero_le _
          · rw [if_neg hr] at h
            cases n with
            | zero => cases h
            | succ m =>
              have h : (if l = cs "inject" then rdInj (rd m) L else rdCall (rd m) l L) = some (e, r) := h
              by_cases hi : l = cs "inject"
              · rw [if_pos hi, inj_is] at h
                split at h
                · cases ht : L.tail with
                  | nil => rw [ht] at h; cases h
                  | cons s2 r1 =>
                    rw [ht] at h
                    cases s2 with
                    | name l2 =>
                      have h : (if l2 ∈ reserved then none else if atMark 44 r1 = true then (match rd m r1.tail with
                        | none => none
                        | some (e, r3) => if atMark 41 r3 = true then some (Ex.inj l2 e, r3.tail) else none) else none) = some (e, r) := h
                      split at h
                      · cases h
                      · split at h
                        · cases h4 : rd m r1.tail with
                          | none => rw [h4] at h; cases h
                          | some p =>
                            obtain ⟨e4, r4⟩ := p
                            rw [h4] at h
                            have h : (if atMark 41 r4 = true then some (Ex.inj l2 e4, r4.tail) else none) = some (e, r) := h
                            split at h
                            · cases h
                              have := rd_deep m _ _ _ h4
                              show 1 + e4.deep ≤ m + 1
                              omega
                            · cases h
                        · cases h
                    | _ => cases h
                · cases h
              · rw [if_neg hi] at h
                unfold rdCall at h
                cases h4 : rdArgs (rd m) (arity l) 40 L with
                | none => rw [h4] at h; cases h
                | some p =>
                  obtain ⟨es, r4⟩ := p
                  rw [h4] at h
                  have h : (match expect 41 r4 with | none => none | some r2 => some (Ex.call l es, r2)) = some (e, r) := h
                  cases h5 : expect 41 r4 with
                  | none => rw [h5] at h; cases h
                  | some r5 =>
                    rw [h5] at h
                    cases h
                    have := args_deep (fun L e r h => rd_deep m L r e h) _ _ _ _ _ h4
                    have hl := args_len _ _ _ _ _ _ h4
                    have ha : arity l ≤ 3 := by
                      unfold arity
                      repeat' split
                      all_goals omega
                    show 1 + Ex.deepAll es + (es.length - 3) ≤ m + 1
                    omega
theorem ite_to {b : Bool} {A : Int → Prop} {x : Int} (e : (if b = true then (1 : Int) else 0) = x) (h : A x) : if b = true then A 1 else A 0 := by
  cases b with
  | true => rw [← e] at h; exact iteT h
  | false => rw [← e] at h; exact iteF h
theorem ds_map : ∀ es : List Ex, Ex.ds es = es.map Ex.d
  | [] => rfl
  | e :: es => by show e.d :: Ex.ds es = _; rw [ds_map es]; rfl
theorem sum_cast : ∀ es : List Ex, (es.map fun x => ((x.calls : Nat) : Int)).sum = (((es.map Ex.calls).sum : Nat) : Int)
  | [] => rfl
  | e :: es => by
    have ih := sum_cast es
    simp only [List.map_cons, List.sum_cons] at ih ⊢
    omega
def spInner (K : PySem.W.Frag) : Sp := fun vs H Q _ => ∃ v e, vs = [v] ∧ Dt K H v (Ex.d e) ∧ ∀ H' p xs, Kp H H' → SqT K H' p xs → DtAll K H' xs (Ex.ds (innerOf e)) → Q (.ref p) H'
def spCnt (K : PySem.W.Frag) (m : Nat) : Sp := fun vs H Q _ => ∃ v e, vs = [v] ∧ Dt K H v (Ex.d e) ∧ e.deep ≤ m ∧ ∀ H', Kp H H' → Q (.int (e.calls : Int)) H'
def spRE (K : PySem.W.Frag) (C : Addr) (ts : List Addr) : Sp := fun vs H Q E => ∃ (S : Addr) (at' : Nat) (L : List Sg), vs = [.ref S, .int (at' : Int)] ∧ Sgs K H S L ∧ (∀ s ∈ L, fit s = true) ∧ L.length ≤ 1000 ∧ (∀ T ∈ ts, TabG H T) ∧ Res K C L H Q E (toD (readE (L.drop at')))
section
variable {P : Program} {w : World} {K : PySem.W.Frag} {mg : Str → Option Value} {base : Heap}
theorem dt_head {H : Hp} {v : V} {e : Ex} (h : Dt K H v e.d) : ∃ p xs wd, v = .ref p ∧ SqT K H p xs ∧ xs[0]? = some (.str (Str.ofString wd)) ∧ (match e with
    | .lit _ => wd = "literal"
    | .var _ => wd = "variable"
    | .call _ es => wd = "call" ∧ ∃ q ys, xs[2]? = some (.ref q) ∧ SqT K H q ys ∧ DtAll K H ys (Ex.ds es)
    | .inj _ e => wd = "inject" ∧ ∃ z, xs[2]? = some z ∧ Dt K H z e.d) := by
  cases e with
  | lit x => obtain ⟨p, a, b, rfl, hp, ha, hb⟩ := dt_pair h; cases ha; exact ⟨p, _, "literal", rfl, hp, rfl, rfl⟩
  | var x => obtain ⟨p, a, b, rfl, hp, ha, hb⟩ := dt_pair h; cases ha; exact ⟨p, _, "variable", rfl, hp, rfl, rfl⟩
  | call f es =>
    cases h with
    | tup h hs =>
      cases hs with
      | cons h1 hs =>
        cases hs with
        | cons h2 hs =>
          cases hs with
          | cons h3 hs =>
            cases hs
            cases h1
            cases h3 with
            | tup h3 hs3 => exact ⟨_, _, "call", rfl, h, rfl, rfl, _, _, rfl, h3, hs3⟩
  | inj l x =>
    cases h with
    | tup h hs =>
      cases hs with
      | cons h1 hs =>
        cases hs with
        | cons h2 hs =>
          cases hs with
          | cons h3 hs =>
            cases hs
            cases h1
            exact ⟨_, _, "inject", rfl, h, rfl, rfl, _, rfl, h3⟩
def prevN (K : PySem.W.Frag) : Nat → Sp
  | 0 => fun _ _ _ _ => False
  | n + 1 => spCnt K n
end
end Rx

namespace Rv
open PySem PySem.Spec PyProof.Rows L2 GxR Gx Gd
/-! ### the law's draws -/
abbrev s_law_cell : Stmt := topS 43
theorem sc_law_cell : FnScope ["script", "k"] ["script", "k"] (defScope s_law_cell) := ⟨rfl, rfl, rfl, by decide +kernel, rfl, by decide +kernel, by decide +kernel⟩
abbrev s_law_draw : Stmt := topS 47
theorem sc_law_draw : FnScope ["box", "many", "at"] ["box", "many"] (defScope s_law_draw) := ⟨rfl, rfl, rfl, by decide +kernel, rfl, by decide +kernel, by decide +kernel⟩
abbrev s_law_chars : Stmt := topS 48
theorem sc_law_chars : FnScope [] [] (defScope s_law_chars) := ⟨rfl, rfl, rfl, by decide +kernel, rfl, by decide +kernel, by decide +kernel⟩
abbrev s_law_string : Stmt := topS 49
theorem sc_law_string : FnScope ["box", "most", "signs", "size", "k"] ["box", "most"] (defScope s_law_string) := ⟨rfl, rfl, rfl, by decide +kernel, rfl, by decide +kernel, by decide +kernel⟩
def Box (bx d : Addr) (H : Hp) : Prop := ∃ (xs : List V) (at' : Int), H bx = some (.lst [.ref d, .int at']) ∧ 0 ≤ at' ∧ H d = some (.lst xs) ∧ ∀ v ∈ xs, ∃ i, v = .int i
theorem Box.ne {bx d : Addr} {H : Hp} (h : Box bx d H) : d ≠ bx := fun e => by
  obtain ⟨xs, a, h1, h2, h3, h4⟩ := h
  rw [e, h1] at h3
  cases h3
  obtain ⟨i, e⟩ := h4 _ List.mem_cons_self
  cases e
theorem Box.lsts {bx d : Addr} {H : Hp} (h : Box bx d H) : Lsts [bx] H := fun b hb => by
  obtain ⟨xs, a, h1, _⟩ := h
  cases hb with
  | head => exact ⟨_, h1⟩
  | tail _ h => cases h
theorem Box.kb {S : List Addr} {bx d : Addr} {H H' : Hp} (h : Box bx d H) (k : Kb S H H') (n1 : bx ∉ S) (n2 : d ∉ S) : Box bx d H' := by
  obtain ⟨xs, a, h1, h2, h3, h4⟩ := h
  exact ⟨xs, a, k.keep bx _ h1 n1 nt_lst, h2, k.keep d _ h3 n2 nt_lst, h4⟩
theorem Box.kp {bx d : Addr} {H H' : Hp} (h : Box bx d H) (k : Kp H H') : Box bx d H' := h.kb k (by simp) (by simp)
theorem Box.upd {bx d D : Addr} {H : Hp} {o : HO} (h : Box bx d H) (n1 : D ≠ bx) (n2 : D ≠ d) : Box bx d (upd H D o) := by
  obtain ⟨xs, a, h1, h2, h3, h4⟩ := h
  exact ⟨xs, a, by rw [upd_ne n1.symm]; exact h1, h2, by rw [upd_ne n2.symm]; exact h3, h4⟩
theorem Box.new {bx d D : Addr} {H : Hp} (h : Box bx d H) (n : H D = none) : D ≠ bx ∧ D ≠ d := by
  obtain ⟨xs, a, h1, h2, h3, h4⟩ := h
  exact ⟨(ne_of_none h1 n).symm, (ne_of_none h3 n).symm⟩
/-- after some draws -/
def Aft (bx d : Addr) (H H' : Hp) : Prop := Kb [bx] H H' ∧ Box bx d H'
theorem Aft.trans {bx d : Addr} {H H1 H2 : Hp} (a : Aft bx d H H1) (b : Aft bx d H1 H2) : Aft bx d H H2 := ⟨a.1.trans b.1, b.2⟩
theorem Aft.of {bx d : Addr} {H H' : Hp} (b : Box bx d H) (k : Kp H H') : Aft bx d H H' := ⟨Kb.of k, b.kp k⟩
theorem Aft.refl {bx d : Addr} {H : Hp} (b : Box bx d H) : Aft bx d H H := ⟨Kb.refl H, b⟩
theorem Aft.new {bx d D : Addr} {H : Hp} {o : HO} (b : Box bx d H) (n : H D = none) : Aft bx d H (upd H D o) := Aft.of b (Kb.new n)
theorem Aft.mut {bx d D : Addr} {H H' : Hp} {o u : HO} (k : Aft bx d H H') (n : H D = none) (b : Box bx d H) (e : H' D = some u) (t : NoTab u) : Aft bx d H (upd H' D o) :=
  ⟨k.1.mut n (no_tab e t), k.2.upd (b.new n).1 (b.new n).2⟩
theorem Aft.dt {K : PySem.W.Frag} {bx d : Addr} {H H' : Hp} {v : V} {x : PyData} (k : Aft bx d H H') (b : Box bx d H) (h : Dt K H v x) : Dt K H' v x := h.kb k.1 b.lsts
theorem Aft.lst {bx d D : Addr} {H H' : Hp} {xs : List V} (k : Aft bx d H H') (e : H D = some (.lst xs)) (n : D ≠ bx) : H' D = some (.lst xs) := k.1.keep D _ e (by simpa using n) nt_lst
def spDraw : Sp := fun vs H Q _ => ∃ bx d many, vs = [.ref bx, .int many] ∧ 0 < many ∧ Box bx d H ∧ ∀ H' r, Aft bx d H H' → 0 ≤ r → r < many → Q (.int r) H'
def lawChars : Str := Str.ofString " !\"#$&'()*+,-./09:;<=>?@AZ[\\]^_`az{|}~"
def spChars : Sp := fun vs H Q _ => vs = [] ∧ Q (.str lawChars) H
def spCell (K : PySem.W.Frag) : Sp := fun vs H Q _ => ∃ (a : Addr) (ns : List Int) (k : Int), vs = [.ref a, .int k] ∧ 0 ≤ k ∧ SqL K H a (ns.map V.int) ∧ ∀ i, Q (.int i) H
section
variable {P : Program} {w : World} {K : PySem.W.Frag} {mg : Str → Option Value} {base : Heap}
theorem c_law_chars (D : DefAt K mg "_law_chars" s_law_chars []) : Cal P w K mg base CX0 1 "_law_chars" [] spChars := by
  refine D.cal (k := 0) sc_law_chars (fun vs H Q E h => ?_) fun f cdv A outer s H vs Q E hr h => ?_
  · obtain ⟨rfl, _⟩ := h
    rfl
  · obtain ⟨rfl, q⟩ := h
    refine ⟨_, (pss_one (ps_ret pe_str)), ?_⟩
    exact q
theorem c_law_cell (D : DefAt K mg "_law_cell" s_law_cell ["script", "k"]) (m_len : mg "len" = none) : Cal P w K mg base CX0 1 "_law_cell" ["script", "k"] (spCell K) := by
  refine D.cal (k := 0) sc_law_cell (fun vs H Q E h => ?_) fun f cdv A outer s H vs Q E hr h => ?_
  · obtain ⟨a, ns, k, rfl, _⟩ := h
    rfl
  · obtain ⟨a, ns, k, rfl, h0, h, q⟩ := h
    refine ⟨_, (pss_cons (ps_if (pt_cmpR op_lt (pv 1) (pe_callB call_len_seq (by rfl) m_len (by decide +kernel) (pa_cons (pv 0) pa_nil)) (nomark _)) (pss_one (ps_ret (pe_ix ix_list (pv 0) (pv 1) (fun _ _ => rfl)))) pss_nil)
  (pss_one (ps_ret pe_int))), ?_⟩
    refine ⟨_, rfl, _, rfl, a, _, rfl, .inl h, k, _, rfl, rfl, _, rfl, ?_⟩
    by_cases hk : k < ((ns.map V.int).length : Int)
    · rw [decide_eq_true hk]
      obtain ⟨n, rfl⟩ : ∃ n : Nat, k = n := ⟨k.toNat, by omega⟩
      have hn : n < (ns.map V.int).length := by omega
      have e : (ns.map V.int)[n]? = some (.int (ns[n]'(by simpa using hn))) := by simp
      exact iteT ⟨_, rfl, _, rfl, a, _, _, _, rfl, rfl, h, atI_nat e, q _⟩
    · rw [decide_eq_false hk]
      exact iteF (q 0)
theorem c_law_draw (D : DefAt K mg "_law_draw" s_law_draw ["box", "many"]) (m_len : mg "len" = none) (m_int : mg "int" = none) : Cal P w K mg base CX0 1 "_law_draw" ["box", "many"] spDraw := by
  refine D.cal (k := 0) sc_law_draw (fun vs H Q E h => ?_) fun f cdv A outer s H vs Q E hr h => ?_
  · obtain ⟨bx, d, many, rfl, _⟩ := h
    rfl
  · obtain ⟨bx, d, many, rfl, hm, hb, q⟩ := h
    have hne := hb.ne
    obtain ⟨xs, n, h1, h2, h3, h4⟩ := hb
    refine ⟨_, (pss_cons (ps_set (i := 2) sc_law_draw.nd rfl (Or.inl rfl) (pe_ix ix_list (pv 0) pe_int (fun _ _ => rfl)))
  (pss_cons (ps_asg (pe_op op_add (pv 2) pe_int) (pg_sub (pv 0) pe_int set_list))
  (pss_cons (ps_if (pt_cmpR op_lt (pv 2) (pe_callB call_len_seq (by rfl) m_len (by decide +kernel) (pa_cons (pe_ix ix_list (pv 0) pe_int (fun _ _ => rfl)) pa_nil)) (nomark _)) (pss_one (ps_ret (pe_op op_mod (pe_callTy call_int1 (by rfl) m_int (by decide +kernel) (pa_cons (pe_ix ix_list (pe_ix ix_list (pv 0) pe_int (fun _ _ => rfl)) (pv 2) (fun _ _ => rfl)) pa_nil)) (pv 1)))) pss_nil)
  (pss_one (ps_ret (pe_op op_mod (pe_callTy call_int1 (by rfl) m_int (by decide +kernel) (pa_cons (pe_op op_add (pe_op op_mul (pv 2) pe_int) pe_int) pa_nil)) (pv 1))))))), ?_⟩
    refine ⟨.ref bx, rfl, bx, _, 1, _, rfl, rfl, .inl (.inl h1), atI_nat (j := 1) rfl, ?_⟩
    refine ⟨.int n, rfl, n, 1, rfl, rfl, .ref bx, rfl, bx, _, 1, 1, rfl, rfl, h1, rfl, ?_⟩
    have k1 : Aft bx d H (upd H bx (.lst [.ref d, .int (n + 1)])) := ⟨Kb.put (by simp) h1 nt_lst, xs, n + 1, upd_same, by omega, by rw [upd_ne hne]; exact h3, h4⟩
    have e1 : (upd H bx (.lst [.ref d, .int (n + 1)])) bx = some (.lst [.ref d, .int (n + 1)]) := upd_same
    have e2 : (upd H bx (.lst [.ref d, .int (n + 1)])) d = some (.lst xs) := by rw [upd_ne hne]; exact h3
    refine ⟨.int n, rfl, .ref bx, rfl, bx, _, 0, .ref d, rfl, rfl, .inl (.inl e1), atI_nat (j := 0) rfl, d, xs, rfl, .inl (.inl (.inl e2)), n, _, rfl, rfl, _, rfl, ?_⟩
    by_cases hk : n < (xs.length : Int)
    · rw [decide_eq_true hk]
      obtain ⟨j, rfl⟩ : ∃ j : Nat, n = j := ⟨n.toNat, by omega⟩
      have hj : j < xs.length := by omega
      obtain ⟨i, hi⟩ := h4 xs[j] (List.getElem_mem hj)
      have e : xs[j]? = some (.int i) := by rw [List.getElem?_eq_getElem hj, hi]
      exact iteT ⟨.ref bx, rfl, bx, _, 0, .ref d, rfl, rfl, .inl (.inl e1), atI_nat (j := 0) rfl, _, rfl, d, xs, j, .int i, rfl, rfl, .inl (.inl e2), atI_nat e, .inl ⟨i, rfl, _, rfl, i, many, rfl, rfl, hm, q _ _ k1 (Int.emod_nonneg _ (by omega)) (Int.emod_lt_of_pos _ hm)⟩⟩
    · rw [decide_eq_false hk]
      exact iteF ⟨_, rfl, n, 7, rfl, rfl, .inr (by decide), _, _, rfl, rfl, .inl ⟨_, rfl, _, rfl, _, many, rfl, rfl, hm, q _ _ k1 (Int.emod_nonneg _ (by omega)) (Int.emod_lt_of_pos _ hm)⟩⟩
end
end Rv

namespace Rv
open PySem PySem.Spec PyProof.Rows L2 GxR Gx Gd
def spString : Sp := fun vs H Q _ => ∃ bx d, vs = [.ref bx, .int 40] ∧ Box bx d H ∧ ∀ H' x, Aft bx d H H' → x.length ≤ 40 → x.cps.toList.all isChar = true → Q (.str x) H'
def tStr (K : PySem.W.Frag) : TE := tM1 (fun x xs H Q => ∃ a p, ∃ ys : List Str, x = .str a ∧ xs = [.ref p] ∧ (SqL K H p (ys.map V.str) ∨ SqT K H p (ys.map V.str)) ∧ (ys.map (·.length)).sum + ys.length * a.length ≤ 16777216 ∧ Q (.str (Txt.join a ys)) H) (tC (.str (Str.ofString "")))
  (tLc (iRng1 (tCons (tVar 3) tNil)) (gName 4) tYes (tOp rIxS (tVar 2) (tCall spDraw [] E0 (tCons (tVar 0) (tCons (tCB (fun xs H Q => ∃ z, xs = [V.str z] ∧ z.length ≤ sizeLine ∧ Q (.int z.length) H) (tCons (tVar 2) tNil)) tNil)))) [4])
theorem joinL_nil : ∀ l : List (List Nat), TL.joinL [] l = l.flatten
  | [] => rfl
  | [p] => by simp [TL.joinL]
  | p :: q :: r => by
    have := joinL_nil (q :: r)
    show p ++ ([] ++ TL.joinL [] (q :: r)) = _
    rw [this]
    simp
def one (c : Nat) : Str := ⟨#[c]⟩
theorem join_ones (cs : List Nat) : (Txt.join (Str.ofString "") (cs.map one)).cps.toList = cs := by
  have h := TL.tl_join (Str.ofString "") (cs.map one)
  rw [← TL.join_eq] at h
  have e : TL.tl (Str.ofString "") = [] := by decide +kernel
  rw [e, joinL_nil] at h
  refine h.trans ?_
  clear h
  induction cs with
  | nil => rfl
  | cons c cs ih =>
    show [c] ++ _ = c :: cs
    rw [ih]
    rfl
theorem sum_ones (cs : List Nat) : ((cs.map one).map (·.length)).sum = cs.length := by
  induction cs with
  | nil => rfl
  | cons c cs ih =>
    rw [List.map_cons, List.map_cons, List.sum_cons, ih, List.length_cons]
    show 1 + _ = _
    omega
theorem chars_ok : ∀ (i c : Nat), lawChars.cps.toList[i]? = some c → isChar c = true := fun i c h => by
  have e : lawChars.cps.toList.all isChar = true := by decide +kernel
  exact List.all_eq_true.mp e c (List.mem_of_getElem? h)
theorem chars_len : lawChars.length = 38 := by decide +kernel
theorem str_end {K : PySem.W.Frag} {bx d : Addr} {H : Hp} {Q : VK} {sz : Int} (hb : Box bx d H) (h0 : 0 ≤ sz) (h1 : sz ≤ 40) (q : ∀ H' x, Aft bx d H H' → x.length ≤ 40 → x.cps.toList.all isChar = true → Q (.str x) H') :
    tStr K [some (.ref bx), some (.int 40), some (.str lawChars), some (.int sz), none] H Q := by
  refine ⟨⟨_, rfl⟩, .int sz, rfl, sz, rfl, by omega, by omega, fun D hD => ?_⟩
  refine ⟨fun i m H' => ∃ cs : List Nat, cs.length = i ∧ m = sz.toNat - i ∧ i ≤ sz.toNat ∧ cs.all isChar = true ∧ Aft bx d H H' ∧ H' D = some (.lst ((cs.map one).map V.str)), ⟨_, [], rfl, rfl, Nat.zero_le _, rfl, .new hb hD, upd_same⟩, ?_⟩
  rintro i m H' ⟨cs, rfl, rfl, hi, hc, a, e⟩
  by_cases hl : cs.length < sz.toNat
  · refine .inr ⟨hl, fun H'' => ∃ cs' : List Nat, cs'.length = cs.length + 1 ∧ cs'.all isChar = true ∧ Aft bx d H H'' ∧ H'' D = some (.lst ((cs'.map one).map V.str)), fun H'' ⟨cs', e1, e2, e3, e4⟩ => ⟨_, by omega, cs', e1, rfl, hl, e2, e3, e4⟩, ?_⟩
    rintro x Hy ⟨rfl, rfl⟩
    refine ⟨rfl, ?_⟩
    refine iteT (B := ∃ cs' : List Nat, cs'.length = cs.length + 1 ∧ cs'.all isChar = true ∧ Aft bx d H Hy ∧ Hy D = some (.lst ((cs'.map one).map V.str))) ⟨.str lawChars, rfl, .ref bx, rfl, .str lawChars, rfl, lawChars, rfl, by rw [chars_len]; decide, bx, d, _, rfl, by rw [chars_len]; decide, a.2, fun H4 r a4 g l => ?_⟩
    obtain ⟨j, rfl⟩ : ∃ j : Nat, r = j := ⟨r.toNat, by omega⟩
    have hj : j < lawChars.cps.toList.length := by
      have : lawChars.cps.toList.length = lawChars.length := by simp [Str.length]
      omega
    have ec : lawChars.cps.toList[j]? = some (lawChars.cps.toList[j]) := List.getElem?_eq_getElem hj
    have e4 := a4.lst e (hb.new hD).1
    have hc' := chars_ok _ _ ec
    refine ⟨lawChars, j, _, rfl, rfl, by rw [chars_len]; decide, atI_nat ec, _, e4, ?_, cs ++ [lawChars.cps.toList[j]], by simp, by rw [List.all_append, hc, Bool.true_and]; show (_ && _) = true; rw [hc']; rfl, (a.trans a4).mut hD hb e4 nt_lst, ?_⟩
    · rw [List.length_map, List.length_map]
      have : sizeLine = 16777216 := rfl
      omega
    · rw [upd_same, List.map_append, List.map_append]
      rfl
  · refine .inl ⟨by show sz.toNat ≤ _; omega, Str.ofString "", D, cs.map one, rfl, rfl, .inl (.inl (.inl e)), ?_, ?_⟩
    · rw [sum_ones]
      show cs.length + _ * 0 ≤ _
      omega
    · refine q H' _ a ?_ ?_
      · have := congrArg List.length (join_ones cs)
        show (Txt.join _ _).cps.size ≤ 40
        rw [← Array.length_toList, this]
        omega
      · rw [join_ones]
        exact hc
section
variable {P : Program} {w : World} {K : PySem.W.Frag} {mg : Str → Option Value} {base : Heap}
theorem c_law_string (D : DefAt K mg "_law_string" s_law_string ["box", "most"]) (m_len : mg "len" = none) (m_range : mg "range" = none) (c__law_chars : Cal P w K mg base CX0 1 "_law_chars" [] spChars)
    (c__law_draw : Cal P w K mg base CX0 1 "_law_draw" ["box", "many"] spDraw) : Cal P w K mg base CX0 2 "_law_string" ["box", "most"] spString := by
  refine D.cal (k := 1) sc_law_string (fun vs H Q E h => ?_) fun f cdv A outer s H vs Q E hr h => ?_
  · obtain ⟨bx, d, rfl, _⟩ := h
    rfl
  · obtain ⟨bx, d, rfl, hb, q⟩ := h
    refine ⟨_, (pss_cons (ps_set (i := 2) sc_law_string.nd rfl (Or.inr rfl) (pe_cal0 (c__law_chars.mono (by omega)) hr (by rfl)))
  (pss_cons (ps_set (i := 3) sc_law_string.nd rfl (Or.inl rfl) (pe_cal (c__law_draw.mono (by omega)) hr (by rfl) (pa_cons (pv 0) (pa_cons pe_int pa_nil))))
  (pss_cons (ps_if (pt_cmpR op_eq (pe_cal (c__law_draw.mono (by omega)) hr (by rfl) (pa_cons (pv 0) (pa_cons pe_int pa_nil))) pe_int (nomark _)) (pss_one (ps_set (i := 3) sc_law_string.nd rfl (Or.inl rfl) (pe_op op_sub (pv 1) (pe_cal (c__law_draw.mono (by omega)) hr (by rfl) (pa_cons (pv 0) (pa_cons pe_int pa_nil)))))) pss_nil)
  (pss_one (ps_ret (pe_join pe_str (pe_lc rfl sc_law_string.nd (pi_range1 (by rfl) m_range (pa_cons (pv 3) pa_nil)) (blkOk_by (own := [("k", 4)]) (N := ["box", "most", "signs", "size", "k"]) (sc := defScope s_law_string) (by decide +kernel)) (fun _ _ _ _ _ => (pg_name (i := 4) sc_law_string.nd rfl (Or.inl rfl))) (fun _ _ _ _ _ => pts_nil) (fun _ _ _ _ _ => (pe_ix ix_str (pv 2) (pe_cal (c__law_draw.mono (by omega)) hr (by rfl) (pa_cons (pv 0) (pa_cons (pe_callB call_len_str (by rfl) m_len (by decide +kernel) (pa_cons (pv 2) pa_nil)) pa_nil))) (fun _ _ => rfl)))))))))), ?_⟩
    refine ⟨rfl, .ref bx, rfl, bx, d, 5, rfl, by decide, hb, fun H1 r1 a1 g1 l1 => ?_⟩
    refine ⟨.ref bx, rfl, bx, d, 8, rfl, by decide, a1.2, fun H2 r2 a2 _ _ => ⟨rfl, _, rfl, ?_⟩⟩
    have fin := fun (H3 : Hp) (sz : Int) (a3 : Aft bx d H H3) (h0 : 0 ≤ sz) (h1 : sz ≤ 40) => str_end (K := K) (Q := Q) a3.2 h0 h1 fun H' x a h2 h3 => q H' x (a3.trans a) h2 h3
    by_cases h : V.int r2 = V.int 0
    · rw [decide_eq_true h]
      refine iteT ⟨.int 40, rfl, .ref bx, rfl, bx, d, 2, rfl, by decide, a2.2, fun H3 r3 a3 g3 l3 => ⟨40, r3, rfl, rfl, ?_⟩⟩
      exact fin H3 (40 - r3) ((a1.trans a2).trans a3) (by omega) (by omega)
    · rw [decide_eq_false h]
      refine iteF ?_
      exact fin H2 r1 (a1.trans a2) g1 (by omega)
end
end Rv

namespace Rv
open PySem PySem.Spec PyProof.Rows L2 GxR Gx Gd
abbrev s_law_digits : Stmt := topS 46
theorem sc_law_digits : FnScope ["script", "first", "last", "digits", "k", "cell", "turn", "seed"] ["script", "first", "last"] (defScope s_law_digits) := ⟨rfl, rfl, rfl, by decide +kernel, rfl, by decide +kernel, by decide +kernel⟩
def spDigits (K : PySem.W.Frag) : Sp := fun vs H Q _ => ∃ (a : Addr) (ns : List Int), vs = [.ref a, .int 0, .int 30] ∧ SqL K H a (ns.map V.int) ∧ ∀ (d : Addr) (H' : Hp) (xs : List V), H d = none → Kp H H' → H' d = some (.lst xs) → (∀ v ∈ xs, ∃ i, v = .int i) → Q (.ref d) H'
/-- the list at D holds at most n ints, all else stands -/
def Dg (H0 : Hp) (D : Addr) (n : Nat) (H : Hp) : Prop := ∃ xs : List V, xs.length ≤ n ∧ (∀ v ∈ xs, ∃ i, v = .int i) ∧ Kp H0 H ∧ H D = some (.lst xs)
theorem Dg.push {H0 H : Hp} {D : Addr} {n : Nat} {xs : List V} {i : Int} (h0 : H0 D = none) (hl : xs.length ≤ n) (hi : ∀ v ∈ xs, ∃ i, v = .int i) (k : Kp H0 H) (e : H D = some (.lst xs)) : Dg H0 D (n + 1) (upd H D (.lst (xs ++ [.int i]))) :=
  ⟨xs ++ [.int i], by simp; exact hl, fun v hv => by
    rcases List.mem_append.mp hv with h | h
    · exact hi v h
    · exact ⟨i, by simpa using h⟩, k.mut h0 (no_tab e nt_lst), upd_same⟩
theorem Dg.mono {H0 H : Hp} {D : Addr} {n m : Nat} (h : Dg H0 D n H) (l : n ≤ m) : Dg H0 D m H := let ⟨xs, a, r⟩ := h; ⟨xs, Nat.le_trans a l, r⟩
theorem iteC {b : Bool} {A B : Prop} (h1 : A) (h2 : B) : if b = true then A else B := by
  cases b with
  | true => exact iteT h1
  | false => exact iteF h2
theorem cell_pos {R r k l} {b : Bool} {σ : L2.St} {H : Hp} {c : Int} (hs : σ[5]? = some (some (.int c))) (hσ : σ.set 5 (some (.int c)) = σ) (h : ∀ c', R (σ.set 5 (some (.int c'))) H) :
    if b = true then tAsg (tOp (rI0 fun i j => V.int (i - j)) (tC (V.int 1)) (tOp (rI CMul fun i j => V.int (i * j)) (tC (V.int 2)) (tVar 5))) (gName 5) ⟨R, r, k, l⟩ σ H else tNext ⟨R, r, k, l⟩ σ H := by
  cases b with
  | true => exact iteT ⟨_, hs, 2, c, rfl, rfl, .inl (by decide), 1, _, rfl, rfl, h _⟩
  | false =>
    refine iteF ?_
    have z := h c
    rw [hσ] at z
    exact z
section
variable {P : Program} {w : World} {K : PySem.W.Frag} {mg : Str → Option Value} {base : Heap}
theorem c_law_digits (D : DefAt K mg "_law_digits" s_law_digits ["script", "first", "last"]) (m_range : mg "range" = none) (m_int : mg "int" = none)
    (c__law_cell : Cal P w K mg base CX0 1 "_law_cell" ["script", "k"] (spCell K)) : Cal P w K mg base CX0 2 "_law_digits" ["script", "first", "last"] (spDigits K) := by
  refine D.cal (k := 1) sc_law_digits (fun vs H Q E h => ?_) fun f cdv A outer s H vs Q E hr h => ?_
  · obtain ⟨bx, d, rfl, _⟩ := h
    rfl
  · obtain ⟨a, ns, rfl, ha, q⟩ := h
    refine ⟨_, (pss_cons (ps_set (i := 3) sc_law_digits.nd rfl (Or.inl rfl) (pe_lst pa_nil))
  (pss_cons (ps_for PassesOwn.never rfl (pi_range2 (by rfl) m_range (pa_cons (pv 1) (pa_cons (pv 2) pa_nil))) (pg_name (i := 4) sc_law_digits.nd rfl (Or.inl rfl)) (pss_cons (ps_set (i := 5) sc_law_digits.nd rfl (Or.inl rfl) (pe_cal (c__law_cell.mono (by omega)) hr (by rfl) (pa_cons (pv 0) (pa_cons (pv 4) pa_nil))))
  (pss_cons (ps_if (pt_cmpR op_lt (pv 5) pe_int (nomark _)) (pss_one (ps_set (i := 5) sc_law_digits.nd rfl (Or.inl rfl) (pe_op op_sub pe_int (pe_op op_mul pe_int (pv 5))))) pss_nil)
  (pss_one (ps_if (pt_cmpR op_ge (pv 5) (pe_op op_pow pe_int pe_int) (nomark _)) (pss_one (ps_for PassesOwn.never rfl (pi_range1 (by rfl) m_range (pa_cons pe_int pa_nil)) (pg_name (i := 6) sc_law_digits.nd rfl (Or.inl rfl)) (pss_one (ps_if (pt_cmpR op_gt (pv 5) pe_int (nomark _)) (pss_cons (ps_expr (pe_bm PySem.F.plainAttrs_list PySem.F.slot_list_append PySem.F.type_list_append mt_append (pv 3) (pa_cons (pe_op op_mod (pe_callTy call_int1 (by rfl) m_int (by decide +kernel) (pa_cons (pv 5) pa_nil)) pe_int) pa_nil)))
  (pss_one (ps_set (i := 5) sc_law_digits.nd rfl (Or.inl rfl) (pe_op op_fdiv (pv 5) pe_int)))) pss_nil)))) (pss_cons (ps_set (i := 7) sc_law_digits.nd rfl (Or.inl rfl) (pe_op op_mod (pe_callTy call_int1 (by rfl) m_int (by decide +kernel) (pa_cons (pe_op op_add (pe_op op_add (pe_op op_mul (pv 5) pe_int) (pe_op op_mul (pv 4) pe_int)) pe_int) pa_nil)) pe_int))
  (pss_one (ps_for PassesOwn.never rfl (pi_range1 (by rfl) m_range (pa_cons pe_int pa_nil)) (pg_name (i := 6) sc_law_digits.nd rfl (Or.inl rfl)) (pss_cons (ps_set (i := 7) sc_law_digits.nd rfl (Or.inl rfl) (pe_op op_mod (pe_callTy call_int1 (by rfl) m_int (by decide +kernel) (pa_cons (pe_op op_add (pe_op op_add (pe_op op_mul (pv 7) pe_int) (pe_op op_mul pe_int (pv 6))) pe_int) pa_nil)) pe_int))
  (pss_one (ps_expr (pe_bm PySem.F.plainAttrs_list PySem.F.slot_list_append PySem.F.type_list_append mt_append (pv 3) (pa_cons (pe_op op_mod (pe_callTy call_int1 (by rfl) m_int (by decide +kernel) (pa_cons (pe_op op_fdiv (pv 7) pe_int) pa_nil)) pe_int) pa_nil)))))))))))))
  (pss_one (ps_ret (pv 3))))), ?_⟩
    refine ⟨Nat.zero_le _, fun D hD => ⟨.int 0, rfl, .int 30, rfl, 0, 30, rfl, by decide, ?_⟩⟩
    refine ⟨fun i m σ H' => m = 30 - i ∧ i ≤ 30 ∧ (∃ o1 o2 o3 o4, σ = [some (.ref a), some (.int 0), some (.int 30), some (.ref D), o1, o2, o3, o4]) ∧ Dg H D (60 * i) H', ⟨_, rfl, Nat.zero_le _, ⟨none, none, none, none, rfl⟩, [], Nat.le_refl _, (fun _ h => by cases h), Kb.new hD, upd_same⟩, ?_⟩
    rintro i m σ H1 ⟨rfl, hi, ⟨o1, o2, o3, o4, rfl⟩, g⟩
    by_cases hl : i < 30
    · refine .inr ⟨hl, fun σ' H' => (∃ o1 o2 o3 o4, σ' = [some (.ref a), some (.int 0), some (.int 30), some (.ref D), o1, o2, o3, o4]) ∧ Dg H D (60 * (i + 1)) H', fun σ' H' ⟨e1, e2⟩ => ⟨_, by omega, rfl, hl, e1, e2⟩, ?_⟩
      rintro x H2 ⟨rfl, rfl⟩
      have hsq : SqL K H2 a (ns.map V.int) := by
        obtain ⟨xs, _, _, k, e⟩ := g
        rcases ha with (ha | ⟨o, ha⟩) | ha
        · exact .inl (.inl (k.keep a _ ha (by simp) nt_lst))
        · exact .inl (.inr ⟨o, k.keep a _ ha (by simp) nt_frz⟩)
        · exact .inr ha
      refine ⟨.ref a, rfl, .int (0 + i), rfl, a, ns, _, rfl, by omega, hsq, fun c => ?_⟩
      refine ⟨_, rfl, c, 0, rfl, rfl, ?_⟩
      refine ⟨_, rfl, cell_pos rfl rfl fun c => ?_⟩
      refine ⟨_, rfl, 10, 18, rfl, rfl, ⟨by decide, by decide, by decide⟩, c, 10 ^ 18, rfl, rfl, ?_⟩
      refine ⟨_, rfl, ?_⟩
      refine iteC ?_ ?_
      · refine ⟨60, rfl, by decide, by decide, ?_⟩
        refine ⟨fun j m σ H' => m = 60 - j ∧ j ≤ 60 ∧ (∃ o1 c o3 o4, σ = [some (.ref a), some (.int 0), some (.int 30), some (.ref D), o1, some (.int c), o3, o4]) ∧ Dg H D (60 * i + j) H', ⟨_, rfl, Nat.zero_le _, ⟨_, _, _, _, rfl⟩, g⟩, ?_⟩
        rintro j m σ H3 ⟨rfl, hj, ⟨o1, c, o3, o4, rfl⟩, g⟩
        by_cases hl : j < 60
        · refine .inr ⟨hl, fun σ' H' => (∃ o1 c o3 o4, σ' = [some (.ref a), some (.int 0), some (.int 30), some (.ref D), o1, some (.int c), o3, o4]) ∧ Dg H D (60 * i + (j + 1)) H', fun σ' H' ⟨e1, e2⟩ => ⟨_, by omega, rfl, hl, e1, e2⟩, ?_⟩
          rintro x H4 ⟨rfl, rfl⟩
          refine ⟨_, rfl, c, 0, rfl, rfl, _, rfl, ?_⟩
          refine iteC ?_ ?_
          · obtain ⟨xs, h1, h2, h3, h4⟩ := g
            refine ⟨.ref D, rfl, .inl ⟨rfl, _, .inl (.inl h4)⟩, _, rfl, .inl ⟨c, rfl, c, 1000, rfl, rfl, by show (0 : Int) < 1000; decide, D, xs, _, rfl, rfl, h4, ?_, ?_⟩⟩
            · have : sizeLine = 16777216 := rfl
              omega
            · exact ⟨_, rfl, c, 1000, rfl, rfl, ⟨by decide, by decide⟩, ⟨_, _, _, _, rfl⟩, Dg.push hD h1 h2 h3 h4⟩
          · exact ⟨⟨_, _, _, _, rfl⟩, g.mono (by omega)⟩
        · exact .inl ⟨by show 60 ≤ j; omega, ⟨_, _, _, _, rfl⟩, g.mono (by omega)⟩
      · refine ⟨_, rfl, c, 48271, rfl, rfl, .inr (by decide), _, rfl, _, 69621, rfl, rfl, .inr (by decide), _, _, rfl, rfl, _, _, rfl, rfl, .inl ⟨_, rfl, _, 2147483647, rfl, rfl, by show (0 : Int) < 2147483647; decide, ?_⟩⟩
        refine ⟨12, rfl, by decide, by decide, ?_⟩
        refine ⟨fun j m σ H' => m = 12 - j ∧ j ≤ 12 ∧ (∃ o1 o2 o3 c, σ = [some (.ref a), some (.int 0), some (.int 30), some (.ref D), o1, o2, o3, some (.int c)]) ∧ Dg H D (60 * i + j) H', ⟨_, rfl, Nat.zero_le _, ⟨_, _, _, _, rfl⟩, g⟩, ?_⟩
        rintro j m σ H3 ⟨rfl, hj, ⟨o1, o2, o3, c, rfl⟩, g⟩
        by_cases hl : j < 12
        · refine .inr ⟨hl, fun σ' H' => (∃ o1 o2 o3 c, σ' = [some (.ref a), some (.int 0), some (.int 30), some (.ref D), o1, o2, o3, some (.int c)]) ∧ Dg H D (60 * i + (j + 1)) H', fun σ' H' ⟨e1, e2⟩ => ⟨_, by omega, rfl, hl, e1, e2⟩, ?_⟩
          rintro x H4 ⟨rfl, rfl⟩
          refine ⟨_, rfl, c, 16807, rfl, rfl, .inr (by decide), _, rfl, 7, _, rfl, rfl, .inl (by decide), _, _, rfl, rfl, _, _, rfl, rfl, .inl ⟨_, rfl, _, 2147483647, rfl, rfl, by show (0 : Int) < 2147483647; decide, ?_⟩⟩
          obtain ⟨xs, h1, h2, h3, h4⟩ := g
          refine ⟨.ref D, rfl, .inl ⟨rfl, _, .inl (.inl h4)⟩, _, rfl, _, 997, rfl, rfl, ⟨by decide, by decide⟩, .inl ⟨_, rfl, _, 1000, rfl, rfl, by show (0 : Int) < 1000; decide, D, xs, _, rfl, rfl, h4, ?_, ?_⟩⟩
          · have : sizeLine = 16777216 := rfl
            omega
          · exact ⟨⟨_, _, _, _, rfl⟩, Dg.push hD h1 h2 h3 h4⟩
        · exact .inl ⟨by show 12 ≤ j; omega, ⟨_, _, _, _, rfl⟩, g.mono (by omega)⟩
    · obtain ⟨xs, h1, h2, h3, h4⟩ := g
      refine .inl ⟨by show 30 - 0 ≤ _; omega, ?_⟩
      exact ⟨_, rfl, q D H1 xs hD h3 h4 h2⟩
end
end Rv

namespace Rv
open PySem PySem.Spec PyProof.Rows L2 GxR Gx Gd
abbrev s_law_scalar : Stmt := topS 50
theorem sc_law_scalar : FnScope ["box", "kind"] ["box"] (defScope s_law_scalar) := ⟨rfl, rfl, rfl, by decide +kernel, rfl, by decide +kernel, by decide +kernel⟩
abbrev s_law_map : Stmt := topS 51
theorem sc_law_map : FnScope ["box", "entries", "k", "key", "entry"] ["box"] (defScope s_law_map) := ⟨rfl, rfl, rfl, by decide +kernel, rfl, by decide +kernel, by decide +kernel⟩
abbrev s_law_value : Stmt := topS 52
theorem sc_law_value : FnScope ["box"] ["box"] (defScope s_law_value) := ⟨rfl, rfl, rfl, by decide +kernel, rfl, by decide +kernel, by decide +kernel⟩
/-! ### right values -/
def textOk (x : Str) : Prop := x.length ≤ 40 ∧ x.cps.toList.all isChar = true
def Sc.good : Sc → Prop
  | .int i => 0 ≤ i ∧ i ≤ 999999
  | .text x => textOk x
  | _ => True
theorem Sc.good.ok : ∀ {s : Sc}, s.good → s.ok
  | .none, _ => trivial
  | .bool _, _ => trivial
  | .int _, h => h
  | .text _, _ => trivial
theorem str_ok {x : Str} (h : x.cps.toList.all isChar = true) : PyData.strOk x = true := by
  show x.cps.all _ = true
  rw [← Array.all_toList, List.all_eq_true]
  intro c hc
  have h1 := List.all_eq_true.mp h c hc
  unfold isChar inRg at h1
  rw [Bool.and_eq_true, Bool.and_eq_true, decide_eq_true_eq, decide_eq_true_eq] at h1
  rw [decide_eq_true_eq]
  omega
theorem okN_str' {n : Nat} {x : Str} (h1 : x.length ≤ 1000) (h2 : PyData.strOk x = true) : okN n (.str x) = true := by
  have e : (decide (x.length ≤ 1000) && PyData.strOk x) = true := by rw [decide_eq_true h1, h2]; rfl
  cases n <;> exact e
theorem okN_tup' {n : Nat} {ds : List PyData} (h1 : ds.length ≤ 1000) (h2 : ∀ d ∈ ds, okN n d = true) : okN (n + 1) (.tuple ds) = true := by
  show (decide _ && _) = true
  rw [decide_eq_true h1, List.all_eq_true.mpr h2]
  rfl
theorem good_okN : ∀ {s : Sc}, s.good → okN 1 s.d = true
  | .none, _ => by decide +kernel
  | .bool b, _ => by cases b <;> decide +kernel
  | .int i, h => okN_tup' (by simp) fun d hd => by
    rcases List.mem_cons.mp hd with rfl | hd
    · decide +kernel
    · rw [List.mem_singleton.mp hd]
      exact decide_eq_true (log_of h)
  | .text x, h => okN_tup' (by simp) fun d hd => by
    rcases List.mem_cons.mp hd with rfl | hd
    · decide +kernel
    · rw [List.mem_singleton.mp hd]
      have := h.1
      exact okN_str' (by omega) (str_ok h.2)
theorem text_is {x : Str} {a b : Int} (h1 : a ≤ (x.length : Int)) (h2 : (x.length : Int) ≤ b) (h : x.cps.toList.all isChar = true) : isTextD a b (.str x) = true := by
  show (decide _ && decide _ && _) = true
  rw [decide_eq_true h1, decide_eq_true h2, h]
  rfl
theorem scal_bool (c : PyData) : scalOf (.str "bool") c = isBoolD c := by
  unfold scalOf
  rw [if_pos (by decide +kernel)]
theorem scal_int (c : PyData) : scalOf (.str "int") c = isIntegerD c := by
  unfold scalOf
  rw [if_neg (by decide +kernel), if_pos (by decide +kernel)]
theorem scal_text (c : PyData) : scalOf (.str "text") c = isTextD 0 40 c := by
  unfold scalOf
  rw [if_neg (by decide +kernel), if_neg (by decide +kernel), show PyData.eqv (.str "text") (.str "text") = true by decide +kernel, Bool.true_and]
theorem scal_pair {k c : PyData} (h : scalOf k c = true) : isScalarD (.tuple [k, c]) = true := by
  show (_ || scalOf k c) = true
  rw [h, Bool.or_true]
theorem good_scalar : ∀ {s : Sc}, s.good → isScalarD s.d = true
  | .none, _ => by decide +kernel
  | .bool b, _ => scal_pair ((scal_bool _).trans rfl)
  | .int i, h => scal_pair ((scal_int _).trans (by show (decide _ && decide _) = true; rw [decide_eq_true h.1, decide_eq_true h.2]; rfl))
  | .text x, h => scal_pair ((scal_text _).trans (text_is (by omega) (by have := h.1; omega) h.2))
def spScalar (K : PySem.W.Frag) : Sp := fun vs H Q _ => ∃ bx d, vs = [.ref bx] ∧ Box bx d H ∧ ∀ H' v (s : Sc), Aft bx d H H' → Dt K H' v s.d → s.good → Q v H'
theorem mul_small {a b : Int} (h1 : 0 ≤ a) (h2 : a < 1000) (h3 : 0 ≤ b) (h4 : b < 1000) : 0 ≤ a * b ∧ a * b ≤ 999999 := by
  constructor
  · exact Int.mul_nonneg h1 h3
  · have := Int.mul_le_mul (show a ≤ 999 by omega) (show b ≤ 999 by omega) h3 (by omega)
    omega
section
variable {P : Program} {w : World} {K : PySem.W.Frag} {mg : Str → Option Value} {base : Heap}
theorem c_law_scalar (D : DefAt K mg "_law_scalar" s_law_scalar ["box"]) (c__law_draw : Cal P w K mg base CX0 1 "_law_draw" ["box", "many"] spDraw) (c__law_string : Cal P w K mg base CX0 2 "_law_string" ["box", "most"] spString) :
    Cal P w K mg base CX0 3 "_law_scalar" ["box"] (spScalar K) := by
  refine D.cal (k := 2) sc_law_scalar (fun vs H Q E h => ?_) fun f cdv A outer s H vs Q E hr h => ?_
  · obtain ⟨bx, d, rfl, _⟩ := h
    rfl
  · obtain ⟨bx, d, rfl, hb, q⟩ := h
    refine ⟨_, (pss_cons (ps_set (i := 1) sc_law_scalar.nd rfl (Or.inl rfl) (pe_cal (c__law_draw.mono (by omega)) hr (by rfl) (pa_cons (pv 0) (pa_cons pe_int pa_nil))))
  (pss_cons (ps_if (pt_cmpR op_eq (pv 1) pe_int (nomark _)) (pss_one (ps_ret (pe_tup (pa_cons pe_str pa_nil)))) pss_nil)
  (pss_cons (ps_if (pt_cmpR op_eq (pv 1) pe_int (nomark _)) (pss_one (ps_ret (pe_tup (pa_cons pe_str (pa_cons (pe_cmpR op_eq (pe_cal (c__law_draw.mono (by omega)) hr (by rfl) (pa_cons (pv 0) (pa_cons pe_int pa_nil))) pe_int (nomark _)) pa_nil))))) pss_nil)
  (pss_cons (ps_if (pt_cmpR op_lt (pv 1) pe_int (nomark _)) (pss_one (ps_ret (pe_tup (pa_cons pe_str (pa_cons (pe_ix ix_list (pe_lst (pa_cons (pe_cal (c__law_draw.mono (by omega)) hr (by rfl) (pa_cons (pv 0) (pa_cons pe_int pa_nil))) (pa_cons (pe_op op_mul (pe_cal (c__law_draw.mono (by omega)) hr (by rfl) (pa_cons (pv 0) (pa_cons pe_int pa_nil))) (pe_cal (c__law_draw.mono (by omega)) hr (by rfl) (pa_cons (pv 0) (pa_cons pe_int pa_nil)))) (pa_cons (pe_op op_sub pe_int (pe_cal (c__law_draw.mono (by omega)) hr (by rfl) (pa_cons (pv 0) (pa_cons pe_int pa_nil)))) pa_nil)))) (pe_cal (c__law_draw.mono (by omega)) hr (by rfl) (pa_cons (pv 0) (pa_cons pe_int pa_nil))) (fun _ _ => rfl)) pa_nil))))) pss_nil)
  (pss_one (ps_ret (pe_tup (pa_cons pe_str (pa_cons (pe_cal (c__law_string.mono (by omega)) hr (by rfl) (pa_cons (pv 0) (pa_cons pe_int pa_nil))) pa_nil))))))))), ?_⟩
    have sz : ∀ n : Nat, n ≤ 8 → n ≤ sizeLine := fun n h => Nat.le_trans h (by decide)
    have fin : ∀ (H' : Hp) (vs : List V) (s : Sc) (ds : List PyData), s.d = .tuple ds → Aft bx d H H' → DtAll K H' vs ds → s.good → ∀ p, H' p = none → Q (.ref p) (upd H' p (.tup vs)) := fun H' vs s ds e a h g p hp => by
      have a2 := a.trans (Aft.new (o := .tup vs) a.2 hp)
      refine q _ _ s a2 ?_ g
      rw [e]
      exact .tup (SqT.of upd_same) (DtAll.kb (Kb.new (S := []) hp) Lsts.nil h)
    refine ⟨.ref bx, rfl, bx, d, 6, rfl, by decide, hb, fun H1 r1 a1 g1 l1 => ?_⟩
    refine ⟨_, rfl, rfl, _, rfl, ?_⟩
    refine iteC ⟨sz _ (by simp), fin _ _ .none _ rfl a1 (.cons (.str _) .nil) trivial⟩ ?_
    refine ⟨_, rfl, rfl, _, rfl, ?_⟩
    refine iteC ⟨.ref bx, rfl, bx, d, 2, rfl, by decide, a1.2, fun H2 r2 a2 g2 l2 => ⟨rfl, sz _ (by simp), fin _ _ (.bool _) _ rfl (a1.trans a2) (.cons (.str _) (.cons (.bl _) .nil)) trivial⟩⟩ ?_
    refine ⟨_, rfl, _, _, rfl, rfl, _, rfl, ?_⟩
    refine iteC ?_ ⟨.ref bx, rfl, bx, d, rfl, a1.2, fun H2 x a2 h1 h2 => ⟨sz _ (by simp), fin _ _ (.text x) _ rfl (a1.trans a2) (.cons (.str _) (.cons (.str _) .nil)) ⟨h1, h2⟩⟩⟩
    refine ⟨.ref bx, rfl, bx, d, 10, rfl, by decide, a1.2, fun H2 r2 a2 g2 l2 => ?_⟩
    refine ⟨.ref bx, rfl, bx, d, 1000, rfl, by decide, a2.2, fun H3 r3 a3 g3 l3 => ?_⟩
    refine ⟨.ref bx, rfl, bx, d, 1000, rfl, by decide, a3.2, fun H4 r4 a4 g4 l4 => ⟨r3, r4, rfl, rfl, .inl ⟨by omega, by omega⟩, ?_⟩⟩
    refine ⟨.ref bx, rfl, bx, d, 2, rfl, by decide, a4.2, fun H5 r5 a5 g5 l5 => ⟨_, r5, rfl, rfl, sz _ (by simp), fun L hL => ?_⟩⟩
    have aL := Aft.new (o := .lst [.int r2, .int (r3 * r4), .int (999999 - r5)]) a5.2 hL
    refine ⟨.ref bx, rfl, bx, d, 3, rfl, by decide, aL.2, fun H6 r6 a6 g6 l6 => ?_⟩
    have eL := a6.lst upd_same (a5.2.new hL).1
    have all := ((((a1.trans a2).trans a3).trans a4).trans a5).trans (aL.trans a6)
    have m := mul_small g3 l3 g4 l4
    obtain ⟨i, e, h⟩ : ∃ i, atI [V.int r2, .int (r3 * r4), .int (999999 - r5)] r6 = some (.int i) ∧ (0 ≤ i ∧ i ≤ 999999) := by
      obtain h | h | h : r6 = 0 ∨ r6 = 1 ∨ r6 = 2 := by omega
      · subst h
        exact ⟨_, atI_nat (j := 0) rfl, by omega, by omega⟩
      · subst h
        exact ⟨_, atI_nat (j := 1) rfl, m⟩
      · subst h
        exact ⟨_, atI_nat (j := 2) rfl, by omega, by omega⟩
    exact ⟨L, _, r6, _, rfl, rfl, .inl (.inl eL), e, sz _ (by simp), fin _ _ (.int i) _ rfl all (.cons (.str _) (.cons (.int _) .nil)) h⟩
theorem eqStr {x y : Str} : eqV (.str x) (.str y) = true → x = y := fun h => eq_of_beq h
end
/-! ### maps -/
def ent (p : Str × Sc) : PyData := .tuple [.str p.1, p.2.d]
def keyOk (x : Str) : Prop := isKeyD (.str x) = true ∧ okN 1 (.str x) = true
structure Ents (ps : List (Str × Sc)) : Prop where
  len : ps.length ≤ 8
  nd : (ps.map (·.1)).Nodup
  ok : ∀ p ∈ ps, keyOk p.1 ∧ p.2.good
def mapD (ps : List (Str × Sc)) : PyData := .tuple [.str "map", .tuple (ps.map ent)]
theorem Ents.entries {ps : List (Str × Sc)} (h : Ents ps) : areEntriesD (.tuple (ps.map ent)) = true := by
  have e1 : (ps.map ent).length ≤ 8 := by rw [List.length_map]; exact h.len
  have e2 : (ps.map ent).all isEntryD = true := by
    rw [List.all_eq_true]
    intro d hd
    obtain ⟨p, hp, rfl⟩ := List.mem_map.mp hd
    obtain ⟨h1, h2⟩ := h.ok p hp
    show (isKeyD _ && isScalarD _) = true
    rw [h1.1, good_scalar h2]
    rfl
  have e3 : ((ps.map ent).map keyOfD).Nodup := by
    have e : (ps.map ent).map keyOfD = (ps.map (·.1)).map Sum.inr := by
      rw [List.map_map, List.map_map]
      rfl
    rw [e]
    exact List.Pairwise.map _ (fun a b n z => n (Sum.inr.inj z)) h.nd
  show (decide _ && (_ && decide _)) = true
  rw [decide_eq_true e1, e2, decide_eq_true e3]
  rfl
theorem Ents.okN {ps : List (Str × Sc)} (h : Ents ps) : okN 4 (mapD ps) = true := by
  refine okN_tup' (by simp) fun d hd => ?_
  rcases List.mem_cons.mp hd with rfl | hd
  · decide +kernel
  · rw [List.mem_singleton.mp hd]
    refine okN_tup' (by rw [List.length_map]; have := h.len; omega) fun d hd => ?_
    obtain ⟨p, hp, rfl⟩ := List.mem_map.mp hd
    obtain ⟨h1, h2⟩ := h.ok p hp
    refine okN_tup' (by simp) fun d hd => ?_
    rcases List.mem_cons.mp hd with rfl | hd
    · exact h1.2
    · rw [List.mem_singleton.mp hd]
      exact good_okN h2
def spMap (K : PySem.W.Frag) : Sp := fun vs H Q _ => ∃ bx d, vs = [.ref bx] ∧ Box bx d H ∧ ∀ H' v ps, Aft bx d H H' → Dt K H' v (mapD ps) → Ents ps → Q v H'
theorem keyK : ∀ k : Nat, k < 8 → keyOk ((Str.ofString "k") ++ (Str.ofString (toString (0 + (k : Int))))) ∧ (Str.ofString "k").length + (Str.ofString (toString (0 + (k : Int)))).length ≤ sizeLine
  | 0, _ => ⟨⟨by decide +kernel, by decide +kernel⟩, by decide +kernel⟩
  | 1, _ => ⟨⟨by decide +kernel, by decide +kernel⟩, by decide +kernel⟩
  | 2, _ => ⟨⟨by decide +kernel, by decide +kernel⟩, by decide +kernel⟩
  | 3, _ => ⟨⟨by decide +kernel, by decide +kernel⟩, by decide +kernel⟩
  | 4, _ => ⟨⟨by decide +kernel, by decide +kernel⟩, by decide +kernel⟩
  | 5, _ => ⟨⟨by decide +kernel, by decide +kernel⟩, by decide +kernel⟩
  | 6, _ => ⟨⟨by decide +kernel, by decide +kernel⟩, by decide +kernel⟩
  | 7, _ => ⟨⟨by decide +kernel, by decide +kernel⟩, by decide +kernel⟩
  | n + 8, h => by omega
theorem eight {x : Str} (hx : keyOk x) {r : Int} (h0 : 0 ≤ r) (h8 : r < 8) : ∃ y, keyOk y ∧ atI [V.str (Str.ofString "a"), .str (Str.ofString "b"), .str (Str.ofString "c"), .str (Str.ofString "tea"), .str (Str.ofString "x y"), .str x, .str (Str.ofString "\"q\\"), .str (Str.ofString "abcdefghijkl")] r = some (.str y) := by
  obtain h | h | h | h | h | h | h | h : r = 0 ∨ r = 1 ∨ r = 2 ∨ r = 3 ∨ r = 4 ∨ r = 5 ∨ r = 6 ∨ r = 7 := by omega
  · subst h
    exact ⟨_, ⟨by decide +kernel, by decide +kernel⟩, atI_nat (j := 0) rfl⟩
  · subst h
    exact ⟨_, ⟨by decide +kernel, by decide +kernel⟩, atI_nat (j := 1) rfl⟩
  · subst h
    exact ⟨_, ⟨by decide +kernel, by decide +kernel⟩, atI_nat (j := 2) rfl⟩
  · subst h
    exact ⟨_, ⟨by decide +kernel, by decide +kernel⟩, atI_nat (j := 3) rfl⟩
  · subst h
    exact ⟨_, ⟨by decide +kernel, by decide +kernel⟩, atI_nat (j := 4) rfl⟩
  · subst h
    exact ⟨_, hx, atI_nat (j := 5) rfl⟩
  · subst h
    exact ⟨_, ⟨by decide +kernel, by decide +kernel⟩, atI_nat (j := 6) rfl⟩
  · subst h
    exact ⟨_, ⟨by decide +kernel, by decide +kernel⟩, atI_nat (j := 7) rfl⟩
/-- the entries so far -/
def Mp (K : PySem.W.Frag) (bx d D : Addr) (H0 : Hp) (n : Nat) (H : Hp) : Prop := ∃ (ps : List (Str × Sc)) (evs : List V), ps.length ≤ n ∧ (ps.map (·.1)).Nodup ∧ (∀ p ∈ ps, keyOk p.1 ∧ p.2.good) ∧ DtAll K H evs (ps.map ent) ∧ H D = some (.lst evs) ∧ Aft bx d H0 H
theorem Mp.mono {K : PySem.W.Frag} {bx d D : Addr} {H0 H : Hp} {n m : Nat} (h : Mp K bx d D H0 n H) (l : n ≤ m) : Mp K bx d D H0 m H := let ⟨ps, evs, a, r⟩ := h; ⟨ps, evs, Nat.le_trans a l, r⟩
theorem DtAll.snoc {K : PySem.W.Frag} {H : Hp} {v : V} {d : PyData} : ∀ {vs : List V} {ds : List PyData}, DtAll K H vs ds → Dt K H v d → DtAll K H (vs ++ [v]) (ds ++ [d])
  | _, _, .nil, h => .cons h .nil
  | _, _, .cons h hs, h2 => .cons h (DtAll.snoc hs h2)
theorem all_flat (l : List Str) : (l.map V.str).all flatV = true := by
  rw [List.all_eq_true]
  intro v hv
  obtain ⟨x, _, rfl⟩ := List.mem_map.mp hv
  rfl
theorem not_inV {x : Str} {l : List Str} (h : inV (.str x) (l.map V.str) = false) : x ∉ l := fun hm => by
  unfold inV at h
  rw [List.any_eq_false] at h
  exact h _ (List.mem_map_of_mem (f := V.str) hm) (beq_self_eq_true x)
section
variable {P : Program} {w : World} {K : PySem.W.Frag} {mg : Str → Option Value} {base : Heap}
theorem c_law_map (D : DefAt K mg "_law_map" s_law_map ["box"]) (m_range : mg "range" = none) (m_int : mg "int" = none) (m_str : mg "str" = none) (m_tuple : mg "tuple" = none) (c__law_draw : Cal P w K mg base CX0 1 "_law_draw" ["box", "many"] spDraw)
    (c__law_scalar : Cal P w K mg base CX0 3 "_law_scalar" ["box"] (spScalar K)) : Cal P w K mg base CX0 4 "_law_map" ["box"] (spMap K) := by
  refine D.cal (k := 3) sc_law_map (fun vs H Q E h => ?_) fun f cdv A outer s H vs Q E hr h => ?_
  · obtain ⟨bx, d, rfl, _⟩ := h
    rfl
  · obtain ⟨bx, d, rfl, hb, q⟩ := h
    refine ⟨_, (pss_cons (ps_set (i := 1) sc_law_map.nd rfl (Or.inl rfl) (pe_lst pa_nil))
  (pss_cons (ps_for PassesOwn.never rfl (pi_range1 (by rfl) m_range (pa_cons (pe_op op_add (pe_cal (c__law_draw.mono (by omega)) hr (by rfl) (pa_cons (pv 0) (pa_cons pe_int pa_nil))) (pe_op op_mul pe_int (pe_callTy call_int1 (by rfl) m_int (by decide +kernel) (pa_cons (pe_cmpR op_eq (pe_cal (c__law_draw.mono (by omega)) hr (by rfl) (pa_cons (pv 0) (pa_cons pe_int pa_nil))) pe_int (nomark _)) pa_nil)))) pa_nil)) (pg_name (i := 2) sc_law_map.nd rfl (Or.inl rfl)) (pss_cons (ps_set (i := 3) sc_law_map.nd rfl (Or.inl rfl) (pe_ix ix_list (pe_lst (pa_cons pe_str (pa_cons pe_str (pa_cons pe_str (pa_cons pe_str (pa_cons pe_str (pa_cons (pe_op op_add_str pe_str (pe_callTy call_str_int (by rfl) m_str (by decide +kernel) (pa_cons (pv 2) pa_nil))) (pa_cons pe_str (pa_cons pe_str pa_nil))))))))) (pe_cal (c__law_draw.mono (by omega)) hr (by rfl) (pa_cons (pv 0) (pa_cons pe_int pa_nil))) (fun _ _ => rfl)))
  (pss_one (ps_if (pt_cmpR op_notIn_seq (pv 3) (pe_lc rfl sc_law_map.nd (pi_list (pv 1)) (blkOk_by (own := [("entry", 4)]) (N := ["box", "entries", "k", "key", "entry"]) (sc := defScope s_law_map) (by decide +kernel)) (fun _ _ _ _ _ => (pg_name (i := 4) sc_law_map.nd rfl (Or.inl rfl))) (fun _ _ _ _ _ => pts_nil) (fun _ _ _ _ _ => (pe_ix (ix_tupK (K := K) rfl) (pv 4) pe_int (fun _ _ => rfl)))) (by rfl)) (pss_one (ps_expr (pe_bm PySem.F.plainAttrs_list PySem.F.slot_list_append PySem.F.type_list_append mt_append (pv 1) (pa_cons (pe_tup (pa_cons (pv 3) (pa_cons (pe_cal (c__law_scalar.mono (by omega)) hr (by rfl) (pa_cons (pv 0) pa_nil)) pa_nil))) pa_nil)))) pss_nil))))
  (pss_one (ps_ret (pe_tup (pa_cons pe_str (pa_cons (pe_callTy call_tuple_of (by rfl) m_tuple (by decide +kernel) (pa_cons (pv 1) pa_nil)) pa_nil))))))), ?_⟩
    refine ⟨Nat.zero_le _, fun D hD => ?_⟩
    have a0 := Aft.new (o := .lst []) hb hD
    refine ⟨.ref bx, rfl, bx, d, 5, rfl, by decide, a0.2, fun H1 r1 a1 g1 l1 => ?_⟩
    refine ⟨.ref bx, rfl, bx, d, 6, rfl, by decide, a1.2, fun H2 r2 a2 g2 l2 => ⟨rfl, .inr ⟨_, rfl, 4, _, rfl, rfl, .inl (by decide), r1, _, rfl, rfl, ?_⟩⟩⟩
    have nb : ∀ b : Bool, 0 ≤ r1 + 4 * (if b = true then (1 : Int) else 0) ∧ r1 + 4 * (if b = true then (1 : Int) else 0) ≤ 8 := by
      intro b
      cases b <;> simp <;> omega
    obtain ⟨N, hN, n0, n8⟩ : ∃ N : Int, r1 + 4 * (if decide (V.int r2 = V.int 0) = true then (1 : Int) else 0) = N ∧ 0 ≤ N ∧ N ≤ 8 := ⟨_, rfl, nb _⟩
    have a12 := (a0.trans a1).trans a2
    have eD := a2.lst (a1.lst upd_same (hb.new hD).1) (hb.new hD).1
    have hDb := (hb.new hD).1
    refine ⟨N, congrArg (fun z => [V.int z]) hN, by omega, by omega, ?_⟩
    refine ⟨fun i m σ H' => m = N.toNat - i ∧ i ≤ N.toNat ∧ (∃ o2 o3 o4, σ = [some (.ref bx), some (.ref D), o2, o3, o4]) ∧ Mp K bx d D H i H', ⟨_, rfl, Nat.zero_le _, ⟨none, none, none, rfl⟩, [], [], Nat.le_refl _, .nil, (fun _ h => by cases h), .nil, eD, a12⟩, ?_⟩
    rintro i m σ H3 ⟨rfl, hi, ⟨o2, o3, o4, rfl⟩, g⟩
    by_cases hl : i < N.toNat
    · refine .inr ⟨hl, fun σ' H' => (∃ o2 o3 o4, σ' = [some (.ref bx), some (.ref D), o2, o3, o4]) ∧ Mp K bx d D H (i + 1) H', fun σ' H' ⟨e1, e2⟩ => ⟨_, by omega, rfl, hl, e1, e2⟩, ?_⟩
      rintro x H4 ⟨rfl, rfl⟩
      obtain ⟨ps, evs, p1, p2, p3, p4, p5, p6⟩ := g
      have hk := keyK i (by omega)
      refine ⟨_, rfl, _, rfl, log_of ⟨by omega, by omega⟩, _, _, rfl, rfl, hk.2, by show 8 ≤ sizeLine; decide, fun L hL => ?_⟩
      have aL := Aft.new (o := .lst [V.str (Str.ofString "a"), .str (Str.ofString "b"), .str (Str.ofString "c"), .str (Str.ofString "tea"), .str (Str.ofString "x y"), .str ((Str.ofString "k") ++ (Str.ofString (toString (0 + (i : Int))))), .str (Str.ofString "\"q\\"), .str (Str.ofString "abcdefghijkl")]) p6.2 hL
      refine ⟨.ref bx, rfl, bx, d, 8, rfl, by decide, aL.2, fun H5 r5 a5 g5 l5 => ?_⟩
      have eL := a5.lst upd_same (p6.2.new hL).1
      obtain ⟨x, hx, ex⟩ := eight hk.1 g5 l5
      refine ⟨L, _, r5, _, rfl, rfl, .inl (.inl eL), ex, ?_⟩
      have a45 := aL.trans a5
      have e5 := a45.lst p5 hDb
      have d5 := DtAll.kb a45.1 p6.2.lsts p4
      have a5' := p6.trans a45
      refine ⟨.str x, rfl, .ref D, rfl, D, rfl, ⟨evs, .inl (.inl e5)⟩, fun L2 hL2 => ?_⟩
      have hlen := d5.length
      rw [List.length_map] at hlen
      refine ⟨fun j m H' => m = ps.length - j ∧ j ≤ ps.length ∧ Kp H5 H' ∧ H' L2 = some (.lst (((ps.take j).map (·.1)).map V.str)), ⟨_, rfl, Nat.zero_le _, Kb.new hL2, upd_same⟩, ?_⟩
      rintro j m H6 ⟨rfl, hj, k6, e6⟩
      have e6D := k6.keep D _ e5 (by simp) nt_lst
      by_cases hl2 : j < ps.length
      · have hj2 : j < evs.length := by omega
        have hv : evs[j]? = some evs[j] := List.getElem?_eq_getElem hj2
        have hp : ps[j]? = some ps[j] := List.getElem?_eq_getElem hl2
        refine .inr ⟨⟨evs, _, .inl (.inl e6D), hv⟩, fun H' => Kp H5 H' ∧ H' L2 = some (.lst (((ps.take (j + 1)).map (·.1)).map V.str)), fun H' ⟨z1, z2⟩ => ⟨_, by omega, rfl, hl2, z1, z2⟩, fun y H7 hy => ?_⟩
        obtain ⟨rfl, hy⟩ := hy
        have ey : evs[j] = y := Option.some.inj (hv.symm.trans (hy evs (.inl (.inl e6D))))
        obtain ⟨dd, hdd, hvd⟩ := (DtAll.kb k6 Lsts.nil d5).get hv
        rw [List.getElem?_map, hp] at hdd
        have edd : ent ps[j] = dd := Option.some.inj hdd
        subst edd
        rw [ey] at hvd
        refine ⟨rfl, iteT (B := Kp H5 H7 ∧ H7 L2 = some (.lst (((ps.take (j + 1)).map (·.1)).map V.str))) ⟨y, rfl, ?_⟩⟩
        cases hvd with
        | @tup b ys _ hb hys =>
          cases hys with
          | cons hx hys =>
            cases hx
            refine ⟨b, _, 0, _, rfl, rfl, hb, atI_nat (j := 0) rfl, _, e6, ?_, k6.mut hL2 (no_tab e6 nt_lst), ?_⟩
            · rw [List.length_map, List.length_map, List.length_take]
              have : sizeLine = 16777216 := rfl
              omega
            · rw [upd_same, List.take_add_one, hp, List.map_append, List.map_append]
              rfl
      · have ej : j = ps.length := by omega
        subst ej
        refine .inl ⟨⟨evs, .inl (.inl e6D), by omega⟩, ?_⟩
        rw [List.take_length] at e6
        refine ⟨L2, _, rfl, .inl (.inl (.inl e6)), rfl, all_flat _, _, rfl, ?_⟩
        have a6 := a5'.trans (Aft.of a5'.2 k6)
        have d6 := DtAll.kb k6 Lsts.nil d5
        cases ein : inV (.str x) ((ps.map (·.1)).map V.str) with
        | true => exact iteF ⟨⟨_, _, _, rfl⟩, ps, evs, by omega, p2, p3, d6, e6D, a6⟩
        | false =>
          have hni := not_inV ein
          refine iteT ⟨.ref D, rfl, .inl ⟨rfl, _, .inl (.inl e6D)⟩, .str x, rfl, .ref bx, rfl, bx, d, rfl, a6.2, fun H7 v s a7 hv gs => ⟨by show 2 ≤ sizeLine; decide, fun p hp => ?_⟩⟩
          have e7 := a7.lst e6D hDb
          have e8 : (upd H7 p (.tup [.str x, v])) D = some (.lst evs) := by rw [upd_ne (ne_of_none e7 hp)]; exact e7
          have d7 := DtAll.kb (Kb.new (S := []) (o := .tup [.str x, v]) hp) Lsts.nil (DtAll.kb a7.1 a6.2.lsts d6)
          have kp : Kp H7 (upd H7 p (.tup [.str x, v])) := Kb.new hp
          have dn : Dt K (upd H7 p (.tup [.str x, v])) (.ref p) (ent (x, s)) := .tup (SqT.of upd_same) (.cons (.str _) (.cons (hv.kb kp Lsts.nil) .nil))
          have a8 := (a6.trans a7).trans (Aft.new (o := .tup [.str x, v]) a7.2 hp)
          have hlz : evs.length < sizeLine := by
            have : sizeLine = 16777216 := rfl
            omega
          refine ⟨D, evs, .ref p, rfl, rfl, e8, hlz, ⟨_, _, _, rfl⟩, ps ++ [(x, s)], evs ++ [.ref p], by simp; omega, ?_, ?_, ?_, upd_same, ?_⟩
          · rw [List.map_append, List.nodup_append]
            refine ⟨p2, by simp, fun a ha b hb => ?_⟩
            rw [List.mem_singleton.mp hb]
            intro z
            have z : a = x := z
            subst z
            exact hni ha
          · intro p' hp'
            rcases List.mem_append.mp hp' with h | h
            · exact p3 _ h
            · rw [List.mem_singleton.mp h]
              exact ⟨hx, gs⟩
          · rw [List.map_append]
            exact DtAll.kb (Kb.put (S := [D]) (o := .lst (evs ++ [.ref p])) (by simp) e8 nt_lst) (fun b hb => by rw [List.mem_singleton.mp hb]; exact ⟨_, e8⟩) (DtAll.snoc d7 dn)
          · exact a8.mut hD hb e8 nt_lst
    · obtain ⟨ps, evs, p1, p2, p3, p4, p5, p6⟩ := g
      refine .inl ⟨by show N.toNat ≤ i; omega, ?_⟩
      refine ⟨_, rfl, D, evs, rfl, .inl ⟨.inl (.inl p5), fun l hl => ⟨by show 2 ≤ sizeLine; decide, fun p hp => ?_⟩⟩⟩
      have k1 : Kp H3 (upd H3 l (.tup evs)) := Kb.new hl
      have k2 : Kp (upd H3 l (.tup evs)) (upd (upd H3 l (.tup evs)) p (.tup [.str (Str.ofString "map"), .ref l])) := Kb.new hp
      have d1 : Dt K (upd H3 l (.tup evs)) (.ref l) (.tuple (ps.map ent)) := .tup (SqT.of upd_same) (DtAll.kb k1 Lsts.nil p4)
      exact q _ _ ps ((p6.trans (Aft.of p6.2 k1)).trans (Aft.of (p6.2.kp k1) k2)) (.tup (SqT.of upd_same) (.cons (.str _) (.cons (d1.kb k2 Lsts.nil) .nil))) ⟨by omega, p2, p3⟩
end
end Rv

namespace Gd
open PySem PySem.Spec PyProof.Rows L2 GxR Gx
def rMulS : R2 := fun x y H Q => ∃ a n, x = .str a ∧ y = .int n ∧ MulOk a n ∧ Q (.str (Txt.mul a n)) H
theorem op_mul_str {X : Cx} : OpR X (binaryOp .Mult) rMulS := by
  intro pins s σ H x y v u Q I rx ry h
  obtain ⟨a, n, rfl, rfl, hok, q⟩ := h
  obtain ⟨t, rfl⟩ := rx
  obtain ⟨t', rfl⟩ := ry
  exact SB.mul hok fun t2 k => ⟨.str _, H, I.tok _, ⟨_, rfl⟩, q⟩
/-! ### displays of data -/
theorem o_asg {te : TE} {i : Nat} {u : TS} {D : Ends} {σ : L2.St} {H : Hp} (h : te σ H fun x H1 => u D (σ.set i (some x)) H1) : tSeq (tAsg te (gName i)) u D σ H := h
def MkD (K : PySem.W.Frag) (te : TE) (σ : L2.St) (d : PyData) : Prop := ∀ (H : Hp) (Q : VK), (∀ v H', Kp H H' → Dt K H' v d → Q v H') → te σ H Q
def MkDs (K : PySem.W.Frag) (ta : TA) (σ : L2.St) (ds : List PyData) : Prop := ∀ (H : Hp) (Q : List V → Hp → Prop), (∀ vs H', Kp H H' → DtAll K H' vs ds → Q vs H') → ta σ H Q
section
variable {K : PySem.W.Frag} {σ : L2.St} {te : TE} {ta : TA} {d : PyData} {ds : List PyData}
theorem mk_non : MkD K (tC .non) σ .none := fun H Q q => q _ H (Kb.refl H) .non
theorem mk_str {x : Str} : MkD K (tC (.str x)) σ (.str x) := fun H Q q => q _ H (Kb.refl H) (.str x)
theorem mk_int {i : Int} : MkD K (tC (.int i)) σ (.int i) := fun H Q q => q _ H (Kb.refl H) (.int i)
theorem mk_bl {b : Bool} : MkD K (tC (.bl b)) σ (.bool b) := fun H Q q => q _ H (Kb.refl H) (.bl b)
theorem mk_neg {i : Int} : MkD K (tUn (rU fun i => .int (-i)) (tC (.int i))) σ (.int (-i)) := fun H Q q => ⟨i, rfl, q _ H (Kb.refl H) (.int (-i))⟩
theorem mk_mul {x : Str} {n : Int} (h : MulOk x n) : MkD K (tOp rMulS (tC (.str x)) (tC (.int n))) σ (.str (Txt.mul x n)) := fun H Q q => ⟨x, n, rfl, rfl, h, q _ H (Kb.refl H) (.str _)⟩
theorem mk_nil : MkDs K tNil σ [] := fun H Q q => q _ H (Kb.refl H) .nil
theorem mk_cons (h : MkD K te σ d) (hs : MkDs K ta σ ds) : MkDs K (tCons te ta) σ (d :: ds) := fun H Q q => h H _ fun v H1 k1 hd => hs H1 _ fun vs H2 k2 hds => q _ H2 (k1.trans k2) (.cons (hd.kb k2 Lsts.nil) hds)
theorem mk_tup (hs : MkDs K ta σ ds) (hl : ds.length ≤ 64) : MkD K (tTup ta) σ (.tuple ds) := fun H Q q => hs H _ fun vs H1 k1 hds => ⟨by rw [hds.length]; exact Nat.le_trans hl (by decide), fun p hp => by
  have k2 : Kp H1 (upd H1 p (.tup vs)) := Kb.new hp
  exact q _ _ (k1.trans k2) (.tup (SqT.of upd_same) (DtAll.kb k2 Lsts.nil hds))⟩
theorem mk_lst {H : Hp} {Q : VK} (hs : MkDs K ta σ ds) (hl : ds.length ≤ 64) (q : ∀ vs p H', Kp H H' → H p = none → H' p = some (.lst vs) → DtAll K H' vs ds → Q (.ref p) H') : tLst ta σ H Q := hs H _ fun vs H1 k1 hds => ⟨by rw [hds.length]; exact Nat.le_trans hl (by decide), fun p hp => by
  have k2 : Kp H1 (upd H1 p (.lst vs)) := Kb.new hp
  exact q _ _ _ (k1.trans k2) (k1.free p hp) upd_same (DtAll.kb k2 Lsts.nil hds)⟩
theorem DtAll.app {H : Hp} : ∀ {vs ws : List V} {ds es : List PyData}, DtAll K H vs ds → DtAll K H ws es → DtAll K H (vs ++ ws) (ds ++ es)
  | _, _, _, _, .nil, h => h
  | _, _, _, _, .cons h hs, h2 => .cons h (DtAll.app hs h2)
end
end Gd
namespace Rv
open PySem PySem.Spec PyProof.Rows L2 GxR Gx Gd
abbrev s_law_plain : Stmt := topS 56
theorem sc_law_plain : FnScope ["scalar"] ["scalar"] (defScope s_law_plain) := ⟨rfl, rfl, rfl, by decide +kernel, rfl, by decide +kernel, by decide +kernel⟩
abbrev s_law_same : Stmt := topS 45
theorem sc_law_same : FnScope ["actual", "due"] ["actual", "due"] (defScope s_law_same) := ⟨rfl, rfl, rfl, by decide +kernel, rfl, by decide +kernel, by decide +kernel⟩
/-! ### wrong rows -/
def none1 : PyData := .tuple [.str "none"]
def map1 (es : List PyData) : PyData := .tuple [.str "map", .tuple es]
def nineD : List PyData := (List.range 9).map fun k : Nat => .tuple [.str (Str.ofString "k" ++ Str.ofString (toString (0 + (k : Int)))), none1]
def wrong1 : List PyData := [.tuple [.str "int", .int (-1)], .tuple [.str "int", .int 1000000], .tuple [.str "int", .bool true], .tuple [.str "bool", .int 1], .tuple [.str "text", .str (Txt.mul "a" 41)], .tuple [.str "text", .str "a\n"], .tuple [.str "text", .int 5], .tuple [.str "none", .int 0], .tuple [.str "nil"]]
def wrong2 : List PyData := [map1 [.tuple [.str "a", .tuple [.str "int", .int 1]], .tuple [.str "a", .tuple [.str "int", .int 2]]], map1 [.tuple [.str "", none1]], map1 [.tuple [.str "abcdefghijklm", none1]]]
def wrong3 : List PyData := [map1 nineD, map1 [.tuple [.str "a", map1 []]], map1 [.tuple [.str "a"]]]
def wrong4 : List PyData := [.tuple [.str "map", .tuple [.str "a", none1]], .tuple [], .tuple [.str "int"], .int 7, .str "text", .none, .tuple [.str "map"], .tuple [.str "text", .str "\t"]]
def wrongs : List PyData := ((wrong1 ++ wrong2) ++ wrong3) ++ wrong4
theorem wrongs_ok : wrongs.all (fun d => okN 8 d && (!isValueD d && !isScalarD d)) = true := by decide +kernel

/-- a value drawn -/
def GV (dt : PyData) : Prop := (∃ s : Sc, s.good ∧ dt = s.d) ∨ ∃ ps, Ents ps ∧ dt = mapD ps
theorem GV.okd {dt : PyData} (h : GV dt) : OkD dt := by
  rcases h with ⟨s, g, rfl⟩ | ⟨ps, g, rfl⟩
  · exact ⟨1, by decide, good_okN g⟩
  · exact ⟨4, by decide, g.okN⟩
theorem GV.value {dt : PyData} (h : GV dt) : isValueD dt = true := by
  rcases h with ⟨s, g, rfl⟩ | ⟨ps, g, rfl⟩
  · show (_ || _) = true
    rw [good_scalar g, Bool.true_or]
  · show (_ || (PyData.eqv (.str "map") (.str "map") && _)) = true
    rw [g.entries, show PyData.eqv (.str "map") (.str "map") = true by decide +kernel]
    simp
theorem map_noScalar {ps : List (Str × Sc)} : isScalarD (mapD ps) = false := by
  show (PyData.eqv (.tuple [.str "map", .tuple (ps.map ent)]) (.tuple [.str "none"]) || scalOf (.str "map") _) = false
  unfold scalOf
  rw [if_neg (by decide +kernel), if_neg (by decide +kernel)]
  simp only [PyData.eqv, PyData.eqvAll, Bool.and_false, Bool.false_or]
  rw [show ((Str.ofString "map") == (Str.ofString "text")) = false by decide +kernel, Bool.false_and]
def spValue (K : PySem.W.Frag) : Sp := fun vs H Q _ => ∃ bx d, vs = [.ref bx] ∧ Box bx d H ∧ ∀ H' v dt, Aft bx d H H' → Dt K H' v dt → GV dt → Q v H'
def spWrong (K : PySem.W.Frag) : Sp := fun vs H Q _ => ∃ bx d, vs = [.ref bx] ∧ Box bx d H ∧ ∀ H' v dt, Aft bx d H H' → Dt K H' v dt → OkD dt → isValueD dt = false → isScalarD dt = false → Q v H'
section
variable {P : Program} {w : World} {K : PySem.W.Frag} {mg : Str → Option Value} {base : Heap}
theorem c_law_value (D : DefAt K mg "_law_value" s_law_value ["box"]) (c__law_draw : Cal P w K mg base CX0 1 "_law_draw" ["box", "many"] spDraw) (c__law_scalar : Cal P w K mg base CX0 3 "_law_scalar" ["box"] (spScalar K)) (c__law_map : Cal P w K mg base CX0 4 "_law_map" ["box"] (spMap K)) :
    Cal P w K mg base CX0 5 "_law_value" ["box"] (spValue K) := by
  refine D.cal (k := 4) sc_law_value (fun vs H Q E h => ?_) fun f cdv A outer s H vs Q E hr h => ?_
  · obtain ⟨bx, d, rfl, _⟩ := h
    rfl
  · obtain ⟨bx, d, rfl, hb, q⟩ := h
    refine ⟨_, (pss_cons (ps_if (pt_cmpR op_eq (pe_cal (c__law_draw.mono (by omega)) hr (by rfl) (pa_cons (pv 0) (pa_cons pe_int pa_nil))) pe_int (nomark _)) (pss_one (ps_ret (pe_cal (c__law_map.mono (by omega)) hr (by rfl) (pa_cons (pv 0) pa_nil)))) pss_nil)
  (pss_one (ps_ret (pe_cal (c__law_scalar.mono (by omega)) hr (by rfl) (pa_cons (pv 0) pa_nil))))), ?_⟩
    refine ⟨.ref bx, rfl, bx, d, 3, rfl, by decide, hb, fun H1 r1 a1 g1 l1 => ⟨rfl, _, rfl, ?_⟩⟩
    refine iteC ?_ ?_
    · exact ⟨.ref bx, rfl, bx, d, rfl, a1.2, fun H2 v ps a2 hv g => q H2 v _ (a1.trans a2) hv (.inr ⟨ps, g, rfl⟩)⟩
    · exact ⟨.ref bx, rfl, bx, d, rfl, a1.2, fun H2 v s a2 hv g => q H2 v _ (a1.trans a2) hv (.inl ⟨s, g, rfl⟩)⟩
/-- the tuple of nine entries -/
theorem mk_nine {σ : L2.St} (hσ : 2 < σ.length) : MkD K (tCB (fun xs H Q => ∃ p ys, xs = [.ref p] ∧ ((SqL K H p ys ∧ ∀ l, H l = none → Q (.ref l) (upd H l (.tup ys))) ∨ (SqT K H p ys ∧ Q (.ref p) H)))
    (tCons (tLc (iRng1 (tCons (tC (.int 9)) tNil)) (gName 2) tYes (tTup (tCons (tOp (fun x y H Q => ∃ i j, x = .str i ∧ y = .str j ∧ i.length + j.length ≤ sizeLine ∧ Q (.str (i ++ j)) H) (tC (.str (Str.ofString "k")))
      (tCB (fun xs H Q => ∃ i, xs = [.int i] ∧ i.natAbs.log2 < 1920 ∧ Q (.str (Str.ofString (toString i))) H) (tCons (tVar 2) tNil))) (tCons (tTup (tCons (tC (.str (Str.ofString "none"))) tNil)) tNil))) [2]) tNil)) σ (.tuple nineD) := by
  intro H Q q
  refine ⟨9, rfl, by decide, by decide, fun D hD => ?_⟩
  refine ⟨fun i m H' => m = 9 - i ∧ i ≤ 9 ∧ Kp H H' ∧ ∃ vs, H' D = some (.lst vs) ∧ DtAll K H' vs (nineD.take i), ⟨_, rfl, Nat.zero_le _, Kb.new hD, [], upd_same, .nil⟩, ?_⟩
  rintro i m H1 ⟨rfl, hi, k, vs, e, hs⟩
  have hlen := hs.length
  have h9 : nineD.length = 9 := rfl
  by_cases hl : i < 9
  · refine .inr ⟨hl, fun H' => Kp H H' ∧ ∃ vs, H' D = some (.lst vs) ∧ DtAll K H' vs (nineD.take (i + 1)), fun H' ⟨z1, z2⟩ => ⟨_, by omega, rfl, hl, z1, z2⟩, ?_⟩
    rintro x H2 ⟨rfl, rfl⟩
    have hk : ∀ i : Nat, i < 9 → (Str.ofString "k").length + (Str.ofString (toString (0 + (i : Int)))).length ≤ sizeLine := by
      intro i h
      rcases Nat.lt_or_ge i 8 with h | h
      · exact (keyK i h).2
      · obtain rfl : i = 8 := by omega
        decide +kernel
    refine ⟨by show ((σ.set 2 none).set 2 (some _)).set 2 none = σ.set 2 none; rw [List.set_set, List.set_set], iteT (B := Kp H H2 ∧ ∃ vs, H2 D = some (.lst vs) ∧ DtAll K H2 vs (nineD.take (i + 1))) ?_⟩
    refine ⟨.int (0 + i), by show ((σ.set 2 none).set 2 (some _))[2]? = _; rw [List.set_set]; exact List.getElem?_set_self hσ, _, rfl, log_of ⟨by omega, by omega⟩, _, _, rfl, rfl, hk i hl, ?_⟩
    refine ⟨by show 1 ≤ sizeLine; decide, fun p hp => ⟨by show 2 ≤ sizeLine; decide, fun p2 hp2 => ?_⟩⟩
    have k1 : Kp H2 (upd H2 p (.tup [.str (Str.ofString "none")])) := Kb.new hp
    have d1 : Dt K (upd H2 p (.tup [.str (Str.ofString "none")])) (.ref p) none1 := .tup (SqT.of upd_same) (.cons (.str _) .nil)
    have e1 := k1.keep D _ e (by simp) nt_lst
    have hs1 := DtAll.kb k1 Lsts.nil hs
    generalize upd H2 p (.tup [.str (Str.ofString "none")]) = H3 at k1 d1 e1 hs1 hp2 ⊢
    have k2 : Kp H3 (upd H3 p2 (.tup [.str (Str.ofString "k" ++ Str.ofString (toString (0 + (i : Int)))), .ref p])) := Kb.new hp2
    have d2 : Dt K (upd H3 p2 (.tup [.str (Str.ofString "k" ++ Str.ofString (toString (0 + (i : Int)))), .ref p])) (.ref p2) (.tuple [.str (Str.ofString "k" ++ Str.ofString (toString (0 + (i : Int)))), none1]) := .tup (SqT.of upd_same) (.cons (.str _) (.cons (d1.kb k2 Lsts.nil) .nil))
    have e2 := k2.keep D _ e1 (by simp) nt_lst
    have hs2 := DtAll.kb k2 Lsts.nil hs1
    refine ⟨vs, e2, ?_, (((k.trans k1).trans k2).mut hD (no_tab e2 nt_lst)), _, upd_same, ?_⟩
    · rw [hlen, List.length_take]
      have : sizeLine = 16777216 := rfl
      omega
    · have e9 : nineD[i]? = some (.tuple [.str (Str.ofString "k" ++ Str.ofString (toString (0 + (i : Int)))), none1]) := by
        unfold nineD
        rw [List.getElem?_map, List.getElem?_range hl]
        rfl
      rw [List.take_add_one, e9]
      exact DtAll.kb (Kb.put (S := [D]) (by simp) e2 nt_lst) (fun b hb => by rw [List.mem_singleton.mp hb]; exact ⟨_, e2⟩) (DtAll.snoc hs2 d2)
  · obtain rfl : i = 9 := by omega
    refine .inl ⟨Nat.le_refl 9, ?_⟩
    refine ⟨D, vs, rfl, .inl ⟨.inl (.inl e), fun l hl => ?_⟩⟩
    have k1 : Kp H1 (upd H1 l (.tup vs)) := Kb.new hl
    exact q _ _ (k.trans k1) (.tup (SqT.of upd_same) (DtAll.kb k1 Lsts.nil hs))
end
end Rv

namespace HT
open PySem PySem.Spec PySem.Calls PyProof.Rows L2
section
variable {prog : Program} {w : World} {A : Around} {E : Value → Shared → Prop} {s : Shared}
theorem adjust_rev (n : Nat) : Builtin.Slice.sliceAdjust none none (-1) (n : Int) = ((n : Int) - 1, -1) := rfl
theorem places_rev (n : Nat) : Builtin.Slice.slicePlaces ((n : Int) - 1) (-1) (-1) = n := by
  unfold Builtin.Slice.slicePlaces
  have h1 : ¬ ((-1 : Int) > 0) := by omega
  simp only [h1, if_false]
  by_cases h : (n : Int) - 1 > -1
  · rw [if_pos h, show (- -1 : Int) = 1 by decide, Int.ediv_one]
    omega
  · rw [if_neg h]
    omega
theorem sliceApplied_rev {sl : Addr} {vs : Value} {n : Nat} {Q : Int × Int × Nat → Shared → Prop} (hs : s.heap.IsSliceOf sl .none .none vs) (ps : IsPart vs (some (-1)))
    (h : Q ((n : Int) - 1, -1, n) s) : wpAny (model prog w) A (Builtin.Slice.sliceApplied (.ref sl) (pure (n : Int))) Q E s := by
  obtain ⟨os, hos, hcs, hds⟩ := id hs
  unfold Builtin.Slice.sliceApplied Builtin.Slice.sliceFields
  refine wpAny_bind (wpAny_bind (wpAny_field hos hds (x := .none) rfl (wpAny_bind (wpAny_field hos hds (x := .none) rfl (wpAny_bind (wpAny_field hos hds (x := vs) rfl (wpAny_pure ?_)))))))
  refine wpAny_bind (slicePart_ ps ?_)
  show wpAny _ _ (if ((-1 : Int) == 0) = true then _ else _) _ _ s
  rw [if_neg (by decide)]
  refine wpAny_bind (slicePart_none (wpAny_bind (slicePart_none (wpAny_bind (wpAny_pure ?_)))))
  show wpAny _ _ (match Builtin.Slice.sliceAdjust none none (-1) (n : Int) with | (lo, hi) => pure (lo, (-1 : Int), Builtin.Slice.slicePlaces lo hi (-1))) _ _ s
  rw [adjust_rev n]
  show wpAny _ _ (pure ((n : Int) - 1, (-1 : Int), Builtin.Slice.slicePlaces ((n : Int) - 1) (-1) (-1))) _ _ s
  rw [places_rev]
  exact wpAny_pure h
theorem fm_congr {α β : Type} {f g : α → Option β} : ∀ {l : List α}, (∀ m ∈ l, f m = g m) → l.filterMap f = l.filterMap g
  | [], _ => rfl
  | a :: l, h => by rw [List.filterMap_cons, List.filterMap_cons, h a List.mem_cons_self, fm_congr fun m hm => h m (List.mem_cons_of_mem _ hm)]
theorem pick_rev (xs : Array Value) : ((List.range xs.size).filterMap fun (m : Nat) => xs[(((xs.size : Int) - 1) + (m : Int) * (-1)).toNat]?).toArray = xs.toList.reverse.toArray := by
  have e : ((List.range xs.size).filterMap fun (m : Nat) => xs[(((xs.size : Int) - 1) + (m : Int) * (-1)).toNat]?) = ((List.range xs.size).map fun k => xs.size - 1 - k).filterMap (xs[·]?) := by
    rw [List.filterMap_map]
    refine fm_congr fun m hm => ?_
    have := List.mem_range.mp hm
    show xs[(((xs.size : Int) - 1) + (m : Int) * (-1)).toNat]? = xs[xs.size - 1 - m]?
    rw [show (((xs.size : Int) - 1) + (m : Int) * (-1)).toNat = xs.size - 1 - m by omega]
  rw [e, PySem.W.krv_range, List.filterMap_reverse, PySem.W.krv_all]
theorem getItem_tuple_rev {t sl : Addr} {items : Array Value} {vs : Value} {Q : Value → Shared → Prop} (ht : IsTup s.heap t items) (hs : s.heap.IsSliceOf sl .none .none vs) (ps : IsPart vs (some (-1)))
    (h : Q (.ref s.heap.objs.size) { s with heap := s.heap.push { cls := .type "tuple", data := .seq items.toList.reverse.toArray } })
    (hsz : items.size ≤ sizeLine) : wpAny (model prog w) A (getItem (.ref t) (.ref sl)) Q E s := by
  have htake : sizeOk (.seq items.toList.reverse.toArray) := by
    show items.toList.reverse.toArray.size ≤ sizeLine
    rw [List.size_toArray, List.length_reverse, Array.length_toList]
    exact hsz
  obtain ⟨os, hos, hcs, hds⟩ := id hs
  have hTs : s.TypeIs (.ref sl) "slice" := ⟨os, hos, hcs⟩
  unfold getItem
  try with_reducible refine wpAny_holding ?_
  first | refine wpAny_bind (wpAny_pure ?_) | skip
  refine wpAny_bind (wpAny_sequenceKey ht.typeIs (by decide) ?_)
  refine wpAny_bind (wpAny_callSpecial?_slot (name := Str.ofString "__getitem__") ht.typeIs PyProof.Rows.slot_tuple_getitem
    (wpAny_call_entry PyProof.Rows.slot_tuple_getitem ht.typeIs entry_tuple_getitem ?_ (args_tuple_getitem _ _)))
  show wpAny _ _ (Builtin.Tuple.tupleItemsOf (.ref t) >>= _) _ _ s
  refine wpAny_bind (tupleItemsOf_ ht ?_)
  refine wpAny_bind (wpAny_typeOf hTs ?_)
  rw [if_pos (by decide)]
  refine wpAny_bind (sliceApplied_rev hs ps ?_)
  have hno : ¬ (((((items.size : Nat) : Int) - 1) == 0 && (-1 : Int) == 1 && items.size == items.size) = true) := by
    intro q
    rw [Bool.and_eq_true, Bool.and_eq_true] at q
    exact absurd q.1.2 (by decide)
  show wpAny _ _ (if ((((items.size : Nat) : Int) - 1) == 0 && (-1 : Int) == 1 && items.size == items.size) = true then _ else _) _ _ s
  rw [if_neg hno, pick_rev]
  first
    | exact wpAny_bind (m := Builtin.Tuple.tupleExact _) (wpAny_newObj_type (wpAny_pure ⟨_, rfl, wpAny_pure h⟩) htake)
    | exact wpAny_bind (m := Builtin.Tuple.tupleExact _) (wpAny_newObj_type (wpAny_bind (wpAny_pure (wpAny_pure ⟨_, rfl, wpAny_pure h⟩))) htake)
    | exact wpAny_bind (wpAny_bind (m := Builtin.Tuple.tupleExact _) (wpAny_newObj_type (wpAny_pure (wpAny_pure ⟨_, rfl, wpAny_pure h⟩)) htake))
    | exact wpAny_bind (wpAny_bind (m := Builtin.Tuple.tupleExact _) (wpAny_newObj_type (wpAny_pure ⟨_, rfl, wpAny_pure h⟩) htake))
end
end HT
namespace Gd
open PySem PySem.Spec PyProof.Rows L2 GxR Gx
/-- a tuple without a dict of its own -/
def NoD (K : PySem.W.Frag) (H : Hp) (a : Addr) : Prop := (∃ o u, H a = some (.frz o u) ∧ o.dict = none) ∨ ∃ o, K.lookup a = some o ∧ o.dict = none
theorem NoD.kb {K : PySem.W.Frag} {S : List Addr} {H H' : Hp} {a : Addr} (k : Kb S H H') (hS : Lsts S H) (h : NoD K H a) : NoD K H' a := by
  rcases h with ⟨o, u, e, d⟩ | h
  · exact .inl ⟨o, u, k.keep a _ e (fun z => by obtain ⟨ys, e2⟩ := hS a z; rw [e] at e2; cases e2) nt_frz, d⟩
  · exact .inr h
abbrev frzT (o : Obj) (xs : List V) : HO := .frz o (.tup xs)
section
variable {X : Cx}
theorem SqT.frz {K : PySem.W.Frag} {H : Hp} {p : Addr} {o : Obj} {xs : List V} (e : H p = some (frzT o xs)) : SqT K H p xs := .inl (.inr ⟨o, e⟩)
theorem NoD.frz {K : PySem.W.Frag} {H : Hp} {p : Addr} {o : Obj} {u : HO} (e : H p = some (.frz o u)) (d : o.dict = none) : NoD K H p := .inl ⟨o, u, e, d⟩
/-- tuple(x): a new tuple of a list's items, without a dict; a tuple itself -/
theorem call_tuple_ofF : CallR X (.type "tuple") (fun xs H Q => ∃ p ys, xs = [.ref p] ∧ ((SqL X.K H p ys ∧ ∀ l o, H l = none → o.dict = none → Q (.ref l) (upd H l (frzT o ys))) ∨ (SqT X.K H p ys ∧ Q (.ref p) H))) := by
  intro pins s σ H xs us Q I r h
  obtain ⟨p, ys, rfl, h⟩ := h
  obtain ⟨u, rfl, rx⟩ := vals1 r
  cases rx
  rcases h with ⟨hq, q⟩ | ⟨hq, q⟩
  · obtain ⟨its, r', pl, hz⟩ := I.list hq
    have hlen := r'.length
    refine call_tuple_list pl.isList (fun h' kp => ?_) (by simp only [List.size_toArray] <;> omega)
    have I1 : Inv X pins σ H { s with heap := h' } := I.kept (t' := s.toks) kp
    have I2 : Inv X pins σ (upd H h'.objs.size (frzT { cls := .type "tuple", data := .seq its.toArray } ys)) { s with heap := h'.push { cls := .type "tuple", data := .seq its.toArray } } :=
      I1.laid (t' := s.toks) (fun b o e => Heap.get?_push_of_some _ e) (Nat.le_refl _) (show ObjOk X.prog X.w _ _ _ (frzT _ ys) from ⟨Heap.get?_push_size _ rfl, hz, its, r', IsTup.new _ _⟩)
    exact ⟨.ref h'.objs.size, _, I2, rfl, q _ _ (I1.hok.fresh (Nat.le_refl _)) rfl⟩
  · obtain ⟨its, r', pl, hz⟩ := I.tuple hq
    exact call_tuple_same pl ⟨.ref p, H, I, rfl, q⟩
/-- t[lo:hi], new tuples without a dict -/
def rSlF (K : PySem.W.Frag) : V → Option Int → Option Int → Hp → VK → Prop := fun x lo hi H Q => ∃ a xs, x = .ref a ∧ SqT K H a xs ∧
  (HT.sIx xs.length 0 lo = 0 ∧ HT.sIx xs.length xs.length hi = xs.length → Q (.ref a) H) ∧ (¬ (HT.sIx xs.length 0 lo = 0 ∧ HT.sIx xs.length xs.length hi = xs.length) → ∀ p o, H p = none → o.dict = none → Q (.ref p) (upd H p (frzT o (cutV xs lo hi))))
theorem sl_tupF : SlR X (rSlF X.K) := by
  intro pins s σ H x v vl vu lo hi sl Q I rx hs pl pu h
  obtain ⟨a, xs, rfl, hx, q1, q2⟩ := h
  cases rx
  obtain ⟨its, r, ht, hz⟩ := I.tuple hx
  have hlen : its.toArray.size = xs.length := by rw [List.size_toArray]; exact r.length.symm
  refine ⟨"tuple", _, PyProof.Rows.slot_tuple_getitem.lookup, ht.typeIs, ?_⟩
  by_cases hw : HT.sIx xs.length 0 lo = 0 ∧ HT.sIx xs.length xs.length hi = xs.length
  · exact getItem_tuple_whole ht hs pl pu (by rw [hlen]; exact hw) ⟨.ref a, H, I, rfl, q1 hw⟩
  · refine HT.getItem_tuple_cut ht hs pl pu (by rw [hlen]; exact hw) ?_ (by rw [hlen]; exact hz)
    rw [hlen]
    refine ⟨.ref s.heap.objs.size, _, I.laid (t' := s.toks) (o := frzT { cls := .type "tuple", data := .seq ((its.toArray.toList.drop (HT.sIx xs.length 0 lo)).take (HT.sIx xs.length xs.length hi - HT.sIx xs.length 0 lo)).toArray } (cutV xs lo hi)) (fun b ob q => Heap.get?_push_of_some _ q) (Nat.le_refl _) ?_, rfl, q2 hw _ _ (I.hok.fresh (Nat.le_refl _)) rfl⟩
    exact ⟨Heap.get?_push_size _ rfl, Nat.le_trans (cutV_length xs lo hi) hz, _, (r.drop (HT.sIx xs.length 0 lo)).take (HT.sIx xs.length xs.length hi - HT.sIx xs.length 0 lo), IsTup.new _ _⟩
/-- t[::-1] of a tuple -/
def tRevT (K : PySem.W.Frag) (te : TE) : TE := fun σ H Q => te σ H fun x H1 => ∃ a xs, x = .ref a ∧ SqT K H1 a xs ∧ ∀ p o, H1 p = none → o.dict = none → Q (.ref p) (upd H1 p (frzT o xs.reverse))
theorem pe_revT {e : Expr} {te : TE} {k : Nat} {p1 p2 p3 pos : Pos} (he : PE X e te) : PE X (.Subscript e (.Slice none none (some (.UnaryOp .USub (.Constant (.int 1) k p1) p2)) p3) pos) (tRevT X.K te) := by
  refine ⟨fun pins s σ H Q I h => ?_⟩
  refine Subscript_ (thn (he.run pins s σ H _ I h) fun v s1 ⟨x, H1, I1, r1, q1⟩ => ?_)
  obtain ⟨a, xs, ex, hx, q⟩ := q1
  subst ex
  cases r1
  have hst : PO X (some (.UnaryOp .USub (.Constant (.int 1) k p1) p2)) (tPart (tUn (rU fun i => .int (-i)) (tC (.int 1)))) := po_some (pe_un un_neg pe_int)
  refine wpAny_Slice (thn (po_none.run pins s1 σ H1 (fun o H2 => o = none ∧ H2 = H1) I1 ⟨rfl, rfl⟩) fun vl s2 ⟨l, H2, I2, pl, el, e2⟩ => ?_)
  subst el e2
  refine thn (po_none.run pins s2 σ H2 (fun o H3 => o = none ∧ H3 = H2) I2 ⟨rfl, rfl⟩) fun vu s3 ⟨u, H3, I3, pu, eu, e3⟩ => ?_
  subst eu e3
  refine thn (hst.run pins s3 σ H3 (fun o H4 => o = some (-1) ∧ H4 = H3) I3 ⟨1, rfl, -1, rfl, rfl, rfl⟩) fun vs s4 ⟨o, H4, I4, ps, eo, e4⟩ => ?_
  subst eo e4
  cases pl
  cases pu
  have I5 : Inv X pins σ H4 { s4 with heap := s4.heap.push { cls := .type "slice", data := .fields #[.none, .none, vs] } } := I4.kept (t' := s4.toks) fun b ob q => Heap.get?_push_of_some _ q
  obtain ⟨its, r, ht, hz⟩ := I5.tuple hx
  have hlen := r.length
  show wpAny (model X.prog X.w) X.A (subscriptTail e (.Slice none none (some (.UnaryOp .USub (.Constant (.int 1) k p1) p2)) p3) (.ref a) (.ref s4.heap.objs.size)) (EP X pins σ Q) X.xe { s4 with heap := s4.heap.push { cls := .type "slice", data := .fields #[.none, .none, vs] } }
  refine tail_any (ops := [.ref a, .ref s4.heap.objs.size]) ht.typeIs (PyProof.Rows.slot_tuple_getitem.lookup) ?_ (by with_unfolding_all rfl)
  refine HT.getItem_tuple_rev ht (Heap.IsSliceOf.new _ .none .none vs) ps ?_ (by rw [List.size_toArray]; omega)
  refine ⟨.ref _, _, I5.laid (t' := s4.toks) (o := frzT { cls := .type "tuple", data := .seq its.toArray.toList.reverse.toArray } xs.reverse) (fun b ob q => Heap.get?_push_of_some _ q) (Nat.le_refl _) ?_, rfl, q _ _ (I5.hok.fresh (Nat.le_refl _)) rfl⟩
  exact ⟨Heap.get?_push_size _ rfl, by rw [List.length_reverse]; exact hz, _, r.reverse, IsTup.new _ _⟩
/-- dict(t) of a tuple of pairs -/
theorem call_dictT (hcalm : X.calm = true) : CallR X (.type "dict") (fun xs H Q => ∃ (a : Addr) (ps : List Addr) (kvs : List (Key × V)), xs = [.ref a] ∧ SqT X.K H a (ps.map V.ref) ∧ NoD X.K H a ∧ Paired (fun p kv => SqT X.K H p [kV kv.1, kv.2]) ps kvs ∧
    ∀ p, H p = none → Q (.ref p) (upd H p (.dK (mergeK [] kvs)))) := by
  intro pins s σ H xs us Q I r q
  obtain ⟨a, ps, kvs, ex, hq, hnd, hp, q⟩ := q
  subst ex
  obtain ⟨u, eu, rx⟩ := vals1 r
  subst eu
  cases rx
  obtain ⟨its, rv, pl, hz⟩ := I.tuple hq
  have ei := refs_at rv
  subst ei
  rw [List.length_map] at hz
  obtain ⟨prs, rel, hl, hpr⟩ := pairs_of I hp
  obtain ⟨o, ho, hc, n, hdat⟩ := pl
  have hd : o.dict = none := by
    rcases hnd with ⟨o2, u, e, d⟩ | ⟨o2, e, d⟩
    · have := (I.hok a _ e).1
      rw [ho] at this
      cases this
      exact d
    · have := I.kIn a o2 e
      rw [ho] at this
      cases this
      exact d
  -- the pairs as the library tells them
  have key : ∀ j : Nat, ∃ v : Value, ∀ q' : Key × Value, prs[j]? = some q' → ∃ b : Addr, ps[j]? = some b ∧ IsTup s.heap b #[v, q'.2] ∧ keyIs q'.1 v = true := fun j => by
    cases e : prs[j]? with
    | none => exact ⟨.none, fun q' h => by cases h⟩
    | some q' =>
      obtain ⟨b, u, e1, e2, e3⟩ := hpr j q' e
      exact ⟨u, fun q'' h => by cases h; exact ⟨b, e1, e2, e3⟩⟩
  let kf : Nat → Value := fun j => Classical.choose (key j)
  have hkf : ∀ (j : Nat) (q' : Key × Value), prs[j]? = some q' → ∃ b : Addr, ps[j]? = some b ∧ IsTup s.heap b #[kf j, q'.2] ∧ keyIs q'.1 (kf j) = true := fun j => Classical.choose_spec (key j)
  let pvs : List (Value × Value) := (List.range prs.length).map fun j => (kf j, (prs.getD j (.inl 0, .none)).2)
  have hpv : ∀ j, j < prs.length → pvs[j]? = some (kf j, (prs.getD j (.inl 0, .none)).2) := fun j hj => by
    show ((List.range prs.length).map _)[j]? = _
    rw [List.getElem?_map, List.getElem?_range hj]
    rfl
  have hpl : pvs.length = prs.length := by show ((List.range prs.length).map _).length = _; rw [List.length_map, List.length_range]
  have hgd : ∀ (j : Nat) (q' : Key × Value), prs[j]? = some q' → prs.getD j (.inl 0, .none) = q' := fun j q' e => by rw [List.getD_eq_getElem?_getD, e]; rfl
  have ok : PySem.PlainSeq "tuple" s.heap a (ps.map Value.ref).toArray ∧ PySem.PairItems s.heap (ps.map Value.ref).toArray (fun j => ps.getD j 0) pvs := by
    refine ⟨⟨o, n, ho, hc, hd, hdat⟩, by rw [List.size_toArray, List.length_map, hpl, hl], fun j k v hj => ?_⟩
    have hj2 : j < prs.length := by have := (List.getElem?_eq_some_iff.mp hj).1; omega
    rw [hpv j hj2] at hj
    cases hj
    obtain ⟨q', hq'⟩ : ∃ q', prs[j]? = some q' := ⟨prs[j], List.getElem?_eq_getElem hj2⟩
    rw [hgd j q' hq']
    obtain ⟨b, e1, e2, e3⟩ := hkf j q' hq'
    have eb : ps.getD j 0 = b := by rw [List.getD_eq_getElem?_getD, e1]; rfl
    show (ps.map Value.ref).toArray[j]? = some (Value.ref (ps.getD j 0)) ∧ PySem.PairAt s.heap (ps.getD j 0) (kf j) q'.2
    rw [eb]
    exact ⟨by simp [e1], .inl e2⟩
  have hm : (s.heap.objs.size == sysModules) = false := beq_eq_false_iff_ne.mpr (Nat.ne_of_gt I.big)
  refine PySem.call_dict_pairs (knd := mixKind X.prog X.w) (kvs := prs) (PySem.PairArg.tuple a _ _ pvs) (I.ok.hd hcalm) ok ⟨by rw [hpl], fun i k v hr => ?_⟩ (by rw [hpl, hl]; exact hz) fun h' tk hd' k => ?_
  · have hr : pvs[i]? = some (k, v) := hr
    have hi : i < prs.length := by have := (List.getElem?_eq_some_iff.mp hr).1; omega
    rw [hpv i hi] at hr
    cases hr
    obtain ⟨q', hq'⟩ : ∃ q', prs[i]? = some q' := ⟨prs[i], List.getElem?_eq_getElem hi⟩
    rw [hgd i q' hq']
    obtain ⟨b, e1, e2, e3⟩ := hkf i q' hq'
    exact ⟨q'.1, hq', e3⟩
  · have hlen : (mergeK [] kvs).length ≤ sizeLine := by
      refine Nat.le_trans (length_mergeK kvs []) ?_
      rw [List.length_nil, Nat.zero_add, rel.length, hl]
      exact hz
    exact ⟨.ref s.heap.objs.size, upd H s.heap.objs.size (.dK (mergeK [] kvs)), I.laid (t' := tk) (fun b o e => k b o (by simp) e) (Nat.le_refl _) (show ObjOk X.prog X.w _ _ _ (.dK (mergeK [] kvs)) from ⟨hlen, hm, merged [] prs, KV.merge rel .nil, hd'⟩), rfl, q _ (I.hok.fresh (Nat.le_refl _))⟩
end
/-! ### calls with a star -/
section
variable {X : Cx} {k i : Nat} {ps : List Str} {sp : Sp} {x : Str} {p pos sp_ : Pos} {e : Expr} {es : List Expr} {t : TA} {te : TE}
theorem run_cal {CX : CXT} {E : XK} {f : Addr} {fd : FuncData} {pins : List (Addr × Obj)} {σ : L2.St} {H : Hp} {s : Shared} {Q : VK} {us : List Value} {vs : List V} (F : FnG X.prog X.w X.K X.mg X.base CX k f fd ps sp) (b : Binds X.K fd ps []) (hr : RoomG k X.A) (hx : Passes CX X E)
    (I : Inv X pins σ H s) (r : Vals vs us) (h : sp vs H Q E) : codeAny (model X.prog X.w) X.A (.call (.ref f) ⟨us, []⟩) (fun r s' => match r with | .ok (.ret v) => EP X pins σ Q v s' | .ok _ => False | .error e => X.xe e s') s := by
  have hl : us.length = ps.length := by rw [← r.length]; exact F.len _ _ _ _ h
  have bb := b s us I.kIn (by rw [List.append_nil]; exact hl)
  rw [List.append_nil] at bb
  refine codeAny_mono (F.run X.A X.stack s H ⟨us, []⟩ us vs Q E hr I.env0 bb r h) fun r s' hq => ?_
  cases r with
  | error e => exact hx pins σ H s e s' I hq
  | ok fl =>
    cases fl with
    | ret u => exact I.after hq
    | next => exact hq.elim
    | brk => exact hq.elim
    | cont => exact hq.elim
/-- x(e, .., *y) -/
theorem pe_calS2 (C : Cal X.prog X.w X.K X.mg X.base CX0 k x ps sp) (hr : RoomG k X.A) (hg : Gl X x) (ha : PA X (e :: es) t) (hd : (x == ("__debug__" : Str)) = false := by decide)
    (he : starEach (e :: es) X.env = (false, eval e X.env) :: starEach es X.env := by rfl) (hst : (backTo pos (starEach es X.env)).any (·.1) = true := by rfl) :
    PE X (.Call (.Name x p) (e :: es) [] pos) (fun σ H Q => t σ H fun vs H1 => sp vs H1 Q E0) := by
  obtain ⟨f, fd, F, g, kp, b⟩ := C
  refine ⟨fun pins s σ H Q I h => ?_⟩
  refine wpAny_Call_Name_kw (ld_glob I hg g ?_ hd)
  refine PySem.W.callWith_S2 (h₀ := X.base) I.ok.mod.kin kp (thn (ha.run pos pins s σ H _ I h) fun us s1 ⟨vs, H1, I1, r, q⟩ => ⟨I1.kIn, ?_⟩) he hst
  exact wpAny_call (run_cal F b hr pass0 I1 r q)
/-- y(*z), y a local name that holds one of several defs -/
theorem pe_calLS (hN : X.N[i]? = some x) (hv : Vis X.env.scope x) (hr : RoomG k X.A) (he : PE X e te) (hdb : (x == ("__debug__" : Str)) = false := by decide) (hcd : (x == ("__classdict__" : Str)) = false := by decide)
    (hst : starEach [.Starred e sp_] X.env = [(true, eval e X.env)] := by rfl) :
    PE X (.Call (.Name x p) [.Starred e sp_] [] pos) (fun σ H Q => ∃ (f : Addr) (fd : FuncData) (ps : List Str) (sp : Sp), σ[i]? = some (some (.ref f)) ∧ FnG X.prog X.w X.K X.mg X.base CX0 k f fd ps sp ∧ PySem.W.keepIn X.K (.ref f) = true ∧ Binds X.K fd ps [] ∧
      te σ H fun y H1 => ∃ a xs, y = V.ref a ∧ (SqT X.K H1 a xs ∨ SqL X.K H1 a xs) ∧ sp xs H1 Q E0) := by
  refine ⟨fun pins s σ H Q I h => ?_⟩
  obtain ⟨f, fd, ps, sp, hs, F, kp, b, ht⟩ := h
  refine wpAny_Call_Name_kw (thn ((pe_var (pos := p) hN hv hdb hcd).run pins s σ H (fun v H1 => v = .ref f ∧ H1 = H) I ⟨.ref f, hs, rfl, rfl⟩) fun u s1 ⟨v, H1, I1, r1, q1⟩ => ?_)
  obtain ⟨rfl, rfl⟩ := q1
  cases r1
  refine PySem.W.callWith_S (h₀ := X.base) I.ok.mod.kin kp (thn (he.run pins s1 σ _ _ I1 ht) fun v s2 ⟨y, H2, I2, ry, a, xs, ey, hxs, q⟩ => ?_) hst
  subst ey
  obtain rfl : v = Value.ref a := ry
  exact StX.star_any I2 hxs fun us s3 I3 rv => ⟨I3.kIn, wpAny_call (run_cal F b hr pass0 I3 rv q)⟩
end
end Gd

/-! Values with their maps' entries, expressions with their literals. -/
namespace Rw
open PySem PySem.Spec PyProof.Rows L2 GxR Gx Gd Rx Rs
abbrev topS := Rs.topS
inductive Va where
  | s (x : Rv.Sc) | m (ps : List (Str × Rv.Sc))
def Va.d : Va → PyData
  | .s x => x.d
  | .m ps => Rv.mapD ps
def Va.good : Va → Prop
  | .s x => x.good
  | .m ps => Rv.Ents ps
theorem Va.good.gv : ∀ {v : Va}, v.good → Rv.GV v.d
  | .s x, h => .inl ⟨x, h, rfl⟩
  | .m ps, h => .inr ⟨ps, h, rfl⟩
def scOf : PyData → Rv.Sc
  | .tuple [_, .bool b] => .bool b
  | .tuple [_, .int i] => .int i
  | .tuple [_, .str x] => .text x
  | _ => .none
def entOf : PyData → Str × Rv.Sc
  | .tuple [.str k, s] => (k, scOf s)
  | _ => (Str.ofString "", .none)
def Va.of : PyData → Va
  | .tuple [_, .tuple es] => .m (es.map entOf)
  | d => .s (scOf d)
theorem scOf_d : ∀ x : Rv.Sc, scOf x.d = x
  | .none => rfl
  | .bool _ => rfl
  | .int _ => rfl
  | .text _ => rfl
theorem entOf_ent (p : Str × Rv.Sc) : entOf (Rv.ent p) = p := by
  show (p.1, scOf p.2.d) = p
  rw [scOf_d]
theorem Va.of_d : ∀ v : Va, Va.of v.d = v
  | .s .none => rfl
  | .s (.bool _) => rfl
  | .s (.int _) => rfl
  | .s (.text _) => rfl
  | .m ps => by
    show Va.m ((ps.map Rv.ent).map entOf) = Va.m ps
    rw [List.map_map]
    congr 1
    exact (List.map_congr_left fun p _ => entOf_ent p).trans (List.map_id ps)
theorem d_inj {v u : Va} (h : v.d = u.d) : v = u := by rw [← Va.of_d v, h, Va.of_d]
/-- the value stands at v; the entries of a map have no dict of their own -/
inductive DtV (K : PySem.W.Frag) (H : Hp) : V → Va → Prop where
  | s {v : V} {x : Rv.Sc} (h : Dt K H v x.d) : DtV K H v (.s x)
  | m {a b : Addr} {xs : List V} {ps : List (Str × Rv.Sc)} (h : SqT K H a [.str (Str.ofString "map"), .ref b]) (n : NoD K H b) (hb : SqT K H b xs) (hs : DtAll K H xs (ps.map Rv.ent)) : DtV K H (.ref a) (.m ps)
mutual
inductive DtE (K : PySem.W.Frag) (H : Hp) : V → Ex → Prop where
  | lit {a : Addr} {x : V} {va : Va} (h : SqT K H a [.str (Str.ofString "literal"), x]) (hx : DtV K H x va) : DtE K H (.ref a) (.lit va.d)
  | var {a : Addr} {l : List Nat} (h : SqT K H a [.str (Str.ofString "variable"), .str (sx l)]) : DtE K H (.ref a) (.var l)
  | call {a t : Addr} {xs : List V} {f : List Nat} {es : List Ex} (h : SqT K H a [.str (Str.ofString "call"), .str (sx f), .ref t]) (ht : SqT K H t xs) (hs : DtEs K H xs es) : DtE K H (.ref a) (.call f es)
  | inj {a : Addr} {x : V} {l : List Nat} {e : Ex} (h : SqT K H a [.str (Str.ofString "inject"), .str (sx l), x]) (hx : DtE K H x e) : DtE K H (.ref a) (.inj l e)
inductive DtEs (K : PySem.W.Frag) (H : Hp) : List V → List Ex → Prop where
  | nil : DtEs K H [] []
  | cons {v : V} {vs : List V} {e : Ex} {es : List Ex} (h : DtE K H v e) (hs : DtEs K H vs es) : DtEs K H (v :: vs) (e :: es)
end
section
variable {K : PySem.W.Frag} {S : List Addr} {H H' : Hp}
theorem DtV.dt {v : V} {va : Va} : DtV K H v va → Dt K H v va.d
  | .s h => h
  | .m h n hb hs => .tup h (.cons (.str _) (.cons (.tup hb hs) .nil))
theorem DtV.kb (k : Kb S H H') (hS : Lsts S H) {v : V} {va : Va} : DtV K H v va → DtV K H' v va
  | .s h => .s (h.kb k hS)
  | .m h n hb hs => .m (k.sqT hS h) (n.kb k hS) (k.sqT hS hb) (DtAll.kb k hS hs)
mutual
theorem DtE.dt : ∀ {v : V} {e : Ex}, DtE K H v e → Dt K H v e.d
  | _, _, .lit h hx => .tup h (.cons (.str _) (.cons hx.dt .nil))
  | _, _, .var h => .tup h (.cons (.str _) (.cons (.str _) .nil))
  | _, _, .call h ht hs => .tup h (.cons (.str _) (.cons (.str _) (.cons (.tup ht hs.dt) .nil)))
  | _, _, .inj h hx => .tup h (.cons (.str _) (.cons (.str _) (.cons hx.dt .nil)))
theorem DtEs.dt : ∀ {vs : List V} {es : List Ex}, DtEs K H vs es → DtAll K H vs (Ex.ds es)
  | _, _, .nil => .nil
  | _, _, .cons h hs => .cons h.dt hs.dt
end
mutual
theorem DtE.kb (k : Kb S H H') (hS : Lsts S H) : ∀ {v : V} {e : Ex}, DtE K H v e → DtE K H' v e
  | _, _, .lit h hx => .lit (k.sqT hS h) (hx.kb k hS)
  | _, _, .var h => .var (k.sqT hS h)
  | _, _, .call h ht hs => .call (k.sqT hS h) (k.sqT hS ht) (DtEs.kb k hS hs)
  | _, _, .inj h hx => .inj (k.sqT hS h) (DtE.kb k hS hx)
theorem DtEs.kb (k : Kb S H H') (hS : Lsts S H) : ∀ {vs : List V} {es : List Ex}, DtEs K H vs es → DtEs K H' vs es
  | _, _, .nil => .nil
  | _, _, .cons h hs => .cons (DtE.kb k hS h) (DtEs.kb k hS hs)
end
theorem DtEs.snoc {v : V} {e : Ex} : ∀ {vs : List V} {es : List Ex}, DtEs K H vs es → DtE K H v e → DtEs K H (vs ++ [v]) (es ++ [e])
  | _, _, .nil, h => .cons h .nil
  | _, _, .cons h hs, h2 => .cons h (DtEs.snoc hs h2)
theorem DtEs.length : ∀ {vs : List V} {es : List Ex}, DtEs K H vs es → vs.length = es.length
  | _, _, .nil => rfl
  | _, _, .cons _ hs => congrArg (· + 1) hs.length
theorem DtEs.get : ∀ {vs : List V} {es : List Ex} {i : Nat} {v : V}, DtEs K H vs es → vs[i]? = some v → ∃ e, es[i]? = some e ∧ DtE K H v e
  | _, _, _, _, .nil, e => by simp at e
  | _, _, 0, _, .cons h _, e => by
    have e := Option.some.inj e
    subst e
    exact ⟨_, rfl, h⟩
  | _, _, i + 1, _, .cons _ hs, e => DtEs.get (i := i) hs e
end
def spMapN (K : PySem.W.Frag) : Sp := fun vs H Q _ => ∃ bx d, vs = [.ref bx] ∧ Rv.Box bx d H ∧ ∀ H' v ps, Rv.Aft bx d H H' → DtV K H' v (.m ps) → Rv.Ents ps → Q v H'
def spValN (K : PySem.W.Frag) : Sp := fun vs H Q _ => ∃ bx d, vs = [.ref bx] ∧ Rv.Box bx d H ∧ ∀ H' v va, Rv.Aft bx d H H' → DtV K H' v va → va.good → Q v H'
end Rw
namespace Rv
open PySem PySem.Spec PyProof.Rows L2 GxR Gx Gd
section
variable {P : Program} {w : World} {K : PySem.W.Frag} {mg : Str → Option Value} {base : Heap}
theorem c_law_mapN (D : DefAt K mg "_law_map" s_law_map ["box"]) (m_range : mg "range" = none) (m_int : mg "int" = none) (m_str : mg "str" = none) (m_tuple : mg "tuple" = none) (c__law_draw : Cal P w K mg base CX0 1 "_law_draw" ["box", "many"] spDraw)
    (c__law_scalar : Cal P w K mg base CX0 3 "_law_scalar" ["box"] (spScalar K)) : Cal P w K mg base CX0 4 "_law_map" ["box"] (Rw.spMapN K) := by
  refine D.cal (k := 3) sc_law_map (fun vs H Q E h => ?_) fun f cdv A outer s H vs Q E hr h => ?_
  · obtain ⟨bx, d, rfl, _⟩ := h
    rfl
  · obtain ⟨bx, d, rfl, hb, q⟩ := h
    refine ⟨_, (pss_cons (ps_set (i := 1) sc_law_map.nd rfl (Or.inl rfl) (pe_lst pa_nil))
  (pss_cons (ps_for PassesOwn.never rfl (pi_range1 (by rfl) m_range (pa_cons (pe_op op_add (pe_cal (c__law_draw.mono (by omega)) hr (by rfl) (pa_cons (pv 0) (pa_cons pe_int pa_nil))) (pe_op op_mul pe_int (pe_callTy call_int1 (by rfl) m_int (by decide +kernel) (pa_cons (pe_cmpR op_eq (pe_cal (c__law_draw.mono (by omega)) hr (by rfl) (pa_cons (pv 0) (pa_cons pe_int pa_nil))) pe_int (nomark _)) pa_nil)))) pa_nil)) (pg_name (i := 2) sc_law_map.nd rfl (Or.inl rfl)) (pss_cons (ps_set (i := 3) sc_law_map.nd rfl (Or.inl rfl) (pe_ix ix_list (pe_lst (pa_cons pe_str (pa_cons pe_str (pa_cons pe_str (pa_cons pe_str (pa_cons pe_str (pa_cons (pe_op op_add_str pe_str (pe_callTy call_str_int (by rfl) m_str (by decide +kernel) (pa_cons (pv 2) pa_nil))) (pa_cons pe_str (pa_cons pe_str pa_nil))))))))) (pe_cal (c__law_draw.mono (by omega)) hr (by rfl) (pa_cons (pv 0) (pa_cons pe_int pa_nil))) (fun _ _ => rfl)))
  (pss_one (ps_if (pt_cmpR op_notIn_seq (pv 3) (pe_lc rfl sc_law_map.nd (pi_list (pv 1)) (blkOk_by (own := [("entry", 4)]) (N := ["box", "entries", "k", "key", "entry"]) (sc := defScope s_law_map) (by decide +kernel)) (fun _ _ _ _ _ => (pg_name (i := 4) sc_law_map.nd rfl (Or.inl rfl))) (fun _ _ _ _ _ => pts_nil) (fun _ _ _ _ _ => (pe_ix (ix_tupK (K := K) rfl) (pv 4) pe_int (fun _ _ => rfl)))) (by rfl)) (pss_one (ps_expr (pe_bm PySem.F.plainAttrs_list PySem.F.slot_list_append PySem.F.type_list_append mt_append (pv 1) (pa_cons (pe_tup (pa_cons (pv 3) (pa_cons (pe_cal (c__law_scalar.mono (by omega)) hr (by rfl) (pa_cons (pv 0) pa_nil)) pa_nil))) pa_nil)))) pss_nil))))
  (pss_one (ps_ret (pe_tup (pa_cons pe_str (pa_cons (pe_callTy call_tuple_ofF (by rfl) m_tuple (by decide +kernel) (pa_cons (pv 1) pa_nil)) pa_nil))))))), ?_⟩
    refine ⟨Nat.zero_le _, fun D hD => ?_⟩
    have a0 := Aft.new (o := .lst []) hb hD
    refine ⟨.ref bx, rfl, bx, d, 5, rfl, by decide, a0.2, fun H1 r1 a1 g1 l1 => ?_⟩
    refine ⟨.ref bx, rfl, bx, d, 6, rfl, by decide, a1.2, fun H2 r2 a2 g2 l2 => ⟨rfl, .inr ⟨_, rfl, 4, _, rfl, rfl, .inl (by decide), r1, _, rfl, rfl, ?_⟩⟩⟩
    have nb : ∀ b : Bool, 0 ≤ r1 + 4 * (if b = true then (1 : Int) else 0) ∧ r1 + 4 * (if b = true then (1 : Int) else 0) ≤ 8 := by
      intro b
      cases b <;> simp <;> omega
    obtain ⟨N, hN, n0, n8⟩ : ∃ N : Int, r1 + 4 * (if decide (V.int r2 = V.int 0) = true then (1 : Int) else 0) = N ∧ 0 ≤ N ∧ N ≤ 8 := ⟨_, rfl, nb _⟩
    have a12 := (a0.trans a1).trans a2
    have eD := a2.lst (a1.lst upd_same (hb.new hD).1) (hb.new hD).1
    have hDb := (hb.new hD).1
    refine ⟨N, congrArg (fun z => [V.int z]) hN, by omega, by omega, ?_⟩
    refine ⟨fun i m σ H' => m = N.toNat - i ∧ i ≤ N.toNat ∧ (∃ o2 o3 o4, σ = [some (.ref bx), some (.ref D), o2, o3, o4]) ∧ Mp K bx d D H i H', ⟨_, rfl, Nat.zero_le _, ⟨none, none, none, rfl⟩, [], [], Nat.le_refl _, .nil, (fun _ h => by cases h), .nil, eD, a12⟩, ?_⟩
    rintro i m σ H3 ⟨rfl, hi, ⟨o2, o3, o4, rfl⟩, g⟩
    by_cases hl : i < N.toNat
    · refine .inr ⟨hl, fun σ' H' => (∃ o2 o3 o4, σ' = [some (.ref bx), some (.ref D), o2, o3, o4]) ∧ Mp K bx d D H (i + 1) H', fun σ' H' ⟨e1, e2⟩ => ⟨_, by omega, rfl, hl, e1, e2⟩, ?_⟩
      rintro x H4 ⟨rfl, rfl⟩
      obtain ⟨ps, evs, p1, p2, p3, p4, p5, p6⟩ := g
      have hk := keyK i (by omega)
      refine ⟨_, rfl, _, rfl, log_of ⟨by omega, by omega⟩, _, _, rfl, rfl, hk.2, by show 8 ≤ sizeLine; decide, fun L hL => ?_⟩
      have aL := Aft.new (o := .lst [V.str (Str.ofString "a"), .str (Str.ofString "b"), .str (Str.ofString "c"), .str (Str.ofString "tea"), .str (Str.ofString "x y"), .str ((Str.ofString "k") ++ (Str.ofString (toString (0 + (i : Int))))), .str (Str.ofString "\"q\\"), .str (Str.ofString "abcdefghijkl")]) p6.2 hL
      refine ⟨.ref bx, rfl, bx, d, 8, rfl, by decide, aL.2, fun H5 r5 a5 g5 l5 => ?_⟩
      have eL := a5.lst upd_same (p6.2.new hL).1
      obtain ⟨x, hx, ex⟩ := eight hk.1 g5 l5
      refine ⟨L, _, r5, _, rfl, rfl, .inl (.inl eL), ex, ?_⟩
      have a45 := aL.trans a5
      have e5 := a45.lst p5 hDb
      have d5 := DtAll.kb a45.1 p6.2.lsts p4
      have a5' := p6.trans a45
      refine ⟨.str x, rfl, .ref D, rfl, D, rfl, ⟨evs, .inl (.inl e5)⟩, fun L2 hL2 => ?_⟩
      have hlen := d5.length
      rw [List.length_map] at hlen
      refine ⟨fun j m H' => m = ps.length - j ∧ j ≤ ps.length ∧ Kp H5 H' ∧ H' L2 = some (.lst (((ps.take j).map (·.1)).map V.str)), ⟨_, rfl, Nat.zero_le _, Kb.new hL2, upd_same⟩, ?_⟩
      rintro j m H6 ⟨rfl, hj, k6, e6⟩
      have e6D := k6.keep D _ e5 (by simp) nt_lst
      by_cases hl2 : j < ps.length
      · have hj2 : j < evs.length := by omega
        have hv : evs[j]? = some evs[j] := List.getElem?_eq_getElem hj2
        have hp : ps[j]? = some ps[j] := List.getElem?_eq_getElem hl2
        refine .inr ⟨⟨evs, _, .inl (.inl e6D), hv⟩, fun H' => Kp H5 H' ∧ H' L2 = some (.lst (((ps.take (j + 1)).map (·.1)).map V.str)), fun H' ⟨z1, z2⟩ => ⟨_, by omega, rfl, hl2, z1, z2⟩, fun y H7 hy => ?_⟩
        obtain ⟨rfl, hy⟩ := hy
        have ey : evs[j] = y := Option.some.inj (hv.symm.trans (hy evs (.inl (.inl e6D))))
        obtain ⟨dd, hdd, hvd⟩ := (DtAll.kb k6 Lsts.nil d5).get hv
        rw [List.getElem?_map, hp] at hdd
        have edd : ent ps[j] = dd := Option.some.inj hdd
        subst edd
        rw [ey] at hvd
        refine ⟨rfl, iteT (B := Kp H5 H7 ∧ H7 L2 = some (.lst (((ps.take (j + 1)).map (·.1)).map V.str))) ⟨y, rfl, ?_⟩⟩
        cases hvd with
        | @tup b ys _ hb hys =>
          cases hys with
          | cons hx hys =>
            cases hx
            refine ⟨b, _, 0, _, rfl, rfl, hb, atI_nat (j := 0) rfl, _, e6, ?_, k6.mut hL2 (no_tab e6 nt_lst), ?_⟩
            · rw [List.length_map, List.length_map, List.length_take]
              have : sizeLine = 16777216 := rfl
              omega
            · rw [upd_same, List.take_add_one, hp, List.map_append, List.map_append]
              rfl
      · have ej : j = ps.length := by omega
        subst ej
        refine .inl ⟨⟨evs, .inl (.inl e6D), by omega⟩, ?_⟩
        rw [List.take_length] at e6
        refine ⟨L2, _, rfl, .inl (.inl (.inl e6)), rfl, all_flat _, _, rfl, ?_⟩
        have a6 := a5'.trans (Aft.of a5'.2 k6)
        have d6 := DtAll.kb k6 Lsts.nil d5
        cases ein : inV (.str x) ((ps.map (·.1)).map V.str) with
        | true => exact iteF ⟨⟨_, _, _, rfl⟩, ps, evs, by omega, p2, p3, d6, e6D, a6⟩
        | false =>
          have hni := not_inV ein
          refine iteT ⟨.ref D, rfl, .inl ⟨rfl, _, .inl (.inl e6D)⟩, .str x, rfl, .ref bx, rfl, bx, d, rfl, a6.2, fun H7 v s a7 hv gs => ⟨by show 2 ≤ sizeLine; decide, fun p hp => ?_⟩⟩
          have e7 := a7.lst e6D hDb
          have e8 : (upd H7 p (.tup [.str x, v])) D = some (.lst evs) := by rw [upd_ne (ne_of_none e7 hp)]; exact e7
          have d7 := DtAll.kb (Kb.new (S := []) (o := .tup [.str x, v]) hp) Lsts.nil (DtAll.kb a7.1 a6.2.lsts d6)
          have kp : Kp H7 (upd H7 p (.tup [.str x, v])) := Kb.new hp
          have dn : Dt K (upd H7 p (.tup [.str x, v])) (.ref p) (ent (x, s)) := .tup (SqT.of upd_same) (.cons (.str _) (.cons (hv.kb kp Lsts.nil) .nil))
          have a8 := (a6.trans a7).trans (Aft.new (o := .tup [.str x, v]) a7.2 hp)
          have hlz : evs.length < sizeLine := by
            have : sizeLine = 16777216 := rfl
            omega
          refine ⟨D, evs, .ref p, rfl, rfl, e8, hlz, ⟨_, _, _, rfl⟩, ps ++ [(x, s)], evs ++ [.ref p], by simp; omega, ?_, ?_, ?_, upd_same, ?_⟩
          · rw [List.map_append, List.nodup_append]
            refine ⟨p2, by simp, fun a ha b hb => ?_⟩
            rw [List.mem_singleton.mp hb]
            intro z
            have z : a = x := z
            subst z
            exact hni ha
          · intro p' hp'
            rcases List.mem_append.mp hp' with h | h
            · exact p3 _ h
            · rw [List.mem_singleton.mp h]
              exact ⟨hx, gs⟩
          · rw [List.map_append]
            exact DtAll.kb (Kb.put (S := [D]) (o := .lst (evs ++ [.ref p])) (by simp) e8 nt_lst) (fun b hb => by rw [List.mem_singleton.mp hb]; exact ⟨_, e8⟩) (DtAll.snoc d7 dn)
          · exact a8.mut hD hb e8 nt_lst
    · obtain ⟨ps, evs, p1, p2, p3, p4, p5, p6⟩ := g
      refine .inl ⟨by show N.toNat ≤ i; omega, ?_⟩
      refine ⟨_, rfl, D, evs, rfl, .inl ⟨.inl (.inl p5), fun l o hl ho => ⟨by show 2 ≤ sizeLine; decide, fun p hp => ?_⟩⟩⟩
      have k1 : Kp H3 (upd H3 l (frzT o evs)) := Kb.new hl
      have k2 : Kp (upd H3 l (frzT o evs)) (upd (upd H3 l (frzT o evs)) p (.tup [.str (Str.ofString "map"), .ref l])) := Kb.new hp
      have s1 : SqT K (upd H3 l (frzT o evs)) l evs := SqT.frz upd_same
      have n1 : NoD K (upd H3 l (frzT o evs)) l := NoD.frz upd_same ho
      exact q _ _ ps ((p6.trans (Aft.of p6.2 k1)).trans (Aft.of (p6.2.kp k1) k2)) (.m (SqT.of upd_same) (n1.kb k2 Lsts.nil) (k2.sqT Lsts.nil s1) (DtAll.kb k2 Lsts.nil (DtAll.kb k1 Lsts.nil p4))) ⟨by omega, p2, p3⟩
theorem c_law_valueN (D : DefAt K mg "_law_value" s_law_value ["box"]) (c__law_draw : Cal P w K mg base CX0 1 "_law_draw" ["box", "many"] spDraw) (c__law_scalar : Cal P w K mg base CX0 3 "_law_scalar" ["box"] (spScalar K)) (c__law_map : Cal P w K mg base CX0 4 "_law_map" ["box"] (Rw.spMapN K)) :
    Cal P w K mg base CX0 5 "_law_value" ["box"] (Rw.spValN K) := by
  refine D.cal (k := 4) sc_law_value (fun vs H Q E h => ?_) fun f cdv A outer s H vs Q E hr h => ?_
  · obtain ⟨bx, d, rfl, _⟩ := h
    rfl
  · obtain ⟨bx, d, rfl, hb, q⟩ := h
    refine ⟨_, (pss_cons (ps_if (pt_cmpR op_eq (pe_cal (c__law_draw.mono (by omega)) hr (by rfl) (pa_cons (pv 0) (pa_cons pe_int pa_nil))) pe_int (nomark _)) (pss_one (ps_ret (pe_cal (c__law_map.mono (by omega)) hr (by rfl) (pa_cons (pv 0) pa_nil)))) pss_nil)
  (pss_one (ps_ret (pe_cal (c__law_scalar.mono (by omega)) hr (by rfl) (pa_cons (pv 0) pa_nil))))), ?_⟩
    refine ⟨.ref bx, rfl, bx, d, 3, rfl, by decide, hb, fun H1 r1 a1 g1 l1 => ⟨rfl, _, rfl, ?_⟩⟩
    refine iteC ?_ ?_
    · exact ⟨.ref bx, rfl, bx, d, rfl, a1.2, fun H2 v ps a2 hv g => q H2 v (.m ps) (a1.trans a2) hv g⟩
    · exact ⟨.ref bx, rfl, bx, d, rfl, a1.2, fun H2 v s a2 hv g => q H2 v (.s s) (a1.trans a2) (.s hv) g⟩
end
end Rv

namespace Gd
open PySem PySem.Spec PyProof.Rows L2 GxR Gx
theorem hu1 {k : Nat} {A : Around} (hr : RoomG k A) : A.units + 1 < cLine := by have := hr.r.un; omega
theorem iteQ {p : Prop} [Decidable p] {A B : Prop} (h1 : A) (h2 : B) : if decide p = true then A else B := by
  by_cases h : p
  · rw [if_pos (decide_eq_true h)]; exact h1
  · rw [if_neg (by simpa using h)]; exact h2
end Gd
/-! Expressions, as the laws draw them. -/
namespace Rw
open PySem PySem.Spec PyProof.Rows L2 GxR Gx Gd Rx Rs
abbrev s_law_functions : Stmt := topS 53
theorem sc_law_functions : FnScope ["rows"] [] (defScope s_law_functions) := ⟨rfl, rfl, rfl, by decide +kernel, rfl, by decide +kernel, by decide +kernel⟩
abbrev s_law_leaf : Stmt := topS 54
theorem sc_law_leaf : FnScope ["box", "names", "kind"] ["box", "names", "kind"] (defScope s_law_leaf) := ⟨rfl, rfl, rfl, by decide +kernel, rfl, by decide +kernel, by decide +kernel⟩
abbrev s_law_expression : Stmt := topS 55
theorem sc_law_expression : FnScope ["box", "names", "kind", "depth", "left", "gives", "rows", "name", "kinds", "one"] ["box", "names", "kind", "depth", "left"] (defScope s_law_expression) := ⟨rfl, rfl, rfl, by decide +kernel, rfl, by decide +kernel, by decide +kernel⟩
abbrev GV := Rv.GV
abbrev Box := Rv.Box
abbrev Aft := Rv.Aft
mutual
def GoodE (ns : List Str) : Ex → Prop
  | .lit v => Rv.GV v
  | .var l => sx l ∈ ns
  | .call f es => f ∈ funs ∧ es.length = arity f ∧ GoodEs ns es
  | .inj l e => (l = cs "ctx" ∨ l = cs "tone") ∧ GoodE ns e
def GoodEs (ns : List Str) : List Ex → Prop
  | [] => True
  | e :: es => GoodE ns e ∧ GoodEs ns es
end
theorem goodEs_iff {ns : List Str} : ∀ {es : List Ex}, GoodEs ns es ↔ ∀ e ∈ es, GoodE ns e
  | [] => ⟨(fun _ _ h => by cases h), fun _ => trivial⟩
  | e :: es => by
    constructor
    · rintro ⟨h1, h2⟩ x hx
      rcases List.mem_cons.mp hx with rfl | hx
      · exact h1
      · exact goodEs_iff.mp h2 x hx
    · exact fun h => ⟨h e List.mem_cons_self, goodEs_iff.mpr fun x hx => h x (List.mem_cons_of_mem _ hx)⟩
theorem goodEs_snoc {ns : List Str} {es : List Ex} {e : Ex} (h1 : GoodEs ns es) (h2 : GoodE ns e) : GoodEs ns (es ++ [e]) := goodEs_iff.mpr fun x hx => by
  rcases List.mem_append.mp hx with h | h
  · exact goodEs_iff.mp h1 x h
  · rw [List.mem_singleton.mp h]; exact h2
def kindL : List (String × String) := [("not", "b"), ("size", "m"), ("reverse", "m"), ("add", "ii"), ("sub", "ii"), ("lt", "ii"), ("eq", "vv"), ("and", "bb"), ("concat", "ss"), ("has", "mk"), ("get", "mk"), ("remove", "mk"), ("take", "mi"), ("put", "mks"), ("cond", "bvv"), ("resource", "t")]
def kindD : List PyData := kindL.map fun p => .tuple [.str (Str.ofString p.1), .str (Str.ofString p.2)]
def spFuns (K : PySem.W.Frag) : Sp := fun vs H Q _ => vs = [] ∧ ∀ H' p xs, Kp H H' → H' p = some (.lst xs) → DtAll K H' xs kindD → Q (.ref p) H'
def spLeaf (K : PySem.W.Frag) : Sp := fun vs H Q _ => ∃ (bx d nm : Addr) (ns : List Str) (kd : Str), vs = [.ref bx, .ref nm, .str kd] ∧ Box bx d H ∧ H nm = some (.lst (ns.map V.str)) ∧ nm ≠ bx ∧ ns ≠ [] ∧ ns.length ≤ 10 ∧ ∀ H' v e, Aft bx d H H' → DtE K H' v e → GoodE ns e → e.calls = 0 → e.deep = 0 → Q v H'
section
variable {P : Program} {w : World} {K : PySem.W.Frag} {mg : Str → Option Value} {base : Heap}
theorem c_law_functions (D : DefAt K mg "_law_functions" s_law_functions []) : Cal P w K mg base CX0 1 "_law_functions" [] (spFuns K) := by
  refine D.cal (k := 0) sc_law_functions (fun vs H Q E h => ?_) fun f cdv A outer s H vs Q E hr h => ?_
  · obtain ⟨rfl, _⟩ := h
    rfl
  · obtain ⟨rfl, q⟩ := h
    refine ⟨_, (pss_cons (ps_set (i := 0) sc_law_functions.nd rfl (Or.inl rfl) (pe_lst (pa_cons (pe_tup (pa_cons pe_str (pa_cons pe_str pa_nil))) (pa_cons (pe_tup (pa_cons pe_str (pa_cons pe_str pa_nil))) (pa_cons (pe_tup (pa_cons pe_str (pa_cons pe_str pa_nil))) (pa_cons (pe_tup (pa_cons pe_str (pa_cons pe_str pa_nil))) (pa_cons (pe_tup (pa_cons pe_str (pa_cons pe_str pa_nil))) (pa_cons (pe_tup (pa_cons pe_str (pa_cons pe_str pa_nil))) (pa_cons (pe_tup (pa_cons pe_str (pa_cons pe_str pa_nil))) (pa_cons (pe_tup (pa_cons pe_str (pa_cons pe_str pa_nil))) pa_nil))))))))))
  (pss_cons (ps_set (i := 0) sc_law_functions.nd rfl (Or.inl rfl) (pe_op op_cat (pv 0) (pe_lst (pa_cons (pe_tup (pa_cons pe_str (pa_cons pe_str pa_nil))) (pa_cons (pe_tup (pa_cons pe_str (pa_cons pe_str pa_nil))) (pa_cons (pe_tup (pa_cons pe_str (pa_cons pe_str pa_nil))) (pa_cons (pe_tup (pa_cons pe_str (pa_cons pe_str pa_nil))) (pa_cons (pe_tup (pa_cons pe_str (pa_cons pe_str pa_nil))) (pa_cons (pe_tup (pa_cons pe_str (pa_cons pe_str pa_nil))) pa_nil)))))))))
  (pss_one (ps_ret (pe_op op_cat (pv 0) (pe_lst (pa_cons (pe_tup (pa_cons pe_str (pa_cons pe_str pa_nil))) (pa_cons (pe_tup (pa_cons pe_str (pa_cons pe_str pa_nil))) pa_nil)))))))), ?_⟩
    refine o_asg (mk_lst (K := K) (ds := kindD.take 8) ?_ (by decide) fun vs1 p1 H1 k1 n1 e1 d1 => ?_)
    · repeat first | exact mk_nil | exact mk_str | refine mk_cons ?_ ?_ | refine mk_tup ?_ (by decide)
    refine ⟨.ref p1, rfl, mk_lst (K := K) (ds := (kindD.drop 8).take 6) ?_ (by decide) fun vs2 p2 H2 k2 n2 e2 d2 => ?_⟩
    · repeat first | exact mk_nil | exact mk_str | refine mk_cons ?_ ?_ | refine mk_tup ?_ (by decide)
    have hz : ∀ {n m : Nat}, n ≤ 64 → m ≤ 64 → n + m ≤ sizeLine := fun {n m} a b => by
      have : sizeLine = 16777216 := rfl
      omega
    have l1 : vs1.length = 8 := d1.length
    have l2 : vs2.length = 6 := d2.length
    refine ⟨p1, p2, vs1, vs2, rfl, rfl, k2.keep _ _ e1 (by simp) nt_lst, e2, hz (by omega) (by omega), fun p3 n3 => ?_⟩
    have k3 : Kp H2 (upd H2 p3 (.lst (vs1 ++ vs2))) := Kb.new n3
    have d3 := DtAll.kb k3 Lsts.nil (DtAll.app (DtAll.kb k2 Lsts.nil d1) d2)
    have e3 : (upd H2 p3 (.lst (vs1 ++ vs2))) p3 = some (.lst (vs1 ++ vs2)) := upd_same
    have k03 := (k1.trans k2).trans k3
    refine ⟨.ref p3, rfl, mk_lst (K := K) (ds := kindD.drop 14) ?_ (by decide) fun vs4 p4 H4 k4 n4 e4 d4 => ?_⟩
    · repeat first | exact mk_nil | exact mk_str | refine mk_cons ?_ ?_ | refine mk_tup ?_ (by decide)
    have l4 : vs4.length = 2 := d4.length
    have l3 : (vs1 ++ vs2).length = 14 := by rw [List.length_append]; omega
    refine ⟨p3, p4, _, vs4, rfl, rfl, k4.keep _ _ e3 (by simp) nt_lst, e4, hz (by omega) (by omega), fun p5 n5 => ?_⟩
    have k5 : Kp H4 (upd H4 p5 (.lst ((vs1 ++ vs2) ++ vs4))) := Kb.new n5
    exact q _ p5 _ ((k03.trans k4).trans k5) upd_same (DtAll.kb k5 Lsts.nil (DtAll.app (DtAll.kb k4 Lsts.nil d3) d4))
theorem three {a b c : V} {r : Int} (h0 : 0 ≤ r) (h3 : r < 3) : ∃ y, atI [a, b, c] r = some y ∧ (y = a ∨ y = b ∨ y = c) := by
  obtain h | h | h : r = 0 ∨ r = 1 ∨ r = 2 := by omega
  · subst h; exact ⟨_, atI_nat (j := 0) rfl, .inl rfl⟩
  · subst h; exact ⟨_, atI_nat (j := 1) rfl, .inr (.inl rfl)⟩
  · subst h; exact ⟨_, atI_nat (j := 2) rfl, .inr (.inr rfl)⟩
theorem lit_end {H : Hp} {p : Addr} {v : V} {x : Va} (hp : H p = none) (hv : DtV K H v x) : Kp H (upd H p (.tup [.str (Str.ofString "literal"), v])) ∧ DtE K (upd H p (.tup [.str (Str.ofString "literal"), v])) (.ref p) (.lit x.d) :=
  ⟨Kb.new hp, .lit (SqT.of upd_same) (hv.kb (Kb.new hp) Lsts.nil)⟩
theorem c_law_leaf (D : DefAt K mg "_law_leaf" s_law_leaf ["box", "names", "kind"]) (m_len : mg "len" = none) (m_int : mg "int" = none) (c__law_draw : Cal P w K mg base CX0 1 "_law_draw" ["box", "many"] Rv.spDraw) (c__law_scalar : Cal P w K mg base CX0 3 "_law_scalar" ["box"] (Rv.spScalar K)) (c__law_map : Cal P w K mg base CX0 4 "_law_map" ["box"] (spMapN K)) (c__law_value : Cal P w K mg base CX0 5 "_law_value" ["box"] (spValN K)) :
    Cal P w K mg base CX0 6 "_law_leaf" ["box", "names", "kind"] (spLeaf K) := by
  refine D.cal (k := 5) sc_law_leaf (fun vs H Q E h => ?_) fun f cdv A outer s H vs Q E hr h => ?_
  · obtain ⟨bx, d, nm, ns, kd, rfl, _⟩ := h
    rfl
  · obtain ⟨bx, d, nm, ns, kd, rfl, hb, hn, hne, hnil, hl, q⟩ := h
    refine ⟨_, (pss_cons (ps_if (PW.pt (pw_and (pt_cmpR op_gt (pe_callB call_len_seq (by rfl) m_len (by decide +kernel) (pa_cons (pv 1) pa_nil)) pe_int (nomark _)) (pw_and1 (pt_cmpR op_eq (pe_cal (c__law_draw.mono (by omega)) hr (by rfl) (pa_cons (pv 0) (pa_cons pe_int pa_nil))) pe_int (nomark _))))) (pss_one (ps_ret (pe_tup (pa_cons pe_str (pa_cons (pe_ix ix_list (pv 1) (pe_op op_mod (pe_callTy call_int1 (by rfl) m_int (by decide +kernel) (pa_cons (pe_cal (c__law_draw.mono (by omega)) hr (by rfl) (pa_cons (pv 0) (pa_cons pe_int pa_nil))) pa_nil)) (pe_callB call_len_seq (by rfl) m_len (by decide +kernel) (pa_cons (pv 1) pa_nil))) (fun _ _ => rfl)) pa_nil))))) pss_nil)
  (pss_cons (ps_if (pt_cmpR op_eq (pe_cal (c__law_draw.mono (by omega)) hr (by rfl) (pa_cons (pv 0) (pa_cons pe_int pa_nil))) pe_int (nomark _)) (pss_one (ps_ret (pe_tup (pa_cons pe_str (pa_cons (pe_cal (c__law_value.mono (by omega)) hr (by rfl) (pa_cons (pv 0) pa_nil)) pa_nil))))) pss_nil)
  (pss_cons (ps_if (pt_cmpR op_eq (pv 2) pe_str (nomark _)) (pss_one (ps_ret (pe_tup (pa_cons pe_str (pa_cons (pe_tup (pa_cons pe_str (pa_cons (pe_cmpR op_eq (pe_cal (c__law_draw.mono (by omega)) hr (by rfl) (pa_cons (pv 0) (pa_cons pe_int pa_nil))) pe_int (nomark _)) pa_nil))) pa_nil))))) pss_nil)
  (pss_cons (ps_if (pt_cmpR op_eq (pv 2) pe_str (nomark _)) (pss_one (ps_ret (pe_tup (pa_cons pe_str (pa_cons (pe_cal (c__law_map.mono (by omega)) hr (by rfl) (pa_cons (pv 0) pa_nil)) pa_nil))))) pss_nil)
  (pss_cons (ps_if (pt_cmpR op_eq (pv 2) pe_str (nomark _)) (pss_one (ps_ret (pe_tup (pa_cons pe_str (pa_cons (pe_tup (pa_cons pe_str (pa_cons (pe_ix ix_list (pe_lst (pa_cons (pe_cal (c__law_draw.mono (by omega)) hr (by rfl) (pa_cons (pv 0) (pa_cons pe_int pa_nil))) (pa_cons pe_int (pa_cons pe_int pa_nil)))) (pe_cal (c__law_draw.mono (by omega)) hr (by rfl) (pa_cons (pv 0) (pa_cons pe_int pa_nil))) (fun _ _ => rfl)) pa_nil))) pa_nil))))) pss_nil)
  (pss_cons (ps_if (pt_cmpR op_eq (pv 2) pe_str (nomark _)) (pss_one (ps_ret (pe_tup (pa_cons pe_str (pa_cons (pe_tup (pa_cons pe_str (pa_cons (pe_ix ix_list (pe_lst (pa_cons pe_str (pa_cons pe_str (pa_cons pe_str (pa_cons pe_str pa_nil))))) (pe_cal (c__law_draw.mono (by omega)) hr (by rfl) (pa_cons (pv 0) (pa_cons pe_int pa_nil))) (fun _ _ => rfl)) pa_nil))) pa_nil))))) pss_nil)
  (pss_cons (ps_if (pt_cmpR op_eq (pv 2) pe_str (nomark _)) (pss_one (ps_ret (pe_tup (pa_cons pe_str (pa_cons (pe_tup (pa_cons pe_str (pa_cons (pe_ix ix_list (pe_lst (pa_cons pe_str (pa_cons pe_str (pa_cons pe_str pa_nil)))) (pe_cal (c__law_draw.mono (by omega)) hr (by rfl) (pa_cons (pv 0) (pa_cons pe_int pa_nil))) (fun _ _ => rfl)) pa_nil))) pa_nil))))) pss_nil)
  (pss_cons (ps_if (pt_cmpR op_eq (pv 2) pe_str (nomark _)) (pss_one (ps_ret (pe_tup (pa_cons pe_str (pa_cons (pe_cal (c__law_scalar.mono (by omega)) hr (by rfl) (pa_cons (pv 0) pa_nil)) pa_nil))))) pss_nil)
  (pss_one (ps_ret (pe_tup (pa_cons pe_str (pa_cons (pe_cal (c__law_value.mono (by omega)) hr (by rfl) (pa_cons (pv 0) pa_nil)) pa_nil))))))))))))), ?_⟩
    have sz : sizeLine = 16777216 := rfl
    have hpos : 0 < ns.length := List.length_pos_iff.mpr hnil
    -- a literal with a value
    have lit : ∀ (H1 : Hp) (v : V) (x : Va), Aft bx d H H1 → DtV K H1 v x → x.good → (2 ≤ sizeLine ∧ ∀ p, H1 p = none → Q (.ref p) (upd H1 p (.tup [.str (Str.ofString "literal"), v]))) := fun H1 v x a hv g => ⟨by decide, fun p hp => by
      obtain ⟨k1, d1⟩ := lit_end (K := K) hp hv
      exact q _ _ (.lit x.d) (a.trans (Rv.Aft.of a.2 k1)) d1 g.gv rfl rfl⟩
    -- a literal of a kind
    have litS : ∀ (H1 : Hp) (s : Rv.Sc) (wd : String) (v : V) (y : PyData), Aft bx d H H1 → Rv.Sc.d s = .tuple [.str (Str.ofString wd), y] → Dt K H1 v y → s.good → (2 ≤ sizeLine ∧ ∀ p, H1 p = none → (2 ≤ sizeLine ∧ ∀ p2, upd H1 p (.tup [.str (Str.ofString wd), v]) p2 = none → Q (.ref p2) (upd (upd H1 p (.tup [.str (Str.ofString wd), v])) p2 (.tup [.str (Str.ofString "literal"), .ref p])))) := fun H1 s wd v y a e hv g => ⟨by decide, fun p hp => by
      obtain ⟨k1, d1⟩ := new_pair (K := K) hp (.str (Str.ofString wd)) hv
      rw [← e] at d1
      exact lit _ _ (.s s) (a.trans (Rv.Aft.of a.2 k1)) (.s d1) g⟩
    refine ⟨_, rfl, nm, _, rfl, .inl (.inl (.inl hn)), _, _, rfl, rfl, _, rfl, iteP (by rw [List.length_map]; omega) ⟨.ref bx, rfl, bx, d, 3, rfl, by decide, hb, fun H1 r1 a1 g1 l1 => ⟨rfl, _, rfl, iteQ ?_ ?_⟩⟩⟩
    · have e1 := a1.lst hn hne
      refine ⟨_, rfl, .ref bx, rfl, bx, d, 90, rfl, by decide, a1.2, fun H2 r2 a2 g2 l2 => .inl ⟨_, rfl, _, rfl, nm, _, rfl, .inl (.inl (.inl (a2.lst e1 hne))), _, _, rfl, rfl, by rw [List.length_map]; omega, ?_⟩⟩
      have e2 := a2.lst e1 hne
      have a12 := a1.trans a2
      rw [List.length_map]
      have q1 := Int.emod_nonneg r2 (show (ns.length : Int) ≠ 0 by omega)
      have q2 := Int.emod_lt_of_pos r2 (show (0 : Int) < (ns.length : Int) by omega)
      obtain ⟨j, hm⟩ : ∃ j : Nat, r2 % (ns.length : Int) = j := ⟨(r2 % (ns.length : Int)).toNat, by omega⟩
      have hj : j < ns.length := by omega
      have hat : (ns.map V.str)[j]? = some (.str ns[j]) := by rw [List.getElem?_map, List.getElem?_eq_getElem hj]; rfl
      refine ⟨nm, _, _, .str ns[j], rfl, rfl, .inl (.inl e2), (by rw [hm]; exact atI_nat hat), by show 2 ≤ sizeLine; decide, fun p hp => ?_⟩
      have k1 : Kp H2 (upd H2 p (.tup [.str (Str.ofString "variable"), .str ns[j]])) := Kb.new hp
      exact q _ _ (.var ns[j].cps.toList) (a12.trans (Rv.Aft.of a12.2 k1)) (.var (by rw [sx_of]; exact SqT.of upd_same)) (by show sx _ ∈ ns; rw [sx_of]; exact List.getElem_mem hj) rfl rfl
    · refine ⟨.ref bx, rfl, bx, d, 12, rfl, by decide, a1.2, fun H2 r2 a2 g2 l2 => ⟨rfl, _, rfl, iteQ ?_ ?_⟩⟩
      · exact ⟨.ref bx, rfl, bx, d, rfl, a2.2, fun H3 v dt a3 hv g => lit H3 v dt ((a1.trans a2).trans a3) hv g⟩
      have a12 := a1.trans a2
      clear a1 a2
      refine ⟨_, rfl, rfl, _, rfl, iteQ ?_ ⟨_, rfl, rfl, _, rfl, iteQ ?_ ⟨_, rfl, rfl, _, rfl, iteQ ?_ ⟨_, rfl, rfl, _, rfl, iteQ ?_ ⟨_, rfl, rfl, _, rfl, iteQ ?_ ⟨_, rfl, rfl, _, rfl, iteQ ?_ ?_⟩⟩⟩⟩⟩⟩
      · exact ⟨.ref bx, rfl, bx, d, 2, rfl, by decide, a12.2, fun H3 r3 a3 g3 l3 => ⟨rfl, litS H3 (.bool _) "bool" _ _ (a12.trans a3) rfl (.bl _) trivial⟩⟩
      · exact ⟨.ref bx, rfl, bx, d, rfl, a12.2, fun H3 v ps a3 hv g => lit H3 v (.m ps) (a12.trans a3) hv g⟩
      · refine ⟨.ref bx, rfl, bx, d, 5, rfl, by decide, a12.2, fun H3 r3 a3 g3 l3 => ⟨by show 3 ≤ sizeLine; decide, fun p hp => ?_⟩⟩
        have a4 := (a12.trans a3).trans (Rv.Aft.new (o := .lst [.int r3, .int 999999, .int 500000]) (a12.trans a3).2 hp)
        refine ⟨.ref bx, rfl, bx, d, 3, rfl, by decide, a4.2, fun H5 r5 a5 g5 l5 => ?_⟩
        obtain ⟨y, hy, hc⟩ := three (a := .int r3) (b := .int 999999) (c := .int 500000) g5 l5
        refine ⟨p, _, _, y, rfl, rfl, .inl (.inl (a5.lst upd_same ((a12.trans a3).2.new hp).1)), hy, ?_⟩
        rcases hc with rfl | rfl | rfl
        · exact litS H5 (.int _) "int" _ _ (a4.trans a5) rfl (.int _) ⟨g3, by omega⟩
        · exact litS H5 (.int _) "int" _ _ (a4.trans a5) rfl (.int _) ⟨by decide, by decide⟩
        · exact litS H5 (.int _) "int" _ _ (a4.trans a5) rfl (.int _) ⟨by decide, by decide⟩
      · refine ⟨by show 4 ≤ sizeLine; decide, fun p hp => ?_⟩
        have a4 := a12.trans (Rv.Aft.new (o := .lst [.str (Str.ofString "a"), .str (Str.ofString "b"), .str (Str.ofString "tea"), .str (Str.ofString "zz")]) a12.2 hp)
        refine ⟨.ref bx, rfl, bx, d, 4, rfl, by decide, a4.2, fun H5 r5 a5 g5 l5 => ?_⟩
        have hl := a5.lst upd_same (a12.2.new hp).1
        obtain h | h | h | h : r5 = 0 ∨ r5 = 1 ∨ r5 = 2 ∨ r5 = 3 := by omega
        · subst h; exact ⟨p, _, _, _, rfl, rfl, .inl (.inl hl), atI_nat (j := 0) rfl, litS H5 (.text _) "text" _ _ (a4.trans a5) rfl (.str _) ⟨by decide +kernel, by decide +kernel⟩⟩
        · subst h; exact ⟨p, _, _, _, rfl, rfl, .inl (.inl hl), atI_nat (j := 1) rfl, litS H5 (.text _) "text" _ _ (a4.trans a5) rfl (.str _) ⟨by decide +kernel, by decide +kernel⟩⟩
        · subst h; exact ⟨p, _, _, _, rfl, rfl, .inl (.inl hl), atI_nat (j := 2) rfl, litS H5 (.text _) "text" _ _ (a4.trans a5) rfl (.str _) ⟨by decide +kernel, by decide +kernel⟩⟩
        · subst h; exact ⟨p, _, _, _, rfl, rfl, .inl (.inl hl), atI_nat (j := 3) rfl, litS H5 (.text _) "text" _ _ (a4.trans a5) rfl (.str _) ⟨by decide +kernel, by decide +kernel⟩⟩
      · refine ⟨by show 3 ≤ sizeLine; decide, fun p hp => ?_⟩
        have a4 := a12.trans (Rv.Aft.new (o := .lst [.str (Str.ofString "r"), .str (Str.ofString "news"), .str (Str.ofString "")]) a12.2 hp)
        refine ⟨.ref bx, rfl, bx, d, 3, rfl, by decide, a4.2, fun H5 r5 a5 g5 l5 => ?_⟩
        have hl := a5.lst upd_same (a12.2.new hp).1
        obtain h | h | h : r5 = 0 ∨ r5 = 1 ∨ r5 = 2 := by omega
        · subst h; exact ⟨p, _, _, _, rfl, rfl, .inl (.inl hl), atI_nat (j := 0) rfl, litS H5 (.text _) "text" _ _ (a4.trans a5) rfl (.str _) ⟨by decide +kernel, by decide +kernel⟩⟩
        · subst h; exact ⟨p, _, _, _, rfl, rfl, .inl (.inl hl), atI_nat (j := 1) rfl, litS H5 (.text _) "text" _ _ (a4.trans a5) rfl (.str _) ⟨by decide +kernel, by decide +kernel⟩⟩
        · subst h; exact ⟨p, _, _, _, rfl, rfl, .inl (.inl hl), atI_nat (j := 2) rfl, litS H5 (.text _) "text" _ _ (a4.trans a5) rfl (.str _) ⟨by decide +kernel, by decide +kernel⟩⟩
      · exact ⟨.ref bx, rfl, bx, d, rfl, a12.2, fun H3 v s a3 hv g => lit H3 v (.s s) (a12.trans a3) (.s hv) g⟩
      · exact ⟨.ref bx, rfl, bx, d, rfl, a12.2, fun H3 v dt a3 hv g => lit H3 v dt (a12.trans a3) hv g⟩
end
end Rw

namespace Gd
open PySem PySem.Spec PyProof.Rows L2 GxR Gx
theorem putK_mem {kvs : List (Key × V)} {k : Key} {v : V} : ∀ p ∈ putK kvs k v, p ∈ kvs ∨ p.2 = v := fun p hp => by
  unfold putK at hp
  split at hp
  · obtain ⟨q, hq, e⟩ := List.mem_map.mp hp
    split at e
    · exact .inr (by rw [← e])
    · exact .inl (e ▸ hq)
  · rcases List.mem_append.mp hp with h | h
    · exact .inl h
    · exact .inr (by rw [List.mem_singleton.mp h])
theorem mergeK_mem : ∀ {more kvs : List (Key × V)}, ∀ p ∈ mergeK kvs more, p ∈ kvs ∨ p.2 ∈ more.map (·.2)
  | [], kvs, p, hp => .inl hp
  | m :: more, kvs, p, hp => by
    have hp : p ∈ mergeK (putK kvs m.1 m.2) more := hp
    rcases mergeK_mem p hp with h | h
    · rcases putK_mem p h with h | h
      · exact .inl h
      · exact .inr (by rw [h]; exact List.mem_cons_self)
    · exact .inr (List.mem_cons_of_mem _ h)
theorem valV_mem {kvs : List (Key × V)} {k : Key} {v : V} (h : valV kvs k = some v) : ∃ p ∈ kvs, p.2 = v := by
  unfold valV at h
  cases e : kvs.find? fun kv => decide (kv.1 = k) with
  | none => rw [e] at h; cases h
  | some p =>
    rw [e] at h
    exact ⟨p, List.mem_of_find?_eq_some e, Option.some.inj h⟩
/-- a value of a written dict, or the other one -/
theorem get_merge {more : List (Key × V)} {k : Key} {z : V} {R : V → Prop} (hz : R z) (hm : ∀ p ∈ more, R p.2) : R ((valV (mergeK [] more) k).getD z) := by
  cases e : valV (mergeK [] more) k with
  | none => exact hz
  | some v =>
    obtain ⟨p, hp, rfl⟩ := valV_mem e
    rcases mergeK_mem p hp with h | h
    · cases h
    · obtain ⟨q, hq, e⟩ := List.mem_map.mp h
      exact e ▸ hm q hq
end Gd
namespace Rw
open PySem PySem.Spec PyProof.Rows L2 GxR Gx Gd Rx Rs
/-- what the drawing of an expression needs: the digits, the names, how many calls are left -/
structure Exs (bx d nm lf : Addr) (ns : List Str) (c : Nat) (H : Hp) : Prop where
  b : Box bx d H
  n : H nm = some (.lst (ns.map V.str))
  l : H lf = some (.lst [.int (c : Int)])
  ne : ns ≠ []
  ld : lf ≠ d
section
variable {bx d nm lf : Addr} {ns : List Str} {c : Nat} {H H' : Hp}
theorem Exs.lb (h : Exs bx d nm lf ns c H) : lf ≠ bx := fun z => by
  obtain ⟨xs, a, e, _⟩ := h.b
  have := h.l
  rw [z, e] at this
  cases this
theorem Exs.nb (h : Exs bx d nm lf ns c H) : nm ≠ bx := fun z => by
  obtain ⟨xs, a, e, _⟩ := h.b
  have hn := h.n
  rw [z, e] at hn
  cases ns with
  | nil => exact h.ne rfl
  | cons x r => cases hn
theorem Exs.nl (h : Exs bx d nm lf ns c H) : nm ≠ lf := fun z => by
  have hn := h.n
  rw [z, h.l] at hn
  cases ns with
  | nil => exact h.ne rfl
  | cons x r => cases hn
theorem Exs.lsts (h : Exs bx d nm lf ns c H) : Lsts [bx, lf] H := fun b hb => by
  rcases List.mem_cons.mp hb with rfl | hb
  · obtain ⟨xs, a, e, _⟩ := h.b
    exact ⟨_, e⟩
  · rw [List.mem_singleton.mp hb]
    exact ⟨_, h.l⟩
theorem Exs.aft (h : Exs bx d nm lf ns c H) (a : Aft bx d H H') : Exs bx d nm lf ns c H' := ⟨a.2, a.lst h.n h.nb, a.lst h.l h.lb, h.ne, h.ld⟩
theorem Exs.kp (h : Exs bx d nm lf ns c H) (k : Kp H H') : Exs bx d nm lf ns c H' := ⟨h.b.kp k, k.keep _ _ h.n (by simp) nt_lst, k.keep _ _ h.l (by simp) nt_lst, h.ne, h.ld⟩
theorem Exs.upd {D : Addr} {o : HO} (h : Exs bx d nm lf ns c H) (n1 : D ≠ bx) (n2 : D ≠ d) (n3 : D ≠ nm) (n4 : D ≠ lf) : Exs bx d nm lf ns c (upd H D o) := ⟨h.b.upd n1 n2, by rw [upd_ne n3.symm]; exact h.n, by rw [upd_ne n4.symm]; exact h.l, h.ne, h.ld⟩
theorem Exs.new {D : Addr} (h : Exs bx d nm lf ns c H) (n : H D = none) : D ≠ bx ∧ D ≠ d ∧ D ≠ nm ∧ D ≠ lf := by
  obtain ⟨n1, n2⟩ := h.b.new n
  exact ⟨n1, n2, (ne_of_none h.n n).symm, (ne_of_none h.l n).symm⟩
theorem kb_aft (a : Aft bx d H H') : Kb [bx, lf] H H' := a.1.mono fun b hb => by rw [List.mem_singleton.mp hb]; simp
end
/-- rows of functions -/
def Rws (H : Hp) (r : Addr) : Prop := ∃ js : List Nat, H r = some (.lst (js.map fun j : Nat => V.int (j : Int))) ∧ js ≠ [] ∧ js.length ≤ 16 ∧ ∀ j ∈ js, j < 16
theorem Rws.aft {bx d : Addr} {H H' : Hp} {r : Addr} (h : Rws H r) (b : Box bx d H) (a : Aft bx d H H') : Rws H' r := by
  obtain ⟨js, e, n, l, q⟩ := h
  refine ⟨js, a.lst e fun z => ?_, n, l, q⟩
  obtain ⟨xs, at', e2, _⟩ := b
  rw [z, e2] at e
  cases js with
  | nil => exact n rfl
  | cons j js => cases e
theorem Rws.kp {H H' : Hp} {r : Addr} (h : Rws H r) (k : Kp H H') : Rws H' r := by
  obtain ⟨js, e, n⟩ := h
  exact ⟨js, k.keep _ _ e (by simp) nt_lst, n⟩
theorem rws16 : rgV 0 16 = (List.range 16).map fun j : Nat => V.int (j : Int) := by
  unfold rgV
  refine List.map_congr_left fun j hj => ?_
  rw [Int.zero_add]
theorem rws_rg {H : Hp} {r : Addr} (h : H r = some (.lst (rgV 0 16))) : Rws H r := ⟨List.range 16, by rw [h, rws16], by decide, by decide, fun j hj => List.mem_range.mp hj⟩
def spExpr (K : PySem.W.Frag) (m : Nat) : Sp := fun vs H Q _ => ∃ (bx d nm lf : Addr) (ns : List Str) (kd : Str) (n c : Nat), vs = [.ref bx, .ref nm, .str kd, .int (n : Int), .ref lf] ∧ n ≤ m ∧ ns.length ≤ 10 ∧ c ≤ 10 ∧ Exs bx d nm lf ns c H ∧
  ∀ H' v e, Kb [bx, lf] H H' → Exs bx d nm lf ns (c - e.calls) H' → e.calls ≤ c → e.deep ≤ n → GoodE ns e → DtE K H' v e → Q v H'
def prevX (K : PySem.W.Frag) : Nat → Sp
  | 0 => fun _ _ _ _ => False
  | m + 1 => spExpr K m
theorem kinds_ok : kindL.all (fun p => decide (cs p.1 ∈ funs) && (decide ((Str.ofString p.2).cps.size = arity (cs p.1)) && decide (arity (cs p.1) ≤ 3))) = true := by decide +kernel
theorem kind_at {K : PySem.W.Frag} {H : Hp} {xs : List V} {j : Nat} (h : DtAll K H xs kindD) (hj : j < 16) : ∃ (t : Addr) (f kz : Str), xs[j]? = some (.ref t) ∧ SqT K H t [.str f, .str kz] ∧ f.cps.toList ∈ funs ∧ kz.cps.size = arity f.cps.toList ∧ kz.cps.size ≤ 3 := by
  have hl : j < kindL.length := hj
  obtain ⟨v, e, dv⟩ := h.at (i := j) (d := .tuple [.str (Str.ofString kindL[j].1), .str (Str.ofString kindL[j].2)]) (by unfold kindD; rw [List.getElem?_map, List.getElem?_eq_getElem hl]; rfl)
  have ok := List.all_eq_true.mp kinds_ok kindL[j] (List.getElem_mem hl)
  rw [Bool.and_eq_true, Bool.and_eq_true, decide_eq_true_eq, decide_eq_true_eq, decide_eq_true_eq] at ok
  obtain ⟨t, x, y, rfl, ht, hx, hy⟩ := dt_pair dv
  cases hx
  cases hy
  exact ⟨t, _, _, e, ht, ok.1, ok.2.1, by rw [ok.2.1]; exact ok.2.2⟩
section
variable {P : Program} {w : World} {K : PySem.W.Frag} {mg : Str → Option Value} {base : Heap}
theorem c_law_expression {m k : Nat} (hk : 6 ≤ k) (D : DefAt K mg "_law_expression" s_law_expression ["box", "names", "kind", "depth", "left"]) (m_len : mg "len" = none) (m_int : mg "int" = none) (m_list : mg "list" = none) (m_range : mg "range" = none) (m_tuple : mg "tuple" = none)
    (c__law_draw : Cal P w K mg base CX0 1 "_law_draw" ["box", "many"] Rv.spDraw) (c__law_leaf : Cal P w K mg base CX0 6 "_law_leaf" ["box", "names", "kind"] (spLeaf K)) (c__law_functions : Cal P w K mg base CX0 1 "_law_functions" [] (spFuns K))
    (c__law_expression : Cal P w K mg base CX0 k "_law_expression" ["box", "names", "kind", "depth", "left"] (prevX K m)) : Cal P w K mg base CX0 (k + 1) "_law_expression" ["box", "names", "kind", "depth", "left"] (spExpr K m) := by
  refine D.cal (k := k) sc_law_expression (fun vs H Q E h => ?_) fun f cdv A outer s H vs Q E hr h => ?_
  · obtain ⟨bx, d, nm, lf, ns, kd, n, c, rfl, _⟩ := h
    rfl
  · obtain ⟨bx, d, nm, lf, ns, kd, n, c, rfl, hn, hl, hc, hE, q⟩ := h
    have sz : sizeLine = 16777216 := rfl
    -- the end: a function, its arguments
    obtain ⟨t6, h6, q6⟩ : ∃ t, PSs (cxOf CX0 P w K mg base ["box", "names", "kind", "depth", "left", "gives", "rows", "name", "kinds", "one"] "_law_expression" (defScope s_law_expression) f cdv A outer s H E).nox ((defBody s_law_expression).drop 6) t ∧ ∀ (H1 : Hp) (r : Addr) (o5 o7 o8 o9 : Option V) (c' n' : Nat), Kb [bx, lf] H H1 → Exs bx d nm lf ns c' H1 → Rws H1 r → c' + 1 = c → n' + 1 = n →
        t { nx := fun _ H' => Q .non H', rt := Q } [some (.ref bx), some (.ref nm), some (.str kd), some (.int (n : Int)), some (.ref lf), o5, some (.ref r), o7, o8, o9] H1 := by
      refine ⟨_, (pss_cons (ps_asg (pe_ix ix_list (pe_cal0 (c__law_functions.mono (by omega)) hr (by rfl)) (pe_ix ix_list (pv 6) (pe_op op_mod (pe_callTy call_int1 (by rfl) m_int (by decide +kernel) (pa_cons (pe_cal (c__law_draw.mono (by omega)) hr (by rfl) (pa_cons (pv 0) (pa_cons pe_int pa_nil))) pa_nil)) (pe_callB call_len_seq (by rfl) m_len (by decide +kernel) (pa_cons (pv 6) pa_nil))) (fun _ _ => rfl)) (fun _ _ => rfl)) (pg_tup rfl (pgs_cons (pg_name (i := 7) sc_law_expression.nd rfl (Or.inl rfl)) (pgs_cons (pg_name (i := 8) sc_law_expression.nd rfl (Or.inl rfl)) pgs_nil))))
  (pss_one (ps_ret (pe_tup (pa_cons pe_str (pa_cons (pv 7) (pa_cons (pe_callTy call_tuple_of (by rfl) m_tuple (by decide +kernel) (pa_cons (pe_lc rfl sc_law_expression.nd (pi_str (pv 8)) (blkOk_by (own := [("one", 9)]) (N := ["box", "names", "kind", "depth", "left", "gives", "rows", "name", "kinds", "one"]) (sc := defScope s_law_expression) (by decide +kernel)) (fun _ _ _ _ _ => (pg_name (i := 9) sc_law_expression.nd rfl (Or.inl rfl))) (fun _ _ _ _ _ => pts_nil) (fun _ _ _ _ _ => (pe_cal (c__law_expression.mono (by omega)) hr (by rfl) (pa_cons (pv 0) (pa_cons (pv 1) (pa_cons (pv 9) (pa_cons (pe_op op_sub (pv 3) pe_int) (pa_cons (pv 4) pa_nil)))))))) pa_nil)) pa_nil))))))), fun H1 r o5 o7 o8 o9 c' n' k1 e1 w1 hc' hn' => ?_⟩
      obtain ⟨m', rfl⟩ : ∃ m', m = m' + 1 := ⟨m - 1, by omega⟩
      refine ⟨rfl, fun H2 p2 xs2 k2 l2 d2 => ?_⟩
      have e2 := e1.kp k2
      have w2 := w1.kp k2
      refine ⟨_, rfl, .ref bx, rfl, bx, d, 90, rfl, by decide, e2.b, fun H3 r3 a3 g3 l3 => .inl ⟨_, rfl, _, rfl, ?_⟩⟩
      have e3 := e2.aft a3
      obtain ⟨js, hr3, hne, hlen, hall⟩ := w2.aft e2.b a3
      have hpos : 0 < js.length := List.length_pos_iff.mpr hne
      refine ⟨r, _, rfl, .inl (.inl (.inl hr3)), _, _, rfl, rfl, by rw [List.length_map]; omega, ?_⟩
      have q1 := Int.emod_nonneg r3 (show (js.length : Int) ≠ 0 by omega)
      have q2 := Int.emod_lt_of_pos r3 (show (0 : Int) < (js.length : Int) by omega)
      obtain ⟨j, hm⟩ : ∃ j : Nat, r3 % (js.length : Int) = j := ⟨(r3 % (js.length : Int)).toNat, by omega⟩
      have hj : j < js.length := by omega
      have hat : (js.map fun j : Nat => V.int (j : Int))[j]? = some (.int (js[j] : Nat)) := by rw [List.getElem?_map, List.getElem?_eq_getElem hj]; rfl
      have hj16 := hall js[j] (List.getElem_mem hj)
      refine ⟨r, _, _, _, rfl, rfl, .inl (.inl hr3), (by rw [List.length_map, hm]; exact atI_nat hat), ?_⟩
      have d3 : DtAll K H3 xs2 kindD := DtAll.kb a3.1 e2.b.lsts d2
      obtain ⟨t, fz, kz, hx, ht, hf, hkz, hk3⟩ := kind_at d3 hj16
      have l3' : H3 p2 = some (.lst xs2) := a3.lst l2 fun z => by
        obtain ⟨ys, at', e, _⟩ := e2.b
        rw [z, e] at l2
        cases l2
        have := d2.length
        exact absurd (show (2 : Nat) = kindD.length from this) (by decide)
      refine ⟨p2, xs2, _, _, rfl, rfl, .inl (.inl l3'), atI_nat hx, t, _, rfl, ht, rfl, _, _, rfl, _, _, rfl, rfl, ?_⟩
      have k3 : Kb [bx, lf] H H3 := (k1.trans (Kb.of k2)).trans (kb_aft a3)
      refine ⟨_, rfl, .str kz, rfl, kz, rfl, fun D4 hD4 => ?_⟩
      obtain ⟨n1, n2, n3, n4⟩ := e3.new hD4
      refine lc_it walk_str (fun i H' => ∃ (es : List Ex) (acc : List V), es.length = i ∧ i ≤ 3 ∧ Kb [bx, lf] H3 H' ∧ Exs bx d nm lf ns (c' - Ex.callsAll es) H' ∧ Ex.callsAll es ≤ c' ∧ Ex.deepAll es ≤ n' ∧ GoodEs ns es ∧ H' D4 = some (.lst acc) ∧ DtEs K H' acc es)
        ⟨[], [], rfl, by decide, Kb.new hD4, by show Exs bx d nm lf ns (c' - 0) _; exact e3.upd n1 n2 n3 n4, Nat.zero_le _, Nat.zero_le _, trivial, upd_same, .nil⟩ (fun _ _ _ _ => trivial) ?_ ?_
      · rintro i x _ H4 hi ⟨es, acc, rfl, hi3, k4, e4, c4, dp4, g4, l4, d4⟩ ⟨rfl, cp, hcp, rfl⟩
        refine ⟨rfl, iteT (B := ∃ (es' : List Ex) (acc : List V), es'.length = es.length + 1 ∧ es.length + 1 ≤ 3 ∧ Kb [bx, lf] H3 H4 ∧ Exs bx d nm lf ns (c' - Ex.callsAll es') H4 ∧ Ex.callsAll es' ≤ c' ∧ Ex.deepAll es' ≤ n' ∧ GoodEs ns es' ∧ H4 D4 = some (.lst acc) ∧ DtEs K H4 acc es') ?_⟩
        refine ⟨_, rfl, _, rfl, _, rfl, _, rfl, _, _, rfl, rfl, _, rfl, ?_⟩
        refine ⟨bx, d, nm, lf, ns, _, n', c' - Ex.callsAll es, by show [V.ref bx, V.ref nm, V.str ⟨#[cp]⟩, V.int ((n : Int) - 1), V.ref lf] = _; rw [show (n : Int) - 1 = (n' : Int) by omega], by omega, hl, by omega, e4, fun H5 v e k5 e5 c5 dp5 g5 d5 => ?_⟩
        have l5 := k5.keep D4 _ l4 (by simp [n1, n4]) nt_lst
        have d45 := DtEs.kb k5 e4.lsts d4
        have hca : Ex.callsAll (es ++ [e]) = Ex.callsAll es + e.calls := by rw [callsAll_sum, callsAll_sum, List.map_append, List.sum_append]; simp
        have hal : acc.length = es.length := d4.length
        refine ⟨acc, l5, by omega, es ++ [e], acc ++ [v], by simp, by omega, (k4.trans k5).mut hD4 (no_tab l5 nt_lst), ?_, by omega, ?_, goodEs_snoc g4 g5, upd_same, ?_⟩
        · rw [hca, show c' - (Ex.callsAll es + e.calls) = c' - Ex.callsAll es - e.calls by omega]
          exact e5.upd n1 n2 n3 n4
        · rw [deepAll_le] at dp4 ⊢
          intro x hx
          rcases List.mem_append.mp hx with h | h
          · exact dp4 x h
          · rw [List.mem_singleton.mp h]; exact dp5
        · exact DtEs.kb (Kb.put (S := [D4]) (by simp) l5 nt_lst) (fun b hb => by rw [List.mem_singleton.mp hb]; exact ⟨_, l5⟩) (DtEs.snoc d45 d5)
      · rintro H4 ⟨es, acc, hlen4, hi3, k4, e4, c4, dp4, g4, l4, d4⟩
        refine ⟨D4, acc, rfl, .inl ⟨.inl (.inl l4), fun p5 hp5 => ⟨by show 3 ≤ sizeLine; decide, fun p6 hp6 => ?_⟩⟩⟩
        have k5 : Kp H4 (upd H4 p5 (.tup acc)) := Kb.new hp5
        have s5 : SqT K (upd H4 p5 (.tup acc)) p5 acc := SqT.of upd_same
        have d5 := DtEs.kb k5 Lsts.nil d4
        have e5 := e4.kp k5
        generalize upd H4 p5 (.tup acc) = H5 at k5 d5 s5 e5 hp6 ⊢
        have k6 : Kp H5 (upd H5 p6 (.tup [.str (Str.ofString "call"), .str fz, .ref p5])) := Kb.new hp6
        have e6 := e5.kp k6
        refine q _ _ (.call fz.cps.toList es) (((k3.trans k4).trans (Kb.of k5)).trans (Kb.of k6)) ?_ ?_ ?_ ⟨hf, by rw [← hkz]; exact hlen4, g4⟩ ?_
        · show Exs bx d nm lf ns (c - (1 + Ex.callsAll es)) _
          rw [show c - (1 + Ex.callsAll es) = c' - Ex.callsAll es by omega]
          exact e6
        · show 1 + Ex.callsAll es ≤ c
          omega
        · show 1 + Ex.deepAll es + (es.length - 3) ≤ n
          omega
        · exact .call (by rw [sx_of]; exact SqT.of upd_same) (k6.sqT Lsts.nil s5) (DtEs.kb k6 Lsts.nil d5)
    obtain ⟨t5, h5, q5⟩ : ∃ t, PSs (cxOf CX0 P w K mg base ["box", "names", "kind", "depth", "left", "gives", "rows", "name", "kinds", "one"] "_law_expression" (defScope s_law_expression) f cdv A outer s H E).nox ((defBody s_law_expression).drop 5) t ∧ ∀ (H1 : Hp) (r : Addr) (o5 o7 o8 o9 : Option V) (c' n' : Nat), Kb [bx, lf] H H1 → Exs bx d nm lf ns c' H1 → Rws H1 r → c' + 1 = c → n' + 1 = n →
        t { nx := fun _ H' => Q .non H', rt := Q } [some (.ref bx), some (.ref nm), some (.str kd), some (.int (n : Int)), some (.ref lf), o5, some (.ref r), o7, o8, o9] H1 := by
      refine ⟨_, (pss_cons (ps_if (pt_cmpR op_eq (pe_cal (c__law_draw.mono (by omega)) hr (by rfl) (pa_cons (pv 0) (pa_cons pe_int pa_nil))) pe_int (nomark _)) (pss_one (ps_set (i := 6) sc_law_expression.nd rfl (Or.inl rfl) (pe_listRg rfl (by rfl) m_list (prg_1 (by rfl) m_range pe_int)))) pss_nil)
  h6), fun H1 r o5 o7 o8 o9 c' n' k1 e1 w1 hc' hn' => ?_⟩
      refine ⟨.ref bx, rfl, bx, d, 10, rfl, by decide, e1.b, fun H2 r2 a2 g2 l2 => ⟨rfl, _, rfl, iteQ ?_ ?_⟩⟩
      · refine ⟨16, rfl, RgOk.of_le (by decide) (by decide) (by decide) (by decide), fun q0 hq0 => ?_⟩
        have k3 : Kp H2 (upd H2 q0 (.lst (rgV 0 16))) := Kb.new hq0
        exact q6 _ q0 o5 o7 o8 o9 c' n' ((k1.trans (kb_aft a2)).trans (Kb.of k3)) ((e1.aft a2).kp k3) (rws_rg upd_same) hc' hn'
      · exact q6 _ r o5 o7 o8 o9 c' n' (k1.trans (kb_aft a2)) (e1.aft a2) (w1.aft e1.b a2) hc' hn'
    have leaf : ∀ (H1 : Hp) (E' : XK), Aft bx d H H1 → spLeaf K [V.ref bx, V.ref nm, V.str kd] H1 Q E' := fun H1 E' a => by
      have e := hE.aft a
      refine ⟨bx, d, nm, ns, kd, rfl, e.b, e.n, e.nb, e.ne, hl, fun H2 v x a2 dv g c0 dp0 => ?_⟩
      refine q H2 v x (kb_aft (a.trans a2)) ?_ (by omega) (by omega) g dv
      rw [c0, Nat.sub_zero]
      exact e.aft a2
    refine ⟨_, (pss_cons (ps_if (PW.pt (pw_or (pt_cmpR op_eq (pv 3) pe_int (nomark _)) (pw_or (pt_cmpR op_eq (pe_ix ix_list (pv 4) pe_int (fun _ _ => rfl)) pe_int (nomark _)) (pw_or1 (pt_cmpR op_eq (pe_cal (c__law_draw.mono (by omega)) hr (by rfl) (pa_cons (pv 0) (pa_cons pe_int pa_nil))) pe_int (nomark _)))))) (pss_one (ps_ret (pe_cal (c__law_leaf.mono (by omega)) hr (by rfl) (pa_cons (pv 0) (pa_cons (pv 1) (pa_cons (pv 2) pa_nil)))))) pss_nil)
  (pss_cons (ps_asg (pe_op op_sub (pe_ix ix_list (pv 4) pe_int (fun _ _ => rfl)) pe_int) (pg_sub (pv 4) pe_int set_list))
  (pss_cons (ps_if (pt_cmpR op_eq (pe_cal (c__law_draw.mono (by omega)) hr (by rfl) (pa_cons (pv 0) (pa_cons pe_int pa_nil))) pe_int (nomark _)) (pss_one (ps_ret (pe_tup (pa_cons pe_str (pa_cons (pe_ix ix_list (pe_lst (pa_cons pe_str (pa_cons pe_str pa_nil))) (pe_cal (c__law_draw.mono (by omega)) hr (by rfl) (pa_cons (pv 0) (pa_cons pe_int pa_nil))) (fun _ _ => rfl)) (pa_cons (pe_cal (c__law_expression.mono (by omega)) hr (by rfl) (pa_cons (pv 0) (pa_cons (pv 1) (pa_cons (pv 2) (pa_cons (pe_op op_sub (pv 3) pe_int) (pa_cons (pv 4) pa_nil)))))) pa_nil)))))) pss_nil)
  (pss_cons (ps_set (i := 5) sc_law_expression.nd rfl (Or.inl rfl) (pe_disp (pps_cons pe_str (pe_lst (pa_cons pe_int (pa_cons pe_int (pa_cons pe_int (pa_cons pe_int (pa_cons pe_int (pa_cons pe_int pa_nil))))))) (pps_cons pe_str (pe_lst (pa_cons pe_int (pa_cons pe_int (pa_cons pe_int (pa_cons pe_int (pa_cons pe_int (pa_cons pe_int pa_nil))))))) (pps_cons pe_str (pe_lst (pa_cons pe_int (pa_cons pe_int (pa_cons pe_int (pa_cons pe_int (pa_cons pe_int pa_nil)))))) (pps_cons pe_str (pe_lst (pa_cons pe_int (pa_cons pe_int (pa_cons pe_int pa_nil)))) (pps_cons pe_str (pe_lst (pa_cons pe_int (pa_cons pe_int pa_nil))) pps_nil))))) (by rfl) (by rfl) (fun z => by cases z) (by decide)))
  (pss_cons (ps_set (i := 6) sc_law_expression.nd rfl (Or.inl rfl) (pe_dget2 (hu1 hr) (pv 5) (pv 2) (pe_listRg rfl (by rfl) m_list (prg_1 (by rfl) m_range pe_int)) ⟨rfl, rfl, rfl, rfl⟩))
  h5))))), ?_⟩
    refine ⟨_, rfl, rfl, _, rfl, ?_⟩
    by_cases hn0 : n = 0
    · subst hn0
      exact iteP rfl (iteT ⟨_, rfl, _, rfl, _, rfl, leaf H E0 (Rv.Aft.refl hE.b)⟩)
    refine iteN (fun z => hn0 (by have := V.int.inj z; omega)) ⟨_, rfl, lf, _, 0, _, rfl, rfl, .inl (.inl hE.l), atI_nat (j := 0) rfl, rfl, _, rfl, ?_⟩
    by_cases hc0 : c = 0
    · subst hc0
      exact iteP rfl (iteT ⟨_, rfl, _, rfl, _, rfl, leaf H E0 (Rv.Aft.refl hE.b)⟩)
    refine iteN (fun z => hc0 (by have := V.int.inj z; omega)) ⟨.ref bx, rfl, bx, d, 3, rfl, by decide, hE.b, fun H1 r1 a1 g1 l1 => ⟨rfl, _, rfl, iteQ ⟨_, rfl, _, rfl, _, rfl, leaf H1 E0 a1⟩ ?_⟩⟩
    have e1 := hE.aft a1
    have hlb := hE.lb
    have hnl := hE.nl
    refine ⟨_, rfl, lf, _, 0, _, rfl, rfl, .inl (.inl e1.l), atI_nat (j := 0) rfl, _, 1, rfl, rfl, _, rfl, lf, _, 0, 0, rfl, rfl, e1.l, rfl, ?_⟩
    obtain ⟨c', hc'⟩ : ∃ c', c' + 1 = c := ⟨c - 1, by omega⟩
    obtain ⟨n', hn'⟩ : ∃ n', n' + 1 = n := ⟨n - 1, by omega⟩
    have hset : ([V.int (c : Int)].set 0 (V.int ((c : Int) - 1)) : List V) = [.int (c' : Int)] := by
      show [V.int ((c : Int) - 1)] = _
      rw [show (c : Int) - 1 = (c' : Int) by omega]
    rw [hset]
    have k2 : Kb [bx, lf] H (upd H1 lf (.lst [.int (c' : Int)])) := (kb_aft a1).trans (Kb.put (by simp) e1.l nt_lst)
    have e2 : Exs bx d nm lf ns c' (upd H1 lf (.lst [.int (c' : Int)])) := ⟨e1.b.upd hlb e1.ld, by rw [upd_ne hnl]; exact e1.n, upd_same, e1.ne, e1.ld⟩
    generalize upd H1 lf (.lst [.int (c' : Int)]) = H2 at k2 e2 ⊢
    refine ⟨.ref bx, rfl, bx, d, 9, rfl, by decide, e2.b, fun H3 r3 a3 g3 l3 => ⟨rfl, _, rfl, iteQ ?_ ?_⟩⟩
    · -- inject
      have e3 := e2.aft a3
      refine ⟨by show 2 ≤ sizeLine; decide, fun p hp => ?_⟩
      have k4 : Kp H3 (upd H3 p (.lst [.str (Str.ofString "ctx"), .str (Str.ofString "tone")])) := Kb.new hp
      have e4 := e3.kp k4
      refine ⟨.ref bx, rfl, bx, d, 2, rfl, by decide, e4.b, fun H5 r5 a5 g5 l5 => ?_⟩
      have hp5 := a5.lst upd_same (e3.new hp).1
      have e5 := e4.aft a5
      have k5 : Kb [bx, lf] H H5 := ((k2.trans (kb_aft a3)).trans (Kb.of k4)).trans (kb_aft a5)
      obtain ⟨m', rfl⟩ : ∃ m', m = m' + 1 := ⟨m - 1, by omega⟩
      have fin : ∀ (l : List Nat), (l = cs "ctx" ∨ l = cs "tone") → spExpr K m' [V.ref bx, V.ref nm, V.str kd, V.int ((n : Int) - 1), V.ref lf] H5 (fun v H' => 3 ≤ sizeLine ∧ ∀ p, H' p = none → Q (.ref p) (upd H' p (.tup [.str (Str.ofString "inject"), .str (sx l), v]))) E0 := fun l hl' => by
        refine ⟨bx, d, nm, lf, ns, kd, n', c', by rw [show (n : Int) - 1 = (n' : Int) by omega], by omega, hl, by omega, e5, fun H6 v e k6 e6 c6 dp6 g6 d6 => ⟨by decide, fun p7 hp7 => ?_⟩⟩
        have k7 : Kp H6 (upd H6 p7 (.tup [.str (Str.ofString "inject"), .str (sx l), v])) := Kb.new hp7
        refine q _ _ (.inj l e) ((k5.trans k6).trans (Kb.of k7)) ?_ (by show 1 + e.calls ≤ c; omega) (by show 1 + e.deep ≤ n; omega) ⟨hl', g6⟩ (.inj (SqT.of upd_same) (d6.kb k7 Lsts.nil))
        show Exs bx d nm lf ns (c - (1 + e.calls)) _
        rw [show c - (1 + e.calls) = c' - e.calls by omega]
        exact e6.kp k7
      obtain h | h : r5 = 0 ∨ r5 = 1 := by omega
      · subst h
        exact ⟨p, _, _, _, rfl, rfl, .inl (.inl hp5), atI_nat (j := 0) rfl, _, rfl, _, rfl, _, rfl, _, rfl, _, _, rfl, rfl, _, rfl, fin _ (.inl rfl)⟩
      · subst h
        exact ⟨p, _, _, _, rfl, rfl, .inl (.inl hp5), atI_nat (j := 1) rfl, _, rfl, _, rfl, _, rfl, _, rfl, _, _, rfl, rfl, _, rfl, fin _ (.inr rfl)⟩
    · have e3 := e2.aft a3
      have k3 : Kb [bx, lf] H H3 := k2.trans (kb_aft a3)
      refine fun p hp => ⟨by show 6 ≤ sizeLine; decide, fun l1 h1 => ⟨by show 6 ≤ sizeLine; decide, fun l2 h2 => ⟨by show 5 ≤ sizeLine; decide, fun l3 h3 => ⟨by show 3 ≤ sizeLine; decide, fun l4 h4 => ⟨by show 2 ≤ sizeLine; decide, fun l5 h5' => ?_⟩⟩⟩⟩⟩
      have kp0 : Kp H3 (upd H3 p (.dK [])) := Kb.new hp
      have ep0 : (upd H3 p (.dK [])) p = some (.dK []) := upd_same
      generalize upd H3 p (.dK []) = G0 at kp0 ep0 h1 h2 h3 h4 h5' ⊢
      have kp1 : Kp G0 (upd G0 l1 (.lst [.int 0, .int 5, .int 6, .int 7, .int 9, .int 14])) := Kb.new h1
      have w1 : Rws (upd G0 l1 (.lst [.int 0, .int 5, .int 6, .int 7, .int 9, .int 14])) l1 := ⟨[0, 5, 6, 7, 9, 14], upd_same, by decide, by decide, by decide⟩
      generalize upd G0 l1 (.lst [.int 0, .int 5, .int 6, .int 7, .int 9, .int 14]) = G1 at kp1 w1 h2 h3 h4 h5' ⊢
      have kp2 : Kp G1 (upd G1 l2 (.lst [.int 2, .int 11, .int 12, .int 13, .int 14, .int 15])) := Kb.new h2
      have w2 : Rws (upd G1 l2 (.lst [.int 2, .int 11, .int 12, .int 13, .int 14, .int 15])) l2 := ⟨[2, 11, 12, 13, 14, 15], upd_same, by decide, by decide, by decide⟩
      generalize upd G1 l2 (.lst [.int 2, .int 11, .int 12, .int 13, .int 14, .int 15]) = G2 at kp2 w2 h3 h4 h5' ⊢
      have kp3 : Kp G2 (upd G2 l3 (.lst [.int 1, .int 3, .int 4, .int 10, .int 14])) := Kb.new h3
      have w3 : Rws (upd G2 l3 (.lst [.int 1, .int 3, .int 4, .int 10, .int 14])) l3 := ⟨[1, 3, 4, 10, 14], upd_same, by decide, by decide, by decide⟩
      generalize upd G2 l3 (.lst [.int 1, .int 3, .int 4, .int 10, .int 14]) = G3 at kp3 w3 h4 h5' ⊢
      have kp4 : Kp G3 (upd G3 l4 (.lst [.int 8, .int 10, .int 14])) := Kb.new h4
      have w4 : Rws (upd G3 l4 (.lst [.int 8, .int 10, .int 14])) l4 := ⟨[8, 10, 14], upd_same, by decide, by decide, by decide⟩
      generalize upd G3 l4 (.lst [.int 8, .int 10, .int 14]) = G4 at kp4 w4 h5' ⊢
      have kp5 : Kp G4 (upd G4 l5 (.lst [.int 8, .int 14])) := Kb.new h5'
      have w5 : Rws (upd G4 l5 (.lst [.int 8, .int 14])) l5 := ⟨[8, 14], upd_same, by decide, by decide, by decide⟩
      generalize upd G4 l5 (.lst [.int 8, .int 14]) = G5 at kp5 w5 ⊢
      have kp05 := (((kp1.trans kp2).trans kp3).trans kp4).trans kp5
      have nD : ∀ kvs : List (Key × V), NoTab (.dK kvs) := fun _ _ h => by cases h
      have ep5 : G5 p = some (.dK []) := kp05.keep _ _ ep0 (by simp) (nD [])
      refine ⟨ep5, [(.inr (Str.ofString "b"), .ref l1), (.inr (Str.ofString "m"), .ref l2), (.inr (Str.ofString "i"), .ref l3), (.inr (Str.ofString "k"), .ref l4), (.inr (Str.ofString "t"), .ref l5)], rfl, by show 5 ≤ 15; decide, ?_⟩
      have hgm := fun (R : V → Prop) (z : V) (hz : R z) (hm : ∀ q ∈ ([(.inr (Str.ofString "b"), .ref l1), (.inr (Str.ofString "m"), .ref l2), (.inr (Str.ofString "i"), .ref l3), (.inr (Str.ofString "k"), .ref l4), (.inr (Str.ofString "t"), .ref l5)] : List (Key × V)), R q.2) => get_merge (k := .inr kd) hz hm
      generalize mergeK [] [((.inr (Str.ofString "b"), .ref l1) : Key × V), (.inr (Str.ofString "m"), .ref l2), (.inr (Str.ofString "i"), .ref l3), (.inr (Str.ofString "k"), .ref l4), (.inr (Str.ofString "t"), .ref l5)] = kvs at hgm ⊢
      have k6 : Kp H3 (upd G5 p (.dK kvs)) := (kp0.trans kp05).mut hp (no_tab ep5 (nD []))
      have ws : ∀ {x : Addr} {G : Hp}, Rws G x → Kp G G5 → Rws (upd G5 p (.dK kvs)) x := fun {x G} w k => by
        obtain ⟨js, e, r⟩ := w.kp k
        exact ⟨js, by rw [upd_ne (fun z => by rw [z, ep5] at e; cases e)]; exact e, r⟩
      have eP : (upd G5 p (.dK kvs)) p = some (.dK kvs) := upd_same
      have v1 := ws w1 (((kp2.trans kp3).trans kp4).trans kp5)
      have v2 := ws w2 ((kp3.trans kp4).trans kp5)
      have v3 := ws w3 (kp4.trans kp5)
      have v4 := ws w4 kp5
      have v5 := ws w5 (Kb.refl _)
      generalize upd G5 p (.dK kvs) = G6 at k6 eP v1 v2 v3 v4 v5 ⊢
      refine ⟨_, rfl, p, rfl, .inl ⟨_, .inl eP⟩, _, rfl, 16, rfl, RgOk.of_le (by decide) (by decide) (by decide) (by decide), fun q0 hq0 => ?_⟩
      have k7 : Kp G6 (upd G6 q0 (.lst (rgV 0 16))) := Kb.new hq0
      have w0 : Rws (upd G6 q0 (.lst (rgV 0 16))) q0 := rws_rg upd_same
      generalize upd G6 q0 (.lst (rgV 0 16)) = G7 at k7 w0 ⊢
      obtain ⟨r, er, wr⟩ := hgm (fun v => ∃ r, v = .ref r ∧ Rws G7 r) (.ref q0) ⟨q0, rfl, w0⟩ (fun q hq => by
        simp only [List.mem_cons, List.not_mem_nil, or_false] at hq
        rcases hq with rfl | rfl | rfl | rfl | rfl
        · exact ⟨_, rfl, v1.kp k7⟩
        · exact ⟨_, rfl, v2.kp k7⟩
        · exact ⟨_, rfl, v3.kp k7⟩
        · exact ⟨_, rfl, v4.kp k7⟩
        · exact ⟨_, rfl, v5.kp k7⟩)
      have dg : DGet G7 p (.str kd) (valV kvs (.inr kd)) := DGet.k (k := .inr kd) (k7.keep _ _ eP (by simp) (nD kvs))
      generalize valV kvs (.inr kd) = ov at dg er
      refine ⟨ov, dg, ?_⟩
      have fin := q5 G7 r (some (.ref p)) none none none c' n' ((k3.trans (Kb.of k6)).trans (Kb.of k7)) ((e3.kp k6).kp k7) wr hc' hn'
      rw [← er] at fin
      exact fin
end
end Rw

/-! Evaluation, pure. -/
namespace Rw
open PySem PySem.Spec PyProof.Rows L2 GxR Gx Gd Rx Rs
inductive Re where
  | val (v : Va) | err (m : Str) | wait (n : Str)
def Re.d : Re → PyData
  | .val v => .tuple [.str (Str.ofString "value"), v.d]
  | .err m => .tuple [.str (Str.ofString "error"), .str m]
  | .wait n => .tuple [.str (Str.ofString "waits"), .str n]
def Re.good : Re → Prop
  | .val v => v.good
  | .err m => m.length ≤ 100 ∧ PyData.strOk m = true
  | .wait n => Rv.textOk n
def vBool (b : Bool) : Re := .val (.s (.bool b))
def vInt (i : Int) : Re := .val (.s (.int i))
def errS (m : String) : Re := .err (Str.ofString m)
inductive Kd where
  | int | bool | scalar | map | key | any
def Kd.name : Kd → String
  | .int => "integer"
  | .bool => "boolean"
  | .scalar => "scalar"
  | .map => "map"
  | .key => "key"
  | .any => "any"
def Kd.msg : Kd → String
  | .int => "not an integer"
  | .bool => "not a boolean"
  | .scalar => "not a scalar"
  | .map => "not a map"
  | .key => "not a key"
  | .any => ""
def Kd.has : Kd → Va → Bool
  | .int, .s (.int _) => true
  | .bool, .s (.bool _) => true
  | .scalar, .s _ => true
  | .map, .m _ => true
  | .key, .s (.text x) => Rv.isKeyD (.str x)
  | .any, _ => true
  | _, _ => false
/-- the kinds of the functions that evaluate all their arguments -/
def kindsOf (f : List Nat) : List Kd :=
  if f = cs "not" then [.bool] else if f = cs "size" then [.map] else if f = cs "reverse" then [.map] else if f = cs "add" then [.int, .int] else if f = cs "sub" then [.int, .int] else if f = cs "lt" then [.int, .int] else
  if f = cs "eq" then [.any, .any] else if f = cs "concat" then [.scalar, .scalar] else if f = cs "has" then [.map, .key] else if f = cs "get" then [.map, .key] else if f = cs "remove" then [.map, .key] else if f = cs "take" then [.map, .int] else [.map, .key, .scalar]
def eager : List (List Nat) := ["not", "size", "reverse", "add", "sub", "lt", "eq", "concat", "has", "get", "remove", "take", "put"].map cs
/-- the first wrong kind -/
def wrongK : List Va → List Kd → Option String
  | v :: vs, k :: ks => if k.has v = true then wrongK vs ks else some k.msg
  | _, _ => none
def lookE (ps : List (Str × Rv.Sc)) (k : Str) : Option Rv.Sc := (ps.find? fun p => decide (p.1 = k)).map (·.2)
def putE (ps : List (Str × Rv.Sc)) (k : Str) (x : Rv.Sc) : List (Str × Rv.Sc) := if (ps.any fun p => decide (p.1 = k)) = true then ps.map (fun p => if p.1 = k then (k, x) else p) else ps ++ [(k, x)]
def opNot : List Va → Re
  | [.s (.bool b)] => vBool (!b)
  | _ => errS ""
def opSize : List Va → Re
  | [.m ps] => vInt ps.length
  | _ => errS ""
def opRev : List Va → Re
  | [.m ps] => .val (.m ps.reverse)
  | _ => errS ""
def opAdd : List Va → Re
  | [.s (.int i), .s (.int j)] => if i + j > 999999 then errS "integer overflow" else vInt (i + j)
  | _ => errS ""
def opSub : List Va → Re
  | [.s (.int i), .s (.int j)] => if i < j then errS "integer underflow" else vInt (i - j)
  | _ => errS ""
def opLt : List Va → Re
  | [.s (.int i), .s (.int j)] => vBool (decide (i < j))
  | _ => errS ""
def opEq : List Va → Re
  | [a, c] => vBool (PyData.eqv a.d c.d)
  | _ => errS ""
def opCat : List Va → Re
  | [.s a, .s c] => if (a.plain ++ c.plain).length > 40 then errS "text too long" else .val (.s (.text (a.plain ++ c.plain)))
  | _ => errS ""
def opHas : List Va → Re
  | [.m ps, .s (.text k)] => vBool (lookE ps k).isSome
  | _ => errS ""
def opGet : List Va → Re
  | [.m ps, .s (.text k)] => match lookE ps k with
    | none => errS "no such key"
    | some x => .val (.s x)
  | _ => errS ""
def opRem : List Va → Re
  | [.m ps, .s (.text k)] => .val (.m (ps.filter fun p => !decide (p.1 = k)))
  | _ => errS ""
def opTake : List Va → Re
  | [.m ps, .s (.int i)] => .val (.m (ps.take i.toNat))
  | _ => errS ""
def opPut : List Va → Re
  | [.m ps, .s (.text k), .s x] => if (putE ps k x).length > 8 then errS "too many entries" else .val (.m (putE ps k x))
  | _ => errS ""
/-- a function, its arguments being of the right kinds -/
def oper (f : List Nat) (vs : List Va) : Re :=
  if f = cs "not" then opNot vs else if f = cs "size" then opSize vs else if f = cs "reverse" then opRev vs else if f = cs "add" then opAdd vs else if f = cs "sub" then opSub vs else if f = cs "lt" then opLt vs else if f = cs "eq" then opEq vs else
  if f = cs "concat" then opCat vs else if f = cs "has" then opHas vs else if f = cs "get" then opGet vs else if f = cs "remove" then opRem vs else if f = cs "take" then opTake vs else opPut vs
def fnR (f : List Nat) (vs : List Va) : Re := match wrongK vs (kindsOf f) with
  | some m => errS m
  | none => oper f vs
def boolR : Re → Re
  | .val v => if Kd.bool.has v = true then .val v else errS "not a boolean"
  | r => r
def andR (a b : Re) : Re := match boolR a with
  | .val (.s (.bool true)) => boolR b
  | r => r
def condR (c a b : Re) : Re := match boolR c with
  | .val (.s (.bool true)) => a
  | .val _ => b
  | r => r
def resR (ρ : Str → Option Va) : Va → Re
  | .s (.text x) => if x.length = 0 then errS "invalid resource name" else match ρ x with
    | some v => .val v
    | none => .wait x
  | _ => errS "invalid resource name"
/-- the first that is no value, or all values -/
def seqR : List Re → Re ⊕ List Va
  | [] => .inr []
  | .val v :: rs => match seqR rs with
    | .inl r => .inl r
    | .inr vs => .inr (v :: vs)
  | r :: _ => .inl r
def apR (ρ : Str → Option Va) (f : List Nat) (rs : List Re) : Re :=
  if f = cs "and" then (match rs with | [a, b] => andR a b | _ => errS "")
  else if f = cs "cond" then (match rs with | [c, a, b] => condR c a b | _ => errS "")
  else match seqR rs with
    | .inl r => r
    | .inr vs => if f = cs "resource" then (match vs with | [v] => resR ρ v | _ => errS "") else fnR f vs
def lookP (π : List (Str × Va)) (x : Str) : Option Va := (π.find? fun p => decide (p.1 = x)).map (·.2)
mutual
def ev (σ : Str → Option Va) (π : List (Str × Va)) (ρ : Str → Option Va) : Ex → Re
  | .lit v => .val (Va.of v)
  | .var l => match σ (sx l) with
    | some v => .val v
    | none => errS "undefined name"
  | .inj l e => match lookP π (sx l) with
    | some v => .val v
    | none => ev σ π ρ e
  | .call f es => apR ρ f (evs σ π ρ es)
def evs (σ : Str → Option Va) (π : List (Str × Va)) (ρ : Str → Option Va) : List Ex → List Re
  | [] => []
  | e :: es => ev σ π ρ e :: evs σ π ρ es
end
theorem evs_map (σ : Str → Option Va) (π : List (Str × Va)) (ρ : Str → Option Va) : ∀ es : List Ex, evs σ π ρ es = es.map (ev σ π ρ)
  | [] => rfl
  | e :: es => by show ev σ π ρ e :: evs σ π ρ es = _; rw [evs_map σ π ρ es]; rfl
/-! ### good results -/
theorem Ents.sub {ps qs : List (Str × Rv.Sc)} (h : Rv.Ents ps) (s : qs.Sublist ps) : Rv.Ents qs := ⟨Nat.le_trans s.length_le h.len, (s.map _).nodup h.nd, fun p hp => h.ok p (s.subset hp)⟩
theorem Ents.rev {ps : List (Str × Rv.Sc)} (h : Rv.Ents ps) : Rv.Ents ps.reverse := ⟨by rw [List.length_reverse]; exact h.len, by rw [List.map_reverse]; exact ((List.reverse_perm _).nodup_iff.mpr h.nd), fun p hp => h.ok p (List.mem_reverse.mp hp)⟩
theorem putE_keys (ps : List (Str × Rv.Sc)) (k : Str) (x : Rv.Sc) : (putE ps k x).map (·.1) = if k ∈ ps.map (·.1) then ps.map (·.1) else ps.map (·.1) ++ [k] := by
  unfold putE
  by_cases h : k ∈ ps.map (·.1)
  · have : (ps.any fun p => decide (p.1 = k)) = true := by
      rw [List.any_eq_true]
      obtain ⟨p, hp, e⟩ := List.mem_map.mp h
      exact ⟨p, hp, decide_eq_true e⟩
    rw [if_pos this, if_pos h, List.map_map]
    refine List.map_congr_left fun p hp => ?_
    show (if p.1 = k then (k, x) else p).1 = p.1
    split
    · rename_i e; exact e.symm
    · rfl
  · have : ¬ (ps.any fun p => decide (p.1 = k)) = true := fun z => by
      rw [List.any_eq_true] at z
      obtain ⟨p, hp, e⟩ := z
      exact h (List.mem_map.mpr ⟨p, hp, of_decide_eq_true e⟩)
    rw [if_neg this, if_neg h, List.map_append]
    rfl
theorem Ents.put {ps : List (Str × Rv.Sc)} {k : Str} {x : Rv.Sc} (h : Rv.Ents ps) (hk : Rv.keyOk k) (hx : x.good) (hl : ¬ (putE ps k x).length > 8) : Rv.Ents (putE ps k x) := by
  refine ⟨by omega, ?_, fun p hp => ?_⟩
  · rw [putE_keys]
    split
    · exact h.nd
    · rename_i hn
      rw [List.nodup_append]
      exact ⟨h.nd, by simp, fun a ha b hb => by rw [List.mem_singleton.mp hb]; intro z; exact hn (z ▸ ha)⟩
  · unfold putE at hp
    split at hp
    · obtain ⟨q, hq, e⟩ := List.mem_map.mp hp
      split at e
      · rw [← e]; exact ⟨hk, hx⟩
      · rw [← e]; exact h.ok q hq
    · rcases List.mem_append.mp hp with hp | hp
      · exact h.ok p hp
      · rw [List.mem_singleton.mp hp]; exact ⟨hk, hx⟩
end Rw

namespace Rw
open PySem PySem.Spec PyProof.Rows L2 GxR Gx Gd Rx Rs
abbrev s_boolean : Stmt := topS 24
theorem sc_boolean : FnScope ["truth"] ["truth"] (defScope s_boolean) := ⟨rfl, rfl, rfl, by decide +kernel, rfl, by decide +kernel, by decide +kernel⟩
abbrev s_integer : Stmt := topS 25
theorem sc_integer : FnScope ["number"] ["number"] (defScope s_integer) := ⟨rfl, rfl, rfl, by decide +kernel, rfl, by decide +kernel, by decide +kernel⟩
abbrev s_map_value : Stmt := topS 26
theorem sc_map_value : FnScope ["entries"] ["entries"] (defScope s_map_value) := ⟨rfl, rfl, rfl, by decide +kernel, rfl, by decide +kernel, by decide +kernel⟩
abbrev s_negated : Stmt := topS 27
theorem sc_negated : FnScope ["boolean"] ["boolean"] (defScope s_negated) := ⟨rfl, rfl, rfl, by decide +kernel, rfl, by decide +kernel, by decide +kernel⟩
abbrev s_size : Stmt := topS 28
theorem sc_size : FnScope ["whole"] ["whole"] (defScope s_size) := ⟨rfl, rfl, rfl, by decide +kernel, rfl, by decide +kernel, by decide +kernel⟩
abbrev s_reversed_map : Stmt := topS 29
theorem sc_reversed_map : FnScope ["whole"] ["whole"] (defScope s_reversed_map) := ⟨rfl, rfl, rfl, by decide +kernel, rfl, by decide +kernel, by decide +kernel⟩
abbrev s_sum_of : Stmt := topS 30
theorem sc_sum_of : FnScope ["one", "other", "total"] ["one", "other"] (defScope s_sum_of) := ⟨rfl, rfl, rfl, by decide +kernel, rfl, by decide +kernel, by decide +kernel⟩
abbrev s_difference : Stmt := topS 31
theorem sc_difference : FnScope ["one", "other"] ["one", "other"] (defScope s_difference) := ⟨rfl, rfl, rfl, by decide +kernel, rfl, by decide +kernel, by decide +kernel⟩
abbrev s_is_less : Stmt := topS 32
theorem sc_is_less : FnScope ["one", "other"] ["one", "other"] (defScope s_is_less) := ⟨rfl, rfl, rfl, by decide +kernel, rfl, by decide +kernel, by decide +kernel⟩
abbrev s_is_same : Stmt := topS 33
theorem sc_is_same : FnScope ["one", "other"] ["one", "other"] (defScope s_is_same) := ⟨rfl, rfl, rfl, by decide +kernel, rfl, by decide +kernel, by decide +kernel⟩
abbrev s_joined : Stmt := topS 34
theorem sc_joined : FnScope ["one", "other", "text"] ["one", "other"] (defScope s_joined) := ⟨rfl, rfl, rfl, by decide +kernel, rfl, by decide +kernel, by decide +kernel⟩
inductive DtR (K : PySem.W.Frag) (H : Hp) : V → Re → Prop where
  | val {a : Addr} {x : V} {va : Va} (h : SqT K H a [.str (Str.ofString "value"), x]) (hx : DtV K H x va) : DtR K H (.ref a) (.val va)
  | err {a : Addr} {m : Str} (h : SqT K H a [.str (Str.ofString "error"), .str m]) : DtR K H (.ref a) (.err m)
  | wait {a : Addr} {m : Str} (h : SqT K H a [.str (Str.ofString "waits"), .str m]) : DtR K H (.ref a) (.wait m)
inductive DtVs (K : PySem.W.Frag) (H : Hp) : List V → List Va → Prop where
  | nil : DtVs K H [] []
  | cons {v : V} {vs : List V} {a : Va} {as : List Va} (h : DtV K H v a) (hs : DtVs K H vs as) : DtVs K H (v :: vs) (a :: as)
section
variable {K : PySem.W.Frag} {S : List Addr} {H H' : Hp}
theorem DtR.dt {u : V} {r : Re} : DtR K H u r → Dt K H u r.d
  | .val h hx => .tup h (.cons (.str _) (.cons hx.dt .nil))
  | .err h => .tup h (.cons (.str _) (.cons (.str _) .nil))
  | .wait h => .tup h (.cons (.str _) (.cons (.str _) .nil))
theorem DtR.kb (k : Kb S H H') (hS : Lsts S H) {u : V} {r : Re} : DtR K H u r → DtR K H' u r
  | .val h hx => .val (k.sqT hS h) (hx.kb k hS)
  | .err h => .err (k.sqT hS h)
  | .wait h => .wait (k.sqT hS h)
theorem DtVs.kb (k : Kb S H H') (hS : Lsts S H) : ∀ {vs : List V} {as : List Va}, DtVs K H vs as → DtVs K H' vs as
  | _, _, .nil => .nil
  | _, _, .cons h hs => .cons (h.kb k hS) (DtVs.kb k hS hs)
theorem DtVs.length : ∀ {vs : List V} {as : List Va}, DtVs K H vs as → vs.length = as.length
  | _, _, .nil => rfl
  | _, _, .cons _ hs => congrArg (· + 1) hs.length
theorem DtVs.snoc {v : V} {a : Va} : ∀ {vs : List V} {as : List Va}, DtVs K H vs as → DtV K H v a → DtVs K H (vs ++ [v]) (as ++ [a])
  | _, _, .nil, h => .cons h .nil
  | _, _, .cons h hs, h2 => .cons h (DtVs.snoc hs h2)
theorem DtVs.get : ∀ {vs : List V} {as : List Va} {i : Nat} {v : V}, DtVs K H vs as → vs[i]? = some v → ∃ a, as[i]? = some a ∧ DtV K H v a
  | _, _, _, _, .nil, e => by simp at e
  | _, _, 0, _, .cons h _, e => by
    have e := Option.some.inj e
    subst e
    exact ⟨_, rfl, h⟩
  | _, _, i + 1, _, .cons _ hs, e => DtVs.get (i := i) hs e
theorem mk_val {p : Addr} {v : V} {va : Va} (hp : H p = none) (hv : DtV K H v va) : Kp H (upd H p (.tup [.str (Str.ofString "value"), v])) ∧ DtR K (upd H p (.tup [.str (Str.ofString "value"), v])) (.ref p) (.val va) := ⟨Kb.new hp, .val (SqT.of upd_same) (hv.kb (Kb.new hp) Lsts.nil)⟩
theorem mk_err {p : Addr} {m : Str} (hp : H p = none) : Kp H (upd H p (.tup [.str (Str.ofString "error"), .str m])) ∧ DtR K (upd H p (.tup [.str (Str.ofString "error"), .str m])) (.ref p) (.err m) := ⟨Kb.new hp, .err (SqT.of upd_same)⟩
theorem at_bool {v : V} {b : Bool} (h : DtV K H v (.s (.bool b))) : ∃ p, v = .ref p ∧ SqT K H p [.str (Str.ofString "bool"), .bl b] := by
  cases h with
  | s h =>
    obtain ⟨p, x, y, rfl, hp, hx, hy⟩ := dt_pair h
    cases hx
    cases hy
    exact ⟨p, rfl, hp⟩
theorem at_int {v : V} {i : Int} (h : DtV K H v (.s (.int i))) : ∃ p, v = .ref p ∧ SqT K H p [.str (Str.ofString "int"), .int i] := by
  cases h with
  | s h =>
    obtain ⟨p, x, y, rfl, hp, hx, hy⟩ := dt_pair h
    cases hx
    cases hy
    exact ⟨p, rfl, hp⟩
theorem at_text {v : V} {x : Str} (h : DtV K H v (.s (.text x))) : ∃ p, v = .ref p ∧ SqT K H p [.str (Str.ofString "text"), .str x] := by
  cases h with
  | s h =>
    obtain ⟨p, x, y, rfl, hp, hx, hy⟩ := dt_pair h
    cases hx
    cases hy
    exact ⟨p, rfl, hp⟩
theorem at_map {v : V} {ps : List (Str × Rv.Sc)} (h : DtV K H v (.m ps)) : ∃ a b xs, v = .ref a ∧ SqT K H a [.str (Str.ofString "map"), .ref b] ∧ NoD K H b ∧ SqT K H b xs ∧ DtAll K H xs (ps.map Rv.ent) := by
  cases h with
  | m h n hb hs => exact ⟨_, _, _, rfl, h, n, hb, hs⟩
/-- the kind of a value -/
def Va.word : Va → String
  | .s .none => "none"
  | .s (.bool _) => "bool"
  | .s (.int _) => "int"
  | .s (.text _) => "text"
  | .m _ => "map"
theorem at_head {v : V} {a : Va} (h : DtV K H v a) : ∃ p xs, v = .ref p ∧ SqT K H p xs ∧ xs[0]? = some (.str (Str.ofString a.word)) := by
  cases a with
  | m ps =>
    obtain ⟨a, b, xs, rfl, ha, _⟩ := at_map h
    exact ⟨a, _, rfl, ha, rfl⟩
  | s x =>
    cases x with
    | none =>
      cases h with
      | s h =>
        cases h with
        | tup h hs =>
          cases hs with
          | cons h1 hs =>
            cases h1
            cases hs
            exact ⟨_, _, rfl, h, rfl⟩
    | bool b =>
      obtain ⟨p, rfl, hp⟩ := at_bool h
      exact ⟨p, _, rfl, hp, rfl⟩
    | int i =>
      obtain ⟨p, rfl, hp⟩ := at_int h
      exact ⟨p, _, rfl, hp, rfl⟩
    | text x =>
      obtain ⟨p, rfl, hp⟩ := at_text h
      exact ⟨p, _, rfl, hp, rfl⟩
end
def spBool1 (K : PySem.W.Frag) : Sp := fun vs H Q _ => ∃ b, vs = [.bl b] ∧ ∀ H' u, Kp H H' → DtR K H' u (vBool b) → Q u H'
def spInt1 (K : PySem.W.Frag) : Sp := fun vs H Q _ => ∃ i, vs = [.int i] ∧ ∀ H' u, Kp H H' → DtR K H' u (vInt i) → Q u H'
def spMapV (K : PySem.W.Frag) : Sp := fun vs H Q _ => ∃ (p : Addr) (xs : List V) (ps : List (Str × Rv.Sc)), vs = [.ref p] ∧ (SqL K H p xs ∨ (SqT K H p xs ∧ NoD K H p)) ∧ DtAll K H xs (ps.map Rv.ent) ∧ ∀ H' u, Kp H H' → DtR K H' u (.val (.m ps)) → Q u H'
/-- an operation on values of the right kinds -/
def spOp (K : PySem.W.Frag) (ks : List Kd) (g : List Va → Re) : Sp := fun vs H Q _ => ∃ as : List Va, DtVs K H vs as ∧ (∀ a ∈ as, a.good) ∧ as.length = ks.length ∧ wrongK as ks = none ∧ ∀ H' u, Kp H H' → DtR K H' u (g as) → Q u H'
theorem wrongK_cons {a : Va} {as : List Va} {k : Kd} {ks : List Kd} (h : wrongK (a :: as) (k :: ks) = none) : k.has a = true ∧ wrongK as ks = none := by
  unfold wrongK at h
  split at h
  · rename_i e; exact ⟨e, h⟩
  · cases h
theorem has_int {a : Va} (h : Kd.int.has a = true) : ∃ i, a = .s (.int i) := by
  cases a with
  | m ps => cases h
  | s x => cases x <;> first | exact ⟨_, rfl⟩ | cases h
theorem has_bool {a : Va} (h : Kd.bool.has a = true) : ∃ i, a = .s (.bool i) := by
  cases a with
  | m ps => cases h
  | s x => cases x <;> first | exact ⟨_, rfl⟩ | cases h
theorem has_scalar {a : Va} (h : Kd.scalar.has a = true) : ∃ x, a = .s x := by
  cases a with
  | m ps => cases h
  | s x => exact ⟨x, rfl⟩
theorem has_map {a : Va} (h : Kd.map.has a = true) : ∃ ps, a = .m ps := by
  cases a with
  | m ps => exact ⟨ps, rfl⟩
  | s x => cases x <;> cases h
theorem has_key {a : Va} (h : Kd.key.has a = true) : ∃ x, a = .s (.text x) ∧ Rv.isKeyD (.str x) = true := by
  cases a with
  | m ps => cases h
  | s x => cases x <;> first | exact ⟨_, rfl, h⟩ | cases h
theorem dtAll_rev {K : PySem.W.Frag} {H : Hp} : ∀ {vs : List V} {ds : List PyData}, DtAll K H vs ds → DtAll K H vs.reverse ds.reverse
  | _, _, .nil => .nil
  | _, _, .cons h hs => by rw [List.reverse_cons, List.reverse_cons]; exact Rv.DtAll.snoc (dtAll_rev hs) h
theorem toString_len {i : Int} (h : 0 ≤ i ∧ i ≤ 999999) : (toString i : Str).length ≤ 40 := by
  obtain ⟨n, rfl⟩ : ∃ n : Nat, i = n := ⟨i.toNat, by omega⟩
  have h1 := Rs.num_isNum (n := n) (by omega)
  unfold Rs.isNumL at h1
  rw [Bool.and_eq_true, decide_eq_true_eq] at h1
  have e : (Str.ofString (toString (n : Int))).cps.toList = TL.numL n := Rs.text_num n
  show (Str.ofString (toString (n : Int))).cps.size ≤ 40
  rw [← Array.length_toList, e]
  omega
theorem plain_len : ∀ {x : Rv.Sc}, x.good → x.plain.length ≤ 40
  | .none, _ => by decide
  | .bool b, _ => by cases b <;> decide
  | .int i, h => toString_len h
  | .text x, h => h.1
/-- two values -/
theorem two_of {K : PySem.W.Frag} {H : Hp} {vs : List V} {as : List Va} (h : DtVs K H vs as) (hl : as.length = 2) : ∃ v1 v2 a1 a2, vs = [v1, v2] ∧ as = [a1, a2] ∧ DtV K H v1 a1 ∧ DtV K H v2 a2 := by
  cases h with
  | nil => cases hl
  | cons h1 hs =>
    cases hs with
    | nil => cases hl
    | cons h2 hs =>
      cases hs with
      | nil => exact ⟨_, _, _, _, rfl, rfl, h1, h2⟩
      | cons => simp at hl
theorem one_of {K : PySem.W.Frag} {H : Hp} {vs : List V} {as : List Va} (h : DtVs K H vs as) (hl : as.length = 1) : ∃ v1 a1, vs = [v1] ∧ as = [a1] ∧ DtV K H v1 a1 := by
  cases h with
  | nil => cases hl
  | cons h1 hs =>
    cases hs with
    | nil => exact ⟨_, _, rfl, rfl, h1⟩
    | cons => simp at hl
section
variable {P : Program} {w : World} {K : PySem.W.Frag} {mg : Str → Option Value} {base : Heap}
theorem c_boolean (D : DefAt K mg "_boolean" s_boolean ["truth"]) : Cal P w K mg base CX0 1 "_boolean" ["truth"] (spBool1 K) := by
  refine D.cal (k := 0) sc_boolean (fun vs H Q E h => ?_) fun f cdv A outer s H vs Q E hr h => ?_
  · obtain ⟨b, rfl, _⟩ := h
    rfl
  · obtain ⟨b, rfl, q⟩ := h
    refine ⟨_, (pss_one (ps_ret (pe_tup (pa_cons pe_str (pa_cons (pe_tup (pa_cons pe_str (pa_cons (pv 0) pa_nil))) pa_nil))))), ?_⟩
    refine ⟨_, rfl, by show 2 ≤ sizeLine; decide, fun p hp => ⟨by show 2 ≤ sizeLine; decide, fun p2 hp2 => ?_⟩⟩
    obtain ⟨k1, d1⟩ := new_pair (K := K) hp (.str (Str.ofString "bool")) (.bl b)
    obtain ⟨k2, d2⟩ := mk_val (K := K) (va := .s (.bool b)) hp2 (.s d1)
    exact q _ _ (k1.trans k2) d2
theorem c_integer (D : DefAt K mg "_integer" s_integer ["number"]) : Cal P w K mg base CX0 1 "_integer" ["number"] (spInt1 K) := by
  refine D.cal (k := 0) sc_integer (fun vs H Q E h => ?_) fun f cdv A outer s H vs Q E hr h => ?_
  · obtain ⟨b, rfl, _⟩ := h
    rfl
  · obtain ⟨b, rfl, q⟩ := h
    refine ⟨_, (pss_one (ps_ret (pe_tup (pa_cons pe_str (pa_cons (pe_tup (pa_cons pe_str (pa_cons (pv 0) pa_nil))) pa_nil))))), ?_⟩
    refine ⟨_, rfl, by show 2 ≤ sizeLine; decide, fun p hp => ⟨by show 2 ≤ sizeLine; decide, fun p2 hp2 => ?_⟩⟩
    obtain ⟨k1, d1⟩ := new_pair (K := K) hp (.str (Str.ofString "int")) (.int b)
    obtain ⟨k2, d2⟩ := mk_val (K := K) (va := .s (.int b)) hp2 (.s d1)
    exact q _ _ (k1.trans k2) d2
theorem c_map_value (D : DefAt K mg "_map_value" s_map_value ["entries"]) (m_tuple : mg "tuple" = none) : Cal P w K mg base CX0 1 "_map_value" ["entries"] (spMapV K) := by
  refine D.cal (k := 0) sc_map_value (fun vs H Q E h => ?_) fun f cdv A outer s H vs Q E hr h => ?_
  · obtain ⟨b, xs, ps, rfl, _⟩ := h
    rfl
  · obtain ⟨b, xs, ps, rfl, hb, hs, q⟩ := h
    refine ⟨_, (pss_one (ps_ret (pe_tup (pa_cons pe_str (pa_cons (pe_tup (pa_cons pe_str (pa_cons (pe_callTy call_tuple_ofF (by rfl) m_tuple (by decide +kernel) (pa_cons (pv 0) pa_nil)) pa_nil))) pa_nil))))), ?_⟩
    have fin : ∀ (H1 : Hp) (l : Addr), Kp H H1 → SqT K H1 l xs → NoD K H1 l → (2 ≤ sizeLine ∧ ∀ p, H1 p = none → (2 ≤ sizeLine ∧ ∀ p2, upd H1 p (.tup [.str (Str.ofString "map"), .ref l]) p2 = none → Q (.ref p2) (upd (upd H1 p (.tup [.str (Str.ofString "map"), .ref l])) p2 (.tup [.str (Str.ofString "value"), .ref p])))) := fun H1 l k hl hn => ⟨by decide, fun p hp => ⟨by decide, fun p2 hp2 => by
      have k1 : Kp H1 (upd H1 p (.tup [.str (Str.ofString "map"), .ref l])) := Kb.new hp
      have d1 : DtV K (upd H1 p (.tup [.str (Str.ofString "map"), .ref l])) (.ref p) (.m ps) := .m (SqT.of upd_same) (hn.kb k1 Lsts.nil) (k1.sqT Lsts.nil hl) (DtAll.kb (k.trans k1) Lsts.nil hs)
      obtain ⟨k2, d2⟩ := mk_val (K := K) hp2 d1
      exact q _ _ ((k.trans k1).trans k2) d2⟩⟩
    refine ⟨_, rfl, b, xs, rfl, ?_⟩
    rcases hb with hb | ⟨hb, hn⟩
    · exact .inl ⟨hb, fun l o hl ho => fin _ l (Kb.new hl) (SqT.frz upd_same) (NoD.frz upd_same ho)⟩
    · exact .inr ⟨hb, fin H b (Kb.refl H) hb hn⟩
theorem c_negated (D : DefAt K mg "_negated" s_negated ["boolean"]) (c__boolean : Cal P w K mg base CX0 1 "_boolean" ["truth"] (spBool1 K)) : Cal P w K mg base CX0 2 "_negated" ["boolean"] (spOp K [.bool] opNot) := by
  refine D.cal (k := 1) sc_negated (fun vs H Q E h => ?_) fun f cdv A outer s H vs Q E hr h => ?_
  · obtain ⟨as, h, _, l, _⟩ := h
    rw [h.length, l]
    rfl
  · obtain ⟨as, h, g, l, hw, q⟩ := h
    obtain ⟨v1, a1, rfl, rfl, h1⟩ := one_of h l
    obtain ⟨b, rfl⟩ := has_bool (wrongK_cons hw).1
    obtain ⟨p, rfl, hp⟩ := at_bool h1
    refine ⟨_, (pss_one (ps_ret (pe_cal (c__boolean.mono (by omega)) hr (by rfl) (pa_cons (pe_not (pe_ix ix_tup (pv 0) pe_int (fun _ _ => rfl))) pa_nil)))), ?_⟩
    exact ⟨_, rfl, p, _, 1, _, rfl, rfl, hp, atI_nat (j := 1) rfl, b, rfl, !b, rfl, fun H' u k r => q H' u k r⟩
theorem c_size (D : DefAt K mg "_size" s_size ["whole"]) (m_len : mg "len" = none) (c__integer : Cal P w K mg base CX0 1 "_integer" ["number"] (spInt1 K)) : Cal P w K mg base CX0 2 "_size" ["whole"] (spOp K [.map] opSize) := by
  refine D.cal (k := 1) sc_size (fun vs H Q E h => ?_) fun f cdv A outer s H vs Q E hr h => ?_
  · obtain ⟨as, h, _, l, _⟩ := h
    rw [h.length, l]
    rfl
  · obtain ⟨as, h, g, l, hw, q⟩ := h
    obtain ⟨v1, a1, rfl, rfl, h1⟩ := one_of h l
    obtain ⟨ps, rfl⟩ := has_map (wrongK_cons hw).1
    obtain ⟨a, b, xs, rfl, ha, hn, hb, hs⟩ := at_map h1
    refine ⟨_, (pss_one (ps_ret (pe_cal (c__integer.mono (by omega)) hr (by rfl) (pa_cons (pe_callB call_len_seq (by rfl) m_len (by decide +kernel) (pa_cons (pe_ix ix_tup (pv 0) pe_int (fun _ _ => rfl)) pa_nil)) pa_nil)))), ?_⟩
    refine ⟨_, rfl, a, _, 1, _, rfl, rfl, ha, atI_nat (j := 1) rfl, b, xs, rfl, .inr hb, _, rfl, fun H' u k r => q H' u k ?_⟩
    rw [hs.length, List.length_map] at r
    exact r
theorem c_reversed_map (D : DefAt K mg "_reversed_map" s_reversed_map ["whole"]) (c__map_value : Cal P w K mg base CX0 1 "_map_value" ["entries"] (spMapV K)) : Cal P w K mg base CX0 2 "_reversed_map" ["whole"] (spOp K [.map] opRev) := by
  refine D.cal (k := 1) sc_reversed_map (fun vs H Q E h => ?_) fun f cdv A outer s H vs Q E hr h => ?_
  · obtain ⟨as, h, _, l, _⟩ := h
    rw [h.length, l]
    rfl
  · obtain ⟨as, h, g, l, hw, q⟩ := h
    obtain ⟨v1, a1, rfl, rfl, h1⟩ := one_of h l
    obtain ⟨ps, rfl⟩ := has_map (wrongK_cons hw).1
    obtain ⟨a, b, xs, rfl, ha, hn, hb, hs⟩ := at_map h1
    refine ⟨_, (pss_one (ps_ret (pe_cal (c__map_value.mono (by omega)) hr (by rfl) (pa_cons (pe_revT (pe_ix ix_tup (pv 0) pe_int (fun _ _ => rfl))) pa_nil)))), ?_⟩
    refine ⟨_, rfl, a, _, 1, _, rfl, rfl, ha, atI_nat (j := 1) rfl, b, xs, rfl, hb, fun p o hp ho => ?_⟩
    have k1 : Kp H (upd H p (frzT o xs.reverse)) := Kb.new hp
    refine ⟨p, xs.reverse, ps.reverse, rfl, .inr ⟨SqT.frz upd_same, NoD.frz upd_same ho⟩, ?_, fun H' u k r => q H' u (k1.trans k) r⟩
    rw [List.map_reverse]
    exact DtAll.kb k1 Lsts.nil (dtAll_rev hs)
theorem c_sum_of (D : DefAt K mg "_sum_of" s_sum_of ["one", "other"]) (gG : ∃ t, mg "GREATEST_INTEGER" = some (.int 999999 t)) (c__integer : Cal P w K mg base CX0 1 "_integer" ["number"] (spInt1 K)) : Cal P w K mg base CX0 2 "_sum_of" ["one", "other"] (spOp K [.int, .int] opAdd) := by
  refine D.cal (k := 1) sc_sum_of (fun vs H Q E h => ?_) fun f cdv A outer s H vs Q E hr h => ?_
  · obtain ⟨as, h, _, l, _⟩ := h
    rw [h.length, l]
    rfl
  · obtain ⟨as, h, g, l, hw, q⟩ := h
    obtain ⟨v1, v2, a1, a2, rfl, rfl, h1, h2⟩ := two_of h l
    obtain ⟨w1, w2⟩ := wrongK_cons hw
    obtain ⟨i, rfl⟩ := has_int w1
    obtain ⟨j, rfl⟩ := has_int (wrongK_cons w2).1
    obtain ⟨p1, rfl, hp1⟩ := at_int h1
    obtain ⟨p2, rfl, hp2⟩ := at_int h2
    obtain ⟨t, g_GREATEST_INTEGER⟩ := gG
    refine ⟨_, (pss_cons (ps_set (i := 2) sc_sum_of.nd rfl (Or.inl rfl) (pe_op op_add (pe_ix ix_tup (pv 0) pe_int (fun _ _ => rfl)) (pe_ix ix_tup (pv 1) pe_int (fun _ _ => rfl))))
  (pss_cons (ps_if (pt_cmpR op_gt (pv 2) (pe_glob (v := .int 999999) rfl g_GREATEST_INTEGER ⟨_, rfl⟩) (nomark _)) (pss_one (ps_ret (pe_tup (pa_cons pe_str (pa_cons pe_str pa_nil))))) pss_nil)
  (pss_one (ps_ret (pe_cal (c__integer.mono (by omega)) hr (by rfl) (pa_cons (pv 2) pa_nil)))))), ?_⟩
    refine ⟨_, rfl, p1, _, 1, _, rfl, rfl, hp1, atI_nat (j := 1) rfl, _, rfl, p2, _, 1, _, rfl, rfl, hp2, atI_nat (j := 1) rfl, i, j, rfl, rfl, _, rfl, _, _, rfl, rfl, _, rfl, ?_⟩
    have q : ∀ H' u, Kp H H' → DtR K H' u (if i + j > 999999 then errS "integer overflow" else vInt (i + j)) → Q u H' := q
    by_cases hz : i + j > 999999
    · rw [if_pos hz] at q
      refine iteP hz ⟨by show 2 ≤ sizeLine; decide, fun p hp => ?_⟩
      obtain ⟨k1, d1⟩ := mk_err (K := K) (m := Str.ofString "integer overflow") hp
      exact q _ _ k1 d1
    · rw [if_neg hz] at q
      exact iteN hz ⟨_, rfl, _, rfl, fun H' u k r => q H' u k r⟩
theorem c_difference (D : DefAt K mg "_difference" s_difference ["one", "other"]) (c__integer : Cal P w K mg base CX0 1 "_integer" ["number"] (spInt1 K)) : Cal P w K mg base CX0 2 "_difference" ["one", "other"] (spOp K [.int, .int] opSub) := by
  refine D.cal (k := 1) sc_difference (fun vs H Q E h => ?_) fun f cdv A outer s H vs Q E hr h => ?_
  · obtain ⟨as, h, _, l, _⟩ := h
    rw [h.length, l]
    rfl
  · obtain ⟨as, h, g, l, hw, q⟩ := h
    obtain ⟨v1, v2, a1, a2, rfl, rfl, h1, h2⟩ := two_of h l
    obtain ⟨w1, w2⟩ := wrongK_cons hw
    obtain ⟨i, rfl⟩ := has_int w1
    obtain ⟨j, rfl⟩ := has_int (wrongK_cons w2).1
    obtain ⟨p1, rfl, hp1⟩ := at_int h1
    obtain ⟨p2, rfl, hp2⟩ := at_int h2
    refine ⟨_, (pss_cons (ps_if (pt_cmpR op_lt (pe_ix ix_tup (pv 0) pe_int (fun _ _ => rfl)) (pe_ix ix_tup (pv 1) pe_int (fun _ _ => rfl)) (nomark _)) (pss_one (ps_ret (pe_tup (pa_cons pe_str (pa_cons pe_str pa_nil))))) pss_nil)
  (pss_one (ps_ret (pe_cal (c__integer.mono (by omega)) hr (by rfl) (pa_cons (pe_op op_sub (pe_ix ix_tup (pv 0) pe_int (fun _ _ => rfl)) (pe_ix ix_tup (pv 1) pe_int (fun _ _ => rfl))) pa_nil))))), ?_⟩
    refine ⟨_, rfl, p1, _, 1, _, rfl, rfl, hp1, atI_nat (j := 1) rfl, _, rfl, p2, _, 1, _, rfl, rfl, hp2, atI_nat (j := 1) rfl, i, j, rfl, rfl, _, rfl, ?_⟩
    have q : ∀ H' u, Kp H H' → DtR K H' u (if i < j then errS "integer underflow" else vInt (i - j)) → Q u H' := q
    by_cases hz : i < j
    · rw [if_pos hz] at q
      refine iteP hz ⟨by show 2 ≤ sizeLine; decide, fun p hp => ?_⟩
      obtain ⟨k1, d1⟩ := mk_err (K := K) (m := Str.ofString "integer underflow") hp
      exact q _ _ k1 d1
    · rw [if_neg hz] at q
      exact iteN hz ⟨_, rfl, p1, _, 1, _, rfl, rfl, hp1, atI_nat (j := 1) rfl, _, rfl, p2, _, 1, _, rfl, rfl, hp2, atI_nat (j := 1) rfl, i, j, rfl, rfl, _, rfl, fun H' u k r => q H' u k r⟩
theorem c_is_less (D : DefAt K mg "_is_less" s_is_less ["one", "other"]) (c__boolean : Cal P w K mg base CX0 1 "_boolean" ["truth"] (spBool1 K)) : Cal P w K mg base CX0 2 "_is_less" ["one", "other"] (spOp K [.int, .int] opLt) := by
  refine D.cal (k := 1) sc_is_less (fun vs H Q E h => ?_) fun f cdv A outer s H vs Q E hr h => ?_
  · obtain ⟨as, h, _, l, _⟩ := h
    rw [h.length, l]
    rfl
  · obtain ⟨as, h, g, l, hw, q⟩ := h
    obtain ⟨v1, v2, a1, a2, rfl, rfl, h1, h2⟩ := two_of h l
    obtain ⟨w1, w2⟩ := wrongK_cons hw
    obtain ⟨i, rfl⟩ := has_int w1
    obtain ⟨j, rfl⟩ := has_int (wrongK_cons w2).1
    obtain ⟨p1, rfl, hp1⟩ := at_int h1
    obtain ⟨p2, rfl, hp2⟩ := at_int h2
    refine ⟨_, (pss_one (ps_ret (pe_cal (c__boolean.mono (by omega)) hr (by rfl) (pa_cons (pe_cmpR op_lt (pe_ix ix_tup (pv 0) pe_int (fun _ _ => rfl)) (pe_ix ix_tup (pv 1) pe_int (fun _ _ => rfl)) (nomark _)) pa_nil)))), ?_⟩
    exact ⟨_, rfl, p1, _, 1, _, rfl, rfl, hp1, atI_nat (j := 1) rfl, _, rfl, p2, _, 1, _, rfl, rfl, hp2, atI_nat (j := 1) rfl, i, j, rfl, rfl, _, rfl, fun H' u k r => q H' u k r⟩
theorem Va.good.okd {a : Va} (h : a.good) : OkD a.d := Rv.GV.okd h.gv
theorem c_is_same (D : DefAt K mg "_is_same" s_is_same ["one", "other"]) (c__boolean : Cal P w K mg base CX0 1 "_boolean" ["truth"] (spBool1 K)) : Cal P w K mg base CX0 2 "_is_same" ["one", "other"] (spOp K [.any, .any] opEq) := by
  refine D.cal (k := 1) sc_is_same (fun vs H Q E h => ?_) fun f cdv A outer s H vs Q E hr h => ?_
  · obtain ⟨as, h, _, l, _⟩ := h
    rw [h.length, l]
    rfl
  · obtain ⟨as, h, g, l, hw, q⟩ := h
    obtain ⟨v1, v2, a1, a2, rfl, rfl, h1, h2⟩ := two_of h l
    refine ⟨_, (pss_one (ps_ret (pe_cal (c__boolean.mono (by omega)) hr (by rfl) (pa_cons (pe_cmpR (op_eqD hr.r.units) (pv 0) (pv 1) (nomark _)) pa_nil)))), ?_⟩
    exact ⟨_, rfl, _, rfl, a1.d, a2.d, h1.dt.dp, h2.dt.dp, (g a1 (by simp)).okd.shaped, (g a2 (by simp)).okd.shaped, _, rfl, fun H' u k r => q H' u k r⟩
theorem c_joined (D : DefAt K mg "_joined" s_joined ["one", "other"]) (m_len : mg "len" = none) (gT : ∃ t, mg "TEXT_LENGTH" = some (.int 40 t)) (c_plain : Cal P w K mg base CX0 1 "plain" ["scalar"] (Rv.spPlain K)) : Cal P w K mg base CX0 2 "_joined" ["one", "other"] (spOp K [.scalar, .scalar] opCat) := by
  refine D.cal (k := 1) sc_joined (fun vs H Q E h => ?_) fun f cdv A outer s H vs Q E hr h => ?_
  · obtain ⟨as, h, _, l, _⟩ := h
    rw [h.length, l]
    rfl
  · obtain ⟨as, h, g, l, hw, q⟩ := h
    obtain ⟨v1, v2, a1, a2, rfl, rfl, h1, h2⟩ := two_of h l
    obtain ⟨w1, w2⟩ := wrongK_cons hw
    obtain ⟨x, rfl⟩ := has_scalar w1
    obtain ⟨y, rfl⟩ := has_scalar (wrongK_cons w2).1
    have gx : x.good := g (.s x) (by simp)
    have gy : y.good := g (.s y) (by simp)
    obtain ⟨t, g_TEXT_LENGTH⟩ := gT
    have hx := plain_len gx
    have hy := plain_len gy
    have sz : sizeLine = 16777216 := rfl
    refine ⟨_, (pss_cons (ps_set (i := 2) sc_joined.nd rfl (Or.inl rfl) (pe_op op_add_str (pe_cal (c_plain.mono (by omega)) hr (by rfl) (pa_cons (pv 0) pa_nil)) (pe_cal (c_plain.mono (by omega)) hr (by rfl) (pa_cons (pv 1) pa_nil))))
  (pss_cons (ps_if (pt_cmpR op_gt (pe_callB call_len_str (by rfl) m_len (by decide +kernel) (pa_cons (pv 2) pa_nil)) (pe_glob (v := .int 40) rfl g_TEXT_LENGTH ⟨_, rfl⟩) (nomark _)) (pss_one (ps_ret (pe_tup (pa_cons pe_str (pa_cons pe_str pa_nil))))) pss_nil)
  (pss_one (ps_ret (pe_tup (pa_cons pe_str (pa_cons (pe_tup (pa_cons pe_str (pa_cons (pv 2) pa_nil))) pa_nil))))))), ?_⟩
    refine ⟨_, rfl, v1, x, rfl, (by cases h1 with | s h => exact h), gx.ok, _, rfl, v2, y, rfl, (by cases h2 with | s h => exact h), gy.ok, _, _, rfl, rfl, by omega, ?_⟩
    have hl : (x.plain ++ y.plain).length ≤ 80 := by
      have : (x.plain ++ y.plain).length = x.plain.length + y.plain.length := Array.size_append
      omega
    refine ⟨_, rfl, _, rfl, by omega, _, _, rfl, rfl, _, rfl, ?_⟩
    have q : ∀ H' u, Kp H H' → DtR K H' u (if (x.plain ++ y.plain).length > 40 then errS "text too long" else .val (.s (.text (x.plain ++ y.plain)))) → Q u H' := q
    by_cases hz : (x.plain ++ y.plain).length > 40
    · rw [if_pos hz] at q
      refine iteP (by omega) ⟨by show 2 ≤ sizeLine; decide, fun p hp => ?_⟩
      obtain ⟨k1, d1⟩ := mk_err (K := K) (m := Str.ofString "text too long") hp
      exact q _ _ k1 d1
    · rw [if_neg hz] at q
      refine iteN (by omega) ⟨_, rfl, by show 2 ≤ sizeLine; decide, fun p hp => ⟨by show 2 ≤ sizeLine; decide, fun p2 hp2 => ?_⟩⟩
      obtain ⟨k1, d1⟩ := new_pair (K := K) hp (.str (Str.ofString "text")) (.str (x.plain ++ y.plain))
      obtain ⟨k2, d2⟩ := mk_val (K := K) (va := .s (.text (x.plain ++ y.plain))) hp2 (.s d1)
      exact q _ _ (k1.trans k2) d2
end
end Rw

namespace Gd
open PySem PySem.Spec PyProof.Rows L2 GxR Gx
theorem Kb.grow {S : List Addr} {H H' : Hp} (h : ∀ b o, H b = some o → H' b = some o) : Kb S H H' := ⟨fun b o e _ _ => h b o e, fun T ⟨ps, e, t⟩ => ⟨ps, h _ _ e, t⟩, fun p e => by
  cases q : H p with
  | none => rfl
  | some o => rw [h p o q] at e; cases e⟩
mutual
/-- a dict that is stored changes no data -/
theorem dt_upd {K : PySem.W.Frag} {H : Hp} {p : Addr} {kvs o : List (Key × V)} : ∀ {v : V} {d : PyData}, Dt K H v d → H p = some (.dK kvs) → Dt K (upd H p (.dK o)) v d
  | _, _, .non, _ => .non
  | _, _, .bl b, _ => .bl b
  | _, _, .int i, _ => .int i
  | _, _, .str x, _ => .str x
  | _, _, .tup (a := a) h hs, e => .tup (by
      rcases h with (h | ⟨ob, h⟩) | h
      · exact .inl (.inl (by rw [upd_ne (fun z => by rw [z, e] at h; cases h)]; exact h))
      · exact .inl (.inr ⟨ob, by rw [upd_ne (fun z => by rw [z, e] at h; cases h)]; exact h⟩)
      · exact .inr h) (dtAll_upd hs e)
theorem dtAll_upd {K : PySem.W.Frag} {H : Hp} {p : Addr} {kvs o : List (Key × V)} : ∀ {vs : List V} {ds : List PyData}, DtAll K H vs ds → H p = some (.dK kvs) → DtAll K (upd H p (.dK o)) vs ds
  | _, _, .nil, _ => .nil
  | _, _, .cons h hs, e => .cons (dt_upd h e) (dtAll_upd hs e)
end
theorem merge_app : ∀ (more acc : List (Key × V)), (more.map (·.1)).Nodup → (∀ p ∈ more, ∀ q ∈ acc, q.1 ≠ p.1) → mergeK acc more = acc ++ more
  | [], acc, _, _ => by show acc = _; rw [List.append_nil]
  | m :: more, acc, hn, hd => by
    rw [List.map_cons, List.nodup_cons] at hn
    have hp : putK acc m.1 m.2 = acc ++ [m] := by
      unfold putK
      rw [if_neg]
      intro z
      rw [List.any_eq_true] at z
      obtain ⟨q, hq, e⟩ := z
      exact hd m List.mem_cons_self q hq (of_decide_eq_true e)
    show mergeK (putK acc m.1 m.2) more = _
    rw [hp, merge_app more (acc ++ [m]) hn.2 fun p hp q hq => ?_, List.append_assoc]
    · rfl
    · rcases List.mem_append.mp hq with h | h
      · exact hd p (List.mem_cons_of_mem _ hp) q h
      · rw [List.mem_singleton.mp h]
        intro e
        exact hn.1 (e ▸ List.mem_map_of_mem (f := (·.1)) hp)
theorem merge_self {more : List (Key × V)} (hn : (more.map (·.1)).Nodup) : mergeK [] more = more := merge_app more [] hn fun _ _ q hq => by cases hq
end Gd
namespace Rw
open PySem PySem.Spec PyProof.Rows L2 GxR Gx Gd Rx Rs
abbrev s_has : Stmt := topS 35
theorem sc_has : FnScope ["whole", "key"] ["whole", "key"] (defScope s_has) := ⟨rfl, rfl, rfl, by decide +kernel, rfl, by decide +kernel, by decide +kernel⟩
abbrev s_scalar_at : Stmt := topS 36
theorem sc_scalar_at : FnScope ["whole", "key", "scalars"] ["whole", "key"] (defScope s_scalar_at) := ⟨rfl, rfl, rfl, by decide +kernel, rfl, by decide +kernel, by decide +kernel⟩
abbrev s_without : Stmt := topS 37
theorem sc_without : FnScope ["whole", "key", "entry"] ["whole", "key"] (defScope s_without) := ⟨rfl, rfl, rfl, by decide +kernel, rfl, by decide +kernel, by decide +kernel⟩
abbrev s_first_entries : Stmt := topS 38
theorem sc_first_entries : FnScope ["whole", "number"] ["whole", "number"] (defScope s_first_entries) := ⟨rfl, rfl, rfl, by decide +kernel, rfl, by decide +kernel, by decide +kernel⟩
abbrev s_with_entry : Stmt := topS 39
theorem sc_with_entry : FnScope ["whole", "key", "scalar", "scalars"] ["whole", "key", "scalar"] (defScope s_with_entry) := ⟨rfl, rfl, rfl, by decide +kernel, rfl, by decide +kernel, by decide +kernel⟩
/-- the pairs of a dict are the entries of a map -/
inductive KvE (K : PySem.W.Frag) (H : Hp) : List (Key × V) → List (Str × Rv.Sc) → Prop where
  | nil : KvE K H [] []
  | cons {k : Str} {v : V} {s : Rv.Sc} {kvs : List (Key × V)} {ps : List (Str × Rv.Sc)} (h : Dt K H v s.d) (hs : KvE K H kvs ps) : KvE K H ((.inr k, v) :: kvs) ((k, s) :: ps)
section
variable {K : PySem.W.Frag} {S : List Addr} {H H' : Hp}
theorem KvE.kb (k : Kb S H H') (hS : Lsts S H) : ∀ {kvs : List (Key × V)} {ps : List (Str × Rv.Sc)}, KvE K H kvs ps → KvE K H' kvs ps
  | _, _, .nil => .nil
  | _, _, .cons h hs => .cons (h.kb k hS) (KvE.kb k hS hs)
theorem KvE.length : ∀ {kvs : List (Key × V)} {ps : List (Str × Rv.Sc)}, KvE K H kvs ps → kvs.length = ps.length
  | _, _, .nil => rfl
  | _, _, .cons _ hs => congrArg (· + 1) hs.length
theorem KvE.keys : ∀ {kvs : List (Key × V)} {ps : List (Str × Rv.Sc)}, KvE K H kvs ps → kvs.map (·.1) = ps.map fun p => (Sum.inr p.1 : Key)
  | _, _, .nil => rfl
  | _, _, .cons _ hs => by rw [List.map_cons, List.map_cons, hs.keys]
theorem KvE.nodup {kvs : List (Key × V)} {ps : List (Str × Rv.Sc)} (h : KvE K H kvs ps) (hn : (ps.map (·.1)).Nodup) : (kvs.map (·.1)).Nodup := by
  rw [h.keys, show (ps.map fun p => (Sum.inr p.1 : Key)) = (ps.map (·.1)).map Sum.inr by rw [List.map_map]; rfl]
  exact hn.map _ fun a b hab z => hab (Sum.inr.inj z)
theorem ents_pairs : ∀ {xs : List V} {ps : List (Str × Rv.Sc)}, DtAll K H xs (ps.map Rv.ent) → ∃ (as : List Addr) (kvs : List (Key × V)), xs = as.map V.ref ∧ Paired (fun p kv => SqT K H p [kV kv.1, kv.2]) as kvs ∧ KvE K H kvs ps
  | _, [], .nil => ⟨[], [], rfl, .nil, .nil⟩
  | _, (k, s) :: ps, .cons h hs => by
    obtain ⟨as, kvs, rfl, h1, h2⟩ := ents_pairs hs
    obtain ⟨p, x, y, rfl, hp, hx, hy⟩ := dt_pair h
    cases hx
    exact ⟨p :: as, (.inr k, y) :: kvs, rfl, .cons hp h1, .cons hy h2⟩
theorem pairs_ents : ∀ {ts : List Addr} {kvs : List (Key × V)} {ps : List (Str × Rv.Sc)}, Paired (fun (t : Addr) (q : Key × V) => H t = some (.tup [kV q.1, q.2])) ts kvs → KvE K H kvs ps → DtAll K H (ts.map V.ref) (ps.map Rv.ent)
  | _, _, _, .nil, .nil => .nil
  | _, _, _, .cons e hs, .cons h h2 => .cons (.tup (SqT.of e) (.cons (.str _) (.cons h .nil))) (pairs_ents hs h2)
theorem KvE.look : ∀ {kvs : List (Key × V)} {ps : List (Str × Rv.Sc)} (k : Str), KvE K H kvs ps → (lookE ps k = none ∧ valV kvs (.inr k) = none) ∨ ∃ s v, lookE ps k = some s ∧ valV kvs (.inr k) = some v ∧ Dt K H v s.d
  | _, _, k, .nil => .inl ⟨rfl, rfl⟩
  | _, _, k, .cons (k := k') (v := v) (s := s) (kvs := kvs) (ps := ps) h hs => by
    by_cases e : k' = k
    · subst e
      refine .inr ⟨s, v, ?_, ?_, h⟩
      · unfold lookE
        rw [List.find?_cons_of_pos (by simp)]
        rfl
      · unfold valV
        rw [List.find?_cons_of_pos (by simp)]
        rfl
    · have e1 : lookE ((k', s) :: ps) k = lookE ps k := by
        unfold lookE
        rw [List.find?_cons_of_neg (by simpa using e)]
      have e2 : valV (((Sum.inr k' : Key), v) :: kvs) (.inr k) = valV kvs (.inr k) := by
        unfold valV
        rw [List.find?_cons_of_neg (by simpa using e)]
      rw [e1, e2]
      exact KvE.look k hs
theorem kv_any : ∀ {kvs : List (Key × V)} {ps : List (Str × Rv.Sc)} (k : Str), KvE K H kvs ps → (kvs.any fun kv => decide (kv.1 = (.inr k : Key))) = ps.any fun p => decide (p.1 = k)
  | _, _, k, .nil => rfl
  | _, _, k, .cons (k := k') h hs => by
    rw [List.any_cons, List.any_cons, kv_any k hs]
    congr 1
    by_cases e : k' = k
    · subst e; simp
    · rw [decide_eq_false (fun z => e (Sum.inr.inj z)), decide_eq_false e]
theorem kv_map : ∀ {kvs : List (Key × V)} {ps : List (Str × Rv.Sc)} {k : Str} {v : V} {s : Rv.Sc}, KvE K H kvs ps → Dt K H v s.d → KvE K H (kvs.map fun kv => if kv.1 = (.inr k : Key) then (kv.1, v) else kv) (ps.map fun p => if p.1 = k then (k, s) else p)
  | _, _, _, _, _, .nil, _ => .nil
  | _, _, k, v, s, .cons (k := k') h hs, hv => by
    rw [List.map_cons, List.map_cons]
    by_cases e : k' = k
    · subst e
      rw [if_pos rfl, if_pos rfl]
      exact .cons hv (kv_map hs hv)
    · rw [if_neg (fun z => e (Sum.inr.inj z)), if_neg e]
      exact .cons h (kv_map hs hv)
theorem KvE.snoc : ∀ {kvs : List (Key × V)} {ps : List (Str × Rv.Sc)} {k : Str} {v : V} {s : Rv.Sc}, KvE K H kvs ps → Dt K H v s.d → KvE K H (kvs ++ [(.inr k, v)]) (ps ++ [(k, s)])
  | _, _, _, _, _, .nil, hv => .cons hv .nil
  | _, _, _, _, _, .cons h hs, hv => .cons h (hs.snoc hv)
theorem KvE.put {kvs : List (Key × V)} {ps : List (Str × Rv.Sc)} {k : Str} {v : V} {s : Rv.Sc} (h : KvE K H kvs ps) (hv : Dt K H v s.d) : KvE K H (putK kvs (.inr k) v) (putE ps k s) := by
  unfold putK putE
  rw [kv_any k h]
  split
  · exact kv_map h hv
  · exact h.snoc hv
end
theorem dtAll_take {K : PySem.W.Frag} {H : Hp} : ∀ {n : Nat} {vs : List V} {ds : List PyData}, DtAll K H vs ds → DtAll K H (vs.take n) (ds.take n)
  | 0, _, _, _ => .nil
  | n + 1, _, _, .nil => .nil
  | n + 1, _, _, .cons h hs => .cons h (dtAll_take hs)
theorem kve_upd {K : PySem.W.Frag} {H : Hp} {p : Addr} {o : List (Key × V)} : ∀ {kvs kvs0 : List (Key × V)} {ps : List (Str × Rv.Sc)}, KvE K H kvs ps → H p = some (.dK kvs0) → KvE K (upd H p (.dK o)) kvs ps
  | _, _, _, .nil, _ => .nil
  | _, kvs0, _, .cons h hs, e => .cons (dt_upd h e) (kve_upd hs e)
theorem three_of {K : PySem.W.Frag} {H : Hp} {vs : List V} {as : List Va} (h : DtVs K H vs as) (hl : as.length = 3) : ∃ v1 v2 v3 a1 a2 a3, vs = [v1, v2, v3] ∧ as = [a1, a2, a3] ∧ DtV K H v1 a1 ∧ DtV K H v2 a2 ∧ DtV K H v3 a3 := by
  cases h with
  | nil => cases hl
  | cons h1 hs =>
    obtain ⟨v2, v3, a2, a3, rfl, rfl, h2, h3⟩ := two_of hs (by simpa using hl)
    exact ⟨_, _, _, _, _, _, rfl, rfl, h1, h2, h3⟩
section
variable {P : Program} {w : World} {K : PySem.W.Frag} {mg : Str → Option Value} {base : Heap}
theorem c_has (D : DefAt K mg "_has" s_has ["whole", "key"]) (m_dict : mg "dict" = none) (c__boolean : Cal P w K mg base CX0 1 "_boolean" ["truth"] (spBool1 K)) : Cal P w K mg base CX0 2 "_has" ["whole", "key"] (spOp K [.map, .key] opHas) := by
  refine D.cal (k := 1) sc_has (fun vs H Q E h => ?_) fun f cdv A outer s H vs Q E hr h => ?_
  · obtain ⟨as, h, _, l, _⟩ := h
    rw [h.length, l]
    rfl
  · obtain ⟨as, h, g, l, hw, q⟩ := h
    obtain ⟨v1, v2, a1, a2, rfl, rfl, h1, h2⟩ := two_of h l
    obtain ⟨w1, w2⟩ := wrongK_cons hw
    obtain ⟨ps, rfl⟩ := has_map w1
    obtain ⟨x, rfl, hx⟩ := has_key (wrongK_cons w2).1
    obtain ⟨a, b, xs, rfl, ha, hn, hb, hs⟩ := at_map h1
    obtain ⟨p2, rfl, hp2⟩ := at_text h2
    have gm : Rv.Ents ps := g (.m ps) (by simp)
    refine ⟨_, (pss_one (ps_ret (pe_cal (c__boolean.mono (by omega)) hr (by rfl) (pa_cons (pe_cmp (pc_din (hu1 hr) (pe_ix ix_tup (pv 1) pe_int (fun _ _ => rfl)) (pe_callTy (call_dictT rfl) (by rfl) m_dict (by decide +kernel) (pa_cons (pe_ix ix_tup (pv 0) pe_int (fun _ _ => rfl)) pa_nil))) rfl) pa_nil)))), ?_⟩
    obtain ⟨as, kvs, rfl, hpa, hk⟩ := ents_pairs hs
    refine ⟨_, rfl, p2, _, 1, _, rfl, rfl, hp2, atI_nat (j := 1) rfl, _, rfl, a, _, 1, _, rfl, rfl, ha, atI_nat (j := 1) rfl, b, as, kvs, rfl, hb, hn, hpa, fun p hp => ?_⟩
    rw [merge_self (hk.nodup gm.nd)]
    have k1 : Kp H (upd H p (.dK kvs)) := Kb.new hp
    refine ⟨p, _, rfl, DGet.k (k := .inr x) upd_same, _, rfl, fun H' u k r => q H' u (k1.trans k) ?_⟩
    have q : DtR K H' u (vBool (valV kvs (.inr x)).isSome) := r
    show DtR K H' u (vBool (lookE ps x).isSome)
    rcases hk.look x with ⟨e1, e2⟩ | ⟨s, v, e1, e2, _⟩
    · rw [e2] at q; rw [e1]; exact q
    · rw [e2] at q; rw [e1]; exact q
theorem c_scalar_at (D : DefAt K mg "_scalar_at" s_scalar_at ["whole", "key"]) (m_dict : mg "dict" = none) : Cal P w K mg base CX0 2 "_scalar_at" ["whole", "key"] (spOp K [.map, .key] opGet) := by
  refine D.cal (k := 1) sc_scalar_at (fun vs H Q E h => ?_) fun f cdv A outer s H vs Q E hr h => ?_
  · obtain ⟨as, h, _, l, _⟩ := h
    rw [h.length, l]
    rfl
  · obtain ⟨as, h, g, l, hw, q⟩ := h
    obtain ⟨v1, v2, a1, a2, rfl, rfl, h1, h2⟩ := two_of h l
    obtain ⟨w1, w2⟩ := wrongK_cons hw
    obtain ⟨ps, rfl⟩ := has_map w1
    obtain ⟨x, rfl, hx⟩ := has_key (wrongK_cons w2).1
    obtain ⟨a, b, xs, rfl, ha, hn, hb, hs⟩ := at_map h1
    obtain ⟨p2, rfl, hp2⟩ := at_text h2
    have gm : Rv.Ents ps := g (.m ps) (by simp)
    refine ⟨_, (pss_cons (ps_set (i := 2) sc_scalar_at.nd rfl (Or.inl rfl) (pe_callTy (call_dictT rfl) (by rfl) m_dict (by decide +kernel) (pa_cons (pe_ix ix_tup (pv 0) pe_int (fun _ _ => rfl)) pa_nil)))
  (pss_cons (ps_if (pt_cmp (pc_dnotin (hu1 hr) (pe_ix ix_tup (pv 1) pe_int (fun _ _ => rfl)) (pv 2))) (pss_one (ps_ret (pe_tup (pa_cons pe_str (pa_cons pe_str pa_nil))))) pss_nil)
  (pss_one (ps_ret (pe_tup (pa_cons pe_str (pa_cons (pe_dget (hu1 hr) (pv 2) (pe_ix ix_tup (pv 1) pe_int (fun _ _ => rfl)) (fun _ _ => rfl)) pa_nil))))))), ?_⟩
    obtain ⟨as, kvs, rfl, hpa, hk⟩ := ents_pairs hs
    refine ⟨_, rfl, a, _, 1, _, rfl, rfl, ha, atI_nat (j := 1) rfl, b, as, kvs, rfl, hb, hn, hpa, fun p hp => ?_⟩
    rw [merge_self (hk.nodup gm.nd)]
    have k1 : Kp H (upd H p (.dK kvs)) := Kb.new hp
    have e1 : (upd H p (.dK kvs)) p = some (.dK kvs) := upd_same
    have s2 := k1.sqT Lsts.nil hp2
    have hk1 := hk.kb k1 Lsts.nil
    generalize upd H p (.dK kvs) = H1 at k1 e1 s2 hk1 ⊢
    have q : ∀ H' u, Kp H H' → DtR K H' u (match lookE ps x with | none => errS "no such key" | some x => .val (.s x)) → Q u H' := q
    refine ⟨_, rfl, p2, _, 1, _, rfl, rfl, s2, atI_nat (j := 1) rfl, _, rfl, p, _, rfl, DGet.k (k := .inr x) e1, _, rfl, ?_⟩
    rcases hk1.look x with ⟨e3, e4⟩ | ⟨s, v, e3, e4, dv⟩
    · rw [e3] at q
      rw [e4]
      refine iteT ⟨by show 2 ≤ sizeLine; decide, fun p3 hp3 => ?_⟩
      obtain ⟨k2, d2⟩ := mk_err (K := K) (m := Str.ofString "no such key") hp3
      exact q _ _ (k1.trans k2) d2
    · rw [e3] at q
      have hg : DGet H1 p (kV (.inr x)) (some v) := by rw [← e4]; exact DGet.k (k := .inr x) e1
      rw [e4]
      refine iteF ⟨_, rfl, _, rfl, p2, _, 1, _, rfl, rfl, s2, atI_nat (j := 1) rfl, p, v, rfl, hg, by show 2 ≤ sizeLine; decide, fun p3 hp3 => ?_⟩
      obtain ⟨k2, d2⟩ := mk_val (K := K) (va := .s s) hp3 (.s dv)
      exact q _ _ (k1.trans k2) d2
theorem c_without (D : DefAt K mg "_without" s_without ["whole", "key"]) (c__map_value : Cal P w K mg base CX0 1 "_map_value" ["entries"] (spMapV K)) : Cal P w K mg base CX0 2 "_without" ["whole", "key"] (spOp K [.map, .key] opRem) := by
  refine D.cal (k := 1) sc_without (fun vs H Q E h => ?_) fun f cdv A outer s H vs Q E hr h => ?_
  · obtain ⟨as, h, _, l, _⟩ := h
    rw [h.length, l]
    rfl
  · obtain ⟨as, h, g, l, hw, q⟩ := h
    obtain ⟨v1, v2, a1, a2, rfl, rfl, h1, h2⟩ := two_of h l
    obtain ⟨w1, w2⟩ := wrongK_cons hw
    obtain ⟨ps, rfl⟩ := has_map w1
    obtain ⟨x, rfl, hx⟩ := has_key (wrongK_cons w2).1
    obtain ⟨a, b, xs, rfl, ha, hn, hb, hs⟩ := at_map h1
    obtain ⟨p2, rfl, hp2⟩ := at_text h2
    have gm : Rv.Ents ps := g (.m ps) (by simp)
    have hl := hs.length
    rw [List.length_map] at hl
    have sz : sizeLine = 16777216 := rfl
    refine ⟨_, (pss_one (ps_ret (pe_cal (c__map_value.mono (by omega)) hr (by rfl) (pa_cons (pe_lc rfl sc_without.nd (pi_tup (pe_ix ix_tup (pv 0) pe_int (fun _ _ => rfl))) (blkOk_by (own := [("entry", 2)]) (N := ["whole", "key", "entry"]) (sc := defScope s_without) (by decide +kernel)) (fun _ _ _ _ _ => (pg_name (i := 2) sc_without.nd rfl (Or.inl rfl))) (fun _ _ _ _ _ => (pts_one (pt_cmpR op_ne (pe_ix (ix_tupK (K := K) rfl) (pv 2) pe_int (fun _ _ => rfl)) (pe_ix (ix_tupK (K := K) rfl) (pv 1) pe_int (fun _ _ => rfl)) (nomark _)))) (fun _ _ _ _ _ => (pv 2))) pa_nil)))), ?_⟩
    have g8 := gm.len
    refine ⟨_, rfl, a, _, 1, _, rfl, rfl, ha, atI_nat (j := 1) rfl, b, rfl, ⟨xs, hb⟩, fun D hD => ?_⟩
    refine lc_it walk_tup (fun i H' => ∃ acc, acc.length ≤ i ∧ Kp H H' ∧ H' D = some (.lst acc) ∧ DtAll K H' acc (((ps.take i).filter fun p => !decide (p.1 = x)).map Rv.ent)) ⟨[], Nat.le_refl _, Kb.new hD, upd_same, .nil⟩ (fun i H' _ ⟨acc, _, k, _⟩ => k.sqT Lsts.nil hb) ?_ ?_
    · rintro i v _ H1 hi ⟨acc, hacc, k, eD, ds⟩ ⟨rfl, hv⟩
      have hi2 : i < ps.length := by omega
      obtain ⟨d, hd, dv⟩ := (DtAll.kb k Lsts.nil hs).get hv
      rw [List.getElem?_map, List.getElem?_eq_getElem hi2] at hd
      obtain rfl : Rv.ent ps[i] = d := Option.some.inj hd
      obtain ⟨t, y, z, rfl, ht, hy, hz⟩ := dt_pair dv
      cases hy
      refine ⟨rfl, .ref t, rfl, t, _, 0, _, rfl, rfl, ht, atI_nat (j := 0) rfl, _, rfl, p2, _, 1, _, rfl, rfl, k.sqT Lsts.nil hp2, atI_nat (j := 1) rfl, rfl, _, rfl, ?_⟩
      have et : ps.take (i + 1) = ps.take i ++ [ps[i]] := by rw [List.take_add_one, List.getElem?_eq_getElem hi2]; rfl
      by_cases e : ps[i].1 = x
      · refine iteF' (by rw [e]; simp) ⟨acc, by omega, k, eD, ?_⟩
        rw [et, List.filter_append, List.filter_cons_of_neg (by simp [e]), List.filter_nil, List.append_nil]
        exact ds
      · refine iteT' (by rw [decide_eq_false (fun z => e (V.str.inj z))]; rfl) ⟨_, rfl, acc, eD, by omega, acc ++ [.ref t], by simp; omega, k.mut hD (no_tab eD nt_lst), upd_same, ?_⟩
        rw [et, List.filter_append, List.filter_cons_of_pos (by simp [e]), List.filter_nil, List.map_append]
        exact DtAll.kb (Kb.put (S := [D]) (by simp) eD nt_lst) (fun b hb => by rw [List.mem_singleton.mp hb]; exact ⟨_, eD⟩) (Rv.DtAll.snoc ds dv)
    · rintro H1 ⟨acc, hacc, k, eD, ds⟩
      rw [hl, List.take_length] at ds
      exact ⟨D, acc, _, rfl, .inl (.inl (.inl eD)), ds, fun H' u k2 r => q H' u (k.trans k2) r⟩
theorem c_first_entries (D : DefAt K mg "_first_entries" s_first_entries ["whole", "number"]) (c__map_value : Cal P w K mg base CX0 1 "_map_value" ["entries"] (spMapV K)) : Cal P w K mg base CX0 2 "_first_entries" ["whole", "number"] (spOp K [.map, .int] opTake) := by
  refine D.cal (k := 1) sc_first_entries (fun vs H Q E h => ?_) fun f cdv A outer s H vs Q E hr h => ?_
  · obtain ⟨as, h, _, l, _⟩ := h
    rw [h.length, l]
    rfl
  · obtain ⟨as, h, g, l, hw, q⟩ := h
    obtain ⟨v1, v2, a1, a2, rfl, rfl, h1, h2⟩ := two_of h l
    obtain ⟨w1, w2⟩ := wrongK_cons hw
    obtain ⟨ps, rfl⟩ := has_map w1
    obtain ⟨i, rfl⟩ := has_int (wrongK_cons w2).1
    obtain ⟨a, b, xs, rfl, ha, hn, hb, hs⟩ := at_map h1
    obtain ⟨p2, rfl, hp2⟩ := at_int h2
    have gi : 0 ≤ i ∧ i ≤ 999999 := g (.s (.int i)) (by simp)
    obtain ⟨n, rfl⟩ : ∃ n : Nat, i = n := ⟨i.toNat, by omega⟩
    have hl := hs.length
    rw [List.length_map] at hl
    have q : ∀ H' u, Kp H H' → DtR K H' u (.val (.m (ps.take n))) → Q u H' := q
    refine ⟨_, (pss_one (ps_ret (pe_cal (c__map_value.mono (by omega)) hr (by rfl) (pa_cons (pe_slice sl_tupF (pe_ix ix_tup (pv 0) pe_int (fun _ _ => rfl)) po_none (po_some (pe_ix ix_tup (pv 1) pe_int (fun _ _ => rfl)))) pa_nil)))), ?_⟩
    refine ⟨_, rfl, a, _, 1, _, rfl, rfl, ha, atI_nat (j := 1) rfl, _, rfl, p2, _, 1, _, rfl, rfl, hp2, atI_nat (j := 1) rfl, (n : Int), rfl, b, xs, rfl, hb, fun hw => ?_, fun hw p o hp ho => ?_⟩
    · have h2 : HT.sIx xs.length xs.length (some (n : Int)) = xs.length := hw.2
      rw [HT.sIx_nat] at h2
      refine ⟨b, xs, ps, rfl, .inr ⟨hb, hn⟩, hs, fun H' u k r => q H' u k ?_⟩
      rw [List.take_of_length_le (by omega)]
      exact r
    · have k1 : Kp H (upd H p (frzT o (cutV xs none (some (n : Int))))) := Kb.new hp
      refine ⟨p, _, ps.take n, rfl, .inr ⟨SqT.frz upd_same, NoD.frz upd_same ho⟩, ?_, fun H' u k r => q H' u (k1.trans k) r⟩
      have e : cutV xs none (some (n : Int)) = xs.take n := by
        unfold cutV
        rw [HT.sIx_none, HT.sIx_nat, List.drop_zero, Nat.sub_zero]
        by_cases h : n ≤ xs.length
        · rw [Nat.min_eq_left h]
        · rw [Nat.min_eq_right (by omega), List.take_of_length_le (Nat.le_refl _), List.take_of_length_le (by omega)]
      rw [e]
      have hs2 := DtAll.kb k1 Lsts.nil hs
      rw [e] at hs2
      rw [List.map_take]
      exact dtAll_take hs2
theorem c_with_entry (D : DefAt K mg "_with_entry" s_with_entry ["whole", "key", "scalar"]) (m_dict : mg "dict" = none) (m_len : mg "len" = none) (m_list : mg "list" = none) (gM : ∃ t, mg "MAP_SIZE" = some (.int 8 t)) (c__map_value : Cal P w K mg base CX0 1 "_map_value" ["entries"] (spMapV K)) : Cal P w K mg base CX0 2 "_with_entry" ["whole", "key", "scalar"] (spOp K [.map, .key, .scalar] opPut) := by
  refine D.cal (k := 1) sc_with_entry (fun vs H Q E h => ?_) fun f cdv A outer s H vs Q E hr h => ?_
  · obtain ⟨as, h, _, l, _⟩ := h
    rw [h.length, l]
    rfl
  · obtain ⟨as, h, g, l, hw, q⟩ := h
    obtain ⟨v1, v2, v3, a1, a2, a3, rfl, rfl, h1, h2, h3⟩ := three_of h l
    obtain ⟨w1, w2⟩ := wrongK_cons hw
    obtain ⟨w2, w3⟩ := wrongK_cons w2
    obtain ⟨ps, rfl⟩ := has_map w1
    obtain ⟨x, rfl, hx⟩ := has_key w2
    obtain ⟨sc, rfl⟩ := has_scalar (wrongK_cons w3).1
    obtain ⟨a, b, xs, rfl, ha, hn, hb, hs⟩ := at_map h1
    obtain ⟨p2, rfl, hp2⟩ := at_text h2
    have gm : Rv.Ents ps := g (.m ps) (by simp)
    have hsc : Dt K H v3 sc.d := by cases h3 with | s h => exact h
    obtain ⟨t, g_MAP_SIZE⟩ := gM
    have sz : sizeLine = 16777216 := rfl
    refine ⟨_, (pss_cons (ps_set (i := 3) sc_with_entry.nd rfl (Or.inl rfl) (pe_callTy (call_dictT rfl) (by rfl) m_dict (by decide +kernel) (pa_cons (pe_ix ix_tup (pv 0) pe_int (fun _ _ => rfl)) pa_nil)))
  (pss_cons (ps_dput (hu1 hr) (pv 3) (pe_ix ix_tup (pv 1) pe_int (fun _ _ => rfl)) (pv 2) rfl)
  (pss_cons (ps_if (pt_cmpR op_gt (pe_callB call_lenD (by rfl) m_len (by decide +kernel) (pa_cons (pv 3) pa_nil)) (pe_glob (v := .int 8) rfl g_MAP_SIZE ⟨_, rfl⟩) (nomark _)) (pss_one (ps_ret (pe_tup (pa_cons pe_str (pa_cons pe_str pa_nil))))) pss_nil)
  (pss_one (ps_ret (pe_cal (c__map_value.mono (by omega)) hr (by rfl) (pa_cons (LiI.pe_listItems rfl (pv 3) (by rfl) m_list (by decide +kernel)) pa_nil))))))), ?_⟩
    obtain ⟨as, kvs, rfl, hpa, hk⟩ := ents_pairs hs
    refine ⟨_, rfl, a, _, 1, _, rfl, rfl, ha, atI_nat (j := 1) rfl, b, as, kvs, rfl, hb, hn, hpa, fun p hp => ?_⟩
    rw [merge_self (hk.nodup gm.nd)]
    have k1 : Kp H (upd H p (.dK kvs)) := Kb.new hp
    have e1 : (upd H p (.dK kvs)) p = some (.dK kvs) := upd_same
    have s2 := k1.sqT Lsts.nil hp2
    have hk1 := hk.kb k1 Lsts.nil
    have d3 := hsc.kb k1 Lsts.nil
    generalize upd H p (.dK kvs) = H1 at k1 e1 s2 hk1 d3 ⊢
    have hkl := hk.length
    have hlen : kvs.length < sizeLine := by have := gm.len; omega
    refine ⟨_, rfl, _, rfl, _, rfl, p2, _, 1, _, rfl, rfl, s2, atI_nat (j := 1) rfl, p, _, rfl, DPut.k (k := .inr x) e1 hlen, ?_⟩
    have nD : NoTab (.dK kvs) := fun _ h => by cases h
    have k2 : Kp H (upd H1 p (.dK (putK kvs (.inr x) v3))) := k1.mut hp (no_tab e1 nD)
    have kp : Kb [p] H1 (upd H1 p (.dK (putK kvs (.inr x) v3))) := Kb.put (by simp) e1 nD
    have e2 : (upd H1 p (.dK (putK kvs (.inr x) v3))) p = some (.dK (putK kvs (.inr x) v3)) := upd_same
    have hk2 : KvE K (upd H1 p (.dK (putK kvs (.inr x) v3))) (putK kvs (.inr x) v3) (putE ps x sc) := kve_upd (hk1.put d3) e1
    generalize upd H1 p (.dK (putK kvs (.inr x) v3)) = H2 at k2 e2 hk2 ⊢
    refine ⟨_, rfl, p, _, rfl, e2, _, _, rfl, rfl, _, rfl, ?_⟩
    have hl2 := hk2.length
    have q : ∀ H' u, Kp H H' → DtR K H' u (if (putE ps x sc).length > 8 then errS "too many entries" else .val (.m (putE ps x sc))) → Q u H' := q
    by_cases hz : (putE ps x sc).length > 8
    · rw [if_pos hz] at q
      refine iteP (by omega) ⟨by show 2 ≤ sizeLine; decide, fun p3 hp3 => ?_⟩
      obtain ⟨k3, d3⟩ := mk_err (K := K) (m := Str.ofString "too many entries") hp3
      exact q _ _ (k2.trans k3) d3
    · rw [if_neg hz] at q
      refine iteN (by omega) ⟨_, rfl, p, _, rfl, e2, fun H3 pl ts hg hpl hts hnt el hpair => ?_⟩
      have k3 : Kp H2 H3 := Kb.grow hg
      exact ⟨pl, _, putE ps x sc, rfl, .inl (.inl (.inl el)), pairs_ents hpair (hk2.kb k3 Lsts.nil), fun H' u k r => q H' u ((k2.trans k3).trans k) r⟩
end
end Rw

/-! zip of a list and a tuple. -/
namespace Gd
open PySem PySem.Spec PyProof.Rows L2 GxR Gx
def ItzM (K : PySem.W.Frag) (a b : Addr) : It :=
  ⟨fun i H => ∃ (xs ys : List V) (x y : V), SqL K H a xs ∧ SqT K H b ys ∧ xs[i]? = some x ∧ ys[i]? = some y,
    fun i H v H' => ∃ T x y, v = .ref T ∧ H T = none ∧ H' = upd H T (.tup [x, y]) ∧ (∀ xs, SqL K H a xs → xs[i]? = some x) ∧ ∀ ys, SqT K H b ys → ys[i]? = some y,
    fun i H => ∃ xs ys : List V, SqL K H a xs ∧ SqT K H b ys ∧ i ≤ xs.length ∧ i ≤ ys.length ∧ (i = xs.length ∨ i = ys.length)⟩
/-- the state of the zip's cells -/
def ZmSt (a b z TI TO i1 i2 : Addr) (i : Nat) (h : Heap) : Prop := IsZip h z TI TO .none ∧ IsTupOf2 h TI (.ref i1) (.ref i2) ∧ (∃ x y, IsTupOf2 h TO x y) ∧ h.IsListIter i1 a i ∧ h.IsTupleIter i2 b i
theorem turn_zipM {P : Program} {w : World} {K : PySem.W.Frag} {elts : List Expr} {kk : Nat} {tpos : Pos} {a b z TI TO i1 i2 : Addr} (D : ZipSep2 z TI TO i1 i2 [i1, a] [i2, b]) (ha : a ≠ i1) (hb : b ≠ i2) :
    Turn P w K (.Tuple elts kk tpos) (ItzM K a b) [z, TI, TO, i1, i2] z (ZmSt a b z TI TO i1 i2) where
  mem := by simp
  obj := fun i h st c hc => by
    obtain ⟨hz, hTI, ⟨x, y, hTO⟩, ⟨o1, e1, _, d1⟩, ⟨o2, e2, _, d2⟩⟩ := st
    simp only [List.mem_cons, List.not_mem_nil, or_false] at hc
    rcases hc with rfl | rfl | rfl | rfl | rfl
    · exact ⟨_, hz, fun v q => nomatch q⟩
    · exact ⟨_, hTI, fun v q => nomatch q⟩
    · exact ⟨_, hTO, fun v q => nomatch q⟩
    · exact ⟨o1, e1, fun v q => by rw [d1] at q; cases q⟩
    · exact ⟨o2, e2, fun v q => by rw [d2] at q; cases q⟩
  keep := fun i h h' st k => by
    obtain ⟨hz, hTI, ⟨x, y, hTO⟩, h1, h2⟩ := st
    exact ⟨k z (by simp) _ hz, k TI (by simp) _ hTI, ⟨x, y, k TO (by simp) _ hTO⟩, h1.at fun o q => k i1 (by simp) o q, h2.at fun o q => k i2 (by simp) o q⟩
  item := by
    intro X hP hw hK hc i pins s σ H E I hf st hg
    subst hP hw hK
    obtain ⟨hz, hTI, ⟨x0, y0, hTO⟩, h1, h2⟩ := st
    obtain ⟨xs, ys, x, y, hqx, hqy, hx, hy⟩ := hg
    obtain ⟨its, rv, pl, _⟩ := I.list hqx
    obtain ⟨its2, rv2, p2, _⟩ := I.tuple hqy
    obtain ⟨u, hu, ru⟩ := rv.get hx
    obtain ⟨u2, hu2, ru2⟩ := rv2.get hy
    have hzl : z < s.heap.objs.size := Heap.lt_size hz
    have hh : X.A.in1.handled = none := (I.ok.hd hc)
    have D1 := Draws.list (prog := X.prog) (w := X.w) (A := X.A.in1) hh i1 a ha its.toArray
    have D2 := Draws.tuple (prog := X.prog) (w := X.w) (A := X.A.in1) hh i2 b hb its2.toArray
    have hi1 : i < its.toArray.size := by rw [List.size_toArray]; exact (List.getElem?_eq_some_iff.mp hu).1
    have hi2 : i < its2.toArray.size := by rw [List.size_toArray]; exact (List.getElem?_eq_some_iff.mp hu2).1
    refine wpAny_pyNext_zipD2_item D D1 D2 hz hTI hTO ⟨h1, pl.isList⟩ ⟨h2, p2⟩ hi1 hi2 fun v1 v2 h' tk e1 e2 z' TO' st1 st2 hT hsz hk => ?_
    have e1 : its.toArray[i]? = some v1 := e1
    have e2 : its2.toArray[i]? = some v2 := e2
    rw [List.getElem?_toArray, hu] at e1
    rw [List.getElem?_toArray, hu2] at e2
    cases e1
    cases e2
    refine ⟨_, rfl, wpAny_letOwnedTupleGo_zip (s := { s with heap := h', toks := tk }) z' fun h'' z'' sb => ?_⟩
    have hT2 : h''.get? s.heap.objs.size = some { cls := .type "tuple", data := .seq #[u, u2] } := (sb.2 _ (Nat.ne_of_gt hzl)).trans hT
    have new : ObjOk X.prog X.w (upd H s.heap.objs.size (.tup [x, y])) h'' s.heap.objs.size (.tup [x, y]) :=
      ⟨by show 2 ≤ sizeLine; decide, [u, u2], .cons ru (.cons ru2 .nil), ⟨_, hT2, rfl, _, rfl⟩⟩
    have I1 : Inv X pins σ (upd H s.heap.objs.size (.tup [x, y])) { s with heap := h'', toks := tk } :=
      I.turnedNew (t' := tk) (ch := [z, TI, TO, i1, i2]) (fun c o hb q => by
        simp only [List.mem_cons, List.not_mem_nil, or_false, not_or] at hb
        exact (sb.2 c hb.1).trans (hk c o hb.1 hb.2.2.1 hb.2.2.2.1 hb.2.2.2.2 q)) hf (Nat.le_refl _) new
    have zi1 : i1 ≠ z := fun e => D.zi1 e.symm
    have zi2 : i2 ≠ z := fun e => D.zi2 e.symm
    refine ⟨.ref s.heap.objs.size, _, I1, rfl, ⟨_, x, y, rfl, I.hok.fresh (Nat.le_refl _), rfl, fun l hl => by rw [I.list_inj hl hqx]; exact hx, fun l hl => by rw [I.tuple_inj hl hqy]; exact hy⟩, ⟨z'', ?_, ⟨u, u2, ?_⟩, ?_, ?_⟩, fun c hcm => ?_⟩
    · exact (sb.2 _ D.TIz).trans (hk _ _ D.TIz D.TITO D.TIi1 D.TIi2 hTI)
    · exact (sb.2 _ D.TOz).trans TO'
    · exact st1.1.at fun o q => (sb.2 _ zi1).trans q
    · exact st2.1.at fun o q => (sb.2 _ zi2).trans q
    · have hlt : c < s.heap.objs.size := by
        simp only [List.mem_cons, List.not_mem_nil, or_false] at hcm
        rcases hcm with rfl | rfl | rfl | rfl | rfl
        · exact hzl
        · exact Heap.lt_size hTI
        · exact Heap.lt_size hTO
        · obtain ⟨_, e1, _⟩ := h1; exact Heap.lt_size e1
        · obtain ⟨_, e2, _⟩ := h2; exact Heap.lt_size e2
      rw [upd_ne (Nat.ne_of_lt hlt)]
      exact (hf c hcm).1
  done := by
    intro X hP hw hK hc i pins s σ H E I hf st hg
    subst hP hw hK
    obtain ⟨hz, hTI, ⟨x0, y0, hTO⟩, h1, h2⟩ := st
    obtain ⟨xs, ys, hqx, hqy, le1, le2, hend⟩ := hg
    obtain ⟨its, rv, pl, _⟩ := I.list hqx
    obtain ⟨its2, rv2, p2, _⟩ := I.tuple hqy
    have l1 := rv.length
    have l2 := rv2.length
    have hh : X.A.in1.handled = none := (I.ok.hd hc)
    have D1 := Draws.list (prog := X.prog) (w := X.w) (A := X.A.in1) hh i1 a ha its.toArray
    have D2 := Draws.tuple (prog := X.prog) (w := X.w) (A := X.A.in1) hh i2 b hb its2.toArray
    exact wpAny_pyNext_zipD2_end D D1 D2 hz hTI hTO ⟨h1, pl.isList⟩ ⟨h2, p2⟩ (by rw [List.size_toArray]; omega) (by rw [List.size_toArray]; omega) (by rw [List.size_toArray, List.size_toArray]; omega) fun h' tk hk => ⟨rfl, I.turnedL (t' := tk) (ch := [z, TI, TO, i1, i2]) (fun c o hb q => by
      simp only [List.mem_cons, List.not_mem_nil, or_false, not_or] at hb
      exact hk c o hb.1 hb.2.2.1 hb.2.2.2.1 hb.2.2.2.2 q) hf⟩
  self := fun A i s Q E st h => wpAny_pyIter_zip st.1 h
theorem nin2 {x y z : Nat} (h1 : x ≠ y) (h2 : x ≠ z) : x ∉ [y, z] := fun h => by
  rcases List.mem_cons.mp h with h | h
  · exact h1 h
  · exact h2 (List.mem_singleton.mp h)
theorem zip_sep (n a b : Nat) (h1 : a < n) (h2 : b < n) : ZipSep2 (n + 4) (n + 2) (n + 3) n (n + 1) [n, a] [n + 1, b] :=
  ⟨(show (n + 2 : Nat) ≠ n + 4 by omega), (show (n + 3 : Nat) ≠ n + 4 by omega), (show (n + 2 : Nat) ≠ n + 3 by omega), (show (n + 2 : Nat) ≠ n by omega), List.mem_cons_self, nin2 (by omega) (by omega), nin2 (by omega) (by omega),
    (show (n + 2 : Nat) ≠ n + 1 by omega), List.mem_cons_self, nin2 (by omega) (by omega), nin2 (by omega) (by omega), nin2 (by omega) (by omega), nin2 (by omega) (by omega)⟩
def iZipM (K : PySem.W.Frag) (ta : TA) : TI := fun σ H R => ta σ H fun vs H1 => ∃ a b xs ys, vs = [.ref a, .ref b] ∧ SqL K H1 a xs ∧ SqT K H1 b ys ∧ R (ItzM K a b) H1
theorem pi_zipM {X : Cx} {e e2 : Expr} {ta : TA} {p pos tpos : Pos} {elts : List Expr} {kk : Nat} (hg : Gl X "zip") (hm : X.mg "zip" = none) (ha : PA X [e, e2] ta)
    (hs : starEach [e, e2] X.env = (false, eval e X.env) :: starEach [e2] X.env := by rfl) (hpl : (backTo pos (starEach [e2] X.env)).any (·.1) = false := by rfl) :
    PI X (.Tuple elts kk tpos) (.Call (.Name "zip" p) [e, e2] [] pos) (iZipM X.K ta) := by
  refine ⟨fun pins s σ H R I h => ?_⟩
  refine Call_ (ld_blt I hg hm PyProof.Rows.boot_zip (PyProof.Rows.callWith_type1 (thn (ha.run pos pins s σ H _ I h) fun us s1 ⟨vs, H1, I1, r1, q1⟩ => ?_) hs hpl))
  obtain ⟨a, b, xs, ys, ex, hqx, hqy, q⟩ := q1
  subst ex
  cases r1 with
  | cons r rr =>
    cases rr with
    | cons r' rr =>
      cases rr
      cases r
      cases r'
      obtain ⟨its, rv, p1, _⟩ := I1.list hqx
      obtain ⟨its2, rv2, p2, _⟩ := I1.tuple hqy
      have la : a < s1.heap.objs.size := p1.lt
      have lb : b < s1.heap.objs.size := IsTup.lt p2
      have fresh5 : ∀ c, c ∈ [s1.heap.objs.size + 4, s1.heap.objs.size + 2, s1.heap.objs.size + 3, s1.heap.objs.size, s1.heap.objs.size + 1] → FpOk X pins H1 c := fun c hcm => by
        have hle : s1.heap.objs.size ≤ c := by
          simp only [List.mem_cons, List.not_mem_nil, or_false] at hcm
          omega
        exact I1.fpOk hle (I1.hok.fresh hle)
      have D := zip_sep s1.heap.objs.size a b la lb
      refine zip_begins2 (begins_list a its.toArray) (begins_tuple b its2.toArray) p1.isList p2 fun h' hz hTI hTO g1 g2 hsz hk => wpAny_pyIter_zip hz ?_
      have I2 : Inv X pins σ H1 { s1 with heap := h' } := I1.kept (t' := s1.toks) hk
      exact ⟨s1.heap.objs.size + 4, [s1.heap.objs.size + 4, s1.heap.objs.size + 2, s1.heap.objs.size + 3, s1.heap.objs.size, s1.heap.objs.size + 1], _, _, H1, rfl, I2, turn_zipM (P := X.prog) (w := X.w) (K := X.K) D (Nat.ne_of_lt la) (Nat.ne_of_lt (Nat.lt_succ_of_lt lb)), ⟨hz, hTI, ⟨_, _, hTO⟩, ⟨_, g1, rfl, rfl⟩, ⟨_, g2, rfl, rfl⟩⟩, fresh5, q⟩
theorem walk_zipM {K : PySem.W.Frag} {a b : Addr} {xs ys : List V} (hl : xs.length = ys.length) : Walk (ItzM K a b) xs.length (fun H => SqL K H a xs ∧ SqT K H b ys) (YPair (fun i => xs[i]?) (fun i => ys[i]?)) := by
  refine ⟨fun i _ hi q => ?_, fun _ q => ⟨xs, ys, q.1, q.2, Nat.le_refl _, by omega, .inl rfl⟩, fun i H v H' _ q y => ?_⟩
  · have h2 : i < ys.length := by omega
    exact ⟨xs, ys, xs[i], ys[i], q.1, q.2, by simp [hi], by simp [h2]⟩
  · obtain ⟨T, x, z, h1, h2, h3, h4, h5⟩ := y
    exact ⟨T, x, z, h1, h2, h3, h4 xs q.1, h5 ys q.2⟩
end Gd

namespace Rw
open PySem PySem.Spec PyProof.Rows L2 GxR Gx Gd Rx Rs
abbrev s_is_of_kind : Stmt := topS 15
theorem sc_is_of_kind : FnScope ["value", "kind"] ["value", "kind"] (defScope s_is_of_kind) := ⟨rfl, rfl, rfl, by decide +kernel, rfl, by decide +kernel, by decide +kernel⟩
abbrev s_wrong_kind : Stmt := topS 14
theorem sc_wrong_kind : FnScope ["value", "kind"] ["value", "kind"] (defScope s_wrong_kind) := ⟨rfl, rfl, rfl, by decide +kernel, rfl, by decide +kernel, by decide +kernel⟩
abbrev s_applied : Stmt := topS 19
theorem sc_applied : FnScope ["function", "values", "value", "kind", "message", "action"] ["function", "values"] (defScope s_applied) := ⟨rfl, rfl, rfl, by decide +kernel, rfl, by decide +kernel, by decide +kernel⟩
abbrev s_value_in : Stmt := topS 16
theorem sc_value_in : FnScope ["scope", "name"] ["scope", "name"] (defScope s_value_in) := ⟨rfl, rfl, rfl, by decide +kernel, rfl, by decide +kernel, by decide +kernel⟩
abbrev s_resource : Stmt := topS 23
theorem sc_resource : FnScope ["name", "resources"] ["name", "resources"] (defScope s_resource) := ⟨rfl, rfl, rfl, by decide +kernel, rfl, by decide +kernel, by decide +kernel⟩
def spKind (K : PySem.W.Frag) (ts : List Addr) : Sp := fun vs H Q _ => ∃ (v : V) (a : Va) (k : Kd), vs = [v, .str (Str.ofString k.name)] ∧ DtV K H v a ∧ a.good ∧ (∀ T ∈ ts, TabG H T) ∧ ∀ H', Kp H H' → Q (.bl (k.has a)) H'
def spWrongK (K : PySem.W.Frag) (ts : List Addr) : Sp := fun vs H Q _ => ∃ (v : V) (a : Va) (k : Kd), vs = [v, .str (Str.ofString k.name)] ∧ DtV K H v a ∧ a.good ∧ (∀ T ∈ ts, TabG H T) ∧ ∀ H', Kp H H' → Q (if k.has a = true then .non else .str (Str.ofString k.msg)) H'
theorem word_is (a : Va) (s : String) : decide (V.str (Str.ofString a.word) = V.str (Str.ofString s)) = decide (cs a.word = cs s) := by
  rw [← dec_sx]
  unfold cs
  rw [sx_of]
theorem word_int (a : Va) : decide (V.str (Str.ofString a.word) = V.str (Str.ofString "int")) = Kd.int.has a := by
  rw [word_is]
  cases a with
  | m ps => first | exact decide_eq_false (show ¬ cs "none" = cs "int" by decide +kernel) | exact decide_eq_false (show ¬ cs "bool" = cs "int" by decide +kernel) | exact decide_eq_false (show ¬ cs "text" = cs "int" by decide +kernel) | exact decide_eq_false (show ¬ cs "map" = cs "int" by decide +kernel)
  | s x => cases x <;> first | exact decide_eq_true rfl | exact decide_eq_false (show ¬ cs "none" = cs "int" by decide +kernel) | exact decide_eq_false (show ¬ cs "bool" = cs "int" by decide +kernel) | exact decide_eq_false (show ¬ cs "text" = cs "int" by decide +kernel) | exact decide_eq_false (show ¬ cs "map" = cs "int" by decide +kernel)
theorem word_bool (a : Va) : decide (V.str (Str.ofString a.word) = V.str (Str.ofString "bool")) = Kd.bool.has a := by
  rw [word_is]
  cases a with
  | m ps => first | exact decide_eq_false (show ¬ cs "none" = cs "bool" by decide +kernel) | exact decide_eq_false (show ¬ cs "int" = cs "bool" by decide +kernel) | exact decide_eq_false (show ¬ cs "text" = cs "bool" by decide +kernel) | exact decide_eq_false (show ¬ cs "map" = cs "bool" by decide +kernel)
  | s x => cases x <;> first | exact decide_eq_true rfl | exact decide_eq_false (show ¬ cs "none" = cs "bool" by decide +kernel) | exact decide_eq_false (show ¬ cs "int" = cs "bool" by decide +kernel) | exact decide_eq_false (show ¬ cs "text" = cs "bool" by decide +kernel) | exact decide_eq_false (show ¬ cs "map" = cs "bool" by decide +kernel)
theorem word_map (a : Va) : decide (V.str (Str.ofString a.word) = V.str (Str.ofString "map")) = Kd.map.has a := by
  rw [word_is]
  cases a with
  | m ps => exact decide_eq_true rfl
  | s x => cases x <;> first | exact decide_eq_false (show ¬ cs "none" = cs "map" by decide +kernel) | exact decide_eq_false (show ¬ cs "bool" = cs "map" by decide +kernel) | exact decide_eq_false (show ¬ cs "int" = cs "map" by decide +kernel) | exact decide_eq_false (show ¬ cs "text" = cs "map" by decide +kernel)
theorem word_scalar (a : Va) : (!decide (V.str (Str.ofString a.word) = V.str (Str.ofString "map"))) = Kd.scalar.has a := by
  rw [word_map]
  cases a with
  | m ps => rfl
  | s x => cases x <;> rfl
theorem word_text (a : Va) : decide (V.str (Str.ofString a.word) = V.str (Str.ofString "text")) = true → ∃ x, a = .s (.text x) := by
  rw [word_is, decide_eq_true_eq]
  cases a with
  | m ps => first | exact fun h => absurd h (show ¬ cs "none" = cs "text" by decide +kernel) | exact fun h => absurd h (show ¬ cs "bool" = cs "text" by decide +kernel) | exact fun h => absurd h (show ¬ cs "int" = cs "text" by decide +kernel) | exact fun h => absurd h (show ¬ cs "map" = cs "text" by decide +kernel)
  | s x => cases x <;> first | exact fun _ => ⟨_, rfl⟩ | exact fun h => absurd h (show ¬ cs "none" = cs "text" by decide +kernel) | exact fun h => absurd h (show ¬ cs "bool" = cs "text" by decide +kernel) | exact fun h => absurd h (show ¬ cs "int" = cs "text" by decide +kernel) | exact fun h => absurd h (show ¬ cs "map" = cs "text" by decide +kernel)
theorem word_no_text (a : Va) : decide (V.str (Str.ofString a.word) = V.str (Str.ofString "text")) = false → Kd.key.has a = false := by
  rw [word_is, decide_eq_false_iff_not]
  cases a with
  | m ps => exact fun _ => rfl
  | s x => cases x <;> first | exact fun _ => rfl | exact fun h => absurd rfl h
theorem text_okd {x : Str} (h : Rv.textOk x) : OkD (.str x) := ⟨1, by decide, Rv.okN_str' (Nat.le_trans h.1 (by decide)) (Rv.str_ok h.2)⟩
theorem wrongK_at : ∀ {as : List Va} {ks : List Kd} {i : Nat} {a : Va} {k : Kd}, (∀ (j : Nat) (a : Va) (k : Kd), j < i → as[j]? = some a → ks[j]? = some k → k.has a = true) → as[i]? = some a → ks[i]? = some k → k.has a = false → wrongK as ks = some k.msg
  | [], _, _, _, _, _, e, _, _ => by simp at e
  | _ :: _, [], _, _, _, _, _, e, _ => by simp at e
  | b :: as, l :: ks, 0, a, k, _, e1, e2, h => by
    cases e1
    cases e2
    unfold wrongK
    rw [if_neg (by rw [h]; exact Bool.false_ne_true)]
  | b :: as, l :: ks, i + 1, a, k, hj, e1, e2, h => by
    unfold wrongK
    rw [if_pos (hj 0 b l (by omega) rfl rfl)]
    exact wrongK_at (i := i) (fun j a k hl h1 h2 => hj (j + 1) a k (by omega) h1 h2) e1 e2 h
theorem wrongK_all : ∀ {as : List Va} {ks : List Kd}, (∀ (j : Nat) (a : Va) (k : Kd), as[j]? = some a → ks[j]? = some k → k.has a = true) → wrongK as ks = none
  | [], _, _ => by unfold wrongK; rfl
  | _ :: _, [], _ => by unfold wrongK; rfl
  | b :: as, l :: ks, h => by
    unfold wrongK
    rw [if_pos (h 0 b l rfl rfl)]
    exact wrongK_all fun j a k h1 h2 => h (j + 1) a k h1 h2
def spApplied (K : PySem.W.Frag) (ts : List Addr) : Sp := fun vs H Q _ => ∃ (f : List Nat) (vl : Addr) (xs : List V) (as : List Va), vs = [.str (sx f), .ref vl] ∧ f ∈ eager ∧ H vl = some (.lst xs) ∧ DtVs K H xs as ∧ (∀ a ∈ as, a.good) ∧ as.length = (kindsOf f).length ∧ (∀ T ∈ ts, TabG H T) ∧
  ∀ H' u, Kp H H' → DtR K H' u (fnR f as) → Q u H'
/-- a dict of values -/
def DicF (K : PySem.W.Frag) (H : Hp) (a : Addr) (σ : Str → Option Va) : Prop := ∃ kvs, H a = some (.dK kvs) ∧ ∀ x, match σ x with
  | none => valV kvs (.inr x) = none
  | some va => va.good ∧ ∃ v, valV kvs (.inr x) = some v ∧ DtV K H v va
theorem DicF.kp {K : PySem.W.Frag} {H H' : Hp} {a : Addr} {σ : Str → Option Va} (h : DicF K H a σ) (k : Kp H H') : DicF K H' a σ := by
  obtain ⟨kvs, e, h⟩ := h
  refine ⟨kvs, k.keep _ _ e (by simp) (fun _ h => by cases h), fun x => ?_⟩
  have := h x
  cases es : σ x with
  | none => rw [es] at this; exact this
  | some va =>
    rw [es] at this
    obtain ⟨g, v, h1, h2⟩ := this
    exact ⟨g, v, h1, h2.kb k Lsts.nil⟩
def inR (σ : Str → Option Va) (x : Str) : Re := match σ x with
  | some v => .val v
  | none => errS "undefined name"
def spScope (K : PySem.W.Frag) : Sp := fun vs H Q _ => ∃ (a : Addr) (x : Str) (σ : Str → Option Va), vs = [.ref a, .str x] ∧ DicF K H a σ ∧ ∀ H' u, Kp H H' → DtR K H' u (inR σ x) → Q u H'
def spRes (K : PySem.W.Frag) : Sp := fun vs H Q _ => ∃ (v : V) (va : Va) (a : Addr) (ρ : Str → Option Va), vs = [v, .ref a] ∧ DtV K H v va ∧ va.good ∧ DicF K H a ρ ∧ ∀ H' u, Kp H H' → DtR K H' u (resR ρ va) → Q u H'
section
variable {P : Program} {w : World} {K : PySem.W.Frag} {mg : Str → Option Value} {base : Heap}
theorem c_is_of_kind {ts : List Addr} (D : DefAt K mg "_is_of_kind" s_is_of_kind ["value", "kind"]) (c_is_key : Cal P w K mg base CX0 4 "is_key" ["thing"] (spData K ts Rv.isKeyD)) : Cal P w K mg base CX0 5 "_is_of_kind" ["value", "kind"] (spKind K ts) := by
  refine D.cal (k := 4) sc_is_of_kind (fun vs H Q E h => ?_) fun f cdv A outer s H vs Q E hr h => ?_
  · obtain ⟨v, a, k, rfl, _⟩ := h
    rfl
  · obtain ⟨v, a, k, rfl, hv, g, hT, q⟩ := h
    obtain ⟨p, xs, rfl, hp, hx⟩ := at_head hv
    have hat : atI xs 0 = some (.str (Str.ofString a.word)) := atI_nat (j := 0) hx
    refine ⟨_, (pss_cons (ps_if (pt_cmpR op_eq (pv 1) pe_str (nomark _)) (pss_one (ps_ret (pe_cmpR op_eq (pe_ix ix_tup (pv 0) pe_int (fun _ _ => rfl)) pe_str (nomark _)))) pss_nil)
  (pss_cons (ps_if (pt_cmpR op_eq (pv 1) pe_str (nomark _)) (pss_one (ps_ret (pe_cmpR op_eq (pe_ix ix_tup (pv 0) pe_int (fun _ _ => rfl)) pe_str (nomark _)))) pss_nil)
  (pss_cons (ps_if (pt_cmpR op_eq (pv 1) pe_str (nomark _)) (pss_one (ps_ret (pe_cmpR op_ne (pe_ix ix_tup (pv 0) pe_int (fun _ _ => rfl)) pe_str (nomark _)))) pss_nil)
  (pss_cons (ps_if (pt_cmpR op_eq (pv 1) pe_str (nomark _)) (pss_one (ps_ret (pe_cmpR op_eq (pe_ix ix_tup (pv 0) pe_int (fun _ _ => rfl)) pe_str (nomark _)))) pss_nil)
  (pss_cons (ps_if (pt_cmpR op_eq (pv 1) pe_str (nomark _)) (pss_one (ps_ret (pe_and (pe_cmpR op_eq (pe_ix ix_tup (pv 0) pe_int (fun _ _ => rfl)) pe_str (nomark _)) (pe_one (pe_cal (c_is_key.mono (by omega)) hr (by rfl) (pa_cons (pe_ix ix_tup (pv 0) pe_int (fun _ _ => rfl)) pa_nil)))))) pss_nil)
  (pss_one (ps_ret pe_bl))))))), ?_⟩
    cases k with
    | int => exact ⟨_, rfl, rfl, _, rfl, iteP rfl ⟨_, rfl, p, _, 0, _, rfl, rfl, hp, hat, rfl, (by rw [word_int]; exact q H (Kb.refl H))⟩⟩
    | bool => exact ⟨_, rfl, rfl, _, rfl, iteN (by decide +kernel) ⟨_, rfl, rfl, _, rfl, iteP rfl ⟨_, rfl, p, _, 0, _, rfl, rfl, hp, hat, rfl, (by rw [word_bool]; exact q H (Kb.refl H))⟩⟩⟩
    | scalar => exact ⟨_, rfl, rfl, _, rfl, iteN (by decide +kernel) ⟨_, rfl, rfl, _, rfl, iteN (by decide +kernel) ⟨_, rfl, rfl, _, rfl, iteP rfl ⟨_, rfl, p, _, 0, _, rfl, rfl, hp, hat, rfl, (by rw [word_scalar]; exact q H (Kb.refl H))⟩⟩⟩⟩
    | map => exact ⟨_, rfl, rfl, _, rfl, iteN (by decide +kernel) ⟨_, rfl, rfl, _, rfl, iteN (by decide +kernel) ⟨_, rfl, rfl, _, rfl, iteN (by decide +kernel) ⟨_, rfl, rfl, _, rfl, iteP rfl ⟨_, rfl, p, _, 0, _, rfl, rfl, hp, hat, rfl, (by rw [word_map]; exact q H (Kb.refl H))⟩⟩⟩⟩⟩
    | key =>
      refine ⟨_, rfl, rfl, _, rfl, iteN (by decide +kernel) ⟨_, rfl, rfl, _, rfl, iteN (by decide +kernel) ⟨_, rfl, rfl, _, rfl, iteN (by decide +kernel) ⟨_, rfl, rfl, _, rfl, iteN (by decide +kernel) ⟨_, rfl, rfl, _, rfl, iteP rfl ⟨_, rfl, p, _, 0, _, rfl, rfl, hp, hat, rfl, _, rfl, ?_⟩⟩⟩⟩⟩⟩
      cases e : decide (V.str (Str.ofString a.word) = V.str (Str.ofString "text")) with
      | false =>
        have := word_no_text a e
        rw [this] at q
        exact iteF (q H (Kb.refl H))
      | true =>
        obtain ⟨x, rfl⟩ := word_text a e
        obtain ⟨p2, e2, hp2⟩ := at_text hv
        cases e2
        exact iteT ⟨_, rfl, p, _, 1, _, rfl, rfl, hp2, atI_nat (j := 1) rfl, .str x, .str x, rfl, .str x, text_okd g, hT, fun H' k => q H' k⟩
    | any => exact ⟨_, rfl, rfl, _, rfl, iteN (by decide +kernel) ⟨_, rfl, rfl, _, rfl, iteN (by decide +kernel) ⟨_, rfl, rfl, _, rfl, iteN (by decide +kernel) ⟨_, rfl, rfl, _, rfl, iteN (by decide +kernel) ⟨_, rfl, rfl, _, rfl, iteN (by decide +kernel) (by
        have z := q H (Kb.refl H)
        cases a with
        | m ps => exact z
        | s x => cases x <;> exact z)⟩⟩⟩⟩⟩
theorem c_wrong_kind {ts : List Addr} {aWr : Addr} (D : DefAt K mg "wrong_kind" s_wrong_kind ["value", "kind"]) (g_WRONG_KINDS : mg "WRONG_KINDS" = some (.ref aWr)) (hWr : ∀ k : Kd, k ≠ .any → KDct K w aWr (Str.ofString k.name) (.str (Str.ofString k.msg)))
    (c__is_of_kind : Cal P w K mg base CX0 5 "_is_of_kind" ["value", "kind"] (spKind K ts)) : Cal P w K mg base CX0 6 "wrong_kind" ["value", "kind"] (spWrongK K ts) := by
  refine D.cal (k := 5) sc_wrong_kind (fun vs H Q E h => ?_) fun f cdv A outer s H vs Q E hr h => ?_
  · obtain ⟨v, a, k, rfl, _⟩ := h
    rfl
  · obtain ⟨v, a, k, rfl, hv, g, hT, q⟩ := h
    refine ⟨_, (pss_one (ps_ret (pe_ifExp (pt_val (pe_cal (c__is_of_kind.mono (by omega)) hr (by rfl) (pa_cons (pv 0) (pa_cons (pv 1) pa_nil)))) pe_non (pe_ix ix_kdict (pe_glob (v := .ref aWr) rfl g_WRONG_KINDS rfl) (pv 1) (fun _ _ => rfl))))), ?_⟩
    refine ⟨_, rfl, _, rfl, v, a, k, rfl, hv, g, hT, fun H' kp => ⟨_, rfl, ?_⟩⟩
    have q := q H' kp
    cases e : k.has a with
    | true =>
      rw [e, if_pos rfl] at q
      exact iteT q
    | false =>
      rw [e, if_neg Bool.false_ne_true] at q
      have hk : k ≠ .any := fun z => by
        subst z
        cases a with
        | m ps => cases e
        | s x => cases x <;> cases e
      exact iteF ⟨_, rfl, aWr, _, _, rfl, rfl, hWr k hk, q⟩
theorem c_value_in (D : DefAt K mg "_value_in" s_value_in ["scope", "name"]) : Cal P w K mg base CX0 1 "_value_in" ["scope", "name"] (spScope K) := by
  refine D.cal (k := 0) sc_value_in (fun vs H Q E h => ?_) fun f cdv A outer s H vs Q E hr h => ?_
  · obtain ⟨v, a, k, rfl, _⟩ := h
    rfl
  · obtain ⟨a, x, σ, rfl, hd, q⟩ := h
    obtain ⟨kvs, e, hd⟩ := hd
    have hx := hd x
    refine ⟨_, (pss_cons (ps_if (pt_cmp (pc_dnotin (hu1 hr) (pv 1) (pv 0))) (pss_one (ps_ret (pe_tup (pa_cons pe_str (pa_cons pe_str pa_nil))))) pss_nil)
  (pss_one (ps_ret (pe_tup (pa_cons pe_str (pa_cons (pe_dget (hu1 hr) (pv 0) (pv 1) (fun _ _ => rfl)) pa_nil)))))), ?_⟩
    refine ⟨_, rfl, _, rfl, a, _, rfl, DGet.k (k := .inr x) e, _, rfl, ?_⟩
    unfold inR at q
    cases es : σ x with
    | none =>
      rw [es] at q hx
      rw [show valV kvs (.inr x) = none from hx]
      refine iteT ⟨by show 2 ≤ sizeLine; decide, fun p hp => ?_⟩
      obtain ⟨k1, d1⟩ := mk_err (K := K) (m := Str.ofString "undefined name") hp
      exact q _ _ k1 d1
    | some va =>
      rw [es] at q hx
      obtain ⟨g, v, hv, dv⟩ := hx
      have hg : DGet H a (kV (.inr x)) (some v) := by rw [← hv]; exact DGet.k (k := .inr x) e
      rw [hv]
      refine iteF ⟨_, rfl, _, rfl, a, v, rfl, hg, by show 2 ≤ sizeLine; decide, fun p hp => ?_⟩
      obtain ⟨k1, d1⟩ := mk_val (K := K) hp dv
      exact q _ _ k1 d1
theorem c_resource (D : DefAt K mg "_resource" s_resource ["name", "resources"]) : Cal P w K mg base CX0 1 "_resource" ["name", "resources"] (spRes K) := by
  refine D.cal (k := 0) sc_resource (fun vs H Q E h => ?_) fun f cdv A outer s H vs Q E hr h => ?_
  · obtain ⟨v, va, a, k, rfl, _⟩ := h
    rfl
  · obtain ⟨v, va, a, ρ, rfl, hv, g, hd, q⟩ := h
    obtain ⟨p, xs, rfl, hp, hx⟩ := at_head hv
    have hat : atI xs 0 = some (.str (Str.ofString va.word)) := atI_nat (j := 0) hx
    refine ⟨_, (pss_cons (ps_if (PW.pt (pw_or (pt_cmpR op_ne (pe_ix ix_tup (pv 0) pe_int (fun _ _ => rfl)) pe_str (nomark _)) (pw_or1 (pt_cmpR op_eq (pe_ix ix_tup (pv 0) pe_int (fun _ _ => rfl)) pe_str (nomark _))))) (pss_one (ps_ret (pe_tup (pa_cons pe_str (pa_cons pe_str pa_nil))))) pss_nil)
  (pss_cons (ps_if (pt_cmp (pc_dnotin (hu1 hr) (pe_ix ix_tup (pv 0) pe_int (fun _ _ => rfl)) (pv 1))) (pss_one (ps_ret (pe_tup (pa_cons pe_str (pa_cons (pe_ix ix_tup (pv 0) pe_int (fun _ _ => rfl)) pa_nil))))) pss_nil)
  (pss_one (ps_ret (pe_tup (pa_cons pe_str (pa_cons (pe_dget (hu1 hr) (pv 1) (pe_ix ix_tup (pv 0) pe_int (fun _ _ => rfl)) (fun _ _ => rfl)) pa_nil))))))), ?_⟩
    have bad : (∀ x, va = .s (.text x) → x.length = 0) → (2 ≤ sizeLine ∧ ∀ p, H p = none → Q (.ref p) (upd H p (.tup [.str (Str.ofString "error"), .str (Str.ofString "invalid resource name")]))) := fun hb => ⟨by decide, fun p hp => by
      obtain ⟨k1, d1⟩ := mk_err (K := K) (m := Str.ofString "invalid resource name") hp
      refine q _ _ k1 ?_
      cases va with
      | m ps => exact d1
      | s x =>
        cases x with
        | text x => rw [show resR ρ (.s (.text x)) = errS "invalid resource name" by show (if x.length = 0 then _ else _) = _; rw [if_pos (hb x rfl)]]; exact d1
        | _ => exact d1⟩
    refine ⟨_, rfl, p, _, 0, _, rfl, rfl, hp, hat, rfl, _, rfl, ?_⟩
    cases e : decide (V.str (Str.ofString va.word) = V.str (Str.ofString "text")) with
    | false => exact iteT (iteT (bad fun x z => by subst z; exact absurd e (show ¬ decide (V.str (Str.ofString "text") = V.str (Str.ofString "text")) = false by decide +kernel)))
    | true =>
      obtain ⟨x, rfl⟩ := word_text va e
      obtain ⟨p2, e2, hp2⟩ := at_text hv
      cases e2
      refine iteF ⟨_, rfl, p, _, 1, _, rfl, rfl, hp2, atI_nat (j := 1) rfl, rfl, _, rfl, ?_⟩
      have ez : decide (V.str x = V.str (Str.ofString "")) = decide (x.length = 0) := by
        have := dec_sx x.cps.toList ""
        rw [sx_of] at this
        rw [this, show cs "" = [] by decide +kernel, Bool.eq_iff_iff, decide_eq_true_eq, decide_eq_true_eq]
        show x.cps.toList = [] ↔ x.cps.size = 0
        rw [← Array.length_toList, List.length_eq_zero_iff]
      rw [ez]
      by_cases h0 : x.length = 0
      · exact iteP h0 (bad fun y z => by cases z; exact h0)
      · refine iteN h0 ?_
        obtain ⟨kvs, e4, hd⟩ := hd
        have hx := hd x
        have q : ∀ H' u, Kp H H' → DtR K H' u (match ρ x with | some v => .val v | none => .wait x) → Q u H' := fun H' u k r => q H' u k (by rw [show resR ρ (.s (.text x)) = (match ρ x with | some v => .val v | none => .wait x) by show (if x.length = 0 then _ else _) = _; rw [if_neg h0] <;> (cases ρ x <;> rfl)]; exact r)
        refine ⟨_, rfl, p, _, 1, _, rfl, rfl, hp2, atI_nat (j := 1) rfl, _, rfl, a, _, rfl, DGet.k (k := .inr x) e4, _, rfl, ?_⟩
        cases es : ρ x with
        | none =>
          rw [es] at q hx
          rw [show valV kvs (.inr x) = none from hx]
          refine iteT ⟨_, rfl, p, _, 1, _, rfl, rfl, hp2, atI_nat (j := 1) rfl, by show 2 ≤ sizeLine; decide, fun p hp => ?_⟩
          exact q _ _ (Kb.new hp) (.wait (SqT.of upd_same))
        | some va =>
          rw [es] at q hx
          obtain ⟨g, v, hv, dv⟩ := hx
          have hg : DGet H a (kV (.inr x)) (some v) := by rw [← hv]; exact DGet.k (k := .inr x) e4
          rw [hv]
          refine iteF ⟨_, rfl, _, rfl, p, _, 1, _, rfl, rfl, hp2, atI_nat (j := 1) rfl, a, v, rfl, hg, by show 2 ≤ sizeLine; decide, fun p hp => ?_⟩
          obtain ⟨k1, d1⟩ := mk_val (K := K) hp dv
          exact q _ _ k1 d1
theorem c_applied {ts : List Addr} {aKi aAct : Addr} (D : DefAt K mg "_applied" s_applied ["function", "values"]) (m_zip : mg "zip" = none) (g_KINDS : mg "KINDS" = some (.ref aKi)) (hKi : ∀ f ∈ eager, ∃ aK, KDct K w aKi (sx f) (.ref aK) ∧ ∀ H, SqT K H aK ((kindsOf f).map fun k => V.str (Str.ofString k.name)))
    (g_ACTIONS : mg "ACTIONS" = some (.ref aAct)) (hAct : ∀ f ∈ eager, ∃ (g : Addr) (fd : FuncData) (ps : List Str), KDct K w aAct (sx f) (.ref g) ∧ FnG P w K mg base CX0 2 g fd ps (spOp K (kindsOf f) (oper f)) ∧ PySem.W.keepIn K (.ref g) = true ∧ Binds K fd ps [])
    (c_wrong_kind : Cal P w K mg base CX0 6 "wrong_kind" ["value", "kind"] (spWrongK K ts)) : Cal P w K mg base CX0 7 "_applied" ["function", "values"] (spApplied K ts) := by
  refine D.cal (k := 6) sc_applied (fun vs H Q E h => ?_) fun f cdv A outer s H vs Q E hr h => ?_
  · obtain ⟨f, vl, xs, as, rfl, _⟩ := h
    rfl
  · obtain ⟨fn, vl, xs, as, rfl, hfn, hvl, hxs, g, hl, hT, q⟩ := h
    obtain ⟨aK, hK1, hK2⟩ := hKi fn hfn
    obtain ⟨ga, gfd, gps, hA, hF, hkp, hbi⟩ := hAct fn hfn
    refine ⟨_, (pss_cons (ps_for PassesOwn.never rfl (pi_zipM (by rfl) m_zip (pa_cons (pv 1) (pa_cons (pe_ix ix_kdict (pe_glob (v := .ref aKi) rfl g_KINDS rfl) (pv 0) (fun _ _ => rfl)) pa_nil))) (pg_tup rfl (pgs_cons (pg_name (i := 2) sc_applied.nd rfl (Or.inl rfl)) (pgs_cons (pg_name (i := 3) sc_applied.nd rfl (Or.inl rfl)) pgs_nil))) (pss_cons (ps_set (i := 4) sc_applied.nd rfl (Or.inl rfl) (pe_cal (c_wrong_kind.mono (by omega)) hr (by rfl) (pa_cons (pv 2) (pa_cons (pv 3) pa_nil))))
  (pss_one (ps_if (pt_cmpR op_notN (pv 4) pe_non (nomark _)) (pss_one (ps_ret (pe_tup (pa_cons pe_str (pa_cons (pv 4) pa_nil))))) pss_nil))))
  (pss_cons (ps_set (i := 5) sc_applied.nd rfl (Or.inl rfl) (pe_ix ix_kdict (pe_glob (v := .ref aAct) rfl g_ACTIONS rfl) (pv 0) (fun _ _ => rfl)))
  (pss_one (ps_ret (pe_calLS (i := 5) rfl (Or.inl rfl) hr (pv 1)))))), ?_⟩
    have hlx := hxs.length
    refine ⟨_, rfl, _, rfl, aKi, _, _, rfl, rfl, hK1, vl, aK, xs, _, rfl, .inl (.inl hvl), hK2 H, ?_⟩
    refine for_it (walk_zipM (by rw [List.length_map]; omega)) (fun i σ H' => Kp H H' ∧ (∃ o2 o3 o4, σ = [some (.str (sx fn)), some (.ref vl), o2, o3, o4, none]) ∧ ∀ (j : Nat) (a : Va) (k : Kd), j < i → as[j]? = some a → (kindsOf fn)[j]? = some k → k.has a = true) ⟨Kb.refl H, ⟨none, none, none, rfl⟩, fun j a k h => by omega⟩ (fun i σ H' _ ⟨k, _⟩ => ⟨.inl (.inl (k.keep _ _ hvl (by simp) nt_lst)), hK2 H'⟩) ?_ ?_
    · rintro i v σ H1 H2 hi ⟨k, ⟨o2, o3, o4, rfl⟩, hj⟩ ⟨T, x, y, rfl, hT2, rfl, hx, hy⟩
      have k1 : Kp H1 (upd H1 T (.tup [x, y])) := Kb.new hT2
      have st : SqT K (upd H1 T (.tup [x, y])) T [x, y] := SqT.of upd_same
      generalize upd H1 T (.tup [x, y]) = H3 at k1 st ⊢
      have kk := k.trans k1
      have hki : i < (kindsOf fn).length := by omega
      have hy : some (V.str (Str.ofString ((kindsOf fn)[i]).name)) = some y := by rw [← hy]; show _ = (List.map _ (kindsOf fn))[i]?; rw [List.getElem?_map, List.getElem?_eq_getElem hki]; rfl
      cases hy
      have hx : xs[i]? = some x := hx
      obtain ⟨a, ha, dv⟩ := hxs.get hx
      have ga' := g a (List.mem_of_getElem? ha)
      refine ⟨T, _, rfl, st, rfl, _, _, rfl, _, _, rfl, rfl, _, rfl, _, rfl, x, a, (kindsOf fn)[i], rfl, dv.kb kk Lsts.nil, ga', fun T hm => kk.tab T (hT T hm), fun H4 k4 => ⟨_, rfl, rfl, _, rfl, ?_⟩⟩
      have hks : (kindsOf fn)[i]? = some (kindsOf fn)[i] := List.getElem?_eq_getElem hki
      cases e : ((kindsOf fn)[i]).has a with
      | true =>
        refine iteF' (by simp) ⟨kk.trans k4, ⟨_, _, _, rfl⟩, fun j a' k' hlt h1 h2 => ?_⟩
        by_cases hji : j < i
        · exact hj j a' k' hji h1 h2
        · obtain rfl : j = i := by omega
          rw [ha] at h1
          rw [hks] at h2
          cases h1
          cases h2
          exact e
      | false =>
        refine iteT' (by simp) ⟨_, rfl, by show 2 ≤ sizeLine; decide, fun p hp => ?_⟩
        rw [if_neg Bool.false_ne_true]
        obtain ⟨k5, d5⟩ := mk_err (K := K) (m := Str.ofString ((kindsOf fn)[i]).msg) hp
        refine q _ _ ((kk.trans k4).trans k5) ?_
        unfold fnR
        rw [wrongK_at hj ha hks e]
        exact d5
    · rintro σ H1 ⟨k, ⟨o2, o3, o4, rfl⟩, hj⟩
      have hw : wrongK as (kindsOf fn) = none := wrongK_all fun j a k' h1 h2 => hj j a k' (by have := (List.getElem?_eq_some_iff.mp h1).1; omega) h1 h2
      have q : ∀ H' u, Kp H H' → DtR K H' u (oper fn as) → Q u H' := fun H' u kk r => q H' u kk (by unfold fnR; rw [hw]; exact r)
      exact ⟨_, rfl, aAct, _, _, rfl, rfl, hA, ga, gfd, gps, _, rfl, hF.mono (by omega), hkp, hbi, _, rfl, vl, xs, rfl, .inr (.inl (.inl (k.keep _ _ hvl (by simp) nt_lst))), as, hxs.kb k Lsts.nil, g, hl, hw, fun H' u k2 r => q H' u (k.trans k2) r⟩
end
end Rw

namespace Rw
open PySem PySem.Spec PyProof.Rows L2 GxR Gx Gd Rx Rs
theorem kinds_not : kindsOf (cs "not") = [.bool] := by unfold kindsOf; rw [if_pos rfl]
theorem oper_not : oper (cs "not") = opNot := by funext as; unfold oper; rw [if_pos rfl]
theorem kinds_size : kindsOf (cs "size") = [.map] := by unfold kindsOf; rw [if_neg (by decide +kernel), if_pos rfl]
theorem oper_size : oper (cs "size") = opSize := by funext as; unfold oper; rw [if_neg (by decide +kernel), if_pos rfl]
theorem kinds_reverse : kindsOf (cs "reverse") = [.map] := by unfold kindsOf; rw [if_neg (by decide +kernel), if_neg (by decide +kernel), if_pos rfl]
theorem oper_reverse : oper (cs "reverse") = opRev := by funext as; unfold oper; rw [if_neg (by decide +kernel), if_neg (by decide +kernel), if_pos rfl]
theorem kinds_add : kindsOf (cs "add") = [.int, .int] := by unfold kindsOf; rw [if_neg (by decide +kernel), if_neg (by decide +kernel), if_neg (by decide +kernel), if_pos rfl]
theorem oper_add : oper (cs "add") = opAdd := by funext as; unfold oper; rw [if_neg (by decide +kernel), if_neg (by decide +kernel), if_neg (by decide +kernel), if_pos rfl]
theorem kinds_sub : kindsOf (cs "sub") = [.int, .int] := by unfold kindsOf; rw [if_neg (by decide +kernel), if_neg (by decide +kernel), if_neg (by decide +kernel), if_neg (by decide +kernel), if_pos rfl]
theorem oper_sub : oper (cs "sub") = opSub := by funext as; unfold oper; rw [if_neg (by decide +kernel), if_neg (by decide +kernel), if_neg (by decide +kernel), if_neg (by decide +kernel), if_pos rfl]
theorem kinds_lt : kindsOf (cs "lt") = [.int, .int] := by unfold kindsOf; rw [if_neg (by decide +kernel), if_neg (by decide +kernel), if_neg (by decide +kernel), if_neg (by decide +kernel), if_neg (by decide +kernel), if_pos rfl]
theorem oper_lt : oper (cs "lt") = opLt := by funext as; unfold oper; rw [if_neg (by decide +kernel), if_neg (by decide +kernel), if_neg (by decide +kernel), if_neg (by decide +kernel), if_neg (by decide +kernel), if_pos rfl]
theorem kinds_eq : kindsOf (cs "eq") = [.any, .any] := by unfold kindsOf; rw [if_neg (by decide +kernel), if_neg (by decide +kernel), if_neg (by decide +kernel), if_neg (by decide +kernel), if_neg (by decide +kernel), if_neg (by decide +kernel), if_pos rfl]
theorem oper_eq : oper (cs "eq") = opEq := by funext as; unfold oper; rw [if_neg (by decide +kernel), if_neg (by decide +kernel), if_neg (by decide +kernel), if_neg (by decide +kernel), if_neg (by decide +kernel), if_neg (by decide +kernel), if_pos rfl]
theorem kinds_concat : kindsOf (cs "concat") = [.scalar, .scalar] := by unfold kindsOf; rw [if_neg (by decide +kernel), if_neg (by decide +kernel), if_neg (by decide +kernel), if_neg (by decide +kernel), if_neg (by decide +kernel), if_neg (by decide +kernel), if_neg (by decide +kernel), if_pos rfl]
theorem oper_concat : oper (cs "concat") = opCat := by funext as; unfold oper; rw [if_neg (by decide +kernel), if_neg (by decide +kernel), if_neg (by decide +kernel), if_neg (by decide +kernel), if_neg (by decide +kernel), if_neg (by decide +kernel), if_neg (by decide +kernel), if_pos rfl]
theorem kinds_has : kindsOf (cs "has") = [.map, .key] := by unfold kindsOf; rw [if_neg (by decide +kernel), if_neg (by decide +kernel), if_neg (by decide +kernel), if_neg (by decide +kernel), if_neg (by decide +kernel), if_neg (by decide +kernel), if_neg (by decide +kernel), if_neg (by decide +kernel), if_pos rfl]
theorem oper_has : oper (cs "has") = opHas := by funext as; unfold oper; rw [if_neg (by decide +kernel), if_neg (by decide +kernel), if_neg (by decide +kernel), if_neg (by decide +kernel), if_neg (by decide +kernel), if_neg (by decide +kernel), if_neg (by decide +kernel), if_neg (by decide +kernel), if_pos rfl]
theorem kinds_get : kindsOf (cs "get") = [.map, .key] := by unfold kindsOf; rw [if_neg (by decide +kernel), if_neg (by decide +kernel), if_neg (by decide +kernel), if_neg (by decide +kernel), if_neg (by decide +kernel), if_neg (by decide +kernel), if_neg (by decide +kernel), if_neg (by decide +kernel), if_neg (by decide +kernel), if_pos rfl]
theorem oper_get : oper (cs "get") = opGet := by funext as; unfold oper; rw [if_neg (by decide +kernel), if_neg (by decide +kernel), if_neg (by decide +kernel), if_neg (by decide +kernel), if_neg (by decide +kernel), if_neg (by decide +kernel), if_neg (by decide +kernel), if_neg (by decide +kernel), if_neg (by decide +kernel), if_pos rfl]
theorem kinds_remove : kindsOf (cs "remove") = [.map, .key] := by unfold kindsOf; rw [if_neg (by decide +kernel), if_neg (by decide +kernel), if_neg (by decide +kernel), if_neg (by decide +kernel), if_neg (by decide +kernel), if_neg (by decide +kernel), if_neg (by decide +kernel), if_neg (by decide +kernel), if_neg (by decide +kernel), if_neg (by decide +kernel), if_pos rfl]
theorem oper_remove : oper (cs "remove") = opRem := by funext as; unfold oper; rw [if_neg (by decide +kernel), if_neg (by decide +kernel), if_neg (by decide +kernel), if_neg (by decide +kernel), if_neg (by decide +kernel), if_neg (by decide +kernel), if_neg (by decide +kernel), if_neg (by decide +kernel), if_neg (by decide +kernel), if_neg (by decide +kernel), if_pos rfl]
theorem kinds_take : kindsOf (cs "take") = [.map, .int] := by unfold kindsOf; rw [if_neg (by decide +kernel), if_neg (by decide +kernel), if_neg (by decide +kernel), if_neg (by decide +kernel), if_neg (by decide +kernel), if_neg (by decide +kernel), if_neg (by decide +kernel), if_neg (by decide +kernel), if_neg (by decide +kernel), if_neg (by decide +kernel), if_neg (by decide +kernel), if_pos rfl]
theorem oper_take : oper (cs "take") = opTake := by funext as; unfold oper; rw [if_neg (by decide +kernel), if_neg (by decide +kernel), if_neg (by decide +kernel), if_neg (by decide +kernel), if_neg (by decide +kernel), if_neg (by decide +kernel), if_neg (by decide +kernel), if_neg (by decide +kernel), if_neg (by decide +kernel), if_neg (by decide +kernel), if_neg (by decide +kernel), if_pos rfl]
theorem kinds_put : kindsOf (cs "put") = [.map, .key, .scalar] := by unfold kindsOf; rw [if_neg (by decide +kernel), if_neg (by decide +kernel), if_neg (by decide +kernel), if_neg (by decide +kernel), if_neg (by decide +kernel), if_neg (by decide +kernel), if_neg (by decide +kernel), if_neg (by decide +kernel), if_neg (by decide +kernel), if_neg (by decide +kernel), if_neg (by decide +kernel), if_neg (by decide +kernel)]
theorem oper_put : oper (cs "put") = opPut := by funext as; unfold oper; rw [if_neg (by decide +kernel), if_neg (by decide +kernel), if_neg (by decide +kernel), if_neg (by decide +kernel), if_neg (by decide +kernel), if_neg (by decide +kernel), if_neg (by decide +kernel), if_neg (by decide +kernel), if_neg (by decide +kernel), if_neg (by decide +kernel), if_neg (by decide +kernel), if_neg (by decide +kernel)]
theorem errS_ok {m : String} (h : (decide ((Str.ofString m).length ≤ 100) && PyData.strOk (Str.ofString m)) = true) : (errS m).good := by
  rw [Bool.and_eq_true, decide_eq_true_eq] at h
  exact h
theorem one_l {as : List Va} (h : as.length = 1) : ∃ a, as = [a] := by
  match as, h with
  | [a], _ => exact ⟨a, rfl⟩
theorem two_l {as : List Va} (h : as.length = 2) : ∃ a b, as = [a, b] := by
  match as, h with
  | [a, b], _ => exact ⟨a, b, rfl⟩
theorem three_l {as : List Va} (h : as.length = 3) : ∃ a b c, as = [a, b, c] := by
  match as, h with
  | [a, b, c], _ => exact ⟨a, b, c, rfl⟩
theorem lookE_good {ps : List (Str × Rv.Sc)} {k : Str} {x : Rv.Sc} (g : Rv.Ents ps) (h : lookE ps k = some x) : x.good := by
  unfold lookE at h
  cases e : ps.find? fun p => decide (p.1 = k) with
  | none => rw [e] at h; cases h
  | some p =>
    rw [e] at h
    cases h
    exact (g.ok p (List.mem_of_find?_eq_some e)).2
theorem plain_chars : ∀ {x : Rv.Sc}, x.good → x.plain.cps.toList.all Rv.isChar = true
  | .none, _ => by decide +kernel
  | .bool b, _ => by cases b <;> decide +kernel
  | .int i, h => by
    obtain ⟨n, rfl⟩ : ∃ n : Nat, i = n := ⟨i.toNat, by have := h.1; omega⟩
    show (Str.ofString (toString (n : Int))).cps.toList.all Rv.isChar = true
    rw [show (Str.ofString (toString (n : Int))).cps.toList = TL.numL n from Rs.text_num n]
    have h1 := Rs.numL_all n
    rw [List.all_eq_true] at h1 ⊢
    intro c hc
    have := h1 c hc
    unfold Rs.isDigit Rs.inRg at this
    rw [Bool.and_eq_true, decide_eq_true_eq, decide_eq_true_eq] at this
    unfold Rv.isChar Rv.inRg
    rw [decide_eq_true (by omega : 32 ≤ c), decide_eq_true (by omega : c ≤ 126), decide_eq_false (by omega : ¬ c = 37)]
    rfl
  | .text x, h => h.2
theorem oper_good {f : List Nat} {as : List Va} (hf : f ∈ eager) (g : ∀ a ∈ as, a.good) (hl : as.length = (kindsOf f).length) (hw : wrongK as (kindsOf f) = none) : (oper f as).good := by
  simp only [eager, List.map_cons, List.map_nil, List.mem_cons, List.not_mem_nil, or_false] at hf
  rcases hf with rfl | rfl | rfl | rfl | rfl | rfl | rfl | rfl | rfl | rfl | rfl | rfl | rfl
  · rw [kinds_not] at hl hw
    rw [oper_not]
    obtain ⟨a, rfl⟩ := one_l hl
    obtain ⟨b, rfl⟩ := has_bool (wrongK_cons hw).1
    exact trivial
  · rw [kinds_size] at hl hw
    rw [oper_size]
    obtain ⟨a, rfl⟩ := one_l hl
    obtain ⟨ps, rfl⟩ := has_map (wrongK_cons hw).1
    have gm : Rv.Ents ps := g (.m ps) (by simp)
    have := gm.len
    exact ⟨by omega, by omega⟩
  · rw [kinds_reverse] at hl hw
    rw [oper_reverse]
    obtain ⟨a, rfl⟩ := one_l hl
    obtain ⟨ps, rfl⟩ := has_map (wrongK_cons hw).1
    have gm : Rv.Ents ps := g (.m ps) (by simp)
    exact Ents.rev gm
  · rw [kinds_add] at hl hw
    rw [oper_add]
    obtain ⟨a, b, rfl⟩ := two_l hl
    obtain ⟨w1, w2⟩ := wrongK_cons hw
    obtain ⟨i, rfl⟩ := has_int w1
    obtain ⟨j, rfl⟩ := has_int (wrongK_cons w2).1
    have gi : 0 ≤ i ∧ i ≤ 999999 := g (.s (.int i)) (by simp)
    have gj : 0 ≤ j ∧ j ≤ 999999 := g (.s (.int j)) (by simp)
    show (if i + j > 999999 then errS "integer overflow" else vInt (i + j)).good
    split
    · exact errS_ok (by decide +kernel)
    · exact ⟨by omega, by omega⟩
  · rw [kinds_sub] at hl hw
    rw [oper_sub]
    obtain ⟨a, b, rfl⟩ := two_l hl
    obtain ⟨w1, w2⟩ := wrongK_cons hw
    obtain ⟨i, rfl⟩ := has_int w1
    obtain ⟨j, rfl⟩ := has_int (wrongK_cons w2).1
    have gi : 0 ≤ i ∧ i ≤ 999999 := g (.s (.int i)) (by simp)
    have gj : 0 ≤ j ∧ j ≤ 999999 := g (.s (.int j)) (by simp)
    show (if i < j then errS "integer underflow" else vInt (i - j)).good
    split
    · exact errS_ok (by decide +kernel)
    · exact ⟨by omega, by omega⟩
  · rw [kinds_lt] at hl hw
    rw [oper_lt]
    obtain ⟨a, b, rfl⟩ := two_l hl
    obtain ⟨w1, w2⟩ := wrongK_cons hw
    obtain ⟨i, rfl⟩ := has_int w1
    obtain ⟨j, rfl⟩ := has_int (wrongK_cons w2).1
    exact trivial
  · rw [kinds_eq] at hl hw
    rw [oper_eq]
    obtain ⟨a, b, rfl⟩ := two_l hl
    exact trivial
  · rw [kinds_concat] at hl hw
    rw [oper_concat]
    obtain ⟨a, b, rfl⟩ := two_l hl
    obtain ⟨w1, w2⟩ := wrongK_cons hw
    obtain ⟨x, rfl⟩ := has_scalar w1
    obtain ⟨y, rfl⟩ := has_scalar (wrongK_cons w2).1
    show (if (x.plain ++ y.plain).length > 40 then errS "text too long" else .val (.s (.text (x.plain ++ y.plain)))).good
    split
    · exact errS_ok (by decide +kernel)
    · rename_i hz
      refine ⟨by omega, ?_⟩
      show (x.plain.cps ++ y.plain.cps).toList.all Rv.isChar = true
      rw [Array.toList_append, List.all_append, plain_chars (g (.s x) (by simp)), plain_chars (g (.s y) (by simp))]
      rfl
  · rw [kinds_has] at hl hw
    rw [oper_has]
    obtain ⟨a, b, rfl⟩ := two_l hl
    obtain ⟨w1, w2⟩ := wrongK_cons hw
    obtain ⟨ps, rfl⟩ := has_map w1
    obtain ⟨x, rfl, hx⟩ := has_key (wrongK_cons w2).1
    exact trivial
  · rw [kinds_get] at hl hw
    rw [oper_get]
    obtain ⟨a, b, rfl⟩ := two_l hl
    obtain ⟨w1, w2⟩ := wrongK_cons hw
    obtain ⟨ps, rfl⟩ := has_map w1
    obtain ⟨x, rfl, hx⟩ := has_key (wrongK_cons w2).1
    have gm : Rv.Ents ps := g (.m ps) (by simp)
    show (match lookE ps x with | none => errS "no such key" | some x => .val (.s x) : Re).good
    cases e : lookE ps x with
    | none => exact errS_ok (by decide +kernel)
    | some y => exact lookE_good gm e
  · rw [kinds_remove] at hl hw
    rw [oper_remove]
    obtain ⟨a, b, rfl⟩ := two_l hl
    obtain ⟨w1, w2⟩ := wrongK_cons hw
    obtain ⟨ps, rfl⟩ := has_map w1
    obtain ⟨x, rfl, hx⟩ := has_key (wrongK_cons w2).1
    have gm : Rv.Ents ps := g (.m ps) (by simp)
    exact Ents.sub gm List.filter_sublist
  · rw [kinds_take] at hl hw
    rw [oper_take]
    obtain ⟨a, b, rfl⟩ := two_l hl
    obtain ⟨w1, w2⟩ := wrongK_cons hw
    obtain ⟨ps, rfl⟩ := has_map w1
    obtain ⟨i, rfl⟩ := has_int (wrongK_cons w2).1
    have gm : Rv.Ents ps := g (.m ps) (by simp)
    exact Ents.sub gm (List.take_sublist _ _)
  · rw [kinds_put] at hl hw
    rw [oper_put]
    obtain ⟨a, b, c, rfl⟩ := three_l hl
    obtain ⟨w1, w2⟩ := wrongK_cons hw
    obtain ⟨w2, w3⟩ := wrongK_cons w2
    obtain ⟨ps, rfl⟩ := has_map w1
    obtain ⟨x, rfl, hx⟩ := has_key w2
    obtain ⟨y, rfl⟩ := has_scalar (wrongK_cons w3).1
    have gm : Rv.Ents ps := g (.m ps) (by simp)
    have gx : Rv.textOk x := g (.s (.text x)) (by simp)
    have gy : y.good := g (.s y) (by simp)
    show (if (putE ps x y).length > 8 then errS "too many entries" else .val (.m (putE ps x y))).good
    split
    · exact errS_ok (by decide +kernel)
    · rename_i hz
      exact Ents.put gm ⟨hx, Rv.okN_str' (Nat.le_trans gx.1 (by decide)) (Rv.str_ok gx.2)⟩ gy hz
theorem wrongK_msg : ∀ {as : List Va} {ks : List Kd} {m : String}, wrongK as ks = some m → ∃ k : Kd, m = k.msg
  | [], _, _, h => by unfold wrongK at h; cases h
  | _ :: _, [], _, h => by unfold wrongK at h; cases h
  | a :: as, k :: ks, m, h => by
    unfold wrongK at h
    split at h
    · exact wrongK_msg h
    · cases h; exact ⟨k, rfl⟩
theorem fnR_good {f : List Nat} {as : List Va} (hf : f ∈ eager) (g : ∀ a ∈ as, a.good) (hl : as.length = (kindsOf f).length) : (fnR f as).good := by
  unfold fnR
  cases e : wrongK as (kindsOf f) with
  | some m =>
    obtain ⟨k, rfl⟩ := wrongK_msg e
    cases k <;> exact errS_ok (by decide +kernel)
  | none => exact oper_good hf g hl e
end Rw

namespace Rw
open PySem PySem.Spec PyProof.Rows L2 GxR Gx Gd Rx Rs
abbrev s_evaluate : Stmt := topS 13
theorem sc_evaluate : FnScope ["expression", "scope", "provided", "resources", "around", "kind"] ["expression", "scope", "provided", "resources"] (defScope s_evaluate) := ⟨rfl, rfl, rfl, by decide +kernel, rfl, by decide +kernel, by decide +kernel⟩
abbrev s_injected : Stmt := topS 17
theorem sc_injected : FnScope ["name", "otherwise", "around", "_", "provided", "known", "value"] ["name", "otherwise", "around"] (defScope s_injected) := ⟨rfl, rfl, rfl, by decide +kernel, rfl, by decide +kernel, by decide +kernel⟩
abbrev s_called : Stmt := topS 18
theorem sc_called : FnScope ["function", "arguments", "around", "values", "argument", "result"] ["function", "arguments", "around"] (defScope s_called) := ⟨rfl, rfl, rfl, by decide +kernel, rfl, by decide +kernel, by decide +kernel⟩
abbrev s_both : Stmt := topS 20
theorem sc_both : FnScope ["one", "other", "around", "result"] ["one", "other", "around"] (defScope s_both) := ⟨rfl, rfl, rfl, by decide +kernel, rfl, by decide +kernel, by decide +kernel⟩
abbrev s_chosen : Stmt := topS 21
theorem sc_chosen : FnScope ["arguments", "around", "result", "chosen"] ["arguments", "around"] (defScope s_chosen) := ⟨rfl, rfl, rfl, by decide +kernel, rfl, by decide +kernel, by decide +kernel⟩
abbrev s_boolean_of : Stmt := topS 22
theorem sc_boolean_of : FnScope ["expression", "around", "result", "message"] ["expression", "around"] (defScope s_boolean_of) := ⟨rfl, rfl, rfl, by decide +kernel, rfl, by decide +kernel, by decide +kernel⟩
mutual
/-- an expression that can be evaluated -/
def WfE : Ex → Prop
  | .lit v => ∃ va : Va, va.good ∧ v = va.d
  | .var _ => True
  | .call f es => f ∈ funs ∧ es.length = arity f ∧ WfEs es
  | .inj _ e => WfE e
def WfEs : List Ex → Prop
  | [] => True
  | e :: es => WfE e ∧ WfEs es
end
theorem wfEs_iff : ∀ {es : List Ex}, WfEs es ↔ ∀ e ∈ es, WfE e
  | [] => ⟨(fun _ _ h => by cases h), fun _ => trivial⟩
  | e :: es => by
    constructor
    · rintro ⟨h1, h2⟩ x hx
      rcases List.mem_cons.mp hx with rfl | hx
      · exact h1
      · exact wfEs_iff.mp h2 x hx
    · exact fun h => ⟨h e List.mem_cons_self, wfEs_iff.mpr fun x hx => h x (List.mem_cons_of_mem _ hx)⟩
theorem gv_va {v : PyData} (h : Rv.GV v) : ∃ va : Va, va.good ∧ v = va.d := by
  rcases h with ⟨s, g, rfl⟩ | ⟨ps, g, rfl⟩
  · exact ⟨.s s, g, rfl⟩
  · exact ⟨.m ps, g, rfl⟩
mutual
theorem GoodE.wf {ns : List Str} : ∀ {e : Ex}, GoodE ns e → WfE e
  | .lit v, h => gv_va h
  | .var _, _ => trivial
  | .call f es, ⟨h1, h2, h3⟩ => ⟨h1, h2, GoodEs.wf h3⟩
  | .inj _ e, ⟨_, h⟩ => GoodE.wf (e := e) h
theorem GoodEs.wf {ns : List Str} : ∀ {es : List Ex}, GoodEs ns es → WfEs es
  | [], _ => trivial
  | e :: es, ⟨h1, h2⟩ => ⟨GoodE.wf h1, GoodEs.wf h2⟩
end
/-- what the variables, resources, provided values hold is good -/
structure EnvG (σ : Str → Option Va) (π : List (Str × Va)) (ρ : Str → Option Va) : Prop where
  s : ∀ x v, σ x = some v → v.good
  p : ∀ p ∈ π, p.2.good
  r : ∀ x v, ρ x = some v → v.good
theorem seqR_good : ∀ {rs : List Re}, (∀ r ∈ rs, r.good) → (match seqR rs with
  | .inl r => r.good ∧ ∀ v, r ≠ .val v
  | .inr vs => vs.length = rs.length ∧ ∀ v ∈ vs, v.good)
  | [], _ => ⟨rfl, fun _ h => by cases h⟩
  | r :: rs, h => by
    have ih := seqR_good (rs := rs) fun x hx => h x (List.mem_cons_of_mem _ hx)
    have hr := h r List.mem_cons_self
    cases r with
    | val v =>
      unfold seqR
      cases e : seqR rs with
      | inl r => rw [e] at ih; exact ih
      | inr vs =>
        rw [e] at ih
        refine ⟨by rw [List.length_cons, List.length_cons, ih.1], fun x hx => ?_⟩
        rcases List.mem_cons.mp hx with rfl | hx
        · exact hr
        · exact ih.2 x hx
    | err m => exact ⟨hr, fun _ z => by cases z⟩
    | wait n => exact ⟨hr, fun _ z => by cases z⟩
theorem boolR_good {r : Re} (h : r.good) : (boolR r).good := by
  cases r with
  | val v =>
    show (if Kd.bool.has v = true then Re.val v else errS "not a boolean").good
    split
    · exact h
    · exact errS_ok (by decide +kernel)
  | err m => exact h
  | wait n => exact h
theorem andR_good {a b : Re} (ha : a.good) (hb : b.good) : (andR a b).good := by
  unfold andR
  have h1 := boolR_good ha
  split
  · exact boolR_good hb
  · exact h1
theorem condR_good {c a b : Re} (hc : c.good) (ha : a.good) (hb : b.good) : (condR c a b).good := by
  unfold condR
  have h1 := boolR_good hc
  split
  · exact ha
  · exact hb
  · exact h1
theorem resR_good {ρ : Str → Option Va} (h : ∀ x v, ρ x = some v → v.good) {v : Va} (g : v.good) : (resR ρ v).good := by
  cases v with
  | m ps => exact errS_ok (by decide +kernel)
  | s x =>
    cases x with
    | text x =>
      show (if x.length = 0 then errS "invalid resource name" else match ρ x with | some v => .val v | none => .wait x : Re).good
      split
      · exact errS_ok (by decide +kernel)
      · cases e : ρ x with
        | none => exact g
        | some v => exact h x v e
    | _ => exact errS_ok (by decide +kernel)
theorem eager_of {f : List Nat} (h : f ∈ funs) (h1 : f ≠ cs "and") (h2 : f ≠ cs "cond") (h3 : f ≠ cs "resource") : f ∈ eager := by
  simp only [funs, List.map_cons, List.map_nil, List.mem_cons, List.not_mem_nil, or_false] at h
  simp only [eager, List.map_cons, List.map_nil, List.mem_cons, List.not_mem_nil, or_false]
  rcases h with h | h | h | h | h | h | h | h | h | h | h | h | h | h | h | h
  · exact .inl h
  · exact .inr (.inl h)
  · exact .inr (.inr (.inl h))
  · exact .inr (.inr (.inr (.inl h)))
  · exact .inr (.inr (.inr (.inr (.inl h))))
  · exact .inr (.inr (.inr (.inr (.inr (.inl h)))))
  · exact .inr (.inr (.inr (.inr (.inr (.inr (.inl h))))))
  · exact absurd h h1
  · exact .inr (.inr (.inr (.inr (.inr (.inr (.inr (.inl h)))))))
  · exact .inr (.inr (.inr (.inr (.inr (.inr (.inr (.inr (.inl h))))))))
  · exact .inr (.inr (.inr (.inr (.inr (.inr (.inr (.inr (.inr (.inl h)))))))))
  · exact .inr (.inr (.inr (.inr (.inr (.inr (.inr (.inr (.inr (.inr (.inl h))))))))))
  · exact .inr (.inr (.inr (.inr (.inr (.inr (.inr (.inr (.inr (.inr (.inr (.inl h)))))))))))
  · exact .inr (.inr (.inr (.inr (.inr (.inr (.inr (.inr (.inr (.inr (.inr (.inr h)))))))))))
  · exact absurd h h2
  · exact absurd h h3
theorem kinds_arity : eager.all (fun f => decide ((kindsOf f).length = arity f)) = true := by decide +kernel
theorem kinds_len {f : List Nat} (h : f ∈ eager) : (kindsOf f).length = arity f := of_decide_eq_true (List.all_eq_true.mp kinds_arity f h)
theorem apR_good {ρ : Str → Option Va} (hρ : ∀ x v, ρ x = some v → v.good) {f : List Nat} {rs : List Re} (hf : f ∈ funs) (hl : rs.length = arity f) (g : ∀ r ∈ rs, r.good) : (apR ρ f rs).good := by
  unfold apR
  by_cases h1 : f = cs "and"
  · rw [if_pos h1]
    subst h1
    have hl : rs.length = 2 := hl.trans (by decide +kernel)
    match rs, hl, g with
    | [a, b], _, g => exact andR_good (g a (by simp)) (g b (by simp))
  · rw [if_neg h1]
    by_cases h2 : f = cs "cond"
    · rw [if_pos h2]
      subst h2
      have hl : rs.length = 3 := hl.trans (by decide +kernel)
      match rs, hl, g with
      | [c, a, b], _, g => exact condR_good (g c (by simp)) (g a (by simp)) (g b (by simp))
    · rw [if_neg h2]
      have hs := seqR_good g
      cases e : seqR rs with
      | inl r => rw [e] at hs; exact hs.1
      | inr vs =>
        rw [e] at hs
        show (if f = cs "resource" then _ else _ : Re).good
        by_cases h3 : f = cs "resource"
        · rw [if_pos h3]
          subst h3
          have hl : vs.length = 1 := hs.1.trans (hl.trans (by decide +kernel))
          obtain ⟨v, rfl⟩ := one_l hl
          exact resR_good hρ (hs.2 v (by simp))
        · rw [if_neg h3]
          have he := eager_of hf h1 h2 h3
          exact fnR_good he hs.2 (by rw [hs.1, hl, kinds_len he])
theorem lookP_mem {π : List (Str × Va)} {x : Str} {v : Va} (h : lookP π x = some v) : ∃ p ∈ π, p.2 = v := by
  unfold lookP at h
  cases e : π.find? fun p => decide (p.1 = x) with
  | none => rw [e] at h; cases h
  | some p => rw [e] at h; exact ⟨p, List.mem_of_find?_eq_some e, Option.some.inj h⟩
mutual
theorem ev_good {σ : Str → Option Va} {π : List (Str × Va)} {ρ : Str → Option Va} (G : EnvG σ π ρ) : ∀ {e : Ex}, WfE e → (ev σ π ρ e).good
  | .lit v, ⟨va, g, e⟩ => by
    subst e
    show (Re.val (Va.of va.d)).good
    rw [Va.of_d]
    exact g
  | .var l, _ => by
    show (match σ (sx l) with | some v => Re.val v | none => errS "undefined name").good
    cases e : σ (sx l) with
    | none => exact errS_ok (by decide +kernel)
    | some v => exact G.s _ v e
  | .inj l x, h => by
    show (match lookP π (sx l) with | some v => Re.val v | none => ev σ π ρ x).good
    cases e : lookP π (sx l) with
    | none => exact ev_good G (e := x) h
    | some v =>
      obtain ⟨p, hp, rfl⟩ := lookP_mem e
      exact G.p p hp
  | .call f es, ⟨h1, h2, h3⟩ => by
    show (apR ρ f (evs σ π ρ es)).good
    exact apR_good G.r h1 (by rw [evs_map, List.length_map, h2]) (evs_good G h3)
theorem evs_good {σ : Str → Option Va} {π : List (Str × Va)} {ρ : Str → Option Va} (G : EnvG σ π ρ) : ∀ {es : List Ex}, WfEs es → ∀ r ∈ evs σ π ρ es, r.good
  | [], _, r, h => by cases h
  | e :: es, ⟨h1, h2⟩, r, h => by
    rcases List.mem_cons.mp h with rfl | h
    · exact ev_good G h1
    · exact evs_good G h2 r h
end
/-- the provided values -/
inductive DtPs (K : PySem.W.Frag) (H : Hp) : List V → List (Str × Va) → Prop where
  | nil : DtPs K H [] []
  | cons {t : Addr} {k : Str} {v : V} {va : Va} {xs : List V} {π : List (Str × Va)} (h : SqT K H t [.str k, v]) (hv : DtV K H v va) (g : va.good) (hs : DtPs K H xs π) : DtPs K H (.ref t :: xs) ((k, va) :: π)
theorem DtPs.kb {K : PySem.W.Frag} {S : List Addr} {H H' : Hp} (k : Kb S H H') (hS : Lsts S H) : ∀ {xs : List V} {π : List (Str × Va)}, DtPs K H xs π → DtPs K H' xs π
  | _, _, .nil => .nil
  | _, _, .cons h hv g hs => .cons (k.sqT hS h) (hv.kb k hS) g (DtPs.kb k hS hs)
theorem DtPs.good {K : PySem.W.Frag} {H : Hp} : ∀ {xs : List V} {π : List (Str × Va)}, DtPs K H xs π → ∀ p ∈ π, p.2.good
  | _, _, .nil, _, h => by cases h
  | _, _, .cons _ _ g hs, p, h => by
    rcases List.mem_cons.mp h with rfl | h
    · exact g
    · exact hs.good p h
theorem DtPs.length {K : PySem.W.Frag} {H : Hp} : ∀ {xs : List V} {π : List (Str × Va)}, DtPs K H xs π → xs.length = π.length
  | _, _, .nil => rfl
  | _, _, .cons _ _ _ hs => congrArg (· + 1) hs.length
theorem DtPs.get {K : PySem.W.Frag} {H : Hp} : ∀ {xs : List V} {π : List (Str × Va)} {i : Nat} {v : V}, DtPs K H xs π → xs[i]? = some v → ∃ t k u va, v = .ref t ∧ π[i]? = some (k, va) ∧ SqT K H t [.str k, u] ∧ DtV K H u va
  | _, _, _, _, .nil, e => by simp at e
  | _, _, 0, _, .cons h hv g _, e => by
    cases e
    exact ⟨_, _, _, _, rfl, rfl, h, hv⟩
  | _, _, i + 1, _, .cons _ _ _ hs, e => DtPs.get (i := i) hs e
/-- what an evaluation is made with -/
structure Arn (K : PySem.W.Frag) (H : Hp) (ts : List Addr) (sc pr re : Addr) (σ : Str → Option Va) (π : List (Str × Va)) (ρ : Str → Option Va) : Prop where
  s : DicF K H sc σ
  p : ∃ xs, SqT K H pr xs ∧ DtPs K H xs π
  r : DicF K H re ρ
  t : ∀ T ∈ ts, TabG H T
theorem Arn.kp {K : PySem.W.Frag} {H H' : Hp} {ts : List Addr} {sc pr re : Addr} {σ : Str → Option Va} {π : List (Str × Va)} {ρ : Str → Option Va} (h : Arn K H ts sc pr re σ π ρ) (k : Kp H H') : Arn K H' ts sc pr re σ π ρ :=
  ⟨h.s.kp k, (let ⟨xs, a, b⟩ := h.p; ⟨xs, k.sqT Lsts.nil a, b.kb k Lsts.nil⟩), h.r.kp k, fun T hm => k.tab T (h.t T hm)⟩
theorem DicF.good {K : PySem.W.Frag} {H : Hp} {a : Addr} {σ : Str → Option Va} (h : DicF K H a σ) : ∀ x v, σ x = some v → v.good := fun x v e => by
  obtain ⟨kvs, _, h⟩ := h
  have := h x
  rw [e] at this
  exact this.1
theorem Arn.env {K : PySem.W.Frag} {H : Hp} {ts : List Addr} {sc pr re : Addr} {σ : Str → Option Va} {π : List (Str × Va)} {ρ : Str → Option Va} (h : Arn K H ts sc pr re σ π ρ) : EnvG σ π ρ :=
  ⟨h.s.good, (let ⟨_, _, b⟩ := h.p; b.good), h.r.good⟩
def spEv (K : PySem.W.Frag) (ts : List Addr) (m : Nat) : Sp := fun vs H Q _ => ∃ (v : V) (e : Ex) (sc pr re : Addr) (σ : Str → Option Va) (π : List (Str × Va)) (ρ : Str → Option Va), vs = [v, .ref sc, .ref pr, .ref re] ∧ DtE K H v e ∧ WfE e ∧ e.deep ≤ m ∧ Arn K H ts sc pr re σ π ρ ∧
  ∀ H' u, Kp H H' → DtR K H' u (ev σ π ρ e) → Q u H'
def spBof (K : PySem.W.Frag) (ts : List Addr) (m : Nat) : Sp := fun vs H Q _ => ∃ (v : V) (e : Ex) (ar sc pr re : Addr) (σ : Str → Option Va) (π : List (Str × Va)) (ρ : Str → Option Va), vs = [v, .ref ar] ∧ SqT K H ar [.ref sc, .ref pr, .ref re] ∧ DtE K H v e ∧ WfE e ∧ e.deep ≤ m ∧ Arn K H ts sc pr re σ π ρ ∧
  ∀ H' u, Kp H H' → DtR K H' u (boolR (ev σ π ρ e)) → Q u H'
def spBoth (K : PySem.W.Frag) (ts : List Addr) (m : Nat) : Sp := fun vs H Q _ => ∃ (v1 v2 : V) (e1 e2 : Ex) (ar sc pr re : Addr) (σ : Str → Option Va) (π : List (Str × Va)) (ρ : Str → Option Va), vs = [v1, v2, .ref ar] ∧ SqT K H ar [.ref sc, .ref pr, .ref re] ∧ DtE K H v1 e1 ∧ DtE K H v2 e2 ∧ WfE e1 ∧ WfE e2 ∧ e1.deep ≤ m ∧ e2.deep ≤ m ∧ Arn K H ts sc pr re σ π ρ ∧
  ∀ H' u, Kp H H' → DtR K H' u (andR (ev σ π ρ e1) (ev σ π ρ e2)) → Q u H'
def spChosen (K : PySem.W.Frag) (ts : List Addr) (m : Nat) : Sp := fun vs H Q _ => ∃ (t : Addr) (v1 v2 v3 : V) (e1 e2 e3 : Ex) (ar sc pr re : Addr) (σ : Str → Option Va) (π : List (Str × Va)) (ρ : Str → Option Va), vs = [.ref t, .ref ar] ∧ SqT K H t [v1, v2, v3] ∧ SqT K H ar [.ref sc, .ref pr, .ref re] ∧ DtE K H v1 e1 ∧ DtE K H v2 e2 ∧ DtE K H v3 e3 ∧ (∀ e ∈ [e1, e2, e3], WfE e ∧ e.deep ≤ m) ∧ Arn K H ts sc pr re σ π ρ ∧
  ∀ H' u, Kp H H' → DtR K H' u (condR (ev σ π ρ e1) (ev σ π ρ e2) (ev σ π ρ e3)) → Q u H'
def spCalled (K : PySem.W.Frag) (ts : List Addr) (m : Nat) : Sp := fun vs H Q _ => ∃ (f : List Nat) (t : Addr) (xs : List V) (es : List Ex) (ar sc pr re : Addr) (σ : Str → Option Va) (π : List (Str × Va)) (ρ : Str → Option Va), vs = [.str (sx f), .ref t, .ref ar] ∧ f ∈ funs ∧ es.length = arity f ∧ SqT K H t xs ∧ DtEs K H xs es ∧ WfEs es ∧ Ex.deepAll es ≤ m ∧ SqT K H ar [.ref sc, .ref pr, .ref re] ∧ Arn K H ts sc pr re σ π ρ ∧
  ∀ H' u, Kp H H' → DtR K H' u (apR ρ f (evs σ π ρ es)) → Q u H'
def injR (σ : Str → Option Va) (π : List (Str × Va)) (ρ : Str → Option Va) (l : List Nat) (e : Ex) : Re := match lookP π (sx l) with
  | some v => .val v
  | none => ev σ π ρ e
def spInjd (K : PySem.W.Frag) (ts : List Addr) (m : Nat) : Sp := fun vs H Q _ => ∃ (l : List Nat) (v : V) (e : Ex) (ar sc pr re : Addr) (σ : Str → Option Va) (π : List (Str × Va)) (ρ : Str → Option Va), vs = [.str (sx l), v, .ref ar] ∧ SqT K H ar [.ref sc, .ref pr, .ref re] ∧ DtE K H v e ∧ WfE e ∧ e.deep ≤ m ∧ Arn K H ts sc pr re σ π ρ ∧
  ∀ H' u, Kp H H' → DtR K H' u (injR σ π ρ l e) → Q u H'
end Rw

namespace Rw
open PySem PySem.Spec PyProof.Rows L2 GxR Gx Gd Rx Rs
def Re.word : Re → String
  | .val _ => "value"
  | .err _ => "error"
  | .wait _ => "waits"
theorem at_res {K : PySem.W.Frag} {H : Hp} {u : V} {r : Re} (h : DtR K H u r) : ∃ p y, u = .ref p ∧ SqT K H p [.str (Str.ofString r.word), y] ∧ ∀ va, r = .val va → DtV K H y va := by
  cases h with
  | val h hx => exact ⟨_, _, rfl, h, fun va e => by cases e; exact hx⟩
  | err h => exact ⟨_, _, rfl, h, fun va e => by cases e⟩
  | wait h => exact ⟨_, _, rfl, h, fun va e => by cases e⟩
theorem res_val (r : Re) : (!decide (V.str (Str.ofString r.word) = V.str (Str.ofString "value"))) = (match r with | .val _ => false | _ => true) := by
  cases r with
  | val v => show (!decide (V.str (Str.ofString "value") = V.str (Str.ofString "value"))) = false; rw [decide_eq_true rfl]; rfl
  | err m => show (!decide (V.str (Str.ofString "error") = V.str (Str.ofString "value"))) = true; rw [decide_eq_false (by decide +kernel)]; rfl
  | wait n => show (!decide (V.str (Str.ofString "waits") = V.str (Str.ofString "value"))) = true; rw [decide_eq_false (by decide +kernel)]; rfl
def trueR : Re := .val (.s (.bool true))
theorem eqv_one (a b : Str) : PyData.eqv (.tuple [.str a]) (.tuple [.str b, .bool true]) = false := by
  simp only [PyData.eqv, PyData.eqvAll, Bool.and_false]
theorem eqv_bool (a b : Bool) : PyData.eqv (.bool a) (.bool b) = (a == b) := by cases a <;> cases b <;> decide
theorem str_ne {a b : String} (h : ¬ Str.ofString a = Str.ofString b) : (Str.ofString a == Str.ofString b) = false := by
  rw [Bool.eq_false_iff]
  intro z
  exact h (eq_of_beq z)
theorem eqv_tr (va : Va) : PyData.eqv va.d (.tuple [.str (Str.ofString "bool"), .bool true]) = (match va with | .s (.bool b) => b | _ => false) := by
  cases va with
  | m ps =>
    show PyData.eqv (.tuple [.str (Str.ofString "map"), _]) _ = false
    rw [eqv_pair, str_ne (by decide +kernel), Bool.false_and]
  | s x =>
    cases x with
    | none => exact eqv_one _ _
    | bool b =>
      show PyData.eqv (.tuple [.str (Str.ofString "bool"), .bool b]) _ = b
      rw [eqv_pair, eqv_bool, beq_self_eq_true, Bool.true_and]
      cases b <;> rfl
    | int i =>
      show PyData.eqv (.tuple [.str (Str.ofString "int"), _]) _ = false
      rw [eqv_pair, str_ne (by decide +kernel), Bool.false_and]
    | text t =>
      show PyData.eqv (.tuple [.str (Str.ofString "text"), _]) _ = false
      rw [eqv_pair, str_ne (by decide +kernel), Bool.false_and]
theorem eqv_trueR (r : Re) : PyData.eqv r.d trueR.d = (match r with | .val (.s (.bool b)) => b | _ => false) := by
  cases r with
  | val v =>
    show PyData.eqv (.tuple [.str (Str.ofString "value"), v.d]) (.tuple [.str (Str.ofString "value"), .tuple [.str (Str.ofString "bool"), .bool true]]) = _
    rw [eqv_pair, beq_self_eq_true, Bool.true_and, eqv_tr]
    cases v with
    | m ps => rfl
    | s x => cases x <;> rfl
  | err m =>
    show PyData.eqv (.tuple [.str (Str.ofString "error"), _]) (.tuple [.str (Str.ofString "value"), _]) = false
    rw [eqv_pair, str_ne (by decide +kernel), Bool.false_and]
  | wait m =>
    show PyData.eqv (.tuple [.str (Str.ofString "waits"), _]) (.tuple [.str (Str.ofString "value"), _]) = false
    rw [eqv_pair, str_ne (by decide +kernel), Bool.false_and]
theorem okN_mono2 {d : PyData} (h : OkD d) : SeqAt.shaped d = true := h.shaped
theorem va_okN : ∀ {v : Va}, v.good → okN 4 v.d = true
  | .s x, h => by
    cases x with
    | none => decide +kernel
    | bool b => cases b <;> decide +kernel
    | int i =>
      have := Rv.good_okN (s := .int i) h
      refine Rv.okN_tup' (n := 3) (ds := [.str (Str.ofString "int"), .int i]) (by show 2 ≤ 1000; decide) fun d hd => ?_
      rcases List.mem_cons.mp hd with rfl | hd
      · decide +kernel
      · rw [List.mem_singleton.mp hd]
        have hl := Rv.log_of h
        show decide (i.natAbs.log2 < 1920) = true
        exact decide_eq_true hl
    | text x =>
      refine Rv.okN_tup' (n := 3) (ds := [.str (Str.ofString "text"), .str x]) (by show 2 ≤ 1000; decide) fun d hd => ?_
      rcases List.mem_cons.mp hd with rfl | hd
      · decide +kernel
      · rw [List.mem_singleton.mp hd]
        exact Rv.okN_str' (Nat.le_trans h.1 (by decide)) (Rv.str_ok h.2)
  | .m ps, h => Rv.Ents.okN h
theorem va_okd {v : Va} (h : v.good) : OkD v.d := ⟨4, by decide, va_okN h⟩
theorem re_okN : ∀ {r : Re}, r.good → OkD r.d
  | .val v, h => ⟨5, by decide, Rv.okN_tup' (n := 4) (ds := [.str (Str.ofString "value"), v.d]) (by show 2 ≤ 1000; decide) fun d hd => by
      rcases List.mem_cons.mp hd with rfl | hd
      · decide +kernel
      · rw [List.mem_singleton.mp hd]; exact va_okN h⟩
  | .err m, h => ⟨5, by decide, Rv.okN_tup' (n := 4) (ds := [.str (Str.ofString "error"), .str m]) (by show 2 ≤ 1000; decide) fun d hd => by
      rcases List.mem_cons.mp hd with rfl | hd
      · decide +kernel
      · rw [List.mem_singleton.mp hd]; exact Rv.okN_str' (Nat.le_trans h.1 (by decide)) h.2⟩
  | .wait m, h => ⟨5, by decide, Rv.okN_tup' (n := 4) (ds := [.str (Str.ofString "waits"), .str m]) (by show 2 ≤ 1000; decide) fun d hd => by
      rcases List.mem_cons.mp hd with rfl | hd
      · decide +kernel
      · rw [List.mem_singleton.mp hd]; exact Rv.okN_str' (Nat.le_trans h.1 (by decide)) (Rv.str_ok h.2)⟩
theorem boolR_val {r : Re} {v : Va} (h : boolR r = .val v) : ∃ b, v = .s (.bool b) := by
  cases r with
  | val u =>
    have h : (if Kd.bool.has u = true then Re.val u else errS "not a boolean") = .val v := h
    split at h
    · cases h
      exact has_bool (by assumption)
    · cases h
  | err m => cases h
  | wait m => cases h
theorem seqR_val : ∀ {as : List Va}, seqR (as.map Re.val) = .inr as
  | [] => rfl
  | a :: as => by
    show (match seqR (as.map Re.val) with | .inl r => Sum.inl r | .inr vs => Sum.inr (a :: vs)) = _
    rw [seqR_val]
theorem seqR_at : ∀ {rs : List Re} {as : List Va} {r : Re}, rs.take as.length = as.map Re.val → rs[as.length]? = some r → (∀ v, r ≠ .val v) → seqR rs = .inl r
  | [], as, r, _, e, _ => by simp at e
  | x :: rs, [], r, _, e, h => by
    cases e
    cases x with
    | val v => exact absurd rfl (h v)
    | err m => rfl
    | wait m => rfl
  | x :: rs, a :: as, r, ht, e, h => by
    rw [List.length_cons, List.take_succ_cons, List.map_cons] at ht
    obtain ⟨rfl, ht2⟩ := List.cons.inj ht
    show (match seqR rs with | .inl r => Sum.inl r | .inr vs => Sum.inr (a :: vs)) = _
    rw [seqR_at ht2 (by simpa using e) h]
end Rw

namespace Rw
open PySem PySem.Spec PyProof.Rows L2 GxR Gx Gd Rx Rs
def Re.isTr : Re → Bool
  | .val (.s (.bool b)) => b
  | _ => false
theorem eqv_trueR' (r : Re) : PyData.eqv r.d trueR.d = r.isTr := by
  rw [eqv_trueR]
  cases r with
  | val v =>
    cases v with
    | m ps => rfl
    | s x => cases x <;> rfl
  | err m => rfl
  | wait m => rfl
theorem isTr_iff {r : Re} : r.isTr = true ↔ r = .val (.s (.bool true)) := by
  constructor
  · intro h
    cases r with
    | val v =>
      cases v with
      | m ps => cases h
      | s x =>
        cases x with
        | bool b => cases b with
          | true => rfl
          | false => cases h
        | _ => cases h
    | err m => cases h
    | wait m => cases h
  · rintro rfl
    rfl
def selR (r x : Re) : Re := match r with
  | .val (.s (.bool true)) => x
  | r => r
theorem isTr_no {r x : Re} (h : r.isTr = false) : selR r x = r := by
  cases r with
  | val v =>
    cases v with
    | m ps => rfl
    | s y =>
      cases y with
      | bool b => cases b with
        | true => cases h
        | false => rfl
      | _ => rfl
  | err m => rfl
  | wait m => rfl
section
variable {P : Program} {w : World} {K : PySem.W.Frag} {mg : Str → Option Value} {base : Heap} {ts : List Addr} {m k : Nat}
theorem c_boolean_of (hk : 6 ≤ k) (D : DefAt K mg "_boolean_of" s_boolean_of ["expression", "around"]) (c_wrong_kind : Cal P w K mg base CX0 6 "wrong_kind" ["value", "kind"] (spWrongK K ts))
    (c_evaluate : Cal P w K mg base CX0 k "evaluate" ["expression", "scope", "provided", "resources"] (spEv K ts m)) : Cal P w K mg base CX0 (k + 1) "_boolean_of" ["expression", "around"] (spBof K ts m) := by
  refine D.cal (k := k) sc_boolean_of (fun vs H Q E h => ?_) fun f cdv A outer s H vs Q E hr h => ?_
  · obtain ⟨v, e, ar, sc, pr, re, σ, π, ρ, rfl, _⟩ := h
    rfl
  · obtain ⟨v, e, ar, sc, pr, re, σ, π, ρ, rfl, har, hv, hw, hd, hA, q⟩ := h
    refine ⟨_, (pss_cons (ps_set (i := 2) sc_boolean_of.nd rfl (Or.inl rfl) (pe_calS2 (c_evaluate.mono (by omega)) hr (by rfl) (pa_cons (pv 0) (StX.pa_star (pv 1) pa_nil))))
  (pss_cons (ps_if (pt_cmpR op_ne (pe_ix ix_tup (pv 2) pe_int (fun _ _ => rfl)) pe_str (nomark _)) (pss_one (ps_ret (pv 2))) pss_nil)
  (pss_cons (ps_set (i := 3) sc_boolean_of.nd rfl (Or.inl rfl) (pe_cal (c_wrong_kind.mono (by omega)) hr (by rfl) (pa_cons (pe_ix ix_tup (pv 2) pe_int (fun _ _ => rfl)) (pa_cons pe_str pa_nil))))
  (pss_one (ps_ret (pe_ifExp (pt_cmpR op_isN (pv 3) pe_non (nomark _)) (pv 2) (pe_tup (pa_cons pe_str (pa_cons (pv 3) pa_nil))))))))), ?_⟩
    refine ⟨_, rfl, _, rfl, ar, _, rfl, .inl har, v, e, sc, pr, re, σ, π, ρ, rfl, hv, hw, hd, hA, fun H1 u k1 r => ?_⟩
    have hg := ev_good hA.env hw
    generalize ev σ π ρ e = R at r q hg
    obtain ⟨p, y, rfl, hp, hy⟩ := at_res r
    refine ⟨_, rfl, p, _, 0, _, rfl, rfl, hp, atI_nat (j := 0) rfl, rfl, _, rfl, ?_⟩
    rw [res_val]
    cases R with
    | err mm => exact iteT ⟨_, rfl, q H1 _ k1 r⟩
    | wait mm => exact iteT ⟨_, rfl, q H1 _ k1 r⟩
    | val va =>
      refine iteF ⟨_, rfl, p, _, 1, _, rfl, rfl, hp, atI_nat (j := 1) rfl, y, va, .bool, rfl, hy va rfl, hg, fun T hm => k1.tab T (hA.t T hm), fun H2 k2 => ?_⟩
      have q : ∀ H' u, Kp H H' → DtR K H' u (if Kd.bool.has va = true then .val va else errS "not a boolean") → Q u H' := q
      cases e : Kd.bool.has va with
      | true =>
        rw [e, if_pos rfl] at q
        rw [if_pos rfl]
        exact ⟨_, rfl, rfl, _, rfl, iteP rfl ⟨_, rfl, q H2 _ (k1.trans k2) (r.kb k2 Lsts.nil)⟩⟩
      | false =>
        rw [e, if_neg Bool.false_ne_true] at q
        rw [if_neg Bool.false_ne_true]
        refine ⟨_, rfl, rfl, _, rfl, iteN (fun z => by cases z) ⟨_, rfl, by show 2 ≤ sizeLine; decide, fun p3 hp3 => ?_⟩⟩
        obtain ⟨k3, d3⟩ := mk_err (K := K) (m := Str.ofString "not a boolean") hp3
        exact q _ _ ((k1.trans k2).trans k3) d3
theorem c_both (hk : 7 ≤ k) (D : DefAt K mg "_both" s_both ["one", "other", "around"]) (c__boolean_of : Cal P w K mg base CX0 k "_boolean_of" ["expression", "around"] (spBof K ts m)) : Cal P w K mg base CX0 (k + 1) "_both" ["one", "other", "around"] (spBoth K ts m) := by
  refine D.cal (k := k) sc_both (fun vs H Q E h => ?_) fun f cdv A outer s H vs Q E hr h => ?_
  · obtain ⟨v1, v2, e1, e2, ar, sc, pr, re, σ, π, ρ, rfl, _⟩ := h
    rfl
  · obtain ⟨v1, v2, e1, e2, ar, sc, pr, re, σ, π, ρ, rfl, har, hv1, hv2, hw1, hw2, hd1, hd2, hA, q⟩ := h
    refine ⟨_, (pss_cons (ps_set (i := 3) sc_both.nd rfl (Or.inl rfl) (pe_cal (c__boolean_of.mono (by omega)) hr (by rfl) (pa_cons (pv 0) (pa_cons (pv 2) pa_nil))))
  (pss_cons (ps_if (pt_cmpR (op_neD hr.r.units) (pv 3) (pe_tup (pa_cons pe_str (pa_cons (pe_tup (pa_cons pe_str (pa_cons pe_bl pa_nil))) pa_nil))) (nomark _)) (pss_one (ps_ret (pv 3))) pss_nil)
  (pss_one (ps_ret (pe_cal (c__boolean_of.mono (by omega)) hr (by rfl) (pa_cons (pv 1) (pa_cons (pv 2) pa_nil))))))), ?_⟩
    refine ⟨_, rfl, _, rfl, v1, e1, ar, sc, pr, re, σ, π, ρ, rfl, har, hv1, hw1, hd1, hA, fun H1 u k1 r => ?_⟩
    have hg := boolR_good (ev_good hA.env hw1)
    have q : ∀ H' u, Kp H H' → DtR K H' u (selR (boolR (ev σ π ρ e1)) (boolR (ev σ π ρ e2))) → Q u H' := q
    generalize boolR (ev σ π ρ e1) = R at r q hg
    refine ⟨_, rfl, by show 2 ≤ sizeLine; decide, fun p2 hp2 => ⟨by show 2 ≤ sizeLine; decide, fun p3 hp3 => ?_⟩⟩
    obtain ⟨k2, d2⟩ := new_pair (K := K) hp2 (.str (Str.ofString "bool")) (.bl true)
    generalize upd H1 p2 (.tup [.str (Str.ofString "bool"), .bl true]) = H2 at k2 d2 hp3 ⊢
    obtain ⟨k3, d3⟩ := new_pair (K := K) hp3 (.str (Str.ofString "value")) d2
    generalize upd H2 p3 (.tup [.str (Str.ofString "value"), .ref p2]) = H3 at k3 d3 ⊢
    have k13 := (k1.trans k2).trans k3
    have r3 := (r.kb k2 Lsts.nil).kb k3 Lsts.nil
    refine ⟨R.d, trueR.d, r3.dt.dp, d3.dp, (re_okN hg).shaped, by decide +kernel, _, rfl, ?_⟩
    rw [eqv_trueR']
    have q2 : R.isTr = true → ∀ H' u, Kp H H' → DtR K H' u (boolR (ev σ π ρ e2)) → Q u H' := fun z => by
      rw [isTr_iff.mp z] at q
      exact q
    have q3 : R.isTr = false → ∀ H' u, Kp H H' → DtR K H' u R → Q u H' := fun z => by
      rw [isTr_no z] at q
      exact q
    clear q
    cases hz : R.isTr with
    | true => exact iteF ⟨_, rfl, _, rfl, v2, e2, ar, sc, pr, re, σ, π, ρ, rfl, k13.sqT Lsts.nil har, hv2.kb k13 Lsts.nil, hw2, hd2, hA.kp k13, fun H4 u4 k4 r4 => q2 hz H4 u4 (k13.trans k4) r4⟩
    | false => exact iteT ⟨_, rfl, q3 hz H3 _ k13 r3⟩
theorem c_chosen (hk : 7 ≤ k) (D : DefAt K mg "_chosen" s_chosen ["arguments", "around"]) (c__boolean_of : Cal P w K mg base CX0 k "_boolean_of" ["expression", "around"] (spBof K ts m)) (c_evaluate : Cal P w K mg base CX0 k "evaluate" ["expression", "scope", "provided", "resources"] (spEv K ts m)) :
    Cal P w K mg base CX0 (k + 1) "_chosen" ["arguments", "around"] (spChosen K ts m) := by
  refine D.cal (k := k) sc_chosen (fun vs H Q E h => ?_) fun f cdv A outer s H vs Q E hr h => ?_
  · obtain ⟨t, v1, v2, v3, e1, e2, e3, ar, sc, pr, re, σ, π, ρ, rfl, _⟩ := h
    rfl
  · obtain ⟨t, v1, v2, v3, e1, e2, e3, ar, sc, pr, re, σ, π, ρ, rfl, ht, har, hv1, hv2, hv3, hwd, hA, q⟩ := h
    have w1 := hwd e1 (by simp)
    have w2 := hwd e2 (by simp)
    have w3 := hwd e3 (by simp)
    refine ⟨_, (pss_cons (ps_set (i := 2) sc_chosen.nd rfl (Or.inl rfl) (pe_cal (c__boolean_of.mono (by omega)) hr (by rfl) (pa_cons (pe_ix ix_tup (pv 0) pe_int (fun _ _ => rfl)) (pa_cons (pv 1) pa_nil))))
  (pss_cons (ps_if (pt_cmpR op_ne (pe_ix ix_tup (pv 2) pe_int (fun _ _ => rfl)) pe_str (nomark _)) (pss_one (ps_ret (pv 2))) pss_nil)
  (pss_cons (ps_set (i := 3) sc_chosen.nd rfl (Or.inl rfl) (pe_ifExp (pt_cmpR (op_eqD hr.r.units) (pe_ix ix_tup (pv 2) pe_int (fun _ _ => rfl)) (pe_tup (pa_cons pe_str (pa_cons pe_bl pa_nil))) (nomark _)) (pe_ix ix_tup (pv 0) pe_int (fun _ _ => rfl)) (pe_ix ix_tup (pv 0) pe_int (fun _ _ => rfl))))
  (pss_one (ps_ret (pe_calS2 (c_evaluate.mono (by omega)) hr (by rfl) (pa_cons (pv 3) (StX.pa_star (pv 1) pa_nil)))))))), ?_⟩
    refine ⟨_, rfl, t, _, 0, _, rfl, rfl, ht, atI_nat (j := 0) rfl, _, rfl, v1, e1, ar, sc, pr, re, σ, π, ρ, rfl, har, hv1, w1.1, w1.2, hA, fun H1 u k1 r => ?_⟩
    have hg := boolR_good (ev_good hA.env w1.1)
    have hb : ∀ v, boolR (ev σ π ρ e1) = .val v → ∃ b, v = .s (.bool b) := fun v => boolR_val
    have q : ∀ H' u, Kp H H' → DtR K H' u (match boolR (ev σ π ρ e1) with | .val (.s (.bool true)) => ev σ π ρ e2 | .val _ => ev σ π ρ e3 | r => r) → Q u H' := q
    generalize boolR (ev σ π ρ e1) = R at r q hg hb
    obtain ⟨p, y, rfl, hp, hy⟩ := at_res r
    refine ⟨_, rfl, p, _, 0, _, rfl, rfl, hp, atI_nat (j := 0) rfl, rfl, _, rfl, ?_⟩
    rw [res_val]
    cases R with
    | err mm => exact iteT ⟨_, rfl, q H1 _ k1 r⟩
    | wait mm => exact iteT ⟨_, rfl, q H1 _ k1 r⟩
    | val va =>
      obtain ⟨b, rfl⟩ := hb _ rfl
      have dy := (hy _ rfl).dt
      refine iteF ⟨_, rfl, p, _, 1, _, rfl, rfl, hp, atI_nat (j := 1) rfl, by show 2 ≤ sizeLine; decide, fun p2 hp2 => ?_⟩
      obtain ⟨k2, d2⟩ := new_pair (K := K) hp2 (.str (Str.ofString "bool")) (.bl true)
      generalize upd H1 p2 (.tup [.str (Str.ofString "bool"), .bl true]) = H2 at k2 d2 ⊢
      have k12 := k1.trans k2
      have hA2 := hA.kp k12
      have ht2 := k12.sqT Lsts.nil ht
      have har2 := k12.sqT Lsts.nil har
      refine ⟨_, _, (dy.kb k2 Lsts.nil).dp, d2.dp, (va_okd (v := .s (.bool b)) trivial).shaped, by decide +kernel, _, rfl, ?_⟩
      rw [eqv_tr]
      cases b with
      | true => exact iteT ⟨_, rfl, t, _, 1, _, rfl, rfl, ht2, atI_nat (j := 1) rfl, _, rfl, _, rfl, ar, _, rfl, .inl har2, v2, e2, sc, pr, re, σ, π, ρ, rfl, hv2.kb k12 Lsts.nil, w2.1, w2.2, hA2, fun H4 u4 k4 r4 => q H4 u4 (k12.trans k4) r4⟩
      | false => exact iteF ⟨_, rfl, t, _, 2, _, rfl, rfl, ht2, atI_nat (j := 2) rfl, _, rfl, _, rfl, ar, _, rfl, .inl har2, v3, e3, sc, pr, re, σ, π, ρ, rfl, hv3.kb k12 Lsts.nil, w3.1, w3.2, hA2, fun H4 u4 k4 r4 => q H4 u4 (k12.trans k4) r4⟩
theorem c_injected (hk : 7 ≤ k) (D : DefAt K mg "_injected" s_injected ["name", "otherwise", "around"]) (c_evaluate : Cal P w K mg base CX0 k "evaluate" ["expression", "scope", "provided", "resources"] (spEv K ts m)) : Cal P w K mg base CX0 (k + 1) "_injected" ["name", "otherwise", "around"] (spInjd K ts m) := by
  refine D.cal (k := k) sc_injected (fun vs H Q E h => ?_) fun f cdv A outer s H vs Q E hr h => ?_
  · obtain ⟨l, v, e, ar, sc, pr, re, σ, π, ρ, rfl, _⟩ := h
    rfl
  · obtain ⟨l, v, e, ar, sc, pr, re, σ, π, ρ, rfl, har, hv, hw, hd, hA, q⟩ := h
    refine ⟨_, (pss_cons (ps_asg (pv 2) (pg_tup rfl (pgs_cons (pg_name (i := 3) sc_injected.nd rfl (Or.inl rfl)) (pgs_cons (pg_name (i := 4) sc_injected.nd rfl (Or.inl rfl)) (pgs_cons (pg_name (i := 3) sc_injected.nd rfl (Or.inl rfl)) pgs_nil)))))
  (pss_cons (ps_for PassesOwn.never rfl (pi_tup (pv 4)) (pg_tup rfl (pgs_cons (pg_name (i := 5) sc_injected.nd rfl (Or.inl rfl)) (pgs_cons (pg_name (i := 6) sc_injected.nd rfl (Or.inl rfl)) pgs_nil))) (pss_one (ps_if (pt_cmpR op_eq (pv 5) (pv 0) (nomark _)) (pss_one (ps_ret (pe_tup (pa_cons pe_str (pa_cons (pv 6) pa_nil))))) pss_nil)))
  (pss_one (ps_ret (pe_calS2 (c_evaluate.mono (by omega)) hr (by rfl) (pa_cons (pv 1) (StX.pa_star (pv 2) pa_nil))))))), ?_⟩
    obtain ⟨xs, hpr, hps⟩ := hA.p
    have hlen := hps.length
    refine ⟨_, rfl, ar, _, rfl, har, rfl, _, _, rfl, _, _, rfl, _, _, rfl, rfl, ?_⟩
    refine ⟨_, rfl, pr, rfl, ⟨xs, hpr⟩, ?_⟩
    refine for_it walk_tup (fun i σ' H' => H' = H ∧ (∃ o5 o6, σ' = [some (.str (sx l)), some v, some (.ref ar), some (.ref re), some (.ref pr), o5, o6]) ∧ ∀ p ∈ π.take i, p.1 ≠ sx l) ⟨rfl, ⟨none, none, rfl⟩, fun p hp => by simp at hp⟩ (fun i σ' H' _ ⟨e, _⟩ => by rw [e]; exact hpr) ?_ ?_
    · rintro i x σ' _ H1 hi ⟨rfl, ⟨o5, o6, rfl⟩, hno⟩ ⟨rfl, hx⟩
      obtain ⟨t, k', u, va, rfl, hπ, ht, hu⟩ := hps.get hx
      refine ⟨t, _, rfl, ht, rfl, _, _, rfl, _, _, rfl, rfl, _, rfl, _, rfl, rfl, _, rfl, ?_⟩
      have hmem : (k', va) ∈ π := List.mem_of_getElem? hπ
      by_cases e : k' = sx l
      · refine iteP (by rw [e]) ⟨_, rfl, by show 2 ≤ sizeLine; decide, fun p hp => ?_⟩
        obtain ⟨k1, d1⟩ := mk_val (K := K) hp hu
        refine q _ _ k1 ?_
        have : lookP π (sx l) = some va := by
          unfold lookP
          have hi2 : i < π.length := (List.getElem?_eq_some_iff.mp hπ).1
          have hsplit : π = π.take i ++ π.drop i := (List.take_append_drop i π).symm
          have hdrop : π.drop i = (k', va) :: π.drop (i + 1) := by
            rw [List.drop_eq_getElem_cons hi2]
            congr 1
            exact (List.getElem?_eq_some_iff.mp hπ).2
          rw [hsplit, List.find?_append, List.find?_eq_none.mpr (fun p hp => by simpa using hno p hp), Option.none_or, hdrop, List.find?_cons_of_pos (by simpa using e)]
          rfl
        unfold injR
        rw [this]
        exact d1
      · refine iteN (fun z => e (V.str.inj z)) ⟨rfl, ⟨_, _, rfl⟩, fun p hp => ?_⟩
        rw [List.take_add_one, hπ] at hp
        rcases List.mem_append.mp hp with h | h
        · exact hno p h
        · rw [List.mem_singleton.mp (show p ∈ [(k', va)] from h)]
          exact e
    · rintro σ' H1 ⟨rfl, ⟨o5, o6, rfl⟩, hno⟩
      rw [hlen, List.take_length] at hno
      refine ⟨_, rfl, _, rfl, ar, _, rfl, .inl har, v, e, sc, pr, re, σ, π, ρ, rfl, hv, hw, hd, hA, fun H' u k r => q H' u k ?_⟩
      unfold injR lookP
      rw [List.find?_eq_none.mpr (fun p hp => by simpa using hno p hp)]
      exact r
end
end Rw

namespace Rw
open PySem PySem.Spec PyProof.Rows L2 GxR Gx Gd Rx Rs
theorem sx_eq {f : List Nat} {s : String} : V.str (sx f) = V.str (Str.ofString s) ↔ f = cs s := by
  have := dec_sx f s
  rw [Bool.eq_iff_iff, decide_eq_true_eq, decide_eq_true_eq] at this
  exact this
theorem wfEs_at {es : List Ex} (h : WfEs es) {i : Nat} {e : Ex} (he : es[i]? = some e) : WfE e := wfEs_iff.mp h e (List.mem_of_getElem? he)
theorem deep_at {es : List Ex} {m : Nat} (h : Ex.deepAll es ≤ m) {i : Nat} {e : Ex} (he : es[i]? = some e) : e.deep ≤ m := (deepAll_le _ _).mp h e (List.mem_of_getElem? he)
theorem DtEs.two {K : PySem.W.Frag} {H : Hp} : ∀ {xs : List V} {es : List Ex}, DtEs K H xs es → es.length = 2 → ∃ v1 v2 e1 e2, xs = [v1, v2] ∧ es = [e1, e2] ∧ DtE K H v1 e1 ∧ DtE K H v2 e2
  | _, _, .cons d1 .nil, h => by cases h
  | _, _, .cons d1 (.cons d2 .nil), _ => ⟨_, _, _, _, rfl, rfl, d1, d2⟩
  | _, _, .cons d1 (.cons d2 (.cons d3 hs)), h => by simp at h
theorem DtEs.three {K : PySem.W.Frag} {H : Hp} : ∀ {xs : List V} {es : List Ex}, DtEs K H xs es → es.length = 3 → ∃ v1 v2 v3 e1 e2 e3, xs = [v1, v2, v3] ∧ es = [e1, e2, e3] ∧ DtE K H v1 e1 ∧ DtE K H v2 e2 ∧ DtE K H v3 e3
  | _, _, .cons d1 .nil, h => by cases h
  | _, _, .cons d1 (.cons d2 .nil), h => by simp at h
  | _, _, .cons d1 (.cons d2 (.cons d3 .nil)), _ => ⟨_, _, _, _, _, _, rfl, rfl, d1, d2, d3⟩
  | _, _, .cons d1 (.cons d2 (.cons d3 (.cons d4 hs))), h => by simp at h
theorem arity_all : funs.all (fun f => decide (arity f ≤ 3)) = true := by decide +kernel
theorem arity_le {f : List Nat} (h : f ∈ funs) : arity f ≤ 3 := of_decide_eq_true (List.all_eq_true.mp arity_all f h)
def prevC (K : PySem.W.Frag) (ts : List Addr) : Nat → Sp
  | 0 => fun _ _ _ _ => False
  | m + 1 => spCalled K ts m
def prevI (K : PySem.W.Frag) (ts : List Addr) : Nat → Sp
  | 0 => fun _ _ _ _ => False
  | m + 1 => spInjd K ts m
section
variable {P : Program} {w : World} {K : PySem.W.Frag} {mg : Str → Option Value} {base : Heap} {ts : List Addr} {m k : Nat}
theorem c_evaluate (hk : 1 ≤ k) (D : DefAt K mg "evaluate" s_evaluate ["expression", "scope", "provided", "resources"]) (c__value_in : Cal P w K mg base CX0 1 "_value_in" ["scope", "name"] (spScope K))
    (c__injected : Cal P w K mg base CX0 k "_injected" ["name", "otherwise", "around"] (prevI K ts m)) (c__called : Cal P w K mg base CX0 k "_called" ["function", "arguments", "around"] (prevC K ts m)) : Cal P w K mg base CX0 (k + 1) "evaluate" ["expression", "scope", "provided", "resources"] (spEv K ts m) := by
  refine D.cal (k := k) sc_evaluate (fun vs H Q E h => ?_) fun f cdv A outer s H vs Q E hr h => ?_
  · obtain ⟨v, e, sc, pr, re, σ, π, ρ, rfl, _⟩ := h
    rfl
  · obtain ⟨v, e, sc, pr, re, σ, π, ρ, rfl, hv, hw, hd, hA, q⟩ := h
    refine ⟨_, (pss_cons (ps_set (i := 4) sc_evaluate.nd rfl (Or.inl rfl) (pe_tup (pa_cons (pv 1) (pa_cons (pv 2) (pa_cons (pv 3) pa_nil)))))
  (pss_cons (ps_set (i := 5) sc_evaluate.nd rfl (Or.inl rfl) (pe_ix ix_tup (pv 0) pe_int (fun _ _ => rfl)))
  (pss_cons (ps_if (pt_cmpR op_eq (pv 5) pe_str (nomark _)) (pss_one (ps_ret (pe_tup (pa_cons pe_str (pa_cons (pe_ix ix_tup (pv 0) pe_int (fun _ _ => rfl)) pa_nil))))) pss_nil)
  (pss_cons (ps_if (pt_cmpR op_eq (pv 5) pe_str (nomark _)) (pss_one (ps_ret (pe_cal (c__value_in.mono (by omega)) hr (by rfl) (pa_cons (pv 1) (pa_cons (pe_ix ix_tup (pv 0) pe_int (fun _ _ => rfl)) pa_nil))))) pss_nil)
  (pss_cons (ps_if (pt_cmpR op_eq (pv 5) pe_str (nomark _)) (pss_one (ps_ret (pe_cal (c__injected.mono (by omega)) hr (by rfl) (pa_cons (pe_ix ix_tup (pv 0) pe_int (fun _ _ => rfl)) (pa_cons (pe_ix ix_tup (pv 0) pe_int (fun _ _ => rfl)) (pa_cons (pv 4) pa_nil)))))) pss_nil)
  (pss_one (ps_ret (pe_cal (c__called.mono (by omega)) hr (by rfl) (pa_cons (pe_ix ix_tup (pv 0) pe_int (fun _ _ => rfl)) (pa_cons (pe_ix ix_tup (pv 0) pe_int (fun _ _ => rfl)) (pa_cons (pv 4) pa_nil))))))))))), ?_⟩
    refine ⟨_, rfl, _, rfl, _, rfl, by show 3 ≤ sizeLine; decide, fun p0 hp0 => ?_⟩
    have k1 : Kp H (upd H p0 (.tup [.ref sc, .ref pr, .ref re])) := Kb.new hp0
    have har : SqT K (upd H p0 (.tup [.ref sc, .ref pr, .ref re])) p0 [.ref sc, .ref pr, .ref re] := SqT.of upd_same
    generalize upd H p0 (.tup [.ref sc, .ref pr, .ref re]) = H1 at k1 har ⊢
    have hv1 := hv.kb k1 Lsts.nil
    have hA1 := hA.kp k1
    cases hv1 with
    | lit h hx =>
      refine ⟨_, rfl, _, _, 0, _, rfl, rfl, h, atI_nat (j := 0) rfl, ?_⟩
      refine ⟨_, rfl, rfl, _, rfl, iteP rfl ⟨_, rfl, _, _, 1, _, rfl, rfl, h, atI_nat (j := 1) rfl, by show 2 ≤ sizeLine; decide, fun p hp => ?_⟩⟩
      obtain ⟨k2, d2⟩ := mk_val (K := K) hp hx
      refine q _ _ (k1.trans k2) ?_
      show DtR K _ _ (.val (Va.of _))
      rw [Va.of_d]
      exact d2
    | var h =>
      refine ⟨_, rfl, _, _, 0, _, rfl, rfl, h, atI_nat (j := 0) rfl, ?_⟩
      refine ⟨_, rfl, rfl, _, rfl, iteN (by decide +kernel) ⟨_, rfl, rfl, _, rfl, iteP rfl ⟨_, rfl, _, rfl, _, _, 1, _, rfl, rfl, h, atI_nat (j := 1) rfl, sc, _, σ, rfl, hA1.s, fun H2 u k2 r => q H2 u (k1.trans k2) r⟩⟩⟩
    | inj h hx =>
      refine ⟨_, rfl, _, _, 0, _, rfl, rfl, h, atI_nat (j := 0) rfl, ?_⟩
      obtain ⟨m', rfl⟩ : ∃ m', m = m' + 1 := ⟨m - 1, by have : 1 + Ex.deep _ ≤ m := hd; omega⟩
      refine ⟨_, rfl, rfl, _, rfl, iteN (by decide +kernel) ⟨_, rfl, rfl, _, rfl, iteN (by decide +kernel) ⟨_, rfl, rfl, _, rfl, iteP rfl ⟨_, rfl, _, _, 1, _, rfl, rfl, h, atI_nat (j := 1) rfl, _, rfl, _, _, 2, _, rfl, rfl, h, atI_nat (j := 2) rfl, _, rfl, _, _, _, p0, sc, pr, re, σ, π, ρ, rfl, har, hx, hw, by have : 1 + Ex.deep _ ≤ m' + 1 := hd; omega, hA1, fun H2 u k2 r => q H2 u (k1.trans k2) r⟩⟩⟩⟩
    | call h ht hs =>
      refine ⟨_, rfl, _, _, 0, _, rfl, rfl, h, atI_nat (j := 0) rfl, ?_⟩
      obtain ⟨m', rfl⟩ : ∃ m', m = m' + 1 := ⟨m - 1, by have : 1 + Ex.deepAll _ + (_ - 3) ≤ m := hd; omega⟩
      refine ⟨_, rfl, rfl, _, rfl, iteN (by decide +kernel) ⟨_, rfl, rfl, _, rfl, iteN (by decide +kernel) ⟨_, rfl, rfl, _, rfl, iteN (by decide +kernel) ⟨_, rfl, _, _, 1, _, rfl, rfl, h, atI_nat (j := 1) rfl, _, rfl, _, _, 2, _, rfl, rfl, h, atI_nat (j := 2) rfl, _, rfl, _, _, _, _, p0, sc, pr, re, σ, π, ρ, rfl, hw.1, hw.2.1, ht, hs, hw.2.2, by have : 1 + Ex.deepAll _ + (_ - 3) ≤ m' + 1 := hd; omega, har, hA1, fun H2 u k2 r => q H2 u (k1.trans k2) r⟩⟩⟩⟩
theorem c_called (hk : 8 ≤ k) (D : DefAt K mg "_called" s_called ["function", "arguments", "around"]) (c__both : Cal P w K mg base CX0 k "_both" ["one", "other", "around"] (spBoth K ts m)) (c__chosen : Cal P w K mg base CX0 k "_chosen" ["arguments", "around"] (spChosen K ts m))
    (c_evaluate : Cal P w K mg base CX0 k "evaluate" ["expression", "scope", "provided", "resources"] (spEv K ts m)) (c__resource : Cal P w K mg base CX0 1 "_resource" ["name", "resources"] (spRes K)) (c__applied : Cal P w K mg base CX0 7 "_applied" ["function", "values"] (spApplied K ts)) :
    Cal P w K mg base CX0 (k + 1) "_called" ["function", "arguments", "around"] (spCalled K ts m) := by
  refine D.cal (k := k) sc_called (fun vs H Q E h => ?_) fun f cdv A outer s H vs Q E hr h => ?_
  · obtain ⟨f, t, xs, es, ar, sc, pr, re, σ, π, ρ, rfl, _⟩ := h
    rfl
  · obtain ⟨fn, t, xs, es, ar, sc, pr, re, σ, π, ρ, rfl, hf, hl, ht, hs, hw, hd, har, hA, q⟩ := h
    refine ⟨_, (pss_cons (ps_if (pt_cmpR op_eq (pv 0) pe_str (nomark _)) (pss_one (ps_ret (pe_cal (c__both.mono (by omega)) hr (by rfl) (pa_cons (pe_ix ix_tup (pv 1) pe_int (fun _ _ => rfl)) (pa_cons (pe_ix ix_tup (pv 1) pe_int (fun _ _ => rfl)) (pa_cons (pv 2) pa_nil)))))) pss_nil)
  (pss_cons (ps_if (pt_cmpR op_eq (pv 0) pe_str (nomark _)) (pss_one (ps_ret (pe_cal (c__chosen.mono (by omega)) hr (by rfl) (pa_cons (pv 1) (pa_cons (pv 2) pa_nil))))) pss_nil)
  (pss_cons (ps_set (i := 3) sc_called.nd rfl (Or.inl rfl) (pe_lst pa_nil))
  (pss_cons (ps_for PassesOwn.never rfl (pi_tup (pv 1)) (pg_name (i := 4) sc_called.nd rfl (Or.inl rfl)) (pss_cons (ps_set (i := 5) sc_called.nd rfl (Or.inl rfl) (pe_calS2 (c_evaluate.mono (by omega)) hr (by rfl) (pa_cons (pv 4) (StX.pa_star (pv 2) pa_nil))))
  (pss_cons (ps_if (pt_cmpR op_ne (pe_ix ix_tup (pv 5) pe_int (fun _ _ => rfl)) pe_str (nomark _)) (pss_one (ps_ret (pv 5))) pss_nil)
  (pss_one (ps_expr (pe_bm PySem.F.plainAttrs_list PySem.F.slot_list_append PySem.F.type_list_append mt_append (pv 3) (pa_cons (pe_ix ix_tup (pv 5) pe_int (fun _ _ => rfl)) pa_nil)))))))
  (pss_cons (ps_if (pt_cmpR op_eq (pv 0) pe_str (nomark _)) (pss_one (ps_ret (pe_cal (c__resource.mono (by omega)) hr (by rfl) (pa_cons (pe_ix ix_list (pv 3) pe_int (fun _ _ => rfl)) (pa_cons (pe_ix ix_tup (pv 2) pe_int (fun _ _ => rfl)) pa_nil))))) pss_nil)
  (pss_one (ps_ret (pe_cal (c__applied.mono (by omega)) hr (by rfl) (pa_cons (pv 0) (pa_cons (pv 3) pa_nil)))))))))), ?_⟩
    have hlx : xs.length = es.length := hs.length
    refine ⟨_, rfl, rfl, _, rfl, ?_⟩
    by_cases h1 : fn = cs "and"
    · refine iteP (sx_eq.mpr h1) ?_
      subst h1
      have hl2 : es.length = 2 := hl.trans (by decide +kernel)
      obtain ⟨v1, v2, e1, e2, rfl, rfl, d1, d2⟩ := hs.two hl2
      obtain ⟨w1, w2, _⟩ := hw
      have hd1 := deep_at (i := 0) hd rfl
      have hd2 := deep_at (i := 1) hd rfl
      exact ⟨_, rfl, t, _, 0, _, rfl, rfl, ht, atI_nat (j := 0) rfl, _, rfl, t, _, 1, _, rfl, rfl, ht, atI_nat (j := 1) rfl, _, rfl, v1, v2, e1, e2, ar, sc, pr, re, σ, π, ρ, rfl, har, d1, d2, w1, w2, hd1, hd2, hA, fun H2 u k2 r => q H2 u k2 (by unfold apR; rw [if_pos rfl]; exact r)⟩
    refine iteN (fun z => h1 (sx_eq.mp z)) ⟨_, rfl, rfl, _, rfl, ?_⟩
    by_cases h2 : fn = cs "cond"
    · refine iteP (sx_eq.mpr h2) ?_
      subst h2
      have hl2 : es.length = 3 := hl.trans (by decide +kernel)
      obtain ⟨v1, v2, v3, e1, e2, e3, rfl, rfl, d1, d2, d3⟩ := hs.three hl2
      obtain ⟨w1, w2, w3, _⟩ := hw
      have hd1 := deep_at (i := 0) hd rfl
      have hd2 := deep_at (i := 1) hd rfl
      have hd3 := deep_at (i := 2) hd rfl
      exact ⟨_, rfl, _, rfl, t, v1, v2, v3, e1, e2, e3, ar, sc, pr, re, σ, π, ρ, rfl, ht, har, d1, d2, d3, (fun e he => by
        simp only [List.mem_cons, List.not_mem_nil, or_false] at he
        rcases he with rfl | rfl | rfl
        · exact ⟨w1, hd1⟩
        · exact ⟨w2, hd2⟩
        · exact ⟨w3, hd3⟩), hA, fun H2 u k2 r => q H2 u k2 (by unfold apR; rw [if_neg h1, if_pos rfl]; exact r)⟩
    refine iteN (fun z => h2 (sx_eq.mp z)) ⟨by show 0 ≤ sizeLine; decide, fun D hD => ?_⟩
    have qa : ∀ H' u, Kp H H' → DtR K H' u (match seqR (es.map (ev σ π ρ)) with | .inl r => r | .inr vs => if fn = cs "resource" then (match vs with | [v] => resR ρ v | _ => errS "") else fnR fn vs) → Q u H' := fun H' u kk r => q H' u kk (by unfold apR; rw [if_neg h1, if_neg h2, evs_map]; exact r)
    clear q
    refine ⟨_, rfl, t, rfl, ⟨xs, (Kb.new (S := []) hD).sqT Lsts.nil ht⟩, ?_⟩
    refine for_it walk_tup (fun i σ' H' => Kp H H' ∧ (∃ o4 o5, σ' = [some (.str (sx fn)), some (.ref t), some (.ref ar), some (.ref D), o4, o5]) ∧ ∃ (acc : List V) (as : List Va), as.length = i ∧ H' D = some (.lst acc) ∧ DtVs K H' acc as ∧ (∀ a ∈ as, a.good) ∧ (es.map (ev σ π ρ)).take i = as.map Re.val)
      ⟨Kb.new hD, ⟨none, none, rfl⟩, [], [], rfl, upd_same, .nil, fun a h => by simp at h, rfl⟩ (fun i σ' H' _ ⟨k, _⟩ => k.sqT Lsts.nil ht) ?_ ?_
    · rintro i x σ' _ H1 hi ⟨k1, ⟨o4, o5, rfl⟩, acc, as, hla, eD, da, ga, hta⟩ ⟨rfl, hx⟩
      obtain ⟨e, he, de⟩ := hs.get hx
      have we := wfEs_at hw he
      refine ⟨_, rfl, _, rfl, ar, _, rfl, .inl (k1.sqT Lsts.nil har), x, e, sc, pr, re, σ, π, ρ, rfl, de.kb k1 Lsts.nil, we, deep_at hd he, hA.kp k1, fun H2 u k2 r => ?_⟩
      have hg := ev_good hA.env we
      have hat : (es.map (ev σ π ρ))[i]? = some (ev σ π ρ e) := by rw [List.getElem?_map, he]; rfl
      generalize ev σ π ρ e = R at r hg hat
      obtain ⟨p, y, rfl, hp, hy⟩ := at_res r
      have hno : (∀ v, R ≠ .val v) → seqR (es.map (ev σ π ρ)) = .inl R := fun z => seqR_at (as := as) (by rw [hla]; exact hta) (by rw [hla]; exact hat) z
      refine ⟨_, rfl, p, _, 0, _, rfl, rfl, hp, atI_nat (j := 0) rfl, rfl, _, rfl, ?_⟩
      rw [res_val]
      cases R with
      | err mm =>
        refine iteT ⟨_, rfl, qa H2 _ (k1.trans k2) ?_⟩
        rw [hno (fun _ z => by cases z)]
        exact r
      | wait mm =>
        refine iteT ⟨_, rfl, qa H2 _ (k1.trans k2) ?_⟩
        rw [hno (fun _ z => by cases z)]
        exact r
      | val va =>
        have eD2 := k2.keep D _ eD (by simp) nt_lst
        have dv := hy _ rfl
        have la : acc.length = as.length := da.length
        have sz : sizeLine = 16777216 := rfl
        have h3 : es.length ≤ 3 := by rw [hl]; exact arity_le hf
        refine iteF ⟨_, rfl, .inl ⟨rfl, _, .inl (.inl eD2)⟩, _, rfl, p, _, 1, _, rfl, rfl, hp, atI_nat (j := 1) rfl, D, acc, y, rfl, rfl, eD2, by omega, ?_⟩
        have k3 : Kb [D] H2 (upd H2 D (.lst (acc ++ [y]))) := Kb.put (by simp) eD2 nt_lst
        have hS : Lsts [D] H2 := fun b hb => by rw [List.mem_singleton.mp hb]; exact ⟨_, eD2⟩
        refine ⟨(k1.trans k2).mut hD (no_tab eD2 nt_lst), ⟨_, _, rfl⟩, acc ++ [y], as ++ [va], by simp [hla], upd_same, ((da.kb k2 Lsts.nil).snoc dv).kb k3 hS, fun a ha => ?_, ?_⟩
        · rcases List.mem_append.mp ha with h | h
          · exact ga a h
          · rw [List.mem_singleton.mp h]; exact hg
        · rw [List.take_add_one, hta, hat, List.map_append]
          rfl
    · rintro σ' H1 ⟨k1, ⟨o4, o5, rfl⟩, acc, as, hla, eD, da, ga, hta⟩
      rw [hlx, ← List.length_map (ev σ π ρ), List.take_length] at hta
      have hs : seqR (es.map (ev σ π ρ)) = .inr as := by rw [hta]; exact seqR_val
      rw [hs] at qa
      have la : as.length = es.length := by rw [← List.length_map (f := Re.val), ← hta, List.length_map]
      refine ⟨_, rfl, rfl, _, rfl, ?_⟩
      by_cases h3 : fn = cs "resource"
      · refine iteP (sx_eq.mpr h3) ?_
        subst h3
        have hl1 : as.length = 1 := la.trans (hl.trans (by decide +kernel))
        obtain ⟨va, rfl⟩ := one_l hl1
        cases da with
        | cons d1 d2 =>
          cases d2
          exact ⟨_, rfl, D, _, 0, _, rfl, rfl, .inl (.inl eD), atI_nat (j := 0) rfl, _, rfl, ar, _, 2, _, rfl, rfl, k1.sqT Lsts.nil har, atI_nat (j := 2) rfl, _, va, re, ρ, rfl, d1, ga va (by simp), hA.r.kp k1, fun H2 u k2 r => qa H2 u (k1.trans k2) (by show DtR _ _ _ (if _ then _ else _ : Re); rw [if_pos rfl]; exact r)⟩
      · refine iteN (fun z => h3 (sx_eq.mp z)) ?_
        have he := eager_of hf h1 h2 h3
        exact ⟨_, rfl, _, rfl, fn, D, acc, as, rfl, he, eD, da, ga, by rw [la, hl, kinds_len he], fun T hm => k1.tab T (hA.t T hm), fun H2 u k2 r => qa H2 u (k1.trans k2) (by show DtR _ _ _ (if _ then _ else _ : Re); rw [if_neg h3]; exact r)⟩
end
end Rw

/-! Waiting, pure: resources that come. -/
namespace Rw
open PySem PySem.Spec PyProof.Rows L2 GxR Gx Gd Rx Rs
def NoW (r : Re) : Prop := ∀ n, r ≠ .wait n
theorem noW_val {v : Va} : NoW (.val v) := fun n z => by cases z
theorem noW_err {m : Str} : NoW (.err m) := fun n z => by cases z
theorem noW_errS {m : String} : NoW (errS m) := noW_err
theorem noW_bool {b : Bool} : NoW (vBool b) := noW_val
theorem noW_int {b : Int} : NoW (vInt b) := noW_val
theorem noW_ite {c : Prop} [Decidable c] {a b : Re} (ha : NoW a) (hb : NoW b) : NoW (if c then a else b) := by
  split
  · exact ha
  · exact hb
theorem noW_not (vs : List Va) : NoW (opNot vs) := by
  unfold opNot; split <;> first | exact noW_bool | exact noW_errS
theorem noW_size (vs : List Va) : NoW (opSize vs) := by
  unfold opSize; split <;> first | exact noW_int | exact noW_errS
theorem noW_rev (vs : List Va) : NoW (opRev vs) := by
  unfold opRev; split <;> first | exact noW_val | exact noW_errS
theorem noW_add (vs : List Va) : NoW (opAdd vs) := by
  unfold opAdd; split <;> first | exact noW_ite noW_errS noW_int | exact noW_errS
theorem noW_sub (vs : List Va) : NoW (opSub vs) := by
  unfold opSub; split <;> first | exact noW_ite noW_errS noW_int | exact noW_errS
theorem noW_lt (vs : List Va) : NoW (opLt vs) := by
  unfold opLt; split <;> first | exact noW_bool | exact noW_errS
theorem noW_eq (vs : List Va) : NoW (opEq vs) := by
  unfold opEq; split <;> first | exact noW_bool | exact noW_errS
theorem noW_cat (vs : List Va) : NoW (opCat vs) := by
  unfold opCat; split <;> first | exact noW_ite noW_errS noW_val | exact noW_errS
theorem noW_has (vs : List Va) : NoW (opHas vs) := by
  unfold opHas; split <;> first | exact noW_bool | exact noW_errS
theorem noW_get (vs : List Va) : NoW (opGet vs) := by
  unfold opGet; split
  · split <;> first | exact noW_val | exact noW_errS
  · exact noW_errS
theorem noW_rem (vs : List Va) : NoW (opRem vs) := by
  unfold opRem; split <;> first | exact noW_val | exact noW_errS
theorem noW_take (vs : List Va) : NoW (opTake vs) := by
  unfold opTake; split <;> first | exact noW_val | exact noW_errS
theorem noW_put (vs : List Va) : NoW (opPut vs) := by
  unfold opPut; split <;> first | exact noW_ite noW_errS noW_val | exact noW_errS
theorem noW_oper (f : List Nat) (vs : List Va) : NoW (oper f vs) := by
  unfold oper
  exact noW_ite (noW_not _) (noW_ite (noW_size _) (noW_ite (noW_rev _) (noW_ite (noW_add _) (noW_ite (noW_sub _) (noW_ite (noW_lt _) (noW_ite (noW_eq _) (noW_ite (noW_cat _) (noW_ite (noW_has _) (noW_ite (noW_get _) (noW_ite (noW_rem _) (noW_ite (noW_take _) (noW_put _))))))))))))
theorem noW_fn (f : List Nat) (vs : List Va) : NoW (fnR f vs) := by
  unfold fnR
  split
  · exact noW_errS
  · exact noW_oper _ _
/-- the same, or the first waits -/
def Le (r r' : Re) : Prop := r = r' ∨ ∃ n, r = .wait n
theorem boolR_le {r r' : Re} (h : Le r r') : Le (boolR r) (boolR r') := by
  rcases h with rfl | ⟨n, rfl⟩
  · exact .inl rfl
  · exact .inr ⟨n, rfl⟩
theorem andR_le {a b a' b' : Re} (ha : Le a a') (hb : Le b b') : Le (andR a b) (andR a' b') := by
  have h := boolR_le ha
  unfold andR
  rcases h with h | ⟨n, h⟩
  · rw [h]
    split
    · exact boolR_le hb
    · exact .inl rfl
  · rw [h]
    exact .inr ⟨n, rfl⟩
theorem condR_le {c a b c' a' b' : Re} (hc : Le c c') (ha : Le a a') (hb : Le b b') : Le (condR c a b) (condR c' a' b') := by
  have h := boolR_le hc
  unfold condR
  rcases h with h | ⟨n, h⟩
  · rw [h]
    split
    · exact ha
    · exact hb
    · exact .inl rfl
  · rw [h]
    exact .inr ⟨n, rfl⟩
def Sub (ρ ρ' : Str → Option Va) : Prop := ∀ x v, ρ x = some v → ρ' x = some v
theorem resR_le {ρ ρ' : Str → Option Va} (h : Sub ρ ρ') (v : Va) : Le (resR ρ v) (resR ρ' v) := by
  cases v with
  | m ps => exact .inl rfl
  | s x =>
    cases x with
    | text x =>
      show Le (if x.length = 0 then _ else _) (if x.length = 0 then _ else _)
      by_cases h0 : x.length = 0
      · rw [if_pos h0, if_pos h0]; exact .inl rfl
      · rw [if_neg h0, if_neg h0]
        cases e : ρ x with
        | none => exact .inr ⟨x, rfl⟩
        | some v => rw [h x v e]; exact .inl rfl
    | _ => exact .inl rfl
theorem seqR_le {α : Type} {F G : α → Re} : ∀ {l : List α}, (∀ a ∈ l, Le (F a) (G a)) → (∃ n, seqR (l.map F) = .inl (.wait n)) ∨ seqR (l.map G) = seqR (l.map F)
  | [], _ => .inr rfl
  | a :: l, h => by
    have ih := seqR_le (l := l) fun x hx => h x (List.mem_cons_of_mem _ hx)
    have ha := h a List.mem_cons_self
    rw [List.map_cons, List.map_cons]
    generalize F a = A at ha
    generalize G a = B at ha
    rcases ha with rfl | ⟨n, rfl⟩
    · cases A with
      | val v =>
        rcases ih with ⟨n, e⟩ | e
        · refine .inl ⟨n, ?_⟩
          show (match seqR (l.map F) with | .inl r => Sum.inl r | .inr vs => Sum.inr (v :: vs)) = _
          rw [e]
        · refine .inr ?_
          show (match seqR (l.map G) with | .inl r => Sum.inl r | .inr vs => Sum.inr (v :: vs)) = (match seqR (l.map F) with | .inl r => Sum.inl r | .inr vs => Sum.inr (v :: vs))
          rw [e]
      | err m => exact .inr rfl
      | wait n => exact .inr rfl
    · exact .inl ⟨n, rfl⟩
theorem apR_le {α : Type} {F G : α → Re} {ρ ρ' : Str → Option Va} (hρ : Sub ρ ρ') (f : List Nat) {l : List α} (h : ∀ a ∈ l, Le (F a) (G a)) : Le (apR ρ f (l.map F)) (apR ρ' f (l.map G)) := by
  unfold apR
  by_cases h1 : f = cs "and"
  · rw [if_pos h1, if_pos h1]
    match l, h with
    | [], _ => exact .inl rfl
    | [_], _ => exact .inl rfl
    | [a, b], h => exact andR_le (h a (by simp)) (h b (by simp))
    | _ :: _ :: _ :: _, _ => exact .inl rfl
  rw [if_neg h1, if_neg h1]
  by_cases h2 : f = cs "cond"
  · rw [if_pos h2, if_pos h2]
    match l, h with
    | [], _ => exact .inl rfl
    | [_], _ => exact .inl rfl
    | [_, _], _ => exact .inl rfl
    | [a, b, c], h => exact condR_le (h a (by simp)) (h b (by simp)) (h c (by simp))
    | _ :: _ :: _ :: _ :: _, _ => exact .inl rfl
  rw [if_neg h2, if_neg h2]
  rcases seqR_le h with ⟨n, e⟩ | e
  · rw [e]; exact .inr ⟨n, rfl⟩
  · rw [e]
    split
    · exact .inl rfl
    · split
      · split
        · exact resR_le hρ _
        · exact .inl rfl
      · exact .inl rfl
section
variable {σ : Str → Option Va} {π : List (Str × Va)}
mutual
theorem ev_le {ρ ρ' : Str → Option Va} (hρ : Sub ρ ρ') : ∀ e : Ex, Le (ev σ π ρ e) (ev σ π ρ' e)
  | .lit v => .inl rfl
  | .var l => .inl rfl
  | .inj l e => by
    have ih := ev_le hρ e
    show Le (match lookP π (sx l) with | some v => .val v | none => ev σ π ρ e) (match lookP π (sx l) with | some v => .val v | none => ev σ π ρ' e)
    cases lookP π (sx l) with
    | some v => exact .inl rfl
    | none => exact ih
  | .call f es => by
    have ih := evs_le hρ es
    show Le (apR ρ f (evs σ π ρ es)) (apR ρ' f (evs σ π ρ' es))
    rw [evs_map, evs_map]
    exact apR_le hρ f ih
theorem evs_le {ρ ρ' : Str → Option Va} (hρ : Sub ρ ρ') : ∀ es : List Ex, ∀ e ∈ es, Le (ev σ π ρ e) (ev σ π ρ' e)
  | [], e, h => by cases h
  | x :: es, e, h => by
    have h1 := ev_le hρ x
    have h2 := evs_le hρ es
    rcases List.mem_cons.mp h with rfl | h
    · exact h1
    · exact h2 e h
end
/-- what does not wait stays -/
theorem ev_stay {ρ ρ' : Str → Option Va} (hρ : Sub ρ ρ') {e : Ex} (h : NoW (ev σ π ρ e)) : ev σ π ρ' e = ev σ π ρ e := by
  rcases ev_le (σ := σ) (π := π) hρ e with e' | ⟨n, e'⟩
  · exact e'.symm
  · exact absurd e' (h n)
theorem seqR_inl {α : Type} {F : α → Re} : ∀ {l : List α} {r : Re}, seqR (l.map F) = .inl r → ∃ a ∈ l, F a = r
  | [], r, h => by cases h
  | a :: l, r, h => by
    rw [List.map_cons] at h
    cases e : F a with
    | val v =>
      rw [e] at h
      have h : (match seqR (l.map F) with | .inl r => Sum.inl r | .inr vs => Sum.inr (v :: vs)) = _ := h
      cases e2 : seqR (l.map F) with
      | inl r2 =>
        rw [e2] at h
        cases h
        obtain ⟨b, hb, q⟩ := seqR_inl e2
        exact ⟨b, List.mem_cons_of_mem _ hb, q⟩
      | inr vs => rw [e2] at h; cases h
    | err m => rw [e] at h; cases h; exact ⟨a, List.mem_cons_self, e⟩
    | wait n => rw [e] at h; cases h; exact ⟨a, List.mem_cons_self, e⟩
theorem seqR_inr {α : Type} {F : α → Re} : ∀ {l : List α} {vs : List Va}, seqR (l.map F) = .inr vs → l.map F = vs.map .val
  | [], vs, h => by cases h; rfl
  | a :: l, vs, h => by
    rw [List.map_cons] at h ⊢
    cases e : F a with
    | val v =>
      rw [e] at h
      have h : (match seqR (l.map F) with | .inl r => Sum.inl r | .inr vs => Sum.inr (v :: vs)) = _ := h
      cases e2 : seqR (l.map F) with
      | inl r2 => rw [e2] at h; cases h
      | inr us =>
        rw [e2] at h
        cases h
        rw [seqR_inr e2]
        rfl
    | err m => rw [e] at h; cases h
    | wait n => rw [e] at h; cases h
theorem boolR_wait {r : Re} {x : Str} (h : boolR r = .wait x) : r = .wait x := by
  cases r with
  | val v =>
    have h : (if Kd.bool.has v = true then Re.val v else errS "not a boolean") = .wait x := h
    split at h <;> cases h
  | err m => cases h
  | wait n => exact h
theorem resR_wait {ρ : Str → Option Va} {v : Va} {x : Str} (h : resR ρ v = .wait x) : v = .s (.text x) ∧ ρ x = none ∧ x.length ≠ 0 := by
  cases v with
  | m ps => cases h
  | s y =>
    cases y with
    | text y =>
      have h : (if y.length = 0 then errS "invalid resource name" else match ρ y with | some v => .val v | none => .wait y) = Re.wait x := h
      split at h
      · cases h
      · rename_i h0
        cases e : ρ y with
        | some v => rw [e] at h; cases h
        | none => rw [e] at h; cases h; exact ⟨rfl, e, h0⟩
    | _ => cases h
def oneR (ρ : Str → Option Va) (vs : List Va) : Re := match vs with
  | [v] => resR ρ v
  | _ => errS ""
theorem apR_wait {α : Type} {F : α → Re} {ρ : Str → Option Va} {f : List Nat} {l : List α} {x : Str} (h : apR ρ f (l.map F) = .wait x) :
    (∃ a ∈ l, F a = .wait x) ∨ (f = cs "resource" ∧ (∃ a, l = [a] ∧ F a = .val (.s (.text x))) ∧ ρ x = none ∧ x.length ≠ 0) := by
  unfold apR at h
  by_cases h1 : f = cs "and"
  · rw [if_pos h1] at h
    match l, h with
    | [], h => cases h
    | [_], h => cases h
    | _ :: _ :: _ :: _, h => cases h
    | [a, b], h =>
      have h : andR (F a) (F b) = .wait x := h
      unfold andR at h
      split at h
      · exact .inl ⟨b, by simp, boolR_wait h⟩
      · exact .inl ⟨a, by simp, boolR_wait h⟩
  rw [if_neg h1] at h
  by_cases h2 : f = cs "cond"
  · rw [if_pos h2] at h
    match l, h with
    | [], h => cases h
    | [_], h => cases h
    | [_, _], h => cases h
    | _ :: _ :: _ :: _ :: _, h => cases h
    | [a, b, c], h =>
      have h : condR (F a) (F b) (F c) = .wait x := h
      unfold condR at h
      split at h
      · exact .inl ⟨b, by simp, h⟩
      · exact .inl ⟨c, by simp, h⟩
      · exact .inl ⟨a, by simp, boolR_wait h⟩
  rw [if_neg h2] at h
  cases e : seqR (l.map F) with
  | inl r =>
    rw [e] at h
    obtain ⟨a, ha, q⟩ := seqR_inl e
    exact .inl ⟨a, ha, by rw [q]; exact h⟩
  | inr vs =>
    rw [e] at h
    have h : (if f = cs "resource" then oneR ρ vs else fnR f vs) = .wait x := h
    by_cases h3 : f = cs "resource"
    · have hm := seqR_inr e
      rw [if_pos h3] at h
      clear e
      match vs, h, hm with
      | [], h, _ => cases h
      | _ :: _ :: _, h, _ => cases h
      | [v], h, hm =>
        obtain ⟨rfl, hn, h0⟩ := resR_wait h
        match l, hm with
        | [a], hm => exact .inr ⟨h3, ⟨a, rfl, (List.cons.inj hm).1⟩, hn, h0⟩
        | [], hm => cases hm
        | _ :: _ :: _, hm => simp at hm
    · rw [if_neg h3] at h
      exact absurd h (noW_fn _ _ _)
mutual
/-- what waits, waits for a name that has not come -/
theorem wait_for {ρ : Str → Option Va} {x : Str} : ∀ {e : Ex}, ev σ π ρ e = .wait x → ρ x = none ∧ x.length ≠ 0
  | .lit v, h => by cases h
  | .var l, h => by
    have h : (match σ (sx l) with | some v => Re.val v | none => errS "undefined name") = .wait x := h
    split at h <;> cases h
  | .inj l e, h => by
    have h : (match lookP π (sx l) with | some v => Re.val v | none => ev σ π ρ e) = .wait x := h
    cases q : lookP π (sx l) with
    | some v => rw [q] at h; cases h
    | none => rw [q] at h; exact wait_for (e := e) h
  | .call f es, h => by
    have h : apR ρ f (evs σ π ρ es) = .wait x := h
    rw [evs_map] at h
    rcases apR_wait h with ⟨a, ha, q⟩ | ⟨_, _, q⟩
    · exact waits_for (es := es) ha q
    · exact q
theorem waits_for {ρ : Str → Option Va} {x : Str} : ∀ {es : List Ex} {a : Ex}, a ∈ es → ev σ π ρ a = .wait x → ρ x = none ∧ x.length ≠ 0
  | [], a, h, _ => by cases h
  | e :: es, a, h, q => by
    have h1 := wait_for (ρ := ρ) (x := x) (e := e)
    have h2 := waits_for (ρ := ρ) (x := x) (es := es) (a := a)
    rcases List.mem_cons.mp h with rfl | h
    · exact h1 q
    · exact h2 h q
end
def Re.isW : Re → Bool
  | .wait _ => true
  | _ => false
mutual
/-- the calls that wait -/
def cnt (σ : Str → Option Va) (π : List (Str × Va)) (ρ : Str → Option Va) : Ex → Nat
  | .lit _ => 0
  | .var _ => 0
  | .inj _ e => cnt σ π ρ e
  | .call f es => (if (apR ρ f (evs σ π ρ es)).isW = true then 1 else 0) + cnts σ π ρ es
def cnts (σ : Str → Option Va) (π : List (Str × Va)) (ρ : Str → Option Va) : List Ex → Nat
  | [] => 0
  | e :: es => cnt σ π ρ e + cnts σ π ρ es
end
theorem isW_le {a b : Re} (h : Le a b) : (if b.isW = true then 1 else 0) ≤ (if a.isW = true then 1 else 0) := by
  rcases h with rfl | ⟨n, rfl⟩
  · exact Nat.le_refl _
  · show _ ≤ 1
    split <;> omega
mutual
theorem cnt_calls {ρ : Str → Option Va} : ∀ e : Ex, cnt σ π ρ e ≤ e.calls
  | .lit _ => Nat.zero_le _
  | .var _ => Nat.zero_le _
  | .inj l e => by
    have ih := cnt_calls (ρ := ρ) e
    show cnt σ π ρ e ≤ 1 + e.calls
    omega
  | .call f es => by
    have ih := cnts_calls (ρ := ρ) es
    show (if _ then 1 else 0) + cnts σ π ρ es ≤ 1 + Ex.callsAll es
    split <;> omega
theorem cnts_calls {ρ : Str → Option Va} : ∀ es : List Ex, cnts σ π ρ es ≤ Ex.callsAll es
  | [] => Nat.zero_le _
  | e :: es => by
    have h1 := cnt_calls (ρ := ρ) e
    have h2 := cnts_calls (ρ := ρ) es
    show cnt σ π ρ e + cnts σ π ρ es ≤ e.calls + Ex.callsAll es
    omega
end
mutual
theorem cnt_mono {ρ ρ' : Str → Option Va} (hρ : Sub ρ ρ') : ∀ e : Ex, cnt σ π ρ' e ≤ cnt σ π ρ e
  | .lit _ => Nat.le_refl _
  | .var _ => Nat.le_refl _
  | .inj l e => cnt_mono hρ e
  | .call f es => by
    have ih := cnts_mono hρ es
    have h := isW_le (ev_le (σ := σ) (π := π) hρ (.call f es))
    have h : (if (apR ρ' f (evs σ π ρ' es)).isW = true then 1 else 0) ≤ (if (apR ρ f (evs σ π ρ es)).isW = true then 1 else 0) := h
    show (if (apR ρ' f (evs σ π ρ' es)).isW = true then 1 else 0) + cnts σ π ρ' es ≤ (if (apR ρ f (evs σ π ρ es)).isW = true then 1 else 0) + cnts σ π ρ es
    omega
theorem cnts_mono {ρ ρ' : Str → Option Va} (hρ : Sub ρ ρ') : ∀ es : List Ex, cnts σ π ρ' es ≤ cnts σ π ρ es
  | [] => Nat.le_refl _
  | e :: es => by
    have h1 := cnt_mono hρ e
    have h2 := cnts_mono hρ es
    show cnt σ π ρ' e + cnts σ π ρ' es ≤ cnt σ π ρ e + cnts σ π ρ es
    omega
end
def come (ρ : Str → Option Va) (x : Str) (v : Va) : Str → Option Va := fun y => if y = x then some v else ρ y
theorem come_sub {ρ : Str → Option Va} {x : Str} {v : Va} (h : ρ x = none) : Sub ρ (come ρ x v) := fun y u e => by
  unfold come
  rw [if_neg fun z => by rw [z, h] at e; cases e]
  exact e
mutual
/-- what is waited for comes: one call less waits -/
theorem cnt_drop {ρ : Str → Option Va} {x : Str} {v : Va} : ∀ {e : Ex}, ev σ π ρ e = .wait x → cnt σ π (come ρ x v) e + 1 ≤ cnt σ π ρ e
  | .lit v, h => by cases h
  | .var l, h => by
    have h : (match σ (sx l) with | some v => Re.val v | none => errS "undefined name") = .wait x := h
    split at h <;> cases h
  | .inj l e, h => by
    have h : (match lookP π (sx l) with | some v => Re.val v | none => ev σ π ρ e) = .wait x := h
    cases q : lookP π (sx l) with
    | some v => rw [q] at h; cases h
    | none => rw [q] at h; exact cnt_drop (e := e) h
  | .call f es, h => by
    have ih := fun (a : Ex) (ha : a ∈ es) (q : ev σ π ρ a = .wait x) => cnts_drop (v := v) ha q
    have hs := come_sub (v := v) (wait_for h).1
    have hm := cnts_mono (σ := σ) (π := π) hs es
    have hl := isW_le (ev_le (σ := σ) (π := π) hs (.call f es))
    have hl : (if (apR (come ρ x v) f (evs σ π (come ρ x v) es)).isW = true then 1 else 0) ≤ (if (apR ρ f (evs σ π ρ es)).isW = true then 1 else 0) := hl
    have h : apR ρ f (evs σ π ρ es) = .wait x := h
    show (if (apR (come ρ x v) f (evs σ π (come ρ x v) es)).isW = true then 1 else 0) + cnts σ π (come ρ x v) es + 1 ≤ (if (apR ρ f (evs σ π ρ es)).isW = true then 1 else 0) + cnts σ π ρ es
    have h' := h
    rw [evs_map] at h'
    rcases apR_wait h' with ⟨a, ha, q⟩ | ⟨rfl, ⟨a, rfl, q⟩, hn, h0⟩
    · have := ih a ha q
      omega
    · have e1 : ev σ π (come ρ x v) a = .val (.s (.text x)) := by rw [ev_stay hs (by rw [q]; exact noW_val), q]
      have e2 : apR (come ρ x v) (cs "resource") (evs σ π (come ρ x v) [a]) = .val v := by
        show apR (come ρ x v) (cs "resource") [ev σ π (come ρ x v) a] = _
        rw [e1]
        unfold apR
        rw [if_neg (by decide +kernel), if_neg (by decide +kernel)]
        show (if cs "resource" = cs "resource" then resR (come ρ x v) (.s (.text x)) else _) = _
        rw [if_pos rfl]
        show (if x.length = 0 then _ else match come ρ x v x with | some v => Re.val v | none => .wait x) = _
        rw [if_neg h0, show come ρ x v x = some v from if_pos rfl]
      rw [e2, h]
      show 0 + _ + 1 ≤ 1 + _
      omega
theorem cnts_drop {ρ : Str → Option Va} {x : Str} {v : Va} : ∀ {es : List Ex} {a : Ex}, a ∈ es → ev σ π ρ a = .wait x → cnts σ π (come ρ x v) es + 1 ≤ cnts σ π ρ es
  | [], a, h, _ => by cases h
  | e :: es, a, h, q => by
    have h1 := fun q => cnt_drop (ρ := ρ) (x := x) (v := v) (e := e) q
    have h2 := fun (h : a ∈ es) => cnts_drop (ρ := ρ) (x := x) (v := v) (es := es) (a := a) h q
    have hs := come_sub (v := v) (wait_for q).1
    have m1 := cnt_mono (σ := σ) (π := π) hs e
    have m2 := cnts_mono (σ := σ) (π := π) hs es
    show cnt σ π (come ρ x v) e + cnts σ π (come ρ x v) es + 1 ≤ cnt σ π ρ e + cnts σ π ρ es
    rcases List.mem_cons.mp h with rfl | h
    · have := h1 q
      omega
    · have := h2 h
      omega
end
end
end Rw

/-! How long data is when shown. -/
namespace Gd
open PySem PySem.Spec PyProof.Rows L2 GxR Gx
theorem call_reprR {X : Cx} {k : Nat} (hr : RoomG k X.A) : CallR X (.builtin "repr") (rRepr X.K) := call_repr (by have := hr.r.un; omega) hr.g
theorem from_le : ∀ (ts : List Str) (k : Nat) (acc : Str), (textFrom k acc ts).length ≤ acc.length + piled ts
  | [], k, acc => by show acc.length ≤ _; omega
  | t :: ts, k, acc => by
    have ih := from_le ts (k + 1) (acc ++ (if k > 0 then ", " else "" : String) ++ t)
    rw [Str.length_append, Str.length_append] at ih
    have h2 : (Str.ofString (if k > 0 then ", " else "" : String)).length ≤ 2 := by split <;> decide +kernel
    have e : piled (t :: ts) = t.length + 2 + piled ts := by simp [piled]
    show (textFrom (k + 1) _ ts).length ≤ _
    rw [e]
    omega
theorem list_le (ts : List Str) : (listText ts).length ≤ piled ts + 2 := by
  unfold listText
  have h := from_le ts 0 (Str.ofString "[")
  rw [Str.length_append]
  have e1 : (Str.ofString "[").length = 1 := by decide +kernel
  have e2 : (Str.ofString "]").length = 1 := by decide +kernel
  rw [e1] at h
  omega
theorem tuple_le {ts : List Str} (h : ts ≠ []) : (tupleText ts).length ≤ piled ts + 3 := by
  unfold tupleText
  have hj := join_length_add ts h
  rw [Str.length_append, Str.length_append]
  have e1 : (Str.ofString "(").length = 1 := by decide +kernel
  have e2 : (Str.ofString (if (ts.length == 1) = true then ",)" else ")" : String)).length ≤ 2 := by split <;> decide +kernel
  omega
/-- shown in at most sz signs, at most dep deep -/
structure Shw (dep sz : Nat) (d : PyData) : Prop where
  ws : d.showable = true
  wh : d.hasDict = false
  wd : d.depth ≤ dep
  wz : d.shown.length ≤ sz
theorem Shw.mono {a b a' b' : Nat} {d : PyData} (w : Shw a b d) (h1 : a ≤ a') (h2 : b ≤ b') : Shw a' b' d := ⟨w.ws, w.wh, Nat.le_trans w.wd h1, Nat.le_trans w.wz h2⟩
theorem Shw.nat {n : Nat} (hn : n ≤ 999999999) : Shw 0 9 (.int (n : Int)) := by
  refine ⟨?_, rfl, Nat.le_refl _, ?_⟩
  · show decide ((n : Int).natAbs.log2 < 1920) = true
    have : (n : Int).natAbs = n := by omega
    rw [this, decide_eq_true]
    by_cases h0 : n = 0
    · rw [h0]
      decide
    · have := (Nat.log2_lt h0).mpr (show n < 2 ^ 30 by omega)
      omega
  · have h : (TL.numL n).length ≤ 9 := TL.numL_len (by decide) (by omega)
    have e2 : (Str.ofString (toString (n : Int))).length = (TL.numL n).length := by
      show (Str.ofString (toString (n : Int))).cps.size = _
      rw [← Array.length_toList]
      exact congrArg List.length (TL.tl_num n)
    show (Str.ofString (toString (n : Int))).length ≤ 9
    omega
theorem Shw.str {x : Str} {n : Nat} (h : x.length ≤ n) (hc : ∀ c ∈ x.cps.toList, c < 1114112) : Shw 0 (10 * n + 2) (.str x) := by
  refine ⟨rfl, rfl, Nat.le_refl _, ?_⟩
  have := StrLaws.reprText_len x (fun c h => Nat.lt_of_lt_of_le (hc c h) (by decide))
  show (reprText x).length ≤ _
  omega
theorem Shw.bl {b : Bool} : Shw 0 5 (.bool b) := by cases b <;> exact ⟨rfl, rfl, Nat.le_refl _, by decide +kernel⟩
theorem Shw.non : Shw 0 4 .none := ⟨rfl, rfl, Nat.le_refl _, by decide +kernel⟩
theorem shw_all {k m : Nat} : ∀ {ds : List PyData}, (∀ d ∈ ds, Shw k m d) → PyData.showableAll ds = true ∧ PyData.hasDictAll ds = false ∧ PyData.depthAll ds ≤ k ∧ piled (PyData.shownAll ds) ≤ (m + 2) * ds.length
  | [], _ => ⟨rfl, rfl, Nat.zero_le _, Nat.zero_le _⟩
  | d :: ds, h => by
    obtain ⟨a, b, c, e⟩ := shw_all (ds := ds) fun x hx => h x (List.mem_cons_of_mem _ hx)
    have w := h d List.mem_cons_self
    refine ⟨?_, ?_, ?_, ?_⟩
    · show (d.showable && _) = true
      rw [w.ws, a]; rfl
    · show (d.hasDict || _) = false
      rw [w.wh, b]; rfl
    · show max d.depth _ ≤ k
      exact Nat.max_le.mpr ⟨w.wd, c⟩
    · show piled (d.shown :: PyData.shownAll ds) ≤ _
      have := w.wz
      rw [piled_cons, List.length_cons, Nat.mul_succ]
      omega
theorem Shw.list {k m : Nat} {ds : List PyData} (h : ∀ d ∈ ds, Shw k m d) : Shw (k + 1) ((m + 2) * ds.length + 2) (.list ds) := by
  obtain ⟨a, b, c, e⟩ := shw_all h
  refine ⟨a, b, ?_, ?_⟩
  · show PyData.depthAll ds + 1 ≤ _
    omega
  · have := list_le (PyData.shownAll ds)
    show (listText (PyData.shownAll ds)).length ≤ _
    omega
theorem Shw.tuple {k m : Nat} {ds : List PyData} (h : ∀ d ∈ ds, Shw k m d) : Shw (k + 1) ((m + 2) * ds.length + 3) (.tuple ds) := by
  obtain ⟨a, b, c, e⟩ := shw_all h
  refine ⟨a, b, ?_, ?_⟩
  · show PyData.depthAll ds + 1 ≤ _
    omega
  · show (tupleText (PyData.shownAll ds)).length ≤ _
    cases ds with
    | nil => exact Nat.le_trans (show (tupleText []).length ≤ 3 by decide +kernel) (by omega)
    | cons d ds =>
      have := tuple_le (ts := PyData.shownAll (d :: ds)) (by intro z; cases z)
      omega
/-- fit to be shown -/
def Fit (d : PyData) : Prop := d.showable = true ∧ d.hasDict = false ∧ d.depth ≤ 64 ∧ d.shown.length ≤ sizeLine
theorem Shw.fit {k m : Nat} {d : PyData} (w : Shw k m d) (h1 : k ≤ 64 := by decide) (h2 : m ≤ 16777216 := by decide) : Fit d := ⟨w.ws, w.wh, Nat.le_trans w.wd h1, Nat.le_trans w.wz h2⟩
end Gd

namespace Gd
open PySem PySem.Spec PyProof.Rows L2 GxR Gx
mutual
theorem okN_show : ∀ (d : PyData) {n : Nat}, okN n d = true → d.showable = true ∧ d.hasDict = false
  | .none, n, _ => ⟨by simp only [PyData.showable], by simp only [PyData.hasDict]⟩
  | .bool _, n, _ => ⟨by simp only [PyData.showable], by simp only [PyData.hasDict]⟩
  | .int _, n, h => ⟨by simp only [PyData.showable]; exact decide_eq_true (okN_int h), by simp only [PyData.hasDict]⟩
  | .str x, n, h => ⟨by simp only [PyData.showable], by simp only [PyData.hasDict]⟩
  | .list xs, n, h => by cases n <;> cases h
  | .dict xs, n, h => by cases n <;> cases h
  | .tuple ds, n, h => by
    obtain ⟨m, e, _, h3⟩ := okN_tup h
    have q := okN_showAll ds h3
    simp only [PyData.showable, PyData.hasDict]
    exact q
theorem okN_showAll : ∀ (ds : List PyData) {n : Nat}, (∀ d ∈ ds, okN n d = true) → PyData.showableAll ds = true ∧ PyData.hasDictAll ds = false
  | [], n, _ => ⟨by simp only [PyData.showableAll], by simp only [PyData.hasDictAll]⟩
  | d :: ds, n, h => by
    have q := okN_show d (h d List.mem_cons_self)
    have r := okN_showAll ds fun e he => h e (List.mem_cons_of_mem _ he)
    simp only [PyData.showableAll, PyData.hasDictAll, q.1, q.2, r.1, r.2, Bool.and_true, Bool.or_false, and_self]
end
end Gd
namespace Rw
open PySem PySem.Spec PyProof.Rows L2 GxR Gx Gd Rx Rs
theorem tuple_le {ts : List Str} (h : ts ≠ []) : (tupleText ts).length ≤ piled ts + 3 := by
  unfold tupleText
  have hj := join_length_add ts h
  rw [Str.length_append, Str.length_append]
  have e1 : (Str.ofString "(").length = 1 := by decide +kernel
  have e2 : (Str.ofString (if (ts.length == 1) = true then ",)" else ")" : String)).length ≤ 2 := by split <;> decide +kernel
  omega
theorem tuple_any {ts : List Str} : (tupleText ts).length ≤ piled ts + 3 := by
  by_cases h : ts = []
  · subst h
    decide +kernel
  · exact tuple_le h
theorem repr_le {x : Str} (h : PyData.strOk x = true) : (reprText x).length ≤ 10 * x.length + 2 := by
  refine StrLaws.reprText_len x fun c hc => ?_
  have h : x.cps.all (fun x => decide (x < 1114112)) = true := h
  rw [← Array.all_toList, List.all_eq_true] at h
  exact Nat.lt_of_lt_of_le (of_decide_eq_true (h c hc)) (by decide)
theorem str_le {x : Str} {n : Nat} (h : PyData.strOk x = true) (hn : x.length ≤ n) : (PyData.str x).shown.length ≤ 10 * n + 2 := by
  have := repr_le h
  show (reprText x).length ≤ _
  omega
theorem pair_le {a b : PyData} {m n : Nat} (ha : a.shown.length ≤ m) (hb : b.shown.length ≤ n) : (PyData.tuple [a, b]).shown.length ≤ m + n + 7 := by
  have := tuple_any (ts := [a.shown, b.shown])
  rw [piled_cons, piled_cons, piled_nil] at this
  show (tupleText [a.shown, b.shown]).length ≤ _
  omega
theorem sc_le {s : Rv.Sc} (g : s.good) : s.d.shown.length ≤ 600 := by
  have w : ∀ s : String, (Str.ofString s).length ≤ 5 → PyData.strOk (Str.ofString s) = true → (PyData.str (Str.ofString s)).shown.length ≤ 52 := fun s h1 h2 => str_le h2 h1
  cases s with
  | none => decide +kernel
  | bool b => cases b <;> decide +kernel
  | int i =>
    have h0 : 0 ≤ i ∧ i ≤ 999999 := g
    obtain ⟨n, rfl⟩ : ∃ n : Nat, i = n := ⟨i.toNat, by omega⟩
    have e : (PyData.int (n : Int)).shown = Str.ofString (toString (n : Int)) := rfl
    have h : (TL.numL n).length ≤ 9 := TL.numL_len (by decide) (by omega)
    have e2 : (Str.ofString (toString (n : Int))).length = (TL.numL n).length := by
      show (Str.ofString (toString (n : Int))).cps.size = _
      rw [← Array.length_toList]
      exact congrArg List.length (TL.tl_num n)
    have := pair_le (a := .str (Str.ofString "int")) (b := .int (n : Int)) (w "int" (by decide +kernel) (by decide +kernel)) (n := 9) (by rw [e, e2]; exact h)
    show (PyData.tuple [.str (Str.ofString "int"), .int (n : Int)]).shown.length ≤ 600
    omega
  | text x =>
    have := pair_le (a := .str (Str.ofString "text")) (b := .str x) (w "text" (by decide +kernel) (by decide +kernel)) (str_le (n := 40) (Rv.str_ok g.2) g.1)
    show (PyData.tuple [.str (Str.ofString "text"), .str x]).shown.length ≤ 600
    omega
theorem ents_le : ∀ (ps : List (Str × Rv.Sc)), (∀ p ∈ ps, Rv.keyOk p.1 ∧ p.2.good) → piled (PyData.shownAll (ps.map Rv.ent)) ≤ 11000 * ps.length
  | [], _ => Nat.le_refl _
  | p :: ps, h => by
    have h1 := h p List.mem_cons_self
    have hk := okN_str h1.1.2
    have h2 : (Rv.ent p).shown.length ≤ 10002 + 600 + 7 := pair_le (str_le (n := 1000) hk.2 hk.1) (sc_le h1.2)
    have ih := ents_le ps fun q hq => h q (List.mem_cons_of_mem _ hq)
    show piled ((Rv.ent p).shown :: PyData.shownAll (ps.map Rv.ent)) ≤ _
    rw [piled_cons, List.length_cons]
    omega
theorem va_le {v : Va} (g : v.good) : v.d.shown.length ≤ 100000 := by
  cases v with
  | s s => have := sc_le (s := s) g; show s.d.shown.length ≤ _; omega
  | m ps =>
    have g : Rv.Ents ps := g
    have h1 := ents_le ps g.ok
    have h2 := g.len
    have h3 : (PyData.tuple (ps.map Rv.ent)).shown.length ≤ 88003 := by
      have := tuple_any (ts := PyData.shownAll (ps.map Rv.ent))
      show (tupleText _).length ≤ _
      omega
    have := pair_le (a := .str (Str.ofString "map")) (b := .tuple (ps.map Rv.ent)) (m := 52) (str_le (n := 5) (by decide +kernel) (by decide +kernel)) h3
    show (PyData.tuple [.str (Str.ofString "map"), .tuple (ps.map Rv.ent)]).shown.length ≤ _
    omega
theorem re_le {r : Re} (g : r.good) : r.d.shown.length ≤ 200000 := by
  have w : ∀ s : String, (Str.ofString s).length ≤ 5 → PyData.strOk (Str.ofString s) = true → (PyData.str (Str.ofString s)).shown.length ≤ 52 := fun s h1 h2 => str_le h2 h1
  cases r with
  | val v =>
    have := pair_le (a := .str (Str.ofString "value")) (w "value" (by decide +kernel) (by decide +kernel)) (va_le (v := v) g)
    show (PyData.tuple [.str (Str.ofString "value"), v.d]).shown.length ≤ _
    omega
  | err m =>
    have := pair_le (a := .str (Str.ofString "error")) (b := .str m) (w "error" (by decide +kernel) (by decide +kernel)) (str_le (n := 100) g.2 g.1)
    show (PyData.tuple [.str (Str.ofString "error"), .str m]).shown.length ≤ _
    omega
  | wait m =>
    have := pair_le (a := .str (Str.ofString "waits")) (b := .str m) (w "waits" (by decide +kernel) (by decide +kernel)) (str_le (n := 40) (Rv.str_ok g.2) g.1)
    show (PyData.tuple [.str (Str.ofString "waits"), .str m]).shown.length ≤ _
    omega
def spSameR (K : PySem.W.Frag) : Sp := fun vs H Q _ => ∃ (u1 u2 : V) (r : Re), vs = [u1, u2] ∧ DtR K H u1 r ∧ DtR K H u2 r ∧ r.good ∧ Q (.bl true) H
section
variable {P : Program} {w : World} {K : PySem.W.Frag} {mg : Str → Option Value} {base : Heap}
theorem c_law_sameR (D : DefAt K mg "_law_same" Rv.s_law_same ["actual", "due"]) (m_repr : mg "repr" = none) : Cal P w K mg base CX0 1 "_law_same" ["actual", "due"] (spSameR K) := by
  refine D.cal (k := 0) Rv.sc_law_same (fun vs H Q E h => ?_) fun f cdv A outer s H vs Q E hr h => ?_
  · obtain ⟨a, b, r, rfl, _⟩ := h
    rfl
  · obtain ⟨a, b, r, rfl, ha, hb, g, q⟩ := h
    refine ⟨_, (pss_one (ps_ret (pe_cmpR op_eq (pe_callB (call_reprR hr) (by rfl) m_repr (by decide +kernel) (pa_cons (pv 0) pa_nil)) (pe_callB (call_reprR hr) (by rfl) m_repr (by decide +kernel) (pa_cons (pv 1) pa_nil)) (nomark _)))), ?_⟩
    obtain ⟨n, hn, ho⟩ := re_okN g
    have s1 := okN_show _ ho
    have s2 := (okN_lay _ ho).2
    have s3 := re_le g
    have sz : sizeLine = 16777216 := rfl
    refine ⟨_, rfl, _, _, rfl, ha.dt.dp, s1.1, s1.2, by omega, by omega, ?_⟩
    refine ⟨_, rfl, _, _, rfl, hb.dt.dp, s1.1, s1.2, by omega, by omega, ?_⟩
    refine ⟨rfl, ?_⟩
    rw [decide_eq_true rfl]
    exact q
end
end Rw

/-! max(xs, default=d) of a list of ints -/
namespace MxD
open PySem PyProof.Rows
theorem argsD (a d : Value) : argsOk "max" ⟨[a], [(Str.ofString "default", d)]⟩ := by unfold argsOk; kernel_rfl
theorem nm : (toString "max" ++ toString ".loop" : String) = "max.loop" := by decide
section
variable {prog : Program} {w : World} {A : Around} {R : Result → Shared → Prop} {I S : Addr} {fp wr : List Addr} {n : Nat} {P : Nat → Value → Prop} {St : Nat → Heap → Prop} {d : Value}
abbrev Lp (I S : Addr) (d : Value) : Code := .builtin "max.loop" ⟨[.ref I, .none, .ref S], [(Str.ofString "default", d)]⟩
/-- the list that holds the best so far -/
abbrev bestO (xs : Array Value) (c : Nat) : Obj := { cls := .type "list", dict := none, data := .seq xs c, slots := #[] }
theorem turn (W : Walks prog w A.in1 I fp wr n P St) (bt : Nat → Nat → Bool) (hc : CmpOf prog w A.in1 .Gt P bt) (no : S ∉ fp) : ∀ (m j : Nat) (s : Shared) (u : Value) (c : Nat),
    j + 1 + m = n → St (j + 1) s.heap → P (argBest bt j) u → s.heap.get? S = some (bestO #[u, u] c) →
    (∀ v h t, P (argBest bt (n - 1)) v → (∀ b o, b ∉ wr → b ≠ S → s.heap.get? b = some o → h.get? b = some o) → R (.ok (.ret v)) { s with heap := h, toks := t }) →
    codeAny (model prog w) A (Lp I S d) R s := by
  have nw : S ∉ wr := fun z => no (W.sub _ z)
  intro m
  induction m with
  | zero =>
    intro j s u c e x p g q
    refine codeAny_builtin F.entry_max_loop ?_
    rw [Around.under_plainId F.plain_max_loop _]
    show wpAny _ _ (seqItems? (.ref S) >>= _) _ _ _
    refine wpAny_bind (wpAny_seqItems g rfl ?_)
    show wpAny _ _ (tryCatch (pyNext (.ref I)) _ >>= _) _ _ _
    refine wpAny_bind (wpAny_tryCatch (W.done s _ _ (e ▸ x) fun h t k => ?_))
    have g' := k S _ nw g
    show wpAny _ _ (updateSeq S _ >>= _) _ _ _
    refine wpAny_bind ?_
    refine wpAny_updateSeq g' rfl (wpAny_bind (wpAny_letGo (wpAny_pure ?_)))
    exact q u _ t (by rw [← e]; exact p) fun b o z1 z2 y => (Heap.get?_update_other _ _ (Ne.symm z2)).trans (k b o z1 y)
  | succ m ih =>
    intro j s u c e x p g q
    refine codeAny_builtin F.entry_max_loop ?_
    rw [Around.under_plainId F.plain_max_loop _]
    show wpAny _ _ (seqItems? (.ref S) >>= _) _ _ _
    refine wpAny_bind (wpAny_seqItems g rfl ?_)
    show wpAny _ _ (tryCatch (pyNext (.ref I)) _ >>= _) _ _ _
    refine wpAny_bind (wpAny_tryCatch (W.item (j + 1) s _ _ (by omega) x fun v h t pv x' k => ?_))
    have g' := k S _ nw g
    show wpAny _ _ (tryCatch (holding [v, v] (richCompare .Gt v u >>= _)) _ >>= _) _ _ _
    refine wpAny_bind (wpAny_tryCatch (wpAny_holding (wpAny_bind (hc (j + 1) (argBest bt j) v u _ _ _ pv p ?_))))
    refine wpAny_bind (wpAny_holding (wpAny_truthy_bool ?_))
    refine wpAny_bind (wpAny_letGo (wpAny_pure ?_))
    by_cases hb : bt (j + 1) (argBest bt j) = true
    · rw [hb]
      simp only [if_true]
      refine wpAny_bind ?_
      refine wpAny_updateSeq g' rfl (wpAny_bind (wpAny_letGo ?_))
      rw [nm]
      have pb : P (argBest bt (j + 1)) v := by
        show P (if _ then _ else _) v
        rw [if_pos hb]
        exact pv
      refine wpAny_pure ⟨plainId_quiet F.plain_max_loop _, ih (j + 1) _ v _ (by omega) (W.frame _ _ _ x' fun b z o y => ?_) pb (Heap.get?_update_self _ g' rfl) fun v2 h2 t2 p2 k2 => ?_⟩
      · exact (Heap.get?_update_other _ _ (fun z' : S = b => no (by rw [z']; exact z))).trans y
      · exact q v2 h2 t2 p2 fun b o z1 z2 y => k2 b o z1 z2 ((Heap.get?_update_other _ _ (Ne.symm z2)).trans (k b o z1 y))
    · have hb : bt (j + 1) (argBest bt j) = false := by simpa using hb
      rw [hb]
      simp only [Bool.false_eq_true, if_false]
      refine wpAny_bind (wpAny_letGo ?_)
      rw [nm]
      have pb : P (argBest bt (j + 1)) u := by
        show P (if _ then _ else _) u
        rw [hb]
        exact p
      refine wpAny_pure ⟨plainId_quiet F.plain_max_loop _, ih (j + 1) _ u c (by omega) x' pb g' fun v2 h2 t2 p2 k2 => ?_⟩
      exact q v2 h2 t2 p2 fun b o z1 z2 y => k2 b o z1 z2 (k b o z1 y)
theorem first (W : Walks prog w A.in1 I fp wr n P St) (bt : Nat → Nat → Bool) (hc : CmpOf prog w A.in1 .Gt P bt) (no : S ∉ fp) {s : Shared} {c : Nat} (x : St 0 s.heap) (g : s.heap.get? S = some (bestO #[] c))
    (q : 0 < n → ∀ v h t, P (argBest bt (n - 1)) v → (∀ b o, b ∉ wr → b ≠ S → s.heap.get? b = some o → h.get? b = some o) → R (.ok (.ret v)) { s with heap := h, toks := t })
    (q0 : n = 0 → ∀ h t, (∀ b o, b ∉ wr → b ≠ S → s.heap.get? b = some o → h.get? b = some o) → R (.ok (.ret d)) { s with heap := h, toks := t }) :
    codeAny (model prog w) A (Lp I S d) R s := by
  have nw : S ∉ wr := fun z => no (W.sub _ z)
  refine codeAny_builtin F.entry_max_loop ?_
  rw [Around.under_plainId F.plain_max_loop _]
  show wpAny _ _ (seqItems? (.ref S) >>= _) _ _ _
  refine wpAny_bind (wpAny_seqItems g rfl ?_)
  show wpAny _ _ (tryCatch (pyNext (.ref I)) _ >>= _) _ _ _
  by_cases hn : 0 < n
  · refine wpAny_bind (wpAny_tryCatch (W.item 0 s _ _ hn x fun v h t pv x' k => ?_))
    have g' := k S _ nw g
    show wpAny _ _ (updateSeq S _ >>= _) _ _ _
    refine wpAny_bind ?_
    refine wpAny_updateSeq g' rfl ?_
    rw [nm]
    refine wpAny_pure ⟨plainId_quiet F.plain_max_loop _, turn W bt hc no (n - 1) 0 _ v _ (by omega) (W.frame _ _ _ x' fun b z o y => ?_) pv (Heap.get?_update_self _ g' rfl) fun v2 h2 t2 p2 k2 => ?_⟩
    · exact (Heap.get?_update_other _ _ (fun z' : S = b => no (by rw [z']; exact z))).trans y
    · exact q hn v2 h2 t2 p2 fun b o z1 z2 y => k2 b o z1 z2 ((Heap.get?_update_other _ _ (Ne.symm z2)).trans (k b o z1 y))
  · have hn : n = 0 := by omega
    refine wpAny_bind (wpAny_tryCatch (W.done s _ _ (hn ▸ x) fun h t k => ?_))
    show wpAny _ _ (rule _ >>= _) _ _ _
    refine wpAny_bind (wpAny_rule (wpAny_pure ?_))
    exact q0 hn h t fun b o z1 z2 y => k b o z1 y
end
section
variable {prog : Program} {w : World} {A : Around} {E : Value → Shared → Prop} {s : Shared} {l : Addr} {its : List Value} {ns : List Int} {d : Value} {Q : Value → Shared → Prop}
theorem run (hh : A.handled = none) (hl : s.heap.IsList l its.toArray) (hi : IntsAre its ns)
    (h : ∀ h' t M t', (∀ b o, s.heap.get? b = some o → h'.get? b = some o) → M ∈ ns → (∀ a, a ∈ ns → a ≤ M) → Q (.int M t') { s with heap := h', toks := t })
    (h0 : ns = [] → ∀ h' t, (∀ b o, s.heap.get? b = some o → h'.get? b = some o) → Q d { s with heap := h', toks := t }) :
    wpAny (model prog w) A (call (.builtin "max") [.ref l] [(Str.ofString "default", d)]) Q E s := by
  obtain ⟨xs, e⟩ := hi.allInts.items
  have hn : numsOf (intItems xs).toList = ns := by rw [← e]; exact hi.numsOf
  rw [nums_intItems] at hn
  subst hn
  rw [e] at hl
  refine kmk_tree F.kind_max F.plain_max F.entry_max (argsD _ _) ?_
  show wpAny _ _ (Builtin.Builtins.bindParams "max" ["key", "default"] 0 ⟨[], [(Str.ofString "default", d)]⟩ >>= _) _ _ _
  refine wpAny_bind (wpAny_of_eq (show Builtin.Builtins.bindParams "max" ["key", "default"] 0 ⟨[], [(Str.ofString "default", d)]⟩ = pure [none, some d] from rfl) ?_)
  refine wpAny_bind (wpAny_pure ?_)
  refine wpAny_bind (iter_intList hl fun s2 e2 st fp li => ?_)
  subst e2
  refine wpAny_bind (wpAny_newObj_type ?_)
  rw [nm]
  have hz := Heap.size_push s.heap { cls := .type "list_iterator", data := .fields #[.ref l, .int 0 0] }
  have W := Walks.list (prog := prog) (w := w) (A := A.in1) hh s.heap.objs.size l li (intItems xs)
  refine wpAny_pure ⟨plainId_quiet F.plain_max_loop _, first W _ (CmpOf.ints_gt (numAt xs) fun _ _ => intItems_at) (fun z => Nat.lt_irrefl _ (fp _ z)) (W.frame _ _ _ st fun b _ o y => Heap.get?_push_of_some _ y) (Heap.get?_push_size _ rfl) (fun hn v h' t pv k => ?_) fun hn h' t k => ?_⟩
  · have hp : (intItems xs)[argBest (fun i j => decide (numAt xs i > numAt xs j)) (xs.size - 1)]? = some v := by simpa [intItems] using pv
    obtain ⟨tv, rfl⟩ := intItems_at hp
    obtain ⟨h1, h2⟩ := argBest_gt (numAt xs) (xs.size - 1)
    have hx : 0 < xs.size := by simpa [intItems] using hn
    refine h h' t _ tv (old_kept fun b o hb y => k b o hb (Nat.ne_of_lt (Heap.lt_size y)) (Heap.get?_push_of_some _ y)) ?_ fun a ha => ?_
    · rw [numAt_eq]
      exact PySem.getD_mem (by rw [List.length_map, Array.length_toList]; omega)
    · obtain ⟨j, hj, rfl⟩ := mem_getD ha
      rw [List.length_map, Array.length_toList] at hj
      rw [← numAt_eq]
      exact h2 j (by omega)
  · refine h0 ?_ h' t (old_kept fun b o hb y => k b o hb (Nat.ne_of_lt (Heap.lt_size y)) (Heap.get?_push_of_some _ y))
    have hx : xs.size = 0 := by simpa [intItems] using hn
    rw [Array.eq_empty_of_size_eq_zero hx]
    rfl
end
end MxD
namespace L2
open PySem PySem.Spec PyProof.Rows
def rMaxD0 (K : PySem.W.Frag) : List V → List V → Hp → VK → Prop := fun vs zs H Q => ∃ (a : Addr) (ns : List Int) (d : V), vs = [V.ref a] ∧ zs = [d] ∧ SqL K H a (ns.map V.int) ∧
  (∀ m, m ∈ ns → (∀ y, y ∈ ns → y ≤ m) → Q (.int m) H) ∧ (ns = [] → Q d H)
theorem cr_maxDef {X : Cx} (hc : X.calm = true) : CallRK X (.builtin "max") [Str.ofString "default"] (rMaxD0 X.K) := by
  intro pins s σ H vs zs us ws Q I r rz h
  obtain ⟨a, ns, d, rfl, rfl, hs, q, q0⟩ := h
  obtain ⟨its, rv, hl, _⟩ := I.list hs
  rw [Vals.ref1 r]
  obtain ⟨w1, rfl, e1⟩ := vals1 rz
  exact MxD.run (I.ok.hd hc) hl.isList rv.ints (fun h' t m t' hk h1 h2 => ⟨.int _, H, I.kept hk, ⟨_, rfl⟩, q m h1 h2⟩) fun hn h' t hk => ⟨d, H, I.kept hk, e1, q0 hn⟩
end L2

namespace Rd
open PySem PySem.Spec PyProof.Rows L2 GxR Gx Gd
def topS (i : Nat) : Stmt := PySem.Challenge.pw_remoteviews_k04_evaluation_exact.main.body.getD i (.Pass ⟨0, 0, 0, 0⟩)
end Rd

namespace Rd
open PySem PySem.Spec PyProof.Rows L2 GxR Gx Gd
/-! ### the law's draws -/
abbrev s_law_cell : Stmt := topS 43
theorem sc_law_cell : FnScope ["script", "k"] ["script", "k"] (defScope s_law_cell) := ⟨rfl, rfl, rfl, by decide +kernel, rfl, by decide +kernel, by decide +kernel⟩
abbrev s_law_draw : Stmt := topS 47
theorem sc_law_draw : FnScope ["box", "many", "at"] ["box", "many"] (defScope s_law_draw) := ⟨rfl, rfl, rfl, by decide +kernel, rfl, by decide +kernel, by decide +kernel⟩
def Box (bx d : Addr) (H : Hp) : Prop := ∃ (xs : List V) (at' : Int), H bx = some (.lst [.ref d, .int at']) ∧ 0 ≤ at' ∧ H d = some (.lst xs) ∧ ∀ v ∈ xs, ∃ i, v = .int i
theorem Box.ne {bx d : Addr} {H : Hp} (h : Box bx d H) : d ≠ bx := fun e => by
  obtain ⟨xs, a, h1, h2, h3, h4⟩ := h
  rw [e, h1] at h3
  cases h3
  obtain ⟨i, e⟩ := h4 _ List.mem_cons_self
  cases e
theorem Box.lsts {bx d : Addr} {H : Hp} (h : Box bx d H) : Lsts [bx] H := fun b hb => by
  obtain ⟨xs, a, h1, _⟩ := h
  cases hb with
  | head => exact ⟨_, h1⟩
  | tail _ h => cases h
theorem Box.kb {S : List Addr} {bx d : Addr} {H H' : Hp} (h : Box bx d H) (k : Kb S H H') (n1 : bx ∉ S) (n2 : d ∉ S) : Box bx d H' := by
  obtain ⟨xs, a, h1, h2, h3, h4⟩ := h
  exact ⟨xs, a, k.keep bx _ h1 n1 nt_lst, h2, k.keep d _ h3 n2 nt_lst, h4⟩
theorem Box.kp {bx d : Addr} {H H' : Hp} (h : Box bx d H) (k : Kp H H') : Box bx d H' := h.kb k (by simp) (by simp)
theorem Box.upd {bx d D : Addr} {H : Hp} {o : HO} (h : Box bx d H) (n1 : D ≠ bx) (n2 : D ≠ d) : Box bx d (upd H D o) := by
  obtain ⟨xs, a, h1, h2, h3, h4⟩ := h
  exact ⟨xs, a, by rw [upd_ne n1.symm]; exact h1, h2, by rw [upd_ne n2.symm]; exact h3, h4⟩
theorem Box.new {bx d D : Addr} {H : Hp} (h : Box bx d H) (n : H D = none) : D ≠ bx ∧ D ≠ d := by
  obtain ⟨xs, a, h1, h2, h3, h4⟩ := h
  exact ⟨(ne_of_none h1 n).symm, (ne_of_none h3 n).symm⟩
/-- after some draws -/
def Aft (bx d : Addr) (H H' : Hp) : Prop := Kb [bx] H H' ∧ Box bx d H'
theorem Aft.trans {bx d : Addr} {H H1 H2 : Hp} (a : Aft bx d H H1) (b : Aft bx d H1 H2) : Aft bx d H H2 := ⟨a.1.trans b.1, b.2⟩
theorem Aft.of {bx d : Addr} {H H' : Hp} (b : Box bx d H) (k : Kp H H') : Aft bx d H H' := ⟨Kb.of k, b.kp k⟩
theorem Aft.refl {bx d : Addr} {H : Hp} (b : Box bx d H) : Aft bx d H H := ⟨Kb.refl H, b⟩
theorem Aft.new {bx d D : Addr} {H : Hp} {o : HO} (b : Box bx d H) (n : H D = none) : Aft bx d H (upd H D o) := Aft.of b (Kb.new n)
theorem Aft.mut {bx d D : Addr} {H H' : Hp} {o u : HO} (k : Aft bx d H H') (n : H D = none) (b : Box bx d H) (e : H' D = some u) (t : NoTab u) : Aft bx d H (upd H' D o) :=
  ⟨k.1.mut n (no_tab e t), k.2.upd (b.new n).1 (b.new n).2⟩
theorem Aft.dt {K : PySem.W.Frag} {bx d : Addr} {H H' : Hp} {v : V} {x : PyData} (k : Aft bx d H H') (b : Box bx d H) (h : Dt K H v x) : Dt K H' v x := h.kb k.1 b.lsts
theorem Aft.lst {bx d D : Addr} {H H' : Hp} {xs : List V} (k : Aft bx d H H') (e : H D = some (.lst xs)) (n : D ≠ bx) : H' D = some (.lst xs) := k.1.keep D _ e (by simpa using n) nt_lst
def spDraw : Sp := fun vs H Q _ => ∃ bx d many, vs = [.ref bx, .int many] ∧ 0 < many ∧ Box bx d H ∧ ∀ H' r, Aft bx d H H' → 0 ≤ r → r < many → Q (.int r) H'
def spCell (K : PySem.W.Frag) : Sp := fun vs H Q _ => ∃ (a : Addr) (ns : List Int) (k : Int), vs = [.ref a, .int k] ∧ 0 ≤ k ∧ SqL K H a (ns.map V.int) ∧ ∀ i, Q (.int i) H
section
variable {P : Program} {w : World} {K : PySem.W.Frag} {mg : Str → Option Value} {base : Heap}
theorem c_law_cell (D : DefAt K mg "_law_cell" s_law_cell ["script", "k"]) (m_len : mg "len" = none) : Cal P w K mg base CX0 1 "_law_cell" ["script", "k"] (spCell K) := by
  refine D.cal (k := 0) sc_law_cell (fun vs H Q E h => ?_) fun f cdv A outer s H vs Q E hr h => ?_
  · obtain ⟨a, ns, k, rfl, _⟩ := h
    rfl
  · obtain ⟨a, ns, k, rfl, h0, h, q⟩ := h
    refine ⟨_, (pss_cons (ps_if (pt_cmpR op_lt (pv 1) (pe_callB call_len_seq (by rfl) m_len (by decide +kernel) (pa_cons (pv 0) pa_nil)) (nomark _)) (pss_one (ps_ret (pe_ix ix_list (pv 0) (pv 1) (fun _ _ => rfl)))) pss_nil)
  (pss_one (ps_ret pe_int))), ?_⟩
    refine ⟨_, rfl, _, rfl, a, _, rfl, .inl h, k, _, rfl, rfl, _, rfl, ?_⟩
    by_cases hk : k < ((ns.map V.int).length : Int)
    · rw [decide_eq_true hk]
      obtain ⟨n, rfl⟩ : ∃ n : Nat, k = n := ⟨k.toNat, by omega⟩
      have hn : n < (ns.map V.int).length := by omega
      have e : (ns.map V.int)[n]? = some (.int (ns[n]'(by simpa using hn))) := by simp
      exact iteT ⟨_, rfl, _, rfl, a, _, _, _, rfl, rfl, h, atI_nat e, q _⟩
    · rw [decide_eq_false hk]
      exact iteF (q 0)
theorem c_law_draw (D : DefAt K mg "_law_draw" s_law_draw ["box", "many"]) (m_len : mg "len" = none) (m_int : mg "int" = none) : Cal P w K mg base CX0 1 "_law_draw" ["box", "many"] spDraw := by
  refine D.cal (k := 0) sc_law_draw (fun vs H Q E h => ?_) fun f cdv A outer s H vs Q E hr h => ?_
  · obtain ⟨bx, d, many, rfl, _⟩ := h
    rfl
  · obtain ⟨bx, d, many, rfl, hm, hb, q⟩ := h
    have hne := hb.ne
    obtain ⟨xs, n, h1, h2, h3, h4⟩ := hb
    refine ⟨_, (pss_cons (ps_set (i := 2) sc_law_draw.nd rfl (Or.inl rfl) (pe_ix ix_list (pv 0) pe_int (fun _ _ => rfl)))
  (pss_cons (ps_asg (pe_op op_add (pv 2) pe_int) (pg_sub (pv 0) pe_int set_list))
  (pss_cons (ps_if (pt_cmpR op_lt (pv 2) (pe_callB call_len_seq (by rfl) m_len (by decide +kernel) (pa_cons (pe_ix ix_list (pv 0) pe_int (fun _ _ => rfl)) pa_nil)) (nomark _)) (pss_one (ps_ret (pe_op op_mod (pe_callTy call_int1 (by rfl) m_int (by decide +kernel) (pa_cons (pe_ix ix_list (pe_ix ix_list (pv 0) pe_int (fun _ _ => rfl)) (pv 2) (fun _ _ => rfl)) pa_nil)) (pv 1)))) pss_nil)
  (pss_one (ps_ret (pe_op op_mod (pe_callTy call_int1 (by rfl) m_int (by decide +kernel) (pa_cons (pe_op op_add (pe_op op_mul (pv 2) pe_int) pe_int) pa_nil)) (pv 1))))))), ?_⟩
    refine ⟨.ref bx, rfl, bx, _, 1, _, rfl, rfl, .inl (.inl h1), atI_nat (j := 1) rfl, ?_⟩
    refine ⟨.int n, rfl, n, 1, rfl, rfl, .ref bx, rfl, bx, _, 1, 1, rfl, rfl, h1, rfl, ?_⟩
    have k1 : Aft bx d H (upd H bx (.lst [.ref d, .int (n + 1)])) := ⟨Kb.put (by simp) h1 nt_lst, xs, n + 1, upd_same, by omega, by rw [upd_ne hne]; exact h3, h4⟩
    have e1 : (upd H bx (.lst [.ref d, .int (n + 1)])) bx = some (.lst [.ref d, .int (n + 1)]) := upd_same
    have e2 : (upd H bx (.lst [.ref d, .int (n + 1)])) d = some (.lst xs) := by rw [upd_ne hne]; exact h3
    refine ⟨.int n, rfl, .ref bx, rfl, bx, _, 0, .ref d, rfl, rfl, .inl (.inl e1), atI_nat (j := 0) rfl, d, xs, rfl, .inl (.inl (.inl e2)), n, _, rfl, rfl, _, rfl, ?_⟩
    by_cases hk : n < (xs.length : Int)
    · rw [decide_eq_true hk]
      obtain ⟨j, rfl⟩ : ∃ j : Nat, n = j := ⟨n.toNat, by omega⟩
      have hj : j < xs.length := by omega
      obtain ⟨i, hi⟩ := h4 xs[j] (List.getElem_mem hj)
      have e : xs[j]? = some (.int i) := by rw [List.getElem?_eq_getElem hj, hi]
      exact iteT ⟨.ref bx, rfl, bx, _, 0, .ref d, rfl, rfl, .inl (.inl e1), atI_nat (j := 0) rfl, _, rfl, d, xs, j, .int i, rfl, rfl, .inl (.inl e2), atI_nat e, .inl ⟨i, rfl, _, rfl, i, many, rfl, rfl, hm, q _ _ k1 (Int.emod_nonneg _ (by omega)) (Int.emod_lt_of_pos _ hm)⟩⟩
    · rw [decide_eq_false hk]
      exact iteF ⟨_, rfl, n, 7, rfl, rfl, .inr (by decide), _, _, rfl, rfl, .inl ⟨_, rfl, _, rfl, _, many, rfl, rfl, hm, q _ _ k1 (Int.emod_nonneg _ (by omega)) (Int.emod_lt_of_pos _ hm)⟩⟩
end
abbrev s_law_digits : Stmt := topS 46
theorem sc_law_digits : FnScope ["script", "first", "last", "digits", "k", "cell", "turn", "seed"] ["script", "first", "last"] (defScope s_law_digits) := ⟨rfl, rfl, rfl, by decide +kernel, rfl, by decide +kernel, by decide +kernel⟩
def spDigits (K : PySem.W.Frag) : Sp := fun vs H Q _ => ∃ (a : Addr) (ns : List Int) (last : Nat), vs = [.ref a, .int 0, .int (last : Int)] ∧ last ≤ 200 ∧ SqL K H a (ns.map V.int) ∧ ∀ (d : Addr) (H' : Hp) (xs : List V), H d = none → Kp H H' → H' d = some (.lst xs) → (∀ v ∈ xs, ∃ i, v = .int i) → Q (.ref d) H'
/-- the list at D holds at most n ints, all else stands -/
def Dg (H0 : Hp) (D : Addr) (n : Nat) (H : Hp) : Prop := ∃ xs : List V, xs.length ≤ n ∧ (∀ v ∈ xs, ∃ i, v = .int i) ∧ Kp H0 H ∧ H D = some (.lst xs)
theorem Dg.push {H0 H : Hp} {D : Addr} {n : Nat} {xs : List V} {i : Int} (h0 : H0 D = none) (hl : xs.length ≤ n) (hi : ∀ v ∈ xs, ∃ i, v = .int i) (k : Kp H0 H) (e : H D = some (.lst xs)) : Dg H0 D (n + 1) (upd H D (.lst (xs ++ [.int i]))) :=
  ⟨xs ++ [.int i], by simp; exact hl, fun v hv => by
    rcases List.mem_append.mp hv with h | h
    · exact hi v h
    · exact ⟨i, by simpa using h⟩, k.mut h0 (no_tab e nt_lst), upd_same⟩
theorem Dg.mono {H0 H : Hp} {D : Addr} {n m : Nat} (h : Dg H0 D n H) (l : n ≤ m) : Dg H0 D m H := let ⟨xs, a, r⟩ := h; ⟨xs, Nat.le_trans a l, r⟩
theorem iteC {b : Bool} {A B : Prop} (h1 : A) (h2 : B) : if b = true then A else B := by
  cases b with
  | true => exact iteT h1
  | false => exact iteF h2
theorem cell_pos {R r k l} {b : Bool} {σ : L2.St} {H : Hp} {c : Int} (hs : σ[5]? = some (some (.int c))) (hσ : σ.set 5 (some (.int c)) = σ) (h : ∀ c', R (σ.set 5 (some (.int c'))) H) :
    if b = true then tAsg (tOp (rI0 fun i j => V.int (i - j)) (tC (V.int 1)) (tOp (rI CMul fun i j => V.int (i * j)) (tC (V.int 2)) (tVar 5))) (gName 5) ⟨R, r, k, l⟩ σ H else tNext ⟨R, r, k, l⟩ σ H := by
  cases b with
  | true => exact iteT ⟨_, hs, 2, c, rfl, rfl, .inl (by decide), 1, _, rfl, rfl, h _⟩
  | false =>
    refine iteF ?_
    have z := h c
    rw [hσ] at z
    exact z
section
variable {P : Program} {w : World} {K : PySem.W.Frag} {mg : Str → Option Value} {base : Heap}
theorem c_law_digits (D : DefAt K mg "_law_digits" s_law_digits ["script", "first", "last"]) (m_range : mg "range" = none) (m_int : mg "int" = none)
    (c__law_cell : Cal P w K mg base CX0 1 "_law_cell" ["script", "k"] (spCell K)) : Cal P w K mg base CX0 2 "_law_digits" ["script", "first", "last"] (spDigits K) := by
  refine D.cal (k := 1) sc_law_digits (fun vs H Q E h => ?_) fun f cdv A outer s H vs Q E hr h => ?_
  · obtain ⟨bx, d, last, rfl, _⟩ := h
    rfl
  · obtain ⟨a, ns, last, rfl, h200, ha, q⟩ := h
    refine ⟨_, (pss_cons (ps_set (i := 3) sc_law_digits.nd rfl (Or.inl rfl) (pe_lst pa_nil))
  (pss_cons (ps_for PassesOwn.never rfl (pi_range2 (by rfl) m_range (pa_cons (pv 1) (pa_cons (pv 2) pa_nil))) (pg_name (i := 4) sc_law_digits.nd rfl (Or.inl rfl)) (pss_cons (ps_set (i := 5) sc_law_digits.nd rfl (Or.inl rfl) (pe_cal (c__law_cell.mono (by omega)) hr (by rfl) (pa_cons (pv 0) (pa_cons (pv 4) pa_nil))))
  (pss_cons (ps_if (pt_cmpR op_lt (pv 5) pe_int (nomark _)) (pss_one (ps_set (i := 5) sc_law_digits.nd rfl (Or.inl rfl) (pe_op op_sub pe_int (pe_op op_mul pe_int (pv 5))))) pss_nil)
  (pss_one (ps_if (pt_cmpR op_ge (pv 5) (pe_op op_pow pe_int pe_int) (nomark _)) (pss_one (ps_for PassesOwn.never rfl (pi_range1 (by rfl) m_range (pa_cons pe_int pa_nil)) (pg_name (i := 6) sc_law_digits.nd rfl (Or.inl rfl)) (pss_one (ps_if (pt_cmpR op_gt (pv 5) pe_int (nomark _)) (pss_cons (ps_expr (pe_bm PySem.F.plainAttrs_list PySem.F.slot_list_append PySem.F.type_list_append mt_append (pv 3) (pa_cons (pe_op op_mod (pe_callTy call_int1 (by rfl) m_int (by decide +kernel) (pa_cons (pv 5) pa_nil)) pe_int) pa_nil)))
  (pss_one (ps_set (i := 5) sc_law_digits.nd rfl (Or.inl rfl) (pe_op op_fdiv (pv 5) pe_int)))) pss_nil)))) (pss_cons (ps_set (i := 7) sc_law_digits.nd rfl (Or.inl rfl) (pe_op op_mod (pe_callTy call_int1 (by rfl) m_int (by decide +kernel) (pa_cons (pe_op op_add (pe_op op_add (pe_op op_mul (pv 5) pe_int) (pe_op op_mul (pv 4) pe_int)) pe_int) pa_nil)) pe_int))
  (pss_one (ps_for PassesOwn.never rfl (pi_range1 (by rfl) m_range (pa_cons pe_int pa_nil)) (pg_name (i := 6) sc_law_digits.nd rfl (Or.inl rfl)) (pss_cons (ps_set (i := 7) sc_law_digits.nd rfl (Or.inl rfl) (pe_op op_mod (pe_callTy call_int1 (by rfl) m_int (by decide +kernel) (pa_cons (pe_op op_add (pe_op op_add (pe_op op_mul (pv 7) pe_int) (pe_op op_mul pe_int (pv 6))) pe_int) pa_nil)) pe_int))
  (pss_one (ps_expr (pe_bm PySem.F.plainAttrs_list PySem.F.slot_list_append PySem.F.type_list_append mt_append (pv 3) (pa_cons (pe_op op_mod (pe_callTy call_int1 (by rfl) m_int (by decide +kernel) (pa_cons (pe_op op_fdiv (pv 7) pe_int) pa_nil)) pe_int) pa_nil)))))))))))))
  (pss_one (ps_ret (pv 3))))), ?_⟩
    refine ⟨Nat.zero_le _, fun D hD => ⟨.int 0, rfl, .int (last : Int), rfl, 0, (last : Int), rfl, by omega, ?_⟩⟩
    refine ⟨fun i m σ H' => m = last - i ∧ i ≤ last ∧ (∃ o1 o2 o3 o4, σ = [some (.ref a), some (.int 0), some (.int (last : Int)), some (.ref D), o1, o2, o3, o4]) ∧ Dg H D (60 * i) H', ⟨_, rfl, Nat.zero_le _, ⟨none, none, none, none, rfl⟩, [], Nat.le_refl _, (fun _ h => by cases h), Kb.new hD, upd_same⟩, ?_⟩
    rintro i m σ H1 ⟨rfl, hi, ⟨o1, o2, o3, o4, rfl⟩, g⟩
    by_cases hl : i < last
    · refine .inr ⟨hl, fun σ' H' => (∃ o1 o2 o3 o4, σ' = [some (.ref a), some (.int 0), some (.int (last : Int)), some (.ref D), o1, o2, o3, o4]) ∧ Dg H D (60 * (i + 1)) H', fun σ' H' ⟨e1, e2⟩ => ⟨_, by omega, rfl, hl, e1, e2⟩, ?_⟩
      rintro x H2 ⟨rfl, rfl⟩
      have hsq : SqL K H2 a (ns.map V.int) := by
        obtain ⟨xs, _, _, k, e⟩ := g
        rcases ha with (ha | ⟨o, ha⟩) | ha
        · exact .inl (.inl (k.keep a _ ha (by simp) nt_lst))
        · exact .inl (.inr ⟨o, k.keep a _ ha (by simp) nt_frz⟩)
        · exact .inr ha
      refine ⟨.ref a, rfl, .int (0 + i), rfl, a, ns, _, rfl, by omega, hsq, fun c => ?_⟩
      refine ⟨_, rfl, c, 0, rfl, rfl, ?_⟩
      refine ⟨_, rfl, cell_pos rfl rfl fun c => ?_⟩
      refine ⟨_, rfl, 10, 18, rfl, rfl, ⟨by decide, by decide, by decide⟩, c, 10 ^ 18, rfl, rfl, ?_⟩
      refine ⟨_, rfl, ?_⟩
      refine iteC ?_ ?_
      · refine ⟨60, rfl, by decide, by decide, ?_⟩
        refine ⟨fun j m σ H' => m = 60 - j ∧ j ≤ 60 ∧ (∃ o1 c o3 o4, σ = [some (.ref a), some (.int 0), some (.int (last : Int)), some (.ref D), o1, some (.int c), o3, o4]) ∧ Dg H D (60 * i + j) H', ⟨_, rfl, Nat.zero_le _, ⟨_, _, _, _, rfl⟩, g⟩, ?_⟩
        rintro j m σ H3 ⟨rfl, hj, ⟨o1, c, o3, o4, rfl⟩, g⟩
        by_cases hl : j < 60
        · refine .inr ⟨hl, fun σ' H' => (∃ o1 c o3 o4, σ' = [some (.ref a), some (.int 0), some (.int (last : Int)), some (.ref D), o1, some (.int c), o3, o4]) ∧ Dg H D (60 * i + (j + 1)) H', fun σ' H' ⟨e1, e2⟩ => ⟨_, by omega, rfl, hl, e1, e2⟩, ?_⟩
          rintro x H4 ⟨rfl, rfl⟩
          refine ⟨_, rfl, c, 0, rfl, rfl, _, rfl, ?_⟩
          refine iteC ?_ ?_
          · obtain ⟨xs, h1, h2, h3, h4⟩ := g
            refine ⟨.ref D, rfl, .inl ⟨rfl, _, .inl (.inl h4)⟩, _, rfl, .inl ⟨c, rfl, c, 1000, rfl, rfl, by show (0 : Int) < 1000; decide, D, xs, _, rfl, rfl, h4, ?_, ?_⟩⟩
            · have : sizeLine = 16777216 := rfl
              omega
            · exact ⟨_, rfl, c, 1000, rfl, rfl, ⟨by decide, by decide⟩, ⟨_, _, _, _, rfl⟩, Dg.push hD h1 h2 h3 h4⟩
          · exact ⟨⟨_, _, _, _, rfl⟩, g.mono (by omega)⟩
        · exact .inl ⟨by show 60 ≤ j; omega, ⟨_, _, _, _, rfl⟩, g.mono (by omega)⟩
      · refine ⟨_, rfl, c, 48271, rfl, rfl, .inr (by decide), _, rfl, _, 69621, rfl, rfl, .inr (by decide), _, _, rfl, rfl, _, _, rfl, rfl, .inl ⟨_, rfl, _, 2147483647, rfl, rfl, by show (0 : Int) < 2147483647; decide, ?_⟩⟩
        refine ⟨12, rfl, by decide, by decide, ?_⟩
        refine ⟨fun j m σ H' => m = 12 - j ∧ j ≤ 12 ∧ (∃ o1 o2 o3 c, σ = [some (.ref a), some (.int 0), some (.int (last : Int)), some (.ref D), o1, o2, o3, some (.int c)]) ∧ Dg H D (60 * i + j) H', ⟨_, rfl, Nat.zero_le _, ⟨_, _, _, _, rfl⟩, g⟩, ?_⟩
        rintro j m σ H3 ⟨rfl, hj, ⟨o1, o2, o3, c, rfl⟩, g⟩
        by_cases hl : j < 12
        · refine .inr ⟨hl, fun σ' H' => (∃ o1 o2 o3 c, σ' = [some (.ref a), some (.int 0), some (.int (last : Int)), some (.ref D), o1, o2, o3, some (.int c)]) ∧ Dg H D (60 * i + (j + 1)) H', fun σ' H' ⟨e1, e2⟩ => ⟨_, by omega, rfl, hl, e1, e2⟩, ?_⟩
          rintro x H4 ⟨rfl, rfl⟩
          refine ⟨_, rfl, c, 16807, rfl, rfl, .inr (by decide), _, rfl, 7, _, rfl, rfl, .inl (by decide), _, _, rfl, rfl, _, _, rfl, rfl, .inl ⟨_, rfl, _, 2147483647, rfl, rfl, by show (0 : Int) < 2147483647; decide, ?_⟩⟩
          obtain ⟨xs, h1, h2, h3, h4⟩ := g
          refine ⟨.ref D, rfl, .inl ⟨rfl, _, .inl (.inl h4)⟩, _, rfl, _, 997, rfl, rfl, ⟨by decide, by decide⟩, .inl ⟨_, rfl, _, 1000, rfl, rfl, by show (0 : Int) < 1000; decide, D, xs, _, rfl, rfl, h4, ?_, ?_⟩⟩
          · have : sizeLine = 16777216 := rfl
            omega
          · exact ⟨⟨_, _, _, _, rfl⟩, Dg.push hD h1 h2 h3 h4⟩
        · exact .inl ⟨by show 12 ≤ j; omega, ⟨_, _, _, _, rfl⟩, g.mono (by omega)⟩
    · obtain ⟨xs, h1, h2, h3, h4⟩ := g
      refine .inl ⟨by show ((last : Int) - 0).toNat ≤ _; omega, ?_⟩
      exact ⟨_, rfl, q D H1 xs hD h3 h4 h2⟩
end

end Rd

namespace Rw
open PySem PySem.Spec PyProof.Rows L2 GxR Gx Gd Rx Rs
def spLaw (K : PySem.W.Frag) (ts : List Addr) : Sp := fun vs H Q _ => ∃ (a : Addr) (ns : List Int), vs = [.ref a] ∧ SqL K H a (ns.map V.int) ∧ (∀ T ∈ ts, TabG H T) ∧ ∀ H', Q (.bl true) H'
/-- the resources: a dict of good values, some names -/
def ResN (K : PySem.W.Frag) (H : Hp) (a : Addr) (ρ : Str → Option Va) (n : Nat) : Prop := ∃ kvs, H a = some (.dK kvs) ∧ kvs.length ≤ n ∧ ∀ x, match ρ x with
  | none => valV kvs (.inr x) = none
  | some va => va.good ∧ ∃ v, valV kvs (.inr x) = some v ∧ DtV K H v va
section
variable {K : PySem.W.Frag} {H H' : Hp} {a : Addr} {ρ : Str → Option Va} {n : Nat}
theorem ResN.dic (h : ResN K H a ρ n) : DicF K H a ρ := let ⟨kvs, e, _, h⟩ := h; ⟨kvs, e, h⟩
theorem ResN.kb {S : List Addr} (h : ResN K H a ρ n) (k : Kb S H H') (hS : Lsts S H) : ResN K H' a ρ n := by
  obtain ⟨kvs, e, l, h⟩ := h
  refine ⟨kvs, k.keep _ _ e (fun z => by obtain ⟨ys, e'⟩ := hS _ z; rw [e] at e'; cases e') (fun _ h => by cases h), l, fun x => ?_⟩
  have := h x
  cases es : ρ x with
  | none => rw [es] at this; exact this
  | some va =>
    rw [es] at this
    obtain ⟨g, v, h1, h2⟩ := this
    exact ⟨g, v, h1, h2.kb k hS⟩
theorem sq_upd {p a : Addr} {xs : List V} {kvs o : List (Key × V)} (h : SqT K H a xs) (e : H p = some (.dK kvs)) : SqT K (upd H p (.dK o)) a xs := by
  rcases h with (h | ⟨ob, h⟩) | h
  · exact .inl (.inl (by rw [upd_ne (fun z => by rw [z, e] at h; cases h)]; exact h))
  · exact .inl (.inr ⟨ob, by rw [upd_ne (fun z => by rw [z, e] at h; cases h)]; exact h⟩)
  · exact .inr h
theorem nod_upd {p a : Addr} {kvs o : List (Key × V)} (h : NoD K H a) (e : H p = some (.dK kvs)) : NoD K (upd H p (.dK o)) a := by
  rcases h with ⟨ob, u, h, d⟩ | h
  · exact .inl ⟨ob, u, by rw [upd_ne (fun z => by rw [z, e] at h; cases h)]; exact h, d⟩
  · exact .inr h
theorem dtv_upd {p : Addr} {kvs o : List (Key × V)} {v : V} {va : Va} (h : DtV K H v va) (e : H p = some (.dK kvs)) : DtV K (upd H p (.dK o)) v va := by
  cases h with
  | s h => exact .s (dt_upd h e)
  | m h n hb hs => exact .m (sq_upd h e) (nod_upd n e) (sq_upd hb e) (dtAll_upd hs e)
theorem dtr_upd {p : Addr} {kvs o : List (Key × V)} {v : V} {r : Re} (h : DtR K H v r) (e : H p = some (.dK kvs)) : DtR K (upd H p (.dK o)) v r := by
  cases h with
  | val h hx => exact .val (sq_upd h e) (dtv_upd hx e)
  | err h => exact .err (sq_upd h e)
  | wait h => exact .wait (sq_upd h e)
/-- a resource comes -/
theorem ResN.put {kvs : List (Key × V)} {x : Str} {v : V} {va : Va} (e : H a = some (.dK kvs)) (l : kvs.length ≤ n) (h : ∀ x, match ρ x with
  | none => valV kvs (.inr x) = none
  | some va => va.good ∧ ∃ v, valV kvs (.inr x) = some v ∧ DtV K H v va) (hv : DtV K H v va) (g : va.good) : ResN K (upd H a (.dK (putK kvs (.inr x) v))) a (come ρ x va) (n + 1) := by
  refine ⟨_, upd_same, ?_, fun y => ?_⟩
  · have : (putK kvs (.inr x) v).length ≤ kvs.length + 1 := by
      unfold putK
      split
      · rw [List.length_map]; omega
      · rw [List.length_append]; exact Nat.le_refl _
    omega
  · have := h y
    unfold come
    rw [valV_put]
    by_cases z : y = x
    · rw [if_pos z]
      exact ⟨g, v, if_pos (by rw [z]), dtv_upd hv e⟩
    · rw [if_neg z]
      have z2 : ¬ (Sum.inr y : Key) = .inr x := fun q => z (Sum.inr.inj q)
      cases es : ρ y with
      | none =>
        rw [es] at this
        show (if _ then _ else _) = _
        rw [if_neg z2]
        exact this
      | some u =>
        rw [es] at this
        obtain ⟨g1, v1, h1, h2⟩ := this
        exact ⟨g1, v1, by rw [if_neg z2]; exact h1, dtv_upd h2 e⟩
end
theorem for_brk {J : It} {n : Nat} {G : Hp → Prop} {Y : Nat → Hp → V → Hp → Prop} (w : Walk J n G Y) {g : TG} {tb : TS} {D : Ends} {σ : L2.St} {H : Hp} (Pv : Nat → L2.St → Hp → Prop) (Fin : L2.St → Hp → Prop) (fin : ∀ σ H, Fin σ H → D.nx σ H) (h0 : Pv 0 σ H) (hG : ∀ i σ H, i ≤ n → Pv i σ H → G H)
    (hs : (∀ σ H, Fin σ H → D.nx σ H) → ∀ i x σ H H', i < n → Pv i σ H → Y i H x H' → g x σ H' fun σ2 H2 => tb { D with nx := Pv (i + 1), ct := Pv (i + 1), bk := D.nx } σ2 H2) (hd : ∀ σ H, Pv n σ H → Fin σ H) :
    ∃ W : Nat → Nat → L2.St → Hp → Prop, (∃ m, W 0 m σ H) ∧ ∀ i m σ H, W i m σ H →
      (J.stop i H ∧ D.nx σ H) ∨ (J.go i H ∧ ∃ N : L2.St → Hp → Prop, (∀ σ' H', N σ' H' → ∃ m', m' < m ∧ W (i + 1) m' σ' H') ∧ ∀ x H', J.yld i H x H' → g x σ H' fun σ2 H2 => tb { D with nx := N, ct := N, bk := D.nx } σ2 H2) :=
  for_it w Pv h0 hG (hs fin) fun σ H h => fin σ H (hd σ H h)
theorem res_waits (r : Re) : decide (V.str (Str.ofString r.word) = V.str (Str.ofString "waits")) = r.isW := by
  cases r with
  | val v => show decide (V.str (Str.ofString "value") = V.str (Str.ofString "waits")) = false; rw [decide_eq_false (by decide +kernel)]
  | err m => show decide (V.str (Str.ofString "error") = V.str (Str.ofString "waits")) = false; rw [decide_eq_false (by decide +kernel)]
  | wait n => exact decide_eq_true rfl
theorem isW_no {r : Re} (h : r.isW = false) : NoW r := fun n z => by subst z; cases h
def σ0 : Str → Option Va := fun x => if x = Str.ofString "n" then some (.s (.int 2)) else none
theorem s0_good : ∀ x v, σ0 x = some v → v.good := fun x v e => by
  unfold σ0 at e
  split at e
  · cases e
    exact ⟨by decide, by decide⟩
  · cases e
theorem ResN.le {K : PySem.W.Frag} {H : Hp} {a : Addr} {ρ : Str → Option Va} {n m : Nat} (h : ResN K H a ρ n) (l : n ≤ m) : ResN K H a ρ m := by
  obtain ⟨kvs, e, l2, h⟩ := h
  exact ⟨kvs, e, by omega, h⟩
theorem ev_args {K : PySem.W.Frag} {env : L2.St} {H1 : Hp} {rd : Addr} (R : List V → Hp → Prop) (e5 : env[5]? = some (some (.ref rd))) (h : ∀ sc pr H2, Kp H1 H2 → DicF K H2 sc σ0 → SqT K H2 pr [] → R [.ref sc, .ref pr, .ref rd] H2) :
    tCons (tDisp [(tC (V.str (Str.ofString "n")), tTup (tCons (tC (V.str (Str.ofString "int"))) (tCons (tC (V.int 2)) tNil)))]) (tCons (tTup tNil) (tCons (tVar 5) tNil)) env H1 R := by
  refine fun p hp => ⟨by show 2 ≤ sizeLine; decide, fun t ht => ?_⟩
  have k1 : Kp H1 (upd H1 p (.dK [])) := Kb.new hp
  have e1 : (upd H1 p (.dK [])) p = some (.dK []) := upd_same
  generalize upd H1 p (.dK []) = G1 at k1 e1 ht ⊢
  have k2 : Kp G1 (upd G1 t (.tup [.str (Str.ofString "int"), .int 2])) := Kb.new ht
  have s2 : SqT K (upd G1 t (.tup [.str (Str.ofString "int"), .int 2])) t [.str (Str.ofString "int"), .int 2] := SqT.of upd_same
  generalize upd G1 t (.tup [.str (Str.ofString "int"), .int 2]) = G2 at k2 s2 ⊢
  have nD : ∀ kvs : List (Key × V), NoTab (.dK kvs) := fun _ _ h => by cases h
  have e2 := k2.keep _ _ e1 (by simp) (nD [])
  refine ⟨e2, [(.inr (Str.ofString "n"), .ref t)], rfl, by show 1 ≤ 15; decide, ?_⟩
  rw [merge_self (by simp)]
  have k3 : Kp H1 (upd G2 p (.dK [(.inr (Str.ofString "n"), .ref t)])) := (k1.trans k2).mut hp (no_tab e2 (nD []))
  have s3 := sq_upd (o := [(.inr (Str.ofString "n"), .ref t)]) s2 e2
  have e3 : (upd G2 p (.dK [(.inr (Str.ofString "n"), .ref t)])) p = some (.dK [(.inr (Str.ofString "n"), .ref t)]) := upd_same
  generalize upd G2 p (.dK [(.inr (Str.ofString "n"), .ref t)]) = G3 at k3 s3 e3 ⊢
  refine ⟨by show 0 ≤ sizeLine; decide, fun pr hpr => ⟨_, e5, ?_⟩⟩
  have k4 : Kp G3 (upd G3 pr (.tup [])) := Kb.new hpr
  refine h p pr _ (k3.trans k4) ?_ (SqT.of upd_same)
  refine ⟨_, k4.keep _ _ e3 (by simp) (nD _), fun x => ?_⟩
  unfold σ0
  by_cases z : x = Str.ofString "n"
  · rw [if_pos z]
    refine ⟨by show (0 : Int) ≤ 2 ∧ (2 : Int) ≤ 999999; decide, .ref t, by rw [z]; rfl, .s (.tup (k4.sqT Lsts.nil s3) (.cons (.str _) (.cons (.int _) .nil)))⟩
  · rw [if_neg z]
    exact valV_neg (fun q => z (Sum.inr.inj q).symm)
def nameV : List Str := ["r", "news", "a", "b", "tea", "zz"].map Str.ofString
end Rw

/-! The end: the facts of the top, with the tables of code objects that the head leaves. -/
namespace Gd
open PySem PySem.Spec PyProof.Rows L2 GxR Gx
theorem walk_G2 {l : PySem.W.OpenLaw} {n k : Nat} {q : Program} {loose : List Str} {XP : (Str → Option Value) → Heap → Prop} {YP : World → Heap → Prop} {d : DefRec} {K : Params → PySem.W.Frag} {CX : World → CXT} {x : Str}
    (hn : l.most = some n) (hn2 : n ≤ sizeLine) (hdf : d.params.defaults = []) (hr : RoomG k callerA) (hY : ∀ (w : World) (h : Heap), YP w h → (K w.params).In h)
    (F : ∀ (w : World) (mg : Str → Option Value) (fa : Addr) (h : Heap), YP w h → (K w.params).In h → h.Ns mainGlobals mg → mg d.name = some (.ref fa) →
      (∀ (y : Str) (d' : DefRec) (c P : Addr), (recsOf q).find? (fun e => e.name == y) = some d' → PySem.W.tabIn (K w.params) y = some (c, P) → PySem.W.CodeHd h c P ∧ h.get? P = some { cls := .none, data := .fields #[] }) → LawG l w (K w.params) (CX w) k n x mg fa h)
    (hCX : ∀ (w : World) (H : Hp) (s : Shared) (e : Value) (s' : Shared), CX w [] H s (fun _ _ _ => False) e s' → False) :
    PySem.W.WalkO q loose XP YP l.row.toRowW d [] (fun f vs => PySem.call f vs) := by
  refine Att.attach_callB hn hdf fun w s0 s1 mg mb fa o pm cd doc a vs ns G Y ho hd hcd hmg hobj hints hlen hbits hg => ?_
  obtain ⟨fd, cs, sp, hT, nT, C, hb, hsp, hF⟩ := F w mg fa _ Y (hY w _ Y) G.T.g hmg fun y d' c P hr ht => PySem.W.tab_of G.T (hY w _ Y) hr ht
  exact law_endG (hY w _ Y) G.T.g G.T.b G.T.builtins G.T.nolimit hg hT nT C G.T.bmain hobj hints (Nat.le_trans hlen hn2) hr hF hb (fun H hH hS => hsp H a ns hlen hbits hH hS) fun H e s' => hCX w H s1 e s'
/-- the def x, its code object at c -/
def DefC (K : PySem.W.Frag) (mg : Str → Option Value) (x : Str) (st : Stmt) (ps : List Str) (c : Addr) : Prop := ∃ f fd, Fun K x x st f fd ∧ mg x = some (.ref f) ∧ Binds K fd ps [] ∧ fd.code = .ref c
theorem DefC.tab {K : PySem.W.Frag} {mg : Str → Option Value} {base : Heap} {x : Str} {st : Stmt} {ps : List Str} {c T : Addr} (D : DefC K mg x st ps c) (B : TabB base mg c T) : DefTab K mg base x st ps T :=
  let ⟨f, fd, F, g, b, e⟩ := D; ⟨f, fd, c, F, g, b, e, B⟩
section
variable {K : PySem.W.Frag} {h : Heap} {mg : Str → Option Value} {x : Str} {st : Stmt} {ps : List Str} {f c T : Addr} {od an od1 : Option Addr} {sl sl1 : Array (Option Value)} {oc kV dc pm cd ct oc1 : Value} {vs : Array Value}
theorem def_k (X : K.In h) (G : h.Ns mainGlobals mg) (a : PySem.W.nsIn K mainGlobals x = some (some (.ref f))) (l : K.lookup f = some ⟨oc, od, .func (PySem.W.fnOf x x (defArgs st) (defBody st) (defScope st) .none kV dc pm an cd ct), sl⟩) (c : PySem.W.codeIn K cd x = true) (k : PySem.W.keepIn K (.ref f) = true)
    (b : ∀ (kV doc pm : Value) (an : Option Addr) (cdv ct : Value) (us : List Value), us.length = ps.length → bindArgs (PySem.W.fnOf x x (defArgs st) (defBody st) (defScope st) .none kV doc pm an cdv ct) ⟨us, []⟩ = pure (ps.zip us)) : DefAt K mg x st ps :=
  ⟨f, _, fun_mk l c k, PySem.W.mg_of X G a, (fun_mk l c k).binds b⟩
theorem def_c (X : K.In h) (G : h.Ns mainGlobals mg) (a : PySem.W.nsIn K mainGlobals x = some (some (.ref f))) (l : K.lookup f = some ⟨oc, od, .func (PySem.W.fnOf x x (defArgs st) (defBody st) (defScope st) .none kV dc pm an (.ref c) ct), sl⟩) (cc : PySem.W.codeIn K (.ref c) x = true) (k : PySem.W.keepIn K (.ref f) = true)
    (l1 : K.lookup c = some ⟨oc1, od1, .fields vs, sl1⟩) (hv : vs[11]? = some (.ref T))
    (b : ∀ (kV doc pm : Value) (an : Option Addr) (cdv ct : Value) (us : List Value), us.length = ps.length → bindArgs (PySem.W.fnOf x x (defArgs st) (defBody st) (defScope st) .none kV doc pm an cdv ct) ⟨us, []⟩ = pure (ps.zip us)) : DefC K mg x st ps c ∧ PySem.W.tabIn K x = some (c, T) := by
  refine ⟨⟨f, _, fun_mk l cc k, PySem.W.mg_of X G a, (fun_mk l cc k).binds b, rfl⟩, ?_⟩
  unfold PySem.W.tabIn
  rw [a]
  show (match K.lookup f with
    | some ⟨_, _, .func fd, _⟩ => _
    | _ => none) = _
  rw [l]
  show (match K.lookup c with
    | some ⟨_, _, .fields vs, _⟩ => _
    | _ => none) = _
  rw [l1]
  show (match (vs[11]? : Option Value) with
    | some (.ref P) => some (c, P)
    | _ => none) = _
  rw [hv]
theorem law_k {fa : Addr} {p1 : Str} (X : K.In h) (G : h.Ns mainGlobals mg) (hfa : mg x = some (.ref fa)) (a : PySem.W.nsIn K mainGlobals x = some (some (.ref f))) (l : K.lookup f = some ⟨oc, od, .func (PySem.W.fnOf x x (defArgs st) (defBody st) (defScope st) .none kV dc pm an cd ct), sl⟩) (c : PySem.W.codeIn K cd x = true) (k : PySem.W.keepIn K (.ref f) = true)
    (b : ∀ (kV doc pm : Value) (an : Option Addr) (cdv ct : Value) (s : Shared) (u : Value), BindsTo s (PySem.W.fnOf x x (defArgs st) (defBody st) (defScope st) .none kV doc pm an cdv ct) ⟨[u], []⟩ [(p1, u)]) : ∃ fd, Fun K x x st fa fd ∧ ∀ (s : Shared) (u : Value), BindsTo s fd ⟨[u], []⟩ [(p1, u)] := by
  have e := hfa.symm.trans (PySem.W.mg_of X G a)
  cases e
  exact ⟨_, fun_mk l c k, b _ _ _ _ _ _⟩
theorem glob_k {t : Tok} {i : Int} (X : K.In h) (G : h.Ns mainGlobals mg) (a : PySem.W.nsIn K mainGlobals x = some (some (.int i t))) : ∃ t, mg x = some (.int i t) := ⟨t, PySem.W.mg_of X G a⟩
theorem no_tabs (X : K.In h) (hK : PySem.W.noTabs K = true) (hT : h.get? T = some { cls := .none, data := .fields #[] }) : K.lookup T = none := by
  cases e : K.lookup T with
  | none => rfl
  | some o =>
    have h1 := X T o e
    rw [hT] at h1
    cases h1
    have h2 := List.all_eq_true.mp hK _ (PySem.W.mem_of_lookupK e)
    exact absurd (show false = true from h2) Bool.false_ne_true
end
end Gd

/-! Facts of the written part for the ends of laws: texts, tuples of texts, dicts. -/
namespace Gd
open PySem PySem.Spec PyProof.Rows L2 GxR Gx
section
variable {K : PySem.W.Frag} {h : Heap} {mg : Str → Option Value} {x : Str} {a C CV : Addr}
theorem glob_z {t : Tok} {y : Str} (z : Str) (X : K.In h) (G : h.Ns mainGlobals mg) (e : PySem.W.nsIn K mainGlobals x = some (some (.str y t))) (hy : y = z) : ∃ t, mg x = some (.str z t) := ⟨t, by rw [← hy]; exact PySem.W.mg_of X G e⟩
/-- the texts of values -/
def strsB : List Value → List Str → Bool
  | [], [] => true
  | .str y _ :: r, z :: s => decide (y = z) && strsB r s
  | _, _ => false
theorem strsB_vals : ∀ {vs : List Value} {zs : List Str}, strsB vs zs = true → Vals (zs.map V.str) vs
  | [], [], _ => .nil
  | [], _ :: _, h => by cases h
  | v :: r, [], h => by cases v <;> cases h
  | v :: r, z :: s, h => by
    cases v with
    | str y t =>
      have h : (decide (y = z) && strsB r s) = true := h
      rw [Bool.and_eq_true, decide_eq_true_eq] at h
      rw [← h.1]
      exact .cons ⟨t, rfl⟩ (strsB_vals h.2)
    | _ => cases h
theorem strsB_len : ∀ {vs : List Value} {zs : List Str}, strsB vs zs = true → vs.length = zs.length := fun h => by
  have := (strsB_vals h).length
  rw [List.length_map] at this
  exact this.symm
theorem strs_k {dd : Option Addr} {n : Nat} {sl : Array (Option Value)} {vs : Array Value} (zs : List Str) (l : K.lookup a = some ⟨.type "tuple", dd, .seq vs n, sl⟩) (hv : strsB vs.toList zs = true) (hl : zs.length ≤ 1000) : ∀ H, SqT K H a (zs.map V.str) := fun H =>
  .inr ⟨_, _, n, l, rfl, rfl, by rw [← Array.length_toList, strsB_len hv]; exact Nat.le_trans hl (by decide), strsB_vals hv⟩
theorem pairs_k {dd : Option Addr} {n : Nat} {sl : Array (Option Value)} {vs : Array Value} (z1 z2 : Str) (l : K.lookup a = some ⟨.type "tuple", dd, .seq vs n, sl⟩) (hv : strsB vs.toList [z1, z2] = true) : ∀ H, Dt K H (.ref a) (.tuple [.str z1, .str z2]) := fun H =>
  .tup (strs_k [z1, z2] l hv (by show 2 ≤ 1000; decide) H) (.cons (.str _) (.cons (.str _) .nil))
/-- an int at a text key -/
def intAtB (es : List DictEntry) (x : Str) (i : Int) : Bool := match es.find? (·.key.isStr x) with
  | some e => (match e.val with | .int j _ => decide (j = i) | _ => false)
  | none => false
theorem int_kd {w : World} {n : Nat} {es : Array DictEntry} {x : Str} {i : Int} (l : K.lookup a = some ⟨.type "dict", none, .dict es n, #[]⟩) (hk : PySem.W.KeysLit w.params es.toList) (hb : intAtB es.toList x i = true) : KDct K w a x (.int i) := by
  unfold intAtB at hb
  cases e : es.toList.find? (·.key.isStr x) with
  | none => rw [e] at hb; cases hb
  | some en =>
    rw [e] at hb
    dsimp only at hb
    cases ev : en.val with
    | int j t =>
      rw [ev] at hb
      obtain rfl : j = i := of_decide_eq_true hb
      refine ⟨es, n, .int j t, l, hk, ?_, ⟨t, rfl⟩⟩
      unfold PySem.W.nsIn
      rw [l]
      dsimp only
      rw [e]
      dsimp only
      rw [ev]
    | _ => rw [ev] at hb; cases hb
/-- the class of an error without a field -/
theorem badN_k (X : K.In h) (G : h.Ns mainGlobals mg) (g : PySem.W.nsIn K mainGlobals x = some (some (.ref C))) (q : PySem.W.excIn K C [.type "ValueError", .type "Exception", .type "BaseException", .type "object"] "ValueError.__new__" = true) (kp : PySem.W.keepIn K (.ref C) = true)
    (b : PySem.W.subIn K (.ref C) (.type "BaseException") = some true) (t : PySem.W.typeIn K (.ref C) = some (.type "type")) : BadN K mg x C := ⟨q, PySem.W.mg_of X G g, kp, b, t⟩
theorem catN_k {xV : Str} (X : K.In h) (G : h.Ns mainGlobals mg) (g : PySem.W.nsIn K mainGlobals x = some (some (.ref C))) (gV : PySem.W.nsIn K mainGlobals xV = some (some (.ref CV)))
    (sV : PySem.W.subIn K (.ref CV) (.type "BaseException") = some true) (hV : PySem.W.hasDictIn K CV = true) (tV : PySem.W.typeIn K (.ref CV) = some (.type "type")) (cV : PySem.W.subIn K (.ref C) (.ref CV) = some true)
    (ga : PySem.W.findIn K (.ref C) "__getattribute__" = some (some (.builtin "BaseException.__getattribute__"))) (gg : PySem.W.findIn K (.ref C) "__getattr__" = some none) (sub : PySem.W.subIn K (.ref C) (.type "BaseException") = some true) (hd : PySem.W.hasDictIn K C = true)
    (ca : PySem.W.findIn K (.ref C) "__class__" = some (some (.builtin "object.__class__"))) (sg : PySem.W.specialIn K (.builtin "object.__class__") "__get__" = some (some (.builtin "getset_descriptor.__get__"))) (tk : PySem.W.takesIn K (.builtin "object.__class__") = some true)
    (mo : PySem.W.mroIn K C (.type "object") = some true) (vE : PySem.W.subIn K (.ref C) (.type "ValueError") = some true) : CatN K mg x xV C CV := by
  refine ⟨PySem.W.mg_of X G g, PySem.W.mg_of X G gV, PySem.W.exm_ref sV hV tV cV, ⟨ga, gg, sub, hd, ca, sg, tk, mo⟩, ?_, ?_⟩
  · unfold PySem.W.kitOne
    rw [if_pos (beq_self_eq_true _)]
  · unfold PySem.W.kitOne
    rw [if_neg (show ¬ ((Value.ref C == Value.type "ValueError") = true) by rw [show (Value.ref C == Value.type "ValueError") = false from rfl]; exact Bool.false_ne_true)]
    show (if PySem.W.kitMeta "ValueError" = true then PySem.W.subIn K (.ref C) (.type "ValueError") else none) = _
    rw [if_pos (by decide +kernel), vE]
theorem ints_kd {w : World} {n : Nat} {es : Array DictEntry} {ls : List (List Nat)} {sx' : List Nat → Str} {f : List Nat → Nat} (l : K.lookup a = some ⟨.type "dict", none, .dict es n, #[]⟩) (hk : PySem.W.KeysLit w.params es.toList) (hb : ls.all (fun x => intAtB es.toList (sx' x) (f x : Nat)) = true) :
    ∀ x ∈ ls, KDct K w a (sx' x) (.int (f x : Nat)) := fun x hx => int_kd l hk (List.all_eq_true.mp hb x hx)
theorem dict3_k {w : World} {n : Nat} {h1 h2 h3 : Int} {t1 t2 t3 u1 u2 u3 : Tok} {k1 k2 k3 v1 v2 v3 k1' k2' k3' v1' v2' v3' : Str} (l : K.lookup a = some ⟨.type "dict", none, .dict #[⟨h1, .str k1 t1, .str v1 u1⟩, ⟨h2, .str k2 t2, .str v2 u2⟩, ⟨h3, .str k3 t3, .str v3 u3⟩] n, #[]⟩)
    (e1 : h1 = PyData.keyHash w.params k1) (e2 : h2 = PyData.keyHash w.params k2) (e3 : h3 = PyData.keyHash w.params k3) (low : (a == sysModules) = false) (q1 : k1 = k1') (q2 : k2 = k2') (q3 : k3 = k3') (p1 : v1 = v1') (p2 : v2 = v2') (p3 : v3 = v3') :
    KDict K w a #[⟨h1, .str k1' t1, .str v1' u1⟩, ⟨h2, .str k2' t2, .str v2' u2⟩, ⟨h3, .str k3' t3, .str v3' u3⟩] n := by
  subst q1 q2 q3 p1 p2 p3
  exact ⟨l, ⟨⟨_, _, rfl, e1⟩, ⟨_, _, rfl, e2⟩, ⟨_, _, rfl, e3⟩, trivial⟩, low⟩
end
end Gd

namespace Rw
open PySem PySem.Spec PyProof.Rows L2 GxR Gx Gd Rx Rs
def refAtB (es : List DictEntry) (x : Str) (g : Addr) : Bool := match es.find? (·.key.isStr x) with
  | some e => (match e.val with | .ref j => decide (j = g) | _ => false)
  | none => false
def strAtB (es : List DictEntry) (x z : Str) : Bool := match es.find? (·.key.isStr x) with
  | some e => (match e.val with | .str y _ => decide (y = z) | _ => false)
  | none => false
def tupB (K : PySem.W.Frag) (j : Addr) (zs : List Str) : Bool := match K.lookup j with
  | some ⟨.type "tuple", _, .seq vs _, _⟩ => strsB vs.toList zs
  | _ => false
def tupAtB (K : PySem.W.Frag) (es : List DictEntry) (x : Str) (zs : List Str) : Bool := match es.find? (·.key.isStr x) with
  | some e => (match e.val with | .ref j => tupB K j zs | _ => false)
  | none => false
section
variable {K : PySem.W.Frag} {w : World} {a : Addr} {n : Nat} {es : Array DictEntry}
theorem find_ns {x : Str} {en : DictEntry} (l : K.lookup a = some ⟨.type "dict", none, .dict es n, #[]⟩) (e : es.toList.find? (·.key.isStr x) = some en) : PySem.W.nsIn K a x = some (some en.val) := by
  unfold PySem.W.nsIn
  rw [l]
  dsimp only
  rw [e]
theorem ref_kd {x : Str} {g : Addr} (l : K.lookup a = some ⟨.type "dict", none, .dict es n, #[]⟩) (hk : PySem.W.KeysLit w.params es.toList) (hb : refAtB es.toList x g = true) : KDct K w a x (.ref g) := by
  unfold refAtB at hb
  cases e : es.toList.find? (·.key.isStr x) with
  | none => rw [e] at hb; cases hb
  | some en =>
    rw [e] at hb
    dsimp only at hb
    cases ev : en.val with
    | ref j =>
      rw [ev] at hb
      obtain rfl : j = g := of_decide_eq_true hb
      exact ⟨es, n, .ref j, l, hk, by rw [find_ns l e, ev], rfl⟩
    | _ => rw [ev] at hb; cases hb
theorem str_kd {x z : Str} (l : K.lookup a = some ⟨.type "dict", none, .dict es n, #[]⟩) (hk : PySem.W.KeysLit w.params es.toList) (hb : strAtB es.toList x z = true) : KDct K w a x (.str z) := by
  unfold strAtB at hb
  cases e : es.toList.find? (·.key.isStr x) with
  | none => rw [e] at hb; cases hb
  | some en =>
    rw [e] at hb
    dsimp only at hb
    cases ev : en.val with
    | str j t =>
      rw [ev] at hb
      obtain rfl : j = z := of_decide_eq_true hb
      exact ⟨es, n, .str j t, l, hk, by rw [find_ns l e, ev], ⟨t, rfl⟩⟩
    | _ => rw [ev] at hb; cases hb
theorem tup_k {j : Addr} {zs : List Str} (h : tupB K j zs = true) (hl : zs.length ≤ 1000) : ∀ H, SqT K H j (zs.map V.str) := by
  unfold tupB at h
  split at h
  · rename_i l
    exact strs_k zs l h hl
  · cases h
theorem tup_kd {x : Str} {zs : List Str} (l : K.lookup a = some ⟨.type "dict", none, .dict es n, #[]⟩) (hk : PySem.W.KeysLit w.params es.toList) (hl : zs.length ≤ 1000) (hb : tupAtB K es.toList x zs = true) : ∃ aK, KDct K w a x (.ref aK) ∧ ∀ H, SqT K H aK (zs.map V.str) := by
  unfold tupAtB at hb
  cases e : es.toList.find? (·.key.isStr x) with
  | none => rw [e] at hb; cases hb
  | some en =>
    rw [e] at hb
    dsimp only at hb
    cases ev : en.val with
    | ref j =>
      rw [ev] at hb
      exact ⟨j, ⟨es, n, .ref j, l, hk, by rw [find_ns l e, ev], rfl⟩, tup_k hb hl⟩
    | _ => rw [ev] at hb; cases hb
def wrongL : List (String × String) := [("integer", "not an integer"), ("boolean", "not a boolean"), ("scalar", "not a scalar"), ("map", "not a map"), ("key", "not a key")]
theorem refs_kd {ls : List (String × Addr)} (l : K.lookup a = some ⟨.type "dict", none, .dict es n, #[]⟩) (hk : PySem.W.KeysLit w.params es.toList) (hb : ls.all (fun p => refAtB es.toList (sx (cs p.1)) p.2) = true) : ∀ p ∈ ls, KDct K w a (sx (cs p.1)) (.ref p.2) := fun p hp => ref_kd l hk (List.all_eq_true.mp hb p hp)
theorem strs_kd {ls : List (String × String)} (l : K.lookup a = some ⟨.type "dict", none, .dict es n, #[]⟩) (hk : PySem.W.KeysLit w.params es.toList) (hb : ls.all (fun p => strAtB es.toList (Str.ofString p.1) (Str.ofString p.2)) = true) : ∀ p ∈ ls, KDct K w a (Str.ofString p.1) (.str (Str.ofString p.2)) := fun p hp => str_kd l hk (List.all_eq_true.mp hb p hp)
theorem kinds_kd (l : K.lookup a = some ⟨.type "dict", none, .dict es n, #[]⟩) (hk : PySem.W.KeysLit w.params es.toList) (hb : eager.all (fun f => tupAtB K es.toList (sx f) ((kindsOf f).map fun k => Str.ofString k.name)) = true) :
    ∀ f ∈ eager, ∃ aK, KDct K w a (sx f) (.ref aK) ∧ ∀ H, SqT K H aK ((kindsOf f).map fun k => V.str (Str.ofString k.name)) := fun f hf => by
  have h3 : (kindsOf f).length ≤ 3 := by
    have := List.all_eq_true.mp kinds_arity f hf
    have h := of_decide_eq_true this
    rw [h]
    exact Nat.le_trans (arity_le (eager_funs f hf)) (Nat.le_refl _)
  obtain ⟨aK, h1, h2⟩ := tup_kd l hk (zs := (kindsOf f).map fun k => Str.ofString k.name) (by rw [List.length_map]; omega) (List.all_eq_true.mp hb f hf)
  refine ⟨aK, h1, fun H => ?_⟩
  have := h2 H
  rw [List.map_map] at this
  exact this
where
  eager_funs (f : List Nat) (hf : f ∈ eager) : f ∈ funs := by
    have : eager.all (fun f => decide (f ∈ funs)) = true := by decide +kernel
    exact of_decide_eq_true (List.all_eq_true.mp this f hf)
end
section
variable {P : Program} {w : World} {K : PySem.W.Frag} {mg : Str → Option Value} {base : Heap} {aKi aWr aAct A0 : Addr} {ts : List Addr}
theorem DefAt.no0 {x : Str} {st : Stmt} {N ps : List Str} {k : Nat} (D : DefAt K mg x st ps) (S : FnScope N ps (defScope st)) : Cal P w K mg base CX0 (k + 1) x ps (fun _ _ _ _ => False) := D.cal S (fun _ _ _ _ h => h.elim) fun _ _ _ _ _ _ _ _ _ _ h => h.elim
theorem act_mk {x : Str} {ps : List Str} {g : Addr} {fn : List Nat} {ks : List Kd} {op : List Va → Re} (c : Cal P w K mg base CX0 2 x ps (spOp K ks op)) (hg : mg x = some (.ref g)) (hk : KDct K w aAct (sx fn) (.ref g)) (e1 : kindsOf fn = ks) (e2 : oper fn = op) :
    ∃ (g : Addr) (fd : FuncData) (ps : List Str), KDct K w aAct (sx fn) (.ref g) ∧ FnG P w K mg base CX0 2 g fd ps (spOp K (kindsOf fn) (oper fn)) ∧ PySem.W.keepIn K (.ref g) = true ∧ Binds K fd ps [] := by
  obtain ⟨f, fd, F, hm, kp, b⟩ := c
  rw [hg] at hm
  cases hm
  subst e1 e2
  exact ⟨g, fd, ps, hk, F, kp, b⟩
theorem ev_all {a0 a1 a2 a3 a4 a5 a6 a7 a8 a9 a10 a11 a12 : Addr} (D_evaluate : DefAt K mg "evaluate" s_evaluate ["expression", "scope", "provided", "resources"]) (D_wrong_kind : DefAt K mg "wrong_kind" s_wrong_kind ["value", "kind"]) (D__is_of_kind : DefAt K mg "_is_of_kind" s_is_of_kind ["value", "kind"]) (D__value_in : DefAt K mg "_value_in" s_value_in ["scope", "name"]) (D__injected : DefAt K mg "_injected" s_injected ["name", "otherwise", "around"]) (D__called : DefAt K mg "_called" s_called ["function", "arguments", "around"]) (D__applied : DefAt K mg "_applied" s_applied ["function", "values"]) (D__both : DefAt K mg "_both" s_both ["one", "other", "around"]) (D__chosen : DefAt K mg "_chosen" s_chosen ["arguments", "around"]) (D__boolean_of : DefAt K mg "_boolean_of" s_boolean_of ["expression", "around"]) (D__resource : DefAt K mg "_resource" s_resource ["name", "resources"]) (D__boolean : DefAt K mg "_boolean" s_boolean ["truth"]) (D__integer : DefAt K mg "_integer" s_integer ["number"]) (D__map_value : DefAt K mg "_map_value" s_map_value ["entries"]) (D__negated : DefAt K mg "_negated" s_negated ["boolean"]) (D__size : DefAt K mg "_size" s_size ["whole"]) (D__reversed_map : DefAt K mg "_reversed_map" s_reversed_map ["whole"]) (D__sum_of : DefAt K mg "_sum_of" s_sum_of ["one", "other"]) (D__difference : DefAt K mg "_difference" s_difference ["one", "other"]) (D__is_less : DefAt K mg "_is_less" s_is_less ["one", "other"]) (D__is_same : DefAt K mg "_is_same" s_is_same ["one", "other"]) (D__joined : DefAt K mg "_joined" s_joined ["one", "other"]) (D__has : DefAt K mg "_has" s_has ["whole", "key"]) (D__scalar_at : DefAt K mg "_scalar_at" s_scalar_at ["whole", "key"]) (D__without : DefAt K mg "_without" s_without ["whole", "key"]) (D__first_entries : DefAt K mg "_first_entries" s_first_entries ["whole", "number"]) (D__with_entry : DefAt K mg "_with_entry" s_with_entry ["whole", "key", "scalar"]) (D_plain : DefAt K mg "plain" Rv.s_plain ["scalar"]) (D_is_key : DefAt K mg "is_key" Rv.s_is_key ["thing"]) (D_is_character : DefAt K mg "is_character" Rv.s_is_character ["char"])
    (m_isinstance : mg "isinstance" = none) (m_str : mg "str" = none) (m_len : mg "len" = none) (m_all : mg "all" = none) (m_ord : mg "ord" = none) (m_tuple : mg "tuple" = none) (m_list : mg "list" = none) (m_dict : mg "dict" = none) (m_zip : mg "zip" = none) (g_PERCENT : ∃ t, mg "PERCENT" = some (.int 37 t)) (g_KEY_LENGTH : ∃ t, mg "KEY_LENGTH" = some (.int 12 t)) (g_TEXT_LENGTH : ∃ t, mg "TEXT_LENGTH" = some (.int 40 t)) (g_MAP_SIZE : ∃ t, mg "MAP_SIZE" = some (.int 8 t)) (g_GREATEST_INTEGER : ∃ t, mg "GREATEST_INTEGER" = some (.int 999999 t))
    (g_KINDS : mg "KINDS" = some (.ref aKi)) (g_WRONG_KINDS : mg "WRONG_KINDS" = some (.ref aWr)) (g_ACTIONS : mg "ACTIONS" = some (.ref aAct)) (g__negated : mg "_negated" = some (.ref a0)) (g__size : mg "_size" = some (.ref a1)) (g__reversed_map : mg "_reversed_map" = some (.ref a2)) (g__sum_of : mg "_sum_of" = some (.ref a3)) (g__difference : mg "_difference" = some (.ref a4)) (g__is_less : mg "_is_less" = some (.ref a5)) (g__is_same : mg "_is_same" = some (.ref a6)) (g__joined : mg "_joined" = some (.ref a7)) (g__has : mg "_has" = some (.ref a8)) (g__scalar_at : mg "_scalar_at" = some (.ref a9)) (g__without : mg "_without" = some (.ref a10)) (g__first_entries : mg "_first_entries" = some (.ref a11)) (g__with_entry : mg "_with_entry" = some (.ref a12))
    (hKi : ∀ f ∈ eager, ∃ aK, KDct K w aKi (sx f) (.ref aK) ∧ ∀ H, SqT K H aK ((kindsOf f).map fun k => V.str (Str.ofString k.name))) (hWr : ∀ p ∈ wrongL, KDct K w aWr (Str.ofString p.1) (.str (Str.ofString p.2)))
    (hA : ∀ p ∈ ([("not", a0), ("size", a1), ("reverse", a2), ("add", a3), ("sub", a4), ("lt", a5), ("eq", a6), ("concat", a7), ("has", a8), ("get", a9), ("remove", a10), ("take", a11), ("put", a12)] : List (String × Addr)), KDct K w aAct (sx (cs p.1)) (.ref p.2))
    (c__is_text : Cal P w K mg base CX0 3 "_is_text" ["thing", "shortest", "longest"] (Rv.spText K ts)) : Cal P w K mg base CX0 28 "evaluate" ["expression", "scope", "provided", "resources"] (spEv K ts 5) := by
  have c_is_key := Rv.c_is_key (P := P) (w := w) (base := base) D_is_key g_KEY_LENGTH c__is_text
  have c_plain := Rv.c_plain (P := P) (w := w) (base := base) D_plain m_str
  have c_boolean := c_boolean (P := P) (w := w) (base := base) D__boolean
  have c_integer := c_integer (P := P) (w := w) (base := base) D__integer
  have c_map_value := c_map_value (P := P) (w := w) (base := base) D__map_value m_tuple
  have c_is_of_kind := c_is_of_kind (P := P) (w := w) (base := base) D__is_of_kind c_is_key
  have hWr2 : ∀ k : Kd, k ≠ .any → KDct K w aWr (Str.ofString k.name) (.str (Str.ofString k.msg)) := fun k hk => by
    cases k with
    | int => exact hWr ("integer", "not an integer") (by simp [wrongL])
    | bool => exact hWr ("boolean", "not a boolean") (by simp [wrongL])
    | scalar => exact hWr ("scalar", "not a scalar") (by simp [wrongL])
    | map => exact hWr ("map", "not a map") (by simp [wrongL])
    | key => exact hWr ("key", "not a key") (by simp [wrongL])
    | any => exact absurd rfl hk
  have c_wrong_kind := c_wrong_kind (P := P) (w := w) (base := base) D_wrong_kind g_WRONG_KINDS hWr2 c_is_of_kind
  have c_value_in := c_value_in (P := P) (w := w) (base := base) D__value_in
  have c_resource := c_resource (P := P) (w := w) (base := base) D__resource
  have x0 := act_mk (aAct := aAct) (c_negated (P := P) (w := w) (base := base) D__negated c_boolean) g__negated (hA ("not", a0) (by simp)) kinds_not oper_not
  have x1 := act_mk (aAct := aAct) (c_size (P := P) (w := w) (base := base) D__size m_len c_integer) g__size (hA ("size", a1) (by simp)) kinds_size oper_size
  have x2 := act_mk (aAct := aAct) (c_reversed_map (P := P) (w := w) (base := base) D__reversed_map c_map_value) g__reversed_map (hA ("reverse", a2) (by simp)) kinds_reverse oper_reverse
  have x3 := act_mk (aAct := aAct) (c_sum_of (P := P) (w := w) (base := base) D__sum_of g_GREATEST_INTEGER c_integer) g__sum_of (hA ("add", a3) (by simp)) kinds_add oper_add
  have x4 := act_mk (aAct := aAct) (c_difference (P := P) (w := w) (base := base) D__difference c_integer) g__difference (hA ("sub", a4) (by simp)) kinds_sub oper_sub
  have x5 := act_mk (aAct := aAct) (c_is_less (P := P) (w := w) (base := base) D__is_less c_boolean) g__is_less (hA ("lt", a5) (by simp)) kinds_lt oper_lt
  have x6 := act_mk (aAct := aAct) (c_is_same (P := P) (w := w) (base := base) D__is_same c_boolean) g__is_same (hA ("eq", a6) (by simp)) kinds_eq oper_eq
  have x7 := act_mk (aAct := aAct) (c_joined (P := P) (w := w) (base := base) D__joined m_len g_TEXT_LENGTH c_plain) g__joined (hA ("concat", a7) (by simp)) kinds_concat oper_concat
  have x8 := act_mk (aAct := aAct) (c_has (P := P) (w := w) (base := base) D__has m_dict c_boolean) g__has (hA ("has", a8) (by simp)) kinds_has oper_has
  have x9 := act_mk (aAct := aAct) (c_scalar_at (P := P) (w := w) (base := base) D__scalar_at m_dict) g__scalar_at (hA ("get", a9) (by simp)) kinds_get oper_get
  have x10 := act_mk (aAct := aAct) (c_without (P := P) (w := w) (base := base) D__without c_map_value) g__without (hA ("remove", a10) (by simp)) kinds_remove oper_remove
  have x11 := act_mk (aAct := aAct) (c_first_entries (P := P) (w := w) (base := base) D__first_entries c_map_value) g__first_entries (hA ("take", a11) (by simp)) kinds_take oper_take
  have x12 := act_mk (aAct := aAct) (c_with_entry (P := P) (w := w) (base := base) D__with_entry m_dict m_len m_list g_MAP_SIZE c_map_value) g__with_entry (hA ("put", a12) (by simp)) kinds_put oper_put
  have c_applied := c_applied (P := P) (w := w) (base := base) (ts := ts) D__applied m_zip g_KINDS hKi g_ACTIONS (fun f hf => by
    simp only [eager, List.map_cons, List.map_nil, List.mem_cons, List.not_mem_nil, or_false] at hf
    rcases hf with rfl | rfl | rfl | rfl | rfl | rfl | rfl | rfl | rfl | rfl | rfl | rfl | rfl
    · exact x0
    · exact x1
    · exact x2
    · exact x3
    · exact x4
    · exact x5
    · exact x6
    · exact x7
    · exact x8
    · exact x9
    · exact x10
    · exact x11
    · exact x12
    ) c_wrong_kind
  have go : ∀ m, Cal P w K mg base CX0 (8 + 4 * m) "evaluate" ["expression", "scope", "provided", "resources"] (spEv K ts m) := fun m => by
    induction m with
    | zero => exact c_evaluate (m := 0) (k := 7) (by decide) D_evaluate c_value_in (DefAt.no0 D__injected sc_injected) (DefAt.no0 D__called sc_called)
    | succ m ih =>
      have h1 := c_boolean_of (k := 8 + 4 * m) (by omega) D__boolean_of c_wrong_kind ih
      have h2 := c_both (k := 8 + 4 * m + 1) (by omega) D__both h1
      have h3 := c_chosen (k := 8 + 4 * m + 1) (by omega) D__chosen h1 (ih.mono (by omega))
      have h4 := c_injected (k := 8 + 4 * m) (by omega) D__injected ih
      have h5 := c_called (k := 8 + 4 * m + 1 + 1) (by omega) D__called h2 h3 (ih.mono (by omega)) c_resource c_applied
      exact c_evaluate (m := m + 1) (k := 8 + 4 * m + 1 + 1 + 1) (by omega) D_evaluate c_value_in (h4.mono (by omega)) h5
  exact go 5
end
end Rw

/-! Two values that are shown alike are the same. -/
namespace Rw
open PySem PySem.Spec PyProof.Rows L2 GxR Gx Gd Rx Rs
abbrev rc (q c : Nat) : List Nat := Builtin.Str.reprChar q c
theorem rc_is {q c : Nat} (hc : 32 ≤ c ∧ c ≤ 126) : rc q c = if c = q ∨ c = 92 then [92, c] else [c] := by
  have hp : Unicode.isPrintable c = true := by
    have : ∀ d : Fin 127, 32 ≤ d.val → Unicode.isPrintable d.val = true := by decide +kernel
    exact this ⟨c, by omega⟩ hc.1
  unfold rc Builtin.Str.reprChar
  by_cases h : c = q ∨ c = 92
  · rw [if_pos h]
    have : (c == q || c == 92) = true := by simpa using h
    simp only [this, if_true]
  · rw [if_neg h]
    have e1 : (c == q || c == 92) = false := by simpa using h
    have e2 : (c == 10) = false := by simp; omega
    have e3 : (c == 13) = false := by simp; omega
    have e4 : (c == 9) = false := by simp; omega
    simp only [e1, e2, e3, e4, hp, if_true, Bool.false_eq_true, if_false]
def PrL (l : List Nat) : Prop := ∀ c ∈ l, 32 ≤ c ∧ c ≤ 126
theorem esc_inj {q : Nat} (hq : q ≠ 92) : ∀ {l m r s : List Nat}, PrL l → PrL m → l.flatMap (rc q) ++ q :: r = m.flatMap (rc q) ++ q :: s → l = m ∧ r = s
  | [], [], r, s, _, _, h => ⟨rfl, (List.cons.inj h).2⟩
  | [], d :: m, r, s, _, hm, h => by
    have hd := hm d List.mem_cons_self
    rw [List.flatMap_cons, rc_is hd] at h
    split at h
    · exact absurd (List.cons.inj h).1 hq
    · rename_i z
      exact absurd (Or.inl (List.cons.inj h).1.symm) z
  | c :: l, [], r, s, hl, _, h => by
    have hd := hl c List.mem_cons_self
    rw [List.flatMap_cons, rc_is hd] at h
    split at h
    · exact absurd (List.cons.inj h).1.symm hq
    · rename_i z
      exact absurd (Or.inl (List.cons.inj h).1) z
  | c :: l, d :: m, r, s, hl, hm, h => by
    have h1 := hl c List.mem_cons_self
    have h2 := hm d List.mem_cons_self
    rw [List.flatMap_cons, List.flatMap_cons, rc_is h1, rc_is h2] at h
    have go : c = d → l.flatMap (rc q) ++ q :: r = m.flatMap (rc q) ++ q :: s → c :: l = d :: m ∧ r = s := fun e h => by
      obtain ⟨h3, h4⟩ := esc_inj hq (fun x hx => hl x (List.mem_cons_of_mem _ hx)) (fun x hx => hm x (List.mem_cons_of_mem _ hx)) h
      exact ⟨by rw [e, h3], h4⟩
    split at h
    · split at h
      · have h := (List.cons.inj h).2
        exact go (List.cons.inj h).1 (List.cons.inj h).2
      · rename_i z
        exact absurd (Or.inr (List.cons.inj h).1.symm) z
    · rename_i z
      split at h
      · exact absurd (Or.inr (List.cons.inj h).1) z
      · exact go (List.cons.inj h).1 (List.cons.inj h).2
/-- the signs of a text when shown -/
def rL (l : List Nat) : List Nat := let q := if l.contains 39 && !l.contains 34 then 34 else 39; q :: (l.flatMap (rc q) ++ [q])
theorem rL_is (x : Str) : TL.tl (reprText x) = rL (TL.tl x) := by
  have e : ∀ (q : Nat) (l : List Nat) (acc : Array Nat), (l.foldl (fun out c => out ++ (Builtin.Str.reprChar q c).toArray) acc).toList = acc.toList ++ l.flatMap (rc q) := fun q l => by
    induction l with
    | nil => intro acc; simp
    | cons c l ih => intro acc; rw [List.foldl_cons, ih, List.flatMap_cons]; simp [rc]
  have hq : reprQuote x = (if (TL.tl x).contains 39 && !(TL.tl x).contains 34 then 34 else 39) := by
    unfold reprQuote
    have c1 : ∀ n, x.cps.contains n = (TL.tl x).contains n := fun n => by
      show x.cps.contains n = x.cps.toList.contains n
      simp
    rw [c1, c1]
  show ((x.cps.foldl (fun out c => out ++ (Builtin.Str.reprChar (reprQuote x) c).toArray) #[reprQuote x]).push (reprQuote x)).toList = _
  rw [Array.toList_push, ← Array.foldl_toList, e, hq]
  rfl
theorem rL_inj {l m r s : List Nat} (hl : PrL l) (hm : PrL m) (h : rL l ++ r = rL m ++ s) : l = m ∧ r = s := by
  unfold rL at h
  simp only [List.cons_append, List.append_assoc] at h
  have h1 := (List.cons.inj h).1
  have h2 := (List.cons.inj h).2
  rw [← h1] at h2
  exact esc_inj (by split <;> decide) hl hm h2
end Rw

namespace Rw
open PySem PySem.Spec PyProof.Rows L2 GxR Gx Gd Rx Rs
abbrev S (d : PyData) : List Nat := TL.tl d.shown
theorem S_pair (a b : PyData) : S (.tuple [a, b]) = 40 :: (S a ++ 44 :: 32 :: (S b ++ [41])) := by
  show TL.tl (tupleText [a.shown, b.shown]) = _
  unfold tupleText
  rw [TL.tl_append, TL.tl_append, TL.tl_join]
  rw [show TL.tl (Str.ofString "(") = [40] by decide +kernel, show TL.tl (Str.ofString ", ") = [44, 32] by decide +kernel, show TL.tl (Str.ofString (if ([a.shown, b.shown].length == 1) = true then ",)" else ")" : String)) = [41] by show TL.tl (Str.ofString ")") = [41]; decide +kernel]
  show [40] ++ (S a ++ ([44, 32] ++ S b)) ++ [41] = _
  simp
theorem S_one (a : PyData) : S (.tuple [a]) = 40 :: (S a ++ [44, 41]) := by
  show TL.tl (tupleText [a.shown]) = _
  unfold tupleText
  rw [TL.tl_append, TL.tl_append, TL.tl_join]
  rw [show TL.tl (Str.ofString "(") = [40] by decide +kernel, show TL.tl (Str.ofString (if ([a.shown].length == 1) = true then ",)" else ")" : String)) = [44, 41] by show TL.tl (Str.ofString ",)") = _; decide +kernel]
  show [40] ++ S a ++ [44, 41] = _
  simp
def behS (l : List (List Nat)) : List Nat := l.flatMap fun t => 44 :: 32 :: t
theorem join_behS : ∀ (t : List Nat) (l : List (List Nat)), TL.joinL [44, 32] (t :: l) = t ++ behS l
  | t, [] => by show t = t ++ []; rw [List.append_nil]
  | t, u :: l => by
    have ih := join_behS u l
    show t ++ ([44, 32] ++ TL.joinL [44, 32] (u :: l)) = _
    rw [ih]
    rfl
theorem S_tup (a : PyData) (ds : List PyData) : S (.tuple (a :: ds)) = 40 :: (S a ++ (behS (ds.map S) ++ (if ds = [] then [44, 41] else [41]))) := by
  cases ds with
  | nil => rw [S_one]; rfl
  | cons b ds =>
    show TL.tl (tupleText (a.shown :: PyData.shownAll (b :: ds))) = _
    have e : ∀ l : List PyData, (PyData.shownAll l).map TL.tl = l.map S := fun l => by
      induction l with
      | nil => rfl
      | cons x l ih => show TL.tl x.shown :: (PyData.shownAll l).map TL.tl = _; rw [ih]; rfl
    unfold tupleText
    rw [TL.tl_append, TL.tl_append, TL.tl_join, List.map_cons, e, show TL.tl (Str.ofString ", ") = [44, 32] by decide +kernel, join_behS]
    rw [show TL.tl (Str.ofString "(") = [40] by decide +kernel, show TL.tl (Str.ofString (if ((a.shown :: PyData.shownAll (b :: ds)).length == 1) = true then ",)" else ")" : String)) = [41] by show TL.tl (Str.ofString ")") = [41]; decide +kernel, if_neg (by simp)]
    show [40] ++ (S a ++ behS ((b :: ds).map S)) ++ [41] = _
    simp
theorem S_str (x : Str) : S (.str x) = rL (TL.tl x) := rL_is x
theorem pr_w (s : String) (h : ((Str.ofString s).cps.toList.all fun c => decide (32 ≤ c) && decide (c ≤ 126)) = true) : PrL (TL.tl (Str.ofString s)) := fun c hc => by
  have := List.all_eq_true.mp h c hc
  rw [Bool.and_eq_true, decide_eq_true_eq, decide_eq_true_eq] at this
  exact this
theorem pr_chars {l : List Nat} (h : l.all Rv.isChar = true) : PrL l := fun c hc => by
  have h : isChar c = true := List.all_eq_true.mp h c hc
  unfold isChar at h
  rw [Bool.and_eq_true, rg] at h
  omega
theorem ext_str {x y : Str} (h : TL.tl x = TL.tl y) : x = y := TL.ext_tl h
/-- what a scalar has behind its kind -/
def scW : Rv.Sc → String
  | .none => "none"
  | .bool _ => "bool"
  | .int _ => "int"
  | .text _ => "text"
def scB : Rv.Sc → List Nat
  | .none => [44, 41]
  | .bool b => 44 :: 32 :: (S (.bool b) ++ [41])
  | .int i => 44 :: 32 :: (S (.int i) ++ [41])
  | .text x => 44 :: 32 :: (S (.str x) ++ [41])
theorem S_sc (s : Rv.Sc) : S s.d = 40 :: (rL (TL.tl (Str.ofString (scW s))) ++ scB s) := by
  cases s with
  | none => show S (.tuple [.str (Str.ofString "none")]) = _; rw [S_one, S_str]; rfl
  | bool b => show S (.tuple [.str (Str.ofString "bool"), .bool b]) = _; rw [S_pair, S_str]; rfl
  | int i => show S (.tuple [.str (Str.ofString "int"), .int i]) = _; rw [S_pair, S_str]; rfl
  | text x => show S (.tuple [.str (Str.ofString "text"), .str x]) = _; rw [S_pair, S_str]; rfl
theorem sc_pr (s : Rv.Sc) : PrL (TL.tl (Str.ofString (scW s))) := by cases s <;> (dsimp only [scW]; exact pr_w _ (by decide +kernel))
theorem dig_inj : ∀ {l m r s : List Nat}, (∀ c ∈ l, 48 ≤ c ∧ c ≤ 57) → (∀ c ∈ m, 48 ≤ c ∧ c ≤ 57) → l ++ 41 :: r = m ++ 41 :: s → l = m ∧ r = s
  | [], [], r, s, _, _, h => ⟨rfl, (List.cons.inj h).2⟩
  | [], d :: m, r, s, _, hm, h => by
    have := hm d List.mem_cons_self
    have := (List.cons.inj h).1
    omega
  | c :: l, [], r, s, hl, _, h => by
    have := hl c List.mem_cons_self
    have := (List.cons.inj h).1
    omega
  | c :: l, d :: m, r, s, hl, hm, h => by
    obtain ⟨h1, h2⟩ := List.cons.inj h
    obtain ⟨h3, h4⟩ := dig_inj (fun x hx => hl x (List.mem_cons_of_mem _ hx)) (fun x hx => hm x (List.mem_cons_of_mem _ hx)) h2
    exact ⟨by rw [h1, h3], h4⟩
theorem sc_inj {s t : Rv.Sc} (g : s.good) (g2 : t.good) {u v : List Nat} (h : S s.d ++ u = S t.d ++ v) : s = t ∧ u = v := by
  rw [S_sc, S_sc, List.cons_append, List.cons_append, List.append_assoc, List.append_assoc] at h
  obtain ⟨h1, h2⟩ := rL_inj (sc_pr s) (sc_pr t) (List.cons.inj h).2
  have hw : Str.ofString (scW s) = Str.ofString (scW t) := ext_str h1
  cases s with
  | none =>
    cases t with
    | none => exact ⟨rfl, List.append_cancel_left h2⟩
    | _ => dsimp only [scW] at hw; exact absurd hw (by decide +kernel)
  | bool b =>
    cases t with
    | bool c =>
      have h2 : 44 :: 32 :: ((S (.bool b) ++ [41]) ++ u) = 44 :: 32 :: ((S (.bool c) ++ [41]) ++ v) := h2
      have h2 := (List.cons.inj (List.cons.inj h2).2).2
      rw [List.append_assoc, List.append_assoc] at h2
      have eT : S (.bool true) = [84, 114, 117, 101] := by decide +kernel
      have eF : S (.bool false) = [70, 97, 108, 115, 101] := by decide +kernel
      cases b <;> cases c
      · exact ⟨rfl, (List.cons.inj (List.append_cancel_left h2)).2⟩
      · rw [eT, eF] at h2; exact absurd (List.cons.inj h2).1 (by decide)
      · rw [eT, eF] at h2; exact absurd (List.cons.inj h2).1 (by decide)
      · exact ⟨rfl, (List.cons.inj (List.append_cancel_left h2)).2⟩
    | _ => dsimp only [scW] at hw; exact absurd hw (by decide +kernel)
  | int i =>
    cases t with
    | int j =>
      have h2 : 44 :: 32 :: ((S (.int i) ++ [41]) ++ u) = 44 :: 32 :: ((S (.int j) ++ [41]) ++ v) := h2
      have h2 := (List.cons.inj (List.cons.inj h2).2).2
      rw [List.append_assoc, List.append_assoc] at h2
      have g : 0 ≤ i ∧ i ≤ 999999 := g
      have g2 : 0 ≤ j ∧ j ≤ 999999 := g2
      obtain ⟨m, rfl⟩ : ∃ n : Nat, i = n := ⟨i.toNat, by omega⟩
      obtain ⟨n, rfl⟩ : ∃ n : Nat, j = n := ⟨j.toNat, by omega⟩
      have em : S (.int (m : Int)) = TL.numL m := TL.tl_num m
      have en : S (.int (n : Int)) = TL.numL n := TL.tl_num n
      rw [em, en] at h2
      obtain ⟨h3, h4⟩ := dig_inj (TL.numL_digits m) (TL.numL_digits n) h2
      refine ⟨?_, h4⟩
      have := congrArg NumText.digitsVal h3
      rw [TL.numL_val, TL.numL_val] at this
      rw [this]
    | _ => dsimp only [scW] at hw; exact absurd hw (by decide +kernel)
  | text x =>
    cases t with
    | text y =>
      have h2 : 44 :: 32 :: ((S (.str x) ++ [41]) ++ u) = 44 :: 32 :: ((S (.str y) ++ [41]) ++ v) := h2
      have h2 := (List.cons.inj (List.cons.inj h2).2).2
      rw [List.append_assoc, List.append_assoc, S_str, S_str] at h2
      have g : Rv.textOk x := g
      have g2 : Rv.textOk y := g2
      obtain ⟨h3, h4⟩ := rL_inj (pr_chars g.2) (pr_chars g2.2) h2
      exact ⟨by rw [ext_str h3], (List.cons.inj h4).2⟩
    | _ => dsimp only [scW] at hw; exact absurd hw (by decide +kernel)
theorem key_pr {k : Str} (h : Rv.keyOk k) : PrL (TL.tl k) := by
  have h1 : (decide (1 ≤ (k.length : Int)) && decide ((k.length : Int) ≤ 12) && k.cps.toList.all Rv.isChar) = true := h.1
  rw [Bool.and_eq_true] at h1
  exact pr_chars h1.2
theorem ent_inj {p q : Str × Rv.Sc} (h1 : Rv.keyOk p.1 ∧ p.2.good) (h2 : Rv.keyOk q.1 ∧ q.2.good) {u v : List Nat} (h : S (Rv.ent p) ++ u = S (Rv.ent q) ++ v) : p = q ∧ u = v := by
  have e : ∀ p : Str × Rv.Sc, S (Rv.ent p) = 40 :: (rL (TL.tl p.1) ++ 44 :: 32 :: (S p.2.d ++ [41])) := fun p => by
    show S (.tuple [.str p.1, p.2.d]) = _
    rw [S_pair, S_str]
  rw [e, e, List.cons_append, List.cons_append, List.append_assoc, List.append_assoc] at h
  obtain ⟨h3, h4⟩ := rL_inj (key_pr h1.1) (key_pr h2.1) (List.cons.inj h).2
  have h4 : 44 :: 32 :: ((S p.2.d ++ [41]) ++ u) = 44 :: 32 :: ((S q.2.d ++ [41]) ++ v) := h4
  have h4 := (List.cons.inj (List.cons.inj h4).2).2
  rw [List.append_assoc, List.append_assoc] at h4
  obtain ⟨h5, h6⟩ := sc_inj h1.2 h2.2 h4
  exact ⟨Prod.ext (ext_str h3) h5, (List.cons.inj h6).2⟩
theorem beh_inj : ∀ {ps qs : List (Str × Rv.Sc)} {u v : List Nat}, (∀ p ∈ ps, Rv.keyOk p.1 ∧ p.2.good) → (∀ p ∈ qs, Rv.keyOk p.1 ∧ p.2.good) → behS (ps.map fun p => S (Rv.ent p)) ++ 41 :: u = behS (qs.map fun p => S (Rv.ent p)) ++ 41 :: v → ps = qs ∧ u = v
  | [], [], u, v, _, _, h => ⟨rfl, (List.cons.inj h).2⟩
  | [], q :: qs, u, v, _, _, h => absurd (List.cons.inj h).1 (by decide)
  | p :: ps, [], u, v, _, _, h => absurd (List.cons.inj h).1 (by decide)
  | p :: ps, q :: qs, u, v, hp, hq, h => by
    have h : (44 :: 32 :: S (Rv.ent p)) ++ behS (ps.map fun p => S (Rv.ent p)) ++ 41 :: u = (44 :: 32 :: S (Rv.ent q)) ++ behS (qs.map fun p => S (Rv.ent p)) ++ 41 :: v := h
    rw [List.append_assoc, List.append_assoc, List.cons_append, List.cons_append, List.cons_append, List.cons_append] at h
    have h := (List.cons.inj (List.cons.inj h).2).2
    obtain ⟨h1, h2⟩ := ent_inj (hp p List.mem_cons_self) (hq q List.mem_cons_self) h
    obtain ⟨h3, h4⟩ := beh_inj (fun x hx => hp x (List.mem_cons_of_mem _ hx)) (fun x hx => hq x (List.mem_cons_of_mem _ hx)) h2
    exact ⟨by rw [h1, h3], h4⟩
theorem ents_inj {ps qs : List (Str × Rv.Sc)} (hp : ∀ p ∈ ps, Rv.keyOk p.1 ∧ p.2.good) (hq : ∀ p ∈ qs, Rv.keyOk p.1 ∧ p.2.good) {u v : List Nat} (h : S (.tuple (ps.map Rv.ent)) ++ u = S (.tuple (qs.map Rv.ent)) ++ v) : ps = qs ∧ u = v := by
  have e0 : S (.tuple []) = [40, 41] := by decide +kernel
  have em : ∀ l : List (Str × Rv.Sc), (l.map Rv.ent).map S = l.map fun p => S (Rv.ent p) := fun l => by rw [List.map_map]; rfl
  have hd : ∀ p : Str × Rv.Sc, ∃ r, S (Rv.ent p) = 40 :: r := fun p => ⟨_, by show S (.tuple [.str p.1, p.2.d]) = _; rw [S_pair]⟩
  cases ps with
  | nil =>
    cases qs with
    | nil => exact ⟨rfl, List.append_cancel_left h⟩
    | cons q qs =>
      rw [List.map_nil, List.map_cons, e0, S_tup] at h
      obtain ⟨r, hr⟩ := hd q
      rw [hr] at h
      exact absurd (List.cons.inj (List.cons.inj h).2).1 (by decide)
  | cons p ps =>
    cases qs with
    | nil =>
      rw [List.map_nil, List.map_cons, e0, S_tup] at h
      obtain ⟨r, hr⟩ := hd p
      rw [hr] at h
      exact absurd (List.cons.inj (List.cons.inj h).2).1 (by decide)
    | cons q qs =>
      rw [List.map_cons, List.map_cons, S_tup, S_tup, em, em, List.cons_append, List.cons_append] at h
      simp only [List.append_assoc, List.map_eq_nil_iff] at h
      obtain ⟨h1, h2⟩ := ent_inj (hp p List.mem_cons_self) (hq q List.mem_cons_self) (List.cons.inj h).2
      have hp' : ∀ x ∈ ps, Rv.keyOk x.1 ∧ x.2.good := fun x hx => hp x (List.mem_cons_of_mem _ hx)
      have hq' : ∀ x ∈ qs, Rv.keyOk x.1 ∧ x.2.good := fun x hx => hq x (List.mem_cons_of_mem _ hx)
      cases ps with
      | nil =>
        cases qs with
        | nil => exact ⟨by rw [h1], List.append_cancel_left h2⟩
        | cons b qs =>
          have h2 : 44 :: 41 :: u = 44 :: 32 :: _ := h2
          exact absurd (List.cons.inj (List.cons.inj h2).2).1 (by decide)
      | cons a ps =>
        cases qs with
        | nil =>
          have h2 : 44 :: 32 :: _ = 44 :: 41 :: v := h2
          exact absurd (List.cons.inj (List.cons.inj h2).2).1 (by decide)
        | cons b qs =>
          rw [if_neg (by simp), if_neg (by simp)] at h2
          obtain ⟨h3, h4⟩ := beh_inj hp' hq' h2
          exact ⟨by rw [h1, h3], h4⟩
theorem va_inj {a b : Va} (g : a.good) (g2 : b.good) (h : a.d.shown = b.d.shown) : a = b := by
  have h : S a.d = S b.d := congrArg TL.tl h
  have hm : ∀ ps, S (Va.m ps).d = 40 :: (rL (TL.tl (Str.ofString "map")) ++ 44 :: 32 :: (S (.tuple (ps.map Rv.ent)) ++ [41])) := fun ps => by
    show S (.tuple [.str (Str.ofString "map"), .tuple (ps.map Rv.ent)]) = _
    rw [S_pair, S_str]
  have pm : PrL (TL.tl (Str.ofString "map")) := pr_w _ (by decide +kernel)
  cases a with
  | s x =>
    cases b with
    | s y =>
      have := sc_inj (s := x) (t := y) g g2 (u := []) (v := []) (by rw [List.append_nil, List.append_nil]; exact h)
      rw [this.1]
    | m qs =>
      rw [hm] at h
      have h : S x.d = _ := h
      rw [S_sc] at h
      have := (rL_inj (sc_pr x) pm (List.cons.inj h).2).1
      have hw := ext_str this
      cases x <;> (dsimp only [scW] at hw; exact absurd hw (by decide +kernel))
  | m ps =>
    cases b with
    | s y =>
      rw [hm] at h
      have h : _ = S y.d := h
      rw [S_sc] at h
      have := (rL_inj pm (sc_pr y) (List.cons.inj h).2).1
      have hw := ext_str this
      cases y <;> (dsimp only [scW] at hw; exact absurd hw (by decide +kernel))
    | m qs =>
      rw [hm, hm] at h
      have h1 := (rL_inj pm pm (List.cons.inj h).2).2
      have h2 := (List.cons.inj (List.cons.inj h1).2).2
      have g : Rv.Ents ps := g
      have g2 : Rv.Ents qs := g2
      rw [(ents_inj g.ok g2.ok h2).1]
/-! ### == of values -/
theorem eqv_sc {s t : Rv.Sc} (h : PyData.eqv s.d t.d = true) : s = t := by
  have e2 : ∀ (a b c d : PyData), PyData.eqv (.tuple [a, b]) (.tuple [c, d]) = (PyData.eqv a c && (PyData.eqv b d && true)) := fun a b c d => by simp only [PyData.eqv, PyData.eqvAll]
  cases s with
  | none =>
    cases t with
    | none => rfl
    | _ => exact absurd h (by simp [Rv.Sc.d, PyData.eqv, PyData.eqvAll])
  | bool b =>
    cases t with
    | bool c =>
      have h : PyData.eqv (.tuple [.str (Str.ofString "bool"), .bool b]) (.tuple [.str (Str.ofString "bool"), .bool c]) = true := h
      rw [e2, Bool.and_eq_true, Bool.and_true] at h
      have h2 : (b == c) = true := by simpa [PyData.eqv] using h.2
      rw [eq_of_beq h2]
    | none => exact absurd h (by simp [Rv.Sc.d, PyData.eqv, PyData.eqvAll])
    | int j =>
      have h : PyData.eqv (.tuple [.str (Str.ofString "bool"), .bool b]) (.tuple [.str (Str.ofString "int"), .int j]) = true := h
      rw [e2, Bool.and_eq_true] at h
      exact absurd h.1 (by show ¬ PyData.eqv (.str (Str.ofString "bool")) (.str (Str.ofString "int")) = true; decide +kernel)
    | text x =>
      have h : PyData.eqv (.tuple [.str (Str.ofString "bool"), .bool b]) (.tuple [.str (Str.ofString "text"), .str x]) = true := h
      rw [e2, Bool.and_eq_true] at h
      exact absurd h.1 (by show ¬ PyData.eqv (.str (Str.ofString "bool")) (.str (Str.ofString "text")) = true; decide +kernel)
  | int i =>
    cases t with
    | int j =>
      have h : PyData.eqv (.tuple [.str (Str.ofString "int"), .int i]) (.tuple [.str (Str.ofString "int"), .int j]) = true := h
      rw [e2, Bool.and_eq_true, Bool.and_true] at h
      have h2 : (i == j) = true := by simpa [PyData.eqv] using h.2
      rw [eq_of_beq h2]
    | none => exact absurd h (by simp [Rv.Sc.d, PyData.eqv, PyData.eqvAll])
    | bool j =>
      have h : PyData.eqv (.tuple [.str (Str.ofString "int"), .int i]) (.tuple [.str (Str.ofString "bool"), .bool j]) = true := h
      rw [e2, Bool.and_eq_true] at h
      exact absurd h.1 (by show ¬ PyData.eqv (.str (Str.ofString "int")) (.str (Str.ofString "bool")) = true; decide +kernel)
    | text x =>
      have h : PyData.eqv (.tuple [.str (Str.ofString "int"), .int i]) (.tuple [.str (Str.ofString "text"), .str x]) = true := h
      rw [e2, Bool.and_eq_true] at h
      exact absurd h.1 (by show ¬ PyData.eqv (.str (Str.ofString "int")) (.str (Str.ofString "text")) = true; decide +kernel)
  | text x =>
    cases t with
    | text y =>
      have h : PyData.eqv (.tuple [.str (Str.ofString "text"), .str x]) (.tuple [.str (Str.ofString "text"), .str y]) = true := h
      rw [e2, Bool.and_eq_true, Bool.and_true] at h
      have h2 : (x == y) = true := by simpa [PyData.eqv] using h.2
      rw [eq_of_beq h2]
    | none => exact absurd h (by simp [Rv.Sc.d, PyData.eqv, PyData.eqvAll])
    | bool j =>
      have h : PyData.eqv (.tuple [.str (Str.ofString "text"), .str x]) (.tuple [.str (Str.ofString "bool"), .bool j]) = true := h
      rw [e2, Bool.and_eq_true] at h
      exact absurd h.1 (by show ¬ PyData.eqv (.str (Str.ofString "text")) (.str (Str.ofString "bool")) = true; decide +kernel)
    | int j =>
      have h : PyData.eqv (.tuple [.str (Str.ofString "text"), .str x]) (.tuple [.str (Str.ofString "int"), .int j]) = true := h
      rw [e2, Bool.and_eq_true] at h
      exact absurd h.1 (by show ¬ PyData.eqv (.str (Str.ofString "text")) (.str (Str.ofString "int")) = true; decide +kernel)
theorem eqv_ents : ∀ {ps qs : List (Str × Rv.Sc)}, PyData.eqvAll (ps.map Rv.ent) (qs.map Rv.ent) = true → ps = qs
  | [], [], _ => rfl
  | [], _ :: _, h => by simp [PyData.eqvAll] at h
  | _ :: _, [], h => by simp [PyData.eqvAll] at h
  | p :: ps, q :: qs, h => by
    have h : (PyData.eqv (Rv.ent p) (Rv.ent q) && PyData.eqvAll (ps.map Rv.ent) (qs.map Rv.ent)) = true := by simpa only [List.map_cons, PyData.eqvAll] using h
    rw [Bool.and_eq_true] at h
    have h0 : PyData.eqv (.tuple [.str p.1, p.2.d]) (.tuple [.str q.1, q.2.d]) = true := h.1
    have h1 : (PyData.eqv (.str p.1) (.str q.1) && (PyData.eqv p.2.d q.2.d && true)) = true := by simpa only [PyData.eqv, PyData.eqvAll] using h0
    rw [Bool.and_eq_true, Bool.and_true] at h1
    have h2 : (p.1 == q.1) = true := by simpa only [PyData.eqv] using h1.1
    rw [show p = q from Prod.ext (eq_of_beq h2) (eqv_sc h1.2), eqv_ents h.2]
theorem eqv_va {a b : Va} (h : PyData.eqv a.d b.d = true) : a = b := by
  have e2 : ∀ (a b c d : PyData), PyData.eqv (.tuple [a, b]) (.tuple [c, d]) = (PyData.eqv a c && (PyData.eqv b d && true)) := fun a b c d => by simp only [PyData.eqv, PyData.eqvAll]
  have no : ∀ (x : Rv.Sc) (ps : List (Str × Rv.Sc)), PyData.eqv x.d (Va.m ps).d = true → False := fun x ps h => by
    cases x with
    | none => exact absurd h (by simp [Rv.Sc.d, Va.d, Rv.mapD, PyData.eqv, PyData.eqvAll])
    | bool b =>
      have h : PyData.eqv (.tuple [.str (Str.ofString "bool"), .bool b]) (.tuple [.str (Str.ofString "map"), .tuple (ps.map Rv.ent)]) = true := h
      rw [e2, Bool.and_eq_true] at h
      exact absurd h.1 (by show ¬ PyData.eqv (.str (Str.ofString "bool")) (.str (Str.ofString "map")) = true; decide +kernel)
    | int b =>
      have h : PyData.eqv (.tuple [.str (Str.ofString "int"), .int b]) (.tuple [.str (Str.ofString "map"), .tuple (ps.map Rv.ent)]) = true := h
      rw [e2, Bool.and_eq_true] at h
      exact absurd h.1 (by show ¬ PyData.eqv (.str (Str.ofString "int")) (.str (Str.ofString "map")) = true; decide +kernel)
    | text b =>
      have h : PyData.eqv (.tuple [.str (Str.ofString "text"), .str b]) (.tuple [.str (Str.ofString "map"), .tuple (ps.map Rv.ent)]) = true := h
      rw [e2, Bool.and_eq_true] at h
      exact absurd h.1 (by show ¬ PyData.eqv (.str (Str.ofString "text")) (.str (Str.ofString "map")) = true; decide +kernel)
  have no2 : ∀ (x : Rv.Sc) (ps : List (Str × Rv.Sc)), PyData.eqv (Va.m ps).d x.d = true → False := fun x ps h => by
    cases x with
    | none => exact absurd h (by simp [Rv.Sc.d, Va.d, Rv.mapD, PyData.eqv, PyData.eqvAll])
    | bool b =>
      have h : PyData.eqv (.tuple [.str (Str.ofString "map"), .tuple (ps.map Rv.ent)]) (.tuple [.str (Str.ofString "bool"), .bool b]) = true := h
      rw [e2, Bool.and_eq_true] at h
      exact absurd h.1 (by show ¬ PyData.eqv (.str (Str.ofString "map")) (.str (Str.ofString "bool")) = true; decide +kernel)
    | int b =>
      have h : PyData.eqv (.tuple [.str (Str.ofString "map"), .tuple (ps.map Rv.ent)]) (.tuple [.str (Str.ofString "int"), .int b]) = true := h
      rw [e2, Bool.and_eq_true] at h
      exact absurd h.1 (by show ¬ PyData.eqv (.str (Str.ofString "map")) (.str (Str.ofString "int")) = true; decide +kernel)
    | text b =>
      have h : PyData.eqv (.tuple [.str (Str.ofString "map"), .tuple (ps.map Rv.ent)]) (.tuple [.str (Str.ofString "text"), .str b]) = true := h
      rw [e2, Bool.and_eq_true] at h
      exact absurd h.1 (by show ¬ PyData.eqv (.str (Str.ofString "map")) (.str (Str.ofString "text")) = true; decide +kernel)
  cases a with
  | s x =>
    cases b with
    | s y => rw [eqv_sc (s := x) (t := y) h]
    | m qs => exact (no x qs h).elim
  | m ps =>
    cases b with
    | s y => exact (no2 y ps h).elim
    | m qs =>
      have h : PyData.eqv (.tuple [.str (Str.ofString "map"), .tuple (ps.map Rv.ent)]) (.tuple [.str (Str.ofString "map"), .tuple (qs.map Rv.ent)]) = true := h
      rw [e2, Bool.and_eq_true, Bool.and_true] at h
      have h2 : PyData.eqvAll (ps.map Rv.ent) (qs.map Rv.ent) = true := by simpa only [PyData.eqv] using h.2
      rw [eqv_ents h2]
/-- equal exactly if shown alike -/
theorem shown_eqv {a b : Va} (g : a.good) (g2 : b.good) (ha : PyData.eqv a.d a.d = true) : decide (V.str a.d.shown = V.str b.d.shown) = PyData.eqv a.d b.d := by
  by_cases h : a.d.shown = b.d.shown
  · have e := va_inj g g2 h
    subst e
    rw [decide_eq_true rfl, ha]
  · rw [decide_eq_false fun z => h (V.str.inj z)]
    cases e : PyData.eqv a.d b.d with
    | false => rfl
    | true => exact absurd (by rw [eqv_va e]) h
end Rw

/-! Data that stands while a list or a dict is filled. -/
namespace Gd
open PySem PySem.Spec PyProof.Rows L2 GxR Gx
section
variable {K : PySem.W.Frag} {H : Hp} {p : Addr} {v : V} {d : PyData} {vs xs ys : List V} {ds : List PyData}
theorem lsts_one (e : H p = some (.lst xs)) : Lsts [p] H := fun b hb => by
  cases hb with
  | head => exact ⟨_, e⟩
  | tail _ h => cases h
theorem dt_lst (e : H p = some (.lst xs)) (h : Dt K H v d) {o : HO} : Dt K (upd H p o) v d := h.kb (Kb.put (by simp) e nt_lst : Kb [p] H _) (lsts_one e)
theorem dts_lst (e : H p = some (.lst xs)) (h : DtAll K H vs ds) {o : HO} : DtAll K (upd H p o) vs ds := DtAll.kb (Kb.put (by simp) e nt_lst : Kb [p] H _) (lsts_one e) h
theorem DtAll.snoc : ∀ {vs : List V} {ds : List PyData}, DtAll K H vs ds → Dt K H v d → DtAll K H (vs ++ [v]) (ds ++ [d])
  | _, _, .nil, h => .cons h .nil
  | _, _, .cons h1 h2, h => .cons h1 (h2.snoc h)
theorem DtAll.cat : ∀ {vs ws : List V} {ds es : List PyData}, DtAll K H vs ds → DtAll K H ws es → DtAll K H (vs ++ ws) (ds ++ es)
  | _, _, _, _, .nil, h => h
  | _, _, _, _, .cons h1 h2, h => .cons h1 (h2.cat h)
/-- a part of the list goes on at another address -/
theorem tup_inv {ds : List PyData} (h : Dt K H v (.tuple ds)) : ∃ a xs, v = .ref a ∧ SqT K H a xs ∧ DtAll K H xs ds := by
  cases h with
  | tup h hs => exact ⟨_, _, rfl, h, hs⟩
end
theorem iteTb {b : Bool} {A B : Prop} (h : b = true) (q : A) : if b = true then A else B := by rw [if_pos h]; exact q
theorem iteFb {b : Bool} {A B : Prop} (h : b = false) (q : B) : if b = true then A else B := by subst h; exact q
/-! ### cuts: what holds between two statements -/
theorem seq_gen {a b : TS} {D : Ends} {σ : L2.St} {H : Hp} (C : L2.St → Hp → Prop) (h : ∀ N : L2.St → Hp → Prop, (∀ σ' H', C σ' H' → N σ' H') → a { D with nx := N } σ H) (rest : ∀ σ' H', C σ' H' → b D σ' H') : tSeq a b D σ H := h _ rest
theorem asg_gen {te : TE} {g : TG} {D : Ends} {σ : L2.St} {H : Hp} (C : V → Hp → Prop) (h : ∀ N : VK, (∀ v H', C v H' → N v H') → te σ H N) (rest : ∀ v H', C v H' → g v σ H' D.nx) : tAsg te g D σ H := h _ rest
theorem gset {i : Nat} {v : V} {σ : L2.St} {H : Hp} {Q : L2.St → Hp → Prop} (h : Q (σ.set i (some v)) H) : gName i v σ H Q := h
/-- x = constant -/
theorem seq_c {c : V} {i : Nat} {b : TS} {D : Ends} {σ : L2.St} {H : Hp} (h : b D (σ.set i (some c)) H) : tSeq (tAsg (tC c) (gName i)) b D σ H := h
theorem sset_gen {te : TE} {i : Nat} {b : TS} {D : Ends} {σ : L2.St} {H : Hp} (C : V → Hp → Prop) (h : ∀ N : VK, (∀ v H', C v H' → N v H') → te σ H N) (rest : ∀ v H', C v H' → b D (σ.set i (some v)) H') : tSeq (tAsg te (gName i)) b D σ H := h _ rest
theorem nx_gen {D : Ends} {σ : L2.St} {H : Hp} (h : D.nx σ H) : tNext D σ H := h
theorem ret_gen {te : TE} {D : Ends} {σ : L2.St} {H : Hp} (C : V → Hp → Prop) (h : ∀ N : VK, (∀ v H', C v H' → N v H') → te σ H N) (rest : ∀ v H', C v H' → D.rt v H') : tRet te D σ H := h _ rest
end Gd

/-! The law's own evaluation: the parts. -/
namespace Rw
open PySem PySem.Spec PyProof.Rows L2 GxR Gx Gd Rx Rs
abbrev s_law_plain : Stmt := topS 56
theorem sc_law_plain : FnScope ["scalar"] ["scalar"] (defScope s_law_plain) := ⟨rfl, rfl, rfl, by decide +kernel, rfl, by decide +kernel, by decide +kernel⟩
abbrev s_law_wrong_kind : Stmt := topS 57
theorem sc_law_wrong_kind : FnScope ["value", "kind"] ["value", "kind"] (defScope s_law_wrong_kind) := ⟨rfl, rfl, rfl, by decide +kernel, rfl, by decide +kernel, by decide +kernel⟩
abbrev s_law_numbers : Stmt := topS 58
theorem sc_law_numbers : FnScope ["name", "i", "j", "total"] ["name", "i", "j"] (defScope s_law_numbers) := ⟨rfl, rfl, rfl, by decide +kernel, rfl, by decide +kernel, by decide +kernel⟩
section
variable {K : PySem.W.Frag} {H : Hp} {v x : V} {d : PyData} {p1 p2 : Addr}
theorem dv_int {i : Int} (h : Dt K H v (Va.s (.int i)).d) : ∃ p, v = .ref p ∧ SqT K H p [.str (Str.ofString "int"), .int i] := by
  obtain ⟨p, a, b, rfl, hp, ha, hb⟩ := dt_pair (a := .str (Str.ofString "int")) (b := .int i) h
  cases ha; cases hb
  exact ⟨p, rfl, hp⟩
theorem dv_bool {i : Bool} (h : Dt K H v (Va.s (.bool i)).d) : ∃ p, v = .ref p ∧ SqT K H p [.str (Str.ofString "bool"), .bl i] := by
  obtain ⟨p, a, b, rfl, hp, ha, hb⟩ := dt_pair (a := .str (Str.ofString "bool")) (b := .bool i) h
  cases ha; cases hb
  exact ⟨p, rfl, hp⟩
theorem dv_text {i : Str} (h : Dt K H v (Va.s (.text i)).d) : ∃ p, v = .ref p ∧ SqT K H p [.str (Str.ofString "text"), .str i] := by
  obtain ⟨p, a, b, rfl, hp, ha, hb⟩ := dt_pair (a := .str (Str.ofString "text")) (b := .str i) h
  cases ha; cases hb
  exact ⟨p, rfl, hp⟩
theorem dv_map {ps : List (Str × Rv.Sc)} (h : Dt K H v (Va.m ps).d) : ∃ p b xs, v = .ref p ∧ SqT K H p [.str (Str.ofString "map"), .ref b] ∧ SqT K H b xs ∧ DtAll K H xs (ps.map Rv.ent) := by
  obtain ⟨p, a, b, rfl, hp, ha, hb⟩ := dt_pair (a := .str (Str.ofString "map")) (b := .tuple (ps.map Rv.ent)) h
  cases ha
  cases hb with
  | tup h hs => exact ⟨p, _, _, rfl, hp, h, hs⟩
theorem dv_head {a : Va} (h : Dt K H v a.d) : ∃ p xs, v = .ref p ∧ SqT K H p xs ∧ xs[0]? = some (.str (Str.ofString a.word)) := by
  cases a with
  | m ps =>
    obtain ⟨p, b, xs, rfl, hp, _⟩ := dv_map h
    exact ⟨p, _, rfl, hp, rfl⟩
  | s x =>
    cases x with
    | none =>
      cases h with
      | tup h hs =>
        cases hs with
        | cons h1 hs =>
          cases h1
          exact ⟨_, _, rfl, h, rfl⟩
    | bool b => obtain ⟨p, rfl, hp⟩ := dv_bool h; exact ⟨p, _, rfl, hp, rfl⟩
    | int b => obtain ⟨p, rfl, hp⟩ := dv_int h; exact ⟨p, _, rfl, hp, rfl⟩
    | text b => obtain ⟨p, rfl, hp⟩ := dv_text h; exact ⟨p, _, rfl, hp, rfl⟩
/-- a result that is made: one tuple, two -/
theorem ret1 (w : String) (hx : Dt K H x d) (h1 : H p1 = none) : Kp H (upd H p1 (.tup [.str (Str.ofString w), x])) ∧ Dt K (upd H p1 (.tup [.str (Str.ofString w), x])) (.ref p1) (.tuple [.str (Str.ofString w), d]) :=
  ⟨Kb.new h1, .tup (.inl (.inl upd_same)) (.cons (.str _) (.cons (hx.kb (Kb.new h1) Lsts.nil) .nil))⟩
theorem ret2 (u w : String) (hx : Dt K H x d) (h1 : H p1 = none) (h2 : (upd H p1 (.tup [.str (Str.ofString w), x])) p2 = none) :
    Kp H (upd (upd H p1 (.tup [.str (Str.ofString w), x])) p2 (.tup [.str (Str.ofString u), .ref p1])) ∧ Dt K (upd (upd H p1 (.tup [.str (Str.ofString w), x])) p2 (.tup [.str (Str.ofString u), .ref p1])) (.ref p2) (.tuple [.str (Str.ofString u), .tuple [.str (Str.ofString w), d]]) :=
  let a := ret1 (p1 := p1) w hx h1
  let b := ret1 (p1 := p2) u a.2 h2
  ⟨a.1.trans b.1, b.2⟩
end
def spPl (K : PySem.W.Frag) : Sp := fun vs H Q _ => ∃ v s, vs = [v] ∧ Dt K H v (Rv.Sc.d s) ∧ s.good ∧ ∀ H', Kp H H' → Q (.str s.plain) H'
def letK : Kd → String
  | .int => "i"
  | .bool => "b"
  | .scalar => "s"
  | .map => "m"
  | .key => "k"
  | .any => "v"
def spWKd (K : PySem.W.Frag) : Sp := fun vs H Q _ => ∃ (v : V) (a : Va) (k : Kd), vs = [v, .str (Str.ofString (letK k))] ∧ Dt K H v a.d ∧ a.good ∧ Q (.str (Str.ofString (if k.has a = true then "" else k.msg))) H
def spNum (K : PySem.W.Frag) : Sp := fun vs H Q _ => ∃ (f : String) (i j : Int), (f = "add" ∨ f = "sub" ∨ f = "lt") ∧ vs = [.str (Str.ofString f), .int i, .int j] ∧ 0 ≤ i ∧ i ≤ 999999 ∧ 0 ≤ j ∧ j ≤ 999999 ∧ ∀ u H', Kp H H' → Dt K H' u (oper (cs f) [.s (.int i), .s (.int j)]).d → Q u H'
section
variable {P : Program} {w : World} {K : PySem.W.Frag} {mg : Str → Option Value} {base : Heap}
theorem c_law_plain (D : DefAt K mg "_law_plain" s_law_plain ["scalar"]) (m_str : mg "str" = none) (m_int : mg "int" = none) : Cal P w K mg base CX0 1 "_law_plain" ["scalar"] (spPl K) := by
  refine D.cal (k := 0) sc_law_plain (fun vs H Q E h => ?_) fun f cdv A outer s H vs Q E hr h => ?_
  · obtain ⟨v, s, rfl, _⟩ := h
    rfl
  · obtain ⟨v, sc, rfl, hd, ok, q⟩ := h
    have q0 := q H (Kb.refl H)
    refine ⟨_, (pss_cons (ps_if (pt_cmpR op_eq (pe_ix ix_tup (pv 0) pe_int (fun _ _ => rfl)) pe_str (nomark _)) (pss_one (ps_ret pe_str)) pss_nil)
  (pss_cons (ps_if (pt_cmpR op_eq (pe_ix ix_tup (pv 0) pe_int (fun _ _ => rfl)) pe_str (nomark _)) (pss_one (ps_ret (pe_ix ix_list (pe_lst (pa_cons pe_str (pa_cons pe_str pa_nil))) (pe_callTy call_int1 (by rfl) m_int (by decide +kernel) (pa_cons (pe_ix ix_tup (pv 0) pe_int (fun _ _ => rfl)) pa_nil)) (fun _ _ => rfl)))) pss_nil)
  (pss_one (ps_ret (pe_callTy (call_str_int.or SkE.call_str_str) (by rfl) m_str (by decide +kernel) (pa_cons (pe_ix ix_tup (pv 0) pe_int (fun _ _ => rfl)) pa_nil)))))), ?_⟩
    cases sc with
    | none =>
      cases hd with
      | @tup a _ _ h hs =>
        cases hs with
        | cons hk hs =>
          cases hs
          cases hk
          exact ⟨.ref a, rfl, a, _, 0, _, rfl, rfl, h, atI_nat (j := 0) rfl, rfl, _, rfl, iteT q0⟩
    | bool b =>
      obtain ⟨a, rfl, h⟩ := dv_bool (K := K) (v := v) (i := b) hd
      refine ⟨.ref a, rfl, a, _, 0, _, rfl, rfl, h, atI_nat (j := 0) rfl, rfl, _, rfl, iteF ?_⟩
      refine ⟨.ref a, rfl, a, _, 0, _, rfl, rfl, h, atI_nat (j := 0) rfl, rfl, _, rfl, iteT ?_⟩
      refine ⟨by show 2 ≤ sizeLine; decide, fun p hp => ?_⟩
      have k1 : Kp H (upd H p (.lst [.str (Str.ofString "false"), .str (Str.ofString "true")])) := Kb.new hp
      refine ⟨.ref a, rfl, a, _, 1, _, rfl, rfl, k1.sqT Lsts.nil h, atI_nat (j := 1) rfl, .inr ⟨b, rfl, ?_⟩⟩
      cases b with
      | true => exact ⟨p, _, 1, _, rfl, rfl, .inl (.inl upd_same), atI_nat (j := 1) rfl, q _ k1⟩
      | false => exact ⟨p, _, 0, _, rfl, rfl, .inl (.inl upd_same), atI_nat (j := 0) rfl, q _ k1⟩
    | int i =>
      obtain ⟨a, rfl, h⟩ := dv_int (K := K) (v := v) (i := i) hd
      refine ⟨.ref a, rfl, a, _, 0, _, rfl, rfl, h, atI_nat (j := 0) rfl, rfl, _, rfl, iteF ?_⟩
      refine ⟨.ref a, rfl, a, _, 0, _, rfl, rfl, h, atI_nat (j := 0) rfl, rfl, _, rfl, iteF ?_⟩
      exact ⟨.ref a, rfl, a, _, 1, _, rfl, rfl, h, atI_nat (j := 1) rfl, .inl ⟨i, rfl, Rv.log_of ok, q0⟩⟩
    | text x =>
      obtain ⟨a, rfl, h⟩ := dv_text (K := K) (v := v) (i := x) hd
      refine ⟨.ref a, rfl, a, _, 0, _, rfl, rfl, h, atI_nat (j := 0) rfl, rfl, _, rfl, iteF ?_⟩
      refine ⟨.ref a, rfl, a, _, 0, _, rfl, rfl, h, atI_nat (j := 0) rfl, rfl, _, rfl, iteF ?_⟩
      exact ⟨.ref a, rfl, a, _, 1, _, rfl, rfl, h, atI_nat (j := 1) rfl, .inr ⟨x, rfl, q0⟩⟩
theorem c_law_wrong_kind (D : DefAt K mg "_law_wrong_kind" s_law_wrong_kind ["value", "kind"]) (m_len : mg "len" = none) : Cal P w K mg base CX0 1 "_law_wrong_kind" ["value", "kind"] (spWKd K) := by
  refine D.cal (k := 0) sc_law_wrong_kind (fun vs H Q E h => ?_) fun f cdv A outer s H vs Q E hr h => ?_
  · obtain ⟨v, a, k, rfl, _⟩ := h
    rfl
  · obtain ⟨v, a, k, rfl, hv, ga, q⟩ := h
    refine ⟨_, (pss_cons (ps_if (PW.pt (pw_and (pt_cmpR op_eq (pv 1) pe_str (nomark _)) (pw_and1 (pt_cmpR op_ne (pe_ix ix_tup (pv 0) pe_int (fun _ _ => rfl)) pe_str (nomark _))))) (pss_one (ps_ret pe_str)) pss_nil)
  (pss_cons (ps_if (PW.pt (pw_and (pt_cmpR op_eq (pv 1) pe_str (nomark _)) (pw_and1 (pt_cmpR op_ne (pe_ix ix_tup (pv 0) pe_int (fun _ _ => rfl)) pe_str (nomark _))))) (pss_one (ps_ret pe_str)) pss_nil)
  (pss_cons (ps_if (PW.pt (pw_and (pt_cmpR op_eq (pv 1) pe_str (nomark _)) (pw_and1 (pt_cmpR op_eq (pe_ix ix_tup (pv 0) pe_int (fun _ _ => rfl)) pe_str (nomark _))))) (pss_one (ps_ret pe_str)) pss_nil)
  (pss_cons (ps_if (PW.pt (pw_and (pt_cmpR op_eq (pv 1) pe_str (nomark _)) (pw_and1 (pt_cmpR op_ne (pe_ix ix_tup (pv 0) pe_int (fun _ _ => rfl)) pe_str (nomark _))))) (pss_one (ps_ret pe_str)) pss_nil)
  (pss_cons (ps_if (PW.pt (pw_and (pt_cmpR op_eq (pv 1) pe_str (nomark _)) (pw_and1 (PW.pt (pw_or (pt_cmpR op_ne (pe_ix ix_tup (pv 0) pe_int (fun _ _ => rfl)) pe_str (nomark _)) (pw_or1 (pt_not (pt_chain op_le op_le pe_int (pe_callB call_len_str (by rfl) m_len (by decide +kernel) (pa_cons (pe_ix ix_tup (pv 0) pe_int (fun _ _ => rfl)) pa_nil)) pe_int)))))))) (pss_one (ps_ret pe_str)) pss_nil)
  (pss_one (ps_ret pe_str))))))), ?_⟩
    obtain ⟨p, xs, rfl, hp, h0⟩ := dv_head hv
    cases k with
    | int =>
      refine ⟨_, rfl, rfl, _, rfl, iteP (by rfl) ⟨_, rfl, p, xs, 0, _, rfl, rfl, hp, atI_nat (j := 0) h0, rfl, _, rfl, ?_⟩⟩
      by_cases hk : Kd.int.has a = true
      · obtain ⟨i, rfl⟩ : ∃ i, a = .s (.int i) := by cases a with | m ps => (first | exact ⟨_, rfl⟩ | cases hk) | s x => cases x <;> (first | exact ⟨_, rfl⟩ | cases hk)
        rw [if_pos hk] at q
        refine iteFb (by rfl) (⟨_, rfl, rfl, _, rfl, iteN (by decide +kernel) ⟨_, rfl, rfl, _, rfl, iteN (by decide +kernel) ⟨_, rfl, rfl, _, rfl, iteN (by decide +kernel) ⟨_, rfl, rfl, _, rfl, iteN (by decide +kernel) q⟩⟩⟩⟩)
      · rw [if_neg hk] at q
        refine iteTb ?_ q
        cases a with
        | m ps => (first | exact absurd rfl hk | rfl)
        | s x => cases x <;> (first | exact absurd rfl hk | rfl)
    | bool =>
      refine ⟨_, rfl, rfl, _, rfl, iteN (by decide +kernel) ⟨_, rfl, rfl, _, rfl, iteP (by rfl) ⟨_, rfl, p, xs, 0, _, rfl, rfl, hp, atI_nat (j := 0) h0, rfl, _, rfl, ?_⟩⟩⟩
      by_cases hk : Kd.bool.has a = true
      · obtain ⟨i, rfl⟩ : ∃ i, a = .s (.bool i) := by cases a with | m ps => (first | exact ⟨_, rfl⟩ | cases hk) | s x => cases x <;> (first | exact ⟨_, rfl⟩ | cases hk)
        rw [if_pos hk] at q
        refine iteFb (by rfl) (⟨_, rfl, rfl, _, rfl, iteN (by decide +kernel) ⟨_, rfl, rfl, _, rfl, iteN (by decide +kernel) ⟨_, rfl, rfl, _, rfl, iteN (by decide +kernel) q⟩⟩⟩)
      · rw [if_neg hk] at q
        refine iteTb ?_ q
        cases a with
        | m ps => (first | exact absurd rfl hk | rfl)
        | s x => cases x <;> (first | exact absurd rfl hk | rfl)
    | scalar =>
      refine ⟨_, rfl, rfl, _, rfl, iteN (by decide +kernel) ⟨_, rfl, rfl, _, rfl, iteN (by decide +kernel) ⟨_, rfl, rfl, _, rfl, iteP (by rfl) ⟨_, rfl, p, xs, 0, _, rfl, rfl, hp, atI_nat (j := 0) h0, rfl, _, rfl, ?_⟩⟩⟩⟩
      by_cases hk : Kd.scalar.has a = true
      · obtain ⟨i, rfl⟩ : ∃ i, a = .s i := by cases a with | m ps => cases hk | s x => exact ⟨_, rfl⟩
        rw [if_pos hk] at q
        refine iteFb (by cases i <;> rfl) (⟨_, rfl, rfl, _, rfl, iteN (by decide +kernel) ⟨_, rfl, rfl, _, rfl, iteN (by decide +kernel) q⟩⟩)
      · rw [if_neg hk] at q
        refine iteTb ?_ q
        cases a with
        | m ps => rfl
        | s x => exact absurd rfl hk
    | map =>
      refine ⟨_, rfl, rfl, _, rfl, iteN (by decide +kernel) ⟨_, rfl, rfl, _, rfl, iteN (by decide +kernel) ⟨_, rfl, rfl, _, rfl, iteN (by decide +kernel) ⟨_, rfl, rfl, _, rfl, iteP (by rfl) ⟨_, rfl, p, xs, 0, _, rfl, rfl, hp, atI_nat (j := 0) h0, rfl, _, rfl, ?_⟩⟩⟩⟩⟩
      by_cases hk : Kd.map.has a = true
      · obtain ⟨i, rfl⟩ : ∃ i, a = .m i := by cases a with | m ps => (first | exact ⟨_, rfl⟩ | cases hk) | s x => cases x <;> (first | exact ⟨_, rfl⟩ | cases hk)
        rw [if_pos hk] at q
        refine iteFb (by rfl) (⟨_, rfl, rfl, _, rfl, iteN (by decide +kernel) q⟩)
      · rw [if_neg hk] at q
        refine iteTb ?_ q
        cases a with
        | m ps => (first | exact absurd rfl hk | rfl)
        | s x => cases x <;> (first | exact absurd rfl hk | rfl)
    | key =>
      refine ⟨_, rfl, rfl, _, rfl, iteN (by decide +kernel) ⟨_, rfl, rfl, _, rfl, iteN (by decide +kernel) ⟨_, rfl, rfl, _, rfl, iteN (by decide +kernel) ⟨_, rfl, rfl, _, rfl, iteN (by decide +kernel) ⟨_, rfl, rfl, _, rfl, iteP (by rfl) ⟨_, rfl, p, xs, 0, _, rfl, rfl, hp, atI_nat (j := 0) h0, rfl, _, rfl, ?_⟩⟩⟩⟩⟩⟩
      cases a with
      | m ps => exact iteTb (by rfl) (iteT q)
      | s x =>
        cases x with
        | none => exact iteTb (by rfl) (iteT q)
        | bool b => exact iteTb (by rfl) (iteT q)
        | int i => exact iteTb (by rfl) (iteT q)
        | text x =>
          obtain ⟨p2, e, hp2⟩ := dv_text hv
          cases e
          have ga : Rv.textOk x := ga
          have hk : Rv.isKeyD (.str x) = (decide (1 ≤ (x.length : Int)) && decide ((x.length : Int) ≤ 12)) := by
            show (decide (1 ≤ (x.length : Int)) && decide ((x.length : Int) ≤ 12) && x.cps.toList.all Rv.isChar) = _
            rw [ga.2, Bool.and_true]
          have q : Q (.str (Str.ofString (if Rv.isKeyD (.str x) = true then "" else Kd.key.msg))) H := q
          rw [hk] at q
          refine iteFb (by rfl) ⟨_, rfl, p, _, 1, _, rfl, rfl, hp2, atI_nat (j := 1) rfl, x, rfl, by have := ga.1; show x.length ≤ 16777216; omega, _, _, rfl, rfl, _, rfl, ?_⟩
          by_cases h1 : (1 : Int) ≤ (x.length : Int)
          · rw [decide_eq_true h1] at q
            refine iteP h1 ⟨_, _, rfl, rfl, _, rfl, ?_⟩
            by_cases h2 : (x.length : Int) ≤ 12
            · rw [decide_eq_true h2] at q ⊢
              exact iteF q
            · rw [decide_eq_false h2] at q ⊢
              exact iteT q
          · rw [decide_eq_false h1] at q
            exact iteN h1 ⟨_, rfl, iteT q⟩
    | any =>
      have q : Q (.str (Str.ofString "")) H := by cases a with | m ps => exact q | s x => cases x <;> exact q
      exact ⟨_, rfl, rfl, _, rfl, iteN (by decide +kernel) ⟨_, rfl, rfl, _, rfl, iteN (by decide +kernel) ⟨_, rfl, rfl, _, rfl, iteN (by decide +kernel) ⟨_, rfl, rfl, _, rfl, iteN (by decide +kernel) ⟨_, rfl, rfl, _, rfl, iteN (by decide +kernel) q⟩⟩⟩⟩⟩
theorem c_law_numbers (D : DefAt K mg "_law_numbers" s_law_numbers ["name", "i", "j"]) : Cal P w K mg base CX0 1 "_law_numbers" ["name", "i", "j"] (spNum K) := by
  refine D.cal (k := 0) sc_law_numbers (fun vs H Q E h => ?_) fun f cdv A outer s H vs Q E hr h => ?_
  · obtain ⟨f, i, j, _, rfl, _⟩ := h
    rfl
  · obtain ⟨f, i, j, hf, rfl, i0, i9, j0, j9, q⟩ := h
    refine ⟨_, (pss_cons (ps_if (pt_cmpR op_eq (pv 0) pe_str (nomark _)) (pss_one (ps_ret (pe_tup (pa_cons pe_str (pa_cons (pe_tup (pa_cons pe_str (pa_cons (pe_cmpR op_lt (pv 1) (pv 2) (nomark _)) pa_nil))) pa_nil))))) pss_nil)
  (pss_cons (ps_set (i := 3) sc_law_numbers.nd rfl (Or.inl rfl) (pe_op op_add (pv 1) (pv 2)))
  (pss_cons (ps_if (pt_cmpR op_eq (pv 0) pe_str (nomark _)) (pss_one (ps_set (i := 3) sc_law_numbers.nd rfl (Or.inl rfl) (pe_op op_sub (pv 1) (pv 2)))) pss_nil)
  (pss_cons (ps_if (pt_cmpR op_lt (pv 3) pe_int (nomark _)) (pss_one (ps_ret (pe_tup (pa_cons pe_str (pa_cons pe_str pa_nil))))) pss_nil)
  (pss_cons (ps_if (pt_cmpR op_gt (pv 3) pe_int (nomark _)) (pss_one (ps_ret (pe_tup (pa_cons pe_str (pa_cons pe_str pa_nil))))) pss_nil)
  (pss_one (ps_ret (pe_tup (pa_cons pe_str (pa_cons (pe_tup (pa_cons pe_str (pa_cons (pv 3) pa_nil))) pa_nil)))))))))), ?_⟩
    have two : ∀ (x : V) (d : PyData) (w : String) (p1 p2 : Addr), Dt K H x d → H p1 = none → (upd H p1 (.tup [.str (Str.ofString w), x])) p2 = none → (oper (cs f) [.s (.int i), .s (.int j)]).d = .tuple [.str (Str.ofString "value"), .tuple [.str (Str.ofString w), d]] →
        Q (.ref p2) (upd (upd H p1 (.tup [.str (Str.ofString w), x])) p2 (.tup [.str (Str.ofString "value"), .ref p1])) := fun x d w p1 p2 hx h1 h2 e => q _ _ (ret2 "value" w hx h1 h2).1 (by rw [e]; exact (ret2 "value" w hx h1 h2).2)
    have one : ∀ (m : String) (p1 : Addr), H p1 = none → (oper (cs f) [.s (.int i), .s (.int j)]).d = .tuple [.str (Str.ofString "error"), .str (Str.ofString m)] → Q (.ref p1) (upd H p1 (.tup [.str (Str.ofString "error"), .str (Str.ofString m)])) := fun m p1 h1 e => q _ _ (ret1 (K := K) "error" (.str (Str.ofString m)) h1).1 (by rw [e]; exact (ret1 (K := K) "error" (.str _) h1).2)
    rcases hf with rfl | rfl | rfl
    · have e : oper (cs "add") [.s (.int i), .s (.int j)] = if i + j > 999999 then errS "integer overflow" else vInt (i + j) := rfl
      refine ⟨_, rfl, rfl, _, rfl, iteN (by decide +kernel) ⟨_, rfl, _, rfl, i, j, rfl, rfl, _, rfl, rfl, _, rfl, iteN (by decide +kernel) ⟨_, rfl, _, _, rfl, rfl, _, rfl, iteN (by show ¬ i + j < 0; omega) ⟨_, rfl, _, _, rfl, rfl, _, rfl, ?_⟩⟩⟩⟩
      by_cases h : i + j > 999999
      · refine iteP h ⟨by show 2 ≤ sizeLine; decide, fun p1 h1 => one _ p1 h1 (by rw [e, if_pos h]; rfl)⟩
      · exact iteN h ⟨_, rfl, by show 2 ≤ sizeLine; decide, fun p1 h1 => ⟨by show 2 ≤ sizeLine; decide, fun p2 h2 => two _ _ _ p1 p2 (.int _) h1 h2 (by rw [e, if_neg h]; rfl)⟩⟩
    · have e : oper (cs "sub") [.s (.int i), .s (.int j)] = if i < j then errS "integer underflow" else vInt (i - j) := rfl
      refine ⟨_, rfl, rfl, _, rfl, iteN (by decide +kernel) ⟨_, rfl, _, rfl, i, j, rfl, rfl, _, rfl, rfl, _, rfl, iteP rfl ⟨_, rfl, _, rfl, i, j, rfl, rfl, _, rfl, _, _, rfl, rfl, _, rfl, ?_⟩⟩⟩
      by_cases h : i < j
      · exact iteP (by show i - j < 0; omega) ⟨by show 2 ≤ sizeLine; decide, fun p1 h1 => one _ p1 h1 (by rw [e, if_pos h]; rfl)⟩
      · exact iteN (by show ¬ i - j < 0; omega) ⟨_, rfl, _, _, rfl, rfl, _, rfl, iteN (by show ¬ i - j > 999999; omega) ⟨_, rfl, by show 2 ≤ sizeLine; decide, fun p1 h1 => ⟨by show 2 ≤ sizeLine; decide, fun p2 h2 => two _ _ _ p1 p2 (.int _) h1 h2 (by rw [e, if_neg h]; rfl)⟩⟩⟩
    · exact ⟨_, rfl, rfl, _, rfl, iteP rfl ⟨_, rfl, _, rfl, i, j, rfl, rfl, by show 2 ≤ sizeLine; decide, fun p1 h1 => ⟨by show 2 ≤ sizeLine; decide, fun p2 h2 => two _ _ _ p1 p2 (.bl _) h1 h2 rfl⟩⟩⟩
end
end Rw

/-! The law's own evaluation: the functions of maps. -/
namespace Rw
open PySem PySem.Spec PyProof.Rows L2 GxR Gx Gd Rx Rs
abbrev s_law_maps : Stmt := topS 59
theorem sc_law_maps : FnScope ["name", "rows", "entries", "key", "found", "k", "entry"] ["name", "rows"] (defScope s_law_maps) := ⟨rfl, rfl, rfl, by decide +kernel, rfl, by decide +kernel, by decide +kernel⟩
/-- the places of a key -/
def plcs (ps : List (Str × Rv.Sc)) (x : Str) (n : Nat) : List Nat := (List.range n).filter fun i => decide (ps[i]?.map (·.1) = some x)
theorem plcs_succ {ps : List (Str × Rv.Sc)} {x : Str} {n : Nat} : plcs ps x (n + 1) = plcs ps x n ++ if ps[n]?.map (·.1) = some x then [n] else [] := by
  unfold plcs
  rw [List.range_succ, List.filter_append]
  congr 1
  by_cases h : ps[n]?.map (·.1) = some x
  · rw [if_pos h, List.filter_cons_of_pos (by simpa using h)]; rfl
  · rw [if_neg h, List.filter_cons_of_neg (by simpa using h)]; rfl
theorem plcs_len {ps : List (Str × Rv.Sc)} {x : Str} {n : Nat} : (plcs ps x n).length ≤ n := by
  have := List.length_filter_le (fun i => decide (ps[i]?.map (·.1) = some x)) (List.range n)
  rwa [List.length_range] at this
theorem at_place : ∀ {ps : List (Str × Rv.Sc)} {x : Str} {k : Rv.Sc} {i : Nat}, (ps.map (·.1)).Nodup → ps[i]? = some (x, k) → lookE ps x = some k ∧ ∀ s, ps.map (fun p => if p.1 = x then (x, s) else p) = ps.set i (x, s)
  | [], _, _, _, _, h => by cases h
  | p :: ps, x, k, 0, hn, h => by
    obtain rfl : p = (x, k) := by simpa using h
    rw [List.map_cons, List.nodup_cons] at hn
    refine ⟨by unfold lookE; rw [List.find?_cons_of_pos (by simp)]; rfl, fun s => ?_⟩
    rw [List.map_cons, if_pos rfl, List.set_cons_zero]
    congr 1
    refine (List.map_congr_left fun q hq => ?_).trans (List.map_id _)
    rw [if_neg]
    · rfl
    · intro z
      exact hn.1 (by rw [← z]; exact List.mem_map.mpr ⟨q, hq, rfl⟩)
  | p :: ps, x, k, i + 1, hn, h => by
    rw [List.map_cons, List.nodup_cons] at hn
    have h : ps[i]? = some (x, k) := by simpa using h
    have hne : ¬ p.1 = x := fun z => hn.1 (by rw [z]; exact List.mem_map.mpr ⟨_, List.mem_of_getElem? h, rfl⟩)
    obtain ⟨a, b⟩ := at_place hn.2 h
    refine ⟨by unfold lookE; rw [List.find?_cons_of_neg (by simpa using hne)]; exact a, fun s => ?_⟩
    rw [List.map_cons, if_neg hne, List.set_cons_succ, b s]
theorem plcs_all {ps : List (Str × Rv.Sc)} {x : Str} (hn : (ps.map (·.1)).Nodup) :
    (plcs ps x ps.length = [] ∧ lookE ps x = none ∧ ∀ s, putE ps x s = ps ++ [(x, s)]) ∨ ∃ i r k, plcs ps x ps.length = i :: r ∧ i < ps.length ∧ ps[i]? = some (x, k) ∧ lookE ps x = some k ∧ ∀ s, putE ps x s = ps.set i (x, s) := by
  cases h : plcs ps x ps.length with
  | nil =>
    have hz : ∀ p ∈ ps, ¬ p.1 = x := by
      intro p hp z
      obtain ⟨i, hi, e⟩ := List.getElem_of_mem hp
      have : i ∈ plcs ps x ps.length := by
        unfold plcs
        rw [List.mem_filter, List.mem_range]
        refine ⟨hi, ?_⟩
        rw [List.getElem?_eq_getElem hi, e]
        simpa using z
      rw [h] at this
      cases this
    refine .inl ⟨rfl, ?_, fun s => ?_⟩
    · unfold lookE
      rw [List.find?_eq_none.mpr (fun p hp => by simpa using hz p hp)]
      rfl
    · unfold putE
      rw [if_neg]
      intro z
      obtain ⟨p, hp, e⟩ := List.any_eq_true.mp z
      exact hz p hp (of_decide_eq_true e)
  | cons i r =>
    have hi : i ∈ plcs ps x ps.length := by rw [h]; exact List.mem_cons_self
    unfold plcs at hi
    rw [List.mem_filter, List.mem_range] at hi
    obtain ⟨hi, e⟩ := hi
    have e := of_decide_eq_true e
    rw [List.getElem?_eq_getElem hi] at e
    have e : ps[i].1 = x := by simpa using e
    have e2 : ps[i]? = some (x, ps[i].2) := by rw [List.getElem?_eq_getElem hi, ← e]
    obtain ⟨a, b⟩ := at_place hn e2
    refine .inr ⟨i, r, _, rfl, hi, e2, a, fun s => ?_⟩
    unfold putE
    rw [if_pos, b s]
    exact List.any_eq_true.mpr ⟨ps[i], List.getElem_mem hi, by simpa using e⟩
section
variable {P : Program} {w : World} {K : PySem.W.Frag} {mg : Str → Option Value} {base : Heap}
def spMaps (K : PySem.W.Frag) : Sp := fun vs H Q _ => ∃ (f : String) (r : Addr) (xs : List V) (as : List Va), (f = "size" ∨ f = "reverse" ∨ f = "take" ∨ f = "has" ∨ f = "get" ∨ f = "remove" ∨ f = "put") ∧ vs = [.str (Str.ofString f), .ref r] ∧ H r = some (.lst xs) ∧ DtAll K H xs (as.map Va.d) ∧ (∀ a ∈ as, a.good) ∧
  as.length = (kindsOf (cs f)).length ∧ wrongK as (kindsOf (cs f)) = none ∧ ∀ u H', Kp H H' → Dt K H' u (oper (cs f) as).d → Q u H'
theorem dtAll_set {H : Hp} : ∀ {vs : List V} {ds : List PyData} {i : Nat} {v : V} {d : PyData}, DtAll K H vs ds → Dt K H v d → DtAll K H (vs.set i v) (ds.set i d)
  | _, _, _, _, _, .nil, _ => .nil
  | _, _, 0, _, _, .cons h hs, q => .cons q hs
  | _, _, i + 1, _, _, .cons h hs, q => .cons h (dtAll_set hs q)
theorem two_len : ∀ {r : List Va}, r.length + 1 = 3 → ∃ a b, r = [a, b]
  | [a, b], _ => ⟨a, b, rfl⟩
  | [], h => by cases h
  | [_], h => by cases h
  | _ :: _ :: _ :: _, h => by simp at h
theorem ents_mem {ps : List (Str × Rv.Sc)} (h : Rv.Ents ps) : ps.length ≤ 8 := h.len
theorem c_law_maps (D : DefAt K mg "_law_maps" s_law_maps ["name", "rows"]) (m_list : mg "list" = none) (m_len : mg "len" = none) (m_tuple : mg "tuple" = none) (m_range : mg "range" = none) : Cal P w K mg base CX0 1 "_law_maps" ["name", "rows"] (spMaps K) := by
  refine D.cal (k := 0) sc_law_maps (fun vs H Q E h => ?_) fun f cdv A outer s H vs Q E hr h => ?_
  · obtain ⟨_, _, _, _, _, rfl, _⟩ := h
    rfl
  · obtain ⟨f, r, xs, as, hf, rfl, e1, hd, g, l, hw, q⟩ := h
    have sz : sizeLine = 16777216 := rfl
    obtain ⟨ps, rest, rfl⟩ : ∃ ps rest, as = Va.m ps :: rest := by
      cases as with
      | nil => rcases hf with rfl | rfl | rfl | rfl | rfl | rfl | rfl <;> cases l
      | cons a as =>
        have : Kd.map.has a = true := by rcases hf with rfl | rfl | rfl | rfl | rfl | rfl | rfl <;> exact (wrongK_cons hw).1
        obtain ⟨ps, rfl⟩ := has_map this
        exact ⟨ps, as, rfl⟩
    have gm : Rv.Ents ps := g (.m ps) (by simp)
    have g8 := gm.len
    cases hd with
    | @cons v0 _ xs1 _ h0 hd1 =>
    obtain ⟨pm, pb, ys, rfl, hpm, hpb, hys⟩ := dv_map h0
    have hyl := hys.length
    rw [List.length_map] at hyl
    refine ⟨_, (pss_cons (ps_set (i := 2) sc_law_maps.nd rfl (Or.inr rfl) (pe_callTy call_list_of (by rfl) m_list (by decide +kernel) (pa_cons (pe_ix ix_tup (pe_ix ix_list (pv 1) pe_int (fun _ _ => rfl)) pe_int (fun _ _ => rfl)) pa_nil)))
  (pss_cons (ps_if (pt_cmpR op_eq (pv 0) pe_str (nomark _)) (pss_one (ps_ret (pe_tup (pa_cons pe_str (pa_cons (pe_tup (pa_cons pe_str (pa_cons (pe_callB call_len_seq (by rfl) m_len (by decide +kernel) (pa_cons (pv 2) pa_nil)) pa_nil))) pa_nil))))) pss_nil)
  (pss_cons (ps_if (pt_cmpR op_eq (pv 0) pe_str (nomark _)) (pss_cons (ps_expr (pe_bm0 PySem.F.plainAttrs_list PySem.F.slot_list_reverse PySem.F.type_list_reverse mt_reverse (pv 2)))
  (pss_one (ps_ret (pe_tup (pa_cons pe_str (pa_cons (pe_tup (pa_cons pe_str (pa_cons (pe_callTy call_tuple_of (by rfl) m_tuple (by decide +kernel) (pa_cons (pv 2) pa_nil)) pa_nil))) pa_nil)))))) pss_nil)
  (pss_cons (ps_if (pt_cmpR op_eq (pv 0) pe_str (nomark _)) (pss_one (ps_ret (pe_tup (pa_cons pe_str (pa_cons (pe_tup (pa_cons pe_str (pa_cons (pe_callTy call_tuple_of (by rfl) m_tuple (by decide +kernel) (pa_cons (pe_slice sl_list (pv 2) po_none (po_some (pe_ix ix_tup (pe_ix ix_list (pv 1) pe_int (fun _ _ => rfl)) pe_int (fun _ _ => rfl)))) pa_nil)) pa_nil))) pa_nil))))) pss_nil)
  (pss_cons (ps_set (i := 3) sc_law_maps.nd rfl (Or.inr rfl) (pe_ix ix_tup (pe_ix ix_list (pv 1) pe_int (fun _ _ => rfl)) pe_int (fun _ _ => rfl)))
  (pss_cons (ps_setLc (i := 4) rfl sc_law_maps.nd rfl rfl (sw_true rfl rfl rfl (by decide +kernel)) (pi_range1 (by rfl) m_range (pa_cons (pe_callB call_len_seq (by rfl) m_len (by decide +kernel) (pa_cons (pv 2) pa_nil)) pa_nil)) (blkOk_by (own := [("k", 5)]) (N := ["name", "rows", "entries", "key", "found", "k", "entry"]) (sc := defScope s_law_maps) (by decide +kernel)) (fun _ _ _ _ _ => (pg_name (i := 5) sc_law_maps.nd rfl (Or.inl rfl))) (fun _ _ _ _ _ => (pts_one (pt_cmpR op_eq (pe_ix (ix_tupK (K := K) rfl) (pe_ix (ix_listK (K := K) rfl) (pv 2) (pv 5) (fun _ _ => rfl)) pe_int (fun _ _ => rfl)) (pv 3) (nomark _)))) (fun _ _ _ _ _ => (pv 5)))
  (pss_cons (ps_if (pt_cmpR op_eq (pv 0) pe_str (nomark _)) (pss_one (ps_ret (pe_tup (pa_cons pe_str (pa_cons (pe_tup (pa_cons pe_str (pa_cons (pe_cmpR op_gt (pe_callB call_len_seq (by rfl) m_len (by decide +kernel) (pa_cons (pv 4) pa_nil)) pe_int (nomark _)) pa_nil))) pa_nil))))) pss_nil)
  (pss_cons (ps_if (pt_cmpR op_eq (pv 0) pe_str (nomark _)) (pss_cons (ps_if (pt_cmpR op_eq (pe_callB call_len_seq (by rfl) m_len (by decide +kernel) (pa_cons (pv 4) pa_nil)) pe_int (nomark _)) (pss_one (ps_ret (pe_tup (pa_cons pe_str (pa_cons pe_str pa_nil))))) pss_nil)
  (pss_one (ps_ret (pe_tup (pa_cons pe_str (pa_cons (pe_ix ix_tup (pe_ix ix_list (pv 2) (pe_ix ix_list (pv 4) pe_int (fun _ _ => rfl)) (fun _ _ => rfl)) pe_int (fun _ _ => rfl)) pa_nil)))))) pss_nil)
  (pss_cons (ps_if (pt_cmpR op_eq (pv 0) pe_str (nomark _)) (pss_one (ps_ret (pe_tup (pa_cons pe_str (pa_cons (pe_tup (pa_cons pe_str (pa_cons (pe_callTy call_tuple_of (by rfl) m_tuple (by decide +kernel) (pa_cons (pe_lc rfl sc_law_maps.nd (pi_list (pv 2)) (blkOk_by (own := [("entry", 6)]) (N := ["name", "rows", "entries", "key", "found", "k", "entry"]) (sc := defScope s_law_maps) (by decide +kernel)) (fun _ _ _ _ _ => (pg_name (i := 6) sc_law_maps.nd rfl (Or.inl rfl))) (fun _ _ _ _ _ => (pts_one (pt_cmpR op_ne (pe_ix (ix_tupK (K := K) rfl) (pv 6) pe_int (fun _ _ => rfl)) (pv 3) (nomark _)))) (fun _ _ _ _ _ => (pv 6))) pa_nil)) pa_nil))) pa_nil))))) pss_nil)
  (pss_cons (ps_if (pt_cmpR op_gt (pe_callB call_len_seq (by rfl) m_len (by decide +kernel) (pa_cons (pv 4) pa_nil)) pe_int (nomark _)) (pss_one (ps_asg (pe_tup (pa_cons (pv 3) (pa_cons (pe_ix ix_list (pv 1) pe_int (fun _ _ => rfl)) pa_nil))) (pg_sub (pv 2) (pe_ix ix_list (pv 4) pe_int (fun _ _ => rfl)) set_list))) (pss_one (ps_expr (pe_bm PySem.F.plainAttrs_list PySem.F.slot_list_append PySem.F.type_list_append mt_append (pv 2) (pa_cons (pe_tup (pa_cons (pv 3) (pa_cons (pe_ix ix_list (pv 1) pe_int (fun _ _ => rfl)) pa_nil))) pa_nil)))))
  (pss_cons (ps_if (pt_cmpR op_gt (pe_callB call_len_seq (by rfl) m_len (by decide +kernel) (pa_cons (pv 2) pa_nil)) pe_int (nomark _)) (pss_one (ps_ret (pe_tup (pa_cons pe_str (pa_cons pe_str pa_nil))))) pss_nil)
  (pss_one (ps_ret (pe_tup (pa_cons pe_str (pa_cons (pe_tup (pa_cons pe_str (pa_cons (pe_callTy call_tuple_of (by rfl) m_tuple (by decide +kernel) (pa_cons (pv 2) pa_nil)) pa_nil))) pa_nil)))))))))))))))), ?_⟩
    with_reducible refine sset_gen (fun v H' => ∃ D, v = .ref D ∧ H D = none ∧ Kp H H' ∧ H' D = some (.lst ys)) (fun N hN => ?_) ?_
    · exact ⟨_, rfl, r, _, 0, _, rfl, rfl, .inl (.inl e1), atI_nat (j := 0) rfl, pm, _, 1, _, rfl, rfl, hpm, atI_nat (j := 1) rfl, pb, ys, rfl, .inr hpb, fun D hD => hN _ _ ⟨D, rfl, hD, Kb.new hD, upd_same⟩⟩
    rintro v H1 ⟨D, rfl, hD, k1, eD⟩
    have er := k1.keep r _ e1 (by simp) nt_lst
    have hd1 := DtAll.kb k1 Lsts.nil hd1
    have hys := DtAll.kb k1 Lsts.nil hys
    have two : ∀ (H' : Hp) (x : V) (d : PyData) (w : String) (p1 p2 : Addr), Kp H H' → Dt K H' x d → H' p1 = none → (upd H' p1 (.tup [.str (Str.ofString w), x])) p2 = none → (oper (cs f) (.m ps :: rest)).d = .tuple [.str (Str.ofString "value"), .tuple [.str (Str.ofString w), d]] →
        Q (.ref p2) (upd (upd H' p1 (.tup [.str (Str.ofString w), x])) p2 (.tup [.str (Str.ofString "value"), .ref p1])) := fun H' x d w p1 p2 k hx h1 h2 e => q _ _ (k.trans (ret2 "value" w hx h1 h2).1) (by rw [e]; exact (ret2 "value" w hx h1 h2).2)
    have one : ∀ (H' : Hp) (m : String) (p1 : Addr), Kp H H' → H' p1 = none → (oper (cs f) (.m ps :: rest)).d = .tuple [.str (Str.ofString "error"), .str (Str.ofString m)] → Q (.ref p1) (upd H' p1 (.tup [.str (Str.ofString "error"), .str (Str.ofString m)])) := fun H' m p1 k h1 e => q _ _ (k.trans (ret1 (K := K) "error" (.str (Str.ofString m)) h1).1) (by rw [e]; exact (ret1 (K := K) "error" (.str _) h1).2)
    have two' : ∀ (H' : Hp) (x : V) (d : PyData) (w : String), Kp H H' → Dt K H' x d → (oper (cs f) (.m ps :: rest)).d = .tuple [.str (Str.ofString "value"), .tuple [.str (Str.ofString w), d]] →
        ∀ p1 : Addr, H' p1 = none → 2 ≤ sizeLine ∧ ∀ p2 : Addr, (upd H' p1 (.tup [.str (Str.ofString w), x])) p2 = none → Q (.ref p2) (upd (upd H' p1 (.tup [.str (Str.ofString w), x])) p2 (.tup [.str (Str.ofString "value"), .ref p1])) := fun H' x d w k hx e p1 h1 => ⟨by decide, fun p2 h2 => two H' x d w p1 p2 k hx h1 h2 e⟩
    have two2 : 2 ≤ sizeLine := by decide
    have mapv : ∀ (H' : Hp) (zs : List V) (qs : List (Str × Rv.Sc)), Kp H H' → DtAll K H' zs (qs.map Rv.ent) → oper (cs f) (.m ps :: rest) = .val (.m qs) →
        ∀ l : Addr, H' l = none → 2 ≤ sizeLine ∧ ∀ p1 : Addr, (upd H' l (.tup zs)) p1 = none → 2 ≤ sizeLine ∧ ∀ p2 : Addr, (upd (upd H' l (.tup zs)) p1 (.tup [.str (Str.ofString "map"), .ref l])) p2 = none → Q (.ref p2) (upd (upd (upd H' l (.tup zs)) p1 (.tup [.str (Str.ofString "map"), .ref l])) p2 (.tup [.str (Str.ofString "value"), .ref p1])) := fun H' zs qs k hs e l hl =>
      ⟨by decide, two' (upd H' l (.tup zs)) (.ref l) (.tuple (qs.map Rv.ent)) "map" (k.trans (Kb.new hl)) (.tup (SqT.of upd_same) (DtAll.kb (Kb.new hl) Lsts.nil hs)) (by rw [e]; rfl)⟩
    have found : ∀ (H' : Hp) (D : Addr) (ys : List V) (N : VK) (x : Str) (p2 : Addr), H' D = some (.lst ys) → DtAll K H' ys (ps.map Rv.ent) → ys.length = ps.length →
        (∀ v H2, (∃ F, v = .ref F ∧ H' F = none ∧ Kp H' H2 ∧ H2 F = some (.lst ((plcs ps x ps.length).map fun n : Nat => V.int (n : Int)))) → N v H2) →
        ∀ σ : L2.St, σ = [some (.str (Str.ofString f)), some (.ref r), some (.ref D), some (.str x), none, none, none] →
        (tLc (iRng1 (tCons (tCB (fun xs H_1 Q => ∃ p ys, xs = [V.ref p] ∧ (SqL K H_1 p ys ∨ SqT K H_1 p ys) ∧ Q (V.int ↑ys.length) H_1) (tCons (tVar 2) tNil)) tNil)) (gName 5) (tTest (tOp rEq (tOp (rIxT K) (tOp (rIxL K) (tVar 2) (tVar 5)) (tC (V.int 0))) (tVar 3))) (tVar 5) (List.map (fun x => x.snd) [(Str.ofString "k", 5)])) σ H' N := by
      intro H' D ys N x p2 eD hys hyl hN σ hσ
      subst hσ
      refine ⟨_, rfl, D, ys, rfl, .inl (.inl (.inl eD)), (ys.length : Int), rfl, by omega, by omega, fun F hF => ?_⟩
      refine lc_it walk_range (fun i H3 => Kp H' H3 ∧ H3 F = some (.lst ((plcs ps x i).map fun n : Nat => V.int (n : Int)))) ⟨Kb.new hF, upd_same⟩ (fun _ _ _ _ => trivial) ?_ ?_
      · rintro i v _ H3 hi ⟨k, eF⟩ ⟨rfl, hv⟩
        obtain rfl : v = .int (0 + (i : Int)) := hv
        rw [Int.toNat_natCast] at hi
        have hi2 : i < ps.length := by omega
        have eD3 := k.keep D _ eD (by simp) nt_lst
        obtain ⟨y, hy, dy⟩ := (DtAll.kb k Lsts.nil hys).at (d := Rv.ent ps[i]) (i := i) (by rw [List.getElem?_map, List.getElem?_eq_getElem hi2]; rfl)
        obtain ⟨t, a, b, rfl, ht, ha, hb⟩ := dt_pair dy
        cases ha
        refine ⟨rfl, _, rfl, _, rfl, D, ys, _, _, rfl, rfl, .inl (.inl eD3), by rw [Int.zero_add]; exact atI_nat (j := i) hy, t, _, 0, _, rfl, rfl, ht, atI_nat (j := 0) rfl, _, rfl, rfl, _, rfl, ?_⟩
        have pl : (plcs ps x i).length ≤ i := plcs_len
        by_cases e : ps[i].1 = x
        · refine iteP (by show V.str ps[i].1 = V.str x; rw [e]) ⟨_, rfl, _, eF, by rw [List.length_map]; omega, k.mut hF (no_tab eF nt_lst), ?_⟩
          rw [upd_same, plcs_succ, if_pos (by rw [List.getElem?_eq_getElem hi2]; simpa using e), List.map_append, Int.zero_add]
          rfl
        · refine iteN (by show ¬ V.str ps[i].1 = V.str x; intro z; exact e (V.str.inj z)) ⟨k, ?_⟩
          rw [eF, plcs_succ, if_neg (by rw [List.getElem?_eq_getElem hi2]; simpa using e), List.append_nil]
      · rintro H3 ⟨k, eF⟩
        rw [Int.toNat_natCast, hyl] at eF
        exact hN _ _ ⟨F, rfl, hF, k, eF⟩
    rcases hf with rfl | rfl | rfl | rfl | rfl | rfl | rfl
    · have l : (rest.length + 1) = 1 := l
      obtain rfl : rest = [] := List.length_eq_zero_iff.mp (by omega)
      exact ⟨_, rfl, rfl, _, rfl, iteP (by rfl) ⟨_, rfl, D, ys, rfl, .inl (.inl (.inl eD)), two2, two' H1 _ (.int ps.length) "int" k1 (by rw [hyl]; exact .int _) rfl⟩⟩
    · have l : (rest.length + 1) = 1 := l
      obtain rfl : rest = [] := List.length_eq_zero_iff.mp (by omega)
      refine ⟨_, rfl, rfl, _, rfl, iteN (by decide +kernel) ⟨_, rfl, rfl, _, rfl, iteP (by rfl) ⟨_, rfl, .inl ⟨rfl, ys, .inl (.inl eD)⟩, D, ys, rfl, rfl, eD, ?_⟩⟩⟩
      refine ⟨_, rfl, D, ys.reverse, rfl, .inl ⟨.inl (.inl upd_same), mapv (upd H1 D (.lst ys.reverse)) ys.reverse ps.reverse (k1.mut hD (no_tab eD nt_lst)) ?_ rfl⟩⟩
      rw [List.map_reverse]
      exact dtAll_rev (dts_lst eD hys)
    · have l : (rest.length + 1) = 2 := l
      obtain ⟨a2, rfl⟩ : ∃ a, rest = [a] := List.length_eq_one_iff.mp (by omega)
      obtain ⟨i, rfl⟩ := has_int (wrongK_cons (wrongK_cons hw).2).1
      have gi : 0 ≤ i ∧ i ≤ 999999 := g (.s (.int i)) (by simp)
      obtain ⟨n, rfl⟩ : ∃ n : Nat, i = n := ⟨i.toNat, by omega⟩
      cases hd1 with
      | cons h2 hd2 =>
      obtain ⟨p2, rfl, hp2⟩ := dv_int h2
      refine ⟨_, rfl, rfl, _, rfl, iteN (by decide +kernel) ⟨_, rfl, rfl, _, rfl, iteN (by decide +kernel) ⟨_, rfl, rfl, _, rfl, iteP (by rfl) ?_⟩⟩⟩
      refine ⟨_, rfl, _, rfl, r, _, 1, _, rfl, rfl, .inl (.inl er), atI_nat (j := 1) rfl, p2, _, 1, _, rfl, rfl, hp2, atI_nat (j := 1) rfl, (n : Int), rfl, D, ys, rfl, .inl (.inl eD), fun l hl => ?_⟩
      have e : cutV ys none (some (n : Int)) = ys.take n := by
        unfold cutV
        rw [HT.sIx_none, HT.sIx_nat, List.drop_zero, Nat.sub_zero]
        by_cases h : n ≤ ys.length
        · rw [Nat.min_eq_left h]
        · rw [Nat.min_eq_right (by omega), List.take_of_length_le (Nat.le_refl _), List.take_of_length_le (by omega)]
      rw [e]
      refine ⟨l, ys.take n, rfl, .inl ⟨.inl (.inl upd_same), mapv _ (ys.take n) (ps.take n) (k1.trans (Kb.new hl)) ?_ rfl⟩⟩
      rw [List.map_take]
      exact dtAll_take (DtAll.kb (Kb.new hl) Lsts.nil hys)
    · have l : (rest.length + 1) = 2 := l
      obtain ⟨a2, rfl⟩ : ∃ a , rest = [a] := List.length_eq_one_iff.mp (by omega)
      obtain ⟨x, rfl, hx⟩ := has_key (wrongK_cons (wrongK_cons hw).2).1
      cases hd1 with
      | cons h2 hd2 =>
      obtain ⟨p2, rfl, hp2⟩ := dv_text h2
      refine ⟨_, rfl, rfl, _, rfl, iteN (by decide +kernel) ⟨_, rfl, rfl, _, rfl, iteN (by decide +kernel) ⟨_, rfl, rfl, _, rfl, iteN (by decide +kernel) ⟨_, rfl, r, _, 1, _, rfl, rfl, .inl (.inl er), atI_nat (j := 1) rfl, p2, _, 1, _, rfl, rfl, hp2, atI_nat (j := 1) rfl, ?_⟩⟩⟩⟩
      refine gset ?_
      with_reducible refine sset_gen (fun v H' => ∃ F, v = .ref F ∧ H1 F = none ∧ Kp H1 H' ∧ H' F = some (.lst ((plcs ps x ps.length).map fun n : Nat => V.int (n : Int)))) (fun N hN => ?_) ?_
      · exact found H1 D ys N x p2 eD hys hyl hN _ rfl
      rintro v H2 ⟨F, rfl, hF, k2, eF⟩
      have k12 := k1.trans k2
      have eD2 := k2.keep D _ eD (by simp) nt_lst
      have hys2 := DtAll.kb k2 Lsts.nil hys
      refine ⟨_, rfl, rfl, _, rfl, iteP (by rfl) ⟨_, rfl, F, _, rfl, .inl (.inl (.inl eF)), _, _, rfl, rfl, two2, two' H2 _ (.bool (lookE ps x).isSome) "bool" k12 ?_ rfl⟩⟩
      rcases plcs_all (x := x) gm.nd with ⟨e3, e4, e5⟩ | ⟨i, rr, k, e3, hi, e4, e5, e6⟩
      · rw [e3, e4]; exact .bl _
      · rw [e3, e5]
        show Dt K H2 (.bl (decide ((0 : Int) < ((List.map (fun n : Nat => V.int (n : Int)) (i :: rr)).length : Int)))) (.bool true)
        rw [decide_eq_true (by simp)]
        exact .bl true
    · have l : (rest.length + 1) = 2 := l
      obtain ⟨a2, rfl⟩ : ∃ a , rest = [a] := List.length_eq_one_iff.mp (by omega)
      obtain ⟨x, rfl, hx⟩ := has_key (wrongK_cons (wrongK_cons hw).2).1
      cases hd1 with
      | cons h2 hd2 =>
      obtain ⟨p2, rfl, hp2⟩ := dv_text h2
      refine ⟨_, rfl, rfl, _, rfl, iteN (by decide +kernel) ⟨_, rfl, rfl, _, rfl, iteN (by decide +kernel) ⟨_, rfl, rfl, _, rfl, iteN (by decide +kernel) ⟨_, rfl, r, _, 1, _, rfl, rfl, .inl (.inl er), atI_nat (j := 1) rfl, p2, _, 1, _, rfl, rfl, hp2, atI_nat (j := 1) rfl, ?_⟩⟩⟩⟩
      refine gset ?_
      with_reducible refine sset_gen (fun v H' => ∃ F, v = .ref F ∧ H1 F = none ∧ Kp H1 H' ∧ H' F = some (.lst ((plcs ps x ps.length).map fun n : Nat => V.int (n : Int)))) (fun N hN => ?_) ?_
      · exact found H1 D ys N x p2 eD hys hyl hN _ rfl
      rintro v H2 ⟨F, rfl, hF, k2, eF⟩
      have k12 := k1.trans k2
      have eD2 := k2.keep D _ eD (by simp) nt_lst
      have hys2 := DtAll.kb k2 Lsts.nil hys
      refine ⟨_, rfl, rfl, _, rfl, iteN (by decide +kernel) ⟨_, rfl, rfl, _, rfl, iteP (by rfl) ?_⟩⟩
      rcases plcs_all (x := x) gm.nd with ⟨e3, e4, e5⟩ | ⟨i, rr, k, e3, hi, e4, e5, e6⟩
      · rw [e3] at eF
        refine ⟨_, rfl, F, _, rfl, .inl (.inl (.inl eF)), rfl, _, rfl, iteP rfl ⟨two2, fun p1 h1 => one H2 _ p1 k12 h1 ?_⟩⟩
        show (opGet [.m ps, .s (.text x)]).d = _
        unfold opGet
        dsimp only
        rw [e4]
        rfl
      · rw [e3] at eF
        refine ⟨_, rfl, F, _, rfl, .inl (.inl (.inl eF)), rfl, _, rfl, iteN (by simp; omega) ?_⟩
        obtain ⟨y, hy, dy⟩ := hys2.at (d := Rv.ent (x, k)) (i := i) (by rw [List.getElem?_map, e4]; rfl)
        obtain ⟨t, a, b, rfl, ht, ha, hb⟩ := dt_pair dy
        refine ⟨_, rfl, _, rfl, F, _, 0, _, rfl, rfl, .inl (.inl eF), atI_nat (j := 0) rfl, D, ys, (i : Int), .ref t, rfl, rfl, .inl (.inl eD2), atI_nat (j := i) hy, t, _, 1, _, rfl, rfl, ht, atI_nat (j := 1) rfl, two2, fun p1 h1 => q _ _ (k12.trans (ret1 "value" hb h1).1) ?_⟩
        have e : (oper (cs "get") [.m ps, .s (.text x)]).d = .tuple [.str (Str.ofString "value"), k.d] := by
          show (opGet [.m ps, .s (.text x)]).d = _
          unfold opGet
          dsimp only
          rw [e5]
          rfl
        rw [e]
        exact (ret1 "value" hb h1).2
    · have l : (rest.length + 1) = 2 := l
      obtain ⟨a2, rfl⟩ : ∃ a , rest = [a] := List.length_eq_one_iff.mp (by omega)
      obtain ⟨x, rfl, hx⟩ := has_key (wrongK_cons (wrongK_cons hw).2).1
      cases hd1 with
      | cons h2 hd2 =>
      obtain ⟨p2, rfl, hp2⟩ := dv_text h2
      refine ⟨_, rfl, rfl, _, rfl, iteN (by decide +kernel) ⟨_, rfl, rfl, _, rfl, iteN (by decide +kernel) ⟨_, rfl, rfl, _, rfl, iteN (by decide +kernel) ⟨_, rfl, r, _, 1, _, rfl, rfl, .inl (.inl er), atI_nat (j := 1) rfl, p2, _, 1, _, rfl, rfl, hp2, atI_nat (j := 1) rfl, ?_⟩⟩⟩⟩
      refine gset ?_
      with_reducible refine sset_gen (fun v H' => ∃ F, v = .ref F ∧ H1 F = none ∧ Kp H1 H' ∧ H' F = some (.lst ((plcs ps x ps.length).map fun n : Nat => V.int (n : Int)))) (fun N hN => ?_) ?_
      · exact found H1 D ys N x p2 eD hys hyl hN _ rfl
      rintro v H2 ⟨F, rfl, hF, k2, eF⟩
      have k12 := k1.trans k2
      have eD2 := k2.keep D _ eD (by simp) nt_lst
      have hys2 := DtAll.kb k2 Lsts.nil hys
      refine ⟨_, rfl, rfl, _, rfl, iteN (by decide +kernel) ⟨_, rfl, rfl, _, rfl, iteN (by decide +kernel) ⟨_, rfl, rfl, _, rfl, iteP (by rfl) ?_⟩⟩⟩
      refine ⟨_, rfl, D, rfl, ⟨ys, .inl (.inl eD2)⟩, fun G hG => ?_⟩
      refine lc_it walk_list (fun i H' => ∃ acc, acc.length ≤ i ∧ Kp H2 H' ∧ H' G = some (.lst acc) ∧ DtAll K H' acc (((ps.take i).filter fun p => !decide (p.1 = x)).map Rv.ent)) ⟨[], Nat.le_refl _, Kb.new hG, upd_same, .nil⟩ (fun i H' _ ⟨acc, _, k, _⟩ => .inl (.inl (k.keep D _ eD2 (by simp) nt_lst))) ?_ ?_
      · rintro i v _ H3 hi ⟨acc, hacc, k, eG, ds⟩ ⟨rfl, hv⟩
        have hi2 : i < ps.length := by omega
        obtain ⟨d, hd, dv⟩ := (DtAll.kb k Lsts.nil hys2).get hv
        rw [List.getElem?_map, List.getElem?_eq_getElem hi2] at hd
        obtain rfl : Rv.ent ps[i] = d := Option.some.inj hd
        obtain ⟨t, y, z, rfl, ht, hy, hz⟩ := dt_pair dv
        cases hy
        refine ⟨rfl, .ref t, rfl, t, _, 0, _, rfl, rfl, ht, atI_nat (j := 0) rfl, _, rfl, rfl, _, rfl, ?_⟩
        have et : ps.take (i + 1) = ps.take i ++ [ps[i]] := by rw [List.take_add_one, List.getElem?_eq_getElem hi2]; rfl
        by_cases e : ps[i].1 = x
        · refine iteF' (by rw [e]; simp) ⟨acc, by omega, k, eG, ?_⟩
          rw [et, List.filter_append, List.filter_cons_of_neg (by simp [e]), List.filter_nil, List.append_nil]
          exact ds
        · refine iteT' (by rw [decide_eq_false (fun z => e (V.str.inj z))]; rfl) ⟨_, rfl, acc, eG, by omega, acc ++ [.ref t], by simp; omega, k.mut hG (no_tab eG nt_lst), upd_same, ?_⟩
          rw [et, List.filter_append, List.filter_cons_of_pos (by simp [e]), List.filter_nil, List.map_append]
          exact dts_lst eG (Gd.DtAll.snoc ds dv)
      · rintro H3 ⟨acc, hacc, k, eG, ds⟩
        rw [hyl, List.take_length] at ds
        exact ⟨G, acc, rfl, .inl ⟨.inl (.inl eG), mapv H3 acc _ (k12.trans k) ds rfl⟩⟩
    · have l : (rest.length + 1) = 3 := l
      obtain ⟨a2, a3, rfl⟩ : ∃ a b, rest = [a, b] := two_len l
      obtain ⟨x, rfl, hx⟩ := has_key (wrongK_cons (wrongK_cons hw).2).1
      cases hd1 with
      | cons h2 hd2 =>
      obtain ⟨p2, rfl, hp2⟩ := dv_text h2
      refine ⟨_, rfl, rfl, _, rfl, iteN (by decide +kernel) ⟨_, rfl, rfl, _, rfl, iteN (by decide +kernel) ⟨_, rfl, rfl, _, rfl, iteN (by decide +kernel) ⟨_, rfl, r, _, 1, _, rfl, rfl, .inl (.inl er), atI_nat (j := 1) rfl, p2, _, 1, _, rfl, rfl, hp2, atI_nat (j := 1) rfl, ?_⟩⟩⟩⟩
      refine gset ?_
      with_reducible refine sset_gen (fun v H' => ∃ F, v = .ref F ∧ H1 F = none ∧ Kp H1 H' ∧ H' F = some (.lst ((plcs ps x ps.length).map fun n : Nat => V.int (n : Int)))) (fun N hN => ?_) ?_
      · exact found H1 D ys N x p2 eD hys hyl hN _ rfl
      rintro v H2 ⟨F, rfl, hF, k2, eF⟩
      have k12 := k1.trans k2
      have eD2 := k2.keep D _ eD (by simp) nt_lst
      have hys2 := DtAll.kb k2 Lsts.nil hys
      refine ⟨_, rfl, rfl, _, rfl, iteN (by decide +kernel) ⟨_, rfl, rfl, _, rfl, iteN (by decide +kernel) ⟨_, rfl, rfl, _, rfl, iteN (by decide +kernel) ?_⟩⟩⟩
      obtain ⟨sc, rfl⟩ := has_scalar (wrongK_cons (wrongK_cons (wrongK_cons hw).2).2).1
      cases hd2 with
      | @cons v3 _ _ _ h3 hd3 =>
      have er2 := k2.keep r _ er (by simp) nt_lst
      have h32 : Dt K H2 v3 sc.d := h3.kb k2 Lsts.nil
      have nop := decide_eq_true (show (0 : Int) < 1 by omega)
      refine nx_gen ?_
      with_reducible refine seq_gen (fun σ' H' => σ' = [some (.str (Str.ofString "put")), some (.ref r), some (.ref D), some (.str x), some (.ref F), none, none] ∧ Kp H H' ∧ ∃ zs, H' D = some (.lst zs) ∧ DtAll K H' zs ((putE ps x sc).map Rv.ent)) (fun N hN => ?_) ?_
      · rcases plcs_all (x := x) gm.nd with ⟨e3, e4, e5⟩ | ⟨i, rr, k, e3, hi, e4, e5, e6⟩
        · rw [e3] at eF
          refine ⟨_, rfl, F, _, rfl, .inl (.inl (.inl eF)), _, _, rfl, rfl, _, rfl, iteN (by simp) ?_⟩
          refine ⟨_, rfl, .inl ⟨rfl, ys, .inl (.inl eD2)⟩, _, rfl, _, rfl, r, _, 2, _, rfl, rfl, .inl (.inl er2), atI_nat (j := 2) rfl, two2, fun p hp => ?_⟩
          have k3 : Kp H2 (upd H2 p (.tup [.str x, v3])) := Kb.new hp
          have eD3 := k3.keep D _ eD2 (by simp) nt_lst
          have hp3 : Dt K (upd H2 p (.tup [.str x, v3])) (.ref p) (Rv.ent (x, sc)) := .tup (SqT.of upd_same) (.cons (.str _) (.cons (h32.kb k3 Lsts.nil) .nil))
          have hys3 := DtAll.kb k3 Lsts.nil hys2
          refine ⟨D, ys, .ref p, rfl, rfl, eD3, by omega, hN _ _ ⟨rfl, (k12.trans k3).mut hD (no_tab eD3 nt_lst), _, upd_same, ?_⟩⟩
          rw [e5 sc, List.map_append]
          exact dts_lst eD3 (Gd.DtAll.snoc hys3 hp3)
        · rw [e3] at eF
          refine ⟨_, rfl, F, _, rfl, .inl (.inl (.inl eF)), _, _, rfl, rfl, _, rfl, iteP (by simp) ?_⟩
          refine ⟨_, rfl, _, rfl, r, _, 2, _, rfl, rfl, .inl (.inl er2), atI_nat (j := 2) rfl, two2, fun p hp => ?_⟩
          have k3 : Kp H2 (upd H2 p (.tup [.str x, v3])) := Kb.new hp
          have eD3 := k3.keep D _ eD2 (by simp) nt_lst
          have eF3 := k3.keep F _ eF (by simp) nt_lst
          have hp3 : Dt K (upd H2 p (.tup [.str x, v3])) (.ref p) (Rv.ent (x, sc)) := .tup (SqT.of upd_same) (.cons (.str _) (.cons (h32.kb k3 Lsts.nil) .nil))
          have hys3 := DtAll.kb k3 Lsts.nil hys2
          refine ⟨_, rfl, _, rfl, F, _, 0, _, rfl, rfl, .inl (.inl eF3), atI_nat (j := 0) rfl, D, ys, (i : Int), i, rfl, rfl, eD3, ?_, hN _ _ ⟨rfl, (k12.trans k3).mut hD (no_tab eD3 nt_lst), _, upd_same, ?_⟩⟩
          · unfold ixN
            rw [if_pos (by omega), if_pos (by omega), Int.toNat_natCast]
          · rw [e6 sc, List.map_set]
            exact dts_lst eD3 (dtAll_set hys3 hp3)
      rintro σ' H3 ⟨rfl, k3, zs, eZ, dz⟩
      have dl := dz.length
      rw [List.length_map] at dl
      refine ⟨_, rfl, D, zs, rfl, .inl (.inl (.inl eZ)), _, _, rfl, rfl, _, rfl, ?_⟩
      by_cases h9 : (putE ps x sc).length > 8
      · refine iteP (by omega) ⟨two2, fun p1 h1 => one H3 _ p1 k3 h1 ?_⟩
        show (opPut [.m ps, .s (.text x), .s sc]).d = _
        unfold opPut
        dsimp only
        rw [if_pos h9]
        rfl
      · refine iteN (by omega) ⟨_, rfl, D, zs, rfl, .inl ⟨.inl (.inl eZ), mapv H3 zs _ k3 dz ?_⟩⟩
        show opPut [.m ps, .s (.text x), .s sc] = _
        unfold opPut
        dsimp only
        rw [if_neg h9]
end
end Rw

/-! The law's own evaluation: a function called. -/
namespace Rw
open PySem PySem.Spec PyProof.Rows L2 GxR Gx Gd Rx Rs
abbrev s_law_called : Stmt := topS 60
theorem sc_law_called : FnScope ["name", "rows", "text"] ["name", "rows"] (defScope s_law_called) := ⟨rfl, rfl, rfl, by decide +kernel, rfl, by decide +kernel, by decide +kernel⟩
section
variable {P : Program} {w : World} {K : PySem.W.Frag} {mg : Str → Option Value} {base : Heap}
def lNames : List String := ["not", "size", "reverse", "add", "sub", "lt", "eq", "concat", "has", "get", "remove", "take", "put"]
def spLCalled (K : PySem.W.Frag) : Sp := fun vs H Q _ => ∃ (f : String) (r : Addr) (xs : List V) (as : List Va), f ∈ lNames ∧ vs = [.str (Str.ofString f), .ref r] ∧ H r = some (.lst xs) ∧ DtAll K H xs (as.map Va.d) ∧ (∀ a ∈ as, a.good) ∧
  as.length = (kindsOf (cs f)).length ∧ wrongK as (kindsOf (cs f)) = none ∧ ∀ u H', Kp H H' → Dt K H' u (oper (cs f) as).d → Q u H'
theorem two_as : ∀ {r : List Va}, r.length = 2 → ∃ a b, r = [a, b]
  | [a, b], _ => ⟨a, b, rfl⟩
  | [], h => by cases h
  | [_], h => by cases h
  | _ :: _ :: _ :: _, h => by simp at h
theorem c_law_called (D : DefAt K mg "_law_called" s_law_called ["name", "rows"]) (m_repr : mg "repr" = none) (m_len : mg "len" = none)
    (c__law_plain : Cal P w K mg base CX0 1 "_law_plain" ["scalar"] (spPl K)) (c__law_numbers : Cal P w K mg base CX0 1 "_law_numbers" ["name", "i", "j"] (spNum K)) (c__law_maps : Cal P w K mg base CX0 1 "_law_maps" ["name", "rows"] (spMaps K)) :
    Cal P w K mg base CX0 2 "_law_called" ["name", "rows"] (spLCalled K) := by
  refine D.cal (k := 1) sc_law_called (fun vs H Q E h => ?_) fun f cdv A outer s H vs Q E hr h => ?_
  · obtain ⟨_, _, _, _, _, rfl, _⟩ := h
    rfl
  · obtain ⟨f, r, xs, as, hf, rfl, e1, hd, g, l, hw, q⟩ := h
    have sz : sizeLine = 16777216 := rfl
    have two2 : 2 ≤ sizeLine := by decide
    refine ⟨_, (pss_cons (ps_if (pt_cmpR op_eq (pv 0) pe_str (nomark _)) (pss_one (ps_ret (pe_tup (pa_cons pe_str (pa_cons (pe_tup (pa_cons pe_str (pa_cons (pe_not (pe_ix ix_tup (pe_ix ix_list (pv 1) pe_int (fun _ _ => rfl)) pe_int (fun _ _ => rfl))) pa_nil))) pa_nil))))) pss_nil)
  (pss_cons (ps_if (pt_cmpR op_in_seq (pv 0) (pe_tup (pa_cons pe_str (pa_cons pe_str (pa_cons pe_str pa_nil)))) (by rfl)) (pss_one (ps_ret (pe_cal (c__law_numbers.mono (by omega)) hr (by rfl) (pa_cons (pv 0) (pa_cons (pe_ix ix_tup (pe_ix ix_list (pv 1) pe_int (fun _ _ => rfl)) pe_int (fun _ _ => rfl)) (pa_cons (pe_ix ix_tup (pe_ix ix_list (pv 1) pe_int (fun _ _ => rfl)) pe_int (fun _ _ => rfl)) pa_nil)))))) pss_nil)
  (pss_cons (ps_if (pt_cmpR op_eq (pv 0) pe_str (nomark _)) (pss_one (ps_ret (pe_tup (pa_cons pe_str (pa_cons (pe_tup (pa_cons pe_str (pa_cons (pe_cmpR op_eq (pe_callB (call_reprR hr) (by rfl) m_repr (by decide +kernel) (pa_cons (pe_ix ix_list (pv 1) pe_int (fun _ _ => rfl)) pa_nil)) (pe_callB (call_reprR hr) (by rfl) m_repr (by decide +kernel) (pa_cons (pe_ix ix_list (pv 1) pe_int (fun _ _ => rfl)) pa_nil)) (nomark _)) pa_nil))) pa_nil))))) pss_nil)
  (pss_cons (ps_if (pt_cmpR op_eq (pv 0) pe_str (nomark _)) (pss_cons (ps_set (i := 2) sc_law_called.nd rfl (Or.inl rfl) (pe_op op_add_str (pe_cal (c__law_plain.mono (by omega)) hr (by rfl) (pa_cons (pe_ix ix_list (pv 1) pe_int (fun _ _ => rfl)) pa_nil)) (pe_cal (c__law_plain.mono (by omega)) hr (by rfl) (pa_cons (pe_ix ix_list (pv 1) pe_int (fun _ _ => rfl)) pa_nil))))
  (pss_cons (ps_if (pt_cmpR op_gt (pe_callB call_len_str (by rfl) m_len (by decide +kernel) (pa_cons (pv 2) pa_nil)) pe_int (nomark _)) (pss_one (ps_ret (pe_tup (pa_cons pe_str (pa_cons pe_str pa_nil))))) pss_nil)
  (pss_one (ps_ret (pe_tup (pa_cons pe_str (pa_cons (pe_tup (pa_cons pe_str (pa_cons (pv 2) pa_nil))) pa_nil))))))) pss_nil)
  (pss_one (ps_ret (pe_cal (c__law_maps.mono (by omega)) hr (by rfl) (pa_cons (pv 0) (pa_cons (pv 1) pa_nil))))))))), ?_⟩
    have two : ∀ (H' : Hp) (x : V) (d : PyData) (w : String), Kp H H' → Dt K H' x d → (oper (cs f) as).d = .tuple [.str (Str.ofString "value"), .tuple [.str (Str.ofString w), d]] →
        ∀ p1 : Addr, H' p1 = none → 2 ≤ sizeLine ∧ ∀ p2 : Addr, (upd H' p1 (.tup [.str (Str.ofString w), x])) p2 = none → Q (.ref p2) (upd (upd H' p1 (.tup [.str (Str.ofString w), x])) p2 (.tup [.str (Str.ofString "value"), .ref p1])) := fun H' x d w k hx e p1 h1 => ⟨by decide, fun p2 h2 => q _ _ (k.trans (ret2 "value" w hx h1 h2).1) (by rw [e]; exact (ret2 "value" w hx h1 h2).2)⟩
    have one : ∀ (H' : Hp) (m : String) (p1 : Addr), Kp H H' → H' p1 = none → (oper (cs f) as).d = .tuple [.str (Str.ofString "error"), .str (Str.ofString m)] → Q (.ref p1) (upd H' p1 (.tup [.str (Str.ofString "error"), .str (Str.ofString m)])) := fun H' m p1 k h1 e => q _ _ (k.trans (ret1 (K := K) "error" (.str (Str.ofString m)) h1).1) (by rw [e]; exact (ret1 (K := K) "error" (.str _) h1).2)
    have nums : ∀ g : String, (g = "add" ∨ g = "sub" ∨ g = "lt") → f = g → ∃ i j p1 p2, xs = [.ref p1, .ref p2] ∧ as = [.s (.int i), .s (.int j)] ∧ SqT K H p1 [.str (Str.ofString "int"), .int i] ∧ SqT K H p2 [.str (Str.ofString "int"), .int j] ∧ 0 ≤ i ∧ i ≤ 999999 ∧ 0 ≤ j ∧ j ≤ 999999 := by
      intro g' hg hfg
      subst hfg
      have l2 : as.length = 2 := by rcases hg with rfl | rfl | rfl <;> exact l
      obtain ⟨a, b, rfl⟩ := two_as l2
      have w1 : Kd.int.has a = true := by rcases hg with rfl | rfl | rfl <;> exact (wrongK_cons hw).1
      have w2 : Kd.int.has b = true := by rcases hg with rfl | rfl | rfl <;> exact (wrongK_cons (wrongK_cons hw).2).1
      obtain ⟨i, rfl⟩ := has_int w1
      obtain ⟨j, rfl⟩ := has_int w2
      have g1 : 0 ≤ i ∧ i ≤ 999999 := g (.s (.int i)) (by simp)
      have g2 : 0 ≤ j ∧ j ≤ 999999 := g (.s (.int j)) (by simp)
      cases hd with
      | cons h1 hd =>
      cases hd with
      | cons h2 hd =>
      cases hd
      obtain ⟨p1, rfl, hp1⟩ := dv_int h1
      obtain ⟨p2, rfl, hp2⟩ := dv_int h2
      exact ⟨i, j, p1, p2, rfl, rfl, hp1, hp2, g1.1, g1.2, g2.1, g2.2⟩
    have hf' : f = "not" ∨ (f = "add" ∨ f = "sub" ∨ f = "lt") ∨ f = "eq" ∨ f = "concat" ∨ (f = "size" ∨ f = "reverse" ∨ f = "take" ∨ f = "has" ∨ f = "get" ∨ f = "remove" ∨ f = "put") := by
      simp only [lNames, List.mem_cons, List.not_mem_nil, or_false] at hf
      rcases hf with h | h | h | h | h | h | h | h | h | h | h | h | h <;> simp [h]
    rcases hf' with rfl | hf2 | rfl | rfl | hf2
    · obtain ⟨a, rfl⟩ : ∃ a, as = [a] := List.length_eq_one_iff.mp l
      obtain ⟨b, rfl⟩ := has_bool (wrongK_cons hw).1
      cases hd with
      | cons h1 hd =>
      cases hd
      obtain ⟨p1, rfl, hp1⟩ := dv_bool h1
      refine ⟨_, rfl, rfl, _, rfl, iteP (by rfl) ?_⟩
      exact ⟨_, rfl, r, _, 0, _, rfl, rfl, .inl (.inl e1), atI_nat (j := 0) rfl, p1, _, 1, _, rfl, rfl, hp1, atI_nat (j := 1) rfl, b, rfl, two2, two H (.bl (!b)) (.bool (!b)) "bool" (Kb.refl H) (.bl _) rfl⟩
    · obtain ⟨i, j, p1, p2, rfl, rfl, hp1, hp2, i0, i9, j0, j9⟩ := nums f hf2 rfl
      refine ⟨_, rfl, rfl, _, rfl, iteN (by rcases hf2 with rfl | rfl | rfl <;> decide +kernel) ?_⟩
      refine ⟨_, rfl, by decide, fun p hp => ⟨p, _, rfl, .inr (SqT.of upd_same), rfl, rfl, _, rfl, ?_⟩⟩
      refine iteT' (by rcases hf2 with rfl | rfl | rfl <;> decide +kernel) ?_
      have k1 : Kp H (upd H p (.tup [.str (Str.ofString "add"), .str (Str.ofString "sub"), .str (Str.ofString "lt")])) := Kb.new hp
      have er := k1.keep r _ e1 (by simp) nt_lst
      exact ⟨_, rfl, _, rfl, r, _, 0, _, rfl, rfl, .inl (.inl er), atI_nat (j := 0) rfl, p1, _, 1, _, rfl, rfl, k1.sqT Lsts.nil hp1, atI_nat (j := 1) rfl, _, rfl, r, _, 1, _, rfl, rfl, .inl (.inl er), atI_nat (j := 1) rfl, p2, _, 1, _, rfl, rfl, k1.sqT Lsts.nil hp2, atI_nat (j := 1) rfl,
        f, i, j, hf2, rfl, i0, i9, j0, j9, fun u H' k h => q u H' (k1.trans k) h⟩
    · obtain ⟨a, b, rfl⟩ := two_as l
      cases hd with
      | @cons v1 _ _ _ h1 hd =>
      cases hd with
      | @cons v2 _ _ _ h2 hd =>
      cases hd
      refine ⟨_, rfl, rfl, _, rfl, iteN (by decide +kernel) ⟨_, rfl, by decide, fun p hp => ⟨p, _, rfl, .inr (SqT.of upd_same), rfl, rfl, _, rfl, iteF' (by decide +kernel) ⟨_, rfl, rfl, _, rfl, iteP (by rfl) ?_⟩⟩⟩⟩
      have k1 : Kp H (upd H p (.tup [.str (Str.ofString "add"), .str (Str.ofString "sub"), .str (Str.ofString "lt")])) := Kb.new hp
      have er := k1.keep r _ e1 (by simp) nt_lst
      have g1 := g a (by simp)
      have g2 := g b (by simp)
      have o1 := va_okN g1
      have o2 := va_okN g2
      have s1 := okN_show _ o1
      have s2 := (okN_lay _ o1).2
      have t1 := okN_show _ o2
      have t2 := (okN_lay _ o2).2
      have l1 := va_le g1
      have l2 := va_le g2
      refine ⟨_, rfl, r, _, 0, _, rfl, rfl, .inl (.inl er), atI_nat (j := 0) rfl, _, _, rfl, (h1.kb k1 Lsts.nil).dp, s1.1, s1.2, by omega, by omega, ?_⟩
      refine ⟨_, rfl, r, _, 1, _, rfl, rfl, .inl (.inl er), atI_nat (j := 1) rfl, _, _, rfl, (h2.kb k1 Lsts.nil).dp, t1.1, t1.2, by omega, by omega, ?_⟩
      refine ⟨rfl, two2, two _ (.bl (decide (V.str a.d.shown = V.str b.d.shown))) (.bool (PyData.eqv a.d b.d)) "bool" k1 ?_ rfl⟩
      rw [shown_eqv g1 g2 (PySem.SeqAt.eqv_refl _ (okN_lay _ o1).1)]
      exact .bl _
    · obtain ⟨a, b, rfl⟩ := two_as l
      obtain ⟨x, rfl⟩ := has_scalar (wrongK_cons hw).1
      obtain ⟨y, rfl⟩ := has_scalar (wrongK_cons (wrongK_cons hw).2).1
      have g1 : x.good := g (.s x) (by simp)
      have g2 : y.good := g (.s y) (by simp)
      cases hd with
      | @cons v1 _ _ _ h1 hd =>
      cases hd with
      | @cons v2 _ _ _ h2 hd =>
      cases hd
      refine ⟨_, rfl, rfl, _, rfl, iteN (by decide +kernel) ⟨_, rfl, by decide, fun p hp => ⟨p, _, rfl, .inr (SqT.of upd_same), rfl, rfl, _, rfl, iteF' (by decide +kernel) ⟨_, rfl, rfl, _, rfl, iteN (by decide +kernel) ⟨_, rfl, rfl, _, rfl, iteP (by rfl) ?_⟩⟩⟩⟩⟩
      have k1 : Kp H (upd H p (.tup [.str (Str.ofString "add"), .str (Str.ofString "sub"), .str (Str.ofString "lt")])) := Kb.new hp
      have er := k1.keep r _ e1 (by simp) nt_lst
      have p1 := plain_len g1
      have p2 := plain_len g2
      refine ⟨_, rfl, r, _, 0, _, rfl, rfl, .inl (.inl er), atI_nat (j := 0) rfl, v1, x, rfl, h1.kb k1 Lsts.nil, g1, fun H2 k2 => ?_⟩
      have k12 := k1.trans k2
      have er2 := k2.keep r _ er (by simp) nt_lst
      refine ⟨_, rfl, r, _, 1, _, rfl, rfl, .inl (.inl er2), atI_nat (j := 1) rfl, v2, y, rfl, h2.kb k12 Lsts.nil, g2, fun H3 k3 => ?_⟩
      have k13 := k12.trans k3
      have hl : (x.plain ++ y.plain).length = x.plain.length + y.plain.length := by simp [Str.length_append]
      refine ⟨_, _, rfl, rfl, by omega, ?_⟩
      have e : oper (cs "concat") [.s x, .s y] = if (x.plain ++ y.plain).length > 40 then errS "text too long" else .val (.s (.text (x.plain ++ y.plain))) := rfl
      refine ⟨_, rfl, _, rfl, by omega, _, _, rfl, rfl, _, rfl, ?_⟩
      by_cases hz : (x.plain ++ y.plain).length > 40
      · exact iteP (by omega) ⟨two2, fun p1 h1 => one H3 _ p1 k13 h1 (by rw [e, if_pos hz]; rfl)⟩
      · exact iteN (by omega) ⟨_, rfl, two2, two H3 _ (.str (x.plain ++ y.plain)) "text" k13 (.str _) (by rw [e, if_neg hz]; rfl)⟩
    · have hn : (¬ f = "not") ∧ ¬ f = "eq" ∧ ¬ f = "concat" := by rcases hf2 with rfl | rfl | rfl | rfl | rfl | rfl | rfl <;> decide
      refine ⟨_, rfl, rfl, _, rfl, iteN (by rcases hf2 with rfl | rfl | rfl | rfl | rfl | rfl | rfl <;> decide +kernel) ⟨_, rfl, by decide, fun p hp => ⟨p, _, rfl, .inr (SqT.of upd_same), rfl, rfl, _, rfl, iteF' (by rcases hf2 with rfl | rfl | rfl | rfl | rfl | rfl | rfl <;> decide +kernel)
        ⟨_, rfl, rfl, _, rfl, iteN (by rcases hf2 with rfl | rfl | rfl | rfl | rfl | rfl | rfl <;> decide +kernel) ⟨_, rfl, rfl, _, rfl, iteN (by rcases hf2 with rfl | rfl | rfl | rfl | rfl | rfl | rfl <;> decide +kernel) ?_⟩⟩⟩⟩⟩
      have k1 : Kp H (upd H p (.tup [.str (Str.ofString "add"), .str (Str.ofString "sub"), .str (Str.ofString "lt")])) := Kb.new hp
      exact ⟨_, rfl, _, rfl, f, r, xs, as, hf2, rfl, k1.keep r _ e1 (by simp) nt_lst, DtAll.kb k1 Lsts.nil hd, g, l, hw, fun u H' k h => q u H' (k1.trans k) h⟩
end
end Rw

/-! The law's own evaluation, whole. -/
namespace Rw
open PySem PySem.Spec PyProof.Rows L2 GxR Gx Gd Rx Rs
abbrev s_law_special : Stmt := topS 61
theorem sc_law_special : FnScope ["tree", "scope", "provided", "resources", "name", "first", "second"] ["tree", "scope", "provided", "resources"] (defScope s_law_special) := ⟨rfl, rfl, rfl, by decide +kernel, rfl, by decide +kernel, by decide +kernel⟩
abbrev s_law_evaluate : Stmt := topS 62
theorem sc_law_evaluate : FnScope ["tree", "scope", "provided", "resources", "name", "value", "rows", "part", "told", "kinds", "k", "wrong"] ["tree", "scope", "provided", "resources"] (defScope s_law_evaluate) := ⟨rfl, rfl, rfl, by decide +kernel, rfl, by decide +kernel, by decide +kernel⟩
section
variable {P : Program} {w : World} {K : PySem.W.Frag} {mg : Str → Option Value} {base : Heap} {ts : List Addr}
def spLEv (K : PySem.W.Frag) (ts : List Addr) (m : Nat) : Sp := fun vs H Q _ => ∃ (v : V) (e : Ex) (sc pr re : Addr) (σ : Str → Option Va) (π : List (Str × Va)) (ρ : Str → Option Va), vs = [v, .ref sc, .ref pr, .ref re] ∧ DtE K H v e ∧ WfE e ∧ e.deep ≤ m ∧ Arn K H ts sc pr re σ π ρ ∧
  ∀ H' u, Kp H H' → Dt K H' u (ev σ π ρ e).d → Q u H'
def spLSp (K : PySem.W.Frag) (ts : List Addr) (m : Nat) : Sp := fun vs H Q _ => ∃ (a t : Addr) (xs : List V) (f : List Nat) (es : List Ex) (sc pr re : Addr) (σ : Str → Option Va) (π : List (Str × Va)) (ρ : Str → Option Va), vs = [.ref a, .ref sc, .ref pr, .ref re] ∧ (f = cs "and" ∨ f = cs "cond" ∨ f = cs "resource") ∧
  SqT K H a [.str (Str.ofString "call"), .str (sx f), .ref t] ∧ SqT K H t xs ∧ DtEs K H xs es ∧ WfEs es ∧ es.length = arity f ∧ Ex.deepAll es ≤ m ∧ Arn K H ts sc pr re σ π ρ ∧ ∀ H' u, Kp H H' → Dt K H' u (ev σ π ρ (.call f es)).d → Q u H'
section
variable {ρ : Str → Option Va}
theorem apR_and (a b : Re) : apR ρ (cs "and") [a, b] = andR a b := by unfold apR; rw [if_pos rfl]
theorem apR_cond (c a b : Re) : apR ρ (cs "cond") [c, a, b] = condR c a b := by unfold apR; rw [if_neg (by decide +kernel), if_pos rfl]
theorem apR_res (v : Va) : apR ρ (cs "resource") [.val v] = resR ρ v := by
  unfold apR
  rw [if_neg (by decide +kernel), if_neg (by decide +kernel)]
  show (if cs "resource" = cs "resource" then resR ρ v else _) = _
  rw [if_pos rfl]
theorem special_no {f : List Nat} {R : Re} {rs : List Re} (hf : f = cs "and" ∨ f = cs "cond" ∨ f = cs "resource") (hl : rs.length + 1 = arity f) (h : ∀ va, R ≠ .val va) : apR ρ f (R :: rs) = R := by
  rcases hf with rfl | rfl | rfl
  · have hl : rs.length + 1 = 2 := hl.trans (by decide +kernel)
    match rs, hl with
    | [b], _ =>
      rw [apR_and]
      cases R with
      | val va => exact absurd rfl (h va)
      | err m => rfl
      | wait m => rfl
  · have hl : rs.length + 1 = 3 := hl.trans (by decide +kernel)
    match rs, hl with
    | [a, b], _ =>
      rw [apR_cond]
      cases R with
      | val va => exact absurd rfl (h va)
      | err m => rfl
      | wait m => rfl
  · unfold apR
    rw [if_neg (by decide +kernel), if_neg (by decide +kernel)]
    cases R with
    | val va => exact absurd rfl (h va)
    | err m => rfl
    | wait m => rfl
theorem str_zero {x : Str} (h : x.length = 0) : x = Str.ofString "" := by
  obtain ⟨c⟩ := x
  have h : c.size = 0 := h
  have : c = #[] := Array.eq_empty_of_size_eq_zero h
  rw [this]
  rfl
end
def kvsL : List (Key × V) := kindL.map fun p => ((Sum.inr (Str.ofString p.1) : Key), V.str (Str.ofString p.2))
def kt (f : String) : String := (kindL.lookup f).getD ""
theorem kt_all : lNames.all (fun f => decide (valV (mergeK [] kvsL) (.inr (Str.ofString f)) = some (.str (Str.ofString (kt f)))) && decide ((Str.ofString (kt f)).cps.toList.map (fun c => (⟨#[c]⟩ : Str)) = (kindsOf (cs f)).map fun k => Str.ofString (letK k)) && decide ((Str.ofString (kt f)).length ≤ 3)) = true := by decide +kernel
theorem kt_of {f : String} (h : f ∈ lNames) : valV (mergeK [] kvsL) (.inr (Str.ofString f)) = some (.str (Str.ofString (kt f))) ∧ (Str.ofString (kt f)).cps.toList.map (fun c => (⟨#[c]⟩ : Str)) = (kindsOf (cs f)).map (fun k => Str.ofString (letK k)) ∧ (Str.ofString (kt f)).length ≤ 3 := by
  have := List.all_eq_true.mp kt_all f h
  rw [Bool.and_eq_true, Bool.and_eq_true] at this
  exact ⟨of_decide_eq_true this.1.1, of_decide_eq_true this.1.2, of_decide_eq_true this.2⟩
theorem fn_name {f : List Nat} (h : f ∈ eager) : ∃ g ∈ lNames, f = cs g := by
  have h : f ∈ lNames.map cs := h
  obtain ⟨g, h1, h2⟩ := List.mem_map.mp h
  exact ⟨g, h1, h2.symm⟩
theorem pairs_kd {K : PySem.W.Frag} {H : Hp} : ∀ {L : List (String × String)} {xs : List V}, DtAll K H xs (L.map fun p => .tuple [.str (Str.ofString p.1), .str (Str.ofString p.2)]) →
    ∃ ps : List Addr, xs = ps.map V.ref ∧ Paired (fun (p : Addr) (kv : Key × V) => SqT K H p [kV kv.1, kv.2]) ps (L.map fun p => ((Sum.inr (Str.ofString p.1) : Key), V.str (Str.ofString p.2)))
  | [], _, .nil => ⟨[], rfl, .nil⟩
  | (k, s) :: L, _, .cons h hs => by
    obtain ⟨ps, rfl, h1⟩ := pairs_kd hs
    obtain ⟨p, x, y, rfl, hp, hx, hy⟩ := dt_pair h
    cases hx
    cases hy
    exact ⟨p :: ps, rfl, .cons hp h1⟩
def prevL (K : PySem.W.Frag) (ts : List Addr) : Nat → Sp
  | 0 => fun _ _ _ _ => False
  | m + 1 => spLEv K ts m
def prevS (K : PySem.W.Frag) (ts : List Addr) : Nat → Sp
  | 0 => fun _ _ _ _ => False
  | m + 1 => spLSp K ts m
theorem dre {H : Hp} {u : V} {R : Re} (h : Dt K H u R.d) : ∃ p y, u = .ref p ∧ SqT K H p [.str (Str.ofString R.word), y] ∧ ∀ va, R = .val va → Dt K H y va.d := by
  cases R with
  | val va =>
    obtain ⟨p, a, b, rfl, hp, ha, hb⟩ := dt_pair (a := .str (Str.ofString "value")) (b := va.d) h
    cases ha
    exact ⟨p, _, rfl, hp, fun v e => by cases e; exact hb⟩
  | err m =>
    obtain ⟨p, a, b, rfl, hp, ha, hb⟩ := dt_pair (a := .str (Str.ofString "error")) (b := .str m) h
    cases ha
    exact ⟨p, _, rfl, hp, fun v e => by cases e⟩
  | wait m =>
    obtain ⟨p, a, b, rfl, hp, ha, hb⟩ := dt_pair (a := .str (Str.ofString "waits")) (b := .str m) h
    cases ha
    exact ⟨p, _, rfl, hp, fun v e => by cases e⟩
theorem c_law_special {k m : Nat} (hk : 1 ≤ k) (D : DefAt K mg "_law_special" s_law_special ["tree", "scope", "provided", "resources"]) (m_int : mg "int" = none)
    (c__law_evaluate : Cal P w K mg base CX0 k "_law_evaluate" ["tree", "scope", "provided", "resources"] (spLEv K ts m)) : Cal P w K mg base CX0 (k + 1) "_law_special" ["tree", "scope", "provided", "resources"] (spLSp K ts m) := by
  refine D.cal (k := k) sc_law_special (fun vs H Q E h => ?_) fun f cdv A outer s H vs Q E hr h => ?_
  · obtain ⟨_, _, _, _, _, _, _, _, _, _, _, rfl, _⟩ := h
    rfl
  · obtain ⟨a, t, xs, f, es, sc, pr, re, σ, π, ρ, rfl, hf, ha, ht, hs, hw, hl, hd, hA, q⟩ := h
    refine ⟨_, (pss_cons (ps_set (i := 4) sc_law_special.nd rfl (Or.inl rfl) (pe_ix ix_tup (pv 0) pe_int (fun _ _ => rfl)))
  (pss_cons (ps_set (i := 5) sc_law_special.nd rfl (Or.inl rfl) (pe_cal (c__law_evaluate.mono (by omega)) hr (by rfl) (pa_cons (pe_ix ix_tup (pe_ix ix_tup (pv 0) pe_int (fun _ _ => rfl)) pe_int (fun _ _ => rfl)) (pa_cons (pv 1) (pa_cons (pv 2) (pa_cons (pv 3) pa_nil))))))
  (pss_cons (ps_if (pt_cmpR op_ne (pe_ix ix_tup (pv 5) pe_int (fun _ _ => rfl)) pe_str (nomark _)) (pss_one (ps_ret (pv 5))) pss_nil)
  (pss_cons (ps_if (pt_cmpR op_eq (pv 4) pe_str (nomark _)) (pss_cons (ps_if (PW.pt (pw_or (pt_cmpR op_ne (pe_ix ix_tup (pe_ix ix_tup (pv 5) pe_int (fun _ _ => rfl)) pe_int (fun _ _ => rfl)) pe_str (nomark _)) (pw_or1 (pt_cmpR op_eq (pe_ix ix_tup (pe_ix ix_tup (pv 5) pe_int (fun _ _ => rfl)) pe_int (fun _ _ => rfl)) pe_str (nomark _))))) (pss_one (ps_ret (pe_tup (pa_cons pe_str (pa_cons pe_str pa_nil))))) pss_nil)
  (pss_cons (ps_if (pt_cmp (pc_din (hu1 hr) (pe_ix ix_tup (pe_ix ix_tup (pv 5) pe_int (fun _ _ => rfl)) pe_int (fun _ _ => rfl)) (pv 3))) (pss_one (ps_ret (pe_tup (pa_cons pe_str (pa_cons (pe_dget (hu1 hr) (pv 3) (pe_ix ix_tup (pe_ix ix_tup (pv 5) pe_int (fun _ _ => rfl)) pe_int (fun _ _ => rfl)) (fun _ _ => rfl)) pa_nil))))) pss_nil)
  (pss_one (ps_ret (pe_tup (pa_cons pe_str (pa_cons (pe_ix ix_tup (pe_ix ix_tup (pv 5) pe_int (fun _ _ => rfl)) pe_int (fun _ _ => rfl)) pa_nil))))))) pss_nil)
  (pss_cons (ps_if (pt_cmpR op_ne (pe_ix ix_tup (pe_ix ix_tup (pv 5) pe_int (fun _ _ => rfl)) pe_int (fun _ _ => rfl)) pe_str (nomark _)) (pss_one (ps_ret (pe_tup (pa_cons pe_str (pa_cons pe_str pa_nil))))) pss_nil)
  (pss_cons (ps_if (pt_cmpR op_eq (pv 4) pe_str (nomark _)) (pss_one (ps_ret (pe_cal (c__law_evaluate.mono (by omega)) hr (by rfl) (pa_cons (pe_ix ix_tup (pe_ix ix_tup (pv 0) pe_int (fun _ _ => rfl)) (pe_op op_sub pe_int (pe_callTy call_int1 (by rfl) m_int (by decide +kernel) (pa_cons (pe_ix ix_tup (pe_ix ix_tup (pv 5) pe_int (fun _ _ => rfl)) pe_int (fun _ _ => rfl)) pa_nil))) (fun _ _ => rfl)) (pa_cons (pv 1) (pa_cons (pv 2) (pa_cons (pv 3) pa_nil))))))) pss_nil)
  (pss_cons (ps_if (pt_not (pt_val (pe_ix ix_tup (pe_ix ix_tup (pv 5) pe_int (fun _ _ => rfl)) pe_int (fun _ _ => rfl)))) (pss_one (ps_ret (pv 5))) pss_nil)
  (pss_cons (ps_set (i := 6) sc_law_special.nd rfl (Or.inl rfl) (pe_cal (c__law_evaluate.mono (by omega)) hr (by rfl) (pa_cons (pe_ix ix_tup (pe_ix ix_tup (pv 0) pe_int (fun _ _ => rfl)) pe_int (fun _ _ => rfl)) (pa_cons (pv 1) (pa_cons (pv 2) (pa_cons (pv 3) pa_nil))))))
  (pss_cons (ps_if (PW.pt (pw_and (pt_cmpR op_eq (pe_ix ix_tup (pv 6) pe_int (fun _ _ => rfl)) pe_str (nomark _)) (pw_and1 (pt_cmpR op_ne (pe_ix ix_tup (pe_ix ix_tup (pv 6) pe_int (fun _ _ => rfl)) pe_int (fun _ _ => rfl)) pe_str (nomark _))))) (pss_one (ps_ret (pe_tup (pa_cons pe_str (pa_cons pe_str pa_nil))))) pss_nil)
  (pss_one (ps_ret (pv 6)))))))))))), ?_⟩
    obtain ⟨v1, e1, xs, es, rfl, rfl, d1, ds⟩ : ∃ v1 e1 xs1 es1, xs = v1 :: xs1 ∧ es = e1 :: es1 ∧ DtE K H v1 e1 ∧ DtEs K H xs1 es1 := by
      cases hs with
      | nil => rcases hf with rfl | rfl | rfl <;> cases hl
      | cons h hs => exact ⟨_, _, _, _, rfl, rfl, h, hs⟩
    obtain ⟨w1, ws⟩ := hw
    have hd1 := deep_at (i := 0) hd rfl
    have two2 : 2 ≤ sizeLine := by decide
    refine ⟨_, rfl, a, _, 1, _, rfl, rfl, ha, atI_nat (j := 1) rfl, ?_⟩
    refine gset ?_
    refine ⟨_, rfl, a, _, 2, _, rfl, rfl, ha, atI_nat (j := 2) rfl, t, _, 0, _, rfl, rfl, ht, atI_nat (j := 0) rfl, _, rfl, _, rfl, _, rfl, v1, e1, sc, pr, re, σ, π, ρ, rfl, d1, w1, hd1, hA, fun H2 u k2 r => ?_⟩
    refine gset ?_
    obtain ⟨p, y, rfl, hp, hy⟩ := dre r
    have qe : ∀ (H' : Hp) (m : String) (p1 : Addr), Kp H H' → H' p1 = none → ev σ π ρ (.call f (e1 :: es)) = errS m → Q (.ref p1) (upd H' p1 (.tup [.str (Str.ofString "error"), .str (Str.ofString m)])) := fun H' m p1 k h1 e => q _ _ (k.trans (ret1 (K := K) "error" (.str (Str.ofString m)) h1).1) (by rw [e]; exact (ret1 (K := K) "error" (.str _) h1).2)
    have ee : ev σ π ρ (.call f (e1 :: es)) = apR ρ f (ev σ π ρ e1 :: evs σ π ρ es) := rfl
    have gR := ev_good hA.env w1
    generalize ev σ π ρ e1 = R at r hp hy ee gR
    have hno : (∀ va, R ≠ .val va) → ev σ π ρ (.call f (e1 :: es)) = R := by
      intro h
      rw [ee]
      exact special_no hf (by rw [evs_map, List.length_map]; exact hl) h
    refine ⟨_, rfl, p, _, 0, _, rfl, rfl, hp, atI_nat (j := 0) rfl, rfl, _, rfl, ?_⟩
    rw [res_val]
    cases R with
    | err m =>
      refine iteT ⟨_, rfl, q _ _ k2 ?_⟩
      rw [hno fun _ z => by cases z]
      exact r
    | wait m =>
      refine iteT ⟨_, rfl, q _ _ k2 ?_⟩
      rw [hno fun _ z => by cases z]
      exact r
    | val va =>
    have hy := hy va rfl
    have gva : va.good := gR
    obtain ⟨p2, xs2, rfl, hp2, h0⟩ := dv_head hy
    have bool2 : ∀ b, va = .s (.bool b) → SqT K H2 p2 [.str (Str.ofString "bool"), .bl b] := by
      intro b hb
      subst hb
      obtain ⟨p', e, h⟩ := dv_bool hy
      cases e
      exact h
    rcases hf with rfl | rfl | rfl
    · obtain ⟨e2, rfl⟩ : ∃ e, es = [e] := List.length_eq_one_iff.mp (by have : es.length + 1 = 2 := hl.trans (by decide +kernel); omega)
      cases ds with
      | @cons v2 _ _ _ d2 ds =>
      cases ds
      have ee : ev σ π ρ (.call (cs "and") [e1, e2]) = andR (.val va) (ev σ π ρ e2) := by rw [ee]; exact apR_and _ _
      refine iteF ⟨_, rfl, rfl, _, rfl, iteN (fun z => absurd (sx_eq.mp z) (by decide +kernel)) ⟨_, rfl, p, _, 1, _, rfl, rfl, hp, atI_nat (j := 1) rfl, p2, xs2, 0, _, rfl, rfl, hp2, atI_nat (j := 0) h0, rfl, _, rfl, ?_⟩⟩
      by_cases hb : Kd.bool.has va = true
      · obtain ⟨b, rfl⟩ := has_bool hb
        have hp2 := bool2 b rfl
        refine iteFb (by rfl) ⟨_, rfl, rfl, _, rfl, iteN (fun z => absurd (sx_eq.mp z) (by decide +kernel)) ⟨_, rfl, p, _, 1, _, rfl, rfl, hp, atI_nat (j := 1) rfl, p2, _, 1, _, rfl, rfl, hp2, atI_nat (j := 1) rfl, b, rfl, ?_⟩⟩
        cases b with
        | false =>
          refine iteTb (by rfl) ⟨_, rfl, q _ _ k2 ?_⟩
          rw [ee]
          exact r
        | true =>
          have ee : ev σ π ρ (.call (cs "and") [e1, e2]) = boolR (ev σ π ρ e2) := ee
          refine iteFb (by rfl) ⟨_, rfl, a, _, 2, _, rfl, rfl, k2.sqT Lsts.nil ha, atI_nat (j := 2) rfl, t, _, 1, _, rfl, rfl, k2.sqT Lsts.nil ht, atI_nat (j := 1) rfl, _, rfl, _, rfl, _, rfl, v2, e2, sc, pr, re, σ, π, ρ, rfl, d2.kb k2 Lsts.nil, ws.1, deep_at (i := 1) hd rfl, hA.kp k2, fun H3 u3 k3 r3 => ?_⟩
          refine gset ?_
          have k13 := k2.trans k3
          obtain ⟨p3, y3, rfl, hp3, hy3⟩ := dre r3
          generalize ev σ π ρ e2 = R2 at r3 hp3 hy3 ee
          refine ⟨_, rfl, p3, _, 0, _, rfl, rfl, hp3, atI_nat (j := 0) rfl, rfl, _, rfl, ?_⟩
          cases R2 with
          | err mm =>
            refine iteFb (by rfl) (iteF ⟨_, rfl, q _ _ k13 ?_⟩)
            rw [ee]
            exact r3
          | wait mm =>
            refine iteFb (by rfl) (iteF ⟨_, rfl, q _ _ k13 ?_⟩)
            rw [ee]
            exact r3
          | val vb =>
            obtain ⟨p4, xs4, rfl, hp4, h4⟩ := dv_head (hy3 vb rfl)
            refine iteTb (by rfl) ⟨_, rfl, p3, _, 1, _, rfl, rfl, hp3, atI_nat (j := 1) rfl, p4, xs4, 0, _, rfl, rfl, hp4, atI_nat (j := 0) h4, rfl, _, rfl, ?_⟩
            have ee : ev σ π ρ (.call (cs "and") [e1, e2]) = if Kd.bool.has vb = true then .val vb else errS "not a boolean" := ee
            by_cases hb : Kd.bool.has vb = true
            · rw [if_pos hb] at ee
              obtain ⟨b, rfl⟩ := has_bool hb
              refine iteFb (by rfl) ⟨_, rfl, q _ _ k13 ?_⟩
              rw [ee]
              exact r3
            · rw [if_neg hb] at ee
              refine iteTb ?_ ⟨two2, fun p1 h1 => qe H3 _ p1 k13 h1 ee⟩
              cases vb with
              | m ps => rfl
              | s x => cases x <;> (first | exact absurd rfl hb | rfl)
      · refine iteTb ?_ ⟨two2, fun p1 h1 => qe H2 _ p1 k2 h1 ?_⟩
        · cases va with
          | m ps => rfl
          | s x => cases x <;> (first | exact absurd rfl hb | rfl)
        · rw [ee]
          unfold andR boolR
          dsimp only
          rw [if_neg hb]
          rfl
    · obtain ⟨e2, e3, rfl⟩ : ∃ e e', es = [e, e'] := by
        have : es.length = 2 := by have : es.length + 1 = 3 := hl.trans (by decide +kernel); omega
        match es, this with
        | [e, e'], _ => exact ⟨e, e', rfl⟩
      cases ds with
      | @cons v2 _ _ _ d2 ds =>
      cases ds with
      | @cons v3 _ _ _ d3 ds =>
      cases ds
      have ee : ev σ π ρ (.call (cs "cond") [e1, e2, e3]) = condR (.val va) (ev σ π ρ e2) (ev σ π ρ e3) := by rw [ee]; exact apR_cond _ _ _
      refine iteF ⟨_, rfl, rfl, _, rfl, iteN (fun z => absurd (sx_eq.mp z) (by decide +kernel)) ⟨_, rfl, p, _, 1, _, rfl, rfl, hp, atI_nat (j := 1) rfl, p2, xs2, 0, _, rfl, rfl, hp2, atI_nat (j := 0) h0, rfl, _, rfl, ?_⟩⟩
      by_cases hb : Kd.bool.has va = true
      · obtain ⟨b, rfl⟩ := has_bool hb
        have hp2 := bool2 b rfl
        refine iteFb (by rfl) ⟨_, rfl, rfl, _, rfl, iteP (sx_eq.mpr rfl) ?_⟩
        have hka := k2.sqT Lsts.nil ha
        have hkt := k2.sqT Lsts.nil ht
        cases b with
        | true =>
          exact ⟨_, rfl, a, _, 2, _, rfl, rfl, hka, atI_nat (j := 2) rfl, _, rfl, p, _, 1, _, rfl, rfl, hp, atI_nat (j := 1) rfl, p2, _, 1, _, rfl, rfl, hp2, atI_nat (j := 1) rfl, .inr ⟨true, rfl, _, _, rfl, rfl, t, _, 1, _, rfl, rfl, hkt, atI_nat (j := 1) rfl, _, rfl, _, rfl, _, rfl,
            v2, e2, sc, pr, re, σ, π, ρ, rfl, d2.kb k2 Lsts.nil, ws.1, deep_at (i := 1) hd rfl, hA.kp k2, fun H3 u3 k3 r3 => q _ _ (k2.trans k3) (by rw [ee]; exact r3)⟩⟩
        | false =>
          exact ⟨_, rfl, a, _, 2, _, rfl, rfl, hka, atI_nat (j := 2) rfl, _, rfl, p, _, 1, _, rfl, rfl, hp, atI_nat (j := 1) rfl, p2, _, 1, _, rfl, rfl, hp2, atI_nat (j := 1) rfl, .inr ⟨false, rfl, _, _, rfl, rfl, t, _, 2, _, rfl, rfl, hkt, atI_nat (j := 2) rfl, _, rfl, _, rfl, _, rfl,
            v3, e3, sc, pr, re, σ, π, ρ, rfl, d3.kb k2 Lsts.nil, ws.2.1, deep_at (i := 2) hd rfl, hA.kp k2, fun H3 u3 k3 r3 => q _ _ (k2.trans k3) (by rw [ee]; exact r3)⟩⟩
      · refine iteTb ?_ ⟨two2, fun p1 h1 => qe H2 _ p1 k2 h1 ?_⟩
        · cases va with
          | m ps => rfl
          | s x => cases x <;> (first | exact absurd rfl hb | rfl)
        · rw [ee]
          unfold condR boolR
          dsimp only
          rw [if_neg hb]
          rfl
    · obtain rfl : es = [] := List.length_eq_zero_iff.mp (by have : es.length + 1 = 1 := hl.trans (by decide +kernel); omega)
      have ee : ev σ π ρ (.call (cs "resource") [e1]) = resR ρ va := by rw [ee]; exact apR_res _
      refine iteF ⟨_, rfl, rfl, _, rfl, iteP (sx_eq.mpr rfl) ⟨_, rfl, p, _, 1, _, rfl, rfl, hp, atI_nat (j := 1) rfl, p2, xs2, 0, _, rfl, rfl, hp2, atI_nat (j := 0) h0, rfl, _, rfl, ?_⟩⟩
      have bad : (¬ ∃ x, va = .s (.text x)) → (!decide (V.str (Str.ofString va.word) = V.str (Str.ofString "text"))) = true ∧ resR ρ va = errS "invalid resource name" := by
        intro h
        cases va with
        | m ps => exact ⟨rfl, rfl⟩
        | s x => cases x <;> (first | exact absurd ⟨_, rfl⟩ h | exact ⟨rfl, rfl⟩)
      by_cases hx : ∃ x, va = .s (.text x)
      · obtain ⟨x, rfl⟩ := hx
        obtain ⟨p3, e3, hp3⟩ := dv_text hy
        cases e3
        have ee : ev σ π ρ (.call (cs "resource") [e1]) = if x.length = 0 then errS "invalid resource name" else match ρ x with | some v => .val v | none => .wait x := ee
        refine iteFb (by rfl) ⟨_, rfl, p, _, 1, _, rfl, rfl, hp, atI_nat (j := 1) rfl, p2, _, 1, _, rfl, rfl, hp3, atI_nat (j := 1) rfl, rfl, _, rfl, ?_⟩
        by_cases hz : x.length = 0
        · rw [if_pos hz] at ee
          exact iteP (by rw [str_zero hz]) ⟨two2, fun p1 h1 => qe H2 _ p1 k2 h1 ee⟩
        · rw [if_neg hz] at ee
          obtain ⟨kvs, eRe, hkv⟩ := hA.r.kp k2
          refine iteN (fun z => hz (by rw [V.str.inj z]; rfl)) ⟨_, rfl, p, _, 1, _, rfl, rfl, hp, atI_nat (j := 1) rfl, p2, _, 1, _, rfl, rfl, hp3, atI_nat (j := 1) rfl, _, rfl, re, _, rfl, DGet.k (k := .inr x) eRe, _, rfl, ?_⟩
          have hq := hkv x
          cases hr : ρ x with
          | none =>
            rw [hr] at hq ee
            rw [show valV kvs (.inr x) = none from hq]
            refine iteF ⟨_, rfl, p, _, 1, _, rfl, rfl, hp, atI_nat (j := 1) rfl, p2, _, 1, _, rfl, rfl, hp3, atI_nat (j := 1) rfl, two2, fun p1 h1 => q _ _ (k2.trans (ret1 (K := K) "waits" (.str x) h1).1) ?_⟩
            rw [ee]
            exact (ret1 (K := K) "waits" (.str x) h1).2
          | some vr =>
            rw [hr] at hq ee
            obtain ⟨gr, v, e4, dv⟩ := hq
            have hg : DGet H2 re (kV (.inr x)) (some v) := by rw [← e4]; exact DGet.k (k := .inr x) eRe
            rw [e4]
            refine iteT ⟨_, rfl, _, rfl, p, _, 1, _, rfl, rfl, hp, atI_nat (j := 1) rfl, p2, _, 1, _, rfl, rfl, hp3, atI_nat (j := 1) rfl, re, v, rfl, hg, two2, fun p1 h1 => q _ _ (k2.trans (ret1 (K := K) "value" dv.dt h1).1) ?_⟩
            rw [ee]
            exact (ret1 (K := K) "value" dv.dt h1).2
      · refine iteTb (bad hx).1 (iteT ⟨two2, fun p1 h1 => qe H2 _ p1 k2 h1 (by rw [ee]; exact (bad hx).2)⟩)
theorem c_law_evaluate {k m : Nat} (hk : 2 ≤ k) (D : DefAt K mg "_law_evaluate" s_law_evaluate ["tree", "scope", "provided", "resources"]) (m_dict : mg "dict" = none) (m_len : mg "len" = none) (m_range : mg "range" = none)
    (c__law_functions : Cal P w K mg base CX0 1 "_law_functions" [] (spFuns K)) (c__law_wrong_kind : Cal P w K mg base CX0 1 "_law_wrong_kind" ["value", "kind"] (spWKd K)) (c__law_called : Cal P w K mg base CX0 2 "_law_called" ["name", "rows"] (spLCalled K))
    (c__law_special : Cal P w K mg base CX0 k "_law_special" ["tree", "scope", "provided", "resources"] (prevS K ts m))
    (c__law_evaluate : Cal P w K mg base CX0 k "_law_evaluate" ["tree", "scope", "provided", "resources"] (prevL K ts m)) : Cal P w K mg base CX0 (k + 1) "_law_evaluate" ["tree", "scope", "provided", "resources"] (spLEv K ts m) := by
  refine D.cal (k := k) sc_law_evaluate (fun vs H Q E h => ?_) fun f cdv A outer s H vs Q E hr h => ?_
  · obtain ⟨_, _, _, _, _, _, _, _, rfl, _⟩ := h
    rfl
  · obtain ⟨v, e, sc, pr, re, σ, π, ρ, rfl, hv, hw, hd, hA, q⟩ := h
    refine ⟨_, (pss_cons (ps_if (pt_cmpR op_eq (pe_ix ix_tup (pv 0) pe_int (fun _ _ => rfl)) pe_str (nomark _)) (pss_one (ps_ret (pe_tup (pa_cons pe_str (pa_cons (pe_ix ix_tup (pv 0) pe_int (fun _ _ => rfl)) pa_nil))))) pss_nil)
  (pss_cons (ps_if (pt_cmpR op_eq (pe_ix ix_tup (pv 0) pe_int (fun _ _ => rfl)) pe_str (nomark _)) (pss_cons (ps_if (pt_cmp (pc_din (hu1 hr) (pe_ix ix_tup (pv 0) pe_int (fun _ _ => rfl)) (pv 1))) (pss_one (ps_ret (pe_tup (pa_cons pe_str (pa_cons (pe_dget (hu1 hr) (pv 1) (pe_ix ix_tup (pv 0) pe_int (fun _ _ => rfl)) (fun _ _ => rfl)) pa_nil))))) pss_nil)
  (pss_one (ps_ret (pe_tup (pa_cons pe_str (pa_cons pe_str pa_nil)))))) pss_nil)
  (pss_cons (ps_if (pt_cmpR op_eq (pe_ix ix_tup (pv 0) pe_int (fun _ _ => rfl)) pe_str (nomark _)) (pss_cons (ps_for PassesOwn.never rfl (pi_tup (pv 2)) (pg_tup rfl (pgs_cons (pg_name (i := 4) sc_law_evaluate.nd rfl (Or.inl rfl)) (pgs_cons (pg_name (i := 5) sc_law_evaluate.nd rfl (Or.inl rfl)) pgs_nil))) (pss_one (ps_if (pt_cmpR op_eq (pv 4) (pe_ix ix_tup (pv 0) pe_int (fun _ _ => rfl)) (nomark _)) (pss_one (ps_ret (pe_tup (pa_cons pe_str (pa_cons (pv 5) pa_nil))))) pss_nil)))
  (pss_one (ps_ret (pe_cal (c__law_evaluate.mono (by omega)) hr (by rfl) (pa_cons (pe_ix ix_tup (pv 0) pe_int (fun _ _ => rfl)) (pa_cons (pv 1) (pa_cons (pv 2) (pa_cons (pv 3) pa_nil)))))))) pss_nil)
  (pss_cons (ps_if (pt_cmpR op_in_seq (pe_ix ix_tup (pv 0) pe_int (fun _ _ => rfl)) (pe_tup (pa_cons pe_str (pa_cons pe_str (pa_cons pe_str pa_nil)))) (by rfl)) (pss_one (ps_ret (pe_cal (c__law_special.mono (by omega)) hr (by rfl) (pa_cons (pv 0) (pa_cons (pv 1) (pa_cons (pv 2) (pa_cons (pv 3) pa_nil))))))) pss_nil)
  (pss_cons (ps_set (i := 6) sc_law_evaluate.nd rfl (Or.inl rfl) (pe_lst pa_nil))
  (pss_cons (ps_for PassesOwn.never rfl (pi_tup (pe_ix ix_tup (pv 0) pe_int (fun _ _ => rfl))) (pg_name (i := 7) sc_law_evaluate.nd rfl (Or.inl rfl)) (pss_cons (ps_set (i := 8) sc_law_evaluate.nd rfl (Or.inl rfl) (pe_cal (c__law_evaluate.mono (by omega)) hr (by rfl) (pa_cons (pv 7) (pa_cons (pv 1) (pa_cons (pv 2) (pa_cons (pv 3) pa_nil))))))
  (pss_cons (ps_if (pt_cmpR op_ne (pe_ix ix_tup (pv 8) pe_int (fun _ _ => rfl)) pe_str (nomark _)) (pss_one (ps_ret (pv 8))) pss_nil)
  (pss_one (ps_expr (pe_bm PySem.F.plainAttrs_list PySem.F.slot_list_append PySem.F.type_list_append mt_append (pv 6) (pa_cons (pe_ix ix_tup (pv 8) pe_int (fun _ _ => rfl)) pa_nil)))))))
  (pss_cons (ps_set (i := 9) sc_law_evaluate.nd rfl (Or.inl rfl) (pe_dget (hu1 hr) (pe_callTy (call_dictP rfl) (by rfl) m_dict (by decide +kernel) (pa_cons (pe_cal0 (c__law_functions.mono (by omega)) hr (by rfl)) pa_nil)) (pe_ix ix_tup (pv 0) pe_int (fun _ _ => rfl)) (fun _ _ => rfl)))
  (pss_cons (ps_for PassesOwn.never rfl (pi_range1 (by rfl) m_range (pa_cons (pe_callB call_len_seq (by rfl) m_len (by decide +kernel) (pa_cons (pv 6) pa_nil)) pa_nil)) (pg_name (i := 10) sc_law_evaluate.nd rfl (Or.inl rfl)) (pss_cons (ps_set (i := 11) sc_law_evaluate.nd rfl (Or.inl rfl) (pe_cal (c__law_wrong_kind.mono (by omega)) hr (by rfl) (pa_cons (pe_ix ix_list (pv 6) (pv 10) (fun _ _ => rfl)) (pa_cons (pe_ix ix_str (pv 9) (pv 10) (fun _ _ => rfl)) pa_nil))))
  (pss_one (ps_if (pt_cmpR op_ne (pv 11) pe_str (nomark _)) (pss_one (ps_ret (pe_tup (pa_cons pe_str (pa_cons (pv 11) pa_nil))))) pss_nil))))
  (pss_one (ps_ret (pe_cal (c__law_called.mono (by omega)) hr (by rfl) (pa_cons (pe_ix ix_tup (pv 0) pe_int (fun _ _ => rfl)) (pa_cons (pv 6) pa_nil))))))))))))), ?_⟩
    have two2 : 2 ≤ sizeLine := by decide
    have qe : ∀ (H' : Hp) (m : String) (p1 : Addr), Kp H H' → H' p1 = none → ev σ π ρ e = errS m → Q (.ref p1) (upd H' p1 (.tup [.str (Str.ofString "error"), .str (Str.ofString m)])) := fun H' m p1 k h1 e => q _ _ (k.trans (ret1 (K := K) "error" (.str (Str.ofString m)) h1).1) (by rw [e]; exact (ret1 (K := K) "error" (.str _) h1).2)
    have qv : ∀ (H' : Hp) (x : V) (va : Va) (p1 : Addr), Kp H H' → Dt K H' x va.d → H' p1 = none → ev σ π ρ e = .val va → Q (.ref p1) (upd H' p1 (.tup [.str (Str.ofString "value"), x])) := fun H' x va p1 k hx h1 e => q _ _ (k.trans (ret1 (K := K) "value" hx h1).1) (by rw [e]; exact (ret1 (K := K) "value" hx h1).2)
    cases hv with
    | @lit a x va h hx =>
      exact ⟨_, rfl, a, _, 0, _, rfl, rfl, h, atI_nat (j := 0) rfl, rfl, _, rfl, iteP rfl ⟨_, rfl, a, _, 1, _, rfl, rfl, h, atI_nat (j := 1) rfl, two2, fun p1 h1 => qv H x va p1 (Kb.refl H) hx.dt h1 (by show Re.val (Va.of va.d) = _; rw [Va.of_d])⟩⟩
    | @var a l h =>
      obtain ⟨kvs, eSc, hkv⟩ := hA.s
      refine ⟨_, rfl, a, _, 0, _, rfl, rfl, h, atI_nat (j := 0) rfl, rfl, _, rfl, iteN (by decide +kernel) ⟨_, rfl, a, _, 0, _, rfl, rfl, h, atI_nat (j := 0) rfl, rfl, _, rfl, iteP rfl ?_⟩⟩
      refine ⟨_, rfl, a, _, 1, _, rfl, rfl, h, atI_nat (j := 1) rfl, _, rfl, sc, _, rfl, DGet.k (k := .inr (sx l)) eSc, _, rfl, ?_⟩
      have hq := hkv (sx l)
      have ee : ev σ π ρ (.var l) = match σ (sx l) with | some v => .val v | none => errS "undefined name" := rfl
      cases hr : σ (sx l) with
      | none =>
        rw [hr] at hq ee
        rw [show valV kvs (.inr (sx l)) = none from hq]
        exact iteF ⟨two2, fun p1 h1 => qe H _ p1 (Kb.refl H) h1 ee⟩
      | some vr =>
        rw [hr] at hq ee
        obtain ⟨gr, v, e4, dv⟩ := hq
        have hg : DGet H sc (kV (.inr (sx l))) (some v) := by rw [← e4]; exact DGet.k (k := .inr (sx l)) eSc
        rw [e4]
        exact iteT ⟨_, rfl, _, rfl, a, _, 1, _, rfl, rfl, h, atI_nat (j := 1) rfl, sc, v, rfl, hg, two2, fun p1 h1 => qv H v vr p1 (Kb.refl H) dv.dt h1 ee⟩
    | @inj a x l e h hx =>
      obtain ⟨m', rfl⟩ : ∃ m', m = m' + 1 := ⟨m - 1, by have : 1 + Ex.deep _ ≤ m := hd; omega⟩
      have hde : e.deep ≤ m' := by have : 1 + Ex.deep e ≤ m' + 1 := hd; omega
      refine ⟨_, rfl, a, _, 0, _, rfl, rfl, h, atI_nat (j := 0) rfl, rfl, _, rfl, iteN (by decide +kernel) ⟨_, rfl, a, _, 0, _, rfl, rfl, h, atI_nat (j := 0) rfl, rfl, _, rfl, iteN (by decide +kernel) ⟨_, rfl, a, _, 0, _, rfl, rfl, h, atI_nat (j := 0) rfl, rfl, _, rfl, iteP rfl ?_⟩⟩⟩
      obtain ⟨ys, hpr, hps⟩ := hA.p
      have hlen := hps.length
      have ee : ev σ π ρ (.inj l e) = match lookP π (sx l) with | some v => .val v | none => ev σ π ρ e := rfl
      refine ⟨_, rfl, pr, rfl, ⟨ys, hpr⟩, ?_⟩
      refine for_it walk_tup (fun i σ' H' => H' = H ∧ (∃ o5 o6, σ' = [some (.ref a), some (.ref sc), some (.ref pr), some (.ref re), o5, o6, none, none, none, none, none, none]) ∧ ∀ p ∈ π.take i, p.1 ≠ sx l) ⟨rfl, ⟨none, none, rfl⟩, fun p hp => by simp at hp⟩ (fun i σ' H' _ ⟨e, _⟩ => by rw [e]; exact hpr) ?_ ?_
      · rintro i y σ' _ H1 hi ⟨rfl, ⟨o5, o6, rfl⟩, hno⟩ ⟨rfl, hy⟩
        obtain ⟨t, k', u, va, rfl, hπ, ht, hu⟩ := hps.get hy
        refine ⟨t, _, rfl, ht, rfl, _, _, rfl, _, _, rfl, rfl, _, rfl, _, rfl, a, _, 1, _, rfl, rfl, h, atI_nat (j := 1) rfl, rfl, _, rfl, ?_⟩
        have hmem : (k', va) ∈ π := List.mem_of_getElem? hπ
        by_cases e : k' = sx l
        · refine iteP (by rw [e]) ⟨_, rfl, two2, fun p1 h1 => qv _ u va p1 (Kb.refl _) hu.dt h1 ?_⟩
          have : lookP π (sx l) = some va := by
            unfold lookP
            have hi2 : i < π.length := (List.getElem?_eq_some_iff.mp hπ).1
            have hsplit : π = π.take i ++ π.drop i := (List.take_append_drop i π).symm
            have hdrop : π.drop i = (k', va) :: π.drop (i + 1) := by
              rw [List.drop_eq_getElem_cons hi2]
              congr 1
              exact (List.getElem?_eq_some_iff.mp hπ).2
            rw [hsplit, List.find?_append, List.find?_eq_none.mpr (fun p hp => by simpa using hno p hp), Option.none_or, hdrop, List.find?_cons_of_pos (by simpa using e)]
            rfl
          rw [ee, this]
        · refine iteN (fun z => e (V.str.inj z)) ⟨rfl, ⟨_, _, rfl⟩, fun p hp => ?_⟩
          rw [List.take_add_one, hπ] at hp
          rcases List.mem_append.mp hp with h | h
          · exact hno p h
          · rw [List.mem_singleton.mp (show p ∈ [(k', va)] from h)]
            exact e
      · rintro σ' H1 ⟨rfl, ⟨o5, o6, rfl⟩, hno⟩
        rw [hlen, List.take_length] at hno
        refine ⟨_, rfl, a, _, 2, _, rfl, rfl, h, atI_nat (j := 2) rfl, _, rfl, _, rfl, _, rfl, x, e, sc, pr, re, σ, π, ρ, rfl, hx, hw, hde, hA, fun H' u k r => q H' u k ?_⟩
        rw [ee]
        unfold lookP
        rw [List.find?_eq_none.mpr (fun p hp => by simpa using hno p hp)]
        exact r
    | @call a t xs fn es h ht hs =>
      obtain ⟨m', rfl⟩ : ∃ m', m = m' + 1 := ⟨m - 1, by have : 1 + Ex.deepAll _ + (_ - 3) ≤ m := hd; omega⟩
      have hde : Ex.deepAll es ≤ m' := by have : 1 + Ex.deepAll es + (_ - 3) ≤ m' + 1 := hd; omega
      obtain ⟨hf, hl, hw⟩ := hw
      refine ⟨_, rfl, a, _, 0, _, rfl, rfl, h, atI_nat (j := 0) rfl, rfl, _, rfl, iteN (by decide +kernel) ⟨_, rfl, a, _, 0, _, rfl, rfl, h, atI_nat (j := 0) rfl, rfl, _, rfl, iteN (by decide +kernel) ⟨_, rfl, a, _, 0, _, rfl, rfl, h, atI_nat (j := 0) rfl, rfl, _, rfl, iteN (by decide +kernel) ?_⟩⟩⟩
      refine ⟨_, rfl, a, _, 1, _, rfl, rfl, h, atI_nat (j := 1) rfl, by decide, fun p0 hp0 => ⟨p0, _, rfl, .inr (SqT.of upd_same), rfl, rfl, _, rfl, ?_⟩⟩
      have k1 : Kp H (upd H p0 (.tup [.str (Str.ofString "and"), .str (Str.ofString "cond"), .str (Str.ofString "resource")])) := Kb.new hp0
      generalize upd H p0 (.tup [.str (Str.ofString "and"), .str (Str.ofString "cond"), .str (Str.ofString "resource")]) = H1 at k1 ⊢
      by_cases hsp : fn = cs "and" ∨ fn = cs "cond" ∨ fn = cs "resource"
      · refine iteT' (by rcases hsp with rfl | rfl | rfl <;> decide +kernel) ?_
        exact ⟨_, rfl, _, rfl, _, rfl, _, rfl, a, t, xs, fn, es, sc, pr, re, σ, π, ρ, rfl, hsp, k1.sqT Lsts.nil h, k1.sqT Lsts.nil ht, hs.kb k1 Lsts.nil, hw, hl, hde, hA.kp k1, fun H' u k r => q H' u (k1.trans k) r⟩
      · refine iteF' ?_ ?_
        · have g : ∀ z : String, fn ≠ cs z → (Str.ofString z == sx fn) = false := fun z hz => beq_eq_false_iff_ne.mpr fun e => hz (sx_eq.mp (by rw [← e]))
          show ((Str.ofString "and" == sx fn) || ((Str.ofString "cond" == sx fn) || ((Str.ofString "resource" == sx fn) || false))) = false
          rw [g _ (fun z => hsp (.inl z)), g _ (fun z => hsp (.inr (.inl z))), g _ (fun z => hsp (.inr (.inr z)))]
          rfl
        have n1 : fn ≠ cs "and" := fun z => hsp (.inl z)
        have n2 : fn ≠ cs "cond" := fun z => hsp (.inr (.inl z))
        have n3 : fn ≠ cs "resource" := fun z => hsp (.inr (.inr z))
        have he := eager_of hf n1 n2 n3
        have ee : ev σ π ρ (.call fn es) = match seqR (es.map (ev σ π ρ)) with | .inl r => r | .inr vs => fnR fn vs := by
          show apR ρ fn (evs σ π ρ es) = _
          unfold apR
          rw [if_neg n1, if_neg n2, evs_map]
          cases seqR (es.map (ev σ π ρ)) with
          | inl r => rfl
          | inr vs =>
            show (if fn = cs "resource" then _ else fnR fn vs) = fnR fn vs
            rw [if_neg n3]
        have hlx : xs.length = es.length := hs.length
        refine ⟨by decide, fun D hD => ?_⟩
        refine gset ?_
        have hD0 : H D = none := k1.free D hD
        refine ⟨_, rfl, a, _, 2, _, rfl, rfl, ((k1.trans (Kb.new hD)) : Kp H _).sqT Lsts.nil h, atI_nat (j := 2) rfl, t, rfl, ⟨xs, ((k1.trans (Kb.new hD)) : Kp H _).sqT Lsts.nil ht⟩, ?_⟩
        refine for_it walk_tup (fun i σ' H' => Kp H H' ∧ (∃ o4 o5, σ' = [some (.ref a), some (.ref sc), some (.ref pr), some (.ref re), none, none, some (.ref D), o4, o5, none, none, none]) ∧ ∃ (acc : List V) (as : List Va), as.length = i ∧ H' D = some (.lst acc) ∧ DtAll K H' acc (as.map Va.d) ∧ (∀ a ∈ as, a.good) ∧ (es.map (ev σ π ρ)).take i = as.map Re.val)
          ⟨k1.trans (Kb.new hD), ⟨none, none, rfl⟩, [], [], rfl, upd_same, .nil, fun a h => by simp at h, rfl⟩ (fun i σ' H' _ ⟨k, _⟩ => k.sqT Lsts.nil ht) ?_ ?_
        · rintro i x σ' _ H2 hi ⟨k2, ⟨o4, o5, rfl⟩, acc, as, hla, eD, da, ga, hta⟩ ⟨rfl, hx⟩
          obtain ⟨e, hee, de⟩ := hs.get hx
          have we := wfEs_at hw hee
          refine ⟨_, rfl, _, rfl, _, rfl, _, rfl, x, e, sc, pr, re, σ, π, ρ, rfl, de.kb k2 Lsts.nil, we, deep_at hde hee, hA.kp k2, fun H3 u k3 r => ?_⟩
          refine gset ?_
          have k23 := k2.trans k3
          have hg := ev_good hA.env we
          have hat : (es.map (ev σ π ρ))[i]? = some (ev σ π ρ e) := by rw [List.getElem?_map, hee]; rfl
          generalize ev σ π ρ e = R at r hg hat
          obtain ⟨p, y, rfl, hp, hy⟩ := dre r
          have hno : (∀ v, R ≠ .val v) → ev σ π ρ (.call fn es) = R := fun z => by rw [ee, seqR_at (as := as) (by rw [hla]; exact hta) (by rw [hla]; exact hat) z]
          refine ⟨_, rfl, p, _, 0, _, rfl, rfl, hp, atI_nat (j := 0) rfl, rfl, _, rfl, ?_⟩
          rw [res_val]
          cases R with
          | err mm =>
            refine iteT ⟨_, rfl, q H3 _ k23 ?_⟩
            rw [hno (fun _ z => by cases z)]
            exact r
          | wait mm =>
            refine iteT ⟨_, rfl, q H3 _ k23 ?_⟩
            rw [hno (fun _ z => by cases z)]
            exact r
          | val va =>
            have eD2 := k3.keep D _ eD (by simp) nt_lst
            have dv := hy _ rfl
            have la : acc.length = as.length := by rw [da.length, List.length_map]
            have sz : sizeLine = 16777216 := rfl
            have h3 : es.length ≤ 3 := by rw [hl]; exact arity_le hf
            refine iteF ⟨_, rfl, .inl ⟨rfl, _, .inl (.inl eD2)⟩, _, rfl, p, _, 1, _, rfl, rfl, hp, atI_nat (j := 1) rfl, D, acc, y, rfl, rfl, eD2, by omega, ?_⟩
            refine ⟨k23.mut hD0 (no_tab eD2 nt_lst), ⟨_, _, rfl⟩, acc ++ [y], as ++ [va], by simp [hla], upd_same, ?_, fun a ha => ?_, ?_⟩
            · rw [List.map_append]
              exact dts_lst eD2 (Gd.DtAll.snoc (DtAll.kb k3 Lsts.nil da) dv)
            · rcases List.mem_append.mp ha with h | h
              · exact ga a h
              · rw [List.mem_singleton.mp h]; exact hg
            · rw [List.take_add_one, hta, hat, List.map_append]
              rfl
        rintro σ' H2 ⟨k2, ⟨o4, o5, rfl⟩, acc, as, hla, eD, da, ga, hta⟩
        rw [hlx, ← List.length_map (ev σ π ρ), List.take_length] at hta
        have hsq : seqR (es.map (ev σ π ρ)) = .inr as := by rw [hta]; exact seqR_val
        rw [hsq] at ee
        have la : as.length = es.length := by rw [← List.length_map (f := Re.val), ← hta, List.length_map]
        have lac : acc.length = as.length := by rw [da.length, List.length_map]
        have lk : as.length = (kindsOf fn).length := by rw [la, hl, kinds_len he]
        have h3 : es.length ≤ 3 := by rw [hl]; exact arity_le hf
        have sz : sizeLine = 16777216 := rfl
        obtain ⟨fs, hfm, rfl⟩ := fn_name he
        obtain ⟨kt1, kt2, kt3⟩ := kt_of hfm
        have esx : sx (cs fs) = Str.ofString fs := V.str.inj (sx_eq.mpr rfl)
        refine ⟨rfl, fun H3 pl zs k3 e3 d3 => ?_⟩
        have k23 := k2.trans k3
        obtain ⟨ps, rfl, hpp⟩ := pairs_kd d3
        refine ⟨pl, ps, kvsL, rfl, .inl (.inl e3), hpp, fun p5 h5 => ?_⟩
        have k4 : Kp H3 (upd H3 p5 (.dK (mergeK [] kvsL))) := Kb.new h5
        have e5 : (upd H3 p5 (.dK (mergeK [] kvsL))) p5 = some (.dK (mergeK [] kvsL)) := upd_same
        generalize upd H3 p5 (.dK (mergeK [] kvsL)) = H4 at k4 e5 ⊢
        have k24 := k23.trans k4
        have eD4 := (k3.trans k4).keep D _ eD (by simp) nt_lst
        have da4 := DtAll.kb (k3.trans k4) Lsts.nil da
        have hg : DGet H4 p5 (kV (.inr (sx (cs fs)))) (some (.str (Str.ofString (kt fs)))) := by rw [esx, ← kt1]; exact DGet.k (k := .inr (Str.ofString fs)) e5
        refine ⟨_, rfl, a, _, 1, _, rfl, rfl, k24.sqT Lsts.nil h, atI_nat (j := 1) rfl, p5, _, rfl, hg, ?_⟩
        refine gset ?_
        refine ⟨_, rfl, D, acc, rfl, .inl (.inl (.inl eD4)), (acc.length : Int), rfl, by omega, by omega, ?_⟩
        refine for_it walk_range (fun i σ' H' => H' = H4 ∧ (∃ o7 o8 o10 o11, σ' = [some (.ref a), some (.ref sc), some (.ref pr), some (.ref re), none, none, some (.ref D), o7, o8, some (.str (Str.ofString (kt fs))), o10, o11]) ∧ ∀ (j : Nat) (va : Va) (k : Kd), j < i → as[j]? = some va → (kindsOf (cs fs))[j]? = some k → k.has va = true)
          ⟨rfl, ⟨_, _, _, _, rfl⟩, fun j _ _ h => by omega⟩ (fun _ _ _ _ _ => trivial) ?_ ?_
        · rintro i x σ' _ H5 hi ⟨rfl, ⟨o7, o8, o10, o11, rfl⟩, hall⟩ ⟨rfl, hx⟩
          obtain rfl : x = .int (0 + (i : Int)) := hx
          rw [Int.toNat_natCast] at hi
          have hi2 : i < as.length := by omega
          have hi3 : i < (kindsOf (cs fs)).length := by omega
          obtain ⟨y, hy, dy⟩ := da4.at (d := as[i].d) (i := i) (by rw [List.getElem?_map, List.getElem?_eq_getElem hi2]; rfl)
          have hki : ((Str.ofString (kt fs)).cps.toList.map (fun c => (⟨#[c]⟩ : Str)))[i]? = some (Str.ofString (letK (kindsOf (cs fs))[i])) := by rw [kt2, List.getElem?_map, List.getElem?_eq_getElem hi3]; rfl
          rw [List.getElem?_map] at hki
          obtain ⟨c, hc, hcs⟩ := Option.map_eq_some_iff.mp hki
          have gi := ga as[i] (List.getElem_mem hi2)
          refine ⟨_, rfl, _, rfl, D, acc, _, y, rfl, rfl, .inl (.inl eD4), by rw [Int.zero_add]; exact atI_nat (j := i) hy, _, rfl, _, rfl, _, _, c, rfl, rfl, by omega, by rw [Int.zero_add]; exact atI_nat (j := i) hc, y, as[i], (kindsOf (cs fs))[i], by rw [← hcs]; rfl, dy, gi, ?_⟩
          refine gset ?_
          refine ⟨_, rfl, rfl, _, rfl, ?_⟩
          by_cases hh : (kindsOf (cs fs))[i].has as[i] = true
          · rw [if_pos hh]
            refine iteFb (by rfl) ⟨rfl, ⟨_, _, _, _, rfl⟩, fun j va k hj h1 h2 => ?_⟩
            by_cases hij : j = i
            · subst hij
              rw [List.getElem?_eq_getElem hi2] at h1
              rw [List.getElem?_eq_getElem hi3] at h2
              cases h1
              cases h2
              exact hh
            · exact hall j va k (by omega) h1 h2
          · rw [if_neg hh]
            have hne : (!decide (V.str (Str.ofString (kindsOf (cs fs))[i].msg) = V.str (Str.ofString ""))) = true := by
              cases hk : (kindsOf (cs fs))[i] with
              | any => rw [hk] at hh; exact absurd (by cases as[i] <;> rfl) hh
              | _ => rfl
            refine iteTb hne ⟨_, rfl, two2, fun p1 h1 => qe _ _ p1 k24 h1 ?_⟩
            rw [ee]
            show fnR (cs fs) as = _
            unfold fnR
            rw [wrongK_at (fun j va k hj h1 h2 => hall j va k hj h1 h2) (List.getElem?_eq_getElem hi2) (List.getElem?_eq_getElem hi3) (by simpa using hh)]
        · rintro σ' H5 ⟨rfl, ⟨o7, o8, o10, o11, rfl⟩, hall⟩
          have hno : wrongK as (kindsOf (cs fs)) = none := wrongK_all fun j va k h1 h2 => hall j va k (by have := (List.getElem?_eq_some_iff.mp h1).1; rw [Int.toNat_natCast]; omega) h1 h2
          refine ⟨_, rfl, a, _, 1, _, rfl, rfl, k24.sqT Lsts.nil h, atI_nat (j := 1) rfl, _, rfl, fs, D, acc, as, hfm, by rw [esx]; rfl, eD4, da4, ga, lk, hno, fun u H' k r => q H' u (k24.trans k) ?_⟩
          rw [ee]
          show Dt K H' u (fnR (cs fs) as).d
          unfold fnR
          rw [hno]
          exact r
end
end Rw

/-! repr of data with dicts and lists of its own. -/
namespace Gd
open PySem PySem.Spec PyProof.Rows L2 GxR Gx
mutual
inductive Dd (K : PySem.W.Frag) (H : Hp) : V → PyData → Prop where
  | dt {v : V} {d : PyData} (h : Dt K H v d) : Dd K H v d
  | dict {a : Addr} {kvs : List (Key × V)} {ks : List Str} {ds : List PyData} (e : H a = some (.dK kvs)) (hk : kvs.map (·.1) = ks.map Sum.inr) (hs : DdAll K H (kvs.map (·.2)) ds) : Dd K H (.ref a) (.dict ((ks.map PyData.str).zip ds))
  | lst {a : Addr} {xs : List V} {ds : List PyData} (e : H a = some (.lst xs)) (ne : (a == sysModules) = false) (hs : DdAll K H xs ds) : Dd K H (.ref a) (.list ds)
inductive DdAll (K : PySem.W.Frag) (H : Hp) : List V → List PyData → Prop where
  | nil : DdAll K H [] []
  | cons {v : V} {vs : List V} {d : PyData} {ds : List PyData} (h : Dd K H v d) (hs : DdAll K H vs ds) : DdAll K H (v :: vs) (d :: ds)
end
theorem DdAll.of {K : PySem.W.Frag} {H : Hp} : ∀ {vs : List V} {ds : List PyData}, DtAll K H vs ds → DdAll K H vs ds
  | _, _, .nil => .nil
  | _, _, .cons h hs => .cons (.dt h) (DdAll.of hs)
theorem DdAll.length {K : PySem.W.Frag} {H : Hp} : ∀ {vs : List V} {ds : List PyData}, DdAll K H vs ds → vs.length = ds.length
  | _, _, .nil => rfl
  | _, _, .cons _ hs => congrArg (· + 1) (DdAll.length hs)
section
variable {X : Cx} {pins : List (Addr × Obj)} {σ : L2.St} {H : Hp} {s : Shared}
mutual
theorem Dt.reads0 (I : Inv X pins σ H s) : ∀ {v : V} {d : PyData} {u : Value}, Dt X.K H v d → RelV v u → Reads s.heap u d []
  | _, _, _, .non, r => by cases r; exact .none
  | _, _, _, .bl b, r => by cases r; exact .bool b
  | _, _, _, .int i, r => by obtain ⟨t, rfl⟩ := r; exact .int i t
  | _, _, _, .str x, r => by obtain ⟨t, rfl⟩ := r; exact .str x t
  | _, _, _, .tup h hs, r => by
    cases r
    obtain ⟨its, rv, ⟨o, ho, hc, n, hd⟩, _⟩ := I.tuple h
    exact .tuple ho hc hd (DtAll.reads0 I hs rv)
theorem DtAll.reads0 (I : Inv X pins σ H s) : ∀ {vs : List V} {ds : List PyData} {us : List Value}, DtAll X.K H vs ds → Vals vs us → ReadsAll s.heap us ds []
  | _, _, _, .nil, r => by cases r; exact .nil
  | _, _, _, .cons h hs, r => by
    cases r with
    | cons r1 r2 => exact ReadsAll.cons (as := []) (bs := []) (h.reads0 I r1) (DtAll.reads0 I hs r2)
end
/-- the entries of a dict with text keys -/
theorem keys_reads {h : Heap} {prog : Program} {w : World} : ∀ {es : List DictEntry} {vs : List (Key × Value)} {ks : List Str}, Pairs (mixKind prog w) es vs → vs.map (·.1) = ks.map Sum.inr → ReadsAll h (es.map (·.key)) (ks.map PyData.str) [] ∧ es.map (·.val) = vs.map (·.2)
  | _, _, [], .nil, _ => ⟨.nil, rfl⟩
  | _, _, _ :: _, .nil, e => by cases e
  | _, _, [], .cons _ _ _, e => by cases e
  | _, _, k :: ks, .cons (e := en) (kv := kv) h1 h2 h3, e => by
    rw [List.map_cons, List.map_cons] at e
    injection e with e1 e2
    obtain ⟨q1, q2⟩ := keys_reads (h := h) h3 e2
    refine ⟨?_, by rw [List.map_cons, List.map_cons, h2, q2]⟩
    have h1 : keyIs kv.1 en.key = true := h1
    rw [e1] at h1
    rcases keyIs_shape h1 with ⟨i, t, z, _⟩ | ⟨x, t, z, z2⟩
    · cases z
    · cases z
      rw [List.map_cons, List.map_cons, z2]
      exact ReadsAll.cons (as := []) (bs := []) (.str k t) q1
theorem kv_split : ∀ {kvs : List (Key × V)} {vs : List (Key × Value)}, KV kvs vs → kvs.map (·.1) = vs.map (·.1) ∧ Vals (kvs.map (·.2)) (vs.map (·.2))
  | _, _, .nil => ⟨rfl, .nil⟩
  | _, _, .cons ⟨h1, h2⟩ hs => by
    obtain ⟨q1, q2⟩ := kv_split hs
    refine ⟨?_, .cons h2 q2⟩
    rw [List.map_cons, List.map_cons, h1, q1]
theorem zip_fst : ∀ {a b : List PyData}, a.length = b.length → (a.zip b).map (·.1) = a ∧ (a.zip b).map (·.2) = b
  | [], [], _ => ⟨rfl, rfl⟩
  | [], _ :: _, h => by cases h
  | _ :: _, [], h => by cases h
  | x :: a, y :: b, h => by
    obtain ⟨q1, q2⟩ := zip_fst (a := a) (b := b) (Nat.succ.inj h)
    exact ⟨by rw [List.zip_cons_cons, List.map_cons, q1], by rw [List.zip_cons_cons, List.map_cons, q2]⟩
mutual
theorem Dd.reads (I : Inv X pins σ H s) : ∀ {v : V} {d : PyData} {u : Value}, Dd X.K H v d → RelV v u → ∃ as, Reads s.heap u d as ∧ sysModules ∉ as
  | _, _, _, .dt h, r => ⟨[], h.reads0 I r, fun h => by cases h⟩
  | _, _, _, .dict (a := a) (kvs := kvs) (ks := ks) (ds := ds) e hk hs, r => by
    cases r
    obtain ⟨_, hd, vs, rel, o, es, ep, ho, hx, hdat, _, hp, _⟩ := dk_of I.hok e
    obtain ⟨q1, q2⟩ := kv_split rel
    obtain ⟨bs, rb, nb⟩ := DdAll.reads I hs q2
    obtain ⟨k1, k2⟩ := keys_reads (h := s.heap) hp (q1.symm.trans hk)
    have hl : (ks.map PyData.str).length = ds.length := by
      have h1 := congrArg List.length hk
      have h2 := hs.length
      rw [List.length_map, List.length_map] at h1
      rw [List.length_map] at h2 ⊢
      omega
    obtain ⟨z1, z2⟩ := zip_fst hl
    refine ⟨_, .dict ho hx.1 hdat (by rw [z1]; exact k1) (by rw [z2, k2]; exact rb), fun hm => ?_⟩
    rcases List.mem_cons.mp hm with z | z
    · rw [← z] at hd
      exact absurd hd (by decide)
    · exact nb z
  | _, _, _, .lst (a := a) e ne hs, r => by
    cases r
    obtain ⟨_, its, n, rv, hg⟩ := (show ObjOk X.prog X.w H s.heap a (.lst _) from I.hok a _ e)
    obtain ⟨bs, rb, nb⟩ := DdAll.reads I hs rv
    refine ⟨_, .list hg rfl rfl (by rw [List.toList_toArray]; exact rb), fun hm => ?_⟩
    rcases List.mem_cons.mp hm with z | z
    · rw [← z] at ne
      exact absurd ne (by decide)
    · exact nb z
theorem DdAll.reads (I : Inv X pins σ H s) : ∀ {vs : List V} {ds : List PyData} {us : List Value}, DdAll X.K H vs ds → Vals vs us → ∃ as, ReadsAll s.heap us ds as ∧ sysModules ∉ as
  | _, _, _, .nil, r => by cases r; exact ⟨[], .nil, fun h => by cases h⟩
  | _, _, _, .cons h hs, r => by
    cases r with
    | cons r1 r2 =>
      obtain ⟨as, q1, n1⟩ := h.reads I r1
      obtain ⟨bs, q2, n2⟩ := DdAll.reads I hs r2
      exact ⟨_, .cons q1 q2, fun hm => (List.mem_append.mp hm).elim n1 n2⟩
end
def rRepr2 (K : PySem.W.Frag) : List V → Hp → VK → Prop := fun xs H Q => ∃ a d, xs = [.ref a] ∧ Dd K H (.ref a) d ∧ d.showable = true ∧ d.depth ≤ 64 ∧ d.shown.length ≤ sizeLine ∧ Q (.str d.shown) H
theorem call_repr2 (hu : X.A.units + 66 < cLine) (hg : X.A.guards = some []) : CallR X (.builtin "repr") (rRepr2 X.K) := by
  intro pins s σ H xs us Q I r h
  obtain ⟨a, d, rfl, hd, hs, hdp, hsz, q⟩ := h
  obtain ⟨u, rfl, ru⟩ := vals1 r
  obtain ⟨as, rd, nm⟩ := hd.reads I ru
  cases ru
  refine repr_of_reads' rd hs (fun _ => nm) hg (by omega) (fun _ _ e => e) (fun h' t tk k => ?_) hsz
  exact ⟨.str _, H, I.kept k, ⟨_, rfl⟩, q⟩
theorem call_reprR2 {k : Nat} (hr : RoomG k X.A) : CallR X (.builtin "repr") (rRepr2 X.K) := call_repr2 (by have := hr.r.un; omega) hr.g
/-- a list display whose place is not that of sys.modules -/
def tLstN (t : TA) : TE := fun σ H Q => t σ H fun xs H1 => xs.length ≤ sizeLine ∧ ∀ p, H1 p = none → (p == sysModules) = false → Q (.ref p) (upd H1 p (.lst xs))
theorem pe_lstN {es : List Expr} {t : TA} {pos : Pos} (h : PA X es t) : PE X (.List es pos) (tLstN t) := by
  refine ⟨fun pins s σ H Q I hq => ?_⟩
  refine wpAny_List_spliced (thn (h.run pos pins s σ H _ I hq) fun us s1 ⟨xs, H1, I1, r, z, q⟩ => ⟨by rw [← r.length]; exact z, ?_⟩)
  have hf : H1 s1.heap.objs.size = none := I1.hok.fresh (Nat.le_refl _)
  refine ⟨.ref s1.heap.objs.size, upd H1 s1.heap.objs.size (.lst xs), I1.laid (t' := s1.toks) (fun b u e => Heap.get?_push_of_some _ e) (Nat.le_refl _) ?_, rfl, q _ hf (beq_eq_false_iff_ne.mpr (Nat.ne_of_gt I1.big))⟩
  exact ⟨z, us, 0, r, Heap.get?_push_size _ rfl⟩
end
/-! ### it stays -/
section
variable {K : PySem.W.Frag} {S : List Addr} {H H' : Hp}
theorem nt_dict {l : List (Key × V)} : NoTab (.dK l) := fun _ h => by cases h
mutual
theorem Dd.kb (k : Kp H H') : ∀ {v : V} {d : PyData}, Dd K H v d → Dd K H' v d
  | _, _, .dt h => .dt (h.kb k Lsts.nil)
  | _, _, .dict e hk hs => .dict (k.keep _ _ e (by simp) nt_dict) hk (DdAll.kb k hs)
  | _, _, .lst e ne hs => .lst (k.keep _ _ e (by simp) nt_lst) ne (DdAll.kb k hs)
theorem DdAll.kb (k : Kp H H') : ∀ {vs : List V} {ds : List PyData}, DdAll K H vs ds → DdAll K H' vs ds
  | _, _, .nil => .nil
  | _, _, .cons h hs => .cons (h.kb k) (DdAll.kb k hs)
end
end
/-! ### how long it is -/
structure ShwD (dep sz : Nat) (d : PyData) : Prop where
  ws : d.showable = true
  wd : d.depth ≤ dep
  wz : d.shown.length ≤ sz
theorem ShwD.of {k m : Nat} {d : PyData} (h : Shw k m d) : ShwD k m d := ⟨h.ws, h.wd, h.wz⟩
theorem ShwD.mono {a b a' b' : Nat} {d : PyData} (w : ShwD a b d) (h1 : a ≤ a') (h2 : b ≤ b') : ShwD a' b' d := ⟨w.ws, Nat.le_trans w.wd h1, Nat.le_trans w.wz h2⟩
theorem shwD_all {k m : Nat} : ∀ {ds : List PyData}, (∀ d ∈ ds, ShwD k m d) → PyData.showableAll ds = true ∧ PyData.depthAll ds ≤ k ∧ piled (PyData.shownAll ds) ≤ (m + 2) * ds.length
  | [], _ => ⟨rfl, Nat.zero_le _, Nat.zero_le _⟩
  | d :: ds, h => by
    obtain ⟨a, c, e⟩ := shwD_all (ds := ds) fun x hx => h x (List.mem_cons_of_mem _ hx)
    have w := h d List.mem_cons_self
    refine ⟨?_, ?_, ?_⟩
    · show (d.showable && _) = true
      rw [w.ws, a]; rfl
    · show max d.depth _ ≤ k
      exact Nat.max_le.mpr ⟨w.wd, c⟩
    · show piled (d.shown :: PyData.shownAll ds) ≤ _
      have := w.wz
      rw [piled_cons, List.length_cons, Nat.mul_succ]
      omega
theorem ShwD.list {k m : Nat} {ds : List PyData} (h : ∀ d ∈ ds, ShwD k m d) : ShwD (k + 1) ((m + 2) * ds.length + 2) (.list ds) := by
  obtain ⟨a, c, e⟩ := shwD_all h
  refine ⟨a, ?_, ?_⟩
  · show PyData.depthAll ds + 1 ≤ _
    omega
  · have := list_le (PyData.shownAll ds)
    show (listText (PyData.shownAll ds)).length ≤ _
    omega
theorem shwD_kv {k m n : Nat} : ∀ {kvs : List (PyData × PyData)}, (∀ p ∈ kvs, ShwD k m p.1 ∧ ShwD k n p.2) → PyData.showableKv kvs = true ∧ PyData.depthKv kvs ≤ k ∧ piled (PyData.shownKv kvs) ≤ (m + n + 4) * kvs.length
  | [], _ => ⟨rfl, Nat.zero_le _, Nat.zero_le _⟩
  | (a, b) :: kvs, h => by
    obtain ⟨q1, q2, q3⟩ := shwD_kv (kvs := kvs) fun x hx => h x (List.mem_cons_of_mem _ hx)
    obtain ⟨wa, wb⟩ := h (a, b) List.mem_cons_self
    refine ⟨?_, ?_, ?_⟩
    · show (a.showable && b.showable && PyData.showableKv kvs) = true
      rw [wa.ws, wb.ws, q1]; rfl
    · have e : PyData.depthKv ((a, b) :: kvs) = max (max a.depth b.depth) (PyData.depthKv kvs) := by simp only [PyData.depthKv]
      rw [e]
      exact Nat.max_le.mpr ⟨Nat.max_le.mpr ⟨wa.wd, wb.wd⟩, q2⟩
    · show piled ((a.shown ++ ": " ++ b.shown) :: PyData.shownKv kvs) ≤ _
      have h1 : (a.shown ++ ": " ++ b.shown).length = a.shown.length + 2 + b.shown.length := by
        rw [Str.length_append, Str.length_append]; rfl
      have z1 : a.shown.length ≤ m := wa.wz
      have z2 : b.shown.length ≤ n := wb.wz
      rw [piled_cons, List.length_cons, Nat.mul_succ]
      omega
theorem ShwD.dict {k m n : Nat} {kvs : List (PyData × PyData)} (h : ∀ p ∈ kvs, ShwD k m p.1 ∧ ShwD k n p.2) : ShwD (k + 1) ((m + n + 4) * kvs.length + 2) (.dict kvs) := by
  obtain ⟨a, c, e⟩ := shwD_kv h
  refine ⟨a, ?_, ?_⟩
  · show PyData.depthKv kvs + 1 ≤ _
    omega
  · show (dictText (PyData.shownKv kvs)).length ≤ _
    unfold dictText
    rw [Str.length_append, Str.length_append]
    have e1 : (Str.ofString "{").length = 1 := by decide +kernel
    have e2 : (Str.ofString "}").length = 1 := by decide +kernel
    by_cases hn : PyData.shownKv kvs = []
    · rw [hn, show (Str.join ", " []).length = 0 from rfl]
      have : (m + n + 4) * kvs.length ≥ 0 := Nat.zero_le _
      show 1 + 0 + 1 ≤ _
      omega
    · have := join_length_add _ hn
      show 1 + _ + 1 ≤ _
      omega
end Gd

/-! The law of evaluation. -/
namespace Rw
open PySem PySem.Spec PyProof.Rows L2 GxR Gx Gd Rx Rs
abbrev s_law : Stmt := topS 63
theorem sc_law : FnScope ["script", "box", "turn", "tree", "scope", "provided", "resources", "due", "kept", "again"] ["script"] (defScope s_law) := ⟨rfl, rfl, rfl, by decide +kernel, rfl, by decide +kernel, by decide +kernel⟩
/-- a dict of values, its entries in order -/
inductive KvV (K : PySem.W.Frag) (H : Hp) : List (Key × V) → List (Str × Va) → Prop where
  | nil : KvV K H [] []
  | cons {k : Str} {v : V} {va : Va} {kvs : List (Key × V)} {ps : List (Str × Va)} (h : DtV K H v va) (g : va.good) (hs : KvV K H kvs ps) : KvV K H ((.inr k, v) :: kvs) ((k, va) :: ps)
section
variable {K : PySem.W.Frag} {S : List Addr} {H H' : Hp}
theorem KvV.kb (k : Kb S H H') (hS : Lsts S H) : ∀ {kvs : List (Key × V)} {ps : List (Str × Va)}, KvV K H kvs ps → KvV K H' kvs ps
  | _, _, .nil => .nil
  | _, _, .cons h g hs => .cons (h.kb k hS) g (KvV.kb k hS hs)
theorem KvV.upd {p : Addr} {kvs0 o : List (Key × V)} (e : H p = some (.dK kvs0)) : ∀ {kvs : List (Key × V)} {ps : List (Str × Va)}, KvV K H kvs ps → KvV K (upd H p (.dK o)) kvs ps
  | _, _, .nil => .nil
  | _, _, .cons h g hs => .cons (dtv_upd h e) g (KvV.upd e hs)
theorem KvV.length : ∀ {kvs : List (Key × V)} {ps : List (Str × Va)}, KvV K H kvs ps → kvs.length = ps.length
  | _, _, .nil => rfl
  | _, _, .cons _ _ hs => congrArg (· + 1) hs.length
theorem KvV.snoc {k : Str} {v : V} {va : Va} (h : DtV K H v va) (g : va.good) : ∀ {kvs : List (Key × V)} {ps : List (Str × Va)}, KvV K H kvs ps → KvV K H (kvs ++ [(.inr k, v)]) (ps ++ [(k, va)])
  | _, _, .nil => .cons h g .nil
  | _, _, .cons h0 g0 hs => .cons h0 g0 (KvV.snoc h g hs)
theorem KvV.no {k : Str} : ∀ {kvs : List (Key × V)} {ps : List (Str × Va)}, KvV K H kvs ps → (∀ p ∈ ps, p.1 ≠ k) → (kvs.any fun kv => decide (kv.1 = (.inr k : Key))) = false
  | _, _, .nil, _ => rfl
  | _, _, .cons (k := k0) h g hs, hn => by
    rw [List.any_cons, KvV.no hs fun p hp => hn p (List.mem_cons_of_mem _ hp), Bool.or_false]
    exact decide_eq_false fun z => hn _ List.mem_cons_self (Sum.inr.inj z)
theorem KvV.put {k : Str} {v : V} {va : Va} {kvs : List (Key × V)} {ps : List (Str × Va)} (hs : KvV K H kvs ps) (hn : ∀ p ∈ ps, p.1 ≠ k) (h : DtV K H v va) (g : va.good) : KvV K H (putK kvs (.inr k) v) (ps ++ [(k, va)]) := by
  unfold putK
  rw [if_neg (by rw [hs.no hn]; simp)]
  exact hs.snoc h g
theorem KvV.look : ∀ {kvs : List (Key × V)} {ps : List (Str × Va)} (x : Str), KvV K H kvs ps → match lookP ps x with
    | none => valV kvs (.inr x) = none
    | some va => va.good ∧ ∃ v, valV kvs (.inr x) = some v ∧ DtV K H v va
  | _, _, x, .nil => rfl
  | _, _, x, .cons (k := k) (v := v) (va := va) (kvs := kvs) (ps := ps) h g hs => by
    by_cases e : k = x
    · subst e
      have e1 : lookP ((k, va) :: ps) k = some va := by unfold lookP; rw [List.find?_cons_of_pos (by simp)]; rfl
      have e2 : valV (((Sum.inr k : Key), v) :: kvs) (.inr k) = some v := by unfold valV; rw [List.find?_cons_of_pos (by simp)]; rfl
      rw [e1]
      exact ⟨g, v, e2, h⟩
    · have e1 : lookP ((k, va) :: ps) x = lookP ps x := by unfold lookP; rw [List.find?_cons_of_neg (by simpa using e)]
      have e2 : valV (((Sum.inr k : Key), v) :: kvs) (.inr x) = valV kvs (.inr x) := by unfold valV; rw [List.find?_cons_of_neg (by simpa using e)]
      rw [e1, e2]
      exact KvV.look x hs
theorem KvV.dic {a : Addr} {kvs : List (Key × V)} {ps : List (Str × Va)} (e : H a = some (.dK kvs)) (h : KvV K H kvs ps) : DicF K H a (lookP ps) := ⟨kvs, e, fun x => h.look x⟩
def dicD (ps : List (Str × Va)) : PyData := .dict (((ps.map (·.1)).map PyData.str).zip (ps.map fun p => p.2.d))
theorem KvV.split : ∀ {kvs : List (Key × V)} {ps : List (Str × Va)}, KvV K H kvs ps → kvs.map (·.1) = (ps.map (·.1)).map Sum.inr ∧ DdAll K H (kvs.map (·.2)) (ps.map fun p => p.2.d)
  | _, _, .nil => ⟨rfl, .nil⟩
  | _, _, .cons h g hs => by
    obtain ⟨a, b⟩ := hs.split
    exact ⟨by rw [List.map_cons, List.map_cons, List.map_cons, a], .cons (.dt h.dt) b⟩
theorem KvV.dd {a : Addr} {kvs : List (Key × V)} {ps : List (Str × Va)} (e : H a = some (.dK kvs)) (h : KvV K H kvs ps) : Dd K H (.ref a) (dicD ps) := .dict e h.split.1 h.split.2
theorem KvV.good : ∀ {kvs : List (Key × V)} {ps : List (Str × Va)}, KvV K H kvs ps → ∀ p ∈ ps, p.2.good
  | _, _, .nil, _, h => by cases h
  | _, _, .cons _ g hs, p, h => by
    rcases List.mem_cons.mp h with rfl | h
    · exact g
    · exact hs.good p h
end
theorem dtps_drop {K : PySem.W.Frag} {H : Hp} : ∀ (n : Nat) {xs : List V} {π : List (Str × Va)}, DtPs K H xs π → DtPs K H (xs.drop n) (π.drop n)
  | 0, _, _, h => h
  | n + 1, _, _, .nil => .nil
  | n + 1, _, _, .cons _ _ _ hs => dtps_drop n hs
def nmsL : List Str := [Str.ofString "n", Str.ofString "open", Str.ofString "k2", Str.ofString "r"]
theorem nm_shw {k : Str} (h : k ∈ nmsL) : ShwD 4 20 (.str k) := by
  simp only [nmsL, List.mem_cons, List.not_mem_nil, or_false] at h
  rcases h with rfl | rfl | rfl | rfl <;> exact ⟨by decide +kernel, by decide +kernel, by decide +kernel⟩
theorem dic_shw : ∀ {ps : List (Str × Va)}, (∀ p ∈ ps, p.1 ∈ nmsL) → (∀ p ∈ ps, p.2.good) → ∀ q ∈ ((ps.map (·.1)).map PyData.str).zip (ps.map fun p => p.2.d), ShwD 4 20 q.1 ∧ ShwD 4 100000 q.2
  | [], _, _, q, h => by cases h
  | p :: ps, h1, h2, q, h => by
    rw [List.map_cons, List.map_cons, List.map_cons, List.zip_cons_cons] at h
    rcases List.mem_cons.mp h with rfl | h
    · have g := h2 p List.mem_cons_self
      have o := va_okN g
      exact ⟨nm_shw (h1 p List.mem_cons_self), (okN_show _ o).1, (okN_lay _ o).2, va_le g⟩
    · exact dic_shw (fun p hp => h1 p (List.mem_cons_of_mem _ hp)) (fun p hp => h2 p (List.mem_cons_of_mem _ hp)) q h
theorem two_shw {ps qs : List (Str × Va)} (l1 : ps.length ≤ 3) (l2 : qs.length ≤ 3) (a1 : ∀ p ∈ ps, p.1 ∈ nmsL) (a2 : ∀ p ∈ ps, p.2.good) (b1 : ∀ p ∈ qs, p.1 ∈ nmsL) (b2 : ∀ p ∈ qs, p.2.good) : ShwD 6 1000000 (.list [dicD ps, dicD qs]) := by
  have len : ∀ {ps : List (Str × Va)}, (((ps.map (·.1)).map PyData.str).zip (ps.map fun p => p.2.d)).length = ps.length := fun {ps} => by
    rw [List.length_zip, List.length_map, List.length_map, List.length_map, Nat.min_self]
  have one : ∀ {ps : List (Str × Va)}, ps.length ≤ 3 → (∀ p ∈ ps, p.1 ∈ nmsL) → (∀ p ∈ ps, p.2.good) → ShwD 5 300100 (dicD ps) := fun {ps} l h1 h2 => by
    refine (ShwD.dict (dic_shw h1 h2)).mono (Nat.le_refl _) ?_
    rw [len]
    have := Nat.mul_le_mul_left (20 + 100000 + 4) l
    omega
  refine (ShwD.list (k := 5) (m := 300100) (ds := [dicD ps, dicD qs]) fun d hd => ?_).mono (Nat.le_refl _) (by show (300100 + 2) * 2 + 2 ≤ _; omega)
  rcases List.mem_cons.mp hd with rfl | hd
  · exact one l1 a1 a2
  · rw [List.mem_singleton.mp hd]; exact one l2 b1 b2
section
variable {P : Program} {w : World} {K : PySem.W.Frag} {mg : Str → Option Value} {base : Heap} {ts : List Addr}
theorem lev_all (D_e : DefAt K mg "_law_evaluate" s_law_evaluate ["tree", "scope", "provided", "resources"]) (D_s : DefAt K mg "_law_special" s_law_special ["tree", "scope", "provided", "resources"]) (m_dict : mg "dict" = none) (m_len : mg "len" = none) (m_range : mg "range" = none) (m_int : mg "int" = none)
    (c__law_functions : Cal P w K mg base CX0 1 "_law_functions" [] (spFuns K)) (c__law_wrong_kind : Cal P w K mg base CX0 1 "_law_wrong_kind" ["value", "kind"] (spWKd K)) (c__law_called : Cal P w K mg base CX0 2 "_law_called" ["name", "rows"] (spLCalled K)) :
    ∀ m, Cal P w K mg base CX0 (3 + 2 * m) "_law_evaluate" ["tree", "scope", "provided", "resources"] (spLEv K ts m) := fun m => by
  induction m with
  | zero => exact c_law_evaluate (m := 0) (k := 2) (by decide) D_e m_dict m_len m_range c__law_functions c__law_wrong_kind c__law_called (DefAt.no0 D_s sc_law_special) (DefAt.no0 D_e sc_law_evaluate)
  | succ m ih =>
    have hs := c_law_special (m := m) (k := 3 + 2 * m) (by omega) D_s m_int ih
    exact c_law_evaluate (m := m + 1) (k := 3 + 2 * m + 1) (by omega) D_e m_dict m_len m_range c__law_functions c__law_wrong_kind c__law_called hs (ih.mono (by omega))
def spSameD (K : PySem.W.Frag) : Sp := fun vs H Q _ => ∃ (u1 u2 : V) (r : Re), vs = [u1, u2] ∧ Dt K H u1 r.d ∧ Dt K H u2 r.d ∧ r.good ∧ Q (.bl true) H
theorem c_law_sameD (D : DefAt K mg "_law_same" Rv.s_law_same ["actual", "due"]) (m_repr : mg "repr" = none) : Cal P w K mg base CX0 1 "_law_same" ["actual", "due"] (spSameD K) := by
  refine D.cal (k := 0) Rv.sc_law_same (fun vs H Q E h => ?_) fun f cdv A outer s H vs Q E hr h => ?_
  · obtain ⟨a, b, r, rfl, _⟩ := h
    rfl
  · obtain ⟨a, b, r, rfl, ha, hb, g, q⟩ := h
    refine ⟨_, (pss_one (ps_ret (pe_cmpR op_eq (pe_callB (call_reprR hr) (by rfl) m_repr (by decide +kernel) (pa_cons (pv 0) pa_nil)) (pe_callB (call_reprR hr) (by rfl) m_repr (by decide +kernel) (pa_cons (pv 1) pa_nil)) (nomark _)))), ?_⟩
    obtain ⟨n, hn, ho⟩ := re_okN g
    have s1 := okN_show _ ho
    have s2 := (okN_lay _ ho).2
    have s3 := re_le g
    have sz : sizeLine = 16777216 := rfl
    refine ⟨_, rfl, _, _, rfl, ha.dp, s1.1, s1.2, by omega, by omega, ?_⟩
    refine ⟨_, rfl, _, _, rfl, hb.dp, s1.1, s1.2, by omega, by omega, ?_⟩
    refine ⟨rfl, ?_⟩
    rw [decide_eq_true rfl]
    exact q
theorem ok_law {k : Nat} {f : Addr} {fd : FuncData} (hk : 28 ≤ k) (F : Fun K "law" "law" s_law f fd) (m_range : mg "range" = none) (m_repr : mg "repr" = none)
    (c__law_digits : Cal P w K mg base CX0 2 "_law_digits" ["script", "first", "last"] (Rd.spDigits K)) (c__law_draw : Cal P w K mg base CX0 1 "_law_draw" ["box", "many"] Rv.spDraw)
    (c__law_expression : Cal P w K mg base CX0 12 "_law_expression" ["box", "names", "kind", "depth", "left"] (spExpr K 5)) (c__law_value : Cal P w K mg base CX0 5 "_law_value" ["box"] (spValN K))
    (c__law_evaluate : Cal P w K mg base CX0 13 "_law_evaluate" ["tree", "scope", "provided", "resources"] (spLEv K ts 5))
    (c_evaluate : Cal P w K mg base CX0 28 "evaluate" ["expression", "scope", "provided", "resources"] (spEv K ts 5)) (c__law_same : Cal P w K mg base CX0 1 "_law_same" ["actual", "due"] (spSameD K)) : FnG P w K mg base CX0 (k + 1) f fd ["script"] (spLaw K ts) := by
  refine okG (k := k) F sc_law (fun vs H Q E h => ?_) fun cdv A outer s H vs Q E hr h => ?_
  · obtain ⟨a, ns, rfl, _⟩ := h
    rfl
  · obtain ⟨a, ns, rfl, hs, hT, q⟩ := h
    refine ⟨_, (pss_cons (ps_set (i := 1) sc_law.nd rfl (Or.inl rfl) (pe_lst (pa_cons (pe_cal (c__law_digits.mono (by omega)) hr (by rfl) (pa_cons (pv 0) (pa_cons pe_int (pa_cons pe_int pa_nil)))) (pa_cons pe_int pa_nil))))
  (pss_cons (ps_for PassesOwn.never rfl (pi_range1 (by rfl) m_range (pa_cons pe_int pa_nil)) (pg_name (i := 2) sc_law.nd rfl (Or.inl rfl)) (pss_cons (ps_set (i := 3) sc_law.nd rfl (Or.inl rfl) (pe_cal (c__law_expression.mono (by omega)) hr (by rfl) (pa_cons (pv 1) (pa_cons (pe_lst (pa_cons pe_str (pa_cons pe_str (pa_cons pe_str pa_nil)))) (pa_cons (pe_ix ix_str pe_str (pe_cal (c__law_draw.mono (by omega)) hr (by rfl) (pa_cons (pv 1) (pa_cons pe_int pa_nil))) (fun _ _ => rfl)) (pa_cons (pe_cal (c__law_draw.mono (by omega)) hr (by rfl) (pa_cons (pv 1) (pa_cons pe_int pa_nil))) (pa_cons (pe_lst (pa_cons pe_int pa_nil)) pa_nil)))))))
  (pss_cons (ps_set (i := 4) sc_law.nd rfl (Or.inl rfl) (pe_disp (pps_cons pe_str (pe_tup (pa_cons pe_str (pa_cons (pe_cal (c__law_draw.mono (by omega)) hr (by rfl) (pa_cons (pv 1) (pa_cons pe_int pa_nil))) pa_nil))) (pps_cons pe_str (pe_tup (pa_cons pe_str (pa_cons (pe_cmpR op_eq (pe_cal (c__law_draw.mono (by omega)) hr (by rfl) (pa_cons (pv 1) (pa_cons pe_int pa_nil))) pe_int (nomark _)) pa_nil))) pps_nil)) (by rfl) (by rfl) (fun z => by cases z) (by decide)))
  (pss_cons (ps_if (pt_cmpR op_eq (pe_cal (c__law_draw.mono (by omega)) hr (by rfl) (pa_cons (pv 1) (pa_cons pe_int pa_nil))) pe_int (nomark _)) (pss_one (ps_dput (hu1 hr) (pv 4) pe_str (pe_cal (c__law_value.mono (by omega)) hr (by rfl) (pa_cons (pv 1) pa_nil)) rfl)) pss_nil)
  (pss_cons (ps_set (i := 5) sc_law.nd rfl (Or.inl rfl) (pe_slice sl_tupF (pe_tup (pa_cons (pe_tup (pa_cons pe_str (pa_cons (pe_cal (c__law_value.mono (by omega)) hr (by rfl) (pa_cons (pv 1) pa_nil)) pa_nil))) (pa_cons (pe_tup (pa_cons pe_str (pa_cons (pe_tup (pa_cons pe_str (pa_cons pe_int pa_nil))) pa_nil))) pa_nil))) (po_some (pe_cal (c__law_draw.mono (by omega)) hr (by rfl) (pa_cons (pv 1) (pa_cons pe_int pa_nil)))) po_none))
  (pss_cons (ps_set (i := 6) sc_law.nd rfl (Or.inl rfl) pe_dnewK)
  (pss_cons (ps_if (pt_cmpR op_eq (pe_cal (c__law_draw.mono (by omega)) hr (by rfl) (pa_cons (pv 1) (pa_cons pe_int pa_nil))) pe_int (nomark _)) (pss_one (ps_dput (hu1 hr) (pv 6) pe_str (pe_cal (c__law_value.mono (by omega)) hr (by rfl) (pa_cons (pv 1) pa_nil)) rfl)) pss_nil)
  (pss_cons (ps_set (i := 7) sc_law.nd rfl (Or.inl rfl) (pe_cal (c__law_evaluate.mono (by omega)) hr (by rfl) (pa_cons (pv 3) (pa_cons (pv 4) (pa_cons (pv 5) (pa_cons (pv 6) pa_nil))))))
  (pss_cons (ps_set (i := 8) sc_law.nd rfl (Or.inl rfl) (pe_callB (call_reprR2 hr) (by rfl) m_repr (by decide +kernel) (pa_cons (pe_lstN (pa_cons (pv 4) (pa_cons (pv 6) pa_nil))) pa_nil)))
  (pss_cons (ps_for PassesOwn.never rfl (pi_range1 (by rfl) m_range (pa_cons pe_int pa_nil)) (pg_name (i := 9) sc_law.nd rfl (Or.inl rfl)) (pss_one (ps_if (pt_not (pt_val (pe_cal (c__law_same.mono (by omega)) hr (by rfl) (pa_cons (pe_cal (c_evaluate.mono (by omega)) hr (by rfl) (pa_cons (pv 3) (pa_cons (pv 4) (pa_cons (pv 5) (pa_cons (pv 6) pa_nil))))) (pa_cons (pv 7) pa_nil))))) (pss_one (ps_ret pe_bl)) pss_nil)))
  (pss_one (ps_if (pt_cmpR op_ne (pe_callB (call_reprR2 hr) (by rfl) m_repr (by decide +kernel) (pa_cons (pe_lstN (pa_cons (pv 4) (pa_cons (pv 6) pa_nil))) pa_nil)) (pv 8) (nomark _)) (pss_one (ps_ret pe_bl)) pss_nil))))))))))))
  (pss_one (ps_ret pe_bl)))), ?_⟩
    have sz : sizeLine = 16777216 := rfl
    refine ⟨.ref a, rfl, a, ns, 60, rfl, by decide, hs, fun d H1 xs hd k1 e1 hi => ⟨by show 2 ≤ sizeLine; decide, fun bx hbx => ?_⟩⟩
    have k2 : Kp H1 (upd H1 bx (.lst [.ref d, .int 0])) := Kb.new hbx
    have b0 : Rv.Box bx d (upd H1 bx (.lst [.ref d, .int 0])) := ⟨xs, 0, upd_same, Int.le_refl 0, by rw [upd_ne (ne_of_none e1 hbx)]; exact e1, hi⟩
    have t0 : ∀ T ∈ ts, TabG (upd H1 bx (.lst [.ref d, .int 0])) T := fun T hm => k2.tab T (k1.tab T (hT T hm))
    generalize upd H1 bx (.lst [.ref d, .int 0]) = H2 at k2 b0 t0 ⊢
    refine gset ?_
    refine ⟨5, rfl, by decide, by decide, ?_⟩
    refine for_it walk_range (fun i σ H' => Rv.Box bx d H' ∧ (∀ T ∈ ts, TabG H' T) ∧ ∃ o2 o3 o4 o5 o6 o7 o8 o9, σ = [some (.ref a), some (.ref bx), o2, o3, o4, o5, o6, o7, o8, o9]) ⟨b0, t0, none, none, none, none, none, none, none, none, rfl⟩ (fun _ _ _ _ _ => trivial) ?_ ?_
    · rintro i x σ _ H3 hi ⟨b3, t3, o2, o3, o4, o5, o6, o7, o8, o9, rfl⟩ ⟨rfl, hx⟩
      refine gset ?_
      with_reducible refine sset_gen (fun v H' => ∃ e, Rv.Box bx d H' ∧ (∀ T ∈ ts, TabG H' T) ∧ DtE K H' v e ∧ WfE e ∧ e.deep ≤ 5) (fun N hN => ?_) ?_
      · refine ⟨_, rfl, by show 3 ≤ sizeLine; decide, fun nm hnm => ?_⟩
        have k4 : Kp H3 (upd H3 nm (.lst [.str (Str.ofString "n"), .str (Str.ofString "open"), .str (Str.ofString "k2")])) := Kb.new hnm
        have b4 := b3.kp k4
        have e4 : (upd H3 nm (.lst [.str (Str.ofString "n"), .str (Str.ofString "open"), .str (Str.ofString "k2")])) nm = some (.lst [.str (Str.ofString "n"), .str (Str.ofString "open"), .str (Str.ofString "k2")]) := upd_same
        have n4 : nm ≠ bx := (b3.new hnm).1
        generalize upd H3 nm (.lst [.str (Str.ofString "n"), .str (Str.ofString "open"), .str (Str.ofString "k2")]) = H4 at k4 b4 e4 ⊢
        refine ⟨.ref bx, rfl, bx, d, 7, rfl, by decide, b4, fun H5 r5 a5 g5 l5 => ?_⟩
        have e5 := a5.lst e4 n4
        obtain ⟨kd, hkd⟩ := Option.isSome_iff_exists.mp (show (atI (Str.ofString "bmisvkt").cps.toList r5).isSome = true by
          have : r5 = 0 ∨ r5 = 1 ∨ r5 = 2 ∨ r5 = 3 ∨ r5 = 4 ∨ r5 = 5 ∨ r5 = 6 := by omega
          rcases this with rfl | rfl | rfl | rfl | rfl | rfl | rfl <;> decide +kernel)
        refine ⟨_, r5, kd, rfl, rfl, by decide +kernel, hkd, .ref bx, rfl, bx, d, 6, rfl, by decide, a5.2, fun H6 r6 a6 g6 l6 => ?_⟩
        have e6 := a6.lst e5 n4
        obtain ⟨n6, rfl⟩ : ∃ n : Nat, r6 = n := ⟨r6.toNat, by omega⟩
        refine ⟨by show 1 ≤ sizeLine; decide, fun lf hlf => ?_⟩
        have k6 : Kp H6 (upd H6 lf (.lst [.int 10])) := Kb.new hlf
        have l6' : lf ≠ d := (a6.2.new hlf).2
        have x6 : Exs bx d nm lf [Str.ofString "n", Str.ofString "open", Str.ofString "k2"] 10 (upd H6 lf (.lst [.int 10])) := ⟨a6.2.kp k6, k6.keep _ _ e6 (by simp) nt_lst, upd_same, by simp, l6'⟩
        have t6 : ∀ T ∈ ts, TabG (upd H6 lf (.lst [.int 10])) T := fun T hm => k6.tab T (a6.1.tab T (a5.1.tab T (k4.tab T (t3 T hm))))
        generalize upd H6 lf (.lst [.int 10]) = H6' at k6 x6 t6 ⊢
        exact ⟨bx, d, nm, lf, [Str.ofString "n", Str.ofString "open", Str.ofString "k2"], _, n6, 10, rfl, by omega, by decide, by decide, x6, fun H7 v e k7 x7 c7 dp7 g7 d7 => hN _ _ ⟨e, x7.b, fun T hm => k7.tab T (t6 T hm), d7, g7.wf, by omega⟩⟩
      rintro v H7 ⟨e, b7, t7, d7, wf, dp⟩
      have two2 : 2 ≤ sizeLine := by decide
      with_reducible refine sset_gen (fun v' H' => ∃ sc kvs ps, v' = .ref sc ∧ H7 sc = none ∧ Rv.Aft bx d H7 H' ∧ H' sc = some (.dK kvs) ∧ KvV K H' kvs ps ∧ ps.map (·.1) = [Str.ofString "n", Str.ofString "open"]) (fun N hN => ?_) ?_
      · refine fun p hp => ?_
        have k8 : Rv.Aft bx d H7 (upd H7 p (.dK [])) := Rv.Aft.new b7 hp
        have e8 : (upd H7 p (.dK [])) p = some (.dK []) := upd_same
        generalize upd H7 p (.dK []) = H8 at k8 e8 ⊢
        have np : p ≠ bx := (b7.new hp).1
        refine ⟨.ref bx, rfl, bx, d, 9, rfl, by decide, k8.2, fun H9 r9 a9 g9 l9 => ⟨two2, fun t1 ht1 => ?_⟩⟩
        have k10 : Rv.Aft bx d H9 (upd H9 t1 (.tup [.str (Str.ofString "int"), .int r9])) := Rv.Aft.new a9.2 ht1
        have s10 : SqT K (upd H9 t1 (.tup [.str (Str.ofString "int"), .int r9])) t1 [.str (Str.ofString "int"), .int r9] := SqT.of upd_same
        generalize upd H9 t1 (.tup [.str (Str.ofString "int"), .int r9]) = H10 at k10 s10 ⊢
        refine ⟨.ref bx, rfl, bx, d, 2, rfl, by decide, k10.2, fun H11 r11 a11 g11 l11 => ⟨rfl, two2, fun t2 ht2 => ?_⟩⟩
        have k12 : Rv.Aft bx d H11 (upd H11 t2 (.tup [.str (Str.ofString "bool"), .bl (decide (V.int r11 = V.int 1))])) := Rv.Aft.new a11.2 ht2
        have s12 : SqT K (upd H11 t2 (.tup [.str (Str.ofString "bool"), .bl (decide (V.int r11 = V.int 1))])) t2 [.str (Str.ofString "bool"), .bl (decide (V.int r11 = V.int 1))] := SqT.of upd_same
        have s12' := (a11.trans k12).1.sqT k10.2.lsts s10
        generalize upd H11 t2 (.tup [.str (Str.ofString "bool"), .bl (decide (V.int r11 = V.int 1))]) = H12 at k12 s12 s12' ⊢
        have k8' := ((a9.trans k10).trans a11).trans k12
        have e12 := k8'.1.keep p _ e8 (by simpa using np) nt_dict
        refine ⟨e12, [(.inr (Str.ofString "n"), .ref t1), (.inr (Str.ofString "open"), .ref t2)], rfl, by show 2 ≤ 15; decide, ?_⟩
        rw [merge_self (more := [(.inr (Str.ofString "n"), .ref t1), (.inr (Str.ofString "open"), .ref t2)]) (show [(Sum.inr (Str.ofString "n") : Key), .inr (Str.ofString "open")].Nodup from by decide +kernel)]
        have k13 := (k8.trans k8').mut hp b7 e12 nt_dict (o := .dK [(.inr (Str.ofString "n"), .ref t1), (.inr (Str.ofString "open"), .ref t2)])
        refine hN _ _ ⟨p, _, [(Str.ofString "n", .s (.int r9)), (Str.ofString "open", .s (.bool (decide (V.int r11 = V.int 1))))], rfl, hp, k13, upd_same, ?_, rfl⟩
        refine KvV.upd e12 (.cons (.s (.tup s12' (.cons (.str _) (.cons (.int _) .nil)))) (by show (0 : Int) ≤ r9 ∧ r9 ≤ 999999; omega) (.cons (.s (.tup s12 (.cons (.str _) (.cons (.bl _) .nil)))) trivial .nil))
      rintro v' H8 ⟨sc, kvs, ps, rfl, hsc, a8, e8, kv8, hps⟩
      have nsc : sc ≠ bx := (b7.new hsc).1
      have l8 := kv8.length
      have lps : ps.length = 2 := by rw [← List.length_map (f := (·.1)), hps]; rfl
      with_reducible refine seq_gen (fun σ' H' => (∃ kvs ps, Rv.Aft bx d H7 H' ∧ H' sc = some (.dK kvs) ∧ KvV K H' kvs ps ∧ ps.length ≤ 3 ∧ ∀ p ∈ ps, p.1 ∈ nmsL) ∧ σ' = [some (.ref a), some (.ref bx), some x, some v, some (.ref sc), o5, o6, o7, o8, o9]) (fun N hN => ?_) ?_
      · refine ⟨.ref bx, rfl, bx, d, 2, rfl, by decide, a8.2, fun H9 r9 a9 g9 l9 => ⟨rfl, _, rfl, ?_⟩⟩
        have a79 := a8.trans a9
        have e9 := a9.1.keep sc _ e8 (by simpa using nsc) nt_dict
        have kv9 := kv8.kb a9.1 a8.2.lsts
        have hin : ∀ p ∈ ps, p.1 = Str.ofString "n" ∨ p.1 = Str.ofString "open" := fun p hp => by
          have : p.1 ∈ ps.map (·.1) := List.mem_map.mpr ⟨p, hp, rfl⟩
          rw [hps] at this
          simpa using this
        by_cases hr0 : r9 = 0
        · subst hr0
          refine iteP rfl ⟨.ref bx, rfl, bx, d, rfl, a79.2, fun H10 v2 va a10 dv g2 => ?_⟩
          have e10 := a10.1.keep sc _ e9 (by simpa using nsc) nt_dict
          have kv10 := kv9.kb a10.1 a79.2.lsts
          refine ⟨_, rfl, sc, _, rfl, DPut.k (k := .inr (Str.ofString "k2")) e10 (by omega), hN _ _ ⟨⟨_, ps ++ [(Str.ofString "k2", va)], (a79.trans a10).mut hsc b7 e10 nt_dict, upd_same, KvV.upd e10 (kv10.put (fun p hp => ?_) dv g2), by simp [lps], fun p hp => ?_⟩, rfl⟩⟩
          · rcases hin p hp with h | h <;> rw [h] <;> decide +kernel
          · rcases List.mem_append.mp hp with h | h
            · rcases hin p h with h | h <;> rw [h] <;> decide +kernel
            · rw [List.mem_singleton.mp h]; show Str.ofString "k2" ∈ nmsL; decide +kernel
        · refine iteN (fun z => hr0 (V.int.inj z)) (hN _ _ ⟨⟨_, ps, a79, e9, kv9, by omega, fun p hp => ?_⟩, rfl⟩)
          rcases hin p hp with h | h <;> rw [h] <;> decide +kernel
      clear kv8 e8 a8 l8 lps hps kvs ps
      rintro σ' H8' ⟨⟨kvs, ps, a8, e8, kv8, lps, hps⟩, rfl⟩
      clear H8
      with_reducible refine sset_gen (fun v' H' => ∃ pr xs π, v' = .ref pr ∧ Rv.Aft bx d H8' H' ∧ SqT K H' pr xs ∧ DtPs K H' xs π) (fun N hN => ?_) ?_
      · refine ⟨.ref bx, rfl, bx, d, rfl, a8.2, fun H9 v2 va a9 dv g2 => ⟨two2, fun p1 h1 => ?_⟩⟩
        have k1 : Kp H9 (upd H9 p1 (.tup [.str (Str.ofString "ctx"), v2])) := Kb.new h1
        have s1 : SqT K (upd H9 p1 (.tup [.str (Str.ofString "ctx"), v2])) p1 [.str (Str.ofString "ctx"), v2] := SqT.of upd_same
        generalize upd H9 p1 (.tup [.str (Str.ofString "ctx"), v2]) = G1 at k1 s1 ⊢
        refine ⟨two2, fun p2 h2 => ?_⟩
        have k2 : Kp G1 (upd G1 p2 (.tup [.str (Str.ofString "int"), .int 1])) := Kb.new h2
        have s2 : SqT K (upd G1 p2 (.tup [.str (Str.ofString "int"), .int 1])) p2 [.str (Str.ofString "int"), .int 1] := SqT.of upd_same
        generalize upd G1 p2 (.tup [.str (Str.ofString "int"), .int 1]) = G2 at k2 s2 ⊢
        refine ⟨two2, fun p3 h3 => ?_⟩
        have k3 : Kp G2 (upd G2 p3 (.tup [.str (Str.ofString "ctx"), .ref p2])) := Kb.new h3
        have s3 : SqT K (upd G2 p3 (.tup [.str (Str.ofString "ctx"), .ref p2])) p3 [.str (Str.ofString "ctx"), .ref p2] := SqT.of upd_same
        generalize upd G2 p3 (.tup [.str (Str.ofString "ctx"), .ref p2]) = G3 at k3 s3 ⊢
        refine ⟨two2, fun p4 h4 => ?_⟩
        have k4 : Kp G3 (upd G3 p4 (.tup [.ref p1, .ref p3])) := Kb.new h4
        have s4 : SqT K (upd G3 p4 (.tup [.ref p1, .ref p3])) p4 [.ref p1, .ref p3] := SqT.of upd_same
        generalize upd G3 p4 (.tup [.ref p1, .ref p3]) = G4 at k4 s4 ⊢
        have ps4 : DtPs K G4 [.ref p1, .ref p3] [(Str.ofString "ctx", va), (Str.ofString "ctx", .s (.int 1))] :=
          .cons (((k2.trans k3).trans k4).sqT Lsts.nil s1) (dv.kb (((k1.trans k2).trans k3).trans k4) Lsts.nil) g2 (.cons (k4.sqT Lsts.nil s3) (.s (.tup ((k3.trans k4).sqT Lsts.nil s2) (.cons (.str _) (.cons (.int _) .nil)))) (by show (0 : Int) ≤ 1 ∧ (1 : Int) ≤ 999999; decide) .nil)
        have b4 : Rv.Box bx d G4 := a9.2.kp (((k1.trans k2).trans k3).trans k4)
        have a84 : Rv.Aft bx d H8' G4 := a9.trans (Rv.Aft.of a9.2 (((k1.trans k2).trans k3).trans k4))
        refine ⟨.ref bx, rfl, bx, d, 3, rfl, by decide, b4, fun G5 r5 a5 g5 l5 => ?_⟩
        have s5 := a5.1.sqT b4.lsts s4
        have ps5 := ps4.kb a5.1 b4.lsts
        obtain ⟨n5, rfl⟩ : ∃ n : Nat, r5 = n := ⟨r5.toNat, by omega⟩
        refine ⟨_, rfl, p4, _, rfl, s5, fun hw => hN _ _ ⟨p4, _, _, rfl, a84.trans a5, s5, ps5⟩, fun hw p6 o h6 ho => ?_⟩
        have k6 : Kp G5 (upd G5 p6 (frzT o (cutV [V.ref p1, V.ref p3] (some (n5 : Int)) none))) := Kb.new h6
        refine hN _ _ ⟨p6, _, [(Str.ofString "ctx", va), (Str.ofString "ctx", .s (.int 1))].drop n5, rfl, (a84.trans a5).trans (Rv.Aft.of a5.2 k6), SqT.frz upd_same, ?_⟩
        have e : cutV [V.ref p1, V.ref p3] (some (n5 : Int)) none = [V.ref p1, V.ref p3].drop n5 := by
          unfold cutV
          rw [HT.sIx_none, HT.sIx_nat]
          have : n5 = 0 ∨ n5 = 1 ∨ n5 = 2 := by omega
          rcases this with rfl | rfl | rfl <;> rfl
        have ps6 := ps5.kb k6 Lsts.nil
        rw [e] at ps6 ⊢
        exact dtps_drop n5 ps6
      rintro v' H9 ⟨pr, pxs, π, rfl, a9, s9, ps9⟩
      have e9 := a9.1.keep sc _ e8 (by simpa using nsc) nt_dict
      have kv9 := kv8.kb a9.1 a8.2.lsts
      have a79 := a8.trans a9
      have d9 := d7.kb a79.1 b7.lsts
      have t9 : ∀ T ∈ ts, TabG H9 T := fun T hm => a79.1.tab T (t7 T hm)
      have b9 := a9.2
      clear kv8 e8 a8 a9
      refine fun re hre => ?_
      refine gset ?_
      have nre : re ≠ bx := (b9.new hre).1
      have a10 : Rv.Aft bx d H9 (upd H9 re (.dK [])) := Rv.Aft.new b9 hre
      have e10 : (upd H9 re (.dK [])) re = some (.dK []) := upd_same
      generalize upd H9 re (.dK []) = H10 at a10 e10 ⊢
      with_reducible refine seq_gen (fun σ' H' => (∃ kvs2 qs, Rv.Aft bx d H9 H' ∧ H' re = some (.dK kvs2) ∧ KvV K H' kvs2 qs ∧ qs.length ≤ 3 ∧ ∀ p ∈ qs, p.1 ∈ nmsL) ∧ σ' = [some (.ref a), some (.ref bx), some x, some v, some (.ref sc), some (.ref pr), some (.ref re), o7, o8, o9]) (fun N hN => ?_) ?_
      · refine ⟨.ref bx, rfl, bx, d, 2, rfl, by decide, a10.2, fun H11 r11 a11 g11 l11 => ⟨rfl, _, rfl, ?_⟩⟩
        have a911 := a10.trans a11
        have e11 := a11.1.keep re _ e10 (by simpa using nre) nt_dict
        by_cases hr0 : r11 = 0
        · subst hr0
          refine iteP rfl ⟨.ref bx, rfl, bx, d, rfl, a911.2, fun H12 v2 va a12 dv g2 => ?_⟩
          have e12 := a12.1.keep re _ e11 (by simpa using nre) nt_dict
          exact ⟨_, rfl, re, _, rfl, DPut.k (k := .inr (Str.ofString "r")) e12 (by show 0 < sizeLine; decide), hN _ _ ⟨⟨_, [(Str.ofString "r", va)], (a911.trans a12).mut hre b9 e12 nt_dict, upd_same, KvV.upd e12 (KvV.put (ps := []) .nil (fun p hp => by cases hp) dv g2), by simp, fun p hp => by rw [List.mem_singleton.mp hp]; show Str.ofString "r" ∈ nmsL; decide +kernel⟩, rfl⟩⟩
        · exact iteN (fun z => hr0 (V.int.inj z)) (hN _ _ ⟨⟨_, [], a911, e11, .nil, by simp, fun p hp => by cases hp⟩, rfl⟩)
      clear a10 e10
      rintro σ' H11 ⟨⟨kvs2, qs, a11, e11, kv11, lqs, hqs⟩, rfl⟩
      clear H10
      have b11 := a11.2
      have hA : Arn K H11 ts sc pr re (lookP ps) π (lookP qs) := ⟨(kv9.kb a11.1 b9.lsts).dic (a11.1.keep sc _ e9 (by simpa using nsc) nt_dict), ⟨pxs, a11.1.sqT b9.lsts s9, ps9.kb a11.1 b9.lsts⟩, kv11.dic e11, fun T hm => a11.1.tab T (t9 T hm)⟩
      have d11 := d9.kb a11.1 b9.lsts
      have dd1 : Dd K H11 (.ref sc) (dicD ps) := (kv9.kb a11.1 b9.lsts).dd (a11.1.keep sc _ e9 (by simpa using nsc) nt_dict)
      have dd2 : Dd K H11 (.ref re) (dicD qs) := kv11.dd e11
      have shw := two_shw lps lqs hps kv9.good hqs kv11.good
      have gR := ev_good hA.env wf
      refine ⟨_, rfl, _, rfl, _, rfl, _, rfl, v, e, sc, pr, re, _, π, _, rfl, d11, wf, dp, hA, fun H12 u k12 r12 => ?_⟩
      refine gset ?_
      refine ⟨_, rfl, _, rfl, two2, fun p13 h13 n13 => ?_⟩
      have k13 : Kp H12 (upd H12 p13 (.lst [.ref sc, .ref re])) := Kb.new h13
      have dd3 : Dd K (upd H12 p13 (.lst [.ref sc, .ref re])) (.ref p13) (.list [dicD ps, dicD qs]) := .lst upd_same n13 (.cons (dd1.kb (k12.trans k13)) (.cons (dd2.kb (k12.trans k13)) .nil))
      generalize upd H12 p13 (.lst [.ref sc, .ref re]) = H13 at k13 dd3 ⊢
      have k1113 := k12.trans k13
      refine ⟨p13, _, rfl, dd3, shw.ws, by have := shw.wd; omega, by have := shw.wz; omega, ?_⟩
      refine gset ?_
      have r13 := r12.kb k13 Lsts.nil
      refine ⟨2, rfl, by decide, by decide, ?_⟩
      refine for_it walk_range (fun i σ' H' => Kp H11 H' ∧ Dt K H' u (ev (lookP ps) π (lookP qs) e).d ∧ ∃ o9, σ' = [some (.ref a), some (.ref bx), some x, some v, some (.ref sc), some (.ref pr), some (.ref re), some u, some (.str (PyData.list [dicD ps, dicD qs]).shown), o9]) ⟨k1113, r13, _, rfl⟩ (fun _ _ _ _ _ => trivial) ?_ ?_
      · rintro j y σ' _ H14 hj ⟨k14, du, o9', rfl⟩ ⟨rfl, hy⟩
        refine gset ?_
        refine ⟨_, rfl, _, rfl, _, rfl, _, rfl, v, e, sc, pr, re, _, π, _, rfl, d11.kb k14 Lsts.nil, wf, dp, hA.kp k14, fun H15 u2 k15 r15 => ?_⟩
        refine ⟨_, rfl, u2, u, _, rfl, r15.dt, du.kb k15 Lsts.nil, gR, _, rfl, iteF' (by rfl) ⟨k14.trans k15, du.kb k15 Lsts.nil, _, rfl⟩⟩
      · rintro σ' H14 ⟨k14, du, o9', rfl⟩
        refine ⟨_, rfl, _, rfl, two2, fun p15 h15 n15 => ?_⟩
        have k15 : Kp H14 (upd H14 p15 (.lst [.ref sc, .ref re])) := Kb.new h15
        have dd5 : Dd K (upd H14 p15 (.lst [.ref sc, .ref re])) (.ref p15) (.list [dicD ps, dicD qs]) := .lst upd_same n15 (.cons (dd1.kb (k14.trans k15)) (.cons (dd2.kb (k14.trans k15)) .nil))
        generalize upd H14 p15 (.lst [.ref sc, .ref re]) = H15 at k15 dd5 ⊢
        have k1115 := k14.trans k15
        refine ⟨p15, _, rfl, dd5, shw.ws, by have := shw.wd; omega, by have := shw.wz; omega, _, rfl, rfl, _, rfl, ?_⟩
        refine iteF' (by rw [decide_eq_true rfl]; rfl) ?_
        exact ⟨b11.kp k1115, fun T hm => k1115.tab T (hA.t T hm), _, _, _, _, _, _, _, _, rfl⟩
    · rintro σ H3 ⟨b3, t3, o2, o3, o4, o5, o6, o7, o8, o9, rfl⟩
      exact q H3
end
end Rw

namespace Rw
open PySem PySem.Spec PyProof.Rows L2 GxR Gx Gd Rx Rs
theorem expr_all {P : Program} {w : World} {K : PySem.W.Frag} {mg : Str → Option Value} {base : Heap} (D__law_expression : DefAt K mg "_law_expression" s_law_expression ["box", "names", "kind", "depth", "left"]) (m_len : mg "len" = none) (m_int : mg "int" = none) (m_list : mg "list" = none) (m_range : mg "range" = none) (m_tuple : mg "tuple" = none)
    (c__law_draw : Cal P w K mg base CX0 1 "_law_draw" ["box", "many"] Rv.spDraw) (c__law_leaf : Cal P w K mg base CX0 6 "_law_leaf" ["box", "names", "kind"] (spLeaf K)) (c__law_functions : Cal P w K mg base CX0 1 "_law_functions" [] (spFuns K)) :
    ∀ m, Cal P w K mg base CX0 (7 + m) "_law_expression" ["box", "names", "kind", "depth", "left"] (spExpr K m) := fun m => by
  induction m with
  | zero => exact c_law_expression (m := 0) (k := 6) (by decide) D__law_expression m_len m_int m_list m_range m_tuple c__law_draw c__law_leaf c__law_functions (DefAt.no0 D__law_expression sc_law_expression)
  | succ m ih => exact c_law_expression (m := m + 1) (k := 7 + m) (by omega) D__law_expression m_len m_int m_list m_range m_tuple c__law_draw c__law_leaf c__law_functions ih
theorem law_fin {l : PySem.W.OpenLaw} {w : World} {K : PySem.W.Frag} {mg : Str → Option Value} {h : Heap} {fa c3 T3 aKi aWr aAct : Addr} {fd : FuncData} {a0 a1 a2 a3 a4 a5 a6 a7 a8 a9 a10 a11 a12 : Addr} (X : K.In h) (Fl : Fun K "law" "law" s_law fa fd) (bl : ∀ (s : Shared) (u : Value), BindsTo s fd ⟨[u], []⟩ [("script", u)]) (nt : PySem.W.noTabs K = true)
    (C3 : DefC K mg "_is_text" Rv.s_is_text ["thing", "shortest", "longest"] c3) (t3 : PySem.W.CodeHd h c3 T3 ∧ h.get? T3 = some { cls := .none, data := .fields #[] })
    (g_KINDS : mg "KINDS" = some (.ref aKi)) (g_WRONG_KINDS : mg "WRONG_KINDS" = some (.ref aWr)) (g_ACTIONS : mg "ACTIONS" = some (.ref aAct)) (g__negated : mg "_negated" = some (.ref a0)) (g__size : mg "_size" = some (.ref a1)) (g__reversed_map : mg "_reversed_map" = some (.ref a2)) (g__sum_of : mg "_sum_of" = some (.ref a3)) (g__difference : mg "_difference" = some (.ref a4)) (g__is_less : mg "_is_less" = some (.ref a5)) (g__is_same : mg "_is_same" = some (.ref a6)) (g__joined : mg "_joined" = some (.ref a7)) (g__has : mg "_has" = some (.ref a8)) (g__scalar_at : mg "_scalar_at" = some (.ref a9)) (g__without : mg "_without" = some (.ref a10)) (g__first_entries : mg "_first_entries" = some (.ref a11)) (g__with_entry : mg "_with_entry" = some (.ref a12))
    (hKi : ∀ f ∈ eager, ∃ aK, KDct K w aKi (sx f) (.ref aK) ∧ ∀ H, SqT K H aK ((kindsOf f).map fun k => V.str (Str.ofString k.name))) (hWr : ∀ p ∈ wrongL, KDct K w aWr (Str.ofString p.1) (.str (Str.ofString p.2)))
    (hA : ∀ p ∈ ([("not", a0), ("size", a1), ("reverse", a2), ("add", a3), ("sub", a4), ("lt", a5), ("eq", a6), ("concat", a7), ("has", a8), ("get", a9), ("remove", a10), ("take", a11), ("put", a12)] : List (String × Addr)), KDct K w aAct (sx (cs p.1)) (.ref p.2))
    (D_evaluate : DefAt K mg "evaluate" s_evaluate ["expression", "scope", "provided", "resources"]) (D_wrong_kind : DefAt K mg "wrong_kind" s_wrong_kind ["value", "kind"]) (D__is_of_kind : DefAt K mg "_is_of_kind" s_is_of_kind ["value", "kind"]) (D__value_in : DefAt K mg "_value_in" s_value_in ["scope", "name"]) (D__injected : DefAt K mg "_injected" s_injected ["name", "otherwise", "around"]) (D__called : DefAt K mg "_called" s_called ["function", "arguments", "around"]) (D__applied : DefAt K mg "_applied" s_applied ["function", "values"]) (D__both : DefAt K mg "_both" s_both ["one", "other", "around"]) (D__chosen : DefAt K mg "_chosen" s_chosen ["arguments", "around"]) (D__boolean_of : DefAt K mg "_boolean_of" s_boolean_of ["expression", "around"]) (D__resource : DefAt K mg "_resource" s_resource ["name", "resources"]) (D__boolean : DefAt K mg "_boolean" s_boolean ["truth"]) (D__integer : DefAt K mg "_integer" s_integer ["number"]) (D__map_value : DefAt K mg "_map_value" s_map_value ["entries"]) (D__negated : DefAt K mg "_negated" s_negated ["boolean"]) (D__size : DefAt K mg "_size" s_size ["whole"]) (D__reversed_map : DefAt K mg "_reversed_map" s_reversed_map ["whole"]) (D__sum_of : DefAt K mg "_sum_of" s_sum_of ["one", "other"]) (D__difference : DefAt K mg "_difference" s_difference ["one", "other"]) (D__is_less : DefAt K mg "_is_less" s_is_less ["one", "other"]) (D__is_same : DefAt K mg "_is_same" s_is_same ["one", "other"]) (D__joined : DefAt K mg "_joined" s_joined ["one", "other"]) (D__has : DefAt K mg "_has" s_has ["whole", "key"]) (D__scalar_at : DefAt K mg "_scalar_at" s_scalar_at ["whole", "key"]) (D__without : DefAt K mg "_without" s_without ["whole", "key"]) (D__first_entries : DefAt K mg "_first_entries" s_first_entries ["whole", "number"]) (D__with_entry : DefAt K mg "_with_entry" s_with_entry ["whole", "key", "scalar"]) (D_plain : DefAt K mg "plain" Rv.s_plain ["scalar"]) (D_is_key : DefAt K mg "is_key" Rv.s_is_key ["thing"]) (D_is_character : DefAt K mg "is_character" Rv.s_is_character ["char"])
    (m_isinstance : mg "isinstance" = none) (m_str : mg "str" = none) (m_len : mg "len" = none) (m_all : mg "all" = none) (m_ord : mg "ord" = none) (m_tuple : mg "tuple" = none) (m_list : mg "list" = none) (m_dict : mg "dict" = none) (m_zip : mg "zip" = none) (g_PERCENT : ∃ t, mg "PERCENT" = some (.int 37 t)) (g_KEY_LENGTH : ∃ t, mg "KEY_LENGTH" = some (.int 12 t)) (g_TEXT_LENGTH : ∃ t, mg "TEXT_LENGTH" = some (.int 40 t)) (g_MAP_SIZE : ∃ t, mg "MAP_SIZE" = some (.int 8 t)) (g_GREATEST_INTEGER : ∃ t, mg "GREATEST_INTEGER" = some (.int 999999 t))
    (D__law_cell : DefAt K mg "_law_cell" Rd.s_law_cell ["script", "k"]) (D__law_digits : DefAt K mg "_law_digits" Rd.s_law_digits ["script", "first", "last"]) (D__law_draw : DefAt K mg "_law_draw" Rv.s_law_draw ["box", "many"]) (D__law_chars : DefAt K mg "_law_chars" Rv.s_law_chars []) (D__law_string : DefAt K mg "_law_string" Rv.s_law_string ["box", "most"]) (D__law_scalar : DefAt K mg "_law_scalar" Rv.s_law_scalar ["box"]) (D__law_map : DefAt K mg "_law_map" Rv.s_law_map ["box"]) (D__law_value : DefAt K mg "_law_value" Rv.s_law_value ["box"]) (D__law_functions : DefAt K mg "_law_functions" s_law_functions []) (D__law_leaf : DefAt K mg "_law_leaf" s_law_leaf ["box", "names", "kind"]) (D__law_expression : DefAt K mg "_law_expression" s_law_expression ["box", "names", "kind", "depth", "left"]) (D__law_plain : DefAt K mg "_law_plain" s_law_plain ["scalar"]) (D__law_wrong_kind : DefAt K mg "_law_wrong_kind" s_law_wrong_kind ["value", "kind"]) (D__law_numbers : DefAt K mg "_law_numbers" s_law_numbers ["name", "i", "j"]) (D__law_maps : DefAt K mg "_law_maps" s_law_maps ["name", "rows"]) (D__law_called : DefAt K mg "_law_called" s_law_called ["name", "rows"]) (D__law_special : DefAt K mg "_law_special" s_law_special ["tree", "scope", "provided", "resources"]) (D__law_evaluate : DefAt K mg "_law_evaluate" s_law_evaluate ["tree", "scope", "provided", "resources"]) (D__law_same : DefAt K mg "_law_same" Rv.s_law_same ["actual", "due"]) (m_int : mg "int" = none) (m_range : mg "range" = none) (m_repr : mg "repr" = none) :
    LawG l w K CX0 29 63 "script" mg fa h := by
  refine ⟨fd, [(c3, T3)], spLaw K [T3], fun p hp => ?_, fun p hp => ?_, fun p hp => ?_, bl, fun H a ns hlen hbits hH hS => ⟨a, ns, rfl, hS, fun T hm => ?_, fun _ => rfl⟩, fun base kin hns hB => ?_⟩
  · rw [List.mem_singleton.mp hp]; exact t3.2
  · rw [List.mem_singleton.mp hp]; exact no_tabs X nt t3.2
  · rw [List.mem_singleton.mp hp]; exact t3.1
  · have : H T = some (.tbl #[]) := by rw [List.mem_singleton.mp hm]; exact hH (c3, T3) (by simp)
    exact ⟨#[], this, trivial⟩
  · have B3 := C3.tab (hB (c3, T3) (by simp))
    have c_is_character := Rv.c_is_character (P := l.prog) (w := w) (base := base) D_is_character g_PERCENT m_ord
    have c_is_text := Rv.c_is_text (P := l.prog) (w := w) B3 m_isinstance m_str m_len m_all c_is_character
    have ce := ev_all (P := l.prog) (w := w) (base := base) (ts := [T3]) D_evaluate D_wrong_kind D__is_of_kind D__value_in D__injected D__called D__applied D__both D__chosen D__boolean_of D__resource D__boolean D__integer D__map_value D__negated D__size D__reversed_map D__sum_of D__difference D__is_less D__is_same D__joined D__has D__scalar_at D__without D__first_entries D__with_entry D_plain D_is_key D_is_character m_isinstance m_str m_len m_all m_ord m_tuple m_list m_dict m_zip g_PERCENT g_KEY_LENGTH g_TEXT_LENGTH g_MAP_SIZE g_GREATEST_INTEGER g_KINDS g_WRONG_KINDS g_ACTIONS g__negated g__size g__reversed_map g__sum_of g__difference g__is_less g__is_same g__joined g__has g__scalar_at g__without g__first_entries g__with_entry hKi hWr hA c_is_text
    have c_law_cell := Rd.c_law_cell (P := l.prog) (w := w) (base := base) D__law_cell m_len
    have c_law_digits := Rd.c_law_digits (P := l.prog) (w := w) (base := base) D__law_digits m_range m_int c_law_cell
    have c_law_draw := Rv.c_law_draw (P := l.prog) (w := w) (base := base) D__law_draw m_len m_int
    have c_law_chars := Rv.c_law_chars (P := l.prog) (w := w) (base := base) D__law_chars
    have c_law_string := Rv.c_law_string (P := l.prog) (w := w) (base := base) D__law_string m_len m_range c_law_chars c_law_draw
    have c_law_scalar := Rv.c_law_scalar (P := l.prog) (w := w) (K := K) (base := base) D__law_scalar c_law_draw c_law_string
    have c_law_map := Rv.c_law_mapN (P := l.prog) (w := w) (K := K) (base := base) D__law_map m_range m_int m_str m_tuple c_law_draw c_law_scalar
    have c_law_value := Rv.c_law_valueN (P := l.prog) (w := w) (K := K) (base := base) D__law_value c_law_draw c_law_scalar c_law_map
    have c_law_functions := c_law_functions (P := l.prog) (w := w) (base := base) D__law_functions
    have c_law_leaf := c_law_leaf (P := l.prog) (w := w) (base := base) D__law_leaf m_len m_int c_law_draw c_law_scalar c_law_map c_law_value
    have cx := expr_all (P := l.prog) (w := w) (base := base) D__law_expression m_len m_int m_list m_range m_tuple c_law_draw c_law_leaf c_law_functions 5
    have c_law_same := c_law_sameD (P := l.prog) (w := w) (base := base) D__law_same m_repr
    have c_law_plain := c_law_plain (P := l.prog) (w := w) (K := K) (base := base) D__law_plain m_str m_int
    have c_law_wrong_kind := c_law_wrong_kind (P := l.prog) (w := w) (K := K) (base := base) D__law_wrong_kind m_len
    have c_law_numbers := c_law_numbers (P := l.prog) (w := w) (K := K) (base := base) D__law_numbers
    have c_law_maps := c_law_maps (P := l.prog) (w := w) (K := K) (base := base) D__law_maps m_list m_len m_tuple m_range
    have c_law_called := c_law_called (P := l.prog) (w := w) (K := K) (base := base) D__law_called m_repr m_len c_law_plain c_law_numbers c_law_maps
    have cl := lev_all (P := l.prog) (w := w) (K := K) (base := base) (ts := [T3]) D__law_evaluate D__law_special m_dict m_len m_range m_int c_law_functions c_law_wrong_kind c_law_called 5
    exact ok_law (k := 28) (by decide) Fl m_range m_repr c_law_digits c_law_draw cx c_law_value cl ce c_law_same
end Rw

open PySem PySem.W PyProof.Rows
set_option maxHeartbeats 0 in
theorem PySem.Challenge.cw_remoteviews_k04_evaluation_exact_holds : PySem.Challenge.rw_remoteviews_k04_evaluation_exact.Holds := by
  w_on; o_law; k_head; (case hw => w_witness2)
  k_fill
  refine Gd.walk_G2 (l := PySem.Challenge.rw_remoteviews_k04_evaluation_exact) (n := 63) (k := 29) (x := "script") (CX := fun _ => L2.CX0) rfl (by decide) rfl ⟨⟨rfl, by decide, by decide⟩, rfl⟩ (fun w h Y => PySem.W.kIn_of Y) ?F (fun _ _ _ _ _ h => h)
  case F =>
    intro w mg fa h Y KX G hmg tabs
    have C__is_text := by
      refine' Gd.def_c (x := "_is_text") (st := Rv.s_is_text) (ps := ["thing", "shortest", "longest"]) KX G ?a ?l ?c ?k ?l1 ?hv ?b
      (case a => k_is); (case l => k_is); (case c => k_is); (case k => k_is); (case l1 => k_is); (case hv => rfl); (case b => exact fun _ _ _ _ _ _ us hl => match us, hl with | [_, _, _], _ => rfl)
    obtain ⟨C1, x1⟩ := C__is_text
    have t1 := tabs "_is_text" _ _ _ (by rfl) x1
    have D_evaluate := by
      refine' Gd.def_k (x := "evaluate") (st := Rw.s_evaluate) (ps := ["expression", "scope", "provided", "resources"]) KX G ?a ?l ?c ?k ?b
      (case a => k_is); (case l => k_is); (case c => k_is); (case k => k_is); (case b => exact fun _ _ _ _ _ _ us hl => match us, hl with | [_, _, _, _], _ => rfl)
    have D_wrong_kind := by
      refine' Gd.def_k (x := "wrong_kind") (st := Rw.s_wrong_kind) (ps := ["value", "kind"]) KX G ?a ?l ?c ?k ?b
      (case a => k_is); (case l => k_is); (case c => k_is); (case k => k_is); (case b => exact fun _ _ _ _ _ _ us hl => match us, hl with | [_, _], _ => rfl)
    have D__is_of_kind := by
      refine' Gd.def_k (x := "_is_of_kind") (st := Rw.s_is_of_kind) (ps := ["value", "kind"]) KX G ?a ?l ?c ?k ?b
      (case a => k_is); (case l => k_is); (case c => k_is); (case k => k_is); (case b => exact fun _ _ _ _ _ _ us hl => match us, hl with | [_, _], _ => rfl)
    have D__value_in := by
      refine' Gd.def_k (x := "_value_in") (st := Rw.s_value_in) (ps := ["scope", "name"]) KX G ?a ?l ?c ?k ?b
      (case a => k_is); (case l => k_is); (case c => k_is); (case k => k_is); (case b => exact fun _ _ _ _ _ _ us hl => match us, hl with | [_, _], _ => rfl)
    have D__injected := by
      refine' Gd.def_k (x := "_injected") (st := Rw.s_injected) (ps := ["name", "otherwise", "around"]) KX G ?a ?l ?c ?k ?b
      (case a => k_is); (case l => k_is); (case c => k_is); (case k => k_is); (case b => exact fun _ _ _ _ _ _ us hl => match us, hl with | [_, _, _], _ => rfl)
    have D__called := by
      refine' Gd.def_k (x := "_called") (st := Rw.s_called) (ps := ["function", "arguments", "around"]) KX G ?a ?l ?c ?k ?b
      (case a => k_is); (case l => k_is); (case c => k_is); (case k => k_is); (case b => exact fun _ _ _ _ _ _ us hl => match us, hl with | [_, _, _], _ => rfl)
    have D__applied := by
      refine' Gd.def_k (x := "_applied") (st := Rw.s_applied) (ps := ["function", "values"]) KX G ?a ?l ?c ?k ?b
      (case a => k_is); (case l => k_is); (case c => k_is); (case k => k_is); (case b => exact fun _ _ _ _ _ _ us hl => match us, hl with | [_, _], _ => rfl)
    have D__both := by
      refine' Gd.def_k (x := "_both") (st := Rw.s_both) (ps := ["one", "other", "around"]) KX G ?a ?l ?c ?k ?b
      (case a => k_is); (case l => k_is); (case c => k_is); (case k => k_is); (case b => exact fun _ _ _ _ _ _ us hl => match us, hl with | [_, _, _], _ => rfl)
    have D__chosen := by
      refine' Gd.def_k (x := "_chosen") (st := Rw.s_chosen) (ps := ["arguments", "around"]) KX G ?a ?l ?c ?k ?b
      (case a => k_is); (case l => k_is); (case c => k_is); (case k => k_is); (case b => exact fun _ _ _ _ _ _ us hl => match us, hl with | [_, _], _ => rfl)
    have D__boolean_of := by
      refine' Gd.def_k (x := "_boolean_of") (st := Rw.s_boolean_of) (ps := ["expression", "around"]) KX G ?a ?l ?c ?k ?b
      (case a => k_is); (case l => k_is); (case c => k_is); (case k => k_is); (case b => exact fun _ _ _ _ _ _ us hl => match us, hl with | [_, _], _ => rfl)
    have D__resource := by
      refine' Gd.def_k (x := "_resource") (st := Rw.s_resource) (ps := ["name", "resources"]) KX G ?a ?l ?c ?k ?b
      (case a => k_is); (case l => k_is); (case c => k_is); (case k => k_is); (case b => exact fun _ _ _ _ _ _ us hl => match us, hl with | [_, _], _ => rfl)
    have D__boolean := by
      refine' Gd.def_k (x := "_boolean") (st := Rw.s_boolean) (ps := ["truth"]) KX G ?a ?l ?c ?k ?b
      (case a => k_is); (case l => k_is); (case c => k_is); (case k => k_is); (case b => exact fun _ _ _ _ _ _ us hl => match us, hl with | [_], _ => rfl)
    have D__integer := by
      refine' Gd.def_k (x := "_integer") (st := Rw.s_integer) (ps := ["number"]) KX G ?a ?l ?c ?k ?b
      (case a => k_is); (case l => k_is); (case c => k_is); (case k => k_is); (case b => exact fun _ _ _ _ _ _ us hl => match us, hl with | [_], _ => rfl)
    have D__map_value := by
      refine' Gd.def_k (x := "_map_value") (st := Rw.s_map_value) (ps := ["entries"]) KX G ?a ?l ?c ?k ?b
      (case a => k_is); (case l => k_is); (case c => k_is); (case k => k_is); (case b => exact fun _ _ _ _ _ _ us hl => match us, hl with | [_], _ => rfl)
    have D__negated := by
      refine' Gd.def_k (x := "_negated") (st := Rw.s_negated) (ps := ["boolean"]) KX G ?a ?l ?c ?k ?b
      (case a => k_is); (case l => k_is); (case c => k_is); (case k => k_is); (case b => exact fun _ _ _ _ _ _ us hl => match us, hl with | [_], _ => rfl)
    have D__size := by
      refine' Gd.def_k (x := "_size") (st := Rw.s_size) (ps := ["whole"]) KX G ?a ?l ?c ?k ?b
      (case a => k_is); (case l => k_is); (case c => k_is); (case k => k_is); (case b => exact fun _ _ _ _ _ _ us hl => match us, hl with | [_], _ => rfl)
    have D__reversed_map := by
      refine' Gd.def_k (x := "_reversed_map") (st := Rw.s_reversed_map) (ps := ["whole"]) KX G ?a ?l ?c ?k ?b
      (case a => k_is); (case l => k_is); (case c => k_is); (case k => k_is); (case b => exact fun _ _ _ _ _ _ us hl => match us, hl with | [_], _ => rfl)
    have D__sum_of := by
      refine' Gd.def_k (x := "_sum_of") (st := Rw.s_sum_of) (ps := ["one", "other"]) KX G ?a ?l ?c ?k ?b
      (case a => k_is); (case l => k_is); (case c => k_is); (case k => k_is); (case b => exact fun _ _ _ _ _ _ us hl => match us, hl with | [_, _], _ => rfl)
    have D__difference := by
      refine' Gd.def_k (x := "_difference") (st := Rw.s_difference) (ps := ["one", "other"]) KX G ?a ?l ?c ?k ?b
      (case a => k_is); (case l => k_is); (case c => k_is); (case k => k_is); (case b => exact fun _ _ _ _ _ _ us hl => match us, hl with | [_, _], _ => rfl)
    have D__is_less := by
      refine' Gd.def_k (x := "_is_less") (st := Rw.s_is_less) (ps := ["one", "other"]) KX G ?a ?l ?c ?k ?b
      (case a => k_is); (case l => k_is); (case c => k_is); (case k => k_is); (case b => exact fun _ _ _ _ _ _ us hl => match us, hl with | [_, _], _ => rfl)
    have D__is_same := by
      refine' Gd.def_k (x := "_is_same") (st := Rw.s_is_same) (ps := ["one", "other"]) KX G ?a ?l ?c ?k ?b
      (case a => k_is); (case l => k_is); (case c => k_is); (case k => k_is); (case b => exact fun _ _ _ _ _ _ us hl => match us, hl with | [_, _], _ => rfl)
    have D__joined := by
      refine' Gd.def_k (x := "_joined") (st := Rw.s_joined) (ps := ["one", "other"]) KX G ?a ?l ?c ?k ?b
      (case a => k_is); (case l => k_is); (case c => k_is); (case k => k_is); (case b => exact fun _ _ _ _ _ _ us hl => match us, hl with | [_, _], _ => rfl)
    have D__has := by
      refine' Gd.def_k (x := "_has") (st := Rw.s_has) (ps := ["whole", "key"]) KX G ?a ?l ?c ?k ?b
      (case a => k_is); (case l => k_is); (case c => k_is); (case k => k_is); (case b => exact fun _ _ _ _ _ _ us hl => match us, hl with | [_, _], _ => rfl)
    have D__scalar_at := by
      refine' Gd.def_k (x := "_scalar_at") (st := Rw.s_scalar_at) (ps := ["whole", "key"]) KX G ?a ?l ?c ?k ?b
      (case a => k_is); (case l => k_is); (case c => k_is); (case k => k_is); (case b => exact fun _ _ _ _ _ _ us hl => match us, hl with | [_, _], _ => rfl)
    have D__without := by
      refine' Gd.def_k (x := "_without") (st := Rw.s_without) (ps := ["whole", "key"]) KX G ?a ?l ?c ?k ?b
      (case a => k_is); (case l => k_is); (case c => k_is); (case k => k_is); (case b => exact fun _ _ _ _ _ _ us hl => match us, hl with | [_, _], _ => rfl)
    have D__first_entries := by
      refine' Gd.def_k (x := "_first_entries") (st := Rw.s_first_entries) (ps := ["whole", "number"]) KX G ?a ?l ?c ?k ?b
      (case a => k_is); (case l => k_is); (case c => k_is); (case k => k_is); (case b => exact fun _ _ _ _ _ _ us hl => match us, hl with | [_, _], _ => rfl)
    have D__with_entry := by
      refine' Gd.def_k (x := "_with_entry") (st := Rw.s_with_entry) (ps := ["whole", "key", "scalar"]) KX G ?a ?l ?c ?k ?b
      (case a => k_is); (case l => k_is); (case c => k_is); (case k => k_is); (case b => exact fun _ _ _ _ _ _ us hl => match us, hl with | [_, _, _], _ => rfl)
    have D_plain := by
      refine' Gd.def_k (x := "plain") (st := Rv.s_plain) (ps := ["scalar"]) KX G ?a ?l ?c ?k ?b
      (case a => k_is); (case l => k_is); (case c => k_is); (case k => k_is); (case b => exact fun _ _ _ _ _ _ us hl => match us, hl with | [_], _ => rfl)
    have D_is_key := by
      refine' Gd.def_k (x := "is_key") (st := Rv.s_is_key) (ps := ["thing"]) KX G ?a ?l ?c ?k ?b
      (case a => k_is); (case l => k_is); (case c => k_is); (case k => k_is); (case b => exact fun _ _ _ _ _ _ us hl => match us, hl with | [_], _ => rfl)
    have D_is_character := by
      refine' Gd.def_k (x := "is_character") (st := Rv.s_is_character) (ps := ["char"]) KX G ?a ?l ?c ?k ?b
      (case a => k_is); (case l => k_is); (case c => k_is); (case k => k_is); (case b => exact fun _ _ _ _ _ _ us hl => match us, hl with | [_], _ => rfl)
    have m_isinstance := by
      refine' PySem.W.mg_none_of (n := "isinstance") KX G ?a
      (case a => k_is)
    have m_str := by
      refine' PySem.W.mg_none_of (n := "str") KX G ?a
      (case a => k_is)
    have m_len := by
      refine' PySem.W.mg_none_of (n := "len") KX G ?a
      (case a => k_is)
    have m_all := by
      refine' PySem.W.mg_none_of (n := "all") KX G ?a
      (case a => k_is)
    have m_ord := by
      refine' PySem.W.mg_none_of (n := "ord") KX G ?a
      (case a => k_is)
    have m_tuple := by
      refine' PySem.W.mg_none_of (n := "tuple") KX G ?a
      (case a => k_is)
    have m_list := by
      refine' PySem.W.mg_none_of (n := "list") KX G ?a
      (case a => k_is)
    have m_dict := by
      refine' PySem.W.mg_none_of (n := "dict") KX G ?a
      (case a => k_is)
    have m_zip := by
      refine' PySem.W.mg_none_of (n := "zip") KX G ?a
      (case a => k_is)
    have g_PERCENT := by
      refine' Gd.glob_k (x := "PERCENT") KX G ?a
      (case a => k_is)
    have g_KEY_LENGTH := by
      refine' Gd.glob_k (x := "KEY_LENGTH") KX G ?a
      (case a => k_is)
    have g_TEXT_LENGTH := by
      refine' Gd.glob_k (x := "TEXT_LENGTH") KX G ?a
      (case a => k_is)
    have g_MAP_SIZE := by
      refine' Gd.glob_k (x := "MAP_SIZE") KX G ?a
      (case a => k_is)
    have g_GREATEST_INTEGER := by
      refine' Gd.glob_k (x := "GREATEST_INTEGER") KX G ?a
      (case a => k_is)
    have D__law_cell := by
      refine' Gd.def_k (x := "_law_cell") (st := Rd.s_law_cell) (ps := ["script", "k"]) KX G ?a ?l ?c ?k ?b
      (case a => k_is); (case l => k_is); (case c => k_is); (case k => k_is); (case b => exact fun _ _ _ _ _ _ us hl => match us, hl with | [_, _], _ => rfl)
    have D__law_digits := by
      refine' Gd.def_k (x := "_law_digits") (st := Rd.s_law_digits) (ps := ["script", "first", "last"]) KX G ?a ?l ?c ?k ?b
      (case a => k_is); (case l => k_is); (case c => k_is); (case k => k_is); (case b => exact fun _ _ _ _ _ _ us hl => match us, hl with | [_, _, _], _ => rfl)
    have D__law_draw := by
      refine' Gd.def_k (x := "_law_draw") (st := Rv.s_law_draw) (ps := ["box", "many"]) KX G ?a ?l ?c ?k ?b
      (case a => k_is); (case l => k_is); (case c => k_is); (case k => k_is); (case b => exact fun _ _ _ _ _ _ us hl => match us, hl with | [_, _], _ => rfl)
    have D__law_chars := by
      refine' Gd.def_k (x := "_law_chars") (st := Rv.s_law_chars) (ps := []) KX G ?a ?l ?c ?k ?b
      (case a => k_is); (case l => k_is); (case c => k_is); (case k => k_is); (case b => exact fun _ _ _ _ _ _ us hl => match us, hl with | [], _ => rfl)
    have D__law_string := by
      refine' Gd.def_k (x := "_law_string") (st := Rv.s_law_string) (ps := ["box", "most"]) KX G ?a ?l ?c ?k ?b
      (case a => k_is); (case l => k_is); (case c => k_is); (case k => k_is); (case b => exact fun _ _ _ _ _ _ us hl => match us, hl with | [_, _], _ => rfl)
    have D__law_scalar := by
      refine' Gd.def_k (x := "_law_scalar") (st := Rv.s_law_scalar) (ps := ["box"]) KX G ?a ?l ?c ?k ?b
      (case a => k_is); (case l => k_is); (case c => k_is); (case k => k_is); (case b => exact fun _ _ _ _ _ _ us hl => match us, hl with | [_], _ => rfl)
    have D__law_map := by
      refine' Gd.def_k (x := "_law_map") (st := Rv.s_law_map) (ps := ["box"]) KX G ?a ?l ?c ?k ?b
      (case a => k_is); (case l => k_is); (case c => k_is); (case k => k_is); (case b => exact fun _ _ _ _ _ _ us hl => match us, hl with | [_], _ => rfl)
    have D__law_value := by
      refine' Gd.def_k (x := "_law_value") (st := Rv.s_law_value) (ps := ["box"]) KX G ?a ?l ?c ?k ?b
      (case a => k_is); (case l => k_is); (case c => k_is); (case k => k_is); (case b => exact fun _ _ _ _ _ _ us hl => match us, hl with | [_], _ => rfl)
    have D__law_functions := by
      refine' Gd.def_k (x := "_law_functions") (st := Rw.s_law_functions) (ps := []) KX G ?a ?l ?c ?k ?b
      (case a => k_is); (case l => k_is); (case c => k_is); (case k => k_is); (case b => exact fun _ _ _ _ _ _ us hl => match us, hl with | [], _ => rfl)
    have D__law_leaf := by
      refine' Gd.def_k (x := "_law_leaf") (st := Rw.s_law_leaf) (ps := ["box", "names", "kind"]) KX G ?a ?l ?c ?k ?b
      (case a => k_is); (case l => k_is); (case c => k_is); (case k => k_is); (case b => exact fun _ _ _ _ _ _ us hl => match us, hl with | [_, _, _], _ => rfl)
    have D__law_expression := by
      refine' Gd.def_k (x := "_law_expression") (st := Rw.s_law_expression) (ps := ["box", "names", "kind", "depth", "left"]) KX G ?a ?l ?c ?k ?b
      (case a => k_is); (case l => k_is); (case c => k_is); (case k => k_is); (case b => exact fun _ _ _ _ _ _ us hl => match us, hl with | [_, _, _, _, _], _ => rfl)
    have D__law_plain := by
      refine' Gd.def_k (x := "_law_plain") (st := Rw.s_law_plain) (ps := ["scalar"]) KX G ?a ?l ?c ?k ?b
      (case a => k_is); (case l => k_is); (case c => k_is); (case k => k_is); (case b => exact fun _ _ _ _ _ _ us hl => match us, hl with | [_], _ => rfl)
    have D__law_wrong_kind := by
      refine' Gd.def_k (x := "_law_wrong_kind") (st := Rw.s_law_wrong_kind) (ps := ["value", "kind"]) KX G ?a ?l ?c ?k ?b
      (case a => k_is); (case l => k_is); (case c => k_is); (case k => k_is); (case b => exact fun _ _ _ _ _ _ us hl => match us, hl with | [_, _], _ => rfl)
    have D__law_numbers := by
      refine' Gd.def_k (x := "_law_numbers") (st := Rw.s_law_numbers) (ps := ["name", "i", "j"]) KX G ?a ?l ?c ?k ?b
      (case a => k_is); (case l => k_is); (case c => k_is); (case k => k_is); (case b => exact fun _ _ _ _ _ _ us hl => match us, hl with | [_, _, _], _ => rfl)
    have D__law_maps := by
      refine' Gd.def_k (x := "_law_maps") (st := Rw.s_law_maps) (ps := ["name", "rows"]) KX G ?a ?l ?c ?k ?b
      (case a => k_is); (case l => k_is); (case c => k_is); (case k => k_is); (case b => exact fun _ _ _ _ _ _ us hl => match us, hl with | [_, _], _ => rfl)
    have D__law_called := by
      refine' Gd.def_k (x := "_law_called") (st := Rw.s_law_called) (ps := ["name", "rows"]) KX G ?a ?l ?c ?k ?b
      (case a => k_is); (case l => k_is); (case c => k_is); (case k => k_is); (case b => exact fun _ _ _ _ _ _ us hl => match us, hl with | [_, _], _ => rfl)
    have D__law_special := by
      refine' Gd.def_k (x := "_law_special") (st := Rw.s_law_special) (ps := ["tree", "scope", "provided", "resources"]) KX G ?a ?l ?c ?k ?b
      (case a => k_is); (case l => k_is); (case c => k_is); (case k => k_is); (case b => exact fun _ _ _ _ _ _ us hl => match us, hl with | [_, _, _, _], _ => rfl)
    have D__law_evaluate := by
      refine' Gd.def_k (x := "_law_evaluate") (st := Rw.s_law_evaluate) (ps := ["tree", "scope", "provided", "resources"]) KX G ?a ?l ?c ?k ?b
      (case a => k_is); (case l => k_is); (case c => k_is); (case k => k_is); (case b => exact fun _ _ _ _ _ _ us hl => match us, hl with | [_, _, _, _], _ => rfl)
    have D__law_same := by
      refine' Gd.def_k (x := "_law_same") (st := Rv.s_law_same) (ps := ["actual", "due"]) KX G ?a ?l ?c ?k ?b
      (case a => k_is); (case l => k_is); (case c => k_is); (case k => k_is); (case b => exact fun _ _ _ _ _ _ us hl => match us, hl with | [_, _], _ => rfl)
    have m_int := by
      refine' PySem.W.mg_none_of (n := "int") KX G ?a
      (case a => k_is)
    have m_range := by
      refine' PySem.W.mg_none_of (n := "range") KX G ?a
      (case a => k_is)
    have m_repr := by
      refine' PySem.W.mg_none_of (n := "repr") KX G ?a
      (case a => k_is)
    have g_KINDS := by
      refine' PySem.W.mg_of (n := "KINDS") KX G ?a
      (case a => k_is)
    have g_WRONG_KINDS := by
      refine' PySem.W.mg_of (n := "WRONG_KINDS") KX G ?a
      (case a => k_is)
    have g_ACTIONS := by
      refine' PySem.W.mg_of (n := "ACTIONS") KX G ?a
      (case a => k_is)
    have g__negated := by
      refine' PySem.W.mg_of (n := "_negated") KX G ?a
      (case a => k_is)
    have g__size := by
      refine' PySem.W.mg_of (n := "_size") KX G ?a
      (case a => k_is)
    have g__reversed_map := by
      refine' PySem.W.mg_of (n := "_reversed_map") KX G ?a
      (case a => k_is)
    have g__sum_of := by
      refine' PySem.W.mg_of (n := "_sum_of") KX G ?a
      (case a => k_is)
    have g__difference := by
      refine' PySem.W.mg_of (n := "_difference") KX G ?a
      (case a => k_is)
    have g__is_less := by
      refine' PySem.W.mg_of (n := "_is_less") KX G ?a
      (case a => k_is)
    have g__is_same := by
      refine' PySem.W.mg_of (n := "_is_same") KX G ?a
      (case a => k_is)
    have g__joined := by
      refine' PySem.W.mg_of (n := "_joined") KX G ?a
      (case a => k_is)
    have g__has := by
      refine' PySem.W.mg_of (n := "_has") KX G ?a
      (case a => k_is)
    have g__scalar_at := by
      refine' PySem.W.mg_of (n := "_scalar_at") KX G ?a
      (case a => k_is)
    have g__without := by
      refine' PySem.W.mg_of (n := "_without") KX G ?a
      (case a => k_is)
    have g__first_entries := by
      refine' PySem.W.mg_of (n := "_first_entries") KX G ?a
      (case a => k_is)
    have g__with_entry := by
      refine' PySem.W.mg_of (n := "_with_entry") KX G ?a
      (case a => k_is)
    have L := by
      refine' Gd.law_k (x := "law") (st := Rw.s_law) (p1 := "script") KX G hmg ?a ?l ?c ?k ?b
      (case a => k_is); (case l => k_is); (case c => k_is); (case k => k_is); (case b => exact fun _ _ _ _ _ _ s u => .of_eq rfl)
    obtain ⟨fd, Fl, bl⟩ := L
    refine' Rw.law_fin KX Fl bl ?nt C1 t1 g_KINDS g_WRONG_KINDS g_ACTIONS g__negated g__size g__reversed_map g__sum_of g__difference g__is_less g__is_same g__joined g__has g__scalar_at g__without g__first_entries g__with_entry ?hKi ?hWr ?hA D_evaluate D_wrong_kind D__is_of_kind D__value_in D__injected D__called D__applied D__both D__chosen D__boolean_of D__resource D__boolean D__integer D__map_value D__negated D__size D__reversed_map D__sum_of D__difference D__is_less D__is_same D__joined D__has D__scalar_at D__without D__first_entries D__with_entry D_plain D_is_key D_is_character m_isinstance m_str m_len m_all m_ord m_tuple m_list m_dict m_zip g_PERCENT g_KEY_LENGTH g_TEXT_LENGTH g_MAP_SIZE g_GREATEST_INTEGER D__law_cell D__law_digits D__law_draw D__law_chars D__law_string D__law_scalar D__law_map D__law_value D__law_functions D__law_leaf D__law_expression D__law_plain D__law_wrong_kind D__law_numbers D__law_maps D__law_called D__law_special D__law_evaluate D__law_same m_int m_range m_repr
    case nt => kernel_rfl
    case hKi =>
      refine' Rw.kinds_kd ?lK ?kK ?bK
      (case lK => k_is); (case kK => repeat' first | exact trivial | exact ⟨_, _, rfl, rfl⟩ | constructor); (case bK => kernel_rfl)
    case hWr =>
      refine' Rw.strs_kd ?lW ?kW ?bW
      (case lW => k_is); (case kW => repeat' first | exact trivial | exact ⟨_, _, rfl, rfl⟩ | constructor); (case bW => kernel_rfl)
    case hA =>
      refine' Rw.refs_kd ?lA ?kA ?bA
      (case lA => k_is); (case kA => repeat' first | exact trivial | exact ⟨_, _, rfl, rfl⟩ | constructor); (case bA => kernel_rfl)
