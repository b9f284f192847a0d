import PyProof.Rows.All
import Wide.All
import OpenK.AllK
import Wide.FinOn
import HandS.GenList
import HandS.AnyAll
import HandS.ForMost
import HandS.EndOwn
import HandS.ExcOwn
import HandS.IsInst
import PyProof.ReprRoads
import HandS.Walk
import HandS.Dict
import HandS.TupAny
import HandS.Style
import KE.KDictPairs
import KE.GoesMore
import HandS.Iter
import KE.KRevSl
import PyProof.Draws
import PyProof.EnumMake
import PyProof.EqKinds
import HandS.More
import PyProof.Rows.IntBool
import PyProof.CallStr
import PyProof.IsRules
import PyProof.ReprLen
import PyProof.FitsInt
import PyProof.StrLawsRepr
import HandS.FStrTup
import PyProof.Rows.RegReprOcc
import PyProof.NeKinds
import HandS.Rev
import HandS.StrMore
import HandS.Wide
import HandS.Replace
import HandS.Codes
import HandS.IterVal
import HandS.FStr
import HandS.ForExc
import KE.KExcSuper
import HandS.Base
import HandS.Call
import HandS.Exc
import HandS.ExcInit
import HandS.ExcSuper
import HandS.Nested
import HandS.ExcIs
import HandS.Flow
import KE.KExcIs
import KE.KIsAll
import HandS.ExcField
import HandS.HotCalls
import HandS.RaiseMore
import HandS.TryOnly
import HandS.TupLe
import KE.RegKSuper
import PySem.Challenge.RW_kindalone_k08_refusals_made
set_option Elab.async false
set_option linter.all false
set_option maxRecDepth 100000
set_option maxHeartbeats 4000000
/-! all(..) of a generator expression whose element may call defs -/
namespace Kg
open PySem PySem.Spec PyProof.Rows L2 GenW GxR
open Sem (wp)
theorem over_startC {A : Around} {elt t it : Expr} {ifs : List Expr} {scope : Scope} {pos : Pos} {iv acc : Value} {env : Env} : A.over (.compStart (.GeneratorExp elt [⟨t, it, ifs, 0⟩] scope pos) 0 iv acc env) [] = A.deeper env := by
  first
    | rfl
    | (obtain ⟨hd, d, fr, gs, u⟩ := A; simp [Around.over, Around.deeper, marksOver, frameCount, unitsOf, envsOf, guardsOf, pushEnvs, pushGuards, Code.envs, Code.env?, Code.isFrame, Code.guards, Code.isGuard, Code.weight, Code.frames, Code.isCreation, Code.isCaller, Code.cUnits])
theorem over_loopC {A : Around} {elt t it : Expr} {ifs : List Expr} {scope : Scope} {pos : Pos} {iv acc : Value} {env : Env} : A.over (.compLoop (.GeneratorExp elt [⟨t, it, ifs, 0⟩] scope pos) 0 iv acc env) [] = A.deeper env := by
  first
    | rfl
    | (obtain ⟨hd, d, fr, gs, u⟩ := A; simp [Around.over, Around.deeper, marksOver, frameCount, unitsOf, envsOf, guardsOf, pushEnvs, pushGuards, Code.envs, Code.env?, Code.isFrame, Code.guards, Code.isGuard, Code.weight, Code.frames, Code.isCreation, Code.isCaller, Code.cUnits])
/-- the scope of a generator expression within a def: its own names, those that it captures (with their places in N) -/
structure GxS (N : List Str) (sc scope : Scope) (own : List Str) (caps : List (Str × Nat)) : Prop where
  kind : scope.kind = .function
  co : scope.isCoroutine = false
  cell : ∀ y ∈ scope.names, y.2 ≠ .cell
  dot : scope.names.lookup (".0" : Str) = some NameKind.local
  nd : (own ++ caps.map (·.1)).Nodup
  caps : ∀ p ∈ caps, N[p.2]? = some p.1 ∧ scope.names.lookup p.1 = some .free
  free : ∀ y ∈ scope.names, y.2 = .free → sc.names.lookup y.1 = some .cell ∨ sc.names.lookup y.1 = some .free
  uniq : ∀ y ∈ scope.names, scope.names.lookup y.1 = some y.2
abbrev gxN (own : List Str) (caps : List (Str × Nat)) : List Str := own ++ caps.map (·.1)
abbrev gxSt (own : List Str) (caps : List (Str × Nat)) (σ : L2.St) : L2.St := own.map (fun _ => none) ++ caps.map (fun p => (σ[p.2]?).join)
abbrev gxEnv (X : Cx) (scope : Scope) (C : Addr) (code : Value) : Env := genEnv scope (cloFrom X.env.cells scope.names []) C code builtinsNs X.env
/-- the context of its frame -/
abbrev gcx (X : Cx) (A : Around) (N : List Str) (s : Shared) (H : Hp) (cenv : Env) (fp : List Addr) : Cx :=
  { X with A := A.deeper cenv, N := N, s_0 := s, H_0 := H, env := cenv, outer := X.stack, stack := cenv :: X.stack, ex := fp, fn := fun _ => false, calm := true, pn := [], xe := fun _ _ => False }
section
variable {X : Cx} {pins : List (Addr × Obj)} {σ : L2.St} {H : Hp} {s : Shared}
theorem gx_start {A : Around} {scope : Scope} {own : List Str} {caps : List (Str × Nat)} {fp : List Addr} {code : Value} {m0 : Str → Option Value} {s1 : Shared} (I : Inv X pins σ H s) (S : GxS X.N X.env.scope scope own caps) (hh : A.handled = none) (hfr : A.frames = some X.stack)
    (hfp : ∀ b ∈ fp, FpOk X pins H b ∧ b < s.heap.objs.size) (hns : s1.heap.Ns s.heap.objs.size m0) (kp : ∀ b o, s.heap.get? b = some o → s1.heap.get? b = some o) (hos : s1.os = s.os) (hb : AllBare s1.gens) :
    Inv (gcx X A (gxN own caps) s H (gxEnv X scope s.heap.objs.size code) fp) [] (gxSt own caps σ) H s1 := by
  have hfree : ∀ y ∈ scope.names, y.2 = .free → ∃ c, X.env.cells.lookup y.1 = some c := fun y hy e => by
    rcases S.free y hy e with k | k
    · exact I.ok.has _ (.inl k)
    · exact I.ok.has _ (.inr k)
  have cm : ∀ {y c}, (y, c) ∈ cloFrom X.env.cells scope.names [] → X.env.cells.lookup y = some c ∧ c < s.heap.objs.size := fun {y c} hm => by
    rcases cloFrom_mem hm with hm | ⟨h1, rfl⟩
    · cases hm
    · obtain ⟨c, hc⟩ := hfree _ h1 rfl
      rw [hc]
      obtain ⟨w, z⟩ := I.cell _ _ hc
      exact ⟨rfl, z.lt⟩
  have mem : ∀ {y c}, (cloFrom X.env.cells scope.names []).lookup y = some c → X.env.cells.lookup y = some c ∧ c < s.heap.objs.size := fun {y c} e => cm (PySem.mem_of_lookup e)
  have look : ∀ {y}, scope.names.lookup y = some .free → ∃ c, (cloFrom X.env.cells scope.names []).lookup y = some c := fun {y} hl => by
    have hy : (y, NameKind.free) ∈ scope.names := PySem.mem_of_lookup hl
    exact mem_lookup (cloFrom_has (cells := X.env.cells) (acc := []) hy)
  have nfs : ∀ b o, X.base.get? b = some o → b ∉ frs X.stack := fun b o e z => by
    rcases List.mem_cons.mp (I.stkSub b z) with z | z
    · have h1 := Heap.lt_size e
      have h2 := Nat.le_trans I.ok.bsz I.ok.above
      rw [z] at h1
      exact absurd (Nat.lt_of_lt_of_le h1 h2) (Nat.lt_irrefl _)
    · exact I.ok.nofr e z
  have okB : (gcx X A (gxN own caps) s H (gxEnv X scope s.heap.objs.size code) fp).Ok := by
    refine ⟨I.ok.mod, S.kind, I.ok.glob, rfl, Nat.le_refl _, fun y z c e1 e2 => I.ok.inj y z c (mem e1).1 (mem e2).1, fun y hy => ?_, fun y c z e => ?_, fun _ => hh, ?_, .inr ⟨rfl, rfl⟩, fun b hb => ⟨Nat.ne_of_lt (hfp b hb).2, fun y c e z => (hfp b hb).1.2.2.2.2.1 y c (mem e).1 z⟩,
      I.bs, Nat.le_trans I.ok.bsz I.sz, fun b o e hb => ?_, fun b hb z => ?_, I.stack, I.stkFree⟩
    · have hy : scope.names.lookup y = some .cell ∨ scope.names.lookup y = some .free := hy
      rcases hy with hy | hy
      · exact absurd rfl (S.cell _ (PySem.mem_of_lookup hy))
      · exact look hy
    · cases z
    · exact Around.frames_deeper hfr
    · rcases (hfp b hb).1.2.2.2.1 with z | z
      · exact I.ok.noex b o e z
      · exact absurd (Nat.lt_of_lt_of_le (Heap.lt_size e) (Nat.le_trans I.ok.bsz z)) (Nat.lt_irrefl _)
    · rcases List.mem_cons.mp (I.stkSub b z) with z | z
      · exact (hfp b hb).1.2.1 z
      · exact (hfp b hb).1.2.2.1 z
  refine ⟨okB, hos, hb, Un.kept kp, ⟨m0, hns, fun i y av e1 e2 e3 => ?_⟩, fun y c e => ?_, I.hok.fresh (Nat.le_refl _), fun y c e => ?_, fun p hp => ?_, I.hok.kept kp, ?_⟩
  · have e1 : (own ++ caps.map (·.1))[i]? = some y := e1
    have e2 : (own.map (fun _ => (none : Option V)) ++ caps.map (fun p => (σ[p.2]?).join))[i]? = some (some av) := e2
    by_cases hi : i < own.length
    · rw [List.getElem?_append_left (by rw [List.length_map]; exact hi), List.getElem?_map, List.getElem?_eq_getElem hi] at e2
      cases e2
    · rw [List.getElem?_append_right (by rw [List.length_map]; omega), List.length_map, List.getElem?_map] at e2
      rw [List.getElem?_append_right (by omega), List.getElem?_map] at e1
      cases hc : caps[i - own.length]? with
      | none => rw [hc] at e1; cases e1
      | some p =>
        rw [hc] at e1 e2
        have e1 : p.1 = y := Option.some.inj e1
        have e2 : (σ[p.2]?).join = some av := Option.some.inj e2
        obtain ⟨hN, hf⟩ := S.caps p (List.mem_of_getElem? hc)
        have hσ : σ[p.2]? = some (some av) := by
          cases q : σ[p.2]? with
          | none => rw [q] at e2; cases e2
          | some o => rw [q] at e2; exact congrArg some e2
        have hv : X.env.scope.names.lookup p.1 = some .cell ∨ X.env.scope.names.lookup p.1 = some .free := S.free (p.1, .free) (PySem.mem_of_lookup hf) rfl
        obtain ⟨m, hm, hl⟩ := I.loc
        obtain ⟨u, ru, lk⟩ := hl p.2 p.1 av hN hσ (.inr hv)
        subst e1
        refine ⟨u, ru, .inr ⟨.inr hf, ?_⟩⟩
        obtain ⟨c, hc'⟩ := look hf
        refine ⟨c, hc', ?_⟩
        rcases lk with ⟨h1, _⟩ | ⟨_, c2, h2, h3⟩
        · have h1 : X.env.scope.names.lookup p.1 = some .local := h1
          rcases hv with hv | hv
          · rw [hv] at h1; cases h1
          · rw [hv] at h1; cases h1
        · rw [(mem hc').1] at h2
          cases h2
          obtain ⟨o, ho, hd⟩ := h3
          exact ⟨o, kp _ _ ho, hd⟩
  · obtain ⟨v, o, ho, hd⟩ := I.cell y c (mem e).1
    exact ⟨v, o, kp _ _ ho, hd⟩
  · exact I.freeC y c (mem e).1
  · exact absurd (show p ∈ ([] : List (Addr × Obj)) ++ [] from hp) (by simp)
  · show (own.map (fun _ => (none : Option V)) ++ caps.map (fun p => (σ[p.2]?).join)).length = (own ++ caps.map (·.1)).length
    simp
end
/-! the protocol -/
/-- behind the whole: only the table of generators has turned, things may be new -/
def Done (Qf : Value → Shared → Prop) (b : Bool) (s : Shared) : Prop := ∀ s' : Shared, (∀ x o, s.heap.get? x = some o → s'.heap.get? x = some o) → s'.os = s.os → AllBare s'.gens → Qf (.bool b) s'
def GEndA (Qf : Value → Shared → Prop) : Nat → Shared → Shared → Prop := fun _ _ s => AllBare s.gens ∧ Done Qf true s
def GProto (Qf : Value → Shared → Prop) (a : Addr) (g : Nat) : Protocol := fun _ _ v s kap =>
  ∃ b : Bool, v = .bool b ∧ s.heap.IsGen a g ∧ s.heap.NoLimit ∧ AllBare s.gens ∧ (b = true → ∀ s' : Shared, s'.heap = s.heap → s'.os = s.os → AllBare s'.gens → kap (.send .none) s') ∧ (b = false → Done Qf false s)
section
variable {P : Program} {w : World} {A : Around} {Qf : Value → Shared → Prop} {a : Addr} {g : Nat}
/-- all's own loop -/
theorem all_drain (hh : A.handled = none) (hd : A.depth < recursionLimit) : ∀ (n : Nat) (s : Shared), s.heap.IsGen a g → s.heap.NoLimit →
    (∃ gs, s.gens[g]? = some gs ∧ gs.Goes (model P w) A.in1.in1 (fun n s₀ r s₁ => r = .ok .next ∧ GEndA Qf n s₀ s₁) (GProto Qf a g) n (.send .none) (s.setGen g .running)) →
    codeAny (model P w) A (.builtin "all.loop" ⟨[.ref a], []⟩) (fun r s' => ∃ b : Bool, r = .ok (.ret (.bool b)) ∧ Qf (.bool b) s') s := by
  intro n
  induction n with
  | zero =>
    intro s hg hl ⟨gs, hgs, hgo⟩
    refine codeAny_builtin F.entry_all_loop ?_
    rw [Around.under_plainId F.plain_all_loop _]
    show wpAny _ A.in1 (pyNext (.ref a) >>= _) _ _ s
    refine wpAny_bind (wpAny_pyNext_genexpQ (A := A.in1) (P := GEndA Qf) hh hl hd hg hgs hgo (fun v s₁ gs' hbare hv => ?_) (fun s₁ hp h' hk => ?_))
    · obtain ⟨b, rfl, hg1, hl1, hb1, ht, hf⟩ := hv
      cases b with
      | true => exact False.elim (ht rfl s₁ rfl rfl hb1)
      | false =>
        refine wpAny_bind (wpAny_holding (wpAny_truthy_bool ?_))
        refine wpAny_bind (wpAny_letGo ?_)
        simp only [Bool.false_eq_true, if_false]
        refine wpAny_bind (wpAny_rule (wpAny_pure ⟨false, rfl, hf rfl _ (fun x o e => e) rfl (allBare_setGen hb1 hbare)⟩))
    · refine wpAny_bind (wpAny_rule (wpAny_pure ⟨true, rfl, hp.2 _ hk rfl (allBare_setGen hp.1 rfl)⟩))
  | succ n ih =>
    intro s hg hl ⟨gs, hgs, hgo⟩
    have hgl : g < s.gens.size := (Array.getElem?_eq_some_iff.mp hgs).1
    refine codeAny_builtin F.entry_all_loop ?_
    rw [Around.under_plainId F.plain_all_loop _]
    show wpAny _ A.in1 (pyNext (.ref a) >>= _) _ _ s
    refine wpAny_bind (wpAny_gsz (n := g + 1) hgl (wpAny_pyNext_genexpQ (A := A.in1) (P := GEndA Qf) hh hl hd hg hgs hgo (fun v s₁ gs' hbare hv => ?_) (fun s₁ hp h' hk => ?_)))
    · intro hsz
      have hsz1 : g < s₁.gens.size := by
        have q : (s₁.setGen g gs').gens.size = s₁.gens.size := setGen_size _ _ _
        have hsz' : g + 1 ≤ (s₁.setGen g gs').gens.size := hsz
        omega
      obtain ⟨b, rfl, hg1, hl1, hb1, ht, hf⟩ := hv
      refine wpAny_bind (wpAny_holding (wpAny_truthy_bool ?_))
      refine wpAny_bind (wpAny_letGo ?_)
      cases b with
      | true =>
        simp only [if_true]
        refine wpAny_pure ⟨plainId_quiet F.plain_all_loop _, ih _ hg1 hl1 ⟨gs', setGen_at hsz1, ?_⟩⟩
        exact ht rfl _ rfl rfl (allBare_setGen (s := s₁.setGen g gs') (allBare_setGen hb1 hbare) rfl)
      | false =>
        simp only [Bool.false_eq_true, if_false]
        refine wpAny_bind (wpAny_rule (wpAny_pure ⟨false, rfl, hf rfl _ (fun x o e => e) rfl (allBare_setGen hb1 hbare)⟩))
    · intro hsz
      refine wpAny_bind (wpAny_rule (wpAny_pure ⟨true, rfl, hp.2 _ hk rfl (allBare_setGen hp.1 rfl)⟩))
theorem call_all_gen {E : Value → Shared → Prop} {n : Nat} {s : Shared} (hh : A.handled = none) (hd : A.depth < recursionLimit) (hg : s.heap.IsGen a g) (hl : s.heap.NoLimit)
    (hgo : ∃ gs, s.gens[g]? = some gs ∧ gs.Goes (model P w) A.in1.in1 (fun n s₀ r s₁ => r = .ok .next ∧ GEndA Qf n s₀ s₁) (GProto Qf a g) n (.send .none) (s.setGen g .running)) : wpAny (model P w) A (call (.builtin "all") [.ref a]) Qf E s := by
  refine call_function_tree F.kind_all F.plain_all F.entry_all (F.args_all1 _) ?_
  unfold Builtin.«all»
  refine wpAny_bind (m := oneArg "all" _) (wpAny_pure ?_)
  refine wpAny_bind (wpAny_pyIter_gen hg ?_)
  refine wpAny_pure ⟨plainId_quiet F.plain_all_loop _, codeAny_mono (all_drain hh hd n s hg hl hgo) fun r s' h => ?_⟩
  obtain ⟨b, rfl, q⟩ := h
  exact q
end
end Kg

namespace Kg
open PySem PySem.Spec PyProof.Rows L2 GenW GxR
open Sem (wp)
theorem inv_same {G : Cx} {pins : List (Addr × Obj)} {σ : L2.St} {H : Hp} {s s' : Shared} (I : Inv G pins σ H s) (hk : ∀ x o, s.heap.get? x = some o → s'.heap.get? x = some o) (ho : s'.os = s.os) (hb : AllBare s'.gens) : Inv G pins σ H s' :=
  I.call' (ch := []) ho (Un.kept hk) (I.hok.kept hk) hb fun b z => by simp at z
/-- a turn's wish -/
def Turns (J : It) (σ0 : L2.St) (vs : List Nat) (g : TG) (te : TE) (Qe : Bool → Hp → Prop) (W : Nat → Nat → Hp → Prop) : Prop :=
  ∀ i m H, W i m H → (J.stop i H ∧ Qe true H) ∨ (J.go i H ∧ ∃ Nx : Hp → Prop, (∀ H', Nx H' → ∃ m', m' < m ∧ W (i + 1) m' H') ∧ ∀ x H', J.yld i H x H' → g x σ0 H' fun σ2 H2 => wipe σ2 vs = σ0 ∧ te σ2 H2 fun y H4 => ∃ b, y = .bl b ∧ if b = true then Nx H4 else Qe false H4)
section
variable {X : Cx} {A : Around} {N : List Str} {s4 : Shared} {H0 : Hp} {cenv : Env} {fp : List Addr} {tg elt iter : Expr} {scope : Scope} {pos : Pos} {it a : Addr} {gi : Nat} {go : Obj} {J : It} {tn : Nat → Heap → Prop} {σ0 : L2.St} {vs : List Nat} {g : TG} {te : TE} {Qe : Bool → Hp → Prop} {W : Nat → Nat → Hp → Prop} {Qf : Value → Shared → Prop}
theorem gx_loop (hh : A.handled = none) (hco : cenv.scope.isCoroutine = false) (T : Turn X.prog X.w X.K tg J fp it tn) (haf : a ∉ fp) (hgen : ∀ h : Heap, h.get? a = some go → h.IsGen a gi)
    (pg : PG (gcx X A N s4 H0 cenv fp) tg g) (pe : PE (gcx X A N s4 H0 cenv fp) elt te) (turn : Turns J σ0 vs g te Qe W)
    (hfin : ∀ b s H', Inv (gcx X A N s4 H0 cenv fp) [(a, go)] σ0 H' s → Qe b H' → Done Qf b s) :
    ∀ (m n i : Nat) (H : Hp) (s₀ s : Shared), m < n → W i m H → Inv (gcx X A N s4 H0 cenv fp) [(a, go)] σ0 H s → tn i s.heap → (∀ b ∈ fp, H b = none) →
      Seg (model X.prog X.w) A (fun n s₀ r s₁ => r = .ok .next ∧ GEndA Qf n s₀ s₁) (GProto Qf a gi) n s₀ (.compLoop (.GeneratorExp elt [⟨tg, iter, [], 0⟩] scope pos) 0 (.ref it) .none cenv)
        ((model X.prog X.w).den (.compLoop (.GeneratorExp elt [⟨tg, iter, [], 0⟩] scope pos) 0 (.ref it) .none cenv)) [] s := by
  have stat : ∀ {σ' : L2.St} {H' : Hp} {s' : Shared}, Inv (gcx X A N s4 H0 cenv fp) [(a, go)] σ' H' s' → (∀ b ∈ fp, H' b = none) → ∀ b ∈ fp, FpOk (gcx X A N s4 H0 cenv fp) [(a, go)] H' b := fun {σ' H' s'} I' hn b hb =>
    ⟨hn b hb, (I'.ok.exf b hb).1, I'.ok.exfs b hb, .inl hb, fun x c e => (I'.ok.exf b hb).2 x c e, fun p hp z => by
      have hp : p ∈ [(a, go)] := hp
      rw [List.mem_singleton.mp hp] at z
      have z : a = b := z
      exact haf (by rw [z]; exact hb)⟩
  have hy : ∀ v, yieldOut cenv v = yieldValue v := fun v => by simp only [yieldOut, hco, Bool.false_eq_true, if_false]
  intro m
  induction m using Nat.strongRecOn with
  | ind m ih =>
    intro n i H s₀ s hmn hW I hst hn
    obtain ⟨n, rfl⟩ : ∃ k, n = k + 1 := ⟨n - 1, by omega⟩
    show Seg _ A _ _ _ s₀ _ ((compTurn (.GeneratorExp elt [⟨tg, iter, [], 0⟩] scope pos) 0 (.ref it) .none cenv).onRaise (leaving cenv)) [] s
    rw [compTurn_gen, Sem.onRaise_eq_wrap]
    refine seg_bind_wrap (wpAny_standAt ?_)
    rcases turn i m H hW with ⟨stop, qq⟩ | ⟨hgo, Nx, hNx, step⟩
    · refine seg_bind_wrap ?_
      rw [over_loopC]
      refine thn (T.done (gcx X A N s4 H0 cenv fp) rfl rfl rfl rfl i [(a, go)] s _ H _ I (stat I hn) hst stop) fun r s6 ⟨hr, I6⟩ => ?_
      subst hr
      exact seg_end (.ok .next) ⟨rfl, I6.bare, hfin true s6 H I6 qq⟩
    · refine seg_bind_wrap ?_
      rw [over_loopC]
      refine thn (T.item (gcx X A N s4 H0 cenv fp) rfl rfl rfl rfl i [(a, go)] s _ H _ I (stat I hn) hst hgo) fun r s6 ⟨u, hr, h6⟩ => ?_
      subst hr
      refine seg_bind_wrap ?_
      rw [over_loopC]
      refine thn h6 fun _ s7 ⟨x, H7, I7, r7, y7, st7, n7⟩ => ?_
      have I7' := I7.pinned (stat I7 n7) (T.obj _ _ st7)
      refine seg_bind_wrap ?_
      rw [over_loopC]
      refine wpAny_mono (pg.run _ s7 _ H7 x u _ I7' r7 (step x H7 y7)) (fun _ s8 ⟨σ8, H8, I8, hw8, q8⟩ => ?_) fun _ _ e => e.elim
      have fin : ∀ {s' : Shared} {H' : Hp}, Inv (gcx X A N s4 H0 cenv fp) ([(a, go)] ++ pinsAt fp s7.heap) σ8 H' s' → Inv (gcx X A N s4 H0 cenv fp) [(a, go)] σ0 H' s' ∧ tn (i + 1) s'.heap ∧ ∀ b ∈ fp, H' b = none := fun {s' H'} I' => by
        have pin' : ∀ b ∈ fp, ∀ o, s7.heap.get? b = some o → s'.heap.get? b = some o ∧ H' b = none := fun b hb o e =>
          let z := I'.pin (b, o) (List.mem_append_right _ (List.mem_append_right _ (mem_pinsAt hb e)))
          ⟨z.1, z.2.1⟩
        have hl : σ0.length = σ8.length := by rw [← hw8, wipe_length]
        refine ⟨(I'.unpinned (pins := [(a, go)])).weak hl (fun j v e => ?_), T.keep _ _ _ st7 fun b hb o e => (pin' b hb o e).1, fun b hb => ?_⟩
        · rw [← hw8] at e
          exact (wipe_some e).1
        · obtain ⟨o, e, _⟩ := T.obj _ _ st7 b hb
          exact (pin' b hb o e).2
      simp only [List.forIn_nil]
      refine seg_bind_wrap (wpAny_pure ?_)
      simp only [if_true]
      simp only [hy]
      rw [Sem.bind_eq_wrap', Sem.bind_eq_wrap', Sem.wrap_wrap, Sem.wrap_wrap]
      refine seg_wrap ?_
      rw [over_loopC]
      refine wpAny_mono (pe.run _ s8 σ8 H8 _ I8 q8) (fun v s10 ⟨y, H10, I10, r10, b, hyb, q10⟩ => ?_) fun _ _ e => e.elim
      subst hyb
      obtain rfl : v = Value.bool b := r10
      obtain ⟨J1, J2, J3⟩ := fin I10
      have hga : s10.heap.IsGen a gi := hgen _ (J1.pin (a, go) (List.mem_append_right _ (List.mem_singleton.mpr rfl))).1
      refine seg_at (seg_yield rfl rfl rfl ⟨b, rfl, hga, J1.nolimit, J1.bare, fun hb s'' e1 e2 e3 => ?_, fun hb => ?_⟩)
      · subst hb
        rw [if_pos rfl] at q10
        obtain ⟨m', hm', w'⟩ := hNx H10 q10
        refine seg_again rfl (ih m' hm' n (i + 1) H10 s'' s'' (by omega) w' (inv_same J1 (fun x o e => by rw [e1]; exact e) e2 e3) (by rw [e1]; exact J2) J3)
      · subst hb
        rw [if_neg Bool.false_ne_true] at q10
        exact hfin false s10 H10 J1 q10
theorem gx_begin (hh : A.handled = none) (hco : cenv.scope.isCoroutine = false) (T : Turn X.prog X.w X.K tg J fp it tn) (haf : a ∉ fp) (hgen : ∀ h : Heap, h.get? a = some go → h.IsGen a gi)
    (pg : PG (gcx X A N s4 H0 cenv fp) tg g) (pe : PE (gcx X A N s4 H0 cenv fp) elt te) (turn : Turns J σ0 vs g te Qe W)
    (hfin : ∀ b s H', Inv (gcx X A N s4 H0 cenv fp) [(a, go)] σ0 H' s → Qe b H' → Done Qf b s) {m : Nat} {H : Hp} {s : Shared} (w0 : W 0 m H) (I : Inv (gcx X A N s4 H0 cenv fp) [(a, go)] σ0 H s) (hst : tn 0 s.heap) (hn : ∀ b ∈ fp, H b = none) :
    Seg (model X.prog X.w) A (fun n s₀ r s₁ => r = .ok .next ∧ GEndA Qf n s₀ s₁) (GProto Qf a gi) (m + 1) s (.compStart (.GeneratorExp elt [⟨tg, iter, [], 0⟩] scope pos) 0 (.ref it) .none cenv)
      ((model X.prog X.w).den (.compStart (.GeneratorExp elt [⟨tg, iter, [], 0⟩] scope pos) 0 (.ref it) .none cenv)) [] s := by
  have loop := gx_loop (iter := iter) (scope := scope) (pos := pos) hh hco T haf hgen pg pe turn hfin m (m + 1) 0 H s s (Nat.lt_succ_self _) w0 I hst hn
  show Seg _ A _ _ _ s _ ((compStart (.GeneratorExp elt [⟨tg, iter, [], 0⟩] scope pos) 0 (.ref it) .none cenv).onRaise (leaving cenv)) [] s
  unfold compStart
  rw [Sem.onRaise_eq_wrap]
  show Seg _ A _ _ _ s _ ((ask >>= _).wrap _ _ _ _) [] s
  refine seg_bind_wrap (wpAny_askSetting ?_)
  split
  · exact seg_again rfl loop
  · first
      | exact seg_bind_wrap (wpAny_rule (seg_bind_wrap (wpAny_standAt (seg_bind_wrap (T.self _ 0 s _ _ hst (seg_again rfl loop))))))
      | (refine seg_bind_wrap (wpAny_rule ?_); show Seg _ A _ _ _ s _ ((standAt iter.pos >>= _).wrap _ _ _ _) [] s; exact seg_bind_wrap (wpAny_standAt (seg_bind_wrap (T.self _ 0 s _ _ hst (seg_again rfl loop)))))
end
/-! the rule -/
section
variable {X : Cx}
/-- all(elt for tg in iter) -/
def tAllG (P : Addr) (wi : TI) (own : List Str) (caps : List (Str × Nat)) (vs : List Nat) (g : TG) (te : TE) : TE := fun σ H Q => wi σ H fun J H1 => TabG H1 P ∧ ∀ H2, Tabbed P H1 H2 → ∃ W : Nat → Nat → Hp → Prop, (∃ m, W 0 m H2) ∧ Turns J (gxSt own caps σ) vs g te (fun b H' => Q (.bl b) H') W
theorem pe_allG {c P : Addr} {elt tg iter : Expr} {p pos gpos : Pos} {scope : Scope} {own : List Str} {caps : List (Str × Nat)} {vs : List Nat} {wi : TI} {g : TG} {te : TE} {k : Nat}
    (hr : Room k X.A) (hg : Gl X "all") (hm : X.mg "all" = none) (TB : TabB X.base X.mg c P) (hcode : X.env.code = .ref c) (S : GxS X.N X.env.scope scope own caps) (hi : PI X tg iter wi)
    (pg : ∀ (s : Shared) (H : Hp) (C : Addr) (cd : Value) (fp : List Addr), PG (gcx X X.A.in1.in1 (gxN own caps) s H (gxEnv X scope C cd) fp) tg g)
    (pe : ∀ (s : Shared) (H : Hp) (C : Addr) (cd : Value) (fp : List Addr), PE (gcx X X.A.in1.in1 (gxN own caps) s H (gxEnv X scope C cd) fp) elt te)
    (hs : ∀ v, genFold iter X.env v = pure v := by intro _; rfl)
    (he : starEach [.GeneratorExp elt [⟨tg, iter, [], 0⟩] scope gpos] X.env = (false, eval (.GeneratorExp elt [⟨tg, iter, [], 0⟩] scope gpos) X.env) :: starEach [] X.env := by rfl) :
    PE X (.Call (.Name "all" p) [.GeneratorExp elt [⟨tg, iter, [], 0⟩] scope gpos] [] pos) (tAllG P wi own caps vs g te) := by
  refine ⟨fun pins s σ H Q I h => ?_⟩
  have hfree : ∀ y ∈ scope.names, y.2 = .free → ∃ c, X.env.cells.lookup y.1 = some c := fun y hy e => by
    rcases S.free y hy e with k | k
    · exact I.ok.has _ (.inl k)
    · exact I.ok.has _ (.inr k)
  refine wpAny_Call_Name_kw (ld_blt I hg hm PyProof.Rows.boot_all ?_)
  refine PyProof.Rows.callWith_builtin1 ?_ he (by rfl)
  rw [he]
  show wpAny _ _ (spliced ((false, eval (.GeneratorExp elt [⟨tg, iter, [], 0⟩] scope gpos) X.env) :: backTo pos (starEach [] X.env))) _ _ s
  refine Calls.spliced_cons ?_
  refine wpAny_GeneratorExp_make S.co (closure_ok hfree) S.cell S.dot S.kind (by have := hr.dp; omega) ?_ hs
  refine thn (hi.run pins s σ H _ I h) fun xv s1 hx => thn hx fun itv s2 h2 => ?_
  obtain ⟨it, fp, tn, J, H1, rfl, I2, T, st2, f2, ⟨ps, hP, ht⟩, q⟩ := h2
  refine ⟨I2.nolimit, ?_⟩
  have hPs : s2.heap.get? P = some { cls := .none, data := .fields ps } := I2.hok P _ hP
  have cd : PySem.W.CodeHd s2.heap c P := TB.code.keeps I2.bk
  have sz2 : ∀ b ∈ fp, b < s2.heap.objs.size := fun b hb => by
    obtain ⟨o, e, _⟩ := T.obj _ _ st2 b hb
    exact Heap.lt_size e
  have cont : ∀ (code : Value) (h3 : Heap) (tk : Nat) (ps' more : Array Value), Heap.ExtBut P s2.heap h3 → s2.heap.objs.size ≤ h3.objs.size → h3.get? P = some { cls := .none, data := .fields ps' } → ps' = ps ++ more → TriplesOk ps'.toList →
      wpAny (model X.prog X.w) X.A (builtinsFor X.env.globals X.env.builtins) (fun bi s₄ =>
        ∀ h', h'.Ns s₄.heap.objs.size (fun y => if y = ".0" then some (.ref it) else none) → Heap.SameBut s₄.heap.objs.size (s₄.heap.push { cls := .type "frame", data := .dict #[] }) h' →
          wpAny (model X.prog X.w) X.A (spliced (backTo pos (starEach [] X.env))) (fun us s' => wpAny (model X.prog X.w) X.A (call (.builtin "all") (.ref h'.objs.size :: us)) (EP X pins σ Q) X.xe s') X.xe { s₄ with
            gens := s₄.gens.push (.fresh (.compStart (.GeneratorExp elt [⟨tg, iter, [], 0⟩] scope gpos) 0 (.ref it) .none (genEnv scope (cloFrom X.env.cells scope.names []) s₄.heap.objs.size code bi X.env))),
            toks := s₄.toks + 1 + 1 + 1,
            heap := h'.push { cls := .type "generator", data := .fields #[.int s₄.gens.size 0, .str "<genexpr>" (s₄.toks + 1), .str (X.env.qual ++ "<genexpr>") (s₄.toks + 1 + 1)] } }) X.xe { s2 with heap := h3, toks := tk } := by
    intro code h3 tk ps' more hx hsz hP3 hmore ht3
    obtain ⟨bm, ob, e1, e2, e3, e4, e5, e6, e7, e8⟩ := TB.bm
    have keep3 : ∀ b u, b ≠ P → s2.heap.get? b = some u → h3.get? b = some u := fun b u hb e => hx b u hb e
    refine wpAny_builtinsFor (m := X.mg) (by rw [I2.ok.glob]; exact (I2.mod.glob.keeps I2.bk).extBut hx TB.gP) e1 e2 (keep3 _ _ e4 (I2.bk _ _ e5)) e6 e7 e8 ?_
    intro h' hns hsb
    have I3 : Inv X pins σ (upd H1 P (.tbl (ps ++ more))) { s2 with heap := h3, toks := tk } := inv_tab (more := more) (g' := s2.gens) (d' := s2.drawn) (t' := tk) I2 hP keep3 (by rw [← hmore]; exact hP3) I2.bare
    have hT : Tabbed P H1 (upd H1 P (.tbl (ps ++ more))) := ⟨⟨ps ++ more, upd_same, by rw [← hmore]; exact ht3⟩, fun b hb => upd_ne hb⟩
    obtain ⟨W, ⟨m, w0⟩, turn⟩ := q _ hT
    have nP : ∀ b ∈ fp, b ≠ P := fun b hb z => by
      have := (f2 b hb).1
      rw [z, hP] at this
      cases this
    have f3 : ∀ b ∈ fp, FpOk X pins (upd H1 P (.tbl (ps ++ more))) b ∧ b < h3.objs.size := fun b hb => ⟨⟨by rw [upd_ne (nP b hb)]; exact (f2 b hb).1, (f2 b hb).2⟩, Nat.lt_of_lt_of_le (sz2 b hb) hsz⟩
    generalize upd H1 P (.tbl (ps ++ more)) = H3 at I3 w0 f3
    have hsz' : h'.objs.size = h3.objs.size + 1 := by rw [hsb.1, Heap.size_push]
    have keep' : ∀ b o, h3.get? b = some o → h'.get? b = some o := fun b o e => hsb.extBut b o (Nat.ne_of_lt (Heap.lt_size e)) (Heap.get?_push_of_some _ e)
    refine Calls.spliced_nil ?_
    generalize hgo : ({ cls := .type "generator", data := .fields #[.int s2.gens.size 0, .str "<genexpr>" (tk + 1), .str (X.env.qual ++ "<genexpr>") (tk + 1 + 1)] } : Obj) = go
    have hgen : ∀ hp : Heap, hp.get? h'.objs.size = some go → hp.IsGen h'.objs.size s2.gens.size := fun hp e => ⟨go, _, _, e, by rw [← hgo], by rw [← hgo], by rw [← hgo]⟩
    have hput : (h'.push go).get? h'.objs.size = some go := Heap.get?_push_size _ (by rw [← hgo]; rfl)
    have hgd : ∀ v, go.data ≠ .cell v := fun v z => by rw [← hgo] at z; cases z
    show wpAny _ _ (call (.builtin "all") [.ref h'.objs.size]) _ _ { s2 with gens := s2.gens.push (.fresh (.compStart (.GeneratorExp elt [⟨tg, iter, [], 0⟩] scope gpos) 0 (.ref it) .none (gxEnv X scope h3.objs.size code))), toks := tk + 1 + 1 + 1, heap := h'.push go }
    have keep5 : ∀ b o, h3.get? b = some o → (h'.push go).get? b = some o := fun b o e => Heap.get?_push_of_some _ (keep' b o e)
    have hb5 : AllBare (s2.gens.push (.fresh (.compStart (.GeneratorExp elt [⟨tg, iter, [], 0⟩] scope gpos) 0 (.ref it) .none (gxEnv X scope h3.objs.size code)))) := I2.bare.push rfl
    have hrun : AllBare (({ s2 with gens := s2.gens.push (.fresh (.compStart (.GeneratorExp elt [⟨tg, iter, [], 0⟩] scope gpos) 0 (.ref it) .none (gxEnv X scope h3.objs.size code))), toks := tk + 1 + 1 + 1, heap := h'.push go } : Shared).setGen s2.gens.size .running).gens := allBare_setGen hb5 rfl
    have G0 : Inv (gcx X X.A.in1.in1 (gxN own caps) { s2 with heap := h3, toks := tk } H3 (gxEnv X scope h3.objs.size code) fp) [] (gxSt own caps σ) H3 (({ s2 with gens := s2.gens.push (.fresh (.compStart (.GeneratorExp elt [⟨tg, iter, [], 0⟩] scope gpos) 0 (.ref it) .none (gxEnv X scope h3.objs.size code))), toks := tk + 1 + 1 + 1, heap := h'.push go } : Shared).setGen s2.gens.size .running) :=
      gx_start (s := { s2 with heap := h3, toks := tk }) I3 S hr.hd I3.ok.frames f3 (hns.push go) keep5 rfl hrun
    have hna : H3 h'.objs.size = none := I3.hok.fresh (by show h3.objs.size ≤ h'.objs.size; omega)
    have G1 : Inv (gcx X X.A.in1.in1 (gxN own caps) { s2 with heap := h3, toks := tk } H3 (gxEnv X scope h3.objs.size code) fp) [(h'.objs.size, go)] (gxSt own caps σ) H3 (({ s2 with gens := s2.gens.push (.fresh (.compStart (.GeneratorExp elt [⟨tg, iter, [], 0⟩] scope gpos) 0 (.ref it) .none (gxEnv X scope h3.objs.size code))), toks := tk + 1 + 1 + 1, heap := h'.push go } : Shared).setGen s2.gens.size .running) :=
      G0.pins_of fun p hp => by
        rw [List.mem_singleton.mp hp]
        refine ⟨hput, hna, ?_, fun z => ?_, hgd⟩
        · show h'.objs.size ≠ h3.objs.size
          omega
        · have z : h'.objs.size ∈ frs X.stack := z
          rcases List.mem_cons.mp (I3.stkSub _ z) with z | z
          · have h1 := I3.lt
            rw [← z] at h1
            have h1 : h'.objs.size < h3.objs.size := h1
            omega
          · exact I3.nofs (show h3.objs.size ≤ h'.objs.size by omega) z
    have st5 : tn 0 (h'.push go) := T.keep _ _ _ st2 fun b hb o e => keep5 b o (keep3 b o (nP b hb) e)
    refine call_all_gen (n := m + 1) hr.hd (by have := hr.dp; omega) (hgen _ hput) (I3.nolimit.keeps keep5) ⟨_, Array.getElem?_push_size .., rfl, ?_⟩
    refine gx_begin (A := X.A.in1.in1) (N := gxN own caps) (σ0 := gxSt own caps σ) (vs := vs) (g := g) (te := te) (Qe := fun b H' => Q (.bl b) H') (W := W) hr.hd S.co T (fun z => ?_) hgen (pg _ _ _ _ _) (pe _ _ _ _ _) turn (fun b s6 H6 J6 q6 s7 k7 o7 b7 => ?_) w0 G1 st5 (fun b hb => (f3 b hb).1.1)
    · have z2 : h'.objs.size < h3.objs.size := (f3 _ z).2
      rw [hsz'] at z2
      exact absurd z2 (by omega)
    · have I6 : Inv X pins σ H6 s6 := I3.call' (ch := fp) J6.os J6.base J6.hok J6.bare fun b hb => ⟨(f3 b hb).1.2.2.2.1, (f3 b hb).1.2.1, (f3 b hb).1.2.2.2.2.1, (f3 b hb).1.2.2.2.2.2⟩
      exact ⟨.bl b, H6, inv_same I6 k7 o7 b7, rfl, q6⟩
  cases hf : codeAmong gpos ps.toList with
  | none =>
    refine wpAny_genexprCodeX hcode (cd.code hPs ht) (cd.tab hPs) hf fun c' h' tk hx hge hlt hco' _ htab' _ => ?_
    obtain ⟨o1, vs, f1, tf, fl, tg, inF, tx, tt, op, _, _, _, _, _, _, _, _, _, htr, _⟩ := hco'
    exact cont _ h' tk _ _ hx (Nat.le_trans hge (Nat.le_of_lt hlt)) htab'.2 rfl htr
  | some cv =>
    refine wpAny_genexprCode_hit hcode (cd.code hPs ht) hf ?_
    exact cont cv s2.heap s2.toks ps #[] (Heap.ExtBut.refl _ _) (Nat.le_refl _) hPs (by simp) ht
end
end Kg

/-! defs that are called where no repr is under way -/
namespace Kf
open PySem PySem.Spec PyProof.Rows L2 LamX
/-- no repr is under way -/
abbrev Still (A : Around) : Prop := A.guards = some []
/-- a def's promise, called where no repr is under way -/
structure FnG (P : Program) (w : World) (K : PySem.W.Frag) (mg : Str → Option Value) (base : Heap) (CX : CXT) (k : Nat) (f : Addr) (fd : FuncData) (ps : List Str) (sp : Sp) : Prop where
  cnt : ∀ vs H Q E, sp vs H Q E → vs.length = ps.length
  go : ∀ (A : Around) (o : List Env) (s : Shared) (H : Hp) (r : Args) (us : List Value) (vs : List V) (Q : VK) (E : XK), Still A → Room k A → Env0 P w K mg base A o s H → BindsTo s fd r (ps.zip us) → Vals vs us → sp vs H Q E →
    codeAny (model P w) A (.call (.ref f) r) (CR CX o P w H s Q E) s
section
variable {P : Program} {w : World} {K : PySem.W.Frag} {mg : Str → Option Value} {base : Heap} {CX : CXT}
theorem FnG.of {k : Nat} {f : Addr} {fd : FuncData} {ps : List Str} {sp : Sp} (F : FnOk P w K mg base CX k f fd ps sp) : FnG P w K mg base CX k f fd ps sp :=
  ⟨F.len, fun A o s H r us vs Q E _ => F.run A o s H r us vs Q E⟩
theorem FnG.up {j k : Nat} {f : Addr} {fd : FuncData} {ps : List Str} {sp : Sp} (F : FnG P w K mg base CX j f fd ps sp) (h : j ≤ k) : FnG P w K mg base CX k f fd ps sp :=
  ⟨F.cnt, fun A o s H r us vs Q E g hr => F.go A o s H r us vs Q E g (hr.mono h)⟩
/-- a def by its body -/
theorem fnG_of {k : Nat} {f : Addr} {nm ql : Str} {prm : Arguments} {bd : List Stmt} {sco : Scope} {dV kV doc pm cdv ct oc : Value} {an od : Option Addr} {sl : Array (Option Value)} {N ps : List Str} {sp : Sp}
    (at' : K.lookup f = some ⟨oc, od, .func (PySem.W.fnOf nm ql prm bd sco dV kV doc pm an cdv ct), sl⟩) (hc : PySem.W.codeIn K cdv ql = true) (S : FnScope N ps sco) (cnt : ∀ vs H Q E, sp vs H Q E → vs.length = ps.length)
    (body : ∀ (A : Around) (o : List Env) (s : Shared) (H : Hp) (vs : List V) (Q : VK) (E : XK), Still A → Room k (A.deeper (envOfC ql sco s.heap.objs.size f cdv)) → sp vs H Q E →
      ∃ t, PSs (cxOf CX P w K mg base N ql sco f cdv A o s H E) bd t ∧ t { nx := fun _ G => Q .non G, rt := Q } (start N vs) H) : FnG P w K mg base CX (k + 1) f (PySem.W.fnOf nm ql prm bd sco dV kV doc pm an cdv ct) ps sp where
  cnt := cnt
  go := by
    intro A o s H r us vs Q E still room e0 binds vals hsp
    have hold := fun b u (z : base.get? b = some u) => (e0.bs b u z).1
    have kx := e0.mod.kin.keeps hold
    have par : ∀ z ∈ ps.zip us, sco.names.lookup z.1 = some .local ∨ (sco.names.lookup z.1 = some .cell ∧ ((cellsFrom (s.heap.objs.size + 1) sco.names []).lookup z.1).isSome = true) := by
      intro z hz
      have hm : z.1 ∈ ps := (List.of_mem_zip (a := z.1) (b := z.2) hz).1
      exact (S.par z.1 hm).imp id fun q => ⟨q, PySem.W.cellsFrom_some _ _ _ (.inl q)⟩
    refine codeAny_call_function room.depth (kx _ _ at') rfl S.co S.gen rfl (PySem.W.codeRec_of kx hc) (binds _ _ _ _ (wpAny_newFunctionEnv_cells S.kind par ?_))
    rintro env rfl s1 x
    refine ⟨(e0.mod.nolimit.keeps hold).keeps x.toInCall.keep, codeAny_func ?_⟩
    obtain ⟨t, ht, hq⟩ := body A o s H vs Q E still (room.deeper _) hsp
    refine wpAny_mono (ht.run [] s1 (start N vs) H _ (inv_start S room.hd e0 (cnt _ _ _ _ hsp) vals x) hq) ?_ (fun _ _ z => z)
    intro fl s2 z
    match fl, z with
    | .ret u, ⟨v, _, G, J, rv, q⟩ => exact ⟨v, G, J.os, J.bare, J.base, J.hok, rv, q⟩
    | .next, ⟨_, G, J, q⟩ => exact ⟨V.non, G, J.os, J.bare, J.base, J.hok, rfl, q⟩
    | .brk, ⟨_, _, _, q⟩ => exact q.elim
    | .cont, ⟨_, _, _, q⟩ => exact q.elim
/-- a def of the text that lets nothing out -/
theorem okG {x ql : Str} {st : Stmt} {f : Addr} {fd : FuncData} {N ps : List Str} {k : Nat} {sp : Sp} (F : Fun K x ql st f fd) (S : FnScope N ps (defScope st)) (cnt : ∀ vs H Q E, sp vs H Q E → vs.length = ps.length)
    (body : ∀ (cdv : Value) (A : Around) (o : List Env) (s : Shared) (H : Hp) (vs : List V) (Q : VK) (E : XK), Still A → Room k (A.deeper (envOfC ql (defScope st) s.heap.objs.size f cdv)) → sp vs H Q E →
      ∃ t, PSs (cxOf CX0 P w K mg base N ql (defScope st) f cdv A o s H E).nox (defBody st) t ∧ t { nx := fun _ G => Q .non G, rt := Q } (start N vs) H) : FnG P w K mg base CX0 (k + 1) f fd ps sp := by
  obtain ⟨oc, od, kV, doc, pm, an, cdv, ct, sl, rfl, hl, hc⟩ := F.ex
  exact fnG_of hl hc S cnt fun A o s H vs Q E g hr h => (body cdv A o s H vs Q E g hr h).imp fun t z => ⟨z.1.nox, z.2⟩
end
section
variable {X : Cx} {CX : CXT} {k : Nat} {f : Addr} {fd : FuncData} {ps : List Str} {sp : Sp} {dvs : List V} {ds : List Value} {E : XK} {x : Str} {p pos : Pos} {e : Expr} {es : List Expr} {t : TA}
theorem goG {pins : List (Addr × Obj)} {σ : L2.St} {H : Hp} {s : Shared} {Q : VK} {us : List Value} {vs : List V} (F : FnG X.prog X.w X.K X.mg X.base CX k f fd ps sp) (g : Still X.A) (hr : Room k X.A) (hb : Binds X.K fd ps ds) (hd : Vals dvs ds) (hx : Passes CX X E) (I : Inv X pins σ H s) (rv : Vals vs us)
    (h : sp (vs ++ dvs) H Q E) : wpAny (model X.prog X.w) X.A (call (.ref f) us) (EP X pins σ Q) X.xe s := by
  have both := rv.append hd
  have n : (us ++ ds).length = ps.length := both.length.symm.trans (F.cnt _ _ _ _ h)
  refine wpAny_call (codeAny_mono (F.go X.A X.stack s H ⟨us, []⟩ _ _ Q E g hr I.env0 (hb s us I.kIn n) both h) ?_)
  intro r s2 z
  match r, z with
  | .error u, z => exact hx pins σ H s u s2 I z
  | .ok (.ret u), z => exact I.after z
  | .ok .next, z => exact z.elim
  | .ok .brk, z => exact z.elim
  | .ok .cont, z => exact z.elim
/-- f(e, ..) -/
theorem pe_callG (F : FnG X.prog X.w X.K X.mg X.base CX k f fd ps sp) (g : Still X.A) (hr : Room k X.A) (hg : Gl X x) (hm : X.mg x = some (.ref f)) (hk : PySem.W.keepIn X.K (.ref f) = true) (hb : Binds X.K fd ps ds) (hd : Vals dvs ds) (hx : Passes CX X E) (ha : PA X (e :: es) t)
    (hn : (x == ("__debug__" : Str)) = false := by decide) (h1 : starEach (e :: es) X.env = (false, eval e X.env) :: starEach es X.env := by rfl) (h2 : (backTo pos (starEach es X.env)).any (·.1) = false := by rfl) : PE X (.Call (.Name x p) (e :: es) [] pos) (tCall sp dvs E t) := by
  constructor
  intro pins s σ H Q I h
  refine wpAny_Call_Name_kw (ld_glob I hg hm (PySem.W.callWith_K (h₀ := X.base) I.ok.mod.kin hk (thn (ha.run pos pins s σ H _ I h) ?_) h1 h2) hn)
  rintro us s2 ⟨vs, G, J, rv, q⟩
  exact ⟨J.kIn, goG F g hr hb hd hx J rv q⟩
end
end Kf

/-! repr of data -/
namespace Kf
open PySem PySem.Spec PyProof.Rows L2
/-- data that shows as it is, of at most so many in one another -/
structure Shows (n : Nat) (d : PyData) : Prop where
  ok : d.showable = true
  nd : d.hasDict = false
  dp : d.depth ≤ n
  sz : d.shown.length ≤ sizeLine
def rShow (K : PySem.W.Frag) (n : Nat) : List V → Hp → VK → Prop := fun xs H Q => ∃ (a : Addr) (d : PyData), xs = [.ref a] ∧ Dp K H (.ref a) d ∧ Shows n d ∧ Q (.str d.shown) H
theorem call_show {X : Cx} {n : Nat} (g : Still X.A) (hu : X.A.units + (n + 1) < cLine) : CallR X (.builtin "repr") (rShow X.K n) := by
  intro pins s σ H xs us Q I r h
  obtain ⟨a, d, rfl, hd, sh, q⟩ := h
  rw [Vals.ref1 r]
  obtain ⟨as, rd⟩ := Dp.reads I d _ (.ref a) hd rfl
  exact repr_of_reads' rd sh.ok (PyData.noDict_hsm sh.nd) g (by have := sh.dp; omega) (fun _ _ e => e) (fun h' u tk hk => ⟨.str d.shown, H, I.kept hk, ⟨u, rfl⟩, q⟩) sh.sz
end Kf

/-! things of anything: none, truths, numbers, texts, tuples, lists, the empty dict -/
namespace Kv
open PySem PySem.Spec PyProof.Rows L2 Kf
inductive Dt where
  | non
  | bl (b : Bool)
  | int (i : Int)
  | str (x : Str)
  | tup (xs : List Dt)
  | lst (xs : List Dt)
  | emp
mutual
/-- the thing stands at v; its lists and dicts at places N -/
inductive Dd (N : Addr → Prop) (H : Hp) : Dt → V → Prop
  | non : Dd N H .non .non
  | bl (b : Bool) : Dd N H (.bl b) (.bl b)
  | int (i : Int) : Dd N H (.int i) (.int i)
  | str (x : Str) : Dd N H (.str x) (.str x)
  | tup {a : Addr} {xs : List Dt} {vs : List V} : H a = some (.tup vs) → DdL N H xs vs → Dd N H (.tup xs) (.ref a)
  | lst {a : Addr} {xs : List Dt} {vs : List V} : N a → H a = some (.lst vs) → DdL N H xs vs → Dd N H (.lst xs) (.ref a)
  | emp {a : Addr} : N a → H a = some (.dK []) → Dd N H .emp (.ref a)
inductive DdL (N : Addr → Prop) (H : Hp) : List Dt → List V → Prop
  | nil : DdL N H [] []
  | cons {x : Dt} {xs : List Dt} {v : V} {vs : List V} : Dd N H x v → DdL N H xs vs → DdL N H (x :: xs) (v :: vs)
end
/-- what stood of tuples, and of lists and dicts at N, stands -/
structure Kn (N : Addr → Prop) (H G : Hp) : Prop where
  tup : ∀ b xs, H b = some (.tup xs) → G b = some (.tup xs)
  lst : ∀ b xs, N b → H b = some (.lst xs) → G b = some (.lst xs)
  dic : ∀ b xs, N b → H b = some (.dK xs) → G b = some (.dK xs)
theorem Kn.of {N : Addr → Prop} {H G : Hp} (s : Same H G) : Kn N H G := ⟨fun b _ e => s b _ e, fun b _ _ e => s b _ e, fun b _ _ e => s b _ e⟩
theorem Kn.trans {N : Addr → Prop} {H G F : Hp} (a : Kn N H G) (b : Kn N G F) : Kn N H F := ⟨fun x _ e => b.tup x _ (a.tup x _ e), fun x _ n e => b.lst x _ n (a.lst x _ n e), fun x _ n e => b.dic x _ n (a.dic x _ n e)⟩
theorem Kn.rfl {N : Addr → Prop} {H : Hp} : Kn N H H := ⟨fun _ _ e => e, fun _ _ _ e => e, fun _ _ _ e => e⟩
theorem Kn.sub {N M : Addr → Prop} {H G : Hp} (k : Kn N H G) (h : ∀ b, M b → N b) : Kn M H G := ⟨k.tup, fun b xs n e => k.lst b xs (h b n) e, fun b xs n e => k.dic b xs (h b n) e⟩
/-- another list, dict or the like is put at p -/
theorem Kn.put {N : Addr → Prop} {H G : Hp} {p : Addr} {o : HO} (k : Kn N H G) (n : ¬ N p) (h : ∀ xs, H p ≠ some (.tup xs)) : Kn N H (upd G p o) := by
  refine ⟨fun b xs e => ?_, fun b u hb e => ?_, fun b u hb e => ?_⟩
  · rw [upd_ne (fun z => h xs (by rw [← z]; exact e))]
    exact k.tup b xs e
  · rw [upd_ne (fun z => n (by rw [← z]; exact hb))]
    exact k.lst b u hb e
  · rw [upd_ne (fun z => n (by rw [← z]; exact hb))]
    exact k.dic b u hb e
/-- what was free is put at p -/
theorem Kn.new {N : Addr → Prop} {H G : Hp} {p : Addr} {o : HO} (k : Kn N H G) (h : H p = none) : Kn N H (upd G p o) := by
  refine ⟨fun b xs e => ?_, fun b u hb e => ?_, fun b u hb e => ?_⟩
  · rw [upd_ne (ne_of_none e h)]
    exact k.tup b xs e
  · rw [upd_ne (ne_of_none e h)]
    exact k.lst b u hb e
  · rw [upd_ne (ne_of_none e h)]
    exact k.dic b u hb e
mutual
theorem Dd.kn {N : Addr → Prop} {H G : Hp} (k : Kn N H G) : ∀ {x : Dt} {v : V}, Dd N H x v → Dd N G x v
  | _, _, .non => .non
  | _, _, .bl b => .bl b
  | _, _, .int i => .int i
  | _, _, .str x => .str x
  | _, _, .tup h t => .tup (k.tup _ _ h) (t.kn k)
  | _, _, .lst n h t => .lst n (k.lst _ _ n h) (t.kn k)
  | _, _, .emp n h => .emp n (k.dic _ _ n h)
theorem DdL.kn {N : Addr → Prop} {H G : Hp} (k : Kn N H G) : ∀ {xs : List Dt} {vs : List V}, DdL N H xs vs → DdL N G xs vs
  | _, _, .nil => .nil
  | _, _, .cons h t => .cons (h.kn k) (t.kn k)
end
mutual
/-- at fewer, or other places, where the heap has nothing elsewhere -/
theorem Dd.at {N M : Addr → Prop} {H : Hp} (k : ∀ b u, N b → H b = some u → M b) : ∀ {x : Dt} {v : V}, Dd N H x v → Dd M H x v
  | _, _, .non => .non
  | _, _, .bl b => .bl b
  | _, _, .int i => .int i
  | _, _, .str x => .str x
  | _, _, .tup h t => .tup h (t.at k)
  | _, _, .lst n h t => .lst (k _ _ n h) h (t.at k)
  | _, _, .emp n h => .emp (k _ _ n h) h
theorem DdL.at {N M : Addr → Prop} {H : Hp} (k : ∀ b u, N b → H b = some u → M b) : ∀ {xs : List Dt} {vs : List V}, DdL N H xs vs → DdL M H xs vs
  | _, _, .nil => .nil
  | _, _, .cons h t => .cons (h.at k) (t.at k)
end
/-- at any places -/
abbrev Any : Addr → Prop := fun _ => True
theorem Dd.any {N : Addr → Prop} {H : Hp} {x : Dt} {v : V} (h : Dd N H x v) : Dd Any H x v := h.at fun _ _ _ _ => trivial
theorem DdL.any {N : Addr → Prop} {H : Hp} {x : List Dt} {v : List V} (h : DdL N H x v) : DdL Any H x v := h.at fun _ _ _ _ => trivial
theorem Dd.same {N : Addr → Prop} {H G : Hp} {x : Dt} {v : V} (h : Dd N H x v) (s : Same H G) : Dd N G x v := h.kn (.of s)
theorem DdL.same {N : Addr → Prop} {H G : Hp} {x : List Dt} {v : List V} (h : DdL N H x v) (s : Same H G) : DdL N G x v := h.kn (.of s)
section
variable {N : Addr → Prop} {H : Hp}
theorem DdL.len : ∀ {xs : List Dt} {vs : List V}, DdL N H xs vs → xs.length = vs.length
  | _, _, .nil => rfl
  | _, _, .cons _ t => congrArg (· + 1) t.len
theorem DdL.app : ∀ {xs ys : List Dt} {vs ws : List V}, DdL N H xs vs → DdL N H ys ws → DdL N H (xs ++ ys) (vs ++ ws)
  | _, _, _, _, .nil, h => h
  | _, _, _, _, .cons h t, k => .cons h (t.app k)
theorem DdL.get : ∀ {xs : List Dt} {vs : List V} {i : Nat} {v : V}, DdL N H xs vs → vs[i]? = some v → ∃ x, xs[i]? = some x ∧ Dd N H x v
  | _, _, i, v, .nil, e => by simp at e
  | _, _, 0, v, .cons (x := x) (v := w) h t, e => ⟨x, rfl, by rw [← show w = v from Option.some.inj e]; exact h⟩
  | _, _, i + 1, v, .cons h t, e => DdL.get (i := i) t e
theorem DdL.get' : ∀ {xs : List Dt} {vs : List V} {i : Nat} {x : Dt}, DdL N H xs vs → xs[i]? = some x → ∃ v, vs[i]? = some v ∧ Dd N H x v
  | _, _, i, v, .nil, e => by simp at e
  | _, _, 0, v, .cons (x := w) (v := y) h t, e => ⟨y, rfl, by rw [← show w = v from Option.some.inj e]; exact h⟩
  | _, _, i + 1, v, .cons h t, e => DdL.get' (i := i) t e
theorem DdL.drop : ∀ {xs : List Dt} {vs : List V} (n : Nat), DdL N H xs vs → DdL N H (xs.drop n) (vs.drop n)
  | _, _, 0, h => h
  | _, _, n + 1, .nil => .nil
  | _, _, n + 1, .cons _ t => t.drop n
theorem DdL.take : ∀ {xs : List Dt} {vs : List V} (n : Nat), DdL N H xs vs → DdL N H (xs.take n) (vs.take n)
  | _, _, 0, h => .nil
  | _, _, n + 1, .nil => .nil
  | _, _, n + 1, .cons h t => .cons h (t.take n)
theorem DdL.rev : ∀ {xs : List Dt} {vs : List V}, DdL N H xs vs → DdL N H xs.reverse vs.reverse
  | _, _, .nil => .nil
  | _, _, .cons (x := x) (xs := xs) (v := v) (vs := vs) h t => by
    rw [List.reverse_cons, List.reverse_cons]
    exact t.rev.app (.cons h .nil)
theorem DdL.last : ∀ {xs : List Dt} {vs : List V}, DdL N H xs vs → vs ≠ [] → ∃ ys y ws w, xs = ys ++ [y] ∧ vs = ws ++ [w] ∧ DdL N H ys ws ∧ Dd N H y w
  | _, _, .nil, n => absurd rfl n
  | _, _, .cons (x := x) (v := v) h .nil, _ => ⟨[], x, [], v, rfl, rfl, .nil, h⟩
  | _, _, .cons (x := x) (v := v) h (.cons h' t'), _ => by
    obtain ⟨ys, y, ws, w, e1, e2, k, r⟩ := DdL.last (.cons h' t') (by simp)
    exact ⟨x :: ys, y, v :: ws, w, by rw [e1]; rfl, by rw [e2]; rfl, .cons h k, r⟩
theorem DdL.strs : ∀ (xs : List Str), DdL N H (xs.map Dt.str) (xs.map V.str)
  | [] => .nil
  | x :: xs => .cons (.str x) (DdL.strs xs)
theorem DdL.ints : ∀ (xs : List Int), DdL N H (xs.map Dt.int) (xs.map V.int)
  | [] => .nil
  | x :: xs => .cons (.int x) (DdL.ints xs)
end
/-! their classes -/
def Dt.cls : Dt → String
  | .non => "NoneType"
  | .bl _ => "bool"
  | .int _ => "int"
  | .str _ => "str"
  | .tup _ => "tuple"
  | .lst _ => "list"
  | .emp => "dict"
theorem Dd.ty {K : PySem.W.Frag} {N : Addr → Prop} {H : Hp} {x : Dt} {v : V} (h : Dd N H x v) : TyX K H v (.type x.cls) := by
  cases h with
  | non => exact .base .non
  | bl b => exact .base (.bl b)
  | int i => exact .base (.int i)
  | str x => exact .base (.str x)
  | tup h _ => exact .base (.tup h)
  | lst _ h _ => exact .base (.lst h)
  | emp _ h => exact .base (.dK h)
def Dt.isTup : Dt → Bool
  | .tup _ => true
  | _ => false
def Dt.isStr : Dt → Bool
  | .str _ => true
  | _ => false
def Dt.isBl : Dt → Bool
  | .bl _ => true
  | _ => false
def Dt.isInt : Dt → Bool
  | .bl _ => true
  | .int _ => true
  | _ => false
def Dt.isLst : Dt → Bool
  | .lst _ => true
  | _ => false
/-- isinstance of such a thing: the answers -/
theorem kTup (K : PySem.W.Frag) : ∀ x : Dt, PySem.W.kitOne K (.type x.cls) (.type "tuple") = some x.isTup := by
  intro x
  cases x <;> (refine kit_ty ?_; simp only [Dt.cls, Dt.isTup]; decide +kernel)
theorem kStr (K : PySem.W.Frag) : ∀ x : Dt, PySem.W.kitOne K (.type x.cls) (.type "str") = some x.isStr := by
  intro x
  cases x <;> (refine kit_ty ?_; simp only [Dt.cls, Dt.isStr]; decide +kernel)
theorem kBl (K : PySem.W.Frag) : ∀ x : Dt, PySem.W.kitOne K (.type x.cls) (.type "bool") = some x.isBl := by
  intro x
  cases x <;> (refine kit_ty ?_; simp only [Dt.cls, Dt.isBl]; decide +kernel)
theorem kInt (K : PySem.W.Frag) : ∀ x : Dt, PySem.W.kitOne K (.type x.cls) (.type "int") = some x.isInt := by
  intro x
  cases x <;> (refine kit_ty ?_; simp only [Dt.cls, Dt.isInt]; decide +kernel)
theorem kLst (K : PySem.W.Frag) : ∀ x : Dt, PySem.W.kitOne K (.type x.cls) (.type "list") = some x.isLst := by
  intro x
  cases x <;> (refine kit_ty ?_; simp only [Dt.cls, Dt.isLst]; decide +kernel)
/-! as data, shown -/
mutual
def Dt.toP : Dt → PyData
  | .non => .none
  | .bl b => .bool b
  | .int i => .int i
  | .str x => .str x
  | .tup xs => .tuple (Dt.toPs xs)
  | .lst xs => .list (Dt.toPs xs)
  | .emp => .dict []
def Dt.toPs : List Dt → List PyData
  | [] => []
  | x :: xs => x.toP :: Dt.toPs xs
end
section
variable {X : Cx} {pins : List (Addr × Obj)} {σ : L2.St} {H : Hp} {s : Shared} {N : Addr → Prop}
/-- the empty dict, as an object -/
theorem emp_obj (I : Inv X pins σ H s) {a : Addr} (h : H a = some (.dK [])) : ∃ o n, s.heap.get? a = some o ∧ o.cls = .type "dict" ∧ o.data = .dict #[] n ∧ (a == sysModules) = false := by
  obtain ⟨_, low, vs, kv, o, es, ep, ho, hx, hd, _, pr, _⟩ := dk_of I.hok h
  cases kv
  have ee : es = #[] := by
    obtain ⟨l⟩ := es
    cases l with
    | nil => rfl
    | cons e r => cases pr
  subst ee
  exact ⟨o, ep, ho, hx.1, hd, low⟩
mutual
theorem Dd.reads (I : Inv X pins σ H s) : ∀ {x : Dt} {v : V}, Dd N H x v → ∀ {u : Value}, RelV v u → ∃ as, Reads s.heap u x.toP as
  | _, _, .non, _, r => by
    cases r
    exact ⟨_, .none⟩
  | _, _, .bl b, _, r => by
    cases r
    exact ⟨_, .bool b⟩
  | _, _, .int i, _, r => by
    obtain ⟨t, rfl⟩ := r
    exact ⟨_, .int i t⟩
  | _, _, .str x, _, r => by
    obtain ⟨t, rfl⟩ := r
    exact ⟨_, .str x t⟩
  | _, _, .tup h t, _, r => by
    cases r
    obtain ⟨its, rv, ⟨o, ho, hc, n, hd⟩, _⟩ := I.tuple (SqT.of h)
    obtain ⟨as, ra⟩ := t.reads I rv
    exact ⟨_, .tuple ho hc hd ra⟩
  | _, _, .lst _ h t, _, r => by
    cases r
    obtain ⟨its, rv, ⟨o, n, ho, hc, _, hd⟩, _⟩ := I.list (SqL.of h)
    obtain ⟨as, ra⟩ := t.reads I rv
    exact ⟨_, .list ho hc hd ra⟩
  | _, _, .emp _ h, _, r => by
    cases r
    obtain ⟨o, n, ho, hc, hd, _⟩ := emp_obj I h
    exact ⟨_, .dict (kvs := []) ho hc hd .nil .nil⟩
theorem DdL.reads (I : Inv X pins σ H s) : ∀ {xs : List Dt} {vs : List V}, DdL N H xs vs → ∀ {us : List Value}, Vals vs us → ∃ as, ReadsAll s.heap us (Dt.toPs xs) as
  | _, _, .nil, _, r => by
    cases r
    exact ⟨_, .nil⟩
  | _, _, .cons h t, _, r => by
    cases r with
    | cons r1 r2 =>
      obtain ⟨as, ra⟩ := h.reads I r1
      obtain ⟨bs, rb⟩ := t.reads I r2
      exact ⟨_, .cons ra rb⟩
end
theorem shownAll_le {xs : List PyData} {n : Nat} (h : ∀ t ∈ PyData.shownAll xs, t.length ≤ n) : ∀ t ∈ PyData.shownAll xs, t.length ≤ n := h
mutual
theorem Dd.reprK (I : Inv X pins σ H s) : ∀ {x : Dt} {v : V}, Dd N H x v → ∀ {u : Value}, RelV v u → x.toP.showable = true → x.toP.shown.length ≤ sizeLine → ∃ bs, ReadAtMost s.heap x.toP.depth bs ∧ ReprK X.prog X.w bs s.heap x.toP.depth u x.toP.shown
  | _, _, .non, _, r, _, _ => by
    cases r
    exact ⟨[], (fun _ h => nomatch h), by simp only [Dt.toP, PyData.shown]; exact .of_is ReprIs.none _ _ _⟩
  | _, _, .bl b, _, r, _, _ => by
    cases r
    exact ⟨[], (fun _ h => nomatch h), by simp only [Dt.toP, PyData.shown]; exact .of_is (ReprIs.bool b) _ _ _⟩
  | _, _, .int i, _, r, hs, _ => by
    obtain ⟨t, rfl⟩ := r
    exact ⟨[], (fun _ h => nomatch h), by simp only [Dt.toP, PyData.shown]; exact .of_is (ReprIs.int t (by simpa [Dt.toP, PyData.showable] using hs)) _ _ _⟩
  | _, _, .str x, _, r, _, hz => by
    obtain ⟨t, rfl⟩ := r
    exact ⟨[], (fun _ h => nomatch h), by simp only [Dt.toP, PyData.shown]; exact .of_is (ReprIs.str x t (by simpa only [Dt.toP, PyData.shown] using hz)) _ _ _⟩
  | _, _, .tup (a := a) (xs := xs) h t, _, r, hs, hz => by
    cases r
    obtain ⟨its, rv, ⟨o, ho, hc, n, hd⟩, _⟩ := I.tuple (SqT.of h)
    have hz' : (tupleText (PyData.shownAll (Dt.toPs xs))).length ≤ sizeLine := by simpa only [Dt.toP, PyData.shown] using hz
    obtain ⟨as, ra⟩ := t.reads I rv
    obtain ⟨bs, hb, hk⟩ := t.reprK I rv (by simpa [Dt.toP, PyData.showable] using hs) (fun t ht => Nat.le_trans (tupleText_mem_le ht) hz')
    have rd : Reads s.heap (.ref a) (.tuple (Dt.toPs xs)) _ := .tuple ho hc hd ra
    have na : a ∉ bs := not_mem_of_deeper rd (by simp only [PyData.depth]; omega) hb
    have le : PyData.depthAll (Dt.toPs xs) ≤ (PyData.tuple (Dt.toPs xs)).depth := by simp only [PyData.depth]; omega
    exact ⟨a :: bs, ReadAtMost.cons rd le hb, by simp only [Dt.toP, PyData.depth, PyData.shown]; exact ReprK.tuple ho hc hd na hk⟩
  | _, _, .lst (a := a) (xs := xs) (vs := vs) _ h t, _, r, hs, hz => by
    cases r
    obtain ⟨its, rv, ⟨o, n, ho, hc, _, hd⟩, _⟩ := I.list (SqL.of h)
    have hz' : (listText (PyData.shownAll (Dt.toPs xs))).length ≤ sizeLine := by simpa only [Dt.toP, PyData.shown] using hz
    obtain ⟨as, ra⟩ := t.reads I rv
    obtain ⟨bs, hb, hk⟩ := t.reprK I rv (by simpa [Dt.toP, PyData.showable] using hs) (fun t ht => Nat.le_trans (listText_mem_le ht) hz')
    have rd : Reads s.heap (.ref a) (.list (Dt.toPs xs)) _ := .list ho hc hd ra
    have na : a ∉ bs := not_mem_of_deeper rd (by simp only [PyData.depth]; omega) hb
    have le : PyData.depthAll (Dt.toPs xs) ≤ (PyData.list (Dt.toPs xs)).depth := by simp only [PyData.depth]; omega
    refine ⟨a :: bs, ReadAtMost.cons rd le hb, ?_⟩
    simp only [Dt.toP, PyData.depth, PyData.shown]
    cases its with
    | nil =>
      cases rv
      cases t
      simp only [Dt.toPs, PyData.shownAll, listText_nil]
      exact ReprK.listEmpty ho hc hd
    | cons y l => exact ReprK.list ho hc hd na (by simpa using hk.length_eq) (fun i y e => hk.item i y (by simpa using e))
  | _, _, .emp (a := a) _ h, _, r, _, hz => by
    cases r
    obtain ⟨o, n, ho, hc, hd, low⟩ := emp_obj I h
    have rd : Reads s.heap (.ref a) (.dict []) _ := .dict (kvs := []) ho hc hd .nil .nil
    refine ⟨a :: [], ReadAtMost.cons (n := 0) rd (Nat.zero_le _) (fun _ h => nomatch h), ?_⟩
    simp only [Dt.toP, PyData.depth, PyData.shown, PyData.shownKv_eq]
    exact ReprK.dict ho hc hd low (by simp) .nil
theorem DdL.reprK (I : Inv X pins σ H s) : ∀ {xs : List Dt} {vs : List V}, DdL N H xs vs → ∀ {us : List Value}, Vals vs us → PyData.showableAll (Dt.toPs xs) = true → (∀ t ∈ PyData.shownAll (Dt.toPs xs), t.length ≤ sizeLine) →
    ∃ bs, ReadAtMost s.heap (PyData.depthAll (Dt.toPs xs)) bs ∧ ReprAllK X.prog X.w bs s.heap (PyData.depthAll (Dt.toPs xs)) us (PyData.shownAll (Dt.toPs xs))
  | _, _, .nil, _, r, _, _ => by
    cases r
    exact ⟨[], (fun _ h => nomatch h), .nil⟩
  | _, _, .cons (x := x) (xs := xs) h t, _, r, hs, hz => by
    cases r with
    | cons r1 r2 =>
      have hs' : x.toP.showable = true ∧ PyData.showableAll (Dt.toPs xs) = true := by simpa [Dt.toPs, PyData.showableAll] using hs
      obtain ⟨as, ha, ka⟩ := h.reprK I r1 hs'.1 (hz _ (by simp [Dt.toPs, PyData.shownAll]))
      obtain ⟨bs, hb, kb⟩ := t.reprK I r2 hs'.2 (fun t ht => hz _ (by simp [Dt.toPs, PyData.shownAll, ht]))
      have m1 : x.toP.depth ≤ PyData.depthAll (Dt.toPs (x :: xs)) := by simp only [Dt.toPs, PyData.depthAll]; omega
      have m2 : PyData.depthAll (Dt.toPs xs) ≤ PyData.depthAll (Dt.toPs (x :: xs)) := by simp only [Dt.toPs, PyData.depthAll]; omega
      refine ⟨as ++ bs, (ha.mono m1).append (hb.mono m2), ?_⟩
      simp only [Dt.toPs, PyData.shownAll]
      exact .cons ((ka.more fun b hb => List.mem_append_left _ hb).level_le m1) (kb.more_le (fun b hb => List.mem_append_right _ hb) m2)
end
/-- it is shown: within the bounds -/
structure Shw (n : Nat) (x : Dt) : Prop where
  ok : x.toP.showable = true
  dp : x.toP.depth ≤ n
  sz : x.toP.shown.length ≤ sizeLine
def rShowU (n : Nat) : List V → Hp → VK → Prop := fun xs H Q => ∃ (v : V) (x : Dt), xs = [v] ∧ Dd Any H x v ∧ Shw n x ∧ Q (.str x.toP.shown) H
theorem call_showU {n : Nat} (g : Still X.A) (hu : X.A.units + (n + 1) < cLine) : CallR X (.builtin "repr") (rShowU n) := by
  intro pins s σ H xs us Q I r h
  obtain ⟨v, x, rfl, hd, sh, q⟩ := h
  cases r with
  | cons r1 r2 =>
    cases r2
    have done : ∀ (h' : Heap) (u tk : Tok), (∀ b o, s.heap.get? b = some o → h'.get? b = some o) → EP X pins σ Q (.str x.toP.shown u) { s with heap := h', toks := tk } := fun h' u tk hk => ⟨.str _, H, I.kept hk, ⟨u, rfl⟩, q⟩
    have dpx := sh.dp
    cases hd with
    | non =>
      cases r1
      exact PySem.P.repr_of_none (done s.heap _ _ fun _ _ e => e)
    | bl b =>
      cases r1
      exact PySem.P.repr_of_bool (by simpa only [Dt.toP, PyData.shown] using done s.heap _ _ fun _ _ e => e)
    | int i =>
      obtain ⟨t, rfl⟩ := r1
      exact PySem.P.repr_of_int (by simpa [Dt.toP, PyData.showable] using sh.ok) (by simpa only [Dt.toP, PyData.shown] using done s.heap _ _ fun _ _ e => e)
    | str y =>
      obtain ⟨t, rfl⟩ := r1
      exact PySem.P.repr_of_str (by simpa only [Dt.toP, PyData.shown] using done s.heap _ _ fun _ _ e => e) (by simpa only [Dt.toP, PyData.shown] using sh.sz)
    | tup h t =>
      rename_i a ys ws
      cases r1
      obtain ⟨its, rv, ⟨o, ho, hc, m, hd⟩, _⟩ := I.tuple (SqT.of h)
      have hz' : (tupleText (PyData.shownAll (Dt.toPs ys))).length ≤ sizeLine := by simpa only [Dt.toP, PyData.shown] using sh.sz
      obtain ⟨as, ra⟩ := t.reads I rv
      obtain ⟨bs, hb, hk⟩ := t.reprK I rv (by simpa [Dt.toP, PyData.showable] using sh.ok) (fun t ht => Nat.le_trans (tupleText_mem_le ht) hz')
      have rd : Reads s.heap (.ref a) (.tuple (Dt.toPs ys)) _ := .tuple ho hc hd ra
      have na : a ∉ bs := not_mem_of_deeper rd (by simp only [PyData.depth]; omega) hb
      have dp : PyData.depthAll (Dt.toPs ys) + 1 ≤ n := by simpa only [Dt.toP, PyData.depth, Nat.add_comm] using dpx
      exact call_repr_slot (by omega) ⟨o, ho, hc⟩ PySem.F.slot_tuple_repr (call_tuple_reprK ho hc hd na hk (A := X.A.in1) g (fun b _ => Clear.nil b) (by show X.A.units + 1 + _ < cLine; omega) (fun _ _ e => e) (fun h' u tk hk' => ⟨_, _, rfl, by simpa only [Dt.toP, PyData.shown] using done h' u tk hk'⟩) hz')
    | lst _ h t =>
      rename_i a ys ws _
      cases r1
      obtain ⟨its, rv, ⟨o, m, ho, hc, _, hd⟩, _⟩ := I.list (SqL.of h)
      have hz' : (listText (PyData.shownAll (Dt.toPs ys))).length ≤ sizeLine := by simpa only [Dt.toP, PyData.shown] using sh.sz
      obtain ⟨as, ra⟩ := t.reads I rv
      obtain ⟨bs, hb, hk⟩ := t.reprK I rv (by simpa [Dt.toP, PyData.showable] using sh.ok) (fun t ht => Nat.le_trans (listText_mem_le ht) hz')
      have rd : Reads s.heap (.ref a) (.list (Dt.toPs ys)) _ := .list ho hc hd ra
      have na : a ∉ bs := not_mem_of_deeper rd (by simp only [PyData.depth]; omega) hb
      have dp : PyData.depthAll (Dt.toPs ys) + 1 ≤ n := by simpa only [Dt.toP, PyData.depth, Nat.add_comm] using dpx
      cases its with
      | nil =>
        cases rv
        cases t
        exact call_repr_slot (by omega) ⟨o, ho, hc⟩ PySem.F.slot_list_repr.toG (call_list_repr_empty ⟨o, ho, hc⟩ ho hd ⟨_, _, rfl, by
          have z := done s.heap s.toks (s.toks + 1) fun _ _ e => e
          simp only [Dt.toP, Dt.toPs, PyData.shown, PyData.shownAll, listText_nil] at z
          exact z⟩)
      | cons y l =>
        exact call_repr_slot (by omega) ⟨o, ho, hc⟩ PySem.F.slot_list_repr.toG (call_list_reprK ho hc hd na (by simpa using hk.length_eq) (fun i y e => hk.item i y (by simpa using e)) (A := X.A.in1) g (fun b _ => Clear.nil b) (by show X.A.units + 1 + _ < cLine; omega) (fun _ _ e => e) (fun h' u tk hk' => ⟨_, _, rfl, by simpa only [Dt.toP, PyData.shown] using done h' u tk hk'⟩) hz')
    | emp _ h =>
      rename_i a _
      cases r1
      obtain ⟨o, m, ho, hc, hd, low⟩ := emp_obj I h
      have dp : 1 ≤ n := by simpa only [Dt.toP, PyData.depth, PyData.depthKv] using dpx
      exact call_repr_slot (by omega) ⟨o, ho, hc⟩ PySem.F.slot_dict_repr (call_dict_reprK (as := []) (d := 0) (ps := []) ho hc hd low (by simp) .nil (A := X.A.in1) g (fun b _ => Clear.nil b) (by show X.A.units + 1 + _ < cLine; omega) (fun _ _ e => e) (fun h' u tk hk' => ⟨_, _, rfl, by simpa only [Dt.toP, PyData.shown, PyData.shownKv] using done h' u tk hk'⟩) (by decide))
end
end Kv

namespace Kg
open PySem PySem.Spec PyProof.Rows L2 GxR
/-- a def whose code object is known -/
structure FunC (K : PySem.W.Frag) (x qual : Str) (st : Stmt) (f : Addr) (fd : FuncData) (c : Addr) : Prop where
  ex : ∃ (oc : Value) (od : Option Addr) (kV doc pm : Value) (an : Option Addr) (ct : Value) (osl : Array (Option Value)),
    fd = PySem.W.fnOf x qual (defArgs st) (defBody st) (defScope st) .none kV doc pm an (.ref c) ct ∧ K.lookup f = some ⟨oc, od, .func fd, osl⟩ ∧ PySem.W.codeIn K (.ref c) qual = true
section
variable {P : Program} {w : World} {K : PySem.W.Frag} {mg : Str → Option Value} {base : Heap}
theorem FunC.ok {x qual : Str} {st : Stmt} {f : Addr} {fd : FuncData} {c : Addr} {N ps : List Str} {k : Nat} {sp : Sp} (F : FunC K x qual st f fd c) (S : FnScope N ps (defScope st)) (len : ∀ vs H Q E, sp vs H Q E → vs.length = ps.length)
    (hbody : ∀ (A : Around) (outer : List Env) (s : Shared) (H : Hp) (vs : List V) (Q : VK) (E : XK), Room k (A.deeper (envOfC qual (defScope st) s.heap.objs.size f (.ref c))) → sp vs H Q E →
      ∃ t, PSs (cxOf CX0 P w K mg base N qual (defScope st) f (.ref c) A outer s H E).nox (defBody st) t ∧ t { nx := fun _ H' => Q .non H', rt := Q } (start N vs) H) : FnOk P w K mg base CX0 (k + 1) f fd ps sp := by
  obtain ⟨oc, od, kV, doc, pm, an, ct, osl, rfl, lk, hcd⟩ := F.ex
  refine fn_of lk hcd S len fun A outer s H vs Q E hr hsp => ?_
  obtain ⟨t, h, q⟩ := hbody A outer s H vs Q E hr hsp
  exact ⟨t, h.nox, q⟩
theorem funC_mk {x qual : Str} {st : Stmt} {f c : Addr} {oc : Value} {od an : Option Addr} {osl : Array (Option Value)} {kV doc pm ct : Value} (l : K.lookup f = some ⟨oc, od, .func (PySem.W.fnOf x qual (defArgs st) (defBody st) (defScope st) .none kV doc pm an (.ref c) ct), osl⟩)
    (h : PySem.W.codeIn K (.ref c) qual = true) : FunC K x qual st f (PySem.W.fnOf x qual (defArgs st) (defBody st) (defScope st) .none kV doc pm an (.ref c) ct) c := ⟨⟨oc, od, kV, doc, pm, an, ct, osl, rfl, l, h⟩⟩
end
def gxSB (N : List Str) (sc scope : Scope) (own : List Str) (caps : List (Str × Nat)) : Bool :=
  decide (scope.kind = .function) && !scope.isCoroutine && scope.names.all (fun y => !decide (y.2 = .cell)) && decide (scope.names.lookup (".0" : Str) = some NameKind.local) && decide ((own ++ caps.map (·.1)).Nodup) &&
  caps.all (fun p => decide (N[p.2]? = some p.1) && decide (scope.names.lookup p.1 = some .free)) && scope.names.all (fun y => !decide (y.2 = .free) || decide (sc.names.lookup y.1 = some .cell) || decide (sc.names.lookup y.1 = some .free)) && scope.names.all fun y => decide (scope.names.lookup y.1 = some y.2)
theorem gxS_by {N : List Str} {sc scope : Scope} {own : List Str} {caps : List (Str × Nat)} (h : gxSB N sc scope own caps = true) : GxS N sc scope own caps := by
  unfold gxSB at h
  simp only [Bool.and_eq_true, Bool.or_eq_true, Bool.not_eq_true', decide_eq_true_eq, decide_eq_false_iff_not, List.all_eq_true] at h
  obtain ⟨⟨⟨⟨⟨⟨⟨h1, h2⟩, h3⟩, h4⟩, h5⟩, h6⟩, h7⟩, h8⟩ := h
  refine ⟨h1, h2, h3, h4, h5, h6, fun y hy e => ?_, h8⟩
  rcases h7 y hy with (z | z) | z
  · exact absurd e z
  · exact .inl z
  · exact .inr z
/-! the tables of code objects -/
def TbS (T : List Addr) (H : Hp) : Prop := ∀ p ∈ T, TabG H p
/-- all but the tables stands; they are tables -/
def Sm (T : List Addr) (H G : Hp) : Prop := (∀ b u, b ∉ T → H b = some u → G b = some u) ∧ TbS T G
theorem TbS.same {T : List Addr} {H G : Hp} (t : TbS T H) (s : Same H G) : TbS T G := fun p hp => by
  obtain ⟨ps, h1, h2⟩ := t p hp
  exact ⟨ps, s _ _ h1, h2⟩
theorem Sm.refl {T : List Addr} {H : Hp} (t : TbS T H) : Sm T H H := ⟨fun _ _ _ e => e, t⟩
theorem Sm.of {T : List Addr} {H G : Hp} (s : Same H G) (t : TbS T H) : Sm T H G := ⟨fun b u _ e => s b u e, t.same s⟩
theorem Sm.trans {T : List Addr} {H G F : Hp} (a : Sm T H G) (b : Sm T G F) : Sm T H F := ⟨fun x u h e => b.1 x u h (a.1 x u h e), b.2⟩
theorem Sm.tab {T : List Addr} {H G : Hp} {p : Addr} (hp : p ∈ T) (t : TbS T H) (h : Tabbed p H G) : Sm T H G := by
  refine ⟨fun b u hb e => ?_, fun q hq => ?_⟩
  · rw [h.2 b (fun z => hb (by rw [z]; exact hp))]
    exact e
  · by_cases z : q = p
    · rw [z]
      exact h.1
    · obtain ⟨ps, h1, h2⟩ := t q hq
      exact ⟨ps, by rw [h.2 q z]; exact h1, h2⟩
theorem TbS.off {T : List Addr} {H : Hp} {b : Addr} {u : HO} (t : TbS T H) (e : H b = some u) (n : ∀ ps, u ≠ .tbl ps) : b ∉ T := fun hb => by
  obtain ⟨ps, h1, _⟩ := t b hb
  rw [e] at h1
  exact n ps (Option.some.inj h1)
theorem Sm.at {T : List Addr} {H G : Hp} (a : Sm T H G) (t : TbS T H) {b : Addr} {u : HO} (e : H b = some u) (n : ∀ ps, u ≠ .tbl ps) : G b = some u := a.1 b u (t.off e n) e
theorem Sm.free {T : List Addr} {H G : Hp} {p : Addr} (a : Sm T H G) (h : G p = none) : H p = none := by
  cases e : H p with
  | none => rfl
  | some u =>
    by_cases hp : p ∈ T
    · obtain ⟨ps, h1, _⟩ := a.2 p hp
      rw [h] at h1
      cases h1
    · rw [a.1 p u hp e] at h
      cases h
/-! all over a list, over a tuple -/
section
variable {K : PySem.W.Frag} {a : Addr} {xs : List V} {g : TG} {te : TE} {vs : List Nat} {σ0 : L2.St} {G : Hp} {Qe : Bool → Hp → Prop}
theorem all_list (Pv : Nat → Hp → Prop) (h0 : Pv 0 G) (hl : ∀ i H, i ≤ xs.length → Pv i H → SqL K H a xs)
    (hs : ∀ i x H, xs[i]? = some x → Pv i H → g x σ0 H fun σ2 H2 => wipe σ2 vs = σ0 ∧ te σ2 H2 fun y H4 => ∃ b, y = .bl b ∧ if b = true then Pv (i + 1) H4 else Qe false H4) (hd : ∀ H, Pv xs.length H → Qe true H) :
    ∃ W : Nat → Nat → Hp → Prop, (∃ m, W 0 m G) ∧ Turns (Itl K a) σ0 vs g te Qe W := by
  refine ⟨fun i m F => m = xs.length - i ∧ i ≤ xs.length ∧ Pv i F, ⟨_, rfl, Nat.zero_le _, h0⟩, fun i m F z => ?_⟩
  obtain ⟨rfl, hi, p⟩ := z
  have q := hl i F hi p
  by_cases lt : i < xs.length
  · refine .inr ⟨⟨xs, xs[i], q, List.getElem?_eq_getElem lt⟩, Pv (i + 1), fun F' p' => ⟨xs.length - (i + 1), by omega, rfl, lt, p'⟩, fun x F' y => ?_⟩
    obtain ⟨e, y⟩ := y
    subst e
    exact hs i x _ (y xs q) p
  · have e : i = xs.length := by omega
    subst e
    exact .inl ⟨⟨xs, q, Nat.le_refl _⟩, hd F p⟩
theorem all_tup (Pv : Nat → Hp → Prop) (h0 : Pv 0 G) (hl : ∀ i H, i ≤ xs.length → Pv i H → SqT K H a xs)
    (hs : ∀ i x H, xs[i]? = some x → Pv i H → g x σ0 H fun σ2 H2 => wipe σ2 vs = σ0 ∧ te σ2 H2 fun y H4 => ∃ b, y = .bl b ∧ if b = true then Pv (i + 1) H4 else Qe false H4) (hd : ∀ H, Pv xs.length H → Qe true H) :
    ∃ W : Nat → Nat → Hp → Prop, (∃ m, W 0 m G) ∧ Turns (Itt K a) σ0 vs g te Qe W := by
  refine ⟨fun i m F => m = xs.length - i ∧ i ≤ xs.length ∧ Pv i F, ⟨_, rfl, Nat.zero_le _, h0⟩, fun i m F z => ?_⟩
  obtain ⟨rfl, hi, p⟩ := z
  have q := hl i F hi p
  by_cases lt : i < xs.length
  · refine .inr ⟨⟨xs, xs[i], q, List.getElem?_eq_getElem lt⟩, Pv (i + 1), fun F' p' => ⟨xs.length - (i + 1), by omega, rfl, lt, p'⟩, fun x F' y => ?_⟩
    obtain ⟨e, y⟩ := y
    subst e
    exact hs i x _ (y xs q) p
  · have e : i = xs.length := by omega
    subst e
    exact .inl ⟨⟨xs, q, Nat.le_refl _⟩, hd F p⟩
/-- all over what walks -/
theorem all_it {J : It} {n : Nat} {I : Hp → Prop} {Y : Nat → Hp → V → Hp → Prop} (w : Walk J n I Y) (Pv : Nat → Hp → Prop) (h0 : Pv 0 G) (hl : ∀ i H, i ≤ n → Pv i H → I H)
    (hs : ∀ i x H H', i < n → Pv i H → Y i H x H' → g x σ0 H' fun σ2 H2 => wipe σ2 vs = σ0 ∧ te σ2 H2 fun y H4 => ∃ b, y = .bl b ∧ if b = true then Pv (i + 1) H4 else Qe false H4) (hd : ∀ H, Pv n H → Qe true H) :
    ∃ W : Nat → Nat → Hp → Prop, (∃ m, W 0 m G) ∧ Turns J σ0 vs g te Qe W := by
  refine ⟨fun i m F => m = n - i ∧ i ≤ n ∧ Pv i F, ⟨_, rfl, Nat.zero_le _, h0⟩, fun i m F z => ?_⟩
  obtain ⟨rfl, hi, p⟩ := z
  have q := hl i F hi p
  by_cases lt : i < n
  · exact .inr ⟨w.goes i F lt q, Pv (i + 1), fun F' p' => ⟨n - (i + 1), by omega, rfl, lt, p'⟩, fun x F' y => hs i x F F' lt p (w.yields i F x F' lt q y)⟩
  · have e : i = n := by omega
    subst e
    exact .inl ⟨w.stops F q, hd F p⟩
theorem Sm.kn {T : List Addr} {N : Addr → Prop} {H G : Hp} (a : Sm T H G) (t : TbS T H) : Kv.Kn N H G :=
  ⟨fun b xs e => a.at t e (fun ps z => by cases z), fun b xs _ e => a.at t e (fun ps z => by cases z), fun b xs _ e => a.at t e (fun ps z => by cases z)⟩
theorem Sm.new {T : List Addr} {H G : Hp} {p : Addr} {o : HO} (a : Sm T H G) (h : H p = none) (tb : TbS T H) : Sm T H (upd G p o) := by
  refine ⟨fun b u hb e => ?_, fun q hq => ?_⟩
  · rw [upd_ne (ne_of_none e h)]
    exact a.1 b u hb e
  · obtain ⟨ps, h1, h2⟩ := a.2 q hq
    obtain ⟨ps0, h10, _⟩ := tb q hq
    exact ⟨ps, by rw [upd_ne (ne_of_none h10 h)]; exact h1, h2⟩
end
end Kg

/-! dict(..) of a tuple of pairs, a tuple of two turned about -/
namespace Kt
open PySem PySem.Spec PyProof.Rows L2
section
variable {X : Cx}
/-- tuple(l): the object is known -/
theorem call_tupleF : CallR X (.type "tuple") (fun xs H Q => ∃ p ys, xs = [.ref p] ∧ SqL X.K H p ys ∧ ∀ l (o : Obj), H l = none → o.dict = none → o.cls = .type "tuple" → Q (.ref l) (upd H l (.frz o (.tup ys)))) := by
  intro pins s σ H xs us Q I r h
  obtain ⟨p, ys, rfl, hq, q⟩ := h
  obtain ⟨u, rfl, rx⟩ := vals1 r
  cases rx
  obtain ⟨its, r', pl, hz⟩ := I.list hq
  have hlen := r'.length
  refine call_tuple_list pl.isList (fun h' kp => ?_) (by simp only [List.size_toArray] <;> omega)
  have I1 : Inv X pins σ H { s with heap := h' } := I.kept (t' := s.toks) kp
  have I2 : Inv X pins σ (upd H h'.objs.size (.frz { cls := .type "tuple", data := .seq its.toArray } (.tup ys))) { s with heap := h'.push { cls := .type "tuple", data := .seq its.toArray } } :=
    I1.laid (t' := s.toks) (fun b o e => Heap.get?_push_of_some _ e) (Nat.le_refl _) (show ObjOk X.prog X.w _ _ _ (.frz _ (.tup ys)) from ⟨Heap.get?_push_size _ rfl, hz, its, r', IsTup.new _ _⟩)
  exact ⟨.ref h'.objs.size, _, I2, rfl, q _ _ (I1.hok.fresh (Nat.le_refl _)) rfl rfl⟩
/-- () -/
def tTup0 : TE := fun _ H Q => ∀ p (o : Obj), H p = none → o.dict = none → o.cls = .type "tuple" → Q (.ref p) (upd H p (.frz o (.tup [])))
theorem pe_tup0 {x1 : Nat} {pos : Pos} : PE X (.Tuple [] x1 pos) tTup0 := by
  refine ⟨fun pins s σ H Q I h => ?_⟩
  refine wpAny_Tuple_spliced (thn ((pa_nil (X := X)).run pos pins s σ H (fun xs H1 => xs = [] ∧ H1 = H) I ⟨rfl, rfl⟩) fun us s1 ⟨xs, H1, I1, r, e1, e2⟩ => ?_)
  subst e1 e2
  cases r
  refine ⟨Nat.zero_le _, ?_⟩
  refine ⟨.ref s1.heap.objs.size, _, I1.laid (t' := s1.toks) (o := .frz { cls := .type "tuple", data := .seq ([] : List Value).toArray } (.tup [])) (fun b u e => Heap.get?_push_of_some _ e) (Nat.le_refl _) ?_, rfl, h _ _ (I1.hok.fresh (Nat.le_refl _)) rfl rfl⟩
  exact ⟨Heap.get?_push_size _ rfl, Nat.zero_le _, [], .nil, IsTup.new _ _⟩
theorem raws_of {pins : List (Addr × Obj)} {σ : L2.St} {H : Hp} {s : Shared} (I : Inv X pins σ H s) : ∀ {ps : List Addr} {kvs : List (Key × V)}, Paired (fun p kv => SqT X.K H p [kV kv.1, kv.2]) ps kvs →
    ∃ (prs : List (Key × Value)) (raws : List (Value × Value)), KV kvs prs ∧ prs.length = ps.length ∧ raws.length = ps.length ∧ ∀ (j : Nat) (u v : Value), raws[j]? = some (u, v) → ∃ (b : Addr) (k : Key), ps[j]? = some b ∧ IsTup s.heap b #[u, v] ∧ prs[j]? = some (k, v) ∧ keyIs k u = true
  | _, _, .nil => ⟨[], [], .nil, rfl, rfl, fun j u v e => by simp at e⟩
  | _, _, .cons (a := p) (b := kv) h t => by
    obtain ⟨prs, raws, r, hl, hl2, hp⟩ := raws_of I t
    obtain ⟨its, rv, ht, _⟩ := I.tuple h
    obtain ⟨u, y, ei, ru, ry⟩ := vals2 rv
    subst ei
    refine ⟨(kv.1, y) :: prs, (u, y) :: raws, .cons ⟨rfl, ry⟩ r, by rw [List.length_cons, List.length_cons, hl], by rw [List.length_cons, List.length_cons, hl2], fun j u' v' e => ?_⟩
    cases j with
    | zero =>
      have e' : (u, y) = (u', v') := Option.some.inj e
      cases e'
      exact ⟨p, kv.1, rfl, ht, rfl, kV_is (P := X.prog) (w := X.w) ru⟩
    | succ j =>
      obtain ⟨b, k, e1, e2, e3, e4⟩ := hp j u' v' (by simpa using e)
      exact ⟨b, k, by simpa using e1, e2, by simpa using e3, e4⟩
/-- dict(t) of a tuple of pairs -/
theorem call_dictF (hcalm : X.calm = true) : CallR X (.type "dict") (fun xs H Q => ∃ (a : Addr) (o : Obj) (ps : List Addr) (kvs : List (Key × V)), xs = [.ref a] ∧ H a = some (.frz o (.tup (ps.map V.ref))) ∧ o.dict = none ∧ o.cls = .type "tuple" ∧ Paired (fun p kv => SqT X.K H p [kV kv.1, kv.2]) ps kvs ∧
    ∀ p, H p = none → Q (.ref p) (upd H p (.dK (mergeK [] kvs)))) := by
  intro pins s σ H xs us Q I r q
  obtain ⟨a, o, ps, kvs, ex, hq, hod, hoc, hp, q⟩ := q
  subst ex
  obtain ⟨u, eu, rx⟩ := vals1 r
  subst eu
  cases rx
  obtain ⟨ho, hz, its, rv, o2, ho2, hc2, n2, hdat⟩ := I.hok a _ hq
  rw [ho] at ho2
  cases ho2
  have ei := refs_at rv
  subst ei
  rw [List.length_map] at hz
  obtain ⟨prs, raws, rel, hl, hl2, hpr⟩ := raws_of I hp
  have PA := PairArg.tuple (prog := X.prog) (w := X.w) a (ps.map Value.ref).toArray (fun j => (ps[j]?).getD 0) raws
  refine PySem.call_dict_pairs (knd := mixKind X.prog X.w) (kvs := prs) PA (I.ok.hd hcalm) ⟨⟨o, n2, ho, hoc, hod, hdat⟩, by simp [hl2], fun j k v e => ?_⟩ ⟨by rw [hl, hl2], fun i key v e => ?_⟩ (by rw [hl2]; exact hz) fun h' tk hd' k => ?_
  · obtain ⟨b, kk, e1, e2, e3, e4⟩ := hpr j k v e
    refine ⟨by simp [e1], .inl ?_⟩
    show s.heap.IsTuple ((ps[j]?).getD 0) #[k, v]
    rw [e1]
    exact e2
  · obtain ⟨b, kk, e1, e2, e3, e4⟩ := hpr i key v e
    exact ⟨kk, e3, e4⟩
  · have hm : (s.heap.objs.size == sysModules) = false := beq_eq_false_iff_ne.mpr (Nat.ne_of_gt I.big)
    have hlen : (mergeK [] kvs).length ≤ sizeLine := by
      refine Nat.le_trans (length_mergeK kvs []) ?_
      rw [List.length_nil, Nat.zero_add, rel.length, hl]
      exact hz
    exact ⟨.ref s.heap.objs.size, upd H s.heap.objs.size (.dK (mergeK [] kvs)), I.laid (t' := tk) (fun b o e => k b o (by simp) e) (Nat.le_refl _) (show ObjOk X.prog X.w _ _ _ (.dK (mergeK [] kvs)) from ⟨hlen, hm, merged [] prs, KV.merge rel .nil, hd'⟩), rfl, q _ (I.hok.fresh (Nat.le_refl _))⟩
end
/-! t[::-1], t of two -/
section
variable {prog : Program} {w : World} {A : Around} {E : Value → Shared → Prop} {s : Shared}
theorem getItem_two {t sl : Addr} {x y vl vu vs : Value} {Q : Value → Shared → Prop} (ht : IsTup s.heap t #[x, y]) (hs : s.heap.IsSliceOf sl vl vu vs) (pl : IsPart vl none) (pu : IsPart vu none) (ps : IsPart vs (some (-1)))
    (h : Q (.ref s.heap.objs.size) { s with heap := s.heap.push { cls := .type "tuple", data := .seq #[y, x] } }) : wpAny (model prog w) A (getItem (.ref t) (.ref sl)) Q E s := by
  have htake : sizeOk (.seq #[y, x]) := by
    show 2 ≤ sizeLine
    decide
  obtain ⟨os, hos, hcs, hds⟩ := id hs
  have hTs : s.TypeIs (.ref sl) "slice" := ⟨os, hos, hcs⟩
  unfold getItem
  try with_reducible refine wpAny_holding ?_
  first | refine wpAny_bind (wpAny_pure ?_) | skip
  refine wpAny_bind (wpAny_sequenceKey ht.typeIs (by decide) ?_)
  refine wpAny_bind (wpAny_callSpecial?_slot (name := Str.ofString "__getitem__") ht.typeIs PyProof.Rows.slot_tuple_getitem
    (wpAny_call_entry PyProof.Rows.slot_tuple_getitem ht.typeIs entry_tuple_getitem ?_ (args_tuple_getitem _ _)))
  show wpAny _ _ (Builtin.Tuple.tupleItemsOf (.ref t) >>= _) _ _ s
  refine wpAny_bind (tupleItemsOf_ ht ?_)
  refine wpAny_bind (wpAny_typeOf hTs ?_)
  rw [if_pos (by decide)]
  refine wpAny_bind ?_
  unfold Builtin.Slice.sliceApplied Builtin.Slice.sliceFields
  refine wpAny_bind (wpAny_bind (wpAny_field hos hds (x := vl) rfl (wpAny_bind (wpAny_field hos hds (x := vu) rfl (wpAny_bind (wpAny_field hos hds (x := vs) rfl (wpAny_pure ?_)))))))
  refine wpAny_bind (HT.slicePart_ ps ?_)
  show wpAny _ _ (if ((-1 : Int) == 0) = true then _ else _) _ _ s
  rw [if_neg (by decide)]
  refine wpAny_bind (HT.slicePart_ pl (wpAny_bind (HT.slicePart_ pu (wpAny_bind (wpAny_pure ?_)))))
  refine wpAny_pure ?_
  show wpAny _ _ (if (((1 : Int) == 0 && (-1 : Int) == 1 && (2 : Nat) == 2) = true) then _ else _) _ _ s
  rw [if_neg (by decide)]
  generalize hA : (List.filterMap _ (List.range _)).toArray = arr
  have eA : arr = #[y, x] := by
    rw [← hA]
    first
      | rfl
      | kernel_rfl
      | with_unfolding_all rfl
  subst eA
  show wpAny _ _ (Builtin.Tuple.tupleExact #[y, x] >>= fun v => ret v) _ _ s
  have e : ((List.range 2).filterMap fun (m : Nat) => (#[x, y] : Array Value)[((1 : Int) + (m : Int) * (-1)).toNat]?).toArray = #[y, x] := rfl
  first
    | exact wpAny_bind (m := Builtin.Tuple.tupleExact _) (wpAny_newObj_type (wpAny_pure ⟨_, rfl, wpAny_pure h⟩) htake)
    | exact wpAny_bind (m := Builtin.Tuple.tupleExact _) (wpAny_newObj_type (wpAny_bind (wpAny_pure (wpAny_pure ⟨_, rfl, wpAny_pure h⟩))) htake)
    | exact wpAny_bind (wpAny_bind (m := Builtin.Tuple.tupleExact _) (wpAny_newObj_type (wpAny_pure (wpAny_pure ⟨_, rfl, wpAny_pure h⟩)) htake))
    | exact wpAny_bind (wpAny_bind (m := Builtin.Tuple.tupleExact _) (wpAny_newObj_type (wpAny_pure ⟨_, rfl, wpAny_pure h⟩) htake))
end
section
variable {X : Cx}
def tRev2 (K : PySem.W.Frag) (te : TE) : TE := fun σ H Q => te σ H fun x H1 => ∃ a y z, x = .ref a ∧ SqT K H1 a [y, z] ∧ ∀ p, H1 p = none → Q (.ref p) (upd H1 p (.tup [z, y]))
theorem pe_rev2 {e : Expr} {te : TE} {k : Nat} {p1 p2 p3 pos : Pos} (he : PE X e te) : PE X (.Subscript e (.Slice none none (some (.UnaryOp .USub (.Constant (.int 1) k p1) p2)) p3) pos) (tRev2 X.K te) := by
  refine ⟨fun pins s σ H Q I h => ?_⟩
  refine Subscript_ (thn (he.run pins s σ H _ I h) fun v s1 ⟨x, H1, I1, r1, q1⟩ => ?_)
  obtain ⟨a, y, z, ex, hx, q⟩ := q1
  subst ex
  cases r1
  have hst : PO X (some (.UnaryOp .USub (.Constant (.int 1) k p1) p2)) (tPart (tUn (rU fun i => .int (-i)) (tC (.int 1)))) := po_some (pe_un un_neg pe_int)
  refine wpAny_Slice (thn (po_none.run pins s1 σ H1 (fun o H2 => o = none ∧ H2 = H1) I1 ⟨rfl, rfl⟩) fun vl s2 ⟨l, H2, I2, pl, el, e2⟩ => ?_)
  subst el e2
  refine thn (po_none.run pins s2 σ H2 (fun o H3 => o = none ∧ H3 = H2) I2 ⟨rfl, rfl⟩) fun vu s3 ⟨u, H3, I3, pu, eu, e3⟩ => ?_
  subst eu e3
  refine thn (hst.run pins s3 σ H3 (fun o H4 => o = some (-1) ∧ H4 = H3) I3 ⟨1, rfl, -1, rfl, rfl, rfl⟩) fun vs s4 ⟨o, H4, I4, ps, eo, e4⟩ => ?_
  subst eo e4
  have I5 : Inv X pins σ H4 { s4 with heap := s4.heap.push { cls := .type "slice", data := .fields #[vl, vu, vs] } } := I4.kept (t' := s4.toks) fun b ob q => Heap.get?_push_of_some _ q
  obtain ⟨its, r, ht, hz⟩ := I5.tuple hx
  obtain ⟨yv, zv, ei, ry, rz⟩ := vals2 r
  subst ei
  show wpAny (model X.prog X.w) X.A (subscriptTail e (.Slice none none (some (.UnaryOp .USub (.Constant (.int 1) k p1) p2)) p3) (.ref a) (.ref s4.heap.objs.size)) (EP X pins σ Q) X.xe { s4 with heap := s4.heap.push { cls := .type "slice", data := .fields #[vl, vu, vs] } }
  refine tail_any (ops := [.ref a, .ref s4.heap.objs.size]) ht.typeIs (PyProof.Rows.slot_tuple_getitem.lookup) ?_ (by with_unfolding_all rfl)
  refine getItem_two ht (Heap.IsSliceOf.new _ vl vu vs) pl pu ps ?_
  refine ⟨.ref _, _, I5.laid (t' := s4.toks) (o := .tup [z, y]) (fun b ob q => Heap.get?_push_of_some _ q) (Nat.le_refl _) ?_, rfl, q _ (I5.hok.fresh (Nat.le_refl _))⟩
  exact ⟨by show 2 ≤ sizeLine; decide, [zv, yv], .cons rz (.cons ry .nil), IsTup.new _ _⟩
end
end Kt

/-! further rules: == of tuples by texts, enumerate of a tuple, a text many times, a tuple turned about -/
namespace Kv
open PySem PySem.Spec PyProof.Rows L2 Kf
theorem vals_at : ∀ {xs : List V} {us : List Value} {i : Nat} (h : i < us.length), Vals xs us → ∃ x, xs[i]? = some x ∧ RelV x us[i]
  | _, _, i, h, .nil => absurd h (Nat.not_lt_zero _)
  | _, _, 0, h, .cons r t => ⟨_, rfl, r⟩
  | _, _, i + 1, h, .cons r t => by
    obtain ⟨x, e, q⟩ := vals_at (i := i) (Nat.lt_of_succ_lt_succ h) t
    exact ⟨x, e, q⟩
/-- at places that both have stand texts -/
def BothTxt (xs ys : List V) : Prop := ∀ (i : Nat) (u v : V), xs[i]? = some u → ys[i]? = some v → ∃ a b : Str, u = .str a ∧ v = .str b
def rEqTT (K : PySem.W.Frag) : R2 := fun x y H Q => ∃ (a b : Addr) (xs ys : List V), x = .ref a ∧ y = .ref b ∧ SqT K H a xs ∧ SqT K H b ys ∧ BothTxt xs ys ∧ Q (.bl (decide (xs = ys))) H
theorem op_eqTT {X : Cx} (hu : X.A.units + 64 < cLine) : OpR X (compareOp .Eq) (rEqTT X.K) := by
  intro pins s σ H x y v u Q I rx ry h
  obtain ⟨a, b, xs, ys, rfl, rfl, ha, hb, bt, q⟩ := h
  cases rx
  cases ry
  obtain ⟨is, r1, ⟨o1, h1, c1, n1, d1⟩, _⟩ := I.tuple ha
  obtain ⟨js, r2, ⟨o2, h2, c2, n2, d2⟩, _⟩ := I.tuple hb
  have l1 := r1.length
  have l2 := r2.length
  refine PySem.SeqAt.eq_tupleAt (e := fun i => decide (xs[i]? = ys[i]?)) ⟨o1, h1, c1, n1, d1⟩ ⟨o2, h2, c2, n2, d2⟩ (by omega) (fun j j1 j2 => ?_) ?_
  · have j1' : j < is.length := by simpa using j1
    have j2' : j < js.length := by simpa using j2
    obtain ⟨p, ep, rp⟩ := vals_at j1' r1
    obtain ⟨p', ep', rp'⟩ := vals_at j2' r2
    obtain ⟨sa, sb, rfl, rfl⟩ := bt j p p' ep ep'
    obtain ⟨t1, e1⟩ := rp
    obtain ⟨t2, e2⟩ := rp'
    have z := PySem.SeqAt.EqAt.str_str (A := X.A.in1) (s := s) sa t1 sb t2
    simp only [List.getElem_toArray, e1, e2, ep, ep']
    have e : decide (some (V.str sa) = some (V.str sb)) = (sa == sb) := by
      by_cases c : sa = sb
      · subst c
        simp
      · have : ¬ some (V.str sa) = some (V.str sb) := fun z => c (V.str.inj (Option.some.inj z))
        rw [decide_eq_false this]
        exact (beq_eq_false_iff_ne.mpr c).symm
    rw [e]
    exact z
  · have e : ((List.range (min is.toArray.size js.toArray.size)).all (fun i => decide (xs[i]? = ys[i]?)) && is.toArray.size == js.toArray.size) = decide (xs = ys) := by
      rw [List.size_toArray, List.size_toArray, ← l1, ← l2]
      by_cases c : xs = ys
      · subst c
        simp
      · rw [decide_eq_false c]
        by_cases cl : xs.length = ys.length
        · rw [Bool.and_eq_false_iff]
          left
          rw [← Bool.not_eq_true, List.all_eq_true]
          intro all
          refine c (List.ext_getElem? fun i => ?_)
          by_cases hi : i < xs.length
          · exact of_decide_eq_true (all i (List.mem_range.mpr (by omega)))
          · rw [List.getElem?_eq_none (by omega), List.getElem?_eq_none (by omega)]
        · rw [Bool.and_eq_false_iff]
          right
          exact beq_eq_false_iff_ne.mpr cl
    rw [e]
    exact ⟨.bl _, H, I, rfl, q⟩
/-! a text many times -/
theorem fold_app : ∀ (l : List (Array Nat)) (acc : Array Nat), (l.foldl (· ++ ·) acc).toList = acc.toList ++ (l.map Array.toList).flatten
  | [], acc => by simp
  | x :: l, acc => by
    rw [List.foldl_cons, fold_app l]
    simp [Array.toList_append, List.append_assoc]
theorem mul_cps (z : Str) (n : Nat) : (∀ c ∈ (Txt.mul z (n : Int)).cps.toList, c ∈ z.cps.toList) ∧ (Txt.mul z (n : Int)).cps.toList.length ≤ z.cps.toList.length * n := by
  unfold Txt.mul
  by_cases h1 : (n : Int) < 1
  · rw [if_pos h1]
    exact ⟨fun c h => absurd h (by simp [Str.empty]), by simp [Str.empty]⟩
  rw [if_neg h1]
  by_cases h2 : ((n : Int) == 1 || z.length == 0) = true
  · rw [if_pos h2]
    exact ⟨fun c h => h, Nat.le_mul_of_pos_right _ (by omega)⟩
  rw [if_neg h2]
  show (∀ c ∈ ((List.replicate (n : Int).toNat z.cps).foldl (· ++ ·) #[]).toList, c ∈ z.cps.toList) ∧ ((List.replicate (n : Int).toNat z.cps).foldl (· ++ ·) #[]).toList.length ≤ _
  rw [fold_app, Int.toNat_natCast, List.map_replicate]
  refine ⟨fun c h => ?_, ?_⟩
  · have h' : c ∈ (List.replicate n z.cps.toList).flatten := by simpa using h
    obtain ⟨l, hl, hc⟩ := List.mem_flatten.mp h'
    rw [(List.mem_replicate.mp hl).2] at hc
    exact hc
  · have e : ((#[] : Array Nat).toList ++ (List.replicate n z.cps.toList).flatten).length = n * z.cps.toList.length := by simp
    rw [e, Nat.mul_comm]
    exact Nat.le_refl _
def rMulS : R2 := fun x y H Q => ∃ (z : Str) (n : Nat), x = .str z ∧ y = .int (n : Int) ∧ n ≤ 1000 ∧ z.length ≤ sizeLine ∧ z.length * n ≤ sizeLine ∧ Q (.str (Txt.mul z (n : Int))) H
theorem op_mulS {X : Cx} : OpR X (binaryOp .Mult) rMulS := by
  intro pins s σ H x y v u Q I rx ry h
  obtain ⟨z, n, rfl, rfl, hn, hz0, hz1, q⟩ := h
  have hz : z.length ≤ 16777216 := hz0
  obtain ⟨t1, rfl⟩ := rx
  obtain ⟨t2, rfl⟩ := ry
  refine SB.mul (x := z) (n := (n : Int)) ⟨?_, fun h1 _ => ?_, fun h1 _ => ?_⟩ fun t' k => ⟨.str _, H, I.tok _, ⟨t', rfl⟩, q⟩
  · have a : decide ((n : Int) < -(2 ^ 63 : Int)) = false := decide_eq_false (by omega)
    have b : decide ((n : Int) ≥ 2 ^ 63) = false := decide_eq_false (by omega)
    rw [a, b]
    rfl
  · have h0 : (0 : Int) < (n : Int) := by omega
    have h3 : (16777216 : Int) ≤ (2 ^ 63 - 1) / (n : Int) := by
      rw [Int.le_ediv_iff_mul_le h0]
      omega
    omega
  · have le : z.length * (n : Int).toNat ≤ 16777216 := by
      rw [Int.toNat_natCast]
      exact hz1
    unfold Builtin.Str.tooLong
    exact decide_eq_false (by have : sizeLine = 16777216 := rfl; omega)
/-! a tuple turned about -/
theorem fm_congr {α β : Type} {f g : α → Option β} : ∀ {l : List α}, (∀ x ∈ l, f x = g x) → l.filterMap f = l.filterMap g
  | [], _ => rfl
  | x :: l, h => by
    rw [List.filterMap_cons, List.filterMap_cons, h x List.mem_cons_self, fm_congr fun y hy => h y (List.mem_cons_of_mem _ hy)]
section
variable {prog : Program} {w : World} {A : Around} {E : Value → Shared → Prop} {s : Shared}
theorem getItem_back {t sl : Addr} {its : Array Value} {vl vu vs : Value} {Q : Value → Shared → Prop} (ht : IsTup s.heap t its) (hz : its.size ≤ sizeLine) (hs : s.heap.IsSliceOf sl vl vu vs) (pl : IsPart vl none) (pu : IsPart vu none) (ps : IsPart vs (some (-1)))
    (h : Q (.ref s.heap.objs.size) { s with heap := s.heap.push { cls := .type "tuple", data := .seq its.toList.reverse.toArray } }) : wpAny (model prog w) A (getItem (.ref t) (.ref sl)) Q E s := by
  have htake : sizeOk (.seq its.toList.reverse.toArray) := by
    show its.toList.reverse.toArray.size ≤ sizeLine
    simpa using hz
  obtain ⟨os, hos, hcs, hds⟩ := id hs
  have hTs : s.TypeIs (.ref sl) "slice" := ⟨os, hos, hcs⟩
  unfold getItem
  try with_reducible refine wpAny_holding ?_
  first | refine wpAny_bind (wpAny_pure ?_) | skip
  refine wpAny_bind (wpAny_sequenceKey ht.typeIs (by decide) ?_)
  refine wpAny_bind (wpAny_callSpecial?_slot (name := Str.ofString "__getitem__") ht.typeIs PyProof.Rows.slot_tuple_getitem
    (wpAny_call_entry PyProof.Rows.slot_tuple_getitem ht.typeIs entry_tuple_getitem ?_ (args_tuple_getitem _ _)))
  show wpAny _ _ (Builtin.Tuple.tupleItemsOf (.ref t) >>= _) _ _ s
  refine wpAny_bind (tupleItemsOf_ ht ?_)
  refine wpAny_bind (wpAny_typeOf hTs ?_)
  rw [if_pos (by decide)]
  refine wpAny_bind ?_
  unfold Builtin.Slice.sliceApplied Builtin.Slice.sliceFields
  refine wpAny_bind (wpAny_bind (wpAny_field hos hds (x := vl) rfl (wpAny_bind (wpAny_field hos hds (x := vu) rfl (wpAny_bind (wpAny_field hos hds (x := vs) rfl (wpAny_pure ?_)))))))
  refine wpAny_bind (HT.slicePart_ ps ?_)
  show wpAny _ _ (if ((-1 : Int) == 0) = true then _ else _) _ _ s
  rw [if_neg (by decide)]
  refine wpAny_bind (HT.slicePart_ pl (wpAny_bind (HT.slicePart_ pu (wpAny_bind (wpAny_pure ?_)))))
  refine wpAny_pure ?_
  have en : Builtin.Slice.slicePlaces ((its.size : Int) - 1) (-1) (-1) = its.size := by
    unfold Builtin.Slice.slicePlaces
    simp only [show ¬ ((-1 : Int) > 0) by decide, if_false, show (- -1 : Int) = 1 by decide, Int.ediv_one]
    split <;> omega
  show wpAny _ _ (if ((((its.size : Int) - 1) == 0 && (-1 : Int) == 1 && Builtin.Slice.slicePlaces ((its.size : Int) - 1) (-1) (-1) == its.size) = true) then _ else _) _ _ s
  rw [if_neg (by simp)]
  generalize hA : (List.filterMap _ (List.range _)).toArray = arr
  have hA' : (List.filterMap (fun k : Nat => its[(((its.size : Int) - 1) + (k : Int) * (-1)).toNat]?) (List.range (Builtin.Slice.slicePlaces ((its.size : Int) - 1) (-1) (-1)))).toArray = arr := hA
  have eA : arr = its.toList.reverse.toArray := by
    rw [← hA', en]
    have e : List.filterMap (fun k : Nat => its[(((its.size : Int) - 1) + (k : Int) * (-1)).toNat]?) (List.range its.size) = List.filterMap (its[·]?) ((List.range its.size).map fun k => its.size - 1 - k) := by
      rw [List.filterMap_map]
      refine fm_congr fun k hk => ?_
      have := List.mem_range.mp hk
      show its[(((its.size : Int) - 1) + (k : Int) * (-1)).toNat]? = its[its.size - 1 - k]?
      have e2 : (((its.size : Int) - 1) + (k : Int) * (-1)).toNat = its.size - 1 - k := by omega
      rw [e2]
    rw [e, PySem.W.krv_range, List.filterMap_reverse, PySem.W.krv_all]
  subst eA
  show wpAny _ _ (Builtin.Tuple.tupleExact its.toList.reverse.toArray >>= fun v => ret v) _ _ s
  first
    | exact wpAny_bind (m := Builtin.Tuple.tupleExact _) (wpAny_newObj_type (wpAny_pure ⟨_, rfl, wpAny_pure h⟩) htake)
    | exact wpAny_bind (m := Builtin.Tuple.tupleExact _) (wpAny_newObj_type (wpAny_bind (wpAny_pure (wpAny_pure ⟨_, rfl, wpAny_pure h⟩))) htake)
end
section
variable {X : Cx}
def tRevT (K : PySem.W.Frag) (te : TE) : TE := fun σ H Q => te σ H fun x H1 => ∃ (a : Addr) (xs : List V), x = .ref a ∧ SqT K H1 a xs ∧ ∀ p, H1 p = none → Q (.ref p) (upd H1 p (.tup xs.reverse))
theorem pe_revT {e : Expr} {te : TE} {k : Nat} {p1 p2 p3 pos : Pos} (he : PE X e te) : PE X (.Subscript e (.Slice none none (some (.UnaryOp .USub (.Constant (.int 1) k p1) p2)) p3) pos) (tRevT X.K te) := by
  refine ⟨fun pins s σ H Q I h => ?_⟩
  refine Subscript_ (thn (he.run pins s σ H _ I h) fun v s1 ⟨x, H1, I1, r1, q1⟩ => ?_)
  obtain ⟨a, xs, ex, hx, q⟩ := q1
  subst ex
  cases r1
  have hst : PO X (some (.UnaryOp .USub (.Constant (.int 1) k p1) p2)) (tPart (tUn (rU fun i => .int (-i)) (tC (.int 1)))) := po_some (pe_un un_neg pe_int)
  refine wpAny_Slice (thn (po_none.run pins s1 σ H1 (fun o H2 => o = none ∧ H2 = H1) I1 ⟨rfl, rfl⟩) fun vl s2 ⟨l, H2, I2, pl, el, e2⟩ => ?_)
  subst el e2
  refine thn (po_none.run pins s2 σ H2 (fun o H3 => o = none ∧ H3 = H2) I2 ⟨rfl, rfl⟩) fun vu s3 ⟨u, H3, I3, pu, eu, e3⟩ => ?_
  subst eu e3
  refine thn (hst.run pins s3 σ H3 (fun o H4 => o = some (-1) ∧ H4 = H3) I3 ⟨1, rfl, -1, rfl, rfl, rfl⟩) fun vs s4 ⟨o, H4, I4, ps, eo, e4⟩ => ?_
  subst eo e4
  have I5 : Inv X pins σ H4 { s4 with heap := s4.heap.push { cls := .type "slice", data := .fields #[vl, vu, vs] } } := I4.kept (t' := s4.toks) fun b ob q => Heap.get?_push_of_some _ q
  obtain ⟨its, r, ht, hz⟩ := I5.tuple hx
  have lr := r.length
  show wpAny (model X.prog X.w) X.A (subscriptTail e (.Slice none none (some (.UnaryOp .USub (.Constant (.int 1) k p1) p2)) p3) (.ref a) (.ref s4.heap.objs.size)) (EP X pins σ Q) X.xe { s4 with heap := s4.heap.push { cls := .type "slice", data := .fields #[vl, vu, vs] } }
  refine tail_any (ops := [.ref a, .ref s4.heap.objs.size]) ht.typeIs (PyProof.Rows.slot_tuple_getitem.lookup) ?_ (by with_unfolding_all rfl)
  refine getItem_back ht (by rw [List.size_toArray]; omega) (Heap.IsSliceOf.new _ vl vu vs) pl pu ps ?_
  refine ⟨.ref _, _, I5.laid (t' := s4.toks) (o := .tup xs.reverse) (fun b ob q => Heap.get?_push_of_some _ q) (Nat.le_refl _) ?_, rfl, q _ (I5.hok.fresh (Nat.le_refl _))⟩
  exact ⟨by rw [List.length_reverse]; exact hz, its.reverse, r.reverse, IsTup.new _ _⟩
end
/-! a list == the empty list -/
def rEqL0 (K : PySem.W.Frag) : R2 := fun x y H Q => ∃ (a b : Addr) (xs : List V), x = .ref a ∧ y = .ref b ∧ SqL K H a xs ∧ SqL K H b [] ∧ Q (.bl xs.isEmpty) H
theorem op_eqL0 {X : Cx} (hu : X.A.units + 64 < cLine) : OpR X (compareOp .Eq) (rEqL0 X.K) := by
  intro pins s σ H x y v u Q I rx ry h
  obtain ⟨a, b, xs, rfl, rfl, ha, hb, q⟩ := h
  cases rx
  cases ry
  obtain ⟨is, r1, ⟨o1, n1, h1, c1, _, d1⟩, _⟩ := I.list ha
  obtain ⟨js, r2, ⟨o2, n2, h2, c2, _, d2⟩, _⟩ := I.list hb
  cases r2
  cases r1 with
  | nil => exact PySem.SeqAt.eq_listAt (e := fun _ => true) ⟨o1, h1, c1, n1, d1⟩ ⟨o2, h2, c2, n2, d2⟩ rfl (by omega) (fun j j1 _ => absurd j1 (Nat.not_lt_zero _)) ⟨.bl true, H, I, rfl, q⟩
  | cons r t => exact PySem.SeqAt.eq_list_lengthsAt ⟨o1, h1, c1, n1, d1⟩ ⟨o2, h2, c2, n2, d2⟩ (by simp) (by omega) ⟨.bl false, H, I, rfl, q⟩
end Kv

/-! enumerate of a tuple -/
namespace PySem
open Sem (wp)
open AutoSeq1 (wpAny_loadPart')
theorem enumT_new (l : Addr) (its : Array Value) :
    Meets (Builtin.«enumerate.__new__» ⟨[.type "enumerate", .ref l], []⟩) (fun _ R s => s.heap.IsTuple l its ∧
      R (.ok (.ret (.ref (s.heap.push { cls := .type "tuple_iterator", data := .fields #[.ref l, .int 0 0] }).objs.size)))
        { s with heap := (s.heap.push { cls := .type "tuple_iterator", data := .fields #[.ref l, .int 0 0] }).push { cls := .type "enumerate", data := .fields #[.none, .bool false, .ref s.heap.objs.size, rawInt 0, .none, .none] } }) :=
  .of_wp fun prog w A R s h => by
    obtain ⟨hp, g, d, tk, os⟩ := s
    obtain ⟨hT, h⟩ := h
    obtain ⟨o, ho, hc, n, hd⟩ := id hT
    have ff := sub_enumerate
    wp_walk using wpAny_loadPart' ho
    refine wpAny_stack_any fun st => wpAny_pure ?_
    split
    · rename_i c _ _ _ _ _
      cases (c == Value.type "enumerate")
      · wp_walk using wpAny_loadPart' ho, wpAny_pyIter_tuple hT
        exact ⟨_, rfl, h⟩
      · wp_walk using wpAny_loadPart' ho, wpAny_pyIter_tuple hT
        exact ⟨_, rfl, h⟩
    · wp_walk using wpAny_loadPart' ho, wpAny_pyIter_tuple hT
      exact ⟨_, rfl, h⟩
end PySem
namespace Kv
open PySem PySem.Spec PyProof.Rows L2 Kf
/-- the tuple at a, each item in a new pair -/
def IteT (K : PySem.W.Frag) (a : Addr) : It where
  go := fun i H => ∃ (xs : List V) (x : V), SqT K H a xs ∧ xs[i]? = some x
  yld := fun i H v G => ∃ T x, v = .ref T ∧ H T = none ∧ G = upd H T (.tup [.int (i : Nat), x]) ∧ ∀ xs, SqT K H a xs → xs[i]? = some x
  stop := fun i H => ∃ xs : List V, SqT K H a xs ∧ xs.length ≤ i
theorem turn_enumT {P : Program} {w : World} {K : PySem.W.Frag} {elts : List Expr} {kk : Nat} {tpos : Pos} (a e it : Addr) :
    Turn P w K (.Tuple elts kk tpos) (IteT K a) [e, it] e (fun i h => (∃ old, IsEnum h e it ((i : Nat) : Int) old) ∧ h.IsTupleIter it a i ∧ e ≠ it) where
  mem := by simp
  obj := by
    intro i h st b hb
    obtain ⟨⟨old, he⟩, ⟨o, ho, hc, hd⟩, _⟩ := st
    rcases (by simpa using hb : b = e ∨ b = it) with rfl | rfl
    · exact ⟨_, he, fun v q => nomatch q⟩
    · exact ⟨o, ho, fun v q => by rw [hd] at q; cases q⟩
  keep := fun i h h' st k => let ⟨⟨old, he⟩, hi, hne⟩ := st; ⟨⟨old, k e (by simp) _ he⟩, hi.at fun o q => k it (by simp) o q, hne⟩
  item := by
    intro X hP hw hK hc i pins s σ H E I hf st hg
    subst hP hw hK
    obtain ⟨⟨old, he⟩, hit, hne⟩ := st
    obtain ⟨xs, x, hq, hx⟩ := hg
    obtain ⟨its, rv, tp, hz⟩ := I.tuple hq
    obtain ⟨u, hu, ru⟩ := rv.get hx
    obtain ⟨oi, hoi, hci, hdi⟩ := id hit
    obtain ⟨ot, hot, hct, nt, hdt⟩ := id tp
    have lt : i < its.length := (List.getElem?_eq_some_iff.mp hu).1
    have ai : a ≠ it := fun z => by
      rw [z, hoi] at hot
      cases hot
      rw [hci] at hct
      exact absurd (Value.type.inj hct) (by decide)
    have ea : e ≠ a := fun z => by
      rw [← z, he] at hot
      cases hot
      exact absurd (Value.type.inj hct) (by decide)
    have hel : e < s.heap.objs.size := Heap.lt_size he
    have hil : it < s.heap.objs.size := Heap.lt_size hoi
    refine wpAny_pyNext_enum_itemD (Draws.tuple (A := X.A.in1) (I.ok.hd hc) it a ai its.toArray) he ⟨hit, ⟨ot, hot, hct, nt, hdt⟩⟩ (by simpa using lt) hne (by simp [hne, ea]) ?_
    intro u' h1 tk hu' ho hst hT hsz hk
    have eu : u' = u := by
      have z : its[i]? = some u' := by simpa using hu'
      rw [hu] at z
      exact (Option.some.inj z).symm
    subst eu
    refine ⟨_, rfl, wpAny_letOwnedTupleGo_enum (s := { s with heap := h1, toks := tk + 1 }) ho ?_⟩
    intro h2 he' sb
    have hT2 : h2.get? s.heap.objs.size = some { cls := .type "tuple", data := .seq #[.int i tk, u'] } := (sb.2 _ (Nat.ne_of_gt hel)).trans hT
    have new : ObjOk X.prog X.w (upd H s.heap.objs.size (.tup [.int (i : Nat), x])) h2 s.heap.objs.size (.tup [.int (i : Nat), x]) := ⟨by show 2 ≤ sizeLine; decide, [.int i tk, u'], .cons ⟨_, rfl⟩ (.cons ru .nil), ⟨_, hT2, rfl, _, rfl⟩⟩
    have J : Inv X pins σ (upd H s.heap.objs.size (.tup [.int (i : Nat), x])) { s with heap := h2, toks := tk + 1 } :=
      I.turnedNew (ch := [e, it]) (fun b ob hb q => (sb.2 b (fun z => hb (by simp [z]))).trans (hk b ob (fun z => hb (by simp [z])) (fun z => hb (by simp [z])) q)) hf (Nat.le_refl _) new
    refine ⟨.ref s.heap.objs.size, _, J, rfl, ⟨_, x, rfl, I.hok.fresh (Nat.le_refl _), rfl, fun ys hy => by rw [I.tuple_inj hy hq]; exact hx⟩, ⟨⟨u', ?_⟩, hst.1.at fun o q => (sb.2 it (Ne.symm hne)).trans q, hne⟩, fun b hb => ?_⟩
    · rw [show ((i + 1 : Nat) : Int) = (i : Int) + 1 by omega]
      exact he'
    · have lb : b < s.heap.objs.size := by
        rcases (by simpa using hb : b = e ∨ b = it) with rfl | rfl
        · exact hel
        · exact hil
      rw [upd_ne (Nat.ne_of_lt lb)]
      exact (hf b hb).1
  done := by
    intro X hP hw hK hc i pins s σ H E I hf st hg
    subst hP hw hK
    obtain ⟨⟨old, he⟩, hit, hne⟩ := st
    obtain ⟨xs, hq, hx⟩ := hg
    obtain ⟨its, rv, tp, hz⟩ := I.tuple hq
    obtain ⟨oi, hoi, hci, hdi⟩ := id hit
    obtain ⟨ot, hot, hct, nt, hdt⟩ := id tp
    have ai : a ≠ it := fun z => by
      rw [z, hoi] at hot
      cases hot
      rw [hci] at hct
      exact absurd (Value.type.inj hct) (by decide)
    obtain ⟨f0, f1, f2, f3, f4, f5⟩ := hf it (by simp)
    have hl := rv.length
    have none : its.toArray[i]? = none := by
      rw [List.getElem?_toArray]
      exact List.getElem?_eq_none (by omega)
    have D : Draws X.prog X.w X.A.in1 it [it, a] i (fun _ _ => True) (fun j h => j = i ∧ h.IsTupleIter it a i ∧ h.IsTuple a its.toArray) :=
      { live := fun _ _ st => let ⟨o, ho, _⟩ := st.2.1; ⟨o, ho⟩
        frame := fun _ _ _ st hk => ⟨st.1, st.2.1.at fun o e => hk it (by simp) o e, st.2.2.at fun o e => hk a (by simp) o e⟩
        item := fun j s Q E hj st _ => absurd st.1 (Nat.ne_of_lt hj)
        done := fun s Q E st hE => wpAny_nextOf_tuple_end (I.ok.hd hc) st.2.1 st.2.2 none hE }
    exact wpAny_pyNext_enum_endD D he ⟨rfl, hit, ⟨ot, hot, hct, nt, hdt⟩⟩ fun h1 eb => ⟨rfl, I.turned (t' := s.toks) (fun b o hb q => eb b o hb q) f0 f1 f3 f4 f5⟩
  self := fun A i s Q E st h => let ⟨⟨_, he⟩, _⟩ := st; wpAny_pyIter_enum he h
def iEnumT (K : PySem.W.Frag) (ta : TA) : TI := fun σ H R => ta σ H fun vs G => ∃ (a : Addr) (xs : List V), vs = [.ref a] ∧ SqT K G a xs ∧ R (IteT K a) G
theorem pi_enumT {X : Cx} {e : Expr} {ta : TA} {p pos tpos : Pos} {elts : List Expr} {kk : Nat} (hg : Gl X "enumerate") (hm : X.mg "enumerate" = none) (ha : PA X [e] ta) (hs : starEach [e] X.env = [(false, eval e X.env)] := by rfl) :
    PI X (.Tuple elts kk tpos) (.Call (.Name "enumerate" p) [e] [] pos) (iEnumT X.K ta) := by
  constructor
  intro pins s σ H R I h
  refine Call_ (ld_blt I hg hm boot_enumerate (PyProof.Rows.callWith_type1 (thn (ha.run pos pins s σ H _ I h) ?_) hs rfl))
  rintro us s1 ⟨vs, G, J, r, a, xs, rfl, hq, q⟩
  rw [Vals.ref1 r]
  obtain ⟨its, rv, tp, hz⟩ := J.tuple hq
  have IT : s1.heap.IsTuple a its.toArray := let ⟨o, ho, hc, n, hd⟩ := tp; ⟨o, ho, hc, n, hd⟩
  have sz1 : (s1.heap.push { cls := .type "tuple_iterator", data := .fields #[.ref a, .int 0 0] }).objs.size = s1.heap.objs.size + 1 := Heap.size_push ..
  refine callType_new F.called_enumerate (by decide) (F.typeCall_enumerate_1 _) (F.newCall_enumerate_1 _) (fun obj => F.args_object_init_2 obj _) F.entry_enumerate_new (enumT_new a its.toArray) ⟨IT, ?_⟩
  show _ ∧ _
  rw [sz1]
  have he := Heap.get?_push_size (s1.heap.push { cls := .type "tuple_iterator", data := .fields #[.ref a, .int 0 0] }) (o := { cls := .type "enumerate", data := .fields #[.none, .bool false, .ref s1.heap.objs.size, rawInt 0, .none, .none] }) rfl
  rw [sz1] at he
  refine ⟨⟨_, he, rfl⟩, wpAny_pyIter_enum he ?_⟩
  have J2 := J.kept (h' := (s1.heap.push { cls := .type "tuple_iterator", data := .fields #[.ref a, .int 0 0] }).push { cls := .type "enumerate", data := .fields #[.none, .bool false, .ref s1.heap.objs.size, rawInt 0, .none, .none] }) (t' := s1.toks) (fun b o x => Heap.get?_push_of_some _ (Heap.get?_push_of_some _ x))
  refine ⟨s1.heap.objs.size + 1, [s1.heap.objs.size + 1, s1.heap.objs.size], _, _, G, rfl, J2, turn_enumT a (s1.heap.objs.size + 1) s1.heap.objs.size, ⟨⟨.none, he⟩, ⟨_, Heap.get?_push_of_some _ (Heap.get?_push_size _ rfl), rfl, rfl⟩, Nat.succ_ne_self _⟩, fun b hb => ?_, q⟩
  have le : s1.heap.objs.size ≤ b := by
    rcases (by simpa using hb : b = s1.heap.objs.size + 1 ∨ b = s1.heap.objs.size) with rfl | rfl
    · exact Nat.le_add_right _ _
    · exact Nat.le_refl _
  exact J.fpOk le (J.hok.fresh le)
theorem walk_enumT {K : PySem.W.Frag} {a : Addr} {xs : List V} : Walk (IteT K a) xs.length (fun H => SqT K H a xs) (YPair (fun i => some (.int (i : Nat))) (fun i => xs[i]?)) := by
  refine ⟨fun i _ hi q => ⟨xs, xs[i], q, by simp [hi]⟩, fun _ q => ⟨xs, q, Nat.le_refl _⟩, fun i H v G _ q y => ?_⟩
  obtain ⟨T, x, h1, h2, h3, h4⟩ := y
  exact ⟨T, .int (i : Nat), x, h1, h2, h3, rfl, h4 xs q⟩
end Kv

/-! a thing of anything == a text -/
namespace PySem.SeqAt
theorem sub_str_dic : isSubtype (.type "str") (.type "dict") = pure false := by kernel_rfl
theorem dic_declines (l : Addr) (es : Array DictEntry) (n : Nat) (dd : Option Addr) (sl : Array (Option Value)) (b : Str) (u : Tok) :
    Meets (Builtin.«dict.__eq__» ⟨[.ref l, .str b u], []⟩) (fun _ R s => s.heap.get? l = some { cls := .type "dict", dict := dd, data := .dict es n, slots := sl } ∧ R (.ok (.ret .notImplemented)) s) :=
  .of_wp fun prog w A R s h => by
    obtain ⟨hp, g, d, tk, os⟩ := s
    obtain ⟨hl, h⟩ := h
    have f1 := sub_str_dic
    wp_walk using AutoSeq1.wpAny_loadPart' hl
    exact ⟨_, rfl, h⟩
theorem str_declines_dic (b : Str) (u : Tok) (l : Addr) (es : Array DictEntry) (n : Nat) (dd : Option Addr) (sl : Array (Option Value)) :
    Meets (Builtin.«str.__eq__» ⟨[.str b u, .ref l], []⟩) (fun _ R s => s.heap.get? l = some { cls := .type "dict", dict := dd, data := .dict es n, slots := sl } ∧ R (.ok (.ret .notImplemented)) s) :=
  .of_wp fun prog w A R s h => by
    obtain ⟨hp, g, d, tk, os⟩ := s
    obtain ⟨hl, h⟩ := h
    wp_walk using AutoSeq1.wpAny_loadPart' hl, wpAny_load hl
    exact ⟨_, rfl, h⟩
theorem dic_str {A : Around} {s : Shared} {l : Addr} {o : Obj} {es : Array DictEntry} {n : Nat} (b : Str) (u : Tok) (ho : s.heap.get? l = some o) (hc : o.cls = .type "dict") (hd : o.data = .dict es n) (hu : A.units < cLine) : RcAt A s (.ref l) (.str b u) false := fun prog w E Q h => by
  obtain ⟨cls, dd, data, sl⟩ := o
  simp only at hc hd
  subst hc hd
  exact rc_eq_decline_or (k := false) ⟨_, ho, rfl⟩ (typeIs_str s b u) (by decide) sub_str_dic F.slot_dict_eq F.slot_str_eq_refl
    (fun _ hq => call_meets F.slot_dict_eq ⟨_, ho, rfl⟩ F.entry_dict_eq (F.args_dict_eq_2 _ _) (dic_declines l es n dd sl b u) ⟨ho, hq⟩)
    (fun _ hq => call_meets F.slot_str_eq_refl (typeIs_str s b u) F.entry_str_eq (F.args_str_eq_2 _ _) (str_declines_dic b u l es n dd sl) ⟨ho, hq⟩)
    (fun _ hq => wpAny_of_eq (rfl : isSame (.ref l) (.str b u) = pure false) hq) (.inr hu) h
end PySem.SeqAt
namespace Kv
open PySem PySem.Spec PyProof.Rows L2 Kf
def Dt.isS (x : Dt) (z : Str) : Bool := match x with
  | .str y => decide (y = z)
  | _ => false
def rEqUS : R2 := fun x y H Q => ∃ (d : Dt) (z : Str), Dd Any H d x ∧ y = .str z ∧ Q (.bl (d.isS z)) H
theorem op_eqUS {X : Cx} (hu : X.A.units + 64 < cLine) : OpR X (compareOp .Eq) rEqUS := by
  intro pins s σ H x y v u Q I rx ry h
  obtain ⟨d, z, hd, rfl, q⟩ := h
  obtain ⟨t2, rfl⟩ := ry
  have no : d.isS z = false → EP X pins σ Q (.bool false) s := fun e => by
    rw [e] at q
    exact ⟨.bl false, H, I, rfl, q⟩
  cases hd with
  | non =>
    cases rx
    exact SeqAt.RcAt.none_str z t2 _ _ _ _ (no rfl)
  | bl b =>
    cases rx
    exact SeqAt.RcAt.bool_str b z t2 _ _ _ _ (no rfl)
  | int i =>
    obtain ⟨t1, rfl⟩ := rx
    exact SeqAt.RcAt.int_str i t1 z t2 _ _ _ _ (no rfl)
  | str y =>
    obtain ⟨t1, rfl⟩ := rx
    refine SeqAt.RcAt.str_str y t1 z t2 _ _ _ _ ?_
    have e : (y == z) = (Dt.str y).isS z := by
      show (y == z) = decide (y = z)
      by_cases c : y = z
      · subst c
        simp
      · rw [decide_eq_false c]
        exact beq_eq_false_iff_ne.mpr c
    rw [e]
    exact ⟨.bl _, H, I, rfl, q⟩
  | tup h t =>
    cases rx
    obtain ⟨its, rv, ⟨o, ho, hc, n, hd⟩, _⟩ := I.tuple (SqT.of h)
    exact SeqAt.RcAt.tuple_str z t2 ⟨o, ho, hc, n, hd⟩ (by omega) _ _ _ _ (no rfl)
  | lst _ h t =>
    cases rx
    obtain ⟨its, rv, ⟨o, n, ho, hc, _, hd⟩, _⟩ := I.list (SqL.of h)
    exact SeqAt.RcAt.list_str z t2 ⟨o, ho, hc, n, hd⟩ (by omega) _ _ _ _ (no rfl)
  | emp _ h =>
    cases rx
    obtain ⟨o, n, ho, hc, hd, _⟩ := emp_obj I h
    exact SeqAt.dic_str z t2 ho hc hd (by omega) _ _ _ _ (no rfl)
end Kv

/-! numbers and truths reckoned with; a thing is a truth; None among things -/
namespace Kv
open PySem PySem.Spec PyProof.Rows L2 Kf
/-- a number, or a truth as a number -/
def nu : V → Option Int
  | .int i => some i
  | .bl b => some (if b = true then (1 : Int) else 0)
  | _ => none
section
variable {X : Cx}
theorem op_addU : OpR X (binaryOp .Add) (fun x y H Q => ∃ i j, nu x = some i ∧ y = .int j ∧ Q (.int (i + j)) H) := by
  intro pins s σ H x y v u Q I rx ry h
  obtain ⟨i, j, hx, rfl, q⟩ := h
  obtain ⟨t2, rfl⟩ := ry
  cases x with
  | int a =>
    obtain ⟨t1, rfl⟩ := rx
    cases hx
    exact (op_add (X := X)) pins s σ H (.int i) (.int j) _ _ Q I ⟨t1, rfl⟩ ⟨t2, rfl⟩ ⟨i, j, rfl, rfl, q⟩
  | bl b =>
    cases rx
    cases hx
    exact PySem.IntBool.add_bool_int ⟨.int _, H, I.tok _, ⟨_, rfl⟩, q⟩
  | _ => cases hx
theorem op_subU : OpR X (binaryOp .Sub) (fun x y H Q => ∃ i j, nu x = some i ∧ y = .int j ∧ Q (.int (i - j)) H) := by
  intro pins s σ H x y v u Q I rx ry h
  obtain ⟨i, j, hx, rfl, q⟩ := h
  obtain ⟨t2, rfl⟩ := ry
  cases x with
  | int a =>
    obtain ⟨t1, rfl⟩ := rx
    cases hx
    exact (op_sub (X := X)) pins s σ H (.int i) (.int j) _ _ Q I ⟨t1, rfl⟩ ⟨t2, rfl⟩ ⟨i, j, rfl, rfl, q⟩
  | bl b =>
    cases rx
    cases hx
    exact PySem.IntBool.sub_bool_int ⟨.int _, H, I.tok _, ⟨_, rfl⟩, q⟩
  | _ => cases hx
theorem op_subV : OpR X (binaryOp .Sub) (fun x y H Q => ∃ i j, x = .int i ∧ nu y = some j ∧ Q (.int (i - j)) H) := by
  intro pins s σ H x y v u Q I rx ry h
  obtain ⟨i, j, rfl, hy, q⟩ := h
  obtain ⟨t1, rfl⟩ := rx
  cases y with
  | int a =>
    obtain ⟨t2, rfl⟩ := ry
    cases hy
    exact (op_sub (X := X)) pins s σ H (.int i) (.int j) _ _ Q I ⟨t1, rfl⟩ ⟨t2, rfl⟩ ⟨i, j, rfl, rfl, q⟩
  | bl b =>
    cases ry
    cases hy
    exact PySem.IntBool.sub_int_bool ⟨.int _, H, I.tok _, ⟨_, rfl⟩, q⟩
  | _ => cases hy
theorem op_eqU1 : OpR X (compareOp .Eq) (fun x y H Q => ∃ i j, nu x = some i ∧ y = .int j ∧ ∀ b : Bool, Q (.bl b) H) := by
  intro pins s σ H x y v u Q I rx ry h
  obtain ⟨i, j, hx, rfl, q⟩ := h
  obtain ⟨t2, rfl⟩ := ry
  cases x with
  | int a =>
    obtain ⟨t1, rfl⟩ := rx
    exact SeqAt.RcAt.int_int a t1 j t2 _ _ _ _ ⟨.bl _, H, I, rfl, q _⟩
  | bl b =>
    cases rx
    exact SeqAt.RcAt.bool_int b j t2 _ _ _ _ ⟨.bl _, H, I, rfl, q _⟩
  | _ => cases hx
theorem call_strU : CallR X (.type "str") (fun xs H Q => ∃ x i, xs = [x] ∧ nu x = some i ∧ i.natAbs < 10 ^ 45 ∧ ∀ z : Str, z.length ≤ 50 → (∀ c ∈ z.cps.toList, c < 16 ^ 8) → Q (.str z) H) := by
  intro pins s σ H xs us Q I r h
  obtain ⟨x, i, rfl, hx, hi, q⟩ := h
  obtain ⟨u, rfl, rx⟩ := vals1 r
  cases x with
  | int a =>
    obtain ⟨t, rfl⟩ := rx
    cases hx
    have hl : i.natAbs.log2 < 1920 := by
      by_cases z : i.natAbs = 0
      · rw [z]
        decide
      · have : i.natAbs.log2 < 150 := (Nat.log2_lt z).mpr (Nat.lt_of_lt_of_le hi (by decide))
        omega
    refine PySem.P.str_of_int hl ⟨.str _, H, I.tok _, ⟨_, rfl⟩, q _ ?_ ?_⟩
    · have z := int_text_length_le10 (a := i) (k := 45) (by decide) hi
      have e : (Str.ofString (toString i)).length = (toString i).length := PySem.ofString_length _
      show (Str.ofString (toString i)).length ≤ 50
      rw [e]
      omega
    · intro c hc
      have hc : c ∈ (Str.ofString (toString i)).cps.toList := hc
      rw [Str.ofString_eq_toList] at hc
      simp only [List.mem_map] at hc
      obtain ⟨ch, _, rfl⟩ := hc
      exact ch.val.toNat_lt
  | bl b =>
    cases rx
    refine PySem.P.str_of_bool ⟨.str _, H, I.tok _, ⟨_, rfl⟩, q _ ?_ ?_⟩
    · cases b <;> decide +kernel
    · cases b <;> decide +kernel
  | _ => cases hx
/-- a thing is this truth -/
def Dt.isB (x : Dt) (b : Bool) : Bool := match x with
  | .bl c => decide (c = b)
  | _ => false
theorem op_isU : OpR X (compareOp .Is) (fun x y H Q => ∃ (d : Dt) (b : Bool), Dd Any H d x ∧ y = .bl b ∧ Q (.bl (d.isB b)) H) := by
  intro pins s σ H x y v u Q I rx ry h
  obtain ⟨d, b, hd, rfl, q⟩ := h
  cases ry
  have no : d.isB b = false → EP X pins σ Q (.bool false) s := fun e => by
    rw [e] at q
    exact ⟨.bl false, H, I, rfl, q⟩
  cases hd with
  | non =>
    cases rx
    exact wpAny_is_other rfl (fun z => by cases z) (no rfl)
  | bl c =>
    cases rx
    by_cases e : c = b
    · subst e
      exact wpAny_is_self rfl ⟨.bl true, H, I, rfl, by simpa [Dt.isB] using q⟩
    · exact wpAny_is_other rfl (fun z => e (Value.bool.inj z)) (no (by simp [Dt.isB, e]))
  | int i =>
    obtain ⟨t1, rfl⟩ := rx
    exact wpAny_is_other rfl (fun z => by cases z) (no rfl)
  | str y =>
    obtain ⟨t1, rfl⟩ := rx
    exact wpAny_is_other rfl (fun z => by cases z) (no rfl)
  | tup h t =>
    cases rx
    exact wpAny_is_other rfl (fun z => by cases z) (no rfl)
  | lst _ h t =>
    cases rx
    exact wpAny_is_other rfl (fun z => by cases z) (no rfl)
  | emp _ h =>
    cases rx
    exact wpAny_is_other rfl (fun z => by cases z) (no rfl)
/-- None, a number, a truth, a tuple -/
def Plainy (H : Hp) (z : V) : Prop := z = .non ∨ (∃ i, z = .int i) ∨ (∃ b, z = .bl b) ∨ ∃ a xs, z = .ref a ∧ H a = some (.tup xs)
theorem isNone_pl {z : V} {u : Value} {H : Hp} (r : RelV z u) (f : Plainy H z) : PySem.Numpy.isNone u = isNon z := by
  rcases f with rfl | ⟨i, rfl⟩ | ⟨b, rfl⟩ | ⟨a, xs, rfl, _⟩
  · cases r; rfl
  · obtain ⟨t, rfl⟩ := r; rfl
  · cases r; rfl
  · cases r; rfl
theorem any_pl {H : Hp} : ∀ {xs : List V} {us : List Value}, Vals xs us → (∀ z ∈ xs, Plainy H z) → us.any PySem.Numpy.isNone = xs.any isNon
  | _, _, .nil, _ => rfl
  | y :: xs, u :: us, .cons r t, f => by
    rw [List.any_cons, List.any_cons, isNone_pl r (f y (List.mem_cons_self ..)), any_pl t fun z hz => f z (List.mem_cons_of_mem _ hz)]
theorem pl_eq {A : Around} {pins : List (Addr × Obj)} {σ : L2.St} {H : Hp} {s : Shared} (I : Inv X pins σ H s) (hu : A.units < cLine) {z : V} {u : Value} (r : RelV z u) (f : Plainy H z) : SeqAt.EqAt A s u .none (PySem.Numpy.isNone u) := by
  rcases f with rfl | ⟨i, rfl⟩ | ⟨b, rfl⟩ | ⟨a, xs, rfl, h⟩
  · cases r
    exact SeqAt.EqAt.same _
  · obtain ⟨t, rfl⟩ := r
    exact SeqAt.EqAt.int_none i t
  · cases r
    exact SeqAt.EqAt.bool_none b
  · cases r
    obtain ⟨its, rv, ⟨o, ho, hc, n, hd⟩, _⟩ := I.tuple (SqT.of h)
    exact SeqAt.EqAt.tuple_none ⟨o, ho, hc, n, hd⟩ hu
theorem mem_pl {A : Around} {pins : List (Addr × Obj)} {σ : L2.St} {H : Hp} {s : Shared} (I : Inv X pins σ H s) (hu : A.units < cLine) : ∀ {xs : List V} {us : List Value}, Vals xs us → (∀ z ∈ xs, Plainy H z) → ∀ u ∈ us, SeqAt.EqAt A s u .none (PySem.Numpy.isNone u)
  | _, _, .nil, _ => fun u hu' => by cases hu'
  | y :: xs, u :: us, .cons r t, f => fun u' hu' => by
    rcases List.mem_cons.mp hu' with e | hu'
    · subst e
      exact pl_eq I hu r (f y (List.mem_cons_self ..))
    · exact mem_pl I hu t (fun z hz => f z (List.mem_cons_of_mem _ hz)) u' hu'
def rNoneInU (K : PySem.W.Frag) : R2 := fun x y H Q => ∃ p xs, x = .non ∧ y = .ref p ∧ SqL K H p xs ∧ (∀ z ∈ xs, Plainy H z) ∧ Q (.bl (xs.any isNon)) H
theorem op_noneInU (hu : X.A.units + 64 < cLine) : OpR X (compareOp .In) (rNoneInU X.K) := by
  intro pins s σ H x y v u Q I rx ry h
  obtain ⟨p, xs, rfl, rfl, hq, f, q⟩ := h
  cases rx
  cases ry
  obtain ⟨its, rv, hl, _⟩ := I.list hq
  have hu1 : X.A.in1.units < cLine := by show X.A.units + 1 < cLine; omega
  refine SeqAt.in_listAt PySem.Numpy.isNone hl.isList (fun z hz => mem_pl I hu1 rv f z (by simpa using hz)) ⟨.bl _, H, I, rfl, ?_⟩
  rw [show its.toArray.any PySem.Numpy.isNone = its.any PySem.Numpy.isNone by simp, any_pl rv f]
  exact q
end
end Kv

/-! things of anything: how great they are -/
namespace Kv
open PySem PySem.Spec PyProof.Rows L2 Kf
mutual
def Dt.sz : Dt → Nat
  | .tup xs => 1 + Dt.szs xs
  | .lst xs => 1 + Dt.szs xs
  | _ => 1
def Dt.szs : List Dt → Nat
  | [] => 0
  | x :: xs => x.sz + Dt.szs xs
end
theorem sz_mem : ∀ {xs : List Dt} {x : Dt}, x ∈ xs → x.sz ≤ Dt.szs xs
  | y :: ys, x, h => by
    rcases List.mem_cons.mp h with rfl | h
    · exact Nat.le_add_right _ _
    · exact Nat.le_trans (sz_mem h) (Nat.le_add_left _ _)
theorem szs_app : ∀ (xs ys : List Dt), Dt.szs (xs ++ ys) = Dt.szs xs + Dt.szs ys
  | [], ys => by show _ = 0 + _; rw [Nat.zero_add]; rfl
  | x :: xs, ys => by
    show x.sz + Dt.szs (xs ++ ys) = x.sz + Dt.szs xs + Dt.szs ys
    rw [szs_app xs ys, Nat.add_assoc]
mutual
def Dt.dp : Dt → Nat
  | .tup xs => Dt.dps xs + 1
  | .lst xs => Dt.dps xs + 1
  | .emp => 1
  | _ => 0
def Dt.dps : List Dt → Nat
  | [] => 0
  | x :: xs => max x.dp (Dt.dps xs)
end
mutual
def Dt.wt : Dt → Nat
  | .non => 4
  | .bl _ => 5
  | .int _ => 52
  | .str x => 10 * x.length + 2
  | .tup xs => Dt.wts xs + 3
  | .lst xs => Dt.wts xs + 3
  | .emp => 2
def Dt.wts : List Dt → Nat
  | [] => 0
  | x :: xs => x.wt + 2 + Dt.wts xs
end
mutual
def Dt.fine (B : Nat) : Dt → Prop
  | .int i => i.natAbs < B
  | .str x => ∀ c ∈ x.cps.toList, c < 16 ^ 8
  | .tup xs => Dt.fines B xs
  | .lst xs => Dt.fines B xs
  | _ => True
def Dt.fines (B : Nat) : List Dt → Prop
  | [] => True
  | x :: xs => x.fine B ∧ Dt.fines B xs
end
mutual
theorem Dt.shw {B : Nat} (hB : B ≤ 10 ^ 45) : ∀ (x : Dt), x.fine B → x.toP.showable = true ∧ x.toP.depth = x.dp ∧ x.toP.shown.length ≤ x.wt
  | .non, _ => ⟨by simp [Dt.toP, PyData.showable], by simp [Dt.toP, PyData.depth, Dt.dp], by simp only [Dt.toP, PyData.shown, Dt.wt]; decide⟩
  | .bl b, _ => ⟨by simp [Dt.toP, PyData.showable], by simp [Dt.toP, PyData.depth, Dt.dp], by cases b <;> (simp only [Dt.toP, PyData.shown, Dt.wt]; decide)⟩
  | .int i, h => by
    have h : i.natAbs < B := by simpa only [Dt.fine] using h
    have h : i.natAbs < 10 ^ 45 := Nat.lt_of_lt_of_le h hB
    refine ⟨?_, by simp [Dt.toP, PyData.depth, Dt.dp], ?_⟩
    · simp only [Dt.toP, PyData.showable]
      refine decide_eq_true ?_
      by_cases z : i.natAbs = 0
      · rw [z]
        decide
      · have : i.natAbs.log2 < 150 := (Nat.log2_lt z).mpr (Nat.lt_of_lt_of_le h (by decide))
        omega
    · have z := int_text_length_le10 (a := i) (k := 45) (by decide) h
      simp only [Dt.toP, PyData.shown, Dt.wt]
      have e : (Str.ofString (toString i)).length = (toString i).length := PySem.ofString_length _
      rw [e]
      omega
  | .str x, h => by
    have h : ∀ c ∈ x.cps.toList, c < 16 ^ 8 := by simpa only [Dt.fine] using h
    exact ⟨by simp [Dt.toP, PyData.showable], by simp [Dt.toP, PyData.depth, Dt.dp], by simp only [Dt.toP, PyData.shown, Dt.wt]; exact PySem.StrLaws.reprText_len x h⟩
  | .tup xs, h => by
    obtain ⟨a, b, c⟩ := Dt.shws hB xs (by simpa only [Dt.fine] using h)
    refine ⟨by simpa only [Dt.toP, PyData.showable] using a, by simp only [Dt.toP, PyData.depth, Dt.dp]; omega, ?_⟩
    simp only [Dt.toP, PyData.shown, Dt.wt]
    have := tupleText_len_le (PyData.shownAll (Dt.toPs xs))
    omega
  | .lst xs, h => by
    obtain ⟨a, b, c⟩ := Dt.shws hB xs (by simpa only [Dt.fine] using h)
    refine ⟨by simpa only [Dt.toP, PyData.showable] using a, by simp only [Dt.toP, PyData.depth, Dt.dp]; omega, ?_⟩
    simp only [Dt.toP, PyData.shown, Dt.wt]
    have := listText_len_le (PyData.shownAll (Dt.toPs xs))
    omega
  | .emp, _ => ⟨by simp [Dt.toP, PyData.showable, PyData.showableKv], by simp [Dt.toP, PyData.depth, PyData.depthKv, Dt.dp], by simp only [Dt.toP, PyData.shown, PyData.shownKv, Dt.wt]; decide⟩
theorem Dt.shws {B : Nat} (hB : B ≤ 10 ^ 45) : ∀ (xs : List Dt), Dt.fines B xs → PyData.showableAll (Dt.toPs xs) = true ∧ PyData.depthAll (Dt.toPs xs) = Dt.dps xs ∧ ((PyData.shownAll (Dt.toPs xs)).map (·.length)).sum + 2 * (PyData.shownAll (Dt.toPs xs)).length ≤ Dt.wts xs
  | [], _ => ⟨by simp [Dt.toPs, PyData.showableAll], by simp [Dt.toPs, PyData.depthAll, Dt.dps], by simp [Dt.toPs, PyData.shownAll]⟩
  | x :: xs, h => by
    have h : x.fine B ∧ Dt.fines B xs := by simpa only [Dt.fines] using h
    obtain ⟨a, b, c⟩ := x.shw hB h.1
    obtain ⟨a', b', c'⟩ := Dt.shws hB xs h.2
    refine ⟨by simp [Dt.toPs, PyData.showableAll, a, a'], by simp [Dt.toPs, PyData.depthAll, Dt.dps, b, b'], ?_⟩
    simp only [Dt.toPs, PyData.shownAll, List.map_cons, List.sum_cons, List.length_cons, Dt.wts]
    omega
end
/-- it is fine, and within the bounds -/
structure Fine (B n W : Nat) (x : Dt) : Prop where
  ok : x.fine B
  dp : x.dp ≤ n
  wt : x.wt ≤ W
theorem Fine.shw {B n W : Nat} {x : Dt} (h : Fine B n W x) (hB : B ≤ 10 ^ 45) (hW : W ≤ sizeLine) : Shw n x := by
  obtain ⟨a, b, c⟩ := x.shw hB h.ok
  exact ⟨a, by rw [b]; exact h.dp, Nat.le_trans c (Nat.le_trans h.wt hW)⟩
mutual
theorem Dt.fine_up {B C : Nat} (h : B ≤ C) : ∀ {x : Dt}, x.fine B → x.fine C
  | .non, _ => by simp only [Dt.fine]
  | .bl _, _ => by simp only [Dt.fine]
  | .int i, f => by
    simp only [Dt.fine] at f ⊢
    omega
  | .str x, f => by
    simp only [Dt.fine] at f ⊢
    exact f
  | .tup xs, f => by
    simp only [Dt.fine] at f ⊢
    exact Dt.fines_up h f
  | .lst xs, f => by
    simp only [Dt.fine] at f ⊢
    exact Dt.fines_up h f
  | .emp, _ => by simp only [Dt.fine]
theorem Dt.fines_up {B C : Nat} (h : B ≤ C) : ∀ {xs : List Dt}, Dt.fines B xs → Dt.fines C xs
  | [], _ => by simp only [Dt.fines]
  | x :: xs, f => by
    simp only [Dt.fines] at f ⊢
    exact ⟨Dt.fine_up h f.1, Dt.fines_up h f.2⟩
end
theorem Fine.mono {A B n W m V : Nat} {x : Dt} (h : Fine A n W x) (ha : A ≤ B) (hn : n ≤ m) (hw : W ≤ V) : Fine B m V x := ⟨Dt.fine_up ha h.ok, Nat.le_trans h.dp hn, Nat.le_trans h.wt hw⟩
mutual
theorem Dt.sz_wt : ∀ x : Dt, x.sz ≤ x.wt
  | .non => by simp only [Dt.sz, Dt.wt]; omega
  | .bl _ => by simp only [Dt.sz, Dt.wt]; omega
  | .int _ => by simp only [Dt.sz, Dt.wt]; omega
  | .str _ => by simp only [Dt.sz, Dt.wt]; omega
  | .tup xs => by
    have := Dt.szs_wts xs
    simp only [Dt.sz, Dt.wt]
    omega
  | .lst xs => by
    have := Dt.szs_wts xs
    simp only [Dt.sz, Dt.wt]
    omega
  | .emp => by simp only [Dt.sz, Dt.wt]; omega
theorem Dt.szs_wts : ∀ xs : List Dt, Dt.szs xs ≤ Dt.wts xs
  | [] => by simp only [Dt.szs, Dt.wts]; omega
  | x :: xs => by
    have := x.sz_wt
    have := Dt.szs_wts xs
    simp only [Dt.szs, Dt.wts]
    omega
end
theorem len_szs : ∀ xs : List Dt, xs.length ≤ Dt.szs xs
  | [] => Nat.zero_le _
  | x :: xs => by
    have := len_szs xs
    have : 1 ≤ x.sz := by cases x <;> simp only [Dt.sz] <;> omega
    simp only [Dt.szs, List.length_cons]
    omega
theorem wts_app : ∀ (xs ys : List Dt), Dt.wts (xs ++ ys) = Dt.wts xs + Dt.wts ys
  | [], ys => by simp only [List.nil_append, Dt.wts]; omega
  | x :: xs, ys => by
    simp only [List.cons_append, Dt.wts]
    rw [wts_app xs ys]
    omega
theorem dps_app : ∀ (xs ys : List Dt), Dt.dps (xs ++ ys) = max (Dt.dps xs) (Dt.dps ys)
  | [], ys => by simp only [List.nil_append, Dt.dps]; omega
  | x :: xs, ys => by
    simp only [List.cons_append, Dt.dps]
    rw [dps_app xs ys]
    omega
theorem fines_app {B : Nat} : ∀ (xs ys : List Dt), Dt.fines B (xs ++ ys) ↔ Dt.fines B xs ∧ Dt.fines B ys
  | [], ys => by simp only [List.nil_append, Dt.fines, true_and]
  | x :: xs, ys => by
    simp only [List.cons_append, Dt.fines]
    rw [fines_app xs ys, and_assoc]
end Kv

/-! the end of a law whose defs show things -/
namespace Kf
open PySem PySem.Spec PyProof.Rows L2 LamX
/-- the heap at the law's call: the written part, the tables cs, the script -/
structure Beg (h : Heap) (K : PySem.W.Frag) (mg : Str → Option Value) (cs : List (Addr × Addr)) (a : Addr) (us : Array Value) : Prop where
  kin : K.In h
  gl : h.Ns mainGlobals mg
  bl : ∃ m, h.Ns builtinsNs m ∧ ∀ y : Str, y ≠ "__name__" → m y = bootBuiltins y
  nl : h.NoLimit
  tb : ∀ p ∈ cs, h.get? p.2 = some { cls := .none, data := .fields #[] }
  nk : ∀ p ∈ cs, K.lookup p.2 = none
  cd : ∀ p ∈ cs, PySem.W.CodeHd h p.1 p.2
  bm : ∃ (z : Addr) (q : Obj), mg "__builtins__" = some (.ref z) ∧ z ≠ builtinsNs ∧ h.get? z = some q ∧ q.cls = .type "module" ∧ q.dict = some builtinsNs ∧ q.data = .plain
  sc : h.get? a = some { cls := .type "list", data := .seq us }
/-- tracked are the tables, and perhaps the script -/
structure Fit (H : Hp) (K : PySem.W.Frag) (cs : List (Addr × Addr)) (a : Addr) : Prop where
  tb : ∀ p ∈ cs, H p.2 = some (.tbl #[])
  no : ∀ b u, H b = some u → (∃ p ∈ cs, p.2 = b ∧ u = .tbl #[]) ∨ (b = a ∧ K.lookup a = none ∧ ∃ o xs, u = .frz o (.lst xs))
section
variable {h : Heap} {K : PySem.W.Frag} {mg : Str → Option Value} {cs : List (Addr × Addr)} {a : Addr} {us : Array Value} {H : Hp}
theorem Fit.off (F : Fit H K cs a) (B : Beg h K mg cs a us) {b : Addr} {o : Obj} (e : h.get? b = some o) (n1 : ∀ vs n, o.data ≠ .seq vs n) (n2 : o.data ≠ .fields #[]) : H b = none := by
  match q : H b with
  | none => rfl
  | some u =>
    rcases F.no b u q with ⟨p, hp, rfl, _⟩ | ⟨rfl, _⟩
    · have z := (B.tb p hp).symm.trans e
      exact absurd (congrArg Obj.data (Option.some.inj z)).symm n2
    · have z := B.sc.symm.trans e
      exact absurd (congrArg Obj.data (Option.some.inj z)).symm (n1 _ _)
theorem Fit.dic (F : Fit H K cs a) (B : Beg h K mg cs a us) {b : Addr} {m : Str → Option Value} (N : h.Ns b m) : (hidT h H).Ns b m := by
  obtain ⟨o, es, n, e, d, r⟩ := N
  refine ⟨o, es, n, hidT_get e (F.off B e ?_ ?_), d, r⟩
  · intro vs k z
    rw [d] at z
    cases z
  · intro z
    rw [d] at z
    cases z
theorem Fit.kin (F : Fit H K cs a) (B : Beg h K mg cs a us) : K.In (hidT h H) := fun b o e => hidT_get (B.kin b o e) <| by
  match q : H b with
  | none => rfl
  | some u =>
    rcases F.no b u q with ⟨p, hp, rfl, _⟩ | ⟨rfl, n, _⟩
    · rw [B.nk p hp] at e
      cases e
    · rw [n] at e
      cases e
theorem Fit.mod (F : Fit H K cs a) (B : Beg h K mg cs a us) : L2.Mod K mg (hidT h H) := by
  obtain ⟨m, m1, m2⟩ := B.bl
  obtain ⟨c, c1, c2⟩ := B.nl
  exact ⟨F.kin B, F.dic B B.gl, ⟨m, F.dic B m1, m2⟩, ⟨c, F.dic B c1, c2⟩⟩
theorem Fit.tabs (F : Fit H K cs a) (B : Beg h K mg cs a us) : ∀ p ∈ cs, TabB (hidT h H) mg p.1 p.2 := by
  intro p hp
  have tp := B.tb p hp
  have gP : mainGlobals ≠ p.2 := by
    intro z
    obtain ⟨o, es, n, e, d, _⟩ := B.gl
    rw [z, tp] at e
    cases e
    cases d
  refine ⟨?_, ?_, gP⟩
  · obtain ⟨o, vs, fl, tf, fg, tg, iF, tx, tt, e, r1, r2, r3, r⟩ := B.cd p hp
    refine ⟨o, vs, fl, tf, fg, tg, iF, tx, tt, hidT_get e (F.off B e (fun vs n z => ?_) (fun z => ?_)), r1, r2, r3, r⟩
    · rw [r2] at z
      cases z
    · rw [r2] at z
      cases z
      simp at r3
  · obtain ⟨z, q, b1, b2, b3, b4, b5, b6⟩ := B.bm
    refine ⟨z, q, b1, b2, fun y => ?_, fun y => ?_, hidT_get b3 (F.off B b3 (fun vs n y => ?_) (fun y => ?_)), b4, b5, b6⟩
    · obtain ⟨o, es, n, e, d, _⟩ := B.gl
      rw [← y, b3] at e
      cases e
      rw [b6] at d
      cases d
    · rw [y, tp] at b3
      cases b3
      cases b6
    · rw [b6] at y
      cases y
    · rw [b6] at y
      cases y
/-- what stood stands, behind the call -/
theorem Fit.old (F : Fit H K cs a) (B : Beg h K mg cs a us) {P : Program} {w : World} {G : Hp} {h' : Heap} (U : Un [] [] H G h h') (o1 : HOk P w H h) (o2 : HOk P w G h') : OldK h h' := by
  have tab : ∀ p ∈ cs, ∃ m : Array Value, h'.get? p.2 = some { cls := .none, data := .fields m } := fun p hp => by
    obtain ⟨m, z⟩ := U.tbls p.2 #[] (F.tb p hp)
    exact ⟨_, o2 p.2 _ z⟩
  have rest : ∀ b o, h.get? b = some o → (∃ p ∈ cs, p.2 = b) ∨ h'.get? b = some o := fun b o e => by
    match q : H b with
    | none => exact .inr (U.keep b o e q (by simp) (by simp))
    | some u =>
      rcases F.no b u q with ⟨p, hp, z, _⟩ | ⟨_, _, ob, xs, rfl⟩
      · exact .inl ⟨p, hp, z⟩
      · have e1 := (o1 b _ q).1
        have e2 := (o2 b _ (U.frzs b ob _ q)).1
        rw [e] at e1
        cases e1
        exact .inr e2
  constructor
  · intro b o e
    rcases rest b o e with ⟨p, hp, rfl⟩ | z
    · obtain ⟨m, hm⟩ := tab p hp
      have tp := B.tb p hp
      rw [tp] at e
      cases e
      exact .inr (.inl ⟨((B.cd p hp).tab tp).isCodeTable, rfl, #[], m, rfl, by rw [Array.empty_append]; exact hm⟩)
    · exact .inl z
  · intro b o e
    rcases rest b o e with ⟨p, hp, rfl⟩ | z
    · obtain ⟨m, hm⟩ := tab p hp
      exact ⟨_, hm⟩
    · exact ⟨o, z⟩
end
/-- such a heap there is -/
theorem fit_of {h : Heap} {K : PySem.W.Frag} {mg : Str → Option Value} {cs : List (Addr × Addr)} {a : Addr} {vs : List Value} {ns : List Int} (P : Program) (w : World) (B : Beg h K mg cs a vs.toArray) (hi : IntsAre vs ns) (hl : ns.length ≤ sizeLine) :
    ∃ H : Hp, Fit H K cs a ∧ SqL K H a (ns.map V.int) ∧ HOk P w H h := by
  have lv := hi.length
  have isT : ∀ b, (∃ p ∈ cs, p.2 = b) → h.get? b = some { cls := .none, data := .fields #[] } := by
    rintro b ⟨p, hp, rfl⟩
    exact B.tb p hp
  have na : ¬ ∃ p ∈ cs, p.2 = a := fun z => by
    have y := congrArg Obj.data (Option.some.inj ((isT a z).symm.trans B.sc))
    cases y
  open Classical in
  let T : Hp := fun b => if ∃ p ∈ cs, p.2 = b then some (.tbl #[]) else none
  have Ty : ∀ p ∈ cs, T p.2 = some (.tbl #[]) := fun p hp => if_pos ⟨p, hp, rfl⟩
  have Tn : ∀ b u, T b = some u → (∃ p ∈ cs, p.2 = b) ∧ u = .tbl #[] := fun b u z => by
    by_cases c : ∃ p ∈ cs, p.2 = b
    · exact ⟨c, (Option.some.inj ((if_pos c).symm.trans z)).symm⟩
    · have y := (if_neg c).symm.trans z
      cases y
  match hk : K.lookup a with
  | some o =>
    have e := B.kin a o hk
    rw [B.sc] at e
    cases e
    refine ⟨T, ⟨Ty, fun b u z => ?_⟩, .inr ⟨_, vs.toArray, _, hk, rfl, rfl, rfl, by rw [List.size_toArray, lv]; exact hl, by simpa using vals_ints hi⟩, fun b u z => ?_⟩
    · obtain ⟨⟨p, hp, e⟩, e2⟩ := Tn b u z
      exact .inl ⟨p, hp, e, e2⟩
    · obtain ⟨c, rfl⟩ := Tn b u z
      exact isT b c
  | none =>
    refine ⟨upd T a (.frz { cls := .type "list", data := .seq vs.toArray } (.lst (ns.map V.int))), ⟨fun p hp => ?_, fun b u z => ?_⟩, .inl (.inr ⟨_, upd_same⟩), fun b u z => ?_⟩
    · rw [upd_ne (fun y => na ⟨p, hp, y⟩)]
      exact Ty p hp
    · by_cases c : b = a
      · subst c
        rw [upd_same] at z
        cases z
        exact .inr ⟨rfl, hk, _, _, rfl⟩
      · rw [upd_ne c] at z
        obtain ⟨⟨p, hp, e⟩, e2⟩ := Tn b u z
        exact .inl ⟨p, hp, e, e2⟩
    · by_cases c : b = a
      · subst c
        rw [upd_same] at z
        cases z
        exact ⟨B.sc, by rw [List.length_map]; exact hl, vs, _, vals_ints hi, B.sc⟩
      · rw [upd_ne c] at z
        obtain ⟨c, rfl⟩ := Tn b u z
        exact isT b c
/-- what is known of the law's promise at the head's heap -/
def LawG (l : PySem.W.OpenLaw) (w : World) (K : PySem.W.Frag) (CX : CXT) (k n : Nat) (x : Str) (mg : Str → Option Value) (fa : Addr) (h : Heap) : Prop :=
  ∃ (fd : FuncData) (cs : List (Addr × Addr)) (sp : Sp), (∀ p ∈ cs, h.get? p.2 = some { cls := .none, data := .fields #[] } ∧ K.lookup p.2 = none ∧ PySem.W.CodeHd h p.1 p.2) ∧ (∀ (s : Shared) (u : Value), BindsTo s fd ⟨[u], []⟩ [(x, u)]) ∧
    (∀ (H : Hp) (a : Addr) (ns : List Int), ns.length ≤ n → (∀ z ∈ ns, Builtin.Int.intBits z ≤ 1048576) → (∀ p ∈ cs, H p.2 = some (.tbl #[])) → SqL K H a (ns.map V.int) → sp [.ref a] H (fun v _ => v = .bl true) E0) ∧
    ∀ base : Heap, K.In base → base.Ns mainGlobals mg → (∀ p ∈ cs, TabB base mg p.1 p.2) → FnG l.prog w K mg base CX k fa fd [x] sp
/-- the end; names: the defs with generator expressions -/
theorem walk_ofG {l : PySem.W.OpenLaw} {n k : Nat} {q : Program} {loose : List Str} {XP : (Str → Option Value) → Heap → Prop} {YP : World → Heap → Prop} {d : DefRec} {K : Params → PySem.W.Frag} {CX : World → CXT} {x : Str}
    (hn : l.most = some n) (hz : n ≤ sizeLine) (hdf : d.params.defaults = []) (hr : Room k callerA) (hY : ∀ (w : World) (h : Heap), YP w h → (K w.params).In h)
    (F : ∀ (w : World) (mg : Str → Option Value) (fa : Addr) (h : Heap), YP w h → (K w.params).In h → h.Ns mainGlobals mg → mg d.name = some (.ref fa) →
      (∀ e ∈ recsOf q, ∃ (a : Addr) (o : Obj) (fd : FuncData) (c p : Addr), mg e.name = some (.ref a) ∧ h.get? a = some o ∧ o.data = .func fd ∧ fd.code = .ref c ∧ h.IsCode c p #[] ∧ h.TableAt c p #[]) → LawG l w (K w.params) (CX w) k n x mg fa h)
    (hX : ∀ (w : World) (H : Hp) (s : Shared) (e : Value) (t : Shared), CX w [] H s E0 e t → False) :
    PySem.W.WalkO q loose XP YP l.row.toRowW d [] (fun f vs => PySem.call f vs) := by
  refine Att.attach_callB hn hdf ?_
  intro w s₀ s mg mb fa o pm cd doc a vs ns G Y _ _ _ hmg ha hi hlen bits hg
  have KX := hY w _ Y
  obtain ⟨fd, cs, sp, tabs, bind, start, run⟩ := F w mg fa _ Y KX G.T.g hmg fun e he => G.T.tab e he
  have B : Beg s.heap (K w.params) mg cs a vs.toArray := ⟨KX, G.T.g, ⟨mb, G.T.b, G.T.builtins⟩, G.T.nolimit, fun p hp => (tabs p hp).1, fun p hp => (tabs p hp).2.1, fun p hp => (tabs p hp).2.2, G.T.bmain, ha⟩
  obtain ⟨H, Ft, sq, ok⟩ := fit_of l.prog w B hi (Nat.le_trans hlen hz)
  have e0 : Env0 l.prog w (K w.params) mg (hidT s.heap H) callerA [] s H := ⟨rfl, Ft.mod B, fun b u e => of_hidT e, Nat.le_of_eq (hidT_size _ _), trivial, by simp [frs], ok, .of_eq hg⟩
  refine codeAny_mono ((run _ (Ft.kin B) (Ft.dic B G.T.g) (Ft.tabs B)).go callerA [] s H ⟨[.ref a], []⟩ [.ref a] [.ref a] _ E0 rfl hr e0 (bind s (.ref a)) (.cons rfl .nil) (start H a ns hlen bits Ft.tb sq)) ?_
  intro r t z
  match r, z with
  | .error e, z => exact (hX w H s e t z).elim
  | .ok .next, z => exact z.elim
  | .ok .brk, z => exact z.elim
  | .ok .cont, z => exact z.elim
  | .ok (.ret u), ⟨v, G', os, bare, un, ok', rv, e⟩ =>
    have e : v = .bl true := e
    subst e
    obtain rfl : u = Value.bool true := rv
    exact ⟨rfl, Ft.old B un ok ok', os, bare⟩
end Kf

/-! the signs of a repr: texts of letters, tuples -/
namespace Kf
open PySem PySem.Spec PyProof.Rows L2 PySem.Builtin.Str
/-- of small letters alone -/
def Low (x : Str) : Prop := ∀ c ∈ x.cps.toList, 97 ≤ c ∧ c < 123
theorem ch_low : ∀ i : Fin 26, reprChar 39 (97 + i.val) = [97 + i.val] := by decide +kernel
theorem ch_low' {c : Nat} (h : 97 ≤ c ∧ c < 123) : reprChar 39 c = [c] := by
  have z := ch_low ⟨c - 97, by omega⟩
  have e : 97 + (c - 97) = c := by omega
  simp only [e] at z
  exact z
theorem fold_low : ∀ (l : List Nat) (acc : Array Nat), (∀ c ∈ l, 97 ≤ c ∧ c < 123) → (l.foldl (fun out c => out ++ (reprChar 39 c).toArray) acc).toList = acc.toList ++ l
  | [], acc, _ => by simp
  | c :: l, acc, h => by
    rw [List.foldl_cons, fold_low l _ fun d hd => h d (List.mem_cons_of_mem _ hd), ch_low' (h c List.mem_cons_self)]
    simp
theorem quote_low {x : Str} (h : Low x) : reprQuote x = 39 := by
  unfold reprQuote
  have e : x.cps.contains 39 = false := by
    rw [← Bool.not_eq_true]
    intro z
    have m : (39 : Nat) ∈ x.cps := by simpa using z
    have := h 39 (Array.mem_def.mp m)
    omega
  rw [e]
  rfl
theorem repr_low {x : Str} (h : Low x) : (reprText x).cps.toList = 39 :: (x.cps.toList ++ [39]) := by
  unfold reprText
  rw [quote_low h, ← Array.foldl_toList, Array.toList_push, fold_low _ _ h]
  rfl
theorem cnt_low {x : Str} (h : Low x) : cnt 40 (reprText x).cps.toList = 0 := by
  rw [repr_low h, cnt_cons, cnt_append]
  have z : ∀ l : List Nat, (∀ c ∈ l, 97 ≤ c ∧ c < 123) → cnt 40 l = 0 := by
    intro l
    induction l with
    | nil => intro _; rfl
    | cons c l ih =>
      intro h
      rw [cnt_cons, ih fun d hd => h d (List.mem_cons_of_mem _ hd)]
      have := h c List.mem_cons_self
      rw [if_neg (by omega)]
      rfl
  rw [z _ h]
  decide
theorem len_low {x : Str} (h : Low x) : (reprText x).length = x.cps.toList.length + 2 := by
  show (reprText x).cps.size = _
  rw [← Array.length_toList, repr_low h]
  simp
theorem cps_app (x y : Str) : (x ++ y).cps.toList = x.cps.toList ++ y.cps.toList := by
  show (x.cps ++ y.cps).toList = _
  rw [Array.toList_append]
theorem cnt_tup (ts : List Str) : cnt 40 (tupleText ts).cps.toList = 1 + (ts.map fun t => cnt 40 t.cps.toList).sum := by
  unfold tupleText
  rw [cps_app, cps_app, cnt_append, cnt_append, cnt_join_sum]
  have e1 : cnt 40 (("(" : Str)).cps.toList = 1 := by decide +kernel
  have e2 : cnt 40 ((", " : Str)).cps.toList = 0 := by decide +kernel
  have e3 : cnt 40 (((if ts.length == 1 then ",)" else ")" : String) : Str)).cps.toList = 0 := by split <;> decide +kernel
  rw [e1, e2, e3, Int.mul_zero]
  omega
theorem count_par (x : Str) : Txt.count x "(" = cnt 40 x.cps.toList := by
  have e : (("(" : String) : Str) = ⟨#[40]⟩ := by decide +kernel
  rw [e]
  exact count_cnt x 40
end Kf

/-! a thing of anything != a text -/
namespace PySem.SeqAt
theorem dic_declinesN (l : Addr) (es : Array DictEntry) (n : Nat) (dd : Option Addr) (sl : Array (Option Value)) (b : Str) (u : Tok) :
    Meets (Builtin.«dict.__ne__» ⟨[.ref l, .str b u], []⟩) (fun _ R s => s.heap.get? l = some { cls := .type "dict", dict := dd, data := .dict es n, slots := sl } ∧ R (.ok (.ret .notImplemented)) s) :=
  .of_wp fun prog w A R s h => by
    obtain ⟨hp, g, d, tk, os⟩ := s
    obtain ⟨hl, h⟩ := h
    have f1 := sub_str_dic
    wp_walk using AutoSeq1.wpAny_loadPart' hl
    exact ⟨_, rfl, h⟩
theorem str_declines_dicN (b : Str) (u : Tok) (l : Addr) (es : Array DictEntry) (n : Nat) (dd : Option Addr) (sl : Array (Option Value)) :
    Meets (Builtin.«str.__ne__» ⟨[.str b u, .ref l], []⟩) (fun _ R s => s.heap.get? l = some { cls := .type "dict", dict := dd, data := .dict es n, slots := sl } ∧ R (.ok (.ret .notImplemented)) s) :=
  .of_wp fun prog w A R s h => by
    obtain ⟨hp, g, d, tk, os⟩ := s
    obtain ⟨hl, h⟩ := h
    wp_walk using AutoSeq1.wpAny_loadPart' hl, wpAny_load hl
    exact ⟨_, rfl, h⟩
theorem dic_strN {A : Around} {s : Shared} {l : Addr} {o : Obj} {es : Array DictEntry} {n : Nat} (b : Str) (u : Tok) (ho : s.heap.get? l = some o) (hc : o.cls = .type "dict") (hd : o.data = .dict es n) (hu : A.units < cLine) : RcNeAt A s (.ref l) (.str b u) true := fun prog w E Q h => by
  obtain ⟨cls, dd, data, sl⟩ := o
  simp only at hc hd
  subst hc hd
  exact rc_ne_decline_or (k := false) ⟨_, ho, rfl⟩ (typeIs_str s b u) (by decide) sub_str_dic F.slot_dict_ne F.slot_str_ne_refl
    (fun _ hq => call_meets F.slot_dict_ne ⟨_, ho, rfl⟩ F.entry_dict_ne (F.args_dict_ne_2 _ _) (dic_declinesN l es n dd sl b u) ⟨ho, hq⟩)
    (fun _ hq => call_meets F.slot_str_ne_refl (typeIs_str s b u) F.entry_str_ne (F.args_str_ne_2 _ _) (str_declines_dicN b u l es n dd sl) ⟨ho, hq⟩)
    (fun _ hq => wpAny_of_eq (rfl : isSame (.ref l) (.str b u) = pure false) hq) (.inr hu) h
end PySem.SeqAt
namespace Kv
open PySem PySem.Spec PyProof.Rows L2 Kf
def rNeUS : R2 := fun x y H Q => ∃ (d : Dt) (z : Str), Dd Any H d x ∧ y = .str z ∧ Q (.bl (!d.isS z)) H
theorem op_neUS {X : Cx} (hu : X.A.units + 64 < cLine) : OpR X (compareOp .NotEq) rNeUS := by
  intro pins s σ H x y v u Q I rx ry h
  obtain ⟨d, z, hd, rfl, q⟩ := h
  obtain ⟨t2, rfl⟩ := ry
  have no : d.isS z = false → EP X pins σ Q (.bool true) s := fun e => by
    rw [e] at q
    exact ⟨.bl true, H, I, rfl, q⟩
  cases hd with
  | non =>
    cases rx
    exact SeqAt.RcNeAt.none_str z t2 _ _ _ _ (no rfl)
  | bl b =>
    cases rx
    exact SeqAt.RcNeAt.bool_str b z t2 _ _ _ _ (no rfl)
  | int i =>
    obtain ⟨t1, rfl⟩ := rx
    exact SeqAt.RcNeAt.int_str i t1 z t2 _ _ _ _ (no rfl)
  | str y =>
    obtain ⟨t1, rfl⟩ := rx
    refine SeqAt.RcNeAt.str_str y t1 z t2 _ _ _ _ ?_
    have e : (y == z) = (Dt.str y).isS z := by
      show (y == z) = decide (y = z)
      by_cases c : y = z
      · subst c
        simp
      · rw [decide_eq_false c]
        exact beq_eq_false_iff_ne.mpr c
    rw [e]
    exact ⟨.bl _, H, I, rfl, q⟩
  | tup h t =>
    cases rx
    obtain ⟨its, rv, ⟨o, ho, hc, n, hd⟩, _⟩ := I.tuple (SqT.of h)
    exact SeqAt.RcNeAt.tuple_str z t2 ⟨o, ho, hc, n, hd⟩ (by omega) _ _ _ _ (no rfl)
  | lst _ h t =>
    cases rx
    obtain ⟨its, rv, ⟨o, n, ho, hc, _, hd⟩, _⟩ := I.list (SqL.of h)
    exact SeqAt.RcNeAt.list_str z t2 ⟨o, ho, hc, n, hd⟩ (by omega) _ _ _ _ (no rfl)
  | emp _ h =>
    cases rx
    obtain ⟨o, n, ho, hc, hd, _⟩ := emp_obj I h
    exact SeqAt.dic_strN z t2 ho hc hd (by omega) _ _ _ _ (no rfl)
end Kv

namespace Kr
open PySem PySem.Spec PyProof.Rows L2 RT
section
variable {prog : Program} {w : World} {A : Around} {E : Value → Shared → Prop} {s : Shared}
/-- a list grows by what a walk from behind over another list gives -/
theorem growRev {R : Result → Shared → Prop} {it l S : Addr} {its : Array Value} {res : Value} {c0 : Nat} (hh : A.handled = none) (hit : s.heap.IsRevIter it l ((its.size : Int) - 1))
    (hl : s.heap.IsList l its) (hne : l ≠ it) (hn : its.size ≤ sizeLine) (hS : s.heap.get? S = some { cls := .type "list", data := .seq #[] c0 }) (hSi : S ≠ it) (hSl : S ≠ l)
    (hR : ∀ (h' : Heap) (tk : Nat) (acc : Array Value) (c : Nat), (∀ b o, b ≠ it → b ≠ S → s.heap.get? b = some o → h'.get? b = some o) →
      h'.get? S = some { cls := .type "list", dict := none, data := .seq acc c, slots := #[] } → ItemsOf (fun i v => its[its.size - 1 - i]? = some v) acc its.size → R (.ok (.ret res)) { s with heap := h', toks := tk }) :
    wpAny (model prog w) A.in1 (Builtin.List.listExtendWith (.ref S) (.ref it) res)
      (fun fin s' => match fin with
        | .done f => R (.ok f) s'
        | .again c' => c'.quiet = true ∧ codeAny (model prog w) A c' R s') (fun e s' => R (.error e) s') s := by
  have W := (Walks.listRev (prog := prog) (w := w) (A := A.in1) hh it l hne its).toS
  have out : S ∉ [it, l] := by
    intro z
    rcases List.mem_cons.mp z with z | z
    · exact hSi z
    · exact hSl (List.mem_singleton.mp z)
  have ty : s.TypeIs (.ref it) "list_reverseiterator" := hit.typeIs
  have no : Builtin.List.listSameRef (.ref S) (.ref it) = false := by
    simp [Builtin.List.listSameRef, hSi]
  unfold Builtin.List.listExtendWith
  refine wpAny_bind (wpAny_typeOf ty ?_)
  rw [if_neg (by rw [no]; decide)]
  refine wpAny_bind (wpAny_pyIter_revIter hit ?_)
  refine wpAny_bind (wpAny_holding ?_)
  unfold Builtin.List.listLengthHint
  refine wpAny_bind (wpAny_specialOf ty RT.nolen_lri ?_)
  show wpAny _ A.in1 (specialOf (.ref it) (Str.ofString "__length_hint__") >>= _) _ _ _
  refine wpAny_bind (wpAny_specialOf ty RT.hint_lri ?_)
  generalize hid : ("list_reverseiterator.__length_hint__" : String) = nm
  wp_delta
  have sp : splitId nm = some ("list_reverseiterator", "__length_hint__") := by
    subst hid
    decide +kernel
  rw [sp]
  subst hid
  refine wpAny_bind (wpAny_isInstance (b := true) ty (by rw [isSubtype_type]; kernel_rfl) ?_)
  refine wpAny_pure ?_
  rw [if_neg (by decide)]
  have z0 : ((its.size : Nat) : Int) - 1 - ((0 : Nat) : Int) = (its.size : Int) - 1 := by omega
  have st0 : s.heap.IsRevIter it l ((its.size : Int) - 1 - ((0 : Nat) : Int)) := by rw [z0]; exact hit
  refine wpAny_pure ⟨plainId_quiet F.plain_extend_loop _, ?_⟩
  refine codeAny_extend_loopS W hn S out res its.size 0 _ _ _ rfl (Nat.zero_le _) ⟨Nat.zero_le _, st0, hl⟩ hS (ItemsOf.nil _) (fun s' acc' c' mv hS' hacc => ?_)
  rw [Moved.eq_with mv]
  refine hR s'.heap s'.toks acc' c' (fun b o h1 h2 e => mv.heap b o (fun z => ?_) e) hS' hacc
  rcases List.mem_cons.mp z with z | z
  · exact h2 z
  · exact h1 (List.mem_singleton.mp z)
theorem call_list_rev {Q : Value → Shared → Prop} {it l : Addr} {its : Array Value} (hh : A.handled = none) (hit : s.heap.IsRevIter it l ((its.size : Int) - 1)) (hl : s.heap.IsList l its) (hne : l ≠ it) (hn : its.size ≤ sizeLine)
    (hQ : ∀ (h' : Heap) (tk : Nat) (acc : Array Value) (c : Nat), (∀ b o, b ≠ it → s.heap.get? b = some o → h'.get? b = some o) →
      h'.get? s.heap.objs.size = some { cls := .type "list", dict := none, data := .seq acc c, slots := #[] } → ItemsOf (fun i v => its[its.size - 1 - i]? = some v) acc its.size → Q (.ref s.heap.objs.size) { s with heap := h', toks := tk }) :
    wpAny (model prog w) A (call (.type "list") [.ref it]) Q E s := by
  obtain ⟨oi, hoi, _⟩ := id hit
  obtain ⟨ol, hol, _⟩ := id hl
  have n1 : s.heap.objs.size ≠ it := Nat.ne_of_gt (Heap.lt_size hoi)
  have n2 : s.heap.objs.size ≠ l := Nat.ne_of_gt (Heap.lt_size hol)
  refine callType_codes (Q₁ := fun obj s₁ => obj = .ref s.heap.objs.size ∧ s₁ = { s with heap := s.heap.push { cls := .type "list", data := .seq #[] } })
    F.called_list (F.typeCall_list_1 _) F.entry_list_init (code_list_new _ ⟨rfl, rfl⟩) (fun obj s₁ h₁ => ?_)
  obtain ⟨rfl, rfl⟩ := h₁
  have hS : (s.heap.push { cls := .type "list", data := .seq #[] }).get? s.heap.objs.size
      = some { cls := .type "list", data := .seq #[] } := Heap.get?_push_size _ rfl
  refine ⟨⟨_, hS, rfl⟩, F.args_list_init_2 _ _, ?_⟩
  show wpAny _ _ (do
    let old ← Builtin.List.listItems (.ref s.heap.objs.size)
    Builtin.List.listUpdate (.ref s.heap.objs.size) (fun _ => #[])
    letGo old.toList.reverse
    Builtin.List.listExtendWith (.ref s.heap.objs.size) (.ref it) .none) _ _ _
  refine wpAny_bind ?_
  unfold Builtin.List.listItems
  refine wpAny_bind (wpAny_seqItems hS rfl (wpAny_pure ?_))
  show wpAny _ _ (do
    updateSeq s.heap.objs.size (fun _ => #[])
    letGo (#[] : Array Value).toList.reverse
    Builtin.List.listExtendWith (.ref s.heap.objs.size) (.ref it) .none) _ _ _
  refine wpAny_bind (wpAny_updateSeq hS rfl ?_)
  have hS2 := Heap.get?_update_self (Obj.mapSeq fun _ => (#[] : Array Value)) hS rfl
  refine wpAny_bind (wpAny_letGo ?_)
  generalize hh2 : (s.heap.push { cls := .type "list", data := .seq #[] }).update s.heap.objs.size (Obj.mapSeq fun _ => (#[] : Array Value)) = h2 at hS2 ⊢
  have kp : ∀ b o, s.heap.get? b = some o → h2.get? b = some o := fun b o e => by
    rw [← hh2, Heap.get?_update_other _ _ (Nat.ne_of_gt (Heap.lt_size e))]
    exact Heap.get?_push_of_some _ e
  have hl2 : h2.IsList l its := by
    obtain ⟨o, e, r⟩ := id hl
    exact ⟨o, kp _ _ e, r⟩
  refine growRev (A := A.in1) (s := { s with heap := h2 }) hh (hit.at fun o e => kp _ _ e) hl2 hne hn hS2 n1 n2 (fun h' tk acc c k e i => ?_)
  exact ⟨rfl, hQ h' tk acc c (fun b o hb hbo => k b o hb (Nat.ne_of_lt (Heap.lt_size hbo)) (kp b o hbo)) e i⟩
end
/-- list(reversed(x)), x a list -/
def tListRev (K : PySem.W.Frag) (te : TE) : TE := fun σ H Q => te σ H fun v G => ∃ (a : Addr) (xs : List V), v = .ref a ∧ SqL K G a xs ∧ ∀ q, G q = none → Q (.ref q) (upd G q (.lst xs.reverse))
theorem pe_listRev {X : Cx} {e : Expr} {te : TE} {p p2 pos pos2 : Pos} (hc : X.calm = true) (hg : Gl X "list") (hm : X.mg "list" = none) (hg2 : Gl X "reversed") (hm2 : X.mg "reversed" = none) (he : PE X e te)
    (hs : starEach [e] X.env = (false, eval e X.env) :: starEach [] X.env := by rfl)
    (hs2 : starEach [.Call (.Name "reversed" p2) [e] [] pos2] X.env = (false, eval (.Call (.Name "reversed" p2) [e] [] pos2) X.env) :: starEach [] X.env := by rfl) :
    PE X (.Call (.Name "list" p) [.Call (.Name "reversed" p2) [e] [] pos2] [] pos) (tListRev X.K te) := by
  refine ⟨fun pins s σ H Q I h => ?_⟩
  have inner := fun (Q' : Value → Shared → Prop) (k : ∀ (a : Addr) (xs : List V) (its : List Value) (s1 : Shared) (G : Hp), Inv X pins σ G s1 → SqL X.K G a xs → Vals xs its → PlainL s1.heap a its.toArray → xs.length ≤ sizeLine →
      (∀ q, G q = none → Q (.ref q) (upd G q (.lst xs.reverse))) → Q' (.ref s1.heap.objs.size) { s1 with heap := s1.heap.push (revObj a ((its.toArray.size : Int) - 1)) }) =>
    show wpAny (model X.prog X.w) X.A (eval (.Call (.Name "reversed" p2) [e] [] pos2) X.env) Q' X.xe s from
      Call_ (ld_blt I hg2 hm2 PyProof.Rows.boot_reversed (PyProof.Rows.callWith_type1 (args_cons (thn (he.run pins s σ H _ I h) fun u s1 ⟨v, G, I1, r1, a, xs, ev, hq, q⟩ => args_nil (by
        subst ev
        obtain rfl : u = Value.ref a := r1
        obtain ⟨its, rv, pl, hz⟩ := I1.list hq
        exact call_reversed_list pl.isList (k a xs its s1 G I1 hq rv pl hz q))) hs) hs rfl))
  refine Call_ (ld_blt I hg hm boot_list (PyProof.Rows.callWith_type1 (args_cons (inner _ fun a xs its s1 G I1 hq rv pl hz q => args_nil ?_) hs2) hs2 rfl))
  have k0 : ∀ b o, s1.heap.get? b = some o → (s1.heap.push (revObj a ((its.toArray.size : Int) - 1))).get? b = some o := fun b o z => Heap.get?_push_of_some _ z
  obtain ⟨ol, hol, _⟩ := id pl.isList
  have hne : a ≠ s1.heap.objs.size := Nat.ne_of_lt (Heap.lt_size hol)
  have hn : its.toArray.size ≤ sizeLine := by rw [List.size_toArray, ← rv.length]; exact hz
  generalize hh3 : s1.heap.push (revObj a ((its.toArray.size : Int) - 1)) = h3 at k0 ⊢
  have it3 : h3.IsRevIter s1.heap.objs.size a ((its.toArray.size : Int) - 1) := by
    rw [← hh3]
    exact ⟨_, Heap.get?_push_size _ rfl, rfl, rfl⟩
  have l3 : h3.IsList a its.toArray := by
    rw [← hh3]
    exact pl.isList.push _
  have lt3 : s1.heap.objs.size < h3.objs.size := by
    obtain ⟨o, e, _⟩ := id it3
    exact Heap.lt_size e
  refine call_list_rev (s := { s1 with heap := h3 }) (I1.ok.hd hc) it3 l3 hne hn fun h' tk acc c hk hS hi => ?_
  have hgo : G h3.objs.size = none := I1.hok.fresh (Nat.le_of_lt lt3)
  refine ⟨.ref h3.objs.size, upd G h3.objs.size (.lst xs.reverse), I1.laid (t' := tk) (fun b o z => hk b o (Nat.ne_of_lt (Heap.lt_size z)) (k0 b o z)) (Nat.le_of_lt lt3)
    (show ObjOk X.prog X.w _ _ _ (.lst xs.reverse) from ⟨by rw [List.length_reverse]; exact hz, acc.toList, c, vals_rev rv hi, by rw [Array.toArray_toList]; exact hS⟩), rfl, q _ hgo⟩
/-- xs.extend(t), t a tuple -/
def rExtT (K : PySem.W.Frag) : V → List V → Hp → VK → Prop := fun x vs H Q => ∃ l b xs zs, x = .ref l ∧ vs = [.ref b] ∧ H l = some (.lst xs) ∧ SqT K H b zs ∧ xs.length + zs.length ≤ sizeLine ∧ Q .non (upd H l (.lst (xs ++ zs)))
theorem mt_extT {X : Cx} : MtM X "list.extend" (rExtT X.K) := by
  intro pins s σ H x vs v us Q I rx rv h
  obtain ⟨l, b, xs, zs, rfl, rfl, hl, hb, hz, q⟩ := h
  cases rx
  obtain ⟨u, rfl, ru⟩ := rv.one
  cases ru
  obtain ⟨z1, its, n, r1, _, e1⟩ := I.lstM hl
  obtain ⟨jts, r2, ⟨o, eo, oc, m, od⟩, z2⟩ := I.tuple hb
  have n1 := r1.length
  have n2 := r2.length
  have sm : its.toArray.size + jts.toArray.size ≤ sizeLine := by
    rw [List.size_toArray, List.size_toArray]
    omega
  have ty : s.TypeIs (.ref b) "tuple" := ⟨o, eo, oc⟩
  refine wpAny_call_entry F.slot_list_extend ⟨_, e1, rfl⟩ F.entry_list_extend ?_ (F.args_list_extend_2 _ _)
  show wpAny _ _ (Builtin.List.listExtendWith (.ref l) (.ref b) .none) _ _ _
  unfold Builtin.List.listExtendWith
  refine wpAny_bind (wpAny_typeOf ty ?_)
  have yes : (Builtin.List.listSameRef (.ref l) (.ref b) || Value.type "tuple" == Value.type "list" || Value.type "tuple" == Value.type "tuple") = true := by simp
  rw [if_pos yes]
  refine wpAny_bind ?_
  unfold Builtin.List.listItems
  refine wpAny_bind (wpAny_seqItems eo od (wpAny_pure ?_))
  refine wpAny_bind ?_
  refine wpAny_bind (wpAny_seqItems e1 rfl (wpAny_pure ?_))
  have long : (!its.toArray.isEmpty && Builtin.List.listTooLong (its.toArray.size + jts.toArray.size)) = false := by
    rw [notLongL sm, Bool.and_false]
  rw [if_neg (by rw [long]; exact Bool.false_ne_true)]
  refine wpAny_bind ?_
  show wpAny _ _ (updateSeq l (· ++ jts.toArray)) _ _ _
  refine wpAny_updateSeq e1 rfl ?_ (by rw [List.size_toArray]; omega) (by rw [Array.size_append]; omega)
  refine wpAny_pure ⟨_, rfl, ?_⟩
  refine ⟨.non, _, I.lset (its' := its ++ jts) hl e1 (by simp) (r1.append r2) ?_, rfl, q⟩
  rw [List.length_append]
  exact hz
end Kr

/-! d.get(k) of a dict of the module; statements and expressions that are never reached -/
namespace Kk
open PySem PySem.Spec PyProof.Rows L2
theorem ps_no {X : Cx} {st : Stmt} : PS X st (fun _ _ _ => False) := ⟨fun _ _ _ _ _ _ h => h.elim⟩
theorem pss_no {X : Cx} {b : List Stmt} : PSs X b (fun _ _ _ => False) := ⟨fun _ _ _ _ _ _ h => h.elim⟩
theorem pe_no {X : Cx} {e : Expr} : PE X e (fun _ _ _ => False) := ⟨fun _ _ _ _ _ _ h => h.elim⟩
section
variable {X : Cx} {d : Addr} {es : Array DictEntry} {n : Nat}
def tKGet (K : PySem.W.Frag) (d : Addr) (to ty : TE) : TE := fun σ H Q => to σ H fun x H1 => x = .ref d ∧ ty σ H1 fun y H2 => ∃ (z : Str) (r : Option Value) (v : V), y = .str z ∧ PySem.W.nsIn K d z = some r ∧ RelV v (r.getD .none) ∧ Q v H2
theorem pe_kget {o e : Expr} {apos cpos : Pos} {to ty : TE} (D : KDict X.K X.w d es n) (ho : PE X o to) (he : PE X e ty) (m : M1 X o "get" apos e cpos) : PE X (.Call (.Attribute o "get" apos) [e] [] cpos) (tKGet X.K d to ty) := by
  refine ⟨fun pins s σ H Q I h => ?_⟩
  refine wpAny_Call_method m.base m.few m.line PySem.F.plainAttrs_dict PySem.F.slot_dict_get PySem.F.type_dict_get (thn (ho.run pins s σ H _ I h) fun u s1 ⟨x, H1, I1, rx, ex, q1⟩ => ?_)
  subst ex
  obtain rfl : u = Value.ref d := rx
  have M := PySem.W.mapOf_K (prog := X.prog) (w := X.w) I1.kIn D.at_ D.lit
  refine ⟨M.typeIs, M.noDict, ?_⟩
  rw [m.trees]
  refine Calls.callWith_builtin rfl (Calls.evalArgs_plain (Calls.spliced_cons (thn (he.run pins s1 σ H1 _ I1 q1) fun iv s2 ⟨y, H2, I2, ry, z, r, v, ey, e, rv, q2⟩ => Calls.spliced_nil ?_)))
  subst ey
  obtain ⟨t, rfl⟩ := (show ∃ t, iv = Value.str z t from ry)
  have M2 := PySem.W.mapOf_K (prog := X.prog) (w := X.w) I2.kIn D.at_ D.lit
  refine call_meetsIn PySem.F.slot_dict_get M2.typeIs PySem.F.entry_dict_get (PySem.F.args_dict_get_2 _ _) (meets_dict_get _ d (PySem.strKind_is X.prog X.w z t) D.low) ⟨_, M2, ?_⟩
  rw [PySem.W.find_K D.at_ e]
  exact ⟨v, H2, I2.tok _, rv, q2⟩
end
end Kk

namespace Kq
open PySem PySem.Spec PyProof.Rows L2
/-! the program's defs, by their places -/
def tp (i : Nat) : Stmt := PySem.Challenge.pw_kindalone_k08_refusals_made.main.body.getD i (.Pass ⟨0, 0, 0, 0⟩)
abbrev tMixed : Stmt := tp 32
abbrev tDraw : Stmt := tp 33
/-! heaps -/
theorem newS {H : Hp} {p : Addr} {o : HO} (h : H p = none) : Same H (upd H p o) := fun b u e => by
  rw [upd_ne (ne_of_none e h)]
  exact e
/-- but for d and c all that stood stands -/
def Kp (d c : Addr) (H G : Hp) : Prop := ∀ b o, b ≠ d → b ≠ c → H b = some o → G b = some o
theorem Kp.rfl {d c : Addr} {H : Hp} : Kp d c H H := fun _ _ _ _ e => e
theorem Kp.trans {d c : Addr} {H G F : Hp} (a : Kp d c H G) (b : Kp d c G F) : Kp d c H F := fun x o h1 h2 e => b x o h1 h2 (a x o h1 h2 e)
theorem Kp.of {d c : Addr} {H G : Hp} (a : Same H G) : Kp d c H G := fun x o _ _ e => a x o e
theorem Kp.at1 {d c : Addr} {H : Hp} {o : HO} : Kp d c H (upd H d o) := fun x u h1 _ e => by rw [upd_ne h1]; exact e
theorem Kp.at2 {d c : Addr} {H : Hp} {o : HO} : Kp d c H (upd H c o) := fun x u _ h2 e => by rw [upd_ne h2]; exact e
/-- the deck of drawn cells -/
structure Dk (H : Hp) (d c : Addr) : Prop where
  ne : d ≠ c
  dd : ∃ seed k : Int, H d = some (.lst [.ref c, .int seed, .int k])
  cc : ∃ ns : List Int, H c = some (.lst (ns.map V.int)) ∧ ns.length ≤ 63
theorem Dk.same {H G : Hp} {d c : Addr} (x : Dk H d c) (s : Same H G) : Dk G d c := by
  obtain ⟨n, ⟨a, b, e⟩, ⟨ns, f, l⟩⟩ := x
  exact ⟨n, ⟨a, b, s _ _ e⟩, ⟨ns, s _ _ f, l⟩⟩
theorem sz {n : Nat} (h : n ≤ 1000) : n ≤ sizeLine := Nat.le_of_lt (small1000 h)
section
variable {P : Program} {w : World} {K : PySem.W.Frag} {mg : Str → Option Value} {base : Heap}
/-! _law_mixed -/
theorem scMixed : FnScope ["_law_cell", "_law_k", "_law_number"] ["_law_cell", "_law_k"] (defScope tMixed) := ⟨rfl, rfl, rfl, by decide +kernel, rfl, by decide +kernel, by decide +kernel⟩
def spMixed : Sp := fun vs H Q _ => ∃ a b : Int, vs = [.int a, .int b] ∧ ∀ r : Int, Q (.int r) H
theorem okMixed {f : Addr} {fd : FuncData} {k : Nat} (F : Fun K "_law_mixed" "_law_mixed" tMixed f fd) : FnOk P w K mg base CX0 (k + 1) f fd ["_law_cell", "_law_k"] spMixed := by
  refine F.ok scMixed (fun vs H Q E h => ?_) (fun cdv A outer s H vs Q E hr h => ?_)
  · obtain ⟨a, b, rfl, _⟩ := h
    rfl
  obtain ⟨a, b, rfl, q⟩ := h
  refine ⟨_, pss_cons (ps_set (i := 2) scMixed.nd rfl (.inl rfl) (pe_op op_mod (pe_op op_mul (pe_op op_add (pe_op op_add (pe_op op_mod (pv 0) pe_int) (pe_op op_mul pe_int (pv 1))) pe_int) pe_int) pe_int))
    (pss_cons (ps_set (i := 2) scMixed.nd rfl (.inl rfl) (pe_op op_mod (pe_op op_add (pe_op op_add (pe_op op_mul (pv 2) (pv 2)) (pe_op op_mul pe_int (pv 1))) pe_int) pe_int))
    (pss_one (ps_ret (pe_op op_fdiv (pe_op op_mod (pe_op op_mul (pv 2) (pe_op op_add (pe_op op_fdiv (pv 2) pe_int) pe_int)) pe_int) pe_int)))), ?_⟩
  refine ⟨_, rfl, _, _, rfl, rfl, (by show (0 : Int) < 2147483629; decide), _, rfl, _, _, rfl, rfl, .inl ⟨by decide, by decide⟩, _, _, rfl, rfl, _, _, rfl, rfl, _, _, rfl, rfl, .inr ⟨by decide, by decide⟩, _, _, rfl, rfl, (by show (0 : Int) < 2147483647; decide), ?_⟩
  generalize hx : (a % 2147483629 + 104729 * b + 1) * 48271 % 2147483647 = x
  have x0 : 0 ≤ x := by rw [← hx]; exact Int.emod_nonneg _ (by decide)
  have x1 : x < 2147483647 := by rw [← hx]; exact Int.emod_lt_of_pos _ (by decide)
  refine ⟨_, rfl, _, rfl, _, _, rfl, rfl, .inl ⟨by omega, by omega⟩, _, rfl, _, _, rfl, rfl, .inl ⟨by decide, by decide⟩, _, _, rfl, rfl, _, _, rfl, rfl, _, _, rfl, rfl, (by show (0 : Int) < 2147483587; decide), ?_⟩
  generalize hy : (x * x + 69621 * b + 7) % 2147483587 = y
  have y0 : 0 ≤ y := by rw [← hy]; exact Int.emod_nonneg _ (by decide)
  have y1 : y < 2147483587 := by rw [← hy]; exact Int.emod_lt_of_pos _ (by decide)
  refine ⟨_, rfl, _, rfl, _, _, rfl, rfl, ⟨by decide, by decide⟩, _, _, rfl, rfl, _, _, rfl, rfl, .inl ⟨by omega, by omega⟩, _, _, rfl, rfl, (by show (0 : Int) < 2305843009213693951; decide), _, _, rfl, rfl, ⟨by decide, by decide⟩, q _⟩
/-! _law_draw -/
theorem scDraw : FnScope ["_law_deck_here", "_law_most", "_law_cell"] ["_law_deck_here", "_law_most"] (defScope tDraw) := ⟨rfl, rfl, rfl, by decide +kernel, rfl, by decide +kernel, by decide +kernel⟩
def spDraw : Sp := fun vs H Q _ => ∃ (d c : Addr) (m : Int), vs = [.ref d, .int m] ∧ Dk H d c ∧ 0 < m ∧ m < 1125899906842624 ∧ ∀ (r : Int) (G : Hp), 0 ≤ r → r < m → Kp d c H G → Dk G d c → Q (.int r) G
theorem dpInts (K : PySem.W.Frag) (H : Hp) : ∀ ns : List Int, DpAll K H (ns.map V.int) (ns.map PyData.int)
  | [] => .nil
  | n :: ns => .cons (.int n) (dpInts K H ns)
theorem okDraw {f fM : Addr} {fd fdM : FuncData} {k : Nat} (F : Fun K "_law_draw" "_law_draw" tDraw f fd) (FM : Fun K "_law_mixed" "_law_mixed" tMixed fM fdM) (bM : Binds K fdM ["_law_cell", "_law_k"] []) (gM : mg "_law_mixed" = some (.ref fM)) :
    FnOk P w K mg base CX0 (k + 2) f fd ["_law_deck_here", "_law_most"] spDraw := by
  have GM : FnOk P w K mg base CX0 (k + 1) fM fdM ["_law_cell", "_law_k"] spMixed := okMixed FM
  refine F.ok scDraw (fun vs H Q E h => ?_) (fun cdv A outer s H vs Q E hr h => ?_)
  · obtain ⟨d, c, m, rfl, _⟩ := h
    rfl
  obtain ⟨d, c, m, rfl, ⟨ndc, ⟨seed, k0, hd⟩, ⟨ns, hc, hl⟩⟩, m0, m1, q⟩ := h
  refine ⟨_, pss_cons (ps_asg (pe_op op_add (pe_ix ix_list (pv 0) pe_int (fun _ _ => rfl)) pe_int) (pg_sub (pv 0) pe_int set_list))
    (pss_cons (ps_if (pt_cmpR (op_eqD hr.units) (pe_ix ix_list (pv 0) pe_int (fun _ _ => rfl)) (pe_lst pa_nil) (nomark _))
      (pss_one (ps_ret (pe_op op_mod (pe_call GM hr (by rfl) gM FM.kp bM .nil pass0 (pa_cons (pe_ix ix_list (pv 0) pe_int (fun _ _ => rfl)) (pa_cons (pe_ix ix_list (pv 0) pe_int (fun _ _ => rfl)) pa_nil))) (pv 1)))) pss_nil)
    (pss_cons (ps_set (i := 2) scDraw.nd rfl (.inl rfl) (pe_bm0 PySem.F.plainAttrs_list PySem.F.slot_list_pop PySem.F.type_list_pop mt_pop (pe_ix ix_list (pv 0) pe_int (fun _ _ => rfl))))
    (pss_cons (ps_if (pt_cmpR op_lt (pv 2) (pe_op op_pow pe_int pe_int) (nomark _))
      (pss_one (ps_ret (pe_op op_mod (pe_call GM hr (by rfl) gM FM.kp bM .nil pass0 (pa_cons (pv 2) (pa_cons (pe_ix ix_list (pv 0) pe_int (fun _ _ => rfl)) pa_nil))) (pv 1)))) pss_nil)
    (pss_cons (ps_expr (pe_bm PySem.F.plainAttrs_list PySem.F.slot_list_append PySem.F.type_list_append mt_append (pe_ix ix_list (pv 0) pe_int (fun _ _ => rfl)) (pa_cons (pe_op op_fdivW (pv 2) (pv 1)) pa_nil)))
    (pss_one (ps_ret (pe_op op_mod (pv 2) (pv 1)))))))), ?_⟩
  -- the count
  refine ⟨_, rfl, d, _, _, _, rfl, rfl, SqL.of hd, atI_nat (j := 2) rfl, _, _, rfl, rfl, _, rfl, d, _, _, 2, rfl, rfl, hd, rfl, ?_⟩
  generalize hH1 : upd H d _ = H1
  have d1 : H1 d = some (.lst [.ref c, .int seed, .int (k0 + 1)]) := by rw [← hH1, upd_same]; rfl
  have c1 : H1 c = some (.lst (ns.map V.int)) := by rw [← hH1, upd_ne ndc.symm]; exact hc
  have p1 : Kp d c H H1 := by rw [← hH1]; exact Kp.at1
  clear hH1
  -- no cell left?
  refine ⟨_, rfl, d, _, _, _, rfl, rfl, SqL.of d1, atI_nat (j := 0) rfl, Nat.zero_le _, fun p np => ?_⟩
  have sp : Same H1 (upd H1 p (.lst [])) := newS np
  have d2 := sp _ _ d1
  have c2 := sp _ _ c1
  have p2 : Kp d c H (upd H1 p (.lst [])) := p1.trans (.of sp)
  refine ⟨.list (ns.map PyData.int), .list [], .lst (SqL.of c2) (dpInts K _ ns), .lst (SqL.of upd_same) .nil, PySem.W.ke_shaped_ints ns, rfl, _, rfl, ?_⟩
  generalize upd H1 p (.lst []) = H2 at d2 c2 p2
  refine ite2 (fun _ => ?_) (fun hne => ?_)
  · refine ⟨_, rfl, d, _, _, _, rfl, rfl, SqL.of d2, atI_nat (j := 1) rfl, _, rfl, d, _, _, _, rfl, rfl, SqL.of d2, atI_nat (j := 2) rfl, _, _, rfl, fun r => ?_⟩
    exact ⟨_, rfl, _, _, rfl, rfl, m0, q _ _ (Int.emod_nonneg _ (by omega)) (Int.emod_lt_of_pos _ m0) p2 ⟨ndc, ⟨_, _, d2⟩, ⟨ns, c2, hl⟩⟩⟩
  · have nn : ns ≠ [] := fun z => hne (by rw [z]; rfl)
    obtain ⟨n, hn⟩ : ∃ n, (ns.map V.int)[(ns.map V.int).length - 1]? = some (.int n) := by
      have h0 : 0 < ns.length := List.length_pos_iff.mpr nn
      rw [List.length_map, List.getElem?_map, List.getElem?_eq_getElem (by omega)]
      exact ⟨_, rfl⟩
    have ed : (ns.map V.int).dropLast = ns.dropLast.map V.int := by rw [List.map_dropLast]
    refine ⟨_, rfl, d, _, _, _, rfl, rfl, SqL.of d2, atI_nat (j := 0) rfl, .inl ⟨rfl, _, SqL.of c2⟩, c, _, _, rfl, rfl, c2, hn, ?_⟩
    rw [ed]
    generalize hH3 : upd H2 c _ = H3
    have d3 : H3 d = some (.lst [.ref c, .int seed, .int (k0 + 1)]) := by rw [← hH3, upd_ne ndc]; exact d2
    have c3 : H3 c = some (.lst (ns.dropLast.map V.int)) := by rw [← hH3, upd_same]
    have p3 : Kp d c H H3 := by rw [← hH3]; exact p2.trans Kp.at2
    have l3 : ns.dropLast.length ≤ 62 := by rw [List.length_dropLast]; omega
    clear hH3
    refine ⟨_, rfl, _, _, rfl, rfl, ⟨by decide, by decide, by decide⟩, _, _, rfl, rfl, _, rfl, ite2 (fun _ => ?_) (fun _ => ?_)⟩
    · refine ⟨_, rfl, _, rfl, d, _, _, _, rfl, rfl, SqL.of d3, atI_nat (j := 2) rfl, _, _, rfl, fun r => ?_⟩
      exact ⟨_, rfl, _, _, rfl, rfl, m0, q _ _ (Int.emod_nonneg _ (by omega)) (Int.emod_lt_of_pos _ m0) p3 ⟨ndc, ⟨_, _, d3⟩, ⟨_, c3, by omega⟩⟩⟩
    · refine ⟨_, rfl, d, _, _, _, rfl, rfl, SqL.of d3, atI_nat (j := 0) rfl, .inl ⟨rfl, _, SqL.of c3⟩, _, rfl, _, rfl, _, _, rfl, rfl, wide_div (b := 51) m0 (by show m.natAbs < 2251799813685248; omega) (by decide) (by decide), c, _, _, rfl, rfl, c3, (by rw [List.length_map]; exact small1000 (by omega)), ?_⟩
      refine ⟨_, rfl, _, rfl, _, _, rfl, rfl, m0, q _ _ (Int.emod_nonneg _ (by omega)) (Int.emod_lt_of_pos _ m0) (p3.trans Kp.at2) ⟨ndc, ⟨seed, k0 + 1, (by rw [upd_ne ndc]; exact d3)⟩, ⟨ns.dropLast ++ [n / m], ?_, ?_⟩⟩⟩
      · rw [upd_same, List.map_append]
        rfl
      · rw [List.length_append, List.length_singleton]
        omega
end
end Kq
namespace Kq
open PySem PySem.Spec PyProof.Rows L2
abbrev tDeck : Stmt := tp 31
abbrev tNames : Stmt := tp 34
theorem Kp.mk {d c p : Addr} {H G : Hp} {o : HO} (a : Kp d c H G) (h : H p = none) : Kp d c H (upd G p o) := fun b u h1 h2 e => by
  rw [upd_ne (ne_of_none e h)]
  exact a b u h1 h2 e
theorem Dk.put {G : Hp} {d c p : Addr} {o : HO} (x : Dk G d c) (h : p ≠ d) (h' : p ≠ c) : Dk (upd G p o) d c := by
  obtain ⟨n, ⟨a, b, e⟩, ⟨ns, f, l⟩⟩ := x
  exact ⟨n, ⟨a, b, by rw [upd_ne h.symm]; exact e⟩, ⟨ns, by rw [upd_ne h'.symm]; exact f, l⟩⟩
theorem Dk.off {H : Hp} {d c p : Addr} (x : Dk H d c) (h : H p = none) : p ≠ d ∧ p ≠ c := by
  obtain ⟨n, ⟨a, b, e⟩, ⟨ns, f, l⟩⟩ := x
  exact ⟨(ne_of_none e h).symm, (ne_of_none f h).symm⟩
/-! texts of letters -/
def lets : Str := "abcdefghijklmnopqrstuvwxyz"
def sg (i : Nat) : Str := ⟨#[97 + i]⟩
theorem lets_at : ∀ i : Fin 26, lets.cps.toList[i.val]? = some (97 + i.val) := by decide +kernel
theorem lets_ix : ∀ i : Fin 26, Builtin.Str.occurrences lets (sg i.val) 0 lets.length 1 = [i.val] := by decide +kernel
structure Nm (x : Str) : Prop where
  low : ∀ c ∈ x.cps.toList, 97 ≤ c ∧ c < 123
  few : x.cps.toList.length ≤ 8
  one : 1 ≤ x.cps.toList.length
theorem app_cps (x y : Str) : (x ++ y).cps.toList = x.cps.toList ++ y.cps.toList := by
  show (x.cps ++ y.cps).toList = _
  rw [Array.toList_append]
theorem join_low : ∀ ks : List Nat, (∀ k ∈ ks, k < 26) → (∀ c ∈ (Txt.join (Str.ofString "") (ks.map sg)).cps.toList, 97 ≤ c ∧ c < 123) ∧ (Txt.join (Str.ofString "") (ks.map sg)).cps.toList.length = ks.length := by
  intro ks h
  rw [show ∀ a b, Txt.join a b = Str.join a b from TL.join_eq]
  induction ks with
  | nil => exact ⟨fun c z => absurd z (by simp [Str.join, Str.empty]), by simp [Str.join, Str.empty]⟩
  | cons k ks ih =>
    have hk := h k List.mem_cons_self
    have ih := ih fun j hj => h j (List.mem_cons_of_mem _ hj)
    cases ks with
    | nil =>
      refine ⟨fun c z => ?_, rfl⟩
      have e : c = 97 + k := by simpa [Str.join, sg] using z
      omega
    | cons j r =>
      have e : Str.join (Str.ofString "") ((k :: j :: r).map sg) = sg k ++ Str.ofString "" ++ Str.join (Str.ofString "") ((j :: r).map sg) := rfl
      rw [e, app_cps, app_cps]
      have e0 : (Str.ofString "").cps.toList = [] := by decide
      rw [e0, List.append_nil]
      refine ⟨fun c z => ?_, ?_⟩
      · rcases List.mem_append.mp z with z | z
        · have e : c = 97 + k := by simpa [sg] using z
          omega
        · exact ih.1 c z
      · rw [List.length_append, ih.2]
        show 1 + _ = _
        simp only [List.length_cons]
        omega
theorem join_nm {ks : List Nat} (h : ∀ k ∈ ks, k < 26) (h1 : 1 ≤ ks.length) (h8 : ks.length ≤ 8) : Nm (Txt.join (Str.ofString "") (ks.map sg)) := by
  obtain ⟨a, b⟩ := join_low ks h
  exact ⟨a, by omega, by omega⟩
theorem cutTo {xs : List V} {j : Nat} (h : j ≤ xs.length) : cutV xs none (some (j : Int)) = xs.take j := by
  unfold cutV
  rw [HT.sIx_nat, HT.sIx_none, Nat.min_eq_left h]
  rfl
section
variable {P : Program} {w : World} {K : PySem.W.Frag} {mg : Str → Option Value} {base : Heap}
/-! _law_deck -/
theorem scDeck : FnScope ["_law_script", "_law_cells", "_law_seed", "_law_cell"] ["_law_script"] (defScope tDeck) := ⟨rfl, rfl, rfl, by decide +kernel, rfl, by decide +kernel, by decide +kernel⟩
def spDeck (K : PySem.W.Frag) : Sp := fun vs H Q _ => ∃ (a : Addr) (ns : List Int), vs = [.ref a] ∧ SqL K H a (ns.map V.int) ∧ ns.length ≤ 63 ∧ ∀ (d c : Addr) (G : Hp), Same H G → Dk G d c → Q (.ref d) G
theorem okDeck {f : Addr} {fd : FuncData} {k : Nat} (F : Fun K "_law_deck" "_law_deck" tDeck f fd) (ml : mg "list" = none) (mr : mg "reversed" = none) : FnOk P w K mg base CX0 (k + 1) f fd ["_law_script"] (spDeck K) := by
  refine F.ok scDeck (fun vs H Q E h => ?_) (fun cdv A outer s H vs Q E hr h => ?_)
  · obtain ⟨a, ns, rfl, _⟩ := h
    rfl
  obtain ⟨a, ns, rfl, hS, hl, q⟩ := h
  refine ⟨_, pss_cons (ps_set (i := 1) scDeck.nd rfl (.inl rfl) (Kr.pe_listRev rfl (by rfl) ml (by rfl) mr (pe_slice sl_list (pv 0) po_none (po_some pe_int))))
    (pss_cons (ps_set (i := 2) scDeck.nd rfl (.inl rfl) pe_int)
    (pss_cons (ps_for PassesOwn.never rfl (pi_list (pv 1)) (pg_name (i := 3) scDeck.nd rfl (.inl rfl))
      (pss_one (ps_set (i := 2) scDeck.nd rfl (.inl rfl) (pe_op op_mod (pe_op op_add (pe_op op_add (pe_op op_mul (pv 2) pe_int) (pe_op op_mod (pv 3) pe_int)) pe_int) pe_int))))
    (pss_one (ps_ret (pe_lst (pa_cons (pv 1) (pa_cons (pv 2) (pa_cons pe_int pa_nil)))))))), ?_⟩
  refine ⟨_, rfl, 63, rfl, a, _, rfl, hS, fun p np => ?_⟩
  refine ⟨p, _, rfl, SqL.of upd_same, fun c nc => ?_⟩
  have e0 : cutV (ns.map V.int) none (some 63) = (ns.take 63).map V.int := by
    rw [List.take_of_length_le hl]
    unfold cutV
    rw [HT.sIx_none, show HT.sIx (ns.map V.int).length (ns.map V.int).length (some 63) = min 63 (ns.map V.int).length from HT.sIx_nat _ _ 63, List.drop_zero, List.take_of_length_le]
    rw [List.length_map]
    omega
  rw [e0, ← List.map_reverse]
  generalize hm : (ns.take 63).reverse = ms
  have lm : ms.length ≤ 63 := by rw [← hm, List.length_reverse, List.length_take]; omega
  generalize hG : upd (upd H p _) c (.lst (ms.map V.int)) = G
  have gc : G c = some (.lst (ms.map V.int)) := by rw [← hG, upd_same]
  have sG : Same H G := by
    rw [← hG]
    rw [e0] at nc
    exact (newS np).trans (newS nc)
  refine ⟨_, rfl, c, rfl, ⟨_, SqL.of gc⟩, for_list (xs := ms.map V.int) (fun i σ F => F = G ∧ ∃ (sd : Int) (y : Option V), σ = [some (.ref a), some (.ref c), some (.int sd), y]) ⟨rfl, _, none, rfl⟩ (fun i σ F _ z => by rw [z.1]; exact SqL.of gc) (fun i x σ F hx z => ?_) (fun σ F z => ?_)⟩
  · obtain ⟨rfl, sd, y, rfl⟩ := z
    obtain ⟨n, rfl⟩ : ∃ n, x = .int n := by
      rw [List.getElem?_map] at hx
      cases hq : ms[i]? with
      | none => rw [hq] at hx; cases hx
      | some n => rw [hq] at hx; exact ⟨n, (Option.some.inj hx).symm⟩
    exact ⟨_, rfl, _, _, rfl, rfl, .inr ⟨by decide, by decide⟩, _, rfl, _, _, rfl, rfl, (by show (0 : Int) < 1000000007; decide), _, _, rfl, rfl, _, _, rfl, rfl, _, _, rfl, rfl, (by show (0 : Int) < 2147483629; decide), rfl, _, _, rfl⟩
  · obtain ⟨rfl, sd, y, rfl⟩ := z
    refine ⟨_, rfl, _, rfl, (by show 3 ≤ sizeLine; decide), fun d nd => q d c _ (sG.trans (newS nd)) ⟨(ne_of_none gc nd).symm, ⟨_, _, upd_same⟩, ⟨ms, ?_, lm⟩⟩⟩
    rw [upd_ne (ne_of_none gc nd)]
    exact gc
end
end Kq
namespace Kq
open PySem PySem.Spec PyProof.Rows L2
theorem Kp.free {d c p : Addr} {H G : Hp} (a : Kp d c H G) (k : Dk G d c) (h : G p = none) : H p = none := by
  obtain ⟨h1, h2⟩ := k.off h
  cases e : H p with
  | none => rfl
  | some o =>
    rw [a p o h1 h2 e] at h
    cases h
theorem sg_len (ks : List Nat) : ((ks.map sg).map (·.length)).sum = ks.length := by
  induction ks with
  | nil => rfl
  | cons k ks ih =>
    rw [List.map_cons, List.map_cons, List.sum_cons, ih, List.length_cons]
    show 1 + ks.length = _
    omega
theorem lets_get {r : Int} (h0 : 0 ≤ r) (h1 : r < 26) : atI lets.cps.toList r = some (97 + r.toNat) := by
  have e : r = ((r.toNat : Nat) : Int) := by omega
  have q := atI_nat (lets_at ⟨r.toNat, by omega⟩)
  rw [← show r = (((⟨r.toNat, by omega⟩ : Fin 26).val : Nat) : Int) from e] at q
  exact q
theorem cutKs {ks : List Nat} {j : Nat} (h : j ≤ ks.length) : cutV ((ks.map sg).map V.str) none (some (j : Int)) = ((ks.take j).map sg).map V.str := by
  rw [cutTo (by rw [List.length_map, List.length_map]; exact h), List.map_take, List.map_take]
theorem lets_len : lets.length ≤ sizeLine := by decide
/-! rules for the inside of a comprehension, the written part named -/
theorem slK {X : Cx} (K : PySem.W.Frag) (h : X.K = K) : SlR X (rSlL K) := by
  subst h
  exact sl_list
def rJn (K : PySem.W.Frag) : V → List V → Hp → VK → Prop := fun x xs H Q => ∃ a p, ∃ ys : List Str, x = .str a ∧ xs = [.ref p] ∧ (SqL K H p (ys.map V.str) ∨ SqT K H p (ys.map V.str)) ∧ (ys.map (·.length)).sum + ys.length * a.length ≤ 16777216 ∧ Q (.str (Txt.join a ys)) H
theorem pe_joinK {X : Cx} (K : PySem.W.Frag) (h : X.K = K) {o e : Expr} {apos pos : Pos} {to te : TE} (ho : PE X o to) (he : PE X e te) (hbase : attributeBase o "join" X.env (eval o X.env) = eval o X.env := by rfl) (hline : (apos.endLine == pos.line) = true := by rfl)
    (hs : starEach [e] X.env = [(false, eval e X.env)] := by rfl) : PE X (.Call (.Attribute o "join" apos) [e] [] pos) (tM1 (rJn K) to te) := by
  subst h
  exact pe_join ho he hs hbase hline
theorem join_cps : ∀ ks : List Nat, (Txt.join (Str.ofString "") (ks.map sg)).cps.toList = ks.map (97 + ·) := by
  intro ks
  rw [show ∀ a b, Txt.join a b = Str.join a b from TL.join_eq]
  induction ks with
  | nil => rfl
  | cons k ks ih =>
    cases ks with
    | nil => rfl
    | cons j r =>
      have e : Str.join (Str.ofString "") ((k :: j :: r).map sg) = sg k ++ Str.ofString "" ++ Str.join (Str.ofString "") ((j :: r).map sg) := rfl
      rw [e, app_cps, app_cps, ih]
      rfl
theorem nodupR {f : Nat → Str} : ∀ n, (∀ i j, i < n → j < n → f i = f j → i = j) → ((List.range n).map f).Nodup
  | 0, _ => List.nodup_nil
  | n + 1, h => by
    rw [List.range_succ, List.map_append]
    refine List.nodup_append.mpr ⟨nodupR n fun i j hi hj e => h i j (by omega) (by omega) e, (by simp), fun x hx y hy e => ?_⟩
    obtain ⟨i, hi, rfl⟩ := List.mem_map.mp hx
    have ey : y = f n := List.mem_singleton.mp hy
    rw [ey] at e
    have hi := List.mem_range.mp hi
    have := h i n (by omega) (by omega) e
    omega
/-- the beginnings of a word -/
def nmPre (ks : List Nat) (j : Nat) : Str := Txt.join (Str.ofString "") ((ks.take (j + 1)).map sg)
theorem nmPre_inj {ks : List Nat} {n i j : Nat} (hn : n ≤ ks.length) (hi : i < n) (hj : j < n) (h : nmPre ks i = nmPre ks j) : i = j := by
  have e : (ks.take (i + 1)).map (97 + ·) = (ks.take (j + 1)).map (97 + ·) := by
    rw [← join_cps, ← join_cps]
    exact congrArg (fun s : Str => s.cps.toList) h
  have e2 := congrArg List.length e
  rw [List.length_map, List.length_map, List.length_take, List.length_take] at e2
  omega
/-- a word with another letter at a place -/
def nmAt (ls : List Nat) (a k j : Nat) : Str := Txt.join (Str.ofString "") ((ls.set a ((((k : Nat) : Int) + (0 + (j : Int))) % 26).toNat).map sg)
theorem nmAt_inj {ls : List Nat} {a k i j : Nat} (ha : a < ls.length) (hi : i < 26) (hj : j < 26) (h : nmAt ls a k i = nmAt ls a k j) : i = j := by
  have e : (ls.set a ((((k : Nat) : Int) + (0 + (i : Int))) % 26).toNat).map (97 + ·) = (ls.set a ((((k : Nat) : Int) + (0 + (j : Int))) % 26).toNat).map (97 + ·) := by
    rw [← join_cps, ← join_cps]
    exact congrArg (fun s : Str => s.cps.toList) h
  have e2 := congrArg (fun l => l[a]?) e
  simp only [List.getElem?_map, List.getElem?_set_self ha, Option.map_some] at e2
  have e3 := Option.some.inj e2
  omega
section
variable {P : Program} {w : World} {K : PySem.W.Frag} {mg : Str → Option Value} {base : Heap}
abbrev nNames : List Str := ["_law_deck_here", "_law_many", "_law_letters", "_law_k", "_law_word", "_law_long", "_law_at", "_law_found", "_law_one"]
theorem scNames : FnScope nNames ["_law_deck_here", "_law_many"] (defScope tNames) := ⟨rfl, rfl, rfl, by decide +kernel, rfl, by decide +kernel, by decide +kernel⟩
def spNames : Sp := fun vs H Q _ => ∃ (d c : Addr) (m : Int), vs = [.ref d, .int m] ∧ Dk H d c ∧ 0 ≤ m ∧ m ≤ 26 ∧
  ∀ (l : Addr) (xs : List Str) (G : Hp), Kp d c H G → Dk G d c → H l = none → G l = some (.lst (xs.map V.str)) → xs.length = m.toNat → (∀ x ∈ xs, Nm x) → xs.Nodup → Q (.ref l) G
theorem okNames {f fD : Addr} {fd fdD : FuncData} {k : Nat} (F : Fun K "_law_names" "_law_names" tNames f fd) (GD : FnOk P w K mg base CX0 (k + 2) fD fdD ["_law_deck_here", "_law_most"] spDraw) (bD : Binds K fdD ["_law_deck_here", "_law_most"] []) (gD : mg "_law_draw" = some (.ref fD)) (kD : PySem.W.keepIn K (.ref fD) = true)
    (ml : mg "list" = none) (mr : mg "range" = none) : FnOk P w K mg base CX0 (k + 3) f fd ["_law_deck_here", "_law_many"] spNames := by
  refine F.ok scNames (fun vs H Q E h => ?_) (fun cdv A outer s H vs Q E hr h => ?_)
  · obtain ⟨d, c, m, rfl, _⟩ := h
    rfl
  obtain ⟨d, c, m, rfl, dk, m0, m1, q⟩ := h
  refine ⟨_, pss_cons (ps_set (i := 2) scNames.nd rfl (.inr rfl) pe_str)
    (pss_cons (ps_set (i := 4) scNames.nd rfl (.inr rfl) (pe_lc (own := [("_law_k", 3)]) (g := gName 3) (by rfl) scNames.nd (pi_range1 (by rfl) mr (pa_cons pe_int pa_nil)) (blkOk_by (own := [("_law_k", 3)]) (N := nNames) (sc := defScope tNames) (by decide +kernel))
        (fun _ _ _ _ _ => pg_name (i := 3) scNames.nd rfl (.inl rfl)) (fun _ _ _ _ _ => pts_nil)
        (fun _ _ _ _ _ => pe_ix ix_str (pv 2) (pe_call GD hr (by rfl) gD kD bD .nil pass0 (pa_cons (pv 0) (pa_cons pe_int pa_nil))) (fun _ _ => rfl))))
    (pss_cons (ps_set (i := 5) scNames.nd rfl (.inl rfl) (pe_op op_add pe_int (pe_call GD hr (by rfl) gD kD bD .nil pass0 (pa_cons (pv 0) (pa_cons pe_int pa_nil)))))
    (pss_cons (ps_set (i := 6) scNames.nd rfl (.inl rfl) (pe_call GD hr (by rfl) gD kD bD .nil pass0 (pa_cons (pv 0) (pa_cons (pv 5) pa_nil))))
    (pss_cons (ps_if (PW.pt (pw_and (pt_cmpR op_eq (pe_call GD hr (by rfl) gD kD bD .nil pass0 (pa_cons (pv 0) (pa_cons pe_int pa_nil))) pe_int (nomark _)) (pw_and1 (pt_cmpR op_lt (pv 1) pe_int (nomark _)))))
      (pss_one (ps_ret (pe_lc (own := [("_law_k", 3)]) (g := gName 3) (by rfl) scNames.nd (pi_range1 (by rfl) mr (pa_cons (pv 1) pa_nil)) (blkOk_by (own := [("_law_k", 3)]) (N := nNames) (sc := defScope tNames) (by decide +kernel))
        (fun _ _ _ _ _ => pg_name (i := 3) scNames.nd rfl (.inl rfl)) (fun _ _ _ _ _ => pts_nil)
        (fun _ _ _ _ _ => pe_joinK K rfl pe_str (pe_slice (slK K rfl) (pv 4) po_none (po_some (pe_op op_add pe_int (pv 3)))))))) pss_nil)
    (pss_cons (ps_set (i := 7) scNames.nd rfl (.inl rfl) (pe_lst pa_nil))
    (pss_cons (ps_for PassesOwn.never rfl (pi_range1 (by rfl) mr (pa_cons (pv 1) pa_nil)) (pg_name (i := 3) scNames.nd rfl (.inl rfl))
      (pss_cons (ps_set (i := 8) scNames.nd rfl (.inl rfl) (pe_callTy call_list_of (by rfl) ml boot_list (pa_cons (pe_slice sl_list (pv 4) po_none (po_some (pv 5))) pa_nil)))
      (pss_cons (ps_asg (pe_ix ix_str (pv 2) (pe_op op_mod (pe_op op_add (pe_bm PySem.F.plainAttrs_str PySem.F.slot_str_index PySem.F.type_str_index mt_sindex (pv 2) (pa_cons (pe_ix ix_list (pv 4) (pv 6) (fun _ _ => rfl)) pa_nil)) (pv 3)) pe_int) (fun _ _ => rfl)) (pg_sub (pv 8) (pv 6) set_list))
      (pss_one (ps_expr (pe_bm PySem.F.plainAttrs_list PySem.F.slot_list_append PySem.F.type_list_append mt_append (pv 7) (pa_cons (pe_join pe_str (pv 8)) pa_nil)))))))
    (pss_one (ps_ret (pv 7))))))))), ?_⟩
  -- the word
  refine ⟨8, rfl, by decide, by decide, fun W nW => lc_range (lo := 0) (n := 8) (fun i G => Kp d c H G ∧ Dk G d c ∧ ∃ ks : List Nat, ks.length = i ∧ (∀ k ∈ ks, k < 26) ∧ G W = some (.lst ((ks.map sg).map V.str)))
    ⟨(Kp.rfl).mk nW, dk.put (dk.off nW).1 (dk.off nW).2, [], rfl, (fun _ z => nomatch z), upd_same⟩ (fun i G hi z => ?_) (fun G z => ?_)⟩
  · obtain ⟨kp, dk1, ks, lk, hk, gW⟩ := z
    refine ⟨rfl, _, rfl, _, rfl, d, c, 26, rfl, dk1, by decide, by decide, fun r G1 r0 r1 kp1 dk2 => ?_⟩
    have off := dk.off nW
    have gW1 := kp1 W _ off.1 off.2 gW
    refine ⟨_, r, 97 + r.toNat, rfl, rfl, lets_len, lets_get r0 r1, _, gW1, ?_, (kp.trans kp1).mk nW, dk2.put off.1 off.2, ks ++ [r.toNat], ?_, ?_, ?_⟩
    · rw [List.length_map, List.length_map]
      exact small1000 (by omega)
    · rw [List.length_append, lk]
      rfl
    · intro j hj
      rcases List.mem_append.mp hj with hj | hj
      · exact hk j hj
      · rw [List.mem_singleton.mp hj]
        omega
    · rw [upd_same, List.map_append, List.map_append]
      rfl
  obtain ⟨kp, dk1, ks, lk, hk, gW⟩ := z
  have off := dk.off nW
  -- long, at
  refine ⟨_, rfl, d, c, 8, rfl, dk1, by decide, by decide, fun r5 G5 a0 a1 kp5 dk5 => ⟨_, _, rfl, rfl, ?_⟩⟩
  refine ⟨_, rfl, _, rfl, d, c, _, rfl, dk5, by omega, by omega, fun r6 G6 b0 b1 kp6 dk6 => ?_⟩
  refine ⟨_, rfl, d, c, 4, rfl, dk6, by decide, by decide, fun r7 G7 c0 c1 kp7 dk7 => ?_⟩
  have kpW : Kp d c G G7 := kp5.trans (kp6.trans kp7)
  have gW7 := kpW W _ off.1 off.2 gW
  have kp7' : Kp d c H G7 := kp.trans kpW
  clear kp5 kp6 kp7 dk5 dk6 gW kp dk1 kpW
  refine ⟨rfl, _, rfl, (fun h2 => ite2 (fun _ => ⟨_, rfl, _, _, rfl, rfl, _, rfl, ite2 (fun c9 => ?b1) (fun _ => h2)⟩) (fun _ => iteF h2)) ?b2⟩
  case b1 =>
    have m9 : m < 9 := of_decide_eq_true c9
    refine ⟨_, rfl, m, rfl, by omega, by omega, fun D nD => lc_range (lo := 0) (n := m.toNat) (fun i G => Kp d c H G ∧ Dk G d c ∧ G W = some (.lst ((ks.map sg).map V.str)) ∧ ∃ xs : List Str, xs.length = i ∧ (∀ x ∈ xs, Nm x) ∧ G D = some (.lst (xs.map V.str)) ∧ xs = (List.range i).map (nmPre ks)) ?_ (fun i G hi z => ?_) (fun G z => ?_)⟩
    · exact ⟨kp7'.mk (kp7'.free dk7 nD), dk7.put (dk7.off nD).1 (dk7.off nD).2, by rw [upd_ne (ne_of_none gW7 nD)]; exact gW7, [], rfl, (fun _ z => nomatch z), upd_same, rfl⟩
    · obtain ⟨kpi, dki, gWi, xs, lx, hx, gD', exs⟩ := z
      refine ⟨rfl, ⟨_, rfl⟩, _, rfl, _, rfl, _, _, rfl, rfl, ((i + 1 : Nat) : Int), congrArg V.int (by omega), W, _, rfl, SqL.of gWi, fun p np => ?_⟩
      rw [cutKs (ks := ks) (j := i + 1) (by omega)]
      have lt : (ks.take (i + 1)).length = i + 1 := by rw [List.length_take]; omega
      refine ⟨_, p, (ks.take (i + 1)).map sg, rfl, rfl, .inl (SqL.of upd_same), ?_, xs.map V.str, ?_, ?_, ?_⟩
      · rw [sg_len, List.length_map, lt]
        show i + 1 + (i + 1) * 0 ≤ 16777216
        omega
      · rw [upd_ne (ne_of_none gD' np)]
        exact gD'
      · rw [List.length_map]
        exact small1000 (by omega)
      · have hD : H D = none := kp7'.free dk7 nD
        refine ⟨(kpi.mk (kpi.free dki np)).mk hD, (dki.put (dki.off np).1 (dki.off np).2).put (dk7.off nD).1 (dk7.off nD).2, ?_, xs ++ [Txt.join (Str.ofString "") ((ks.take (i + 1)).map sg)], ?_, ?_, ?_, ?_⟩
        · rw [upd_ne (ne_of_none gW7 nD), upd_ne (ne_of_none gWi np)]
          exact gWi
        · rw [List.length_append, lx]
          rfl
        · intro x hx'
          rcases List.mem_append.mp hx' with z | z
          · exact hx x z
          · rw [List.mem_singleton.mp z]
            exact join_nm (fun j hj => hk j (List.mem_of_mem_take hj)) (by omega) (by omega)
        · rw [upd_same, List.map_append]
          rfl
        · rw [exs, List.range_succ, List.map_append]
          rfl
    · obtain ⟨kpi, dki, gWi, xs, lx, hx, gD', exs⟩ := z
      refine q D xs G kpi dki (kp7'.free dk7 nD) gD' lx hx ?_
      rw [exs]
      exact nodupR _ fun i j hi hj e => nmPre_inj (ks := ks) (n := m.toNat) (by omega) hi hj e
  case b2 =>
    refine ⟨Nat.zero_le _, fun Fd nF => ?_⟩
    have hF : H Fd = none := kp7'.free dk7 nF
    have offF := dk7.off nF
    have nFW : W ≠ Fd := ne_of_none gW7 nF
    refine ⟨_, rfl, m, rfl, by omega, by omega, for_range (lo := 0) (n := m.toNat) (fun i σ G => ∃ y3 y8, σ = [some (.ref d), some (.int m), some (.str lets), y3, some (.ref W), some (.int (1 + r5)), some (.int r6), some (.ref Fd), y8] ∧
      Kp d c H G ∧ Dk G d c ∧ G W = some (.lst ((ks.map sg).map V.str)) ∧ ∃ xs : List Str, xs.length = i ∧ (∀ x ∈ xs, Nm x) ∧ G Fd = some (.lst (xs.map V.str)) ∧ xs = (List.range i).map (nmAt (ks.take (1 + r5).toNat) r6.toNat (ks.getD r6.toNat 0))) ?_ (fun i σ G hi z => ?_) (fun σ G z => ?_)⟩
    · exact ⟨_, _, rfl, kp7'.mk hF, dk7.put offF.1 offF.2, by rw [upd_ne nFW]; exact gW7, [], rfl, (fun _ z => nomatch z), upd_same, rfl⟩
    · obtain ⟨y3, y8, rfl, kpi, dki, gWi, xs, lx, hx, gF, exs⟩ := z
      refine ⟨_, rfl, _, rfl, (((1 + r5).toNat : Nat) : Int), congrArg V.int (by omega), W, _, rfl, SqL.of gWi, fun p np => ?_⟩
      rw [cutKs (ks := ks) (j := (1 + r5).toNat) (by omega)]
      refine ⟨p, _, rfl, .inl (SqL.of upd_same), fun o no => ?_⟩
      have kp1 : Same G (upd (upd G p (.lst (((ks.take (1 + r5).toNat).map sg).map V.str))) o (.lst (((ks.take (1 + r5).toNat).map sg).map V.str))) := (newS np).trans (newS no)
      have gW1 := kp1 _ _ gWi
      have gF1 := kp1 _ _ gF
      have oG : G o = none := (newS np).free no
      generalize hG1 : upd (upd G p _) o (.lst (((ks.take (1 + r5).toNat).map sg).map V.str)) = G1 at kp1 gW1 gF1
      have gO : G1 o = some (.lst (((ks.take (1 + r5).toNat).map sg).map V.str)) := by rw [← hG1, upd_same]
      clear hG1
      have hat : r6.toNat < ks.length := by omega
      have h26 : ks[r6.toNat] < 26 := hk _ (List.getElem_mem hat)
      have e6 : r6 = ((r6.toNat : Nat) : Int) := by omega
      have gat : atI ((ks.map sg).map V.str) r6 = some (.str (sg ks[r6.toNat])) := by
        have z := atI_nat (xs := (ks.map sg).map V.str) (j := r6.toNat) (v := .str (sg ks[r6.toNat])) (by rw [List.getElem?_map, List.getElem?_map, List.getElem?_eq_getElem hat]; rfl)
        rw [← e6] at z
        exact z
      have occ : Builtin.Str.occurrences lets (sg ks[r6.toNat]) 0 lets.length 1 = [ks[r6.toNat]] := lets_ix ⟨ks[r6.toNat], h26⟩
      generalize hv : (((ks[r6.toNat] : Nat) : Int) + (0 + (i : Int))) % 26 = v
      have v0 : 0 ≤ v := by rw [← hv]; exact Int.emod_nonneg _ (by decide)
      have v1 : v < 26 := by rw [← hv]; exact Int.emod_lt_of_pos _ (by decide)
      refine ⟨_, rfl, _, rfl, rfl, _, rfl, _, rfl, W, _, _, _, rfl, rfl, SqL.of gW1, gat, lets, _, _, _, rfl, rfl, occ, _, rfl, _, _, rfl, rfl, _, _, rfl, rfl, (by show (0 : Int) < 26; decide), _, v, 97 + v.toNat, rfl, congrArg V.int hv, lets_len, lets_get v0 v1, ?_⟩
      have lq : ((ks.take (1 + r5).toNat).map sg).length = (1 + r5).toNat := by rw [List.length_map, List.length_take]; omega
      have eix : ixN (((ks.take (1 + r5).toNat).map sg).map V.str).length r6 = some r6.toNat := by
        unfold ixN
        rw [List.length_map, lq, if_pos b0, if_pos (by omega)]
      refine ⟨_, rfl, _, rfl, o, _, _, r6.toNat, rfl, rfl, gO, eix, ?_⟩
      have eset : ((((ks.take (1 + r5).toNat).map sg).map V.str).set r6.toNat (.str ⟨#[97 + v.toNat]⟩)) = ((((ks.take (1 + r5).toNat).set r6.toNat v.toNat).map sg).map V.str) := by
        rw [List.map_set, List.map_set]
        rfl
      rw [eset]
      generalize hls : (ks.take (1 + r5).toNat).set r6.toNat v.toNat = ls
      have ll : ls.length = (1 + r5).toNat := by rw [← hls, List.length_set, List.length_take]; omega
      have hls2 : ∀ k ∈ ls, k < 26 := fun j hj => by
        rw [← hls] at hj
        rcases List.mem_or_eq_of_mem_set hj with z | z
        · exact hk j (List.mem_of_mem_take z)
        · rw [z]
          omega
      have nFo : Fd ≠ o := fun z => by
        rw [z] at gF
        rw [gF] at oG
        cases oG
      have nWo : W ≠ o := fun z => by
        rw [z] at gWi
        rw [gWi] at oG
        cases oG
      have gF2 : (upd G1 o (.lst ((ls.map sg).map V.str))) Fd = some (.lst (xs.map V.str)) := by
        rw [upd_ne nFo]
        exact gF1
      refine ⟨_, rfl, .inl ⟨rfl, _, SqL.of gF2⟩, ⟨_, rfl⟩, _, rfl, _, o, ls.map sg, rfl, rfl, .inl (SqL.of upd_same), ?_, Fd, _, _, rfl, rfl, gF2, ?_, ?_⟩
      · rw [sg_len, List.length_map, ll]
        show (1 + r5).toNat + (1 + r5).toNat * 0 ≤ 16777216
        omega
      · rw [List.length_map]
        exact small1000 (by omega)
      · have oH : H o = none := kpi.free dki oG
        have offo := dki.off oG
        refine ⟨_, _, rfl, ((kpi.trans (Kp.of kp1)).mk oH).mk hF, ((dki.same kp1).put offo.1 offo.2).put offF.1 offF.2, ?_, xs ++ [Txt.join (Str.ofString "") (ls.map sg)], ?_, ?_, ?_, ?_⟩
        · rw [upd_ne nFW, upd_ne nWo]
          exact gW1
        · rw [List.length_append, lx]
          rfl
        · intro x hx'
          rcases List.mem_append.mp hx' with z | z
          · exact hx x z
          · rw [List.mem_singleton.mp z]
            exact join_nm hls2 (by omega) (by omega)
        · rw [upd_same, List.map_append]
          rfl
        · rw [exs, List.range_succ, List.map_append, ← hls, ← hv]
          have eg : ks.getD r6.toNat 0 = ks[r6.toNat] := by simp [List.getD, List.getElem?_eq_getElem hat]
          rw [eg]
          rfl
    · obtain ⟨y3, y8, rfl, kpi, dki, gWi, xs, lx, hx, gF, exs⟩ := z
      refine ⟨_, rfl, q Fd xs G kpi dki hF gF lx hx ?_⟩
      rw [exs]
      exact nodupR _ fun i j hi hj e => nmAt_inj (by rw [List.length_take]; omega) (by omega) (by omega) e
end
end Kq
namespace Kq
open PySem PySem.Spec PyProof.Rows L2
/-! kinds as trees -/
inductive Kd where
  | opn (x : Str)
  | num
  | tru
  | pair (a b : Kd)
  | eith (a b : Kd)
  | lst (a : Kd)
  | fn (a b : Kd)
namespace Kd
def word : Kd → Str
  | opn _ => "open"
  | num => "num"
  | tru => "truth"
  | pair _ _ => "pair"
  | eith _ _ => "either"
  | lst _ => "list"
  | fn _ _ => "fun"
def kids : Kd → List Kd
  | pair a b => [a, b]
  | eith a b => [a, b]
  | lst a => [a]
  | fn a b => [a, b]
  | _ => []
/-- no function anywhere -/
def data : Kd → Bool
  | pair a b => a.data && b.data
  | eith a b => a.data && b.data
  | lst a => a.data
  | fn _ _ => false
  | _ => true
def isOp : Kd → Bool
  | opn _ => true
  | _ => false
def dp : Kd → Nat
  | pair a b => max a.dp b.dp + 1
  | eith a b => max a.dp b.dp + 1
  | lst a => a.dp + 1
  | fn a b => max a.dp b.dp + 1
  | _ => 0
end Kd
/-- the tuples stay -/
def Tk (H G : Hp) : Prop := ∀ b xs, H b = some (.tup xs) → G b = some (.tup xs)
theorem Tk.of {H G : Hp} (s : Same H G) : Tk H G := fun b xs e => s b _ e
theorem Tk.trans {H G F : Hp} (a : Tk H G) (b : Tk G F) : Tk H F := fun x o e => b x o (a x o e)
theorem Tk.kp {H G : Hp} {d c : Addr} (a : Kp d c H G) (k : Dk H d c) : Tk H G := fun b xs e => by
  obtain ⟨n, ⟨s, k0, hd⟩, ⟨ns, hc, _⟩⟩ := k
  refine a b _ (fun z => ?_) (fun z => ?_) e
  · rw [z, hd] at e
    cases e
  · rw [z, hc] at e
    cases e
theorem Tk.put {H G : Hp} {p : Addr} {o : HO} (a : Tk H G) (h : ∀ xs, H p ≠ some (.tup xs)) : Tk H (upd G p o) := fun b xs e => by
  rw [upd_ne (fun z => h xs (by rw [← z]; exact e))]
  exact a b xs e
/-- the tree stands at v -/
def Rp (H : Hp) : Kd → V → Prop
  | .opn x, v => ∃ a, v = .ref a ∧ H a = some (.tup [.str "open", .str x])
  | .num, v => ∃ a, v = .ref a ∧ H a = some (.tup [.str "num"])
  | .tru, v => ∃ a, v = .ref a ∧ H a = some (.tup [.str "truth"])
  | .pair s t, v => ∃ a x y, v = .ref a ∧ H a = some (.tup [.str "pair", x, y]) ∧ Rp H s x ∧ Rp H t y
  | .eith s t, v => ∃ a x y, v = .ref a ∧ H a = some (.tup [.str "either", x, y]) ∧ Rp H s x ∧ Rp H t y
  | .lst s, v => ∃ a x, v = .ref a ∧ H a = some (.tup [.str "list", x]) ∧ Rp H s x
  | .fn s t, v => ∃ a x y, v = .ref a ∧ H a = some (.tup [.str "fun", x, y]) ∧ Rp H s x ∧ Rp H t y
def RpL (H : Hp) : List Kd → List V → Prop
  | [], [] => True
  | t :: ts, v :: vs => Rp H t v ∧ RpL H ts vs
  | _, _ => False
theorem Rp.tk {H G : Hp} (k : Tk H G) : ∀ {t : Kd} {v : V}, Rp H t v → Rp G t v := by
  intro t
  induction t with
  | opn x => exact fun ⟨a, e, h⟩ => ⟨a, e, k _ _ h⟩
  | num => exact fun ⟨a, e, h⟩ => ⟨a, e, k _ _ h⟩
  | tru => exact fun ⟨a, e, h⟩ => ⟨a, e, k _ _ h⟩
  | pair s t i j => exact fun ⟨a, x, y, e, h, p, q⟩ => ⟨a, x, y, e, k _ _ h, i p, j q⟩
  | eith s t i j => exact fun ⟨a, x, y, e, h, p, q⟩ => ⟨a, x, y, e, k _ _ h, i p, j q⟩
  | lst s i => exact fun ⟨a, x, e, h, p⟩ => ⟨a, x, e, k _ _ h, i p⟩
  | fn s t i j => exact fun ⟨a, x, y, e, h, p, q⟩ => ⟨a, x, y, e, k _ _ h, i p, j q⟩
theorem RpL.tk {H G : Hp} (k : Tk H G) : ∀ {ts : List Kd} {vs : List V}, RpL H ts vs → RpL G ts vs
  | [], [], _ => trivial
  | _ :: _, _ :: _, h => ⟨h.1.tk k, RpL.tk k h.2⟩
  | [], _ :: _, h => h.elim
  | _ :: _, [], h => h.elim
theorem RpL.len {H : Hp} : ∀ {ts : List Kd} {vs : List V}, RpL H ts vs → ts.length = vs.length
  | [], [], _ => rfl
  | _ :: _, _ :: _, h => congrArg (· + 1) (RpL.len h.2)
  | [], _ :: _, h => h.elim
  | _ :: _, [], h => h.elim
theorem RpL.get {H : Hp} : ∀ {ts : List Kd} {vs : List V} {i : Nat} {v : V}, RpL H ts vs → vs[i]? = some v → ∃ t, ts[i]? = some t ∧ Rp H t v
  | [], [], i, v, _, e => by simp at e
  | t :: _, w :: _, 0, v, h, e => ⟨t, rfl, by rw [← show w = v from Option.some.inj e]; exact h.1⟩
  | _ :: ts, _ :: vs, i + 1, v, h, e => RpL.get (ts := ts) (vs := vs) (i := i) h.2 e
  | [], _ :: _, _, _, h, _ => h.elim
  | _ :: _, [], _, _, h, _ => h.elim
/-- the tuple at v: the word, and the rest -/
theorem Rp.see {H : Hp} {t : Kd} {v : V} (h : Rp H t v) : ∃ a vs, v = .ref a ∧ H a = some (.tup (.str t.word :: vs)) ∧ ((t.isOp = false ∧ RpL H t.kids vs) ∨ ∃ x, t = .opn x ∧ vs = [.str x]) := by
  cases t with
  | opn x =>
    obtain ⟨a, e, g⟩ := h
    exact ⟨a, _, e, g, .inr ⟨x, rfl, rfl⟩⟩
  | num =>
    obtain ⟨a, e, g⟩ := h
    exact ⟨a, [], e, g, .inl ⟨rfl, trivial⟩⟩
  | tru =>
    obtain ⟨a, e, g⟩ := h
    exact ⟨a, [], e, g, .inl ⟨rfl, trivial⟩⟩
  | pair s t =>
    obtain ⟨a, x, y, e, g, p, q⟩ := h
    exact ⟨a, _, e, g, .inl ⟨rfl, p, q, trivial⟩⟩
  | eith s t =>
    obtain ⟨a, x, y, e, g, p, q⟩ := h
    exact ⟨a, _, e, g, .inl ⟨rfl, p, q, trivial⟩⟩
  | lst s =>
    obtain ⟨a, x, e, g, p⟩ := h
    exact ⟨a, _, e, g, .inl ⟨rfl, p, trivial⟩⟩
  | fn s t =>
    obtain ⟨a, x, y, e, g, p, q⟩ := h
    exact ⟨a, _, e, g, .inl ⟨rfl, p, q, trivial⟩⟩
theorem cutFrom1 (x : V) (vs : List V) : cutV (x :: vs) (some 1) none = vs := by
  unfold cutV
  rw [show HT.sIx (x :: vs).length 0 (some 1) = min 1 (x :: vs).length from HT.sIx_nat _ _ 1, HT.sIx_none, List.length_cons, Nat.min_eq_left (by omega)]
  show (vs.take (vs.length + 1 - 1)) = vs
  rw [Nat.add_sub_cancel, List.take_length]
theorem notWhole (x : V) (vs : List V) : ¬ (HT.sIx (x :: vs).length 0 (some 1) = 0 ∧ HT.sIx (x :: vs).length (x :: vs).length none = (x :: vs).length) := by
  rw [show HT.sIx (x :: vs).length 0 (some 1) = min 1 (x :: vs).length from HT.sIx_nat _ _ 1, List.length_cons, Nat.min_eq_left (by omega)]
  rintro ⟨h, _⟩
  cases h
theorem smk {H G : Hp} {p : Addr} {o : HO} (a : Same H G) (h : H p = none) : Same H (upd G p o) := fun b u e => by
  rw [upd_ne (ne_of_none e h)]
  exact a b u e
end Kq
namespace Kq
open PySem PySem.Spec PyProof.Rows L2
theorem Nm.ok {x : Str} (h : Nm x) : PyData.strOk x = true := by
  unfold PyData.strOk
  rw [← Array.all_toList, List.all_eq_true]
  intro c hc
  have := (h.low c hc).2
  exact decide_eq_true (by omega)
namespace Kd
theorem kids_dp {t u : Kd} (h : u ∈ t.kids) : u.dp + 1 ≤ t.dp := by
  cases t with
  | opn x => cases h
  | num => cases h
  | tru => cases h
  | pair a b =>
    have : u = a ∨ u = b := by simpa [kids] using h
    rcases this with rfl | rfl <;> simp only [dp] <;> omega
  | eith a b =>
    have : u = a ∨ u = b := by simpa [kids] using h
    rcases this with rfl | rfl <;> simp only [dp] <;> omega
  | lst a =>
    have : u = a := by simpa [kids] using h
    subst this
    simp only [dp]
    omega
  | fn a b =>
    have : u = a ∨ u = b := by simpa [kids] using h
    rcases this with rfl | rfl <;> simp only [dp] <;> omega
theorem kids_le (t : Kd) : t.kids.length ≤ 2 := by
  cases t <;> simp [kids]
end Kd
-- abbrev tLOpens : Stmt := tp 9999
-- abbrev tArgument : Stmt := tp 9999
end Kq
namespace Kq
open PySem PySem.Spec PyProof.Rows L2 Kf Kg Kv GxR
/-! worths -/
def look (sz : List (Str × Int)) (n : Str) : Int := match sz.find? (fun p => decide (p.1 = n)) with
  | some p => p.2
  | none => 0
/-- a part of a tuple -/
def pt (x : Dt) (i : Nat) : Dt := match x with
  | .tup xs => xs.getD i .non
  | _ => .non
/-- the sizes stand at p -/
def Sz (H : Hp) (p : Addr) (sz : List (Str × Int)) : Prop := ∃ (o : Obj) (ps : List Addr), H p = some (.frz o (.tup (ps.map V.ref))) ∧ o.dict = none ∧ o.cls = .type "tuple" ∧ Paired (fun q (kv : Str × Int) => H q = some (.tup [.str kv.1, .int kv.2])) ps sz
theorem Paired.mono {α β : Type} {R S : α → β → Prop} (h : ∀ a b, R a b → S a b) : ∀ {l : List α} {m : List β}, Paired R l m → Paired S l m
  | _, _, .nil => .nil
  | _, _, .cons r t => .cons (h _ _ r) (Paired.mono h t)
theorem Paired.len {α β : Type} {R : α → β → Prop} : ∀ {l : List α} {m : List β}, Paired R l m → l.length = m.length
  | _, _, .nil => rfl
  | _, _, .cons _ t => congrArg (· + 1) (Paired.len t)
theorem Paired.at {α β : Type} {R : α → β → Prop} : ∀ {l : List α} {m : List β} {i : Nat} {a : α}, Paired R l m → l[i]? = some a → ∃ b, m[i]? = some b ∧ R a b
  | _, _, _, _, .nil, e => by simp at e
  | _, _, 0, _, .cons (b := b) h t, e => ⟨b, rfl, by rw [← Option.some.inj e]; exact h⟩
  | _, _, i + 1, _, .cons h t, e => Paired.at (i := i) t e
theorem Sz.at {H G : Hp} {p : Addr} {sz : List (Str × Int)} (h : Sz H p sz) (k : ∀ b o, (∀ xs, o ≠ .lst xs) → (∀ xs, o ≠ .tbl xs) → H b = some o → G b = some o) : Sz G p sz := by
  obtain ⟨o, ps, h1, h2, h3, h4⟩ := h
  exact ⟨o, ps, k _ _ (fun _ z => by cases z) (fun _ z => by cases z) h1, h2, h3, Paired.mono (fun _ _ e => k _ _ (fun _ z => by cases z) (fun _ z => by cases z) e) h4⟩
theorem Sz.same {H G : Hp} {p : Addr} {sz : List (Str × Int)} (h : Sz H p sz) (s : Same H G) : Sz G p sz := h.at fun b o _ _ e => s b o e
theorem Sz.kp {d c : Addr} {H G : Hp} {p : Addr} {sz : List (Str × Int)} (h : Sz H p sz) (k : Kp d c H G) (x : Dk H d c) : Sz G p sz := h.at fun b o n _ e => by
  obtain ⟨_, ⟨_, _, hd⟩, ⟨_, hc, _⟩⟩ := x
  refine k b o (fun z => ?_) (fun z => ?_) e
  · rw [z, hd] at e
    exact n _ (Option.some.inj e).symm
  · rw [z, hc] at e
    exact n _ (Option.some.inj e).symm
theorem Sz.put {H : Hp} {p q : Addr} {o : HO} {sz : List (Str × Int)} {xs : List V} (h : Sz H p sz) (hq : H q = some (.lst xs)) : Sz (upd H q o) p sz := h.at fun b u n _ e => by
  rw [upd_ne (fun z => by rw [z, hq] at e; exact n _ (Option.some.inj e).symm)]
  exact e
abbrev tThings : Stmt := tp 19
theorem _root_.Kv.DdL.see {N : Addr → Prop} {H : Hp} {xs : List Dt} {vs : List V} (h : DdL N H xs vs) : (xs = [] ∧ vs = []) ∨ ∃ y ys w ws, xs = y :: ys ∧ vs = w :: ws ∧ Dd N H y w ∧ DdL N H ys ws := by
  cases h with
  | nil => exact .inl ⟨rfl, rfl⟩
  | cons h t => exact .inr ⟨_, _, _, _, rfl, rfl, h, t⟩
section
variable {P : Program} {w : World} {K : PySem.W.Frag} {mg : Str → Option Value} {base : Heap}
/-! things_of -/
theorem scThings : FnScope ["sizes", "name", "sized", "many"] ["sizes", "name"] (defScope tThings) := ⟨rfl, rfl, rfl, by decide +kernel, rfl, by decide +kernel, by decide +kernel⟩
def spThings : Sp := fun vs H Q _ => ∃ (p : Addr) (sz : List (Str × Int)) (n : Str), vs = [.ref p, .str n] ∧ Sz H p sz ∧ Q (.int (look sz n)) H
theorem okThings {f : Addr} {fd : FuncData} {k : Nat} (F : Fun K "things_of" "things_of" tThings f fd) : FnOk P w K mg base CX0 (k + 1) f fd ["sizes", "name"] spThings := by
  refine F.ok scThings (fun vs H Q E h => ?_) (fun cdv A outer s H vs Q E hr h => ?_)
  · obtain ⟨p, sz, n, rfl, _⟩ := h
    rfl
  obtain ⟨p, sz, n, rfl, ⟨o, ps, hp, _, _, pr⟩, q⟩ := h
  refine ⟨_, pss_cons (ps_for PassesOwn.never rfl (pi_tup (pv 0)) (pg_tup rfl (pgs_cons (pg_name (i := 2) scThings.nd rfl (.inl rfl)) (pgs_cons (pg_name (i := 3) scThings.nd rfl (.inl rfl)) pgs_nil)))
      (pss_one (ps_if (pt_cmpR op_eq (pv 2) (pv 1) (nomark _)) (pss_one (ps_ret (pv 3))) pss_nil)))
    (pss_one (ps_ret pe_int)), ?_⟩
  have hs : SqT K H p (ps.map V.ref) := .inl (.inr ⟨o, hp⟩)
  have lp := Paired.len pr
  refine ⟨_, rfl, p, rfl, ⟨_, hs⟩, for_tup (xs := ps.map V.ref) (fun i σ G => G = H ∧ (∃ y2 y3, σ = [some (.ref p), some (.str n), y2, y3]) ∧ (sz.take i).find? (fun kv => decide (kv.1 = n)) = none) ⟨rfl, ⟨_, _, rfl⟩, rfl⟩ (fun i σ G _ z => by rw [z.1]; exact hs) (fun i x σ G hx z => ?_) (fun σ G z => ?_)⟩
  · obtain ⟨rfl, ⟨y2, y3, rfl⟩, hf⟩ := z
    rw [List.getElem?_map] at hx
    cases hq : ps[i]? with
    | none => rw [hq] at hx; cases hx
    | some r =>
      rw [hq] at hx
      obtain rfl := Option.some.inj hx
      obtain ⟨kv, hkv, hr2⟩ := Paired.at pr hq
      have et : sz.take (i + 1) = sz.take i ++ [kv] := by rw [List.take_add_one, hkv]; rfl
      refine ⟨r, _, rfl, SqT.of hr2, rfl, _, _, rfl, _, _, rfl, rfl, ?_⟩
      refine ⟨_, rfl, _, rfl, rfl, _, rfl, ite2 (fun e => ?_) (fun e => ?_)⟩
      · have e1 : kv.1 = n := V.str.inj (of_decide_eq_true e)
        have e2 : look sz n = kv.2 := by
          have z : sz.find? (fun kv => decide (kv.1 = n)) = some kv := by
            have li := (List.getElem?_eq_some_iff.mp hkv).1
            rw [← List.take_append_drop i sz, List.find?_append, hf, List.drop_eq_getElem_cons li, (List.getElem?_eq_some_iff.mp hkv).2]
            simp [e1]
          unfold look
          rw [z]
        rw [e2] at q
        exact ⟨_, rfl, q⟩
      · have e1 : ¬ kv.1 = n := fun z => e (decide_eq_true (by rw [z]))
        refine ⟨rfl, ⟨_, _, rfl⟩, ?_⟩
        rw [et, List.find?_append, hf]
        simp [e1]
  · obtain ⟨rfl, ⟨y2, y3, rfl⟩, hf⟩ := z
    rw [List.length_map, lp, List.take_length] at hf
    have e2 : look sz n = 0 := by
      unfold look
      rw [hf]
    rw [e2] at q
    exact q
end
end Kq
namespace Kq
open PySem PySem.Spec PyProof.Rows L2 Kf Kg Kv GxR
/-! dict(sizes).get(name, 0) -/
/-! lists that are empty, texts among texts -/
theorem wne {a b : Str} (h : ¬ a = b) {d : Decidable (V.str a = V.str b)} : ¬ @decide _ d = true := fun e => h (V.str.inj (@of_decide_eq_true _ d e))
end Kq
namespace Kq
open PySem PySem.Spec PyProof.Rows L2 Kf Kg Kv GxR
/-- sizes of names, each within bounds -/
structure SzB (sz : List (Str × Int)) : Prop where
  nd : (sz.map (·.1)).Nodup
  lo : ∀ kv ∈ sz, 0 ≤ kv.2
  hi : ∀ kv ∈ sz, kv.2 < 1001
theorem look_in (sz : List (Str × Int)) (n : Str) : look sz n = 0 ∨ ∃ kv ∈ sz, look sz n = kv.2 := by
  unfold look
  cases e : sz.find? (fun p => decide (p.1 = n)) with
  | none => exact .inl rfl
  | some kv => exact .inr ⟨kv, List.mem_of_find?_eq_some e, rfl⟩
theorem SzB.look {sz : List (Str × Int)} (h : SzB sz) (n : Str) : 0 ≤ Kq.look sz n ∧ Kq.look sz n < 1001 := by
  rcases look_in sz n with e | ⟨kv, hm, e⟩
  · rw [e]
    decide
  · rw [e]
    exact ⟨h.lo kv hm, h.hi kv hm⟩
end Kq
/-! how many worths, all worths in order -/
namespace Kq
open PySem PySem.Spec PyProof.Rows L2 Kf Kg Kv GxR
def cutN (n : Nat) : Nat := min n 301
theorem cutN_le (n : Nat) : cutN n ≤ 301 := Nat.min_le_right _ _
theorem cutN_lo {n : Nat} (h : n ≤ 301) : cutN n = n := Nat.min_eq_left h
theorem cutN_hi {n : Nat} (h : 301 ≤ n) : cutN n = 301 := Nat.min_eq_right h
theorem cutN_add (a b : Nat) : cutN (cutN a + cutN b) = cutN (a + b) := by
  unfold cutN
  omega
theorem cutN_add1 (a b : Nat) : cutN (cutN a + b) = cutN (a + b) := by
  unfold cutN
  omega
theorem cutN_mul (a b : Nat) : cutN (cutN a * cutN b) = cutN (a * b) := by
  by_cases ha : a ≤ 301
  · rw [cutN_lo ha]
    by_cases hb : b ≤ 301
    · rw [cutN_lo hb]
    · rw [cutN_hi (n := b) (by omega)]
      cases a with
      | zero => simp
      | succ a =>
        rw [cutN_hi, cutN_hi]
        · exact Nat.le_trans (by omega : 301 ≤ 1 * b) (Nat.mul_le_mul_right b (by omega))
        · exact Nat.le_trans (by omega : 301 ≤ 1 * 301) (Nat.mul_le_mul_right 301 (by omega))
  · rw [cutN_hi (n := a) (by omega)]
    cases hb : b with
    | zero => simp [cutN]
    | succ c =>
      rw [cutN_hi, cutN_hi]
      · exact Nat.le_trans (by omega : 301 ≤ a * 1) (Nat.mul_le_mul_left a (by omega))
      · have : 1 ≤ cutN (c + 1) := by unfold cutN; omega
        exact Nat.le_trans (by omega : 301 ≤ 301 * 1) (Nat.mul_le_mul_left 301 this)
/-- runs of fewer than j, of m worths -/
def gm (m : Nat) : Nat → Nat
  | 0 => 0
  | j + 1 => gm m j * m + 1
theorem gm_next (m : Nat) : ∀ j, gm m (j + 1) = gm m j + m ^ j
  | 0 => by simp [gm]
  | j + 1 => by
    have e : m ^ (j + 1) = m ^ j * m := Nat.pow_succ m j
    have d : gm m (j + 1) = gm m j * m + 1 := rfl
    show gm m (j + 1) * m + 1 = gm m (j + 1) + m ^ (j + 1)
    rw [e]
    conv => lhs; rw [gm_next m j, Nat.add_mul]
    omega
theorem gm_mono (m : Nat) : ∀ {i j}, i ≤ j → gm m i ≤ gm m j
  | i, 0, h => by rw [Nat.le_zero.mp h]; exact Nat.le_refl _
  | i, j + 1, h => by
    rcases Nat.lt_or_eq_of_le h with h | rfl
    · have := gm_mono m (i := i) (j := j) (by omega)
      rw [gm_next]
      omega
    · exact Nat.le_refl _
theorem gm_cut (m b : Nat) : cutN (gm (cutN m) (b + 1)) = cutN (gm m (b + 1)) := by
  by_cases h : m ≤ 301
  · rw [cutN_lo h]
  rw [cutN_hi (n := m) (by omega)]
  cases b with
  | zero => simp [gm]
  | succ b =>
    have k : ∀ n, 301 ≤ n → 301 ≤ gm n (b + 1 + 1) := fun n hn => by
      have h1 := gm_mono n (i := 2) (j := b + 1 + 1) (by omega)
      have h2 : gm n 2 = n + 1 := by simp [gm]
      omega
    rw [cutN_hi (k 301 (Nat.le_refl _)), cutN_hi (k m (by omega))]
/-- how many worths -/
def mny (sz : List (Str × Int)) (b : Nat) : Kd → Nat
  | .opn n => (look sz n).toNat
  | .num => b + 1
  | .tru => 2
  | .pair s t => mny sz b s * mny sz b t
  | .eith s t => mny sz b s + mny sz b t
  | .lst s => gm (mny sz b s) (b + 1)
  | .fn _ _ => 0
end Kq
/-! ahead of one another -/
/-! how many worths: the program -/
namespace Kq
open PySem PySem.Spec PyProof.Rows L2 Kf Kg Kv GxR
abbrev tCut : Stmt := tp 21
abbrev tMany : Stmt := tp 22
abbrev tManyL : Stmt := tp 23
theorem cut_int (n : Nat) (i : Int) (h : i = (n : Int)) : (if (301 : Int) < i then (301 : Int) else i) = ((cutN n : Nat) : Int) := by
  subst h
  unfold cutN
  split <;> omega
theorem gm_zero : ∀ j, gm 0 (j + 1) = 1
  | 0 => rfl
  | j + 1 => by
    show gm 0 (j + 1) * 0 + 1 = 1
    rw [Nat.mul_zero]
section
variable {P : Program} {w : World} {K : PySem.W.Frag} {mg : Str → Option Value} {base : Heap} {uM : Value}
theorem scCut : FnScope ["many"] ["many"] (defScope tCut) := ⟨rfl, rfl, rfl, by decide +kernel, rfl, by decide +kernel, by decide +kernel⟩
def spCut : Sp := fun vs H Q _ => ∃ (n : Nat) (i : Int), vs = [.int i] ∧ i = (n : Int) ∧ Q (.int (cutN n : Nat)) H
theorem okCut {f : Addr} {fd : FuncData} {k : Nat} (F : Fun K "cut" "cut" tCut f fd) (gM : mg "MOST" = some uM) (rM : RelV (.int 300) uM) (mm : mg "min" = none) : FnOk P w K mg base CX0 (k + 1) f fd ["many"] spCut := by
  refine F.ok scCut (fun vs H Q E h => ?_) (fun cdv A outer s H vs Q E hr h => ?_)
  · obtain ⟨n, i, rfl, _⟩ := h
    rfl
  obtain ⟨n, i, rfl, hi, q⟩ := h
  refine ⟨_, pss_one (ps_ret (pe_callB (call_min2 rfl) (by rfl) mm (by decide +kernel) (pa_cons (pv 0) (pa_cons (pe_op op_add (pe_glob (v := .int 300) (by rfl) gM rM) pe_int) pa_nil)))), ?_⟩
  refine ⟨_, rfl, _, _, rfl, rfl, _, _, rfl, ?_⟩
  have e := cut_int n i hi
  rw [← e] at q
  exact q
theorem scManyL : FnScope ["many", "bound", "total", "longest", "length"] ["many", "bound"] (defScope tManyL) := ⟨rfl, rfl, rfl, by decide +kernel, rfl, by decide +kernel, by decide +kernel⟩
def spManyL : Sp := fun vs H Q _ => ∃ (m b : Nat) (i j : Int), vs = [.int i, .int j] ∧ i = (m : Int) ∧ j = (b : Int) ∧ m ≤ 301 ∧ b ≤ 3 ∧ Q (.int (cutN (gm m (b + 1)) : Nat)) H
theorem okManyL {f fC : Addr} {fd fdC : FuncData} {k : Nat} (F : Fun K "many_lists" "many_lists" tManyL f fd) (GC : FnOk P w K mg base CX0 k fC fdC ["many"] spCut) (bC : Binds K fdC ["many"] []) (gC : mg "cut" = some (.ref fC)) (kC : PySem.W.keepIn K (.ref fC) = true)
    (gM : mg "MOST" = some uM) (rM : RelV (.int 300) uM) (mr : mg "range" = none) : FnOk P w K mg base CX0 (k + 1) f fd ["many", "bound"] spManyL := by
  refine F.ok scManyL (fun vs H Q E h => ?_) (fun cdv A outer s H vs Q E hr h => ?_)
  · obtain ⟨m, b, i, j, rfl, _⟩ := h
    rfl
  obtain ⟨m, b, i, j, rfl, rfl, rfl, hm, hb, q⟩ := h
  refine ⟨_, pss_cons (ps_set (i := 2) scManyL.nd rfl (.inl rfl) pe_int)
    (pss_cons (ps_set (i := 3) scManyL.nd rfl (.inl rfl) pe_int)
    (pss_cons (ps_for PassesOwn.never rfl (pi_range1 (by rfl) mr (pa_cons (pv 1) pa_nil)) (pg_name (i := 4) scManyL.nd rfl (.inl rfl))
      (pss_cons (ps_set (i := 3) scManyL.nd rfl (.inl rfl) (pe_op op_mul (pv 3) (pv 0)))
      (pss_cons (ps_set (i := 2) scManyL.nd rfl (.inl rfl) (pe_call GC hr (by rfl) gC kC bC .nil pass0 (pa_cons (pe_op op_add (pv 2) (pv 3)) pa_nil)))
      (pss_one (ps_if (PW.pt (pw_or (pt_cmpR op_eq (pv 3) pe_int (nomark _)) (pw_or1 (pt_cmpR op_gt (pv 2) (pe_glob (v := .int 300) (by rfl) gM rM) (nomark _))))) (pss_one ps_break) pss_nil)))))
    (pss_one (ps_ret (pv 2))))), ?_⟩
  refine ⟨_, rfl, _, rfl, by omega, by omega, ?_⟩
  rw [show ((b : Nat) : Int).toNat = b from Int.toNat_natCast b]
  refine for_range (fun i σ G => G = H ∧ i ≤ b ∧ ∃ y, σ = [some (.int (m : Nat)), some (.int (b : Nat)), some (.int ((cutN (gm m (i + 1)) : Nat) : Int)), some (.int ((m ^ i : Nat) : Int)), y]) ⟨rfl, Nat.zero_le _, none, by rw [show cutN (gm m (0 + 1)) = 1 by simp [gm, cutN]]; rfl⟩ (fun i σ G hi z => ?_) (fun σ G z => ?_)
  rotate_left
  · obtain ⟨rfl, _, y, rfl⟩ := z
    exact ⟨_, rfl, q⟩
  obtain ⟨rfl, _, y, rfl⟩ := z
  have e1 : ((m ^ i : Nat) : Int) * ((m : Nat) : Int) = ((m ^ (i + 1) : Nat) : Int) := by
    rw [Nat.pow_succ]
    push_cast
    rfl
  have e2 : cutN (cutN (gm m (i + 1)) + m ^ (i + 1)) = cutN (gm m (i + 1 + 1)) := by
    rw [cutN_add1, gm_next m (i + 1)]
  refine ⟨_, rfl, _, rfl, _, _, rfl, rfl, .inr ⟨by omega, by omega⟩, ?_⟩
  refine ⟨_, rfl, _, rfl, _, _, rfl, rfl, cutN (gm m (i + 1)) + m ^ (i + 1), _, rfl, by rw [e1]; push_cast; rfl, ?_⟩
  have e3 : [some (V.int (m : Nat)), some (V.int (b : Nat)), some (V.int ((cutN (cutN (gm m (i + 1)) + m ^ (i + 1)) : Nat) : Int)), some (V.int (((m ^ i : Nat) : Int) * ((m : Nat) : Int))), some (V.int (0 + (i : Nat)))] = [some (V.int (m : Nat)), some (V.int (b : Nat)), some (V.int ((cutN (gm m (i + 1 + 1)) : Nat) : Int)), some (V.int ((m ^ (i + 1) : Nat) : Int)), some (V.int (0 + (i : Nat)))] := by rw [e1, e2]
  have stop : (m ^ (i + 1) = 0 ∨ 300 < cutN (gm m (i + 1 + 1))) → Q (.int ((cutN (gm m (i + 1 + 1)) : Nat) : Int)) G := fun h => by
    have e : cutN (gm m (i + 1 + 1)) = cutN (gm m (b + 1)) := by
      rcases h with h | h
      · have h0 : m = 0 := by
          rcases Nat.eq_zero_or_pos m with h0 | h0
          · exact h0
          · have := Nat.pow_pos (n := i + 1) h0
            omega
        rw [h0, gm_zero, gm_zero]
      · have h1 : 301 ≤ gm m (i + 1 + 1) := by
          unfold cutN at h
          omega
        have h2 := gm_mono m (i := i + 1 + 1) (j := b + 1) (by omega)
        rw [cutN_hi h1, cutN_hi (by omega)]
    rw [e]
    exact q
  refine ⟨_, rfl, rfl, _, rfl, ite2 (fun h => ?_) (fun h => ⟨_, rfl, _, _, rfl, rfl, _, rfl, ite2 (fun h2 => ?_) (fun h2 => ?_)⟩)⟩
  · have h : ((m ^ i : Nat) : Int) * ((m : Nat) : Int) = 0 := V.int.inj (of_decide_eq_true h)
    rw [e1] at h
    refine ⟨_, rfl, ?_⟩
    have z := stop (.inl (by exact_mod_cast h))
    rw [← e2] at z
    exact z
  · have h2 : (300 : Int) < ((cutN (cutN (gm m (i + 1)) + m ^ (i + 1)) : Nat) : Int) := of_decide_eq_true h2
    refine ⟨_, rfl, ?_⟩
    rw [e2] at h2
    have z := stop (.inr (by exact_mod_cast h2))
    rw [← e2] at z
    exact z
  · exact ⟨rfl, hi, _, e3⟩
end
end Kq
/-! many_worths -/
namespace Kq
open PySem PySem.Spec PyProof.Rows L2 Kf Kg Kv GxR Kk
theorem data_kid {t u : Kd} (h : t.data = true) (m : u ∈ t.kids) : u.data = true := by
  cases t with
  | opn x => cases m
  | num => cases m
  | tru => cases m
  | fn a b => cases h
  | lst a =>
    rw [List.mem_singleton.mp m]
    exact h
  | pair a b =>
    obtain ⟨h1, h2⟩ := Bool.and_eq_true_iff.mp (show (a.data && b.data) = true from h)
    rcases List.mem_cons.mp m with rfl | m
    · exact h1
    · rw [List.mem_singleton.mp m]
      exact h2
  | eith a b =>
    obtain ⟨h1, h2⟩ := Bool.and_eq_true_iff.mp (show (a.data && b.data) = true from h)
    rcases List.mem_cons.mp m with rfl | m
    · exact h1
    · rw [List.mem_singleton.mp m]
      exact h2
section
variable {P : Program} {w : World} {K : PySem.W.Frag} {mg : Str → Option Value} {base : Heap} {uM : Value}
abbrev psMany : List Str := ["kind", "sizes", "bound"]
abbrev nMany : List Str := ["kind", "sizes", "bound", "word", "many", "part"]
theorem scMany : FnScope nMany psMany (defScope tMany) := ⟨rfl, rfl, rfl, by decide +kernel, rfl, by decide +kernel, by decide +kernel⟩
def spMany (n : Nat) : Sp := fun vs H Q _ => ∃ (vk : V) (p : Addr) (t : Kd) (sz : List (Str × Int)) (b : Nat), vs = [vk, .ref p, .int (b : Nat)] ∧ t.dp + 1 ≤ n ∧ t.data = true ∧ Rp H t vk ∧ Sz H p sz ∧ SzB sz ∧ b ≤ 3 ∧ ∀ G : Hp, Same H G → Q (.int (cutN (mny sz b t) : Nat)) G
theorem okMany1 {f fC fT fL : Addr} {fd fdC fdT fdL : FuncData} {n : Nat} (F : Fun K "many_worths" "many_worths" tMany f fd) (bF : Binds K fd psMany []) (gF : mg "many_worths" = some (.ref f))
    (GC : FnOk P w K mg base CX0 (n + 2) fC fdC ["many"] spCut) (bC : Binds K fdC ["many"] []) (gC : mg "cut" = some (.ref fC)) (kC : PySem.W.keepIn K (.ref fC) = true)
    (GT : FnOk P w K mg base CX0 (n + 2) fT fdT ["sizes", "name"] spThings) (bT : Binds K fdT ["sizes", "name"] []) (gT : mg "things_of" = some (.ref fT)) (kT : PySem.W.keepIn K (.ref fT) = true)
    (GL : FnOk P w K mg base CX0 (n + 2) fL fdL ["many", "bound"] spManyL) (bL : Binds K fdL ["many", "bound"] []) (gL : mg "many_lists" = some (.ref fL)) (kL : PySem.W.keepIn K (.ref fL) = true)
    (GI : FnOk P w K mg base CX0 (n + 2) f fd psMany (spMany n)) : FnOk P w K mg base CX0 (n + 3) f fd psMany (spMany (n + 1)) := by
  refine F.ok scMany (fun vs H Q E h => ?_) (fun cdv A outer s H vs Q E hr h => ?_)
  · obtain ⟨vk, p, t, sz, b, rfl, _⟩ := h
    rfl
  obtain ⟨vk, p, t, sz, b, rfl, hn, hdt, rk, hz, hB, hb, q⟩ := h
  refine ⟨_, pss_cons (ps_set (i := 3) scMany.nd rfl (.inl rfl) (pe_ix ix_tup (pv 0) pe_int (fun _ _ => rfl)))
    (pss_cons (ps_if (pt_cmpR op_eq (pv 3) pe_str (nomark _)) (pss_one (ps_ret (pe_call GC hr (by rfl) gC kC bC .nil pass0 (pa_cons (pe_call GT hr (by rfl) gT kT bT .nil pass0 (pa_cons (pv 1) (pa_cons (pe_ix ix_tup (pv 0) pe_int (fun _ _ => rfl)) pa_nil))) pa_nil)))) pss_nil)
    (pss_cons (ps_if (pt_cmpR op_eq (pv 3) pe_str (nomark _)) (pss_one (ps_ret (pe_call GC hr (by rfl) gC kC bC .nil pass0 (pa_cons (pe_op op_add (pv 2) pe_int) pa_nil)))) pss_nil)
    (pss_cons (ps_if (pt_cmpR op_eq (pv 3) pe_str (nomark _)) (pss_one (ps_ret pe_int)) pss_nil)
    (pss_cons (ps_setLc (i := 4) (own := [("part", 5)]) (g := gName 5) (by rfl) scMany.nd rfl rfl (sw_true rfl rfl rfl (by decide +kernel)) (pi_tup (pe_slice sl_tup (pv 0) (po_some pe_int) po_none)) (blkOk_by (own := [("part", 5)]) (N := nMany) (sc := defScope tMany) (by decide +kernel))
      (fun _ _ _ _ _ => pg_name (i := 5) scMany.nd rfl (.inl rfl)) (fun _ _ _ _ _ => pts_nil) (fun _ _ _ _ _ => pe_call GI hr (by rfl) gF F.kp bF .nil pass0 (pa_cons (pv 5) (pa_cons (pv 1) (pa_cons (pv 2) pa_nil)))))
    (pss_cons (ps_if (pt_cmpR op_eq (pv 3) pe_str (nomark _)) (pss_one (ps_ret (pe_call GC hr (by rfl) gC kC bC .nil pass0 (pa_cons (pe_op op_mul (pe_ix ix_list (pv 4) pe_int (fun _ _ => rfl)) (pe_ix ix_list (pv 4) pe_int (fun _ _ => rfl))) pa_nil)))) pss_nil)
    (pss_cons (ps_if (pt_cmpR op_eq (pv 3) pe_str (nomark _)) (pss_one (ps_ret (pe_call GC hr (by rfl) gC kC bC .nil pass0 (pa_cons (pe_op op_add (pe_ix ix_list (pv 4) pe_int (fun _ _ => rfl)) (pe_ix ix_list (pv 4) pe_int (fun _ _ => rfl))) pa_nil)))) pss_nil)
    (pss_cons (ps_if (pt_cmpR op_eq (pv 3) pe_str (nomark _)) (pss_one (ps_ret (pe_call GL hr (by rfl) gL kL bL .nil pass0 (pa_cons (pe_ix ix_list (pv 4) pe_int (fun _ _ => rfl)) (pa_cons (pv 2) pa_nil))))) pss_nil)
    pss_no))))))), ?_⟩
  obtain ⟨ka, us, rfl, hk, hks⟩ := rk.see
  refine ⟨_, rfl, ka, _, _, _, rfl, rfl, SqT.of hk, atI_nat (j := 0) rfl, ?_⟩
  cases t with
  | fn _ _ => cases hdt
  | opn y =>
    obtain ⟨ka', ek, hk4⟩ := rk
    obtain rfl : ka = ka' := V.ref.inj ek
    refine ⟨_, rfl, rfl, _, rfl, ite2 (fun _ => ?_) (fun e => absurd (decide_eq_true rfl) e)⟩
    have hl := (hB.look y).1
    refine ⟨_, rfl, _, rfl, ka, _, _, _, rfl, rfl, SqT.of hk4, atI_nat (j := 1) rfl, p, sz, y, rfl, hz, (look sz y).toNat, _, rfl, (Int.toNat_of_nonneg hl).symm, q _ (Same.refl _)⟩
  | num =>
    refine ⟨_, rfl, rfl, _, rfl, ite2 (fun e => absurd e (wne (by simp only [Kd.word]; decide +kernel))) (fun _ => ⟨_, rfl, rfl, _, rfl, ite2 (fun _ => ?_) (fun e => absurd (decide_eq_true rfl) e)⟩)⟩
    exact ⟨_, rfl, _, _, rfl, rfl, b + 1, _, rfl, by push_cast; rfl, q _ (Same.refl _)⟩
  | tru =>
    refine ⟨_, rfl, rfl, _, rfl, ite2 (fun e => absurd e (wne (by simp only [Kd.word]; decide +kernel))) (fun _ => ⟨_, rfl, rfl, _, rfl, ite2 (fun e => absurd e (wne (by simp only [Kd.word]; decide +kernel))) (fun _ => ⟨_, rfl, rfl, _, rfl, ite2 (fun _ => ?_) (fun e => absurd (decide_eq_true rfl) e)⟩)⟩)⟩
    exact q _ (Same.refl _)
  | lst s =>
    refine ⟨_, rfl, rfl, _, rfl, ite2 (fun e => absurd e (wne (by simp only [Kd.word]; decide +kernel))) (fun _ => ⟨_, rfl, rfl, _, rfl, ite2 (fun e => absurd e (wne (by simp only [Kd.word]; decide +kernel))) (fun _ => ⟨_, rfl, rfl, _, rfl, ite2 (fun e => absurd e (wne (by simp only [Kd.word]; decide +kernel))) (fun _ => ?_)⟩)⟩)⟩
    have hL : RpL H (Kd.lst s).kids us := by
      rcases hks with ⟨_, h⟩ | ⟨_, h, _⟩
      · exact h
      · cases h
    refine ⟨_, rfl, 1, rfl, ka, _, rfl, SqT.of hk, notWhole _ _, fun p1 np1 => ?_⟩
    rw [cutFrom1]
    have s1 := newS (o := .tup us) np1
    have g1 : (upd H p1 (.tup us)) p1 = some (.tup us) := upd_same
    generalize upd H p1 (.tup us) = H1 at s1 g1
    refine ⟨p1, rfl, ⟨_, SqT.of g1⟩, fun D nD => ?_⟩
    refine lc_tup (xs := us) (fun i G => Same H1 G ∧ G D = some (.lst (((Kd.lst s).kids.take i).map fun u => V.int ((cutN (mny sz b u) : Nat) : Int)))) ⟨newS nD, upd_same⟩ (fun i G _ z => SqT.of (z.1 _ _ g1)) (fun i x G hx z => ?_) (fun G z => ?_)
    · obtain ⟨u, hu, ru⟩ := hL.get hx
      have mu := List.mem_of_getElem? hu
      have hd := Kd.kids_dp mu
      have hdd : u.data = true := data_kid hdt mu
      refine ⟨rfl, _, rfl, _, rfl, _, rfl, x, p, u, sz, b, rfl, by omega, hdd, ru.tk (Tk.of (s1.trans z.1)), hz.same (s1.trans z.1), hB, hb, fun G2 s2 => ?_⟩
      have lk := List.length_take_le i (Kd.lst s).kids
      have l2 := Kd.kids_le (Kd.lst s)
      refine ⟨_, s2 _ _ z.2, small1000 (by rw [List.length_map, List.length_take]; omega), smk (z.1.trans s2) nD, ?_⟩
      rw [upd_same, List.take_add_one, hu, List.map_append]
      rfl
    · obtain ⟨s3, gD⟩ := z
      rw [← hL.len, List.take_length] at gD
      have sA := s1.trans s3
      refine ⟨_, rfl, rfl, _, rfl, ite2 (fun e => absurd e (wne (by simp only [Kd.word]; decide +kernel))) (fun _ => ⟨_, rfl, rfl, _, rfl, ite2 (fun e => absurd e (wne (by simp only [Kd.word]; decide +kernel))) (fun _ => ⟨_, rfl, rfl, _, rfl, ite2 (fun _ => ?_) (fun e => absurd (decide_eq_true rfl) e)⟩)⟩)⟩
      refine ⟨_, rfl, D, _, _, _, rfl, rfl, SqL.of gD, atI_nat (j := 0) rfl, _, rfl, cutN (mny sz b s), b, _, _, rfl, rfl, rfl, cutN_le _, hb, ?_⟩
      rw [gm_cut]
      exact q _ sA
  | pair s u =>
    refine ⟨_, rfl, rfl, _, rfl, ite2 (fun e => absurd e (wne (by simp only [Kd.word]; decide +kernel))) (fun _ => ⟨_, rfl, rfl, _, rfl, ite2 (fun e => absurd e (wne (by simp only [Kd.word]; decide +kernel))) (fun _ => ⟨_, rfl, rfl, _, rfl, ite2 (fun e => absurd e (wne (by simp only [Kd.word]; decide +kernel))) (fun _ => ?_)⟩)⟩)⟩
    have hL : RpL H (Kd.pair s u).kids us := by
      rcases hks with ⟨_, h⟩ | ⟨_, h, _⟩
      · exact h
      · cases h
    refine ⟨_, rfl, 1, rfl, ka, _, rfl, SqT.of hk, notWhole _ _, fun p1 np1 => ?_⟩
    rw [cutFrom1]
    have s1 := newS (o := .tup us) np1
    have g1 : (upd H p1 (.tup us)) p1 = some (.tup us) := upd_same
    generalize upd H p1 (.tup us) = H1 at s1 g1
    refine ⟨p1, rfl, ⟨_, SqT.of g1⟩, fun D nD => ?_⟩
    refine lc_tup (xs := us) (fun i G => Same H1 G ∧ G D = some (.lst (((Kd.pair s u).kids.take i).map fun u => V.int ((cutN (mny sz b u) : Nat) : Int)))) ⟨newS nD, upd_same⟩ (fun i G _ z => SqT.of (z.1 _ _ g1)) (fun i x G hx z => ?_) (fun G z => ?_)
    · obtain ⟨y, hu, ru⟩ := hL.get hx
      have mu := List.mem_of_getElem? hu
      have hd := Kd.kids_dp mu
      have hdd : y.data = true := data_kid hdt mu
      refine ⟨rfl, _, rfl, _, rfl, _, rfl, x, p, y, sz, b, rfl, by omega, hdd, ru.tk (Tk.of (s1.trans z.1)), hz.same (s1.trans z.1), hB, hb, fun G2 s2 => ?_⟩
      have lk := List.length_take_le i (Kd.pair s u).kids
      have l2 := Kd.kids_le (Kd.pair s u)
      refine ⟨_, s2 _ _ z.2, small1000 (by rw [List.length_map, List.length_take]; omega), smk (z.1.trans s2) nD, ?_⟩
      rw [upd_same, List.take_add_one, hu, List.map_append]
      rfl
    · obtain ⟨s3, gD⟩ := z
      rw [← hL.len, List.take_length] at gD
      have sA := s1.trans s3
      refine ⟨_, rfl, rfl, _, rfl, ite2 (fun _ => ?_) (fun e => absurd (decide_eq_true rfl) e)⟩
      have c1 := cutN_le (mny sz b s)
      refine ⟨_, rfl, D, _, _, _, rfl, rfl, SqL.of gD, atI_nat (j := 0) rfl, _, rfl, D, _, _, _, rfl, rfl, SqL.of gD, atI_nat (j := 1) rfl, _, _, rfl, rfl, .inl ⟨by omega, by omega⟩, cutN (mny sz b s) * cutN (mny sz b u), _, rfl, by push_cast; rfl, ?_⟩
      rw [cutN_mul]
      exact q _ sA
  | eith s u =>
    refine ⟨_, rfl, rfl, _, rfl, ite2 (fun e => absurd e (wne (by simp only [Kd.word]; decide +kernel))) (fun _ => ⟨_, rfl, rfl, _, rfl, ite2 (fun e => absurd e (wne (by simp only [Kd.word]; decide +kernel))) (fun _ => ⟨_, rfl, rfl, _, rfl, ite2 (fun e => absurd e (wne (by simp only [Kd.word]; decide +kernel))) (fun _ => ?_)⟩)⟩)⟩
    have hL : RpL H (Kd.eith s u).kids us := by
      rcases hks with ⟨_, h⟩ | ⟨_, h, _⟩
      · exact h
      · cases h
    refine ⟨_, rfl, 1, rfl, ka, _, rfl, SqT.of hk, notWhole _ _, fun p1 np1 => ?_⟩
    rw [cutFrom1]
    have s1 := newS (o := .tup us) np1
    have g1 : (upd H p1 (.tup us)) p1 = some (.tup us) := upd_same
    generalize upd H p1 (.tup us) = H1 at s1 g1
    refine ⟨p1, rfl, ⟨_, SqT.of g1⟩, fun D nD => ?_⟩
    refine lc_tup (xs := us) (fun i G => Same H1 G ∧ G D = some (.lst (((Kd.eith s u).kids.take i).map fun u => V.int ((cutN (mny sz b u) : Nat) : Int)))) ⟨newS nD, upd_same⟩ (fun i G _ z => SqT.of (z.1 _ _ g1)) (fun i x G hx z => ?_) (fun G z => ?_)
    · obtain ⟨y, hu, ru⟩ := hL.get hx
      have mu := List.mem_of_getElem? hu
      have hd := Kd.kids_dp mu
      have hdd : y.data = true := data_kid hdt mu
      refine ⟨rfl, _, rfl, _, rfl, _, rfl, x, p, y, sz, b, rfl, by omega, hdd, ru.tk (Tk.of (s1.trans z.1)), hz.same (s1.trans z.1), hB, hb, fun G2 s2 => ?_⟩
      have lk := List.length_take_le i (Kd.eith s u).kids
      have l2 := Kd.kids_le (Kd.eith s u)
      refine ⟨_, s2 _ _ z.2, small1000 (by rw [List.length_map, List.length_take]; omega), smk (z.1.trans s2) nD, ?_⟩
      rw [upd_same, List.take_add_one, hu, List.map_append]
      rfl
    · obtain ⟨s3, gD⟩ := z
      rw [← hL.len, List.take_length] at gD
      have sA := s1.trans s3
      refine ⟨_, rfl, rfl, _, rfl, ite2 (fun e => absurd e (wne (by simp only [Kd.word]; decide +kernel))) (fun _ => ⟨_, rfl, rfl, _, rfl, ite2 (fun _ => ?_) (fun e => absurd (decide_eq_true rfl) e)⟩)⟩
      refine ⟨_, rfl, D, _, _, _, rfl, rfl, SqL.of gD, atI_nat (j := 0) rfl, _, rfl, D, _, _, _, rfl, rfl, SqL.of gD, atI_nat (j := 1) rfl, _, _, rfl, rfl, cutN (mny sz b s) + cutN (mny sz b u), _, rfl, by push_cast; rfl, ?_⟩
      rw [cutN_add]
      exact q _ sA
end
end Kq

/-! KSI: an own exception over ValueError whose __init__ says super().__init__(e) and sets one field -/
namespace Ksi
open PySem PySem.Spec PyProof.Rows L2 NdefX
section
open PySem.W PySem.Calls
variable {prog : Program} {w : World} {A : Around} {E : Value → Shared → Prop} {h : Heap} {g : Array GenState} {d : Drawn} {t : Nat} {os : OsState}
variable {nm q : Str} {C N : Addr} {bs bm : List Value} {hdct : Bool} {sn : List Str} {sub : List Value} {ab : Bool} {col : Option Bool} {dd : Option Addr} {k0 k1 k2 k3 k5 : Option Value}
theorem call_bwV {u e t0 : Addr} {rest : List Value} {Q : Value → Shared → Prop}
    (hC : h.get? C = some (excClassObj nm q C N bs bm hdct sn sub ab col dd k0 k1 k2 k3 k5 "ValueError.__new__")) (he : h.get? e = some (HandSPX.excO C t0)) (hu : h.get? u = some (kxs_mw "ValueError.__init__" e)) (hrest : rest.length ≤ sizeLine)
    (hq : ∀ h' t1, (∀ b o, b ≠ e → h.get? b = some o → h'.get? b = some o) → h'.get? e = some (HandSPX.excO C t1) → Q .none ⟨h', g, d, t, os⟩) :
    wpAny (model prog w) A (call (.ref u) rest) Q E ⟨h, g, d, t, os⟩ := by
  refine wpAny_call (codeAny_of_tree ?_)
  show wpAny _ A.in1 (callAny (.ref u) ⟨rest, []⟩) _ _ _
  simp only [callAny]
  refine wpAny_bind (wpAny_load hu ?_)
  simp only [kxs_mw, show (Value.type "method-wrapper" == Value.type "method" || Value.type "method-wrapper" == Value.type "builtin_function_or_method" || Value.type "method-wrapper" == Value.type "method-wrapper") = true by decide, if_true]
  refine W.KFB.if_so (by decide) ?_
  refine wpAny_bind (ESX.check_bound F.excBase_ValueError hC he rfl ?_)
  refine wpAny_bind (wpAny_pure (wpAny_pure ?_))
  refine ⟨Code.quiet_builtin _ (by decide +kernel), codeAny_builtin F.excBase_ValueError.initEntry ?_⟩
  rw [Around.under_plainId F.excBase_ValueError.init.plain _]
  wp_walk
  refine hq _ h.objs.size (fun b o hb ho => ?_) ?_
  · rw [Heap.get?_update_other _ _ (Ne.symm hb)]
    exact Heap.get?_push_of_some _ ho
  · rw [Heap.get?_update_self _ (Heap.get?_push_of_some _ he) rfl]
    rfl
end

/-- what its __init__ keeps: the field f is what was handed in -/
def spIni (D : Addr) (ok : V → Hp → Prop) (f : Str) : Sp := fun vs H Q _ => ∃ (a : Addr) (y : V), vs = [.ref a, y] ∧ H a = some (exo a D none) ∧ ok y H ∧
  ∀ dx, H dx = none → dx ≠ a → Q .non (upd (upd H dx (exd dx [(f, y)])) a (exo a D (some dx)))

/-- what the written part says of super() in the def F of the class D -/
structure SupC (P : Program) (K : PySem.W.Frag) (F : NF) (D : Addr) (s0 : Str) : Prop where
  exc : OexC K D
  cell : ∃ cc cl cld csl, F.cl = [(("__class__" : Str), cc)] ∧ K.lookup cc = some (⟨cl, cld, .cell (some (.ref D)), csl⟩ : Obj)
  par : ∃ ar : Arg, (F.params.posonlyargs ++ F.params.args).head? = some ar ∧ ar.arg = s0
  code : ∃ (ccl : Value) (cdd : Option Addr) (vs : Array Value) (ccs : Array (Option Value)) (file : Str) (tf : Tok), K.lookup F.c = some (⟨ccl, cdd, .fields vs, ccs⟩ : Obj) ∧ vs[2]? = some (.str file tf) ∧ ((P.main.file : Str) == file) = true
  top : (P.main.scope.names.lookup ("super" : Str)).isSome = false
  sub : PySem.W.mroIn K D (.ref D) = some true
  ini : PySem.W.ks_superIn K D D "__init__" = some (some (.builtin "ValueError.__init__"))
  base : PySem.W.subIn K (.ref D) (.type "ValueError") = some true
  opq : PySem.W.nsIn K cStatics "thirdparty.any" = some none
  nms : F.scope.names.lookup ("super" : Str) = some .globalImplicit

theorem looks_mroOf {K : PySem.W.Frag} {h : Heap} {M : Model} {C : Addr} {cd : ClassData} (X : K.In h) (hc : PySem.W.clsIn K C = some cd) : PySem.W.Looks M h (mroOf (.ref C)) cd.mro :=
  fun A Q E s k q => wpAny_bind ((PySem.W.looks_clsIn X hc) A _ E s k (wpAny_pure q))

theorem cw1 {M : Model} {A : Around} {E : Value → Shared → Prop} {s : Shared} {u x : Addr} {i : String} {pos : Pos} {env : Env} {e : Expr} {rest : List Expr} {Q : Value → Shared → Prop}
    (h : wpAny M A (spliced (backTo pos (starEach (e :: rest) env))) (fun vs s₁ => PySem.W.KxsAt i u x s₁.heap ∧ wpAny M A (call (.ref u) vs) Q E s₁) E s)
    (he : starEach (e :: rest) env = (false, eval e env) :: starEach rest env) (hplain : (backTo pos (starEach rest env)).any (·.1) = false) :
    wpAny M A (callWith pos (.ref u) [] (backTo pos (starEach (e :: rest) env)) []) Q E s := by
  rw [he] at h ⊢
  refine PySem.W.kxs_callWith (i := i) (x := x) (by show (false || (backTo pos (starEach rest env)).any (·.1)) = false; rw [hplain]; rfl) ?_
  exact PySem.Calls.evalArgs_plain h

section
variable {CX : CXT} {P : Program} {w : World} {K : PySem.W.Frag} {mg : Str → Option Value} {base : Heap} {N : List Str} {F : NF} {f D : Addr} {k : Nat} {s0 a0 fld : Str} {e : Expr} {st2 : Stmt} {p0 p1 p2 p3 p4 : Pos} {oc doc pm ctv : Value} {od : Option Addr} {osl : Array (Option Value)} {ok : V → Hp → Prop}
theorem fn_sup (lk : K.lookup f = some (⟨oc, od, .func (F.fd doc pm ctv), osl⟩ : Obj)) (hcd : PySem.W.codeIn K (.ref F.c) F.qual = true) (S : NScope N [s0, a0] ["__class__"] F.scope) (T : SupC P K F D s0) (mS : mg "super" = none)
    (hb : F.body = [.Expr (.Call (.Attribute (.Call (.Name "super" p0) [] [] p1) "__init__" p2) [e] [] p3) p4, st2])
    (harg : ∀ (A : Around) (outer : List Env) (s : Shared) (H : Hp) (E : XK), ∃ te : TA, PA (ncx CX P w K mg base N F f A outer s H E) [e] te ∧ ∀ a y H', ok y H' → H' a = some (exo a D none) → ∀ Q : List V → Hp → Prop, (∀ vs, vs.length ≤ 1000 → Q vs H') → te (startF N [.ref a, y] [none]) H' Q)
    (hst : ∀ (A : Around) (outer : List Env) (s : Shared) (H : Hp) (E : XK), PSs (ncx CX P w K mg base N F f A outer s H E) [st2] (tOst K fld (tVar 0) (tVar 1)))
    (hno : PySem.W.findIn K (.ref D) fld = some none) (hse : ∀ env : Env, starEach [e] env = (false, eval e env) :: starEach [] env) (hev : ∀ env : Env, ∃ pl : Sem Bool, eval (.Call (.Attribute (.Call (.Name "super" p0) [] [] p1) "__init__" p2) [e] [] p3) env = (do
      let ov ← attributeBase (.Call (.Name "super" p0) [] [] p1) "__init__" env (eval (.Call (.Name "super" p0) [] [] p1) env)
      standAt p2.atName
      let (f, first) ← holding [ov] (getMethod ov "__init__" pl)
      callWith p3 f first (backTo p3 (starEach [e] env)) [])) (hsw : ∀ env : Env, swapsWith (.Call (.Attribute (.Call (.Name "super" p0) [] [] p1) "__init__" p2) [e] [] p3) none p4.line env = pure false)
    (hi : ∀ (A : Around) (outer : List Env) (s : Shared) (H : Hp) (E : XK), interactive (ncx CX P w K mg base N F f A outer s H E).env = false) :
    FnOk P w K mg base CX (k + 1) f (F.fd doc pm ctv) [s0, a0] (spIni D ok fld) := by
  have len : ∀ vs H Q E, spIni D ok fld vs H Q E → vs.length = [s0, a0].length := fun vs H Q E ⟨a, y, e, _⟩ => by rw [e]; rfl
  refine ⟨len, fun A outer s H args us vs Q E hr e0 hbd r hsp => ?_⟩
  have hl := len _ _ _ _ hsp
  have lim : s.heap.NoLimit := e0.mod.nolimit.keeps fun b o e => (e0.bs b o e).1
  have KB : K.In base := e0.mod.kin
  have KX : K.In s.heap := KB.keeps fun b o e => (e0.bs b o e).1
  obtain ⟨cc, ccl, cld, csl, hcl, hcell⟩ := T.cell
  have C : CellsAt F.cl ["__class__"] [none] s.heap H := by
    refine ⟨rfl, fun y c hy => ?_, fun x y c hx hy => ?_, fun i y hy => ?_⟩
    · rw [hcl] at hy
      have : c = cc := by
        simp only [List.lookup] at hy
        split at hy
        · exact (Option.some.inj hy).symm
        · cases hy
      subst this
      exact ⟨(e0.bs _ _ (KB _ _ hcell)).2, _, _, KX _ _ hcell, rfl⟩
    · rw [hcl] at hx hy
      simp only [List.lookup] at hx hy
      split at hx
      · split at hy
        · rename_i h1 _ h2
          rw [eq_of_beq h1, eq_of_beq h2]
        · cases hy
      · cases hx
    · match i, hy with
      | 0, hy =>
        have hy : "__class__" = y := by simpa using hy
        subst hy
        refine ⟨cc, by rw [hcl]; rfl, fun v hv => ?_⟩
        have hv : (none : Option V) = some v := by simpa using hv
        cases hv
      | n + 1, hy => simp at hy
  refine codeAny_call_function hr.depth (KX _ _ lk) rfl S.co S.gen rfl (PySem.W.codeRec_of KX hcd) (hbd _ _ _ _ ?_)
  refine wpAny_newFunctionEnv S.nocell (fun ⟨n, _⟩ hy => S.par n (List.of_mem_zip hy).1) (fun h₁ hns hsb => ⟨lim.fresh _ hsb, ?_⟩) S.kind
  show codeAny _ _ (.func F.body (envF F f s.heap.objs.size)) _ _
  have kp : ∀ b o, s.heap.get? b = some o → h₁.get? b = some o := fun b o e => hsb.extBut b o (Nat.ne_of_lt (Heap.lt_size e)) (Heap.get?_push_of_some _ e)
  have I0 : Inv (ncx CX P w K mg base N F f A outer s H E) [] (startF N vs [none]) H { s with heap := h₁, toks := s.toks + ([s0, a0].zip us).length } := inv_startN S hr.hd e0 hl r C hns kp
  refine PySem.ks_codeAny_funcAt ?_
  rw [hb]
  obtain ⟨a, y, ev, ea, hok, hq⟩ := hsp
  subst ev
  obtain ⟨ar, har, hars⟩ := T.par
  subst hars
  obtain ⟨ccl', cdd, vs', ccs, file, tf, hcode, hvs, hfile⟩ := T.code
  obtain ⟨nm, q, N', bs, bm, sn, sub, ab, col, dd, k0, k1, k2, k3, k5, hC, hbm⟩ := T.exc.cls
  have hclD : PySem.W.clsIn K D = some { name := nm, bases := bs, mro := .ref D :: bm, ns := N', qualname := q, hasDict := true, slotNames := sn, subclasses := sub, abstract := ab, collection := col, hasDel := false } := by unfold PySem.W.clsIn; rw [hC] <;> rfl
  have KX1 : K.In h₁ := KX.keeps kp
  have hD1 := KX1 _ _ hC
  obtain ⟨t1, hx⟩ := exo_at I0.hok ea
  have ndP : [ar.arg, a0].Nodup := by
    have q : (N.take ([ar.arg, a0].length + [("__class__" : Str)].length)).Nodup := S.nd.sublist (List.take_sublist _ N)
    rw [S.pre] at q
    exact (List.nodup_append.mp q).1
  obtain ⟨pl, hev⟩ := hev (envF F f s.heap.objs.size)
  refine PySem.ks_wpAt_execs_cons (PySem.ks_wpAt_Expr_any (PySem.ks_wpAt_MethodCall ?_ hev) (hi A outer s H E) (hsw _))
  refine PySem.ks_wpAt_super_base (ar := ar) (vs := vs') (file := file) (tf := tf) T.nms (S.frk _ (by simp)) (by decide) rfl (kp _ _ (KX _ _ lk)) rfl har rfl (kp _ _ (KX _ _ hcode)) rfl hvs hfile T.top ?_
  obtain ⟨mb, hb1, hb2⟩ := I0.mod.blt
  refine PySem.W.ks_loadName_global S.kind T.nms (Calls.loadGlobal_builtin (I0.mod.glob.keeps I0.bk) mS (hb1.keeps I0.bk) ((hb2 "super" (by decide)).trans (show bootBuiltins "super" = some (.type "super") by decide +kernel)) ⟨rfl, ?_⟩)
  refine wpAny_loadName_free S.kind (S.frk _ (by simp)) (show F.cl.lookup _ = _ by rw [hcl]; rfl) ⟨_, KX1 _ _ hcell, rfl⟩ ?_
  have hv : ([ar.arg, a0].zip us).reverse.lookup ar.arg = some (.ref a) := by
    cases r with
    | @cons _ u0 _ ur ra rw' =>
      obtain rfl : u0 = Value.ref a := ra
      exact zip_look (ps := [ar.arg, a0]) (i := 0) ndP rfl rfl
  refine wpAny_loadName_local S.kind (S.par _ (by simp)) hns hv ?_
  refine PySem.ks_wpAny_isType_cls hD1 rfl ⟨rfl, ?_⟩
  refine PySem.ks_wpAny_call_super hD1 rfl hx rfl (fun c e => by cases e) (PySem.W.looks_mroIn KX1 T.sub) (fun h2 e2 k2' => ?_)
  have I1 := I0.kept (t' := s.toks + ([ar.arg, a0].zip us).length) k2'
  have KX2 : K.In h2 := KX1.keeps k2'
  have IA : PySem.W.InstAt h2 a { cls := .ref D, dict := none, data := .fields #[.ref t1, .none, .none, .none, .bool false, .none] } D none := ⟨k2' _ _ hx, rfl, rfl, trivial⟩
  have hf : PySem.W.alongIn K "__init__" (((Value.ref D :: bm).dropWhile (· != .ref D)).drop 1) = some (some (.builtin "ValueError.__init__")) := by
    have z := T.ini
    unfold PySem.W.ks_superIn at z
    rw [hclD] at z
    exact z
  refine PySem.W.kxs_getMethod PySem.W.kxs_ValueError e2 (PySem.W.looks_opaque KX2 T.opq) (looks_mroOf KX2 hclD) rfl KX2 hf (IA.type.andThen (PySem.W.looks_subIn KX2 T.base)) (PySem.W.ks_ne KX2 IA hclD) (by decide) ?_
  have I2 := I1.kept (h' := h2.push (PySem.W.kxs_mw "ValueError.__init__" a)) (t' := s.toks + ([ar.arg, a0].zip us).length + 1) fun b u z => Heap.get?_push_of_some _ z
  have I3 : Inv (ncx CX P w K mg base N F f A outer s H E) [(h2.objs.size, PySem.W.kxs_mw "ValueError.__init__" a)] (startF N [.ref a, y] [none]) H ⟨h2.push (PySem.W.kxs_mw "ValueError.__init__" a), s.gens, s.drawn, s.toks + ([ar.arg, a0].zip us).length + 1, s.os⟩ := I2.pins_of fun p hp => by
    have hp : p = (h2.objs.size, PySem.W.kxs_mw "ValueError.__init__" a) := by simpa using hp
    subst hp
    exact ⟨Heap.get?_push_size _ rfl, I1.hok.fresh (Nat.le_refl _), Nat.ne_of_gt I1.lt, I1.nofs (Nat.le_refl _), fun v z => by cases z⟩
  obtain ⟨te, hPA, hte⟩ := harg A outer s H E
  refine cw1 (i := "ValueError.__init__") (x := a) (thn (hPA.run p3 _ _ _ H (fun vs H1 => H1 = H ∧ vs.length ≤ 1000) I3 (hte a y H hok ea _ fun vs hz => ⟨rfl, hz⟩)) fun us' s1 hh => ?_) (hse _) rfl
  obtain ⟨vs1, H1, I4, r1, rfl, hz⟩ := hh
  have hpin := (I4.pin _ (List.mem_append_right _ (List.mem_singleton.mpr rfl))).1
  refine ⟨hpin, ?_⟩
  obtain ⟨hp, g, dr, tk, os⟩ := s1
  obtain ⟨t2, ho⟩ := exo_at I4.hok ea
  refine call_bwV (I4.kIn _ _ hC) ho hpin (by rw [← Paired.length r1, sizeLine_eq]; omega) fun h3 t3 k3' hx3 => ?_
  have J := I4.write (t' := tk) (x := a) (e := a) (o := exo a D none) (by rw [ea]; exact True.intro) (.inl rfl) k3' ⟨_, hx3⟩ (exo_ok hx3)
  have eu : upd H1 a (exo a D none) = H1 := by
    funext b
    by_cases hb : b = a
    · rw [hb, upd_same, ea]
    · rw [upd_ne hb]
  rw [eu] at J
  have J' : Inv (ncx CX P w K mg base N F f A outer s H1 E) [] (startF N [.ref a, y] [none]) H1 ⟨h3, g, dr, tk, os⟩ := J.pins_of fun p hp => absurd hp (by simp)
  refine wpAt_of_wpAny (wpAny_mono ((hst A outer s H1 E).run [] _ _ H1 { nx := fun _ H' => Q .non H', rt := Q } J' ⟨y, rfl, .ref a, rfl, a, D, rfl, T.exc, hno, .inl ⟨ea, hq⟩⟩) (fun fl s' hs => ?_) fun e s' hs => hs)
  have fin : ∀ {σ' : L2.St} {H' : Hp} {v : V} {u : Value}, Inv (ncx CX P w K mg base N F f A outer s H1 E) [] σ' H' s' → L2.RelV v u → Q v H' → CE outer P w H1 s Q u s' :=
    fun {σ' H' v u} J rv q => ⟨v, H', J.os, J.bare, J.base, J.hok, rv, q⟩
  cases fl with
  | ret u =>
    obtain ⟨v, σ', H', J, rv, q⟩ := hs
    exact fin J rv q
  | next =>
    obtain ⟨σ', H', J, q⟩ := hs
    exact fin (v := V.non) (u := Value.none) J rfl q
  | brk =>
    obtain ⟨_, _, _, q⟩ := hs
    exact False.elim q
  | cont =>
    obtain ⟨_, _, _, q⟩ := hs
    exact False.elim q
end
end Ksi

/-! isinstance(e, T) and isinstance(e, (A, B, ..)) of an exception that is pinned -/
namespace Ke
open PySem PySem.Spec PyProof.Rows L2
theorem clsV_eq {c : V} {u v : Value} (h : ClsV c u) (r : RelV c v) : v = u := by
  cases h <;> exact r
theorem paired_eq : ∀ {cs : List V} {us its : List Value}, PySem.Paired ClsV cs us → Vals cs its → its = us
  | [], _, _, .nil, h => by cases h; rfl
  | _ :: _, _, _, .cons p ps, h => by
    cases h with
    | cons q qs => rw [clsV_eq p q, paired_eq ps qs]
def rIsET (K : PySem.W.Frag) (D a : Addr) : List V → Hp → VK → Prop := fun xs H Q => ∃ (tp : Addr) (cs : List V) (us : List Value) (b : Bool), xs = [.ref a, .ref tp] ∧ H tp = some (.tup cs) ∧ PySem.Paired ClsV cs us ∧ PySem.W.kitAny K (.ref D) us = some b ∧ Q (.bl b) H
theorem call_isET {X : Cx} {a D : Addr} {oe : Obj} (C : ExcC X.K D) (hm : (a, oe) ∈ X.pn) (hz : Zc (.ref D) none oe) (hf : ∃ vs, oe.data = .fields vs) : CallR X (.builtin "isinstance") (rIsET X.K D a) := by
  intro pins s σ H xs us Q hI hv hr
  obtain ⟨tp, cs, cu, b, rfl, ht, hp, hk, hQ⟩ := hr
  obtain ⟨vs, hf⟩ := hf
  have hg : s.heap.get? a = some oe := (hI.pin _ (List.mem_append_left _ hm)).1
  cases hv with
  | cons h1 h2 =>
    cases h2 with
    | cons h3 h4 =>
      cases h4
      cases h1
      cases h3
      obtain ⟨its, hvs, ⟨⟨cc, dd, dt, sl⟩, hT, rfl, n, rfl⟩, -⟩ := hI.tuple (show SqT X.K H tp cs from .inl (.inl ht))
      have := paired_eq hp hvs
      subst this
      refine PySem.W.kia_tup (PySem.W.handS_kitx_exc (ox := oe) C.hg C.hk C.hs C.hd C.ha C.hn C.ht C.hm) hI.kIn ?_ hT hk (fun h => by cases h) fun tk => ⟨.bl b, _, hI.tok tk, rfl, hQ⟩
      exact ⟨hg, hz.1, by unfold PySem.W.notCls; rw [hf], by rw [hz.2]; trivial⟩
def rIsE1 (K : PySem.W.Frag) (D a : Addr) : List V → Hp → VK → Prop := fun xs H Q => ∃ (c : V) (cv : Value) (b : Bool), xs = [.ref a, c] ∧ (∀ u, RelV c u → u = cv) ∧ PySem.W.kitOne K (.ref D) cv = some b ∧ Q (.bl b) H
theorem call_isE1 {X : Cx} {a D : Addr} {oe : Obj} (C : ExcC X.K D) (hm : (a, oe) ∈ X.pn) (hz : Zc (.ref D) none oe) (hf : ∃ vs, oe.data = .fields vs) : CallR X (.builtin "isinstance") (rIsE1 X.K D a) := by
  intro pins s σ H xs us Q hI hv hr
  obtain ⟨c, cv, b, rfl, ht, hk, hQ⟩ := hr
  obtain ⟨vs, hf⟩ := hf
  have hg : s.heap.get? a = some oe := (hI.pin _ (List.mem_append_left _ hm)).1
  cases hv with
  | cons h1 h2 =>
    cases h2 with
    | cons h3 h4 =>
      cases h4
      cases h1
      have := ht _ h3
      subst this
      refine PySem.W.kia_one (PySem.W.handS_kitx_exc (ox := oe) C.hg C.hk C.hs C.hd C.ha C.hn C.ht C.hm) hI.kIn ?_ hk (fun h => by cases h) fun tk => ⟨.bl b, _, hI.tok tk, rfl, hQ⟩
      exact ⟨hg, hz.1, by unfold PySem.W.notCls; rw [hf], by rw [hz.2]; trivial⟩
end Ke

/-! an exception that is pinned, its dict there or not: isinstance, its fields -/
namespace Ksi
open PySem PySem.Spec PyProof.Rows L2
/-- the dict stands, if there is one -/
def Xd (d : Option Addr) (H : Hp) : Prop := ∀ b, d = some b → ∃ fs, H b = some (.xd fs)
theorem Xd.same {d : Option Addr} {H G : Hp} (x : Xd d H) (s : ∀ b o, H b = some o → G b = some o) : Xd d G := fun b e => by
  obtain ⟨fs, h⟩ := x b e
  exact ⟨fs, s _ _ h⟩
theorem xdNone {H : Hp} : Xd none H := fun _ e => nomatch e
section
variable {X : Cx} {a D : Addr} {oe : Obj} {cls : Value} {d : Option Addr}
theorem instD {pins : List (Addr × Obj)} {σ : L2.St} {H : Hp} {s : Shared} (I : Inv X pins σ H s) (hm : (a, oe) ∈ X.pn) (hz : Zc (.ref D) d oe) (hf : ∃ vs, oe.data = .fields vs) (x : Xd d H) : ∃ od, PySem.W.InstAt s.heap a oe D od := by
  have g := (I.pin _ (List.mem_append_left _ hm)).1
  obtain ⟨vs, hv⟩ := hf
  have nc : PySem.W.notCls oe = true := by unfold PySem.W.notCls; rw [hv]
  cases d with
  | none => exact ⟨none, g, hz.1, nc, by rw [hz.2]; trivial⟩
  | some b =>
    obtain ⟨fs, hb⟩ := x b rfl
    obtain ⟨mA, ⟨o, es, ep, ho, _⟩, _⟩ := (show ObjOk X.prog X.w H s.heap b (.xd fs) from I.hok b _ hb)
    exact ⟨some o, g, hz.1, nc, by rw [hz.2]; exact ho⟩
theorem call_isD (K : PySem.W.Frag) (hK : X.K = K) (C : ExcC K D) (hm : (a, oe) ∈ X.pn) (hz : Zc (.ref D) d oe) (hf : ∃ vs, oe.data = .fields vs) : CallR X (.builtin "isinstance") (fun xs H Q => Xd d H ∧ Ke.rIsE1 K D a xs H Q) := by
  subst hK
  rintro pins s σ H xs us Q I hv ⟨x, c, cv, b, rfl, ht, hk, q⟩
  obtain ⟨od, J⟩ := instD I hm hz hf x
  match us, hv with
  | [_, u], .cons (h1 : _ = Value.ref a) (.cons h3 .nil) =>
    subst h1
    obtain rfl := ht u h3
    have hc : (PySem.W.clsIn X.K D).isSome = true := by
      obtain ⟨cd, e, _⟩ := PySem.W.any_some C.hd
      rw [e]
      rfl
    exact PySem.W.kia_one (PySem.W.kitx_exc (ox := oe) (od := od) hc C.hg C.hk C.hs C.ha C.hn C.ht C.hm) I.kIn J hk (fun h => nomatch h) fun tk => ⟨.bl b, _, I.tok tk, rfl, q⟩
/-- e.n -/
theorem pe_xfP {e : Expr} {te : TE} {pos : Pos} {n : Str} (T : XfC X.K D) (hno : PySem.W.findIn X.K (.ref D) n = some none) (hm : (a, oe) ∈ X.pn) (hz : Zc (.ref D) d oe) (hf : ∃ vs, oe.data = .fields vs) (he : PE X e te) (hb : attributeBase e n X.env (eval e X.env) = eval e X.env := by rfl) :
    PE X (.Attribute e n pos) (fun σ H Q => te σ H fun x G => x = .ref a ∧ ∃ (b : Addr) (fs : List (Str × V)) (v : V), d = some b ∧ G b = some (.xd fs) ∧ fs.lookup n = some v ∧ Q v G) := by
  constructor
  intro pins s σ H Q I h
  refine attr_of hb (thn (he.run pins s σ H _ I h) ?_)
  rintro u s1 ⟨x, G, J, ru, ex, b, fs, v, rfl, gb, l, q⟩
  subst ex
  obtain rfl : u = Value.ref a := ru
  obtain ⟨mA, hns, hr⟩ := (show ObjOk X.prog X.w G s1.heap b (.xd fs) from J.hok b _ gb)
  obtain ⟨od, ho, hl⟩ := lookIn_ns hns
  have z := hr n
  rw [l] at z
  obtain ⟨y, hy, ry⟩ := RelO.some_of (v := v) (o := mA n) z
  obtain ⟨vs, hv⟩ := hf
  refine HandSPX.exc_get J.kIn (od := some od) ⟨(J.pin _ (List.mem_append_left _ hm)).1, hz.1, by unfold PySem.W.notCls; rw [hv], by rw [hz.2]; exact ho⟩ T.ga T.gg T.exC (PySem.W.findObj_own T.hdC hno rfl (by rw [hl, hy])) (handed_of ry) ⟨v, G, J.tok _, ry, q⟩
end
end Ksi

/-! defs that are handed the exception under way -/
namespace Kx8
open PySem PySem.Spec PyProof.Rows L2 LamX L2H
/-- a def's promise, called where p is pinned (an exception that is handled); the promise may speak of p -/
structure FnX (P : Program) (w : World) (K : PySem.W.Frag) (mg : Str → Option Value) (base : Heap) (CX : CXT) (k : Nat) (f : Addr) (fd : FuncData) (ps : List Str) (sp : Addr × Obj → Sp) : Prop where
  cnt : ∀ p vs H Q E, sp p vs H Q E → vs.length = ps.length
  go : ∀ (A : Around) (o : List Env) (s : Shared) (H : Hp) (r : Args) (us : List Value) (vs : List V) (Q : VK) (E : XK) (p : Addr × Obj), RoomH k A → PinOk o H s p → Env0 P w K mg base A o s H → BindsTo s fd r (ps.zip us) → Vals vs us → sp p vs H Q E →
    codeAny (model P w) A (.call (.ref f) r) (CR CX o P w H s Q E) s
section
variable {P : Program} {w : World} {K : PySem.W.Frag} {mg : Str → Option Value} {base : Heap} {CX : CXT}
theorem fnX_of {k : Nat} {f : Addr} {nm ql : Str} {prm : Arguments} {bd : List Stmt} {sco : Scope} {dV kV doc pm cdv ct oc : Value} {an od : Option Addr} {sl : Array (Option Value)} {N ps : List Str} {sp : Addr × Obj → Sp}
    (at' : K.lookup f = some ⟨oc, od, .func (PySem.W.fnOf nm ql prm bd sco dV kV doc pm an cdv ct), sl⟩) (hc : PySem.W.codeIn K cdv ql = true) (S : FnScope N ps sco) (cnt : ∀ p vs H Q E, sp p vs H Q E → vs.length = ps.length)
    (body : ∀ (A : Around) (o : List Env) (s : Shared) (H : Hp) (vs : List V) (Q : VK) (E : XK) (p : Addr × Obj), RoomH k (A.deeper (envOfC ql sco s.heap.objs.size f cdv)) → sp p vs H Q E →
      ∃ t, PSs (cxH CX P w K mg base N ql sco f cdv A o s H E p) bd t ∧ t { nx := fun _ G => Q .non G, rt := Q } (start N vs) H) : FnX P w K mg base CX (k + 1) f (PySem.W.fnOf nm ql prm bd sco dV kV doc pm an cdv ct) ps sp where
  cnt := cnt
  go := by
    intro A o s H r us vs Q E p room pin e0 binds vals hsp
    have hold := fun b u (z : base.get? b = some u) => (e0.bs b u z).1
    have kx := e0.mod.kin.keeps hold
    have par : ∀ z ∈ ps.zip us, sco.names.lookup z.1 = some .local ∨ (sco.names.lookup z.1 = some .cell ∧ ((cellsFrom (s.heap.objs.size + 1) sco.names []).lookup z.1).isSome = true) := by
      intro z hz
      have hm : z.1 ∈ ps := (List.of_mem_zip (a := z.1) (b := z.2) hz).1
      exact (S.par z.1 hm).imp id fun q => ⟨q, PySem.W.cellsFrom_some _ _ _ (.inl q)⟩
    refine codeAny_call_function room.depth (kx _ _ at') rfl S.co S.gen rfl (PySem.W.codeRec_of kx hc) (binds _ _ _ _ (wpAny_newFunctionEnv_cells S.kind par ?_))
    rintro env rfl s1 x
    refine ⟨(e0.mod.nolimit.keeps hold).keeps x.toInCall.keep, codeAny_func ?_⟩
    obtain ⟨t, ht, hq⟩ := body A o s H vs Q E p (room.deeper _) hsp
    refine wpAny_mono (ht.run [] s1 (start N vs) H _ (inv_startH S pin e0 (cnt _ _ _ _ _ hsp) vals x) hq) ?_ (fun _ _ z => z)
    intro fl s2 z
    match fl, z with
    | .ret u, ⟨v, _, G, J, rv, q⟩ => exact ⟨v, G, J.os, J.bare, J.base, J.hok, rv, q⟩
    | .next, ⟨_, G, J, q⟩ => exact ⟨V.non, G, J.os, J.bare, J.base, J.hok, rfl, q⟩
    | .brk, ⟨_, _, _, q⟩ => exact q.elim
    | .cont, ⟨_, _, _, q⟩ => exact q.elim
end
section
variable {X : Cx} {CX : CXT} {k : Nat} {f : Addr} {fd : FuncData} {ps : List Str} {sp : Addr × Obj → Sp} {E : L2.St → XK} {x : Str} {q0 pos : Pos} {e : Expr} {es : List Expr} {t : TA} {p : Addr × Obj}
theorem goX {pins : List (Addr × Obj)} {σ : L2.St} {H : Hp} {s : Shared} {Q : VK} {us : List Value} {vs : List V} (F : FnX X.prog X.w X.K X.mg X.base CX k f fd ps sp) (hr : RoomH k X.A) (hp : p ∈ X.pn) (hb : Binds X.K fd ps []) (hx : PassesAt CX X σ (E σ)) (I : Inv X pins σ H s) (rv : Vals vs us)
    (h : sp p vs H Q (E σ)) : wpAny (model X.prog X.w) X.A (call (.ref f) us) (EP X pins σ Q) X.xe s := by
  have n : us.length = ps.length := rv.length.symm.trans (F.cnt _ _ _ _ _ h)
  have bb := hb s us I.kIn (by rw [List.append_nil]; exact n)
  rw [List.append_nil] at bb
  refine wpAny_call (codeAny_mono (F.go X.A X.stack s H ⟨us, []⟩ _ _ Q (E σ) p hr ?_ I.env0 bb rv h) ?_)
  · obtain ⟨h1, h2, h3, h4, h5⟩ := I.pin p (List.mem_append_left _ hp)
    refine ⟨h1, h2, ?_, h5⟩
    rcases I.ok.stk with e | ⟨e, ef⟩
    · rw [e]; exact h4
    · rw [e]
      unfold frs
      simp only [List.filterMap_cons, ef, List.mem_cons, not_or]
      exact ⟨h3, h4⟩
  intro r s2 z
  match r, z with
  | .error u, z => exact hx pins H s u s2 I z
  | .ok (.ret u), z => exact I.after z
  | .ok .next, z => exact z.elim
  | .ok .brk, z => exact z.elim
  | .ok .cont, z => exact z.elim
/-- f(e, ..), p handled -/
theorem pe_callX (F : FnX X.prog X.w X.K X.mg X.base CX k f fd ps sp) (hr : RoomH k X.A) (hp : p ∈ X.pn) (hg : Gl X x) (hm : X.mg x = some (.ref f)) (hk : PySem.W.keepIn X.K (.ref f) = true) (hb : Binds X.K fd ps []) (hx : ∀ σ, PassesAt CX X σ (E σ)) (ha : PA X (e :: es) t)
    (hn : (x == ("__debug__" : Str)) = false := by decide) (h1 : starEach (e :: es) X.env = (false, eval e X.env) :: starEach es X.env := by rfl) (h2 : (backTo pos (starEach es X.env)).any (·.1) = false := by rfl) : PE X (.Call (.Name x q0) (e :: es) [] pos) (tCallS (sp p) E t) := by
  constructor
  intro pins s σ H Q I h
  refine wpAny_Call_Name_kw (ld_glob I hg hm (PySem.W.callWith_K (h₀ := X.base) I.ok.mod.kin hk (thn (ha.run pos pins s σ H _ I h) ?_) h1 h2) hn)
  rintro us s2 ⟨vs, G, J, rv, q⟩
  exact ⟨J.kIn, goX F hr hp hb (hx σ) J rv q⟩
end
end Kx8

/-! the classes of refusals; _law_kinds, _law_field -/
namespace Kq
open PySem PySem.Spec PyProof.Rows L2 Kf Kg Kv GxR Kk
abbrev tLKinds : Stmt := tp 35
abbrev tLField : Stmt := tp 37
/-- the classes, as the written part has them: the i-th at C i -/
structure Cs (K : PySem.W.Frag) (mg : Str → Option Value) (C : Nat → Addr) (cK : Addr) : Prop where
  gK : mg "KindError" = some (.ref cK)
  m0 : mg "TooMany" = some (.ref (C 0))
  m1 : mg "TooMuch" = some (.ref (C 1))
  m2 : mg "NoText" = some (.ref (C 2))
  m3 : mg "NoKind" = some (.ref (C 3))
  m4 : mg "NoLead" = some (.ref (C 4))
  m5 : mg "NoName" = some (.ref (C 5))
  m6 : mg "Taken" = some (.ref (C 6))
  m7 : mg "Ring" = some (.ref (C 7))
  m8 : mg "NoBack" = some (.ref (C 8))
  m9 : mg "NoRow" = some (.ref (C 9))
  m10 : mg "Unbounded" = some (.ref (C 10))
  m11 : mg "Broken" = some (.ref (C 11))
  m12 : mg "Used" = some (.ref (C 12))
  ec : ∀ i, i < 13 → ExcC K (C i)
  nn : ∀ i j, i < 13 → j < 13 → PySem.W.kitOne K (.ref (C i)) (.ref (C j)) = some (decide (j = i))
  nv : ∀ i, i < 13 → PySem.W.kitOne K (.ref (C i)) (.type "ValueError") = some true
  eP : ∀ i, i < 13 → PySem.W.exmOne K (.ref (C i)) (.ref cK) = some true
  xP : ∀ i, i < 10 → PySem.W.excIn K (C i) [.type "ValueError", .type "Exception", .type "BaseException", .type "object"] "ValueError.__new__" = true
  kP : ∀ i, i < 13 → PySem.W.keepIn K (.ref (C i)) = true
  bP : ∀ i, i < 13 → PySem.W.subIn K (.ref (C i)) (.type "BaseException") = some true
  tP : ∀ i, i < 13 → PySem.W.typeIn K (.ref (C i)) = some (.type "type")
  xf : ∀ i, i < 13 → 10 ≤ i → XfC K (C i)
  oe : ∀ i, i < 13 → 10 ≤ i → OexC K (C i)
  na : PySem.W.findIn K (.ref (C 10)) "argument" = some none
  nb : PySem.W.findIn K (.ref (C 11)) "name" = some none
  nc : PySem.W.findIn K (.ref (C 12)) "name" = some none
/-- the thirteen answers -/
def tru (i : Nat) : List V := (List.range 13).map fun j => V.bl (decide (j = i))
theorem sPut {H G : Hp} {p : Addr} {o : HO} (s : Same H G) (h : H p = none) : Same H (upd G p o) := fun b u e => by
  rw [upd_ne (ne_of_none e h)]
  exact s b u e
theorem bkS {H G : Hp} {p : Addr} (s : Same H G) (n : G p = none) : H p = none := by
  cases e : H p with
  | none => rfl
  | some o => rw [s _ _ e] at n; cases n
section
variable {P : Program} {w : World} {K : PySem.W.Frag} {mg : Str → Option Value} {base : Heap} {C : Nat → Addr} {cK : Addr}
abbrev nKinds : List Str := ["_law_error", "_law_some"]
theorem scKinds : FnScope nKinds ["_law_error"] (defScope tLKinds) := ⟨rfl, rfl, rfl, by decide +kernel, rfl, by decide +kernel, by decide +kernel⟩
def spKinds (C : Nat → Addr) : Addr × Obj → Sp := fun p vs H Q _ => vs = [.ref p.1] ∧ ∃ (i : Nat) (d : Option Addr), i < 13 ∧ Zc (.ref (C i)) d p.2 ∧ (∃ us, p.2.data = .fields us) ∧ Ksi.Xd d H ∧ ∀ (l : Addr) (G : Hp), Same H G → H l = none → G l = some (.lst (tru i)) → Q (.ref l) G
theorem okKinds {f : Addr} {fd : FuncData} {k : Nat} (F : Fun K "_law_kinds" "_law_kinds" tLKinds f fd) (cs : Cs K mg C cK) (mi : mg "isinstance" = none) : Kx8.FnX P w K mg base CX0 (k + 1) f fd ["_law_error"] (spKinds C) := by
  obtain ⟨oc, od, kV, doc, pm, an, cdv, ct, sl, rfl, hl, hc⟩ := F.ex
  refine Kx8.fnX_of hl hc scKinds (fun p vs H Q E h => ?_) (fun A o s H vs Q E p hr h => ?_)
  · obtain ⟨rfl, _⟩ := h
    rfl
  obtain ⟨a, oe⟩ := p
  obtain ⟨rfl, i, d, hi, hz, hf, hx, q⟩ := h
  refine ⟨_, pss_cons (ps_set (i := 1) scKinds.nd rfl (.inl rfl) (pe_lst (pa_cons (pe_callB (Ksi.call_isD K rfl (cs.ec i hi) List.mem_cons_self hz hf) (by rfl) mi PyProof.Rows.boot_isinstance (pa_cons (pv 0) (pa_cons (pe_glob (v := .ref (C 0)) (by rfl) cs.m0 rfl) pa_nil))) (pa_cons (pe_callB (Ksi.call_isD K rfl (cs.ec i hi) List.mem_cons_self hz hf) (by rfl) mi PyProof.Rows.boot_isinstance (pa_cons (pv 0) (pa_cons (pe_glob (v := .ref (C 1)) (by rfl) cs.m1 rfl) pa_nil))) (pa_cons (pe_callB (Ksi.call_isD K rfl (cs.ec i hi) List.mem_cons_self hz hf) (by rfl) mi PyProof.Rows.boot_isinstance (pa_cons (pv 0) (pa_cons (pe_glob (v := .ref (C 2)) (by rfl) cs.m2 rfl) pa_nil))) pa_nil)))))
    (pss_cons (ps_set (i := 1) scKinds.nd rfl (.inl rfl) (pe_op op_cat (pv 1) (pe_lst (pa_cons (pe_callB (Ksi.call_isD K rfl (cs.ec i hi) List.mem_cons_self hz hf) (by rfl) mi PyProof.Rows.boot_isinstance (pa_cons (pv 0) (pa_cons (pe_glob (v := .ref (C 3)) (by rfl) cs.m3 rfl) pa_nil))) (pa_cons (pe_callB (Ksi.call_isD K rfl (cs.ec i hi) List.mem_cons_self hz hf) (by rfl) mi PyProof.Rows.boot_isinstance (pa_cons (pv 0) (pa_cons (pe_glob (v := .ref (C 4)) (by rfl) cs.m4 rfl) pa_nil))) (pa_cons (pe_callB (Ksi.call_isD K rfl (cs.ec i hi) List.mem_cons_self hz hf) (by rfl) mi PyProof.Rows.boot_isinstance (pa_cons (pv 0) (pa_cons (pe_glob (v := .ref (C 5)) (by rfl) cs.m5 rfl) pa_nil))) pa_nil))))))
    (pss_cons (ps_expr (pe_bm PySem.F.plainAttrs_list PySem.F.slot_list_append PySem.F.type_list_append mt_append (pv 1) (pa_cons (pe_callB (Ksi.call_isD K rfl (cs.ec i hi) List.mem_cons_self hz hf) (by rfl) mi PyProof.Rows.boot_isinstance (pa_cons (pv 0) (pa_cons (pe_glob (v := .ref (C 6)) (by rfl) cs.m6 rfl) pa_nil))) pa_nil)))
    (pss_cons (ps_set (i := 1) scKinds.nd rfl (.inl rfl) (pe_op op_cat (pv 1) (pe_lst (pa_cons (pe_callB (Ksi.call_isD K rfl (cs.ec i hi) List.mem_cons_self hz hf) (by rfl) mi PyProof.Rows.boot_isinstance (pa_cons (pv 0) (pa_cons (pe_glob (v := .ref (C 7)) (by rfl) cs.m7 rfl) pa_nil))) (pa_cons (pe_callB (Ksi.call_isD K rfl (cs.ec i hi) List.mem_cons_self hz hf) (by rfl) mi PyProof.Rows.boot_isinstance (pa_cons (pv 0) (pa_cons (pe_glob (v := .ref (C 8)) (by rfl) cs.m8 rfl) pa_nil))) (pa_cons (pe_callB (Ksi.call_isD K rfl (cs.ec i hi) List.mem_cons_self hz hf) (by rfl) mi PyProof.Rows.boot_isinstance (pa_cons (pv 0) (pa_cons (pe_glob (v := .ref (C 9)) (by rfl) cs.m9 rfl) pa_nil))) pa_nil))))))
    (pss_one (ps_ret (pe_op op_cat (pv 1) (pe_lst (pa_cons (pe_callB (Ksi.call_isD K rfl (cs.ec i hi) List.mem_cons_self hz hf) (by rfl) mi PyProof.Rows.boot_isinstance (pa_cons (pv 0) (pa_cons (pe_glob (v := .ref (C 10)) (by rfl) cs.m10 rfl) pa_nil))) (pa_cons (pe_callB (Ksi.call_isD K rfl (cs.ec i hi) List.mem_cons_self hz hf) (by rfl) mi PyProof.Rows.boot_isinstance (pa_cons (pv 0) (pa_cons (pe_glob (v := .ref (C 11)) (by rfl) cs.m11 rfl) pa_nil))) (pa_cons (pe_callB (Ksi.call_isD K rfl (cs.ec i hi) List.mem_cons_self hz hf) (by rfl) mi PyProof.Rows.boot_isinstance (pa_cons (pv 0) (pa_cons (pe_glob (v := .ref (C 12)) (by rfl) cs.m12 rfl) pa_nil))) pa_nil)))))))))), ?_⟩
  have s0 : Same H H := Same.refl _
  refine ⟨_, rfl, hx, .ref (C 0), .ref (C 0), _, rfl, (fun u h => h), cs.nn i 0 hi (by decide), _, rfl, hx, .ref (C 1), .ref (C 1), _, rfl, (fun u h => h), cs.nn i 1 hi (by decide), _, rfl, hx, .ref (C 2), .ref (C 2), _, rfl, (fun u h => h), cs.nn i 2 hi (by decide), (sz (by show 3 ≤ 1000; decide)), fun p1 n1 => ?_⟩
  have s1 : Same H (upd H p1 (.lst [V.bl (decide (0 = i)), V.bl (decide (1 = i)), V.bl (decide (2 = i))])) := sPut s0 (bkS s0 n1)
  have t1 : Same H (upd H p1 (.lst [V.bl (decide (0 = i)), V.bl (decide (1 = i)), V.bl (decide (2 = i))])) := newS n1
  have g1 : (upd H p1 (.lst [V.bl (decide (0 = i)), V.bl (decide (1 = i)), V.bl (decide (2 = i))])) p1 = some (.lst [V.bl (decide (0 = i)), V.bl (decide (1 = i)), V.bl (decide (2 = i))]) := upd_same
  generalize upd H p1 (.lst [V.bl (decide (0 = i)), V.bl (decide (1 = i)), V.bl (decide (2 = i))]) = H1 at s1 t1 g1 ⊢
  refine ⟨_, rfl, _, rfl, (hx.same s1), .ref (C 3), .ref (C 3), _, rfl, (fun u h => h), cs.nn i 3 hi (by decide), _, rfl, (hx.same s1), .ref (C 4), .ref (C 4), _, rfl, (fun u h => h), cs.nn i 4 hi (by decide), _, rfl, (hx.same s1), .ref (C 5), .ref (C 5), _, rfl, (fun u h => h), cs.nn i 5 hi (by decide), (sz (by show 3 ≤ 1000; decide)), fun p2 n2 => ?_⟩
  have s2 : Same H (upd H1 p2 (.lst [V.bl (decide (3 = i)), V.bl (decide (4 = i)), V.bl (decide (5 = i))])) := sPut s1 (bkS s1 n2)
  have t2 : Same H1 (upd H1 p2 (.lst [V.bl (decide (3 = i)), V.bl (decide (4 = i)), V.bl (decide (5 = i))])) := newS n2
  have g2 : (upd H1 p2 (.lst [V.bl (decide (3 = i)), V.bl (decide (4 = i)), V.bl (decide (5 = i))])) p2 = some (.lst [V.bl (decide (3 = i)), V.bl (decide (4 = i)), V.bl (decide (5 = i))]) := upd_same
  generalize upd H1 p2 (.lst [V.bl (decide (3 = i)), V.bl (decide (4 = i)), V.bl (decide (5 = i))]) = H2 at s2 t2 g2 ⊢
  refine ⟨_, _, _, _, rfl, rfl, t2 _ _ g1, g2, (sz (by show 6 ≤ 1000; decide)), fun p3 n3 => ?_⟩
  have s3 : Same H (upd H2 p3 (.lst ([V.bl (decide (0 = i)), V.bl (decide (1 = i)), V.bl (decide (2 = i))] ++ [V.bl (decide (3 = i)), V.bl (decide (4 = i)), V.bl (decide (5 = i))]))) := sPut s2 (bkS s2 n3)
  have t3 : Same H2 (upd H2 p3 (.lst ([V.bl (decide (0 = i)), V.bl (decide (1 = i)), V.bl (decide (2 = i))] ++ [V.bl (decide (3 = i)), V.bl (decide (4 = i)), V.bl (decide (5 = i))]))) := newS n3
  have g3 : (upd H2 p3 (.lst ([V.bl (decide (0 = i)), V.bl (decide (1 = i)), V.bl (decide (2 = i))] ++ [V.bl (decide (3 = i)), V.bl (decide (4 = i)), V.bl (decide (5 = i))]))) p3 = some (.lst ([V.bl (decide (0 = i)), V.bl (decide (1 = i)), V.bl (decide (2 = i))] ++ [V.bl (decide (3 = i)), V.bl (decide (4 = i)), V.bl (decide (5 = i))])) := upd_same
  generalize upd H2 p3 (.lst ([V.bl (decide (0 = i)), V.bl (decide (1 = i)), V.bl (decide (2 = i))] ++ [V.bl (decide (3 = i)), V.bl (decide (4 = i)), V.bl (decide (5 = i))])) = H3 at s3 t3 g3 ⊢
  refine ⟨_, rfl, .inl ⟨rfl, _, .inl (.inl g3)⟩, _, rfl, (hx.same s3), .ref (C 6), .ref (C 6), _, rfl, (fun u h => h), cs.nn i 6 hi (by decide), _, _, _, rfl, rfl, g3, (small1000 (show 6 ≤ 1000 by decide)), ?_⟩
  have s4 : Same H (upd H3 p3 (.lst (([V.bl (decide (0 = i)), V.bl (decide (1 = i)), V.bl (decide (2 = i))] ++ [V.bl (decide (3 = i)), V.bl (decide (4 = i)), V.bl (decide (5 = i))]) ++ [V.bl (decide (6 = i))]))) := sPut s3 (bkS s2 n3)
  have g4 : (upd H3 p3 (.lst (([V.bl (decide (0 = i)), V.bl (decide (1 = i)), V.bl (decide (2 = i))] ++ [V.bl (decide (3 = i)), V.bl (decide (4 = i)), V.bl (decide (5 = i))]) ++ [V.bl (decide (6 = i))]))) p3 = some (.lst (([V.bl (decide (0 = i)), V.bl (decide (1 = i)), V.bl (decide (2 = i))] ++ [V.bl (decide (3 = i)), V.bl (decide (4 = i)), V.bl (decide (5 = i))]) ++ [V.bl (decide (6 = i))])) := upd_same
  generalize upd H3 p3 (.lst (([V.bl (decide (0 = i)), V.bl (decide (1 = i)), V.bl (decide (2 = i))] ++ [V.bl (decide (3 = i)), V.bl (decide (4 = i)), V.bl (decide (5 = i))]) ++ [V.bl (decide (6 = i))])) = H4 at s4 g4 ⊢
  refine ⟨_, rfl, _, rfl, (hx.same s4), .ref (C 7), .ref (C 7), _, rfl, (fun u h => h), cs.nn i 7 hi (by decide), _, rfl, (hx.same s4), .ref (C 8), .ref (C 8), _, rfl, (fun u h => h), cs.nn i 8 hi (by decide), _, rfl, (hx.same s4), .ref (C 9), .ref (C 9), _, rfl, (fun u h => h), cs.nn i 9 hi (by decide), (sz (by show 3 ≤ 1000; decide)), fun p5 n5 => ?_⟩
  have s5 : Same H (upd H4 p5 (.lst [V.bl (decide (7 = i)), V.bl (decide (8 = i)), V.bl (decide (9 = i))])) := sPut s4 (bkS s4 n5)
  have t5 : Same H4 (upd H4 p5 (.lst [V.bl (decide (7 = i)), V.bl (decide (8 = i)), V.bl (decide (9 = i))])) := newS n5
  have g5 : (upd H4 p5 (.lst [V.bl (decide (7 = i)), V.bl (decide (8 = i)), V.bl (decide (9 = i))])) p5 = some (.lst [V.bl (decide (7 = i)), V.bl (decide (8 = i)), V.bl (decide (9 = i))]) := upd_same
  generalize upd H4 p5 (.lst [V.bl (decide (7 = i)), V.bl (decide (8 = i)), V.bl (decide (9 = i))]) = H5 at s5 t5 g5 ⊢
  refine ⟨_, _, _, _, rfl, rfl, t5 _ _ g4, g5, (sz (by show 10 ≤ 1000; decide)), fun p6 n6 => ?_⟩
  have s6 : Same H (upd H5 p6 (.lst ((([V.bl (decide (0 = i)), V.bl (decide (1 = i)), V.bl (decide (2 = i))] ++ [V.bl (decide (3 = i)), V.bl (decide (4 = i)), V.bl (decide (5 = i))]) ++ [V.bl (decide (6 = i))]) ++ [V.bl (decide (7 = i)), V.bl (decide (8 = i)), V.bl (decide (9 = i))]))) := sPut s5 (bkS s5 n6)
  have t6 : Same H5 (upd H5 p6 (.lst ((([V.bl (decide (0 = i)), V.bl (decide (1 = i)), V.bl (decide (2 = i))] ++ [V.bl (decide (3 = i)), V.bl (decide (4 = i)), V.bl (decide (5 = i))]) ++ [V.bl (decide (6 = i))]) ++ [V.bl (decide (7 = i)), V.bl (decide (8 = i)), V.bl (decide (9 = i))]))) := newS n6
  have g6 : (upd H5 p6 (.lst ((([V.bl (decide (0 = i)), V.bl (decide (1 = i)), V.bl (decide (2 = i))] ++ [V.bl (decide (3 = i)), V.bl (decide (4 = i)), V.bl (decide (5 = i))]) ++ [V.bl (decide (6 = i))]) ++ [V.bl (decide (7 = i)), V.bl (decide (8 = i)), V.bl (decide (9 = i))]))) p6 = some (.lst ((([V.bl (decide (0 = i)), V.bl (decide (1 = i)), V.bl (decide (2 = i))] ++ [V.bl (decide (3 = i)), V.bl (decide (4 = i)), V.bl (decide (5 = i))]) ++ [V.bl (decide (6 = i))]) ++ [V.bl (decide (7 = i)), V.bl (decide (8 = i)), V.bl (decide (9 = i))])) := upd_same
  generalize upd H5 p6 (.lst ((([V.bl (decide (0 = i)), V.bl (decide (1 = i)), V.bl (decide (2 = i))] ++ [V.bl (decide (3 = i)), V.bl (decide (4 = i)), V.bl (decide (5 = i))]) ++ [V.bl (decide (6 = i))]) ++ [V.bl (decide (7 = i)), V.bl (decide (8 = i)), V.bl (decide (9 = i))])) = H6 at s6 t6 g6 ⊢
  refine ⟨_, rfl, _, rfl, (hx.same s6), .ref (C 10), .ref (C 10), _, rfl, (fun u h => h), cs.nn i 10 hi (by decide), _, rfl, (hx.same s6), .ref (C 11), .ref (C 11), _, rfl, (fun u h => h), cs.nn i 11 hi (by decide), _, rfl, (hx.same s6), .ref (C 12), .ref (C 12), _, rfl, (fun u h => h), cs.nn i 12 hi (by decide), (sz (by show 3 ≤ 1000; decide)), fun p7 n7 => ?_⟩
  have s7 : Same H (upd H6 p7 (.lst [V.bl (decide (10 = i)), V.bl (decide (11 = i)), V.bl (decide (12 = i))])) := sPut s6 (bkS s6 n7)
  have t7 : Same H6 (upd H6 p7 (.lst [V.bl (decide (10 = i)), V.bl (decide (11 = i)), V.bl (decide (12 = i))])) := newS n7
  have g7 : (upd H6 p7 (.lst [V.bl (decide (10 = i)), V.bl (decide (11 = i)), V.bl (decide (12 = i))])) p7 = some (.lst [V.bl (decide (10 = i)), V.bl (decide (11 = i)), V.bl (decide (12 = i))]) := upd_same
  generalize upd H6 p7 (.lst [V.bl (decide (10 = i)), V.bl (decide (11 = i)), V.bl (decide (12 = i))]) = H7 at s7 t7 g7 ⊢
  refine ⟨_, _, _, _, rfl, rfl, t7 _ _ g6, g7, (sz (by show 13 ≤ 1000; decide)), fun p8 n8 => ?_⟩
  exact q p8 _ (sPut s7 (bkS s7 n8)) (bkS s7 n8) (by rw [upd_same]; rfl)
/-! _law_field -/
abbrev psField : List Str := ["_law_error", "_law_way"]
theorem scField : FnScope psField psField (defScope tLField) := ⟨rfl, rfl, rfl, by decide +kernel, rfl, by decide +kernel, by decide +kernel⟩
/-- what the field holds -/
def due (i : Nat) (n : Int) (x : Str) : V := if i < 10 then .non else if i = 10 then .int n else .str x
def fld (i : Nat) : Str := if i = 10 then "argument" else "name"
def spField (C : Nat → Addr) : Addr × Obj → Sp := fun p vs H Q _ => ∃ (i : Nat) (d : Option Addr) (n : Int) (x : Str), vs = [.ref p.1, .int (i : Nat)] ∧ i < 13 ∧ Zc (.ref (C i)) d p.2 ∧ (∃ us, p.2.data = .fields us) ∧
  (10 ≤ i → ∃ b, d = some b ∧ H b = some (.xd [(fld i, due i n x)])) ∧ Q (due i n x) H
theorem okField {f : Addr} {fd : FuncData} {k : Nat} (F : Fun K "_law_field" "_law_field" tLField f fd) (cs : Cs K mg C cK) : Kx8.FnX P w K mg base CX0 (k + 1) f fd psField (spField C) := by
  obtain ⟨oc, od, kV, doc, pm, an, cdv, ct, sl, rfl, hl, hc⟩ := F.ex
  refine Kx8.fnX_of hl hc scField (fun p vs H Q E h => ?_) (fun A o s H vs Q E p hr h => ?_)
  · obtain ⟨_, _, _, _, rfl, _⟩ := h
    rfl
  obtain ⟨a, oe⟩ := p
  obtain ⟨i, d, n, x, rfl, hi, hz, hf, hx, q⟩ := h
  rcases Nat.lt_or_ge i 10 with h10 | h10
  · refine ⟨_, pss_cons (ps_if (pt_cmpR op_eq (pv 1) pe_int (nomark _)) pss_no pss_nil)
      (pss_cons (ps_if (pt_cmpR op_gt (pv 1) pe_int (nomark _)) pss_no pss_nil)
      (pss_one (ps_ret pe_non))), ?_⟩
    refine ⟨_, rfl, rfl, _, rfl, ite2 (fun e => absurd (of_decide_eq_true e) (fun z => by injection z with z; omega)) (fun _ => ⟨_, rfl, _, _, rfl, rfl, _, rfl, ite2 (fun e => absurd (of_decide_eq_true e) (by omega)) (fun _ => ?_)⟩)⟩
    have e : due i n x = .non := if_pos h10
    rw [e] at q
    exact q
  obtain ⟨b, rfl, hb⟩ := hx h10
  rcases Nat.eq_or_lt_of_le h10 with e10 | e10
  · subst e10
    refine ⟨_, pss_cons (ps_if (pt_cmpR op_eq (pv 1) pe_int (nomark _)) (pss_one (ps_ret (Ksi.pe_xfP (cs.xf 10 hi h10) cs.na List.mem_cons_self hz hf (pv 0)))) pss_nil)
      (pss_cons (ps_if (pt_cmpR op_gt (pv 1) pe_int (nomark _)) pss_no pss_nil)
      (pss_one (ps_ret pe_non))), ?_⟩
    exact ⟨_, rfl, rfl, _, rfl, ite2 (fun _ => ⟨_, rfl, rfl, b, _, _, rfl, hb, rfl, q⟩) (fun e => absurd (decide_eq_true rfl) e)⟩
  · have hn : PySem.W.findIn K (.ref (C i)) "name" = some none := by
      have z : i = 11 ∨ i = 12 := by omega
      rcases z with rfl | rfl
      · exact cs.nb
      · exact cs.nc
    refine ⟨_, pss_cons (ps_if (pt_cmpR op_eq (pv 1) pe_int (nomark _)) pss_no pss_nil)
      (pss_cons (ps_if (pt_cmpR op_gt (pv 1) pe_int (nomark _)) (pss_one (ps_ret (Ksi.pe_xfP (cs.xf i hi h10) hn List.mem_cons_self hz hf (pv 0)))) pss_nil)
      (pss_one (ps_ret pe_non))), ?_⟩
    refine ⟨_, rfl, rfl, _, rfl, ite2 (fun e => absurd (of_decide_eq_true e) (fun z => by injection z with z; omega)) (fun _ => ⟨_, rfl, _, _, rfl, rfl, _, rfl, ite2 (fun _ => ⟨_, rfl, rfl, b, _, due i n x, rfl, hb, ?_, q⟩) (fun e => absurd (decide_eq_true (by omega)) e)⟩)⟩
    have ef : fld i = "name" := if_neg (by omega)
    rw [ef]
    rfl
end
end Kq

/-! _law_raised -/
namespace Kq
open PySem PySem.Spec PyProof.Rows L2 Kf Kg Kv GxR Kk
abbrev tLRaised : Stmt := tp 36
/-- what is handed to a refusal with a field -/
def okArg (v : V) (_ : Hp) : Prop := (∃ n : Int, v = .int n ∧ 0 ≤ n ∧ n ≤ 3) ∨ ∃ x : Str, v = .str x ∧ x.length ≤ 8
/-- the own __init__ of the class at D -/
structure Ini (P : Program) (w : World) (K : PySem.W.Frag) (mg : Str → Option Value) (base : Heap) (k : Nat) (D : Addr) (a0 fl : Str) : Prop where
  ex : ∃ (fI : Addr) (fdI : FuncData), PySem.W.findIn K (.ref D) "__init__" = some (some (.ref fI)) ∧ PySem.W.typeIn K (.ref fI) = some (.type "function") ∧ FnOk P w K mg base CX0 k fI fdI ["self", a0] (Ksi.spIni D okArg fl) ∧ Binds K fdI ["self", a0] []
section
variable {P : Program} {w : World} {K : PySem.W.Frag} {mg : Str → Option Value} {base : Heap} {C : Nat → Addr} {cK : Addr}
abbrev psRaised : List Str := ["_law_way", "_law_text", "_law_number", "_law_name"]
theorem scRaised : FnScope psRaised psRaised (defScope tLRaised) := ⟨rfl, rfl, rfl, by decide +kernel, rfl, by decide +kernel, by decide +kernel⟩
def spRaised (C : Nat → Addr) : Sp := fun vs H Q E => ∃ (i : Nat) (z : Str) (n : Int) (x : Str), vs = [.int (i : Nat), .str z, .int n, .str x] ∧ i < 13 ∧ 0 ≤ n ∧ n ≤ 3 ∧ x.length ≤ 8 ∧
  (i < 10 → ∀ G : Hp, Same H G → E (.ref (C i)) none G) ∧ (10 ≤ i → ∀ (b : Addr) (G : Hp), Same H G → H b = none → G b = some (.xd [(fld i, due i n x)]) → E (.ref (C i)) (some b) G)
/-- what a made refusal leaves -/
theorem mkS {H : Hp} {a b D : Addr} {fs : List (Str × V)} (na : H a = none) (nb : H b = none) : Same H (upd (del (upd (upd (upd H a (exo a D none)) b (exd b fs)) a (exo a D (some b))) a) b (.xd fs)) := fun x o e => by
  rw [upd_ne (ne_of_none e nb), del_ne (ne_of_none e na), upd_ne (ne_of_none e na), upd_ne (ne_of_none e nb), upd_ne (ne_of_none e na)]
  exact e
theorem nei {i : Nat} {j : Int} (h : decide (V.int (i : Nat) = V.int j) = true) : (i : Int) = j := by
  have z := of_decide_eq_true h
  injection z
theorem okRaised {f : Addr} {fd : FuncData} {k : Nat} (F : Fun K "_law_raised" "_law_raised" tLRaised f fd) (cs : Cs K mg C cK) (i10 : Ini P w K mg base k (C 10) "argument" "argument") (i11 : Ini P w K mg base k (C 11) "name" "name") (i12 : Ini P w K mg base k (C 12) "name" "name") :
    FnOk P w K mg base (L2.CX P w) (k + 2) f fd psRaised (spRaised C) := by
  refine F.okX scRaised (fun vs H Q E h => ?_) (fun cdv A outer s H vs Q E hr h => ?_)
  · obtain ⟨_, _, _, _, rfl, _⟩ := h
    rfl
  obtain ⟨i, z, n, x, rfl, hi, n0, n3, hx, q1, q2⟩ := h
  obtain ⟨f10, d10, a10, b10, c10, e10⟩ := i10.ex
  obtain ⟨f11, d11, a11, b11, c11, e11⟩ := i11.ex
  obtain ⟨f12, d12, a12, b12, c12, e12⟩ := i12.ex
  refine ⟨_, pss_cons (ps_if (pt_cmpR op_eq (pv 0) pe_int (nomark _)) (pss_one (ps_raise rfl (takes_of rfl rfl rfl rfl) (SkE.pmk_own1 PySem.F.excBase_ValueError (cs.xP 0 (by decide)) cs.m0 (cs.kP 0 (by decide)) (raises_own (cs.bP 0 (by decide)) (cs.tP 0 (by decide))) rfl (pv 1)))) pss_nil)
    (pss_cons (ps_if (pt_cmpR op_eq (pv 0) pe_int (nomark _)) (pss_one (ps_raise rfl (takes_of rfl rfl rfl rfl) (SkE.pmk_own1 PySem.F.excBase_ValueError (cs.xP 1 (by decide)) cs.m1 (cs.kP 1 (by decide)) (raises_own (cs.bP 1 (by decide)) (cs.tP 1 (by decide))) rfl (pv 1)))) pss_nil)
    (pss_cons (ps_if (pt_cmpR op_eq (pv 0) pe_int (nomark _)) (pss_one (ps_raise rfl (takes_of rfl rfl rfl rfl) (SkE.pmk_own1 PySem.F.excBase_ValueError (cs.xP 2 (by decide)) cs.m2 (cs.kP 2 (by decide)) (raises_own (cs.bP 2 (by decide)) (cs.tP 2 (by decide))) rfl (pv 1)))) pss_nil)
    (pss_cons (ps_if (pt_cmpR op_eq (pv 0) pe_int (nomark _)) (pss_one (ps_raise rfl (takes_of rfl rfl rfl rfl) (SkE.pmk_own1 PySem.F.excBase_ValueError (cs.xP 3 (by decide)) cs.m3 (cs.kP 3 (by decide)) (raises_own (cs.bP 3 (by decide)) (cs.tP 3 (by decide))) rfl (pv 1)))) pss_nil)
    (pss_cons (ps_if (pt_cmpR op_eq (pv 0) pe_int (nomark _)) (pss_one (ps_raise rfl (takes_of rfl rfl rfl rfl) (SkE.pmk_own1 PySem.F.excBase_ValueError (cs.xP 4 (by decide)) cs.m4 (cs.kP 4 (by decide)) (raises_own (cs.bP 4 (by decide)) (cs.tP 4 (by decide))) rfl (pv 1)))) pss_nil)
    (pss_cons (ps_if (pt_cmpR op_eq (pv 0) pe_int (nomark _)) (pss_one (ps_raise rfl (takes_of rfl rfl rfl rfl) (SkE.pmk_own1 PySem.F.excBase_ValueError (cs.xP 5 (by decide)) cs.m5 (cs.kP 5 (by decide)) (raises_own (cs.bP 5 (by decide)) (cs.tP 5 (by decide))) rfl (pv 1)))) pss_nil)
    (pss_cons (ps_if (pt_cmpR op_eq (pv 0) pe_int (nomark _)) (pss_one (ps_raise rfl (takes_of rfl rfl rfl rfl) (SkE.pmk_own1 PySem.F.excBase_ValueError (cs.xP 6 (by decide)) cs.m6 (cs.kP 6 (by decide)) (raises_own (cs.bP 6 (by decide)) (cs.tP 6 (by decide))) rfl (pv 1)))) pss_nil)
    (pss_cons (ps_if (pt_cmpR op_eq (pv 0) pe_int (nomark _)) (pss_one (ps_raise rfl (takes_of rfl rfl rfl rfl) (SkE.pmk_own1 PySem.F.excBase_ValueError (cs.xP 7 (by decide)) cs.m7 (cs.kP 7 (by decide)) (raises_own (cs.bP 7 (by decide)) (cs.tP 7 (by decide))) rfl (pv 1)))) pss_nil)
    (pss_cons (ps_if (pt_cmpR op_eq (pv 0) pe_int (nomark _)) (pss_one (ps_raise rfl (takes_of rfl rfl rfl rfl) (SkE.pmk_own1 PySem.F.excBase_ValueError (cs.xP 8 (by decide)) cs.m8 (cs.kP 8 (by decide)) (raises_own (cs.bP 8 (by decide)) (cs.tP 8 (by decide))) rfl (pv 1)))) pss_nil)
    (pss_cons (ps_if (pt_cmpR op_eq (pv 0) pe_int (nomark _)) (pss_one (ps_raise rfl (takes_of rfl rfl rfl rfl) (SkE.pmk_own1 PySem.F.excBase_ValueError (cs.xP 9 (by decide)) cs.m9 (cs.kP 9 (by decide)) (raises_own (cs.bP 9 (by decide)) (cs.tP 9 (by decide))) rfl (pv 1)))) pss_nil)
    (pss_cons (ps_if (pt_cmpR op_eq (pv 0) pe_int (nomark _)) (pss_one (ps_raise rfl (takes_of rfl rfl rfl rfl) (pmk_oex (cs.oe 10 (by decide) (by decide)) a10 b10 c10 hr e10 .nil pass0 (by rfl) cs.m10 (pa_cons (pv 2) pa_nil)))) pss_nil)
    (pss_cons (ps_if (pt_cmpR op_eq (pv 0) pe_int (nomark _)) (pss_one (ps_raise rfl (takes_of rfl rfl rfl rfl) (pmk_oex (cs.oe 11 (by decide) (by decide)) a11 b11 c11 hr e11 .nil pass0 (by rfl) cs.m11 (pa_cons (pv 3) pa_nil)))) pss_nil)
    (pss_one (ps_raise rfl (takes_of rfl rfl rfl rfl) (pmk_oex (cs.oe 12 (by decide) (by decide)) a12 b12 c12 hr e12 .nil pass0 (by rfl) cs.m12 (pa_cons (pv 3) pa_nil))))))))))))))), ?_⟩
  refine ⟨_, rfl, rfl, _, rfl, ite2 (fun e => ?_) (fun e0 => ?_)⟩
  · have e := nei e
    obtain rfl : i = 0 := by omega
    exact ⟨_, rfl, q1 (by omega) H (Same.refl _)⟩
  refine ⟨_, rfl, rfl, _, rfl, ite2 (fun e => ?_) (fun e1 => ?_)⟩
  · have e := nei e
    obtain rfl : i = 1 := by omega
    exact ⟨_, rfl, q1 (by omega) H (Same.refl _)⟩
  refine ⟨_, rfl, rfl, _, rfl, ite2 (fun e => ?_) (fun e2 => ?_)⟩
  · have e := nei e
    obtain rfl : i = 2 := by omega
    exact ⟨_, rfl, q1 (by omega) H (Same.refl _)⟩
  refine ⟨_, rfl, rfl, _, rfl, ite2 (fun e => ?_) (fun e3 => ?_)⟩
  · have e := nei e
    obtain rfl : i = 3 := by omega
    exact ⟨_, rfl, q1 (by omega) H (Same.refl _)⟩
  refine ⟨_, rfl, rfl, _, rfl, ite2 (fun e => ?_) (fun e4 => ?_)⟩
  · have e := nei e
    obtain rfl : i = 4 := by omega
    exact ⟨_, rfl, q1 (by omega) H (Same.refl _)⟩
  refine ⟨_, rfl, rfl, _, rfl, ite2 (fun e => ?_) (fun e5 => ?_)⟩
  · have e := nei e
    obtain rfl : i = 5 := by omega
    exact ⟨_, rfl, q1 (by omega) H (Same.refl _)⟩
  refine ⟨_, rfl, rfl, _, rfl, ite2 (fun e => ?_) (fun e6 => ?_)⟩
  · have e := nei e
    obtain rfl : i = 6 := by omega
    exact ⟨_, rfl, q1 (by omega) H (Same.refl _)⟩
  refine ⟨_, rfl, rfl, _, rfl, ite2 (fun e => ?_) (fun e7 => ?_)⟩
  · have e := nei e
    obtain rfl : i = 7 := by omega
    exact ⟨_, rfl, q1 (by omega) H (Same.refl _)⟩
  refine ⟨_, rfl, rfl, _, rfl, ite2 (fun e => ?_) (fun e8 => ?_)⟩
  · have e := nei e
    obtain rfl : i = 8 := by omega
    exact ⟨_, rfl, q1 (by omega) H (Same.refl _)⟩
  refine ⟨_, rfl, rfl, _, rfl, ite2 (fun e => ?_) (fun e9 => ?_)⟩
  · have e := nei e
    obtain rfl : i = 9 := by omega
    exact ⟨_, rfl, q1 (by omega) H (Same.refl _)⟩
  refine ⟨_, rfl, rfl, _, rfl, ite2 (fun e => ?_) (fun e10 => ?_)⟩
  · have e := nei e
    obtain rfl : i = 10 := by omega
    refine ⟨_, rfl, (by show 1 ≤ 1000; decide), fun a na => ⟨a, _, rfl, upd_same, (.inl ⟨n, rfl, n0, n3⟩), fun b nb ne => ?_⟩⟩
    have nb' : H b = none := by rw [upd_ne ne] at nb; exact nb
    exact ⟨rfl, b, _, upd_same, (by rw [upd_ne ne, upd_same]), nb', q2 (by omega) b _ (mkS na nb') nb' (by rw [upd_same]; rfl)⟩
  refine ⟨_, rfl, rfl, _, rfl, ite2 (fun e => ?_) (fun e11 => ?_)⟩
  · have e := nei e
    obtain rfl : i = 11 := by omega
    refine ⟨_, rfl, (by show 1 ≤ 1000; decide), fun a na => ⟨a, _, rfl, upd_same, (.inr ⟨x, rfl, hx⟩), fun b nb ne => ?_⟩⟩
    have nb' : H b = none := by rw [upd_ne ne] at nb; exact nb
    exact ⟨rfl, b, _, upd_same, (by rw [upd_ne ne, upd_same]), nb', q2 (by omega) b _ (mkS na nb') nb' (by rw [upd_same]; rfl)⟩
  have e12 : i = 12 := by
    have z0 : i ≠ 0 := fun z => e0 (by rw [z]; exact decide_eq_true rfl)
    have z1 : i ≠ 1 := fun z => e1 (by rw [z]; exact decide_eq_true rfl)
    have z2 : i ≠ 2 := fun z => e2 (by rw [z]; exact decide_eq_true rfl)
    have z3 : i ≠ 3 := fun z => e3 (by rw [z]; exact decide_eq_true rfl)
    have z4 : i ≠ 4 := fun z => e4 (by rw [z]; exact decide_eq_true rfl)
    have z5 : i ≠ 5 := fun z => e5 (by rw [z]; exact decide_eq_true rfl)
    have z6 : i ≠ 6 := fun z => e6 (by rw [z]; exact decide_eq_true rfl)
    have z7 : i ≠ 7 := fun z => e7 (by rw [z]; exact decide_eq_true rfl)
    have z8 : i ≠ 8 := fun z => e8 (by rw [z]; exact decide_eq_true rfl)
    have z9 : i ≠ 9 := fun z => e9 (by rw [z]; exact decide_eq_true rfl)
    have z10 : i ≠ 10 := fun z => e10 (by rw [z]; exact decide_eq_true rfl)
    have z11 : i ≠ 11 := fun z => e11 (by rw [z]; exact decide_eq_true rfl)
    omega
  subst e12
  refine ⟨_, rfl, (by show 1 ≤ 1000; decide), fun a na => ⟨a, _, rfl, upd_same, (.inr ⟨x, rfl, hx⟩), fun b nb ne => ?_⟩⟩
  have nb' : H b = none := by rw [upd_ne ne] at nb; exact nb
  exact ⟨rfl, b, _, upd_same, (by rw [upd_ne ne, upd_same]), nb', q2 (by omega) b _ (mkS na nb') nb' (by rw [upd_same]; rfl)⟩
end
end Kq

/-! things by written displays -/
namespace Ki
open PySem PySem.Spec PyProof.Rows L2 Kf Kv
abbrev New (H : Hp) : Addr → Prop := fun b => H b = none
/-- what is known of the slots and the heap, whatever is put beside -/
structure Ev where
  e : L2.St → Hp → Prop
  cl : ∀ σ H G, e σ H → Same H G → e σ G
def tT (E : Ev) (x : Dt) : TE := fun σ H Q => E.e σ H ∧ ∀ v G, Same H G → Dd (New H) G x v → Q v G
def tTs (E : Ev) (xs : List Dt) : TA := fun σ H Q => E.e σ H ∧ ∀ vs G, Same H G → DdL (New H) G xs vs → Q vs G
theorem newS {H : Hp} {p : Addr} {o : HO} (h : H p = none) : Same H (upd H p o) := fun b u e => by
  rw [upd_ne (ne_of_none e h)]
  exact e
section
variable {X : Cx} {E : Ev}
theorem weak {e : Expr} {t t' : TE} (h : PE X e t) (i : ∀ σ H Q, t' σ H Q → t σ H Q) : PE X e t' := ⟨fun pins s σ H Q I q => h.run pins s σ H Q I (i σ H Q q)⟩
theorem weakA {es : List Expr} {t t' : TA} (h : PA X es t) (i : ∀ σ H Q, t' σ H Q → t σ H Q) : PA X es t' := ⟨fun pos pins s σ H Q I q => h.run pos pins s σ H Q I (i σ H Q q)⟩
theorem pT_of {e : Expr} {t : TE} {x : Dt} (h : PE X e t) (i : ∀ (σ : L2.St) (H : Hp) (Q : VK), E.e σ H → (∀ v G, Same H G → Dd (New H) G x v → Q v G) → t σ H Q) : PE X e (tT E x) := weak h fun σ H Q q => i σ H Q q.1 q.2
theorem pT_str {z j pos} : PE X (.Constant (.str z) j pos) (tT E (.str z)) := pT_of pe_str fun σ H Q _ q => q _ _ (Same.refl H) (.str _)
theorem pT_int {z j pos} : PE X (.Constant (.int z) j pos) (tT E (.int z)) := pT_of pe_int fun σ H Q _ q => q _ _ (Same.refl H) (.int _)
theorem pT_bl {z j pos} : PE X (.Constant (.bool z) j pos) (tT E (.bl z)) := pT_of pe_bl fun σ H Q _ q => q _ _ (Same.refl H) (.bl _)
theorem pT_non {j pos} : PE X (.Constant .none j pos) (tT E .non) := pT_of pe_non fun σ H Q _ q => q _ _ (Same.refl H) .non
theorem pTs_nil : PA X [] (tTs E []) := weakA pa_nil fun σ H Q q => q.2 [] H (Same.refl H) .nil
theorem pTs_cons {e : Expr} {es : List Expr} {x : Dt} {xs : List Dt} (ha : PE X e (tT E x)) (hr : PA X es (tTs E xs)) (hs : starEach (e :: es) X.env = (false, eval e X.env) :: starEach es X.env := by rfl) : PA X (e :: es) (tTs E (x :: xs)) :=
  weakA (pa_cons ha hr hs) fun σ H Q q => ⟨q.1, fun v G s hv => ⟨E.cl _ _ _ q.1 s, fun vs G2 s2 hvs => q.2 _ _ (s.trans s2) (.cons (hv.same s2) (hvs.at fun b u n _ => s.free n))⟩⟩
theorem pT_tup {es : List Expr} {xs : List Dt} {k : Nat} {pos : Pos} (h : PA X es (tTs E xs)) (hl : xs.length ≤ 1000 := by exact Nat.le_of_ble_eq_true rfl) : PE X (.Tuple es k pos) (tT E (.tup xs)) :=
  weak (pe_tup h) fun σ H Q q => ⟨q.1, fun vs G s hd => ⟨by rw [← hd.len]; exact Nat.le_of_lt (small1000 hl), fun p np => q.2 _ _ (s.trans (newS np)) (.tup upd_same (hd.same (newS np)))⟩⟩
theorem pT_lst {es : List Expr} {xs : List Dt} {pos : Pos} (h : PA X es (tTs E xs)) (hl : xs.length ≤ 1000 := by exact Nat.le_of_ble_eq_true rfl) : PE X (.List es pos) (tT E (.lst xs)) :=
  weak (pe_lst h) fun σ H Q q => ⟨q.1, fun vs G s hd => ⟨by rw [← hd.len]; exact Nat.le_of_lt (small1000 hl), fun p np => q.2 _ _ (s.trans (newS np)) (.lst (s.free np) upd_same (hd.same (newS np)))⟩⟩
end
/-! things without lists -/
mutual
def noL : Dt → Bool
  | .tup xs => noLs xs
  | .lst _ => false
  | .emp => false
  | _ => true
def noLs : List Dt → Bool
  | [] => true
  | x :: xs => noL x && noLs xs
end
mutual
theorem pureD {N M : Addr → Prop} {H : Hp} : ∀ {x : Dt} {v : V}, Dd N H x v → noL x = true → Dd M H x v
  | _, _, .non, _ => .non
  | _, _, .bl b, _ => .bl b
  | _, _, .int i, _ => .int i
  | _, _, .str x, _ => .str x
  | _, _, .tup h t, e => .tup h (pureL t (by simpa only [noL] using e))
  | _, _, .lst _ _ _, e => by simp [noL] at e
  | _, _, .emp _ _, e => by simp [noL] at e
theorem pureL {N M : Addr → Prop} {H : Hp} : ∀ {xs : List Dt} {vs : List V}, DdL N H xs vs → noLs xs = true → DdL M H xs vs
  | _, _, .nil, _ => .nil
  | x :: xs, _ :: _, .cons h t, e => by
    have e' : (noL x && noLs xs) = true := by simpa only [noLs] using e
    obtain ⟨e1, e2⟩ := Bool.and_eq_true_iff.mp e'
    exact .cons (pureD h e1) (pureL t e2)
end
theorem lstS {N : Addr → Prop} {H : Hp} {xs : List Dt} {v : V} (h : Dd N H (.lst xs) v) : ∃ a vs, v = .ref a ∧ N a ∧ H a = some (.lst vs) ∧ DdL N H xs vs := by
  cases h with
  | lst n h t => exact ⟨_, _, rfl, n, h, t⟩
end Ki

/-! _law_right -/
namespace Ksi
open PySem PySem.Spec PyProof.Rows L2
theorem call_isDR {X : Cx} {a : Addr} {oe : Obj} {cls : Value} {d : Option Addr} (K : PySem.W.Frag) (hK : X.K = K) (hm : (a, oe) ∈ X.pn) (hz : Zc cls d oe) (hf : ∃ vs, oe.data = .fields vs) :
    CallR X (.builtin "isinstance") (fun xs H Q => ∃ D, cls = .ref D ∧ ExcC K D ∧ Xd d H ∧ Ke.rIsE1 K D a xs H Q) := by
  rintro pins s σ H xs us Q I hv ⟨D, rfl, C, h⟩
  exact call_isD K hK C hm hz hf pins s σ H xs us Q I hv h
end Ksi
namespace Kq
open PySem PySem.Spec PyProof.Rows L2 Kf Kg Kv GxR Kk
abbrev tLRight : Stmt := tp 38
/-- what is due, as things -/
def dueD (i : Nat) (n : Int) (x : Str) : Dt := if i < 10 then .non else if i = 10 then .int n else .str x
theorem dueD_at {N : Addr → Prop} {H : Hp} (i : Nat) (n : Int) (x : Str) : Dd N H (dueD i n x) (due i n x) := by
  unfold dueD due
  split
  · exact .non
  split
  · exact .int n
  · exact .str x
def truD (i : Nat) : List Dt := (List.range 13).map fun j => Dt.bl (decide (j = i))
theorem truD_at {N : Addr → Prop} {H : Hp} (i : Nat) : ∀ l : List Nat, DdL N H (l.map fun j => Dt.bl (decide (j = i))) (l.map fun j => V.bl (decide (j = i)))
  | [] => .nil
  | _ :: l => .cons (.bl _) (truD_at i l)
/-- what is held against what is due -/
def rgt (i : Nat) (n : Int) (x : Str) : Dt := .tup [.lst (truD i), .bl true, dueD i n x]
theorem rgt_shw {i : Nat} {n : Int} {x : Str} (n0 : 0 ≤ n) (n3 : n ≤ 3) (hx : Nm x) : Shw 8 (rgt i n x) := by
  have hd : (dueD i n x).fine 100 ∧ (dueD i n x).dp ≤ 0 ∧ (dueD i n x).wt ≤ 100 := by
    unfold dueD
    split
    · exact ⟨trivial, Nat.le_refl _, by simp only [Dt.wt]; omega⟩
    split
    · exact ⟨by simp only [Dt.fine]; omega, Nat.le_refl _, by simp only [Dt.wt]; omega⟩
    · refine ⟨?_, Nat.le_refl _, ?_⟩
      · simp only [Dt.fine]
        intro c hc
        have := (hx.low c hc).2
        omega
      · have h1 := hx.few
        have h2 : x.length = x.cps.toList.length := by
          show x.cps.size = _
          rw [Array.length_toList]
        simp only [Dt.wt]
        omega
  obtain ⟨h1, h2, h3⟩ := hd
  refine Fine.shw (B := 100) (W := 1000) ⟨?_, ?_, ?_⟩ (by decide) (by decide)
  · unfold rgt truD
    simp only [Dt.fine, Dt.fines, List.range, List.range.loop, List.map]
    exact ⟨by simp, trivial, h1, trivial⟩
  · unfold rgt truD
    simp only [Dt.dp, Dt.dps, List.range, List.range.loop, List.map]
    omega
  · unfold rgt truD
    simp only [Dt.wt, Dt.wts, List.range, List.range.loop, List.map]
    omega
theorem due_at {i : Nat} {n : Int} {x : Str} (hi : i < 13) : atI [V.non, .int n, .str x, .str x] (if ((i : Nat) : Int) - 9 > 0 then ((i : Nat) : Int) - 9 else 0) = some (due i n x) := by
  have z : i = 0 ∨ i = 1 ∨ i = 2 ∨ i = 3 ∨ i = 4 ∨ i = 5 ∨ i = 6 ∨ i = 7 ∨ i = 8 ∨ i = 9 ∨ i = 10 ∨ i = 11 ∨ i = 12 := by omega
  rcases z with rfl | rfl | rfl | rfl | rfl | rfl | rfl | rfl | rfl | rfl | rfl | rfl | rfl <;> rfl
section
variable {P : Program} {w : World} {K : PySem.W.Frag} {mg : Str → Option Value} {base : Heap} {C : Nat → Addr} {cK : Addr}
/-- the same, both at once -/
def spRaisedU (C : Nat → Addr) : Sp := fun vs H Q E => ∃ (i : Nat) (z : Str) (n : Int) (x : Str), vs = [.int (i : Nat), .str z, .int n, .str x] ∧ i < 13 ∧ 0 ≤ n ∧ n ≤ 3 ∧ Nm x ∧
  ∀ (d : Option Addr) (G : Hp), Same H G → Ksi.Xd d G → (10 ≤ i → ∃ b, d = some b ∧ G b = some (.xd [(fld i, due i n x)])) → E (.ref (C i)) d G
theorem raisedU {f : Addr} {fd : FuncData} {k : Nat} (G : FnOk P w K mg base (L2.CX P w) k f fd psRaised (spRaised C)) : FnOk P w K mg base (L2.CX P w) k f fd psRaised (spRaisedU C) := by
  refine G.imp fun vs H Q E h => ?_
  obtain ⟨i, z, n, x, rfl, hi, n0, n3, hx, q⟩ := h
  refine ⟨i, z, n, x, rfl, hi, n0, n3, ?_, fun h G s => q none G s Ksi.xdNone (fun z => by omega), fun h b G s _ e => q (some b) G s (fun c e2 => ?_) (fun _ => ⟨b, rfl, e⟩)⟩
  · have h1 := hx.few
    show x.cps.size ≤ 8
    rw [← Array.length_toList]
    exact h1
  · cases e2
    exact ⟨_, e⟩
abbrev nRight : List Str := ["_law_way", "_law_text", "_law_number", "_law_name", "_law_found", "e", "_law_due", "_law_k"]
theorem scRight : FnScope nRight psRaised (defScope tLRight) := ⟨rfl, rfl, rfl, by decide +kernel, rfl, by decide +kernel, by decide +kernel⟩
def spRight : Sp := fun vs H Q _ => ∃ (i : Nat) (z : Str) (n : Int) (x : Str), vs = [.int (i : Nat), .str z, .int n, .str x] ∧ i < 13 ∧ 0 ≤ n ∧ n ≤ 3 ∧ Nm x ∧ ∀ G : Hp, Same H G → Q (.bl true) G
theorem okRight {f fR fK fF : Addr} {fd fdR fdK fdF : FuncData} {k : Nat} (F : Fun K "_law_right" "_law_right" tLRight f fd) (cs : Cs K mg C cK)
    (GR : FnOk P w K mg base (L2.CX P w) k fR fdR psRaised (spRaisedU C)) (bR : Binds K fdR psRaised []) (gR : mg "_law_raised" = some (.ref fR)) (kR : PySem.W.keepIn K (.ref fR) = true)
    (GK : Kx8.FnX P w K mg base CX0 k fK fdK ["_law_error"] (spKinds C)) (bK : Binds K fdK ["_law_error"] []) (gK : mg "_law_kinds" = some (.ref fK)) (kK : PySem.W.keepIn K (.ref fK) = true)
    (GF : Kx8.FnX P w K mg base CX0 k fF fdF psField (spField C)) (bF : Binds K fdF psField []) (gF : mg "_law_field" = some (.ref fF)) (kF : PySem.W.keepIn K (.ref fF) = true)
    (mi : mg "isinstance" = none) (mv : mg "ValueError" = none) (mm : mg "max" = none) (mr : mg "range" = none) (mp : mg "repr" = none) : FnG P w K mg base CX0 (k + 1) f fd psRaised spRight := by
  refine okG F scRight (fun vs H Q E h => ?_) (fun cdv A outer s H vs Q E still hr h => ?_)
  · obtain ⟨_, _, _, _, rfl, _⟩ := h
    rfl
  obtain ⟨i, z, n, x, rfl, hi, n0, n3, hx, q⟩ := h
  have hu : (cxOf CX0 P w K mg base nRight "_law_right" (defScope tLRight) f cdv A outer s H E).nox.A.units + (8 + 1) < cLine := by
    have := hr.un
    show (A.deeper _).units + 9 < cLine
    omega
  refine ⟨_, pss_cons (ps_set (i := 4) scRight.nd rfl (.inl rfl) pe_non)
    (pss_cons (ps_try_as (i := 5) (c := .ref cK) rfl rfl scRight.nd rfl rfl ⟨rfl, by decide, .inl cs.gK⟩ takes0
      (fun W pn xe tk _ => pss_one (ps_expr (pe_callS GR hr (by rfl) gR kR bR (fun σ => passAt tk σ) (pa_cons (pv 0) (pa_cons (pv 1) (pa_cons (pv 2) (pa_cons (pv 3) pa_nil)))))))
      (ts := fun a cls d => tAsg (fun σ H Q => ∃ i n x, σ[5]? = some (some (.ref a)) ∧ σ[0]? = some (some (.int ((i : Nat) : Int))) ∧ i < 13 ∧ cls = .ref (C i) ∧ Ksi.Xd d H ∧ (10 ≤ i → ∃ b, d = some b ∧ H b = some (.xd [(fld i, due i n x)])) ∧
        ∀ (t l : Addr) (G : Hp), Same H G → G l = some (.lst (tru i)) → G t = some (.tup [.ref l, .bl true, due i n x]) → Q (.ref t) G) (gName 4))
      (fun a oe cls d pn hz hf => pss_one (ps_set (i := 4) scRight.nd rfl (.inl rfl) (Ki.weak (pe_tup (pa_cons (Kx8.pe_callX (p := (a, oe)) (E := fun _ => E0) GK ⟨hr.dp, hr.un⟩ List.mem_cons_self (by rfl) gK kK bK (fun _ _ _ _ _ _ _ c => False.elim c) (pa_cons (pv 5) pa_nil))
          (pa_cons (pe_callB (Ksi.call_isDR K rfl List.mem_cons_self hz hf) (by rfl) mi PyProof.Rows.boot_isinstance (pa_cons (pv 5) (pa_cons (pe_bltn (v := .ty "ValueError") (by rfl) mv (by decide +kernel) rfl) pa_nil)))
          (pa_cons (Kx8.pe_callX (p := (a, oe)) (E := fun _ => E0) GF ⟨hr.dp, hr.un⟩ List.mem_cons_self (by rfl) gF kF bF (fun _ _ _ _ _ _ _ c => False.elim c) (pa_cons (pv 5) (pa_cons (pv 0) pa_nil))) pa_nil)))) (fun σ H Q z => by
        obtain ⟨i, n, x, z1, z0, hi, rfl, xd, hd, z2⟩ := z
        refine ⟨_, z1, rfl, i, d, hi, hz, hf, xd, fun l G sG nl gl => ?_⟩
        refine ⟨_, z1, C i, rfl, cs.ec i hi, xd.same sG, _, _, true, rfl, (fun u h => h), cs.nv i hi, ?_⟩
        refine ⟨_, z1, _, z0, i, d, n, x, rfl, hi, hz, hf, (fun h => ?_), (by show 3 ≤ sizeLine; decide), fun t nt => z2 t l _ (sPut sG (bkS sG nt)) (by rw [upd_ne (ne_of_none gl nt)]; exact gl) upd_same⟩
        obtain ⟨b, e, hb⟩ := hd h
        exact ⟨b, e, sG _ _ hb⟩)))))
    (pss_cons (ps_set (i := 6) scRight.nd rfl (.inl rfl) (pe_ix ix_list (pe_lst (pa_cons pe_non (pa_cons (pv 2) (pa_cons (pv 3) (pa_cons (pv 3) pa_nil))))) (pe_callB (call_max2 rfl) (by rfl) mm (by decide +kernel) (pa_cons pe_int (pa_cons (pe_op op_sub (pv 0) pe_int) pa_nil))) (fun _ _ => rfl)))
    (pss_one (ps_ret (pe_and (pe_cmpR op_notN (pv 4) pe_non (nomark _)) (pe_one (pe_cmpR op_eq (pe_callB (call_showU (n := 8) still hu) (by rfl) mp PyProof.Rows.boot_repr (pa_cons (pv 4) pa_nil))
      (pe_callB (call_showU (n := 8) still hu) (by rfl) mp PyProof.Rows.boot_repr (pa_cons (pe_tup (pa_cons (pe_lc (own := [("_law_k", 7)]) (g := gName 7) (by rfl) scRight.nd (pi_range1 (by rfl) mr (pa_cons pe_int pa_nil)) (blkOk_by (own := [("_law_k", 7)]) (N := nRight) (sc := defScope tLRight) (by decide +kernel))
        (fun _ _ _ _ _ => pg_name (i := 7) scRight.nd rfl (.inl rfl)) (fun _ _ _ _ _ => pts_nil) (fun _ _ _ _ _ => pe_cmpR op_eq (pv 7) (pv 0) (nomark _))) (pa_cons pe_bl (pa_cons (pv 6) pa_nil)))) pa_nil)) (nomark _)))))))), ?_⟩
  refine ⟨_, rfl, _, rfl, _, rfl, _, rfl, i, z, n, x, rfl, hi, n0, n3, hx, fun d G sG xd hd => ⟨true, cs.eP i hi, fun _ a ha => ⟨i, n, x, rfl, rfl, hi, rfl, xd, hd, fun t l G1 s1 gl gt => ?_⟩, fun q => nomatch q⟩⟩
  refine ⟨_, rfl, _, rfl, _, rfl, (by show 4 ≤ sizeLine; decide), fun p np => ?_⟩
  have s2 := newS (o := .lst [V.non, .int n, .str x, .str x]) np
  have g2 : (upd G1 p (.lst [V.non, .int n, .str x, .str x])) p = some (.lst [V.non, .int n, .str x, .str x]) := upd_same
  generalize upd G1 p (.lst [V.non, .int n, .str x, .str x]) = G2 at s2 g2 ⊢
  refine ⟨_, rfl, _, _, rfl, rfl, _, _, rfl, p, _, _, _, rfl, rfl, .inl (.inl g2), due_at hi, ?_⟩
  refine ⟨_, rfl, rfl, _, rfl, ite2 (fun _ => ?_) (fun e => absurd (by rw [decide_eq_false (fun z => V.noConfusion z)]; rfl) e)⟩
  have gt2 := s2 _ _ gt
  have gl2 := s2 _ _ gl
  have sH : Same H G2 := (sG.trans s1).trans s2
  refine ⟨_, rfl, _, rgt i n x, rfl, .tup gt2 (.cons (.lst trivial gl2 (truD_at i _)) (.cons (.bl true) (.cons (dueD_at i n x) .nil))), rgt_shw n0 n3 hx, ?_⟩
  refine ⟨13, rfl, by decide, by decide, fun W nW => lc_range (lo := 0) (n := 13) (fun k G => Same G2 G ∧ G W = some (.lst ((List.range k).map fun j => V.bl (decide (j = i))))) ⟨newS nW, upd_same⟩ (fun k G hk z => ?_) (fun G z => ?_)⟩
  · obtain ⟨sg, gW⟩ := z
    have e : decide (V.int (0 + (k : Int)) = V.int (i : Int)) = decide (k = i) := by
      by_cases h : k = i
      · rw [h, decide_eq_true rfl]
        exact decide_eq_true (by rw [Int.zero_add])
      · rw [decide_eq_false h]
        exact decide_eq_false (fun z => h (by injection z with z; omega))
    refine ⟨rfl, _, rfl, _, rfl, rfl, _, gW, ?_, sPut sg nW, ?_⟩
    · rw [List.length_map, List.length_range]
      exact small1000 (by omega)
    · rw [upd_same, e, List.range_succ, List.map_append]
      rfl
  · obtain ⟨sg, gW⟩ := z
    refine ⟨_, rfl, (by show 3 ≤ sizeLine; decide), fun t2 nt2 => ⟨_, rgt i n x, rfl, .tup upd_same (.cons (.lst trivial (by rw [upd_ne (ne_of_none gW nt2)]; exact gW) (truD_at i _)) (.cons (.bl true) (.cons (dueD_at i n x) .nil))), rgt_shw n0 n3 hx, rfl, ?_⟩⟩
    have e : (V.bl (decide (V.str (rgt i n x).toP.shown = V.str (rgt i n x).toP.shown))) = .bl true := by rw [decide_eq_true rfl]
    refine (congrArg (fun v => Q v _) e).mpr (q _ (sPut (sH.trans sg) (bkS (sH.trans sg) nt2)))
end
end Kq

/-! worths_of where there are too many; law -/
namespace Kq
open PySem PySem.Spec PyProof.Rows L2 Kf Kg Kv GxR Kk
abbrev tWorths : Stmt := tp 20
abbrev tLaw : Stmt := tp 39
section
variable {P : Program} {w : World} {K : PySem.W.Frag} {mg : Str → Option Value} {base : Heap} {C : Nat → Addr} {cK : Addr} {uM : Value}
theorem noFn {CX : CXT} {k : Nat} {f : Addr} {fd : FuncData} {ps : List Str} {sp : Sp} (h : ∀ vs H Q E, ¬ sp vs H Q E) : FnOk P w K mg base CX k f fd ps sp :=
  ⟨fun vs H Q E z => (h vs H Q E z).elim, fun _ _ _ _ _ _ _ _ _ _ _ _ _ z => (h _ _ _ _ z).elim⟩
theorem okMany {f fC fT fL : Addr} {fd fdC fdT fdL : FuncData} (F : Fun K "many_worths" "many_worths" tMany f fd) (bF : Binds K fd psMany []) (gF : mg "many_worths" = some (.ref f))
    (GC : ∀ n, FnOk P w K mg base CX0 (n + 1) fC fdC ["many"] spCut) (bC : Binds K fdC ["many"] []) (gC : mg "cut" = some (.ref fC)) (kC : PySem.W.keepIn K (.ref fC) = true)
    (GT : ∀ n, FnOk P w K mg base CX0 (n + 1) fT fdT ["sizes", "name"] spThings) (bT : Binds K fdT ["sizes", "name"] []) (gT : mg "things_of" = some (.ref fT)) (kT : PySem.W.keepIn K (.ref fT) = true)
    (GL : ∀ n, FnOk P w K mg base CX0 (n + 2) fL fdL ["many", "bound"] spManyL) (bL : Binds K fdL ["many", "bound"] []) (gL : mg "many_lists" = some (.ref fL)) (kL : PySem.W.keepIn K (.ref fL) = true) :
    ∀ n, FnOk P w K mg base CX0 (n + 2) f fd psMany (spMany n)
  | 0 => noFn fun vs H Q E h => by
    obtain ⟨vk, p, t, sz, b, _, hn, _⟩ := h
    omega
  | n + 1 => okMany1 F bF gF (GC (n + 1)) bC gC kC (GT (n + 1)) bT gT kT (GL n) bL gL kL (okMany F bF gF GC bC gC kC GT bT gT kT GL bL gL kL n)
theorem scWorths : FnScope psMany psMany (defScope tWorths) := ⟨rfl, rfl, rfl, by decide +kernel, rfl, by decide +kernel, by decide +kernel⟩
def spWorths (C : Nat → Addr) (n : Nat) : Sp := fun vs H Q E => ∃ (vk : V) (p : Addr) (t : Kd) (sz : List (Str × Int)) (b : Nat), vs = [vk, .ref p, .int (b : Nat)] ∧ t.dp + 1 ≤ n ∧ t.data = true ∧ Rp H t vk ∧ Sz H p sz ∧ SzB sz ∧ b ≤ 3 ∧
  300 < mny sz b t ∧ ∀ G : Hp, Same H G → E (.ref (C 0)) none G
theorem okWorths {f fM : Addr} {fd fdM : FuncData} {n k : Nat} (F : Fun K "worths_of" "worths_of" tWorths f fd) (cs : Cs K mg C cK)
    (GM : FnOk P w K mg base CX0 k fM fdM psMany (spMany n)) (bM : Binds K fdM psMany []) (gM : mg "many_worths" = some (.ref fM)) (kM : PySem.W.keepIn K (.ref fM) = true)
    (gO : mg "MOST" = some uM) (rM : RelV (.int 300) uM) : FnOk P w K mg base (L2.CX P w) (k + 1) f fd psMany (spWorths C n) := by
  refine F.okX scWorths (fun vs H Q E h => ?_) (fun cdv A outer s H vs Q E hr h => ?_)
  · obtain ⟨vk, p, t, sz, b, rfl, _⟩ := h
    rfl
  obtain ⟨vk, p, t, sz, b, rfl, hn, hdt, rk, hz, hB, hb, hm, q⟩ := h
  refine ⟨_, pss_cons (ps_if (pt_cmpR op_gt (pe_call GM hr (by rfl) gM kM bM .nil pass0 (pa_cons (pv 0) (pa_cons (pv 1) (pa_cons (pv 2) pa_nil)))) (pe_glob (v := .int 300) (by rfl) gO rM) (nomark _))
      (pss_one (ps_raise rfl (takes_of rfl rfl rfl rfl) (SkE.pmk_own1 PySem.F.excBase_ValueError (cs.xP 0 (by decide)) cs.m0 (cs.kP 0 (by decide)) (raises_own (cs.bP 0 (by decide)) (cs.tP 0 (by decide))) rfl (pe_joined (.cons pe_str (.cons (pe_fmt (pe_glob (v := .int 300) (by rfl) gO rM)) (.cons pe_str .nil))))))) pss_nil)
    pss_no, ?_⟩
  refine ⟨_, rfl, _, rfl, _, rfl, vk, p, t, sz, b, rfl, hn, hdt, rk, hz, hB, hb, fun G sG => ?_⟩
  have hi300 : (300 : Int) < ((cutN (mny sz b t) : Nat) : Int) := by
    unfold cutN
    omega
  refine ⟨_, _, rfl, rfl, _, rfl, ite2 (fun e => ?_) (fun e => absurd (decide_eq_true hi300) e)⟩
  exact ⟨_, rfl, by decide +kernel, .inr ⟨_, rfl, by decide, _, rfl, by decide +kernel, _, rfl, by decide +kernel, q _ sG⟩⟩
/-! law -/
abbrev nLaw : List Str := ["_law_script", "_law_deck_here", "_law_text", "_law_number", "_law_names_here", "_law_way", "_law_found", "e", "_law_k"]
theorem scLaw : FnScope nLaw ["_law_script"] (defScope tLaw) := ⟨rfl, rfl, rfl, by decide +kernel, rfl, by decide +kernel, by decide +kernel⟩
def spLaw (K : PySem.W.Frag) : Sp := fun vs H Q _ => ∃ (a : Addr) (ns : List Int), vs = [.ref a] ∧ SqL K H a (ns.map V.int) ∧ ns.length ≤ 63 ∧ ∀ G : Hp, Q (.bl true) G
theorem sum8 : ∀ {xs : List Str}, (∀ x ∈ xs, Nm x) → (xs.map (·.length)).sum ≤ 8 * xs.length
  | [], _ => Nat.le_refl _
  | x :: xs, h => by
    have h1 := sum8 (fun y hy => h y (List.mem_cons_of_mem _ hy))
    have h2 := (h x List.mem_cons_self).few
    have h3 : x.length = x.cps.toList.length := by
      show x.cps.size = _
      rw [Array.length_toList]
    rw [List.map_cons, List.sum_cons, List.length_cons]
    omega
theorem dpBls {H : Hp} : ∀ l : List Bool, DpAll K H (l.map V.bl) (l.map PyData.bool)
  | [] => .nil
  | _ :: l => .cons (.bl _) (dpBls l)
def bs0 : List Bool := (List.range 13).map fun j => decide (j = 0)
def kd0 : Kd := .lst (.pair .num .tru)
theorem okLaw {f f1 f3 f4 f6 f7 f8 : Addr} {fd fd1 fd3 fd4 fd6 fd7 fd8 : FuncData} {k : Nat} (F : Fun K "law" "law" tLaw f fd) (cs : Cs K mg C cK)
    (G1 : FnOk P w K mg base CX0 k f1 fd1 ["_law_script"] (spDeck K)) (b1 : Binds K fd1 ["_law_script"] []) (g1 : mg "_law_deck" = some (.ref f1)) (k1 : PySem.W.keepIn K (.ref f1) = true)
    (G3 : FnOk P w K mg base CX0 k f3 fd3 ["_law_deck_here", "_law_most"] spDraw) (b3 : Binds K fd3 ["_law_deck_here", "_law_most"] []) (g3 : mg "_law_draw" = some (.ref f3)) (k3 : PySem.W.keepIn K (.ref f3) = true)
    (G4 : FnOk P w K mg base CX0 k f4 fd4 ["_law_deck_here", "_law_many"] spNames) (b4 : Binds K fd4 ["_law_deck_here", "_law_many"] []) (g4 : mg "_law_names" = some (.ref f4)) (k4 : PySem.W.keepIn K (.ref f4) = true)
    (G6 : FnG P w K mg base CX0 k f6 fd6 psRaised spRight) (b6 : Binds K fd6 psRaised []) (g6 : mg "_law_right" = some (.ref f6)) (k6 : PySem.W.keepIn K (.ref f6) = true)
    (G7 : FnOk P w K mg base (L2.CX P w) k f7 fd7 psMany (spWorths C 3)) (b7 : Binds K fd7 psMany []) (g7 : mg "worths_of" = some (.ref f7)) (k7 : PySem.W.keepIn K (.ref f7) = true)
    (G8 : Kx8.FnX P w K mg base CX0 k f8 fd8 ["_law_error"] (spKinds C)) (b8 : Binds K fd8 ["_law_error"] []) (g8 : mg "_law_kinds" = some (.ref f8)) (k8 : PySem.W.keepIn K (.ref f8) = true)
    (mr : mg "range" = none) : FnG P w K mg base CX0 (k + 1) f fd ["_law_script"] (spLaw K) := by
  refine okG F scLaw (fun vs H Q E h => ?_) (fun cdv A outer s H vs Q E still hr h => ?_)
  · obtain ⟨a, ns, rfl, _⟩ := h
    rfl
  obtain ⟨a, ns, rfl, hS, hl, q⟩ := h
  refine ⟨_, pss_cons (ps_set (i := 1) scLaw.nd rfl (.inl rfl) (pe_call G1 hr (by rfl) g1 k1 b1 .nil pass0 (pa_cons (pv 0) pa_nil)))
    (pss_cons (ps_set (i := 2) scLaw.nd rfl (.inl rfl) (pe_join pe_str (pe_call G4 hr (by rfl) g4 k4 b4 .nil pass0 (pa_cons (pv 1) (pa_cons (pe_call G3 hr (by rfl) g3 k3 b3 .nil pass0 (pa_cons (pv 1) (pa_cons pe_int pa_nil))) pa_nil)))))
    (pss_cons (ps_set (i := 3) scLaw.nd rfl (.inl rfl) (pe_call G3 hr (by rfl) g3 k3 b3 .nil pass0 (pa_cons (pv 1) (pa_cons pe_int pa_nil))))
    (pss_cons (ps_set (i := 4) scLaw.nd rfl (.inl rfl) (pe_call G4 hr (by rfl) g4 k4 b4 .nil pass0 (pa_cons (pv 1) (pa_cons pe_int pa_nil))))
    (pss_cons (ps_for PassesOwn.never rfl (pi_range1 (by rfl) mr (pa_cons pe_int pa_nil)) (pg_name (i := 5) scLaw.nd rfl (.inl rfl))
      (pss_one (ps_if (pt_not (pt_val (pe_callG G6 still hr (by rfl) g6 k6 b6 .nil pass0 (pa_cons (pv 5) (pa_cons (pv 2) (pa_cons (pv 3) (pa_cons (pe_ix ix_list (pv 4) (pv 5) (fun _ _ => rfl)) pa_nil))))))) pss_no pss_nil)))
    (pss_cons (ps_set (i := 6) scLaw.nd rfl (.inl rfl) pe_non)
    (pss_cons (ps_try_as (i := 7) (c := .ref cK) rfl rfl scLaw.nd rfl rfl ⟨rfl, by decide, .inl cs.gK⟩ takes0
      (fun W pn xe tk _ => pss_one (ps_set (i := 6) scLaw.nd rfl (.inl rfl) (pe_callS G7 hr (by rfl) g7 k7 b7 (fun σ => passAt tk σ) (pa_cons (pe_tup (pa_cons pe_str (pa_cons (pe_tup (pa_cons pe_str (pa_cons (pe_tup (pa_cons pe_str pa_nil)) (pa_cons (pe_tup (pa_cons pe_str pa_nil)) pa_nil)))) pa_nil))) (pa_cons Kt.pe_tup0 (pa_cons pe_int pa_nil))))))
      (ts := fun a cls d => tAsg (fun σ H Q => σ[7]? = some (some (.ref a)) ∧ cls = .ref (C 0) ∧ d = none ∧ ∀ (l : Addr) (G : Hp), Same H G → G l = some (.lst (tru 0)) → Q (.ref l) G) (gName 6))
      (fun a oe cls d pn hz hf => pss_one (ps_set (i := 6) scLaw.nd rfl (.inl rfl) (Ki.weak (Kx8.pe_callX (p := (a, oe)) (E := fun _ => E0) G8 ⟨hr.dp, hr.un⟩ List.mem_cons_self (by rfl) g8 k8 b8 (fun _ _ _ _ _ _ _ c => False.elim c) (pa_cons (pv 7) pa_nil)) (fun σ H Q z => by
        obtain ⟨z1, rfl, rfl, z2⟩ := z
        exact ⟨_, z1, rfl, 0, none, by decide, hz, hf, Ksi.xdNone, fun l G sG _ gl => z2 l G sG gl⟩)))))
    (pss_one (ps_ret (pe_cmpR (op_eqD hr.units) (pv 6) (pe_lc (own := [("_law_k", 8)]) (g := gName 8) (by rfl) scLaw.nd (pi_range1 (by rfl) mr (pa_cons pe_int pa_nil)) (blkOk_by (own := [("_law_k", 8)]) (N := nLaw) (sc := defScope tLaw) (by decide +kernel))
        (fun _ _ _ _ _ => pg_name (i := 8) scLaw.nd rfl (.inl rfl)) (fun _ _ _ _ _ => pts_nil) (fun _ _ _ _ _ => pe_cmpR op_eq (pv 8) pe_int (nomark _))) (nomark _)))))))))), ?_⟩
  refine ⟨_, rfl, a, ns, rfl, hS, hl, fun d c A1 s1 dk1 => ?_⟩
  refine ⟨⟨_, rfl⟩, _, rfl, _, rfl, d, c, 4, rfl, dk1, by decide, by decide, fun r2 A2 a2 b2 kp2 dk2 => ?_⟩
  refine ⟨d, c, _, rfl, dk2, a2, by omega, fun l xs A3 kp3 dk3 _ gl lx nx _ => ?_⟩
  refine ⟨_, _, xs, rfl, rfl, .inl (.inl (.inl gl)), ?_, ?_⟩
  · have := sum8 nx
    show (xs.map (·.length)).sum + xs.length * 1 ≤ _
    omega
  refine ⟨_, rfl, d, c, 4, rfl, dk3, by decide, by decide, fun n A4 n0 n1 kp4 dk4 => ?_⟩
  refine ⟨_, rfl, d, c, 13, rfl, dk4, by decide, by decide, fun l2 ys A5 kp5 dk5 _ gl2 ly ny _ => ?_⟩
  refine ⟨13, rfl, by decide, by decide, for_range (lo := 0) (n := 13) (fun i σ G => ∃ y5 : Option V, σ = [some (.ref a), some (.ref d), some (.str (Txt.join (Str.ofString " ") xs)), some (.int n), some (.ref l2), y5, none, none, none] ∧ G l2 = some (.lst (ys.map V.str)))
    ⟨_, rfl, gl2⟩ (fun i σ G hi z => ?_) (fun σ G z => ?_)⟩
  · obtain ⟨y5, rfl, gG⟩ := z
    have hl13 : ys.length = 13 := ly
    obtain ⟨y, hy⟩ : ∃ y, ys[i]? = some y := ⟨_, List.getElem?_eq_getElem (by omega)⟩
    have e0 : (0 : Int) + (i : Int) = ((i : Nat) : Int) := Int.zero_add _
    refine ⟨_, rfl, _, rfl, _, rfl, _, rfl, _, rfl, l2, _, _, V.str y, rfl, rfl, .inl (.inl gG), ?_, i, Txt.join (Str.ofString " ") xs, n, y, (by rw [e0]; rfl), hi, n0, by omega, ny y (List.mem_of_getElem? hy), fun G2 s2 => ⟨_, rfl, iteF ⟨_, rfl, s2 _ _ gG⟩⟩⟩
    rw [e0]
    exact atI_nat (by rw [List.getElem?_map, hy]; rfl)
  · obtain ⟨y5, rfl, gG⟩ := z
    refine ⟨(by show 1 ≤ sizeLine; decide), fun p1 m1 => ?_⟩
    have g1 : (upd G p1 (.tup [V.str "num"])) p1 = some (.tup [V.str "num"]) := upd_same
    generalize upd G p1 (.tup [V.str "num"]) = H1 at g1 ⊢
    refine ⟨(by show 1 ≤ sizeLine; decide), fun p2 m2 => ?_⟩
    have g1 := newS (o := .tup [V.str "truth"]) m2 _ _ g1
    have g2 : (upd H1 p2 (.tup [V.str "truth"])) p2 = some (.tup [V.str "truth"]) := upd_same
    generalize upd H1 p2 (.tup [V.str "truth"]) = H2 at g1 g2 ⊢
    refine ⟨(by show 3 ≤ sizeLine; decide), fun p3 m3 => ?_⟩
    have g1 := newS (o := .tup [V.str "pair", .ref p1, .ref p2]) m3 _ _ g1
    have g2 := newS (o := .tup [V.str "pair", .ref p1, .ref p2]) m3 _ _ g2
    have g3 : (upd H2 p3 (.tup [V.str "pair", .ref p1, .ref p2])) p3 = some (.tup [V.str "pair", .ref p1, .ref p2]) := upd_same
    generalize upd H2 p3 (.tup [V.str "pair", .ref p1, .ref p2]) = H3 at g1 g2 g3 ⊢
    refine ⟨(by show 2 ≤ sizeLine; decide), fun p4 m4 => ?_⟩
    have g1 := newS (o := .tup [V.str "list", .ref p3]) m4 _ _ g1
    have g2 := newS (o := .tup [V.str "list", .ref p3]) m4 _ _ g2
    have g3 := newS (o := .tup [V.str "list", .ref p3]) m4 _ _ g3
    have g4 : (upd H3 p4 (.tup [V.str "list", .ref p3])) p4 = some (.tup [V.str "list", .ref p3]) := upd_same
    generalize upd H3 p4 (.tup [V.str "list", .ref p3]) = H4 at g1 g2 g3 g4 ⊢
    refine fun p5 o5 m5 hd hc => ?_
    have g1 := newS (o := .frz o5 (.tup [])) m5 _ _ g1
    have g2 := newS (o := .frz o5 (.tup [])) m5 _ _ g2
    have g3 := newS (o := .frz o5 (.tup [])) m5 _ _ g3
    have g4 := newS (o := .frz o5 (.tup [])) m5 _ _ g4
    refine ⟨.ref p4, p5, kd0, [], 3, rfl, by decide, rfl, ⟨p4, .ref p3, rfl, g4, p3, .ref p1, .ref p2, rfl, g3, ⟨p1, rfl, g1⟩, ⟨p2, rfl, g2⟩⟩, ⟨o5, [], upd_same, hd, hc, .nil⟩, ⟨by simp, by simp, by simp⟩, by decide, by decide +kernel, fun G2 s2 => ⟨true, cs.eP 0 (by decide), fun _ a ha => ⟨rfl, rfl, rfl, fun l3 G3 s3 gl3 => ?_⟩, fun q => nomatch q⟩⟩
    clear g1 g2 g3 g4
    refine ⟨_, rfl, 13, rfl, by decide, by decide, fun W nW => lc_range (lo := 0) (n := 13) (fun k G => Same G3 G ∧ G W = some (.lst ((List.range k).map fun j => V.bl (decide (j = 0))))) ⟨newS nW, upd_same⟩ (fun k G hk z => ?_) (fun G z => ?_)⟩
    · obtain ⟨sg, gW⟩ := z
      have e : decide (V.int (0 + (k : Int)) = V.int 0) = decide (k = 0) := by
        by_cases h : k = 0
        · rw [h, decide_eq_true rfl]
          exact decide_eq_true rfl
        · rw [decide_eq_false h]
          exact decide_eq_false (fun z => h (by injection z with z; omega))
      refine ⟨rfl, _, rfl, rfl, _, gW, ?_, sPut sg nW, ?_⟩
      · rw [List.length_map, List.length_range]
        exact small1000 (by omega)
      · rw [upd_same, e, List.range_succ, List.map_append]
        rfl
    · obtain ⟨sg, gW⟩ := z
      have e : PyData.eqv (.list (bs0.map PyData.bool)) (.list (bs0.map PyData.bool)) = true := by decide +kernel
      refine ⟨.list (bs0.map PyData.bool), .list (bs0.map PyData.bool), .lst (xs := bs0.map V.bl) (.inl (.inl (sg _ _ gl3))) (dpBls bs0), .lst (xs := bs0.map V.bl) (.inl (.inl gW)) (dpBls bs0), by decide +kernel, by decide +kernel, ?_⟩
      rw [e]
      exact q G
end
end Kq

/-! the end where some of the defs hold generator expressions -/
namespace Kg
open PySem PySem.Spec PyProof.Rows L2 LamX
/-- the def's code object, its table: empty -/
def TabOf (mg : Str → Option Value) (h : Heap) (x : Str) : Prop := ∃ (a : Addr) (o : Obj) (fd : FuncData) (c p : Addr), mg x = some (.ref a) ∧ h.get? a = some o ∧ o.data = .func fd ∧ fd.code = .ref c ∧ h.IsCode c p #[] ∧ h.TableAt c p #[]
theorem walk_ofNs {l : PySem.W.OpenLaw} {n k : Nat} {q : Program} {loose : List Str} {XP : (Str → Option Value) → Heap → Prop} {YP : World → Heap → Prop} {d : DefRec} {K : Params → PySem.W.Frag} {CX : World → CXT} {x : Str} (names : List Str)
    (hn : l.most = some n) (hn2 : n ≤ sizeLine) (hdf : d.params.defaults = []) (hr : Room k callerA) (hrec : (names.all fun y => (recsOf q).any fun e => e.name == y) = true) (hY : ∀ (w : World) (h : Heap), YP w h → (K w.params).In h)
    (F : ∀ (w : World) (mg : Str → Option Value) (fa : Addr) (h : Heap), YP w h → (K w.params).In h → h.Ns mainGlobals mg → mg d.name = some (.ref fa) → (∀ y ∈ names, TabOf mg h y) → LawAtS l w (K w.params) (CX w) k n x mg fa h)
    (hCX : ∀ (w : World) (H : Hp) (s : Shared) (e : Value) (s' : Shared), CX w [] H s (fun _ _ _ => False) e s' → False) :
    PySem.W.WalkO q loose XP YP l.row.toRowW d [] (fun f vs => PySem.call f vs) := by
  refine Att.attach_callB hn hdf fun w s₀ s₁ mg mb fa o pm cd doc a vs ns G Y ho hd hcd hmg hobj hints hlen hbits hg => ?_
  have KX := hY w _ Y
  have own : ∀ y ∈ names, TabOf mg s₁.heap y := fun y hy => by
    obtain ⟨dL, hm, hn1⟩ := List.any_eq_true.mp (List.all_eq_true.mp hrec y hy)
    have hn2 : dL.name = y := beq_iff_eq.mp hn1
    obtain ⟨a', o', fd', c', P', h1, h2, h3, h4, h5, h6⟩ := G.T.tab dL hm
    exact ⟨a', o', fd', c', P', by rw [← hn2]; exact h1, h2, h3, h4, h5, h6⟩
  obtain ⟨fd, cs, sp, hT, nT, C, hb, hsp, hF⟩ := F w mg fa _ Y KX G.T.g hmg own
  exact law_callTs KX G.T.g G.T.b G.T.builtins G.T.nolimit hg hT nT C G.T.bmain hobj hints (Nat.le_trans hlen hn2) hr hF hb (fun H hH hS => hsp H a ns hlen hbits hH hS) fun H e s' => hCX w H s₁ e s'
/-- such a def by what is written of it -/
theorem tabOf_at {K : PySem.W.Frag} {mg : Str → Option Value} {h : Heap} {x name qual : Str} {f c p : Addr} {params : Arguments} {body : List Stmt} {scope : Scope} {oc dV kV doc pm ct e : Value} {od an dd : Option Addr} {sl sl' : Array (Option Value)} {vs : Array Value} (X : K.In h) (T : TabOf mg h x) (g : mg x = some (.ref f))
    (l : K.lookup f = some ⟨oc, od, .func (PySem.W.fnOf name qual params body scope dV kV doc pm an (.ref c) ct), sl⟩) (t : K.lookup c = some ⟨e, dd, .fields vs, sl'⟩) (v : vs[11]? = some (.ref p)) :
    h.get? p = some { cls := .none, data := .fields #[] } ∧ PySem.W.CodeHd h c p := by
  obtain ⟨a', o', fd', c', P', h1, h2, h3, h4, h5, h6⟩ := T
  rw [g] at h1
  cases h1
  rw [X _ _ l] at h2
  cases h2
  cases h3
  cases h4
  obtain ⟨⟨oc', vc, e1, e2, e3, e4⟩, hP⟩ := id h6
  rw [X _ _ t] at e1
  cases e1
  cases e3
  rw [v] at e4
  cases e4
  exact ⟨hP, .of h5 h6⟩
end Kg

/-! classes held against one another; the three __init__ -/
namespace Kq
open PySem PySem.Spec PyProof.Rows L2 Kf Kg Kv GxR Kk NdefX
section
variable {K : PySem.W.Frag} {t : Value} {n C : Addr} {b : Bool}
theorem kit_self : PySem.W.kitOne K (.ref n) (.ref n) = some true := by
  unfold PySem.W.kitOne
  rw [if_pos (by simp)]
theorem kit_cl (iC : PySem.W.isClsIn K C = true) (tC : PySem.W.typeIn K (.ref C) = some (.type "type")) (s : PySem.W.subIn K t (.ref C) = some b) : PySem.W.kitCls K t (.ref C) = some b := by
  unfold PySem.W.isClsIn at iC
  show (if ((PySem.W.clsIn K C).isSome && PySem.W.typeIn K (.ref C) == some (.type "type")) = true then PySem.W.subIn K t (.ref C) else none) = _
  rw [if_pos (by rw [iC, tC]; simp)]
  exact s
theorem kit_no (ne : (Value.ref n == Value.ref C) = false) (iC : PySem.W.isClsIn K C = true) (tC : PySem.W.typeIn K (.ref C) = some (.type "type")) (s : PySem.W.subIn K (.ref n) (.ref C) = some false) : PySem.W.kitOne K (.ref n) (.ref C) = some false := by
  unfold PySem.W.kitOne
  rw [if_neg (by rw [ne]; exact Bool.false_ne_true)]
  exact kit_cl iC tC s
theorem kit_tyV (s : PySem.W.subIn K (.ref n) (.type "ValueError") = some true) : PySem.W.kitOne K (.ref n) (.type "ValueError") = some true := by
  unfold PySem.W.kitOne
  rw [if_neg (show ¬ (Value.ref n == Value.type "ValueError") = true from Bool.false_ne_true)]
  show (if PySem.W.kitMeta "ValueError" = true then PySem.W.subIn K (.ref n) (.type "ValueError") else none) = _
  rw [if_pos (by decide +kernel)]
  exact s
theorem any_no {c : Value} {r : List Value} (h : PySem.W.kitOne K t c = some false) (k : PySem.W.kitAny K t r = some false) : PySem.W.kitAny K t (c :: r) = some false := by
  unfold PySem.W.kitAny
  rw [h]
  exact k
theorem exm_yes {c : Value} (sB : PySem.W.subIn K (.ref C) (.type "BaseException") = some true) (iC : PySem.W.isClsIn K C = true) (tC : PySem.W.typeIn K (.ref C) = some (.type "type")) (s : PySem.W.subIn K c (.ref C) = some true) : PySem.W.exmOne K c (.ref C) = some true := by
  unfold PySem.W.exmOne
  rw [if_pos (by rw [sB]; simp)]
  exact kit_cl iC tC s
end
theorem all13 {p : Nat → Prop} (h0 : p 0) (h1 : p 1) (h2 : p 2) (h3 : p 3) (h4 : p 4) (h5 : p 5) (h6 : p 6) (h7 : p 7) (h8 : p 8) (h9 : p 9) (h10 : p 10) (h11 : p 11) (h12 : p 12) : ∀ i, i < 13 → p i
  | 0, _ => h0
  | 1, _ => h1
  | 2, _ => h2
  | 3, _ => h3
  | 4, _ => h4
  | 5, _ => h5
  | 6, _ => h6
  | 7, _ => h7
  | 8, _ => h8
  | 9, _ => h9
  | 10, _ => h10
  | 11, _ => h11
  | 12, _ => h12
  | n + 13, h => absurd h (by omega)
theorem all10 {p : Nat → Prop} (h0 : p 0) (h1 : p 1) (h2 : p 2) (h3 : p 3) (h4 : p 4) (h5 : p 5) (h6 : p 6) (h7 : p 7) (h8 : p 8) (h9 : p 9) : ∀ i, i < 10 → p i
  | 0, _ => h0
  | 1, _ => h1
  | 2, _ => h2
  | 3, _ => h3
  | 4, _ => h4
  | 5, _ => h5
  | 6, _ => h6
  | 7, _ => h7
  | 8, _ => h8
  | 9, _ => h9
  | n + 10, h => absurd h (by omega)
theorem all3 {p : Nat → Prop} (h0 : p 10) (h1 : p 11) (h2 : p 12) : ∀ i, i < 13 → 10 ≤ i → p i := fun i h1' h2' => by
  have z : i = 10 ∨ i = 11 ∨ i = 12 := by omega
  rcases z with rfl | rfl | rfl <;> assumption
theorem app_len (x y : Str) : (x ++ y).length = x.length + y.length := by
  have h := congrArg List.length (app_cps x y)
  rw [List.length_append, Array.length_toList, Array.length_toList, Array.length_toList] at h
  exact h
/-- the __init__ of the class at place i -/
def ini (i : Nat) : Stmt := (C8.clsBody (tp i)).getD 0 (.Pass ⟨0, 0, 0, 0⟩)
section
variable {P : Program} {w : World} {K : PySem.W.Frag} {mg : Str → Option Value} {base : Heap}
theorem ini12 {D cc cI fI : Addr} {doc pm ctv oc : Value} {od : Option Addr} {osl : Array (Option Value)} {k : Nat} (fdE : FuncData) (hfd : fdE = (NF.mk "__init__" "Unbounded.__init__" (defArgs (ini 12)) (defBody (ini 12)) (defScope (ini 12)) [(("__class__" : Str), cc)] cI).fd doc pm ctv) (lk : K.lookup fI = some (⟨oc, od, .func fdE, osl⟩ : Obj)) (hcd : PySem.W.codeIn K (.ref cI) "Unbounded.__init__" = true)
    (T : Ksi.SupC P K (NF.mk "__init__" "Unbounded.__init__" (defArgs (ini 12)) (defBody (ini 12)) (defScope (ini 12)) [(("__class__" : Str), cc)] cI) D "self") (mS : mg "super" = none) (hno : PySem.W.findIn K (.ref D) "argument" = some none) (hI : PySem.W.findIn K (.ref D) "__init__" = some (some (.ref fI))) (tI : PySem.W.typeIn K (.ref fI) = some (.type "function")) : Ini P w K mg base (k + 1) D "argument" "argument" := by
  subst hfd
  refine ⟨fI, _, hI, tI, Ksi.fn_sup (N := ["self", "argument", "__class__"]) (fld := "argument") lk hcd (nscope_by (show nscB ["self", "argument", "__class__"] ["self", "argument"] ["__class__"] (defScope (ini 12)) = true by decide +kernel)) T mS rfl (fun A outer s H E => ⟨_, pa_cons (pe_joined (.cons pe_str (.cons (pe_fmt (pv 1)) .nil))) pa_nil, fun a y H' hy ha Q hQ => ?_⟩) (fun A outer s H E => pss_one (ps_ost (pv 0) (pv 1))) hno (fun env => rfl) (fun env => ⟨_, rfl⟩) (fun env => rfl) (fun A outer s H E => rfl), .all fun us hl => match us, hl with | [_, _], _ => rfl⟩
  rcases hy with ⟨n, rfl, n0, n3⟩ | ⟨x, rfl, hx⟩
  · have z : n = 0 ∨ n = 1 ∨ n = 2 ∨ n = 3 := by omega
    rcases z with rfl | rfl | rfl | rfl <;> exact ⟨_, rfl, by decide +kernel, _, rfl, .inr ⟨_, rfl, by decide, _, rfl, by decide +kernel, hQ _ (by show 1 ≤ 1000; decide)⟩⟩
  · refine ⟨_, rfl, by decide +kernel, _, rfl, .inl ⟨x, rfl, sz (by omega), _, rfl, ?_, hQ _ (by show 1 ≤ 1000; decide)⟩⟩
    rw [app_len]
    exact sz (Nat.le_trans (Nat.add_le_add (show _ ≤ 100 by decide +kernel) hx) (by decide))
theorem ini13 {D cc cI fI : Addr} {doc pm ctv oc : Value} {od : Option Addr} {osl : Array (Option Value)} {k : Nat} (fdE : FuncData) (hfd : fdE = (NF.mk "__init__" "Broken.__init__" (defArgs (ini 13)) (defBody (ini 13)) (defScope (ini 13)) [(("__class__" : Str), cc)] cI).fd doc pm ctv) (lk : K.lookup fI = some (⟨oc, od, .func fdE, osl⟩ : Obj)) (hcd : PySem.W.codeIn K (.ref cI) "Broken.__init__" = true)
    (T : Ksi.SupC P K (NF.mk "__init__" "Broken.__init__" (defArgs (ini 13)) (defBody (ini 13)) (defScope (ini 13)) [(("__class__" : Str), cc)] cI) D "self") (mS : mg "super" = none) (hno : PySem.W.findIn K (.ref D) "name" = some none) (hI : PySem.W.findIn K (.ref D) "__init__" = some (some (.ref fI))) (tI : PySem.W.typeIn K (.ref fI) = some (.type "function")) : Ini P w K mg base (k + 1) D "name" "name" := by
  subst hfd
  refine ⟨fI, _, hI, tI, Ksi.fn_sup (N := ["self", "name", "__class__"]) (fld := "name") lk hcd (nscope_by (show nscB ["self", "name", "__class__"] ["self", "name"] ["__class__"] (defScope (ini 13)) = true by decide +kernel)) T mS rfl (fun A outer s H E => ⟨_, pa_cons (pe_joined (.cons (pe_fmt (pv 1)) (.cons pe_str .nil))) pa_nil, fun a y H' hy ha Q hQ => ?_⟩) (fun A outer s H E => pss_one (ps_ost (pv 0) (pv 1))) hno (fun env => rfl) (fun env => ⟨_, rfl⟩) (fun env => rfl) (fun A outer s H E => rfl), .all fun us hl => match us, hl with | [_, _], _ => rfl⟩
  rcases hy with ⟨n, rfl, n0, n3⟩ | ⟨x, rfl, hx⟩
  · have z : n = 0 ∨ n = 1 ∨ n = 2 ∨ n = 3 := by omega
    rcases z with rfl | rfl | rfl | rfl <;> exact ⟨_, rfl, .inr ⟨_, rfl, by decide, _, rfl, by decide +kernel, _, rfl, by decide +kernel, hQ _ (by show 1 ≤ 1000; decide)⟩⟩
  · refine ⟨_, rfl, .inl ⟨x, rfl, sz (by omega), _, rfl, ?_, _, rfl, ?_, hQ _ (by show 1 ≤ 1000; decide)⟩⟩
    · rw [app_len]
      exact sz (Nat.le_trans (Nat.add_le_add (show _ ≤ 100 by decide +kernel) hx) (by decide))
    · rw [app_len, app_len]
      exact sz (Nat.le_trans (Nat.add_le_add (Nat.add_le_add (show _ ≤ 100 by decide +kernel) hx) (show _ ≤ 100 by decide +kernel)) (by decide))
theorem ini14 {D cc cI fI : Addr} {doc pm ctv oc : Value} {od : Option Addr} {osl : Array (Option Value)} {k : Nat} (fdE : FuncData) (hfd : fdE = (NF.mk "__init__" "Used.__init__" (defArgs (ini 14)) (defBody (ini 14)) (defScope (ini 14)) [(("__class__" : Str), cc)] cI).fd doc pm ctv) (lk : K.lookup fI = some (⟨oc, od, .func fdE, osl⟩ : Obj)) (hcd : PySem.W.codeIn K (.ref cI) "Used.__init__" = true)
    (T : Ksi.SupC P K (NF.mk "__init__" "Used.__init__" (defArgs (ini 14)) (defBody (ini 14)) (defScope (ini 14)) [(("__class__" : Str), cc)] cI) D "self") (mS : mg "super" = none) (hno : PySem.W.findIn K (.ref D) "name" = some none) (hI : PySem.W.findIn K (.ref D) "__init__" = some (some (.ref fI))) (tI : PySem.W.typeIn K (.ref fI) = some (.type "function")) : Ini P w K mg base (k + 1) D "name" "name" := by
  subst hfd
  refine ⟨fI, _, hI, tI, Ksi.fn_sup (N := ["self", "name", "__class__"]) (fld := "name") lk hcd (nscope_by (show nscB ["self", "name", "__class__"] ["self", "name"] ["__class__"] (defScope (ini 14)) = true by decide +kernel)) T mS rfl (fun A outer s H E => ⟨_, pa_cons (pe_joined (.cons (pe_fmt (pv 1)) (.cons pe_str .nil))) pa_nil, fun a y H' hy ha Q hQ => ?_⟩) (fun A outer s H E => pss_one (ps_ost (pv 0) (pv 1))) hno (fun env => rfl) (fun env => ⟨_, rfl⟩) (fun env => rfl) (fun A outer s H E => rfl), .all fun us hl => match us, hl with | [_, _], _ => rfl⟩
  rcases hy with ⟨n, rfl, n0, n3⟩ | ⟨x, rfl, hx⟩
  · have z : n = 0 ∨ n = 1 ∨ n = 2 ∨ n = 3 := by omega
    rcases z with rfl | rfl | rfl | rfl <;> exact ⟨_, rfl, .inr ⟨_, rfl, by decide, _, rfl, by decide +kernel, _, rfl, by decide +kernel, hQ _ (by show 1 ≤ 1000; decide)⟩⟩
  · refine ⟨_, rfl, .inl ⟨x, rfl, sz (by omega), _, rfl, ?_, _, rfl, ?_, hQ _ (by show 1 ≤ 1000; decide)⟩⟩
    · rw [app_len]
      exact sz (Nat.le_trans (Nat.add_le_add (show _ ≤ 100 by decide +kernel) hx) (by decide))
    · rw [app_len, app_len]
      exact sz (Nat.le_trans (Nat.add_le_add (Nat.add_le_add (show _ ≤ 100 by decide +kernel) hx) (show _ ≤ 100 by decide +kernel)) (by decide))
end
end Kq

namespace Kq
open PySem PySem.Spec PyProof.Rows L2 Kf Kg Kv GxR Kk NdefX
theorem upOk {P : Program} {w : World} {K : PySem.W.Frag} {mg : Str → Option Value} {base : Heap} {CX : CXT} {j k : Nat} {f : Addr} {fd : FuncData} {ps : List Str} {sp : Sp} (F : FnOk P w K mg base CX j f fd ps sp) (h : j ≤ k) : FnOk P w K mg base CX k f fd ps sp := F.mono h
theorem all_mk {l : PySem.W.OpenLaw} {w : World} {K : PySem.W.Frag} {h : Heap} {mg : Str → Option Value} {fa cK x0 x1 x2 x3 x4 x5 x6 x7 x8 x9 x10 x11 x12 f1 f2 f3 f4 f5 f6 f7 f8 f9 f10 f11 f12 f13 f14 fI10 cI10 cc10 N10 fI11 cI11 cc11 N11 fI12 cI12 cc12 N12 : Addr} (X : K.In h) (G : h.Ns mainGlobals mg) (hfa : mg "law" = some (.ref fa))
    {od1 an1 od2 an2 od3 an3 od4 an4 od5 an5 od6 an6 od7 an7 od8 an8 od9 an9 od10 an10 od11 an11 od12 an12 od13 an13 od14 an14 oI10 cD10 cE10 dd10 oI11 cD11 cE11 dd11 oI12 cD12 cE12 dd12 : Option Addr} {sl1 sl2 sl3 sl4 sl5 sl6 sl7 sl8 sl9 sl10 sl11 sl12 sl13 sl14 sI10 sC10 sE10 sI11 sC11 sE11 sI12 sC12 sE12 : Array (Option Value)} {oc1 kV1 dc1 pm1 ct1 cd1 oc2 kV2 dc2 pm2 ct2 cd2 oc3 kV3 dc3 pm3 ct3 cd3 oc4 kV4 dc4 pm4 ct4 cd4 oc5 kV5 dc5 pm5 ct5 cd5 oc6 kV6 dc6 pm6 ct6 cd6 oc7 kV7 dc7 pm7 ct7 cd7 oc8 kV8 dc8 pm8 ct8 cd8 oc9 kV9 dc9 pm9 ct9 cd9 oc10 kV10 dc10 pm10 ct10 cd10 oc11 kV11 dc11 pm11 ct11 cd11 oc12 kV12 dc12 pm12 ct12 cd12 oc13 kV13 dc13 pm13 ct13 cd13 oc14 kV14 dc14 pm14 ct14 cd14 uI10 dcI10 pmI10 ctI10 uC10 uE10 uI11 dcI11 pmI11 ctI11 uC11 uE11 uI12 dcI12 pmI12 ctI12 uC12 uE12 uM : Value}
    {nmC10 qC10 file10 nmC11 qC11 file11 nmC12 qC12 file12 : Str} {bs10 bm10 sub10 bs11 bm11 sub11 bs12 bm12 sub12 : List Value} {sn10 sn11 sn12 : List Str} {ab10 ab11 ab12 : Bool} {col10 col11 col12 : Option Bool} {ka10 kb10 kc10 kd10 ke10 ka11 kb11 kc11 kd11 ke11 ka12 kb12 kc12 kd12 ke12 : Option Value} {vs10 vs11 vs12 : Array Value} {tf10 tf11 tf12 : Tok}
    (a1 : PySem.W.nsIn K mainGlobals "things_of" = some (some (.ref f1)))
    (l1 : K.lookup f1 = some ⟨oc1, od1, .func (PySem.W.fnOf "things_of" "things_of" (defArgs tThings) (defBody tThings) (defScope tThings) .none kV1 dc1 pm1 an1 cd1 ct1), sl1⟩)
    (q1 : PySem.W.codeIn K cd1 "things_of" = true)
    (k1 : PySem.W.keepIn K (.ref f1) = true)
    (a2 : PySem.W.nsIn K mainGlobals "cut" = some (some (.ref f2)))
    (l2 : K.lookup f2 = some ⟨oc2, od2, .func (PySem.W.fnOf "cut" "cut" (defArgs tCut) (defBody tCut) (defScope tCut) .none kV2 dc2 pm2 an2 cd2 ct2), sl2⟩)
    (q2 : PySem.W.codeIn K cd2 "cut" = true)
    (k2 : PySem.W.keepIn K (.ref f2) = true)
    (a3 : PySem.W.nsIn K mainGlobals "many_worths" = some (some (.ref f3)))
    (l3 : K.lookup f3 = some ⟨oc3, od3, .func (PySem.W.fnOf "many_worths" "many_worths" (defArgs tMany) (defBody tMany) (defScope tMany) .none kV3 dc3 pm3 an3 cd3 ct3), sl3⟩)
    (q3 : PySem.W.codeIn K cd3 "many_worths" = true)
    (k3 : PySem.W.keepIn K (.ref f3) = true)
    (a4 : PySem.W.nsIn K mainGlobals "many_lists" = some (some (.ref f4)))
    (l4 : K.lookup f4 = some ⟨oc4, od4, .func (PySem.W.fnOf "many_lists" "many_lists" (defArgs tManyL) (defBody tManyL) (defScope tManyL) .none kV4 dc4 pm4 an4 cd4 ct4), sl4⟩)
    (q4 : PySem.W.codeIn K cd4 "many_lists" = true)
    (k4 : PySem.W.keepIn K (.ref f4) = true)
    (a5 : PySem.W.nsIn K mainGlobals "worths_of" = some (some (.ref f5)))
    (l5 : K.lookup f5 = some ⟨oc5, od5, .func (PySem.W.fnOf "worths_of" "worths_of" (defArgs tWorths) (defBody tWorths) (defScope tWorths) .none kV5 dc5 pm5 an5 cd5 ct5), sl5⟩)
    (q5 : PySem.W.codeIn K cd5 "worths_of" = true)
    (k5 : PySem.W.keepIn K (.ref f5) = true)
    (a6 : PySem.W.nsIn K mainGlobals "_law_deck" = some (some (.ref f6)))
    (l6 : K.lookup f6 = some ⟨oc6, od6, .func (PySem.W.fnOf "_law_deck" "_law_deck" (defArgs tDeck) (defBody tDeck) (defScope tDeck) .none kV6 dc6 pm6 an6 cd6 ct6), sl6⟩)
    (q6 : PySem.W.codeIn K cd6 "_law_deck" = true)
    (k6 : PySem.W.keepIn K (.ref f6) = true)
    (a7 : PySem.W.nsIn K mainGlobals "_law_mixed" = some (some (.ref f7)))
    (l7 : K.lookup f7 = some ⟨oc7, od7, .func (PySem.W.fnOf "_law_mixed" "_law_mixed" (defArgs tMixed) (defBody tMixed) (defScope tMixed) .none kV7 dc7 pm7 an7 cd7 ct7), sl7⟩)
    (q7 : PySem.W.codeIn K cd7 "_law_mixed" = true)
    (k7 : PySem.W.keepIn K (.ref f7) = true)
    (a8 : PySem.W.nsIn K mainGlobals "_law_draw" = some (some (.ref f8)))
    (l8 : K.lookup f8 = some ⟨oc8, od8, .func (PySem.W.fnOf "_law_draw" "_law_draw" (defArgs tDraw) (defBody tDraw) (defScope tDraw) .none kV8 dc8 pm8 an8 cd8 ct8), sl8⟩)
    (q8 : PySem.W.codeIn K cd8 "_law_draw" = true)
    (k8 : PySem.W.keepIn K (.ref f8) = true)
    (a9 : PySem.W.nsIn K mainGlobals "_law_names" = some (some (.ref f9)))
    (l9 : K.lookup f9 = some ⟨oc9, od9, .func (PySem.W.fnOf "_law_names" "_law_names" (defArgs tNames) (defBody tNames) (defScope tNames) .none kV9 dc9 pm9 an9 cd9 ct9), sl9⟩)
    (q9 : PySem.W.codeIn K cd9 "_law_names" = true)
    (k9 : PySem.W.keepIn K (.ref f9) = true)
    (a10 : PySem.W.nsIn K mainGlobals "_law_kinds" = some (some (.ref f10)))
    (l10 : K.lookup f10 = some ⟨oc10, od10, .func (PySem.W.fnOf "_law_kinds" "_law_kinds" (defArgs tLKinds) (defBody tLKinds) (defScope tLKinds) .none kV10 dc10 pm10 an10 cd10 ct10), sl10⟩)
    (q10 : PySem.W.codeIn K cd10 "_law_kinds" = true)
    (k10 : PySem.W.keepIn K (.ref f10) = true)
    (a11 : PySem.W.nsIn K mainGlobals "_law_raised" = some (some (.ref f11)))
    (l11 : K.lookup f11 = some ⟨oc11, od11, .func (PySem.W.fnOf "_law_raised" "_law_raised" (defArgs tLRaised) (defBody tLRaised) (defScope tLRaised) .none kV11 dc11 pm11 an11 cd11 ct11), sl11⟩)
    (q11 : PySem.W.codeIn K cd11 "_law_raised" = true)
    (k11 : PySem.W.keepIn K (.ref f11) = true)
    (a12 : PySem.W.nsIn K mainGlobals "_law_field" = some (some (.ref f12)))
    (l12 : K.lookup f12 = some ⟨oc12, od12, .func (PySem.W.fnOf "_law_field" "_law_field" (defArgs tLField) (defBody tLField) (defScope tLField) .none kV12 dc12 pm12 an12 cd12 ct12), sl12⟩)
    (q12 : PySem.W.codeIn K cd12 "_law_field" = true)
    (k12 : PySem.W.keepIn K (.ref f12) = true)
    (a13 : PySem.W.nsIn K mainGlobals "_law_right" = some (some (.ref f13)))
    (l13 : K.lookup f13 = some ⟨oc13, od13, .func (PySem.W.fnOf "_law_right" "_law_right" (defArgs tLRight) (defBody tLRight) (defScope tLRight) .none kV13 dc13 pm13 an13 cd13 ct13), sl13⟩)
    (q13 : PySem.W.codeIn K cd13 "_law_right" = true)
    (k13 : PySem.W.keepIn K (.ref f13) = true)
    (a14 : PySem.W.nsIn K mainGlobals "law" = some (some (.ref f14)))
    (l14 : K.lookup f14 = some ⟨oc14, od14, .func (PySem.W.fnOf "law" "law" (defArgs tLaw) (defBody tLaw) (defScope tLaw) .none kV14 dc14 pm14 an14 cd14 ct14), sl14⟩)
    (q14 : PySem.W.codeIn K cd14 "law" = true)
    (k14 : PySem.W.keepIn K (.ref f14) = true)
    (aM : PySem.W.nsIn K mainGlobals "MOST" = some (some uM))
    (rM : RelV (.int 300) uM)
    (aK : PySem.W.nsIn K mainGlobals "KindError" = some (some (.ref cK)))
    (bK : PySem.W.subIn K (.ref cK) (.type "BaseException") = some true)
    (iK : PySem.W.isClsIn K cK = true)
    (tK : PySem.W.typeIn K (.ref cK) = some (.type "type"))
    (sX : PySem.W.specialIn K (.builtin "object.__class__") "__get__" = some (some (.builtin "getset_descriptor.__get__")))
    (uX : PySem.W.takesIn K (.builtin "object.__class__") = some true)
    (xa0 : PySem.W.nsIn K mainGlobals "TooMany" = some (some (.ref x0)))
    (xg0 : PySem.W.findIn K (.ref x0) "__getattribute__" = some (some (.builtin "BaseException.__getattribute__")))
    (xh0 : PySem.W.findIn K (.ref x0) "__getattr__" = some none)
    (xb0 : PySem.W.subIn K (.ref x0) (.type "BaseException") = some true)
    (xd0 : PySem.W.hasDictIn K x0 = true)
    (xc0 : PySem.W.findIn K (.ref x0) "__class__" = some (some (.builtin "object.__class__")))
    (xm0 : PySem.W.mroIn K x0 (.type "object") = some true)
    (xi0 : PySem.W.isClsIn K x0 = true)
    (xt0 : PySem.W.typeIn K (.ref x0) = some (.type "type"))
    (xk0 : PySem.W.keepIn K (.ref x0) = true)
    (xv0 : PySem.W.subIn K (.ref x0) (.type "ValueError") = some true)
    (xs0 : PySem.W.subIn K (.ref x0) (.ref cK) = some true)
    (xP0 : PySem.W.excIn K x0 [.type "ValueError", .type "Exception", .type "BaseException", .type "object"] "ValueError.__new__" = true)
    (xa1 : PySem.W.nsIn K mainGlobals "TooMuch" = some (some (.ref x1)))
    (xg1 : PySem.W.findIn K (.ref x1) "__getattribute__" = some (some (.builtin "BaseException.__getattribute__")))
    (xh1 : PySem.W.findIn K (.ref x1) "__getattr__" = some none)
    (xb1 : PySem.W.subIn K (.ref x1) (.type "BaseException") = some true)
    (xd1 : PySem.W.hasDictIn K x1 = true)
    (xc1 : PySem.W.findIn K (.ref x1) "__class__" = some (some (.builtin "object.__class__")))
    (xm1 : PySem.W.mroIn K x1 (.type "object") = some true)
    (xi1 : PySem.W.isClsIn K x1 = true)
    (xt1 : PySem.W.typeIn K (.ref x1) = some (.type "type"))
    (xk1 : PySem.W.keepIn K (.ref x1) = true)
    (xv1 : PySem.W.subIn K (.ref x1) (.type "ValueError") = some true)
    (xs1 : PySem.W.subIn K (.ref x1) (.ref cK) = some true)
    (xP1 : PySem.W.excIn K x1 [.type "ValueError", .type "Exception", .type "BaseException", .type "object"] "ValueError.__new__" = true)
    (xa2 : PySem.W.nsIn K mainGlobals "NoText" = some (some (.ref x2)))
    (xg2 : PySem.W.findIn K (.ref x2) "__getattribute__" = some (some (.builtin "BaseException.__getattribute__")))
    (xh2 : PySem.W.findIn K (.ref x2) "__getattr__" = some none)
    (xb2 : PySem.W.subIn K (.ref x2) (.type "BaseException") = some true)
    (xd2 : PySem.W.hasDictIn K x2 = true)
    (xc2 : PySem.W.findIn K (.ref x2) "__class__" = some (some (.builtin "object.__class__")))
    (xm2 : PySem.W.mroIn K x2 (.type "object") = some true)
    (xi2 : PySem.W.isClsIn K x2 = true)
    (xt2 : PySem.W.typeIn K (.ref x2) = some (.type "type"))
    (xk2 : PySem.W.keepIn K (.ref x2) = true)
    (xv2 : PySem.W.subIn K (.ref x2) (.type "ValueError") = some true)
    (xs2 : PySem.W.subIn K (.ref x2) (.ref cK) = some true)
    (xP2 : PySem.W.excIn K x2 [.type "ValueError", .type "Exception", .type "BaseException", .type "object"] "ValueError.__new__" = true)
    (xa3 : PySem.W.nsIn K mainGlobals "NoKind" = some (some (.ref x3)))
    (xg3 : PySem.W.findIn K (.ref x3) "__getattribute__" = some (some (.builtin "BaseException.__getattribute__")))
    (xh3 : PySem.W.findIn K (.ref x3) "__getattr__" = some none)
    (xb3 : PySem.W.subIn K (.ref x3) (.type "BaseException") = some true)
    (xd3 : PySem.W.hasDictIn K x3 = true)
    (xc3 : PySem.W.findIn K (.ref x3) "__class__" = some (some (.builtin "object.__class__")))
    (xm3 : PySem.W.mroIn K x3 (.type "object") = some true)
    (xi3 : PySem.W.isClsIn K x3 = true)
    (xt3 : PySem.W.typeIn K (.ref x3) = some (.type "type"))
    (xk3 : PySem.W.keepIn K (.ref x3) = true)
    (xv3 : PySem.W.subIn K (.ref x3) (.type "ValueError") = some true)
    (xs3 : PySem.W.subIn K (.ref x3) (.ref cK) = some true)
    (xP3 : PySem.W.excIn K x3 [.type "ValueError", .type "Exception", .type "BaseException", .type "object"] "ValueError.__new__" = true)
    (xa4 : PySem.W.nsIn K mainGlobals "NoLead" = some (some (.ref x4)))
    (xg4 : PySem.W.findIn K (.ref x4) "__getattribute__" = some (some (.builtin "BaseException.__getattribute__")))
    (xh4 : PySem.W.findIn K (.ref x4) "__getattr__" = some none)
    (xb4 : PySem.W.subIn K (.ref x4) (.type "BaseException") = some true)
    (xd4 : PySem.W.hasDictIn K x4 = true)
    (xc4 : PySem.W.findIn K (.ref x4) "__class__" = some (some (.builtin "object.__class__")))
    (xm4 : PySem.W.mroIn K x4 (.type "object") = some true)
    (xi4 : PySem.W.isClsIn K x4 = true)
    (xt4 : PySem.W.typeIn K (.ref x4) = some (.type "type"))
    (xk4 : PySem.W.keepIn K (.ref x4) = true)
    (xv4 : PySem.W.subIn K (.ref x4) (.type "ValueError") = some true)
    (xs4 : PySem.W.subIn K (.ref x4) (.ref cK) = some true)
    (xP4 : PySem.W.excIn K x4 [.type "ValueError", .type "Exception", .type "BaseException", .type "object"] "ValueError.__new__" = true)
    (xa5 : PySem.W.nsIn K mainGlobals "NoName" = some (some (.ref x5)))
    (xg5 : PySem.W.findIn K (.ref x5) "__getattribute__" = some (some (.builtin "BaseException.__getattribute__")))
    (xh5 : PySem.W.findIn K (.ref x5) "__getattr__" = some none)
    (xb5 : PySem.W.subIn K (.ref x5) (.type "BaseException") = some true)
    (xd5 : PySem.W.hasDictIn K x5 = true)
    (xc5 : PySem.W.findIn K (.ref x5) "__class__" = some (some (.builtin "object.__class__")))
    (xm5 : PySem.W.mroIn K x5 (.type "object") = some true)
    (xi5 : PySem.W.isClsIn K x5 = true)
    (xt5 : PySem.W.typeIn K (.ref x5) = some (.type "type"))
    (xk5 : PySem.W.keepIn K (.ref x5) = true)
    (xv5 : PySem.W.subIn K (.ref x5) (.type "ValueError") = some true)
    (xs5 : PySem.W.subIn K (.ref x5) (.ref cK) = some true)
    (xP5 : PySem.W.excIn K x5 [.type "ValueError", .type "Exception", .type "BaseException", .type "object"] "ValueError.__new__" = true)
    (xa6 : PySem.W.nsIn K mainGlobals "Taken" = some (some (.ref x6)))
    (xg6 : PySem.W.findIn K (.ref x6) "__getattribute__" = some (some (.builtin "BaseException.__getattribute__")))
    (xh6 : PySem.W.findIn K (.ref x6) "__getattr__" = some none)
    (xb6 : PySem.W.subIn K (.ref x6) (.type "BaseException") = some true)
    (xd6 : PySem.W.hasDictIn K x6 = true)
    (xc6 : PySem.W.findIn K (.ref x6) "__class__" = some (some (.builtin "object.__class__")))
    (xm6 : PySem.W.mroIn K x6 (.type "object") = some true)
    (xi6 : PySem.W.isClsIn K x6 = true)
    (xt6 : PySem.W.typeIn K (.ref x6) = some (.type "type"))
    (xk6 : PySem.W.keepIn K (.ref x6) = true)
    (xv6 : PySem.W.subIn K (.ref x6) (.type "ValueError") = some true)
    (xs6 : PySem.W.subIn K (.ref x6) (.ref cK) = some true)
    (xP6 : PySem.W.excIn K x6 [.type "ValueError", .type "Exception", .type "BaseException", .type "object"] "ValueError.__new__" = true)
    (xa7 : PySem.W.nsIn K mainGlobals "Ring" = some (some (.ref x7)))
    (xg7 : PySem.W.findIn K (.ref x7) "__getattribute__" = some (some (.builtin "BaseException.__getattribute__")))
    (xh7 : PySem.W.findIn K (.ref x7) "__getattr__" = some none)
    (xb7 : PySem.W.subIn K (.ref x7) (.type "BaseException") = some true)
    (xd7 : PySem.W.hasDictIn K x7 = true)
    (xc7 : PySem.W.findIn K (.ref x7) "__class__" = some (some (.builtin "object.__class__")))
    (xm7 : PySem.W.mroIn K x7 (.type "object") = some true)
    (xi7 : PySem.W.isClsIn K x7 = true)
    (xt7 : PySem.W.typeIn K (.ref x7) = some (.type "type"))
    (xk7 : PySem.W.keepIn K (.ref x7) = true)
    (xv7 : PySem.W.subIn K (.ref x7) (.type "ValueError") = some true)
    (xs7 : PySem.W.subIn K (.ref x7) (.ref cK) = some true)
    (xP7 : PySem.W.excIn K x7 [.type "ValueError", .type "Exception", .type "BaseException", .type "object"] "ValueError.__new__" = true)
    (xa8 : PySem.W.nsIn K mainGlobals "NoBack" = some (some (.ref x8)))
    (xg8 : PySem.W.findIn K (.ref x8) "__getattribute__" = some (some (.builtin "BaseException.__getattribute__")))
    (xh8 : PySem.W.findIn K (.ref x8) "__getattr__" = some none)
    (xb8 : PySem.W.subIn K (.ref x8) (.type "BaseException") = some true)
    (xd8 : PySem.W.hasDictIn K x8 = true)
    (xc8 : PySem.W.findIn K (.ref x8) "__class__" = some (some (.builtin "object.__class__")))
    (xm8 : PySem.W.mroIn K x8 (.type "object") = some true)
    (xi8 : PySem.W.isClsIn K x8 = true)
    (xt8 : PySem.W.typeIn K (.ref x8) = some (.type "type"))
    (xk8 : PySem.W.keepIn K (.ref x8) = true)
    (xv8 : PySem.W.subIn K (.ref x8) (.type "ValueError") = some true)
    (xs8 : PySem.W.subIn K (.ref x8) (.ref cK) = some true)
    (xP8 : PySem.W.excIn K x8 [.type "ValueError", .type "Exception", .type "BaseException", .type "object"] "ValueError.__new__" = true)
    (xa9 : PySem.W.nsIn K mainGlobals "NoRow" = some (some (.ref x9)))
    (xg9 : PySem.W.findIn K (.ref x9) "__getattribute__" = some (some (.builtin "BaseException.__getattribute__")))
    (xh9 : PySem.W.findIn K (.ref x9) "__getattr__" = some none)
    (xb9 : PySem.W.subIn K (.ref x9) (.type "BaseException") = some true)
    (xd9 : PySem.W.hasDictIn K x9 = true)
    (xc9 : PySem.W.findIn K (.ref x9) "__class__" = some (some (.builtin "object.__class__")))
    (xm9 : PySem.W.mroIn K x9 (.type "object") = some true)
    (xi9 : PySem.W.isClsIn K x9 = true)
    (xt9 : PySem.W.typeIn K (.ref x9) = some (.type "type"))
    (xk9 : PySem.W.keepIn K (.ref x9) = true)
    (xv9 : PySem.W.subIn K (.ref x9) (.type "ValueError") = some true)
    (xs9 : PySem.W.subIn K (.ref x9) (.ref cK) = some true)
    (xP9 : PySem.W.excIn K x9 [.type "ValueError", .type "Exception", .type "BaseException", .type "object"] "ValueError.__new__" = true)
    (xa10 : PySem.W.nsIn K mainGlobals "Unbounded" = some (some (.ref x10)))
    (xg10 : PySem.W.findIn K (.ref x10) "__getattribute__" = some (some (.builtin "BaseException.__getattribute__")))
    (xh10 : PySem.W.findIn K (.ref x10) "__getattr__" = some none)
    (xb10 : PySem.W.subIn K (.ref x10) (.type "BaseException") = some true)
    (xd10 : PySem.W.hasDictIn K x10 = true)
    (xc10 : PySem.W.findIn K (.ref x10) "__class__" = some (some (.builtin "object.__class__")))
    (xm10 : PySem.W.mroIn K x10 (.type "object") = some true)
    (xi10 : PySem.W.isClsIn K x10 = true)
    (xt10 : PySem.W.typeIn K (.ref x10) = some (.type "type"))
    (xk10 : PySem.W.keepIn K (.ref x10) = true)
    (xv10 : PySem.W.subIn K (.ref x10) (.type "ValueError") = some true)
    (xs10 : PySem.W.subIn K (.ref x10) (.ref cK) = some true)
    (xa11 : PySem.W.nsIn K mainGlobals "Broken" = some (some (.ref x11)))
    (xg11 : PySem.W.findIn K (.ref x11) "__getattribute__" = some (some (.builtin "BaseException.__getattribute__")))
    (xh11 : PySem.W.findIn K (.ref x11) "__getattr__" = some none)
    (xb11 : PySem.W.subIn K (.ref x11) (.type "BaseException") = some true)
    (xd11 : PySem.W.hasDictIn K x11 = true)
    (xc11 : PySem.W.findIn K (.ref x11) "__class__" = some (some (.builtin "object.__class__")))
    (xm11 : PySem.W.mroIn K x11 (.type "object") = some true)
    (xi11 : PySem.W.isClsIn K x11 = true)
    (xt11 : PySem.W.typeIn K (.ref x11) = some (.type "type"))
    (xk11 : PySem.W.keepIn K (.ref x11) = true)
    (xv11 : PySem.W.subIn K (.ref x11) (.type "ValueError") = some true)
    (xs11 : PySem.W.subIn K (.ref x11) (.ref cK) = some true)
    (xa12 : PySem.W.nsIn K mainGlobals "Used" = some (some (.ref x12)))
    (xg12 : PySem.W.findIn K (.ref x12) "__getattribute__" = some (some (.builtin "BaseException.__getattribute__")))
    (xh12 : PySem.W.findIn K (.ref x12) "__getattr__" = some none)
    (xb12 : PySem.W.subIn K (.ref x12) (.type "BaseException") = some true)
    (xd12 : PySem.W.hasDictIn K x12 = true)
    (xc12 : PySem.W.findIn K (.ref x12) "__class__" = some (some (.builtin "object.__class__")))
    (xm12 : PySem.W.mroIn K x12 (.type "object") = some true)
    (xi12 : PySem.W.isClsIn K x12 = true)
    (xt12 : PySem.W.typeIn K (.ref x12) = some (.type "type"))
    (xk12 : PySem.W.keepIn K (.ref x12) = true)
    (xv12 : PySem.W.subIn K (.ref x12) (.type "ValueError") = some true)
    (xs12 : PySem.W.subIn K (.ref x12) (.ref cK) = some true)
    (w0_1 : (Value.ref x0 == Value.ref x1) = false)
    (y0_1 : PySem.W.subIn K (.ref x0) (.ref x1) = some false)
    (w0_2 : (Value.ref x0 == Value.ref x2) = false)
    (y0_2 : PySem.W.subIn K (.ref x0) (.ref x2) = some false)
    (w0_3 : (Value.ref x0 == Value.ref x3) = false)
    (y0_3 : PySem.W.subIn K (.ref x0) (.ref x3) = some false)
    (w0_4 : (Value.ref x0 == Value.ref x4) = false)
    (y0_4 : PySem.W.subIn K (.ref x0) (.ref x4) = some false)
    (w0_5 : (Value.ref x0 == Value.ref x5) = false)
    (y0_5 : PySem.W.subIn K (.ref x0) (.ref x5) = some false)
    (w0_6 : (Value.ref x0 == Value.ref x6) = false)
    (y0_6 : PySem.W.subIn K (.ref x0) (.ref x6) = some false)
    (w0_7 : (Value.ref x0 == Value.ref x7) = false)
    (y0_7 : PySem.W.subIn K (.ref x0) (.ref x7) = some false)
    (w0_8 : (Value.ref x0 == Value.ref x8) = false)
    (y0_8 : PySem.W.subIn K (.ref x0) (.ref x8) = some false)
    (w0_9 : (Value.ref x0 == Value.ref x9) = false)
    (y0_9 : PySem.W.subIn K (.ref x0) (.ref x9) = some false)
    (w0_10 : (Value.ref x0 == Value.ref x10) = false)
    (y0_10 : PySem.W.subIn K (.ref x0) (.ref x10) = some false)
    (w0_11 : (Value.ref x0 == Value.ref x11) = false)
    (y0_11 : PySem.W.subIn K (.ref x0) (.ref x11) = some false)
    (w0_12 : (Value.ref x0 == Value.ref x12) = false)
    (y0_12 : PySem.W.subIn K (.ref x0) (.ref x12) = some false)
    (w1_0 : (Value.ref x1 == Value.ref x0) = false)
    (y1_0 : PySem.W.subIn K (.ref x1) (.ref x0) = some false)
    (w1_2 : (Value.ref x1 == Value.ref x2) = false)
    (y1_2 : PySem.W.subIn K (.ref x1) (.ref x2) = some false)
    (w1_3 : (Value.ref x1 == Value.ref x3) = false)
    (y1_3 : PySem.W.subIn K (.ref x1) (.ref x3) = some false)
    (w1_4 : (Value.ref x1 == Value.ref x4) = false)
    (y1_4 : PySem.W.subIn K (.ref x1) (.ref x4) = some false)
    (w1_5 : (Value.ref x1 == Value.ref x5) = false)
    (y1_5 : PySem.W.subIn K (.ref x1) (.ref x5) = some false)
    (w1_6 : (Value.ref x1 == Value.ref x6) = false)
    (y1_6 : PySem.W.subIn K (.ref x1) (.ref x6) = some false)
    (w1_7 : (Value.ref x1 == Value.ref x7) = false)
    (y1_7 : PySem.W.subIn K (.ref x1) (.ref x7) = some false)
    (w1_8 : (Value.ref x1 == Value.ref x8) = false)
    (y1_8 : PySem.W.subIn K (.ref x1) (.ref x8) = some false)
    (w1_9 : (Value.ref x1 == Value.ref x9) = false)
    (y1_9 : PySem.W.subIn K (.ref x1) (.ref x9) = some false)
    (w1_10 : (Value.ref x1 == Value.ref x10) = false)
    (y1_10 : PySem.W.subIn K (.ref x1) (.ref x10) = some false)
    (w1_11 : (Value.ref x1 == Value.ref x11) = false)
    (y1_11 : PySem.W.subIn K (.ref x1) (.ref x11) = some false)
    (w1_12 : (Value.ref x1 == Value.ref x12) = false)
    (y1_12 : PySem.W.subIn K (.ref x1) (.ref x12) = some false)
    (w2_0 : (Value.ref x2 == Value.ref x0) = false)
    (y2_0 : PySem.W.subIn K (.ref x2) (.ref x0) = some false)
    (w2_1 : (Value.ref x2 == Value.ref x1) = false)
    (y2_1 : PySem.W.subIn K (.ref x2) (.ref x1) = some false)
    (w2_3 : (Value.ref x2 == Value.ref x3) = false)
    (y2_3 : PySem.W.subIn K (.ref x2) (.ref x3) = some false)
    (w2_4 : (Value.ref x2 == Value.ref x4) = false)
    (y2_4 : PySem.W.subIn K (.ref x2) (.ref x4) = some false)
    (w2_5 : (Value.ref x2 == Value.ref x5) = false)
    (y2_5 : PySem.W.subIn K (.ref x2) (.ref x5) = some false)
    (w2_6 : (Value.ref x2 == Value.ref x6) = false)
    (y2_6 : PySem.W.subIn K (.ref x2) (.ref x6) = some false)
    (w2_7 : (Value.ref x2 == Value.ref x7) = false)
    (y2_7 : PySem.W.subIn K (.ref x2) (.ref x7) = some false)
    (w2_8 : (Value.ref x2 == Value.ref x8) = false)
    (y2_8 : PySem.W.subIn K (.ref x2) (.ref x8) = some false)
    (w2_9 : (Value.ref x2 == Value.ref x9) = false)
    (y2_9 : PySem.W.subIn K (.ref x2) (.ref x9) = some false)
    (w2_10 : (Value.ref x2 == Value.ref x10) = false)
    (y2_10 : PySem.W.subIn K (.ref x2) (.ref x10) = some false)
    (w2_11 : (Value.ref x2 == Value.ref x11) = false)
    (y2_11 : PySem.W.subIn K (.ref x2) (.ref x11) = some false)
    (w2_12 : (Value.ref x2 == Value.ref x12) = false)
    (y2_12 : PySem.W.subIn K (.ref x2) (.ref x12) = some false)
    (w3_0 : (Value.ref x3 == Value.ref x0) = false)
    (y3_0 : PySem.W.subIn K (.ref x3) (.ref x0) = some false)
    (w3_1 : (Value.ref x3 == Value.ref x1) = false)
    (y3_1 : PySem.W.subIn K (.ref x3) (.ref x1) = some false)
    (w3_2 : (Value.ref x3 == Value.ref x2) = false)
    (y3_2 : PySem.W.subIn K (.ref x3) (.ref x2) = some false)
    (w3_4 : (Value.ref x3 == Value.ref x4) = false)
    (y3_4 : PySem.W.subIn K (.ref x3) (.ref x4) = some false)
    (w3_5 : (Value.ref x3 == Value.ref x5) = false)
    (y3_5 : PySem.W.subIn K (.ref x3) (.ref x5) = some false)
    (w3_6 : (Value.ref x3 == Value.ref x6) = false)
    (y3_6 : PySem.W.subIn K (.ref x3) (.ref x6) = some false)
    (w3_7 : (Value.ref x3 == Value.ref x7) = false)
    (y3_7 : PySem.W.subIn K (.ref x3) (.ref x7) = some false)
    (w3_8 : (Value.ref x3 == Value.ref x8) = false)
    (y3_8 : PySem.W.subIn K (.ref x3) (.ref x8) = some false)
    (w3_9 : (Value.ref x3 == Value.ref x9) = false)
    (y3_9 : PySem.W.subIn K (.ref x3) (.ref x9) = some false)
    (w3_10 : (Value.ref x3 == Value.ref x10) = false)
    (y3_10 : PySem.W.subIn K (.ref x3) (.ref x10) = some false)
    (w3_11 : (Value.ref x3 == Value.ref x11) = false)
    (y3_11 : PySem.W.subIn K (.ref x3) (.ref x11) = some false)
    (w3_12 : (Value.ref x3 == Value.ref x12) = false)
    (y3_12 : PySem.W.subIn K (.ref x3) (.ref x12) = some false)
    (w4_0 : (Value.ref x4 == Value.ref x0) = false)
    (y4_0 : PySem.W.subIn K (.ref x4) (.ref x0) = some false)
    (w4_1 : (Value.ref x4 == Value.ref x1) = false)
    (y4_1 : PySem.W.subIn K (.ref x4) (.ref x1) = some false)
    (w4_2 : (Value.ref x4 == Value.ref x2) = false)
    (y4_2 : PySem.W.subIn K (.ref x4) (.ref x2) = some false)
    (w4_3 : (Value.ref x4 == Value.ref x3) = false)
    (y4_3 : PySem.W.subIn K (.ref x4) (.ref x3) = some false)
    (w4_5 : (Value.ref x4 == Value.ref x5) = false)
    (y4_5 : PySem.W.subIn K (.ref x4) (.ref x5) = some false)
    (w4_6 : (Value.ref x4 == Value.ref x6) = false)
    (y4_6 : PySem.W.subIn K (.ref x4) (.ref x6) = some false)
    (w4_7 : (Value.ref x4 == Value.ref x7) = false)
    (y4_7 : PySem.W.subIn K (.ref x4) (.ref x7) = some false)
    (w4_8 : (Value.ref x4 == Value.ref x8) = false)
    (y4_8 : PySem.W.subIn K (.ref x4) (.ref x8) = some false)
    (w4_9 : (Value.ref x4 == Value.ref x9) = false)
    (y4_9 : PySem.W.subIn K (.ref x4) (.ref x9) = some false)
    (w4_10 : (Value.ref x4 == Value.ref x10) = false)
    (y4_10 : PySem.W.subIn K (.ref x4) (.ref x10) = some false)
    (w4_11 : (Value.ref x4 == Value.ref x11) = false)
    (y4_11 : PySem.W.subIn K (.ref x4) (.ref x11) = some false)
    (w4_12 : (Value.ref x4 == Value.ref x12) = false)
    (y4_12 : PySem.W.subIn K (.ref x4) (.ref x12) = some false)
    (w5_0 : (Value.ref x5 == Value.ref x0) = false)
    (y5_0 : PySem.W.subIn K (.ref x5) (.ref x0) = some false)
    (w5_1 : (Value.ref x5 == Value.ref x1) = false)
    (y5_1 : PySem.W.subIn K (.ref x5) (.ref x1) = some false)
    (w5_2 : (Value.ref x5 == Value.ref x2) = false)
    (y5_2 : PySem.W.subIn K (.ref x5) (.ref x2) = some false)
    (w5_3 : (Value.ref x5 == Value.ref x3) = false)
    (y5_3 : PySem.W.subIn K (.ref x5) (.ref x3) = some false)
    (w5_4 : (Value.ref x5 == Value.ref x4) = false)
    (y5_4 : PySem.W.subIn K (.ref x5) (.ref x4) = some false)
    (w5_6 : (Value.ref x5 == Value.ref x6) = false)
    (y5_6 : PySem.W.subIn K (.ref x5) (.ref x6) = some false)
    (w5_7 : (Value.ref x5 == Value.ref x7) = false)
    (y5_7 : PySem.W.subIn K (.ref x5) (.ref x7) = some false)
    (w5_8 : (Value.ref x5 == Value.ref x8) = false)
    (y5_8 : PySem.W.subIn K (.ref x5) (.ref x8) = some false)
    (w5_9 : (Value.ref x5 == Value.ref x9) = false)
    (y5_9 : PySem.W.subIn K (.ref x5) (.ref x9) = some false)
    (w5_10 : (Value.ref x5 == Value.ref x10) = false)
    (y5_10 : PySem.W.subIn K (.ref x5) (.ref x10) = some false)
    (w5_11 : (Value.ref x5 == Value.ref x11) = false)
    (y5_11 : PySem.W.subIn K (.ref x5) (.ref x11) = some false)
    (w5_12 : (Value.ref x5 == Value.ref x12) = false)
    (y5_12 : PySem.W.subIn K (.ref x5) (.ref x12) = some false)
    (w6_0 : (Value.ref x6 == Value.ref x0) = false)
    (y6_0 : PySem.W.subIn K (.ref x6) (.ref x0) = some false)
    (w6_1 : (Value.ref x6 == Value.ref x1) = false)
    (y6_1 : PySem.W.subIn K (.ref x6) (.ref x1) = some false)
    (w6_2 : (Value.ref x6 == Value.ref x2) = false)
    (y6_2 : PySem.W.subIn K (.ref x6) (.ref x2) = some false)
    (w6_3 : (Value.ref x6 == Value.ref x3) = false)
    (y6_3 : PySem.W.subIn K (.ref x6) (.ref x3) = some false)
    (w6_4 : (Value.ref x6 == Value.ref x4) = false)
    (y6_4 : PySem.W.subIn K (.ref x6) (.ref x4) = some false)
    (w6_5 : (Value.ref x6 == Value.ref x5) = false)
    (y6_5 : PySem.W.subIn K (.ref x6) (.ref x5) = some false)
    (w6_7 : (Value.ref x6 == Value.ref x7) = false)
    (y6_7 : PySem.W.subIn K (.ref x6) (.ref x7) = some false)
    (w6_8 : (Value.ref x6 == Value.ref x8) = false)
    (y6_8 : PySem.W.subIn K (.ref x6) (.ref x8) = some false)
    (w6_9 : (Value.ref x6 == Value.ref x9) = false)
    (y6_9 : PySem.W.subIn K (.ref x6) (.ref x9) = some false)
    (w6_10 : (Value.ref x6 == Value.ref x10) = false)
    (y6_10 : PySem.W.subIn K (.ref x6) (.ref x10) = some false)
    (w6_11 : (Value.ref x6 == Value.ref x11) = false)
    (y6_11 : PySem.W.subIn K (.ref x6) (.ref x11) = some false)
    (w6_12 : (Value.ref x6 == Value.ref x12) = false)
    (y6_12 : PySem.W.subIn K (.ref x6) (.ref x12) = some false)
    (w7_0 : (Value.ref x7 == Value.ref x0) = false)
    (y7_0 : PySem.W.subIn K (.ref x7) (.ref x0) = some false)
    (w7_1 : (Value.ref x7 == Value.ref x1) = false)
    (y7_1 : PySem.W.subIn K (.ref x7) (.ref x1) = some false)
    (w7_2 : (Value.ref x7 == Value.ref x2) = false)
    (y7_2 : PySem.W.subIn K (.ref x7) (.ref x2) = some false)
    (w7_3 : (Value.ref x7 == Value.ref x3) = false)
    (y7_3 : PySem.W.subIn K (.ref x7) (.ref x3) = some false)
    (w7_4 : (Value.ref x7 == Value.ref x4) = false)
    (y7_4 : PySem.W.subIn K (.ref x7) (.ref x4) = some false)
    (w7_5 : (Value.ref x7 == Value.ref x5) = false)
    (y7_5 : PySem.W.subIn K (.ref x7) (.ref x5) = some false)
    (w7_6 : (Value.ref x7 == Value.ref x6) = false)
    (y7_6 : PySem.W.subIn K (.ref x7) (.ref x6) = some false)
    (w7_8 : (Value.ref x7 == Value.ref x8) = false)
    (y7_8 : PySem.W.subIn K (.ref x7) (.ref x8) = some false)
    (w7_9 : (Value.ref x7 == Value.ref x9) = false)
    (y7_9 : PySem.W.subIn K (.ref x7) (.ref x9) = some false)
    (w7_10 : (Value.ref x7 == Value.ref x10) = false)
    (y7_10 : PySem.W.subIn K (.ref x7) (.ref x10) = some false)
    (w7_11 : (Value.ref x7 == Value.ref x11) = false)
    (y7_11 : PySem.W.subIn K (.ref x7) (.ref x11) = some false)
    (w7_12 : (Value.ref x7 == Value.ref x12) = false)
    (y7_12 : PySem.W.subIn K (.ref x7) (.ref x12) = some false)
    (w8_0 : (Value.ref x8 == Value.ref x0) = false)
    (y8_0 : PySem.W.subIn K (.ref x8) (.ref x0) = some false)
    (w8_1 : (Value.ref x8 == Value.ref x1) = false)
    (y8_1 : PySem.W.subIn K (.ref x8) (.ref x1) = some false)
    (w8_2 : (Value.ref x8 == Value.ref x2) = false)
    (y8_2 : PySem.W.subIn K (.ref x8) (.ref x2) = some false)
    (w8_3 : (Value.ref x8 == Value.ref x3) = false)
    (y8_3 : PySem.W.subIn K (.ref x8) (.ref x3) = some false)
    (w8_4 : (Value.ref x8 == Value.ref x4) = false)
    (y8_4 : PySem.W.subIn K (.ref x8) (.ref x4) = some false)
    (w8_5 : (Value.ref x8 == Value.ref x5) = false)
    (y8_5 : PySem.W.subIn K (.ref x8) (.ref x5) = some false)
    (w8_6 : (Value.ref x8 == Value.ref x6) = false)
    (y8_6 : PySem.W.subIn K (.ref x8) (.ref x6) = some false)
    (w8_7 : (Value.ref x8 == Value.ref x7) = false)
    (y8_7 : PySem.W.subIn K (.ref x8) (.ref x7) = some false)
    (w8_9 : (Value.ref x8 == Value.ref x9) = false)
    (y8_9 : PySem.W.subIn K (.ref x8) (.ref x9) = some false)
    (w8_10 : (Value.ref x8 == Value.ref x10) = false)
    (y8_10 : PySem.W.subIn K (.ref x8) (.ref x10) = some false)
    (w8_11 : (Value.ref x8 == Value.ref x11) = false)
    (y8_11 : PySem.W.subIn K (.ref x8) (.ref x11) = some false)
    (w8_12 : (Value.ref x8 == Value.ref x12) = false)
    (y8_12 : PySem.W.subIn K (.ref x8) (.ref x12) = some false)
    (w9_0 : (Value.ref x9 == Value.ref x0) = false)
    (y9_0 : PySem.W.subIn K (.ref x9) (.ref x0) = some false)
    (w9_1 : (Value.ref x9 == Value.ref x1) = false)
    (y9_1 : PySem.W.subIn K (.ref x9) (.ref x1) = some false)
    (w9_2 : (Value.ref x9 == Value.ref x2) = false)
    (y9_2 : PySem.W.subIn K (.ref x9) (.ref x2) = some false)
    (w9_3 : (Value.ref x9 == Value.ref x3) = false)
    (y9_3 : PySem.W.subIn K (.ref x9) (.ref x3) = some false)
    (w9_4 : (Value.ref x9 == Value.ref x4) = false)
    (y9_4 : PySem.W.subIn K (.ref x9) (.ref x4) = some false)
    (w9_5 : (Value.ref x9 == Value.ref x5) = false)
    (y9_5 : PySem.W.subIn K (.ref x9) (.ref x5) = some false)
    (w9_6 : (Value.ref x9 == Value.ref x6) = false)
    (y9_6 : PySem.W.subIn K (.ref x9) (.ref x6) = some false)
    (w9_7 : (Value.ref x9 == Value.ref x7) = false)
    (y9_7 : PySem.W.subIn K (.ref x9) (.ref x7) = some false)
    (w9_8 : (Value.ref x9 == Value.ref x8) = false)
    (y9_8 : PySem.W.subIn K (.ref x9) (.ref x8) = some false)
    (w9_10 : (Value.ref x9 == Value.ref x10) = false)
    (y9_10 : PySem.W.subIn K (.ref x9) (.ref x10) = some false)
    (w9_11 : (Value.ref x9 == Value.ref x11) = false)
    (y9_11 : PySem.W.subIn K (.ref x9) (.ref x11) = some false)
    (w9_12 : (Value.ref x9 == Value.ref x12) = false)
    (y9_12 : PySem.W.subIn K (.ref x9) (.ref x12) = some false)
    (w10_0 : (Value.ref x10 == Value.ref x0) = false)
    (y10_0 : PySem.W.subIn K (.ref x10) (.ref x0) = some false)
    (w10_1 : (Value.ref x10 == Value.ref x1) = false)
    (y10_1 : PySem.W.subIn K (.ref x10) (.ref x1) = some false)
    (w10_2 : (Value.ref x10 == Value.ref x2) = false)
    (y10_2 : PySem.W.subIn K (.ref x10) (.ref x2) = some false)
    (w10_3 : (Value.ref x10 == Value.ref x3) = false)
    (y10_3 : PySem.W.subIn K (.ref x10) (.ref x3) = some false)
    (w10_4 : (Value.ref x10 == Value.ref x4) = false)
    (y10_4 : PySem.W.subIn K (.ref x10) (.ref x4) = some false)
    (w10_5 : (Value.ref x10 == Value.ref x5) = false)
    (y10_5 : PySem.W.subIn K (.ref x10) (.ref x5) = some false)
    (w10_6 : (Value.ref x10 == Value.ref x6) = false)
    (y10_6 : PySem.W.subIn K (.ref x10) (.ref x6) = some false)
    (w10_7 : (Value.ref x10 == Value.ref x7) = false)
    (y10_7 : PySem.W.subIn K (.ref x10) (.ref x7) = some false)
    (w10_8 : (Value.ref x10 == Value.ref x8) = false)
    (y10_8 : PySem.W.subIn K (.ref x10) (.ref x8) = some false)
    (w10_9 : (Value.ref x10 == Value.ref x9) = false)
    (y10_9 : PySem.W.subIn K (.ref x10) (.ref x9) = some false)
    (w10_11 : (Value.ref x10 == Value.ref x11) = false)
    (y10_11 : PySem.W.subIn K (.ref x10) (.ref x11) = some false)
    (w10_12 : (Value.ref x10 == Value.ref x12) = false)
    (y10_12 : PySem.W.subIn K (.ref x10) (.ref x12) = some false)
    (w11_0 : (Value.ref x11 == Value.ref x0) = false)
    (y11_0 : PySem.W.subIn K (.ref x11) (.ref x0) = some false)
    (w11_1 : (Value.ref x11 == Value.ref x1) = false)
    (y11_1 : PySem.W.subIn K (.ref x11) (.ref x1) = some false)
    (w11_2 : (Value.ref x11 == Value.ref x2) = false)
    (y11_2 : PySem.W.subIn K (.ref x11) (.ref x2) = some false)
    (w11_3 : (Value.ref x11 == Value.ref x3) = false)
    (y11_3 : PySem.W.subIn K (.ref x11) (.ref x3) = some false)
    (w11_4 : (Value.ref x11 == Value.ref x4) = false)
    (y11_4 : PySem.W.subIn K (.ref x11) (.ref x4) = some false)
    (w11_5 : (Value.ref x11 == Value.ref x5) = false)
    (y11_5 : PySem.W.subIn K (.ref x11) (.ref x5) = some false)
    (w11_6 : (Value.ref x11 == Value.ref x6) = false)
    (y11_6 : PySem.W.subIn K (.ref x11) (.ref x6) = some false)
    (w11_7 : (Value.ref x11 == Value.ref x7) = false)
    (y11_7 : PySem.W.subIn K (.ref x11) (.ref x7) = some false)
    (w11_8 : (Value.ref x11 == Value.ref x8) = false)
    (y11_8 : PySem.W.subIn K (.ref x11) (.ref x8) = some false)
    (w11_9 : (Value.ref x11 == Value.ref x9) = false)
    (y11_9 : PySem.W.subIn K (.ref x11) (.ref x9) = some false)
    (w11_10 : (Value.ref x11 == Value.ref x10) = false)
    (y11_10 : PySem.W.subIn K (.ref x11) (.ref x10) = some false)
    (w11_12 : (Value.ref x11 == Value.ref x12) = false)
    (y11_12 : PySem.W.subIn K (.ref x11) (.ref x12) = some false)
    (w12_0 : (Value.ref x12 == Value.ref x0) = false)
    (y12_0 : PySem.W.subIn K (.ref x12) (.ref x0) = some false)
    (w12_1 : (Value.ref x12 == Value.ref x1) = false)
    (y12_1 : PySem.W.subIn K (.ref x12) (.ref x1) = some false)
    (w12_2 : (Value.ref x12 == Value.ref x2) = false)
    (y12_2 : PySem.W.subIn K (.ref x12) (.ref x2) = some false)
    (w12_3 : (Value.ref x12 == Value.ref x3) = false)
    (y12_3 : PySem.W.subIn K (.ref x12) (.ref x3) = some false)
    (w12_4 : (Value.ref x12 == Value.ref x4) = false)
    (y12_4 : PySem.W.subIn K (.ref x12) (.ref x4) = some false)
    (w12_5 : (Value.ref x12 == Value.ref x5) = false)
    (y12_5 : PySem.W.subIn K (.ref x12) (.ref x5) = some false)
    (w12_6 : (Value.ref x12 == Value.ref x6) = false)
    (y12_6 : PySem.W.subIn K (.ref x12) (.ref x6) = some false)
    (w12_7 : (Value.ref x12 == Value.ref x7) = false)
    (y12_7 : PySem.W.subIn K (.ref x12) (.ref x7) = some false)
    (w12_8 : (Value.ref x12 == Value.ref x8) = false)
    (y12_8 : PySem.W.subIn K (.ref x12) (.ref x8) = some false)
    (w12_9 : (Value.ref x12 == Value.ref x9) = false)
    (y12_9 : PySem.W.subIn K (.ref x12) (.ref x9) = some false)
    (w12_10 : (Value.ref x12 == Value.ref x10) = false)
    (y12_10 : PySem.W.subIn K (.ref x12) (.ref x10) = some false)
    (w12_11 : (Value.ref x12 == Value.ref x11) = false)
    (y12_11 : PySem.W.subIn K (.ref x12) (.ref x11) = some false)
    (lC10 : K.lookup x10 = some (excClassObj nmC10 qC10 x10 N10 bs10 bm10 true sn10 sub10 ab10 col10 dd10 ka10 kb10 kc10 kd10 ke10 "ValueError.__new__"))
    (rC10 : PySem.HandSPX.refsVE bm10 = true)
    (sa10 : PySem.W.findIn K (.ref x10) "__setattr__" = some (some (.builtin "object.__setattr__")))
    (na10 : PySem.W.findIn K (.ref x10) "argument" = some none)
    (iI10 : PySem.W.findIn K (.ref x10) "__init__" = some (some (.ref fI10)))
    (tI10 : PySem.W.typeIn K (.ref fI10) = some (.type "function"))
    (lI10 : K.lookup fI10 = some (⟨uI10, oI10, .func (PySem.W.fnX "__init__" "Unbounded.__init__" (defArgs (ini 12)) (defBody (ini 12)) (defScope (ini 12)) [(("__class__" : Str), cc10)] .none .none dcI10 pmI10 none (.ref cI10) ctI10), sI10⟩ : Obj))
    (qI10 : PySem.W.codeIn K (.ref cI10) "Unbounded.__init__" = true)
    (lc10 : K.lookup cc10 = some (⟨uC10, cD10, .cell (some (.ref x10)), sC10⟩ : Obj))
    (le10 : K.lookup cI10 = some (⟨uE10, cE10, .fields vs10, sE10⟩ : Obj))
    (lv10 : vs10[2]? = some (.str file10 tf10))
    (lf10 : ((l.prog.main.file : Str) == file10) = true)
    (ms10 : PySem.W.mroIn K x10 (.ref x10) = some true)
    (ki10 : PySem.W.ks_superIn K x10 x10 "__init__" = some (some (.builtin "ValueError.__init__")))
    (lC11 : K.lookup x11 = some (excClassObj nmC11 qC11 x11 N11 bs11 bm11 true sn11 sub11 ab11 col11 dd11 ka11 kb11 kc11 kd11 ke11 "ValueError.__new__"))
    (rC11 : PySem.HandSPX.refsVE bm11 = true)
    (sa11 : PySem.W.findIn K (.ref x11) "__setattr__" = some (some (.builtin "object.__setattr__")))
    (na11 : PySem.W.findIn K (.ref x11) "name" = some none)
    (iI11 : PySem.W.findIn K (.ref x11) "__init__" = some (some (.ref fI11)))
    (tI11 : PySem.W.typeIn K (.ref fI11) = some (.type "function"))
    (lI11 : K.lookup fI11 = some (⟨uI11, oI11, .func (PySem.W.fnX "__init__" "Broken.__init__" (defArgs (ini 13)) (defBody (ini 13)) (defScope (ini 13)) [(("__class__" : Str), cc11)] .none .none dcI11 pmI11 none (.ref cI11) ctI11), sI11⟩ : Obj))
    (qI11 : PySem.W.codeIn K (.ref cI11) "Broken.__init__" = true)
    (lc11 : K.lookup cc11 = some (⟨uC11, cD11, .cell (some (.ref x11)), sC11⟩ : Obj))
    (le11 : K.lookup cI11 = some (⟨uE11, cE11, .fields vs11, sE11⟩ : Obj))
    (lv11 : vs11[2]? = some (.str file11 tf11))
    (lf11 : ((l.prog.main.file : Str) == file11) = true)
    (ms11 : PySem.W.mroIn K x11 (.ref x11) = some true)
    (ki11 : PySem.W.ks_superIn K x11 x11 "__init__" = some (some (.builtin "ValueError.__init__")))
    (lC12 : K.lookup x12 = some (excClassObj nmC12 qC12 x12 N12 bs12 bm12 true sn12 sub12 ab12 col12 dd12 ka12 kb12 kc12 kd12 ke12 "ValueError.__new__"))
    (rC12 : PySem.HandSPX.refsVE bm12 = true)
    (sa12 : PySem.W.findIn K (.ref x12) "__setattr__" = some (some (.builtin "object.__setattr__")))
    (na12 : PySem.W.findIn K (.ref x12) "name" = some none)
    (iI12 : PySem.W.findIn K (.ref x12) "__init__" = some (some (.ref fI12)))
    (tI12 : PySem.W.typeIn K (.ref fI12) = some (.type "function"))
    (lI12 : K.lookup fI12 = some (⟨uI12, oI12, .func (PySem.W.fnX "__init__" "Used.__init__" (defArgs (ini 14)) (defBody (ini 14)) (defScope (ini 14)) [(("__class__" : Str), cc12)] .none .none dcI12 pmI12 none (.ref cI12) ctI12), sI12⟩ : Obj))
    (qI12 : PySem.W.codeIn K (.ref cI12) "Used.__init__" = true)
    (lc12 : K.lookup cc12 = some (⟨uC12, cD12, .cell (some (.ref x12)), sC12⟩ : Obj))
    (le12 : K.lookup cI12 = some (⟨uE12, cE12, .fields vs12, sE12⟩ : Obj))
    (lv12 : vs12[2]? = some (.str file12 tf12))
    (lf12 : ((l.prog.main.file : Str) == file12) = true)
    (ms12 : PySem.W.mroIn K x12 (.ref x12) = some true)
    (ki12 : PySem.W.ks_superIn K x12 x12 "__init__" = some (some (.builtin "ValueError.__init__")))
    (tp : (l.prog.main.scope.names.lookup ("super" : Str)).isSome = false)
    (oq : PySem.W.nsIn K cStatics "thirdparty.any" = some none)
    (z1 : PySem.W.nsIn K mainGlobals "range" = some none)
    (z2 : PySem.W.nsIn K mainGlobals "list" = some none)
    (z3 : PySem.W.nsIn K mainGlobals "reversed" = some none)
    (z4 : PySem.W.nsIn K mainGlobals "isinstance" = some none)
    (z5 : PySem.W.nsIn K mainGlobals "ValueError" = some none)
    (z6 : PySem.W.nsIn K mainGlobals "max" = some none)
    (z7 : PySem.W.nsIn K mainGlobals "min" = some none)
    (z8 : PySem.W.nsIn K mainGlobals "repr" = some none)
    (z9 : PySem.W.nsIn K mainGlobals "super" = some none) :
    LawG l w K CX0 12 63 "_law_script" mg fa h := by
  have e := hfa.symm.trans (PySem.W.mg_of X G a14)
  cases e
  have F1 := fun_mk (st := tThings) l1 q1 k1
  have b1 := F1.binds (ps := ["sizes", "name"]) fun _ _ _ _ _ _ us hl => match us, hl with | [_, _], _ => rfl
  have g1 := PySem.W.mg_of X G a1
  have F2 := fun_mk (st := tCut) l2 q2 k2
  have b2 := F2.binds (ps := ["many"]) fun _ _ _ _ _ _ us hl => match us, hl with | [_], _ => rfl
  have g2 := PySem.W.mg_of X G a2
  have F3 := fun_mk (st := tMany) l3 q3 k3
  have b3 := F3.binds (ps := psMany) fun _ _ _ _ _ _ us hl => match us, hl with | [_, _, _], _ => rfl
  have g3 := PySem.W.mg_of X G a3
  have F4 := fun_mk (st := tManyL) l4 q4 k4
  have b4 := F4.binds (ps := ["many", "bound"]) fun _ _ _ _ _ _ us hl => match us, hl with | [_, _], _ => rfl
  have g4 := PySem.W.mg_of X G a4
  have F5 := fun_mk (st := tWorths) l5 q5 k5
  have b5 := F5.binds (ps := psMany) fun _ _ _ _ _ _ us hl => match us, hl with | [_, _, _], _ => rfl
  have g5 := PySem.W.mg_of X G a5
  have F6 := fun_mk (st := tDeck) l6 q6 k6
  have b6 := F6.binds (ps := ["_law_script"]) fun _ _ _ _ _ _ us hl => match us, hl with | [_], _ => rfl
  have g6 := PySem.W.mg_of X G a6
  have F7 := fun_mk (st := tMixed) l7 q7 k7
  have b7 := F7.binds (ps := ["_law_cell", "_law_k"]) fun _ _ _ _ _ _ us hl => match us, hl with | [_, _], _ => rfl
  have g7 := PySem.W.mg_of X G a7
  have F8 := fun_mk (st := tDraw) l8 q8 k8
  have b8 := F8.binds (ps := ["_law_deck_here", "_law_most"]) fun _ _ _ _ _ _ us hl => match us, hl with | [_, _], _ => rfl
  have g8 := PySem.W.mg_of X G a8
  have F9 := fun_mk (st := tNames) l9 q9 k9
  have b9 := F9.binds (ps := ["_law_deck_here", "_law_many"]) fun _ _ _ _ _ _ us hl => match us, hl with | [_, _], _ => rfl
  have g9 := PySem.W.mg_of X G a9
  have F10 := fun_mk (st := tLKinds) l10 q10 k10
  have b10 := F10.binds (ps := ["_law_error"]) fun _ _ _ _ _ _ us hl => match us, hl with | [_], _ => rfl
  have g10 := PySem.W.mg_of X G a10
  have F11 := fun_mk (st := tLRaised) l11 q11 k11
  have b11 := F11.binds (ps := psRaised) fun _ _ _ _ _ _ us hl => match us, hl with | [_, _, _, _], _ => rfl
  have g11 := PySem.W.mg_of X G a11
  have F12 := fun_mk (st := tLField) l12 q12 k12
  have b12 := F12.binds (ps := psField) fun _ _ _ _ _ _ us hl => match us, hl with | [_, _], _ => rfl
  have g12 := PySem.W.mg_of X G a12
  have F13 := fun_mk (st := tLRight) l13 q13 k13
  have b13 := F13.binds (ps := psRaised) fun _ _ _ _ _ _ us hl => match us, hl with | [_, _, _, _], _ => rfl
  have g13 := PySem.W.mg_of X G a13
  have F14 := fun_mk (st := tLaw) l14 q14 k14
  have m_range := PySem.W.mg_none_of X G z1
  have m_list := PySem.W.mg_none_of X G z2
  have m_reversed := PySem.W.mg_none_of X G z3
  have m_isinstance := PySem.W.mg_none_of X G z4
  have m_ValueError := PySem.W.mg_none_of X G z5
  have m_max := PySem.W.mg_none_of X G z6
  have m_min := PySem.W.mg_none_of X G z7
  have m_repr := PySem.W.mg_none_of X G z8
  have m_super := PySem.W.mg_none_of X G z9
  have gM := PySem.W.mg_of X G aM
  let C : Nat → Addr := (fun i => [x0, x1, x2, x3, x4, x5, x6, x7, x8, x9, x10, x11, x12].getD i 0)
  have OE10 : OexC K x10 := ⟨⟨_, _, _, _, _, _, _, _, _, _, _, _, _, _, _, lC10, rC10⟩, sa10, xb10, xt10, xk10⟩
  have OE11 : OexC K x11 := ⟨⟨_, _, _, _, _, _, _, _, _, _, _, _, _, _, _, lC11, rC11⟩, sa11, xb11, xt11, xk11⟩
  have OE12 : OexC K x12 := ⟨⟨_, _, _, _, _, _, _, _, _, _, _, _, _, _, _, lC12, rC12⟩, sa12, xb12, xt12, xk12⟩
  have cs : Cs K mg C cK := {
    gK := PySem.W.mg_of X G aK
    m0 := PySem.W.mg_of X G xa0
    m1 := PySem.W.mg_of X G xa1
    m2 := PySem.W.mg_of X G xa2
    m3 := PySem.W.mg_of X G xa3
    m4 := PySem.W.mg_of X G xa4
    m5 := PySem.W.mg_of X G xa5
    m6 := PySem.W.mg_of X G xa6
    m7 := PySem.W.mg_of X G xa7
    m8 := PySem.W.mg_of X G xa8
    m9 := PySem.W.mg_of X G xa9
    m10 := PySem.W.mg_of X G xa10
    m11 := PySem.W.mg_of X G xa11
    m12 := PySem.W.mg_of X G xa12
    ec := all13 (p := fun i => ExcC K (C i)) ⟨xg0, xh0, xb0, xd0, xc0, sX, uX, xm0⟩ ⟨xg1, xh1, xb1, xd1, xc1, sX, uX, xm1⟩ ⟨xg2, xh2, xb2, xd2, xc2, sX, uX, xm2⟩ ⟨xg3, xh3, xb3, xd3, xc3, sX, uX, xm3⟩ ⟨xg4, xh4, xb4, xd4, xc4, sX, uX, xm4⟩ ⟨xg5, xh5, xb5, xd5, xc5, sX, uX, xm5⟩ ⟨xg6, xh6, xb6, xd6, xc6, sX, uX, xm6⟩ ⟨xg7, xh7, xb7, xd7, xc7, sX, uX, xm7⟩ ⟨xg8, xh8, xb8, xd8, xc8, sX, uX, xm8⟩ ⟨xg9, xh9, xb9, xd9, xc9, sX, uX, xm9⟩ ⟨xg10, xh10, xb10, xd10, xc10, sX, uX, xm10⟩ ⟨xg11, xh11, xb11, xd11, xc11, sX, uX, xm11⟩ ⟨xg12, xh12, xb12, xd12, xc12, sX, uX, xm12⟩
    nn := fun i j hi hj => all13 (p := fun i => ∀ j, j < 13 → PySem.W.kitOne K (.ref (C i)) (.ref (C j)) = some (decide (j = i))) (all13 (p := fun j => PySem.W.kitOne K (.ref (C 0)) (.ref (C j)) = some (decide (j = 0))) kit_self (kit_no w0_1 xi1 xt1 y0_1) (kit_no w0_2 xi2 xt2 y0_2) (kit_no w0_3 xi3 xt3 y0_3) (kit_no w0_4 xi4 xt4 y0_4) (kit_no w0_5 xi5 xt5 y0_5) (kit_no w0_6 xi6 xt6 y0_6) (kit_no w0_7 xi7 xt7 y0_7) (kit_no w0_8 xi8 xt8 y0_8) (kit_no w0_9 xi9 xt9 y0_9) (kit_no w0_10 xi10 xt10 y0_10) (kit_no w0_11 xi11 xt11 y0_11) (kit_no w0_12 xi12 xt12 y0_12)) (all13 (p := fun j => PySem.W.kitOne K (.ref (C 1)) (.ref (C j)) = some (decide (j = 1))) (kit_no w1_0 xi0 xt0 y1_0) kit_self (kit_no w1_2 xi2 xt2 y1_2) (kit_no w1_3 xi3 xt3 y1_3) (kit_no w1_4 xi4 xt4 y1_4) (kit_no w1_5 xi5 xt5 y1_5) (kit_no w1_6 xi6 xt6 y1_6) (kit_no w1_7 xi7 xt7 y1_7) (kit_no w1_8 xi8 xt8 y1_8) (kit_no w1_9 xi9 xt9 y1_9) (kit_no w1_10 xi10 xt10 y1_10) (kit_no w1_11 xi11 xt11 y1_11) (kit_no w1_12 xi12 xt12 y1_12)) (all13 (p := fun j => PySem.W.kitOne K (.ref (C 2)) (.ref (C j)) = some (decide (j = 2))) (kit_no w2_0 xi0 xt0 y2_0) (kit_no w2_1 xi1 xt1 y2_1) kit_self (kit_no w2_3 xi3 xt3 y2_3) (kit_no w2_4 xi4 xt4 y2_4) (kit_no w2_5 xi5 xt5 y2_5) (kit_no w2_6 xi6 xt6 y2_6) (kit_no w2_7 xi7 xt7 y2_7) (kit_no w2_8 xi8 xt8 y2_8) (kit_no w2_9 xi9 xt9 y2_9) (kit_no w2_10 xi10 xt10 y2_10) (kit_no w2_11 xi11 xt11 y2_11) (kit_no w2_12 xi12 xt12 y2_12)) (all13 (p := fun j => PySem.W.kitOne K (.ref (C 3)) (.ref (C j)) = some (decide (j = 3))) (kit_no w3_0 xi0 xt0 y3_0) (kit_no w3_1 xi1 xt1 y3_1) (kit_no w3_2 xi2 xt2 y3_2) kit_self (kit_no w3_4 xi4 xt4 y3_4) (kit_no w3_5 xi5 xt5 y3_5) (kit_no w3_6 xi6 xt6 y3_6) (kit_no w3_7 xi7 xt7 y3_7) (kit_no w3_8 xi8 xt8 y3_8) (kit_no w3_9 xi9 xt9 y3_9) (kit_no w3_10 xi10 xt10 y3_10) (kit_no w3_11 xi11 xt11 y3_11) (kit_no w3_12 xi12 xt12 y3_12)) (all13 (p := fun j => PySem.W.kitOne K (.ref (C 4)) (.ref (C j)) = some (decide (j = 4))) (kit_no w4_0 xi0 xt0 y4_0) (kit_no w4_1 xi1 xt1 y4_1) (kit_no w4_2 xi2 xt2 y4_2) (kit_no w4_3 xi3 xt3 y4_3) kit_self (kit_no w4_5 xi5 xt5 y4_5) (kit_no w4_6 xi6 xt6 y4_6) (kit_no w4_7 xi7 xt7 y4_7) (kit_no w4_8 xi8 xt8 y4_8) (kit_no w4_9 xi9 xt9 y4_9) (kit_no w4_10 xi10 xt10 y4_10) (kit_no w4_11 xi11 xt11 y4_11) (kit_no w4_12 xi12 xt12 y4_12)) (all13 (p := fun j => PySem.W.kitOne K (.ref (C 5)) (.ref (C j)) = some (decide (j = 5))) (kit_no w5_0 xi0 xt0 y5_0) (kit_no w5_1 xi1 xt1 y5_1) (kit_no w5_2 xi2 xt2 y5_2) (kit_no w5_3 xi3 xt3 y5_3) (kit_no w5_4 xi4 xt4 y5_4) kit_self (kit_no w5_6 xi6 xt6 y5_6) (kit_no w5_7 xi7 xt7 y5_7) (kit_no w5_8 xi8 xt8 y5_8) (kit_no w5_9 xi9 xt9 y5_9) (kit_no w5_10 xi10 xt10 y5_10) (kit_no w5_11 xi11 xt11 y5_11) (kit_no w5_12 xi12 xt12 y5_12)) (all13 (p := fun j => PySem.W.kitOne K (.ref (C 6)) (.ref (C j)) = some (decide (j = 6))) (kit_no w6_0 xi0 xt0 y6_0) (kit_no w6_1 xi1 xt1 y6_1) (kit_no w6_2 xi2 xt2 y6_2) (kit_no w6_3 xi3 xt3 y6_3) (kit_no w6_4 xi4 xt4 y6_4) (kit_no w6_5 xi5 xt5 y6_5) kit_self (kit_no w6_7 xi7 xt7 y6_7) (kit_no w6_8 xi8 xt8 y6_8) (kit_no w6_9 xi9 xt9 y6_9) (kit_no w6_10 xi10 xt10 y6_10) (kit_no w6_11 xi11 xt11 y6_11) (kit_no w6_12 xi12 xt12 y6_12)) (all13 (p := fun j => PySem.W.kitOne K (.ref (C 7)) (.ref (C j)) = some (decide (j = 7))) (kit_no w7_0 xi0 xt0 y7_0) (kit_no w7_1 xi1 xt1 y7_1) (kit_no w7_2 xi2 xt2 y7_2) (kit_no w7_3 xi3 xt3 y7_3) (kit_no w7_4 xi4 xt4 y7_4) (kit_no w7_5 xi5 xt5 y7_5) (kit_no w7_6 xi6 xt6 y7_6) kit_self (kit_no w7_8 xi8 xt8 y7_8) (kit_no w7_9 xi9 xt9 y7_9) (kit_no w7_10 xi10 xt10 y7_10) (kit_no w7_11 xi11 xt11 y7_11) (kit_no w7_12 xi12 xt12 y7_12)) (all13 (p := fun j => PySem.W.kitOne K (.ref (C 8)) (.ref (C j)) = some (decide (j = 8))) (kit_no w8_0 xi0 xt0 y8_0) (kit_no w8_1 xi1 xt1 y8_1) (kit_no w8_2 xi2 xt2 y8_2) (kit_no w8_3 xi3 xt3 y8_3) (kit_no w8_4 xi4 xt4 y8_4) (kit_no w8_5 xi5 xt5 y8_5) (kit_no w8_6 xi6 xt6 y8_6) (kit_no w8_7 xi7 xt7 y8_7) kit_self (kit_no w8_9 xi9 xt9 y8_9) (kit_no w8_10 xi10 xt10 y8_10) (kit_no w8_11 xi11 xt11 y8_11) (kit_no w8_12 xi12 xt12 y8_12)) (all13 (p := fun j => PySem.W.kitOne K (.ref (C 9)) (.ref (C j)) = some (decide (j = 9))) (kit_no w9_0 xi0 xt0 y9_0) (kit_no w9_1 xi1 xt1 y9_1) (kit_no w9_2 xi2 xt2 y9_2) (kit_no w9_3 xi3 xt3 y9_3) (kit_no w9_4 xi4 xt4 y9_4) (kit_no w9_5 xi5 xt5 y9_5) (kit_no w9_6 xi6 xt6 y9_6) (kit_no w9_7 xi7 xt7 y9_7) (kit_no w9_8 xi8 xt8 y9_8) kit_self (kit_no w9_10 xi10 xt10 y9_10) (kit_no w9_11 xi11 xt11 y9_11) (kit_no w9_12 xi12 xt12 y9_12)) (all13 (p := fun j => PySem.W.kitOne K (.ref (C 10)) (.ref (C j)) = some (decide (j = 10))) (kit_no w10_0 xi0 xt0 y10_0) (kit_no w10_1 xi1 xt1 y10_1) (kit_no w10_2 xi2 xt2 y10_2) (kit_no w10_3 xi3 xt3 y10_3) (kit_no w10_4 xi4 xt4 y10_4) (kit_no w10_5 xi5 xt5 y10_5) (kit_no w10_6 xi6 xt6 y10_6) (kit_no w10_7 xi7 xt7 y10_7) (kit_no w10_8 xi8 xt8 y10_8) (kit_no w10_9 xi9 xt9 y10_9) kit_self (kit_no w10_11 xi11 xt11 y10_11) (kit_no w10_12 xi12 xt12 y10_12)) (all13 (p := fun j => PySem.W.kitOne K (.ref (C 11)) (.ref (C j)) = some (decide (j = 11))) (kit_no w11_0 xi0 xt0 y11_0) (kit_no w11_1 xi1 xt1 y11_1) (kit_no w11_2 xi2 xt2 y11_2) (kit_no w11_3 xi3 xt3 y11_3) (kit_no w11_4 xi4 xt4 y11_4) (kit_no w11_5 xi5 xt5 y11_5) (kit_no w11_6 xi6 xt6 y11_6) (kit_no w11_7 xi7 xt7 y11_7) (kit_no w11_8 xi8 xt8 y11_8) (kit_no w11_9 xi9 xt9 y11_9) (kit_no w11_10 xi10 xt10 y11_10) kit_self (kit_no w11_12 xi12 xt12 y11_12)) (all13 (p := fun j => PySem.W.kitOne K (.ref (C 12)) (.ref (C j)) = some (decide (j = 12))) (kit_no w12_0 xi0 xt0 y12_0) (kit_no w12_1 xi1 xt1 y12_1) (kit_no w12_2 xi2 xt2 y12_2) (kit_no w12_3 xi3 xt3 y12_3) (kit_no w12_4 xi4 xt4 y12_4) (kit_no w12_5 xi5 xt5 y12_5) (kit_no w12_6 xi6 xt6 y12_6) (kit_no w12_7 xi7 xt7 y12_7) (kit_no w12_8 xi8 xt8 y12_8) (kit_no w12_9 xi9 xt9 y12_9) (kit_no w12_10 xi10 xt10 y12_10) (kit_no w12_11 xi11 xt11 y12_11) kit_self) i hi j hj
    nv := all13 (p := fun i => PySem.W.kitOne K (.ref (C i)) (.type "ValueError") = some true) (kit_tyV xv0) (kit_tyV xv1) (kit_tyV xv2) (kit_tyV xv3) (kit_tyV xv4) (kit_tyV xv5) (kit_tyV xv6) (kit_tyV xv7) (kit_tyV xv8) (kit_tyV xv9) (kit_tyV xv10) (kit_tyV xv11) (kit_tyV xv12)
    eP := all13 (p := fun i => PySem.W.exmOne K (.ref (C i)) (.ref cK) = some true) (exm_yes bK iK tK xs0) (exm_yes bK iK tK xs1) (exm_yes bK iK tK xs2) (exm_yes bK iK tK xs3) (exm_yes bK iK tK xs4) (exm_yes bK iK tK xs5) (exm_yes bK iK tK xs6) (exm_yes bK iK tK xs7) (exm_yes bK iK tK xs8) (exm_yes bK iK tK xs9) (exm_yes bK iK tK xs10) (exm_yes bK iK tK xs11) (exm_yes bK iK tK xs12)
    xP := all10 (p := fun i => PySem.W.excIn K (C i) [.type "ValueError", .type "Exception", .type "BaseException", .type "object"] "ValueError.__new__" = true) xP0 xP1 xP2 xP3 xP4 xP5 xP6 xP7 xP8 xP9
    kP := all13 (p := fun i => PySem.W.keepIn K (.ref (C i)) = true) xk0 xk1 xk2 xk3 xk4 xk5 xk6 xk7 xk8 xk9 xk10 xk11 xk12
    bP := all13 (p := fun i => PySem.W.subIn K (.ref (C i)) (.type "BaseException") = some true) xb0 xb1 xb2 xb3 xb4 xb5 xb6 xb7 xb8 xb9 xb10 xb11 xb12
    tP := all13 (p := fun i => PySem.W.typeIn K (.ref (C i)) = some (.type "type")) xt0 xt1 xt2 xt3 xt4 xt5 xt6 xt7 xt8 xt9 xt10 xt11 xt12
    xf := all3 (p := fun i => XfC K (C i)) ⟨xg10, xh10, xb10, xd10⟩ ⟨xg11, xh11, xb11, xd11⟩ ⟨xg12, xh12, xb12, xd12⟩
    oe := all3 (p := fun i => OexC K (C i)) OE10 OE11 OE12
    na := na10
    nb := na11
    nc := na12 }
  refine ⟨PySem.W.fnOf "law" "law" (defArgs tLaw) (defBody tLaw) (defScope tLaw) .none kV14 dc14 pm14 an14 cd14 ct14, [], spLaw K, (fun p hp => by cases hp), fun s v => .of_eq rfl, fun H a ns hl _ hH hS => ⟨a, ns, rfl, hS, hl, fun _ => rfl⟩, fun base _ _ TB => ?_⟩
  have S10 : Ksi.SupC l.prog K (NF.mk "__init__" "Unbounded.__init__" (defArgs (ini 12)) (defBody (ini 12)) (defScope (ini 12)) [(("__class__" : Str), cc10)] cI10) x10 "self" := ⟨OE10, ⟨cc10, _, _, _, rfl, lc10⟩, ⟨_, rfl, rfl⟩, ⟨_, _, _, _, _, _, le10, lv10, lf10⟩, tp, ms10, ki10, xv10, oq, rfl⟩
  have I10 : Ini l.prog w K mg base 8 x10 "argument" "argument" := ini12 (k := 7) _ rfl lI10 qI10 S10 m_super na10 iI10 tI10
  have S11 : Ksi.SupC l.prog K (NF.mk "__init__" "Broken.__init__" (defArgs (ini 13)) (defBody (ini 13)) (defScope (ini 13)) [(("__class__" : Str), cc11)] cI11) x11 "self" := ⟨OE11, ⟨cc11, _, _, _, rfl, lc11⟩, ⟨_, rfl, rfl⟩, ⟨_, _, _, _, _, _, le11, lv11, lf11⟩, tp, ms11, ki11, xv11, oq, rfl⟩
  have I11 : Ini l.prog w K mg base 8 x11 "name" "name" := ini13 (k := 7) _ rfl lI11 qI11 S11 m_super na11 iI11 tI11
  have S12 : Ksi.SupC l.prog K (NF.mk "__init__" "Used.__init__" (defArgs (ini 14)) (defBody (ini 14)) (defScope (ini 14)) [(("__class__" : Str), cc12)] cI12) x12 "self" := ⟨OE12, ⟨cc12, _, _, _, rfl, lc12⟩, ⟨_, rfl, rfl⟩, ⟨_, _, _, _, _, _, le12, lv12, lf12⟩, tp, ms12, ki12, xv12, oq, rfl⟩
  have I12 : Ini l.prog w K mg base 8 x12 "name" "name" := ini14 (k := 7) _ rfl lI12 qI12 S12 m_super na12 iI12 tI12
  have D0 : ∀ k, FnOk l.prog w K mg base CX0 (k + 2) f8 _ ["_law_deck_here", "_law_most"] spDraw := fun k => okDraw F8 F7 b7 g7
  have CU : ∀ k, FnOk l.prog w K mg base CX0 (k + 1) f2 _ ["many"] spCut := fun k => okCut F2 gM rM m_min
  have TH : ∀ k, FnOk l.prog w K mg base CX0 (k + 1) f1 _ ["sizes", "name"] spThings := fun k => okThings F1
  have ML : ∀ k, FnOk l.prog w K mg base CX0 (k + 2) f4 _ ["many", "bound"] spManyL := fun k => okManyL F4 (CU k) b2 g2 k2 gM rM m_range
  have MA := okMany (P := l.prog) (w := w) (base := base) F3 b3 g3 CU b2 g2 k2 TH b1 g1 k1 ML b4 g4 k4
  have WO := okWorths (P := l.prog) (w := w) (base := base) (C := C) (n := 3) (k := 10) F5 cs (upOk (MA 3) (by decide)) b3 g3 k3 gM rM
  have KI := okKinds (P := l.prog) (w := w) (base := base) (k := 9) F10 cs m_isinstance
  have KJ := okKinds (P := l.prog) (w := w) (base := base) (k := 10) F10 cs m_isinstance
  have FI := okField (P := l.prog) (w := w) (base := base) (k := 9) F12 cs
  have RA := raisedU (okRaised (P := l.prog) (w := w) (base := base) (k := 8) F11 cs I10 I11 I12)
  have RI := okRight (P := l.prog) (w := w) (base := base) (k := 10) F13 cs RA b11 g11 k11 KI b10 g10 k10 FI b12 g12 k12 m_isinstance m_ValueError m_max m_range m_repr
  have NM := okNames (P := l.prog) (w := w) (base := base) (k := 8) F9 (D0 8) b8 g8 k8 m_list m_range
  exact okLaw (k := 11) F14 cs (okDeck (k := 10) F6 m_list m_reversed) b6 g6 k6 (D0 9) b8 g8 k8 NM b9 g9 k9 RI b13 g13 k13 WO b5 g5 k5 KJ b10 g10 k10 m_range
end Kq
open PySem PySem.W PyProof.Rows
set_option maxRecDepth 100000 in
set_option maxHeartbeats 0 in
theorem PySem.Challenge.cw_kindalone_k08_refusals_made_holds : PySem.Challenge.rw_kindalone_k08_refusals_made.Holds := by
  w_on; o_law; k_head; (case hw => w_witness2)
  k_fill
  refine Kf.walk_ofG (l := PySem.Challenge.rw_kindalone_k08_refusals_made) (n := 63) (k := 12) (x := "_law_script") (CX := fun _ => L2.CX0) rfl (by decide) rfl ⟨rfl, by decide, by decide⟩ (fun w h Y => PySem.W.kIn_of Y) ?F (fun _ _ _ _ _ h => h)
  case F =>
    intro w mg fa h Y KX G hmg tabs
    refine' Kq.all_mk KX G hmg ?a1 ?l1 ?q1 ?k1 ?a2 ?l2 ?q2 ?k2 ?a3 ?l3 ?q3 ?k3 ?a4 ?l4 ?q4 ?k4 ?a5 ?l5 ?q5 ?k5 ?a6 ?l6 ?q6 ?k6 ?a7 ?l7 ?q7 ?k7 ?a8 ?l8 ?q8 ?k8 ?a9 ?l9 ?q9 ?k9 ?a10 ?l10 ?q10 ?k10 ?a11 ?l11 ?q11 ?k11 ?a12 ?l12 ?q12 ?k12 ?a13 ?l13 ?q13 ?k13 ?a14 ?l14 ?q14 ?k14 ?aM ?rM ?aK ?bK ?iK ?tK ?sX ?uX ?xa0 ?xg0 ?xh0 ?xb0 ?xd0 ?xc0 ?xm0 ?xi0 ?xt0 ?xk0 ?xv0 ?xs0 ?xP0 ?xa1 ?xg1 ?xh1 ?xb1 ?xd1 ?xc1 ?xm1 ?xi1 ?xt1 ?xk1 ?xv1 ?xs1 ?xP1 ?xa2 ?xg2 ?xh2 ?xb2 ?xd2 ?xc2 ?xm2 ?xi2 ?xt2 ?xk2 ?xv2 ?xs2 ?xP2 ?xa3 ?xg3 ?xh3 ?xb3 ?xd3 ?xc3 ?xm3 ?xi3 ?xt3 ?xk3 ?xv3 ?xs3 ?xP3 ?xa4 ?xg4 ?xh4 ?xb4 ?xd4 ?xc4 ?xm4 ?xi4 ?xt4 ?xk4 ?xv4 ?xs4 ?xP4 ?xa5 ?xg5 ?xh5 ?xb5 ?xd5 ?xc5 ?xm5 ?xi5 ?xt5 ?xk5 ?xv5 ?xs5 ?xP5 ?xa6 ?xg6 ?xh6 ?xb6 ?xd6 ?xc6 ?xm6 ?xi6 ?xt6 ?xk6 ?xv6 ?xs6 ?xP6 ?xa7 ?xg7 ?xh7 ?xb7 ?xd7 ?xc7 ?xm7 ?xi7 ?xt7 ?xk7 ?xv7 ?xs7 ?xP7 ?xa8 ?xg8 ?xh8 ?xb8 ?xd8 ?xc8 ?xm8 ?xi8 ?xt8 ?xk8 ?xv8 ?xs8 ?xP8 ?xa9 ?xg9 ?xh9 ?xb9 ?xd9 ?xc9 ?xm9 ?xi9 ?xt9 ?xk9 ?xv9 ?xs9 ?xP9 ?xa10 ?xg10 ?xh10 ?xb10 ?xd10 ?xc10 ?xm10 ?xi10 ?xt10 ?xk10 ?xv10 ?xs10 ?xa11 ?xg11 ?xh11 ?xb11 ?xd11 ?xc11 ?xm11 ?xi11 ?xt11 ?xk11 ?xv11 ?xs11 ?xa12 ?xg12 ?xh12 ?xb12 ?xd12 ?xc12 ?xm12 ?xi12 ?xt12 ?xk12 ?xv12 ?xs12 ?w0_1 ?y0_1 ?w0_2 ?y0_2 ?w0_3 ?y0_3 ?w0_4 ?y0_4 ?w0_5 ?y0_5 ?w0_6 ?y0_6 ?w0_7 ?y0_7 ?w0_8 ?y0_8 ?w0_9 ?y0_9 ?w0_10 ?y0_10 ?w0_11 ?y0_11 ?w0_12 ?y0_12 ?w1_0 ?y1_0 ?w1_2 ?y1_2 ?w1_3 ?y1_3 ?w1_4 ?y1_4 ?w1_5 ?y1_5 ?w1_6 ?y1_6 ?w1_7 ?y1_7 ?w1_8 ?y1_8 ?w1_9 ?y1_9 ?w1_10 ?y1_10 ?w1_11 ?y1_11 ?w1_12 ?y1_12 ?w2_0 ?y2_0 ?w2_1 ?y2_1 ?w2_3 ?y2_3 ?w2_4 ?y2_4 ?w2_5 ?y2_5 ?w2_6 ?y2_6 ?w2_7 ?y2_7 ?w2_8 ?y2_8 ?w2_9 ?y2_9 ?w2_10 ?y2_10 ?w2_11 ?y2_11 ?w2_12 ?y2_12 ?w3_0 ?y3_0 ?w3_1 ?y3_1 ?w3_2 ?y3_2 ?w3_4 ?y3_4 ?w3_5 ?y3_5 ?w3_6 ?y3_6 ?w3_7 ?y3_7 ?w3_8 ?y3_8 ?w3_9 ?y3_9 ?w3_10 ?y3_10 ?w3_11 ?y3_11 ?w3_12 ?y3_12 ?w4_0 ?y4_0 ?w4_1 ?y4_1 ?w4_2 ?y4_2 ?w4_3 ?y4_3 ?w4_5 ?y4_5 ?w4_6 ?y4_6 ?w4_7 ?y4_7 ?w4_8 ?y4_8 ?w4_9 ?y4_9 ?w4_10 ?y4_10 ?w4_11 ?y4_11 ?w4_12 ?y4_12 ?w5_0 ?y5_0 ?w5_1 ?y5_1 ?w5_2 ?y5_2 ?w5_3 ?y5_3 ?w5_4 ?y5_4 ?w5_6 ?y5_6 ?w5_7 ?y5_7 ?w5_8 ?y5_8 ?w5_9 ?y5_9 ?w5_10 ?y5_10 ?w5_11 ?y5_11 ?w5_12 ?y5_12 ?w6_0 ?y6_0 ?w6_1 ?y6_1 ?w6_2 ?y6_2 ?w6_3 ?y6_3 ?w6_4 ?y6_4 ?w6_5 ?y6_5 ?w6_7 ?y6_7 ?w6_8 ?y6_8 ?w6_9 ?y6_9 ?w6_10 ?y6_10 ?w6_11 ?y6_11 ?w6_12 ?y6_12 ?w7_0 ?y7_0 ?w7_1 ?y7_1 ?w7_2 ?y7_2 ?w7_3 ?y7_3 ?w7_4 ?y7_4 ?w7_5 ?y7_5 ?w7_6 ?y7_6 ?w7_8 ?y7_8 ?w7_9 ?y7_9 ?w7_10 ?y7_10 ?w7_11 ?y7_11 ?w7_12 ?y7_12 ?w8_0 ?y8_0 ?w8_1 ?y8_1 ?w8_2 ?y8_2 ?w8_3 ?y8_3 ?w8_4 ?y8_4 ?w8_5 ?y8_5 ?w8_6 ?y8_6 ?w8_7 ?y8_7 ?w8_9 ?y8_9 ?w8_10 ?y8_10 ?w8_11 ?y8_11 ?w8_12 ?y8_12 ?w9_0 ?y9_0 ?w9_1 ?y9_1 ?w9_2 ?y9_2 ?w9_3 ?y9_3 ?w9_4 ?y9_4 ?w9_5 ?y9_5 ?w9_6 ?y9_6 ?w9_7 ?y9_7 ?w9_8 ?y9_8 ?w9_10 ?y9_10 ?w9_11 ?y9_11 ?w9_12 ?y9_12 ?w10_0 ?y10_0 ?w10_1 ?y10_1 ?w10_2 ?y10_2 ?w10_3 ?y10_3 ?w10_4 ?y10_4 ?w10_5 ?y10_5 ?w10_6 ?y10_6 ?w10_7 ?y10_7 ?w10_8 ?y10_8 ?w10_9 ?y10_9 ?w10_11 ?y10_11 ?w10_12 ?y10_12 ?w11_0 ?y11_0 ?w11_1 ?y11_1 ?w11_2 ?y11_2 ?w11_3 ?y11_3 ?w11_4 ?y11_4 ?w11_5 ?y11_5 ?w11_6 ?y11_6 ?w11_7 ?y11_7 ?w11_8 ?y11_8 ?w11_9 ?y11_9 ?w11_10 ?y11_10 ?w11_12 ?y11_12 ?w12_0 ?y12_0 ?w12_1 ?y12_1 ?w12_2 ?y12_2 ?w12_3 ?y12_3 ?w12_4 ?y12_4 ?w12_5 ?y12_5 ?w12_6 ?y12_6 ?w12_7 ?y12_7 ?w12_8 ?y12_8 ?w12_9 ?y12_9 ?w12_10 ?y12_10 ?w12_11 ?y12_11 ?lC10 ?rC10 ?sa10 ?na10 ?iI10 ?tI10 ?lI10 ?qI10 ?lc10 ?le10 ?lv10 ?lf10 ?ms10 ?ki10 ?lC11 ?rC11 ?sa11 ?na11 ?iI11 ?tI11 ?lI11 ?qI11 ?lc11 ?le11 ?lv11 ?lf11 ?ms11 ?ki11 ?lC12 ?rC12 ?sa12 ?na12 ?iI12 ?tI12 ?lI12 ?qI12 ?lc12 ?le12 ?lv12 ?lf12 ?ms12 ?ki12 ?tp ?oq ?z1 ?z2 ?z3 ?z4 ?z5 ?z6 ?z7 ?z8 ?z9
    (case a1 => k_is)
    (case l1 => k_is)
    (case q1 => k_is)
    (case k1 => k_is)
    (case a2 => k_is)
    (case l2 => k_is)
    (case q2 => k_is)
    (case k2 => k_is)
    (case a3 => k_is)
    (case l3 => k_is)
    (case q3 => k_is)
    (case k3 => k_is)
    (case a4 => k_is)
    (case l4 => k_is)
    (case q4 => k_is)
    (case k4 => k_is)
    (case a5 => k_is)
    (case l5 => k_is)
    (case q5 => k_is)
    (case k5 => k_is)
    (case a6 => k_is)
    (case l6 => k_is)
    (case q6 => k_is)
    (case k6 => k_is)
    (case a7 => k_is)
    (case l7 => k_is)
    (case q7 => k_is)
    (case k7 => k_is)
    (case a8 => k_is)
    (case l8 => k_is)
    (case q8 => k_is)
    (case k8 => k_is)
    (case a9 => k_is)
    (case l9 => k_is)
    (case q9 => k_is)
    (case k9 => k_is)
    (case a10 => k_is)
    (case l10 => k_is)
    (case q10 => k_is)
    (case k10 => k_is)
    (case a11 => k_is)
    (case l11 => k_is)
    (case q11 => k_is)
    (case k11 => k_is)
    (case a12 => k_is)
    (case l12 => k_is)
    (case q12 => k_is)
    (case k12 => k_is)
    (case a13 => k_is)
    (case l13 => k_is)
    (case q13 => k_is)
    (case k13 => k_is)
    (case a14 => k_is)
    (case l14 => k_is)
    (case q14 => k_is)
    (case k14 => k_is)
    (case aM => k_is)
    (case rM => exact ⟨_, rfl⟩)
    (case aK => k_is)
    (case bK => k_is)
    (case iK => k_is)
    (case tK => k_is)
    (case sX => k_is)
    (case uX => k_is)
    (case xa0 => k_is)
    (case xg0 => k_is)
    (case xh0 => k_is)
    (case xb0 => k_is)
    (case xd0 => k_is)
    (case xc0 => k_is)
    (case xm0 => k_is)
    (case xi0 => k_is)
    (case xt0 => k_is)
    (case xk0 => k_is)
    (case xv0 => k_is)
    (case xs0 => k_is)
    (case xP0 => k_exc)
    (case xa1 => k_is)
    (case xg1 => k_is)
    (case xh1 => k_is)
    (case xb1 => k_is)
    (case xd1 => k_is)
    (case xc1 => k_is)
    (case xm1 => k_is)
    (case xi1 => k_is)
    (case xt1 => k_is)
    (case xk1 => k_is)
    (case xv1 => k_is)
    (case xs1 => k_is)
    (case xP1 => k_exc)
    (case xa2 => k_is)
    (case xg2 => k_is)
    (case xh2 => k_is)
    (case xb2 => k_is)
    (case xd2 => k_is)
    (case xc2 => k_is)
    (case xm2 => k_is)
    (case xi2 => k_is)
    (case xt2 => k_is)
    (case xk2 => k_is)
    (case xv2 => k_is)
    (case xs2 => k_is)
    (case xP2 => k_exc)
    (case xa3 => k_is)
    (case xg3 => k_is)
    (case xh3 => k_is)
    (case xb3 => k_is)
    (case xd3 => k_is)
    (case xc3 => k_is)
    (case xm3 => k_is)
    (case xi3 => k_is)
    (case xt3 => k_is)
    (case xk3 => k_is)
    (case xv3 => k_is)
    (case xs3 => k_is)
    (case xP3 => k_exc)
    (case xa4 => k_is)
    (case xg4 => k_is)
    (case xh4 => k_is)
    (case xb4 => k_is)
    (case xd4 => k_is)
    (case xc4 => k_is)
    (case xm4 => k_is)
    (case xi4 => k_is)
    (case xt4 => k_is)
    (case xk4 => k_is)
    (case xv4 => k_is)
    (case xs4 => k_is)
    (case xP4 => k_exc)
    (case xa5 => k_is)
    (case xg5 => k_is)
    (case xh5 => k_is)
    (case xb5 => k_is)
    (case xd5 => k_is)
    (case xc5 => k_is)
    (case xm5 => k_is)
    (case xi5 => k_is)
    (case xt5 => k_is)
    (case xk5 => k_is)
    (case xv5 => k_is)
    (case xs5 => k_is)
    (case xP5 => k_exc)
    (case xa6 => k_is)
    (case xg6 => k_is)
    (case xh6 => k_is)
    (case xb6 => k_is)
    (case xd6 => k_is)
    (case xc6 => k_is)
    (case xm6 => k_is)
    (case xi6 => k_is)
    (case xt6 => k_is)
    (case xk6 => k_is)
    (case xv6 => k_is)
    (case xs6 => k_is)
    (case xP6 => k_exc)
    (case xa7 => k_is)
    (case xg7 => k_is)
    (case xh7 => k_is)
    (case xb7 => k_is)
    (case xd7 => k_is)
    (case xc7 => k_is)
    (case xm7 => k_is)
    (case xi7 => k_is)
    (case xt7 => k_is)
    (case xk7 => k_is)
    (case xv7 => k_is)
    (case xs7 => k_is)
    (case xP7 => k_exc)
    (case xa8 => k_is)
    (case xg8 => k_is)
    (case xh8 => k_is)
    (case xb8 => k_is)
    (case xd8 => k_is)
    (case xc8 => k_is)
    (case xm8 => k_is)
    (case xi8 => k_is)
    (case xt8 => k_is)
    (case xk8 => k_is)
    (case xv8 => k_is)
    (case xs8 => k_is)
    (case xP8 => k_exc)
    (case xa9 => k_is)
    (case xg9 => k_is)
    (case xh9 => k_is)
    (case xb9 => k_is)
    (case xd9 => k_is)
    (case xc9 => k_is)
    (case xm9 => k_is)
    (case xi9 => k_is)
    (case xt9 => k_is)
    (case xk9 => k_is)
    (case xv9 => k_is)
    (case xs9 => k_is)
    (case xP9 => k_exc)
    (case xa10 => k_is)
    (case xg10 => k_is)
    (case xh10 => k_is)
    (case xb10 => k_is)
    (case xd10 => k_is)
    (case xc10 => k_is)
    (case xm10 => k_is)
    (case xi10 => k_is)
    (case xt10 => k_is)
    (case xk10 => k_is)
    (case xv10 => k_is)
    (case xs10 => k_is)
    (case xa11 => k_is)
    (case xg11 => k_is)
    (case xh11 => k_is)
    (case xb11 => k_is)
    (case xd11 => k_is)
    (case xc11 => k_is)
    (case xm11 => k_is)
    (case xi11 => k_is)
    (case xt11 => k_is)
    (case xk11 => k_is)
    (case xv11 => k_is)
    (case xs11 => k_is)
    (case xa12 => k_is)
    (case xg12 => k_is)
    (case xh12 => k_is)
    (case xb12 => k_is)
    (case xd12 => k_is)
    (case xc12 => k_is)
    (case xm12 => k_is)
    (case xi12 => k_is)
    (case xt12 => k_is)
    (case xk12 => k_is)
    (case xv12 => k_is)
    (case xs12 => k_is)
    (case w0_1 => rfl)
    (case y0_1 => k_is)
    (case w0_2 => rfl)
    (case y0_2 => k_is)
    (case w0_3 => rfl)
    (case y0_3 => k_is)
    (case w0_4 => rfl)
    (case y0_4 => k_is)
    (case w0_5 => rfl)
    (case y0_5 => k_is)
    (case w0_6 => rfl)
    (case y0_6 => k_is)
    (case w0_7 => rfl)
    (case y0_7 => k_is)
    (case w0_8 => rfl)
    (case y0_8 => k_is)
    (case w0_9 => rfl)
    (case y0_9 => k_is)
    (case w0_10 => rfl)
    (case y0_10 => k_is)
    (case w0_11 => rfl)
    (case y0_11 => k_is)
    (case w0_12 => rfl)
    (case y0_12 => k_is)
    (case w1_0 => rfl)
    (case y1_0 => k_is)
    (case w1_2 => rfl)
    (case y1_2 => k_is)
    (case w1_3 => rfl)
    (case y1_3 => k_is)
    (case w1_4 => rfl)
    (case y1_4 => k_is)
    (case w1_5 => rfl)
    (case y1_5 => k_is)
    (case w1_6 => rfl)
    (case y1_6 => k_is)
    (case w1_7 => rfl)
    (case y1_7 => k_is)
    (case w1_8 => rfl)
    (case y1_8 => k_is)
    (case w1_9 => rfl)
    (case y1_9 => k_is)
    (case w1_10 => rfl)
    (case y1_10 => k_is)
    (case w1_11 => rfl)
    (case y1_11 => k_is)
    (case w1_12 => rfl)
    (case y1_12 => k_is)
    (case w2_0 => rfl)
    (case y2_0 => k_is)
    (case w2_1 => rfl)
    (case y2_1 => k_is)
    (case w2_3 => rfl)
    (case y2_3 => k_is)
    (case w2_4 => rfl)
    (case y2_4 => k_is)
    (case w2_5 => rfl)
    (case y2_5 => k_is)
    (case w2_6 => rfl)
    (case y2_6 => k_is)
    (case w2_7 => rfl)
    (case y2_7 => k_is)
    (case w2_8 => rfl)
    (case y2_8 => k_is)
    (case w2_9 => rfl)
    (case y2_9 => k_is)
    (case w2_10 => rfl)
    (case y2_10 => k_is)
    (case w2_11 => rfl)
    (case y2_11 => k_is)
    (case w2_12 => rfl)
    (case y2_12 => k_is)
    (case w3_0 => rfl)
    (case y3_0 => k_is)
    (case w3_1 => rfl)
    (case y3_1 => k_is)
    (case w3_2 => rfl)
    (case y3_2 => k_is)
    (case w3_4 => rfl)
    (case y3_4 => k_is)
    (case w3_5 => rfl)
    (case y3_5 => k_is)
    (case w3_6 => rfl)
    (case y3_6 => k_is)
    (case w3_7 => rfl)
    (case y3_7 => k_is)
    (case w3_8 => rfl)
    (case y3_8 => k_is)
    (case w3_9 => rfl)
    (case y3_9 => k_is)
    (case w3_10 => rfl)
    (case y3_10 => k_is)
    (case w3_11 => rfl)
    (case y3_11 => k_is)
    (case w3_12 => rfl)
    (case y3_12 => k_is)
    (case w4_0 => rfl)
    (case y4_0 => k_is)
    (case w4_1 => rfl)
    (case y4_1 => k_is)
    (case w4_2 => rfl)
    (case y4_2 => k_is)
    (case w4_3 => rfl)
    (case y4_3 => k_is)
    (case w4_5 => rfl)
    (case y4_5 => k_is)
    (case w4_6 => rfl)
    (case y4_6 => k_is)
    (case w4_7 => rfl)
    (case y4_7 => k_is)
    (case w4_8 => rfl)
    (case y4_8 => k_is)
    (case w4_9 => rfl)
    (case y4_9 => k_is)
    (case w4_10 => rfl)
    (case y4_10 => k_is)
    (case w4_11 => rfl)
    (case y4_11 => k_is)
    (case w4_12 => rfl)
    (case y4_12 => k_is)
    (case w5_0 => rfl)
    (case y5_0 => k_is)
    (case w5_1 => rfl)
    (case y5_1 => k_is)
    (case w5_2 => rfl)
    (case y5_2 => k_is)
    (case w5_3 => rfl)
    (case y5_3 => k_is)
    (case w5_4 => rfl)
    (case y5_4 => k_is)
    (case w5_6 => rfl)
    (case y5_6 => k_is)
    (case w5_7 => rfl)
    (case y5_7 => k_is)
    (case w5_8 => rfl)
    (case y5_8 => k_is)
    (case w5_9 => rfl)
    (case y5_9 => k_is)
    (case w5_10 => rfl)
    (case y5_10 => k_is)
    (case w5_11 => rfl)
    (case y5_11 => k_is)
    (case w5_12 => rfl)
    (case y5_12 => k_is)
    (case w6_0 => rfl)
    (case y6_0 => k_is)
    (case w6_1 => rfl)
    (case y6_1 => k_is)
    (case w6_2 => rfl)
    (case y6_2 => k_is)
    (case w6_3 => rfl)
    (case y6_3 => k_is)
    (case w6_4 => rfl)
    (case y6_4 => k_is)
    (case w6_5 => rfl)
    (case y6_5 => k_is)
    (case w6_7 => rfl)
    (case y6_7 => k_is)
    (case w6_8 => rfl)
    (case y6_8 => k_is)
    (case w6_9 => rfl)
    (case y6_9 => k_is)
    (case w6_10 => rfl)
    (case y6_10 => k_is)
    (case w6_11 => rfl)
    (case y6_11 => k_is)
    (case w6_12 => rfl)
    (case y6_12 => k_is)
    (case w7_0 => rfl)
    (case y7_0 => k_is)
    (case w7_1 => rfl)
    (case y7_1 => k_is)
    (case w7_2 => rfl)
    (case y7_2 => k_is)
    (case w7_3 => rfl)
    (case y7_3 => k_is)
    (case w7_4 => rfl)
    (case y7_4 => k_is)
    (case w7_5 => rfl)
    (case y7_5 => k_is)
    (case w7_6 => rfl)
    (case y7_6 => k_is)
    (case w7_8 => rfl)
    (case y7_8 => k_is)
    (case w7_9 => rfl)
    (case y7_9 => k_is)
    (case w7_10 => rfl)
    (case y7_10 => k_is)
    (case w7_11 => rfl)
    (case y7_11 => k_is)
    (case w7_12 => rfl)
    (case y7_12 => k_is)
    (case w8_0 => rfl)
    (case y8_0 => k_is)
    (case w8_1 => rfl)
    (case y8_1 => k_is)
    (case w8_2 => rfl)
    (case y8_2 => k_is)
    (case w8_3 => rfl)
    (case y8_3 => k_is)
    (case w8_4 => rfl)
    (case y8_4 => k_is)
    (case w8_5 => rfl)
    (case y8_5 => k_is)
    (case w8_6 => rfl)
    (case y8_6 => k_is)
    (case w8_7 => rfl)
    (case y8_7 => k_is)
    (case w8_9 => rfl)
    (case y8_9 => k_is)
    (case w8_10 => rfl)
    (case y8_10 => k_is)
    (case w8_11 => rfl)
    (case y8_11 => k_is)
    (case w8_12 => rfl)
    (case y8_12 => k_is)
    (case w9_0 => rfl)
    (case y9_0 => k_is)
    (case w9_1 => rfl)
    (case y9_1 => k_is)
    (case w9_2 => rfl)
    (case y9_2 => k_is)
    (case w9_3 => rfl)
    (case y9_3 => k_is)
    (case w9_4 => rfl)
    (case y9_4 => k_is)
    (case w9_5 => rfl)
    (case y9_5 => k_is)
    (case w9_6 => rfl)
    (case y9_6 => k_is)
    (case w9_7 => rfl)
    (case y9_7 => k_is)
    (case w9_8 => rfl)
    (case y9_8 => k_is)
    (case w9_10 => rfl)
    (case y9_10 => k_is)
    (case w9_11 => rfl)
    (case y9_11 => k_is)
    (case w9_12 => rfl)
    (case y9_12 => k_is)
    (case w10_0 => rfl)
    (case y10_0 => k_is)
    (case w10_1 => rfl)
    (case y10_1 => k_is)
    (case w10_2 => rfl)
    (case y10_2 => k_is)
    (case w10_3 => rfl)
    (case y10_3 => k_is)
    (case w10_4 => rfl)
    (case y10_4 => k_is)
    (case w10_5 => rfl)
    (case y10_5 => k_is)
    (case w10_6 => rfl)
    (case y10_6 => k_is)
    (case w10_7 => rfl)
    (case y10_7 => k_is)
    (case w10_8 => rfl)
    (case y10_8 => k_is)
    (case w10_9 => rfl)
    (case y10_9 => k_is)
    (case w10_11 => rfl)
    (case y10_11 => k_is)
    (case w10_12 => rfl)
    (case y10_12 => k_is)
    (case w11_0 => rfl)
    (case y11_0 => k_is)
    (case w11_1 => rfl)
    (case y11_1 => k_is)
    (case w11_2 => rfl)
    (case y11_2 => k_is)
    (case w11_3 => rfl)
    (case y11_3 => k_is)
    (case w11_4 => rfl)
    (case y11_4 => k_is)
    (case w11_5 => rfl)
    (case y11_5 => k_is)
    (case w11_6 => rfl)
    (case y11_6 => k_is)
    (case w11_7 => rfl)
    (case y11_7 => k_is)
    (case w11_8 => rfl)
    (case y11_8 => k_is)
    (case w11_9 => rfl)
    (case y11_9 => k_is)
    (case w11_10 => rfl)
    (case y11_10 => k_is)
    (case w11_12 => rfl)
    (case y11_12 => k_is)
    (case w12_0 => rfl)
    (case y12_0 => k_is)
    (case w12_1 => rfl)
    (case y12_1 => k_is)
    (case w12_2 => rfl)
    (case y12_2 => k_is)
    (case w12_3 => rfl)
    (case y12_3 => k_is)
    (case w12_4 => rfl)
    (case y12_4 => k_is)
    (case w12_5 => rfl)
    (case y12_5 => k_is)
    (case w12_6 => rfl)
    (case y12_6 => k_is)
    (case w12_7 => rfl)
    (case y12_7 => k_is)
    (case w12_8 => rfl)
    (case y12_8 => k_is)
    (case w12_9 => rfl)
    (case y12_9 => k_is)
    (case w12_10 => rfl)
    (case y12_10 => k_is)
    (case w12_11 => rfl)
    (case y12_11 => k_is)
    (case lC10 => k_is)
    (case rC10 => rfl)
    (case sa10 => k_is)
    (case na10 => k_is)
    (case iI10 => k_is)
    (case tI10 => k_is)
    (case lI10 => k_is)
    (case qI10 => k_is)
    (case lc10 => k_is)
    (case le10 => k_is)
    (case lv10 => rfl)
    (case lf10 => first | rfl | decide +kernel)
    (case ms10 => k_is)
    (case ki10 => first | ks_is | k_is | kernel_rfl)
    (case lC11 => k_is)
    (case rC11 => rfl)
    (case sa11 => k_is)
    (case na11 => k_is)
    (case iI11 => k_is)
    (case tI11 => k_is)
    (case lI11 => k_is)
    (case qI11 => k_is)
    (case lc11 => k_is)
    (case le11 => k_is)
    (case lv11 => rfl)
    (case lf11 => first | rfl | decide +kernel)
    (case ms11 => k_is)
    (case ki11 => first | ks_is | k_is | kernel_rfl)
    (case lC12 => k_is)
    (case rC12 => rfl)
    (case sa12 => k_is)
    (case na12 => k_is)
    (case iI12 => k_is)
    (case tI12 => k_is)
    (case lI12 => k_is)
    (case qI12 => k_is)
    (case lc12 => k_is)
    (case le12 => k_is)
    (case lv12 => rfl)
    (case lf12 => first | rfl | decide +kernel)
    (case ms12 => k_is)
    (case ki12 => first | ks_is | k_is | kernel_rfl)
    (case tp => first | rfl | decide +kernel)
    (case oq => k_is)
    (case z1 => k_is)
    (case z2 => k_is)
    (case z3 => k_is)
    (case z4 => k_is)
    (case z5 => k_is)
    (case z6 => k_is)
    (case z7 => k_is)
    (case z8 => k_is)
    (case z9 => k_is)
