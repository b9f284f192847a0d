import PyProof.Rows.All
import Wide.All
import OpenK.AllK
import Wide.FinOn
import HandS.GenList
import HandS.AnyAll
import HandS.ForMost
import HandS.EndOwn
import HandS.Rev
import HandS.StrMore
import HandS.IsInst
import HandS.Replace
import HandS.Codes
import PySem.Challenge.RW_kindalone_k02_small_handed_walked
set_option Elab.async false
set_option linter.all false
set_option maxRecDepth 100000
set_option maxHeartbeats 4000000
/-! all(..) of a generator expression whose element may call defs -/
namespace Kg
open PySem PySem.Spec PyProof.Rows L2 GenW GxR
open Sem (wp)
theorem over_startC {A : Around} {elt t it : Expr} {ifs : List Expr} {scope : Scope} {pos : Pos} {iv acc : Value} {env : Env} : A.over (.compStart (.GeneratorExp elt [⟨t, it, ifs, 0⟩] scope pos) 0 iv acc env) [] = A.deeper env := by
  first
    | rfl
    | (obtain ⟨hd, d, fr, gs, u⟩ := A; simp [Around.over, Around.deeper, marksOver, frameCount, unitsOf, envsOf, guardsOf, pushEnvs, pushGuards, Code.envs, Code.env?, Code.isFrame, Code.guards, Code.isGuard, Code.weight, Code.frames, Code.isCreation, Code.isCaller, Code.cUnits])
theorem over_loopC {A : Around} {elt t it : Expr} {ifs : List Expr} {scope : Scope} {pos : Pos} {iv acc : Value} {env : Env} : A.over (.compLoop (.GeneratorExp elt [⟨t, it, ifs, 0⟩] scope pos) 0 iv acc env) [] = A.deeper env := by
  first
    | rfl
    | (obtain ⟨hd, d, fr, gs, u⟩ := A; simp [Around.over, Around.deeper, marksOver, frameCount, unitsOf, envsOf, guardsOf, pushEnvs, pushGuards, Code.envs, Code.env?, Code.isFrame, Code.guards, Code.isGuard, Code.weight, Code.frames, Code.isCreation, Code.isCaller, Code.cUnits])
/-- the scope of a generator expression within a def: its own names, those that it captures (with their places in N) -/
structure GxS (N : List Str) (sc scope : Scope) (own : List Str) (caps : List (Str × Nat)) : Prop where
  kind : scope.kind = .function
  co : scope.isCoroutine = false
  cell : ∀ y ∈ scope.names, y.2 ≠ .cell
  dot : scope.names.lookup (".0" : Str) = some NameKind.local
  nd : (own ++ caps.map (·.1)).Nodup
  caps : ∀ p ∈ caps, N[p.2]? = some p.1 ∧ scope.names.lookup p.1 = some .free
  free : ∀ y ∈ scope.names, y.2 = .free → sc.names.lookup y.1 = some .cell ∨ sc.names.lookup y.1 = some .free
  uniq : ∀ y ∈ scope.names, scope.names.lookup y.1 = some y.2
abbrev gxN (own : List Str) (caps : List (Str × Nat)) : List Str := own ++ caps.map (·.1)
abbrev gxSt (own : List Str) (caps : List (Str × Nat)) (σ : L2.St) : L2.St := own.map (fun _ => none) ++ caps.map (fun p => (σ[p.2]?).join)
abbrev gxEnv (X : Cx) (scope : Scope) (C : Addr) (code : Value) : Env := genEnv scope (cloFrom X.env.cells scope.names []) C code builtinsNs X.env
/-- the context of its frame -/
abbrev gcx (X : Cx) (A : Around) (N : List Str) (s : Shared) (H : Hp) (cenv : Env) (fp : List Addr) : Cx :=
  { X with A := A.deeper cenv, N := N, s_0 := s, H_0 := H, env := cenv, outer := X.stack, stack := cenv :: X.stack, ex := fp, fn := fun _ => false, calm := true, pn := [], xe := fun _ _ => False }
section
variable {X : Cx} {pins : List (Addr × Obj)} {σ : L2.St} {H : Hp} {s : Shared}
theorem gx_start {A : Around} {scope : Scope} {own : List Str} {caps : List (Str × Nat)} {fp : List Addr} {code : Value} {m0 : Str → Option Value} {s1 : Shared} (I : Inv X pins σ H s) (S : GxS X.N X.env.scope scope own caps) (hh : A.handled = none) (hfr : A.frames = some X.stack)
    (hfp : ∀ b ∈ fp, FpOk X pins H b ∧ b < s.heap.objs.size) (hns : s1.heap.Ns s.heap.objs.size m0) (kp : ∀ b o, s.heap.get? b = some o → s1.heap.get? b = some o) (hos : s1.os = s.os) (hb : AllBare s1.gens) :
    Inv (gcx X A (gxN own caps) s H (gxEnv X scope s.heap.objs.size code) fp) [] (gxSt own caps σ) H s1 := by
  have hfree : ∀ y ∈ scope.names, y.2 = .free → ∃ c, X.env.cells.lookup y.1 = some c := fun y hy e => by
    rcases S.free y hy e with k | k
    · exact I.ok.has _ (.inl k)
    · exact I.ok.has _ (.inr k)
  have cm : ∀ {y c}, (y, c) ∈ cloFrom X.env.cells scope.names [] → X.env.cells.lookup y = some c ∧ c < s.heap.objs.size := fun {y c} hm => by
    rcases cloFrom_mem hm with hm | ⟨h1, rfl⟩
    · cases hm
    · obtain ⟨c, hc⟩ := hfree _ h1 rfl
      rw [hc]
      obtain ⟨w, z⟩ := I.cell _ _ hc
      exact ⟨rfl, z.lt⟩
  have mem : ∀ {y c}, (cloFrom X.env.cells scope.names []).lookup y = some c → X.env.cells.lookup y = some c ∧ c < s.heap.objs.size := fun {y c} e => cm (PySem.mem_of_lookup e)
  have look : ∀ {y}, scope.names.lookup y = some .free → ∃ c, (cloFrom X.env.cells scope.names []).lookup y = some c := fun {y} hl => by
    have hy : (y, NameKind.free) ∈ scope.names := PySem.mem_of_lookup hl
    exact mem_lookup (cloFrom_has (cells := X.env.cells) (acc := []) hy)
  have nfs : ∀ b o, X.base.get? b = some o → b ∉ frs X.stack := fun b o e z => by
    rcases List.mem_cons.mp (I.stkSub b z) with z | z
    · have h1 := Heap.lt_size e
      have h2 := Nat.le_trans I.ok.bsz I.ok.above
      rw [z] at h1
      exact absurd (Nat.lt_of_lt_of_le h1 h2) (Nat.lt_irrefl _)
    · exact I.ok.nofr e z
  have okB : (gcx X A (gxN own caps) s H (gxEnv X scope s.heap.objs.size code) fp).Ok := by
    refine ⟨I.ok.mod, S.kind, I.ok.glob, rfl, Nat.le_refl _, fun y z c e1 e2 => I.ok.inj y z c (mem e1).1 (mem e2).1, fun y hy => ?_, fun y c z e => ?_, fun _ => hh, ?_, .inr ⟨rfl, rfl⟩, fun b hb => ⟨Nat.ne_of_lt (hfp b hb).2, fun y c e z => (hfp b hb).1.2.2.2.2.1 y c (mem e).1 z⟩,
      I.bs, Nat.le_trans I.ok.bsz I.sz, fun b o e hb => ?_, fun b hb z => ?_, I.stack, I.stkFree⟩
    · have hy : scope.names.lookup y = some .cell ∨ scope.names.lookup y = some .free := hy
      rcases hy with hy | hy
      · exact absurd rfl (S.cell _ (PySem.mem_of_lookup hy))
      · exact look hy
    · cases z
    · exact Around.frames_deeper hfr
    · rcases (hfp b hb).1.2.2.2.1 with z | z
      · exact I.ok.noex b o e z
      · exact absurd (Nat.lt_of_lt_of_le (Heap.lt_size e) (Nat.le_trans I.ok.bsz z)) (Nat.lt_irrefl _)
    · rcases List.mem_cons.mp (I.stkSub b z) with z | z
      · exact (hfp b hb).1.2.1 z
      · exact (hfp b hb).1.2.2.1 z
  refine ⟨okB, hos, hb, Un.kept kp, ⟨m0, hns, fun i y av e1 e2 e3 => ?_⟩, fun y c e => ?_, I.hok.fresh (Nat.le_refl _), fun y c e => ?_, fun p hp => ?_, I.hok.kept kp, ?_⟩
  · have e1 : (own ++ caps.map (·.1))[i]? = some y := e1
    have e2 : (own.map (fun _ => (none : Option V)) ++ caps.map (fun p => (σ[p.2]?).join))[i]? = some (some av) := e2
    by_cases hi : i < own.length
    · rw [List.getElem?_append_left (by rw [List.length_map]; exact hi), List.getElem?_map, List.getElem?_eq_getElem hi] at e2
      cases e2
    · rw [List.getElem?_append_right (by rw [List.length_map]; omega), List.length_map, List.getElem?_map] at e2
      rw [List.getElem?_append_right (by omega), List.getElem?_map] at e1
      cases hc : caps[i - own.length]? with
      | none => rw [hc] at e1; cases e1
      | some p =>
        rw [hc] at e1 e2
        have e1 : p.1 = y := Option.some.inj e1
        have e2 : (σ[p.2]?).join = some av := Option.some.inj e2
        obtain ⟨hN, hf⟩ := S.caps p (List.mem_of_getElem? hc)
        have hσ : σ[p.2]? = some (some av) := by
          cases q : σ[p.2]? with
          | none => rw [q] at e2; cases e2
          | some o => rw [q] at e2; exact congrArg some e2
        have hv : X.env.scope.names.lookup p.1 = some .cell ∨ X.env.scope.names.lookup p.1 = some .free := S.free (p.1, .free) (PySem.mem_of_lookup hf) rfl
        obtain ⟨m, hm, hl⟩ := I.loc
        obtain ⟨u, ru, lk⟩ := hl p.2 p.1 av hN hσ (.inr hv)
        subst e1
        refine ⟨u, ru, .inr ⟨.inr hf, ?_⟩⟩
        obtain ⟨c, hc'⟩ := look hf
        refine ⟨c, hc', ?_⟩
        rcases lk with ⟨h1, _⟩ | ⟨_, c2, h2, h3⟩
        · have h1 : X.env.scope.names.lookup p.1 = some .local := h1
          rcases hv with hv | hv
          · rw [hv] at h1; cases h1
          · rw [hv] at h1; cases h1
        · rw [(mem hc').1] at h2
          cases h2
          obtain ⟨o, ho, hd⟩ := h3
          exact ⟨o, kp _ _ ho, hd⟩
  · obtain ⟨v, o, ho, hd⟩ := I.cell y c (mem e).1
    exact ⟨v, o, kp _ _ ho, hd⟩
  · exact I.freeC y c (mem e).1
  · exact absurd (show p ∈ ([] : List (Addr × Obj)) ++ [] from hp) (by simp)
  · show (own.map (fun _ => (none : Option V)) ++ caps.map (fun p => (σ[p.2]?).join)).length = (own ++ caps.map (·.1)).length
    simp
end
/-! the protocol -/
/-- behind the whole: only the table of generators has turned, things may be new -/
def Done (Qf : Value → Shared → Prop) (b : Bool) (s : Shared) : Prop := ∀ s' : Shared, (∀ x o, s.heap.get? x = some o → s'.heap.get? x = some o) → s'.os = s.os → AllBare s'.gens → Qf (.bool b) s'
def GEndA (Qf : Value → Shared → Prop) : Nat → Shared → Shared → Prop := fun _ _ s => AllBare s.gens ∧ Done Qf true s
def GProto (Qf : Value → Shared → Prop) (a : Addr) (g : Nat) : Protocol := fun _ _ v s kap =>
  ∃ b : Bool, v = .bool b ∧ s.heap.IsGen a g ∧ s.heap.NoLimit ∧ AllBare s.gens ∧ (b = true → ∀ s' : Shared, s'.heap = s.heap → s'.os = s.os → AllBare s'.gens → kap (.send .none) s') ∧ (b = false → Done Qf false s)
section
variable {P : Program} {w : World} {A : Around} {Qf : Value → Shared → Prop} {a : Addr} {g : Nat}
/-- all's own loop -/
theorem all_drain (hh : A.handled = none) (hd : A.depth < recursionLimit) : ∀ (n : Nat) (s : Shared), s.heap.IsGen a g → s.heap.NoLimit →
    (∃ gs, s.gens[g]? = some gs ∧ gs.Goes (model P w) A.in1.in1 (fun n s₀ r s₁ => r = .ok .next ∧ GEndA Qf n s₀ s₁) (GProto Qf a g) n (.send .none) (s.setGen g .running)) →
    codeAny (model P w) A (.builtin "all.loop" ⟨[.ref a], []⟩) (fun r s' => ∃ b : Bool, r = .ok (.ret (.bool b)) ∧ Qf (.bool b) s') s := by
  intro n
  induction n with
  | zero =>
    intro s hg hl ⟨gs, hgs, hgo⟩
    refine codeAny_builtin F.entry_all_loop ?_
    rw [Around.under_plainId F.plain_all_loop _]
    show wpAny _ A.in1 (pyNext (.ref a) >>= _) _ _ s
    refine wpAny_bind (wpAny_pyNext_genexpQ (A := A.in1) (P := GEndA Qf) hh hl hd hg hgs hgo (fun v s₁ gs' hbare hv => ?_) (fun s₁ hp h' hk => ?_))
    · obtain ⟨b, rfl, hg1, hl1, hb1, ht, hf⟩ := hv
      cases b with
      | true => exact False.elim (ht rfl s₁ rfl rfl hb1)
      | false =>
        refine wpAny_bind (wpAny_holding (wpAny_truthy_bool ?_))
        refine wpAny_bind (wpAny_letGo ?_)
        simp only [Bool.false_eq_true, if_false]
        refine wpAny_bind (wpAny_rule (wpAny_pure ⟨false, rfl, hf rfl _ (fun x o e => e) rfl (allBare_setGen hb1 hbare)⟩))
    · refine wpAny_bind (wpAny_rule (wpAny_pure ⟨true, rfl, hp.2 _ hk rfl (allBare_setGen hp.1 rfl)⟩))
  | succ n ih =>
    intro s hg hl ⟨gs, hgs, hgo⟩
    have hgl : g < s.gens.size := (Array.getElem?_eq_some_iff.mp hgs).1
    refine codeAny_builtin F.entry_all_loop ?_
    rw [Around.under_plainId F.plain_all_loop _]
    show wpAny _ A.in1 (pyNext (.ref a) >>= _) _ _ s
    refine wpAny_bind (wpAny_gsz (n := g + 1) hgl (wpAny_pyNext_genexpQ (A := A.in1) (P := GEndA Qf) hh hl hd hg hgs hgo (fun v s₁ gs' hbare hv => ?_) (fun s₁ hp h' hk => ?_)))
    · intro hsz
      have hsz1 : g < s₁.gens.size := by
        have q : (s₁.setGen g gs').gens.size = s₁.gens.size := setGen_size _ _ _
        have hsz' : g + 1 ≤ (s₁.setGen g gs').gens.size := hsz
        omega
      obtain ⟨b, rfl, hg1, hl1, hb1, ht, hf⟩ := hv
      refine wpAny_bind (wpAny_holding (wpAny_truthy_bool ?_))
      refine wpAny_bind (wpAny_letGo ?_)
      cases b with
      | true =>
        simp only [if_true]
        refine wpAny_pure ⟨plainId_quiet F.plain_all_loop _, ih _ hg1 hl1 ⟨gs', setGen_at hsz1, ?_⟩⟩
        exact ht rfl _ rfl rfl (allBare_setGen (s := s₁.setGen g gs') (allBare_setGen hb1 hbare) rfl)
      | false =>
        simp only [Bool.false_eq_true, if_false]
        refine wpAny_bind (wpAny_rule (wpAny_pure ⟨false, rfl, hf rfl _ (fun x o e => e) rfl (allBare_setGen hb1 hbare)⟩))
    · intro hsz
      refine wpAny_bind (wpAny_rule (wpAny_pure ⟨true, rfl, hp.2 _ hk rfl (allBare_setGen hp.1 rfl)⟩))
theorem call_all_gen {E : Value → Shared → Prop} {n : Nat} {s : Shared} (hh : A.handled = none) (hd : A.depth < recursionLimit) (hg : s.heap.IsGen a g) (hl : s.heap.NoLimit)
    (hgo : ∃ gs, s.gens[g]? = some gs ∧ gs.Goes (model P w) A.in1.in1 (fun n s₀ r s₁ => r = .ok .next ∧ GEndA Qf n s₀ s₁) (GProto Qf a g) n (.send .none) (s.setGen g .running)) : wpAny (model P w) A (call (.builtin "all") [.ref a]) Qf E s := by
  refine call_function_tree F.kind_all F.plain_all F.entry_all (F.args_all1 _) ?_
  unfold Builtin.«all»
  refine wpAny_bind (m := oneArg "all" _) (wpAny_pure ?_)
  refine wpAny_bind (wpAny_pyIter_gen hg ?_)
  refine wpAny_pure ⟨plainId_quiet F.plain_all_loop _, codeAny_mono (all_drain hh hd n s hg hl hgo) fun r s' h => ?_⟩
  obtain ⟨b, rfl, q⟩ := h
  exact q
end
end Kg

namespace Kg
open PySem PySem.Spec PyProof.Rows L2 GenW GxR
open Sem (wp)
theorem inv_same {G : Cx} {pins : List (Addr × Obj)} {σ : L2.St} {H : Hp} {s s' : Shared} (I : Inv G pins σ H s) (hk : ∀ x o, s.heap.get? x = some o → s'.heap.get? x = some o) (ho : s'.os = s.os) (hb : AllBare s'.gens) : Inv G pins σ H s' :=
  I.call' (ch := []) ho (Un.kept hk) (I.hok.kept hk) hb fun b z => by simp at z
/-- a turn's wish -/
def Turns (J : It) (σ0 : L2.St) (vs : List Nat) (g : TG) (te : TE) (Qe : Bool → Hp → Prop) (W : Nat → Nat → Hp → Prop) : Prop :=
  ∀ i m H, W i m H → (J.stop i H ∧ Qe true H) ∨ (J.go i H ∧ ∃ Nx : Hp → Prop, (∀ H', Nx H' → ∃ m', m' < m ∧ W (i + 1) m' H') ∧ ∀ x H', J.yld i H x H' → g x σ0 H' fun σ2 H2 => wipe σ2 vs = σ0 ∧ te σ2 H2 fun y H4 => ∃ b, y = .bl b ∧ if b = true then Nx H4 else Qe false H4)
section
variable {X : Cx} {A : Around} {N : List Str} {s4 : Shared} {H0 : Hp} {cenv : Env} {fp : List Addr} {tg elt iter : Expr} {scope : Scope} {pos : Pos} {it a : Addr} {gi : Nat} {go : Obj} {J : It} {tn : Nat → Heap → Prop} {σ0 : L2.St} {vs : List Nat} {g : TG} {te : TE} {Qe : Bool → Hp → Prop} {W : Nat → Nat → Hp → Prop} {Qf : Value → Shared → Prop}
theorem gx_loop (hh : A.handled = none) (hco : cenv.scope.isCoroutine = false) (T : Turn X.prog X.w X.K tg J fp it tn) (haf : a ∉ fp) (hgen : ∀ h : Heap, h.get? a = some go → h.IsGen a gi)
    (pg : PG (gcx X A N s4 H0 cenv fp) tg g) (pe : PE (gcx X A N s4 H0 cenv fp) elt te) (turn : Turns J σ0 vs g te Qe W)
    (hfin : ∀ b s H', Inv (gcx X A N s4 H0 cenv fp) [(a, go)] σ0 H' s → Qe b H' → Done Qf b s) :
    ∀ (m n i : Nat) (H : Hp) (s₀ s : Shared), m < n → W i m H → Inv (gcx X A N s4 H0 cenv fp) [(a, go)] σ0 H s → tn i s.heap → (∀ b ∈ fp, H b = none) →
      Seg (model X.prog X.w) A (fun n s₀ r s₁ => r = .ok .next ∧ GEndA Qf n s₀ s₁) (GProto Qf a gi) n s₀ (.compLoop (.GeneratorExp elt [⟨tg, iter, [], 0⟩] scope pos) 0 (.ref it) .none cenv)
        ((model X.prog X.w).den (.compLoop (.GeneratorExp elt [⟨tg, iter, [], 0⟩] scope pos) 0 (.ref it) .none cenv)) [] s := by
  have stat : ∀ {σ' : L2.St} {H' : Hp} {s' : Shared}, Inv (gcx X A N s4 H0 cenv fp) [(a, go)] σ' H' s' → (∀ b ∈ fp, H' b = none) → ∀ b ∈ fp, FpOk (gcx X A N s4 H0 cenv fp) [(a, go)] H' b := fun {σ' H' s'} I' hn b hb =>
    ⟨hn b hb, (I'.ok.exf b hb).1, I'.ok.exfs b hb, .inl hb, fun x c e => (I'.ok.exf b hb).2 x c e, fun p hp z => by
      have hp : p ∈ [(a, go)] := hp
      rw [List.mem_singleton.mp hp] at z
      have z : a = b := z
      exact haf (by rw [z]; exact hb)⟩
  have hy : ∀ v, yieldOut cenv v = yieldValue v := fun v => by simp only [yieldOut, hco, Bool.false_eq_true, if_false]
  intro m
  induction m using Nat.strongRecOn with
  | ind m ih =>
    intro n i H s₀ s hmn hW I hst hn
    obtain ⟨n, rfl⟩ : ∃ k, n = k + 1 := ⟨n - 1, by omega⟩
    show Seg _ A _ _ _ s₀ _ ((compTurn (.GeneratorExp elt [⟨tg, iter, [], 0⟩] scope pos) 0 (.ref it) .none cenv).onRaise (leaving cenv)) [] s
    rw [compTurn_gen, Sem.onRaise_eq_wrap]
    refine seg_bind_wrap (wpAny_standAt ?_)
    rcases turn i m H hW with ⟨stop, qq⟩ | ⟨hgo, Nx, hNx, step⟩
    · refine seg_bind_wrap ?_
      rw [over_loopC]
      refine thn (T.done (gcx X A N s4 H0 cenv fp) rfl rfl rfl rfl i [(a, go)] s _ H _ I (stat I hn) hst stop) fun r s6 ⟨hr, I6⟩ => ?_
      subst hr
      exact seg_end (.ok .next) ⟨rfl, I6.bare, hfin true s6 H I6 qq⟩
    · refine seg_bind_wrap ?_
      rw [over_loopC]
      refine thn (T.item (gcx X A N s4 H0 cenv fp) rfl rfl rfl rfl i [(a, go)] s _ H _ I (stat I hn) hst hgo) fun r s6 ⟨u, hr, h6⟩ => ?_
      subst hr
      refine seg_bind_wrap ?_
      rw [over_loopC]
      refine thn h6 fun _ s7 ⟨x, H7, I7, r7, y7, st7, n7⟩ => ?_
      have I7' := I7.pinned (stat I7 n7) (T.obj _ _ st7)
      refine seg_bind_wrap ?_
      rw [over_loopC]
      refine wpAny_mono (pg.run _ s7 _ H7 x u _ I7' r7 (step x H7 y7)) (fun _ s8 ⟨σ8, H8, I8, hw8, q8⟩ => ?_) fun _ _ e => e.elim
      have fin : ∀ {s' : Shared} {H' : Hp}, Inv (gcx X A N s4 H0 cenv fp) ([(a, go)] ++ pinsAt fp s7.heap) σ8 H' s' → Inv (gcx X A N s4 H0 cenv fp) [(a, go)] σ0 H' s' ∧ tn (i + 1) s'.heap ∧ ∀ b ∈ fp, H' b = none := fun {s' H'} I' => by
        have pin' : ∀ b ∈ fp, ∀ o, s7.heap.get? b = some o → s'.heap.get? b = some o ∧ H' b = none := fun b hb o e =>
          let z := I'.pin (b, o) (List.mem_append_right _ (List.mem_append_right _ (mem_pinsAt hb e)))
          ⟨z.1, z.2.1⟩
        have hl : σ0.length = σ8.length := by rw [← hw8, wipe_length]
        refine ⟨(I'.unpinned (pins := [(a, go)])).weak hl (fun j v e => ?_), T.keep _ _ _ st7 fun b hb o e => (pin' b hb o e).1, fun b hb => ?_⟩
        · rw [← hw8] at e
          exact (wipe_some e).1
        · obtain ⟨o, e, _⟩ := T.obj _ _ st7 b hb
          exact (pin' b hb o e).2
      simp only [List.forIn_nil]
      refine seg_bind_wrap (wpAny_pure ?_)
      simp only [if_true]
      simp only [hy]
      rw [Sem.bind_eq_wrap', Sem.bind_eq_wrap', Sem.wrap_wrap, Sem.wrap_wrap]
      refine seg_wrap ?_
      rw [over_loopC]
      refine wpAny_mono (pe.run _ s8 σ8 H8 _ I8 q8) (fun v s10 ⟨y, H10, I10, r10, b, hyb, q10⟩ => ?_) fun _ _ e => e.elim
      subst hyb
      obtain rfl : v = Value.bool b := r10
      obtain ⟨J1, J2, J3⟩ := fin I10
      have hga : s10.heap.IsGen a gi := hgen _ (J1.pin (a, go) (List.mem_append_right _ (List.mem_singleton.mpr rfl))).1
      refine seg_at (seg_yield rfl rfl rfl ⟨b, rfl, hga, J1.nolimit, J1.bare, fun hb s'' e1 e2 e3 => ?_, fun hb => ?_⟩)
      · subst hb
        rw [if_pos rfl] at q10
        obtain ⟨m', hm', w'⟩ := hNx H10 q10
        refine seg_again rfl (ih m' hm' n (i + 1) H10 s'' s'' (by omega) w' (inv_same J1 (fun x o e => by rw [e1]; exact e) e2 e3) (by rw [e1]; exact J2) J3)
      · subst hb
        rw [if_neg Bool.false_ne_true] at q10
        exact hfin false s10 H10 J1 q10
theorem gx_begin (hh : A.handled = none) (hco : cenv.scope.isCoroutine = false) (T : Turn X.prog X.w X.K tg J fp it tn) (haf : a ∉ fp) (hgen : ∀ h : Heap, h.get? a = some go → h.IsGen a gi)
    (pg : PG (gcx X A N s4 H0 cenv fp) tg g) (pe : PE (gcx X A N s4 H0 cenv fp) elt te) (turn : Turns J σ0 vs g te Qe W)
    (hfin : ∀ b s H', Inv (gcx X A N s4 H0 cenv fp) [(a, go)] σ0 H' s → Qe b H' → Done Qf b s) {m : Nat} {H : Hp} {s : Shared} (w0 : W 0 m H) (I : Inv (gcx X A N s4 H0 cenv fp) [(a, go)] σ0 H s) (hst : tn 0 s.heap) (hn : ∀ b ∈ fp, H b = none) :
    Seg (model X.prog X.w) A (fun n s₀ r s₁ => r = .ok .next ∧ GEndA Qf n s₀ s₁) (GProto Qf a gi) (m + 1) s (.compStart (.GeneratorExp elt [⟨tg, iter, [], 0⟩] scope pos) 0 (.ref it) .none cenv)
      ((model X.prog X.w).den (.compStart (.GeneratorExp elt [⟨tg, iter, [], 0⟩] scope pos) 0 (.ref it) .none cenv)) [] s := by
  have loop := gx_loop (iter := iter) (scope := scope) (pos := pos) hh hco T haf hgen pg pe turn hfin m (m + 1) 0 H s s (Nat.lt_succ_self _) w0 I hst hn
  show Seg _ A _ _ _ s _ ((compStart (.GeneratorExp elt [⟨tg, iter, [], 0⟩] scope pos) 0 (.ref it) .none cenv).onRaise (leaving cenv)) [] s
  unfold compStart
  rw [Sem.onRaise_eq_wrap]
  show Seg _ A _ _ _ s _ ((ask >>= _).wrap _ _ _ _) [] s
  refine seg_bind_wrap (wpAny_askSetting ?_)
  split
  · exact seg_again rfl loop
  · first
      | exact seg_bind_wrap (wpAny_rule (seg_bind_wrap (wpAny_standAt (seg_bind_wrap (T.self _ 0 s _ _ hst (seg_again rfl loop))))))
      | (refine seg_bind_wrap (wpAny_rule ?_); show Seg _ A _ _ _ s _ ((standAt iter.pos >>= _).wrap _ _ _ _) [] s; exact seg_bind_wrap (wpAny_standAt (seg_bind_wrap (T.self _ 0 s _ _ hst (seg_again rfl loop)))))
end
/-! the rule -/
section
variable {X : Cx}
/-- all(elt for tg in iter) -/
def tAllG (P : Addr) (wi : TI) (own : List Str) (caps : List (Str × Nat)) (vs : List Nat) (g : TG) (te : TE) : TE := fun σ H Q => wi σ H fun J H1 => TabG H1 P ∧ ∀ H2, Tabbed P H1 H2 → ∃ W : Nat → Nat → Hp → Prop, (∃ m, W 0 m H2) ∧ Turns J (gxSt own caps σ) vs g te (fun b H' => Q (.bl b) H') W
theorem pe_allG {c P : Addr} {elt tg iter : Expr} {p pos gpos : Pos} {scope : Scope} {own : List Str} {caps : List (Str × Nat)} {vs : List Nat} {wi : TI} {g : TG} {te : TE} {k : Nat}
    (hr : Room k X.A) (hg : Gl X "all") (hm : X.mg "all" = none) (TB : TabB X.base X.mg c P) (hcode : X.env.code = .ref c) (S : GxS X.N X.env.scope scope own caps) (hi : PI X tg iter wi)
    (pg : ∀ (s : Shared) (H : Hp) (C : Addr) (cd : Value) (fp : List Addr), PG (gcx X X.A.in1.in1 (gxN own caps) s H (gxEnv X scope C cd) fp) tg g)
    (pe : ∀ (s : Shared) (H : Hp) (C : Addr) (cd : Value) (fp : List Addr), PE (gcx X X.A.in1.in1 (gxN own caps) s H (gxEnv X scope C cd) fp) elt te)
    (hs : ∀ v, genFold iter X.env v = pure v := by intro _; rfl)
    (he : starEach [.GeneratorExp elt [⟨tg, iter, [], 0⟩] scope gpos] X.env = (false, eval (.GeneratorExp elt [⟨tg, iter, [], 0⟩] scope gpos) X.env) :: starEach [] X.env := by rfl) :
    PE X (.Call (.Name "all" p) [.GeneratorExp elt [⟨tg, iter, [], 0⟩] scope gpos] [] pos) (tAllG P wi own caps vs g te) := by
  refine ⟨fun pins s σ H Q I h => ?_⟩
  have hfree : ∀ y ∈ scope.names, y.2 = .free → ∃ c, X.env.cells.lookup y.1 = some c := fun y hy e => by
    rcases S.free y hy e with k | k
    · exact I.ok.has _ (.inl k)
    · exact I.ok.has _ (.inr k)
  refine wpAny_Call_Name_kw (ld_blt I hg hm PyProof.Rows.boot_all ?_)
  refine PyProof.Rows.callWith_builtin1 ?_ he (by rfl)
  rw [he]
  show wpAny _ _ (spliced ((false, eval (.GeneratorExp elt [⟨tg, iter, [], 0⟩] scope gpos) X.env) :: backTo pos (starEach [] X.env))) _ _ s
  refine Calls.spliced_cons ?_
  refine wpAny_GeneratorExp_make S.co (closure_ok hfree) S.cell S.dot S.kind (by have := hr.dp; omega) ?_ hs
  refine thn (hi.run pins s σ H _ I h) fun xv s1 hx => thn hx fun itv s2 h2 => ?_
  obtain ⟨it, fp, tn, J, H1, rfl, I2, T, st2, f2, ⟨ps, hP, ht⟩, q⟩ := h2
  refine ⟨I2.nolimit, ?_⟩
  have hPs : s2.heap.get? P = some { cls := .none, data := .fields ps } := I2.hok P _ hP
  have cd : PySem.W.CodeHd s2.heap c P := TB.code.keeps I2.bk
  have sz2 : ∀ b ∈ fp, b < s2.heap.objs.size := fun b hb => by
    obtain ⟨o, e, _⟩ := T.obj _ _ st2 b hb
    exact Heap.lt_size e
  have cont : ∀ (code : Value) (h3 : Heap) (tk : Nat) (ps' more : Array Value), Heap.ExtBut P s2.heap h3 → s2.heap.objs.size ≤ h3.objs.size → h3.get? P = some { cls := .none, data := .fields ps' } → ps' = ps ++ more → TriplesOk ps'.toList →
      wpAny (model X.prog X.w) X.A (builtinsFor X.env.globals X.env.builtins) (fun bi s₄ =>
        ∀ h', h'.Ns s₄.heap.objs.size (fun y => if y = ".0" then some (.ref it) else none) → Heap.SameBut s₄.heap.objs.size (s₄.heap.push { cls := .type "frame", data := .dict #[] }) h' →
          wpAny (model X.prog X.w) X.A (spliced (backTo pos (starEach [] X.env))) (fun us s' => wpAny (model X.prog X.w) X.A (call (.builtin "all") (.ref h'.objs.size :: us)) (EP X pins σ Q) X.xe s') X.xe { s₄ with
            gens := s₄.gens.push (.fresh (.compStart (.GeneratorExp elt [⟨tg, iter, [], 0⟩] scope gpos) 0 (.ref it) .none (genEnv scope (cloFrom X.env.cells scope.names []) s₄.heap.objs.size code bi X.env))),
            toks := s₄.toks + 1 + 1 + 1,
            heap := h'.push { cls := .type "generator", data := .fields #[.int s₄.gens.size 0, .str "<genexpr>" (s₄.toks + 1), .str (X.env.qual ++ "<genexpr>") (s₄.toks + 1 + 1)] } }) X.xe { s2 with heap := h3, toks := tk } := by
    intro code h3 tk ps' more hx hsz hP3 hmore ht3
    obtain ⟨bm, ob, e1, e2, e3, e4, e5, e6, e7, e8⟩ := TB.bm
    have keep3 : ∀ b u, b ≠ P → s2.heap.get? b = some u → h3.get? b = some u := fun b u hb e => hx b u hb e
    refine wpAny_builtinsFor (m := X.mg) (by rw [I2.ok.glob]; exact (I2.mod.glob.keeps I2.bk).extBut hx TB.gP) e1 e2 (keep3 _ _ e4 (I2.bk _ _ e5)) e6 e7 e8 ?_
    intro h' hns hsb
    have I3 : Inv X pins σ (upd H1 P (.tbl (ps ++ more))) { s2 with heap := h3, toks := tk } := inv_tab (more := more) (g' := s2.gens) (d' := s2.drawn) (t' := tk) I2 hP keep3 (by rw [← hmore]; exact hP3) I2.bare
    have hT : Tabbed P H1 (upd H1 P (.tbl (ps ++ more))) := ⟨⟨ps ++ more, upd_same, by rw [← hmore]; exact ht3⟩, fun b hb => upd_ne hb⟩
    obtain ⟨W, ⟨m, w0⟩, turn⟩ := q _ hT
    have nP : ∀ b ∈ fp, b ≠ P := fun b hb z => by
      have := (f2 b hb).1
      rw [z, hP] at this
      cases this
    have f3 : ∀ b ∈ fp, FpOk X pins (upd H1 P (.tbl (ps ++ more))) b ∧ b < h3.objs.size := fun b hb => ⟨⟨by rw [upd_ne (nP b hb)]; exact (f2 b hb).1, (f2 b hb).2⟩, Nat.lt_of_lt_of_le (sz2 b hb) hsz⟩
    generalize upd H1 P (.tbl (ps ++ more)) = H3 at I3 w0 f3
    have hsz' : h'.objs.size = h3.objs.size + 1 := by rw [hsb.1, Heap.size_push]
    have keep' : ∀ b o, h3.get? b = some o → h'.get? b = some o := fun b o e => hsb.extBut b o (Nat.ne_of_lt (Heap.lt_size e)) (Heap.get?_push_of_some _ e)
    refine Calls.spliced_nil ?_
    generalize hgo : ({ cls := .type "generator", data := .fields #[.int s2.gens.size 0, .str "<genexpr>" (tk + 1), .str (X.env.qual ++ "<genexpr>") (tk + 1 + 1)] } : Obj) = go
    have hgen : ∀ hp : Heap, hp.get? h'.objs.size = some go → hp.IsGen h'.objs.size s2.gens.size := fun hp e => ⟨go, _, _, e, by rw [← hgo], by rw [← hgo], by rw [← hgo]⟩
    have hput : (h'.push go).get? h'.objs.size = some go := Heap.get?_push_size _ (by rw [← hgo]; rfl)
    have hgd : ∀ v, go.data ≠ .cell v := fun v z => by rw [← hgo] at z; cases z
    show wpAny _ _ (call (.builtin "all") [.ref h'.objs.size]) _ _ { s2 with gens := s2.gens.push (.fresh (.compStart (.GeneratorExp elt [⟨tg, iter, [], 0⟩] scope gpos) 0 (.ref it) .none (gxEnv X scope h3.objs.size code))), toks := tk + 1 + 1 + 1, heap := h'.push go }
    have keep5 : ∀ b o, h3.get? b = some o → (h'.push go).get? b = some o := fun b o e => Heap.get?_push_of_some _ (keep' b o e)
    have hb5 : AllBare (s2.gens.push (.fresh (.compStart (.GeneratorExp elt [⟨tg, iter, [], 0⟩] scope gpos) 0 (.ref it) .none (gxEnv X scope h3.objs.size code)))) := I2.bare.push rfl
    have hrun : AllBare (({ s2 with gens := s2.gens.push (.fresh (.compStart (.GeneratorExp elt [⟨tg, iter, [], 0⟩] scope gpos) 0 (.ref it) .none (gxEnv X scope h3.objs.size code))), toks := tk + 1 + 1 + 1, heap := h'.push go } : Shared).setGen s2.gens.size .running).gens := allBare_setGen hb5 rfl
    have G0 : Inv (gcx X X.A.in1.in1 (gxN own caps) { s2 with heap := h3, toks := tk } H3 (gxEnv X scope h3.objs.size code) fp) [] (gxSt own caps σ) H3 (({ s2 with gens := s2.gens.push (.fresh (.compStart (.GeneratorExp elt [⟨tg, iter, [], 0⟩] scope gpos) 0 (.ref it) .none (gxEnv X scope h3.objs.size code))), toks := tk + 1 + 1 + 1, heap := h'.push go } : Shared).setGen s2.gens.size .running) :=
      gx_start (s := { s2 with heap := h3, toks := tk }) I3 S hr.hd I3.ok.frames f3 (hns.push go) keep5 rfl hrun
    have hna : H3 h'.objs.size = none := I3.hok.fresh (by show h3.objs.size ≤ h'.objs.size; omega)
    have G1 : Inv (gcx X X.A.in1.in1 (gxN own caps) { s2 with heap := h3, toks := tk } H3 (gxEnv X scope h3.objs.size code) fp) [(h'.objs.size, go)] (gxSt own caps σ) H3 (({ s2 with gens := s2.gens.push (.fresh (.compStart (.GeneratorExp elt [⟨tg, iter, [], 0⟩] scope gpos) 0 (.ref it) .none (gxEnv X scope h3.objs.size code))), toks := tk + 1 + 1 + 1, heap := h'.push go } : Shared).setGen s2.gens.size .running) :=
      G0.pins_of fun p hp => by
        rw [List.mem_singleton.mp hp]
        refine ⟨hput, hna, ?_, fun z => ?_, hgd⟩
        · show h'.objs.size ≠ h3.objs.size
          omega
        · have z : h'.objs.size ∈ frs X.stack := z
          rcases List.mem_cons.mp (I3.stkSub _ z) with z | z
          · have h1 := I3.lt
            rw [← z] at h1
            have h1 : h'.objs.size < h3.objs.size := h1
            omega
          · exact I3.nofs (show h3.objs.size ≤ h'.objs.size by omega) z
    have st5 : tn 0 (h'.push go) := T.keep _ _ _ st2 fun b hb o e => keep5 b o (keep3 b o (nP b hb) e)
    refine call_all_gen (n := m + 1) hr.hd (by have := hr.dp; omega) (hgen _ hput) (I3.nolimit.keeps keep5) ⟨_, Array.getElem?_push_size .., rfl, ?_⟩
    refine gx_begin (A := X.A.in1.in1) (N := gxN own caps) (σ0 := gxSt own caps σ) (vs := vs) (g := g) (te := te) (Qe := fun b H' => Q (.bl b) H') (W := W) hr.hd S.co T (fun z => ?_) hgen (pg _ _ _ _ _) (pe _ _ _ _ _) turn (fun b s6 H6 J6 q6 s7 k7 o7 b7 => ?_) w0 G1 st5 (fun b hb => (f3 b hb).1.1)
    · have z2 : h'.objs.size < h3.objs.size := (f3 _ z).2
      rw [hsz'] at z2
      exact absurd z2 (by omega)
    · have I6 : Inv X pins σ H6 s6 := I3.call' (ch := fp) J6.os J6.base J6.hok J6.bare fun b hb => ⟨(f3 b hb).1.2.2.2.1, (f3 b hb).1.2.1, (f3 b hb).1.2.2.2.2.1, (f3 b hb).1.2.2.2.2.2⟩
      exact ⟨.bl b, H6, inv_same I6 k7 o7 b7, rfl, q6⟩
  cases hf : codeAmong gpos ps.toList with
  | none =>
    refine wpAny_genexprCodeX hcode (cd.code hPs ht) (cd.tab hPs) hf fun c' h' tk hx hge hlt hco' _ htab' _ => ?_
    obtain ⟨o1, vs, f1, tf, fl, tg, inF, tx, tt, op, _, _, _, _, _, _, _, _, _, htr, _⟩ := hco'
    exact cont _ h' tk _ _ hx (Nat.le_trans hge (Nat.le_of_lt hlt)) htab'.2 rfl htr
  | some cv =>
    refine wpAny_genexprCode_hit hcode (cd.code hPs ht) hf ?_
    exact cont cv s2.heap s2.toks ps #[] (Heap.ExtBut.refl _ _) (Nat.le_refl _) hPs (by simp) ht
end
end Kg

/-! the end where some of the defs hold generator expressions -/
namespace Kg
open PySem PySem.Spec PyProof.Rows L2 LamX
/-- the def's code object, its table: empty -/
def TabOf (mg : Str → Option Value) (h : Heap) (x : Str) : Prop := ∃ (a : Addr) (o : Obj) (fd : FuncData) (c p : Addr), mg x = some (.ref a) ∧ h.get? a = some o ∧ o.data = .func fd ∧ fd.code = .ref c ∧ h.IsCode c p #[] ∧ h.TableAt c p #[]
theorem walk_ofNs {l : PySem.W.OpenLaw} {n k : Nat} {q : Program} {loose : List Str} {XP : (Str → Option Value) → Heap → Prop} {YP : World → Heap → Prop} {d : DefRec} {K : Params → PySem.W.Frag} {CX : World → CXT} {x : Str} (names : List Str)
    (hn : l.most = some n) (hn2 : n ≤ sizeLine) (hdf : d.params.defaults = []) (hr : Room k callerA) (hrec : (names.all fun y => (recsOf q).any fun e => e.name == y) = true) (hY : ∀ (w : World) (h : Heap), YP w h → (K w.params).In h)
    (F : ∀ (w : World) (mg : Str → Option Value) (fa : Addr) (h : Heap), YP w h → (K w.params).In h → h.Ns mainGlobals mg → mg d.name = some (.ref fa) → (∀ y ∈ names, TabOf mg h y) → LawAtS l w (K w.params) (CX w) k n x mg fa h)
    (hCX : ∀ (w : World) (H : Hp) (s : Shared) (e : Value) (s' : Shared), CX w [] H s (fun _ _ _ => False) e s' → False) :
    PySem.W.WalkO q loose XP YP l.row.toRowW d [] (fun f vs => PySem.call f vs) := by
  refine Att.attach_callB hn hdf fun w s₀ s₁ mg mb fa o pm cd doc a vs ns G Y ho hd hcd hmg hobj hints hlen hbits hg => ?_
  have KX := hY w _ Y
  have own : ∀ y ∈ names, TabOf mg s₁.heap y := fun y hy => by
    obtain ⟨dL, hm, hn1⟩ := List.any_eq_true.mp (List.all_eq_true.mp hrec y hy)
    have hn2 : dL.name = y := beq_iff_eq.mp hn1
    obtain ⟨a', o', fd', c', P', h1, h2, h3, h4, h5, h6⟩ := G.T.tab dL hm
    exact ⟨a', o', fd', c', P', by rw [← hn2]; exact h1, h2, h3, h4, h5, h6⟩
  obtain ⟨fd, cs, sp, hT, nT, C, hb, hsp, hF⟩ := F w mg fa _ Y KX G.T.g hmg own
  exact law_callTs KX G.T.g G.T.b G.T.builtins G.T.nolimit hg hT nT C G.T.bmain hobj hints (Nat.le_trans hlen hn2) hr hF hb (fun H hH hS => hsp H a ns hlen hbits hH hS) fun H e s' => hCX w H s₁ e s'
/-- such a def by what is written of it -/
theorem tabOf_at {K : PySem.W.Frag} {mg : Str → Option Value} {h : Heap} {x name qual : Str} {f c p : Addr} {params : Arguments} {body : List Stmt} {scope : Scope} {oc dV kV doc pm ct e : Value} {od an dd : Option Addr} {sl sl' : Array (Option Value)} {vs : Array Value} (X : K.In h) (T : TabOf mg h x) (g : mg x = some (.ref f))
    (l : K.lookup f = some ⟨oc, od, .func (PySem.W.fnOf name qual params body scope dV kV doc pm an (.ref c) ct), sl⟩) (t : K.lookup c = some ⟨e, dd, .fields vs, sl'⟩) (v : vs[11]? = some (.ref p)) :
    h.get? p = some { cls := .none, data := .fields #[] } ∧ PySem.W.CodeHd h c p := by
  obtain ⟨a', o', fd', c', P', h1, h2, h3, h4, h5, h6⟩ := T
  rw [g] at h1
  cases h1
  rw [X _ _ l] at h2
  cases h2
  cases h3
  cases h4
  obtain ⟨⟨oc', vc, e1, e2, e3, e4⟩, hP⟩ := id h6
  rw [X _ _ t] at e1
  cases e1
  cases e3
  rw [v] at e4
  cases e4
  exact ⟨hP, .of h5 h6⟩
end Kg

namespace Kr
open PySem PySem.Spec PyProof.Rows L2 RT
section
variable {prog : Program} {w : World} {A : Around} {E : Value → Shared → Prop} {s : Shared}
/-- a list grows by what a walk from behind over another list gives -/
theorem growRev {R : Result → Shared → Prop} {it l S : Addr} {its : Array Value} {res : Value} {c0 : Nat} (hh : A.handled = none) (hit : s.heap.IsRevIter it l ((its.size : Int) - 1))
    (hl : s.heap.IsList l its) (hne : l ≠ it) (hn : its.size ≤ sizeLine) (hS : s.heap.get? S = some { cls := .type "list", data := .seq #[] c0 }) (hSi : S ≠ it) (hSl : S ≠ l)
    (hR : ∀ (h' : Heap) (tk : Nat) (acc : Array Value) (c : Nat), (∀ b o, b ≠ it → b ≠ S → s.heap.get? b = some o → h'.get? b = some o) →
      h'.get? S = some { cls := .type "list", dict := none, data := .seq acc c, slots := #[] } → ItemsOf (fun i v => its[its.size - 1 - i]? = some v) acc its.size → R (.ok (.ret res)) { s with heap := h', toks := tk }) :
    wpAny (model prog w) A.in1 (Builtin.List.listExtendWith (.ref S) (.ref it) res)
      (fun fin s' => match fin with
        | .done f => R (.ok f) s'
        | .again c' => c'.quiet = true ∧ codeAny (model prog w) A c' R s') (fun e s' => R (.error e) s') s := by
  have W := (Walks.listRev (prog := prog) (w := w) (A := A.in1) hh it l hne its).toS
  have out : S ∉ [it, l] := by
    intro z
    rcases List.mem_cons.mp z with z | z
    · exact hSi z
    · exact hSl (List.mem_singleton.mp z)
  have ty : s.TypeIs (.ref it) "list_reverseiterator" := hit.typeIs
  have no : Builtin.List.listSameRef (.ref S) (.ref it) = false := by
    simp [Builtin.List.listSameRef, hSi]
  unfold Builtin.List.listExtendWith
  refine wpAny_bind (wpAny_typeOf ty ?_)
  rw [if_neg (by rw [no]; decide)]
  refine wpAny_bind (wpAny_pyIter_revIter hit ?_)
  refine wpAny_bind (wpAny_holding ?_)
  unfold Builtin.List.listLengthHint
  refine wpAny_bind (wpAny_specialOf ty RT.nolen_lri ?_)
  show wpAny _ A.in1 (specialOf (.ref it) (Str.ofString "__length_hint__") >>= _) _ _ _
  refine wpAny_bind (wpAny_specialOf ty RT.hint_lri ?_)
  generalize hid : ("list_reverseiterator.__length_hint__" : String) = nm
  wp_delta
  have sp : splitId nm = some ("list_reverseiterator", "__length_hint__") := by
    subst hid
    decide +kernel
  rw [sp]
  subst hid
  refine wpAny_bind (wpAny_isInstance (b := true) ty (by rw [isSubtype_type]; kernel_rfl) ?_)
  refine wpAny_pure ?_
  rw [if_neg (by decide)]
  have z0 : ((its.size : Nat) : Int) - 1 - ((0 : Nat) : Int) = (its.size : Int) - 1 := by omega
  have st0 : s.heap.IsRevIter it l ((its.size : Int) - 1 - ((0 : Nat) : Int)) := by rw [z0]; exact hit
  refine wpAny_pure ⟨plainId_quiet F.plain_extend_loop _, ?_⟩
  refine codeAny_extend_loopS W hn S out res its.size 0 _ _ _ rfl (Nat.zero_le _) ⟨Nat.zero_le _, st0, hl⟩ hS (ItemsOf.nil _) (fun s' acc' c' mv hS' hacc => ?_)
  rw [Moved.eq_with mv]
  refine hR s'.heap s'.toks acc' c' (fun b o h1 h2 e => mv.heap b o (fun z => ?_) e) hS' hacc
  rcases List.mem_cons.mp z with z | z
  · exact h2 z
  · exact h1 (List.mem_singleton.mp z)
theorem call_list_rev {Q : Value → Shared → Prop} {it l : Addr} {its : Array Value} (hh : A.handled = none) (hit : s.heap.IsRevIter it l ((its.size : Int) - 1)) (hl : s.heap.IsList l its) (hne : l ≠ it) (hn : its.size ≤ sizeLine)
    (hQ : ∀ (h' : Heap) (tk : Nat) (acc : Array Value) (c : Nat), (∀ b o, b ≠ it → s.heap.get? b = some o → h'.get? b = some o) →
      h'.get? s.heap.objs.size = some { cls := .type "list", dict := none, data := .seq acc c, slots := #[] } → ItemsOf (fun i v => its[its.size - 1 - i]? = some v) acc its.size → Q (.ref s.heap.objs.size) { s with heap := h', toks := tk }) :
    wpAny (model prog w) A (call (.type "list") [.ref it]) Q E s := by
  obtain ⟨oi, hoi, _⟩ := id hit
  obtain ⟨ol, hol, _⟩ := id hl
  have n1 : s.heap.objs.size ≠ it := Nat.ne_of_gt (Heap.lt_size hoi)
  have n2 : s.heap.objs.size ≠ l := Nat.ne_of_gt (Heap.lt_size hol)
  refine callType_codes (Q₁ := fun obj s₁ => obj = .ref s.heap.objs.size ∧ s₁ = { s with heap := s.heap.push { cls := .type "list", data := .seq #[] } })
    F.called_list (F.typeCall_list_1 _) F.entry_list_init (code_list_new _ ⟨rfl, rfl⟩) (fun obj s₁ h₁ => ?_)
  obtain ⟨rfl, rfl⟩ := h₁
  have hS : (s.heap.push { cls := .type "list", data := .seq #[] }).get? s.heap.objs.size
      = some { cls := .type "list", data := .seq #[] } := Heap.get?_push_size _ rfl
  refine ⟨⟨_, hS, rfl⟩, F.args_list_init_2 _ _, ?_⟩
  show wpAny _ _ (do
    let old ← Builtin.List.listItems (.ref s.heap.objs.size)
    Builtin.List.listUpdate (.ref s.heap.objs.size) (fun _ => #[])
    letGo old.toList.reverse
    Builtin.List.listExtendWith (.ref s.heap.objs.size) (.ref it) .none) _ _ _
  refine wpAny_bind ?_
  unfold Builtin.List.listItems
  refine wpAny_bind (wpAny_seqItems hS rfl (wpAny_pure ?_))
  show wpAny _ _ (do
    updateSeq s.heap.objs.size (fun _ => #[])
    letGo (#[] : Array Value).toList.reverse
    Builtin.List.listExtendWith (.ref s.heap.objs.size) (.ref it) .none) _ _ _
  refine wpAny_bind (wpAny_updateSeq hS rfl ?_)
  have hS2 := Heap.get?_update_self (Obj.mapSeq fun _ => (#[] : Array Value)) hS rfl
  refine wpAny_bind (wpAny_letGo ?_)
  generalize hh2 : (s.heap.push { cls := .type "list", data := .seq #[] }).update s.heap.objs.size (Obj.mapSeq fun _ => (#[] : Array Value)) = h2 at hS2 ⊢
  have kp : ∀ b o, s.heap.get? b = some o → h2.get? b = some o := fun b o e => by
    rw [← hh2, Heap.get?_update_other _ _ (Nat.ne_of_gt (Heap.lt_size e))]
    exact Heap.get?_push_of_some _ e
  have hl2 : h2.IsList l its := by
    obtain ⟨o, e, r⟩ := id hl
    exact ⟨o, kp _ _ e, r⟩
  refine growRev (A := A.in1) (s := { s with heap := h2 }) hh (hit.at fun o e => kp _ _ e) hl2 hne hn hS2 n1 n2 (fun h' tk acc c k e i => ?_)
  exact ⟨rfl, hQ h' tk acc c (fun b o hb hbo => k b o hb (Nat.ne_of_lt (Heap.lt_size hbo)) (kp b o hbo)) e i⟩
end
/-- list(reversed(x)), x a list -/
def tListRev (K : PySem.W.Frag) (te : TE) : TE := fun σ H Q => te σ H fun v G => ∃ (a : Addr) (xs : List V), v = .ref a ∧ SqL K G a xs ∧ ∀ q, G q = none → Q (.ref q) (upd G q (.lst xs.reverse))
theorem pe_listRev {X : Cx} {e : Expr} {te : TE} {p p2 pos pos2 : Pos} (hc : X.calm = true) (hg : Gl X "list") (hm : X.mg "list" = none) (hg2 : Gl X "reversed") (hm2 : X.mg "reversed" = none) (he : PE X e te)
    (hs : starEach [e] X.env = (false, eval e X.env) :: starEach [] X.env := by rfl)
    (hs2 : starEach [.Call (.Name "reversed" p2) [e] [] pos2] X.env = (false, eval (.Call (.Name "reversed" p2) [e] [] pos2) X.env) :: starEach [] X.env := by rfl) :
    PE X (.Call (.Name "list" p) [.Call (.Name "reversed" p2) [e] [] pos2] [] pos) (tListRev X.K te) := by
  refine ⟨fun pins s σ H Q I h => ?_⟩
  have inner := fun (Q' : Value → Shared → Prop) (k : ∀ (a : Addr) (xs : List V) (its : List Value) (s1 : Shared) (G : Hp), Inv X pins σ G s1 → SqL X.K G a xs → Vals xs its → PlainL s1.heap a its.toArray → xs.length ≤ sizeLine →
      (∀ q, G q = none → Q (.ref q) (upd G q (.lst xs.reverse))) → Q' (.ref s1.heap.objs.size) { s1 with heap := s1.heap.push (revObj a ((its.toArray.size : Int) - 1)) }) =>
    show wpAny (model X.prog X.w) X.A (eval (.Call (.Name "reversed" p2) [e] [] pos2) X.env) Q' X.xe s from
      Call_ (ld_blt I hg2 hm2 PyProof.Rows.boot_reversed (PyProof.Rows.callWith_type1 (args_cons (thn (he.run pins s σ H _ I h) fun u s1 ⟨v, G, I1, r1, a, xs, ev, hq, q⟩ => args_nil (by
        subst ev
        obtain rfl : u = Value.ref a := r1
        obtain ⟨its, rv, pl, hz⟩ := I1.list hq
        exact call_reversed_list pl.isList (k a xs its s1 G I1 hq rv pl hz q))) hs) hs rfl))
  refine Call_ (ld_blt I hg hm boot_list (PyProof.Rows.callWith_type1 (args_cons (inner _ fun a xs its s1 G I1 hq rv pl hz q => args_nil ?_) hs2) hs2 rfl))
  have k0 : ∀ b o, s1.heap.get? b = some o → (s1.heap.push (revObj a ((its.toArray.size : Int) - 1))).get? b = some o := fun b o z => Heap.get?_push_of_some _ z
  obtain ⟨ol, hol, _⟩ := id pl.isList
  have hne : a ≠ s1.heap.objs.size := Nat.ne_of_lt (Heap.lt_size hol)
  have hn : its.toArray.size ≤ sizeLine := by rw [List.size_toArray, ← rv.length]; exact hz
  generalize hh3 : s1.heap.push (revObj a ((its.toArray.size : Int) - 1)) = h3 at k0 ⊢
  have it3 : h3.IsRevIter s1.heap.objs.size a ((its.toArray.size : Int) - 1) := by
    rw [← hh3]
    exact ⟨_, Heap.get?_push_size _ rfl, rfl, rfl⟩
  have l3 : h3.IsList a its.toArray := by
    rw [← hh3]
    exact pl.isList.push _
  have lt3 : s1.heap.objs.size < h3.objs.size := by
    obtain ⟨o, e, _⟩ := id it3
    exact Heap.lt_size e
  refine call_list_rev (s := { s1 with heap := h3 }) (I1.ok.hd hc) it3 l3 hne hn fun h' tk acc c hk hS hi => ?_
  have hgo : G h3.objs.size = none := I1.hok.fresh (Nat.le_of_lt lt3)
  refine ⟨.ref h3.objs.size, upd G h3.objs.size (.lst xs.reverse), I1.laid (t' := tk) (fun b o z => hk b o (Nat.ne_of_lt (Heap.lt_size z)) (k0 b o z)) (Nat.le_of_lt lt3)
    (show ObjOk X.prog X.w _ _ _ (.lst xs.reverse) from ⟨by rw [List.length_reverse]; exact hz, acc.toList, c, vals_rev rv hi, by rw [Array.toArray_toList]; exact hS⟩), rfl, q _ hgo⟩
/-- xs.extend(t), t a tuple -/
def rExtT (K : PySem.W.Frag) : V → List V → Hp → VK → Prop := fun x vs H Q => ∃ l b xs zs, x = .ref l ∧ vs = [.ref b] ∧ H l = some (.lst xs) ∧ SqT K H b zs ∧ xs.length + zs.length ≤ sizeLine ∧ Q .non (upd H l (.lst (xs ++ zs)))
theorem mt_extT {X : Cx} : MtM X "list.extend" (rExtT X.K) := by
  intro pins s σ H x vs v us Q I rx rv h
  obtain ⟨l, b, xs, zs, rfl, rfl, hl, hb, hz, q⟩ := h
  cases rx
  obtain ⟨u, rfl, ru⟩ := rv.one
  cases ru
  obtain ⟨z1, its, n, r1, _, e1⟩ := I.lstM hl
  obtain ⟨jts, r2, ⟨o, eo, oc, m, od⟩, z2⟩ := I.tuple hb
  have n1 := r1.length
  have n2 := r2.length
  have sm : its.toArray.size + jts.toArray.size ≤ sizeLine := by
    rw [List.size_toArray, List.size_toArray]
    omega
  have ty : s.TypeIs (.ref b) "tuple" := ⟨o, eo, oc⟩
  refine wpAny_call_entry F.slot_list_extend ⟨_, e1, rfl⟩ F.entry_list_extend ?_ (F.args_list_extend_2 _ _)
  show wpAny _ _ (Builtin.List.listExtendWith (.ref l) (.ref b) .none) _ _ _
  unfold Builtin.List.listExtendWith
  refine wpAny_bind (wpAny_typeOf ty ?_)
  have yes : (Builtin.List.listSameRef (.ref l) (.ref b) || Value.type "tuple" == Value.type "list" || Value.type "tuple" == Value.type "tuple") = true := by simp
  rw [if_pos yes]
  refine wpAny_bind ?_
  unfold Builtin.List.listItems
  refine wpAny_bind (wpAny_seqItems eo od (wpAny_pure ?_))
  refine wpAny_bind ?_
  refine wpAny_bind (wpAny_seqItems e1 rfl (wpAny_pure ?_))
  have long : (!its.toArray.isEmpty && Builtin.List.listTooLong (its.toArray.size + jts.toArray.size)) = false := by
    rw [notLongL sm, Bool.and_false]
  rw [if_neg (by rw [long]; exact Bool.false_ne_true)]
  refine wpAny_bind ?_
  show wpAny _ _ (updateSeq l (· ++ jts.toArray)) _ _ _
  refine wpAny_updateSeq e1 rfl ?_ (by rw [List.size_toArray]; omega) (by rw [Array.size_append]; omega)
  refine wpAny_pure ⟨_, rfl, ?_⟩
  refine ⟨.non, _, I.lset (its' := its ++ jts) hl e1 (by simp) (r1.append r2) ?_, rfl, q⟩
  rw [List.length_append]
  exact hz
end Kr

namespace Kq
open PySem PySem.Spec PyProof.Rows L2
/-! the program's defs, by their places -/
def tp (i : Nat) : Stmt := PySem.Challenge.pw_kindalone_k02_small_handed_walked.main.body.getD i (.Pass ⟨0, 0, 0, 0⟩)
abbrev tMixed : Stmt := tp 10
abbrev tDraw : Stmt := tp 11
/-! heaps -/
theorem newS {H : Hp} {p : Addr} {o : HO} (h : H p = none) : Same H (upd H p o) := fun b u e => by
  rw [upd_ne (ne_of_none e h)]
  exact e
/-- but for d and c all that stood stands -/
def Kp (d c : Addr) (H G : Hp) : Prop := ∀ b o, b ≠ d → b ≠ c → H b = some o → G b = some o
theorem Kp.rfl {d c : Addr} {H : Hp} : Kp d c H H := fun _ _ _ _ e => e
theorem Kp.trans {d c : Addr} {H G F : Hp} (a : Kp d c H G) (b : Kp d c G F) : Kp d c H F := fun x o h1 h2 e => b x o h1 h2 (a x o h1 h2 e)
theorem Kp.of {d c : Addr} {H G : Hp} (a : Same H G) : Kp d c H G := fun x o _ _ e => a x o e
theorem Kp.at1 {d c : Addr} {H : Hp} {o : HO} : Kp d c H (upd H d o) := fun x u h1 _ e => by rw [upd_ne h1]; exact e
theorem Kp.at2 {d c : Addr} {H : Hp} {o : HO} : Kp d c H (upd H c o) := fun x u _ h2 e => by rw [upd_ne h2]; exact e
/-- the deck of drawn cells -/
structure Dk (H : Hp) (d c : Addr) : Prop where
  ne : d ≠ c
  dd : ∃ seed k : Int, H d = some (.lst [.ref c, .int seed, .int k])
  cc : ∃ ns : List Int, H c = some (.lst (ns.map V.int)) ∧ ns.length ≤ 63
theorem Dk.same {H G : Hp} {d c : Addr} (x : Dk H d c) (s : Same H G) : Dk G d c := by
  obtain ⟨n, ⟨a, b, e⟩, ⟨ns, f, l⟩⟩ := x
  exact ⟨n, ⟨a, b, s _ _ e⟩, ⟨ns, s _ _ f, l⟩⟩
theorem sz {n : Nat} (h : n ≤ 1000) : n ≤ sizeLine := Nat.le_of_lt (small1000 h)
section
variable {P : Program} {w : World} {K : PySem.W.Frag} {mg : Str → Option Value} {base : Heap}
/-! _law_mixed -/
theorem scMixed : FnScope ["_law_cell", "_law_k", "_law_number"] ["_law_cell", "_law_k"] (defScope tMixed) := ⟨rfl, rfl, rfl, by decide +kernel, rfl, by decide +kernel, by decide +kernel⟩
def spMixed : Sp := fun vs H Q _ => ∃ a b : Int, vs = [.int a, .int b] ∧ ∀ r : Int, Q (.int r) H
theorem okMixed {f : Addr} {fd : FuncData} {k : Nat} (F : Fun K "_law_mixed" "_law_mixed" tMixed f fd) : FnOk P w K mg base CX0 (k + 1) f fd ["_law_cell", "_law_k"] spMixed := by
  refine F.ok scMixed (fun vs H Q E h => ?_) (fun cdv A outer s H vs Q E hr h => ?_)
  · obtain ⟨a, b, rfl, _⟩ := h
    rfl
  obtain ⟨a, b, rfl, q⟩ := h
  refine ⟨_, pss_cons (ps_set (i := 2) scMixed.nd rfl (.inl rfl) (pe_op op_mod (pe_op op_mul (pe_op op_add (pe_op op_add (pe_op op_mod (pv 0) pe_int) (pe_op op_mul pe_int (pv 1))) pe_int) pe_int) pe_int))
    (pss_cons (ps_set (i := 2) scMixed.nd rfl (.inl rfl) (pe_op op_mod (pe_op op_add (pe_op op_add (pe_op op_mul (pv 2) (pv 2)) (pe_op op_mul pe_int (pv 1))) pe_int) pe_int))
    (pss_one (ps_ret (pe_op op_fdiv (pe_op op_mod (pe_op op_mul (pv 2) (pe_op op_add (pe_op op_fdiv (pv 2) pe_int) pe_int)) pe_int) pe_int)))), ?_⟩
  refine ⟨_, rfl, _, _, rfl, rfl, (by show (0 : Int) < 2147483629; decide), _, rfl, _, _, rfl, rfl, .inl ⟨by decide, by decide⟩, _, _, rfl, rfl, _, _, rfl, rfl, _, _, rfl, rfl, .inr ⟨by decide, by decide⟩, _, _, rfl, rfl, (by show (0 : Int) < 2147483647; decide), ?_⟩
  generalize hx : (a % 2147483629 + 104729 * b + 1) * 48271 % 2147483647 = x
  have x0 : 0 ≤ x := by rw [← hx]; exact Int.emod_nonneg _ (by decide)
  have x1 : x < 2147483647 := by rw [← hx]; exact Int.emod_lt_of_pos _ (by decide)
  refine ⟨_, rfl, _, rfl, _, _, rfl, rfl, .inl ⟨by omega, by omega⟩, _, rfl, _, _, rfl, rfl, .inl ⟨by decide, by decide⟩, _, _, rfl, rfl, _, _, rfl, rfl, _, _, rfl, rfl, (by show (0 : Int) < 2147483587; decide), ?_⟩
  generalize hy : (x * x + 69621 * b + 7) % 2147483587 = y
  have y0 : 0 ≤ y := by rw [← hy]; exact Int.emod_nonneg _ (by decide)
  have y1 : y < 2147483587 := by rw [← hy]; exact Int.emod_lt_of_pos _ (by decide)
  refine ⟨_, rfl, _, rfl, _, _, rfl, rfl, ⟨by decide, by decide⟩, _, _, rfl, rfl, _, _, rfl, rfl, .inl ⟨by omega, by omega⟩, _, _, rfl, rfl, (by show (0 : Int) < 2305843009213693951; decide), _, _, rfl, rfl, ⟨by decide, by decide⟩, q _⟩
/-! _law_draw -/
theorem scDraw : FnScope ["_law_deck_here", "_law_most", "_law_cell"] ["_law_deck_here", "_law_most"] (defScope tDraw) := ⟨rfl, rfl, rfl, by decide +kernel, rfl, by decide +kernel, by decide +kernel⟩
def spDraw : Sp := fun vs H Q _ => ∃ (d c : Addr) (m : Int), vs = [.ref d, .int m] ∧ Dk H d c ∧ 0 < m ∧ m < 1000 ∧ ∀ (r : Int) (G : Hp), 0 ≤ r → r < m → Kp d c H G → Dk G d c → Q (.int r) G
theorem dpInts (K : PySem.W.Frag) (H : Hp) : ∀ ns : List Int, DpAll K H (ns.map V.int) (ns.map PyData.int)
  | [] => .nil
  | n :: ns => .cons (.int n) (dpInts K H ns)
theorem okDraw {f fM : Addr} {fd fdM : FuncData} {k : Nat} (F : Fun K "_law_draw" "_law_draw" tDraw f fd) (FM : Fun K "_law_mixed" "_law_mixed" tMixed fM fdM) (bM : Binds K fdM ["_law_cell", "_law_k"] []) (gM : mg "_law_mixed" = some (.ref fM)) :
    FnOk P w K mg base CX0 (k + 2) f fd ["_law_deck_here", "_law_most"] spDraw := by
  have GM : FnOk P w K mg base CX0 (k + 1) fM fdM ["_law_cell", "_law_k"] spMixed := okMixed FM
  refine F.ok scDraw (fun vs H Q E h => ?_) (fun cdv A outer s H vs Q E hr h => ?_)
  · obtain ⟨d, c, m, rfl, _⟩ := h
    rfl
  obtain ⟨d, c, m, rfl, ⟨ndc, ⟨seed, k0, hd⟩, ⟨ns, hc, hl⟩⟩, m0, m1, q⟩ := h
  refine ⟨_, pss_cons (ps_asg (pe_op op_add (pe_ix ix_list (pv 0) pe_int (fun _ _ => rfl)) pe_int) (pg_sub (pv 0) pe_int set_list))
    (pss_cons (ps_if (pt_cmpR (op_eqD hr.units) (pe_ix ix_list (pv 0) pe_int (fun _ _ => rfl)) (pe_lst pa_nil) (nomark _))
      (pss_one (ps_ret (pe_op op_mod (pe_call GM hr (by rfl) gM FM.kp bM .nil pass0 (pa_cons (pe_ix ix_list (pv 0) pe_int (fun _ _ => rfl)) (pa_cons (pe_ix ix_list (pv 0) pe_int (fun _ _ => rfl)) pa_nil))) (pv 1)))) pss_nil)
    (pss_cons (ps_set (i := 2) scDraw.nd rfl (.inl rfl) (pe_bm0 PySem.F.plainAttrs_list PySem.F.slot_list_pop PySem.F.type_list_pop mt_pop (pe_ix ix_list (pv 0) pe_int (fun _ _ => rfl))))
    (pss_cons (ps_if (pt_cmpR op_lt (pv 2) (pe_op op_pow pe_int pe_int) (nomark _))
      (pss_one (ps_ret (pe_op op_mod (pe_call GM hr (by rfl) gM FM.kp bM .nil pass0 (pa_cons (pv 2) (pa_cons (pe_ix ix_list (pv 0) pe_int (fun _ _ => rfl)) pa_nil))) (pv 1)))) pss_nil)
    (pss_cons (ps_expr (pe_bm PySem.F.plainAttrs_list PySem.F.slot_list_append PySem.F.type_list_append mt_append (pe_ix ix_list (pv 0) pe_int (fun _ _ => rfl)) (pa_cons (pe_op op_fdiv (pv 2) (pv 1)) pa_nil)))
    (pss_one (ps_ret (pe_op op_mod (pv 2) (pv 1)))))))), ?_⟩
  -- the count
  refine ⟨_, rfl, d, _, _, _, rfl, rfl, SqL.of hd, atI_nat (j := 2) rfl, _, _, rfl, rfl, _, rfl, d, _, _, 2, rfl, rfl, hd, rfl, ?_⟩
  generalize hH1 : upd H d _ = H1
  have d1 : H1 d = some (.lst [.ref c, .int seed, .int (k0 + 1)]) := by rw [← hH1, upd_same]; rfl
  have c1 : H1 c = some (.lst (ns.map V.int)) := by rw [← hH1, upd_ne ndc.symm]; exact hc
  have p1 : Kp d c H H1 := by rw [← hH1]; exact Kp.at1
  clear hH1
  -- no cell left?
  refine ⟨_, rfl, d, _, _, _, rfl, rfl, SqL.of d1, atI_nat (j := 0) rfl, Nat.zero_le _, fun p np => ?_⟩
  have sp : Same H1 (upd H1 p (.lst [])) := newS np
  have d2 := sp _ _ d1
  have c2 := sp _ _ c1
  have p2 : Kp d c H (upd H1 p (.lst [])) := p1.trans (.of sp)
  refine ⟨.list (ns.map PyData.int), .list [], .lst (SqL.of c2) (dpInts K _ ns), .lst (SqL.of upd_same) .nil, PySem.W.ke_shaped_ints ns, rfl, _, rfl, ?_⟩
  generalize upd H1 p (.lst []) = H2 at d2 c2 p2
  refine ite2 (fun _ => ?_) (fun hne => ?_)
  · refine ⟨_, rfl, d, _, _, _, rfl, rfl, SqL.of d2, atI_nat (j := 1) rfl, _, rfl, d, _, _, _, rfl, rfl, SqL.of d2, atI_nat (j := 2) rfl, _, _, rfl, fun r => ?_⟩
    exact ⟨_, rfl, _, _, rfl, rfl, m0, q _ _ (Int.emod_nonneg _ (by omega)) (Int.emod_lt_of_pos _ m0) p2 ⟨ndc, ⟨_, _, d2⟩, ⟨ns, c2, hl⟩⟩⟩
  · have nn : ns ≠ [] := fun z => hne (by rw [z]; rfl)
    obtain ⟨n, hn⟩ : ∃ n, (ns.map V.int)[(ns.map V.int).length - 1]? = some (.int n) := by
      have h0 : 0 < ns.length := List.length_pos_iff.mpr nn
      rw [List.length_map, List.getElem?_map, List.getElem?_eq_getElem (by omega)]
      exact ⟨_, rfl⟩
    have ed : (ns.map V.int).dropLast = ns.dropLast.map V.int := by rw [List.map_dropLast]
    refine ⟨_, rfl, d, _, _, _, rfl, rfl, SqL.of d2, atI_nat (j := 0) rfl, .inl ⟨rfl, _, SqL.of c2⟩, c, _, _, rfl, rfl, c2, hn, ?_⟩
    rw [ed]
    generalize hH3 : upd H2 c _ = H3
    have d3 : H3 d = some (.lst [.ref c, .int seed, .int (k0 + 1)]) := by rw [← hH3, upd_ne ndc]; exact d2
    have c3 : H3 c = some (.lst (ns.dropLast.map V.int)) := by rw [← hH3, upd_same]
    have p3 : Kp d c H H3 := by rw [← hH3]; exact p2.trans Kp.at2
    have l3 : ns.dropLast.length ≤ 62 := by rw [List.length_dropLast]; omega
    clear hH3
    refine ⟨_, rfl, _, _, rfl, rfl, ⟨by decide, by decide, by decide⟩, _, _, rfl, rfl, _, rfl, ite2 (fun _ => ?_) (fun _ => ?_)⟩
    · refine ⟨_, rfl, _, rfl, d, _, _, _, rfl, rfl, SqL.of d3, atI_nat (j := 2) rfl, _, _, rfl, fun r => ?_⟩
      exact ⟨_, rfl, _, _, rfl, rfl, m0, q _ _ (Int.emod_nonneg _ (by omega)) (Int.emod_lt_of_pos _ m0) p3 ⟨ndc, ⟨_, _, d3⟩, ⟨_, c3, by omega⟩⟩⟩
    · refine ⟨_, rfl, d, _, _, _, rfl, rfl, SqL.of d3, atI_nat (j := 0) rfl, .inl ⟨rfl, _, SqL.of c3⟩, _, rfl, _, rfl, _, _, rfl, rfl, ⟨m0, by omega⟩, c, _, _, rfl, rfl, c3, (by rw [List.length_map]; exact small1000 (by omega)), ?_⟩
      refine ⟨_, rfl, _, rfl, _, _, rfl, rfl, m0, q _ _ (Int.emod_nonneg _ (by omega)) (Int.emod_lt_of_pos _ m0) (p3.trans Kp.at2) ⟨ndc, ⟨seed, k0 + 1, (by rw [upd_ne ndc]; exact d3)⟩, ⟨ns.dropLast ++ [n / m], ?_, ?_⟩⟩⟩
      · rw [upd_same, List.map_append]
        rfl
      · rw [List.length_append, List.length_singleton]
        omega
end
end Kq

namespace Kq
open PySem PySem.Spec PyProof.Rows L2
abbrev tDeck : Stmt := tp 9
abbrev tNames : Stmt := tp 12
theorem Kp.mk {d c p : Addr} {H G : Hp} {o : HO} (a : Kp d c H G) (h : H p = none) : Kp d c H (upd G p o) := fun b u h1 h2 e => by
  rw [upd_ne (ne_of_none e h)]
  exact a b u h1 h2 e
theorem Dk.put {G : Hp} {d c p : Addr} {o : HO} (x : Dk G d c) (h : p ≠ d) (h' : p ≠ c) : Dk (upd G p o) d c := by
  obtain ⟨n, ⟨a, b, e⟩, ⟨ns, f, l⟩⟩ := x
  exact ⟨n, ⟨a, b, by rw [upd_ne h.symm]; exact e⟩, ⟨ns, by rw [upd_ne h'.symm]; exact f, l⟩⟩
theorem Dk.off {H : Hp} {d c p : Addr} (x : Dk H d c) (h : H p = none) : p ≠ d ∧ p ≠ c := by
  obtain ⟨n, ⟨a, b, e⟩, ⟨ns, f, l⟩⟩ := x
  exact ⟨(ne_of_none e h).symm, (ne_of_none f h).symm⟩
/-! texts of letters -/
def lets : Str := "abcdefghijklmnopqrstuvwxyz"
def sg (i : Nat) : Str := ⟨#[97 + i]⟩
theorem lets_at : ∀ i : Fin 26, lets.cps.toList[i.val]? = some (97 + i.val) := by decide +kernel
theorem lets_ix : ∀ i : Fin 26, Builtin.Str.occurrences lets (sg i.val) 0 lets.length 1 = [i.val] := by decide +kernel
structure Nm (x : Str) : Prop where
  low : ∀ c ∈ x.cps.toList, 97 ≤ c ∧ c < 123
  few : x.cps.toList.length ≤ 8
  one : 1 ≤ x.cps.toList.length
theorem app_cps (x y : Str) : (x ++ y).cps.toList = x.cps.toList ++ y.cps.toList := by
  show (x.cps ++ y.cps).toList = _
  rw [Array.toList_append]
theorem join_low : ∀ ks : List Nat, (∀ k ∈ ks, k < 26) → (∀ c ∈ (Txt.join (Str.ofString "") (ks.map sg)).cps.toList, 97 ≤ c ∧ c < 123) ∧ (Txt.join (Str.ofString "") (ks.map sg)).cps.toList.length = ks.length := by
  intro ks h
  rw [show ∀ a b, Txt.join a b = Str.join a b from TL.join_eq]
  induction ks with
  | nil => exact ⟨fun c z => absurd z (by simp [Str.join, Str.empty]), by simp [Str.join, Str.empty]⟩
  | cons k ks ih =>
    have hk := h k List.mem_cons_self
    have ih := ih fun j hj => h j (List.mem_cons_of_mem _ hj)
    cases ks with
    | nil =>
      refine ⟨fun c z => ?_, rfl⟩
      have e : c = 97 + k := by simpa [Str.join, sg] using z
      omega
    | cons j r =>
      have e : Str.join (Str.ofString "") ((k :: j :: r).map sg) = sg k ++ Str.ofString "" ++ Str.join (Str.ofString "") ((j :: r).map sg) := rfl
      rw [e, app_cps, app_cps]
      have e0 : (Str.ofString "").cps.toList = [] := by decide
      rw [e0, List.append_nil]
      refine ⟨fun c z => ?_, ?_⟩
      · rcases List.mem_append.mp z with z | z
        · have e : c = 97 + k := by simpa [sg] using z
          omega
        · exact ih.1 c z
      · rw [List.length_append, ih.2]
        show 1 + _ = _
        simp only [List.length_cons]
        omega
theorem join_nm {ks : List Nat} (h : ∀ k ∈ ks, k < 26) (h1 : 1 ≤ ks.length) (h8 : ks.length ≤ 8) : Nm (Txt.join (Str.ofString "") (ks.map sg)) := by
  obtain ⟨a, b⟩ := join_low ks h
  exact ⟨a, by omega, by omega⟩
theorem cutTo {xs : List V} {j : Nat} (h : j ≤ xs.length) : cutV xs none (some (j : Int)) = xs.take j := by
  unfold cutV
  rw [HT.sIx_nat, HT.sIx_none, Nat.min_eq_left h]
  rfl
section
variable {P : Program} {w : World} {K : PySem.W.Frag} {mg : Str → Option Value} {base : Heap}
/-! _law_deck -/
theorem scDeck : FnScope ["_law_script", "_law_cells", "_law_seed", "_law_cell"] ["_law_script"] (defScope tDeck) := ⟨rfl, rfl, rfl, by decide +kernel, rfl, by decide +kernel, by decide +kernel⟩
def spDeck (K : PySem.W.Frag) : Sp := fun vs H Q _ => ∃ (a : Addr) (ns : List Int), vs = [.ref a] ∧ SqL K H a (ns.map V.int) ∧ ns.length ≤ 63 ∧ ∀ (d c : Addr) (G : Hp), Same H G → Dk G d c → Q (.ref d) G
theorem okDeck {f : Addr} {fd : FuncData} {k : Nat} (F : Fun K "_law_deck" "_law_deck" tDeck f fd) (ml : mg "list" = none) (mr : mg "reversed" = none) : FnOk P w K mg base CX0 (k + 1) f fd ["_law_script"] (spDeck K) := by
  refine F.ok scDeck (fun vs H Q E h => ?_) (fun cdv A outer s H vs Q E hr h => ?_)
  · obtain ⟨a, ns, rfl, _⟩ := h
    rfl
  obtain ⟨a, ns, rfl, hS, hl, q⟩ := h
  refine ⟨_, pss_cons (ps_set (i := 1) scDeck.nd rfl (.inl rfl) (Kr.pe_listRev rfl (by rfl) ml (by rfl) mr (pe_slice sl_list (pv 0) po_none (po_some pe_int))))
    (pss_cons (ps_set (i := 2) scDeck.nd rfl (.inl rfl) pe_int)
    (pss_cons (ps_for PassesOwn.never rfl (pi_list (pv 1)) (pg_name (i := 3) scDeck.nd rfl (.inl rfl))
      (pss_one (ps_set (i := 2) scDeck.nd rfl (.inl rfl) (pe_op op_mod (pe_op op_add (pe_op op_add (pe_op op_mul (pv 2) pe_int) (pe_op op_mod (pv 3) pe_int)) pe_int) pe_int))))
    (pss_one (ps_ret (pe_lst (pa_cons (pv 1) (pa_cons (pv 2) (pa_cons pe_int pa_nil)))))))), ?_⟩
  refine ⟨_, rfl, 63, rfl, a, _, rfl, hS, fun p np => ?_⟩
  refine ⟨p, _, rfl, SqL.of upd_same, fun c nc => ?_⟩
  have e0 : cutV (ns.map V.int) none (some 63) = (ns.take 63).map V.int := by
    rw [List.take_of_length_le hl]
    unfold cutV
    rw [HT.sIx_none, show HT.sIx (ns.map V.int).length (ns.map V.int).length (some 63) = min 63 (ns.map V.int).length from HT.sIx_nat _ _ 63, List.drop_zero, List.take_of_length_le]
    rw [List.length_map]
    omega
  rw [e0, ← List.map_reverse]
  generalize hm : (ns.take 63).reverse = ms
  have lm : ms.length ≤ 63 := by rw [← hm, List.length_reverse, List.length_take]; omega
  generalize hG : upd (upd H p _) c (.lst (ms.map V.int)) = G
  have gc : G c = some (.lst (ms.map V.int)) := by rw [← hG, upd_same]
  have sG : Same H G := by
    rw [← hG]
    rw [e0] at nc
    exact (newS np).trans (newS nc)
  refine ⟨_, rfl, c, rfl, ⟨_, SqL.of gc⟩, for_list (xs := ms.map V.int) (fun i σ F => F = G ∧ ∃ (sd : Int) (y : Option V), σ = [some (.ref a), some (.ref c), some (.int sd), y]) ⟨rfl, _, none, rfl⟩ (fun i σ F _ z => by rw [z.1]; exact SqL.of gc) (fun i x σ F hx z => ?_) (fun σ F z => ?_)⟩
  · obtain ⟨rfl, sd, y, rfl⟩ := z
    obtain ⟨n, rfl⟩ : ∃ n, x = .int n := by
      rw [List.getElem?_map] at hx
      cases hq : ms[i]? with
      | none => rw [hq] at hx; cases hx
      | some n => rw [hq] at hx; exact ⟨n, (Option.some.inj hx).symm⟩
    exact ⟨_, rfl, _, _, rfl, rfl, .inr ⟨by decide, by decide⟩, _, rfl, _, _, rfl, rfl, (by show (0 : Int) < 1000000007; decide), _, _, rfl, rfl, _, _, rfl, rfl, _, _, rfl, rfl, (by show (0 : Int) < 2147483629; decide), rfl, _, _, rfl⟩
  · obtain ⟨rfl, sd, y, rfl⟩ := z
    refine ⟨_, rfl, _, rfl, (by show 3 ≤ sizeLine; decide), fun d nd => q d c _ (sG.trans (newS nd)) ⟨(ne_of_none gc nd).symm, ⟨_, _, upd_same⟩, ⟨ms, ?_, lm⟩⟩⟩
    rw [upd_ne (ne_of_none gc nd)]
    exact gc
end
end Kq

namespace Kq
open PySem PySem.Spec PyProof.Rows L2
theorem Kp.free {d c p : Addr} {H G : Hp} (a : Kp d c H G) (k : Dk G d c) (h : G p = none) : H p = none := by
  obtain ⟨h1, h2⟩ := k.off h
  cases e : H p with
  | none => rfl
  | some o =>
    rw [a p o h1 h2 e] at h
    cases h
theorem sg_len (ks : List Nat) : ((ks.map sg).map (·.length)).sum = ks.length := by
  induction ks with
  | nil => rfl
  | cons k ks ih =>
    rw [List.map_cons, List.map_cons, List.sum_cons, ih, List.length_cons]
    show 1 + ks.length = _
    omega
theorem lets_get {r : Int} (h0 : 0 ≤ r) (h1 : r < 26) : atI lets.cps.toList r = some (97 + r.toNat) := by
  have e : r = ((r.toNat : Nat) : Int) := by omega
  have q := atI_nat (lets_at ⟨r.toNat, by omega⟩)
  rw [← show r = (((⟨r.toNat, by omega⟩ : Fin 26).val : Nat) : Int) from e] at q
  exact q
theorem cutKs {ks : List Nat} {j : Nat} (h : j ≤ ks.length) : cutV ((ks.map sg).map V.str) none (some (j : Int)) = ((ks.take j).map sg).map V.str := by
  rw [cutTo (by rw [List.length_map, List.length_map]; exact h), List.map_take, List.map_take]
theorem lets_len : lets.length ≤ sizeLine := by decide
/-! rules for the inside of a comprehension, the written part named -/
theorem slK {X : Cx} (K : PySem.W.Frag) (h : X.K = K) : SlR X (rSlL K) := by
  subst h
  exact sl_list
def rJn (K : PySem.W.Frag) : V → List V → Hp → VK → Prop := fun x xs H Q => ∃ a p, ∃ ys : List Str, x = .str a ∧ xs = [.ref p] ∧ (SqL K H p (ys.map V.str) ∨ SqT K H p (ys.map V.str)) ∧ (ys.map (·.length)).sum + ys.length * a.length ≤ 16777216 ∧ Q (.str (Txt.join a ys)) H
theorem pe_joinK {X : Cx} (K : PySem.W.Frag) (h : X.K = K) {o e : Expr} {apos pos : Pos} {to te : TE} (ho : PE X o to) (he : PE X e te) (hbase : attributeBase o "join" X.env (eval o X.env) = eval o X.env := by rfl) (hline : (apos.endLine == pos.line) = true := by rfl)
    (hs : starEach [e] X.env = [(false, eval e X.env)] := by rfl) : PE X (.Call (.Attribute o "join" apos) [e] [] pos) (tM1 (rJn K) to te) := by
  subst h
  exact pe_join ho he hs hbase hline
section
variable {P : Program} {w : World} {K : PySem.W.Frag} {mg : Str → Option Value} {base : Heap}
abbrev nNames : List Str := ["_law_deck_here", "_law_many", "_law_letters", "_law_k", "_law_word", "_law_long", "_law_at", "_law_found", "_law_one"]
theorem scNames : FnScope nNames ["_law_deck_here", "_law_many"] (defScope tNames) := ⟨rfl, rfl, rfl, by decide +kernel, rfl, by decide +kernel, by decide +kernel⟩
def spNames : Sp := fun vs H Q _ => ∃ (d c : Addr) (m : Int), vs = [.ref d, .int m] ∧ Dk H d c ∧ 0 ≤ m ∧ m ≤ 26 ∧
  ∀ (l : Addr) (xs : List Str) (G : Hp), Kp d c H G → Dk G d c → H l = none → G l = some (.lst (xs.map V.str)) → xs.length = m.toNat → (∀ x ∈ xs, Nm x) → Q (.ref l) G
theorem okNames {f fD : Addr} {fd fdD : FuncData} {k : Nat} (F : Fun K "_law_names" "_law_names" tNames f fd) (GD : FnOk P w K mg base CX0 (k + 2) fD fdD ["_law_deck_here", "_law_most"] spDraw) (bD : Binds K fdD ["_law_deck_here", "_law_most"] []) (gD : mg "_law_draw" = some (.ref fD)) (kD : PySem.W.keepIn K (.ref fD) = true)
    (ml : mg "list" = none) (mr : mg "range" = none) : FnOk P w K mg base CX0 (k + 3) f fd ["_law_deck_here", "_law_many"] spNames := by
  refine F.ok scNames (fun vs H Q E h => ?_) (fun cdv A outer s H vs Q E hr h => ?_)
  · obtain ⟨d, c, m, rfl, _⟩ := h
    rfl
  obtain ⟨d, c, m, rfl, dk, m0, m1, q⟩ := h
  refine ⟨_, pss_cons (ps_set (i := 2) scNames.nd rfl (.inr rfl) pe_str)
    (pss_cons (ps_set (i := 4) scNames.nd rfl (.inr rfl) (pe_lc (own := [("_law_k", 3)]) (g := gName 3) (by rfl) scNames.nd (pi_range1 (by rfl) mr (pa_cons pe_int pa_nil)) (blkOk_by (own := [("_law_k", 3)]) (N := nNames) (sc := defScope tNames) (by decide +kernel))
        (fun _ _ _ _ _ => pg_name (i := 3) scNames.nd rfl (.inl rfl)) (fun _ _ _ _ _ => pts_nil)
        (fun _ _ _ _ _ => pe_ix ix_str (pv 2) (pe_call GD hr (by rfl) gD kD bD .nil pass0 (pa_cons (pv 0) (pa_cons pe_int pa_nil))) (fun _ _ => rfl))))
    (pss_cons (ps_set (i := 5) scNames.nd rfl (.inl rfl) (pe_op op_add pe_int (pe_call GD hr (by rfl) gD kD bD .nil pass0 (pa_cons (pv 0) (pa_cons pe_int pa_nil)))))
    (pss_cons (ps_set (i := 6) scNames.nd rfl (.inl rfl) (pe_call GD hr (by rfl) gD kD bD .nil pass0 (pa_cons (pv 0) (pa_cons (pv 5) pa_nil))))
    (pss_cons (ps_if (PW.pt (pw_and (pt_cmpR op_eq (pe_call GD hr (by rfl) gD kD bD .nil pass0 (pa_cons (pv 0) (pa_cons pe_int pa_nil))) pe_int (nomark _)) (pw_and1 (pt_cmpR op_lt (pv 1) pe_int (nomark _)))))
      (pss_one (ps_ret (pe_lc (own := [("_law_k", 3)]) (g := gName 3) (by rfl) scNames.nd (pi_range1 (by rfl) mr (pa_cons (pv 1) pa_nil)) (blkOk_by (own := [("_law_k", 3)]) (N := nNames) (sc := defScope tNames) (by decide +kernel))
        (fun _ _ _ _ _ => pg_name (i := 3) scNames.nd rfl (.inl rfl)) (fun _ _ _ _ _ => pts_nil)
        (fun _ _ _ _ _ => pe_joinK K rfl pe_str (pe_slice (slK K rfl) (pv 4) po_none (po_some (pe_op op_add pe_int (pv 3)))))))) pss_nil)
    (pss_cons (ps_set (i := 7) scNames.nd rfl (.inl rfl) (pe_lst pa_nil))
    (pss_cons (ps_for PassesOwn.never rfl (pi_range1 (by rfl) mr (pa_cons (pv 1) pa_nil)) (pg_name (i := 3) scNames.nd rfl (.inl rfl))
      (pss_cons (ps_set (i := 8) scNames.nd rfl (.inl rfl) (pe_callTy call_list_of (by rfl) ml boot_list (pa_cons (pe_slice sl_list (pv 4) po_none (po_some (pv 5))) pa_nil)))
      (pss_cons (ps_asg (pe_ix ix_str (pv 2) (pe_op op_mod (pe_op op_add (pe_bm PySem.F.plainAttrs_str PySem.F.slot_str_index PySem.F.type_str_index mt_sindex (pv 2) (pa_cons (pe_ix ix_list (pv 4) (pv 6) (fun _ _ => rfl)) pa_nil)) (pv 3)) pe_int) (fun _ _ => rfl)) (pg_sub (pv 8) (pv 6) set_list))
      (pss_one (ps_expr (pe_bm PySem.F.plainAttrs_list PySem.F.slot_list_append PySem.F.type_list_append mt_append (pv 7) (pa_cons (pe_join pe_str (pv 8)) pa_nil)))))))
    (pss_one (ps_ret (pv 7))))))))), ?_⟩
  -- the word
  refine ⟨8, rfl, by decide, by decide, fun W nW => lc_range (lo := 0) (n := 8) (fun i G => Kp d c H G ∧ Dk G d c ∧ ∃ ks : List Nat, ks.length = i ∧ (∀ k ∈ ks, k < 26) ∧ G W = some (.lst ((ks.map sg).map V.str)))
    ⟨(Kp.rfl).mk nW, dk.put (dk.off nW).1 (dk.off nW).2, [], rfl, (fun _ z => nomatch z), upd_same⟩ (fun i G hi z => ?_) (fun G z => ?_)⟩
  · obtain ⟨kp, dk1, ks, lk, hk, gW⟩ := z
    refine ⟨rfl, _, rfl, _, rfl, d, c, 26, rfl, dk1, by decide, by decide, fun r G1 r0 r1 kp1 dk2 => ?_⟩
    have off := dk.off nW
    have gW1 := kp1 W _ off.1 off.2 gW
    refine ⟨_, r, 97 + r.toNat, rfl, rfl, lets_len, lets_get r0 r1, _, gW1, ?_, (kp.trans kp1).mk nW, dk2.put off.1 off.2, ks ++ [r.toNat], ?_, ?_, ?_⟩
    · rw [List.length_map, List.length_map]
      exact small1000 (by omega)
    · rw [List.length_append, lk]
      rfl
    · intro j hj
      rcases List.mem_append.mp hj with hj | hj
      · exact hk j hj
      · rw [List.mem_singleton.mp hj]
        omega
    · rw [upd_same, List.map_append, List.map_append]
      rfl
  obtain ⟨kp, dk1, ks, lk, hk, gW⟩ := z
  have off := dk.off nW
  -- long, at
  refine ⟨_, rfl, d, c, 8, rfl, dk1, by decide, by decide, fun r5 G5 a0 a1 kp5 dk5 => ⟨_, _, rfl, rfl, ?_⟩⟩
  refine ⟨_, rfl, _, rfl, d, c, _, rfl, dk5, by omega, by omega, fun r6 G6 b0 b1 kp6 dk6 => ?_⟩
  refine ⟨_, rfl, d, c, 4, rfl, dk6, by decide, by decide, fun r7 G7 c0 c1 kp7 dk7 => ?_⟩
  have kpW : Kp d c G G7 := kp5.trans (kp6.trans kp7)
  have gW7 := kpW W _ off.1 off.2 gW
  have kp7' : Kp d c H G7 := kp.trans kpW
  clear kp5 kp6 kp7 dk5 dk6 gW kp dk1 kpW
  refine ⟨rfl, _, rfl, (fun h2 => ite2 (fun _ => ⟨_, rfl, _, _, rfl, rfl, _, rfl, ite2 (fun c9 => ?b1) (fun _ => h2)⟩) (fun _ => iteF h2)) ?b2⟩
  case b1 =>
    have m9 : m < 9 := of_decide_eq_true c9
    refine ⟨_, rfl, m, rfl, by omega, by omega, fun D nD => lc_range (lo := 0) (n := m.toNat) (fun i G => Kp d c H G ∧ Dk G d c ∧ G W = some (.lst ((ks.map sg).map V.str)) ∧ ∃ xs : List Str, xs.length = i ∧ (∀ x ∈ xs, Nm x) ∧ G D = some (.lst (xs.map V.str))) ?_ (fun i G hi z => ?_) (fun G z => ?_)⟩
    · exact ⟨kp7'.mk (kp7'.free dk7 nD), dk7.put (dk7.off nD).1 (dk7.off nD).2, by rw [upd_ne (ne_of_none gW7 nD)]; exact gW7, [], rfl, (fun _ z => nomatch z), upd_same⟩
    · obtain ⟨kpi, dki, gWi, xs, lx, hx, gD'⟩ := z
      refine ⟨rfl, ⟨_, rfl⟩, _, rfl, _, rfl, _, _, rfl, rfl, ((i + 1 : Nat) : Int), congrArg V.int (by omega), W, _, rfl, SqL.of gWi, fun p np => ?_⟩
      rw [cutKs (ks := ks) (j := i + 1) (by omega)]
      have lt : (ks.take (i + 1)).length = i + 1 := by rw [List.length_take]; omega
      refine ⟨_, p, (ks.take (i + 1)).map sg, rfl, rfl, .inl (SqL.of upd_same), ?_, xs.map V.str, ?_, ?_, ?_⟩
      · rw [sg_len, List.length_map, lt]
        show i + 1 + (i + 1) * 0 ≤ 16777216
        omega
      · rw [upd_ne (ne_of_none gD' np)]
        exact gD'
      · rw [List.length_map]
        exact small1000 (by omega)
      · have hD : H D = none := kp7'.free dk7 nD
        refine ⟨(kpi.mk (kpi.free dki np)).mk hD, (dki.put (dki.off np).1 (dki.off np).2).put (dk7.off nD).1 (dk7.off nD).2, ?_, xs ++ [Txt.join (Str.ofString "") ((ks.take (i + 1)).map sg)], ?_, ?_, ?_⟩
        · rw [upd_ne (ne_of_none gW7 nD), upd_ne (ne_of_none gWi np)]
          exact gWi
        · rw [List.length_append, lx]
          rfl
        · intro x hx'
          rcases List.mem_append.mp hx' with z | z
          · exact hx x z
          · rw [List.mem_singleton.mp z]
            exact join_nm (fun j hj => hk j (List.mem_of_mem_take hj)) (by omega) (by omega)
        · rw [upd_same, List.map_append]
          rfl
    · obtain ⟨kpi, dki, gWi, xs, lx, hx, gD'⟩ := z
      exact q D xs G kpi dki (kp7'.free dk7 nD) gD' lx hx
  case b2 =>
    refine ⟨Nat.zero_le _, fun Fd nF => ?_⟩
    have hF : H Fd = none := kp7'.free dk7 nF
    have offF := dk7.off nF
    have nFW : W ≠ Fd := ne_of_none gW7 nF
    refine ⟨_, rfl, m, rfl, by omega, by omega, for_range (lo := 0) (n := m.toNat) (fun i σ G => ∃ y3 y8, σ = [some (.ref d), some (.int m), some (.str lets), y3, some (.ref W), some (.int (1 + r5)), some (.int r6), some (.ref Fd), y8] ∧
      Kp d c H G ∧ Dk G d c ∧ G W = some (.lst ((ks.map sg).map V.str)) ∧ ∃ xs : List Str, xs.length = i ∧ (∀ x ∈ xs, Nm x) ∧ G Fd = some (.lst (xs.map V.str))) ?_ (fun i σ G hi z => ?_) (fun σ G z => ?_)⟩
    · exact ⟨_, _, rfl, kp7'.mk hF, dk7.put offF.1 offF.2, by rw [upd_ne nFW]; exact gW7, [], rfl, (fun _ z => nomatch z), upd_same⟩
    · obtain ⟨y3, y8, rfl, kpi, dki, gWi, xs, lx, hx, gF⟩ := z
      refine ⟨_, rfl, _, rfl, (((1 + r5).toNat : Nat) : Int), congrArg V.int (by omega), W, _, rfl, SqL.of gWi, fun p np => ?_⟩
      rw [cutKs (ks := ks) (j := (1 + r5).toNat) (by omega)]
      refine ⟨p, _, rfl, .inl (SqL.of upd_same), fun o no => ?_⟩
      have kp1 : Same G (upd (upd G p (.lst (((ks.take (1 + r5).toNat).map sg).map V.str))) o (.lst (((ks.take (1 + r5).toNat).map sg).map V.str))) := (newS np).trans (newS no)
      have gW1 := kp1 _ _ gWi
      have gF1 := kp1 _ _ gF
      have oG : G o = none := (newS np).free no
      generalize hG1 : upd (upd G p _) o (.lst (((ks.take (1 + r5).toNat).map sg).map V.str)) = G1 at kp1 gW1 gF1
      have gO : G1 o = some (.lst (((ks.take (1 + r5).toNat).map sg).map V.str)) := by rw [← hG1, upd_same]
      clear hG1
      have hat : r6.toNat < ks.length := by omega
      have h26 : ks[r6.toNat] < 26 := hk _ (List.getElem_mem hat)
      have e6 : r6 = ((r6.toNat : Nat) : Int) := by omega
      have gat : atI ((ks.map sg).map V.str) r6 = some (.str (sg ks[r6.toNat])) := by
        have z := atI_nat (xs := (ks.map sg).map V.str) (j := r6.toNat) (v := .str (sg ks[r6.toNat])) (by rw [List.getElem?_map, List.getElem?_map, List.getElem?_eq_getElem hat]; rfl)
        rw [← e6] at z
        exact z
      have occ : Builtin.Str.occurrences lets (sg ks[r6.toNat]) 0 lets.length 1 = [ks[r6.toNat]] := lets_ix ⟨ks[r6.toNat], h26⟩
      generalize hv : (((ks[r6.toNat] : Nat) : Int) + (0 + (i : Int))) % 26 = v
      have v0 : 0 ≤ v := by rw [← hv]; exact Int.emod_nonneg _ (by decide)
      have v1 : v < 26 := by rw [← hv]; exact Int.emod_lt_of_pos _ (by decide)
      refine ⟨_, rfl, _, rfl, rfl, _, rfl, _, rfl, W, _, _, _, rfl, rfl, SqL.of gW1, gat, lets, _, _, _, rfl, rfl, occ, _, rfl, _, _, rfl, rfl, _, _, rfl, rfl, (by show (0 : Int) < 26; decide), _, v, 97 + v.toNat, rfl, congrArg V.int hv, lets_len, lets_get v0 v1, ?_⟩
      have lq : ((ks.take (1 + r5).toNat).map sg).length = (1 + r5).toNat := by rw [List.length_map, List.length_take]; omega
      have eix : ixN (((ks.take (1 + r5).toNat).map sg).map V.str).length r6 = some r6.toNat := by
        unfold ixN
        rw [List.length_map, lq, if_pos b0, if_pos (by omega)]
      refine ⟨_, rfl, _, rfl, o, _, _, r6.toNat, rfl, rfl, gO, eix, ?_⟩
      have eset : ((((ks.take (1 + r5).toNat).map sg).map V.str).set r6.toNat (.str ⟨#[97 + v.toNat]⟩)) = ((((ks.take (1 + r5).toNat).set r6.toNat v.toNat).map sg).map V.str) := by
        rw [List.map_set, List.map_set]
        rfl
      rw [eset]
      generalize hls : (ks.take (1 + r5).toNat).set r6.toNat v.toNat = ls
      have ll : ls.length = (1 + r5).toNat := by rw [← hls, List.length_set, List.length_take]; omega
      have hls2 : ∀ k ∈ ls, k < 26 := fun j hj => by
        rw [← hls] at hj
        rcases List.mem_or_eq_of_mem_set hj with z | z
        · exact hk j (List.mem_of_mem_take z)
        · rw [z]
          omega
      have nFo : Fd ≠ o := fun z => by
        rw [z] at gF
        rw [gF] at oG
        cases oG
      have nWo : W ≠ o := fun z => by
        rw [z] at gWi
        rw [gWi] at oG
        cases oG
      have gF2 : (upd G1 o (.lst ((ls.map sg).map V.str))) Fd = some (.lst (xs.map V.str)) := by
        rw [upd_ne nFo]
        exact gF1
      refine ⟨_, rfl, .inl ⟨rfl, _, SqL.of gF2⟩, ⟨_, rfl⟩, _, rfl, _, o, ls.map sg, rfl, rfl, .inl (SqL.of upd_same), ?_, Fd, _, _, rfl, rfl, gF2, ?_, ?_⟩
      · rw [sg_len, List.length_map, ll]
        show (1 + r5).toNat + (1 + r5).toNat * 0 ≤ 16777216
        omega
      · rw [List.length_map]
        exact small1000 (by omega)
      · have oH : H o = none := kpi.free dki oG
        have offo := dki.off oG
        refine ⟨_, _, rfl, ((kpi.trans (Kp.of kp1)).mk oH).mk hF, ((dki.same kp1).put offo.1 offo.2).put offF.1 offF.2, ?_, xs ++ [Txt.join (Str.ofString "") (ls.map sg)], ?_, ?_, ?_⟩
        · rw [upd_ne nFW, upd_ne nWo]
          exact gW1
        · rw [List.length_append, lx]
          rfl
        · intro x hx'
          rcases List.mem_append.mp hx' with z | z
          · exact hx x z
          · rw [List.mem_singleton.mp z]
            exact join_nm hls2 (by omega) (by omega)
        · rw [upd_same, List.map_append]
          rfl
    · obtain ⟨y3, y8, rfl, kpi, dki, gWi, xs, lx, hx, gF⟩ := z
      exact ⟨_, rfl, q Fd xs G kpi dki hF gF lx hx⟩
end
end Kq

namespace Kq
open PySem PySem.Spec PyProof.Rows L2
/-! kinds as trees -/
inductive Kd where
  | opn (x : Str)
  | num
  | tru
  | pair (a b : Kd)
  | eith (a b : Kd)
  | lst (a : Kd)
  | fn (a b : Kd)
namespace Kd
def word : Kd → Str
  | opn _ => "open"
  | num => "num"
  | tru => "truth"
  | pair _ _ => "pair"
  | eith _ _ => "either"
  | lst _ => "list"
  | fn _ _ => "fun"
def kids : Kd → List Kd
  | pair a b => [a, b]
  | eith a b => [a, b]
  | lst a => [a]
  | fn a b => [a, b]
  | _ => []
def isFn : Kd → Bool
  | fn _ _ => true
  | _ => false
def isOp : Kd → Bool
  | opn _ => true
  | _ => false
def nodes : Kd → List Kd
  | opn x => [opn x]
  | num => [num]
  | tru => [tru]
  | pair a b => pair a b :: (nodes a ++ nodes b)
  | eith a b => eith a b :: (nodes a ++ nodes b)
  | lst a => lst a :: nodes a
  | fn a b => fn a b :: (nodes a ++ nodes b)
def size (t : Kd) : Nat := t.nodes.length
def dp : Kd → Nat
  | pair a b => max a.dp b.dp + 1
  | eith a b => max a.dp b.dp + 1
  | lst a => a.dp + 1
  | fn a b => max a.dp b.dp + 1
  | _ => 0
def opens : Kd → List Str
  | opn x => [x]
  | num => []
  | tru => []
  | pair a b => opens a ++ opens b
  | eith a b => opens a ++ opens b
  | lst a => opens a
  | fn a b => opens a ++ opens b
def args : Kd → List Kd
  | fn a b => a :: args b
  | _ => []
def res : Kd → Kd
  | fn _ b => res b
  | t => t
def ledTo (ts : List Kd) (t : Kd) : Kd := ts.foldr fn t
theorem nodes_eq (t : Kd) : t.nodes = t :: t.kids.flatMap nodes := by
  cases t <;> simp [nodes, kids]
theorem isFn_word (t : Kd) : decide (V.str t.word = V.str "fun") = t.isFn := by
  cases t <;> rfl
theorem isOp_word (t : Kd) : decide (V.str t.word = V.str "open") = t.isOp := by
  cases t <;> rfl
end Kd
/-- the tuples stay -/
def Tk (H G : Hp) : Prop := ∀ b xs, H b = some (.tup xs) → G b = some (.tup xs)
theorem Tk.of {H G : Hp} (s : Same H G) : Tk H G := fun b xs e => s b _ e
theorem Tk.rfl {H : Hp} : Tk H H := fun _ _ e => e
theorem Tk.trans {H G F : Hp} (a : Tk H G) (b : Tk G F) : Tk H F := fun x o e => b x o (a x o e)
theorem Tk.kp {H G : Hp} {d c : Addr} (a : Kp d c H G) (k : Dk H d c) : Tk H G := fun b xs e => by
  obtain ⟨n, ⟨s, k0, hd⟩, ⟨ns, hc, _⟩⟩ := k
  refine a b _ (fun z => ?_) (fun z => ?_) e
  · rw [z, hd] at e
    cases e
  · rw [z, hc] at e
    cases e
theorem Tk.put {H G : Hp} {p : Addr} {o : HO} (a : Tk H G) (h : ∀ xs, H p ≠ some (.tup xs)) : Tk H (upd G p o) := fun b xs e => by
  rw [upd_ne (fun z => h xs (by rw [← z]; exact e))]
  exact a b xs e
/-- the tree stands at v -/
def Rp (H : Hp) : Kd → V → Prop
  | .opn x, v => ∃ a, v = .ref a ∧ H a = some (.tup [.str "open", .str x])
  | .num, v => ∃ a, v = .ref a ∧ H a = some (.tup [.str "num"])
  | .tru, v => ∃ a, v = .ref a ∧ H a = some (.tup [.str "truth"])
  | .pair s t, v => ∃ a x y, v = .ref a ∧ H a = some (.tup [.str "pair", x, y]) ∧ Rp H s x ∧ Rp H t y
  | .eith s t, v => ∃ a x y, v = .ref a ∧ H a = some (.tup [.str "either", x, y]) ∧ Rp H s x ∧ Rp H t y
  | .lst s, v => ∃ a x, v = .ref a ∧ H a = some (.tup [.str "list", x]) ∧ Rp H s x
  | .fn s t, v => ∃ a x y, v = .ref a ∧ H a = some (.tup [.str "fun", x, y]) ∧ Rp H s x ∧ Rp H t y
def RpL (H : Hp) : List Kd → List V → Prop
  | [], [] => True
  | t :: ts, v :: vs => Rp H t v ∧ RpL H ts vs
  | _, _ => False
theorem Rp.tk {H G : Hp} (k : Tk H G) : ∀ {t : Kd} {v : V}, Rp H t v → Rp G t v := by
  intro t
  induction t with
  | opn x => exact fun ⟨a, e, h⟩ => ⟨a, e, k _ _ h⟩
  | num => exact fun ⟨a, e, h⟩ => ⟨a, e, k _ _ h⟩
  | tru => exact fun ⟨a, e, h⟩ => ⟨a, e, k _ _ h⟩
  | pair s t i j => exact fun ⟨a, x, y, e, h, p, q⟩ => ⟨a, x, y, e, k _ _ h, i p, j q⟩
  | eith s t i j => exact fun ⟨a, x, y, e, h, p, q⟩ => ⟨a, x, y, e, k _ _ h, i p, j q⟩
  | lst s i => exact fun ⟨a, x, e, h, p⟩ => ⟨a, x, e, k _ _ h, i p⟩
  | fn s t i j => exact fun ⟨a, x, y, e, h, p, q⟩ => ⟨a, x, y, e, k _ _ h, i p, j q⟩
theorem RpL.tk {H G : Hp} (k : Tk H G) : ∀ {ts : List Kd} {vs : List V}, RpL H ts vs → RpL G ts vs
  | [], [], _ => trivial
  | _ :: _, _ :: _, h => ⟨h.1.tk k, RpL.tk k h.2⟩
  | [], _ :: _, h => h.elim
  | _ :: _, [], h => h.elim
theorem RpL.len {H : Hp} : ∀ {ts : List Kd} {vs : List V}, RpL H ts vs → ts.length = vs.length
  | [], [], _ => rfl
  | _ :: _, _ :: _, h => congrArg (· + 1) (RpL.len h.2)
  | [], _ :: _, h => h.elim
  | _ :: _, [], h => h.elim
theorem RpL.app {H : Hp} : ∀ {ts us : List Kd} {vs ws : List V}, RpL H ts vs → RpL H us ws → RpL H (ts ++ us) (vs ++ ws)
  | [], _, [], _, _, h => h
  | _ :: _, _, _ :: _, _, h, k => ⟨h.1, RpL.app h.2 k⟩
  | [], _, _ :: _, _, h, _ => h.elim
  | _ :: _, _, [], _, h, _ => h.elim
theorem RpL.get {H : Hp} : ∀ {ts : List Kd} {vs : List V} {i : Nat} {v : V}, RpL H ts vs → vs[i]? = some v → ∃ t, ts[i]? = some t ∧ Rp H t v
  | [], [], i, v, _, e => by simp at e
  | t :: _, w :: _, 0, v, h, e => ⟨t, rfl, by rw [← show w = v from Option.some.inj e]; exact h.1⟩
  | _ :: ts, _ :: vs, i + 1, v, h, e => RpL.get (ts := ts) (vs := vs) (i := i) h.2 e
  | [], _ :: _, _, _, h, _ => h.elim
  | _ :: _, [], _, _, h, _ => h.elim
theorem RpL.last {H : Hp} : ∀ {ts : List Kd} {vs : List V}, RpL H ts vs → vs ≠ [] → ∃ us u ws w, ts = us ++ [u] ∧ vs = ws ++ [w] ∧ RpL H us ws ∧ Rp H u w
  | [t], [v], h, _ => ⟨[], t, [], v, rfl, rfl, trivial, h.1⟩
  | t :: t' :: ts, v :: v' :: vs, h, _ => by
    obtain ⟨us, u, ws, w, e1, e2, k, r⟩ := RpL.last (ts := t' :: ts) (vs := v' :: vs) h.2 (by simp)
    exact ⟨t :: us, u, v :: ws, w, by rw [e1]; rfl, by rw [e2]; rfl, ⟨h.1, k⟩, r⟩
  | [], [], _, n => absurd rfl n
  | [], _ :: _, h, _ => h.elim
  | _ :: _, [], h, _ => h.elim
  | [_], _ :: _ :: _, h, _ => h.2.elim
  | _ :: _ :: _, [_], h, _ => h.2.elim
/-- the tuple at v: the word, and the rest -/
theorem Rp.see {H : Hp} {t : Kd} {v : V} (h : Rp H t v) : ∃ a vs, v = .ref a ∧ H a = some (.tup (.str t.word :: vs)) ∧ ((t.isOp = false ∧ RpL H t.kids vs) ∨ ∃ x, t = .opn x ∧ vs = [.str x]) := by
  cases t with
  | opn x =>
    obtain ⟨a, e, g⟩ := h
    exact ⟨a, _, e, g, .inr ⟨x, rfl, rfl⟩⟩
  | num =>
    obtain ⟨a, e, g⟩ := h
    exact ⟨a, [], e, g, .inl ⟨rfl, trivial⟩⟩
  | tru =>
    obtain ⟨a, e, g⟩ := h
    exact ⟨a, [], e, g, .inl ⟨rfl, trivial⟩⟩
  | pair s t =>
    obtain ⟨a, x, y, e, g, p, q⟩ := h
    exact ⟨a, _, e, g, .inl ⟨rfl, p, q, trivial⟩⟩
  | eith s t =>
    obtain ⟨a, x, y, e, g, p, q⟩ := h
    exact ⟨a, _, e, g, .inl ⟨rfl, p, q, trivial⟩⟩
  | lst s =>
    obtain ⟨a, x, e, g, p⟩ := h
    exact ⟨a, _, e, g, .inl ⟨rfl, p, trivial⟩⟩
  | fn s t =>
    obtain ⟨a, x, y, e, g, p, q⟩ := h
    exact ⟨a, _, e, g, .inl ⟨rfl, p, q, trivial⟩⟩
theorem cutFrom1 (x : V) (vs : List V) : cutV (x :: vs) (some 1) none = vs := by
  unfold cutV
  rw [show HT.sIx (x :: vs).length 0 (some 1) = min 1 (x :: vs).length from HT.sIx_nat _ _ 1, HT.sIx_none, List.length_cons, Nat.min_eq_left (by omega)]
  show (vs.take (vs.length + 1 - 1)) = vs
  rw [Nat.add_sub_cancel, List.take_length]
theorem notWhole (x : V) (vs : List V) : ¬ (HT.sIx (x :: vs).length 0 (some 1) = 0 ∧ HT.sIx (x :: vs).length (x :: vs).length none = (x :: vs).length) := by
  rw [show HT.sIx (x :: vs).length 0 (some 1) = min 1 (x :: vs).length from HT.sIx_nat _ _ 1, List.length_cons, Nat.min_eq_left (by omega)]
  rintro ⟨h, _⟩
  cases h
theorem smk {H G : Hp} {p : Addr} {o : HO} (a : Same H G) (h : H p = none) : Same H (upd G p o) := fun b u e => by
  rw [upd_ne (ne_of_none e h)]
  exact a b u e
abbrev tWithin : Stmt := tp 1
abbrev tLeads : Stmt := tp 2
abbrev tParts : Stmt := tp 3
abbrev tArgs : Stmt := tp 7
-- abbrev tRes : Stmt := tp 5
section
variable {P : Program} {w : World} {K : PySem.W.Frag} {mg : Str → Option Value} {base : Heap}
/-! leads -/
theorem scLeads : FnScope ["kind"] ["kind"] (defScope tLeads) := ⟨rfl, rfl, rfl, by decide +kernel, rfl, by decide +kernel, by decide +kernel⟩
def spLeads : Sp := fun vs H Q _ => ∃ (v : V) (t : Kd), vs = [v] ∧ Rp H t v ∧ Q (.bl t.isFn) H
theorem okLeads {f : Addr} {fd : FuncData} {k : Nat} (F : Fun K "leads" "leads" tLeads f fd) : FnOk P w K mg base CX0 (k + 1) f fd ["kind"] spLeads := by
  refine F.ok scLeads (fun vs H Q E h => ?_) (fun cdv A outer s H vs Q E hr h => ?_)
  · obtain ⟨v, t, rfl, _⟩ := h
    rfl
  obtain ⟨v, t, rfl, r, q⟩ := h
  obtain ⟨a, us, rfl, ha, _⟩ := r.see
  refine ⟨_, pss_one (ps_ret (pe_cmpR op_eq (pe_ix ix_tup (pv 0) pe_int (fun _ _ => rfl)) pe_str (nomark _))), ?_⟩
  refine ⟨_, rfl, a, _, _, _, rfl, rfl, SqT.of ha, atI_nat (j := 0) rfl, rfl, ?_⟩
  rw [Kd.isFn_word]
  exact q
/-! kinds_within -/
theorem scWithin : FnScope ["kind"] ["kind"] (defScope tWithin) := ⟨rfl, rfl, rfl, by decide +kernel, rfl, by decide +kernel, by decide +kernel⟩
def spWithin : Sp := fun vs H Q _ => ∃ (v : V) (t : Kd), vs = [v] ∧ Rp H t v ∧ ∀ (p : Addr) (us : List V) (G : Hp), Same H G → G p = some (.tup us) → RpL G t.kids us → Q (.ref p) G
theorem okWithin {f : Addr} {fd : FuncData} {k : Nat} (F : Fun K "kinds_within" "kinds_within" tWithin f fd) : FnOk P w K mg base CX0 (k + 1) f fd ["kind"] spWithin := by
  refine F.ok scWithin (fun vs H Q E h => ?_) (fun cdv A outer s H vs Q E hr h => ?_)
  · obtain ⟨v, t, rfl, _⟩ := h
    rfl
  obtain ⟨v, t, rfl, r, q⟩ := h
  obtain ⟨a, us, rfl, ha, hu⟩ := r.see
  refine ⟨_, pss_cons (ps_if (pt_cmpR op_eq (pe_ix ix_tup (pv 0) pe_int (fun _ _ => rfl)) pe_str (nomark _)) (pss_one (ps_ret (pe_tup pa_nil))) pss_nil)
    (pss_one (ps_ret (pe_slice sl_tup (pv 0) (po_some pe_int) po_none))), ?_⟩
  refine ⟨_, rfl, a, _, _, _, rfl, rfl, SqT.of ha, atI_nat (j := 0) rfl, rfl, _, rfl, ?_⟩
  rw [Kd.isOp_word]
  refine ite2 (fun e => ?_) (fun e => ?_)
  · refine ⟨Nat.zero_le _, fun p np => q p [] _ (newS np) upd_same ?_⟩
    cases t with
    | opn x => trivial
    | _ => cases e
  · refine ⟨_, rfl, 1, rfl, a, _, rfl, SqT.of ha, notWhole _ _, fun p np => ?_⟩
    rw [cutFrom1]
    refine q p us _ (newS np) upd_same ?_
    rcases hu with hu | ⟨x, rfl, _⟩
    · exact hu.2.tk (Tk.of (newS np))
    · exact absurd rfl e
/-! parts_of -/
theorem scParts : FnScope ["kind", "parts", "waiting", "part"] ["kind"] (defScope tParts) := ⟨rfl, rfl, rfl, by decide +kernel, rfl, by decide +kernel, by decide +kernel⟩
def spParts : Sp := fun vs H Q _ => ∃ (v : V) (t : Kd), vs = [v] ∧ Rp H t v ∧ t.size ≤ 100 ∧ ∀ (p : Addr) (ts : List Kd) (us : List V) (G : Hp), Same H G → G p = some (.lst us) → RpL G ts us → ts.Perm t.nodes → Q (.ref p) G
theorem okParts {f fW : Addr} {fd fdW : FuncData} {k : Nat} (F : Fun K "parts_of" "parts_of" tParts f fd) (FW : Fun K "kinds_within" "kinds_within" tWithin fW fdW) (bW : Binds K fdW ["kind"] []) (gW : mg "kinds_within" = some (.ref fW)) : FnOk P w K mg base CX0 (k + 2) f fd ["kind"] spParts := by
  have GW : FnOk P w K mg base CX0 (k + 1) fW fdW ["kind"] spWithin := okWithin FW
  refine F.ok scParts (fun vs H Q E h => ?_) (fun cdv A outer s H vs Q E hr h => ?_)
  · obtain ⟨v, t, rfl, _⟩ := h
    rfl
  obtain ⟨v, t, rfl, r, hz, q⟩ := h
  refine ⟨_, pss_cons (ps_set (i := 1) scParts.nd rfl (.inl rfl) (pe_lst pa_nil))
    (pss_cons (ps_set (i := 2) scParts.nd rfl (.inl rfl) (pe_lst (pa_cons (pv 0) pa_nil)))
    (pss_cons (ps_while PassesOwn.never (pt_truth (pv 2) (by intro _; rfl))
      (pss_cons (ps_set (i := 3) scParts.nd rfl (.inl rfl) (pe_bm0 PySem.F.plainAttrs_list PySem.F.slot_list_pop PySem.F.type_list_pop mt_pop (pv 2)))
      (pss_cons (ps_expr (pe_bm PySem.F.plainAttrs_list PySem.F.slot_list_append PySem.F.type_list_append mt_append (pv 1) (pa_cons (pv 3) pa_nil)))
      (pss_one (ps_expr (pe_bm PySem.F.plainAttrs_list PySem.F.slot_list_extend PySem.F.type_list_extend Kr.mt_extT (pv 2) (pa_cons (pe_call GW hr (by rfl) gW FW.kp bW .nil pass0 (pa_cons (pv 3) pa_nil)) pa_nil)))))))
    (pss_one (ps_ret (pv 1))))), ?_⟩
  refine ⟨Nat.zero_le _, fun pa npa => ?_⟩
  refine ⟨_, rfl, (by show 1 ≤ sizeLine; decide), fun wa nwa => ?_⟩
  have s2 : Same H (upd (upd H pa (.lst [])) wa (.lst [v])) := (newS npa).trans (newS nwa)
  have hpw : pa ≠ wa := fun z => by
    rw [z, upd_same] at nwa
    cases nwa
  have hwa : H wa = none := (newS npa).free nwa
  refine ⟨fun m σ G => ∃ ts ws us vs y, m = (ws.flatMap Kd.nodes).length ∧ σ = [some v, some (.ref pa), some (.ref wa), y] ∧ Same H G ∧ G pa = some (.lst us) ∧ G wa = some (.lst vs) ∧ RpL G ts us ∧ RpL G ws vs ∧ (ts ++ ws.flatMap Kd.nodes).Perm t.nodes,
    ⟨_, [], [t], [], [v], none, rfl, rfl, s2, ?_, upd_same, trivial, ⟨r.tk (Tk.of s2), trivial⟩, ?_⟩, fun m σ G z => ?_⟩
  · rw [upd_ne hpw, upd_same]
  · rw [List.flatMap_cons, List.flatMap_nil, List.append_nil, List.nil_append]
  obtain ⟨ts, ws, us, vs, y, rfl, rfl, sG, gp, gw, rt, rw', pm⟩ := z
  refine ⟨_, rfl, _, .inl ⟨vs, SqL.of gw, rfl⟩, ?_⟩
  have lens : ts.length + (ws.flatMap Kd.nodes).length = t.size := by
    have e := pm.length_eq
    rw [List.length_append] at e
    exact e
  refine ite2 (fun e => ?_) (fun e => ?_)
  · have nn : vs ≠ [] := fun z => by
      rw [z] at e
      cases e
    obtain ⟨xs, u, zs, x, rfl, rfl, rx, ru⟩ := rw'.last nn
    refine ⟨fun σ' G' => ∃ m', m' < _ ∧ (∃ ts ws us vs y, m' = (ws.flatMap Kd.nodes).length ∧ σ' = [some v, some (.ref pa), some (.ref wa), y] ∧ Same H G' ∧ G' pa = some (.lst us) ∧ G' wa = some (.lst vs) ∧ RpL G' ts us ∧ RpL G' ws vs ∧ (ts ++ ws.flatMap Kd.nodes).Perm t.nodes), fun σ' G' z => z, ?_⟩
    refine ⟨_, rfl, .inl ⟨rfl, _, SqL.of gw⟩, wa, _, x, rfl, rfl, gw, ?_, ?_⟩
    · rw [List.length_append, List.length_singleton, Nat.add_sub_cancel, List.getElem?_concat_length]
    rw [List.dropLast_concat]
    have t1 : Tk G (upd G wa (.lst zs)) := Tk.rfl.put (fun _ z => by rw [gw] at z; cases z)
    have gp1 : (upd G wa (.lst zs)) pa = some (.lst us) := by rw [upd_ne hpw]; exact gp
    refine ⟨_, rfl, .inl ⟨rfl, _, SqL.of gp1⟩, _, rfl, pa, _, _, rfl, rfl, gp1, ?_, ?_⟩
    · have := rt.len
      exact small1000 (by omega)
    have t2 : Tk G (upd (upd G wa (.lst zs)) pa (.lst (us ++ [x]))) := t1.put (fun _ z => by rw [gp] at z; cases z)
    have gw2 : (upd (upd G wa (.lst zs)) pa (.lst (us ++ [x]))) wa = some (.lst zs) := by rw [upd_ne hpw.symm, upd_same]
    have gp2 : (upd (upd G wa (.lst zs)) pa (.lst (us ++ [x]))) pa = some (.lst (us ++ [x])) := upd_same
    have s3 : Same H (upd (upd G wa (.lst zs)) pa (.lst (us ++ [x]))) := smk (smk sG hwa) npa
    generalize upd (upd G wa (.lst zs)) pa (.lst (us ++ [x])) = G2 at t2 gw2 gp2 s3
    refine ⟨_, rfl, .inl ⟨rfl, _, SqL.of gw2⟩, _, rfl, x, u, rfl, ru.tk t2, fun p ks G3 s4 gk rk => ?_⟩
    have lk : ks.length ≤ 2 := by
      rw [← rk.len]
      cases u <;> simp [Kd.kids]
    refine ⟨wa, p, _, _, rfl, rfl, s4 _ _ gw2, SqT.of gk, ?_, ?_⟩
    · have l1 := rx.len
      have l2 : xs.length ≤ ((xs ++ [u]).flatMap Kd.nodes).length := by
        clear lens pm gw nn e rw' l1 rx
        induction xs with
        | nil => exact Nat.zero_le _
        | cons a xs ih =>
          have : 1 ≤ a.nodes.length := by rw [Kd.nodes_eq]; exact Nat.succ_le_succ (Nat.zero_le _)
          simp only [List.cons_append, List.flatMap_cons, List.length_append, List.length_cons] at ih ⊢
          omega
      exact sz (by omega)
    have e4 := Kd.nodes_eq u
    have t4 : Tk G3 (upd G3 wa (.lst (zs ++ ks))) := Tk.rfl.put (fun _ z => by rw [s4 _ _ gw2] at z; cases z)
    refine ⟨_, ?_, ts ++ [u], xs ++ u.kids, us ++ [x], zs ++ ks, _, rfl, rfl, smk (s3.trans s4) hwa, ?_, upd_same, ?_, ?_, ?_⟩
    · simp only [List.flatMap_append, List.flatMap_cons, List.flatMap_nil, List.append_nil, List.length_append]
      rw [e4, List.length_cons]
      omega
    · rw [upd_ne hpw]
      exact s4 _ _ gp2
    · exact (RpL.app (us := [u]) (ws := [x]) (rt.tk t2) ⟨ru.tk t2, trivial⟩).tk ((Tk.of s4).trans t4)
    · exact ((rx.tk (t2.trans (Tk.of s4))).app rk).tk t4
    · refine List.Perm.trans ?_ pm
      simp only [List.flatMap_append, List.flatMap_cons, List.flatMap_nil, List.append_nil, List.append_assoc]
      refine List.Perm.append_left ts ?_
      rw [e4]
      show (u :: (xs.flatMap Kd.nodes ++ u.kids.flatMap Kd.nodes)).Perm (xs.flatMap Kd.nodes ++ (u :: u.kids.flatMap Kd.nodes))
      exact List.perm_middle.symm
  · have nv : vs = [] := by
      cases vs with
      | nil => rfl
      | cons a b => exact absurd rfl e
    subst nv
    cases ws with
    | cons a b => exact rw'.elim
    | nil =>
      rw [List.flatMap_nil, List.append_nil] at pm
      exact ⟨_, rfl, q pa ts us G sG gp rt pm⟩
end
end Kq

namespace Kq
open PySem PySem.Spec PyProof.Rows L2
namespace Kd
theorem size_fn (a b : Kd) : (fn a b).size = a.size + b.size + 1 := by
  show (a.nodes ++ b.nodes).length + 1 = _
  rw [List.length_append]
  rfl
theorem size_pos (t : Kd) : 1 ≤ t.size := by
  unfold size
  rw [nodes_eq]
  exact Nat.succ_le_succ (Nat.zero_le _)
theorem args_le : ∀ t : Kd, t.args.length ≤ t.size
  | fn a b => by
    have := args_le b
    rw [size_fn]
    show b.args.length + 1 ≤ _
    omega
  | opn _ => Nat.zero_le _
  | num => Nat.zero_le _
  | tru => Nat.zero_le _
  | pair _ _ => Nat.zero_le _
  | eith _ _ => Nat.zero_le _
  | lst _ => Nat.zero_le _
def nm? : Kd → Option Str
  | opn x => some x
  | _ => none
theorem opens_nodes : ∀ t : Kd, t.nodes.filterMap nm? = t.opens
  | opn _ => rfl
  | num => rfl
  | tru => rfl
  | pair a b => by
    show ((a.nodes ++ b.nodes).filterMap nm?) = a.opens ++ b.opens
    rw [List.filterMap_append, opens_nodes a, opens_nodes b]
  | eith a b => by
    show ((a.nodes ++ b.nodes).filterMap nm?) = a.opens ++ b.opens
    rw [List.filterMap_append, opens_nodes a, opens_nodes b]
  | lst a => by
    show (a.nodes.filterMap nm?) = a.opens
    exact opens_nodes a
  | fn a b => by
    show ((a.nodes ++ b.nodes).filterMap nm?) = a.opens ++ b.opens
    rw [List.filterMap_append, opens_nodes a, opens_nodes b]
end Kd
theorem ixTK {X : Cx} (K : PySem.W.Frag) (h : X.K = K) : IxR X (rIxT K) := by
  subst h
  exact ix_tup
-- abbrev tOpens : Stmt := tp 6
abbrev tLed : Stmt := tp 15
section
variable {P : Program} {w : World} {K : PySem.W.Frag} {mg : Str → Option Value} {base : Heap}
/-! arguments_of, result_of -/
theorem scArgs : FnScope ["kind", "arguments", "rest"] ["kind"] (defScope tArgs) := ⟨rfl, rfl, rfl, by decide +kernel, rfl, by decide +kernel, by decide +kernel⟩
def spArgs : Sp := fun vs H Q _ => ∃ (v : V) (t : Kd), vs = [v] ∧ Rp H t v ∧ t.size ≤ 100 ∧ ∀ (p : Addr) (us : List V) (G : Hp), Same H G → G p = some (.tup us) → RpL G t.args us → Q (.ref p) G
theorem okArgs {f fL : Addr} {fd fdL : FuncData} {k : Nat} (F : Fun K "arguments_of" "arguments_of" tArgs f fd) (FL : Fun K "leads" "leads" tLeads fL fdL) (bL : Binds K fdL ["kind"] []) (gL : mg "leads" = some (.ref fL)) (mt : mg "tuple" = none) : FnOk P w K mg base CX0 (k + 2) f fd ["kind"] spArgs := by
  have GL : FnOk P w K mg base CX0 (k + 1) fL fdL ["kind"] spLeads := okLeads FL
  refine F.ok scArgs (fun vs H Q E h => ?_) (fun cdv A outer s H vs Q E hr h => ?_)
  · obtain ⟨v, t, rfl, _⟩ := h
    rfl
  obtain ⟨v, t, rfl, r, hz, q⟩ := h
  refine ⟨_, pss_cons (ps_set (i := 1) scArgs.nd rfl (.inl rfl) (pe_lst pa_nil))
    (pss_cons (ps_set (i := 2) scArgs.nd rfl (.inl rfl) (pv 0))
    (pss_cons (ps_while PassesOwn.never (pt_val (pe_call GL hr (by rfl) gL FL.kp bL .nil pass0 (pa_cons (pv 2) pa_nil)))
      (pss_cons (ps_expr (pe_bm PySem.F.plainAttrs_list PySem.F.slot_list_append PySem.F.type_list_append mt_append (pv 1) (pa_cons (pe_ix ix_tup (pv 2) pe_int (fun _ _ => rfl)) pa_nil)))
      (pss_one (ps_set (i := 2) scArgs.nd rfl (.inl rfl) (pe_ix ix_tup (pv 2) pe_int (fun _ _ => rfl))))))
    (pss_one (ps_ret (pe_callTy call_tuple_of (by rfl) mt PyProof.Rows.boot_tuple (pa_cons (pv 1) pa_nil)))))), ?_⟩
  refine ⟨Nat.zero_le _, fun pa npa => ?_⟩
  refine ⟨_, rfl, ?_⟩
  refine ⟨fun m σ G => ∃ ts c us cv, m = c.size ∧ σ = [some v, some (.ref pa), some cv] ∧ Same H G ∧ G pa = some (.lst us) ∧ RpL G ts us ∧ Rp G c cv ∧ ts ++ c.args = t.args,
    ⟨_, [], t, [], v, rfl, rfl, newS npa, upd_same, trivial, r.tk (Tk.of (newS npa)), rfl⟩, fun m σ G z => ?_⟩
  obtain ⟨ts, c, us, cv, rfl, rfl, sG, gp, rt, rc, ea⟩ := z
  refine ⟨_, rfl, cv, c, rfl, rc, _, rfl, ite2 (fun e => ?_) (fun e => ?_)⟩
  · cases c with
    | fn a b =>
      obtain ⟨ca, x, y, rfl, hc, ra, rb⟩ := rc
      refine ⟨fun σ' G' => ∃ m', m' < (Kd.fn a b).size ∧ ∃ ts c us cv, m' = c.size ∧ σ' = [some v, some (.ref pa), some cv] ∧ Same H G' ∧ G' pa = some (.lst us) ∧ RpL G' ts us ∧ Rp G' c cv ∧ ts ++ c.args = t.args, fun σ' G' z => z, ?_⟩
      have le : ts.length ≤ t.args.length := by
        rw [← ea, List.length_append]
        exact Nat.le_add_right _ _
      have l1 := rt.len
      have l2 := Kd.args_le t
      refine ⟨_, rfl, .inl ⟨rfl, _, SqL.of gp⟩, _, rfl, ca, _, _, x, rfl, rfl, SqT.of hc, atI_nat (j := 1) rfl, pa, _, _, rfl, rfl, gp, small1000 (by omega), ?_⟩
      have t1 : Tk G (upd G pa (.lst (us ++ [x]))) := Tk.rfl.put (fun _ z => by rw [gp] at z; cases z)
      refine ⟨_, rfl, ca, _, _, y, rfl, rfl, SqT.of (t1 _ _ hc), atI_nat (j := 2) rfl, ?_⟩
      refine ⟨_, ?_, ts ++ [a], b, us ++ [x], y, rfl, rfl, smk sG npa, upd_same, RpL.app (us := [a]) (ws := [x]) (rt.tk t1) ⟨ra.tk t1, trivial⟩, rb.tk t1, ?_⟩
      · rw [Kd.size_fn]
        omega
      · rw [← ea, List.append_assoc]
        rfl
    | _ => cases e
  · have e0 : c.args = [] := by
      cases c with
      | fn a b => exact absurd rfl e
      | _ => rfl
    rw [e0, List.append_nil] at ea
    refine ⟨_, rfl, pa, _, rfl, .inl ⟨SqL.of gp, fun l nl => ?_⟩⟩
    exact q l us _ (sG.trans (newS nl)) upd_same (by rw [← ea]; exact rt.tk (Tk.of (newS nl)))
/-! _law_led_to -/
theorem scLed : FnScope ["_law_arguments_here", "_law_result", "_law_one"] ["_law_arguments_here", "_law_result"] (defScope tLed) := ⟨rfl, rfl, rfl, by decide +kernel, rfl, by decide +kernel, by decide +kernel⟩
def spLed : Sp := fun vs H Q _ => ∃ (a : Addr) (ts : List Kd) (us : List V) (t : Kd) (v : V), vs = [.ref a, v] ∧ (H a = some (.lst us) ∨ H a = some (.tup us)) ∧ RpL H ts us ∧ Rp H t v ∧ ∀ (u : V) (G : Hp), Same H G → Rp G (Kd.ledTo ts t) u → Q u G
theorem okLed {f : Addr} {fd : FuncData} {k : Nat} (F : Fun K "_law_led_to" "_law_led_to" tLed f fd) (mr : mg "reversed" = none) : FnOk P w K mg base CX0 (k + 1) f fd ["_law_arguments_here", "_law_result"] spLed := by
  refine F.ok scLed (fun vs H Q E h => ?_) (fun cdv A outer s H vs Q E hr h => ?_)
  · obtain ⟨a, ts, us, t, v, rfl, _⟩ := h
    rfl
  obtain ⟨a, ts, us, t, v, rfl, ha, rt, r, q⟩ := h
  refine ⟨_, pss_cons (ps_for PassesOwn.never rfl (RT.pi_revA (by rfl) mr (pv 0)) (pg_name (i := 2) scLed.nd rfl (.inl rfl))
      (pss_one (ps_set (i := 1) scLed.nd rfl (.inl rfl) (pe_tup (pa_cons pe_str (pa_cons (pv 2) (pa_cons (pv 1) pa_nil)))))))
    (pss_one (ps_ret (pv 1))), ?_⟩
  have l1 := rt.len
  let Pv : Nat → L2.St → Hp → Prop := fun i σ G => ∃ rv y, σ = [some (.ref a), some rv, y] ∧ Same H G ∧ i ≤ us.length ∧ Rp G (Kd.ledTo (ts.drop (us.length - i)) t) rv
  have p0 : Pv 0 [some (.ref a), some v, none] H := ⟨v, none, rfl, Same.refl H, Nat.zero_le _, by rw [Nat.sub_zero, ← l1, List.drop_length]; exact r⟩
  have turn : ∀ (i : Nat) (x : V) (G : Hp) (rv : V), i < us.length → us[us.length - 1 - i]? = some x → Same H G → Rp G (Kd.ledTo (ts.drop (us.length - i)) t) rv → ∀ p, G p = none → Same H (upd G p (.tup [.str "fun", x, rv])) ∧ Rp (upd G p (.tup [.str "fun", x, rv])) (Kd.ledTo (ts.drop (us.length - (i + 1))) t) (.ref p) := fun i x G rv hi hx sG rr p np => by
    obtain ⟨c, hc, rc⟩ := rt.get hx
    have s2 : Same G (upd G p (.tup [.str "fun", x, rv])) := newS np
    have lj : us.length - 1 - i < ts.length := by omega
    have e1 : ts[us.length - 1 - i] = c := Option.some.inj ((List.getElem?_eq_getElem lj).symm.trans hc)
    have e2 : ts.drop (us.length - (i + 1)) = c :: ts.drop (us.length - i) := by
      have z := List.drop_eq_getElem_cons lj
      rw [e1, show us.length - 1 - i + 1 = us.length - i by omega, show us.length - 1 - i = us.length - (i + 1) by omega] at z
      exact z
    refine ⟨sG.trans s2, ?_⟩
    rw [e2]
    exact ⟨p, x, rv, rfl, upd_same, rc.tk ((Tk.of sG).trans (Tk.of s2)), rr.tk (Tk.of s2)⟩
  rcases ha with ha | ha
  · refine ⟨_, rfl, a, us, rfl, .inl ⟨SqL.of ha, RT.for_Itv (xs := us) Pv p0 (fun i σ G z => ?_) (fun i x σ G hi hx z => ?_) (fun σ G z => ?_)⟩⟩
    · obtain ⟨rv, y, _, sG, _⟩ := z
      exact SqL.of (sG _ _ ha)
    · obtain ⟨rv, y, rfl, sG, _, rr⟩ := z
      refine ⟨_, rfl, _, rfl, (by show 3 ≤ sizeLine; decide), fun p np => ?_⟩
      obtain ⟨u1, u2⟩ := turn i x G rv hi hx sG rr p np
      exact ⟨_, _, rfl, u1, hi, u2⟩
    · obtain ⟨rv, y, rfl, sG, _, rr⟩ := z
      rw [Nat.sub_self, List.drop_zero] at rr
      exact ⟨_, rfl, q rv G sG rr⟩
  · refine ⟨_, rfl, a, us, rfl, .inr ⟨SqT.of ha, RT.for_ItvT (xs := us) Pv p0 (fun i σ G z => ?_) (fun i x σ G hi hx z => ?_) (fun σ G z => ?_)⟩⟩
    · obtain ⟨rv, y, _, sG, _⟩ := z
      exact SqT.of (sG _ _ ha)
    · obtain ⟨rv, y, rfl, sG, _, rr⟩ := z
      refine ⟨_, rfl, _, rfl, (by show 3 ≤ sizeLine; decide), fun p np => ?_⟩
      obtain ⟨u1, u2⟩ := turn i x G rv hi hx sG rr p np
      exact ⟨_, _, rfl, u1, hi, u2⟩
    · obtain ⟨rv, y, rfl, sG, _, rr⟩ := z
      rw [Nat.sub_self, List.drop_zero] at rr
      exact ⟨_, rfl, q rv G sG rr⟩
end
end Kq

namespace Kq
open PySem PySem.Spec PyProof.Rows L2
theorem Nm.ok {x : Str} (h : Nm x) : PyData.strOk x = true := by
  unfold PyData.strOk
  rw [← Array.all_toList, List.all_eq_true]
  intro c hc
  have := (h.low c hc).2
  exact decide_eq_true (by omega)
theorem dpStrs (K : PySem.W.Frag) (H : Hp) : ∀ xs : List Str, DpAll K H (xs.map V.str) (xs.map PyData.str)
  | [] => .nil
  | x :: xs => .cons (.str x) (dpStrs K H xs)
theorem layStrs : ∀ xs : List Str, (∀ x ∈ xs, Nm x) → PyData.canLayAll0 (xs.map PyData.str) = true ∧ PyData.depthAll (xs.map PyData.str) = 0
  | [], _ => ⟨by simp [PyData.canLayAll0], by simp [PyData.depthAll]⟩
  | x :: xs, h => by
    obtain ⟨a, b⟩ := layStrs xs fun y hy => h y (List.mem_cons_of_mem _ hy)
    have c := (h x List.mem_cons_self).ok
    exact ⟨by simp [PyData.canLayAll0, PyData.canLay0, a, c], by simp [PyData.depthAll, PyData.depth, b]⟩
theorem shStrs {xs : List Str} (h : ∀ x ∈ xs, Nm x) : SeqAt.shaped (.list (xs.map PyData.str)) = true := by
  obtain ⟨a, b⟩ := layStrs xs h
  simp [SeqAt.shaped, PyData.canLay0, PyData.depth, a, b]
theorem eqvNil (xs : List Str) : PyData.eqv (.list (xs.map PyData.str)) (.list []) = xs.isEmpty := by
  cases xs <;> simp [PyData.eqv, PyData.eqvAll]
def sb : Nat → Nat
  | 0 => 1
  | n + 1 => 2 * sb n + 1
theorem sb_pos (n : Nat) : 1 ≤ sb n := by
  cases n with
  | zero => exact Nat.le_refl _
  | succ n =>
    show 1 ≤ 2 * sb n + 1
    omega
structure Dta (g : Nat) (t : Kd) : Prop where
  nf : t.isFn = false
  dp : t.dp ≤ g
  sz : t.size ≤ sb g
  nm : ∀ x ∈ t.opens, Nm x
namespace Kd
theorem size2 (a b : Kd) : (pair a b).size = a.size + b.size + 1 ∧ (eith a b).size = a.size + b.size + 1 ∧ (lst a).size = a.size + 1 := by
  refine ⟨?_, ?_, rfl⟩
  · show (a.nodes ++ b.nodes).length + 1 = _
    rw [List.length_append]
    rfl
  · show (a.nodes ++ b.nodes).length + 1 = _
    rw [List.length_append]
    rfl
theorem opens_le (t : Kd) : t.opens.length ≤ t.size := by
  rw [← opens_nodes]
  exact List.length_filterMap_le _ _
theorem kids_size (t : Kd) : t.size = 1 + (t.kids.map size).sum := by
  cases t with
  | opn x => rfl
  | num => rfl
  | tru => rfl
  | pair a b =>
    rw [(size2 a b).1]
    show _ = 1 + (a.size + (b.size + 0))
    omega
  | eith a b =>
    rw [(size2 a b).2.1]
    show _ = 1 + (a.size + (b.size + 0))
    omega
  | lst a =>
    rw [(size2 a a).2.2]
    show _ = 1 + (a.size + 0)
    omega
  | fn a b =>
    rw [size_fn]
    show _ = 1 + (a.size + (b.size + 0))
    omega
theorem kids_opens {t : Kd} (h : t.isOp = false) : t.opens = t.kids.flatMap opens := by
  cases t <;> simp_all [opens, kids, isOp]
theorem kids_dp {t u : Kd} (h : u ∈ t.kids) : u.dp + 1 ≤ t.dp := by
  cases t with
  | opn x => cases h
  | num => cases h
  | tru => cases h
  | pair a b =>
    have : u = a ∨ u = b := by simpa [kids] using h
    rcases this with rfl | rfl <;> simp only [dp] <;> omega
  | eith a b =>
    have : u = a ∨ u = b := by simpa [kids] using h
    rcases this with rfl | rfl <;> simp only [dp] <;> omega
  | lst a =>
    have : u = a := by simpa [kids] using h
    subst this
    simp only [dp]
    omega
  | fn a b =>
    have : u = a ∨ u = b := by simpa [kids] using h
    rcases this with rfl | rfl <;> simp only [dp] <;> omega
theorem kids_le (t : Kd) : t.kids.length ≤ 2 := by
  cases t <;> simp [kids]
end Kd
theorem isiK {X : Cx} (K : PySem.W.Frag) (h : X.K = K) : CallR X (.builtin "isinstance") (rIsi K) := by
  subst h
  exact call_isi
abbrev tData : Stmt := tp 13
-- abbrev tLOpens : Stmt := tp 14
-- abbrev tArgument : Stmt := tp 15
abbrev tLParts : Stmt := tp 24
abbrev psData : List Str := ["_law_deck_here", "_law_opens", "_law_deep"]
section
variable {P : Program} {w : World} {K : PySem.W.Frag} {mg : Str → Option Value} {base : Heap}
/-! _law_data -/
theorem scData : FnScope ["_law_deck_here", "_law_opens", "_law_deep", "_law_way"] psData (defScope tData) := ⟨rfl, rfl, rfl, by decide +kernel, rfl, by decide +kernel, by decide +kernel⟩
def spData (n : Nat) : Sp := fun vs H Q _ => ∃ (d c o : Addr) (xs : List Str) (g : Nat), vs = [.ref d, .ref o, .int (g : Int)] ∧ g + 1 ≤ n ∧ Dk H d c ∧ H o = some (.lst (xs.map V.str)) ∧ o ≠ d ∧ o ≠ c ∧ xs.length ≤ 26 ∧ (∀ x ∈ xs, Nm x) ∧
  ∀ (v : V) (t : Kd) (G : Hp), Kp d c H G → Dk G d c → Rp G t v → Dta g t → Q v G
theorem okData1 {f fD : Addr} {fd fdD : FuncData} {n : Nat} (F : Fun K "_law_data" "_law_data" tData f fd) (bF : Binds K fd psData []) (gF : mg "_law_data" = some (.ref f))
    (GD : FnOk P w K mg base CX0 (n + 2) fD fdD ["_law_deck_here", "_law_most"] spDraw) (bD : Binds K fdD ["_law_deck_here", "_law_most"] []) (gD : mg "_law_draw" = some (.ref fD)) (kD : PySem.W.keepIn K (.ref fD) = true) (ml : mg "len" = none)
    (GI : FnOk P w K mg base CX0 (n + 2) f fd psData (spData n)) : FnOk P w K mg base CX0 (n + 3) f fd psData (spData (n + 1)) := by
  refine F.ok scData (fun vs H Q E h => ?_) (fun cdv A outer s H vs Q E hr h => ?_)
  · obtain ⟨d, c, o, xs, g, rfl, _⟩ := h
    rfl
  obtain ⟨d, c, o, xs, g, rfl, hg, dk, ho, od, oc, lx, hx, q⟩ := h
  refine ⟨_, pss_cons (ps_set (i := 3) scData.nd rfl (.inl rfl) (pe_call GD hr (by rfl) gD kD bD .nil pass0 (pa_cons (pv 0) (pa_cons pe_int pa_nil))))
    (C8.pss_cut (ps_if (PW.pt (pw_and (pt_cmpR op_lt (pv 3) pe_int (nomark _)) (pw_and1 (pt_cmpR (op_neD hr.units) (pv 1) (pe_lst pa_nil) (nomark _)))))
      (pss_one (ps_ret (pe_tup (pa_cons pe_str (pa_cons (pe_ix ix_list (pv 1) (pe_call GD hr (by rfl) gD kD bD .nil pass0 (pa_cons (pv 0) (pa_cons (pe_callB call_len_seq (by rfl) ml PySem.boot_len (pa_cons (pv 1) pa_nil)) pa_nil))) (fun _ _ => rfl)) pa_nil))))) pss_nil)
    (pss_cons (ps_if (PW.pt (pw_or (pt_cmpR op_eq (pv 2) pe_int (nomark _)) (pw_or1 (pt_cmpR op_lt (pv 3) pe_int (nomark _)))))
      (pss_one (ps_ret (pe_ix ix_list (pe_lst (pa_cons (pe_tup (pa_cons pe_str pa_nil)) (pa_cons (pe_tup (pa_cons pe_str pa_nil)) (pa_cons (pe_tup (pa_cons pe_str pa_nil)) pa_nil)))) (pe_call GD hr (by rfl) gD kD bD .nil pass0 (pa_cons (pv 0) (pa_cons pe_int pa_nil))) (fun _ _ => rfl)))) pss_nil)
    (pss_cons (ps_if (pt_cmpR op_eq (pv 3) pe_int (nomark _))
      (pss_one (ps_ret (pe_tup (pa_cons pe_str (pa_cons (pe_call GI hr (by rfl) gF F.kp bF .nil pass0 (pa_cons (pv 0) (pa_cons (pv 1) (pa_cons (pe_op op_sub (pv 2) pe_int) pa_nil)))) (pa_cons (pe_call GI hr (by rfl) gF F.kp bF .nil pass0 (pa_cons (pv 0) (pa_cons (pv 1) (pa_cons (pe_op op_sub (pv 2) pe_int) pa_nil)))) pa_nil)))))) pss_nil)
    (pss_cons (ps_if (pt_cmpR op_eq (pv 3) pe_int (nomark _))
      (pss_one (ps_ret (pe_tup (pa_cons pe_str (pa_cons (pe_call GI hr (by rfl) gF F.kp bF .nil pass0 (pa_cons (pv 0) (pa_cons (pv 1) (pa_cons (pe_op op_sub (pv 2) pe_int) pa_nil)))) (pa_cons (pe_call GI hr (by rfl) gF F.kp bF .nil pass0 (pa_cons (pv 0) (pa_cons (pv 1) (pa_cons (pe_op op_sub (pv 2) pe_int) pa_nil)))) pa_nil)))))) pss_nil)
    (pss_one (ps_ret (pe_tup (pa_cons pe_str (pa_cons (pe_call GI hr (by rfl) gF F.kp bF .nil pass0 (pa_cons (pv 0) (pa_cons (pv 1) (pa_cons (pe_op op_sub (pv 2) pe_int) pa_nil)))) pa_nil))))))))), ?_⟩
  refine ⟨_, rfl, d, c, 10, rfl, dk, by decide, by decide, fun way G1 w0 w1 kp1 dk1 => ?_⟩
  have ho1 := kp1 o _ od oc ho
  refine ⟨fun σ G => σ = [some (.ref d), some (.ref o), some (.int g), some (.int way)] ∧ Kp d c H G ∧ Dk G d c ∧ G o = some (.lst (xs.map V.str)), ?_, ?b2⟩
  refine ⟨_, rfl, _, _, rfl, rfl, _, rfl, ?_⟩
  refine ite2 (fun _ => ⟨_, rfl, Nat.zero_le _, fun e ne => ⟨.list (xs.map PyData.str), .list [], .lst (SqL.of (newS ne _ _ ho1)) (dpStrs K _ xs), .lst (SqL.of upd_same) .nil, shStrs hx, rfl, _, rfl, ite2 (fun c1 => ?b1) (fun _ => ⟨rfl, kp1.trans (Kp.of (newS ne)), dk1.same (newS ne), newS ne _ _ ho1⟩)⟩⟩) (fun _ => iteF ⟨rfl, kp1, dk1, ho1⟩)
  case b1 =>
    have ho2 := newS (o := .lst []) ne _ _ ho1
    have dk2 := dk1.same (newS (o := .lst []) ne)
    have kp2 : Kp d c H (upd G1 e (.lst [])) := kp1.trans (Kp.of (newS ne))
    rw [eqvNil] at c1
    have l0 : 0 < xs.length := by
      cases xs with
      | nil => cases c1
      | cons x r => exact Nat.succ_pos _
    refine ⟨_, rfl, _, rfl, _, rfl, o, _, rfl, .inl (SqL.of ho2), d, c, _, rfl, dk2, ?_, ?_, fun r G3 r0 r1 kp3 dk3 => ?_⟩
    · rw [List.length_map]
      omega
    · rw [List.length_map]
      omega
    rw [List.length_map] at r1
    have lr : r.toNat < xs.length := by omega
    have er : r = ((r.toNat : Nat) : Int) := by omega
    have gat : atI (xs.map V.str) r = some (.str xs[r.toNat]) := by
      have z := atI_nat (xs := xs.map V.str) (j := r.toNat) (v := .str xs[r.toNat]) (by rw [List.getElem?_map, List.getElem?_eq_getElem lr]; rfl)
      rw [← er] at z
      exact z
    refine ⟨o, _, _, _, rfl, rfl, SqL.of (kp3 o _ od oc ho2), gat, (by show 2 ≤ sizeLine; decide), fun p np => ?_⟩
    refine q (.ref p) (.opn xs[r.toNat]) _ ((kp2.trans kp3).trans (Kp.of (newS np))) (dk3.same (newS np)) ⟨p, rfl, upd_same⟩ ⟨rfl, Nat.zero_le _, sb_pos g, fun x hx' => ?_⟩
    rw [List.mem_singleton.mp hx']
    exact hx _ (List.getElem_mem lr)
  case b2 =>
    rintro σ G ⟨rfl, kp, dkG, hoG⟩
    have leaf : ∀ (r : Int) (G2 : Hp) (p1 p2 p3 l : Addr), 0 ≤ r → r < 3 → Kp d c H G2 → Dk G2 d c → G2 p1 = some (.tup [.str "num"]) → G2 p2 = some (.tup [.str "truth"]) → G2 p3 = some (.tup [.str "truth"]) → ∃ v : V, atI [V.ref p1, .ref p2, .ref p3] r = some v ∧ Q v G2 := fun r G2 p1 p2 p3 l r0 r1 kp2 dk2 g1 g2 g3 => by
      have er : r = 0 ∨ r = 1 ∨ r = 2 := by omega
      rcases er with rfl | rfl | rfl
      · exact ⟨.ref p1, rfl, q _ .num _ kp2 dk2 ⟨p1, rfl, g1⟩ ⟨rfl, Nat.zero_le _, sb_pos g, fun x z => (nomatch z)⟩⟩
      · exact ⟨.ref p2, rfl, q _ .tru _ kp2 dk2 ⟨p2, rfl, g2⟩ ⟨rfl, Nat.zero_le _, sb_pos g, fun x z => (nomatch z)⟩⟩
      · exact ⟨.ref p3, rfl, q _ .tru _ kp2 dk2 ⟨p3, rfl, g3⟩ ⟨rfl, Nat.zero_le _, sb_pos g, fun x z => (nomatch z)⟩⟩
    refine ⟨_, rfl, rfl, _, rfl, (fun h3 => ite2 (fun _ => iteT h3) (fun hdeep => ⟨_, rfl, _, _, rfl, rfl, _, rfl, ite2 (fun _ => h3) (fun _ => ?deep)⟩)) ?leaf⟩
    case leaf =>
      refine ⟨(by show 1 ≤ sizeLine; decide), fun p1 n1 => ⟨(by show 1 ≤ sizeLine; decide), fun p2 n2 => ⟨(by show 1 ≤ sizeLine; decide), fun p3 n3 => ⟨(by show 3 ≤ sizeLine; decide), fun l nl => ?_⟩⟩⟩⟩
      have s1 := newS (o := .tup [.str "num"]) n1
      have s2 := newS (o := .tup [.str "truth"]) n2
      have s3 := newS (o := .tup [.str "truth"]) n3
      have s4 := newS (o := .lst [V.ref p1, .ref p2, .ref p3]) nl
      have s14 := s1.trans (s2.trans (s3.trans s4))
      have g1 := s4 _ _ (s3 _ _ (s2 p1 _ upd_same))
      have g2 := s4 _ _ (s3 p2 _ upd_same)
      have g3 := s4 p3 _ upd_same
      refine ⟨_, rfl, d, c, 3, rfl, dkG.same s14, by decide, by decide, fun r G3 r0 r1 kp3 dk3 => ?_⟩
      have tk := Tk.kp kp3 (dkG.same s14)
      obtain ⟨v, e1, e2⟩ := leaf r G3 p1 p2 p3 l r0 r1 ((kp.trans (Kp.of s14)).trans kp3) dk3 (tk _ _ g1) (tk _ _ g2) (tk _ _ g3)
      have off := (dkG.same (s1.trans (s2.trans s3))).off nl
      exact ⟨l, _, _, v, rfl, rfl, SqL.of (kp3 l _ off.1 off.2 upd_same), e1, e2⟩
    case deep =>
      obtain ⟨j, rfl⟩ : ∃ j, g = j + 1 := by
        cases g with
        | zero => exact absurd (decide_eq_true rfl) hdeep
        | succ j => exact ⟨j, rfl⟩
      have ej : ((j + 1 : Nat) : Int) - 1 = ((j : Nat) : Int) := by omega
      have eL : [V.ref d, V.ref o, V.int (((j + 1 : Nat) : Int) - 1)] = [V.ref d, V.ref o, V.int ((j : Nat) : Int)] := by rw [ej]
      have both : ∀ (a b : Kd) (va vb : V) (G2 : Hp) (p : Addr) (wd : Str) (mk : Kd → Kd → Kd), Kp d c H G2 → Dk G2 d c → Rp G2 a va → Rp G2 b vb → Dta j a → Dta j b → G2 p = none → (∀ F x y pp, F pp = some (.tup [.str wd, x, y]) → Rp F a x → Rp F b y → Rp F (mk a b) (.ref pp)) →
          (mk a b).isFn = false → (mk a b).dp = max a.dp b.dp + 1 → (mk a b).size = a.size + b.size + 1 → (mk a b).opens = a.opens ++ b.opens → Q (.ref p) (upd G2 p (.tup [.str wd, va, vb])) := fun a b va vb G2 p wd mk kp2 dk2 ra rb da db np hmk m1 m2 m3 m4 => by
        have s := newS (o := .tup [.str wd, va, vb]) np
        refine q _ (mk a b) _ (kp2.trans (Kp.of s)) (dk2.same s) (hmk _ _ _ p upd_same (ra.tk (Tk.of s)) (rb.tk (Tk.of s))) ⟨m1, ?_, ?_, fun x hx' => ?_⟩
        · have := da.dp
          have := db.dp
          omega
        · have := da.sz
          have := db.sz
          rw [m3]
          show _ ≤ 2 * sb j + 1
          omega
        · rw [m4] at hx'
          rcases List.mem_append.mp hx' with z | z
          · exact da.nm x z
          · exact db.nm x z
      refine ⟨_, rfl, rfl, _, rfl, ite2 (fun _ => ?_) (fun _ => ⟨_, rfl, rfl, _, rfl, ite2 (fun _ => ?_) (fun _ => ?_)⟩)⟩
      · refine ⟨_, rfl, _, rfl, _, rfl, _, _, rfl, rfl, d, c, o, xs, j, eL, by omega, dkG, hoG, od, oc, lx, hx, fun va a G3 kp3 dk3 ra da => ?_⟩
        refine ⟨_, rfl, _, rfl, _, rfl, _, _, rfl, rfl, d, c, o, xs, j, eL, by omega, dk3, kp3 o _ od oc hoG, od, oc, lx, hx, fun vb b G4 kp4 dk4 rb db => ?_⟩
        exact ⟨(by show 3 ≤ sizeLine; decide), fun p np => both a b va vb G4 p "pair" .pair ((kp.trans kp3).trans kp4) dk4 (ra.tk (Tk.kp kp4 dk3)) rb da db np (fun F x y pp h1 h2 h3 => ⟨pp, x, y, rfl, h1, h2, h3⟩) rfl rfl (Kd.size2 a b).1 rfl⟩
      · refine ⟨_, rfl, _, rfl, _, rfl, _, _, rfl, rfl, d, c, o, xs, j, eL, by omega, dkG, hoG, od, oc, lx, hx, fun va a G3 kp3 dk3 ra da => ?_⟩
        refine ⟨_, rfl, _, rfl, _, rfl, _, _, rfl, rfl, d, c, o, xs, j, eL, by omega, dk3, kp3 o _ od oc hoG, od, oc, lx, hx, fun vb b G4 kp4 dk4 rb db => ?_⟩
        exact ⟨(by show 3 ≤ sizeLine; decide), fun p np => both a b va vb G4 p "either" .eith ((kp.trans kp3).trans kp4) dk4 (ra.tk (Tk.kp kp4 dk3)) rb da db np (fun F x y pp h1 h2 h3 => ⟨pp, x, y, rfl, h1, h2, h3⟩) rfl rfl (Kd.size2 a b).2.1 rfl⟩
      · refine ⟨_, rfl, _, rfl, _, rfl, _, _, rfl, rfl, d, c, o, xs, j, eL, by omega, dkG, hoG, od, oc, lx, hx, fun va a G3 kp3 dk3 ra da => ?_⟩
        refine ⟨(by show 2 ≤ sizeLine; decide), fun p np => ?_⟩
        have s := newS (o := .tup [.str "list", va]) np
        refine q _ (.lst a) _ ((kp.trans kp3).trans (Kp.of s)) (dk3.same s) ⟨p, va, rfl, upd_same, ra.tk (Tk.of s)⟩ ⟨rfl, ?_, ?_, da.nm⟩
        · have := da.dp
          show a.dp + 1 ≤ j + 1
          omega
        · have := da.sz
          rw [(Kd.size2 a a).2.2]
          show _ ≤ 2 * sb j + 1
          omega
end
end Kq

namespace Kq
open PySem PySem.Spec PyProof.Rows L2
theorem slTK {X : Cx} (K : PySem.W.Frag) (h : X.K = K) : SlR X (rSlT K) := by
  subst h
  exact sl_tup
theorem le_sum {l : List Nat} {x : Nat} (h : x ∈ l) : x ≤ l.sum := by
  induction l with
  | nil => cases h
  | cons y l ih =>
    rw [List.sum_cons]
    rcases List.mem_cons.mp h with z | z
    · omega
    · have := ih z
      omega
theorem RpL.mem {H : Hp} {ts : List Kd} {vs : List V} {i : Nat} {t : Kd} (h : ts[i]? = some t) : t ∈ ts := List.mem_of_getElem? h
section
variable {P : Program} {w : World} {K : PySem.W.Frag} {mg : Str → Option Value} {base : Heap}
theorem noFn {f : Addr} {fd : FuncData} {ps : List Str} {sp : Sp} {k : Nat} (no : ∀ vs H Q E, ¬ sp vs H Q E) : FnOk P w K mg base CX0 k f fd ps sp :=
  ⟨fun vs H Q E h => absurd h (no vs H Q E), fun A outer s H args us vs Q E _ _ _ _ h => absurd h (no vs H Q E)⟩
theorem okData {f fD fM : Addr} {fd fdD fdM : FuncData} (F : Fun K "_law_data" "_law_data" tData f fd) (bF : Binds K fd psData []) (gF : mg "_law_data" = some (.ref f))
    (FD : Fun K "_law_draw" "_law_draw" tDraw fD fdD) (bD : Binds K fdD ["_law_deck_here", "_law_most"] []) (gD : mg "_law_draw" = some (.ref fD)) (FM : Fun K "_law_mixed" "_law_mixed" tMixed fM fdM) (bM : Binds K fdM ["_law_cell", "_law_k"] []) (gM : mg "_law_mixed" = some (.ref fM)) (ml : mg "len" = none) :
    ∀ n, FnOk P w K mg base CX0 (n + 2) f fd psData (spData n)
  | 0 => noFn fun vs H Q E h => by
    obtain ⟨d, c, o, xs, g, _, hg, _⟩ := h
    omega
  | n + 1 => okData1 F bF gF (okDraw FD FM bM gM) bD gD FD.kp ml (okData F bF gF FD bD gD FM bM gM ml n)
/-! _law_parts -/
theorem scLParts : FnScope ["_law_kind", "_law_part"] ["_law_kind"] (defScope tLParts) := ⟨rfl, rfl, rfl, by decide +kernel, rfl, by decide +kernel, by decide +kernel⟩
def spLParts (n : Nat) : Sp := fun vs H Q _ => ∃ (v : V) (t : Kd), vs = [v] ∧ t.dp + 1 ≤ n ∧ Rp H t v ∧ ∀ G : Hp, Same H G → Q (.int (t.size : Int)) G
theorem okLParts1 {f : Addr} {fd : FuncData} {n : Nat} (F : Fun K "_law_parts" "_law_parts" tLParts f fd) (bF : Binds K fd ["_law_kind"] []) (gF : mg "_law_parts" = some (.ref f)) (ms : mg "sum" = none) (mi : mg "isinstance" = none) (mt : mg "tuple" = none)
    (GI : FnOk P w K mg base CX0 (n + 1) f fd ["_law_kind"] (spLParts n)) : FnOk P w K mg base CX0 (n + 2) f fd ["_law_kind"] (spLParts (n + 1)) := by
  refine F.ok scLParts (fun vs H Q E h => ?_) (fun cdv A outer s H vs Q E hr h => ?_)
  · obtain ⟨v, t, rfl, _⟩ := h
    rfl
  obtain ⟨v, t, rfl, hn, r, q⟩ := h
  obtain ⟨a, us, rfl, ha, hu⟩ := r.see
  refine ⟨_, pss_one (ps_ret (pe_op op_add pe_int (pe_callB (cr_sum rfl) (by rfl) ms PyProof.Rows.boot_sum (pa_cons
    (pe_lc (own := [("_law_part", 1)]) (g := gName 1) (by rfl) scLParts.nd (pi_tup (pe_slice sl_tup (pv 0) (po_some pe_int) po_none)) (blkOk_by (own := [("_law_part", 1)]) (N := ["_law_kind", "_law_part"]) (sc := defScope tLParts) (by decide +kernel))
      (fun _ _ _ _ _ => pg_name (i := 1) scLParts.nd rfl (.inl rfl))
      (fun _ _ _ _ _ => pts_one (pt_val (pe_callB (isiK K rfl) (by rfl) mi PyProof.Rows.boot_isinstance (pa_cons (pv 1) (pa_cons (pe_bltn (v := .ty "tuple") (by rfl) mt PyProof.Rows.boot_tuple rfl) pa_nil)))))
      (fun _ _ _ _ _ => pe_call GI hr (by rfl) gF F.kp bF .nil pass0 (pa_cons (pv 1) pa_nil))) pa_nil)))), ?_⟩
  refine ⟨_, rfl, 1, rfl, a, _, rfl, SqT.of ha, notWhole _ _, fun p np => ?_⟩
  rw [cutFrom1]
  refine ⟨p, rfl, ⟨_, SqT.of upd_same⟩, fun D nD => ?_⟩
  have s1 : Same H (upd H p (.tup us)) := newS np
  have sD : Same H (upd (upd H p (.tup us)) D (.lst [])) := s1.trans (newS nD)
  have hD : H D = none := s1.free nD
  have pD : p ≠ D := fun z => by
    rw [← z, upd_same] at nD
    cases nD
  refine lc_tup (xs := us) (fun i G => Same H G ∧ G p = some (.tup us) ∧ G D = some (.lst ((((t.kids.take i).map fun c => (c.size : Int))).map V.int))) ⟨sD, by rw [upd_ne pD, upd_same], by rw [upd_same]; rfl⟩ (fun i G _ z => SqT.of z.2.1) (fun i x G hx z => ?_) (fun G z => ?_)
  · obtain ⟨sG, gp, gD⟩ := z
    rcases hu with hu | ⟨y, rfl, rfl⟩
    · obtain ⟨c, hc, rc⟩ := (hu.2.tk (Tk.of sG)).get hx
      obtain ⟨ca, ws, rfl, hca, _⟩ := rc.see
      have hcm := RpL.mem (H := H) (vs := us) hc
      have hd := Kd.kids_dp hcm
      have li : i < t.kids.length := (List.getElem?_eq_some_iff.mp hc).1
      have tk : t.kids.take (i + 1) = t.kids.take i ++ [c] := by rw [List.take_add_one, hc]; rfl
      refine ⟨rfl, _, rfl, _, _, _, _, true, rfl, .ty "tuple", .base (.tup hca), kit_ty (by decide +kernel), _, rfl, ?_⟩
      refine ⟨_, rfl, _, c, rfl, by omega, rc, fun G2 s2 => ⟨_, s2 _ _ gD, ?_, smk (sG.trans s2) hD, by rw [upd_ne pD]; exact s2 _ _ gp, ?_⟩⟩
      · have := Kd.kids_le t
        rw [List.length_map, List.length_map, List.length_take]
        exact small1000 (by omega)
      · rw [upd_same, tk, List.map_append, List.map_append]
        rfl
    · have hi0 : i = 0 := by
        have := (List.getElem?_eq_some_iff.mp hx).1
        simpa using this
      subst hi0
      have ex : x = .str y := (Option.some.inj hx).symm
      subst ex
      refine ⟨rfl, _, rfl, _, _, _, _, false, rfl, .ty "tuple", .base (.str y), kit_ty (by decide +kernel), _, rfl, ?_⟩
      exact ⟨sG, gp, gD⟩
  · obtain ⟨sG, gp, gD⟩ := z
    refine ⟨D, _, rfl, SqL.of gD, _, _, rfl, rfl, ?_⟩
    have e : (1 : Int) + ((t.kids.take us.length).map fun c => (c.size : Int)).sum = (t.size : Int) := by
      have tl : t.kids.take us.length = t.kids := by
        rcases hu with hu | ⟨y, rfl, rfl⟩
        · rw [← hu.2.len, List.take_length]
        · rfl
      rw [tl, Kd.kids_size t]
      have sm : ∀ l : List Kd, (l.map fun c => (c.size : Int)).sum = (((l.map Kd.size).sum : Nat) : Int) := fun l => by
        induction l with
        | nil => rfl
        | cons b l ih =>
          rw [List.map_cons, List.sum_cons, ih, List.map_cons, List.sum_cons]
          omega
      rw [sm]
      omega
    show Q (.int (1 + ((t.kids.take us.length).map fun c => (c.size : Int)).sum)) G
    rw [e]
    exact q G sG
theorem okLParts {f : Addr} {fd : FuncData} (F : Fun K "_law_parts" "_law_parts" tLParts f fd) (bF : Binds K fd ["_law_kind"] []) (gF : mg "_law_parts" = some (.ref f)) (ms : mg "sum" = none) (mi : mg "isinstance" = none) (mt : mg "tuple" = none) : ∀ n, FnOk P w K mg base CX0 (n + 1) f fd ["_law_kind"] (spLParts n)
  | 0 => noFn fun vs H Q E h => by
    obtain ⟨v, t, _, hn, _⟩ := h
    omega
  | n + 1 => okLParts1 F bF gF ms mi mt (okLParts F bF gF ms mi mt n)
theorem ledTo_sz : ∀ (ts : List Kd) (t : Kd) (m : Nat), (∀ u ∈ ts, u.size ≤ m) → (Kd.ledTo ts t).size ≤ ts.length * (m + 1) + t.size
  | [], t, m, _ => by
    show t.size ≤ 0 * (m + 1) + t.size
    omega
  | u :: ts, t, m, h => by
    have ih := ledTo_sz ts t m fun v hv => h v (List.mem_cons_of_mem _ hv)
    have h1 := h u List.mem_cons_self
    show (Kd.fn u (Kd.ledTo ts t)).size ≤ _
    rw [Kd.size_fn, List.length_cons, Nat.succ_mul]
    omega
theorem ledTo_dp : ∀ (ts : List Kd) (t : Kd) (m : Nat), (∀ u ∈ ts, u.dp ≤ m) → t.dp ≤ m → (Kd.ledTo ts t).dp ≤ m + ts.length
  | [], t, m, _, h => h
  | u :: ts, t, m, h, ht => by
    have ih := ledTo_dp ts t m (fun v hv => h v (List.mem_cons_of_mem _ hv)) ht
    have h1 := h u List.mem_cons_self
    show max u.dp (Kd.ledTo ts t).dp + 1 ≤ _
    rw [List.length_cons]
    omega
theorem ledTo_nm : ∀ (ts : List Kd) (t : Kd), (∀ u ∈ ts, ∀ x ∈ u.opens, Nm x) → (∀ x ∈ t.opens, Nm x) → ∀ x ∈ (Kd.ledTo ts t).opens, Nm x
  | [], t, _, h => h
  | u :: ts, t, h, ht => fun x hx => by
    rcases List.mem_append.mp (show x ∈ u.opens ++ (Kd.ledTo ts t).opens from hx) with z | z
    · exact h u List.mem_cons_self x z
    · exact ledTo_nm ts t (fun v hv => h v (List.mem_cons_of_mem _ hv)) ht x z
end
end Kq

namespace Kg
open PySem PySem.Spec PyProof.Rows L2 GxR
/-- a def whose code object is known -/
structure FunC (K : PySem.W.Frag) (x qual : Str) (st : Stmt) (f : Addr) (fd : FuncData) (c : Addr) : Prop where
  ex : ∃ (oc : Value) (od : Option Addr) (kV doc pm : Value) (an : Option Addr) (ct : Value) (osl : Array (Option Value)),
    fd = PySem.W.fnOf x qual (defArgs st) (defBody st) (defScope st) .none kV doc pm an (.ref c) ct ∧ K.lookup f = some ⟨oc, od, .func fd, osl⟩ ∧ PySem.W.codeIn K (.ref c) qual = true
section
variable {P : Program} {w : World} {K : PySem.W.Frag} {mg : Str → Option Value} {base : Heap}
theorem FunC.ok {x qual : Str} {st : Stmt} {f : Addr} {fd : FuncData} {c : Addr} {N ps : List Str} {k : Nat} {sp : Sp} (F : FunC K x qual st f fd c) (S : FnScope N ps (defScope st)) (len : ∀ vs H Q E, sp vs H Q E → vs.length = ps.length)
    (hbody : ∀ (A : Around) (outer : List Env) (s : Shared) (H : Hp) (vs : List V) (Q : VK) (E : XK), Room k (A.deeper (envOfC qual (defScope st) s.heap.objs.size f (.ref c))) → sp vs H Q E →
      ∃ t, PSs (cxOf CX0 P w K mg base N qual (defScope st) f (.ref c) A outer s H E).nox (defBody st) t ∧ t { nx := fun _ H' => Q .non H', rt := Q } (start N vs) H) : FnOk P w K mg base CX0 (k + 1) f fd ps sp := by
  obtain ⟨oc, od, kV, doc, pm, an, ct, osl, rfl, lk, hcd⟩ := F.ex
  refine fn_of lk hcd S len fun A outer s H vs Q E hr hsp => ?_
  obtain ⟨t, h, q⟩ := hbody A outer s H vs Q E hr hsp
  exact ⟨t, h.nox, q⟩
theorem funC_mk {x qual : Str} {st : Stmt} {f c : Addr} {oc : Value} {od an : Option Addr} {osl : Array (Option Value)} {kV doc pm ct : Value} (l : K.lookup f = some ⟨oc, od, .func (PySem.W.fnOf x qual (defArgs st) (defBody st) (defScope st) .none kV doc pm an (.ref c) ct), osl⟩)
    (h : PySem.W.codeIn K (.ref c) qual = true) : FunC K x qual st f (PySem.W.fnOf x qual (defArgs st) (defBody st) (defScope st) .none kV doc pm an (.ref c) ct) c := ⟨⟨oc, od, kV, doc, pm, an, ct, osl, rfl, l, h⟩⟩
end
def gxSB (N : List Str) (sc scope : Scope) (own : List Str) (caps : List (Str × Nat)) : Bool :=
  decide (scope.kind = .function) && !scope.isCoroutine && scope.names.all (fun y => !decide (y.2 = .cell)) && decide (scope.names.lookup (".0" : Str) = some NameKind.local) && decide ((own ++ caps.map (·.1)).Nodup) &&
  caps.all (fun p => decide (N[p.2]? = some p.1) && decide (scope.names.lookup p.1 = some .free)) && scope.names.all (fun y => !decide (y.2 = .free) || decide (sc.names.lookup y.1 = some .cell) || decide (sc.names.lookup y.1 = some .free)) && scope.names.all fun y => decide (scope.names.lookup y.1 = some y.2)
theorem gxS_by {N : List Str} {sc scope : Scope} {own : List Str} {caps : List (Str × Nat)} (h : gxSB N sc scope own caps = true) : GxS N sc scope own caps := by
  unfold gxSB at h
  simp only [Bool.and_eq_true, Bool.or_eq_true, Bool.not_eq_true', decide_eq_true_eq, decide_eq_false_iff_not, List.all_eq_true] at h
  obtain ⟨⟨⟨⟨⟨⟨⟨h1, h2⟩, h3⟩, h4⟩, h5⟩, h6⟩, h7⟩, h8⟩ := h
  refine ⟨h1, h2, h3, h4, h5, h6, fun y hy e => ?_, h8⟩
  rcases h7 y hy with (z | z) | z
  · exact absurd e z
  · exact .inl z
  · exact .inr z
/-! the tables of code objects -/
def TbS (T : List Addr) (H : Hp) : Prop := ∀ p ∈ T, TabG H p
/-- all but the tables stands; they are tables -/
def Sm (T : List Addr) (H G : Hp) : Prop := (∀ b u, b ∉ T → H b = some u → G b = some u) ∧ TbS T G
theorem TbS.same {T : List Addr} {H G : Hp} (t : TbS T H) (s : Same H G) : TbS T G := fun p hp => by
  obtain ⟨ps, h1, h2⟩ := t p hp
  exact ⟨ps, s _ _ h1, h2⟩
theorem Sm.refl {T : List Addr} {H : Hp} (t : TbS T H) : Sm T H H := ⟨fun _ _ _ e => e, t⟩
theorem Sm.of {T : List Addr} {H G : Hp} (s : Same H G) (t : TbS T H) : Sm T H G := ⟨fun b u _ e => s b u e, t.same s⟩
theorem Sm.trans {T : List Addr} {H G F : Hp} (a : Sm T H G) (b : Sm T G F) : Sm T H F := ⟨fun x u h e => b.1 x u h (a.1 x u h e), b.2⟩
theorem Sm.tab {T : List Addr} {H G : Hp} {p : Addr} (hp : p ∈ T) (t : TbS T H) (h : Tabbed p H G) : Sm T H G := by
  refine ⟨fun b u hb e => ?_, fun q hq => ?_⟩
  · rw [h.2 b (fun z => hb (by rw [z]; exact hp))]
    exact e
  · by_cases z : q = p
    · rw [z]
      exact h.1
    · obtain ⟨ps, h1, h2⟩ := t q hq
      exact ⟨ps, by rw [h.2 q z]; exact h1, h2⟩
theorem TbS.off {T : List Addr} {H : Hp} {b : Addr} {u : HO} (t : TbS T H) (e : H b = some u) (n : ∀ ps, u ≠ .tbl ps) : b ∉ T := fun hb => by
  obtain ⟨ps, h1, _⟩ := t b hb
  rw [e] at h1
  exact n ps (Option.some.inj h1)
theorem Sm.at {T : List Addr} {H G : Hp} (a : Sm T H G) (t : TbS T H) {b : Addr} {u : HO} (e : H b = some u) (n : ∀ ps, u ≠ .tbl ps) : G b = some u := a.1 b u (t.off e n) e
theorem Sm.free {T : List Addr} {H G : Hp} {p : Addr} (a : Sm T H G) (h : G p = none) : H p = none := by
  cases e : H p with
  | none => rfl
  | some u =>
    by_cases hp : p ∈ T
    · obtain ⟨ps, h1, _⟩ := a.2 p hp
      rw [h] at h1
      cases h1
    · rw [a.1 p u hp e] at h
      cases h
/-! all over a list, over a tuple -/
section
variable {K : PySem.W.Frag} {a : Addr} {xs : List V} {g : TG} {te : TE} {vs : List Nat} {σ0 : L2.St} {G : Hp} {Qe : Bool → Hp → Prop}
theorem all_list (Pv : Nat → Hp → Prop) (h0 : Pv 0 G) (hl : ∀ i H, i ≤ xs.length → Pv i H → SqL K H a xs)
    (hs : ∀ i x H, xs[i]? = some x → Pv i H → g x σ0 H fun σ2 H2 => wipe σ2 vs = σ0 ∧ te σ2 H2 fun y H4 => ∃ b, y = .bl b ∧ if b = true then Pv (i + 1) H4 else Qe false H4) (hd : ∀ H, Pv xs.length H → Qe true H) :
    ∃ W : Nat → Nat → Hp → Prop, (∃ m, W 0 m G) ∧ Turns (Itl K a) σ0 vs g te Qe W := by
  refine ⟨fun i m F => m = xs.length - i ∧ i ≤ xs.length ∧ Pv i F, ⟨_, rfl, Nat.zero_le _, h0⟩, fun i m F z => ?_⟩
  obtain ⟨rfl, hi, p⟩ := z
  have q := hl i F hi p
  by_cases lt : i < xs.length
  · refine .inr ⟨⟨xs, xs[i], q, List.getElem?_eq_getElem lt⟩, Pv (i + 1), fun F' p' => ⟨xs.length - (i + 1), by omega, rfl, lt, p'⟩, fun x F' y => ?_⟩
    obtain ⟨e, y⟩ := y
    subst e
    exact hs i x _ (y xs q) p
  · have e : i = xs.length := by omega
    subst e
    exact .inl ⟨⟨xs, q, Nat.le_refl _⟩, hd F p⟩
theorem all_tup (Pv : Nat → Hp → Prop) (h0 : Pv 0 G) (hl : ∀ i H, i ≤ xs.length → Pv i H → SqT K H a xs)
    (hs : ∀ i x H, xs[i]? = some x → Pv i H → g x σ0 H fun σ2 H2 => wipe σ2 vs = σ0 ∧ te σ2 H2 fun y H4 => ∃ b, y = .bl b ∧ if b = true then Pv (i + 1) H4 else Qe false H4) (hd : ∀ H, Pv xs.length H → Qe true H) :
    ∃ W : Nat → Nat → Hp → Prop, (∃ m, W 0 m G) ∧ Turns (Itt K a) σ0 vs g te Qe W := by
  refine ⟨fun i m F => m = xs.length - i ∧ i ≤ xs.length ∧ Pv i F, ⟨_, rfl, Nat.zero_le _, h0⟩, fun i m F z => ?_⟩
  obtain ⟨rfl, hi, p⟩ := z
  have q := hl i F hi p
  by_cases lt : i < xs.length
  · refine .inr ⟨⟨xs, xs[i], q, List.getElem?_eq_getElem lt⟩, Pv (i + 1), fun F' p' => ⟨xs.length - (i + 1), by omega, rfl, lt, p'⟩, fun x F' y => ?_⟩
    obtain ⟨e, y⟩ := y
    subst e
    exact hs i x _ (y xs q) p
  · have e : i = xs.length := by omega
    subst e
    exact .inl ⟨⟨xs, q, Nat.le_refl _⟩, hd F p⟩
end
end Kg
namespace Kq
open PySem PySem.Spec PyProof.Rows L2 Kg GxR
theorem Tk.sm {T : List Addr} {H G : Hp} (t : TbS T H) (s : Sm T H G) : Tk H G := fun b xs e => s.at t e fun ps z => by cases z
namespace Kd
def sm : Kd → Bool
  | opn _ => true
  | num => false
  | tru => true
  | pair a b => sm a && sm b
  | eith a b => sm a && sm b
  | lst _ => false
  | fn _ _ => false
def bad : Kd → Bool
  | num => true
  | lst _ => true
  | fn _ _ => true
  | _ => false
def hd (t : Kd) : Bool := t.isFn && t.args.all sm
def wk (t : Kd) : Bool := t.isFn && t.args.all fun a => !a.isFn || a.hd
theorem sm_nodes : ∀ t : Kd, t.nodes.all (fun u => !u.bad) = t.sm
  | opn _ => rfl
  | num => rfl
  | tru => rfl
  | pair a b => by
    show (true && ((a.nodes ++ b.nodes).all fun u => !u.bad)) = (a.sm && b.sm)
    rw [List.all_append, sm_nodes a, sm_nodes b, Bool.true_and]
  | eith a b => by
    show (true && ((a.nodes ++ b.nodes).all fun u => !u.bad)) = (a.sm && b.sm)
    rw [List.all_append, sm_nodes a, sm_nodes b, Bool.true_and]
  | lst a => rfl
  | fn a b => rfl
theorem bad_word (t : Kd) : (!inV (V.str t.word) [V.str "fun", V.str "num", V.str "list"]) = !t.bad := by
  cases t <;> rfl
end Kd
theorem take_all {α : Type} {l : List α} {i : Nat} {x : α} {f : α → Bool} (h : l[i]? = some x) (a : (l.take i).all f = true) (b : f x = true) : (l.take (i + 1)).all f = true := by
  rw [List.take_add_one, h, List.all_append, a]
  simp [b]
theorem not_all {α : Type} {l : List α} {i : Nat} {x : α} {f : α → Bool} (h : l[i]? = some x) (b : f x = false) : l.all f = false := by
  cases e : l.all f with
  | false => rfl
  | true =>
    have := List.all_eq_true.mp e x (List.mem_of_getElem? h)
    rw [b] at this
    cases this
theorem all_perm {α : Type} {l m : List α} {f : α → Bool} (p : l.Perm m) : l.all f = m.all f := by
  rw [Bool.eq_iff_iff, List.all_eq_true, List.all_eq_true]
  exact ⟨fun h x hx => h x (p.mem_iff.mpr hx), fun h x hx => h x (p.mem_iff.mp hx)⟩
theorem notInK {X : Cx} (K : PySem.W.Frag) (h : X.K = K) : OpR X (compareOp .NotIn) (rIn K true) := by
  subst h
  exact op_notIn_seq
theorem isInK {X : Cx} (K : PySem.W.Frag) (h : X.K = K) : OpR X (compareOp .In) (rIn K false) := by
  subst h
  exact op_in_seq
abbrev tSmall : Stmt := tp 4
abbrev tHanded : Stmt := tp 5
abbrev tWalked : Stmt := tp 6
section
variable {P : Program} {w : World} {K : PySem.W.Frag} {mg : Str → Option Value} {base : Heap}
theorem scSmall : FnScope ["kind"] ["kind"] (defScope tSmall) := ⟨rfl, rfl, rfl, by decide +kernel, rfl, by decide +kernel, by decide +kernel⟩
def spSmall (T : List Addr) : Sp := fun vs H Q _ => ∃ (v : V) (t : Kd), vs = [v] ∧ Rp H t v ∧ t.size ≤ 100 ∧ TbS T H ∧ ∀ G : Hp, Sm T H G → Q (.bl t.sm) G
theorem okSmall {f c p fP : Addr} {fd fdP : FuncData} {k : Nat} {T : List Addr} (F : FunC K "is_small" "is_small" tSmall f fd c) (TB : TabB base mg c p) (hp : p ∈ T) (GP : FnOk P w K mg base CX0 (k + 2) fP fdP ["kind"] spParts) (bP : Binds K fdP ["kind"] []) (gP : mg "parts_of" = some (.ref fP)) (kP : PySem.W.keepIn K (.ref fP) = true)
    (ma : mg "all" = none) : FnOk P w K mg base CX0 (k + 3) f fd ["kind"] (spSmall T) := by
  refine F.ok scSmall (fun vs H Q E h => ?_) (fun A outer s H vs Q E hr h => ?_)
  · obtain ⟨v, t, rfl, _⟩ := h
    rfl
  obtain ⟨v, t, rfl, r, hz, tb, q⟩ := h
  refine ⟨_, pss_one (ps_ret (pe_allG (c := c) (P := p) (own := ["part"]) (caps := []) (vs := [0]) (g := gName 0) hr (by rfl) ma TB rfl (gxS_by (N := ["kind"]) (sc := defScope tSmall) (by decide +kernel)) (pi_list (pe_call GP hr (by rfl) gP kP bP .nil pass0 (pa_cons (pv 0) pa_nil)))
    (fun _ _ _ _ _ => pg_name (i := 0) (show (["part"] : List Str).Nodup by decide +kernel) rfl (.inl rfl)) (fun _ _ _ _ _ => pe_cmpR (notInK K rfl) (pe_ix (ixTK K rfl) (pv 0) pe_int (fun _ _ => rfl)) (pe_tup (pa_cons pe_str (pa_cons pe_str (pa_cons pe_str pa_nil)))) rfl))), ?_⟩
  refine ⟨_, rfl, v, t, rfl, r, hz, fun l ts us G sG gl rt pm => ⟨l, rfl, ⟨_, SqL.of gl⟩, (tb.same sG) p hp, fun H2 htab => ?_⟩⟩
  have s2 : Sm T G H2 := Sm.tab hp (tb.same sG) htab
  have sH : Sm T H H2 := (Sm.of sG tb).trans s2
  refine all_list (xs := us) (fun i F => Sm T G F ∧ (ts.take i).all (fun u => !u.bad) = true) ⟨s2, rfl⟩ (fun i F _ z => SqL.of (z.1.at (tb.same sG) gl fun _ z => by cases z)) (fun i x F hx z => ?_) (fun F z => ?_)
  · obtain ⟨sF, al⟩ := z
    obtain ⟨u, hu, rx⟩ := rt.get hx
    obtain ⟨a, ws, rfl, ha, hw⟩ := (rx.tk (Tk.sm (tb.same sG) sF)).see
    refine ⟨rfl, _, rfl, a, _, _, _, rfl, rfl, SqT.of ha, atI_nat (j := 0) rfl, (by show 3 ≤ sizeLine; decide), fun e ne => ⟨e, _, rfl, .inr (SqT.of upd_same), rfl, rfl, _, rfl, ?_⟩⟩
    have sF2 : Sm T G (upd F e (.tup [V.str "fun", V.str "num", V.str "list"])) := sF.trans (Sm.of (newS ne) sF.2)
    show if (!inV (V.str u.word) [V.str "fun", V.str "num", V.str "list"]) = true then _ else _
    rw [Kd.bad_word]
    refine ite2 (fun e => ?_) (fun e => ?_)
    · exact ⟨sF2, take_all hu al e⟩
    · have e0 : (!u.bad) = false := by simpa using e
      have z := q _ ((Sm.of sG tb).trans sF2)
      rw [← Kd.sm_nodes, ← all_perm pm, not_all hu e0] at z
      exact z
  · obtain ⟨sF, al⟩ := z
    rw [← rt.len, List.take_length] at al
    have z := q _ ((Sm.of sG tb).trans sF)
    rw [← Kd.sm_nodes, ← all_perm pm, al] at z
    exact z
end
end Kq

namespace Kq
open PySem PySem.Spec PyProof.Rows L2 Kg GxR
theorem args_size : ∀ {t u : Kd}, u ∈ t.args → u.size + 1 ≤ t.size
  | .fn a b, u, h => by
    have h : u ∈ a :: b.args := h
    rw [Kd.size_fn]
    rcases List.mem_cons.mp h with z | z
    · rw [z]
      omega
    · have := args_size z
      omega
  | .opn _, _, h => by cases h
  | .num, _, h => by cases h
  | .tru, _, h => by cases h
  | .pair _ _, _, h => by cases h
  | .eith _ _, _, h => by cases h
  | .lst _, _, h => by cases h
section
variable {P : Program} {w : World} {K : PySem.W.Frag} {mg : Str → Option Value} {base : Heap}
theorem scHanded : FnScope ["kind"] ["kind"] (defScope tHanded) := ⟨rfl, rfl, rfl, by decide +kernel, rfl, by decide +kernel, by decide +kernel⟩
def spHanded (T : List Addr) : Sp := fun vs H Q _ => ∃ (v : V) (t : Kd), vs = [v] ∧ Rp H t v ∧ t.size ≤ 100 ∧ TbS T H ∧ ∀ G : Hp, Sm T H G → Q (.bl t.hd) G
theorem okHanded {f c p fL fA fS : Addr} {fd fdL fdA fdS : FuncData} {k : Nat} {T : List Addr} (F : FunC K "is_handed" "is_handed" tHanded f fd c) (TB : TabB base mg c p) (hp : p ∈ T)
    (GL : FnOk P w K mg base CX0 (k + 6) fL fdL ["kind"] spLeads) (bL : Binds K fdL ["kind"] []) (gL : mg "leads" = some (.ref fL)) (kL : PySem.W.keepIn K (.ref fL) = true)
    (GA : FnOk P w K mg base CX0 (k + 6) fA fdA ["kind"] spArgs) (bA : Binds K fdA ["kind"] []) (gA : mg "arguments_of" = some (.ref fA)) (kA : PySem.W.keepIn K (.ref fA) = true)
    (GS : FnOk P w K mg base CX0 (k + 3) fS fdS ["kind"] (spSmall T)) (bS : Binds K fdS ["kind"] []) (gS : mg "is_small" = some (.ref fS)) (kS : PySem.W.keepIn K (.ref fS) = true)
    (ma : mg "all" = none) : FnOk P w K mg base CX0 (k + 7) f fd ["kind"] (spHanded T) := by
  refine F.ok scHanded (fun vs H Q E h => ?_) (fun A outer s H vs Q E hr h => ?_)
  · obtain ⟨v, t, rfl, _⟩ := h
    rfl
  obtain ⟨v, t, rfl, r, hz, tb, q⟩ := h
  refine ⟨_, pss_one (ps_ret (pe_and (pe_call GL hr (by rfl) gL kL bL .nil pass0 (pa_cons (pv 0) pa_nil)) (pe_one (pe_allG (c := c) (P := p) (own := ["argument"]) (caps := []) (vs := [0]) (g := gName 0) hr (by rfl) ma TB rfl
    (gxS_by (N := ["kind"]) (sc := defScope tHanded) (by decide +kernel)) (pi_tup (pe_call GA hr (by rfl) gA kA bA .nil pass0 (pa_cons (pv 0) pa_nil)))
    (fun _ _ _ _ _ => pg_name (i := 0) (show (["argument"] : List Str).Nodup by decide +kernel) rfl (.inl rfl)) (fun _ _ _ _ _ => pe_call GS (Room.deeper hr.in1.in1 _) (by rfl) gS kS bS .nil pass0 (pa_cons (pv 0) pa_nil)))))), ?_⟩
  refine ⟨_, rfl, v, t, rfl, r, _, rfl, ite2 (fun e => ?_) (fun e => ?_)⟩
  · refine ⟨_, rfl, v, t, rfl, r, hz, fun l us G sG gl rt => ⟨l, rfl, ⟨_, SqT.of gl⟩, (tb.same sG) p hp, fun H2 htab => ?_⟩⟩
    have s2 : Sm T G H2 := Sm.tab hp (tb.same sG) htab
    have et : t.hd = t.args.all Kd.sm := by
      unfold Kd.hd
      rw [e, Bool.true_and]
    refine all_tup (xs := us) (fun i F => Sm T G F ∧ (t.args.take i).all Kd.sm = true) ⟨s2, rfl⟩ (fun i F _ z => SqT.of (z.1.at (tb.same sG) gl fun _ z => by cases z)) (fun i x F hx z => ?_) (fun F z => ?_)
    · obtain ⟨sF, al⟩ := z
      obtain ⟨u, hu, rx⟩ := rt.get hx
      have hsz := args_size (List.mem_of_getElem? hu)
      refine ⟨rfl, _, rfl, x, u, rfl, rx.tk (Tk.sm (tb.same sG) sF), by omega, sF.2, fun F2 s3 => ⟨_, rfl, ?_⟩⟩
      have sF2 := sF.trans s3
      refine ite2 (fun e => ⟨sF2, take_all hu al e⟩) (fun e => ?_)
      have z := q _ ((Sm.of sG tb).trans sF2)
      rw [et, not_all hu (by simpa using e)] at z
      exact z
    · obtain ⟨sF, al⟩ := z
      rw [← rt.len, List.take_length] at al
      have z := q _ ((Sm.of sG tb).trans sF)
      rw [et, al] at z
      exact z
  · have z := q _ (Sm.refl tb)
    have et : t.hd = false := by
      unfold Kd.hd
      rw [show t.isFn = false by simpa using e, Bool.false_and]
    rw [et] at z
    exact z
theorem scWalked : FnScope ["kind"] ["kind"] (defScope tWalked) := ⟨rfl, rfl, rfl, by decide +kernel, rfl, by decide +kernel, by decide +kernel⟩
def spWalked (T : List Addr) : Sp := fun vs H Q _ => ∃ (v : V) (t : Kd), vs = [v] ∧ Rp H t v ∧ t.size ≤ 100 ∧ TbS T H ∧ ∀ G : Hp, Sm T H G → Q (.bl t.wk) G
theorem okWalked {f c p fL fA fS : Addr} {fd fdL fdA fdS : FuncData} {k : Nat} {T : List Addr} (F : FunC K "is_walked" "is_walked" tWalked f fd c) (TB : TabB base mg c p) (hp : p ∈ T)
    (GL : FnOk P w K mg base CX0 (k + 7) fL fdL ["kind"] spLeads) (bL : Binds K fdL ["kind"] []) (gL : mg "leads" = some (.ref fL)) (kL : PySem.W.keepIn K (.ref fL) = true)
    (GA : FnOk P w K mg base CX0 (k + 7) fA fdA ["kind"] spArgs) (bA : Binds K fdA ["kind"] []) (gA : mg "arguments_of" = some (.ref fA)) (kA : PySem.W.keepIn K (.ref fA) = true)
    (GS : FnOk P w K mg base CX0 (k + 7) fS fdS ["kind"] (spHanded T)) (bS : Binds K fdS ["kind"] []) (gS : mg "is_handed" = some (.ref fS)) (kS : PySem.W.keepIn K (.ref fS) = true)
    (ma : mg "all" = none) : FnOk P w K mg base CX0 (k + 11) f fd ["kind"] (spWalked T) := by
  refine F.ok scWalked (fun vs H Q E h => ?_) (fun A outer s H vs Q E hr h => ?_)
  · obtain ⟨v, t, rfl, _⟩ := h
    rfl
  obtain ⟨v, t, rfl, r, hz, tb, q⟩ := h
  refine ⟨_, pss_one (ps_ret (pe_and (pe_call GL (hr.mono (by omega)) (by rfl) gL kL bL .nil pass0 (pa_cons (pv 0) pa_nil)) (pe_one (pe_allG (c := c) (P := p) (own := ["argument"]) (caps := []) (vs := [0]) (g := gName 0) hr (by rfl) ma TB rfl
    (gxS_by (N := ["kind"]) (sc := defScope tWalked) (by decide +kernel)) (pi_tup (pe_call GA (hr.mono (by omega)) (by rfl) gA kA bA .nil pass0 (pa_cons (pv 0) pa_nil)))
    (fun _ _ _ _ _ => pg_name (i := 0) (show (["argument"] : List Str).Nodup by decide +kernel) rfl (.inl rfl))
    (fun _ _ _ _ _ => pe_or (pe_not (pe_call GL (Room.deeper hr.in1.in1 _) (by rfl) gL kL bL .nil pass0 (pa_cons (pv 0) pa_nil))) (pe_one (pe_call GS (Room.deeper hr.in1.in1 _) (by rfl) gS kS bS .nil pass0 (pa_cons (pv 0) pa_nil)))))))), ?_⟩
  refine ⟨_, rfl, v, t, rfl, r, _, rfl, ite2 (fun e => ?_) (fun e => ?_)⟩
  · refine ⟨_, rfl, v, t, rfl, r, hz, fun l us G sG gl rt => ⟨l, rfl, ⟨_, SqT.of gl⟩, (tb.same sG) p hp, fun H2 htab => ?_⟩⟩
    have s2 : Sm T G H2 := Sm.tab hp (tb.same sG) htab
    have et : t.wk = t.args.all (fun a => !a.isFn || a.hd) := by
      unfold Kd.wk
      rw [e, Bool.true_and]
    refine all_tup (xs := us) (fun i F => Sm T G F ∧ (t.args.take i).all (fun a => !a.isFn || a.hd) = true) ⟨s2, rfl⟩ (fun i F _ z => SqT.of (z.1.at (tb.same sG) gl fun _ z => by cases z)) (fun i x F hx z => ?_) (fun F z => ?_)
    · obtain ⟨sF, al⟩ := z
      obtain ⟨u, hu, rx⟩ := rt.get hx
      have hsz := args_size (List.mem_of_getElem? hu)
      have rF := rx.tk (Tk.sm (tb.same sG) sF)
      refine ⟨rfl, _, rfl, x, u, rfl, rF, _, rfl, _, rfl, ite2 (fun e => ?_) (fun e => ?_)⟩
      · exact ⟨_, rfl, iteT ⟨sF, take_all hu al (by rw [e]; rfl)⟩⟩
      · have e1 : (!u.isFn) = false := by simpa using e
        refine ⟨_, rfl, x, u, rfl, rF, by omega, sF.2, fun F2 s3 => ⟨_, rfl, ?_⟩⟩
        have sF2 := sF.trans s3
        refine ite2 (fun e => ⟨sF2, take_all hu al (by rw [e, Bool.or_true])⟩) (fun e => ?_)
        have z := q _ ((Sm.of sG tb).trans sF2)
        rw [et, not_all hu (by rw [e1, show u.hd = false by simpa using e]; rfl)] at z
        exact z
    · obtain ⟨sF, al⟩ := z
      rw [← rt.len, List.take_length] at al
      have z := q _ ((Sm.of sG tb).trans sF)
      rw [et, al] at z
      exact z
  · have z := q _ (Sm.refl tb)
    have et : t.wk = false := by
      unfold Kd.wk
      rw [show t.isFn = false by simpa using e, Bool.false_and]
    rw [et] at z
    exact z
end
end Kq

namespace Kq
open PySem PySem.Spec PyProof.Rows L2 Kg GxR
abbrev tSml : Stmt := tp 14
abbrev tWords : Stmt := tp 16
abbrev tLSmall : Stmt := tp 17
structure Sml (g : Nat) (t : Kd) : Prop where
  sm : t.sm = true
  dta : Dta g t
section
variable {P : Program} {w : World} {K : PySem.W.Frag} {mg : Str → Option Value} {base : Heap}
/-! _law_small -/
theorem scSml : FnScope ["_law_deck_here", "_law_opens", "_law_deep", "_law_way", "_law_word"] psData (defScope tSml) := ⟨rfl, rfl, rfl, by decide +kernel, rfl, by decide +kernel, by decide +kernel⟩
def spSml (n : Nat) : Sp := fun vs H Q _ => ∃ (d c o : Addr) (xs : List Str) (g : Nat), vs = [.ref d, .ref o, .int (g : Int)] ∧ g + 1 ≤ n ∧ Dk H d c ∧ H o = some (.lst (xs.map V.str)) ∧ o ≠ d ∧ o ≠ c ∧ xs.length ≤ 26 ∧ (∀ x ∈ xs, Nm x) ∧
  ∀ (v : V) (t : Kd) (G : Hp), Kp d c H G → Dk G d c → Rp G t v → Sml g t → Q v G
theorem okSml1 {f fD : Addr} {fd fdD : FuncData} {n : Nat} (F : Fun K "_law_small" "_law_small" tSml f fd) (bF : Binds K fd psData []) (gF : mg "_law_small" = some (.ref f))
    (GD : FnOk P w K mg base CX0 (n + 2) fD fdD ["_law_deck_here", "_law_most"] spDraw) (bD : Binds K fdD ["_law_deck_here", "_law_most"] []) (gD : mg "_law_draw" = some (.ref fD)) (kD : PySem.W.keepIn K (.ref fD) = true) (ml : mg "len" = none)
    (GI : FnOk P w K mg base CX0 (n + 2) f fd psData (spSml n)) : FnOk P w K mg base CX0 (n + 3) f fd psData (spSml (n + 1)) := by
  refine F.ok scSml (fun vs H Q E h => ?_) (fun cdv A outer s H vs Q E hr h => ?_)
  · obtain ⟨d, c, o, xs, g, rfl, _⟩ := h
    rfl
  obtain ⟨d, c, o, xs, g, rfl, hg, dk, ho, od, oc, lx, hx, q⟩ := h
  refine ⟨_, pss_cons (ps_set (i := 3) scSml.nd rfl (.inl rfl) (pe_call GD hr (by rfl) gD kD bD .nil pass0 (pa_cons (pv 0) (pa_cons pe_int pa_nil))))
    (C8.pss_cut (ps_if (PW.pt (pw_and (pt_cmpR op_lt (pv 3) pe_int (nomark _)) (pw_and1 (pt_cmpR (op_neD hr.units) (pv 1) (pe_lst pa_nil) (nomark _)))))
      (pss_one (ps_ret (pe_tup (pa_cons pe_str (pa_cons (pe_ix ix_list (pv 1) (pe_call GD hr (by rfl) gD kD bD .nil pass0 (pa_cons (pv 0) (pa_cons (pe_callB call_len_seq (by rfl) ml PySem.boot_len (pa_cons (pv 1) pa_nil)) pa_nil))) (fun _ _ => rfl)) pa_nil))))) pss_nil)
    (pss_cons (ps_if (PW.pt (pw_or (pt_cmpR op_eq (pv 2) pe_int (nomark _)) (pw_or1 (pt_cmpR op_lt (pv 3) pe_int (nomark _)))))
      (pss_one (ps_ret (pe_tup (pa_cons pe_str pa_nil)))) pss_nil)
    (pss_cons (ps_set (i := 4) scSml.nd rfl (.inl rfl) (pe_ix ix_list (pe_lst (pa_cons pe_str (pa_cons pe_str pa_nil))) (pe_op op_mod (pv 3) pe_int) (fun _ _ => rfl)))
    (pss_one (ps_ret (pe_tup (pa_cons (pv 4) (pa_cons (pe_call GI hr (by rfl) gF F.kp bF .nil pass0 (pa_cons (pv 0) (pa_cons (pv 1) (pa_cons (pe_op op_sub (pv 2) pe_int) pa_nil)))) (pa_cons (pe_call GI hr (by rfl) gF F.kp bF .nil pass0 (pa_cons (pv 0) (pa_cons (pv 1) (pa_cons (pe_op op_sub (pv 2) pe_int) pa_nil)))) pa_nil))))))))), ?_⟩
  refine ⟨_, rfl, d, c, 8, rfl, dk, by decide, by decide, fun way G1 w0 w1 kp1 dk1 => ?_⟩
  have ho1 := kp1 o _ od oc ho
  refine ⟨fun σ G => σ = [some (.ref d), some (.ref o), some (.int g), some (.int way), none] ∧ Kp d c H G ∧ Dk G d c ∧ G o = some (.lst (xs.map V.str)), ?_, ?b2⟩
  refine ⟨_, rfl, _, _, rfl, rfl, _, rfl, ?_⟩
  refine ite2 (fun _ => ⟨_, rfl, Nat.zero_le _, fun e ne => ⟨.list (xs.map PyData.str), .list [], .lst (SqL.of (newS ne _ _ ho1)) (dpStrs K _ xs), .lst (SqL.of upd_same) .nil, shStrs hx, rfl, _, rfl, ite2 (fun c1 => ?b1) (fun _ => ⟨rfl, kp1.trans (Kp.of (newS ne)), dk1.same (newS ne), newS ne _ _ ho1⟩)⟩⟩) (fun _ => iteF ⟨rfl, kp1, dk1, ho1⟩)
  case b1 =>
    have ho2 := newS (o := .lst []) ne _ _ ho1
    have dk2 := dk1.same (newS (o := .lst []) ne)
    have kp2 : Kp d c H (upd G1 e (.lst [])) := kp1.trans (Kp.of (newS ne))
    rw [eqvNil] at c1
    have l0 : 0 < xs.length := by
      cases xs with
      | nil => cases c1
      | cons x r => exact Nat.succ_pos _
    refine ⟨_, rfl, _, rfl, _, rfl, o, _, rfl, .inl (SqL.of ho2), d, c, _, rfl, dk2, ?_, ?_, fun r G3 r0 r1 kp3 dk3 => ?_⟩
    · rw [List.length_map]
      omega
    · rw [List.length_map]
      omega
    rw [List.length_map] at r1
    have lr : r.toNat < xs.length := by omega
    have er : r = ((r.toNat : Nat) : Int) := by omega
    have gat : atI (xs.map V.str) r = some (.str xs[r.toNat]) := by
      have z := atI_nat (xs := xs.map V.str) (j := r.toNat) (v := .str xs[r.toNat]) (by rw [List.getElem?_map, List.getElem?_eq_getElem lr]; rfl)
      rw [← er] at z
      exact z
    refine ⟨o, _, _, _, rfl, rfl, SqL.of (kp3 o _ od oc ho2), gat, (by show 2 ≤ sizeLine; decide), fun p np => ?_⟩
    refine q (.ref p) (.opn xs[r.toNat]) _ ((kp2.trans kp3).trans (Kp.of (newS np))) (dk3.same (newS np)) ⟨p, rfl, upd_same⟩ ⟨rfl, rfl, Nat.zero_le _, sb_pos g, fun x hx' => ?_⟩
    rw [List.mem_singleton.mp hx']
    exact hx _ (List.getElem_mem lr)
  case b2 =>
    rintro σ G ⟨rfl, kp, dkG, hoG⟩
    refine ⟨_, rfl, rfl, _, rfl, (fun h3 => ite2 (fun _ => iteT h3) (fun hdeep => ⟨_, rfl, _, _, rfl, rfl, _, rfl, ite2 (fun _ => h3) (fun _ => ?deep)⟩)) ?leaf⟩
    case leaf =>
      exact ⟨(by show 1 ≤ sizeLine; decide), fun p np => q _ .tru _ (kp.trans (Kp.of (newS np))) (dkG.same (newS np)) ⟨p, rfl, upd_same⟩ ⟨rfl, rfl, Nat.zero_le _, sb_pos g, fun x z => (nomatch z)⟩⟩
    case deep =>
      obtain ⟨j, rfl⟩ : ∃ j, g = j + 1 := by
        cases g with
        | zero => exact absurd (decide_eq_true rfl) hdeep
        | succ j => exact ⟨j, rfl⟩
      have ej : ((j + 1 : Nat) : Int) - 1 = ((j : Nat) : Int) := by omega
      have eL : [V.ref d, V.ref o, V.int (((j + 1 : Nat) : Int) - 1)] = [V.ref d, V.ref o, V.int ((j : Nat) : Int)] := by rw [ej]
      obtain ⟨wd, mk, ew, m0, m1, m2, m3, m4, m5⟩ : ∃ (wd : Str) (mk : Kd → Kd → Kd), atI [V.str "pair", V.str "either"] (way % 2) = some (.str wd) ∧ (∀ a b F x y pp, F pp = some (.tup [.str wd, x, y]) → Rp F a x → Rp F b y → Rp F (mk a b) (.ref pp)) ∧
          (∀ a b, (mk a b).isFn = false) ∧ (∀ a b, (mk a b).dp = max a.dp b.dp + 1) ∧ (∀ a b, (mk a b).size = a.size + b.size + 1) ∧ (∀ a b, (mk a b).opens = a.opens ++ b.opens) ∧ ∀ a b, (mk a b).sm = (a.sm && b.sm) := by
        have er : way % 2 = 0 ∨ way % 2 = 1 := by omega
        rcases er with e | e
        · rw [e]
          exact ⟨"pair", .pair, rfl, fun a b F x y pp h1 h2 h3 => ⟨pp, x, y, rfl, h1, h2, h3⟩, fun _ _ => rfl, fun _ _ => rfl, fun a b => (Kd.size2 a b).1, fun _ _ => rfl, fun _ _ => rfl⟩
        · rw [e]
          exact ⟨"either", .eith, rfl, fun a b F x y pp h1 h2 h3 => ⟨pp, x, y, rfl, h1, h2, h3⟩, fun _ _ => rfl, fun _ _ => rfl, fun a b => (Kd.size2 a b).2.1, fun _ _ => rfl, fun _ _ => rfl⟩
      refine ⟨(by show 2 ≤ sizeLine; decide), fun l nl => ⟨_, rfl, _, _, rfl, rfl, (by show (0 : Int) < 2; decide), l, _, _, _, rfl, rfl, SqL.of upd_same, ew, ?_⟩⟩
      have sl := newS (o := .lst [V.str "pair", V.str "either"]) nl
      refine ⟨_, rfl, _, rfl, _, rfl, _, rfl, _, _, rfl, rfl, d, c, o, xs, j, eL, by omega, dkG.same sl, sl _ _ hoG, od, oc, lx, hx, fun va a G3 kp3 dk3 ra da => ?_⟩
      refine ⟨_, rfl, _, rfl, _, rfl, _, _, rfl, rfl, d, c, o, xs, j, eL, by omega, dk3, kp3 o _ od oc (sl _ _ hoG), od, oc, lx, hx, fun vb b G4 kp4 dk4 rb db => ?_⟩
      refine ⟨(by show 3 ≤ sizeLine; decide), fun p np => ?_⟩
      have s := newS (o := .tup [.str wd, va, vb]) np
      refine q _ (mk a b) _ ((((kp.trans (Kp.of sl)).trans kp3).trans kp4).trans (Kp.of s)) (dk4.same s) (m0 a b _ _ _ p upd_same ((ra.tk (Tk.kp kp4 dk3)).tk (Tk.of s)) (rb.tk (Tk.of s))) ⟨?_, m1 a b, ?_, ?_, fun x hx' => ?_⟩
      · rw [m5, da.sm, db.sm]
        rfl
      · have := da.dta.dp
        have := db.dta.dp
        rw [m2]
        omega
      · have := da.dta.sz
        have := db.dta.sz
        rw [m3]
        show _ ≤ 2 * sb j + 1
        omega
      · rw [m4] at hx'
        rcases List.mem_append.mp hx' with z | z
        · exact da.dta.nm x z
        · exact db.dta.nm x z
theorem okSml {f fD fM : Addr} {fd fdD fdM : FuncData} (F : Fun K "_law_small" "_law_small" tSml f fd) (bF : Binds K fd psData []) (gF : mg "_law_small" = some (.ref f))
    (FD : Fun K "_law_draw" "_law_draw" tDraw fD fdD) (bD : Binds K fdD ["_law_deck_here", "_law_most"] []) (gD : mg "_law_draw" = some (.ref fD)) (FM : Fun K "_law_mixed" "_law_mixed" tMixed fM fdM) (bM : Binds K fdM ["_law_cell", "_law_k"] []) (gM : mg "_law_mixed" = some (.ref fM)) (ml : mg "len" = none) :
    ∀ n, FnOk P w K mg base CX0 (n + 2) f fd psData (spSml n)
  | 0 => noFn fun vs H Q E h => by
    obtain ⟨d, c, o, xs, g, _, hg, _⟩ := h
    omega
  | n + 1 => okSml1 F bF gF (okDraw FD FM bM gM) bD gD FD.kp ml (okSml F bF gF FD bD gD FM bM gM ml n)
/-! _law_words -/
theorem scWords : FnScope ["_law_kind", "_law_found", "_law_part"] ["_law_kind"] (defScope tWords) := ⟨rfl, rfl, rfl, by decide +kernel, rfl, by decide +kernel, by decide +kernel⟩
def spWords (n : Nat) : Sp := fun vs H Q _ => ∃ (v : V) (t : Kd), vs = [v] ∧ t.dp + 1 ≤ n ∧ Rp H t v ∧ t.size ≤ 200 ∧ ∀ (l : Addr) (G : Hp), Same H G → G l = some (.lst (t.nodes.map fun u => V.str u.word)) → Q (.ref l) G
theorem okWords1 {f : Addr} {fd : FuncData} {n : Nat} (F : Fun K "_law_words" "_law_words" tWords f fd) (bF : Binds K fd ["_law_kind"] []) (gF : mg "_law_words" = some (.ref f)) (mi : mg "isinstance" = none) (mt : mg "tuple" = none) (GI : FnOk P w K mg base CX0 (n + 1) f fd ["_law_kind"] (spWords n)) :
    FnOk P w K mg base CX0 (n + 2) f fd ["_law_kind"] (spWords (n + 1)) := by
  refine F.ok scWords (fun vs H Q E h => ?_) (fun cdv A outer s H vs Q E hr h => ?_)
  · obtain ⟨v, t, rfl, _⟩ := h
    rfl
  obtain ⟨v, t, rfl, hn, r, hz, q⟩ := h
  obtain ⟨a, us, rfl, ha, hu⟩ := r.see
  refine ⟨_, pss_cons (ps_set (i := 1) scWords.nd rfl (.inl rfl) (pe_lst (pa_cons (pe_ix ix_tup (pv 0) pe_int (fun _ _ => rfl)) pa_nil)))
    (pss_cons (ps_for PassesOwn.never rfl (pi_tup (pe_slice sl_tup (pv 0) (po_some pe_int) po_none)) (pg_name (i := 2) scWords.nd rfl (.inl rfl))
      (pss_one (ps_if (pt_val (pe_callB (isiK K rfl) (by rfl) mi PyProof.Rows.boot_isinstance (pa_cons (pv 2) (pa_cons (pe_bltn (v := .ty "tuple") (by rfl) mt PyProof.Rows.boot_tuple rfl) pa_nil))))
        (pss_one (ps_set (i := 1) scWords.nd rfl (.inl rfl) (pe_op op_cat (pv 1) (pe_call GI hr (by rfl) gF F.kp bF .nil pass0 (pa_cons (pv 2) pa_nil))))) pss_nil)))
    (pss_one (ps_ret (pv 1)))), ?_⟩
  refine ⟨_, rfl, a, _, _, _, rfl, rfl, SqT.of ha, atI_nat (j := 0) rfl, (by show 1 ≤ sizeLine; decide), fun fa nfa => ?_⟩
  refine ⟨_, rfl, 1, rfl, a, _, rfl, SqT.of (newS nfa _ _ ha), notWhole _ _, fun p np => ?_⟩
  rw [cutFrom1]
  have s2 : Same H (upd (upd H fa (.lst [V.str t.word])) p (.tup us)) := (newS nfa).trans (newS np)
  refine ⟨p, rfl, ⟨_, SqT.of upd_same⟩, for_tup (xs := us) (fun i σ G => ∃ l y, σ = [some (.ref a), some (.ref l), y] ∧ Same H G ∧ G p = some (.tup us) ∧ G l = some (.lst ((t :: (t.kids.take i).flatMap Kd.nodes).map fun u => V.str u.word))) ?_ (fun i σ G _ z => ?_) (fun i x σ G hx z => ?_) (fun σ G z => ?_)⟩
  · exact ⟨fa, none, rfl, s2, upd_same, by rw [upd_ne (fun z => by rw [← z, upd_same] at np; cases np), upd_same]; rfl⟩
  · obtain ⟨l, y, _, _, gp, _⟩ := z
    exact SqT.of gp
  · obtain ⟨l, y, rfl, sG, gp, gl⟩ := z
    rcases hu with hu | ⟨yy, rfl, rfl⟩
    · obtain ⟨c, hc, rc⟩ := (hu.2.tk (Tk.of sG)).get hx
      obtain ⟨ca, ws, rfl, hca, _⟩ := rc.see
      have hcm := RpL.mem (H := H) (vs := us) hc
      have hd := Kd.kids_dp hcm
      have csz : c.size ≤ t.size := by
        rw [Kd.kids_size t]
        have : c.size ≤ (t.kids.map Kd.size).sum := le_sum (List.mem_map_of_mem hcm)
        omega
      have tk : t.kids.take (i + 1) = t.kids.take i ++ [c] := by rw [List.take_add_one, hc]; rfl
      refine ⟨_, rfl, _, _, _, _, true, rfl, .ty "tuple", .base (.tup hca), kit_ty (by decide +kernel), _, rfl, ?_⟩
      refine ⟨_, rfl, _, rfl, _, c, rfl, by omega, rc, by omega, fun l2 G2 s3 g2 => ?_⟩
      refine ⟨l, l2, _, _, rfl, rfl, s3 _ _ gl, g2, ?_, fun l3 n3 => ⟨l3, _, rfl, (sG.trans s3).trans (newS n3), newS n3 _ _ (s3 _ _ gp), ?_⟩⟩
      · have e0 := Kd.nodes_eq t
        have h2 : ((t.kids.take i).flatMap Kd.nodes).length + c.nodes.length + 1 ≤ t.nodes.length := by
          have e1 : t.kids.flatMap Kd.nodes = (t.kids.take (i + 1)).flatMap Kd.nodes ++ (t.kids.drop (i + 1)).flatMap Kd.nodes := by
            rw [← List.flatMap_append, List.take_append_drop]
          rw [e0, List.length_cons, e1, tk, List.flatMap_append, List.length_append, List.length_append]
          simp only [List.flatMap_cons, List.flatMap_nil, List.append_nil]
          omega
        have hz' : t.nodes.length ≤ 200 := hz
        rw [List.length_map, List.length_map, List.length_cons]
        exact sz (by omega)
      · rw [upd_same, tk, List.flatMap_append, ← List.map_append]
        simp only [List.flatMap_cons, List.flatMap_nil, List.append_nil, List.cons_append]
    · have hi0 : i = 0 := by
        have := (List.getElem?_eq_some_iff.mp hx).1
        simpa using this
      subst hi0
      have ex : x = .str yy := (Option.some.inj hx).symm
      subst ex
      refine ⟨_, rfl, _, _, _, _, false, rfl, .ty "tuple", .base (.str yy), kit_ty (by decide +kernel), _, rfl, ?_⟩
      exact ⟨l, _, rfl, sG, gp, gl⟩
  · obtain ⟨l, y, rfl, sG, gp, gl⟩ := z
    have tl : t.kids.take us.length = t.kids := by
      rcases hu with hu | ⟨y, rfl, rfl⟩
      · rw [← hu.2.len, List.take_length]
      · rfl
    rw [tl, ← Kd.nodes_eq] at gl
    exact ⟨_, rfl, q l G sG gl⟩
theorem okWords {f : Addr} {fd : FuncData} (F : Fun K "_law_words" "_law_words" tWords f fd) (bF : Binds K fd ["_law_kind"] []) (gF : mg "_law_words" = some (.ref f)) (mi : mg "isinstance" = none) (mt : mg "tuple" = none) : ∀ n, FnOk P w K mg base CX0 (n + 1) f fd ["_law_kind"] (spWords n)
  | 0 => noFn fun vs H Q E h => by
    obtain ⟨v, t, _, hn, _⟩ := h
    omega
  | n + 1 => okWords1 F bF gF mi mt (okWords F bF gF mi mt n)
end
end Kq

namespace Kq
open PySem PySem.Spec PyProof.Rows L2 Kg GxR
/-! trees as data -/
def toD : Kd → PyData
  | .opn x => .tuple [.str "open", .str x]
  | .num => .tuple [.str "num"]
  | .tru => .tuple [.str "truth"]
  | .pair a b => .tuple [.str "pair", toD a, toD b]
  | .eith a b => .tuple [.str "either", toD a, toD b]
  | .lst a => .tuple [.str "list", toD a]
  | .fn a b => .tuple [.str "fun", toD a, toD b]
theorem dpT (K : PySem.W.Frag) {H : Hp} : ∀ {t : Kd} {v : V}, Rp H t v → Dp K H v (toD t) := by
  intro t
  induction t with
  | opn x =>
    rintro v ⟨a, rfl, h⟩
    exact .tup (SqT.of h) (.cons (.str _) (.cons (.str _) .nil))
  | num =>
    rintro v ⟨a, rfl, h⟩
    exact .tup (SqT.of h) (.cons (.str _) .nil)
  | tru =>
    rintro v ⟨a, rfl, h⟩
    exact .tup (SqT.of h) (.cons (.str _) .nil)
  | pair s t i j =>
    rintro v ⟨a, x, y, rfl, h, p, q⟩
    exact .tup (SqT.of h) (.cons (.str _) (.cons (i p) (.cons (j q) .nil)))
  | eith s t i j =>
    rintro v ⟨a, x, y, rfl, h, p, q⟩
    exact .tup (SqT.of h) (.cons (.str _) (.cons (i p) (.cons (j q) .nil)))
  | lst s i =>
    rintro v ⟨a, x, rfl, h, p⟩
    exact .tup (SqT.of h) (.cons (.str _) (.cons (i p) .nil))
  | fn s t i j =>
    rintro v ⟨a, x, y, rfl, h, p, q⟩
    exact .tup (SqT.of h) (.cons (.str _) (.cons (i p) (.cons (j q) .nil)))
theorem dpTs (K : PySem.W.Frag) {H : Hp} : ∀ {ts : List Kd} {vs : List V}, RpL H ts vs → DpAll K H vs (ts.map toD)
  | [], [], _ => .nil
  | _ :: _, _ :: _, h => .cons (dpT K h.1) (dpTs K h.2)
  | [], _ :: _, h => h.elim
  | _ :: _, [], h => h.elim
theorem layT : ∀ t : Kd, (∀ x ∈ t.opens, Nm x) → (toD t).canLay0 = true ∧ (toD t).depth ≤ t.dp + 1 := by
  have w1 : PyData.strOk "open" = true := by decide +kernel
  have w2 : PyData.strOk "num" = true := by decide +kernel
  have w3 : PyData.strOk "truth" = true := by decide +kernel
  have w4 : PyData.strOk "pair" = true := by decide +kernel
  have w5 : PyData.strOk "either" = true := by decide +kernel
  have w6 : PyData.strOk "list" = true := by decide +kernel
  have w7 : PyData.strOk "fun" = true := by decide +kernel
  intro t
  induction t with
  | opn x =>
    intro h
    have := (h x List.mem_cons_self).ok
    simp [toD, PyData.canLay0, PyData.canLayAll0, PyData.depth, PyData.depthAll, Kd.dp, w1, this]
  | num =>
    intro h
    simp [toD, PyData.canLay0, PyData.canLayAll0, PyData.depth, PyData.depthAll, Kd.dp, w2]
  | tru =>
    intro h
    simp [toD, PyData.canLay0, PyData.canLayAll0, PyData.depth, PyData.depthAll, Kd.dp, w3]
  | pair s t i j =>
    intro h
    obtain ⟨a1, a2⟩ := i fun x hx => h x (List.mem_append_left _ hx)
    obtain ⟨b1, b2⟩ := j fun x hx => h x (List.mem_append_right _ hx)
    simp only [toD, PyData.canLay0, PyData.canLayAll0, PyData.depth, PyData.depthAll, Kd.dp, w4, a1, b1, Bool.and_self, true_and]
    omega
  | eith s t i j =>
    intro h
    obtain ⟨a1, a2⟩ := i fun x hx => h x (List.mem_append_left _ hx)
    obtain ⟨b1, b2⟩ := j fun x hx => h x (List.mem_append_right _ hx)
    simp only [toD, PyData.canLay0, PyData.canLayAll0, PyData.depth, PyData.depthAll, Kd.dp, w5, a1, b1, Bool.and_self, true_and]
    omega
  | lst s i =>
    intro h
    obtain ⟨a1, a2⟩ := i h
    simp only [toD, PyData.canLay0, PyData.canLayAll0, PyData.depth, PyData.depthAll, Kd.dp, w6, a1, Bool.and_self, true_and]
    omega
  | fn s t i j =>
    intro h
    obtain ⟨a1, a2⟩ := i fun x hx => h x (List.mem_append_left _ hx)
    obtain ⟨b1, b2⟩ := j fun x hx => h x (List.mem_append_right _ hx)
    simp only [toD, PyData.canLay0, PyData.canLayAll0, PyData.depth, PyData.depthAll, Kd.dp, w7, a1, b1, Bool.and_self, true_and]
    omega
theorem shT {t : Kd} (h : ∀ x ∈ t.opens, Nm x) (hd : t.dp ≤ 40) : SeqAt.shaped (toD t) = true ∧ (toD t).canLay0 = true := by
  obtain ⟨a, b⟩ := layT t h
  refine ⟨?_, a⟩
  unfold SeqAt.shaped
  rw [a, Bool.true_and]
  exact decide_eq_true (by omega)
theorem shTs {ts : List Kd} (h : ∀ t ∈ ts, (∀ x ∈ t.opens, Nm x) ∧ t.dp ≤ 40) : SeqAt.shaped (.list (ts.map toD)) = true ∧ (PyData.list (ts.map toD)).canLay0 = true := by
  have all : PyData.canLayAll0 (ts.map toD) = true ∧ PyData.depthAll (ts.map toD) ≤ 41 := by
    induction ts with
    | nil => exact ⟨by simp [PyData.canLayAll0], by simp [PyData.depthAll]⟩
    | cons t ts ih =>
      obtain ⟨a, b⟩ := ih fun u hu => h u (List.mem_cons_of_mem _ hu)
      obtain ⟨h1, h2⟩ := h t List.mem_cons_self
      obtain ⟨c, e⟩ := layT t h1
      refine ⟨by simp [PyData.canLayAll0, a, c], ?_⟩
      simp only [List.map_cons, PyData.depthAll]
      omega
  have lay : (PyData.list (ts.map toD)).canLay0 = true := by simp only [PyData.canLay0]; exact all.1
  refine ⟨?_, lay⟩
  unfold SeqAt.shaped
  rw [lay, Bool.true_and]
  refine decide_eq_true ?_
  simp only [PyData.depth]
  omega
theorem neF {d : PyData} (lay : d.canLay0 = true) {A B : Prop} (h : B) : if (!PyData.eqv d d) = true then A else B := by
  rw [SeqAt.eqv_refl d lay]
  exact iteF h

theorem laySt : ∀ xs : List Str, (∀ x ∈ xs, PyData.strOk x = true) → PyData.canLayAll0 (xs.map PyData.str) = true ∧ PyData.depthAll (xs.map PyData.str) = 0
  | [], _ => ⟨by simp [PyData.canLayAll0], by simp [PyData.depthAll]⟩
  | x :: xs, h => by
    obtain ⟨a, b⟩ := laySt xs fun y hy => h y (List.mem_cons_of_mem _ hy)
    have c := h x List.mem_cons_self
    exact ⟨by simp [PyData.canLayAll0, PyData.canLay0, a, c], by simp [PyData.depthAll, PyData.depth, b]⟩
theorem shSt {xs : List Str} (h : ∀ x ∈ xs, PyData.strOk x = true) : SeqAt.shaped (.list (xs.map PyData.str)) = true := by
  obtain ⟨a, b⟩ := laySt xs h
  simp [SeqAt.shaped, PyData.canLay0, PyData.depth, a, b]
theorem word_ok (t : Kd) : PyData.strOk t.word = true := by
  have w1 : PyData.strOk "open" = true := by decide +kernel
  have w2 : PyData.strOk "num" = true := by decide +kernel
  have w3 : PyData.strOk "truth" = true := by decide +kernel
  have w4 : PyData.strOk "pair" = true := by decide +kernel
  have w5 : PyData.strOk "either" = true := by decide +kernel
  have w6 : PyData.strOk "list" = true := by decide +kernel
  have w7 : PyData.strOk "fun" = true := by decide +kernel
  cases t
  · exact w1
  · exact w2
  · exact w3
  · exact w4
  · exact w5
  · exact w6
  · exact w7
theorem eqvNilT (xs : List PyData) : PyData.eqv (.list xs) (.list []) = xs.isEmpty := by
  cases xs <;> simp [PyData.eqv, PyData.eqvAll]
theorem filt_all {α : Type} (l : List α) (f : α → Bool) : (l.filter f).isEmpty = l.all fun x => !f x := by
  induction l with
  | nil => rfl
  | cons a l ih =>
    rw [List.filter_cons, List.all_cons]
    cases h : f a with
    | true => rfl
    | false =>
      rw [if_neg (by simp)]
      simpa using ih
theorem take_filt {α : Type} {l : List α} {i : Nat} {x : α} {f : α → Bool} (h : l[i]? = some x) : (l.take (i + 1)).filter f = (l.take i).filter f ++ (if f x = true then [x] else []) := by
  rw [List.take_add_one, h, List.filter_append]
  congr 1
  show [x].filter f = _
  rw [List.filter_cons]
  rfl
theorem bad_in (t : Kd) : inV (V.str t.word) [V.str "num", V.str "list", V.str "fun"] = t.bad := by
  cases t <;> rfl
theorem isFn_ne (t : Kd) : (!decide (V.str t.word = V.str "fun")) = !t.isFn := by
  rw [Kd.isFn_word]
abbrev tLArgs : Stmt := tp 18
abbrev tLHanded : Stmt := tp 19
abbrev tLWalked : Stmt := tp 20
section
variable {P : Program} {w : World} {K : PySem.W.Frag} {mg : Str → Option Value} {base : Heap}
/-! _law_is_small -/
theorem scLSmall : FnScope ["_law_kind", "_law_word"] ["_law_kind"] (defScope tLSmall) := ⟨rfl, rfl, rfl, by decide +kernel, rfl, by decide +kernel, by decide +kernel⟩
def spLSmall (n : Nat) : Sp := fun vs H Q _ => ∃ (v : V) (t : Kd), vs = [v] ∧ Rp H t v ∧ t.dp + 1 ≤ n ∧ t.size ≤ 200 ∧ ∀ G : Hp, Same H G → Q (.bl t.sm) G
theorem okLSmall {f fW : Addr} {fd fdW : FuncData} {n : Nat} (F : Fun K "_law_is_small" "_law_is_small" tLSmall f fd) (GW : FnOk P w K mg base CX0 (n + 1) fW fdW ["_law_kind"] (spWords n)) (bW : Binds K fdW ["_law_kind"] []) (gW : mg "_law_words" = some (.ref fW)) (kW : PySem.W.keepIn K (.ref fW) = true) :
    FnOk P w K mg base CX0 (n + 2) f fd ["_law_kind"] (spLSmall n) := by
  refine F.ok scLSmall (fun vs H Q E h => ?_) (fun cdv A outer s H vs Q E hr h => ?_)
  · obtain ⟨v, t, rfl, _⟩ := h
    rfl
  obtain ⟨v, t, rfl, r, hn, hz, q⟩ := h
  refine ⟨_, pss_one (ps_ret (pe_cmpR (op_eqD hr.units) (pe_lc (own := [("_law_word", 1)]) (g := gName 1) (by rfl) scLSmall.nd (pi_list (pe_call GW hr (by rfl) gW kW bW .nil pass0 (pa_cons (pv 0) pa_nil))) (blkOk_by (own := [("_law_word", 1)]) (N := ["_law_kind", "_law_word"]) (sc := defScope tLSmall) (by decide +kernel))
      (fun _ _ _ _ _ => pg_name (i := 1) scLSmall.nd rfl (.inl rfl)) (fun _ _ _ _ _ => pts_one (pt_cmpR (isInK K rfl) (pv 1) (pe_tup (pa_cons pe_str (pa_cons pe_str (pa_cons pe_str pa_nil)))) rfl)) (fun _ _ _ _ _ => pv 1)) (pe_lst pa_nil) (nomark _))), ?_⟩
  refine ⟨_, rfl, v, t, rfl, hn, r, hz, fun l G sG gl => ⟨l, rfl, ⟨_, SqL.of gl⟩, fun D nD => ?_⟩⟩
  have lD : l ≠ D := ne_of_none gl nD
  have hD : H D = none := sG.free nD
  have hz' : t.nodes.length ≤ 200 := hz
  refine lc_list (xs := t.nodes.map fun u => V.str u.word) (fun i F => Same H F ∧ F l = some (.lst (t.nodes.map fun u => V.str u.word)) ∧ F D = some (.lst ((((t.nodes.take i).filter Kd.bad).map Kd.word).map V.str))) ?_ (fun i F _ z => SqL.of z.2.1) (fun i x F hx z => ?_) (fun F z => ?_)
  · exact ⟨smk sG hD, by rw [upd_ne lD]; exact gl, upd_same⟩
  · obtain ⟨sF, gF, gD⟩ := z
    rw [List.getElem?_map] at hx
    cases hu : t.nodes[i]? with
    | none => rw [hu] at hx; cases hx
    | some u =>
      rw [hu] at hx
      have ex : V.str u.word = x := Option.some.inj hx
      subst ex
      have tk := take_filt (f := Kd.bad) hu
      refine ⟨rfl, _, rfl, (by show 3 ≤ sizeLine; decide), fun e ne => ⟨e, _, rfl, .inr (SqT.of upd_same), rfl, rfl, _, rfl, ?_⟩⟩
      have s1 := newS (o := .tup [V.str "num", V.str "list", V.str "fun"]) ne
      show if inV (V.str u.word) [V.str "num", V.str "list", V.str "fun"] = true then _ else _
      rw [bad_in]
      refine ite2 (fun eb => ?_) (fun eb => ?_)
      · rw [if_pos eb] at tk
        refine ⟨_, rfl, _, s1 _ _ gD, ?_, smk (sF.trans s1) hD, by rw [upd_ne lD]; exact s1 _ _ gF, ?_⟩
        · rw [List.length_map, List.length_map]
          have h1 := List.length_filter_le Kd.bad (t.nodes.take i)
          rw [List.length_take] at h1
          exact small1000 (by omega)
        · rw [upd_same, tk, List.map_append, List.map_append]
          rfl
      · rw [if_neg eb, List.append_nil] at tk
        exact ⟨sF.trans s1, s1 _ _ gF, by rw [tk]; exact s1 _ _ gD⟩
  · obtain ⟨sF, gF, gD⟩ := z
    rw [List.length_map, List.take_length] at gD
    refine ⟨Nat.zero_le _, fun e ne => ⟨.list (((t.nodes.filter Kd.bad).map Kd.word).map PyData.str), .list [], .lst (SqL.of (newS ne _ _ gD)) (dpStrs K _ _), .lst (SqL.of upd_same) .nil, shSt (fun x hx => ?_), rfl, ?_⟩⟩
    · obtain ⟨u, _, rfl⟩ := List.mem_map.mp hx
      exact word_ok u
    · have z := q _ (sF.trans (newS (o := .lst []) ne))
      rw [eqvNilT, List.isEmpty_map, List.isEmpty_map, filt_all, Kd.sm_nodes]
      exact z
/-! _law_arguments -/
theorem scLArgs : FnScope ["_law_kind", "_law_found"] ["_law_kind"] (defScope tLArgs) := ⟨rfl, rfl, rfl, by decide +kernel, rfl, by decide +kernel, by decide +kernel⟩
def spLArgs : Sp := fun vs H Q _ => ∃ (v : V) (t : Kd), vs = [v] ∧ Rp H t v ∧ t.size ≤ 200 ∧ ∀ (p : Addr) (us : List V) (G : Hp), Same H G → G p = some (.lst us) → RpL G t.args us → Q (.ref p) G
theorem okLArgs {f : Addr} {fd : FuncData} {k : Nat} (F : Fun K "_law_arguments" "_law_arguments" tLArgs f fd) : FnOk P w K mg base CX0 (k + 1) f fd ["_law_kind"] spLArgs := by
  refine F.ok scLArgs (fun vs H Q E h => ?_) (fun cdv A outer s H vs Q E hr h => ?_)
  · obtain ⟨v, t, rfl, _⟩ := h
    rfl
  obtain ⟨v, t, rfl, r, hz, q⟩ := h
  refine ⟨_, pss_cons (ps_set (i := 1) scLArgs.nd rfl (.inl rfl) (pe_lst pa_nil))
    (pss_cons (ps_while PassesOwn.never (pt_cmpR op_eq (pe_ix ix_tup (pv 0) pe_int (fun _ _ => rfl)) pe_str (nomark _))
      (pss_cons (ps_expr (pe_bm PySem.F.plainAttrs_list PySem.F.slot_list_append PySem.F.type_list_append mt_append (pv 1) (pa_cons (pe_ix ix_tup (pv 0) pe_int (fun _ _ => rfl)) pa_nil)))
      (pss_one (ps_set (i := 0) scLArgs.nd rfl (.inl rfl) (pe_ix ix_tup (pv 0) pe_int (fun _ _ => rfl))))))
    (pss_one (ps_ret (pv 1)))), ?_⟩
  refine ⟨Nat.zero_le _, fun pa npa => ?_⟩
  refine ⟨fun m σ G => ∃ ts c us cv, m = c.size ∧ σ = [some cv, some (.ref pa)] ∧ Same H G ∧ G pa = some (.lst us) ∧ RpL G ts us ∧ Rp G c cv ∧ ts ++ c.args = t.args,
    ⟨_, [], t, [], v, rfl, rfl, newS npa, upd_same, trivial, r.tk (Tk.of (newS npa)), rfl⟩, fun m σ G z => ?_⟩
  obtain ⟨ts, c, us, cv, rfl, rfl, sG, gp, rt, rc, ea⟩ := z
  obtain ⟨a0, us0, rfl, ha0, _⟩ := rc.see
  refine ⟨_, rfl, a0, _, _, _, rfl, rfl, SqT.of ha0, atI_nat (j := 0) rfl, rfl, _, rfl, ?_⟩
  rw [Kd.isFn_word]
  refine ite2 (fun e => ?_) (fun e => ?_)
  · cases c with
    | fn a b =>
      obtain ⟨ca, x, y, eca, hc, ra, rb⟩ := rc
      cases eca
      refine ⟨fun σ' G' => ∃ m', m' < (Kd.fn a b).size ∧ ∃ ts c us cv, m' = c.size ∧ σ' = [some cv, some (.ref pa)] ∧ Same H G' ∧ G' pa = some (.lst us) ∧ RpL G' ts us ∧ Rp G' c cv ∧ ts ++ c.args = t.args, fun σ' G' z => z, ?_⟩
      have le : ts.length ≤ t.args.length := by
        rw [← ea, List.length_append]
        exact Nat.le_add_right _ _
      have l1 := rt.len
      have l2 := Kd.args_le t
      refine ⟨_, rfl, .inl ⟨rfl, _, SqL.of gp⟩, _, rfl, a0, _, _, x, rfl, rfl, SqT.of hc, atI_nat (j := 1) rfl, pa, _, _, rfl, rfl, gp, small1000 (by omega), ?_⟩
      have t1 : Tk G (upd G pa (.lst (us ++ [x]))) := Tk.rfl.put (fun _ z => by rw [gp] at z; cases z)
      refine ⟨_, rfl, a0, _, _, y, rfl, rfl, SqT.of (t1 _ _ hc), atI_nat (j := 2) rfl, ?_⟩
      refine ⟨_, ?_, ts ++ [a], b, us ++ [x], y, rfl, rfl, smk sG npa, upd_same, RpL.app (us := [a]) (ws := [x]) (rt.tk t1) ⟨ra.tk t1, trivial⟩, rb.tk t1, ?_⟩
      · rw [Kd.size_fn]
        omega
      · rw [← ea, List.append_assoc]
        rfl
    | _ => cases e
  · have e0 : c.args = [] := by
      cases c with
      | fn a b => exact absurd rfl e
      | _ => rfl
    rw [e0, List.append_nil] at ea
    exact ⟨_, rfl, q pa us G sG gp (by rw [← ea]; exact rt)⟩
end
end Kq

namespace Kq
open PySem PySem.Spec PyProof.Rows L2 Kg GxR
theorem args_dp : ∀ {t u : Kd}, u ∈ t.args → u.dp + 1 ≤ t.dp
  | .fn a b, u, h => by
    have h : u ∈ a :: b.args := h
    show _ ≤ max a.dp b.dp + 1
    rcases List.mem_cons.mp h with z | z
    · rw [z]
      omega
    · have := args_dp z
      omega
  | .opn _, _, h => by cases h
  | .num, _, h => by cases h
  | .tru, _, h => by cases h
  | .pair _ _, _, h => by cases h
  | .eith _ _, _, h => by cases h
  | .lst _, _, h => by cases h
theorem args_op : ∀ {t u : Kd}, u ∈ t.args → ∀ x ∈ u.opens, x ∈ t.opens
  | .fn a b, u, h => fun x hx => by
    have h : u ∈ a :: b.args := h
    show x ∈ a.opens ++ b.opens
    rcases List.mem_cons.mp h with z | z
    · rw [z] at hx
      exact List.mem_append_left _ hx
    · exact List.mem_append_right _ (args_op z x hx)
  | .opn _, _, h => by cases h
  | .num, _, h => by cases h
  | .tru, _, h => by cases h
  | .pair _ _, _, h => by cases h
  | .eith _ _, _, h => by cases h
  | .lst _, _, h => by cases h
/-- a kind of a law's making -/
structure Gd (t : Kd) : Prop where
  dp : t.dp ≤ 14
  sz : t.size ≤ 100
  nm : ∀ x ∈ t.opens, Nm x
theorem Gd.arg {t u : Kd} (g : Gd t) (h : u ∈ t.args) : Gd u := ⟨by have := args_dp h; have := g.dp; omega, by have := args_size h; have := g.sz; omega, fun x hx => g.nm x (args_op h x hx)⟩
theorem Gd.sh {ts : List Kd} (h : ∀ t ∈ ts, Gd t) : SeqAt.shaped (.list (ts.map toD)) = true := (shTs fun t ht => ⟨(h t ht).nm, by have := (h t ht).dp; omega⟩).1
section
variable {P : Program} {w : World} {K : PySem.W.Frag} {mg : Str → Option Value} {base : Heap}
/-! _law_is_handed -/
theorem scLHanded : FnScope ["_law_kind", "_law_one"] ["_law_kind"] (defScope tLHanded) := ⟨rfl, rfl, rfl, by decide +kernel, rfl, by decide +kernel, by decide +kernel⟩
def spLHanded : Sp := fun vs H Q _ => ∃ (v : V) (t : Kd), vs = [v] ∧ Rp H t v ∧ Gd t ∧ ∀ G : Hp, Same H G → Q (.bl t.hd) G
theorem okLHanded {f fA fS : Addr} {fd fdA fdS : FuncData} {k : Nat} (F : Fun K "_law_is_handed" "_law_is_handed" tLHanded f fd) (GA : FnOk P w K mg base CX0 (k + 17) fA fdA ["_law_kind"] spLArgs) (bA : Binds K fdA ["_law_kind"] []) (gA : mg "_law_arguments" = some (.ref fA)) (kA : PySem.W.keepIn K (.ref fA) = true)
    (GS : FnOk P w K mg base CX0 17 fS fdS ["_law_kind"] (spLSmall 15)) (bS : Binds K fdS ["_law_kind"] []) (gS : mg "_law_is_small" = some (.ref fS)) (kS : PySem.W.keepIn K (.ref fS) = true) :
    FnOk P w K mg base CX0 (k + 18) f fd ["_law_kind"] spLHanded := by
  refine F.ok scLHanded (fun vs H Q E h => ?_) (fun cdv A outer s H vs Q E hr h => ?_)
  · obtain ⟨v, t, rfl, _⟩ := h
    rfl
  obtain ⟨v, t, rfl, r, gd, q⟩ := h
  obtain ⟨a, us0, rfl, ha, _⟩ := r.see
  refine ⟨_, pss_cons (ps_if (pt_cmpR op_ne (pe_ix ix_tup (pv 0) pe_int (fun _ _ => rfl)) pe_str (nomark _)) (pss_one (ps_ret pe_bl)) pss_nil)
    (pss_one (ps_ret (pe_cmpR (op_eqD hr.units) (pe_lc (own := [("_law_one", 1)]) (g := gName 1) (by rfl) scLHanded.nd (pi_list (pe_call GA hr (by rfl) gA kA bA .nil pass0 (pa_cons (pv 0) pa_nil))) (blkOk_by (own := [("_law_one", 1)]) (N := ["_law_kind", "_law_one"]) (sc := defScope tLHanded) (by decide +kernel))
      (fun _ _ _ _ _ => pg_name (i := 1) scLHanded.nd rfl (.inl rfl)) (fun _ _ _ _ _ => pts_one (pt_not (pt_val (pe_call GS (hr.mono (by omega)) (by rfl) gS kS bS .nil pass0 (pa_cons (pv 1) pa_nil))))) (fun _ _ _ _ _ => pv 1)) (pe_lst pa_nil) (nomark _)))), ?_⟩
  refine ⟨_, rfl, a, _, _, _, rfl, rfl, SqT.of ha, atI_nat (j := 0) rfl, rfl, _, rfl, ?_⟩
  rw [isFn_ne]
  refine ite2 (fun e => ?_) (fun e => ?_)
  · have et : t.hd = false := by
      unfold Kd.hd
      rw [show t.isFn = false by simpa using e, Bool.false_and]
    have z := q _ (Same.refl H)
    rw [et] at z
    exact z
  have et : t.hd = t.args.all Kd.sm := by
    unfold Kd.hd
    rw [show t.isFn = true by simpa using e, Bool.true_and]
  refine ⟨_, rfl, _, t, rfl, r, by have := gd.sz; omega, fun l us G sG gl rt => ⟨l, rfl, ⟨_, SqL.of gl⟩, fun D nD => ?_⟩⟩
  have lD : l ≠ D := ne_of_none gl nD
  have hD : H D = none := sG.free nD
  have lr := rt.len
  refine lc_list (xs := us) (fun i F => Same H F ∧ F l = some (.lst us) ∧ RpL F t.args us ∧ ∃ ws, F D = some (.lst ws) ∧ RpL F ((t.args.take i).filter fun u => !u.sm) ws) ?_ (fun i F _ z => SqL.of z.2.1) (fun i x F hx z => ?_) (fun F z => ?_)
  · exact ⟨smk sG hD, by rw [upd_ne lD]; exact gl, rt.tk (Tk.of (newS nD)), [], upd_same, trivial⟩
  · obtain ⟨sF, gF, rF, ws, gD, rD⟩ := z
    obtain ⟨u, hu, rx⟩ := rF.get hx
    have gu := gd.arg (List.mem_of_getElem? hu)
    have tk := take_filt (f := fun u => !u.sm) hu
    refine ⟨rfl, _, rfl, x, u, rfl, rx, by have := gu.dp; omega, by have := gu.sz; omega, fun F2 s1 => ⟨_, rfl, ?_⟩⟩
    refine ite2 (fun eb => ?_) (fun eb => ?_)
    · rw [if_pos eb] at tk
      have t1 : Tk F (upd F2 D (.lst (ws ++ [x]))) := (Tk.of s1).put (fun _ z => by rw [gD] at z; cases z)
      refine ⟨_, rfl, _, s1 _ _ gD, ?_, smk (sF.trans s1) hD, by rw [upd_ne lD]; exact s1 _ _ gF, rF.tk t1, ws ++ [x], upd_same, ?_⟩
      · rw [← rD.len]
        have h1 := List.length_filter_le (fun u : Kd => !u.sm) (t.args.take i)
        rw [List.length_take] at h1
        have h2 := Kd.args_le t
        have h3 := gd.sz
        exact small1000 (by omega)
      · rw [tk]
        exact RpL.app (us := [u]) (ws := [x]) (rD.tk t1) ⟨rx.tk t1, trivial⟩
    · rw [if_neg eb, List.append_nil] at tk
      exact ⟨sF.trans s1, s1 _ _ gF, rF.tk (Tk.of s1), ws, s1 _ _ gD, by rw [tk]; exact rD.tk (Tk.of s1)⟩
  · obtain ⟨sF, gF, rF, ws, gD, rD⟩ := z
    rw [← lr, List.take_length] at rD
    refine ⟨Nat.zero_le _, fun e ne => ⟨.list ((t.args.filter fun u => !u.sm).map toD), .list [], .lst (SqL.of (newS ne _ _ gD)) (dpTs K (rD.tk (Tk.of (newS ne)))), .lst (SqL.of upd_same) .nil, Gd.sh (fun u hu => gd.arg ((List.mem_filter.mp hu).1)), rfl, ?_⟩⟩
    have z := q _ (sF.trans (newS (o := .lst []) ne))
    rw [eqvNilT, List.isEmpty_map, filt_all]
    simp only [Bool.not_not]
    rw [et] at z
    exact z
/-! _law_is_walked -/
theorem scLWalked : FnScope ["_law_kind", "_law_one"] ["_law_kind"] (defScope tLWalked) := ⟨rfl, rfl, rfl, by decide +kernel, rfl, by decide +kernel, by decide +kernel⟩
def spLWalked : Sp := fun vs H Q _ => ∃ (v : V) (t : Kd), vs = [v] ∧ Rp H t v ∧ Gd t ∧ ∀ G : Hp, Same H G → Q (.bl t.wk) G
theorem okLWalked {f fA fS : Addr} {fd fdA fdS : FuncData} {k : Nat} (F : Fun K "_law_is_walked" "_law_is_walked" tLWalked f fd) (GA : FnOk P w K mg base CX0 (k + 18) fA fdA ["_law_kind"] spLArgs) (bA : Binds K fdA ["_law_kind"] []) (gA : mg "_law_arguments" = some (.ref fA)) (kA : PySem.W.keepIn K (.ref fA) = true)
    (GS : FnOk P w K mg base CX0 (k + 18) fS fdS ["_law_kind"] spLHanded) (bS : Binds K fdS ["_law_kind"] []) (gS : mg "_law_is_handed" = some (.ref fS)) (kS : PySem.W.keepIn K (.ref fS) = true) :
    FnOk P w K mg base CX0 (k + 19) f fd ["_law_kind"] spLWalked := by
  refine F.ok scLWalked (fun vs H Q E h => ?_) (fun cdv A outer s H vs Q E hr h => ?_)
  · obtain ⟨v, t, rfl, _⟩ := h
    rfl
  obtain ⟨v, t, rfl, r, gd, q⟩ := h
  obtain ⟨a, us0, rfl, ha, _⟩ := r.see
  refine ⟨_, pss_cons (ps_if (pt_cmpR op_ne (pe_ix ix_tup (pv 0) pe_int (fun _ _ => rfl)) pe_str (nomark _)) (pss_one (ps_ret pe_bl)) pss_nil)
    (pss_one (ps_ret (pe_cmpR (op_eqD hr.units) (pe_lc (own := [("_law_one", 1)]) (g := gName 1) (by rfl) scLWalked.nd (pi_list (pe_call GA hr (by rfl) gA kA bA .nil pass0 (pa_cons (pv 0) pa_nil))) (blkOk_by (own := [("_law_one", 1)]) (N := ["_law_kind", "_law_one"]) (sc := defScope tLWalked) (by decide +kernel))
      (fun _ _ _ _ _ => pg_name (i := 1) scLWalked.nd rfl (.inl rfl)) (fun _ _ _ _ _ => pts_one (PW.pt (pw_and (pt_cmpR op_eq (pe_ix (ixTK K rfl) (pv 1) pe_int (fun _ _ => rfl)) pe_str (nomark _)) (pw_and1 (pt_not (pt_val (pe_call GS hr (by rfl) gS kS bS .nil pass0 (pa_cons (pv 1) pa_nil)))))))) (fun _ _ _ _ _ => pv 1)) (pe_lst pa_nil) (nomark _)))), ?_⟩
  refine ⟨_, rfl, a, _, _, _, rfl, rfl, SqT.of ha, atI_nat (j := 0) rfl, rfl, _, rfl, ?_⟩
  rw [isFn_ne]
  refine ite2 (fun e => ?_) (fun e => ?_)
  · have et : t.wk = false := by
      unfold Kd.wk
      rw [show t.isFn = false by simpa using e, Bool.false_and]
    have z := q _ (Same.refl H)
    rw [et] at z
    exact z
  have et : t.wk = t.args.all (fun a => !a.isFn || a.hd) := by
    unfold Kd.wk
    rw [show t.isFn = true by simpa using e, Bool.true_and]
  refine ⟨_, rfl, _, t, rfl, r, by have := gd.sz; omega, fun l us G sG gl rt => ⟨l, rfl, ⟨_, SqL.of gl⟩, fun D nD => ?_⟩⟩
  have lD : l ≠ D := ne_of_none gl nD
  have hD : H D = none := sG.free nD
  have lr := rt.len
  refine lc_list (xs := us) (fun i F => Same H F ∧ F l = some (.lst us) ∧ RpL F t.args us ∧ ∃ ws, F D = some (.lst ws) ∧ RpL F ((t.args.take i).filter fun u => u.isFn && !u.hd) ws) ?_ (fun i F _ z => SqL.of z.2.1) (fun i x F hx z => ?_) (fun F z => ?_)
  · exact ⟨smk sG hD, by rw [upd_ne lD]; exact gl, rt.tk (Tk.of (newS nD)), [], upd_same, trivial⟩
  · obtain ⟨sF, gF, rF, ws, gD, rD⟩ := z
    obtain ⟨u, hu, rx⟩ := rF.get hx
    obtain ⟨ca, cs, rfl, hca, _⟩ := rx.see
    have gu := gd.arg (List.mem_of_getElem? hu)
    have tk := take_filt (f := fun u => u.isFn && !u.hd) hu
    refine ⟨rfl, _, rfl, ca, _, _, _, rfl, rfl, SqT.of hca, atI_nat (j := 0) rfl, rfl, _, rfl, ?_⟩
    rw [Kd.isFn_word]
    have no : (u.isFn && !u.hd) = false → ∀ F2, Same F F2 → Same H F2 ∧ F2 l = some (.lst us) ∧ RpL F2 t.args us ∧ ∃ ws, F2 D = some (.lst ws) ∧ RpL F2 ((t.args.take (i + 1)).filter fun u => u.isFn && !u.hd) ws := fun eb F2 s1 => by
      rw [if_neg (by rw [eb]; exact Bool.false_ne_true), List.append_nil] at tk
      exact ⟨sF.trans s1, s1 _ _ gF, rF.tk (Tk.of s1), ws, s1 _ _ gD, by rw [tk]; exact rD.tk (Tk.of s1)⟩
    refine ite2 (fun e1 => ⟨_, rfl, _, u, rfl, rx, gu, fun F2 s1 => ⟨_, rfl, ?_⟩⟩) (fun e1 => iteF (no (by rw [show u.isFn = false by simpa using e1, Bool.false_and]) F (Same.refl F)))
    refine ite2 (fun eb => ?_) (fun eb => no (by rw [show (!u.hd) = false by simpa using eb, Bool.and_false]) F2 s1)
    rw [if_pos (by rw [e1, eb]; rfl)] at tk
    have t1 : Tk F (upd F2 D (.lst (ws ++ [.ref ca]))) := (Tk.of s1).put (fun _ z => by rw [gD] at z; cases z)
    refine ⟨_, rfl, _, s1 _ _ gD, ?_, smk (sF.trans s1) hD, by rw [upd_ne lD]; exact s1 _ _ gF, rF.tk t1, ws ++ [.ref ca], upd_same, ?_⟩
    · rw [← rD.len]
      have h1 := List.length_filter_le (fun u : Kd => u.isFn && !u.hd) (t.args.take i)
      rw [List.length_take] at h1
      have h2 := Kd.args_le t
      have h3 := gd.sz
      exact small1000 (by omega)
    · rw [tk]
      exact RpL.app (us := [u]) (ws := [.ref ca]) (rD.tk t1) ⟨rx.tk t1, trivial⟩
  · obtain ⟨sF, gF, rF, ws, gD, rD⟩ := z
    rw [← lr, List.take_length] at rD
    refine ⟨Nat.zero_le _, fun e ne => ⟨.list ((t.args.filter fun u => u.isFn && !u.hd).map toD), .list [], .lst (SqL.of (newS ne _ _ gD)) (dpTs K (rD.tk (Tk.of (newS ne)))), .lst (SqL.of upd_same) .nil, Gd.sh (fun u hu => gd.arg ((List.mem_filter.mp hu).1)), rfl, ?_⟩⟩
    have z := q _ (sF.trans (newS (o := .lst []) ne))
    rw [eqvNilT, List.isEmpty_map, filt_all]
    have ef : (fun x : Kd => !(x.isFn && !x.hd)) = fun a : Kd => !a.isFn || a.hd := by
      funext x
      cases x.isFn <;> cases x.hd <;> rfl
    rw [ef]
    rw [et] at z
    exact z
end
end Kq

namespace Kq
open PySem PySem.Spec PyProof.Rows L2 Kg GxR
abbrev tPut : Stmt := tp 21
abbrev psPut : List Str := ["_law_deck_here", "_law_kind", "_law_inner"]
structure Pd (t ti r : Kd) : Prop where
  dp : r.dp ≤ t.dp + ti.dp + 1
  sz : r.size ≤ t.size + ti.size + 1
  op : ∀ x ∈ r.opens, x ∈ t.opens ∨ x ∈ ti.opens
theorem lead_in (t : Kd) (h : inV (V.str t.word) [V.str "open", V.str "num", V.str "truth"] = false) : t.kids ≠ [] := by
  cases t with
  | opn _ => cases h
  | num => cases h
  | tru => cases h
  | _ => exact fun z => nomatch z
section
variable {P : Program} {w : World} {K : PySem.W.Frag} {mg : Str → Option Value} {base : Heap}
theorem scPut : FnScope ["_law_deck_here", "_law_kind", "_law_inner", "_law_way", "_law_at"] psPut (defScope tPut) := ⟨rfl, rfl, rfl, by decide +kernel, rfl, by decide +kernel, by decide +kernel⟩
def spPut (n : Nat) : Sp := fun vs H Q _ => ∃ (d c : Addr) (vk vi : V) (t ti : Kd), vs = [.ref d, vk, vi] ∧ t.dp + 1 ≤ n ∧ t.sm = true ∧ Dk H d c ∧ Rp H t vk ∧ Rp H ti vi ∧
  ∀ (v : V) (r : Kd) (G : Hp), Kp d c H G → Dk G d c → Rp G r v → Pd t ti r → Q v G
theorem okPut1 {f fD : Addr} {fd fdD : FuncData} {n : Nat} (F : Fun K "_law_put_deep" "_law_put_deep" tPut f fd) (bF : Binds K fd psPut []) (gF : mg "_law_put_deep" = some (.ref f))
    (GD : FnOk P w K mg base CX0 (n + 2) fD fdD ["_law_deck_here", "_law_most"] spDraw) (bD : Binds K fdD ["_law_deck_here", "_law_most"] []) (gD : mg "_law_draw" = some (.ref fD)) (kD : PySem.W.keepIn K (.ref fD) = true) (ml : mg "len" = none)
    (GI : FnOk P w K mg base CX0 (n + 2) f fd psPut (spPut n)) : FnOk P w K mg base CX0 (n + 3) f fd psPut (spPut (n + 1)) := by
  refine F.ok scPut (fun vs H Q E h => ?_) (fun cdv A outer s H vs Q E hr h => ?_)
  · obtain ⟨d, c, vk, vi, t, ti, rfl, _⟩ := h
    rfl
  obtain ⟨d, c, vk, vi, t, ti, rfl, hn, sm, dk, rk, ri, q⟩ := h
  refine ⟨_, pss_cons (ps_set (i := 3) scPut.nd rfl (.inl rfl) (pe_call GD hr (by rfl) gD kD bD .nil pass0 (pa_cons (pv 0) (pa_cons pe_int pa_nil))))
    (pss_cons (ps_if (PW.pt (pw_or (pt_cmpR op_eq (pv 3) pe_int (nomark _)) (pw_or1 (pt_cmpR op_in_seq (pe_ix ix_tup (pv 1) pe_int (fun _ _ => rfl)) (pe_tup (pa_cons pe_str (pa_cons pe_str (pa_cons pe_str pa_nil)))) rfl))))
      (pss_one (ps_ret (pe_ix ix_list (pe_lst (pa_cons (pv 2) (pa_cons (pe_tup (pa_cons pe_str (pa_cons (pv 1) (pa_cons (pv 2) pa_nil)))) (pa_cons (pe_tup (pa_cons pe_str (pa_cons (pv 2) (pa_cons (pv 1) pa_nil)))) pa_nil)))) (pe_call GD hr (by rfl) gD kD bD .nil pass0 (pa_cons (pv 0) (pa_cons pe_int pa_nil))) (fun _ _ => rfl)))) pss_nil)
    (pss_cons (ps_set (i := 4) scPut.nd rfl (.inl rfl) (pe_op op_add pe_int (pe_call GD hr (by rfl) gD kD bD .nil pass0 (pa_cons (pv 0) (pa_cons (pe_op op_sub (pe_callB call_len_seq (by rfl) ml PySem.boot_len (pa_cons (pv 1) pa_nil)) pe_int) pa_nil)))))
    (pss_one (ps_ret (pe_op op_catT (pe_op op_catT (pe_slice sl_tup (pv 1) po_none (po_some (pv 4)))
      (pe_tup (pa_cons (pe_call GI hr (by rfl) gF F.kp bF .nil pass0 (pa_cons (pv 0) (pa_cons (pe_ix ix_tup (pv 1) (pv 4) (fun _ _ => rfl)) (pa_cons (pv 2) pa_nil)))) pa_nil))) (pe_slice sl_tup (pv 1) (po_some (pe_op op_add (pv 4) pe_int)) po_none)))))), ?_⟩
  refine ⟨_, rfl, d, c, 4, rfl, dk, by decide, by decide, fun way G1 w0 w1 kp1 dk1 => ?_⟩
  have tk1 := Tk.kp kp1 dk
  have rk1 := rk.tk tk1
  have ri1 := ri.tk tk1
  have fin : ∀ (r : Int) (G2 G3 : Hp) (p1 p2 l : Addr), Kp d c H G2 → Dk G2 d c → Rp G2 t vk → Rp G2 ti vi → G2 p1 = none → (upd G2 p1 (.tup [.str "pair", vk, vi])) p2 = none → (upd (upd G2 p1 (.tup [.str "pair", vk, vi])) p2 (.tup [.str "either", vi, vk])) l = none → 0 ≤ r → r < 3 →
      Kp d c (upd (upd (upd G2 p1 (.tup [.str "pair", vk, vi])) p2 (.tup [.str "either", vi, vk])) l (.lst [vi, .ref p1, .ref p2])) G3 → Dk G3 d c → G3 l = some (.lst [vi, .ref p1, .ref p2]) ∧ ∃ v : V, atI [vi, V.ref p1, V.ref p2] r = some v ∧ Q v G3 := fun r G2 G3 p1 p2 l kp2 dk2 rk2 ri2 n1 n2 nl r0 r1 kp3 dk3 => by
    have s1 := newS (o := .tup [.str "pair", vk, vi]) n1
    have s2 := newS (o := .tup [.str "either", vi, vk]) n2
    have s3 := newS (o := .lst [vi, .ref p1, .ref p2]) nl
    have s13 := s1.trans (s2.trans s3)
    have dkl := dk2.same s13
    have off := (dk2.same (s1.trans s2)).off nl
    have tk3 := Tk.kp kp3 dkl
    have kpa : Kp d c H G3 := (kp2.trans (Kp.of s13)).trans kp3
    have rk3 := (rk2.tk (Tk.of s13)).tk tk3
    have ri3 := (ri2.tk (Tk.of s13)).tk tk3
    have g1 : G3 p1 = some (.tup [.str "pair", vk, vi]) := tk3 _ _ (s3 _ _ (s2 p1 _ upd_same))
    have g2 : G3 p2 = some (.tup [.str "either", vi, vk]) := tk3 _ _ (s3 p2 _ upd_same)
    refine ⟨kp3 l _ off.1 off.2 upd_same, ?_⟩
    have er : r = 0 ∨ r = 1 ∨ r = 2 := by omega
    rcases er with rfl | rfl | rfl
    · exact ⟨vi, rfl, q _ ti _ kpa dk3 ri3 ⟨by omega, by omega, fun x hx => .inr hx⟩⟩
    · refine ⟨.ref p1, rfl, q _ (.pair t ti) _ kpa dk3 ⟨p1, vk, vi, rfl, g1, rk3, ri3⟩ ⟨?_, ?_, fun x hx => List.mem_append.mp hx⟩⟩
      · show max t.dp ti.dp + 1 ≤ _
        omega
      · rw [(Kd.size2 t ti).1]
        exact Nat.le_refl _
    · refine ⟨.ref p2, rfl, q _ (.eith ti t) _ kpa dk3 ⟨p2, vi, vk, rfl, g2, ri3, rk3⟩ ⟨?_, ?_, fun x hx => (List.mem_append.mp hx).symm⟩⟩
      · show max ti.dp t.dp + 1 ≤ _
        omega
      · rw [(Kd.size2 ti t).2.1]
        omega
  obtain ⟨a, us, rfl, ha, hu⟩ := rk1.see
  refine ⟨_, rfl, rfl, _, rfl, ite2 (fun _ => iteT ?l1) (fun _ => ⟨_, rfl, a, _, _, _, rfl, rfl, SqT.of ha, atI_nat (j := 0) rfl, (by show 3 ≤ sizeLine; decide), fun e ne => ⟨e, _, rfl, .inr (SqT.of upd_same), rfl, rfl, _, rfl, ite2 (fun _ => ?l2) (fun hin => ?deep)⟩⟩)⟩
  case l1 =>
    refine ⟨_, rfl, _, rfl, _, rfl, (by show 3 ≤ sizeLine; decide), fun p1 n1 => ⟨_, rfl, _, rfl, (by show 3 ≤ sizeLine; decide), fun p2 n2 => ⟨(by show 3 ≤ sizeLine; decide), fun l nl => ⟨_, rfl, d, c, 3, rfl, ?_, by decide, by decide, fun r G3 r0 r1 kp3 dk3 => ?_⟩⟩⟩⟩
    · exact dk1.same ((newS n1).trans ((newS n2).trans (newS nl)))
    · obtain ⟨gl, v, e1, e2⟩ := fin r G1 G3 p1 p2 l kp1 dk1 rk1 ri1 n1 n2 nl r0 r1 kp3 dk3
      exact ⟨l, _, _, v, rfl, rfl, SqL.of gl, e1, e2⟩
  case l2 =>
    have se := newS (o := .tup [V.str "open", V.str "num", V.str "truth"]) ne
    refine ⟨_, rfl, _, rfl, _, rfl, (by show 3 ≤ sizeLine; decide), fun p1 n1 => ⟨_, rfl, _, rfl, (by show 3 ≤ sizeLine; decide), fun p2 n2 => ⟨(by show 3 ≤ sizeLine; decide), fun l nl => ⟨_, rfl, d, c, 3, rfl, ?_, by decide, by decide, fun r G3 r0 r1 kp3 dk3 => ?_⟩⟩⟩⟩
    · exact (dk1.same se).same ((newS n1).trans ((newS n2).trans (newS nl)))
    · obtain ⟨gl, v, e1, e2⟩ := fin r _ G3 p1 p2 l (kp1.trans (Kp.of se)) (dk1.same se) (rk1.tk (Tk.of se)) (ri1.tk (Tk.of se)) n1 n2 nl r0 r1 kp3 dk3
      exact ⟨l, _, _, v, rfl, rfl, SqL.of gl, e1, e2⟩
  case deep =>
    have se := newS (o := .tup [V.str "open", V.str "num", V.str "truth"]) ne
    have kids := lead_in t (by simpa using hin)
    obtain ⟨b1, b2, wd, x, y, mk, ht, hav, rx, ry, m0, m2, m3, m4, m5⟩ : ∃ (b1 b2 : Kd) (wd : Str) (x y : V) (mk : Kd → Kd → Kd), t = mk b1 b2 ∧ G1 a = some (.tup [.str wd, x, y]) ∧ Rp G1 b1 x ∧ Rp G1 b2 y ∧
        (∀ a b F x y pp, F pp = some (.tup [.str wd, x, y]) → Rp F a x → Rp F b y → Rp F (mk a b) (.ref pp)) ∧ (∀ a b, (mk a b).dp = max a.dp b.dp + 1) ∧ (∀ a b, (mk a b).size = a.size + b.size + 1) ∧ (∀ a b, (mk a b).opens = a.opens ++ b.opens) ∧ (b1.sm = true ∧ b2.sm = true) := by
      cases t with
      | opn z => exact absurd rfl kids
      | num => exact absurd rfl kids
      | tru => exact absurd rfl kids
      | lst z => cases sm
      | fn z z' => cases sm
      | pair b1 b2 =>
        obtain ⟨a', x, y, e, g, rx, ry⟩ := rk1
        cases e
        have sm' : (b1.sm && b2.sm) = true := sm
        rw [Bool.and_eq_true] at sm'
        exact ⟨b1, b2, "pair", x, y, .pair, rfl, g, rx, ry, fun a b F x y pp h1 h2 h3 => ⟨pp, x, y, rfl, h1, h2, h3⟩, fun _ _ => rfl, fun a b => (Kd.size2 a b).1, fun _ _ => rfl, sm'⟩
      | eith b1 b2 =>
        obtain ⟨a', x, y, e, g, rx, ry⟩ := rk1
        cases e
        have sm' : (b1.sm && b2.sm) = true := sm
        rw [Bool.and_eq_true] at sm'
        exact ⟨b1, b2, "either", x, y, .eith, rfl, g, rx, ry, fun a b F x y pp h1 h2 h3 => ⟨pp, x, y, rfl, h1, h2, h3⟩, fun _ _ => rfl, fun a b => (Kd.size2 a b).2.1, fun _ _ => rfl, sm'⟩
    have hdp : b1.dp + 1 ≤ t.dp ∧ b2.dp + 1 ≤ t.dp := by
      rw [ht, m2]
      omega
    have ha2 := se _ _ hav
    refine ⟨_, rfl, _, rfl, a, _, rfl, .inr (SqT.of ha2), _, _, rfl, rfl, d, c, 2, rfl, dk1.same se, by decide, by decide, fun r G3 r0 r1 kp3 dk3 => ?_⟩
    have kpa : Kp d c H G3 := (kp1.trans (Kp.of se)).trans kp3
    have tk3 : Tk G1 G3 := (Tk.of se).trans (Tk.kp kp3 (dk1.same se))
    have ha3 := tk3 _ _ hav
    have rx3 := rx.tk tk3
    have ry3 := ry.tk tk3
    have ri3 := ri1.tk tk3
    have er : r = 0 ∨ r = 1 := by omega
    rcases er with rfl | rfl
    · refine ⟨_, _, rfl, rfl, ?_⟩
      refine ⟨_, rfl, _, rfl, 1, rfl, a, _, rfl, SqT.of ha3, (by show ¬(HT.sIx 3 0 none = 0 ∧ HT.sIx 3 3 (some 1) = 3); decide), fun p1 n1 => ?_⟩
      have s1 := newS (o := .tup (cutV [V.str wd, x, y] none (some 1))) n1
      refine ⟨_, rfl, _, rfl, _, rfl, a, _, _, x, rfl, rfl, SqT.of (s1 _ _ ha3), rfl, _, rfl, d, c, x, vi, b1, ti, rfl, by omega, m5.1, dk3.same s1, rx3.tk (Tk.of s1), ri3.tk (Tk.of s1), fun v z G4 kp4 dk4 rz pz => ?_⟩
      have tk4 := Tk.kp kp4 (dk3.same s1)
      refine ⟨(by show 1 ≤ sizeLine; decide), fun p2 n2 => ?_⟩
      have s2 := newS (o := .tup [v]) n2
      have g1 : (upd G4 p2 (.tup [v])) p1 = some (.tup [V.str wd]) := s2 _ _ (tk4 _ _ upd_same)
      refine ⟨p1, p2, _, _, rfl, rfl, SqT.of g1, SqT.of upd_same, (fun z => nomatch z), (by show 2 ≤ sizeLine; decide), (fun z => nomatch z), fun _ p3 n3 => ?_⟩
      have s3 := newS (o := .tup ([V.str wd] ++ [v])) n3
      have ha5 := s3 _ _ (s2 _ _ (tk4 _ _ (s1 _ _ ha3)))
      refine ⟨_, rfl, _, rfl, _, _, rfl, rfl, 2, rfl, a, _, rfl, SqT.of ha5, (by show ¬(HT.sIx 3 0 (some 2) = 0 ∧ HT.sIx 3 3 none = 3); decide), fun p4 n4 => ?_⟩
      have s4 := newS (o := .tup (cutV [V.str wd, x, y] (some 2) none)) n4
      refine ⟨p3, p4, _, _, rfl, rfl, SqT.of (s4 p3 _ upd_same), SqT.of upd_same, (fun z => nomatch z), (by show 3 ≤ sizeLine; decide), (fun z => nomatch z), fun _ p5 n5 => ?_⟩
      have s5 := newS (o := .tup ([V.str wd, v] ++ [y])) n5
      have s25 := s2.trans (s3.trans (s4.trans s5))
      have kpf : Kp d c H (upd _ p5 (.tup ([V.str wd, v] ++ [y]))) := ((kpa.trans (Kp.of s1)).trans kp4).trans (Kp.of s25)
      refine q _ (mk z b2) _ kpf (dk4.same s25) (m0 _ _ _ _ _ p5 upd_same (rz.tk (Tk.of s25)) ((ry3.tk ((Tk.of s1).trans tk4)).tk (Tk.of s25))) ⟨?_, ?_, fun u hu => ?_⟩
      · have := pz.dp
        rw [m2, ht, m2]
        omega
      · have := pz.sz
        rw [m3, ht, m3]
        omega
      · rw [m4] at hu
        rw [ht, m4]
        rcases List.mem_append.mp hu with z1 | z1
        · rcases pz.op u z1 with z2 | z2
          · exact .inl (List.mem_append_left _ z2)
          · exact .inr z2
        · exact .inl (List.mem_append_right _ z1)
    · refine ⟨_, _, rfl, rfl, ?_⟩
      refine ⟨_, rfl, _, rfl, 2, rfl, a, _, rfl, SqT.of ha3, (by show ¬(HT.sIx 3 0 none = 0 ∧ HT.sIx 3 3 (some 2) = 3); decide), fun p1 n1 => ?_⟩
      have s1 := newS (o := .tup (cutV [V.str wd, x, y] none (some 2))) n1
      refine ⟨_, rfl, _, rfl, _, rfl, a, _, _, y, rfl, rfl, SqT.of (s1 _ _ ha3), rfl, _, rfl, d, c, y, vi, b2, ti, rfl, by omega, m5.2, dk3.same s1, ry3.tk (Tk.of s1), ri3.tk (Tk.of s1), fun v z G4 kp4 dk4 rz pz => ?_⟩
      have tk4 := Tk.kp kp4 (dk3.same s1)
      refine ⟨(by show 1 ≤ sizeLine; decide), fun p2 n2 => ?_⟩
      have s2 := newS (o := .tup [v]) n2
      have g1 : (upd G4 p2 (.tup [v])) p1 = some (.tup [V.str wd, x]) := s2 _ _ (tk4 _ _ upd_same)
      refine ⟨p1, p2, _, _, rfl, rfl, SqT.of g1, SqT.of upd_same, (fun z => nomatch z), (by show 3 ≤ sizeLine; decide), (fun z => nomatch z), fun _ p3 n3 => ?_⟩
      have s3 := newS (o := .tup ([V.str wd, x] ++ [v])) n3
      have ha5 := s3 _ _ (s2 _ _ (tk4 _ _ (s1 _ _ ha3)))
      refine ⟨_, rfl, _, rfl, _, _, rfl, rfl, 3, rfl, a, _, rfl, SqT.of ha5, (by show ¬(HT.sIx 3 0 (some 3) = 0 ∧ HT.sIx 3 3 none = 3); decide), fun p4 n4 => ?_⟩
      have s4 := newS (o := .tup (cutV [V.str wd, x, y] (some 3) none)) n4
      refine ⟨p3, p4, _, _, rfl, rfl, SqT.of (s4 p3 _ upd_same), SqT.of upd_same, (fun z => nomatch z), (by show 3 ≤ sizeLine; decide), (fun _ => ?_), fun z => absurd rfl z⟩
      have s25 := s2.trans (s3.trans s4)
      have kpf : Kp d c H (upd _ p4 (.tup (cutV [V.str wd, x, y] (some 3) none))) := ((kpa.trans (Kp.of s1)).trans kp4).trans (Kp.of s25)
      refine q _ (mk b1 z) _ kpf (dk4.same s25) (m0 _ _ _ _ _ p3 (s4 p3 _ upd_same) ((rx3.tk ((Tk.of s1).trans tk4)).tk (Tk.of s25)) (rz.tk (Tk.of s25))) ⟨?_, ?_, fun u hu => ?_⟩
      · have := pz.dp
        rw [m2, ht, m2]
        omega
      · have := pz.sz
        rw [m3, ht, m3]
        omega
      · rw [m4] at hu
        rw [ht, m4]
        rcases List.mem_append.mp hu with z1 | z1
        · exact .inl (List.mem_append_left _ z1)
        · rcases pz.op u z1 with z2 | z2
          · exact .inl (List.mem_append_right _ z2)
          · exact .inr z2
theorem okPut {f fD fM : Addr} {fd fdD fdM : FuncData} (F : Fun K "_law_put_deep" "_law_put_deep" tPut f fd) (bF : Binds K fd psPut []) (gF : mg "_law_put_deep" = some (.ref f))
    (FD : Fun K "_law_draw" "_law_draw" tDraw fD fdD) (bD : Binds K fdD ["_law_deck_here", "_law_most"] []) (gD : mg "_law_draw" = some (.ref fD)) (FM : Fun K "_law_mixed" "_law_mixed" tMixed fM fdM) (bM : Binds K fdM ["_law_cell", "_law_k"] []) (gM : mg "_law_mixed" = some (.ref fM)) (ml : mg "len" = none) :
    ∀ n, FnOk P w K mg base CX0 (n + 2) f fd psPut (spPut n)
  | 0 => noFn fun vs H Q E h => by
    obtain ⟨d, c, vk, vi, t, ti, _, hg, _⟩ := h
    omega
  | n + 1 => okPut1 F bF gF (okDraw FD FM bM gM) bD gD FD.kp ml (okPut F bF gF FD bD gD FM bM gM ml n)
end
end Kq

namespace Kq
open PySem PySem.Spec PyProof.Rows L2 Kg GxR
abbrev tFirst : Stmt := tp 22
abbrev tTold : Stmt := tp 23
abbrev psFirst : List Str := ["_law_deck_here", "_law_opens", "_law_way"]
abbrev nFirst : List Str := ["_law_deck_here", "_law_opens", "_law_way", "_law_some", "_law_at", "_law_inner", "_law_k"]
abbrev psTold : List Str := ["_law_deck_here", "_law_opens", "_law_way", "_law_many"]
abbrev nTold : List Str := ["_law_deck_here", "_law_opens", "_law_way", "_law_many", "_law_some", "_law_k"]
theorem RpL.set {H : Hp} : ∀ {ts : List Kd} {us : List V} {i : Nat} {t : Kd} {v : V}, RpL H ts us → Rp H t v → RpL H (ts.set i t) (us.set i v)
  | [], [], _, _, _, h, _ => h
  | _ :: _, _ :: _, 0, _, _, h, r => ⟨r, h.2⟩
  | _ :: _, _ :: _, i + 1, _, _, h, r => ⟨h.1, RpL.set (i := i) h.2 r⟩
  | [], _ :: _, _, _, _, h, _ => h.elim
  | _ :: _, [], _, _, _, h, _ => h.elim
theorem ixNat {n j : Nat} (hj : j < n) : ixN n (j : Int) = some j := by
  have h1 : (0 : Int) ≤ (j : Int) := by omega
  have h2 : (j : Int) < (n : Int) := by omega
  simp [ixN, h1, h2]
structure Ar (t : Kd) : Prop where
  dp : t.dp ≤ 4
  sz : t.size ≤ 10
  nm : ∀ x ∈ t.opens, Nm x
structure Fs (t : Kd) : Prop where
  dp : t.dp ≤ 8
  sz : t.size ≤ 51
  nm : ∀ x ∈ t.opens, Nm x
theorem Sml.ar {t : Kd} (h : Sml 2 t) : Ar t := ⟨by have := h.dta.dp; omega, by have : t.size ≤ 7 := h.dta.sz; omega, h.dta.nm⟩
section
variable {P : Program} {w : World} {K : PySem.W.Frag} {mg : Str → Option Value} {base : Heap}
theorem scFirst : FnScope nFirst psFirst (defScope tFirst) := ⟨rfl, rfl, rfl, by decide +kernel, rfl, by decide +kernel, by decide +kernel⟩
def spFirst : Sp := fun vs H Q _ => ∃ (d c o : Addr) (xs : List Str) (way : Int), vs = [.ref d, .ref o, .int way] ∧ Dk H d c ∧ H o = some (.lst (xs.map V.str)) ∧ o ≠ d ∧ o ≠ c ∧ 1 ≤ xs.length ∧ xs.length ≤ 26 ∧ (∀ x ∈ xs, Nm x) ∧
  ∀ (v : V) (t : Kd) (G : Hp), Kp d c H G → Dk G d c → Rp G t v → Fs t → Q v G
theorem okFirst {f fD fS fT fL fU : Addr} {fd fdD fdS fdT fdL fdU : FuncData} (F : Fun K "_law_first" "_law_first" tFirst f fd)
    (GD : FnOk P w K mg base CX0 6 fD fdD ["_law_deck_here", "_law_most"] spDraw) (bD : Binds K fdD ["_law_deck_here", "_law_most"] []) (gD : mg "_law_draw" = some (.ref fD)) (kD : PySem.W.keepIn K (.ref fD) = true)
    (GS : FnOk P w K mg base CX0 6 fS fdS psData (spSml 4)) (bS : Binds K fdS psData []) (gS : mg "_law_small" = some (.ref fS)) (kS : PySem.W.keepIn K (.ref fS) = true)
    (GT : FnOk P w K mg base CX0 6 fT fdT psData (spData 4)) (bT : Binds K fdT psData []) (gT : mg "_law_data" = some (.ref fT)) (kT : PySem.W.keepIn K (.ref fT) = true)
    (GL : FnOk P w K mg base CX0 6 fL fdL ["_law_arguments_here", "_law_result"] spLed) (bL : Binds K fdL ["_law_arguments_here", "_law_result"] []) (gL : mg "_law_led_to" = some (.ref fL)) (kL : PySem.W.keepIn K (.ref fL) = true)
    (GU : FnOk P w K mg base CX0 6 fU fdU psPut (spPut 4)) (bU : Binds K fdU psPut []) (gU : mg "_law_put_deep" = some (.ref fU)) (kU : PySem.W.keepIn K (.ref fU) = true)
    (mr : mg "range" = none) (ml : mg "len" = none) : FnOk P w K mg base CX0 7 f fd psFirst spFirst := by
  refine F.ok scFirst (fun vs H Q E h => ?_) (fun cdv A outer s H vs Q E hr h => ?_)
  · obtain ⟨d, c, o, xs, way, rfl, _⟩ := h
    rfl
  obtain ⟨d, c, o, xs, way, rfl, dk, ho, od, oc, l1, lx, hx, q⟩ := h
  refine ⟨_, pss_cons (ps_setLc (i := 3) (own := [("_law_k", 6)]) (g := gName 6) (by rfl) scFirst.nd rfl rfl (sw_true rfl rfl rfl (by decide +kernel)) (pi_range1 (by rfl) mr (pa_cons (pe_op op_add pe_int (pe_call GD hr (by rfl) gD kD bD .nil pass0 (pa_cons (pv 0) (pa_cons pe_int pa_nil)))) pa_nil)) (blkOk_by (own := [("_law_k", 6)]) (N := nFirst) (sc := defScope tFirst) (by decide +kernel))
      (fun _ _ _ _ _ => pg_name (i := 6) scFirst.nd rfl (.inl rfl)) (fun _ _ _ _ _ => pts_nil) (fun _ _ _ _ _ => pe_call GS hr (by rfl) gS kS bS .nil pass0 (pa_cons (pv 0) (pa_cons (pv 1) (pa_cons pe_int pa_nil)))))
    (pss_cons (ps_set (i := 4) scFirst.nd rfl (.inl rfl) (pe_call GD hr (by rfl) gD kD bD .nil pass0 (pa_cons (pv 0) (pa_cons (pe_callB call_len_seq (by rfl) ml PySem.boot_len (pa_cons (pv 3) pa_nil)) pa_nil))))
    (C8.pss_cut (ps_if (pt_cmpR op_eq (pe_op op_mod (pv 2) pe_int) pe_int (nomark _))
      (pss_cons (ps_set (i := 5) scFirst.nd rfl (.inl rfl) (pe_ix ix_list (pe_lst (pa_cons (pe_tup (pa_cons pe_str pa_nil)) (pa_cons (pe_tup (pa_cons pe_str (pa_cons (pe_tup (pa_cons pe_str pa_nil)) pa_nil))) (pa_cons (pe_tup (pa_cons pe_str (pa_cons (pe_tup (pa_cons pe_str (pa_cons (pe_ix ix_list (pv 1) pe_int (fun _ _ => rfl)) pa_nil))) pa_nil))) pa_nil)))) (pe_call GD hr (by rfl) gD kD bD .nil pass0 (pa_cons (pv 0) (pa_cons pe_int pa_nil))) (fun _ _ => rfl)))
      (pss_one (ps_asg (pe_call GU hr (by rfl) gU kU bU .nil pass0 (pa_cons (pv 0) (pa_cons (pe_ix ix_list (pv 3) (pv 4) (fun _ _ => rfl)) (pa_cons (pv 5) pa_nil)))) (pg_sub (pv 3) (pv 4) set_list)))) pss_nil)
    (pss_one (ps_ret (pe_call GL hr (by rfl) gL kL bL .nil pass0 (pa_cons (pv 3) (pa_cons (pe_call GT hr (by rfl) gT kT bT .nil pass0 (pa_cons (pv 0) (pa_cons (pv 1) (pa_cons pe_int pa_nil)))) pa_nil))))))), ?_⟩
  refine ⟨_, rfl, d, c, 4, rfl, dk, by decide, by decide, fun mm G1 m0 m1 kp1 dk1 => ⟨_, _, rfl, rfl, ?_⟩⟩
  have ho1 := kp1 o _ od oc ho
  refine ⟨1 + mm, rfl, by omega, by omega, fun D nD => ?_⟩
  have offD := dk1.off nD
  have oD : o ≠ D := ne_of_none ho1 nD
  have hD : H D = none := kp1.free dk1 nD
  refine lc_range (lo := 0) (n := (1 + mm).toNat) (fun i G => Kp d c H G ∧ Dk G d c ∧ G o = some (.lst (xs.map V.str)) ∧ ∃ ts us, ts.length = i ∧ G D = some (.lst us) ∧ RpL G ts us ∧ ∀ u ∈ ts, Sml 2 u) ?_ (fun i G hi z => ?_) (fun G z => ?_)
  · exact ⟨kp1.mk hD, dk1.put offD.1 offD.2, by rw [upd_ne oD]; exact ho1, [], [], rfl, upd_same, trivial, fun u z => (nomatch z)⟩
  · obtain ⟨kpi, dki, hoi, ts, us, lt, gD', rt, ht⟩ := z
    refine ⟨rfl, _, rfl, _, rfl, d, c, o, xs, 2, rfl, by decide, dki, hoi, od, oc, lx, hx, fun v t G2 kp2 dk2 rv dv => ?_⟩
    have gD2 := kp2 D _ offD.1 offD.2 gD'
    have t1 : Tk G (upd G2 D (.lst (us ++ [v]))) := (Tk.kp kp2 dki).put (fun _ z => by rw [gD'] at z; cases z)
    have t2 : Tk G2 (upd G2 D (.lst (us ++ [v]))) := Tk.rfl.put (fun _ z => by rw [gD2] at z; cases z)
    refine ⟨_, gD2, ?_, (kpi.trans kp2).mk hD, dk2.put offD.1 offD.2, by rw [upd_ne oD]; exact kp2 o _ od oc hoi, ts ++ [t], us ++ [v], ?_, upd_same, RpL.app (us := [t]) (ws := [v]) (rt.tk t1) ⟨rv.tk t2, trivial⟩, fun u hu => ?_⟩
    · rw [← rt.len, lt]
      exact small1000 (by omega)
    · rw [List.length_append, lt]
      rfl
    · rcases List.mem_append.mp hu with z | z
      · exact ht u z
      · rw [List.mem_singleton.mp z]
        exact dv
  obtain ⟨kpi, dki, hoi, ts, us, lt, gD', rt, ht⟩ := z
  have lu := rt.len
  refine ⟨_, rfl, _, rfl, D, _, rfl, .inl (SqL.of gD'), d, c, _, rfl, dki, by omega, by omega, fun r G2 r0 r1 kp2 dk2 => ?_⟩
  have gD2 := kp2 D _ offD.1 offD.2 gD'
  have rt2 := rt.tk (Tk.kp kp2 dki)
  have ho2 := kp2 o _ od oc hoi
  have kpa := kpi.trans kp2
  have l4 : ts.length ≤ 4 := by omega
  refine ⟨fun σ G => (∃ y5, σ = [some (.ref d), some (.ref o), some (.int way), some (.ref D), some (.int r), y5, none]) ∧ Kp d c H G ∧ Dk G d c ∧ G o = some (.lst (xs.map V.str)) ∧ ∃ ts us, ts.length ≤ 4 ∧ G D = some (.lst us) ∧ RpL G ts us ∧ ∀ u ∈ ts, Ar u, ?_, ?b2⟩
  · refine ⟨_, rfl, _, _, rfl, rfl, (by show (0 : Int) < 3; decide), rfl, _, rfl, ite2 (fun _ => ?_) (fun _ => ⟨⟨none, rfl⟩, kpa, dk2, ho2, ts, us, l4, gD2, rt2, fun u hu => (ht u hu).ar⟩)⟩
    obtain ⟨x0, xr, rfl⟩ : ∃ x0 xr, xs = x0 :: xr := by
      cases xs with
      | nil => exact absurd l1 (by decide)
      | cons a b => exact ⟨a, b, rfl⟩
    refine ⟨(by show 1 ≤ sizeLine; decide), fun p1 n1 => ⟨(by show 1 ≤ sizeLine; decide), fun p2 n2 => ⟨(by show 2 ≤ sizeLine; decide), fun p3 n3 => ?_⟩⟩⟩
    have s1 := newS (o := .tup [.str "num"]) n1
    have s2 := newS (o := .tup [.str "truth"]) n2
    have s3 := newS (o := .tup [.str "list", .ref p2]) n3
    have s13 := s1.trans (s2.trans s3)
    refine ⟨_, rfl, o, _, _, .str x0, rfl, rfl, SqL.of (s13 _ _ ho2), atI_nat (j := 0) rfl, (by show 2 ≤ sizeLine; decide), fun p4 n4 => ⟨(by show 2 ≤ sizeLine; decide), fun p5 n5 => ⟨(by show 3 ≤ sizeLine; decide), fun l nl => ?_⟩⟩⟩
    have s4 := newS (o := .tup [.str "open", .str x0]) n4
    have s5 := newS (o := .tup [.str "list", .ref p4]) n5
    have s6 := newS (o := .lst [V.ref p1, .ref p3, .ref p5]) nl
    have s16 := s13.trans (s4.trans (s5.trans s6))
    have offl := ((dk2.same s13).same (s4.trans s5)).off nl
    refine ⟨_, rfl, d, c, 3, rfl, dk2.same s16, by decide, by decide, fun r2 G3 r20 r21 kp3 dk3 => ?_⟩
    have tk3 : Tk _ G3 := Tk.kp kp3 (dk2.same s16)
    have gl := kp3 l _ offl.1 offl.2 upd_same
    have h1 : G3 p1 = some (.tup [.str "num"]) := tk3 _ _ (s6 _ _ (s5 _ _ (s4 _ _ (s3 _ _ (s2 p1 _ upd_same)))))
    have h2 : G3 p2 = some (.tup [.str "truth"]) := tk3 _ _ (s6 _ _ (s5 _ _ (s4 _ _ (s3 p2 _ upd_same))))
    have h3 : G3 p3 = some (.tup [.str "list", .ref p2]) := tk3 _ _ (s6 _ _ (s5 _ _ (s4 p3 _ upd_same)))
    have h4 : G3 p4 = some (.tup [.str "open", .str x0]) := tk3 _ _ (s6 _ _ (s5 p4 _ upd_same))
    have h5 : G3 p5 = some (.tup [.str "list", .ref p4]) := tk3 _ _ (s6 p5 _ upd_same)
    obtain ⟨v, ti, ev, rti, td, ts', tn⟩ : ∃ (v : V) (ti : Kd), atI [V.ref p1, .ref p3, .ref p5] r2 = some v ∧ Rp G3 ti v ∧ ti.dp ≤ 1 ∧ ti.size ≤ 2 ∧ ∀ x ∈ ti.opens, Nm x := by
      have er : r2 = 0 ∨ r2 = 1 ∨ r2 = 2 := by omega
      rcases er with rfl | rfl | rfl
      · exact ⟨_, .num, rfl, ⟨p1, rfl, h1⟩, by decide, by decide, fun x z => (nomatch z)⟩
      · exact ⟨_, .lst .tru, rfl, ⟨p3, _, rfl, h3, p2, rfl, h2⟩, by decide, by decide, fun x z => (nomatch z)⟩
      · refine ⟨_, .lst (.opn x0), rfl, ⟨p5, _, rfl, h5, p4, rfl, h4⟩, Nat.le_refl _, Nat.le_refl _, fun x z => ?_⟩
        rw [List.mem_singleton.mp z]
        exact hx _ List.mem_cons_self
    refine ⟨l, _, _, v, rfl, rfl, SqL.of gl, ev, ?_⟩
    have lj : r.toNat < us.length := by omega
    have er : r = ((r.toNat : Nat) : Int) := by omega
    have gx : us[r.toNat]? = some us[r.toNat] := List.getElem?_eq_getElem lj
    obtain ⟨u, hu, ru⟩ := rt2.get gx
    have gD3 : G3 D = some (.lst us) := kp3 D _ offD.1 offD.2 (s16 _ _ gD2)
    have tk23 : Tk G2 G3 := (Tk.of s16).trans tk3
    have su := ht u (List.mem_of_getElem? hu)
    have gat : atI us r = some us[r.toNat] := by
      have z := atI_nat (xs := us) (j := r.toNat) gx
      rw [← er] at z
      exact z
    refine ⟨_, rfl, _, rfl, _, rfl, D, _, _, _, rfl, rfl, SqL.of gD3, gat, _, rfl, d, c, _, v, u, ti, rfl, by have := su.dta.dp; omega, su.sm, dk3, ru.tk tk23, rti, fun v2 r2' G4 kp4 dk4 rr pr => ?_⟩
    have gD4 := kp4 D _ offD.1 offD.2 gD3
    have ix : ixN us.length r = some r.toNat := by
      have z := ixNat (n := us.length) (j := r.toNat) lj
      rw [← er] at z
      exact z
    refine ⟨_, rfl, _, rfl, D, _, _, r.toNat, rfl, rfl, gD4, ix, ?_⟩
    have t5 : Tk G4 (upd G4 D (.lst (us.set r.toNat v2))) := Tk.rfl.put (fun _ z => by rw [gD4] at z; cases z)
    have tk34 := Tk.kp kp4 dk3
    refine ⟨⟨_, rfl⟩, (((kpa.trans (Kp.of s16)).trans kp3).trans kp4).mk hD, dk4.put offD.1 offD.2, by rw [upd_ne oD]; exact kp4 o _ od oc (kp3 o _ od oc (s16 _ _ ho2)), ts.set r.toNat r2', us.set r.toNat v2, by rw [List.length_set]; exact l4, upd_same, RpL.set (((rt2.tk tk23).tk tk34).tk t5) (rr.tk t5), fun u' hu' => ?_⟩
    rcases List.mem_or_eq_of_mem_set hu' with z | z
    · exact (ht u' z).ar
    · rw [z]
      have a1 := su.dta.dp
      have a2 : u.size ≤ 7 := su.dta.sz
      refine ⟨by have := pr.dp; omega, by have := pr.sz; omega, fun x hx' => ?_⟩
      rcases pr.op x hx' with z | z
      · exact su.dta.nm x z
      · exact tn x z
  case b2 =>
    rintro σ G ⟨⟨y5, rfl⟩, kp, dkG, hoG, ts, us, l4, gDG, rtG, hA⟩
    refine ⟨_, rfl, _, rfl, _, rfl, d, c, o, xs, 2, rfl, by decide, dkG, hoG, od, oc, lx, hx, fun v t G2 kp2 dk2 rv dv => ?_⟩
    have gD2 := kp2 D _ offD.1 offD.2 gDG
    refine ⟨D, ts, us, t, v, rfl, .inl gD2, rtG.tk (Tk.kp kp2 dkG), rv, fun u G3 s3 ru => ?_⟩
    refine q u _ G3 ((kp.trans kp2).trans (Kp.of s3)) (dk2.same s3) ru ⟨?_, ?_, ?_⟩
    · have := ledTo_dp ts t 4 (fun u hu => (hA u hu).dp) (by have := dv.dp; omega)
      omega
    · have h1 := ledTo_sz ts t 10 (fun u hu => (hA u hu).sz)
      have h2 : t.size ≤ 7 := dv.sz
      have h3 : ts.length * (10 + 1) ≤ 44 := by omega
      omega
    · exact ledTo_nm ts t (fun u hu => (hA u hu).nm) dv.nm
/-! _law_told -/
theorem scTold : FnScope nTold psTold (defScope tTold) := ⟨rfl, rfl, rfl, by decide +kernel, rfl, by decide +kernel, by decide +kernel⟩
def spTold : Sp := fun vs H Q _ => ∃ (d c o : Addr) (xs : List Str) (way many : Int), vs = [.ref d, .ref o, .int way, .int many] ∧ Dk H d c ∧ H o = some (.lst (xs.map V.str)) ∧ o ≠ d ∧ o ≠ c ∧ 1 ≤ xs.length ∧ xs.length ≤ 26 ∧ (∀ x ∈ xs, Nm x) ∧ 0 ≤ many ∧ many ≤ 4 ∧
  ∀ (v : V) (ts : List Kd) (t : Kd) (G : Hp), Kp d c H G → Dk G d c → Rp G (Kd.ledTo ts t) v → ts.length ≤ 4 → (∀ u ∈ ts, Fs u) → Dta 2 t → Q v G
theorem okTold {f fD fS fT fL : Addr} {fd fdD fdS fdT fdL : FuncData} (F : Fun K "_law_told" "_law_told" tTold f fd)
    (GD : FnOk P w K mg base CX0 7 fD fdD ["_law_deck_here", "_law_most"] spDraw) (bD : Binds K fdD ["_law_deck_here", "_law_most"] []) (gD : mg "_law_draw" = some (.ref fD)) (kD : PySem.W.keepIn K (.ref fD) = true)
    (GS : FnOk P w K mg base CX0 7 fS fdS psFirst spFirst) (bS : Binds K fdS psFirst []) (gS : mg "_law_first" = some (.ref fS)) (kS : PySem.W.keepIn K (.ref fS) = true)
    (GT : FnOk P w K mg base CX0 6 fT fdT psData (spData 4)) (bT : Binds K fdT psData []) (gT : mg "_law_data" = some (.ref fT)) (kT : PySem.W.keepIn K (.ref fT) = true)
    (GL : FnOk P w K mg base CX0 7 fL fdL ["_law_arguments_here", "_law_result"] spLed) (bL : Binds K fdL ["_law_arguments_here", "_law_result"] []) (gL : mg "_law_led_to" = some (.ref fL)) (kL : PySem.W.keepIn K (.ref fL) = true)
    (mr : mg "range" = none) : FnOk P w K mg base CX0 8 f fd psTold spTold := by
  refine F.ok scTold (fun vs H Q E h => ?_) (fun cdv A outer s H vs Q E hr h => ?_)
  · obtain ⟨d, c, o, xs, way, many, rfl, _⟩ := h
    rfl
  obtain ⟨d, c, o, xs, way, many, rfl, dk, ho, od, oc, l1, lx, hx, m0, m1, q⟩ := h
  refine ⟨_, pss_cons (ps_set (i := 4) scTold.nd rfl (.inl rfl) (pe_lst pa_nil))
    (pss_cons (ps_for PassesOwn.never rfl (pi_range1 (by rfl) mr (pa_cons (pv 3) pa_nil)) (pg_name (i := 5) scTold.nd rfl (.inl rfl))
      (pss_one (ps_if (pt_cmpR op_eq (pe_call GD hr (by rfl) gD kD bD .nil pass0 (pa_cons (pv 0) (pa_cons pe_int pa_nil))) pe_int (nomark _))
        (pss_one (ps_expr (pe_bm PySem.F.plainAttrs_list PySem.F.slot_list_append PySem.F.type_list_append mt_append (pv 4) (pa_cons (pe_call GT (hr.mono (by decide)) (by rfl) gT kT bT .nil pass0 (pa_cons (pv 0) (pa_cons (pv 1) (pa_cons pe_int pa_nil)))) pa_nil))))
        (pss_one (ps_expr (pe_bm PySem.F.plainAttrs_list PySem.F.slot_list_append PySem.F.type_list_append mt_append (pv 4) (pa_cons (pe_call GS hr (by rfl) gS kS bS .nil pass0 (pa_cons (pv 0) (pa_cons (pv 1) (pa_cons (pv 2) pa_nil)))) pa_nil)))))))
    (pss_one (ps_ret (pe_call GL hr (by rfl) gL kL bL .nil pass0 (pa_cons (pv 4) (pa_cons (pe_call GT (hr.mono (by decide)) (by rfl) gT kT bT .nil pass0 (pa_cons (pv 0) (pa_cons (pv 1) (pa_cons pe_int pa_nil)))) pa_nil)))))), ?_⟩
  refine ⟨Nat.zero_le _, fun D nD => ⟨_, rfl, many, rfl, by omega, by omega, ?_⟩⟩
  have offD := dk.off nD
  have oD : o ≠ D := ne_of_none ho nD
  refine for_range (lo := 0) (n := many.toNat) (fun i σ G => (∃ y, σ = [some (.ref d), some (.ref o), some (.int way), some (.int many), some (.ref D), y]) ∧ Kp d c H G ∧ Dk G d c ∧ G o = some (.lst (xs.map V.str)) ∧ ∃ ts us, ts.length = i ∧ G D = some (.lst us) ∧ RpL G ts us ∧ ∀ u ∈ ts, Fs u) ?_ (fun i σ G hi z => ?_) (fun σ G z => ?_)
  · exact ⟨⟨none, rfl⟩, (Kp.rfl).mk nD, dk.put offD.1 offD.2, by rw [upd_ne oD]; exact ho, [], [], rfl, upd_same, trivial, fun u z => (nomatch z)⟩
  · obtain ⟨⟨y, rfl⟩, kpi, dki, hoi, ts, us, lt, gDi, rt, ht⟩ := z
    have step : ∀ (v : V) (t : Kd) (G2 G3 : Hp), Kp d c G G2 → Dk G2 d c → Kp d c G2 G3 → Dk G3 d c → Rp G3 t v → Fs t → G3 D = some (.lst us) ∧ us.length < sizeLine ∧ (Kp d c H (upd G3 D (.lst (us ++ [v]))) ∧ Dk (upd G3 D (.lst (us ++ [v]))) d c ∧ (upd G3 D (.lst (us ++ [v]))) o = some (.lst (xs.map V.str)) ∧
        ∃ ts' us', ts'.length = i + 1 ∧ (upd G3 D (.lst (us ++ [v]))) D = some (.lst us') ∧ RpL (upd G3 D (.lst (us ++ [v]))) ts' us' ∧ ∀ u ∈ ts', Fs u) := fun v t G2 G3 kp2 dk2 kp3 dk3 rv fv => by
      have kp13 := kp2.trans kp3
      have gD3 := kp13 D _ offD.1 offD.2 gDi
      have t1 : Tk G (upd G3 D (.lst (us ++ [v]))) := ((Tk.kp kp2 dki).trans (Tk.kp kp3 dk2)).put (fun _ z => by rw [gDi] at z; cases z)
      have t2 : Tk G3 (upd G3 D (.lst (us ++ [v]))) := Tk.rfl.put (fun _ z => by rw [gD3] at z; cases z)
      refine ⟨gD3, ?_, (kpi.trans kp13).mk nD, dk3.put offD.1 offD.2, by rw [upd_ne oD]; exact kp13 o _ od oc hoi, ts ++ [t], us ++ [v], ?_, upd_same, RpL.app (us := [t]) (ws := [v]) (rt.tk t1) ⟨rv.tk t2, trivial⟩, fun u hu => ?_⟩
      · rw [← rt.len, lt]
        exact small1000 (by omega)
      · rw [List.length_append, lt]
        rfl
      · rcases List.mem_append.mp hu with z | z
        · exact ht u z
        · rw [List.mem_singleton.mp z]
          exact fv
    refine ⟨_, rfl, d, c, 2, rfl, dki, by decide, by decide, fun r G2 r0 r1 kp2 dk2 => ⟨rfl, _, rfl, ite2 (fun _ => ?_) (fun _ => ?_)⟩⟩
    · have gD2 := kp2 D _ offD.1 offD.2 gDi
      refine ⟨_, rfl, .inl ⟨rfl, _, SqL.of gD2⟩, _, rfl, _, rfl, d, c, o, xs, 2, rfl, by decide, dk2, kp2 o _ od oc hoi, od, oc, lx, hx, fun v t G3 kp3 dk3 rv dv => ?_⟩
      obtain ⟨g3, gl, a1, a2, a3, a4⟩ := step v t G2 G3 kp2 dk2 kp3 dk3 rv ⟨by have := dv.dp; omega, by have : t.size ≤ 7 := dv.sz; omega, dv.nm⟩
      exact ⟨D, us, v, rfl, rfl, g3, gl, ⟨_, rfl⟩, a1, a2, a3, a4⟩
    · have gD2 := kp2 D _ offD.1 offD.2 gDi
      refine ⟨_, rfl, .inl ⟨rfl, _, SqL.of gD2⟩, _, rfl, _, rfl, _, rfl, d, c, o, xs, way, rfl, dk2, kp2 o _ od oc hoi, od, oc, l1, lx, hx, fun v t G3 kp3 dk3 rv dv => ?_⟩
      obtain ⟨g3, gl, a1, a2, a3, a4⟩ := step v t G2 G3 kp2 dk2 kp3 dk3 rv dv
      exact ⟨D, us, v, rfl, rfl, g3, gl, ⟨_, rfl⟩, a1, a2, a3, a4⟩
  · obtain ⟨⟨y, rfl⟩, kpi, dki, hoi, ts, us, lt, gDi, rt, ht⟩ := z
    refine ⟨_, rfl, _, rfl, _, rfl, d, c, o, xs, 2, rfl, by decide, dki, hoi, od, oc, lx, hx, fun v t G2 kp2 dk2 rv dv => ?_⟩
    have gD2 := kp2 D _ offD.1 offD.2 gDi
    exact ⟨D, ts, us, t, v, rfl, .inl gD2, rt.tk (Tk.kp kp2 dki), rv, fun u G3 s3 ru => q u ts t G3 ((kpi.trans kp2).trans (Kp.of s3)) (dk2.same s3) ru (by omega) ht dv⟩
end
end Kq

namespace Kq
open PySem PySem.Spec PyProof.Rows L2 Kg GxR
abbrev tRight : Stmt := tp 25
abbrev tLaw : Stmt := tp 26
abbrev nRight : List Str := ["_law_kind", "_law_turn", "_law_found", "_law_one"]
abbrev nLaw : List Str := ["_law_script", "_law_deck_here", "_law_turn", "_law_sort", "_law_way", "_law_many", "_law_opens", "_law_kind"]
theorem TbS.kp {T : List Addr} {H G : Hp} {d c : Addr} (t : TbS T H) (k : Kp d c H G) (x : Dk H d c) : TbS T G := fun p hp => by
  obtain ⟨ps, h1, h2⟩ := t p hp
  obtain ⟨n, ⟨a, b, e⟩, ⟨ns, f, l⟩⟩ := x
  refine ⟨ps, k p _ (fun z => ?_) (fun z => ?_) h1, h2⟩
  · rw [z, e] at h1
    cases h1
  · rw [z, f] at h1
    cases h1
theorem Dk.sm {T : List Addr} {H G : Hp} {d c : Addr} (x : Dk H d c) (t : TbS T H) (s : Sm T H G) : Dk G d c := by
  obtain ⟨n, ⟨a, b, e⟩, ⟨ns, f, l⟩⟩ := x
  exact ⟨n, ⟨a, b, s.at t e fun _ z => by cases z⟩, ⟨ns, s.at t f (fun _ z => by cases z), l⟩⟩
theorem layB (a b c : Bool) : (PyData.list [.bool a, .bool b, .bool c]).canLay0 = true ∧ SeqAt.shaped (.list [.bool a, .bool b, .bool c]) = true := by
  cases a <;> cases b <;> cases c <;> exact ⟨by decide, by decide⟩
section
variable {P : Program} {w : World} {K : PySem.W.Frag} {mg : Str → Option Value} {base : Heap}
theorem scRight : FnScope nRight ["_law_kind"] (defScope tRight) := ⟨rfl, rfl, rfl, by decide +kernel, rfl, by decide +kernel, by decide +kernel⟩
def spRight (T : List Addr) : Sp := fun vs H Q _ => ∃ (v : V) (t : Kd), vs = [v] ∧ Rp H t v ∧ Gd t ∧ TbS T H ∧ ∀ G : Hp, Sm T H G → Q (.bl true) G
theorem okRight {f f1 f2 f3 f4 f5 f6 : Addr} {fd fd1 fd2 fd3 fd4 fd5 fd6 : FuncData} {T : List Addr} (F : Fun K "_law_right" "_law_right" tRight f fd)
    (G1 : FnOk P w K mg base CX0 19 f1 fd1 ["kind"] (spSmall T)) (b1 : Binds K fd1 ["kind"] []) (g1 : mg "is_small" = some (.ref f1)) (k1 : PySem.W.keepIn K (.ref f1) = true)
    (G2 : FnOk P w K mg base CX0 19 f2 fd2 ["kind"] (spHanded T)) (b2 : Binds K fd2 ["kind"] []) (g2 : mg "is_handed" = some (.ref f2)) (k2 : PySem.W.keepIn K (.ref f2) = true)
    (G3 : FnOk P w K mg base CX0 19 f3 fd3 ["kind"] (spWalked T)) (b3 : Binds K fd3 ["kind"] []) (g3 : mg "is_walked" = some (.ref f3)) (k3 : PySem.W.keepIn K (.ref f3) = true)
    (G4 : FnOk P w K mg base CX0 17 f4 fd4 ["_law_kind"] (spLSmall 15)) (b4 : Binds K fd4 ["_law_kind"] []) (g4 : mg "_law_is_small" = some (.ref f4)) (k4 : PySem.W.keepIn K (.ref f4) = true)
    (G5 : FnOk P w K mg base CX0 19 f5 fd5 ["_law_kind"] spLHanded) (b5 : Binds K fd5 ["_law_kind"] []) (g5 : mg "_law_is_handed" = some (.ref f5)) (k5 : PySem.W.keepIn K (.ref f5) = true)
    (G6 : FnOk P w K mg base CX0 19 f6 fd6 ["_law_kind"] spLWalked) (b6 : Binds K fd6 ["_law_kind"] []) (g6 : mg "_law_is_walked" = some (.ref f6)) (k6 : PySem.W.keepIn K (.ref f6) = true)
    (mr : mg "range" = none) (mi : mg "isinstance" = none) (mb : mg "bool" = none) : FnOk P w K mg base CX0 20 f fd ["_law_kind"] (spRight T) := by
  refine F.ok scRight (fun vs H Q E h => ?_) (fun cdv A outer s H vs Q E hr h => ?_)
  · obtain ⟨v, t, rfl, _⟩ := h
    rfl
  obtain ⟨v, t, rfl, r, gd, tb, q⟩ := h
  refine ⟨_, pss_cons (ps_for PassesOwn.never rfl (pi_range1 (by rfl) mr (pa_cons pe_int pa_nil)) (pg_name (i := 1) scRight.nd rfl (.inl rfl))
      (pss_cons (ps_set (i := 2) scRight.nd rfl (.inl rfl) (pe_lst (pa_cons (pe_call G1 hr (by rfl) g1 k1 b1 .nil pass0 (pa_cons (pv 0) pa_nil)) (pa_cons (pe_call G2 hr (by rfl) g2 k2 b2 .nil pass0 (pa_cons (pv 0) pa_nil)) (pa_cons (pe_call G3 hr (by rfl) g3 k3 b3 .nil pass0 (pa_cons (pv 0) pa_nil)) pa_nil)))))
      (pss_cons (ps_if (pt_cmpR (op_neD hr.units) (pe_lc (own := [("_law_one", 3)]) (g := gName 3) (by rfl) scRight.nd (pi_list (pv 2)) (blkOk_by (own := [("_law_one", 3)]) (N := nRight) (sc := defScope tRight) (by decide +kernel))
        (fun _ _ _ _ _ => pg_name (i := 3) scRight.nd rfl (.inl rfl)) (fun _ _ _ _ _ => pts_one (pt_not (pt_val (pe_callB (isiK K rfl) (by rfl) mi PyProof.Rows.boot_isinstance (pa_cons (pv 3) (pa_cons (pe_bltn (v := .ty "bool") (by rfl) mb PyProof.Rows.boot_bool rfl) pa_nil)))))) (fun _ _ _ _ _ => pv 3)) (pe_lst pa_nil) (nomark _)) (pss_one (ps_ret pe_bl)) pss_nil)
      (pss_one (ps_if (pt_cmpR (op_neD hr.units) (pv 2) (pe_lst (pa_cons (pe_call G4 (hr.mono (by decide)) (by rfl) g4 k4 b4 .nil pass0 (pa_cons (pv 0) pa_nil)) (pa_cons (pe_call G5 hr (by rfl) g5 k5 b5 .nil pass0 (pa_cons (pv 0) pa_nil)) (pa_cons (pe_call G6 hr (by rfl) g6 k6 b6 .nil pass0 (pa_cons (pv 0) pa_nil)) pa_nil)))) (nomark _)) (pss_one (ps_ret pe_bl)) pss_nil)))))
    (pss_one (ps_ret pe_bl)), ?_⟩
  refine ⟨2, rfl, by decide, by decide, for_range (lo := 0) (n := 2) (fun i σ G => Sm T H G ∧ ∃ y1 y2, σ = [some v, y1, y2, none]) ⟨Sm.refl tb, _, _, rfl⟩ (fun i σ G _ z => ?_) (fun σ G z => q G z.1)⟩
  obtain ⟨sG, y1, y2, rfl⟩ := z
  have rG := r.tk (Tk.sm tb sG)
  have hz : t.size ≤ 100 := gd.sz
  refine ⟨_, rfl, v, t, rfl, rG, hz, sG.2, fun Ga sa => ?_⟩
  have ra := rG.tk (Tk.sm sG.2 sa)
  refine ⟨_, rfl, v, t, rfl, ra, hz, sa.2, fun Gb sb' => ?_⟩
  have rb := ra.tk (Tk.sm sa.2 sb')
  refine ⟨_, rfl, v, t, rfl, rb, hz, sb'.2, fun Gc sc => ⟨(by show 3 ≤ sizeLine; decide), fun L nL => ?_⟩⟩
  have rc := rb.tk (Tk.sm sb'.2 sc)
  have sc2 := newS (o := .lst [V.bl t.sm, .bl t.hd, .bl t.wk]) nL
  have sm4 : Sm T H (upd Gc L (.lst [V.bl t.sm, .bl t.hd, .bl t.wk])) := ((sG.trans sa).trans (sb'.trans sc)).trans (Sm.of sc2 sc.2)
  have rd := rc.tk (Tk.of sc2)
  have gL : (upd Gc L (.lst [V.bl t.sm, .bl t.hd, .bl t.wk])) L = some (.lst [V.bl t.sm, .bl t.hd, .bl t.wk]) := upd_same
  generalize upd Gc L (.lst [V.bl t.sm, .bl t.hd, .bl t.wk]) = Gd' at sm4 rd gL
  refine ⟨_, rfl, L, rfl, ⟨_, SqL.of gL⟩, fun D nD => ?_⟩
  have LD : L ≠ D := ne_of_none gL nD
  refine lc_list (xs := [V.bl t.sm, .bl t.hd, .bl t.wk]) (fun i F => Same Gd' F ∧ F D = some (.lst [])) ⟨newS nD, upd_same⟩ (fun i F _ z => SqL.of (z.1 _ _ gL)) (fun i x F hx z => ?_) (fun F z => ?_)
  · obtain ⟨b, rfl⟩ : ∃ b, x = V.bl b := by
      have hm := List.mem_of_getElem? hx
      rcases List.mem_cons.mp hm with e | hm
      · exact ⟨_, e⟩
      rcases List.mem_cons.mp hm with e | hm
      · exact ⟨_, e⟩
      · exact ⟨_, List.mem_singleton.mp hm⟩
    exact ⟨rfl, _, rfl, _, _, _, _, true, rfl, .ty "bool", .base (.bl b), kit_ty (by decide +kernel), _, rfl, iteF z⟩
  · obtain ⟨sF, gD⟩ := z
    refine ⟨Nat.zero_le _, fun e ne => ⟨.list [], .list [], .lst (SqL.of (newS ne _ _ gD)) .nil, .lst (SqL.of upd_same) .nil, rfl, rfl, _, rfl, iteF ?_⟩⟩
    have sE := sF.trans (newS (o := .lst []) ne)
    generalize upd F e (.lst []) = Ge at sE
    have re := rd.tk (Tk.of sE)
    refine ⟨_, rfl, _, rfl, v, t, rfl, re, by have := gd.dp; omega, by omega, fun Gf sf => ?_⟩
    have rf := re.tk (Tk.of sf)
    refine ⟨_, rfl, v, t, rfl, rf, gd, fun Gg sg' => ?_⟩
    have rg := rf.tk (Tk.of sg')
    refine ⟨_, rfl, v, t, rfl, rg, gd, fun Gh sh => ⟨(by show 3 ≤ sizeLine; decide), fun M nM => ?_⟩⟩
    have sM := newS (o := .lst [V.bl t.sm, .bl t.hd, .bl t.wk]) nM
    have sAll := ((sE.trans sf).trans (sg'.trans sh)).trans sM
    obtain ⟨lb, lsh⟩ := layB t.sm t.hd t.wk
    refine ⟨.list [.bool t.sm, .bool t.hd, .bool t.wk], .list [.bool t.sm, .bool t.hd, .bool t.wk], .lst (SqL.of (sAll _ _ gL)) (.cons (.bl _) (.cons (.bl _) (.cons (.bl _) .nil))), .lst (SqL.of upd_same) (.cons (.bl _) (.cons (.bl _) (.cons (.bl _) .nil))), lsh, lsh, _, rfl, neF lb ?_⟩
    exact ⟨sm4.trans (Sm.of sAll sm4.2), _, _, rfl⟩
end
end Kq

namespace Kq
open PySem PySem.Spec PyProof.Rows L2 Kg GxR
/-- the kinds that are drawn -/
def Kn (t : Kd) : Prop := ∃ ts r, t = Kd.ledTo ts r ∧ ts.length ≤ 4 ∧ (∀ u ∈ ts, Fs u) ∧ Fs r
theorem Kn.of {t : Kd} (h : Fs t) : Kn t := ⟨[], t, rfl, by decide, fun u z => (nomatch z), h⟩
theorem Kn.dp {t : Kd} (h : Kn t) : t.dp ≤ 12 := by
  obtain ⟨ts, r, rfl, l, a, b⟩ := h
  have := ledTo_dp ts r 8 (fun u hu => (a u hu).dp) b.dp
  omega
theorem Kn.nm {t : Kd} (h : Kn t) : ∀ x ∈ t.opens, Nm x := by
  obtain ⟨ts, r, rfl, l, a, b⟩ := h
  exact ledTo_nm ts r (fun u hu => (a u hu).nm) b.nm
theorem Kn.cut {t : Kd} (h : Kn t) (hz : 60 < t.size) : ∃ a b, t = .fn a b ∧ Kn b := by
  obtain ⟨ts, r, rfl, l, a, b⟩ := h
  cases ts with
  | nil =>
    have h1 : r.size ≤ 51 := b.sz
    have h2 : 60 < r.size := hz
    omega
  | cons u ts =>
    rw [List.length_cons] at l
    exact ⟨u, Kd.ledTo ts r, rfl, ts, r, rfl, by omega, fun v hv => a v (List.mem_cons_of_mem _ hv), b⟩
theorem Dta.fs {g : Nat} {t : Kd} (h : Dta g t) (hg : g ≤ 3) : Fs t := by
  have h1 := h.dp
  have h2 := h.sz
  have h3 : sb g ≤ 15 := by
    have : g = 0 ∨ g = 1 ∨ g = 2 ∨ g = 3 := by omega
    rcases this with rfl | rfl | rfl | rfl <;> decide
  exact ⟨by omega, by omega, h.nm⟩
section
variable {P : Program} {w : World} {K : PySem.W.Frag} {mg : Str → Option Value} {base : Heap}
theorem scLaw : FnScope nLaw ["_law_script"] (defScope tLaw) := ⟨rfl, rfl, rfl, by decide +kernel, rfl, by decide +kernel, by decide +kernel⟩
def spLaw (K : PySem.W.Frag) (T : List Addr) : Sp := fun vs H Q _ => ∃ (a : Addr) (ns : List Int), vs = [.ref a] ∧ SqL K H a (ns.map V.int) ∧ ns.length ≤ 63 ∧ TbS T H ∧ ∀ G, Q (.bl true) G
theorem okLaw {f fK fD fN fS fT fF fO fP fR : Addr} {fd fdK fdD fdN fdS fdT fdF fdO fdP fdR : FuncData} {T : List Addr} (F : Fun K "law" "law" tLaw f fd)
    (GK : FnOk P w K mg base CX0 20 fK fdK ["_law_script"] (spDeck K)) (bK : Binds K fdK ["_law_script"] []) (gK : mg "_law_deck" = some (.ref fK)) (kK : PySem.W.keepIn K (.ref fK) = true)
    (GD : FnOk P w K mg base CX0 20 fD fdD ["_law_deck_here", "_law_most"] spDraw) (bD : Binds K fdD ["_law_deck_here", "_law_most"] []) (gD : mg "_law_draw" = some (.ref fD)) (kD : PySem.W.keepIn K (.ref fD) = true)
    (GN : FnOk P w K mg base CX0 20 fN fdN ["_law_deck_here", "_law_many"] spNames) (bN : Binds K fdN ["_law_deck_here", "_law_many"] []) (gN : mg "_law_names" = some (.ref fN)) (kN : PySem.W.keepIn K (.ref fN) = true)
    (GS : FnOk P w K mg base CX0 6 fS fdS psData (spSml 4)) (bS : Binds K fdS psData []) (gS : mg "_law_small" = some (.ref fS)) (kS : PySem.W.keepIn K (.ref fS) = true)
    (GT : FnOk P w K mg base CX0 6 fT fdT psData (spData 4)) (bT : Binds K fdT psData []) (gT : mg "_law_data" = some (.ref fT)) (kT : PySem.W.keepIn K (.ref fT) = true)
    (GF : FnOk P w K mg base CX0 7 fF fdF psFirst spFirst) (bF : Binds K fdF psFirst []) (gF : mg "_law_first" = some (.ref fF)) (kF : PySem.W.keepIn K (.ref fF) = true)
    (GO : FnOk P w K mg base CX0 8 fO fdO psTold spTold) (bO : Binds K fdO psTold []) (gO : mg "_law_told" = some (.ref fO)) (kO : PySem.W.keepIn K (.ref fO) = true)
    (GP : FnOk P w K mg base CX0 17 fP fdP ["_law_kind"] (spLParts 16)) (bP : Binds K fdP ["_law_kind"] []) (gP : mg "_law_parts" = some (.ref fP)) (kP : PySem.W.keepIn K (.ref fP) = true)
    (GR : FnOk P w K mg base CX0 20 fR fdR ["_law_kind"] (spRight T)) (bR : Binds K fdR ["_law_kind"] []) (gR : mg "_law_right" = some (.ref fR)) (kR : PySem.W.keepIn K (.ref fR) = true)
    (mr : mg "range" = none) : FnOk P w K mg base CX0 21 f fd ["_law_script"] (spLaw K T) := by
  refine F.ok scLaw (fun vs H Q E h => ?_) (fun cdv A outer s H vs Q E hr h => ?_)
  · obtain ⟨a, ns, rfl, _⟩ := h
    rfl
  obtain ⟨a, ns, rfl, hS, hl, tb, q⟩ := h
  refine ⟨_, pss_cons (ps_set (i := 1) scLaw.nd rfl (.inl rfl) (pe_call GK hr (by rfl) gK kK bK .nil pass0 (pa_cons (pv 0) pa_nil)))
    (pss_cons (ps_for PassesOwn.never rfl (pi_range1 (by rfl) mr (pa_cons pe_int pa_nil)) (pg_name (i := 2) scLaw.nd rfl (.inl rfl))
      (pss_cons (ps_set (i := 3) scLaw.nd rfl (.inl rfl) (pe_call GD hr (by rfl) gD kD bD .nil pass0 (pa_cons (pv 1) (pa_cons pe_int pa_nil))))
      (pss_cons (ps_set (i := 4) scLaw.nd rfl (.inl rfl) (pe_op op_add pe_int (pe_call GD hr (by rfl) gD kD bD .nil pass0 (pa_cons (pv 1) (pa_cons pe_int pa_nil)))))
      (pss_cons (ps_set (i := 5) scLaw.nd rfl (.inl rfl) (pe_op op_add pe_int (pe_call GD hr (by rfl) gD kD bD .nil pass0 (pa_cons (pv 1) (pa_cons pe_int pa_nil)))))
      (pss_cons (ps_set (i := 6) scLaw.nd rfl (.inl rfl) (pe_call GN hr (by rfl) gN kN bN .nil pass0 (pa_cons (pv 1) (pa_cons (pe_op op_add pe_int (pe_call GD hr (by rfl) gD kD bD .nil pass0 (pa_cons (pv 1) (pa_cons pe_int pa_nil)))) pa_nil))))
      (pss_cons (ps_set (i := 7) scLaw.nd rfl (.inl rfl) (pe_ix ix_list (pe_lst (pa_cons (pe_call GS (hr.mono (by decide)) (by rfl) gS kS bS .nil pass0 (pa_cons (pv 1) (pa_cons (pv 6) (pa_cons pe_int pa_nil)))) (pa_cons (pe_tup (pa_cons pe_str (pa_cons (pe_call GS (hr.mono (by decide)) (by rfl) gS kS bS .nil pass0 (pa_cons (pv 1) (pa_cons (pv 6) (pa_cons pe_int pa_nil)))) pa_nil))) pa_nil))) (pe_op op_mod (pv 3) pe_int) (fun _ _ => rfl)))
      (C8.pss_cut (ps_if (pt_cmpR op_eq (pv 3) pe_int (nomark _)) (pss_one (ps_set (i := 7) scLaw.nd rfl (.inl rfl) (pe_call GT (hr.mono (by decide)) (by rfl) gT kT bT .nil pass0 (pa_cons (pv 1) (pa_cons (pv 6) (pa_cons pe_int pa_nil)))))) pss_nil)
      (C8.pss_cut (ps_if (pt_cmpR op_eq (pv 3) pe_int (nomark _)) (pss_one (ps_set (i := 7) scLaw.nd rfl (.inl rfl) (pe_call GF (hr.mono (by decide)) (by rfl) gF kF bF .nil pass0 (pa_cons (pv 1) (pa_cons (pv 6) (pa_cons (pv 4) pa_nil)))))) pss_nil)
      (C8.pss_cut (ps_if (pt_cmpR op_gt (pv 3) pe_int (nomark _)) (pss_one (ps_set (i := 7) scLaw.nd rfl (.inl rfl) (pe_call GO (hr.mono (by decide)) (by rfl) gO kO bO .nil pass0 (pa_cons (pv 1) (pa_cons (pv 6) (pa_cons (pv 4) (pa_cons (pv 5) pa_nil))))))) pss_nil)
      (pss_cons (ps_while PassesOwn.never (pt_cmpR op_gt (pe_call GP (hr.mono (by decide)) (by rfl) gP kP bP .nil pass0 (pa_cons (pv 7) pa_nil)) pe_int (nomark _))
        (pss_one (ps_set (i := 7) scLaw.nd rfl (.inl rfl) (pe_ix ix_tup (pv 7) pe_int (fun _ _ => rfl)))))
      (pss_one (ps_if (pt_not (pt_val (pe_call GR hr (by rfl) gR kR bR .nil pass0 (pa_cons (pv 7) pa_nil)))) (pss_one (ps_ret pe_bl)) pss_nil))))))))))))
    (pss_one (ps_ret pe_bl))), ?_⟩
  refine ⟨_, rfl, a, ns, rfl, hS, hl, fun d c G0 s0 dk0 => ?_⟩
  refine ⟨8, rfl, by decide, by decide, for_range (lo := 0) (n := 8) (fun i σ G => TbS T G ∧ Dk G d c ∧ ∃ y2 y3 y4 y5 y6 y7, σ = [some (.ref a), some (.ref d), y2, y3, y4, y5, y6, y7]) ⟨tb.same s0, dk0, _, _, _, _, _, _, rfl⟩ (fun i σ G _ z => ?_) (fun σ G z => q G)⟩
  obtain ⟨tbG, dk, y2, y3, y4, y5, y6, y7, rfl⟩ := z
  refine ⟨_, rfl, d, c, 6, rfl, dk, by decide, by decide, fun so G1 so0 so1 kp1 dk1 => ?_⟩
  refine ⟨_, rfl, d, c, 6, rfl, dk1, by decide, by decide, fun wy G2 wy0 wy1 kp2 dk2 => ⟨_, _, rfl, rfl, ?_⟩⟩
  refine ⟨_, rfl, d, c, 4, rfl, dk2, by decide, by decide, fun mn G3 mn0 mn1 kp3 dk3 => ⟨_, _, rfl, rfl, ?_⟩⟩
  refine ⟨_, rfl, _, rfl, d, c, 4, rfl, dk3, by decide, by decide, fun nm G4 nm0 nm1 kp4 dk4 => ⟨_, _, rfl, rfl, ?_⟩⟩
  refine ⟨d, c, 1 + nm, rfl, dk4, by omega, by omega, fun o xs G5 kp5 dk5 no go lx hx => ?_⟩
  have offo := dk4.off no
  have l1 : 1 ≤ xs.length := by omega
  have l26 : xs.length ≤ 26 := by omega
  have tb5 : TbS T G5 := TbS.kp (TbS.kp (TbS.kp (TbS.kp (TbS.kp tbG kp1 dk) kp2 dk1) kp3 dk2) kp4 dk3) kp5 dk4
  -- kind
  refine ⟨_, rfl, _, rfl, d, c, o, xs, 3, rfl, by decide, dk5, go, offo.1, offo.2, l26, hx, fun va ta G6 kp6 dk6 ra sa => ?_⟩
  have go6 := kp6 o _ offo.1 offo.2 go
  refine ⟨_, rfl, _, rfl, d, c, o, xs, 2, rfl, by decide, dk6, go6, offo.1, offo.2, l26, hx, fun vb tb' G7 kp7 dk7 rb sb' => ?_⟩
  have go7 := kp7 o _ offo.1 offo.2 go6
  refine ⟨(by show 2 ≤ sizeLine; decide), fun p np => ⟨(by show 2 ≤ sizeLine; decide), fun l nl => ?_⟩⟩
  have s1 := newS (o := .tup [.str "list", vb]) np
  have s2 := newS (o := .lst [va, .ref p]) nl
  have s12 := s1.trans s2
  have dk8 := dk7.same s12
  have go8 := s12 _ _ go7
  have tb8 : TbS T (upd (upd G7 p (.tup [.str "list", vb])) l (.lst [va, .ref p])) := (TbS.kp (TbS.kp tb5 kp6 dk5) kp7 dk6).same s12
  have ra8 := (ra.tk (Tk.kp kp7 dk6)).tk (Tk.of s12)
  have rb8 : Rp (upd (upd G7 p (.tup [.str "list", vb])) l (.lst [va, .ref p])) (.lst tb') (.ref p) := ⟨p, vb, rfl, s2 p _ upd_same, rb.tk (Tk.of s12)⟩
  obtain ⟨kv, t0, ek, rk, kn0⟩ : ∃ (kv : V) (t0 : Kd), atI [va, V.ref p] (so % 2) = some kv ∧ Rp (upd (upd G7 p (.tup [.str "list", vb])) l (.lst [va, .ref p])) t0 kv ∧ Kn t0 := by
    have er : so % 2 = 0 ∨ so % 2 = 1 := by omega
    rcases er with e | e
    · rw [e]
      exact ⟨va, ta, rfl, ra8, .of (sa.dta.fs (by decide))⟩
    · rw [e]
      refine ⟨.ref p, .lst tb', rfl, rb8, .of ⟨?_, ?_, sb'.dta.nm⟩⟩
      · have := sb'.dta.dp
        show tb'.dp + 1 ≤ 8
        omega
      · have : tb'.size ≤ 7 := sb'.dta.sz
        rw [(Kd.size2 tb' tb').2.2]
        omega
  refine ⟨_, rfl, _, _, rfl, rfl, (by show (0 : Int) < 2; decide), l, _, _, kv, rfl, rfl, SqL.of upd_same, ek, ?_⟩
  generalize upd (upd G7 p (.tup [.str "list", vb])) l (.lst [va, .ref p]) = G8 at dk8 go8 tb8 rk ra8 rb8
  -- the three ifs
  let I : L2.St → Hp → Prop := fun σ G => TbS T G ∧ Dk G d c ∧ G o = some (.lst (xs.map V.str)) ∧ ∃ kv t, σ = [some (.ref a), some (.ref d), some (.int (0 + (i : Int))), some (.int so), some (.int (1 + wy)), some (.int (1 + mn)), some (.ref o), some kv] ∧ Rp G t kv ∧ Kn t
  have I0 : I [some (.ref a), some (.ref d), some (.int (0 + (i : Int))), some (.int so), some (.int (1 + wy)), some (.int (1 + mn)), some (.ref o), some kv] G8 := ⟨tb8, dk8, go8, kv, t0, rfl, rk, kn0⟩
  refine ⟨I, ⟨_, rfl, rfl, _, rfl, ite2 (fun _ => ?_) (fun _ => I0)⟩, ?_⟩
  · refine ⟨_, rfl, _, rfl, d, c, o, xs, 3, rfl, by decide, dk8, go8, offo.1, offo.2, l26, hx, fun v t G9 kp9 dk9 rv dv => ?_⟩
    exact ⟨TbS.kp tb8 kp9 dk8, dk9, kp9 o _ offo.1 offo.2 go8, v, t, rfl, rv, .of (dv.fs (by decide))⟩
  rintro σ G ⟨tbG, dkG, goG, kv, t, rfl, rk, kn⟩
  refine ⟨I, ⟨_, rfl, rfl, _, rfl, ite2 (fun _ => ?_) (fun _ => ⟨tbG, dkG, goG, kv, t, rfl, rk, kn⟩)⟩, ?_⟩
  · refine ⟨_, rfl, _, rfl, _, rfl, d, c, o, xs, 1 + wy, rfl, dkG, goG, offo.1, offo.2, l1, l26, hx, fun v t G9 kp9 dk9 rv dv => ?_⟩
    exact ⟨TbS.kp tbG kp9 dkG, dk9, kp9 o _ offo.1 offo.2 goG, v, t, rfl, rv, .of dv⟩
  clear I0 tbG dkG goG rk kn kv t
  rintro σ G ⟨tbG, dkG, goG, kv, t, rfl, rk, kn⟩
  refine ⟨I, ⟨_, rfl, _, _, rfl, rfl, _, rfl, ite2 (fun _ => ?_) (fun _ => ⟨tbG, dkG, goG, kv, t, rfl, rk, kn⟩)⟩, ?_⟩
  · refine ⟨_, rfl, _, rfl, _, rfl, _, rfl, d, c, o, xs, 1 + wy, 1 + mn, rfl, dkG, goG, offo.1, offo.2, l1, l26, hx, by omega, by omega, fun v ts t G9 kp9 dk9 rv lt ht dv => ?_⟩
    exact ⟨TbS.kp tbG kp9 dkG, dk9, kp9 o _ offo.1 offo.2 goG, v, _, rfl, rv, ts, t, rfl, lt, ht, dv.fs (by decide)⟩
  clear tbG dkG goG rk kn kv t
  rintro σ G ⟨tbG, dkG, goG, kv, t, rfl, rk, kn⟩
  -- while
  refine ⟨fun m σ G => ∃ kv t, m = t.size ∧ σ = [some (.ref a), some (.ref d), some (.int (0 + (i : Int))), some (.int so), some (.int (1 + wy)), some (.int (1 + mn)), some (.ref o), some kv] ∧ TbS T G ∧ Dk G d c ∧ Rp G t kv ∧ Kn t,
    ⟨_, kv, t, rfl, rfl, tbG, dkG, rk, kn⟩, fun m σ G z => ?_⟩
  clear tbG dkG goG rk kn kv t
  obtain ⟨kv, t, rfl, rfl, tbG, dkG, rk, kn⟩ := z
  refine ⟨_, rfl, kv, t, rfl, by have := kn.dp; omega, rk, fun Gb sb2 => ⟨_, _, rfl, rfl, _, rfl, ?_⟩⟩
  refine ite2 (fun e => ?_) (fun e => ?_)
  · have e60 : (60 : Int) < (t.size : Int) := of_decide_eq_true e
    obtain ⟨ka, kb, rfl, knb⟩ := kn.cut (by omega)
    obtain ⟨ca, x, y, rfl, hc, rka, rkb⟩ := rk.tk (Tk.of sb2)
    refine ⟨fun σ' G' => ∃ m', m' < (Kd.fn ka kb).size ∧ ∃ kv t, m' = t.size ∧ σ' = [some (.ref a), some (.ref d), some (.int (0 + (i : Int))), some (.int so), some (.int (1 + wy)), some (.int (1 + mn)), some (.ref o), some kv] ∧ TbS T G' ∧ Dk G' d c ∧ Rp G' t kv ∧ Kn t, fun σ' G' z => z, ?_⟩
    refine ⟨_, rfl, ca, _, _, y, rfl, rfl, SqT.of hc, atI_nat (j := 2) rfl, _, ?_, y, kb, rfl, rfl, tbG.same sb2, dkG.same sb2, rkb, knb⟩
    rw [Kd.size_fn]
    omega
  · have e60 : ¬ (60 : Int) < (t.size : Int) := fun z => e (decide_eq_true z)
    refine ⟨_, rfl, kv, t, rfl, rk.tk (Tk.of sb2), ⟨by have := kn.dp; omega, by omega, kn.nm⟩, tbG.same sb2, fun Ge se => ⟨_, rfl, iteF ?_⟩⟩
    exact ⟨se.2, (dkG.same sb2).sm (tbG.same sb2) se, _, _, _, _, _, _, rfl⟩
end
end Kq

namespace Kq
open PySem PySem.Spec PyProof.Rows L2
theorem tabX {base : Heap} {mg : Str → Option Value} {c p : Addr} (t : LamX.TabB base mg c p) : GxR.TabB base mg c p := ⟨t.code, t.bm, t.gP⟩
theorem all_mk {l : PySem.W.OpenLaw} {w : World} {K : PySem.W.Frag} {h : Heap} {mg : Str → Option Value} {fa f1 f2 f3 f4 f5 f6 f7 f8 f9 f10 f11 f12 f13 f14 f15 f16 f17 f18 f19 f20 f21 f22 f23 f24 f25 c4 p4 c5 p5 c6 p6 : Addr} (X : K.In h) (G : h.Ns mainGlobals mg) (hfa : mg "law" = some (.ref fa))
    (TT : ∀ y ∈ (["is_small", "is_handed", "is_walked"] : List Str), Kg.TabOf mg h y)
    {od1 an1 od2 an2 od3 an3 od4 an4 od5 an5 od6 an6 od7 an7 od8 an8 od9 an9 od10 an10 od11 an11 od12 an12 od13 an13 od14 an14 od15 an15 od16 an16 od17 an17 od18 an18 od19 an19 od20 an20 od21 an21 od22 an22 od23 an23 od24 an24 od25 an25 dd4 dd5 dd6 : Option Addr} {sl1 sl2 sl3 sl4 sl5 sl6 sl7 sl8 sl9 sl10 sl11 sl12 sl13 sl14 sl15 sl16 sl17 sl18 sl19 sl20 sl21 sl22 sl23 sl24 sl25 sm4 sm5 sm6 : Array (Option Value)} {oc1 kV1 dc1 pm1 ct1 oc2 kV2 dc2 pm2 ct2 oc3 kV3 dc3 pm3 ct3 oc4 kV4 dc4 pm4 ct4 oc5 kV5 dc5 pm5 ct5 oc6 kV6 dc6 pm6 ct6 oc7 kV7 dc7 pm7 ct7 oc8 kV8 dc8 pm8 ct8 oc9 kV9 dc9 pm9 ct9 oc10 kV10 dc10 pm10 ct10 oc11 kV11 dc11 pm11 ct11 oc12 kV12 dc12 pm12 ct12 oc13 kV13 dc13 pm13 ct13 oc14 kV14 dc14 pm14 ct14 oc15 kV15 dc15 pm15 ct15 oc16 kV16 dc16 pm16 ct16 oc17 kV17 dc17 pm17 ct17 oc18 kV18 dc18 pm18 ct18 oc19 kV19 dc19 pm19 ct19 oc20 kV20 dc20 pm20 ct20 oc21 kV21 dc21 pm21 ct21 oc22 kV22 dc22 pm22 ct22 oc23 kV23 dc23 pm23 ct23 oc24 kV24 dc24 pm24 ct24 oc25 kV25 dc25 pm25 ct25 cd1 cd2 cd3 cd7 cd8 cd9 cd10 cd11 cd12 cd13 cd14 cd15 cd16 cd17 cd18 cd19 cd20 cd21 cd22 cd23 cd24 cd25 e4 e5 e6 : Value} {vs4 vs5 vs6 : Array Value}
    (a1 : PySem.W.nsIn K mainGlobals "kinds_within" = some (some (.ref f1))) (l1 : K.lookup f1 = some ⟨oc1, od1, .func (PySem.W.fnOf "kinds_within" "kinds_within" (defArgs tWithin) (defBody tWithin) (defScope tWithin) .none kV1 dc1 pm1 an1 cd1 ct1), sl1⟩)
      (q1 : PySem.W.codeIn K cd1 "kinds_within" = true) (k1 : PySem.W.keepIn K (.ref f1) = true)
    (a2 : PySem.W.nsIn K mainGlobals "leads" = some (some (.ref f2))) (l2 : K.lookup f2 = some ⟨oc2, od2, .func (PySem.W.fnOf "leads" "leads" (defArgs tLeads) (defBody tLeads) (defScope tLeads) .none kV2 dc2 pm2 an2 cd2 ct2), sl2⟩)
      (q2 : PySem.W.codeIn K cd2 "leads" = true) (k2 : PySem.W.keepIn K (.ref f2) = true)
    (a3 : PySem.W.nsIn K mainGlobals "parts_of" = some (some (.ref f3))) (l3 : K.lookup f3 = some ⟨oc3, od3, .func (PySem.W.fnOf "parts_of" "parts_of" (defArgs tParts) (defBody tParts) (defScope tParts) .none kV3 dc3 pm3 an3 cd3 ct3), sl3⟩)
      (q3 : PySem.W.codeIn K cd3 "parts_of" = true) (k3 : PySem.W.keepIn K (.ref f3) = true)
    (a4 : PySem.W.nsIn K mainGlobals "is_small" = some (some (.ref f4))) (l4 : K.lookup f4 = some ⟨oc4, od4, .func (PySem.W.fnOf "is_small" "is_small" (defArgs tSmall) (defBody tSmall) (defScope tSmall) .none kV4 dc4 pm4 an4 (.ref c4) ct4), sl4⟩)
      (q4 : PySem.W.codeIn K (.ref c4) "is_small" = true) (k4 : PySem.W.keepIn K (.ref f4) = true)
    (a5 : PySem.W.nsIn K mainGlobals "is_handed" = some (some (.ref f5))) (l5 : K.lookup f5 = some ⟨oc5, od5, .func (PySem.W.fnOf "is_handed" "is_handed" (defArgs tHanded) (defBody tHanded) (defScope tHanded) .none kV5 dc5 pm5 an5 (.ref c5) ct5), sl5⟩)
      (q5 : PySem.W.codeIn K (.ref c5) "is_handed" = true) (k5 : PySem.W.keepIn K (.ref f5) = true)
    (a6 : PySem.W.nsIn K mainGlobals "is_walked" = some (some (.ref f6))) (l6 : K.lookup f6 = some ⟨oc6, od6, .func (PySem.W.fnOf "is_walked" "is_walked" (defArgs tWalked) (defBody tWalked) (defScope tWalked) .none kV6 dc6 pm6 an6 (.ref c6) ct6), sl6⟩)
      (q6 : PySem.W.codeIn K (.ref c6) "is_walked" = true) (k6 : PySem.W.keepIn K (.ref f6) = true)
    (a7 : PySem.W.nsIn K mainGlobals "arguments_of" = some (some (.ref f7))) (l7 : K.lookup f7 = some ⟨oc7, od7, .func (PySem.W.fnOf "arguments_of" "arguments_of" (defArgs tArgs) (defBody tArgs) (defScope tArgs) .none kV7 dc7 pm7 an7 cd7 ct7), sl7⟩)
      (q7 : PySem.W.codeIn K cd7 "arguments_of" = true) (k7 : PySem.W.keepIn K (.ref f7) = true)
    (a8 : PySem.W.nsIn K mainGlobals "_law_deck" = some (some (.ref f8))) (l8 : K.lookup f8 = some ⟨oc8, od8, .func (PySem.W.fnOf "_law_deck" "_law_deck" (defArgs tDeck) (defBody tDeck) (defScope tDeck) .none kV8 dc8 pm8 an8 cd8 ct8), sl8⟩)
      (q8 : PySem.W.codeIn K cd8 "_law_deck" = true) (k8 : PySem.W.keepIn K (.ref f8) = true)
    (a9 : PySem.W.nsIn K mainGlobals "_law_mixed" = some (some (.ref f9))) (l9 : K.lookup f9 = some ⟨oc9, od9, .func (PySem.W.fnOf "_law_mixed" "_law_mixed" (defArgs tMixed) (defBody tMixed) (defScope tMixed) .none kV9 dc9 pm9 an9 cd9 ct9), sl9⟩)
      (q9 : PySem.W.codeIn K cd9 "_law_mixed" = true) (k9 : PySem.W.keepIn K (.ref f9) = true)
    (a10 : PySem.W.nsIn K mainGlobals "_law_draw" = some (some (.ref f10))) (l10 : K.lookup f10 = some ⟨oc10, od10, .func (PySem.W.fnOf "_law_draw" "_law_draw" (defArgs tDraw) (defBody tDraw) (defScope tDraw) .none kV10 dc10 pm10 an10 cd10 ct10), sl10⟩)
      (q10 : PySem.W.codeIn K cd10 "_law_draw" = true) (k10 : PySem.W.keepIn K (.ref f10) = true)
    (a11 : PySem.W.nsIn K mainGlobals "_law_names" = some (some (.ref f11))) (l11 : K.lookup f11 = some ⟨oc11, od11, .func (PySem.W.fnOf "_law_names" "_law_names" (defArgs tNames) (defBody tNames) (defScope tNames) .none kV11 dc11 pm11 an11 cd11 ct11), sl11⟩)
      (q11 : PySem.W.codeIn K cd11 "_law_names" = true) (k11 : PySem.W.keepIn K (.ref f11) = true)
    (a12 : PySem.W.nsIn K mainGlobals "_law_data" = some (some (.ref f12))) (l12 : K.lookup f12 = some ⟨oc12, od12, .func (PySem.W.fnOf "_law_data" "_law_data" (defArgs tData) (defBody tData) (defScope tData) .none kV12 dc12 pm12 an12 cd12 ct12), sl12⟩)
      (q12 : PySem.W.codeIn K cd12 "_law_data" = true) (k12 : PySem.W.keepIn K (.ref f12) = true)
    (a13 : PySem.W.nsIn K mainGlobals "_law_small" = some (some (.ref f13))) (l13 : K.lookup f13 = some ⟨oc13, od13, .func (PySem.W.fnOf "_law_small" "_law_small" (defArgs tSml) (defBody tSml) (defScope tSml) .none kV13 dc13 pm13 an13 cd13 ct13), sl13⟩)
      (q13 : PySem.W.codeIn K cd13 "_law_small" = true) (k13 : PySem.W.keepIn K (.ref f13) = true)
    (a14 : PySem.W.nsIn K mainGlobals "_law_led_to" = some (some (.ref f14))) (l14 : K.lookup f14 = some ⟨oc14, od14, .func (PySem.W.fnOf "_law_led_to" "_law_led_to" (defArgs tLed) (defBody tLed) (defScope tLed) .none kV14 dc14 pm14 an14 cd14 ct14), sl14⟩)
      (q14 : PySem.W.codeIn K cd14 "_law_led_to" = true) (k14 : PySem.W.keepIn K (.ref f14) = true)
    (a15 : PySem.W.nsIn K mainGlobals "_law_words" = some (some (.ref f15))) (l15 : K.lookup f15 = some ⟨oc15, od15, .func (PySem.W.fnOf "_law_words" "_law_words" (defArgs tWords) (defBody tWords) (defScope tWords) .none kV15 dc15 pm15 an15 cd15 ct15), sl15⟩)
      (q15 : PySem.W.codeIn K cd15 "_law_words" = true) (k15 : PySem.W.keepIn K (.ref f15) = true)
    (a16 : PySem.W.nsIn K mainGlobals "_law_is_small" = some (some (.ref f16))) (l16 : K.lookup f16 = some ⟨oc16, od16, .func (PySem.W.fnOf "_law_is_small" "_law_is_small" (defArgs tLSmall) (defBody tLSmall) (defScope tLSmall) .none kV16 dc16 pm16 an16 cd16 ct16), sl16⟩)
      (q16 : PySem.W.codeIn K cd16 "_law_is_small" = true) (k16 : PySem.W.keepIn K (.ref f16) = true)
    (a17 : PySem.W.nsIn K mainGlobals "_law_arguments" = some (some (.ref f17))) (l17 : K.lookup f17 = some ⟨oc17, od17, .func (PySem.W.fnOf "_law_arguments" "_law_arguments" (defArgs tLArgs) (defBody tLArgs) (defScope tLArgs) .none kV17 dc17 pm17 an17 cd17 ct17), sl17⟩)
      (q17 : PySem.W.codeIn K cd17 "_law_arguments" = true) (k17 : PySem.W.keepIn K (.ref f17) = true)
    (a18 : PySem.W.nsIn K mainGlobals "_law_is_handed" = some (some (.ref f18))) (l18 : K.lookup f18 = some ⟨oc18, od18, .func (PySem.W.fnOf "_law_is_handed" "_law_is_handed" (defArgs tLHanded) (defBody tLHanded) (defScope tLHanded) .none kV18 dc18 pm18 an18 cd18 ct18), sl18⟩)
      (q18 : PySem.W.codeIn K cd18 "_law_is_handed" = true) (k18 : PySem.W.keepIn K (.ref f18) = true)
    (a19 : PySem.W.nsIn K mainGlobals "_law_is_walked" = some (some (.ref f19))) (l19 : K.lookup f19 = some ⟨oc19, od19, .func (PySem.W.fnOf "_law_is_walked" "_law_is_walked" (defArgs tLWalked) (defBody tLWalked) (defScope tLWalked) .none kV19 dc19 pm19 an19 cd19 ct19), sl19⟩)
      (q19 : PySem.W.codeIn K cd19 "_law_is_walked" = true) (k19 : PySem.W.keepIn K (.ref f19) = true)
    (a20 : PySem.W.nsIn K mainGlobals "_law_put_deep" = some (some (.ref f20))) (l20 : K.lookup f20 = some ⟨oc20, od20, .func (PySem.W.fnOf "_law_put_deep" "_law_put_deep" (defArgs tPut) (defBody tPut) (defScope tPut) .none kV20 dc20 pm20 an20 cd20 ct20), sl20⟩)
      (q20 : PySem.W.codeIn K cd20 "_law_put_deep" = true) (k20 : PySem.W.keepIn K (.ref f20) = true)
    (a21 : PySem.W.nsIn K mainGlobals "_law_first" = some (some (.ref f21))) (l21 : K.lookup f21 = some ⟨oc21, od21, .func (PySem.W.fnOf "_law_first" "_law_first" (defArgs tFirst) (defBody tFirst) (defScope tFirst) .none kV21 dc21 pm21 an21 cd21 ct21), sl21⟩)
      (q21 : PySem.W.codeIn K cd21 "_law_first" = true) (k21 : PySem.W.keepIn K (.ref f21) = true)
    (a22 : PySem.W.nsIn K mainGlobals "_law_told" = some (some (.ref f22))) (l22 : K.lookup f22 = some ⟨oc22, od22, .func (PySem.W.fnOf "_law_told" "_law_told" (defArgs tTold) (defBody tTold) (defScope tTold) .none kV22 dc22 pm22 an22 cd22 ct22), sl22⟩)
      (q22 : PySem.W.codeIn K cd22 "_law_told" = true) (k22 : PySem.W.keepIn K (.ref f22) = true)
    (a23 : PySem.W.nsIn K mainGlobals "_law_parts" = some (some (.ref f23))) (l23 : K.lookup f23 = some ⟨oc23, od23, .func (PySem.W.fnOf "_law_parts" "_law_parts" (defArgs tLParts) (defBody tLParts) (defScope tLParts) .none kV23 dc23 pm23 an23 cd23 ct23), sl23⟩)
      (q23 : PySem.W.codeIn K cd23 "_law_parts" = true) (k23 : PySem.W.keepIn K (.ref f23) = true)
    (a24 : PySem.W.nsIn K mainGlobals "_law_right" = some (some (.ref f24))) (l24 : K.lookup f24 = some ⟨oc24, od24, .func (PySem.W.fnOf "_law_right" "_law_right" (defArgs tRight) (defBody tRight) (defScope tRight) .none kV24 dc24 pm24 an24 cd24 ct24), sl24⟩)
      (q24 : PySem.W.codeIn K cd24 "_law_right" = true) (k24 : PySem.W.keepIn K (.ref f24) = true)
    (a25 : PySem.W.nsIn K mainGlobals "law" = some (some (.ref f25))) (l25 : K.lookup f25 = some ⟨oc25, od25, .func (PySem.W.fnOf "law" "law" (defArgs tLaw) (defBody tLaw) (defScope tLaw) .none kV25 dc25 pm25 an25 cd25 ct25), sl25⟩)
      (q25 : PySem.W.codeIn K cd25 "law" = true) (k25 : PySem.W.keepIn K (.ref f25) = true)
    (t4 : K.lookup c4 = some ⟨e4, dd4, .fields vs4, sm4⟩) (v4 : vs4[11]? = some (.ref p4)) (n4 : K.lookup p4 = none)
    (t5 : K.lookup c5 = some ⟨e5, dd5, .fields vs5, sm5⟩) (v5 : vs5[11]? = some (.ref p5)) (n5 : K.lookup p5 = none)
    (t6 : K.lookup c6 = some ⟨e6, dd6, .fields vs6, sm6⟩) (v6 : vs6[11]? = some (.ref p6)) (n6 : K.lookup p6 = none)
    (z1 : PySem.W.nsIn K mainGlobals "range" = some none) (z2 : PySem.W.nsIn K mainGlobals "len" = some none) (z3 : PySem.W.nsIn K mainGlobals "list" = some none) (z4 : PySem.W.nsIn K mainGlobals "reversed" = some none) (z5 : PySem.W.nsIn K mainGlobals "tuple" = some none) (z6 : PySem.W.nsIn K mainGlobals "all" = some none) (z7 : PySem.W.nsIn K mainGlobals "sum" = some none) (z8 : PySem.W.nsIn K mainGlobals "isinstance" = some none) (z9 : PySem.W.nsIn K mainGlobals "bool" = some none) :
    LamX.LawAtS l w K CX0 21 63 "_law_script" mg fa h := by
  have e := hfa.symm.trans (PySem.W.mg_of X G a25)
  cases e
  have F1 := fun_mk (st := tWithin) l1 q1 k1
  have b1 := F1.binds (ps := ["kind"]) fun _ _ _ _ _ _ us hl => match us, hl with | [_], _ => rfl
  have g1 := PySem.W.mg_of X G a1
  have F2 := fun_mk (st := tLeads) l2 q2 k2
  have b2 := F2.binds (ps := ["kind"]) fun _ _ _ _ _ _ us hl => match us, hl with | [_], _ => rfl
  have g2 := PySem.W.mg_of X G a2
  have F3 := fun_mk (st := tParts) l3 q3 k3
  have b3 := F3.binds (ps := ["kind"]) fun _ _ _ _ _ _ us hl => match us, hl with | [_], _ => rfl
  have g3 := PySem.W.mg_of X G a3
  have F4 := fun_mk (st := tSmall) l4 q4 k4
  have b4 := F4.binds (ps := ["kind"]) fun _ _ _ _ _ _ us hl => match us, hl with | [_], _ => rfl
  have g4 := PySem.W.mg_of X G a4
  have F5 := fun_mk (st := tHanded) l5 q5 k5
  have b5 := F5.binds (ps := ["kind"]) fun _ _ _ _ _ _ us hl => match us, hl with | [_], _ => rfl
  have g5 := PySem.W.mg_of X G a5
  have F6 := fun_mk (st := tWalked) l6 q6 k6
  have b6 := F6.binds (ps := ["kind"]) fun _ _ _ _ _ _ us hl => match us, hl with | [_], _ => rfl
  have g6 := PySem.W.mg_of X G a6
  have F7 := fun_mk (st := tArgs) l7 q7 k7
  have b7 := F7.binds (ps := ["kind"]) fun _ _ _ _ _ _ us hl => match us, hl with | [_], _ => rfl
  have g7 := PySem.W.mg_of X G a7
  have F8 := fun_mk (st := tDeck) l8 q8 k8
  have b8 := F8.binds (ps := ["_law_script"]) fun _ _ _ _ _ _ us hl => match us, hl with | [_], _ => rfl
  have g8 := PySem.W.mg_of X G a8
  have F9 := fun_mk (st := tMixed) l9 q9 k9
  have b9 := F9.binds (ps := ["_law_cell", "_law_k"]) fun _ _ _ _ _ _ us hl => match us, hl with | [_, _], _ => rfl
  have g9 := PySem.W.mg_of X G a9
  have F10 := fun_mk (st := tDraw) l10 q10 k10
  have b10 := F10.binds (ps := ["_law_deck_here", "_law_most"]) fun _ _ _ _ _ _ us hl => match us, hl with | [_, _], _ => rfl
  have g10 := PySem.W.mg_of X G a10
  have F11 := fun_mk (st := tNames) l11 q11 k11
  have b11 := F11.binds (ps := ["_law_deck_here", "_law_many"]) fun _ _ _ _ _ _ us hl => match us, hl with | [_, _], _ => rfl
  have g11 := PySem.W.mg_of X G a11
  have F12 := fun_mk (st := tData) l12 q12 k12
  have b12 := F12.binds (ps := psData) fun _ _ _ _ _ _ us hl => match us, hl with | [_, _, _], _ => rfl
  have g12 := PySem.W.mg_of X G a12
  have F13 := fun_mk (st := tSml) l13 q13 k13
  have b13 := F13.binds (ps := psData) fun _ _ _ _ _ _ us hl => match us, hl with | [_, _, _], _ => rfl
  have g13 := PySem.W.mg_of X G a13
  have F14 := fun_mk (st := tLed) l14 q14 k14
  have b14 := F14.binds (ps := ["_law_arguments_here", "_law_result"]) fun _ _ _ _ _ _ us hl => match us, hl with | [_, _], _ => rfl
  have g14 := PySem.W.mg_of X G a14
  have F15 := fun_mk (st := tWords) l15 q15 k15
  have b15 := F15.binds (ps := ["_law_kind"]) fun _ _ _ _ _ _ us hl => match us, hl with | [_], _ => rfl
  have g15 := PySem.W.mg_of X G a15
  have F16 := fun_mk (st := tLSmall) l16 q16 k16
  have b16 := F16.binds (ps := ["_law_kind"]) fun _ _ _ _ _ _ us hl => match us, hl with | [_], _ => rfl
  have g16 := PySem.W.mg_of X G a16
  have F17 := fun_mk (st := tLArgs) l17 q17 k17
  have b17 := F17.binds (ps := ["_law_kind"]) fun _ _ _ _ _ _ us hl => match us, hl with | [_], _ => rfl
  have g17 := PySem.W.mg_of X G a17
  have F18 := fun_mk (st := tLHanded) l18 q18 k18
  have b18 := F18.binds (ps := ["_law_kind"]) fun _ _ _ _ _ _ us hl => match us, hl with | [_], _ => rfl
  have g18 := PySem.W.mg_of X G a18
  have F19 := fun_mk (st := tLWalked) l19 q19 k19
  have b19 := F19.binds (ps := ["_law_kind"]) fun _ _ _ _ _ _ us hl => match us, hl with | [_], _ => rfl
  have g19 := PySem.W.mg_of X G a19
  have F20 := fun_mk (st := tPut) l20 q20 k20
  have b20 := F20.binds (ps := psPut) fun _ _ _ _ _ _ us hl => match us, hl with | [_, _, _], _ => rfl
  have g20 := PySem.W.mg_of X G a20
  have F21 := fun_mk (st := tFirst) l21 q21 k21
  have b21 := F21.binds (ps := psFirst) fun _ _ _ _ _ _ us hl => match us, hl with | [_, _, _], _ => rfl
  have g21 := PySem.W.mg_of X G a21
  have F22 := fun_mk (st := tTold) l22 q22 k22
  have b22 := F22.binds (ps := psTold) fun _ _ _ _ _ _ us hl => match us, hl with | [_, _, _, _], _ => rfl
  have g22 := PySem.W.mg_of X G a22
  have F23 := fun_mk (st := tLParts) l23 q23 k23
  have b23 := F23.binds (ps := ["_law_kind"]) fun _ _ _ _ _ _ us hl => match us, hl with | [_], _ => rfl
  have g23 := PySem.W.mg_of X G a23
  have F24 := fun_mk (st := tRight) l24 q24 k24
  have b24 := F24.binds (ps := ["_law_kind"]) fun _ _ _ _ _ _ us hl => match us, hl with | [_], _ => rfl
  have g24 := PySem.W.mg_of X G a24
  have F25 := fun_mk (st := tLaw) l25 q25 k25
  have m1 := PySem.W.mg_none_of X G z1
  have m2 := PySem.W.mg_none_of X G z2
  have m3 := PySem.W.mg_none_of X G z3
  have m4 := PySem.W.mg_none_of X G z4
  have m5 := PySem.W.mg_none_of X G z5
  have m6 := PySem.W.mg_none_of X G z6
  have m7 := PySem.W.mg_none_of X G z7
  have m8 := PySem.W.mg_none_of X G z8
  have m9 := PySem.W.mg_none_of X G z9
  have C4 := Kg.funC_mk (st := tSmall) l4 q4
  obtain ⟨h4, hc4⟩ := Kg.tabOf_at X (TT "is_small" (by simp)) g4 l4 t4 v4
  have C5 := Kg.funC_mk (st := tHanded) l5 q5
  obtain ⟨h5, hc5⟩ := Kg.tabOf_at X (TT "is_handed" (by simp)) g5 l5 t5 v5
  have C6 := Kg.funC_mk (st := tWalked) l6 q6
  obtain ⟨h6, hc6⟩ := Kg.tabOf_at X (TT "is_walked" (by simp)) g6 l6 t6 v6
  refine ⟨PySem.W.fnOf "law" "law" (defArgs tLaw) (defBody tLaw) (defScope tLaw) .none kV25 dc25 pm25 an25 cd25 ct25, [(c4, p4), (c5, p5), (c6, p6)], spLaw K [p4, p5, p6], ?T, ?N, ?C, fun s v => .of_eq rfl, fun H a ns hl _ hH hS => ⟨a, ns, rfl, hS, hl, ?S, fun _ => rfl⟩, fun base _ _ TB => ?_⟩
  case T =>
    intro p hp
    rcases List.mem_cons.mp hp with e | hp
    · rw [e]; exact h4
    rcases List.mem_cons.mp hp with e | hp
    · rw [e]; exact h5
    · rw [List.mem_singleton.mp hp]; exact h6
  case N =>
    intro p hp
    rcases List.mem_cons.mp hp with e | hp
    · rw [e]; exact n4
    rcases List.mem_cons.mp hp with e | hp
    · rw [e]; exact n5
    · rw [List.mem_singleton.mp hp]; exact n6
  case C =>
    intro p hp
    rcases List.mem_cons.mp hp with e | hp
    · rw [e]; exact hc4
    rcases List.mem_cons.mp hp with e | hp
    · rw [e]; exact hc5
    · rw [List.mem_singleton.mp hp]; exact hc6
  case S =>
    intro p hp
    have q : ∀ p ∈ [p4, p5, p6], H p = some (.tbl #[]) := fun p hp => by
      rcases List.mem_cons.mp hp with e | hp
      · rw [e]; exact hH (c4, p4) (by simp)
      rcases List.mem_cons.mp hp with e | hp
      · rw [e]; exact hH (c5, p5) (by simp)
      · rw [List.mem_singleton.mp hp]; exact hH (c6, p6) (by simp)
    exact ⟨#[], q p hp, True.intro⟩

  have T4 := tabX (TB (c4, p4) (by simp))
  have M4 : p4 ∈ [p4, p5, p6] := by simp
  have T5 := tabX (TB (c5, p5) (by simp))
  have M5 : p5 ∈ [p4, p5, p6] := by simp
  have T6 := tabX (TB (c6, p6) (by simp))
  have M6 : p6 ∈ [p4, p5, p6] := by simp
  have D0 : ∀ k, FnOk l.prog w K mg base CX0 (k + 2) f10 _ ["_law_deck_here", "_law_most"] spDraw := fun k => okDraw F10 F9 b9 g9
  have bD := b10
  have gD := g10
  have kD := k10
  have A0 : ∀ k, FnOk l.prog w K mg base CX0 (k + 2) f7 _ ["kind"] spArgs := fun k => okArgs F7 F2 b2 g2 m5
  have L0 : ∀ k, FnOk l.prog w K mg base CX0 (k + 1) f2 _ ["kind"] spLeads := fun k => okLeads F2
  have P0 : ∀ k, FnOk l.prog w K mg base CX0 (k + 2) f3 _ ["kind"] spParts := fun k => okParts F3 F1 b1 g1
  have S0 : ∀ k, FnOk l.prog w K mg base CX0 (k + 3) f4 _ ["kind"] (spSmall [p4, p5, p6]) := fun k => okSmall C4 T4 M4 (P0 k) b3 g3 k3 m6
  have H0 : ∀ k, FnOk l.prog w K mg base CX0 (k + 7) f5 _ ["kind"] (spHanded [p4, p5, p6]) := fun k => okHanded C5 T5 M5 (L0 (k + 5)) b2 g2 k2 (A0 (k + 4)) b7 g7 k7 (S0 k) b4 g4 k4 m6
  have W0 : FnOk l.prog w K mg base CX0 19 f6 _ ["kind"] (spWalked [p4, p5, p6]) := okWalked (k := 8) C6 T6 M6 (L0 14) b2 g2 k2 (A0 13) b7 g7 k7 (H0 8) b5 g5 k5 m6
  have LS := okLSmall (P := l.prog) (w := w) (base := base) (n := 15) F16 (okWords F15 b15 g15 m8 m5 15) b15 g15 k15
  have LA : ∀ k, FnOk l.prog w K mg base CX0 (k + 1) f17 _ ["_law_kind"] spLArgs := fun k => okLArgs F17
  have LH : ∀ k, FnOk l.prog w K mg base CX0 (k + 18) f18 _ ["_law_kind"] spLHanded := fun k => okLHanded F18 (LA (k + 16)) b17 g17 k17 LS b16 g16 k16
  have LW := okLWalked (P := l.prog) (w := w) (base := base) (k := 0) F19 (LA 17) b17 g17 k17 (LH 0) b18 g18 k18
  have R0 := okRight (P := l.prog) (w := w) (base := base) (T := [p4, p5, p6]) F24 (S0 16) b4 g4 k4 (H0 12) b5 g5 k5 W0 b6 g6 k6
    LS b16 g16 k16 (LH 1) b18 g18 k18 LW b19 g19 k19 m1 m8 m9
  have DA := okData (P := l.prog) (w := w) (base := base) F12 b12 g12 F10 bD gD F9 b9 g9 m2 4
  have SA := okSml (P := l.prog) (w := w) (base := base) F13 b13 g13 F10 bD gD F9 b9 g9 m2 4
  have PU := okPut (P := l.prog) (w := w) (base := base) F20 b20 g20 F10 bD gD F9 b9 g9 m2 4
  have FI := okFirst (P := l.prog) (w := w) (base := base) F21 (D0 4) bD gD kD SA b13 g13 k13 DA b12 g12 k12 (okLed (k := 5) F14 m4) b14 g14 k14 PU b20 g20 k20 m1 m2
  have TO := okTold (P := l.prog) (w := w) (base := base) F22 (D0 5) bD gD kD FI b21 g21 k21 DA b12 g12 k12 (okLed (k := 6) F14 m4) b14 g14 k14 m1
  exact okLaw F25 (okDeck (k := 19) F8 m3 m4) b8 g8 k8 (D0 18) bD gD kD (okNames (k := 17) F11 (D0 17) bD gD kD m3 m1) b11 g11 k11 SA b13 g13 k13 DA b12 g12 k12
    FI b21 g21 k21 TO b22 g22 k22 (okLParts F23 b23 g23 m7 m8 m5 16) b23 g23 k23 R0 b24 g24 k24 m1
end Kq
open PySem PySem.W PyProof.Rows
set_option maxRecDepth 100000 in
set_option maxHeartbeats 0 in
theorem PySem.Challenge.cw_kindalone_k02_small_handed_walked_holds : PySem.Challenge.rw_kindalone_k02_small_handed_walked.Holds := by
  w_on; o_law; k_head; (case hw => w_witness2)
  k_fill
  refine Kg.walk_ofNs (l := PySem.Challenge.rw_kindalone_k02_small_handed_walked) (n := 63) (k := 21) (x := "_law_script") (CX := fun _ => L2.CX0) ["is_small", "is_handed", "is_walked"] rfl (by decide) rfl ⟨rfl, by decide, by decide⟩ (by decide +kernel) (fun w h Y => PySem.W.kIn_of Y) ?F (fun _ _ _ _ _ h => h)
  case F =>
    intro w mg fa h Y KX G hmg TT
    refine' Kq.all_mk KX G hmg TT ?a1 ?l1 ?q1 ?k1 ?a2 ?l2 ?q2 ?k2 ?a3 ?l3 ?q3 ?k3 ?a4 ?l4 ?q4 ?k4 ?a5 ?l5 ?q5 ?k5 ?a6 ?l6 ?q6 ?k6 ?a7 ?l7 ?q7 ?k7 ?a8 ?l8 ?q8 ?k8 ?a9 ?l9 ?q9 ?k9 ?a10 ?l10 ?q10 ?k10 ?a11 ?l11 ?q11 ?k11 ?a12 ?l12 ?q12 ?k12 ?a13 ?l13 ?q13 ?k13 ?a14 ?l14 ?q14 ?k14 ?a15 ?l15 ?q15 ?k15 ?a16 ?l16 ?q16 ?k16 ?a17 ?l17 ?q17 ?k17 ?a18 ?l18 ?q18 ?k18 ?a19 ?l19 ?q19 ?k19 ?a20 ?l20 ?q20 ?k20 ?a21 ?l21 ?q21 ?k21 ?a22 ?l22 ?q22 ?k22 ?a23 ?l23 ?q23 ?k23 ?a24 ?l24 ?q24 ?k24 ?a25 ?l25 ?q25 ?k25 ?t4 ?v4 ?n4 ?t5 ?v5 ?n5 ?t6 ?v6 ?n6 ?z1 ?z2 ?z3 ?z4 ?z5 ?z6 ?z7 ?z8 ?z9
    (case a1 => k_is); (case l1 => k_is); (case q1 => k_is); (case k1 => k_is)
    (case a2 => k_is); (case l2 => k_is); (case q2 => k_is); (case k2 => k_is)
    (case a3 => k_is); (case l3 => k_is); (case q3 => k_is); (case k3 => k_is)
    (case a4 => k_is); (case l4 => k_is); (case q4 => k_is); (case k4 => k_is)
    (case a5 => k_is); (case l5 => k_is); (case q5 => k_is); (case k5 => k_is)
    (case a6 => k_is); (case l6 => k_is); (case q6 => k_is); (case k6 => k_is)
    (case a7 => k_is); (case l7 => k_is); (case q7 => k_is); (case k7 => k_is)
    (case a8 => k_is); (case l8 => k_is); (case q8 => k_is); (case k8 => k_is)
    (case a9 => k_is); (case l9 => k_is); (case q9 => k_is); (case k9 => k_is)
    (case a10 => k_is); (case l10 => k_is); (case q10 => k_is); (case k10 => k_is)
    (case a11 => k_is); (case l11 => k_is); (case q11 => k_is); (case k11 => k_is)
    (case a12 => k_is); (case l12 => k_is); (case q12 => k_is); (case k12 => k_is)
    (case a13 => k_is); (case l13 => k_is); (case q13 => k_is); (case k13 => k_is)
    (case a14 => k_is); (case l14 => k_is); (case q14 => k_is); (case k14 => k_is)
    (case a15 => k_is); (case l15 => k_is); (case q15 => k_is); (case k15 => k_is)
    (case a16 => k_is); (case l16 => k_is); (case q16 => k_is); (case k16 => k_is)
    (case a17 => k_is); (case l17 => k_is); (case q17 => k_is); (case k17 => k_is)
    (case a18 => k_is); (case l18 => k_is); (case q18 => k_is); (case k18 => k_is)
    (case a19 => k_is); (case l19 => k_is); (case q19 => k_is); (case k19 => k_is)
    (case a20 => k_is); (case l20 => k_is); (case q20 => k_is); (case k20 => k_is)
    (case a21 => k_is); (case l21 => k_is); (case q21 => k_is); (case k21 => k_is)
    (case a22 => k_is); (case l22 => k_is); (case q22 => k_is); (case k22 => k_is)
    (case a23 => k_is); (case l23 => k_is); (case q23 => k_is); (case k23 => k_is)
    (case a24 => k_is); (case l24 => k_is); (case q24 => k_is); (case k24 => k_is)
    (case a25 => k_is); (case l25 => k_is); (case q25 => k_is); (case k25 => k_is)
    (case t4 => k_is); (case v4 => rfl); (case n4 => rfl)
    (case t5 => k_is); (case v5 => rfl); (case n5 => rfl)
    (case t6 => k_is); (case v6 => rfl); (case n6 => rfl)
    (case z1 => k_is); (case z2 => k_is); (case z3 => k_is); (case z4 => k_is); (case z5 => k_is); (case z6 => k_is); (case z7 => k_is); (case z8 => k_is); (case z9 => k_is)
